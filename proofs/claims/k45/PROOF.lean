import PyProof.Rows.All
import Wide.All
import OpenK.AllK
import Wide.FinOn
import KE.KExcSuper
import HandS.ForMost
import HandS.ExcInit
import HandS.HeadWalk
import HandS.ExcField
import HandS.ExcIs
import HandS.ExcValue
import HandS.IsInst
import HandS.EndBits
import HandS.Defaults
import HandS.Iter
import HandS.DictComp
import HandS.Conv
import HandS.AnyAll
import HandS.GenOver
import HandS.GenList
import HandS.Walk
import KE.DataMinMax
import HandS.DictTup
import HandS.Star
import PyProof.DictMoreH
import HandS.TryMany
import PyProof.Rows.TupDisplay
import HandS.Style
import HandS.RaiseMore
import HandS.EndTab
import PySem.Challenge.RW_slideinto_k45_whole_steps_judged
import HandS.SortRule
import HandS.TupSets
import HandS.TupLen
import KE.SortData
import HandS.Deep
import KE.KDictWalk
import KE.GoesEnum
import HandS.SortKw
import HandS.Rev
import PyProof.ReprLen
import HandS.WordsExc
import HandS.Words
import HandS.HeadHook1
import HandS.HeadHook2
import HandS.HeadHook3
import HandS.HeadHook4
import KE.KStateDown
import Lean
import HandS.Head0
import HandS.Head1
import HandS.Head2
import HandS.HeadEnd
import HandS.NestedK
set_option Elab.async false
set_option linter.all false
set_option maxRecDepth 100000
set_option maxHeartbeats 4000000
/-! Errors of one's own whose __init__ begins with super().__init__(text) and then keeps its parameters. -/
namespace Sq
open PySem PySem.W PySem.Calls PyProof.Rows PySem.HandSPX
/-! ### the statements of such an __init__ -/
def supS (msg : Str) (j : Nat) (p0 p1 p2 p3 p4 p5 : Pos) : Stmt :=
  .Expr (.Call (.Attribute (.Call (.Name "super" p0) [] [] p1) "__init__" p2) [.Constant (.str msg) j p3] [] p4) p5
structure Ps where
  a : Pos
  b : Pos
  c : Pos
  d : Pos
def keepS (f : Str) (p : Ps) : Stmt := .Assign [.Attribute (.Name "self" p.a) f p.b] (.Name f p.c) p.d
section
variable {prog : Program} {w : World} {A : Around} {E : Value → Shared → Prop} {h : Heap} {g : Array GenState} {d : Drawn} {t : Nat} {os : OsState}
variable {nm q : Str} {C N : Addr} {bs bm : List Value} {sn : List Str} {sub : List Value} {ab : Bool} {col : Option Bool} {dd : Option Addr} {k0 k1 k2 k3 k5 : Option Value}
/-- the bound ValueError.__init__ is called -/
theorem bw_call {u x t0 : Addr} {rest : List Value} {Q : Value → Shared → Prop}
    (hC : h.get? C = some (excClassObj nm q C N bs bm true sn sub ab col dd k0 k1 k2 k3 k5 "ValueError.__new__"))
    (he : h.get? x = some (excO C t0)) (hu : h.get? u = some (kxs_mw "ValueError.__init__" x)) (hz : rest.length ≤ sizeLine)
    (hq : ∀ h' t1, (∀ b o, b ≠ x → h.get? b = some o → h'.get? b = some o) → h'.get? x = some (excO C t1) → Q .none ⟨h', g, d, t, os⟩) :
    wpAny (model prog w) A (call (.ref u) rest) Q E ⟨h, g, d, t, os⟩ := by
  refine wpAny_call (codeAny_of_tree ?_)
  show wpAny _ A.in1 (callAny (.ref u) { pos := rest, kw := [] }) _ _ _
  simp only [callAny]
  refine wpAny_bind (wpAny_load hu ?_)
  have hm : (Value.type "method-wrapper" == Value.type "method" || Value.type "method-wrapper" == Value.type "builtin_function_or_method" || Value.type "method-wrapper" == Value.type "method-wrapper") = true := by decide
  simp only [kxs_mw, hm, if_true]
  refine KFB.if_so (by decide) ?_
  refine wpAny_bind (check_bound_init F.excBase_ValueError.toExcCallFacts hC he rfl ?_)
  refine wpAny_bind (wpAny_pure (wpAny_pure ?_))
  refine ⟨plainId_quiet F.excBase_ValueError.init.plain _, codeAny_builtin F.excBase_ValueError.initEntry ?_⟩
  exact exc_init_tree (cls := .ref C) (t0 := t0) (dv := none) (c2 := .none) (c3 := .none) (b4 := .bool false) he hz fun h' k e' _ => hq h' _ k e'
end
/-- what the written part says of such a class C and of its __init__ at fI; ns: its parameters behind self, kept as fields -/
structure SErr (prog : Program) (K : Frag) (C fI : Addr) (ns : List Str) : Prop where
  cls : ∃ nm q N bs bm sn sub ab col dd k0 k1 k2 k3 k5, K.lookup C = some (excClassObj nm q C N bs bm true sn sub ab col dd k0 k1 k2 k3 k5 "ValueError.__new__") ∧ refsVE bm = true ∧
    alongIn K "__init__" bm = some (some (.builtin "ValueError.__init__"))
  sa : findIn K (.ref C) "__setattr__" = some (some (.builtin "object.__setattr__"))
  iC : findIn K (.ref C) "__init__" = some (some (.ref fI))
  tI : typeIn K (.ref fI) = some (.type "function")
  kC : keepIn K (.ref C) = true
  veC : subIn K (.ref C) (.type "ValueError") = some true
  self : mroIn K C (.ref C) = some true
  opq : nsIn K cStatics "thirdparty.any" = some none
  sup : nsIn K mainGlobals "super" = some none
  no : ∀ f ∈ ns, findIn K (.ref C) f = some none
  nd : ns.Nodup
  len : ns.length ≤ 900
  noSelf : ("self" : Str) ∉ ns
  top : (prog.main.scope.names.lookup ("super" : Str)).isSome = false
  fn : ∃ (oc : Value) (od : Option Addr) (osl : Array (Option Value)) (name qual : Str) (params : Arguments) (scope : Scope) (kV doc pm ct : Value) (an : Option Addr) (cda cc : Addr) (ar : Arg)
      (msg : Str) (j : Nat) (p0 p1 p2 p3 p4 p5 : Pos) (ps : List Ps) (ccl cl : Value) (cdd cld : Option Addr) (ccs csl : Array (Option Value)) (vs : Array Value) (tf : Tok),
    K.lookup fI = some ⟨oc, od, .func (ksFn name qual params (supS msg j p0 p1 p2 p3 p4 p5 :: (ns.zip ps).map fun z => keepS z.1 z.2) scope .none kV doc pm an (.ref cda) ct cc), osl⟩ ∧
    ns.length ≤ ps.length ∧ (params.posonlyargs ++ params.args).head? = some ar ∧ ar.arg = "self" ∧ codeIn K (.ref cda) qual = true ∧
    K.lookup cda = some ⟨ccl, cdd, .fields vs, ccs⟩ ∧ vs[2]? = some (.str prog.main.file tf) ∧ K.lookup cc = some ⟨cl, cld, .cell (some (.ref C)), csl⟩ ∧
    (∀ (s : Shared) (us : List Value), us.length = ns.length + 1 → BindsTo s (ksFn name qual params (supS msg j p0 p1 p2 p3 p4 p5 :: (ns.zip ps).map fun z => keepS z.1 z.2) scope .none kV doc pm an (.ref cda) ct cc) ⟨us, []⟩ ((("self" : Str) :: ns).zip us)) ∧
    scope.names.lookup ("super" : Str) = some .globalImplicit ∧ scope.names.lookup ("__class__" : Str) = some .free ∧ (∀ x ∈ (("self" : Str) :: ns), scope.names.lookup x = some .local) ∧
    (p2.endLine == p4.line) = true ∧ (∀ x ∈ ns, (x == ("__debug__" : Str)) = false) ∧ (∀ x ∈ scope.names, x.2 ≠ .cell) ∧ scope.isCoroutine = false ∧ scope.isGenerator = false ∧ scope.kind = .function
end Sq

set_option Elab.async false
set_option linter.all false
set_option maxRecDepth 100000
set_option maxHeartbeats 4000000
namespace Sq
open PySem PySem.W PySem.Calls PyProof.Rows PySem.HandSPX
/-- what such an __init__ leaves of a fresh error at x; fs: its fields, the last one first -/
structure InitE (h h' : Heap) (x C : Addr) (fs : List (Str × Value)) : Prop where
  keep : ∀ b o, b ≠ x → h.get? b = some o → h'.get? b = some o
  obj : ∃ t1 : Addr, (fs = [] ∧ h'.get? x = some (excO C t1)) ∨ ∃ dx : Addr, fs ≠ [] ∧ h.objs.size ≤ dx ∧ dx ≠ x ∧ h'.get? x = some ({ cls := .ref C, dict := some dx, data := .fields #[.ref t1, .none, .none, .none, .bool false, .none] } : Obj) ∧
    h'.Ns1 dx fun f => fs.lookup f
theorem lookup_one {κ : Type} [BEq κ] [LawfulBEq κ] [DecidableEq κ] {α : Type} (f g : κ) (y : α) (fs : List (κ × α)) : ((f, y) :: fs).lookup g = if g = f then some y else fs.lookup g := by
  by_cases z : g = f
  · subst z
    simp [List.lookup]
  · have e : (g == f) = false := by simpa using z
    rw [if_neg z]
    simp [List.lookup, e]
theorem lookup_within {fs : List (Str × Value)} : Within (fun f => fs.lookup f) (fs.map (·.1)) := by
  intro y hy
  induction fs with
  | nil => exact absurd rfl hy
  | cons p l ih =>
    obtain ⟨f, z⟩ := p
    by_cases e : y = f
    · rw [e]
      exact List.mem_cons_self ..
    · refine List.mem_cons_of_mem _ (ih fun q => hy ?_)
      show ((f, z) :: l).lookup y = none
      rw [lookup_one, if_neg e]
      exact q
section
variable {prog : Program} {w : World} {A : Around} {E : Value → Shared → Prop} {s : Shared} {K : Frag} {C fI : Addr} {ns : List Str} {R : Result → Shared → Prop}
/-- the rows self.f = f, one after the other -/
theorem keeps_run (T : SErr prog K C fI ns) {env : Env} {L x : Addr} {m : Str → Option Value} {h0 : Heap} (X0 : K.In h0) (hKx : K.lookup x = none) (hk : env.scope.kind = .function) (hL : env.locals = L) (hself : env.kindOf "self" = some .local)
    (mx : m "self" = some (.ref x)) (hLx : L ≠ x) :
    ∀ (zs : List (Str × Ps)) (fs : List (Str × Value)) (us : List Value) (h : Heap) (tk : Nat) (t1 : Addr) (Q : Flow → Shared → Prop), zs.length = us.length → h.Ns L m →
      (∀ (i : Nat) (z : Str × Ps), zs[i]? = some z → z.1 ∈ ns ∧ env.kindOf z.1 = some .local ∧ (z.1 == ("__debug__" : Str)) = false ∧ m z.1 = us[i]?) → fs.length + zs.length ≤ 900 →
      (∀ b o, b ≠ x → h0.get? b = some o → h.get? b = some o) →
      ((fs = [] ∧ h0.objs.size ≤ h.objs.size ∧ h.get? x = some (excO C t1)) ∨ ∃ dx : Addr, fs ≠ [] ∧ h0.objs.size ≤ dx ∧ dx ≠ x ∧ dx ≠ L ∧ h.get? x = some ({ cls := .ref C, dict := some dx, data := .fields #[.ref t1, .none, .none, .none, .bool false, .none] } : Obj) ∧ h.Ns1 dx fun f => fs.lookup f) →
      (∀ h' tk', InitE h0 h' x C (((zs.map (·.1)).zip us).reverse ++ fs) → Q .next { s with heap := h', toks := tk' }) →
      wpAny (model prog w) A (execs (zs.map fun z => keepS z.1 z.2) env) Q E { s with heap := h, toks := tk }
  | [], fs, us, h, tk, t1, Q, hl, hn, hz, h9, kp, ho, hq => by
    have e : us = [] := List.length_eq_zero_iff.mp hl.symm
    subst e
    refine wpAny_execs_nil (hq h tk ⟨kp, t1, ?_⟩)
    rcases ho with ⟨ho, _, hx⟩ | ⟨dx, d0, d1, d2, _, d4, d5⟩
    · exact .inl ⟨ho, hx⟩
    · exact .inr ⟨dx, d0, d1, d2, d4, d5⟩
  | (f, p) :: zs, fs, [], h, tk, t1, Q, hl, hn, hz, h9, kp, ho, hq => by cases hl
  | (f, p) :: zs, fs, u :: us, h, tk, t1, Q, hl, hn, hz, h9, kp, ho, hq => by
    obtain ⟨nm, q, N, bs, bm, sn, sub, ab, col, dd, k0, k1, k2, k3, k5, hC, hbm, _⟩ := T.cls
    have hcl : clsIn K C = some { name := nm, bases := bs, mro := .ref C :: bm, ns := N, qualname := q, hasDict := true, slotNames := sn, subclasses := sub, abstract := ab, collection := col, hasDel := false } := by
      unfold clsIn
      rw [hC] <;> rfl
    have X : K.In h := fun b o e => kp b o (fun z => by rw [z, hKx] at e; cases e) (X0 b o e)
    obtain ⟨hf, hloc, hdb, hm⟩ := hz 0 (f, p) rfl
    have hm' : m f = some u := hm
    have hno := T.no f hf
    have hnL : h.Ns env.locals m := by rw [hL]; exact hn
    have hz' : ∀ (i : Nat) (z : Str × Ps), zs[i]? = some z → z.1 ∈ ns ∧ env.kindOf z.1 = some .local ∧ (z.1 == ("__debug__" : Str)) = false ∧ m z.1 = us[i]? := fun i z hi => by
      have y := hz (i + 1) z (by simpa using hi)
      simpa using y
    have hl' : zs.length = us.length := by simpa using hl
    have h9' : ((f, u) :: fs).length + zs.length ≤ 900 := by
      have y : fs.length + (zs.length + 1) ≤ 900 := by simpa using h9
      show fs.length + 1 + zs.length ≤ 900
      omega
    have eqf : (((zs.map (·.1)).zip us).reverse ++ (f, u) :: fs) = (((((f, p) :: zs).map (·.1)).zip (u :: us)).reverse ++ fs) := by simp
    have efs : ∀ y, (if y = f then some u else fs.lookup y) = ((f, u) :: fs).lookup y := fun y => (lookup_one f y u fs).symm
    obtain ⟨oL, es, ep, hoL, hrL⟩ := id hn
    show wpAny _ _ (execs (keepS f p :: zs.map fun z => keepS z.1 z.2) env) _ _ _
    refine wpAny_execs_cons (plainObj_wpAny_Assign_Attribute ?_)
    refine wpAny_Name (wpAny_loadName_local hk hloc hnL hm' ?_) hdb
    refine wpAny_Name (wpAny_loadName_local hk hself hnL mx ?_) (by decide)
    rcases ho with ⟨e0, hsz, ho⟩ | ⟨dx, d0, d1, d2, d3, d4, d5⟩
    · subst e0
      refine set_plain X (ox := excO C t1) (od := none) ⟨ho, rfl, rfl, trivial⟩ T.sa ?_
      refine exc_osa X ho hcl (show refsVE (.ref C :: bm) = true from hbm) rfl hno (fun h' tk' dx k dn dne hx hns => ?_)
      show wpAny _ _ (execs _ _) _ _ _
      have hdL : dx ≠ L := fun z => by
        rw [z] at dn
        exact absurd (Heap.lt_size hoL) (Nat.not_lt_of_le dn)
      refine keeps_run T X0 hKx hk hL hself mx hLx zs [(f, u)] us h' tk' t1 Q hl' ⟨oL, es, ep, k _ _ hLx hoL, hrL⟩ hz' h9' (fun b o hb e => k b o hb (kp b o hb e)) (.inr ⟨dx, List.cons_ne_nil _ _, Nat.le_trans hsz dn, dne, hdL, hx, ?_⟩) fun h2 tk2 Z => hq h2 tk2 (eqf ▸ Z)
      have ee : (fun y => if y = f then some u else none) = fun y => List.lookup y [(f, u)] := funext fun y => by
        rw [lookup_one]
        rfl
      rw [← ee]
      exact hns
    · obtain ⟨oD, _, _, hoD, _, _⟩ := d5.count lookup_within
      refine set_plain X (ox := { cls := .ref C, dict := some dx, data := .fields #[.ref t1, .none, .none, .none, .bool false, .none] }) (od := some oD) ⟨d4, rfl, rfl, hoD⟩ T.sa ?_
      refine PySem.OEX.osa_old X d4 d5 lookup_within (by rw [List.length_map]; have y : fs.length + (zs.length + 1) ≤ 900 := (by simpa using h9); omega) hcl (show refsVE (.ref C :: bm) = true from hbm) rfl hno (fun h' tk' k hns => ?_)
      show wpAny _ _ (execs _ _) _ _ _
      refine keeps_run T X0 hKx hk hL hself mx hLx zs ((f, u) :: fs) us h' tk' t1 Q hl' ⟨oL, es, ep, k _ _ (Ne.symm d3) hoL, hrL⟩ hz' h9' (fun b o hb e => k b o (fun z => ?_) (kp b o hb e)) (.inr ⟨dx, List.cons_ne_nil _ _, d1, d2, d3, k _ _ (Ne.symm d2) d4, ?_⟩) fun h2 tk2 Z => hq h2 tk2 (eqf ▸ Z)
      · rw [z] at e
        exact absurd (Heap.lt_size e) (Nat.not_lt_of_le d1)
      · have ee : (fun y => if y = f then some u else fs.lookup y) = fun y => List.lookup y ((f, u) :: fs) := funext efs
        rw [← ee]
        exact hns
end
end Sq

set_option Elab.async false
set_option linter.all false
set_option maxRecDepth 100000
set_option maxHeartbeats 4000000
namespace Sq
open PySem PySem.W PySem.Calls PyProof.Rows PySem.HandSPX
section
variable {prog : Program} {w : World} {A : Around} {E : Value → Shared → Prop} {s : Shared} {K : Frag} {C fI : Addr} {ns : List Str} {R : Result → Shared → Prop} {mg mb : Str → Option Value}
theorem look_rev {α : Type} : ∀ (xs : List Str) (us : List α) (i : Nat) (f : Str), xs.Nodup → xs.length ≤ us.length → xs[i]? = some f → (xs.zip us).reverse.lookup f = us[i]?
  | [], us, i, f, _, _, h => by simp at h
  | x :: xs, [], i, f, _, h, _ => by simp at h
  | x :: xs, u :: us, i, f, nd, hl, h => by
    have nd1 := List.nodup_cons.mp nd
    have ez : ((x :: xs).zip (u :: us)).reverse = (xs.zip us).reverse ++ [(x, u)] := by simp
    rw [ez, List.lookup_append]
    cases i with
    | zero =>
      have e : x = f := by simpa using h
      subst e
      have e0 : (xs.zip us).reverse.lookup x = none := by
        rw [List.lookup_eq_none_iff]
        intro p hp
        have y := List.of_mem_zip (List.mem_reverse.mp hp)
        simp only [bne_iff_ne, ne_eq]
        rintro rfl
        exact nd1.1 y.1
      rw [e0]
      simp
    | succ i =>
      have h' : xs[i]? = some f := by simpa using h
      have hl' : xs.length ≤ us.length := by simpa using hl
      have y := look_rev xs us i f nd1.2 hl' h'
      rw [y]
      have hi := (List.getElem?_eq_some_iff.mp h').1
      have e1 : us[i]? = some (us[i]'(by omega)) := List.getElem?_eq_getElem (by omega)
      simp [e1]
theorem init_run (T : SErr prog K C fI ns) {x t0 : Addr} {us : List Value} (X : K.In s.heap) (hKx : K.lookup x = none) (hG : s.heap.Ns mainGlobals mg) (hB : s.heap.Ns builtinsNs mb) (hbs : mb "super" = some (.type "super")) (hlim : s.heap.NoLimit)
    (hx : s.heap.get? x = some (excO C t0)) (hus : us.length = ns.length) (hroom : A.depth < recursionLimit)
    (hq : ∀ h' tk, InitE s.heap h' x C ((ns.zip us).reverse) → R (.ok (.ret .none)) { s with heap := h', toks := tk }) :
    codeAny (model prog w) A (.call (.ref fI) ⟨.ref x :: us, []⟩) R s := by
  obtain ⟨nm, q, N, bs, bm, sn, sub, ab, col, dd, k0, k1', k2, k3, k5, hC, hbm, hal⟩ := T.cls
  have hcl : clsIn K C = some { name := nm, bases := bs, mro := .ref C :: bm, ns := N, qualname := q, hasDict := true, slotNames := sn, subclasses := sub, abstract := ab, collection := col, hasDel := false } := by
    unfold clsIn
    rw [hC] <;> rfl
  obtain ⟨oc, od, osl, name, qual, params, scope, kV, doc, pm, ct, an, cda, cc, ar, msg, j, p0, p1, p2, p3, p4, p5, ps, ccl, cl, cdd, cld, ccs, csl, vs, tf, lk, hps, har, hars, hcd, hcda, hvs, hcc, hbind, ksup, kcls, kloc, hpl, kdb, hcell, hco, hgen, hkind⟩ := T.fn
  have hlen : (Value.ref x :: us).length = ns.length + 1 := by simp [hus]
  have hne : ∀ b o, K.lookup b = some o → b ≠ x := fun b o e z => by
    rw [z, hKx] at e
    cases e
  refine ks_codeAny_call_defAt (fd := ksFn name qual params (supS msg j p0 p1 p2 p3 p4 p5 :: (ns.zip ps).map fun z => keepS z.1 z.2) scope .none kV doc pm an (.ref cda) ct cc) (binds := (("self" : Str) :: ns).zip (.ref x :: us)) hroom (X _ _ lk) rfl hlim (codeRec_of X hcd) rfl (hbind s (.ref x :: us) hlen) hcell (fun y hy => kloc _ (List.of_mem_zip hy).1) (fun h0 hns hk0 => ?_) hco hgen hkind
  show PySem.wpAt (model prog w) (A.deeper (ksEnv qual scope s.heap.objs.size fI (.ref cda) cc)) (.func (supS msg j p0 p1 p2 p3 p4 p5 :: (ns.zip ps).map fun z => keepS z.1 z.2) (ksEnv qual scope s.heap.objs.size fI (.ref cda) cc))
    (execs (supS msg j p0 p1 p2 p3 p4 p5 :: (ns.zip ps).map fun z => keepS z.1 z.2) (ksEnv qual scope s.heap.objs.size fI (.ref cda) cc)) _ _ _
  have hxL : s.heap.objs.size ≠ x := Nat.ne_of_gt (Heap.lt_size hx)
  have hx0 := hk0 _ _ hx
  have mself : ((("self" : Str) :: ns).zip (Value.ref x :: us)).reverse.lookup ("self" : Str) = some (.ref x) :=
    look_rev (("self" : Str) :: ns) (Value.ref x :: us) 0 "self" (List.nodup_cons.mpr ⟨T.noSelf, T.nd⟩) (by simp [hus]) rfl
  have mns : ∀ (i : Nat) (f : Str), ns[i]? = some f → ((("self" : Str) :: ns).zip (Value.ref x :: us)).reverse.lookup f = us[i]? := fun i f hf =>
    look_rev (("self" : Str) :: ns) (Value.ref x :: us) (i + 1) f (List.nodup_cons.mpr ⟨T.noSelf, T.nd⟩) (by simp [hus]) (by simpa using hf)
  refine ks_wpAt_execs_cons ?_
  show PySem.wpAt _ _ _ (exec (.Expr (.Call (.Attribute (.Call (.Name "super" p0) [] [] p1) "__init__" p2) [.Constant (.str msg) j p3] [] p4) p5) (ksEnv qual scope s.heap.objs.size fI (.ref cda) cc)) _ _ _
  have hint : interactive (ksEnv qual scope s.heap.objs.size fI (.ref cda) cc) = false := by
    show (scope.kind == .module && _) = false
    rw [hkind]
    rfl
  refine ks_wpAt_Expr_any ?_ hint
  have he : eval (.Call (.Attribute (.Call (.Name "super" p0) [] [] p1) "__init__" p2) [.Constant (.str msg) j p3] [] p4) (ksEnv qual scope s.heap.objs.size fI (.ref cda) cc) = (do
      let ov ← attributeBase (.Call (.Name "super" p0) [] [] p1) "__init__" (ksEnv qual scope s.heap.objs.size fI (.ref cda) cc) (eval (.Call (.Name "super" p0) [] [] p1) (ksEnv qual scope s.heap.objs.size fI (.ref cda) cc))
      standAt p2.atName
      let (f, first) ← holding [ov] (getMethod ov "__init__" (L2.plainOf (.Call (.Name "super" p0) [] [] p1) (ksEnv qual scope s.heap.objs.size fI (.ref cda) cc)))
      callWith p4 f first (backTo p4 (starEach [.Constant (.str msg) j p3] (ksEnv qual scope s.heap.objs.size fI (.ref cda) cc))) []) := by
    rw [arm_eval_Call]
    refine congrArg (fun k => attributeBase (.Call (.Name "super" p0) [] [] p1) "__init__" (ksEnv qual scope s.heap.objs.size fI (.ref cda) cc) (eval (.Call (.Name "super" p0) [] [] p1) (ksEnv qual scope s.heap.objs.size fI (.ref cda) cc)) >>= k) (funext fun ov => ?_)
    exact congrArg (fun k => standAt p2.atName >>= fun _ => k) (L2.mcall_line (by rfl) hpl)
  refine ks_wpAt_MethodCall ?_ he
  obtain ⟨oC, hoC, hdC⟩ : ∃ oC, s.heap.get? C = some oC ∧ oC.data = .cls { name := nm, bases := bs, mro := .ref C :: bm, ns := N, qualname := q, hasDict := true, slotNames := sn, subclasses := sub, abstract := ab, collection := col, hasDel := false } := ⟨_, X _ _ hC, rfl⟩
  have X0 : K.In h0 := fun b o e => hk0 b o (X b o e)
  have I0 : InstAt h0 x (excO C t0) C none := ⟨hx0, rfl, rfl, trivial⟩
  refine ks_wpAt_super_base (env := ksEnv qual scope s.heap.objs.size fI (.ref cda) cc) ksup kcls (by decide) rfl (X0 _ _ lk) rfl har rfl (X0 _ _ hcda) rfl hvs (by simp) T.top ?_
  refine ks_loadName_global hkind ksup (loadGlobal_builtin (env := ksEnv qual scope s.heap.objs.size fI (.ref cda) cc) (hG.keeps hk0) (mg_none_of X hG T.sup) (hB.keeps hk0) hbs ⟨rfl, ?_⟩)
  refine wpAny_loadName_free (env := ksEnv qual scope s.heap.objs.size fI (.ref cda) cc) hkind kcls rfl ⟨_, X0 _ _ hcc, rfl⟩ ?_
  rw [hars]
  refine wpAny_loadName_local (env := ksEnv qual scope s.heap.objs.size fI (.ref cda) cc) hkind (kloc _ (List.mem_cons_self ..)) hns mself ?_
  refine ks_wpAny_isType_cls (hk0 _ _ hoC) hdC ⟨rfl, ?_⟩
  refine ks_wpAny_call_super (hk0 _ _ hoC) hdC hx0 rfl (fun c z => by cases z) (looks_mroIn X0 T.self) (fun h1 e1 k1 => ?_)
  have X1 : K.In h1 := fun b o e => k1 b o (X0 b o e)
  have hx1 := k1 _ _ hx0
  have I1 : InstAt h1 x (excO C t0) C none := ⟨hx1, rfl, rfl, trivial⟩
  have hI : Looks (model prog w) h1 (isInstance (.ref x) (.type "ValueError")) true := I1.type.andThen (looks_subIn X1 T.veC)
  have hmro : Looks (model prog w) h1 (mroOf (.ref C)) (.ref C :: bm) := (looks_clsIn X1 hcl).andThen .now
  have hdrop : ((Value.ref C :: bm).dropWhile (· != .ref C)).drop 1 = bm := by simp [List.dropWhile_cons]
  refine kxs_getMethod (D := C) kxs_ValueError e1 (looks_opaque X1 T.opq) hmro hdrop X1 hal hI (ks_ne X1 I1 hcl) (by decide) ?_
  have kk : ∀ b o, h0.get? b = some o → (h1.push (kxs_mw "ValueError.__init__" x)).get? b = some o := fun b o e => Heap.get?_push_of_some _ (k1 b o e)
  have hu : (h1.push (kxs_mw "ValueError.__init__" x)).get? h1.objs.size = some (kxs_mw "ValueError.__init__" x) := Heap.get?_push_at rfl rfl
  refine kxs_callWith (i := "ValueError.__init__") (x := x) (by rfl) ?_
  refine evalArgs_plain (spliced_cons ?_)
  show wpAny _ _ (eval (.Constant (.str msg) j p3) (ksEnv qual scope s.heap.objs.size fI (.ref cda) cc)) _ _ _
  refine Constant_str ?_
  refine spliced_nil ⟨hu, ?_⟩
  have hC2 : (h1.push (kxs_mw "ValueError.__init__" x)).get? C = some (excClassObj nm q C N bs bm true sn sub ab col dd k0 k1' k2 k3 k5 "ValueError.__new__") := kk _ _ (hk0 _ _ (X _ _ hC))
  refine bw_call hC2 (kk _ _ hx0) hu (by rw [sizeLine_eq]; exact (by decide : 1 ≤ 16777216)) (fun h2 t1 k2' e2 => ?_)
  refine wpAt_of_wpAny ?_
  have hlz : (ns.zip ps).length = us.length := by rw [List.length_zip, hus]; omega
  obtain ⟨oL, es, ep, hoL, hrL⟩ := id hns
  have hsz : s.heap.objs.size < h0.objs.size := Heap.lt_size hoL
  refine keeps_run (s := s) (x := x) (L := s.heap.objs.size) (h0 := s.heap) T X hKx (env := ksEnv qual scope s.heap.objs.size fI (.ref cda) cc) hkind rfl (kloc _ (List.mem_cons_self ..)) mself hxL (ns.zip ps) [] us h2 _ t1 _ hlz ⟨oL, es, ep, k2' _ _ hxL (kk _ _ hoL), hrL⟩ (fun i z hz => ?_) ?_ (fun b o hb e => k2' b o hb (kk b o (hk0 b o e))) (.inl ⟨rfl, ?_, e2⟩) fun h' tk' Z => ?_
  · have z1 : ns[i]? = some z.1 := by
      have y := congrArg (Option.map Prod.fst) hz
      rw [List.getElem?_zip_eq_some.mp hz |>.1]
    have hm := List.mem_of_getElem? z1
    exact ⟨hm, kloc _ (List.mem_cons_of_mem _ hm), kdb _ hm, mns i z.1 z1⟩
  · have := T.len
    rw [hlz, hus]
    show 0 + ns.length ≤ 900
    omega
  · exact Nat.le_of_lt (Heap.lt_size (k2' _ _ hxL (kk _ _ hoL)))
  · have ez : ((ns.zip ps).map (·.1)) = ns := by
      rw [List.map_fst_zip]
      omega
    rw [ez, List.append_nil] at Z
    exact hq h' tk' Z
end
end Sq

set_option Elab.async false
set_option linter.all false
set_option maxRecDepth 100000
set_option maxHeartbeats 4000000
/-! Such errors as values: made, their fields read, isinstance of them. -/
namespace Sq
open PySem PySem.Spec PyProof.Rows L2
section
variable {fs ex : List Addr} {H : Hp} {h h' : Heap} {a b : Addr} {o u : HO}
theorem un_two (k : ∀ c v, h.get? c = some v → h'.get? c = some v) (h1 : h.objs.size ≤ a) (h2 : h.objs.size ≤ b) (n1 : H a = none) (n2 : H b = none) : Un fs ex H (upd (upd H b u) a o) h h' where
  keep := fun c v q _ _ _ => k c v q
  slot := fun c v q _ _ _ => ⟨v.slots, k c v q⟩
  free := fun c v q n _ => by
    have l := Heap.lt_size q
    rw [upd_ne (Nat.ne_of_lt (Nat.lt_of_lt_of_le l h1)), upd_ne (Nat.ne_of_lt (Nat.lt_of_lt_of_le l h2))]
    exact n
  there := fun c v q _ => ⟨v, k c v q⟩
  tups := fun c xs q => by
    rw [upd_ne (ne_of_none q n1), upd_ne (ne_of_none q n2)]
    exact q
  frzs := fun c v xs q => by
    rw [upd_ne (ne_of_none q n1), upd_ne (ne_of_none q n2)]
    exact q
  tbls := fun c ps q => ⟨#[], by rw [upd_ne (ne_of_none q n1), upd_ne (ne_of_none q n2), q]; simp⟩
end
theorem zip_rel : ∀ (ns : List Str) {vs : List V} {us : List Value}, Vals vs us → ∀ f, RelO ((ns.zip vs).lookup f) ((ns.zip us).lookup f)
  | [], _, _, _, _ => True.intro
  | n :: ns, _, _, .nil, _ => True.intro
  | n :: ns, _, _, .cons r t, f => by
    rw [List.zip_cons_cons, List.zip_cons_cons, lookup_one, lookup_one]
    by_cases e : f = n
    · rw [if_pos e, if_pos e]
      exact r
    · rw [if_neg e, if_neg e]
      exact zip_rel ns t f
theorem rev_rel : ∀ (ns : List Str) {vs : List V} {us : List Value}, Vals vs us → ∀ f, RelO ((ns.zip vs).reverse.lookup f) ((ns.zip us).reverse.lookup f)
  | [], _, _, _, _ => True.intro
  | n :: ns, _, _, .nil, _ => True.intro
  | n :: ns, _ :: vs, _ :: us, .cons (a := x) (b := y) r t, f => by
    rw [List.zip_cons_cons, List.zip_cons_cons, List.reverse_cons, List.reverse_cons, List.lookup_append, List.lookup_append]
    have q := rev_rel ns t f
    cases e1 : (ns.zip vs).reverse.lookup f with
    | some v =>
      rw [e1] at q
      cases e2 : (ns.zip us).reverse.lookup f with
      | some v' =>
        rw [e2] at q
        exact q
      | none =>
        rw [e2] at q
        exact q.elim
    | none =>
      rw [e1] at q
      cases e2 : (ns.zip us).reverse.lookup f with
      | some v' =>
        rw [e2] at q
        exact q.elim
      | none =>
        rw [Option.none_or, Option.none_or, lookup_one, lookup_one]
        by_cases e : f = n
        · rw [if_pos e, if_pos e]
          exact r
        · rw [if_neg e, if_neg e]
          exact True.intro
/-- C(e, ..) as a value -/
structure errPost (C : Addr) (ns : List Str) (vs : List V) (H : Hp) (Q : VK) : Prop where
  len : vs.length = ns.length
  go : ∀ a, H a = none → (ns = [] → Q (.ref a) (upd H a (exo a C none))) ∧ (ns ≠ [] → ∀ d, H d = none → d ≠ a → Q (.ref a) (upd (upd H d (exd d (ns.zip vs).reverse)) a (exo a C (some d))))
def tErr (C : Addr) (ns : List Str) (ta : TA) : TE := fun σ H Q => ta σ H fun vs H1 => errPost C ns vs H1 Q
section
variable {X : Cx} {pins : List (Addr × Obj)} {σ : L2.St} {H : Hp} {s : Shared} {C fI : Addr} {ns : List Str}
theorem call_err (T : SErr X.prog X.K C fI ns) (hr : Room 1 X.A) {us : List Value} {vs : List V} {Q : VK} (I : Inv X pins σ H s) (r : Vals vs us) (h : errPost C ns vs H Q) :
    wpAny (model X.prog X.w) X.A (call (.ref C) us) (EP X pins σ Q) X.xe s := by
  obtain ⟨hl, h⟩ := h
  obtain ⟨nm, q, N, bs, bm, sn, sub, ab, col, dd, k0, k1, k2, k3, k5, hC, hbm, _⟩ := T.cls
  obtain ⟨mb, hmb, hbb⟩ := I.mod.blt
  have hlim := I.nolimit
  have hul : us.length = ns.length := by rw [← r.length]; exact hl
  have hdp := hr.dp
  obtain ⟨hp, g, dr, tk, os⟩ := s
  have kk : ∀ b o, hp.get? b = some o → ((hp.push (PySem.W.kdv_tup us)).push (PySem.HandSPX.excO C hp.objs.size)).get? b = some o := fun b o e => Heap.get?_push_of_some _ (Heap.get?_push_of_some _ e)
  have hget : ((hp.push (PySem.W.kdv_tup us)).push (PySem.HandSPX.excO C hp.objs.size)).get? (hp.objs.size + 1) = some (PySem.HandSPX.excO C hp.objs.size) := by heap_get
  have KX : X.K.In hp := I.kIn
  have hKx : X.K.lookup (hp.objs.size + 1) = none := by
    cases e : X.K.lookup (hp.objs.size + 1) with
    | none => rfl
    | some o => exact absurd (Nat.lt_of_succ_lt (Heap.lt_size (KX _ _ e))) (Nat.lt_irrefl _)
  have hus : us.length ≤ sizeLine := by
    have := T.len
    rw [hul, sizeLine_eq]
    omega
  refine wpAny_call (PySem.HandSPX.call_own F.excBase_ValueError (fun Y => PySem.HandSPX.refsVE_contains Y bm hbm) (KX _ _ hC) (PySem.W.looks_findIn KX T.iC) (fun self => PySem.W.bind_fn KX self T.tI) hus ?_)
  refine init_run (s := ⟨(hp.push (PySem.W.kdv_tup us)).push (PySem.HandSPX.excO C hp.objs.size), g, dr, tk, os⟩) (mg := X.mg) (mb := mb) T (PySem.W.Frag.In.keeps KX kk) hKx (I.mod.glob.keeps fun b o e => kk b o (I.bk b o e)) (hmb.keeps fun b o e => kk b o (I.bk b o e))
    ((hbb _ (by decide +kernel)).trans (by first | boot_by_name | kernel_rfl)) (hlim.keeps kk) hget hul ?_ (fun h' tk' Z => ?_)
  · show X.A.depth + 1 < recursionLimit
    omega
  · refine ⟨rfl, ?_⟩
    have old : ∀ b o, hp.get? b = some o → h'.get? b = some o := fun b o e => Z.keep b o (Nat.ne_of_lt (Nat.lt_succ_of_lt (Heap.lt_size e))) (kk b o e)
    have ha : hp.objs.size ≤ hp.objs.size + 1 := Nat.le_succ _
    have na : H (hp.objs.size + 1) = none := I.hok.fresh ha
    obtain ⟨q0, q1⟩ := h (hp.objs.size + 1) na
    obtain ⟨t1, ho | ⟨dx, d0, d1, d2, d3, d4⟩⟩ := Z.obj
    · obtain ⟨e, hx⟩ := ho
      have en : ns = [] := by
        have z := congrArg List.length e
        rw [List.length_reverse, List.length_zip, hul, Nat.min_self] at z
        exact List.length_eq_zero_iff.mp z
      exact ⟨.ref (hp.objs.size + 1), _, I.laid (t' := tk') (a := hp.objs.size + 1) (o := exo (hp.objs.size + 1) C none) (h' := h') old ha (exo_ok hx), rfl, q0 en⟩
    · have en : ns ≠ [] := fun e => by
        subst e
        exact d0 rfl
      have d1' : hp.objs.size ≤ dx := by
        have z : hp.objs.size + 1 + 1 ≤ dx := by simpa only [Heap.size_push] using d1
        exact Nat.le_trans (Nat.le_trans (Nat.le_succ _) (Nat.le_succ _)) z
      have nd : H dx = none := I.hok.fresh d1'
      have ob1 : HOk X.prog X.w (upd H dx (exd dx (ns.zip vs).reverse)) h' := I.hok.laid old d1' (exd_ok d4 (rev_rel ns r))
      have na' : upd H dx (exd dx (ns.zip vs).reverse) (hp.objs.size + 1) = none := by
        rw [upd_ne (Ne.symm d2)]
        exact na
      have ob2 : HOk X.prog X.w (upd (upd H dx (exd dx (ns.zip vs).reverse)) (hp.objs.size + 1) (exo (hp.objs.size + 1) C (some dx))) h' := ob1.laidN (fun _ _ q => q) na' (exo_ok d3)
      exact ⟨.ref (hp.objs.size + 1), _, I.un (t' := tk') (un_two old ha d1' na nd) ob2, rfl, q1 en dx nd d2⟩
theorem pe_err {x : Str} {e : Expr} {es : List Expr} {ta : TA} {p pos : Pos} (T : SErr X.prog X.K C fI ns) (hr : Room 1 X.A) (hm : X.mg x = some (.ref C)) (ha : PA X (e :: es) ta) (hg : Gl X x := by rfl)
    (hdb : (x == ("__debug__" : Str)) = false := by decide) (he : starEach (e :: es) X.env = (false, eval e X.env) :: starEach es X.env := by rfl) (hpl : (backTo pos (starEach es X.env)).any (·.1) = false := by rfl) :
    PE X (.Call (.Name x p) (e :: es) [] pos) (tErr C ns ta) := by
  refine ⟨fun pins s σ H Q I h => ?_⟩
  refine wpAny_Call_Name_kw (ld_glob I hg hm ?_ hdb)
  exact PySem.W.callWith_K (h₀ := X.base) I.ok.mod.kin T.kC (thn (ha.run pos pins s σ H _ I h) fun us s1 ⟨vs, H1, I1, r1, q1⟩ => ⟨I1.kIn, call_err T hr I1 r1 q1⟩) he hpl
theorem pe_err0 {x : Str} {p pos : Pos} (T : SErr X.prog X.K C fI ns) (hr : Room 1 X.A) (hm : X.mg x = some (.ref C)) (hg : Gl X x := by rfl)
    (hdb : (x == ("__debug__" : Str)) = false := by decide) : PE X (.Call (.Name x p) [] [] pos) (tErr C ns tNil) := by
  refine ⟨fun pins s σ H Q I h => ?_⟩
  refine wpAny_Call_Name_kw (ld_glob I hg hm ?_ hdb)
  exact PySem.W.callWith_K0 I.kIn T.kC (call_err T hr (us := []) (vs := []) I .nil h)
/-! ### a field of such an error -/
/-- o.f, o an error at a of the class at C -/
def tEf (K : PySem.W.Frag) (f : Str) (to : TE) : TE := fun σ H Q => to σ H fun x H1 => ∃ (a C d : Addr) (fs : List (Str × V)) (v : V), x = .ref a ∧ H1 a = some (exo a C (some d)) ∧ H1 d = some (exd d fs) ∧ XfC K C ∧ PySem.W.findIn K (.ref C) f = some none ∧
  fs.lookup f = some v ∧ Q v H1
theorem pe_ef {e : Expr} {te : TE} {n : Str} {pos : Pos} (he : PE X e te) (hb : attributeBase e n X.env (eval e X.env) = eval e X.env := by rfl) : PE X (.Attribute e n pos) (tEf X.K n te) := by
  refine ⟨fun pins s σ H Q I h => ?_⟩
  refine attr_of hb (thn (he.run pins s σ H _ I h) fun u s1 hh => ?_)
  obtain ⟨x, H1, I1, rx, a, C, d, fs, v, ex, ea, ed, T, hno, l, q⟩ := hh
  subst ex
  obtain rfl : u = Value.ref a := rx
  obtain ⟨t1, ho⟩ := exo_at I1.hok ea
  obtain ⟨mA, hns, hrl⟩ := exd_at I1.hok ed
  obtain ⟨od, hod, hl⟩ := lookIn_ns hns
  obtain ⟨u, hu, ru⟩ := RelO.some_of (v := v) (o := mA n) (by rw [← l]; exact hrl n)
  have J : PySem.W.InstAt s1.heap a _ C (some od) := ⟨ho, rfl, rfl, hod⟩
  exact HandSPX.exc_get I1.kIn J T.ga T.gg T.exC (PySem.W.findObj_own T.hdC hno rfl (by rw [hl, hu])) (handed_of ru) ⟨v, H1, I1.tok _, ru, q⟩
end
end Sq

set_option Elab.async false
set_option linter.all false
set_option maxRecDepth 100000
set_option maxHeartbeats 4000000
/-! isinstance of such errors, whether they have a dict or not. -/
namespace Sq
open PySem PySem.W PySem.Spec PySem.Calls PyProof.Rows
section
variable {prog : Program} {w : World} {A : Around} {E : Value → Shared → Prop} {s : Shared} {K : Frag} {y D : Addr} {oy : Obj} {od : Option Obj}
/-- what the class says of __class__ -/
structure ClsE (K : Frag) (D : Addr) : Prop where
  ga : findIn K (.ref D) "__getattribute__" = some (some (.builtin "BaseException.__getattribute__"))
  gt : findIn K (.ref D) "__getattr__" = some none
  be : subIn K (.ref D) (.type "BaseException") = some true
  hd : hasDictIn K D = true
  ca : findIn K (.ref D) "__class__" = some (some (.builtin "object.__class__"))
  cg : specialIn K (.builtin "object.__class__") "__get__" = some (some (.builtin "getset_descriptor.__get__"))
  ct : takesIn K (.builtin "object.__class__") = some true
  mo : mroIn K D (.type "object") = some true
theorem err_class {Q : Option Value → Shared → Prop} (T : ClsE K D) (X : K.In s.heap) (I : InstAt s.heap y oy D od) (h : Q (some (.ref D)) { s with toks := s.toks + 1 }) : wpAny (model prog w) A (getAttr? (.ref y) "__class__") Q E s := by
  have hcl : (clsIn K D).isSome = true := by
    obtain ⟨cd, hc, _⟩ := any_some T.hd
    rw [hc]
    rfl
  have hf : findObj K D od "__class__" = some (.bind (.builtin "getset_descriptor.__get__") (.builtin "object.__class__")) := by
    cases od with
    | none => exact findObj_dataN hcl T.ca T.cg T.ct
    | some o => exact findObj_data hcl T.ca T.cg T.ct
  obtain ⟨hh, gs, dn, tn, os⟩ := s
  have la := I.type (M := model prog w)
  have lb := looks_findIn (M := model prog w) X T.ga
  have lc := looks_findIn (M := model prog w) X T.gt
  have ld := looks_find (M := model prog w) X I hf
  have sub : Looks (model prog w) hh (isInstance (.ref y) (.type "BaseException")) true := la.andThen (looks_subIn X T.be)
  have n2 : (Value.builtin "BaseException.__getattribute__" == Value.builtin "object.__getattribute__") = false := by decide +kernel
  have n1 : (onTheHeap (Value.ref D) && Value.builtin "BaseException.__getattribute__" == Value.builtin "object.__getattribute__") = false := by rw [n2]; rfl
  have n0 : (false && onTheHeap (Value.builtin "BaseException.__getattribute__")) = false := rfl
  unfold getAttr? getAttrBy? getAttrBy
  refine wpAny_bind (wpAny_mkText (wpAny_bind (wpAny_attempt (wpAny_holding (wpAny_bind (la.at (wpAny_bind (lb.at ?_))))))))
  show wpAny (model prog w) A (if (onTheHeap (Value.ref D) && Value.builtin "BaseException.__getattribute__" == Value.builtin "object.__getattribute__") = true then _ else _) _ _ _
  rw [n1, if_neg Bool.false_ne_true]
  unfold getAttrByItsOwn hookBefore
  refine wpAny_bind (?_ : wpAny (model prog w) A _ _ _ _)
  rw [if_pos (show onTheHeap (Value.ref D) = true from rfl)]
  refine lc.at (wpAny_bind (wpAny_attempt (wpAny_holding ?_)))
  unfold callGetattribute
  rw [n0, if_neg Bool.false_ne_true]
  unfold boundAndCalled
  rw [PySem.F.excAttr_ValueError.ga.bind (.ref y)]
  refine wpAny_bind (wpAny_pure ?_)
  show wpAny (model prog w) A (call (.builtin "BaseException.__getattribute__") [.ref y, .str "__class__" tn]) _ _ _
  refine wpAny_call (codeAny_call_builtin PySem.F.excAttr_ValueError.ga.plain PySem.F.entry_bexc_ga ?_)
  refine @check_slot (model prog w) _ _ ⟨hh, gs, dn, tn + 1, os⟩ "BaseException.__getattribute__" "BaseException" "__getattribute__" (.ref y) [.str "__class__" tn] [] _ (by decide +kernel) (by decide +kernel) sub (PySem.F.args_bexc_ga (.ref y) (.str "__class__" tn)) ?_
  unfold Builtin.«object.__getattribute__»
  refine wpAny_bind (wpAny_of_eq (a := ((Value.ref y : Value), [Value.str "__class__" tn])) (by first | rfl | (simp only [slotArgs]; rfl)) ?_)
  refine wpAny_bind (wpAny_pure (wpAny_bind (la.at (wpAny_bind (ld.at ?_)))))
  show wpAny (model prog w) _ (holding [Value.builtin "object.__class__"] (call (.builtin "getset_descriptor.__get__") [.builtin "object.__class__", .ref y, .ref D]) >>= ret) _ _ _
  refine wpAny_bind (wpAny_holding (wpAny_call (class_get (s := ⟨hh, gs, dn, tn + 1, os⟩) (ox := oy) (od := od) X I T.mo ?_)))
  refine wpAny_pure (?_ : wpAny (model prog w) _ (handedOut (.ref D)) _ _ _)
  rw [handedOut_of (v := .ref D) rfl]
  first
    | exact wpAny_pure (wpAny_pure h)
    | exact wpAny_pure h
    | exact wpAny_pure (wpAny_bind (wpAny_pure (wpAny_pure h)))
theorem cls_obj {h : Heap} (hd : hasDictIn K D = true) (X : K.In h) : ∃ c' d' cd' sl', h.get? D = some ⟨c', d', .cls cd', sl'⟩ := by
  obtain ⟨cd, hc, _⟩ := any_some hd
  unfold clsIn at hc
  split at hc
  · rename_i c' d' cd' sl' ho
    exact ⟨c', d', cd', sl', X _ _ ho⟩
  · cases hc
theorem kit_err (T : ClsE K D) : KitX K (.ref y) (.ref D) (fun h => InstAt h y oy D od) where
  ty := fun _ _ _ I => I.type
  it := fun _ h X _ => by
    obtain ⟨c', d', cd', sl', ho⟩ := cls_obj T.hd X
    intro A' Q' E' s' k q
    unfold isType loadHead
    exact wpAny_bind (wpAny_loadPart (k _ _ ho) (wpAny_pure q))
  ne := fun h tp dd its n sl X htp => by
    obtain ⟨c', d', cd', sl', ho⟩ := cls_obj T.hd X
    refine Bool.eq_false_iff.mpr fun q => ?_
    have e : D = tp := Value.ref.inj (beq_iff_eq.mp q)
    rw [e, htp] at ho
    cases ho
  ca := fun X I k => err_class T X I k
end
end Sq
namespace Sq
open PySem PySem.Spec PyProof.Rows L2
/-- isinstance(e, c), e such an error -/
inductive rIsErr (K : PySem.W.Frag) (xs : List V) (H : Hp) (Q : VK) : Prop
  | mk (a D : Addr) (d : Option Addr) (c : V) (cv : Value) (b : Bool) (ex : xs = [.ref a, c]) (ea : H a = some (exo a D d)) (ed : ∀ dx, d = some dx → ∃ fs, H dx = some (exd dx fs)) (ec : ∀ u, RelV c u → u = cv)
      (ek : PySem.W.kitOne K (.ref D) cv = some b) (T : ClsE K D) (q : Q (.bl b) H) : rIsErr K xs H Q
theorem call_isErr {X : Cx} : CallR X (.builtin "isinstance") (rIsErr X.K) := by
  intro pins s σ H xs us Q I r h
  obtain ⟨a, D, d, c, cv, b, rfl, ha, hd, hcv, e, T, q⟩ := h
  cases r with
  | cons rx rr =>
    cases rr with
    | cons rt rr =>
      cases rr
      cases rx
      have ec := hcv _ rt
      subst ec
      obtain ⟨t1, ho⟩ := exo_at I.hok ha
      cases d with
      | none =>
        have J : PySem.W.InstAt s.heap a _ D none := ⟨ho, rfl, rfl, trivial⟩
        exact PySem.W.kia_one (kit_err T) I.kIn J e (fun z => nomatch z) fun tk => ⟨.bl b, H, I.kept (t' := tk) fun _ _ z => z, rfl, q⟩
      | some dx =>
        obtain ⟨fs, hf⟩ := hd dx rfl
        obtain ⟨mA, ⟨o, es, ep, hod, _⟩, _⟩ := exd_at I.hok hf
        have J : PySem.W.InstAt s.heap a _ D (some o) := ⟨ho, rfl, rfl, hod⟩
        exact PySem.W.kia_one (kit_err T) I.kIn J e (fun z => nomatch z) fun tk => ⟨.bl b, H, I.kept (t' := tk) fun _ _ z => z, rfl, q⟩
end Sq

set_option Elab.async false
set_option linter.all false
set_option maxRecDepth 100000
set_option maxHeartbeats 4000000
/-! A def that is run while no guard stands (so that repr is not under way), the end of such a law, repr of data. -/
namespace Sq
open PySem PySem.Spec PyProof.Rows L2
/-- as FnOk, where no guard stands around -/
def RunG (P : Program) (w : World) (K : PySem.W.Frag) (mg : Str → Option Value) (base : Heap) (CX : CXT) (k : Nat) (f : Addr) (fd : FuncData) (ps : List Str) (sp : Sp) : Prop :=
  ∀ (A : Around) (outer : List Env) (s : Shared) (H : Hp) (args : Args) (us : List Value) (vs : List V) (Q : VK) (E : XK), A.guards = some [] → Room k A → Env0 P w K mg base A outer s H → BindsTo s fd args (ps.zip us) →
    Vals vs us → sp vs H Q E → codeAny (model P w) A (.call (.ref f) args) (CR CX outer P w H s Q E) s
section
variable {P : Program} {w : World} {K : PySem.W.Frag} {mg : Str → Option Value} {base : Heap} {x qual : Str} {params : Arguments} {body : List Stmt} {scope : Scope} {dvs : List V} {kws : List (Str × V)} {f : Addr} {fd : FuncData}
theorem fund_runG {CX : CXT} {N ps : List Str} {k : Nat} {sp : Sp} (F : FunD K x qual params body scope dvs kws f fd) (S : FnScope N ps scope) (hlen : ∀ vs H Q E, sp vs H Q E → vs.length = ps.length)
    (hbody : ∀ (cdv : Value) (A : Around) (outer : List Env) (s : Shared) (H : Hp) (vs : List V) (Q : VK) (E : XK), A.guards = some [] → Room k (A.deeper (envOfC qual scope s.heap.objs.size f cdv)) → sp vs H Q E →
      ∃ t, PSs (cxOf CX P w K mg base N qual scope f cdv A outer s H E) body t ∧ t { nx := fun _ H' => Q .non H', rt := Q } (start N vs) H) : RunG P w K mg base CX (k + 1) f fd ps sp := by
  obtain ⟨oc, od, dV, kV, doc, pm, an, cdv, ct, osl, rfl, lk, hcd, _, _⟩ := F.ex
  intro A outer s H args us vs Q E hg hr e0 hb rv hsp
  have hvl := hlen _ _ _ _ hsp
  have kb : ∀ b o, base.get? b = some o → s.heap.get? b = some o := fun b o e => (e0.bs b o e).1
  have KX : K.In s.heap := PySem.W.Frag.In.keeps e0.mod.kin kb
  have lim : s.heap.NoLimit := e0.mod.nolimit.keeps kb
  have hki : ∀ y ∈ ps.zip us, scope.names.lookup y.1 = some .local ∨ (scope.names.lookup y.1 = some .cell ∧ ((cellsFrom (s.heap.objs.size + 1) scope.names []).lookup y.1).isSome = true) := by
    rintro ⟨n, v⟩ hy
    rcases S.par n (List.of_mem_zip hy).1 with q | q
    · exact .inl q
    · exact .inr ⟨q, PySem.W.cellsFrom_some _ _ _ (.inl q)⟩
  refine codeAny_call_function hr.depth (KX _ _ lk) rfl S.co S.gen rfl (PySem.W.codeRec_of KX hcd) (hb _ _ _ _ ?_)
  refine wpAny_newFunctionEnv_cells S.kind hki fun env he s1 z => ?_
  subst he
  refine ⟨lim.keeps z.toInCall.keep, codeAny_func ?_⟩
  obtain ⟨t, ht, hq⟩ := hbody cdv A outer s H vs Q E hg (hr.deeper _) hsp
  have I : Inv (cxOf CX P w K mg base N qual scope f cdv A outer s H E) [] (start N vs) H s1 := inv_start S hr.hd e0 hvl rv z
  refine wpAny_mono (ht.run [] s1 (start N vs) H _ I hq) (fun fl s' hs => ?_) fun _ _ hs => hs
  have fin : ∀ {σ' : L2.St} {H' : Hp} {v : V} {u : Value}, Inv (cxOf CX P w K mg base N qual scope f cdv A outer s H E) [] σ' H' s' → RelV v u → Q v H' → CE outer P w H s Q u s' := by
    intro σ' H' v u J rv q
    exact ⟨v, H', J.os, J.bare, J.base, J.hok, rv, q⟩
  cases fl with
  | ret u =>
    obtain ⟨v, σ', H', J, rv, q⟩ := hs
    exact fin J rv q
  | next =>
    obtain ⟨σ', H', J, q⟩ := hs
    exact fin (v := V.non) (u := Value.none) J rfl q
  | brk =>
    obtain ⟨_, _, _, z⟩ := hs
    exact False.elim z
  | cont =>
    obtain ⟨_, _, _, z⟩ := hs
    exact False.elim z
end
/-- a law's call, its def told by RunG -/
theorem law_callG {P : Program} {w : World} {K : PySem.W.Frag} {mg mb : Str → Option Value} {CX : CXT} {k : Nat} {fa a : Addr} {fd : FuncData} {x : Str} {sp : Sp} {s₁ : Shared} {vs : List Value} {zs : List Int}
    (KX : K.In s₁.heap) (hG : s₁.heap.Ns mainGlobals mg) (hB : s₁.heap.Ns builtinsNs mb) (hbb : ∀ x : Str, x ≠ "__name__" → mb x = bootBuiltins x) (hlim : s₁.heap.NoLimit) (hgn : s₁.gens = #[])
    (ha : s₁.heap.get? a = some { cls := .type "list", data := .seq vs.toArray }) (hi : IntsAre vs zs) (hl : zs.length ≤ sizeLine) (hr : Room k callerA)
    (F : ∀ base : Heap, K.In base → base.Ns mainGlobals mg → RunG P w K mg base CX k fa fd [x] sp) (hbind : ∀ (s : Shared) (u : Value), BindsTo s fd ⟨[u], []⟩ [(x, u)])
    (hsp : ∀ H : Hp, Only H → SqL K H a (zs.map V.int) → sp [.ref a] H (fun v _ => v = .bl true) fun _ _ _ => False)
    (hCX : ∀ H e s', CX [] H s₁ (fun _ _ _ => False) e s' → False) :
    codeAny (model P w) callerA (.call (.ref fa) ⟨[.ref a], []⟩) (fun r s' => r = .ok (.ret (.bool true)) ∧ OldK s₁.heap s'.heap ∧ s'.os = s₁.os ∧ AllBare s'.gens) s₁ := by
  have rv := vals_ints hi
  have core : ∀ H : Hp, Only H → SqL K H a (zs.map V.int) → HOk P w H s₁.heap → (∀ b, H b ≠ none → b = a) → (H a ≠ none → K.lookup a = none) →
      codeAny (model P w) callerA (.call (.ref fa) { pos := [.ref a], kw := [] }) (fun r s' => r = .ok (.ret (.bool true)) ∧ OldK s₁.heap s'.heap ∧ s'.os = s₁.os ∧ AllBare s'.gens) s₁ := by
    intro H hO hS hok hA hK
    have far : ∀ {b : Addr}, b ≠ a → H b = none := fun {b} n => by
      cases q : H b with
      | none => rfl
      | some u => exact absurd (hA b (by rw [q]; simp)) n
    have bs : ∀ {b : Addr} {o : Obj}, s₁.heap.get? b = some o → H b = none → (hidT s₁.heap H).get? b = some o := fun e n => hidT_get e n
    have nodict : ∀ {b : Addr} {o : Obj} {es : Array DictEntry} {ep : Nat}, s₁.heap.get? b = some o → o.data = .dict es ep → H b = none := by
      intro b o es ep e d
      refine far fun z => ?_
      subst z
      rw [ha] at e
      cases e
      have d' : Data.seq vs.toArray _ = Data.dict es ep := d
      cases d'
    have nsK : ∀ {b : Addr} {m : Str → Option Value}, s₁.heap.Ns b m → (hidT s₁.heap H).Ns b m := by
      rintro b m ⟨o, es, ep, e, d, r⟩
      exact ⟨o, es, ep, bs e (nodict e d), d, r⟩
    have hKb : K.In (hidT s₁.heap H) := by
      intro b o e
      refine bs (KX b o e) ?_
      cases q : H b with
      | none => rfl
      | some u =>
        obtain rfl : b = a := hA b (by rw [q]; simp)
        rw [hK (by rw [q]; simp)] at e
        cases e
    have hM : Mod K mg (hidT s₁.heap H) := ⟨hKb, nsK hG, ⟨mb, nsK hB, hbb⟩, by
      obtain ⟨mc, h1, h2⟩ := hlim
      exact ⟨mc, nsK h1, h2⟩⟩
    have e0 : Env0 P w K mg (hidT s₁.heap H) callerA [] s₁ H := ⟨rfl, hM, fun _ _ e => of_hidT e, Nat.le_of_eq (hidT_size _ _), trivial, fun b z => absurd (show b ∈ ([] : List Addr) from z) (by simp), hok, .of_eq hgn⟩
    refine codeAny_mono (F _ hKb (nsK hG) callerA [] s₁ H ⟨[.ref a], []⟩ [.ref a] [.ref a] _ _ rfl hr e0 (hbind s₁ (.ref a)) (.cons rfl .nil) (hsp H hO hS)) fun r s' h => ?_
    cases r with
    | error e => exact (hCX H e s' h).elim
    | ok fl =>
      cases fl with
      | ret u =>
        obtain ⟨v, H', os, bare, un, hok', r', q⟩ := h
        obtain rfl : v = .bl true := q
        obtain rfl : u = Value.bool true := r'
        refine ⟨rfl, OldK.of_keep fun b o e => ?_, os, bare⟩
        cases q : H b with
        | none => exact un.keep b o e q (fun z => absurd (show b ∈ ([] : List Addr) from z) (by simp)) (by simp)
        | some u =>
          rcases hO b with z | ⟨ob, xs, z⟩
          · rw [q] at z
            cases z
          · have e1 := (hok b _ z).1
            have e2 := (hok' b _ (un.frzs b ob _ z)).1
            rw [e] at e1
            cases e1
            exact e2
      | next => exact False.elim h
      | brk => exact False.elim h
      | cont => exact False.elim h
  have hsz : vs.length = zs.length := hi.length
  cases hk : K.lookup a with
  | some o =>
    have e := KX a o hk
    rw [ha] at e
    cases e
    have hS : SqL K (fun _ => none) a (zs.map V.int) := .inr ⟨_, vs.toArray, _, hk, rfl, rfl, rfl, by rw [List.size_toArray, hsz]; exact hl, by simpa using rv⟩
    exact core (fun _ => none) (fun _ => .inl rfl) hS (fun b u z => nomatch (show (none : Option HO) = some u from z)) (fun b z => absurd rfl z) fun z => absurd rfl z
  | none =>
    refine core (fun b => if b = a then some (.frz { cls := .type "list", data := .seq vs.toArray } (.lst (zs.map V.int))) else none) (fun b => ?_) (.inl (.inr ⟨{ cls := .type "list", data := .seq vs.toArray }, if_pos rfl⟩)) (fun b u z => ?_) (fun b z => ?_) fun _ => hk
    · by_cases hb : b = a
      · exact .inr ⟨_, _, if_pos hb⟩
      · exact .inl (if_neg hb)
    · by_cases hb : b = a
      · cases (if_pos hb).symm.trans z
        subst hb
        exact ⟨ha, by rw [List.length_map]; exact hl, vs, _, rv, ha⟩
      · cases (if_neg hb).symm.trans z
    · by_cases hb : b = a
      · exact hb
      · exact absurd (if_neg hb) z
theorem walk_ofG {l : PySem.W.OpenLaw} {n k : Nat} {q : Program} {loose : List Str} {XP : (Str → Option Value) → Heap → Prop} {YP : World → Heap → Prop} {d : DefRec} {CX : CXT} {x : Str}
    (hn : l.most = some n) (hn2 : n ≤ sizeLine) (hdf : d.params.defaults = []) (hr : Room k callerA)
    (F : ∀ (w : World) (mg : Str → Option Value) (fa : Addr) (h : Heap), YP w h → h.Ns mainGlobals mg → mg d.name = some (.ref fa) → ∃ (K : PySem.W.Frag) (fd : FuncData) (sp : Sp), K.In h ∧ (∀ (s : Shared) (u : Value), BindsTo s fd ⟨[u], []⟩ [(x, u)]) ∧
        (∀ (H : Hp) (a : Addr) (zs : List Int), zs.length ≤ n → (∀ z ∈ zs, Builtin.Int.intBits z ≤ 1048576) → Only H → SqL K H a (zs.map V.int) → sp [.ref a] H (fun v _ => v = .bl true) fun _ _ _ => False) ∧
        ∀ base : Heap, K.In base → base.Ns mainGlobals mg → RunG l.prog w K mg base CX k fa fd [x] sp)
    (hCX : ∀ (H : Hp) (s : Shared) (e : Value) (s' : Shared), CX [] H s (fun _ _ _ => False) e s' → False) :
    PySem.W.WalkO q loose XP YP l.row.toRowW d [] (fun f vs => PySem.call f vs) := by
  refine Att.attach_callB hn hdf fun w s₀ s₁ mg mb fa o pm cd doc a vs zs G Y ho hd hcd hmg hobj hints hlen hbits hgn => ?_
  obtain ⟨K, fd, sp, KX, hb, hsp, hF⟩ := F w mg fa _ Y G.T.g hmg
  refine law_callG KX G.T.g G.T.b G.T.builtins G.T.nolimit hgn hobj hints (Nat.le_trans hlen hn2) hr hF hb ?_ fun H e s' => hCX H s₁ e s'
  exact fun H hO hS => hsp H a zs hlen hbits hO hS
/-! ### repr of data -/
/-- repr(t), t a list or a tuple of data -/
def rReprD (K : PySem.W.Frag) : List V → Hp → VK → Prop := fun xs H Q => ∃ (a : Addr) (d : PyData), xs = [.ref a] ∧ Dp K H (.ref a) d ∧ d.showable = true ∧ d.hasDict = false ∧ d.depth ≤ 50 ∧ d.shown.length ≤ sizeLine ∧ Q (.str d.shown) H
theorem call_reprD {X : Cx} {k : Nat} (hg : X.A.guards = some []) (hr : Room k X.A) : CallR X (.builtin "repr") (rReprD X.K) := by
  intro pins s σ H xs us Q I r h
  obtain ⟨a, d, rfl, hd, h1, h2, h3, h4, q⟩ := h
  cases r with
  | cons rx rr =>
    cases rr
    have hu := hr.units
    obtain rfl := (show _ = Value.ref a from rx)
    obtain ⟨as, rd⟩ := Dp.reads I d (.ref a) (.ref a) hd rfl
    exact repr_of_reads' rd h1 (fun z => by rw [h2] at z; cases z) hg (by omega) (fun _ _ e => e) (fun h' u tk hk => ⟨.str d.shown, H, I.kept (t' := tk) hk, ⟨u, rfl⟩, q⟩) h4
end Sq

set_option Elab.async false
set_option linter.all false
set_option maxRecDepth 100000
set_option maxHeartbeats 4000000
/-! Dict comprehensions whose keys may be tuples, and may be made by calls. -/
namespace Sq
open PySem PySem.Spec PyProof.Rows L2
/-- the store of a comprehension, by either kind of keys -/
theorem dc_put {X : Cx} {ps : List (Addr × Obj)} {τ : L2.St} {G G' : Hp} {z : Shared} {Er : Value → Shared → Prop} {a : Addr} {y v : V} {u r : Value} {Qp : Unit → Shared → Prop} (hu : X.A.units + 1 < cLine) (J : Inv X ps τ G z)
    (g : DPut G a y v G') (ru : RelV y u) (rr : RelV v r) (q : ∀ z', Inv X ps τ G' z' → Qp () z') : wpAny (model X.prog X.w) X.A (dictSet a u r) Qp Er z := by
  rcases g with ⟨kvs, k, ea, rfl, hl, rfl⟩ | ⟨kvs, k, b, ea, rfl, eb, hl, rfl⟩
  · exact d_dictSet J ea hl ru rr q
  · obtain rfl : u = Value.ref b := ru
    obtain ⟨hz, hsys, xs, kt, dd⟩ := dt_of J.hok ea
    have hxs : xs.length ≤ sizeLine := by rw [← Paired.length kt]; exact hz
    have hnew : (putK kvs k v).length ≤ sizeLine := Nat.le_trans (length_putK kvs k v) hl
    refine wpAny_dictSet_heap (hsz := hxs) (show (tupleKind (mixKind X.prog X.w)).room X.A from Nat.lt_of_succ_lt hu) (key_of J.hok eb) dd fun h2 dd2 same => q _ ?_
    obtain ⟨o2, en, ep, eo, c2, c3, c4, _, c5⟩ := dd2
    refine d_write J (by rw [ea]; exact True.intro) same ⟨o2, eo⟩ ⟨hnew, hsys, _, (kt.put k eb rr).keeps fun c ys ec => ?_, o2, en, ep, eo, c2, c3, c4, c5⟩
    rw [upd_ne (ne_of ec ea (fun t => nomatch t))]
    exact ec
/-- {k: v for target in walked if ..}; o0: the empty dict of either kind -/
def tDct (o0 : HO) (wi : TI) (g : TG) (tt : TT) (tk tv : TE) (vs : List Nat) : TE := fun σ H Q => wi σ H fun J H1 => ∀ D, H1 D = none → ∃ W : Nat → Nat → Hp → Prop, (∃ m, W 0 m (upd H1 D o0)) ∧ ∀ i m H, W i m H →
  (J.stop i H ∧ Q (.ref D) H) ∨ (J.go i H ∧ ∃ Nx : Hp → Prop, (∀ H', Nx H' → ∃ m', m' < m ∧ W (i + 1) m' H') ∧ ∀ x H', J.yld i H x H' → g x (wipe σ vs) H' fun σ2 H2 => wipe σ2 vs = wipe σ vs ∧ tt σ2 H2 fun b H3 =>
    if b = true then tk σ2 H3 fun y H4 => tv σ2 H4 fun z H5 => ∃ H6, DPut H5 D y z H6 ∧ Nx H6 else Nx H3)
section
variable {X : Cx}
theorem pe_dct {o0 : HO} {kx vx tg it0 : Expr} {ifs : List Expr} {sc : Scope} {own : List (Str × Nat)} {pos : Pos} {wi : TI} {g : TG} {tt : TT} {tk tv : TE} (ho : o0 = .dK [] ∨ o0 = .dT []) (calm : X.calm = true) (hu : X.A.units + 1 < cLine) (nd : X.N.Nodup) (hi : PI X tg it0 wi)
    (bo : BlkOk X.N X.env.scope sc own)
    (hg : ∀ (s : Shared) (H : Hp) (C : Addr) (cl : List (Str × Addr)) (fp : List Addr), PG (X.blk s H sc (compEnvC sc cl C X.env) fp) tg g)
    (ht : ∀ (s : Shared) (H : Hp) (C : Addr) (cl : List (Str × Addr)) (fp : List Addr), PTs (X.blk s H sc (compEnvC sc cl C X.env) fp) ifs tt)
    (hk : ∀ (s : Shared) (H : Hp) (C : Addr) (cl : List (Str × Addr)) (fp : List Addr), PE (X.blk s H sc (compEnvC sc cl C X.env) fp) kx tk)
    (hv : ∀ (s : Shared) (H : Hp) (C : Addr) (cl : List (Str × Addr)) (fp : List Addr), PE (X.blk s H sc (compEnvC sc cl C X.env) fp) vx tv)
    (hf : ∀ x, foldedSetIterable it0 X.env x = pure x := by intro _; rfl) : PE X (.DictComp kx vx [⟨tg, it0, ifs, 0⟩] sc pos) (tDct o0 wi g tt tk tv (own.map (·.2))) := by
  refine ⟨fun pins z0 σ H Q I0 asked => ?_⟩
  rw [arm_eval_DictComp]
  have caught : ∀ y ∈ sc.names, y.2 = .free → ∃ c, X.env.cells.lookup y.1 = some c := fun y hy e => I0.ok.has _ (bo.free y hy e)
  refine wpAny_comprehension_free (use := none) rfl hf (closure_ok caught) bo.kind (fun y hy e => by rw [bo.uniq y hy, e]) (thn (hi.run pins z0 σ H _ I0 asked) fun xv z1 hx => thn hx fun iv z2 made => ?_)
  obtain ⟨wk, fp, tn, J, H2, rfl, I2, T, at2, fp2, want⟩ := made
  refine wpAny_newObj_type (newEnv_comp ?_)
  obtain ⟨D, eD⟩ : ∃ D, D = z2.heap.objs.size := ⟨_, rfl⟩
  have freeD : H2 D = none := I2.hok.fresh (Nat.le_of_eq eD.symm)
  obtain ⟨W, ⟨m0, first⟩, each⟩ := want D freeD
  obtain ⟨z3, e3⟩ : ∃ z3 : Shared, z3 = { z2 with heap := z2.heap.push { cls := .type "dict", data := .dict #[] } } := ⟨_, rfl⟩
  have heap3 : z3.heap = z2.heap.push { cls := .type "dict", data := .dict #[] } := by rw [e3]
  have I3 : Inv X pins σ (upd H2 D o0) z3 := by
    rw [e3]
    refine I2.laid (t' := z2.toks) (fun b o e => Heap.get?_push_of_some _ e) (Nat.le_of_eq eD.symm) ?_
    rw [eD]
    rcases ho with rfl | rfl
    · exact dk_empty z2.heap I2.big
    · exact dt_empty z2.heap I2.big
  have old : ∀ b ∈ fp, b < z2.heap.objs.size := fun b hb => (T.obj _ _ at2 b hb).elim fun o r => Heap.lt_size r.1
  have fp3 : ∀ b ∈ fp, FpOk X pins (upd H2 D o0) b ∧ b < z3.heap.objs.size := fun b hb => by
    have lt := old b hb
    have ne : b ≠ D := by rw [eD]; exact Nat.ne_of_lt lt
    exact ⟨⟨by rw [upd_ne ne]; exact (fp2 b hb).1, (fp2 b hb).2⟩, by rw [heap3, Heap.size_push]; exact Nat.lt_succ_of_lt lt⟩
  have at3 : tn 0 z3.heap := T.keep _ _ _ at2 fun b _ o e => by rw [heap3]; exact Heap.get?_push_of_some _ e
  have I4 := block_start I3 bo nd fp3
  have PG4 := hg z3 (upd H2 D o0) z3.heap.objs.size (cellsFrom (z3.heap.objs.size + 1) sc.names (cloFrom X.env.cells sc.names [])) fp
  have PT4 := ht z3 (upd H2 D o0) z3.heap.objs.size (cellsFrom (z3.heap.objs.size + 1) sc.names (cloFrom X.env.cells sc.names [])) fp
  have PK4 := hk z3 (upd H2 D o0) z3.heap.objs.size (cellsFrom (z3.heap.objs.size + 1) sc.names (cloFrom X.env.cells sc.names [])) fp
  have PV4 := hv z3 (upd H2 D o0) z3.heap.objs.size (cellsFrom (z3.heap.objs.size + 1) sc.names (cloFrom X.env.cells sc.names [])) fp
  rw [← e3, ← eD]
  show codeAny _ _ (.compStart (.DictComp kx vx [⟨tg, it0, ifs, 0⟩] sc pos) 0 (.ref wk) (.ref D) (compEnvC sc (cellsFrom (z3.heap.objs.size + 1) sc.names (cloFrom X.env.cells sc.names [])) z3.heap.objs.size X.env))
    (compPost (model X.prog X.w) X.A X.xe none _ (.ref D) z3.heap.objs.size) { z3 with heap := pushCells (z3.heap.push { cls := .type "dict", data := .dict #[] }) sc.names }
  have none3 : ∀ b ∈ fp, upd H2 D o0 b = none := fun b hb => (fp3 b hb).1.1
  generalize ec : compEnvC sc (cellsFrom (z3.heap.objs.size + 1) sc.names (cloFrom X.env.cells sc.names [])) z3.heap.objs.size X.env = ce at I4 PG4 PT4 PK4 PV4 ⊢
  have locs : ce.locals = z3.heap.objs.size := by rw [← ec]; rfl
  generalize eG : upd H2 D o0 = G3 at I3 I4 PG4 PT4 PK4 PV4 first none3 fp3
  generalize e4 : ({ z3 with heap := pushCells (z3.heap.push { cls := .type "dict", data := .dict #[] }) sc.names } : Shared) = z4 at I4 ⊢
  have at4 : tn 0 z4.heap := T.keep _ _ _ at3 fun b _ o e => by rw [← e4]; exact pushCells_keeps _ _ _ _ (Heap.get?_push_of_some _ e)
  have still : ∀ {τ : L2.St} {G : Hp} {z : Shared}, Inv (X.blk z3 G3 sc ce fp) [] τ G z → (∀ b ∈ fp, G b = none) → ∀ b ∈ fp, FpOk (X.blk z3 G3 sc ce fp) [] G b := fun {τ G z} J1 n1 b hb =>
    ⟨n1 b hb, (J1.ok.exf b hb).1, J1.ok.exfs b hb, .inl hb, fun x c e => (J1.ok.exf b hb).2 x c e, fun p hp => absurd (show p ∈ ([] : List (Addr × Obj)) ++ [] from hp) (by simp)⟩
  have turns : codeAny (model X.prog X.w) X.A (.compLoop (.DictComp kx vx [⟨tg, it0, ifs, 0⟩] sc pos) 0 (.ref wk) (.ref D) ce) (compPost (model X.prog X.w) X.A X.xe none (fun v z' => ∃ x H', Inv X pins σ H' z' ∧ RelV x v ∧ Q x H') (.ref D) z3.heap.objs.size) z4 := by
    refine compLoop_anyD (fun n z => ∃ i G, Inv (X.blk z3 G3 sc ce fp) [] (wipe σ (own.map (·.2))) G z ∧ tn i z.heap ∧ (∀ b ∈ fp, G b = none) ∧ W i n G) ?_ m0 ⟨0, G3, I4, at4, none3, first⟩
    rintro n z5 ⟨i, G5, I5, at5, n5, w5⟩
    rcases each i n G5 w5 with ⟨stops, goal⟩ | ⟨goes, Nx, less, turn⟩
    · refine thnF (T.done (X.blk z3 G3 sc ce fp) rfl rfl rfl calm i [] z5 _ G5 (fun _ _ => False) I5 (still I5 n5) at5 stops) fun r z6 ⟨er, I6⟩ => ?_
      subst er
      have I7 : Inv X pins σ G5 z6 := I3.call' (ch := fp) I6.os I6.base I6.hok I6.bare fun b hb => ⟨(fp3 b hb).1.2.2.2.1, (fp3 b hb).1.2.1, (fp3 b hb).1.2.2.2.2.1, (fp3 b hb).1.2.2.2.2.2⟩
      have n6 : G5 z3.heap.objs.size = none := by
        have q : G5 ce.locals = none := I6.free
        rwa [locs] at q
      obtain ⟨mm, hm, _⟩ := I6.loc
      have hm' : z6.heap.Ns ce.locals mm := hm
      rw [locs] at hm'
      obtain ⟨g0, g1, g2, g3, g4, g5⟩ := I3.fpOk (Nat.le_refl _) n6
      exact ⟨mm, hm', fun h9 sb => ⟨.ref D, G5, I7.turned (t' := z6.toks) (fun b o hb e => (sb.2 b hb).trans e) g0 g1 g3 g4 g5, rfl, goal⟩⟩
    · refine thnF (T.item (X.blk z3 G3 sc ce fp) rfl rfl rfl calm i [] z5 _ G5 (fun _ _ => False) I5 (still I5 n5) at5 goes) fun r z6 ⟨u, er, h6⟩ => ?_
      subst er
      refine thnF h6 fun _ z7 ⟨x, G7, I7, rx, hy, at7, n7⟩ => ?_
      refine thnF (PG4.run _ z7 _ G7 x u _ (I7.pinned (still I7 n7) (T.obj _ _ at7)) rx (turn x G7 hy)) fun _ z8 ⟨τ8, G8, I8, same8, q8⟩ => ?_
      refine thnF (PT4.run _ z8 τ8 G8 _ I8 q8) fun b z9 ⟨G9, I9, q9⟩ => ?_
      have close : ∀ {z : Shared} {G : Hp}, Inv (X.blk z3 G3 sc ce fp) ([] ++ pinsAt fp z7.heap) τ8 G z → Nx G → ∃ m, m < n ∧ ∃ i G, Inv (X.blk z3 G3 sc ce fp) [] (wipe σ (own.map (·.2))) G z ∧ tn i z.heap ∧ (∀ b ∈ fp, G b = none) ∧ W i m G := fun {z G} J1 nx => by
        obtain ⟨m1, lt1, w1⟩ := less G nx
        have kept : ∀ b ∈ fp, ∀ o, z7.heap.get? b = some o → z.heap.get? b = some o ∧ G b = none := fun b hb o e => by
          have t := J1.pin (b, o) (List.mem_append_right _ (List.mem_append_right _ (mem_pinsAt hb e)))
          exact ⟨t.1, t.2.1⟩
        refine ⟨m1, lt1, i + 1, G, (J1.unpinned (pins := [])).weak (by rw [← same8, wipe_length]) (fun j v e => by rw [← same8] at e; exact (wipe_some e).1), T.keep _ _ _ at7 fun b hb o e => (kept b hb o e).1, fun b hb => ?_, w1⟩
        obtain ⟨o, e, _⟩ := T.obj _ _ at7 b hb
        exact (kept b hb o e).2
      cases b with
      | false =>
        simp only [Bool.false_eq_true, if_false] at q9 ⊢
        exact close I9 q9
      | true =>
        simp only [if_true] at q9 ⊢
        refine thnF (PK4.run _ z9 τ8 G9 _ I9 q9) fun k1 z10 ⟨yk, G10, I10, rk, q10⟩ => ?_
        refine thnF (PV4.run _ z10 τ8 G10 _ I10 q10) fun v1 z11 ⟨yv, G11, I11, rv, G12, put, nx⟩ => ?_
        exact dc_put (X := X.blk z3 G3 sc ce fp) hu I11 put rk rv fun z12 I12 => close I12 nx
  exact codeAny_compStart_dict turns (T.self X.A 0 _ _ _ at4 turns)
end
end Sq

set_option Elab.async false
set_option linter.all false
set_option maxRecDepth 100000
set_option maxHeartbeats 4000000
/-! any and all of a generator expression whose element is any expression of the hand layer. -/
namespace Sq
open PySem PySem.Spec PyProof.Rows L2
/-- a generator expression's scope within a def's -/
structure GenB (N : List Str) (sc scope : Scope) (own : List (Str × Nat)) : Prop where
  blk : BlkOk N sc scope own
  co : scope.isCoroutine = false
  cell : ∀ y ∈ scope.names, y.2 ≠ .cell
  dot : scope.names.lookup (".0" : Str) = some NameKind.local
/-- the context of the generator's frame: made at z, H -/
def genX (X : Cx) (Ag : Around) (z : Shared) (H : Hp) (ge : Env) (fp : List Addr) : Cx :=
  { X with A := Ag, s_0 := z, H_0 := H, env := ge, outer := X.stack, stack := ge :: X.stack, ex := fp, fn := fun _ => false, calm := true, pn := [], xe := fun _ _ => False }
section
variable {X : Cx} {pins : List (Addr × Obj)} {σ : L2.St} {H : Hp} {z : Shared}
theorem gen_start {Ag : Around} {sc : Scope} {own : List (Str × Nat)} {fp : List Addr} {code it : Value} {h' : Heap} {go : Obj} {gs : GenState} {tk : Nat} (I : Inv X pins σ H z) (ok : GenB X.N X.env.scope sc own) (nd : X.N.Nodup)
    (hA : Ag.handled = none) (hF : Ag.frames = some (genEnv sc (cloFrom X.env.cells sc.names []) z.heap.objs.size code builtinsNs X.env :: X.stack))
    (hfp : ∀ b ∈ fp, FpOk X pins H b ∧ b < z.heap.objs.size) (hgs : gs.bare = true) (hgo : ∀ v, go.data ≠ .cell v)
    (hn : h'.Ns z.heap.objs.size (fun y => if y = ".0" then some it else none)) (hs : Heap.SameBut z.heap.objs.size (z.heap.push { cls := .type "frame", data := .dict #[] }) h') (hfr : ¬ go.isFreed = true) :
    Inv (genX X Ag z H (genEnv sc (cloFrom X.env.cells sc.names []) z.heap.objs.size code builtinsNs X.env) fp) [(h'.objs.size, go)] (wipe σ (own.map (·.2))) H { z with gens := z.gens.push gs, toks := tk, heap := h'.push go } := by
  have size' : h'.objs.size = z.heap.objs.size + 1 := by rw [hs.1, Heap.size_push]
  have old : ∀ b o, z.heap.get? b = some o → (h'.push go).get? b = some o := fun b o e => Heap.get?_push_of_some _ (hs.extBut b o (Nat.ne_of_lt (Heap.lt_size e)) (Heap.get?_push_of_some _ e))
  have cm : ∀ {y c}, (cloFrom X.env.cells sc.names []).lookup y = some c → X.env.cells.lookup y = some c ∧ (y, NameKind.free) ∈ sc.names := fun {y c} e => by
    rcases cloFrom_mem (PySem.mem_of_lookup e) with hm | ⟨h1, rfl⟩
    · cases hm
    · obtain ⟨c, hc⟩ := I.ok.has _ (ok.blk.free _ h1 rfl)
      rw [hc]
      exact ⟨rfl, h1⟩
  have has : ∀ {y}, sc.names.lookup y = some .free → ∃ c, (cloFrom X.env.cells sc.names []).lookup y = some c := fun {y} e => mem_lookup (cloFrom_has (cells := X.env.cells) (acc := []) (PySem.mem_of_lookup e))
  generalize he : genEnv sc (cloFrom X.env.cells sc.names []) z.heap.objs.size code builtinsNs X.env = ge at hF ⊢
  have ec : ge.cells = cloFrom X.env.cells sc.names [] := by rw [← he]; rfl
  have el : ge.locals = z.heap.objs.size := by rw [← he]; rfl
  have es : ge.scope = sc := by rw [← he]; rfl
  have noCell : ∀ y, sc.names.lookup y ≠ some .cell := fun y e => ok.cell _ (PySem.mem_of_lookup e) rfl
  have okG : (genX X Ag z H ge fp).Ok := by
    refine ⟨I.ok.mod, by show ge.scope.kind = _; rw [es]; exact ok.blk.kind, by show ge.globals = _; rw [← he]; exact I.ok.glob, by show ge.builtins = _; rw [← he]; rfl, by show z.heap.objs.size ≤ ge.locals; rw [el]; exact Nat.le_refl _,
      fun y x c e1 e2 => ?_, fun y hy => ?_, fun y c w _ => (nomatch w), fun _ => hA, hF, .inr ⟨rfl, by show ge.frame = some ge.locals; rw [← he]; rfl⟩, fun b hb => ⟨?_, fun y c e w => ?_⟩, I.bs, Nat.le_trans I.ok.bsz I.sz, fun b o e hb => ?_, fun b hb w => ?_, I.stack, I.stkFree⟩
    · have e1 : ge.cells.lookup y = some c := e1
      have e2 : ge.cells.lookup x = some c := e2
      rw [ec] at e1 e2
      exact I.ok.inj y x c (cm e1).1 (cm e2).1
    · show ∃ c, ge.cells.lookup y = some c
      rw [ec]
      have hy' : sc.names.lookup y = some .cell ∨ sc.names.lookup y = some .free := by rw [← es]; exact hy
      rcases hy' with hy' | hy'
      · exact absurd hy' (noCell y)
      · exact has hy'
    · show b ≠ ge.locals
      rw [el]
      exact Nat.ne_of_lt (hfp b hb).2
    · have e : ge.cells.lookup y = some c := e
      rw [ec] at e
      exact (hfp b hb).1.2.2.2.2.1 y c (cm e).1 w
    · rcases (hfp b hb).1.2.2.2.1 with w | w
      · exact I.ok.noex b o e w
      · exact absurd (Nat.lt_of_lt_of_le (Heap.lt_size e) (Nat.le_trans I.ok.bsz w)) (Nat.lt_irrefl _)
    · rcases List.mem_cons.mp (I.stkSub b w) with w | w
      · exact (hfp b hb).1.2.1 w
      · exact (hfp b hb).1.2.2.1 w
  have notStk : h'.objs.size ∉ frs X.stack := fun hb => by
    obtain ⟨_, o, ho, _⟩ := I.stack.mem hb
    have lt : h'.objs.size < z.heap.objs.size := Heap.lt_size ho
    rw [size'] at lt
    exact absurd lt (Nat.not_lt_of_le (Nat.le_succ _))
  refine ⟨okG, rfl, I.bare.push hgs, Un.kept old, ⟨_, by show (h'.push go).Ns ge.locals _; rw [el]; exact hn.push _, fun i y v e1 e2 e3 => ?_⟩, fun y c e => ?_, ?_, fun y c e => ?_, fun p hp => ?_, I.hok.kept old, by rw [wipe_length]; exact I.len⟩
  · obtain ⟨e2, out⟩ := wipe_some e2
    have e3 : sc.names.lookup y = some .local ∨ sc.names.lookup y = some .cell ∨ sc.names.lookup y = some .free := by rw [← es]; exact e3
    have nloc : sc.names.lookup y ≠ some .local := fun w => by
      rcases ok.blk.own _ (PySem.mem_of_lookup w) (.inl rfl) with q | q
      · obtain ⟨p, hp, hpy⟩ := List.mem_map.mp q
        have hpy : p.1 = y := hpy
        have q2 := ok.blk.ix p hp
        rw [hpy] at q2
        have hi : p.2 = i := (List.getElem?_inj (List.getElem?_eq_some_iff.mp q2).1 nd).mp (q2.trans e1.symm)
        exact out (List.mem_map.mpr ⟨p, hp, hi⟩)
      · exact q (List.mem_of_getElem? e1)
    have fr : sc.names.lookup y = some .free := by
      rcases e3 with w | w | w
      · exact absurd w nloc
      · exact absurd w (noCell y)
      · exact w
    obtain ⟨c, hc⟩ := has fr
    have k := ok.blk.free _ (PySem.mem_of_lookup fr) rfl
    obtain ⟨m, hm, all⟩ := I.loc
    obtain ⟨u, r, l⟩ := all i y v e1 e2 (.inr k)
    refine ⟨u, r, .inr ⟨.inr (by show ge.scope.names.lookup y = _; rw [es]; exact fr), c, by show ge.cells.lookup y = _; rw [ec]; exact hc, ?_⟩⟩
    rcases l with ⟨w, _⟩ | ⟨_, c2, l2, cell⟩
    · have w : X.env.scope.names.lookup y = some .local := w
      rcases k with k | k <;> exact nomatch k.symm.trans w
    · have q := (cm hc).1
      rw [l2] at q
      cases q
      obtain ⟨o, ho, hd⟩ := cell
      exact ⟨o, old _ _ ho, hd⟩
  · have e : ge.cells.lookup y = some c := e
    rw [ec] at e
    obtain ⟨v, o, ho, hd⟩ := I.cell y c (cm e).1
    exact ⟨v, o, old _ _ ho, hd⟩
  · show H ge.locals = none
    rw [el]
    exact I.hok.fresh (Nat.le_refl _)
  · have e : ge.cells.lookup y = some c := e
    rw [ec] at e
    exact I.freeC y c (cm e).1
  · have hp : p ∈ [(h'.objs.size, go)] := hp
    rw [List.mem_singleton] at hp
    subst hp
    refine ⟨Heap.get?_push_size _ (by simpa using hfr), I.hok.fresh (by show _ ≤ h'.objs.size; omega), ?_, notStk, hgo⟩
    show h'.objs.size ≠ ge.locals
    rw [el]
    omega
end
end Sq

set_option Elab.async false
set_option linter.all false
set_option maxRecDepth 100000
set_option maxHeartbeats 4000000
/-! The generator's own turns. -/
namespace Sq
open PySem PySem.Spec PyProof.Rows L2
/-- the turns' reading: at stop Qs, at the walk's end Qe -/
def genTurns (J : It) (g : TG) (tt : TT) (te : TE) (vs : List Nat) (σ : L2.St) (stop : Bool) (Qs Qe : Hp → Prop) (W : Nat → Nat → Hp → Prop) : Prop := ∀ i m H, W i m H →
  (J.stop i H ∧ Qe H) ∨ (J.go i H ∧ ∃ Nx : Hp → Prop, (∀ H', Nx H' → ∃ m', m' < m ∧ W (i + 1) m' H') ∧ ∀ x H', J.yld i H x H' → g x (wipe σ vs) H' fun σ2 H2 => wipe σ2 vs = wipe σ vs ∧ tt σ2 H2 fun b H3 =>
    if b = true then te σ2 H3 fun y H4 => ∃ c, y = .bl c ∧ if c = stop then Qs H4 else Nx H4 else Nx H3)
/-- a generator of tests hands out: one that stops, or one behind which it may be woken -/
def gY (X : Cx) (pl : List (Addr × Obj)) (stop : Bool) (Qs : Hp → Prop) : Protocol := fun n s₀ v s kap => ∃ c τ G, v = .bool c ∧ Inv X pl τ G s ∧ if c = stop then Qs G else ∀ B, AllBare B → kap (.send .none) { s with gens := B }
def gF (X : Cx) (pl : List (Addr × Obj)) (Qe : Hp → Prop) : Nat → Shared → Shared → Prop := fun _ _ s => ∃ τ G, Inv X pl τ G s ∧ Qe G
def gR (X : Cx) (pl : List (Addr × Obj)) (Qe : Hp → Prop) : GenEnd := fun n s₀ r s => ((r = .ok (.ret .none) ∨ r = .ok .next) ∧ gF X pl Qe n s₀ s) ∨ ∃ e, r = .error e ∧ False
theorem Inv.bared {X : Cx} {pl : List (Addr × Obj)} {σ : L2.St} {H : Hp} {s : Shared} (I : Inv X pl σ H s) {B : Array GenState} (h : AllBare B) : Inv X pl σ H { s with gens := B } :=
  ⟨I.ok, I.os, h, I.base, I.loc, I.cell, I.free, I.freeC, I.pin, I.hok, I.len⟩
section
variable {Xg : Cx} {elt tg iter : Expr} {ifs : List Expr} {scope : Scope} {pos : Pos} {g : TG} {tt : TT} {te : TE} {J : It} {fp : List Addr} {it : Addr} {tn : Nat → Heap → Prop} {Ax : Around} {vs : List Nat} {σ : L2.St} {stop : Bool} {Qs Qe : Hp → Prop}
  {W : Nat → Nat → Hp → Prop} {pl : List (Addr × Obj)}
theorem seg_turns (calm : Xg.calm = true) (co : Xg.env.scope.isCoroutine = false) (over : Ax.over (.compLoop (.GeneratorExp elt [⟨tg, iter, ifs, 0⟩] scope pos) 0 (.ref it) .none Xg.env) [] = Xg.A) (T : Turn Xg.prog Xg.w Xg.K tg J fp it tn)
    (hg : PG Xg tg g) (ht : PTs Xg ifs tt) (he : PE Xg elt te) (quiet : ∀ e s, Xg.xe e s → False) (hfp : ∀ b ∈ fp, b ∈ Xg.ex ∧ ∀ p ∈ Xg.pn ++ pl, p.1 ≠ b) (all : genTurns J g tt te vs σ stop Qs Qe W) :
    ∀ (m n i : Nat) (G : Hp) (s s₀ : Shared), m < n → Inv Xg pl (wipe σ vs) G s → tn i s.heap → (∀ b ∈ fp, G b = none) → W i m G →
      Seg (model Xg.prog Xg.w) Ax (gR Xg pl Qe) (gY Xg pl stop Qs) n s₀ (.compLoop (.GeneratorExp elt [⟨tg, iter, ifs, 0⟩] scope pos) 0 (.ref it) .none Xg.env)
        ((model Xg.prog Xg.w).den (.compLoop (.GeneratorExp elt [⟨tg, iter, ifs, 0⟩] scope pos) 0 (.ref it) .none Xg.env)) [] s := by
  intro m
  induction m using Nat.strongRecOn with
  | _ m ih =>
    intro n i G s s₀ hmn I at0 n0 w0
    have still : ∀ {τ : L2.St} {G : Hp} {z : Shared}, Inv Xg pl τ G z → (∀ b ∈ fp, G b = none) → ∀ b ∈ fp, FpOk Xg pl G b := fun {τ G z} J1 n1 b hb =>
      ⟨n1 b hb, (J1.ok.exf b (hfp b hb).1).1, J1.ok.exfs b (hfp b hb).1, .inl (hfp b hb).1, fun x c e => (J1.ok.exf b (hfp b hb).1).2 x c e, (hfp b hb).2⟩
    show Seg _ Ax _ _ _ s₀ _ ((compTurn (.GeneratorExp elt [⟨tg, iter, ifs, 0⟩] scope pos) 0 (.ref it) .none Xg.env).onRaise (leaving Xg.env)) [] s
    rw [compTurn_gen, Sem.onRaise_eq_wrap]
    refine seg_bind_wrap (wpAny_standAt ?_)
    rcases all i m G w0 with ⟨stops, goal⟩ | ⟨goes, Nx, less, turn⟩
    · refine seg_bind_wrap ?_
      rw [over]
      refine thnF (T.done Xg rfl rfl rfl calm i pl s _ G (fun _ _ => False) I (still I n0) at0 stops) fun r z ⟨er, I1⟩ => ?_
      subst er
      exact seg_end (.ok .next) (.inl ⟨.inr rfl, _, _, I1, goal⟩)
    · refine seg_bind_wrap ?_
      rw [over]
      refine thnF (T.item Xg rfl rfl rfl calm i pl s _ G (fun _ _ => False) I (still I n0) at0 goes) fun r z1 ⟨u, er, h1⟩ => ?_
      subst er
      refine seg_bind_wrap ?_
      rw [over]
      refine thnF h1 fun _ z2 ⟨x, G2, I2, rx, hy, at2, n2⟩ => ?_
      refine seg_bind_wrap ?_
      rw [over]
      refine wpAny_mono (hg.run _ z2 _ G2 x u _ (I2.pinned (still I2 n2) (T.obj _ _ at2)) rx (turn x G2 hy)) (fun _ z3 ⟨τ3, G3, I3, same3, q3⟩ => ?_) fun _ _ w => (quiet _ _ w).elim
      refine seg_bind_wrap ?_
      rw [over]
      refine wpAny_mono (ht.run _ z3 τ3 G3 _ I3 q3) (fun b z4 ⟨G4, I4, q4⟩ => ?_) fun _ _ w => (quiet _ _ w).elim
      have next : ∀ {z : Shared} {G : Hp} {k : Nat} (s1 : Shared), Inv Xg (pl ++ pinsAt fp z2.heap) τ3 G z → Nx G → m ≤ k → Seg (model Xg.prog Xg.w) Ax (gR Xg pl Qe) (gY Xg pl stop Qs) k s1 (.compLoop (.GeneratorExp elt [⟨tg, iter, ifs, 0⟩] scope pos) 0 (.ref it) .none Xg.env)
          ((model Xg.prog Xg.w).den (.compLoop (.GeneratorExp elt [⟨tg, iter, ifs, 0⟩] scope pos) 0 (.ref it) .none Xg.env)) [] z := fun {z G k} s1 J1 nx mk => by
        obtain ⟨m1, lt1, w1⟩ := less G nx
        have kept : ∀ b ∈ fp, ∀ o, z2.heap.get? b = some o → z.heap.get? b = some o ∧ G b = none := fun b hb o e => by
          have t := J1.pin (b, o) (List.mem_append_right _ (List.mem_append_right _ (mem_pinsAt hb e)))
          exact ⟨t.1, t.2.1⟩
        refine ih m1 lt1 k (i + 1) G z s1 (by omega) ((J1.unpinned (pins := pl)).weak (by rw [← same3, wipe_length]) fun j v e => by rw [← same3] at e; exact (wipe_some e).1) (T.keep _ _ _ at2 fun b hb o e => (kept b hb o e).1) (fun b hb => ?_) w1
        obtain ⟨o, e, _⟩ := T.obj _ _ at2 b hb
        exact (kept b hb o e).2
      cases b with
      | false =>
        simp only [Bool.false_eq_true, if_false] at q4 ⊢
        exact seg_again rfl (next _ I4 q4 (Nat.le_of_lt hmn))
      | true =>
        simp only [if_true] at q4 ⊢
        have hy : ∀ v, yieldOut Xg.env v = yieldValue v := fun v => by simp only [yieldOut, co, Bool.false_eq_true, if_false]
        simp only [hy]
        rw [Sem.bind_eq_wrap', Sem.bind_eq_wrap', Sem.wrap_wrap, Sem.wrap_wrap]
        refine seg_wrap ?_
        rw [over]
        refine wpAny_mono (he.run _ z4 τ3 G4 _ I4 q4) (fun y z5 ⟨v, G5, I5, rv, c, ec, q5⟩ => ?_) fun _ _ w => (quiet _ _ w).elim
        subst ec
        obtain rfl : y = Value.bool c := rv
        obtain ⟨k, rfl⟩ : ∃ k, n = k + 1 := ⟨n - 1, by omega⟩
        refine seg_at (seg_yield rfl rfl rfl ⟨c, τ3, G5, rfl, I5.unpinned, ?_⟩)
        by_cases hc : c = stop
        · rw [if_pos hc] at q5 ⊢
          exact q5
        · rw [if_neg hc] at q5 ⊢
          exact fun B hB => seg_again rfl (next _ (Inv.bared I5 hB) q5 (by omega))
end
end Sq

set_option Elab.async false
set_option linter.all false
set_option maxRecDepth 100000
set_option maxHeartbeats 4000000
/-! any and all draw from such a generator. -/
namespace Sq
open PySem PySem.Spec PyProof.Rows L2
section
variable {Xg : Cx} {stop : Bool} {Qs Qe : Hp → Prop} {a : Addr} {go : Obj} {g : Nat} {A : Around} {R : Result → Shared → Prop}
/-- between two turns -/
def Sleeps (Xg : Cx) (Ax : Around) (pl : List (Addr × Obj)) (stop : Bool) (Qs Qe : Hp → Prop) (g n : Nat) (s : Shared) : Prop :=
  (∃ τ G, Inv Xg pl τ G s) ∧ ∃ gs, s.gens[g]? = some gs ∧ gs.Goes (model Xg.prog Xg.w) Ax (gR Xg pl Qe) (gY Xg pl stop Qs) n (.send .none) (s.setGen g .running)
/-- one draw -/
theorem draw_one (hh : A.handled = none) (hd : A.depth < recursionLimit) (isg : ∀ s : Shared, s.heap.get? a = some go → s.heap.IsGen a g) {n : Nat} {s : Shared} {Q : Option Value → Shared → Prop} {E : Value → Shared → Prop}
    (h : Sleeps Xg A.in1 [(a, go)] stop Qs Qe g n s)
    (hs : ∀ s' τ G, Inv Xg [(a, go)] τ G s' → Qs G → Q (some (.bool stop)) s')
    (hn : ∀ m s', n = m + 1 → Sleeps Xg A.in1 [(a, go)] stop Qs Qe g m s' → Q (some (.bool (!stop))) s')
    (he : ∀ s' τ G, Inv Xg [(a, go)] τ G s' → Qe G → Q none s') : wpAny (model Xg.prog Xg.w) A (pyNext (.ref a)) Q E s := by
  obtain ⟨⟨τ, G, I⟩, gs, hgs, hgo⟩ := h
  have pin : ∀ {τ G s}, Inv Xg [(a, go)] τ G s → s.heap.get? a = some go := fun I => (I.pin (a, go) (List.mem_append_right _ (List.mem_singleton.mpr rfl))).1
  have hgl : g < s.gens.size := (Array.getElem?_eq_some_iff.mp hgs).1
  refine GenW.wpAny_gsz (n := g + 1) hgl (next_genG (Er := fun _ _ => False) (F := gF Xg [(a, go)] Qe) (Y := gY Xg [(a, go)] stop Qs) hh I.nolimit hd (isg _ (pin I)) hgs hgo (fun v s₁ gs' hb hv => ?_) (fun s₁ hp h' hk => ?_) fun e s₁ w => w.elim)
  · obtain ⟨c, τ1, G1, rfl, I1, q⟩ := hv
    intro big
    have big1 : g < s₁.gens.size := by
      have e : (s₁.setGen g gs').gens.size = s₁.gens.size := GenW.setGen_size _ _ _
      have b2 : g + 1 ≤ (s₁.setGen g gs').gens.size := big
      omega
    have I2 : Inv Xg [(a, go)] τ1 G1 (s₁.setGen g gs') := Inv.bared I1 (allBare_setGen I1.bare hb)
    by_cases hc : c = stop
    · rw [if_pos hc] at q
      subst hc
      exact hs _ τ1 G1 I2 q
    · rw [if_neg hc] at q
      have ec : c = !stop := by cases c <;> cases stop <;> simp_all
      subst ec
      have q2 := q ((s₁.setGen g gs').setGen g .running).gens (allBare_setGen I2.bare rfl)
      cases n with
      | zero => exact q2.elim
      | succ m => exact hn m _ rfl ⟨⟨τ1, G1, I2⟩, gs', setGen_at big1, q2⟩
  · obtain ⟨τ1, G1, I1, q⟩ := hp
    intro _
    exact he _ τ1 G1 ((Inv.bared I1 (allBare_setGen I1.bare rfl)).kept (t' := s₁.toks) hk) q
variable (hh : A.handled = none) (hd : A.depth < recursionLimit) (isg : ∀ s : Shared, s.heap.get? a = some go → s.heap.IsGen a g) (fin : ∀ c τ G s, Inv Xg [(a, go)] τ G s → (if c = stop then Qs G else Qe G) → R (.ok (.ret (.bool c))) s)
include hh hd isg fin
theorem any_turns (hstop : stop = true) : ∀ (n : Nat) (s : Shared), Sleeps Xg A.in1.in1 [(a, go)] stop Qs Qe g n s → codeAny (model Xg.prog Xg.w) A (.builtin "any.loop" ⟨[.ref a], []⟩) R s := by
  subst hstop
  intro n
  induction n with
  | zero =>
    intro s hs
    refine codeAny_builtin F.entry_any_loop ?_
    rw [Around.under_plainId F.plain_any_loop _]
    show wpAny _ A.in1 (pyNext (.ref a) >>= _) _ _ s
    refine wpAny_bind (draw_one (A := A.in1) hh hd isg hs (fun s' τ G I q => ?_) (fun m s' em _ => nomatch em) fun s' τ G I q => ?_)
    · refine wpAny_bind (wpAny_holding (wpAny_truthy_bool ?_))
      refine wpAny_bind (wpAny_letGo ?_)
      simp only [if_true]
      exact wpAny_bind (wpAny_rule (wpAny_pure (fin true τ G s' I (by rw [if_pos rfl]; exact q))))
    · exact wpAny_bind (wpAny_rule (wpAny_pure (fin false τ G s' I (by rw [if_neg Bool.false_ne_true]; exact q))))
  | succ n ih =>
    intro s hs
    refine codeAny_builtin F.entry_any_loop ?_
    rw [Around.under_plainId F.plain_any_loop _]
    show wpAny _ A.in1 (pyNext (.ref a) >>= _) _ _ s
    refine wpAny_bind (draw_one (A := A.in1) hh hd isg hs (fun s' τ G I q => ?_) (fun m s' em w => ?_) fun s' τ G I q => ?_)
    · refine wpAny_bind (wpAny_holding (wpAny_truthy_bool ?_))
      refine wpAny_bind (wpAny_letGo ?_)
      simp only [if_true]
      exact wpAny_bind (wpAny_rule (wpAny_pure (fin true τ G s' I (by rw [if_pos rfl]; exact q))))
    · obtain rfl : n = m := Nat.succ.inj em
      refine wpAny_bind (wpAny_holding (wpAny_truthy_bool ?_))
      refine wpAny_bind (wpAny_letGo ?_)
      simp only [Bool.not_true, Bool.false_eq_true, if_false]
      exact wpAny_pure ⟨plainId_quiet F.plain_any_loop _, ih s' w⟩
    · exact wpAny_bind (wpAny_rule (wpAny_pure (fin false τ G s' I (by rw [if_neg Bool.false_ne_true]; exact q))))
theorem all_turns (hstop : stop = false) : ∀ (n : Nat) (s : Shared), Sleeps Xg A.in1.in1 [(a, go)] stop Qs Qe g n s → codeAny (model Xg.prog Xg.w) A (.builtin "all.loop" ⟨[.ref a], []⟩) R s := by
  subst hstop
  intro n
  induction n with
  | zero =>
    intro s hs
    refine codeAny_builtin F.entry_all_loop ?_
    rw [Around.under_plainId F.plain_all_loop _]
    show wpAny _ A.in1 (pyNext (.ref a) >>= _) _ _ s
    refine wpAny_bind (draw_one (A := A.in1) hh hd isg hs (fun s' τ G I q => ?_) (fun m s' em _ => nomatch em) fun s' τ G I q => ?_)
    · refine wpAny_bind (wpAny_holding (wpAny_truthy_bool ?_))
      refine wpAny_bind (wpAny_letGo ?_)
      simp only [Bool.false_eq_true, if_false]
      exact wpAny_bind (wpAny_rule (wpAny_pure (fin false τ G s' I (by rw [if_pos rfl]; exact q))))
    · exact wpAny_bind (wpAny_rule (wpAny_pure (fin true τ G s' I (by rw [if_neg Bool.noConfusion]; exact q))))
  | succ n ih =>
    intro s hs
    refine codeAny_builtin F.entry_all_loop ?_
    rw [Around.under_plainId F.plain_all_loop _]
    show wpAny _ A.in1 (pyNext (.ref a) >>= _) _ _ s
    refine wpAny_bind (draw_one (A := A.in1) hh hd isg hs (fun s' τ G I q => ?_) (fun m s' em w => ?_) fun s' τ G I q => ?_)
    · refine wpAny_bind (wpAny_holding (wpAny_truthy_bool ?_))
      refine wpAny_bind (wpAny_letGo ?_)
      simp only [Bool.false_eq_true, if_false]
      exact wpAny_bind (wpAny_rule (wpAny_pure (fin false τ G s' I (by rw [if_pos rfl]; exact q))))
    · obtain rfl : n = m := Nat.succ.inj em
      refine wpAny_bind (wpAny_holding (wpAny_truthy_bool ?_))
      refine wpAny_bind (wpAny_letGo ?_)
      simp only [Bool.not_false, if_true]
      exact wpAny_pure ⟨plainId_quiet F.plain_all_loop _, ih s' w⟩
    · exact wpAny_bind (wpAny_rule (wpAny_pure (fin true τ G s' I (by rw [if_neg Bool.noConfusion]; exact q))))
end
end Sq

set_option Elab.async false
set_option linter.all false
set_option maxRecDepth 100000
set_option maxHeartbeats 4000000
/-! any(test for target in walked if ..), all(..). -/
namespace Sq
open PySem PySem.Spec PyProof.Rows L2
def tGen (P : Addr) (stop : Bool) (wi : TI) (g : TG) (tt : TT) (te : TE) (vs : List Nat) : TE := fun σ H Q => wi σ H fun J H1 => GxR.TabG H1 P ∧ ∀ H2, GxR.Tabbed P H1 H2 → ∃ W : Nat → Nat → Hp → Prop, (∃ m, W 0 m H2) ∧
  genTurns J g tt te vs σ stop (Q (.bl stop)) (Q (.bl !stop)) W
section
variable {X : Cx} {elt tg iter : Expr} {ifs : List Expr} {scope : Scope} {gpos : Pos} {g : TG} {tt : TT} {te : TE} {own : List (Str × Nat)} {wi : TI} {k : Nat} {c P : Addr} {stop : Bool}
abbrev genC (elt tg iter : Expr) (ifs : List Expr) (scope : Scope) (gpos : Pos) : Expr := .GeneratorExp elt [⟨tg, iter, ifs, 0⟩] scope gpos
theorem seg_first {Xg : Cx} {J : It} {fp : List Addr} {it : Addr} {tn : Nat → Heap → Prop} {Ax : Around} {vs : List Nat} {σ : L2.St} {Qs Qe : Hp → Prop} {W : Nat → Nat → Hp → Prop} {pl : List (Addr × Obj)}
    (calm : Xg.calm = true) (co : Xg.env.scope.isCoroutine = false) (over : Ax.over (.compLoop (genC elt tg iter ifs scope gpos) 0 (.ref it) .none Xg.env) [] = Xg.A) (T : Turn Xg.prog Xg.w Xg.K tg J fp it tn)
    (hg : PG Xg tg g) (ht : PTs Xg ifs tt) (he : PE Xg elt te) (quiet : ∀ e s, Xg.xe e s → False) (hfp : ∀ b ∈ fp, b ∈ Xg.ex ∧ ∀ p ∈ Xg.pn ++ pl, p.1 ≠ b) (all : genTurns J g tt te vs σ stop Qs Qe W)
    (m n : Nat) (G : Hp) (s s₀ : Shared) (hmn : m < n) (I : Inv Xg pl (wipe σ vs) G s) (at0 : tn 0 s.heap) (n0 : ∀ b ∈ fp, G b = none) (w0 : W 0 m G) :
    Seg (model Xg.prog Xg.w) Ax (gR Xg pl Qe) (gY Xg pl stop Qs) n s₀ (.compStart (genC elt tg iter ifs scope gpos) 0 (.ref it) .none Xg.env)
        ((model Xg.prog Xg.w).den (.compStart (genC elt tg iter ifs scope gpos) 0 (.ref it) .none Xg.env)) [] s := by
  have loop := seg_turns calm co over T hg ht he quiet hfp all m n 0 G s s₀ hmn I at0 n0 w0
  show Seg _ Ax _ _ _ s₀ _ ((compStart (genC elt tg iter ifs scope gpos) 0 (.ref it) .none Xg.env).onRaise (leaving Xg.env)) [] s
  unfold compStart
  rw [Sem.onRaise_eq_wrap]
  show Seg _ Ax _ _ _ s₀ _ ((ask >>= _).wrap _ _ _ _) [] s
  refine seg_bind_wrap (wpAny_askSetting ?_)
  split
  · exact seg_again rfl loop
  · refine seg_bind_wrap (wpAny_rule ?_)
    first
      | exact seg_bind_wrap (wpAny_standAt (seg_bind_wrap (T.self _ 0 s _ _ at0 (seg_again rfl loop))))
      | (show Seg _ Ax _ _ _ s₀ _ ((standAt iter.pos >>= _).wrap _ _ _ _) [] s
         exact seg_bind_wrap (wpAny_standAt (seg_bind_wrap (T.self _ 0 s _ _ at0 (seg_again rfl loop)))))
theorem in1_frames' (A : Around) : A.in1.frames = A.frames := rfl
theorem boot_all : bootBuiltins "all" = some (.builtin "all") := by decide +kernel
/-- the generator is made: it sleeps ahead of its first turn -/
theorem gen_made {pins : List (Addr × Obj)} {σ : L2.St} {H : Hp} {s : Shared} {Q : VK} {Q' : Value → Shared → Prop} (calm : X.calm = true) (hr : Room (k + 1) X.A) (nd : X.N.Nodup) (TB : GxR.TabB X.base X.mg c P) (hcode : X.env.code = .ref c) (ok : GenB X.N X.env.scope scope own) (hi : PI X tg iter wi)
    (hg : ∀ (A : Around) (z : Shared) (G : Hp) (cl : List (Str × Addr)) (C : Addr) (cd : Value) (fp : List Addr), PG (genX X A z G (genEnv scope cl C cd builtinsNs X.env) fp) tg g)
    (ht : ∀ (A : Around) (z : Shared) (G : Hp) (cl : List (Str × Addr)) (C : Addr) (cd : Value) (fp : List Addr), Room k A → PTs (genX X A z G (genEnv scope cl C cd builtinsNs X.env) fp) ifs tt)
    (he : ∀ (A : Around) (z : Shared) (G : Hp) (cl : List (Str × Addr)) (C : Addr) (cd : Value) (fp : List Addr), Room k A → PE (genX X A z G (genEnv scope cl C cd builtinsNs X.env) fp) elt te)
    (hs : ∀ v, genFold iter X.env v = pure v) (I : Inv X pins σ H s) (h : tGen P stop wi g tt te (own.map (·.2)) σ H Q)
    (hQ : ∀ (Xg : Cx) (a : Addr) (go : Obj) (gn n : Nat) (s' : Shared), Xg.prog = X.prog → Xg.w = X.w → (∀ s : Shared, s.heap.get? a = some go → s.heap.IsGen a gn) → Sleeps Xg X.A.in1.in1 [(a, go)] stop (Q (.bl stop)) (Q (.bl !stop)) gn n s' →
      (∀ τ G s1, Inv Xg [(a, go)] τ G s1 → Inv X pins σ G s1) → s'.heap.get? a = some go → Q' (.ref a) s') :
    wpAny (model X.prog X.w) X.A (eval (genC elt tg iter ifs scope gpos) X.env) Q' X.xe s := by
  refine wpAny_GeneratorExp_make ok.co (closure_ok fun y hy e => I.ok.has _ (ok.blk.free y hy e)) ok.cell ok.dot ok.blk.kind (by have := hr.dp; omega) ?_ hs
  refine thn (hi.run pins s σ H _ I h) fun xv s1 hx => thn hx fun iv s2 made => ?_
  obtain ⟨it, fp, tn, J, H2, rfl, I2, T, at2, fp2, ⟨ps, hP, htr⟩, want⟩ := made
  have hPs : s2.heap.get? P = some { cls := .none, data := .fields ps } := I2.hok P _ hP
  have cd : PySem.W.CodeHd s2.heap c P := TB.code.keeps fun b u e => I2.bk b u e
  refine ⟨I2.nolimit, ?_⟩
  have cont : ∀ (code : Value) (h3 : Heap) (tk : Nat) (more : Array Value), Heap.ExtBut P s2.heap h3 → s2.heap.objs.size ≤ h3.objs.size → h3.get? P = some { cls := .none, data := .fields (ps ++ more) } → TriplesOk (ps ++ more).toList →
      wpAny (model X.prog X.w) X.A (builtinsFor X.env.globals X.env.builtins) (fun bi s₄ =>
        ∀ h', h'.Ns s₄.heap.objs.size (fun y => if y = ".0" then some (.ref it) else none) → Heap.SameBut s₄.heap.objs.size (s₄.heap.push { cls := .type "frame", data := .dict #[] }) h' →
          Q' (.ref h'.objs.size) { s₄ with
            gens := s₄.gens.push (.fresh (.compStart (genC elt tg iter ifs scope gpos) 0 (.ref it) .none (genEnv scope (cloFrom X.env.cells scope.names []) s₄.heap.objs.size code bi X.env))),
            toks := s₄.toks + 1 + 1 + 1,
            heap := h'.push { cls := .type "generator", data := .fields #[.int s₄.gens.size 0, .str "<genexpr>" (s₄.toks + 1), .str (X.env.qual ++ "<genexpr>") (s₄.toks + 1 + 1)] } }) X.xe { s2 with heap := h3, toks := tk } := by
    intro code h3 tk more hx hsz hP3 htr3
    obtain ⟨bm, ob, e1, e2, e3, e4, e5, e6, e7, e8⟩ := TB.bm
    refine wpAny_builtinsFor (m := X.mg) (by rw [I2.ok.glob]; exact (I2.mod.glob.keeps I2.bk).extBut hx TB.gP) e1 e2 (hx _ _ e4 (I2.bk _ _ e5)) e6 e7 e8 ?_
    intro h' hn hsb
    have J3 := GxR.inv_tab (more := more) (h' := h3) (g' := s2.gens) (d' := s2.drawn) (t' := tk) I2 hP (fun b u hb e => hx b u hb e) hP3 I2.bare
    generalize eG : upd H2 P (.tbl (ps ++ more)) = G3 at J3
    have off : ∀ b, b ≠ P → G3 b = H2 b := fun b hb => by rw [← eG]; exact upd_ne hb
    have tabbed : GxR.Tabbed P H2 G3 := ⟨⟨ps ++ more, by rw [← eG]; exact upd_same, htr3⟩, off⟩
    have fpP : ∀ b ∈ fp, b ≠ P := fun b hb w => by
      have q := (fp2 b hb).1
      rw [w, hP] at q
      cases q
    have at3 : tn 0 h3 := T.keep _ _ _ at2 fun b hb o e => hx b o (fpP b hb) e
    have fp3 : ∀ b ∈ fp, FpOk X pins G3 b ∧ b < h3.objs.size := fun b hb => by
      obtain ⟨o, e, _⟩ := T.obj _ _ at2 b hb
      exact ⟨⟨by rw [off b (fpP b hb)]; exact (fp2 b hb).1, (fp2 b hb).2⟩, Nat.lt_of_lt_of_le (Heap.lt_size e) hsz⟩
    obtain ⟨W, ⟨m0, w0⟩, turns⟩ := want G3 tabbed
    generalize ez : ({ s2 with heap := h3, toks := tk } : Shared) = z3 at J3 hn hsb ⊢
    have ezh : z3.heap = h3 := by rw [← ez]
    have J3' : Inv X pins σ G3 z3 := J3
    have fp3' : ∀ b ∈ fp, FpOk X pins G3 b ∧ b < z3.heap.objs.size := by rw [ezh]; exact fp3
    have ov : (X.A.in1.in1.over (.compLoop (genC elt tg iter ifs scope gpos) 0 (.ref it) .none (genEnv scope (cloFrom X.env.cells scope.names []) z3.heap.objs.size code builtinsNs X.env)) []).frames = some (genEnv scope (cloFrom X.env.cells scope.names []) z3.heap.objs.size code builtinsNs X.env :: X.stack) := by
      simp only [Around.over, in1_frames', I.ok.frames]
      rfl
    have oh : (X.A.in1.in1.over (.compLoop (genC elt tg iter ifs scope gpos) 0 (.ref it) .none (genEnv scope (cloFrom X.env.cells scope.names []) z3.heap.objs.size code builtinsNs X.env)) []).handled = none := hr.hd
    have orm : Room k (X.A.in1.in1.over (.compLoop (genC elt tg iter ifs scope gpos) 0 (.ref it) .none (genEnv scope (cloFrom X.env.cells scope.names []) z3.heap.objs.size code builtinsNs X.env)) []) := by
      refine ⟨hr.hd, ?_, ?_⟩
      · have := hr.dp
        show X.A.depth + 0 + 1 + 3 * k + 5 < recursionLimit
        omega
      · have := hr.un
        show X.A.units + 1 + 1 + 0 + 3 + 16 * k + 200 < cLine
        omega
    generalize eA : X.A.in1.in1.over (.compLoop (genC elt tg iter ifs scope gpos) 0 (.ref it) .none (genEnv scope (cloFrom X.env.cells scope.names []) z3.heap.objs.size code builtinsNs X.env)) [] = Ag at ov oh orm
    have I4 := gen_start (go := { cls := .type "generator", data := .fields #[.int z3.gens.size 0, .str "<genexpr>" (z3.toks + 1), .str (X.env.qual ++ "<genexpr>") (z3.toks + 1 + 1)] })
      (gs := .fresh (.compStart (genC elt tg iter ifs scope gpos) 0 (.ref it) .none (genEnv scope (cloFrom X.env.cells scope.names []) z3.heap.objs.size code builtinsNs X.env))) (tk := z3.toks + 1 + 1 + 1) J3' ok nd oh ov fp3' rfl (fun v w => nomatch w) hn hsb Bool.false_ne_true
    have kept : ∀ b o, z3.heap.get? b = some o → (h'.push { cls := .type "generator", data := .fields #[.int z3.gens.size 0, .str "<genexpr>" (z3.toks + 1), .str (X.env.qual ++ "<genexpr>") (z3.toks + 1 + 1)] }).get? b = some o :=
      fun b o e => Heap.get?_push_of_some _ (hsb.extBut b o (Nat.ne_of_lt (Heap.lt_size e)) (Heap.get?_push_of_some _ e))
    have n3 : ∀ b ∈ fp, G3 b = none := fun b hb => (fp3' b hb).1.1
    have ha : (h'.push { cls := .type "generator", data := .fields #[.int z3.gens.size 0, .str "<genexpr>" (z3.toks + 1), .str (X.env.qual ++ "<genexpr>") (z3.toks + 1 + 1)] }).get? h'.objs.size = some { cls := .type "generator", data := .fields #[.int z3.gens.size 0, .str "<genexpr>" (z3.toks + 1), .str (X.env.qual ++ "<genexpr>") (z3.toks + 1 + 1)] } := Heap.get?_push_size _ rfl
    refine hQ (genX X Ag z3 G3 (genEnv scope (cloFrom X.env.cells scope.names []) z3.heap.objs.size code builtinsNs X.env) fp) h'.objs.size _ z3.gens.size (m0 + 1) _ rfl rfl (fun s e => ⟨_, _, _, e, rfl, rfl, rfl⟩)
      ⟨⟨_, _, I4⟩, _, Array.getElem?_push_size .., rfl, seg_first (Xg := genX X Ag z3 G3 (genEnv scope (cloFrom X.env.cells scope.names []) z3.heap.objs.size code builtinsNs X.env) fp) rfl ok.co eA T (hg ..) (ht _ _ _ _ _ _ _ orm) (he _ _ _ _ _ _ _ orm) (fun _ _ w => w) (fun b hb => ⟨hb, fun p hp w => ?_⟩) turns m0 (m0 + 1) G3 _ _ (Nat.lt_succ_self _) (Inv.bared I4 (allBare_setGen I4.bare rfl)) (T.keep _ _ _ at3 fun b hb o e => kept b o (by rw [ezh]; exact e)) n3 w0⟩
      (fun τ G s1 J => J3'.call' (ch := fp) J.os J.base J.hok J.bare fun b hb => ⟨(fp3' b hb).1.2.2.2.1, (fp3' b hb).1.2.1, (fp3' b hb).1.2.2.2.2.1, (fp3' b hb).1.2.2.2.2.2⟩) ha
    have hp : p ∈ [(h'.objs.size, _)] := hp
    rw [List.mem_singleton] at hp
    subst hp
    have w : h'.objs.size = b := w
    have lt := (fp3' b hb).2
    have sz : h'.objs.size = z3.heap.objs.size + 1 := by rw [hsb.1, Heap.size_push]
    rw [← w, sz] at lt
    exact absurd lt (Nat.not_lt_of_le (Nat.le_succ _))
  cases hf : codeAmong gpos ps.toList with
  | none =>
    refine wpAny_genexprCodeX hcode (cd.code hPs htr) (cd.tab hPs) hf fun c' h' tk hx hge hlt hco' _ htab' _ => ?_
    obtain ⟨o1, vs, f1, tf, fl, tg, inF, tx, tt, op, _, _, _, _, _, _, _, _, _, ht2, _⟩ := hco'
    exact cont _ h' tk _ hx (Nat.le_trans hge (Nat.le_of_lt hlt)) htab'.2 ht2
  | some cv =>
    refine wpAny_genexprCode_hit hcode (cd.code hPs htr) hf ?_
    exact cont cv s2.heap s2.toks #[] (Heap.ExtBut.refl _ _) (Nat.le_refl _) (by simpa using hPs) (by simpa using htr)

section
variable (calm : X.calm = true) (hr : Room (k + 1) X.A) (nd : X.N.Nodup) (TB : GxR.TabB X.base X.mg c P) (hcode : X.env.code = .ref c) (ok : GenB X.N X.env.scope scope own) (hi : PI X tg iter wi)
  (hg : ∀ (A : Around) (z : Shared) (G : Hp) (cl : List (Str × Addr)) (C : Addr) (cd : Value) (fp : List Addr), PG (genX X A z G (genEnv scope cl C cd builtinsNs X.env) fp) tg g)
  (ht : ∀ (A : Around) (z : Shared) (G : Hp) (cl : List (Str × Addr)) (C : Addr) (cd : Value) (fp : List Addr), Room k A → PTs (genX X A z G (genEnv scope cl C cd builtinsNs X.env) fp) ifs tt)
  (he : ∀ (A : Around) (z : Shared) (G : Hp) (cl : List (Str × Addr)) (C : Addr) (cd : Value) (fp : List Addr), Room k A → PE (genX X A z G (genEnv scope cl C cd builtinsNs X.env) fp) elt te)
  (hs : ∀ v, genFold iter X.env v = pure v)
include calm hr nd TB hcode ok hi hg ht he hs
theorem pe_anyG {p pos : Pos} (gl : Gl X "any") (hm : X.mg "any" = none) (hst : starEach [genC elt tg iter ifs scope gpos] X.env = (false, eval (genC elt tg iter ifs scope gpos) X.env) :: starEach [] X.env := by rfl) :
    PE X (.Call (.Name "any" p) [genC elt tg iter ifs scope gpos] [] pos) (tGen P true wi g tt te (own.map (·.2))) := by
  refine ⟨fun pins s σ H Q I h => wpAny_Call_Name_kw (ld_blt I gl hm boot_any ?_)⟩
  refine PyProof.Rows.callWith_builtin1 ?_ hst (by rfl)
  rw [hst]
  show wpAny _ _ (spliced ((false, eval (genC elt tg iter ifs scope gpos) X.env) :: backTo pos (starEach [] X.env))) _ _ s
  refine Calls.spliced_cons (gen_made calm hr nd TB hcode ok hi hg ht he hs I h fun Xg a go gn n s' e1 e2 isg sl back ha => Calls.spliced_nil ?_)
  refine call_function_tree F.kind_any F.plain_any F.entry_any (F.args_any1 _) ?_
  unfold Builtin.«any»
  refine wpAny_bind (m := oneArg "any" _) (wpAny_pure (wpAny_bind (wpAny_pyIter_gen (isg _ ha) (wpAny_pure ⟨plainId_quiet F.plain_any_loop _, ?_⟩))))
  have run := any_turns (R := fun r s' => match r with | .ok (.ret v) => (∃ x H', Inv X pins σ H' s' ∧ RelV x v ∧ Q x H') | .ok _ => False | .error e => X.xe e s') hr.hd (by have := hr.dp; omega) isg (fun b τ G s1 J q => ⟨.bl b, G, back τ G s1 J, rfl, ?_⟩) rfl n s' sl
  · rw [e1, e2] at run
    exact run
  · cases b
    · rwa [if_neg Bool.false_ne_true] at q
    · rwa [if_pos rfl] at q
theorem pe_allG {p pos : Pos} (gl : Gl X "all") (hm : X.mg "all" = none) (hst : starEach [genC elt tg iter ifs scope gpos] X.env = (false, eval (genC elt tg iter ifs scope gpos) X.env) :: starEach [] X.env := by rfl) :
    PE X (.Call (.Name "all" p) [genC elt tg iter ifs scope gpos] [] pos) (tGen P false wi g tt te (own.map (·.2))) := by
  refine ⟨fun pins s σ H Q I h => wpAny_Call_Name_kw (ld_blt I gl hm boot_all ?_)⟩
  refine PyProof.Rows.callWith_builtin1 ?_ hst (by rfl)
  rw [hst]
  show wpAny _ _ (spliced ((false, eval (genC elt tg iter ifs scope gpos) X.env) :: backTo pos (starEach [] X.env))) _ _ s
  refine Calls.spliced_cons (gen_made calm hr nd TB hcode ok hi hg ht he hs I h fun Xg a go gn n s' e1 e2 isg sl back ha => Calls.spliced_nil ?_)
  refine call_function_tree F.kind_all F.plain_all F.entry_all (F.args_all1 _) ?_
  unfold Builtin.«all»
  refine wpAny_bind (m := oneArg "all" _) (wpAny_pure (wpAny_bind (wpAny_pyIter_gen (isg _ ha) (wpAny_pure ⟨plainId_quiet F.plain_all_loop _, ?_⟩))))
  have run := all_turns (R := fun r s' => match r with | .ok (.ret v) => (∃ x H', Inv X pins σ H' s' ∧ RelV x v ∧ Q x H') | .ok _ => False | .error e => X.xe e s') hr.hd (by have := hr.dp; omega) isg (fun b τ G s1 J q => ⟨.bl b, G, back τ G s1 J, rfl, ?_⟩) rfl n s' sl
  · rw [e1, e2] at run
    exact run
  · cases b
    · rwa [if_pos rfl] at q
    · rwa [if_neg Bool.noConfusion] at q
end
end
end Sq

set_option Elab.async false
set_option linter.all false
set_option maxRecDepth 100000
set_option maxHeartbeats 4000000
/-! Walks under any, all and dict comprehensions. -/
namespace Sq
open PySem PySem.Spec PyProof.Rows L2
section
variable {J : It} {n : Nat} {Gd : Hp → Prop} {Y : Nat → Hp → V → Hp → Prop} {g : TG} {tt : TT} {vs : List Nat} {σ : L2.St}
theorem gen_it (w : Walk J n Gd Y) {te : TE} {stop : Bool} {Qs Qe : Hp → Prop} {H2 : Hp} (Pv : Nat → Hp → Prop) (h0 : Pv 0 H2) (hG : ∀ i H, i ≤ n → Pv i H → Gd H)
    (hs : ∀ i x H H', i < n → Pv i H → Y i H x H' → g x (wipe σ vs) H' fun σ2 H2 => wipe σ2 vs = wipe σ vs ∧ tt σ2 H2 fun b H3 => if b = true then te σ2 H3 fun y H4 => ∃ c, y = .bl c ∧ if c = stop then Qs H4 else Pv (i + 1) H4 else Pv (i + 1) H3)
    (hd : ∀ H, Pv n H → Qe H) : ∃ W : Nat → Nat → Hp → Prop, (∃ m, W 0 m H2) ∧ genTurns J g tt te vs σ stop Qs Qe W := by
  refine ⟨fun i m H => m = n - i ∧ i ≤ n ∧ Pv i H, ⟨n, rfl, Nat.zero_le _, h0⟩, ?_⟩
  rintro i m H ⟨rfl, hi, p⟩
  by_cases lt : i < n
  · exact .inr ⟨w.goes i H lt (hG i H hi p), Pv (i + 1), fun H' p' => ⟨n - (i + 1), by omega, rfl, lt, p'⟩, fun x H' y => hs i x H H' lt p (w.yields i H x H' lt (hG i H hi p) y)⟩
  · obtain rfl : i = n := Nat.le_antisymm hi (Nat.le_of_not_lt lt)
    exact .inl ⟨w.stops H (hG i H hi p), hd H p⟩
theorem dct_it (w : Walk J n Gd Y) {o0 : HO} {tk tv : TE} {H1 : Hp} {D : Addr} {Qd : Hp → Prop} (Pv : Nat → Hp → Prop) (h0 : Pv 0 (upd H1 D o0)) (hG : ∀ i H, i ≤ n → Pv i H → Gd H)
    (hs : ∀ i x H H', i < n → Pv i H → Y i H x H' → g x (wipe σ vs) H' fun σ2 H2 => wipe σ2 vs = wipe σ vs ∧ tt σ2 H2 fun b H3 => if b = true then tk σ2 H3 fun y H4 => tv σ2 H4 fun z H5 => ∃ H6, DPut H5 D y z H6 ∧ Pv (i + 1) H6 else Pv (i + 1) H3)
    (hd : ∀ H, Pv n H → Qd H) : ∃ W : Nat → Nat → Hp → Prop, (∃ m, W 0 m (upd H1 D o0)) ∧ ∀ i m H, W i m H →
      (J.stop i H ∧ Qd H) ∨ (J.go i H ∧ ∃ Nx : Hp → Prop, (∀ H', Nx H' → ∃ m', m' < m ∧ W (i + 1) m' H') ∧ ∀ x H', J.yld i H x H' → g x (wipe σ vs) H' fun σ2 H2 => wipe σ2 vs = wipe σ vs ∧ tt σ2 H2 fun b H3 =>
        if b = true then tk σ2 H3 fun y H4 => tv σ2 H4 fun z H5 => ∃ H6, DPut H5 D y z H6 ∧ Nx H6 else Nx H3) := by
  refine ⟨fun i m H => m = n - i ∧ i ≤ n ∧ Pv i H, ⟨n, rfl, Nat.zero_le _, h0⟩, ?_⟩
  rintro i m H ⟨rfl, hi, p⟩
  by_cases lt : i < n
  · exact .inr ⟨w.goes i H lt (hG i H hi p), Pv (i + 1), fun H' p' => ⟨n - (i + 1), by omega, rfl, lt, p'⟩, fun x H' y => hs i x H H' lt p (w.yields i H x H' lt (hG i H hi p) y)⟩
  · obtain rfl : i = n := Nat.le_antisymm hi (Nat.le_of_not_lt lt)
    exact .inl ⟨w.stops H (hG i H hi p), hd H p⟩
end
end Sq

set_option Elab.async false
set_option linter.all false
set_option maxRecDepth 100000
set_option maxHeartbeats 4000000
/-! Cells: pairs of whole numbers as tuples, as keys; their order; min of a dict of cells. -/
namespace Sq
open PySem PySem.Spec PyProof.Rows L2
abbrev Cell := Int × Int
def cV (c : Cell) : List V := [.int c.1, .int c.2]
def cK (c : Cell) : List Key := [.inl c.1, .inl c.2]
theorem cK_V (c : Cell) : (cK c).map kV = cV c := rfl
theorem cV_int (c : Cell) : cV c = [c.1, c.2].map V.int := rfl
theorem cK_inj {c d : Cell} (h : cK c = cK d) : c = d := by
  obtain ⟨c1, c2⟩ := c
  obtain ⟨d1, d2⟩ := d
  have h : ([.inl c1, .inl c2] : List Key) = [.inl d1, .inl d2] := h
  simp only [List.cons.injEq, Sum.inl.injEq, and_true] at h
  rw [h.1, h.2]
theorem cV_inj {c d : Cell} (h : cV c = cV d) : c = d := by
  obtain ⟨c1, c2⟩ := c
  obtain ⟨d1, d2⟩ := d
  have h : ([.int c1, .int c2] : List V) = [.int d1, .int d2] := h
  simp only [List.cons.injEq, V.int.injEq, and_true] at h
  rw [h.1, h.2]
/-- the cell c stands at q -/
def At (H : Hp) (q : Addr) (c : Cell) : Prop := H q = some (.tup (cV c))
theorem At.new {H : Hp} {q p : Addr} {c : Cell} {o : HO} (h : At H q c) (hp : H p = none) : At (upd H p o) q c := by
  unfold At
  rw [upd_ne (ne_of_none h hp)]
  exact h
theorem At.off {H : Hp} {q p : Addr} {c : Cell} {o u : HO} (h : At H q c) (hp : H p = some u) (hu : ∀ xs, u ≠ .tup xs) : At (upd H p o) q c := by
  unfold At
  rw [upd_ne (ne_of h hp (fun e => hu _ e.symm))]
  exact h
theorem At.sqT {K : PySem.W.Frag} {H : Hp} {q : Addr} {c : Cell} (h : At H q c) : SqT K H q (cV c) := SqT.of h
/-- the cells' order -/
def cLt (a b : Cell) : Bool := decide (a.1 < b.1 ∨ (a.1 = b.1 ∧ a.2 < b.2))
theorem cLt_lex (a b : Cell) : HT.lexLt [a.1, a.2] [b.1, b.2] = cLt a b := by
  unfold cLt
  rw [HT.lexLt_cons, HT.lexLt_cons, HT.lexLt_nil_nil]
  by_cases h1 : a.1 = b.1
  · rw [if_pos h1]
    by_cases h2 : a.2 = b.2
    · rw [if_pos h2]
      exact (decide_eq_false (by omega)).symm
    · rw [if_neg h2]
      exact decide_eq_decide.mpr (by omega)
  · rw [if_neg h1]
    exact decide_eq_decide.mpr (by omega)
theorem cLt_irr (a : Cell) : cLt a a = false := decide_eq_false (by omega)
theorem cLt_trans {a b c : Cell} (h1 : cLt a b = true) (h2 : cLt b c = true) : cLt a c = true := by
  have h1 := of_decide_eq_true h1
  have h2 := of_decide_eq_true h2
  exact decide_eq_true (by omega)
theorem cLt_tri {a b : Cell} (h1 : cLt a b = false) (h2 : cLt b a = false) : a = b := by
  have h1 := of_decide_eq_false h1
  have h2 := of_decide_eq_false h2
  exact Prod.ext (by omega) (by omega)
theorem cLt_asym {a b : Cell} (h1 : cLt a b = true) : cLt b a = false := by
  have h1 := of_decide_eq_true h1
  exact decide_eq_false (by omega)
/-- the best by a relation that is not reflexive and carries over -/
theorem best_of {bt : Nat → Nat → Bool} (irr : ∀ i, bt i i = false) (tr : ∀ i j k, bt i j = true → bt j k = true → bt i k = true) : ∀ k, argBest bt k ≤ k ∧ ∀ i, i ≤ k → bt i (argBest bt k) = false
  | 0 => ⟨Nat.le_refl _, fun i hi => by
    obtain rfl : i = 0 := by omega
    exact irr 0⟩
  | k + 1 => by
    obtain ⟨h1, h2⟩ := best_of irr tr k
    unfold argBest
    by_cases hb : bt (k + 1) (argBest bt k) = true
    · rw [if_pos hb]
      refine ⟨Nat.le_refl _, fun i hi => ?_⟩
      rcases Nat.lt_or_ge k i with q | q
      · obtain rfl : i = k + 1 := by omega
        exact irr _
      · cases e : bt i (k + 1) with
        | false => rfl
        | true => exact absurd (tr _ _ _ e hb) (by rw [h2 i q]; exact Bool.false_ne_true)
    · rw [if_neg hb]
      refine ⟨Nat.le_succ_of_le h1, fun i hi => ?_⟩
      rcases Nat.lt_or_ge k i with q | q
      · obtain rfl : i = k + 1 := by omega
        exact Bool.eq_false_iff.mpr hb
      · exact h2 i q
section
variable {X : Cx}
/-- min(d), d a dict whose keys are cells, not empty -/
def rMinC : List V → Hp → VK → Prop := fun vs H Q => ∃ (a : Addr) (kvs : List (List Key × V)) (cs : List Cell), vs = [V.ref a] ∧ H a = some (.dT kvs) ∧ kvs.map (·.1) = cs.map cK ∧ cs ≠ [] ∧ ∀ c q, c ∈ cs → (∀ d ∈ cs, cLt d c = false) → At H q c → Q (.ref q) H
theorem cr_minC (calm : X.calm = true) (hu : X.A.units + 2 < cLine) : CallR X (.builtin "min") rMinC := by
  intro pins s σ H vs us Q I r h
  obtain ⟨a, kvs, cs, rfl, ha, hk, hne, q⟩ := h
  rw [Vals.ref1 r]
  obtain ⟨_, hsys, xs, rel, o, es, ep, ho, hx, hdat, hes, his, hn⟩ := dt_of I.hok ha
  have hlt : a < s.heap.objs.size := Heap.lt_size ho
  have lk : kvs.length = cs.length := by
    have e := congrArg List.length hk
    rwa [List.length_map, List.length_map] at e
  have lx : kvs.length = xs.length := Paired.length rel
  have le : es.size = xs.length := size_of_entries hes
  have pos : 0 < cs.length := List.length_pos_iff.mpr hne
  have item : ∀ (i : Nat) (v : Value), (∃ en : DictEntry, es[i]? = some en ∧ v = en.key) → ∃ (c : Cell) (b : Addr), cs[i]? = some c ∧ v = .ref b ∧ At H b c := by
    rintro i v ⟨en, hen, rfl⟩
    have e1 := entry_at hes i
    rw [hen] at e1
    cases hxi : xs[i]? with
    | none =>
      rw [hxi] at e1
      exact nomatch (show some en = none from e1)
    | some x =>
      rw [hxi] at e1
      have e2 : en = entryOfKey (tupleKind (mixKind X.prog X.w)) x := Option.some.inj e1
      obtain ⟨kv, hkv, r1, r2, _⟩ := DX.pget rel hxi
      have e3 : (kvs.map (·.1))[i]? = some kv.1 := by rw [List.getElem?_map, hkv]; rfl
      rw [hk, List.getElem?_map] at e3
      obtain ⟨c, hc, ec⟩ := Option.map_eq_some_iff.mp e3
      refine ⟨c, x.2.1, hc, by rw [e2]; rfl, ?_⟩
      have r2 : H x.2.1 = some (.tup (kv.1.map kV)) := r2
      unfold At
      rw [r2, ← ec, cK_V]
  have cmp : CmpIn X.prog X.w X.A.in1 .Lt s.heap (fun i v => ∃ en : DictEntry, es[i]? = some en ∧ v = en.key) (fun i j => cLt (cs.getD i (0, 0)) (cs.getD j (0, 0))) := by
    intro i j vi vj z Qz Ez keep hi hj hq
    obtain ⟨c, b, hc, rfl, hb⟩ := item i vi hi
    obtain ⟨d, b2, hd, rfl, hb2⟩ := item j vj hj
    have g1 : cs.getD i (0, 0) = c := by rw [List.getD_eq_getElem?_getD, hc]; rfl
    have g2 : cs.getD j (0, 0) = d := by rw [List.getD_eq_getElem?_getD, hd]; rfl
    have hq : Qz (Value.bool (cLt (cs.getD i (0, 0)) (cs.getD j (0, 0)))) z := hq
    rw [g1, g2, ← cLt_lex] at hq
    obtain ⟨its, rv, t1, _⟩ := I.tuple (At.sqT hb)
    obtain ⟨its2, rv2, t2, _⟩ := I.tuple (At.sqT hb2)
    have i1 : IntsAre its.toArray.toList [c.1, c.2] := L2.intsAre_of (by simpa [cV] using rv)
    have i2 : IntsAre its2.toArray.toList [d.1, d.2] := L2.intsAre_of (by simpa [cV] using rv2)
    exact HT.lt_tupInts (t1.keeps keep) (t2.keeps keep) i1 i2 (by show X.A.units + 1 < cLine; omega) hq
  refine call_min_walkH (iter_keys hsys ho hx hdat ?_)
  have W := walks_raw (prog := X.prog) (w := X.w) (A := X.A.in1) (I.ok.hd calm) s.heap.objs.size a (Nat.ne_of_lt hlt) hdat
  refine ⟨s.heap.objs.size, _, _, _, _, _, _, s.heap, _, rfl, W.toS, ⟨⟨_, Heap.get?_push_size _ rfl, rfl, rfl⟩, Heap.get?_push_of_some _ ho⟩, fun b hb => ?_, by rw [le, ← lx, lk]; exact pos, fun b u e hb => ?_, fun b u e => Heap.get?_push_of_some _ e, cmp, fun v s' hP mv => ?_⟩
  · show b < (s.heap.push _).objs.size
    rw [Heap.size_push]
    rcases List.mem_cons.mp hb with e | hb
    · rw [e]; exact Nat.lt_succ_self _
    · rw [List.mem_singleton.mp hb]; exact Nat.lt_succ_of_lt hlt
  · have e1 : b = s.heap.objs.size := List.mem_singleton.mp hb
    have e2 := Heap.lt_size e
    rw [e1] at e2
    exact absurd e2 (Nat.lt_irrefl _)
  · obtain ⟨c, b, hc, rfl, hb⟩ := item _ v hP
    obtain ⟨b1, b2⟩ := best_of (bt := fun i j => cLt (cs.getD i (0, 0)) (cs.getD j (0, 0))) (fun i => cLt_irr _) (fun i j k => cLt_trans) (es.size - 1)
    have gc : cs.getD (argBest (fun i j => cLt (cs.getD i (0, 0)) (cs.getD j (0, 0))) (es.size - 1)) (0, 0) = c := by rw [List.getD_eq_getElem?_getD, hc]; rfl
    have I2 : Inv X pins σ H s' := by
      obtain ⟨h', g', d', t', o'⟩ := s'
      obtain ⟨mh, mg, md, mo, _⟩ := mv
      have mo : o' = s.os := mo
      have md : d' = s.drawn := md
      have mg : g' = s.gens := mg
      subst mo md mg
      refine I.kept (t' := t') fun b u e => mh b u (fun hm => ?_) (Heap.get?_push_of_some _ e)
      have e1 : b = s.heap.objs.size := List.mem_singleton.mp hm
      have e2 := Heap.lt_size e
      rw [e1] at e2
      exact absurd e2 (Nat.lt_irrefl _)
    refine ⟨.ref b, H, I2, rfl, q c b (List.mem_of_getElem? hc) (fun d hd => ?_) hb⟩
    obtain ⟨i, hi⟩ := List.mem_iff_getElem?.mp hd
    have il : i < cs.length := (List.getElem?_eq_some_iff.mp hi).1
    have w := b2 i (by omega)
    have w : cLt (cs.getD i (0, 0)) (cs.getD (argBest (fun i j => cLt (cs.getD i (0, 0)) (cs.getD j (0, 0))) (es.size - 1)) (0, 0)) = false := w
    rw [gc, List.getD_eq_getElem?_getD, hi] at w
    exact w
end
end Sq

set_option Elab.async false
set_option linter.all false
set_option maxRecDepth 100000
set_option maxHeartbeats 4000000
/-! *d in a list display, d a dict whose keys are tuples. -/
namespace Sq
open PySem PySem.Spec PyProof.Rows L2
theorem collect_src {prog : Program} {w : World} {A : Around} {E : Value → Shared → Prop} {s : Shared} {T : String} {r d : Addr} {n : Nat} {P : Nat → Value → Prop} {OK : Heap → Prop} {Q : List Value → Shared → Prop}
    (K : PySem.W.KdlSrc prog w T r d n P OK) (calm : A.handled = none) (ok : OK s.heap) (hn : n ≤ sizeLine)
    (q : ∀ (h' : Heap) (tk : Nat) (acc : Array Value), (∀ b o, s.heap.get? b = some o → h'.get? b = some o) → ItemsOf P acc n → Q acc.toList { s with heap := h', toks := tk }) : wpAny (model prog w) A (collect (.ref r)) Q E s := by
  unfold collect
  refine wpAny_bind (wpAny_runValue (codeAny_builtin F.entry_proto_collect ?_))
  rw [Around.under_plainId F.plain_proto_collect _]
  show wpAny _ A.in1 (newList [] >>= fun l => again (.builtin "list.__iadd__" ⟨[l, .ref r], []⟩)) _ _ s
  refine wpAny_bind (wpAny_newObj_type (wpAny_pure ⟨plainId_quiet F.plain_list_iadd _, codeAny_builtin F.entry_list_iadd ?_⟩))
  rw [Around.under_plainId F.plain_list_iadd _]
  have at0 : (s.heap.push { cls := .type "list", data := .seq ([] : List Value).toArray }).get? s.heap.objs.size = some { cls := .type "list", data := .seq #[] 0 } := Heap.get?_push_size _ rfl
  have lt := K.there _ ok
  have grow : ∀ b o, s.heap.get? b = some o → (s.heap.push { cls := .type "list", data := .seq ([] : List Value).toArray }).get? b = some o := fun b o e => Heap.get?_push_of_some _ e
  show wpAny _ A.in1 (Builtin.List.listExtendWith (.ref s.heap.objs.size) (.ref r) (.ref s.heap.objs.size)) _ _ _
  refine wpAny_mono (PySem.W.kdl_extend (A := A) (R := fun rr z => rr = .ok (.ret (.ref s.heap.objs.size)) ∧ ∃ (h' : Heap) (tk : Nat) (acc : Array Value) (c' : Nat), z = { s with heap := h', toks := tk } ∧
      (∀ b o, s.heap.get? b = some o → h'.get? b = some o) ∧ h'.get? s.heap.objs.size = some { cls := .type "list", dict := none, data := .seq acc c', slots := #[] } ∧ ItemsOf P acc n)
    (s := { s with heap := s.heap.push { cls := .type "list", data := .seq ([] : List Value).toArray } }) K calm (K.keep _ _ ok fun b _ o e => grow b o e) s.heap.objs.size (Nat.ne_of_gt lt.1) (Nat.ne_of_gt lt.2) _ 0 at0
    (fun h' tk acc c' hk e hi => ⟨rfl, h', tk, acc, c', rfl, fun b o z => hk b o (Nat.ne_of_lt (Heap.lt_size z)) (grow b o z), e, hi⟩) hn) (fun fin z h => ?_) fun e z h => absurd h.1 (by simp)
  cases fin with
  | done f =>
    obtain ⟨ef, h', tk, acc, c', rfl, hk, hS, hi⟩ := h
    cases ef
    show wpAny _ A (load s.heap.objs.size >>= _) _ _ _
    exact wpAny_bind (wpAny_load hS (wpAny_pure (q h' tk acc hk hi)))
  | again c' =>
    refine ⟨h.1, codeAny_mono h.2 fun rr z' hr' => ?_⟩
    obtain ⟨rfl, h', tk, acc, c', rfl, hk, hS, hi⟩ := hr'
    show wpAny _ A (load s.heap.objs.size >>= _) _ _ _
    exact wpAny_bind (wpAny_load hS (wpAny_pure (q h' tk acc hk hi)))
section
variable {X : Cx} {pins : List (Addr × Obj)} {σ : L2.St} {H : Hp} {s : Shared}
theorem star_keys (calm : X.calm = true) {a : Addr} {kvs : List (List Key × V)} {E : Value → Shared → Prop} {Q : List Value → Shared → Prop} (I : Inv X pins σ H s) (ha : Rd H a (.dT kvs))
    (q : ∀ bs z, Inv X pins σ H z → IsKeys H kvs bs → Q (bs.map Value.ref) z) : PySem.W.StarOf (model X.prog X.w) X.A E (.ref a) Q s := by
  obtain ⟨z, hs, ks, pr, o, es, ep, ho, hx, hdt, he, hn⟩ := (show ObjOk X.prog X.w H s.heap a (.dT kvs) from ha.ok I.hok)
  have l1 : es.size = ks.length := size_of_entries he
  have l2 : kvs.length = ks.length := Paired.length pr
  have hT : s.TypeIs (.ref a) "dict" := ⟨o, ho, hx.1⟩
  unfold PySem.W.StarOf notIterableAtAll
  refine wpAny_bind (wpAny_specialOf hT PySem.F.slot_dict_iter.lookup (wpAny_pure ⟨rfl, ?_⟩))
  refine collect_src (kdl_raw hs hx hdt) (I.ok.hd calm) ho (by omega) fun h' tk acc hk it => ?_
  have ea : acc.toList = (ks.map fun x => x.2.1).map Value.ref := by
    rw [List.map_map]
    refine List.ext_getElem? fun j => ?_
    rw [List.getElem?_map]
    have hl : acc.toList.length = ks.length := by rw [Array.length_toList, it.1, l1]
    cases hj : acc.toList[j]? with
    | none =>
      rw [List.getElem?_eq_none (by have := List.getElem?_eq_none_iff.mp hj; omega)]
      rfl
    | some v =>
      obtain ⟨en, hen, hv⟩ := it.2 j v (by rw [← Array.getElem?_toList]; exact hj)
      have e1 := entry_at he j
      rw [hen] at e1
      cases hb : ks[j]? with
      | none =>
        rw [hb] at e1
        exact nomatch (show some en = none from e1)
      | some b =>
        rw [hb] at e1
        have e2 : en = entryOfKey (tupleKind (mixKind X.prog X.w)) b := Option.some.inj e1
        rw [hv, e2]
        rfl
  rw [ea]
  exact q _ _ (I.kept (t' := tk) hk) (isKeys_of pr)
/-- *e in a display: the keys of a dict whose keys are tuples -/
def tStarD (te : TE) (t : TA) : TA := fun σ H Q => te σ H fun x H1 => ∃ a kvs, x = V.ref a ∧ Rd H1 a (.dT kvs) ∧ ∀ bs, IsKeys H1 kvs bs → t σ H1 fun ys H2 => Q (bs.map V.ref ++ ys) H2
theorem pa_starD {e : Expr} {es : List Expr} {te : TE} {t : TA} {p : Pos} (calm : X.calm = true) (he : PE X e te) (hr : PA X es t) (hst : starEach (.Starred e p :: es) X.env = (true, eval e X.env) :: starEach es X.env := by rfl) : PA X (.Starred e p :: es) (tStarD te t) := by
  refine ⟨fun pos pins s σ H Q I h => PySem.W.items_star (thn (he.run pins s σ H _ I h) fun v s1 ⟨y, H1, I1, ry, a, kvs, ey, hx, q⟩ => ?_) hst⟩
  subst ey
  obtain rfl : v = Value.ref a := ry
  refine star_keys calm I1 hx fun bs s2 I2 kb => ?_
  exact thn (hr.run pos pins s2 σ H1 _ I2 (q bs kb)) fun ws s3 ⟨vs, H3, I3, r3, q3⟩ => ⟨bs.map V.ref ++ vs, H3, I3, (vals_refs bs).append r3, q3⟩
end
end Sq

set_option Elab.async false
set_option linter.all false
set_option maxRecDepth 100000
set_option maxHeartbeats 4000000
/-! d.pop(k), the key a tuple that is there. -/
namespace Sq
open PySem PySem.Spec PyProof.Rows L2
def rPopC : V → List V → Hp → VK → Prop := fun x xs H Q => ∃ (a : Addr) (kvs : List (List Key × V)) (k : List Key) (b : Addr) (v : V), x = .ref a ∧ xs = [.ref b] ∧ H a = some (.dT kvs) ∧ H b = some (.tup (k.map kV)) ∧ valV kvs k = some v ∧ Q v (upd H a (.dT (dropK kvs k)))
theorem mt_popC {X : Cx} (hu : X.A.units + 1 < cLine) : MtR X "dict.pop" rPopC := by
  intro pins s σ H x xs v us Q I rx rxs h
  obtain ⟨a, kvs, k, b, w, rfl, rfl, ha, hb, hv, q⟩ := h
  cases rx
  obtain ⟨u1, rfl, r1⟩ := vals1 rxs
  cases r1
  obtain ⟨z, hsys, ys, rel, dd⟩ := dt_of I.hok ha
  have hz : ys.length ≤ sizeLine := by rw [← Paired.length rel]; exact z
  have r := rel.val k
  rw [hv] at r
  cases ep : atKey ys k with
  | none =>
    rw [ep] at r
    exact r.elim
  | some p =>
    rw [ep] at r
    refine call_pop_heap (hsz := hz) (more := []) (.inl rfl) (PySem.F.args_dict_pop_2 _ _) (tupleKind_room_in1 hu) (key_of I.hok hb) hsys dd ep fun h' dd' same => ?_
    obtain ⟨o2, en, e0, eo, c2, c3, c4, c5, c6⟩ := dd'
    refine ⟨w, _, d_write (ob := .dT (dropK kvs k)) I (by rw [ha]; exact True.intro) same ⟨o2, eo⟩ ⟨Nat.le_trans (dropK_le kvs k) z, hsys, _, (DX.KT_drop k rel).keeps fun c ws ec => ?_, o2, en, e0, eo, c2, c3, c4, c6⟩, r, q⟩
    rw [upd_ne (ne_of ec ha (fun t => nomatch t))]
    exact ec
end Sq

set_option Elab.async false
set_option linter.all false
set_option maxRecDepth 100000
set_option maxHeartbeats 4000000
/-! raise C(e, ..), C an error that keeps its parameters. -/
namespace Sq
open PySem PySem.Spec PyProof.Rows L2
def tRz (C : Addr) (ns : List Str) (ta : TA) : L2.St → Hp → XK → Prop := fun σ H Q => ta σ H fun vs H1 => vs.length = ns.length ∧ ns ≠ [] ∧ ∀ d, H1 d = none → Q (.ref C) (some d) (upd H1 d (.xd (ns.zip vs).reverse))
section
variable {X : Cx} {C fI : Addr} {ns : List Str}
theorem mk_err {pins : List (Addr × Obj)} {σ : L2.St} {H : Hp} {s : Shared} {us : List Value} {vs : List V} {Q : XK} (T : SErr X.prog X.K C fI ns) (rz : Raises X (.ref C)) (hr : Room 1 X.A) (I : Inv X pins σ H s) (r : Vals vs us) (hl : vs.length = ns.length) (ne : ns ≠ [])
    (q : ∀ d, H d = none → Q (.ref C) (some d) (upd H d (.xd (ns.zip vs).reverse))) : wpAny (model X.prog X.w) X.A (call (.ref C) us) (MkP X pins σ Q) X.xe s := by
  obtain ⟨nm, q0, N, bs, bm, sn, sub, ab, col, dd, k0, k1, k2, k3, k5, hC, hbm, _⟩ := T.cls
  obtain ⟨mb, hmb, hbb⟩ := I.mod.blt
  have hlim := I.nolimit
  have hul : us.length = ns.length := by rw [← r.length]; exact hl
  have hdp := hr.dp
  obtain ⟨hp, g, dr, tk, os⟩ := s
  generalize e2 : (hp.push (PySem.W.kdv_tup us)).push (PySem.HandSPX.excO C hp.objs.size) = hp2
  have kk : ∀ b o, hp.get? b = some o → hp2.get? b = some o := fun b o e => by rw [← e2]; exact Heap.get?_push_of_some _ (Heap.get?_push_of_some _ e)
  have hget : hp2.get? (hp.objs.size + 1) = some (PySem.HandSPX.excO C hp.objs.size) := by rw [← e2]; heap_get
  have sz2 : hp2.objs.size = hp.objs.size + 2 := by rw [← e2, Heap.size_push, Heap.size_push]
  have KX : X.K.In hp := I.kIn
  have hKx : X.K.lookup (hp.objs.size + 1) = none := by
    cases e : X.K.lookup (hp.objs.size + 1) with
    | none => rfl
    | some o => exact absurd (Nat.lt_of_succ_lt (Heap.lt_size (KX _ _ e))) (Nat.lt_irrefl _)
  have hus : us.length ≤ sizeLine := by
    have := T.len
    rw [hul, sizeLine_eq]
    omega
  refine wpAny_call (PySem.HandSPX.call_own F.excBase_ValueError (fun Y => PySem.HandSPX.refsVE_contains Y bm hbm) (KX _ _ hC) (PySem.W.looks_findIn KX T.iC) (fun self => PySem.W.bind_fn KX self T.tI) hus ?_)
  rw [e2]
  refine init_run (s := ⟨hp2, g, dr, tk, os⟩) (mg := X.mg) (mb := mb) T (PySem.W.Frag.In.keeps KX kk) hKx (I.mod.glob.keeps fun b o e => kk b o (I.bk b o e)) (hmb.keeps fun b o e => kk b o (I.bk b o e))
    ((hbb _ (by decide +kernel)).trans (by first | boot_by_name | kernel_rfl)) (hlim.keeps kk) hget hul (by show X.A.depth + 1 < recursionLimit; omega) (fun h' tk' Z => ⟨rfl, ?_⟩)
  have na : H (hp.objs.size + 1) = none := I.hok.fresh (Nat.le_succ _)
  obtain ⟨t1, ⟨e, _⟩ | ⟨dx, _, d1, d2, d3, d4⟩⟩ := Z.obj
  · have z := congrArg List.length e
    rw [List.length_reverse, List.length_zip, hul, Nat.min_self] at z
    exact absurd (List.length_eq_zero_iff.mp z) ne
  have d1 : hp2.objs.size ≤ dx := d1
  have d1' : hp.objs.size ≤ dx := by
    rw [sz2] at d1
    exact Nat.le_trans (Nat.le_add_right _ 2) d1
  have nd : H dx = none := I.hok.fresh d1'
  have old : ∀ b o, hp.get? b = some o → h'.get? b = some o := fun b o e => Z.keep b o (Nat.ne_of_lt (Nat.lt_succ_of_lt (Heap.lt_size e))) (kk b o e)
  have ob1 : HOk X.prog X.w (upd H dx (exd dx (ns.zip vs).reverse)) h' := I.hok.laid old d1' (exd_ok d4 (rev_rel ns r))
  have na' : upd H dx (exd dx (ns.zip vs).reverse) (hp.objs.size + 1) = none := by
    rw [upd_ne (Ne.symm d2)]
    exact na
  have ob2 : HOk X.prog X.w (upd (upd H dx (exd dx (ns.zip vs).reverse)) (hp.objs.size + 1) (exo (hp.objs.size + 1) C (some dx))) h' := ob1.laidN (fun _ _ q => q) na' (exo_ok d3)
  have nedx : ∀ b o, hp2.get? b = some o → b ≠ dx := fun b o e z => by
    rw [z] at e
    exact absurd (Heap.lt_size e) (Nat.not_lt_of_le d1)
  have same : ∀ b, b ≠ hp.objs.size + 1 → b ≠ dx → upd (upd H dx (exd dx (ns.zip vs).reverse)) (hp.objs.size + 1) (exo (hp.objs.size + 1) C (some dx)) b = H b := fun b h1 h2 => by rw [upd_ne h1, upd_ne h2]
  have was : ∀ b u, upd H (hp.objs.size + 1) (exo (hp.objs.size + 1) C none) b = some u → (∀ dd, u ≠ exo (hp.objs.size + 1) C dd) → b ≠ hp.objs.size + 1 ∧ b ≠ dx ∧ H b = some u := fun b u e hu => by
    have h1 : b ≠ hp.objs.size + 1 := fun z => by
      rw [z, upd_same] at e
      exact hu _ (Option.some.inj e).symm
    rw [upd_ne h1] at e
    exact ⟨h1, fun z => (by rw [z, nd] at e; cases e), e⟩
  have un : Un (frs X.stack) [] (upd H (hp.objs.size + 1) (exo (hp.objs.size + 1) C none)) (upd (upd H dx (exd dx (ns.zip vs).reverse)) (hp.objs.size + 1) (exo (hp.objs.size + 1) C (some dx))) hp2 h' := by
    have neA : ∀ b, upd H (hp.objs.size + 1) (exo (hp.objs.size + 1) C none) b = none → b ≠ hp.objs.size + 1 := fun b n z => by
      rw [z, upd_same] at n
      cases n
    refine ⟨fun b o e n _ _ => Z.keep b o (neA b n) e, fun b o e n _ _ => ⟨o.slots, Z.keep b o (neA b n) e⟩, fun b o e n _ => ?_, fun b o e _ => ?_, fun b xs e => ?_, fun b o u e => ?_, fun b ps e => ?_⟩
    · rw [same b (neA b n) (nedx b o e), ← n, upd_ne (neA b n)]
    · by_cases hb : b = hp.objs.size + 1
      · rw [hb]
        exact ⟨_, d3⟩
      · exact ⟨o, Z.keep b o hb e⟩
    · obtain ⟨h1, h2, h3⟩ := was b _ e fun dd z => exo_tup z.symm
      rw [same b h1 h2, h3]
    · obtain ⟨h1, h2, h3⟩ := was b _ e fun dd z => exo_frz z.symm
      rw [same b h1 h2, h3]
    · obtain ⟨h1, h2, h3⟩ := was b _ e fun dd z => exo_tbl z.symm
      exact ⟨#[], by rw [same b h1 h2, h3]; simp⟩
  refine mk_end rz I (Nat.le_succ _) kk un ob2 rfl I.bare upd_same (by rw [upd_ne d2]; exact upd_same) nd ?_
  have eH : upd (del (upd (upd H dx (exd dx (ns.zip vs).reverse)) (hp.objs.size + 1) (exo (hp.objs.size + 1) C (some dx))) (hp.objs.size + 1)) dx (.xd (ns.zip vs).reverse) = upd H dx (.xd (ns.zip vs).reverse) := by
    funext b
    by_cases hb : b = dx
    · rw [hb, upd_same, upd_same]
    · rw [upd_ne hb, upd_ne hb]
      by_cases ha : b = hp.objs.size + 1
      · rw [ha, del_same, na]
      · rw [del_ne ha, same b ha hb]
  rw [eH]
  exact q dx nd
theorem pmk_err {x : Str} {e : Expr} {es : List Expr} {ta : TA} {p pos : Pos} (T : SErr X.prog X.K C fI ns) (rz : Raises X (.ref C)) (hr : Room 1 X.A) (hm : X.mg x = some (.ref C)) (ha : PA X (e :: es) ta) (hg : Gl X x := by rfl)
    (hdb : (x == ("__debug__" : Str)) = false := by decide) (he : starEach (e :: es) X.env = (false, eval e X.env) :: starEach es X.env := by rfl) (hpl : (backTo pos (starEach es X.env)).any (·.1) = false := by rfl) :
    PMk X (.Call (.Name x p) (e :: es) [] pos) (tRz C ns ta) := by
  intro pins s σ H Q I h
  refine wpAny_Call_Name_kw (ld_glob I hg hm ?_ hdb)
  exact PySem.W.callWith_K (h₀ := X.base) I.ok.mod.kin T.kC (thn (ha.run pos pins s σ H _ I h) fun us s1 ⟨vs, H1, I1, r1, hl, ne, q1⟩ => ⟨I1.kIn, mk_err T rz hr I1 r1 hl ne q1⟩) he hpl
end
end Sq

set_option Elab.async false
set_option linter.all false
set_option maxRecDepth 100000
set_option maxHeartbeats 4000000
/-! {k: v}, one pair, the key of any kind. -/
namespace Sq
open PySem PySem.Spec PyProof.Rows L2
def tDisp1 (o0 : HO) (tk tv : TE) : TE := fun σ H Q => ∀ p, H p = none → tk σ (upd H p o0) fun x H1 => tv σ H1 fun y H2 => ∃ H3, DPut H2 p x y H3 ∧ Q (.ref p) H3
def onePair (q : V → V → Hp → Prop) : List (V × V) → Hp → Prop
  | [p], H => q p.1 p.2 H
  | _, _ => False
theorem onePair_of {q : V → V → Hp → Prop} {H : Hp} : ∀ {ps : List (V × V)}, onePair q ps H → ∃ x y, ps = [(x, y)] ∧ q x y H
  | [p], h => ⟨p.1, p.2, rfl, h⟩
theorem pe_disp1 {X : Cx} {o0 : HO} {k v : Expr} {pos : Pos} {tk tv : TE} (ho : o0 = .dK [] ∨ o0 = .dT []) (hu : X.A.units + 1 < cLine) (hk : PE X k tk) (hv : PE X v tv) : PE X (.Dict [some k] [v] pos) (tDisp1 o0 tk tv) := by
  refine ⟨fun pins s σ H Q I h => ?_⟩
  have fresh := I.hok.fresh (Nat.le_refl s.heap.objs.size)
  have I1 : Inv X pins σ (upd H s.heap.objs.size o0) { s with heap := s.heap.push { cls := .type "dict", data := .dict #[] } } := by
    refine I.laid (t' := s.toks) (fun _ _ q => Heap.get?_push_of_some _ q) (Nat.le_refl _) ?_
    rcases ho with rfl | rfl
    · exact dk_empty s.heap I.big
    · exact dt_empty s.heap I.big
  refine wpAny_Dict_any rfl rfl (List.cons_ne_nil _ _) (by show 1 ≤ 15; decide) ?_
  refine thn ((pps_cons hk hv pps_nil).run pins _ σ _ (onePair fun x y H2 => ∃ H3, DPut H2 s.heap.objs.size x y H3 ∧ Q (.ref s.heap.objs.size) H3) I1 (h _ fresh)) fun vs z hz => ?_
  obtain ⟨ps, H2, I2, rel, q⟩ := hz
  obtain ⟨x, y, rfl, H3, put, q⟩ := onePair_of q
  cases rel with
  | cons rr r0 =>
    cases r0
    unfold storeAll
    rw [List.forIn_cons]
    refine wpAny_bind (wpAny_bind (dc_put hu I2 put rr.1 rr.2 fun z' I3 => wpAny_pure ?_))
    show wpAny _ _ (forIn ([] : List (Value × Value)) PUnit.unit _) _ _ _
    rw [List.forIn_nil]
    exact wpAny_pure ⟨.ref s.heap.objs.size, H3, I3, rfl, q⟩
end Sq

set_option Elab.async false
set_option linter.all false
set_option maxRecDepth 100000
set_option maxHeartbeats 4000000
/-! The mathematics of hanging together. -/
namespace Sq
/-- the four beside a cell -/
def besideC (c : Cell) : List Cell := [(c.1 - 1, c.2), (c.1, c.2 - 1), (c.1 + 1, c.2), (c.1, c.2 + 1)]
theorem beside_iff {c d : Cell} : d ∈ besideC c ↔ (d.1 = c.1 - 1 ∧ d.2 = c.2) ∨ (d.1 = c.1 ∧ d.2 = c.2 - 1) ∨ (d.1 = c.1 + 1 ∧ d.2 = c.2) ∨ (d.1 = c.1 ∧ d.2 = c.2 + 1) := by
  obtain ⟨c1, c2⟩ := c
  obtain ⟨d1, d2⟩ := d
  simp [besideC]
theorem beside_symm {c d : Cell} (h : d ∈ besideC c) : c ∈ besideC d := by
  rw [beside_iff] at h ⊢
  omega
theorem beside_ne {c d : Cell} (h : d ∈ besideC c) : d ≠ c := fun e => by
  subst e
  rw [beside_iff] at h
  omega
/-- what is reached from a within L -/
inductive Reach (L : List Cell) (a : Cell) : Cell → Prop where
  | refl : Reach L a a
  | step {b c : Cell} : Reach L a b → c ∈ besideC b → c ∈ L → Reach L a c
theorem Reach.trans {L : List Cell} {a b c : Cell} (h : Reach L a b) (k : Reach L b c) : Reach L a c := by
  induction k with
  | refl => exact h
  | step _ hb hc ih => exact .step ih hb hc
theorem Reach.mem {L : List Cell} {a b : Cell} (h : Reach L a b) (ha : a ∈ L) : b ∈ L := by
  cases h with
  | refl => exact ha
  | step _ _ hc => exact hc
theorem Reach.symm {L : List Cell} {a b : Cell} (h : Reach L a b) (ha : a ∈ L) : Reach L b a := by
  induction h with
  | refl => exact .refl
  | @step b c hab hb hc ih => exact (Reach.step .refl (beside_symm hb) (hab.mem ha)).trans ih
/-- the cells hang together -/
def Hangs (L : List Cell) : Prop := L ≠ [] ∧ ∀ a ∈ L, ∀ b ∈ L, Reach L a b
theorem hangs_from {L : List Cell} {m : Cell} (hm : m ∈ L) : Hangs L ↔ ∀ b ∈ L, Reach L m b :=
  ⟨fun h b hb => h.2 m hm b hb, fun h => ⟨List.ne_nil_of_mem hm, fun a ha b hb => ((h a ha).symm hm).trans (h b hb)⟩⟩
theorem len_le {α : Type} [DecidableEq α] : ∀ {xs ys : List α}, xs.Nodup → (∀ x ∈ xs, x ∈ ys) → xs.length ≤ ys.length
  | [], _, _, _ => Nat.zero_le _
  | x :: xs, ys, nd, h => by
    have nd1 := List.nodup_cons.mp nd
    have m := h x (List.mem_cons_self ..)
    have k := len_le (ys := ys.erase x) nd1.2 fun y hy => (List.mem_erase_of_ne (fun e => nd1.1 (by rw [← e]; exact hy))).mpr (h y (List.mem_cons_of_mem _ hy))
    rw [List.length_erase_of_mem m] at k
    have p : 0 < ys.length := List.length_pos_of_mem m
    show xs.length + 1 ≤ _
    omega
/-- as many, and within: the same -/
theorem all_of_len {α : Type} [DecidableEq α] {xs ys : List α} (nd : xs.Nodup) (h : ∀ x ∈ xs, x ∈ ys) (ny : ys.Nodup) (l : xs.length = ys.length) : ∀ y ∈ ys, y ∈ xs := fun y hy => by
  by_cases m : y ∈ xs
  · exact m
  · have k := len_le (xs := y :: xs) (ys := ys) (List.nodup_cons.mpr ⟨m, nd⟩) fun z hz => (List.mem_cons.mp hz).elim (fun e => e ▸ hy) (h z)
    have k : xs.length + 1 ≤ ys.length := k
    omega
theorem hangs_len {L F : List Cell} {m : Cell} (hm : m ∈ L) (nL : L.Nodup) (nF : F.Nodup) (hF : ∀ x, x ∈ F ↔ Reach L m x) : F.length = L.length ↔ Hangs L := by
  rw [hangs_from hm]
  have sub : ∀ x ∈ F, x ∈ L := fun x hx => ((hF x).mp hx).mem hm
  constructor
  · exact fun l b hb => (hF b).mp (all_of_len nF sub nL l b hb)
  · exact fun h => Nat.le_antisymm (len_le nF sub) (len_le nL fun x hx => (hF x).mpr (h x hx))
theorem hangs_perm {L M : List Cell} (h : ∀ x, x ∈ L ↔ x ∈ M) : Hangs L ↔ Hangs M := by
  have r : ∀ {L M : List Cell}, (∀ x, x ∈ L ↔ x ∈ M) → ∀ {a b}, Reach L a b → Reach M a b := fun {L M} h {a b} k => by
    induction k with
    | refl => exact .refl
    | step _ hb hc ih => exact .step ih hb ((h _).mp hc)
  have one : ∀ {L M : List Cell}, (∀ x, x ∈ L ↔ x ∈ M) → Hangs L → Hangs M := fun {L M} h k => by
    refine ⟨fun e => ?_, fun a ha b hb => r h (k.2 a ((h a).mpr ha) b ((h b).mpr hb))⟩
    obtain ⟨x, hx⟩ := List.exists_mem_of_ne_nil _ k.1
    have q := (h x).mp hx
    rw [e] at q
    cases q
  exact ⟨one h, one fun x => (h x).symm⟩
end Sq

set_option Elab.async false
set_option linter.all false
set_option maxRecDepth 100000
set_option maxHeartbeats 4000000
/-! The places of the program's and the law's defs. -/
namespace Sq
open PySem PySem.Spec PyProof.Rows L2
def top (i : Nat) : Stmt := PySem.Challenge.pw_slideinto_k45_whole_steps_judged.main.body.getD i (.Pass ⟨0, 0, 0, 0⟩)
abbrev gPlain : Stmt := top 1
abbrev gShifted : Stmt := top 2
abbrev gFour : Stmt := top 3
abbrev gLot : Stmt := top 4
abbrev gPut : Stmt := top 5
abbrev gNear : Stmt := top 6
abbrev gFlood : Stmt := top 7
abbrev gHangs : Stmt := top 8
abbrev gHolds : Stmt := top 11
abbrev gFirstLoose : Stmt := top 12
abbrev gHoldsIn : Stmt := top 13
abbrev gSupportsIn : Stmt := top 14
abbrev gIsWitnessIn : Stmt := top 15
abbrev sPen : Stmt := top 17
abbrev sDraw : Stmt := top 18
abbrev sPick : Stmt := top 19
abbrev lShuffled : Stmt := top 20
abbrev lIs : Stmt := top 21
abbrev lBeside : Stmt := top 22
abbrev lParts : Stmt := top 23
abbrev lBlob : Stmt := top 24
abbrev lWay : Stmt := top 25
abbrev lCells : Stmt := top 26
abbrev lBody : Stmt := top 27
abbrev lSquares : Stmt := top 28
abbrev lHangs : Stmt := top 29
abbrev lFree : Stmt := top 30
abbrev lSupports : Stmt := top 31
abbrev lKind : Stmt := top 32
abbrev lAround : Stmt := top 33
abbrev lMoves : Stmt := top 34
abbrev lDone : Stmt := top 35
abbrev lPlan : Stmt := top 36
abbrev lWitness : Stmt := top 37
abbrev lPapers : Stmt := top 38
abbrev lHolds : Stmt := top 39
abbrev lSteps : Stmt := top 40
abbrev lOtherCells : Stmt := top 41
abbrev lChanged : Stmt := top 42
abbrev lFirstLoose : Stmt := top 43
abbrev sLaw : Stmt := top 44
abbrev FnP (K : PySem.W.Frag) (x : Str) (st : Stmt) (f : Addr) (fd : FuncData) : Prop := FunD K x x (defArgs st) (defBody st) (defScope st) [] [] f fd
end Sq

set_option Elab.async false
set_option linter.all false
set_option maxRecDepth 100000
set_option maxHeartbeats 4000000
/-! What is a cell; cells made plain, shifted; the four beside. -/
namespace Sq
open PySem PySem.Spec PyProof.Rows L2
def kinds : List String := ["NoneType", "bool", "int", "str", "tuple", "list"]
/-- x is of the built-in kind T -/
structure Kd (K : PySem.W.Frag) (H : Hp) (x : V) (T : String) : Prop where
  ty : TyX K H x (.type T)
  mem : T ∈ kinds
theorem kd_isi {K : PySem.W.Frag} {T U : String} (h : T ∈ kinds) (hU : U ∈ ["int", "bool", "tuple"]) : PySem.W.kitOne K (.type T) (.type U) = some (T == U || (T == "bool" && U == "int")) := by
  refine kit_ty ?_
  simp only [kinds, List.mem_cons, List.not_mem_nil, or_false] at h hU
  rcases h with rfl | rfl | rfl | rfl | rfl | rfl <;> rcases hU with rfl | rfl | rfl <;> decide +kernel
/-- whether x is a cell -/
inductive CellQ (K : PySem.W.Frag) (H : Hp) : V → Bool → Prop where
  | other {x : V} {T : String} (k : Kd K H x T) (n : T ≠ "tuple") : CellQ K H x false
  | len {p : Addr} {xs : List V} (e : H p = some (.tup xs)) (n : xs.length ≠ 2) : CellQ K H (.ref p) false
  | two {p : Addr} {y z : V} {T U : String} (e : H p = some (.tup [y, z])) (ky : Kd K H y T) (kz : Kd K H z U) (n : T ≠ "int" ∨ U ≠ "int") : CellQ K H (.ref p) false
  | cell {p : Addr} {c : Cell} (e : At H p c) : CellQ K H (.ref p) true
theorem Kd.tup {K : PySem.W.Frag} {H : Hp} {p : Addr} {xs : List V} (e : H p = some (.tup xs)) : Kd K H (.ref p) "tuple" := ⟨.base (.tup e), by decide⟩
theorem Kd.int {K : PySem.W.Frag} {H : Hp} {i : Int} : Kd K H (.int i) "int" := ⟨.base (.int i), by decide⟩
theorem at0 {x : V} {xs : List V} : atI (x :: xs) 0 = some x := atI_nat (j := 0) rfl
theorem at1 {x y : V} {xs : List V} : atI (x :: y :: xs) 1 = some y := atI_nat (j := 1) rfl
section
variable {P : Program} {w : World} {K : PySem.W.Frag} {mg : Str → Option Value} {base : Heap}
def spWhole (K : PySem.W.Frag) : Sp := fun vs H Q _ => ∃ (x : V) (T : String), vs = [x] ∧ Kd K H x T ∧ Q (.bl (T == "int")) H
def spIsCell (K : PySem.W.Frag) : Sp := fun vs H Q _ => ∃ (x : V) (b : Bool), vs = [x] ∧ CellQ K H x b ∧ Q (.bl b) H
/-- plain_cell(cell) -/
def spPlain : Sp := fun vs H Q _ => ∃ (p : Addr) (c : Cell), vs = [.ref p] ∧ At H p c ∧ ∀ q, H q = none → Q (.ref q) (upd H q (.tup (cV c)))
theorem scPl : FnScope ["cell"] ["cell"] (defScope gPlain) := ⟨rfl, rfl, rfl, by decide +kernel, rfl, by decide +kernel, by decide +kernel⟩
theorem two_le : (2 : Nat) ≤ sizeLine := by rw [sizeLine_eq]; decide
theorem four_le : (4 : Nat) ≤ sizeLine := by rw [sizeLine_eq]; decide
theorem ok_plain {f : Addr} {fd : FuncData} (F : FnP K "plain_cell" gPlain f fd) (gI : mg "int" = none) : FnOk P w K mg base CX0 1 f fd ["cell"] spPlain := by
  refine F.ok scPl (fun vs H Q E h => ?_) (fun cdv A outer s H vs Q E hr h => ?_)
  · obtain ⟨p, c, rfl, _⟩ := h
    rfl
  · obtain ⟨p, c, rfl, e, k⟩ := h
    refine ⟨_, PSs.nox (pss_one (ps_ret (pe_tup (pa_cons (pe_callTy call_int1 (by rfl) gI PyProof.Rows.boot_int (pa_cons (pe_ix ix_tup (pv 0) pe_int (fun _ _ => rfl)) pa_nil)) (pa_cons (pe_callTy call_int1 (by rfl) gI PyProof.Rows.boot_int (pa_cons (pe_ix ix_tup (pv 0) pe_int (fun _ _ => rfl)) pa_nil)) pa_nil))))), ?_⟩
    exact ⟨_, rfl, _, _, _, _, rfl, rfl, SqT.of e, at0, .inl ⟨_, rfl, _, rfl, _, _, _, _, rfl, rfl, SqT.of e, at1, .inl ⟨_, rfl, two_le, fun q hq => k q hq⟩⟩⟩
/-- shifted(cell, by) -/
def spShifted : Sp := fun vs H Q _ => ∃ (p r : Addr) (c d : Cell), vs = [.ref p, .ref r] ∧ At H p c ∧ At H r d ∧ ∀ q, H q = none → Q (.ref q) (upd H q (.tup (cV (c.1 + d.1, c.2 + d.2))))
theorem scSh : FnScope ["cell", "by"] ["cell", "by"] (defScope gShifted) := ⟨rfl, rfl, rfl, by decide +kernel, rfl, by decide +kernel, by decide +kernel⟩
theorem ok_shifted {f : Addr} {fd : FuncData} (F : FnP K "shifted" gShifted f fd) : FnOk P w K mg base CX0 1 f fd ["cell", "by"] spShifted := by
  refine F.ok scSh (fun vs H Q E h => ?_) (fun cdv A outer s H vs Q E hr h => ?_)
  · obtain ⟨p, r, c, d, rfl, _⟩ := h
    rfl
  · obtain ⟨p, r, c, d, rfl, e1, e2, k⟩ := h
    refine ⟨_, PSs.nox (pss_one (ps_ret (pe_tup (pa_cons (pe_op op_add (pe_ix ix_tup (pv 0) pe_int (fun _ _ => rfl)) (pe_ix ix_tup (pv 1) pe_int (fun _ _ => rfl))) (pa_cons (pe_op op_add (pe_ix ix_tup (pv 0) pe_int (fun _ _ => rfl)) (pe_ix ix_tup (pv 1) pe_int (fun _ _ => rfl))) pa_nil))))), ?_⟩
    exact ⟨_, rfl, _, _, _, _, rfl, rfl, SqT.of e1, at0, _, rfl, _, _, _, _, rfl, rfl, SqT.of e2, at0, _, _, rfl, rfl, _, rfl, _, _, _, _, rfl, rfl, SqT.of e1, at1, _, rfl, _, _, _, _, rfl, rfl, SqT.of e2, at1, _, _, rfl, rfl, two_le, fun q hq => k q hq⟩
/-- checked_cell(value): its cell, or BadCell(value) -/
def spChecked (K : PySem.W.Frag) (CB : Addr) : Sp := fun vs H Q E => ∃ (x : V), vs = [x] ∧ ((∃ p c, x = .ref p ∧ At H p c ∧ ∀ q, H q = none → Q (.ref q) (upd H q (.tup (cV c)))) ∨ (CellQ K H x false ∧ ∀ d, H d = none → E (.ref CB) (some d) (upd H d (.xd [("cell", x)]))))
/-- what is known of an error class of the program -/
structure ErrC (P : Program) (K : PySem.W.Frag) (mg : Str → Option Value) (x : Str) (C fI : Addr) (ns : List Str) : Prop where
  s : SErr P K C fI ns
  g : mg x = some (.ref C)
  ex : PySem.W.subIn K (.ref C) (.type "BaseException") = some true
  ty : PySem.W.typeIn K (.ref C) = some (.type "type")
/-- t holds a tuple of these cells -/
def CellsT (H : Hp) (t : Addr) (cs : List Cell) : Prop := ∃ qs : List Addr, H t = some (.tup (qs.map V.ref)) ∧ Paired (fun q c => At H q c) qs cs
def spFour : Sp := fun vs H Q _ => ∃ (p : Addr) (c : Cell), vs = [.ref p] ∧ At H p c ∧ ∀ t H', Same H H' → H t = none → CellsT H' t (besideC c) → Q (.ref t) H'
theorem scFo : FnScope ["cell", "column", "row"] ["cell"] (defScope gFour) := ⟨rfl, rfl, rfl, by decide +kernel, rfl, by decide +kernel, by decide +kernel⟩
end
end Sq

set_option Elab.async false
set_option linter.all false
set_option maxRecDepth 100000
set_option maxHeartbeats 4000000
/-! The four beside a cell; a lot of cells, without one, near ones. -/
namespace Sq
open PySem PySem.Spec PyProof.Rows L2
theorem same_new {H : Hp} {p : Addr} {o : HO} (h : H p = none) : Same H (upd H p o) := fun b u e => by
  rw [upd_ne (ne_of_none e h)]
  exact e
theorem At.same {H H' : Hp} {q : Addr} {c : Cell} (h : At H q c) (k : Same H H') : At H' q c := k _ _ h
theorem paired_imp {α β : Type} {F G : α → β → Prop} (k : ∀ a b, F a b → G a b) : ∀ {xs : List α} {ys : List β}, Paired F xs ys → Paired G xs ys
  | _, _, .nil => .nil
  | _, _, .cons h t => .cons (k _ _ h) (paired_imp k t)
theorem CellsT.same {H H' : Hp} {t : Addr} {cs : List Cell} (h : CellsT H t cs) (k : Same H H') : CellsT H' t cs := by
  obtain ⟨qs, e, r⟩ := h
  exact ⟨qs, k _ _ e, paired_imp (fun _ _ a => At.same a k) r⟩
section
variable {P : Program} {w : World} {K : PySem.W.Frag} {mg : Str → Option Value} {base : Heap}
theorem ok_four {f : Addr} {fd : FuncData} (F : FnP K "four_beside" gFour f fd) : FnOk P w K mg base CX0 1 f fd ["cell"] spFour := by
  refine F.ok scFo (fun vs H Q E h => ?_) (fun cdv A outer s H vs Q E hr h => ?_)
  · obtain ⟨p, c, rfl, _⟩ := h
    rfl
  · obtain ⟨p, c, rfl, e, k⟩ := h
    refine ⟨_, PSs.nox (pss_cons (ps_asg (pv 0) (pg_tup (by rfl) (pgs_cons (pg_name (i := 1) scFo.nd rfl (.inl rfl)) (pgs_cons (pg_name (i := 2) scFo.nd rfl (.inl rfl)) pgs_nil))))
      (pss_one (ps_ret (pe_tup (pa_cons (pe_tup (pa_cons (pe_op op_sub (pv 1) pe_int) (pa_cons (pv 2) pa_nil))) (pa_cons (pe_tup (pa_cons (pv 1) (pa_cons (pe_op op_sub (pv 2) pe_int) pa_nil)))
        (pa_cons (pe_tup (pa_cons (pe_op op_add (pv 1) pe_int) (pa_cons (pv 2) pa_nil))) (pa_cons (pe_tup (pa_cons (pv 1) (pa_cons (pe_op op_add (pv 2) pe_int) pa_nil))) pa_nil)))))))), ?_⟩
    refine ⟨_, rfl, p, _, rfl, SqT.of e, rfl, _, _, rfl, _, _, rfl, rfl, ?_⟩
    refine ⟨_, rfl, _, _, rfl, rfl, _, rfl, two_le, fun t1 h1 => ?_⟩
    refine ⟨_, rfl, _, rfl, _, _, rfl, rfl, two_le, fun t2 h2 => ?_⟩
    refine ⟨_, rfl, _, _, rfl, rfl, _, rfl, two_le, fun t3 h3 => ?_⟩
    refine ⟨_, rfl, _, rfl, _, _, rfl, rfl, two_le, fun t4 h4 => ?_⟩
    refine ⟨four_le, fun t5 h5 => ?_⟩
    have s1 := same_new (o := .tup [.int (c.1 - 1), .int c.2]) h1
    have s2 := same_new (o := .tup [.int c.1, .int (c.2 - 1)]) h2
    have s3 := same_new (o := .tup [.int (c.1 + 1), .int c.2]) h3
    have s4 := same_new (o := .tup [.int c.1, .int (c.2 + 1)]) h4
    have s5 := same_new (o := .tup [.ref t1, .ref t2, .ref t3, .ref t4]) h5
    refine k t5 _ (((s1.trans s2).trans s3).trans s4 |>.trans s5) (s1.free (s2.free (s3.free (s4.free h5)))) ⟨[t1, t2, t3, t4], upd_same, ?_⟩
    refine .cons ?_ (.cons ?_ (.cons ?_ (.cons ?_ .nil)))
    · exact s5 _ _ (s4 _ _ (s3 _ _ (s2 _ _ upd_same)))
    · exact s5 _ _ (s4 _ _ (s3 _ _ upd_same))
    · exact s5 _ _ (s4 _ _ upd_same)
    · exact s5 _ _ upd_same
end
/-- a lot of cells as a dict's pairs -/
def lotK (L : List Cell) : List (List Key × V) := L.map fun c => (cK c, .bl true)
theorem lot_val (c : Cell) : ∀ L : List Cell, valV (lotK L) (cK c) = if c ∈ L then some (.bl true) else none
  | [] => by rw [if_neg (by simp)]; rfl
  | d :: L => by
    show valV ((cK d, V.bl true) :: lotK L) (cK c) = _
    by_cases h : d = c
    · subst h
      rw [valV_pos rfl, if_pos (List.mem_cons_self ..)]
    · rw [valV_neg (fun e => h (cK_inj e)), lot_val c L]
      by_cases m : c ∈ L
      · rw [if_pos m, if_pos (List.mem_cons_of_mem _ m)]
      · rw [if_neg m, if_neg (fun w => (List.mem_cons.mp w).elim (fun e => h e.symm) m)]
theorem lot_is (c : Cell) (L : List Cell) : (valV (lotK L) (cK c)).isSome = decide (c ∈ L) := by
  rw [lot_val]
  by_cases m : c ∈ L
  · rw [if_pos m, decide_eq_true m]
    rfl
  · rw [if_neg m, decide_eq_false m]
    rfl
theorem lot_put {c : Cell} {L : List Cell} (n : c ∉ L) : putK (lotK L) (cK c) (.bl true) = lotK (L ++ [c]) := by
  rw [putK_new _ (by rw [lot_val, if_neg n])]
  simp [lotK]
theorem lot_keys (L : List Cell) : (lotK L).map (·.1) = L.map cK := by simp [lotK]
theorem lot_len (L : List Cell) : (lotK L).length = L.length := by simp [lotK]
/-- in, for a cell and a lot -/
theorem dget_lot {H : Hp} {d q : Addr} {L : List Cell} {c : Cell} (hd : H d = some (.dT (lotK L))) (hq : At H q c) : DGet H d (.ref q) (valV (lotK L) (cK c)) := DGet.t hd hq
theorem dput_lot {H : Hp} {d q : Addr} {L : List Cell} {c : Cell} (hd : H d = some (.dT (lotK L))) (hq : At H q c) (n : c ∉ L) (hl : L.length < sizeLine) : DPut H d (.ref q) (.bl true) (upd H d (.dT (lotK (L ++ [c])))) := lot_put n ▸ DPut.t hd hq (by rw [lot_len]; exact hl)
theorem paired_get {α β : Type} {F : α → β → Prop} {i : Nat} {x : α} : ∀ {xs : List α} {ys : List β}, Paired F xs ys → xs[i]? = some x → ∃ y, ys[i]? = some y ∧ F x y
  | _, _, .nil, e => by simp at e
  | _ :: _, _ :: _, .cons h t, e => by
    cases i with
    | zero =>
      simp only [List.getElem?_cons_zero, Option.some.injEq] at e
      exact ⟨_, rfl, e ▸ h⟩
    | succ i =>
      simp only [List.getElem?_cons_succ] at e ⊢
      exact paired_get t e
theorem yesT {σ : L2.St} {H : Hp} {A B : Hp → Prop} (h : A H) : tYes σ H fun b H3 => if b = true then A H3 else B H3 := by
  show if true = true then A H else B H
  rw [if_pos rfl]
  exact h
theorem nodup_take {α : Type} {xs : List α} {i : Nat} {x : α} (nd : xs.Nodup) (h : xs[i]? = some x) : x ∉ xs.take i := fun m => by
  obtain ⟨j, hj⟩ := List.mem_iff_getElem?.mp m
  have hl := (List.getElem?_eq_some_iff.mp hj).1
  rw [List.length_take] at hl
  have hji : j < i := by omega
  rw [List.getElem?_take_of_lt hji] at hj
  have e : j = i := (List.getElem?_inj (List.getElem?_eq_some_iff.mp hj).1 nd).mp (hj.trans h.symm)
  omega
def spLot : Sp := fun vs H Q _ => ∃ (t : Addr) (cs : List Cell), vs = [.ref t] ∧ CellsT H t cs ∧ cs.Nodup ∧ cs.length ≤ 1000 ∧ ∀ d H', Same H H' → H d = none → H' d = some (.dT (lotK cs)) → Q (.ref d) H'
theorem take_snoc {α : Type} {xs : List α} {i : Nat} {x : α} (h : xs[i]? = some x) : xs.take (i + 1) = xs.take i ++ [x] := by
  rw [List.take_succ, h]
  rfl
section
variable {P : Program} {w : World} {K : PySem.W.Frag} {mg : Str → Option Value} {base : Heap}
theorem scLo : FnScope ["cells", "cell"] ["cells"] (defScope gLot) := ⟨rfl, rfl, rfl, by decide +kernel, rfl, by decide +kernel, by decide +kernel⟩
theorem ok_lot {f fP : Addr} {fd fdP : FuncData} (F : FnP K "lot_of" gLot f fd) (FP : FnP K "plain_cell" gPlain fP fdP) (gP : mg "plain_cell" = some (.ref fP)) (gI : mg "int" = none) : FnOk P w K mg base CX0 2 f fd ["cells"] spLot := by
  have GP : FnOk P w K mg base CX0 1 fP fdP ["cell"] spPlain := ok_plain FP gI
  have bP : Binds K fdP ["cell"] [] := FP.bindsN fun _ _ _ _ _ _ us hl => match us, hl with | [_], _ => rfl
  refine F.ok scLo (fun vs H Q E h => ?_) (fun cdv A outer s H vs Q E hr h => ?_)
  · obtain ⟨t, cs, rfl, _⟩ := h
    rfl
  · obtain ⟨t, cs, rfl, ⟨qs, et, pr⟩, nd, big, k⟩ := h
    refine ⟨_, PSs.nox (pss_one (ps_ret (pe_dct (o0 := .dT []) (own := [("cell", 1)]) (g := gName 1) (tt := tYes) (.inr rfl) rfl (hu_of hr) scLo.nd (pi_tup (pv 0)) (blkOk_by (N := ["cells", "cell"]) (sc := defScope gLot) (by decide +kernel)) (fun _ _ _ _ _ => pg_name (i := 1) scLo.nd rfl (Or.inl rfl)) (fun _ _ _ _ _ => pts_nil)
      (fun _ _ _ _ _ => pe_call GP hr rfl gP FP.kp bP .nil pass0 (pa_cons (pv 1) pa_nil)) (fun _ _ _ _ _ => pe_bl)))), ?_⟩
    refine ⟨_, rfl, t, rfl, ⟨_, SqT.of et⟩, fun D hD => dct_it (walk_tup (K := K) (a := t) (xs := qs.map V.ref)) (fun i G => Same H G ∧ G D = some (.dT (lotK (cs.take i)))) ⟨same_new hD, upd_same⟩ (fun i G _ p => SqT.of (p.1 _ _ et)) ?_ ?_⟩
    · rintro i x G G' hi ⟨sm, gd⟩ ⟨rfl, hx⟩
      rw [List.getElem?_map] at hx
      obtain ⟨q, hq, rfl⟩ := Option.map_eq_some_iff.mp hx
      obtain ⟨c, hc, ac⟩ := paired_get pr hq
      refine ⟨rfl, yesT ⟨_, rfl, q, c, rfl, ac.same sm, fun p hp => ?_⟩⟩
      have hne : D ≠ p := ne_of_none gd hp
      have gd' : upd G' p (.tup (cV c)) D = some (.dT (lotK (cs.take i))) := by rw [upd_ne hne]; exact gd
      have out : c ∉ cs.take i := nodup_take nd hc
      refine ⟨_, dput_lot gd' upd_same out (by rw [List.length_take, sizeLine_eq]; omega), fun b u e => ?_, ?_⟩
      · have hb : b ≠ D := fun z => by rw [z, hD] at e; cases e
        rw [upd_ne hb]
        exact (sm.trans (same_new hp)) b u e
      · rw [upd_same, take_snoc hc]
    · rintro G ⟨sm, gd⟩
      have el : (qs.map V.ref).length = cs.length := by rw [List.length_map]; exact Paired.length pr
      rw [el, List.take_length] at gd
      exact k D G sm hD gd
end
end Sq

set_option Elab.async false
set_option linter.all false
set_option maxRecDepth 100000
set_option maxHeartbeats 4000000
/-! A lot without a cell; the near ones in a lot. -/
namespace Sq
open PySem PySem.Spec PyProof.Rows L2
theorem room64 {k : Nat} {A : Around} (hr : Room k A) : A.units + 64 < cLine := by have := hr.un; omega
theorem room2 {k : Nat} {A : Around} (hr : Room k A) : A.units + 2 < cLine := by have := hr.un; omega
theorem op_neK {X : Cx} {K : PySem.W.Frag} (hK : X.K = K) (hu : X.A.units + 64 < cLine) : OpR X (compareOp .NotEq) (rNeD K) := hK ▸ op_neD hu
theorem op_eqK {X : Cx} {K : PySem.W.Frag} (hK : X.K = K) (hu : X.A.units + 64 < cLine) : OpR X (compareOp .Eq) (rEqD K) := hK ▸ op_eqD hu
/-- a cell as data -/
def cD (c : Cell) : PyData := .tuple [.int c.1, .int c.2]
theorem At.dp {K : PySem.W.Frag} {H : Hp} {q : Addr} {c : Cell} (h : At H q c) : Dp K H (.ref q) (cD c) := .tup (SqT.of h) (.cons (.int _) (.cons (.int _) .nil))
theorem cD_eqv (c d : Cell) : PyData.eqv (cD c) (cD d) = decide (c = d) := by
  obtain ⟨c1, c2⟩ := c
  obtain ⟨d1, d2⟩ := d
  simp only [cD, PyData.eqv, PyData.eqvAll, Bool.and_true, Prod.mk.injEq, Bool.decide_and]
  rw [show (c1 == d1) = decide (c1 = d1) from rfl, show (c2 == d2) = decide (c2 = d2) from rfl]
theorem cD_shaped (c : Cell) : SeqAt.shaped (cD c) = true := by
  obtain ⟨c1, c2⟩ := c
  rfl
def without (L : List Cell) (c : Cell) : List Cell := L.filter fun d => decide (d ≠ c)
theorem without_snoc (L : List Cell) (c d : Cell) : without (L ++ [d]) c = if d = c then without L c else without L c ++ [d] := by
  unfold without
  rw [List.filter_append]
  by_cases h : d = c
  · simp [h]
  · simp [h]
def spWithout : Sp := fun vs H Q _ => ∃ (d q : Addr) (L : List Cell) (c : Cell), vs = [.ref d, .ref q] ∧ H d = some (.dT (lotK L)) ∧ L.Nodup ∧ L.length ≤ 1000 ∧ At H q c ∧ ∀ e H', Same H H' → H e = none → H' e = some (.dT (lotK (without L c))) → Q (.ref e) H'
section
variable {P : Program} {w : World} {K : PySem.W.Frag} {mg : Str → Option Value} {base : Heap}
end
end Sq

set_option Elab.async false
set_option linter.all false
set_option maxRecDepth 100000
set_option maxHeartbeats 4000000
/-! The near ones; the flood; hanging together. -/
namespace Sq
open PySem PySem.Spec PyProof.Rows L2
/-- l holds a list of these cells -/
def CellsL (H : Hp) (l : Addr) (cs : List Cell) : Prop := ∃ qs : List Addr, H l = some (.lst (qs.map V.ref)) ∧ Paired (fun q c => At H q c) qs cs
def nearC (L : List Cell) (c : Cell) : List Cell := (besideC c).filter fun d => decide (d ∈ L)
def spNear : Sp := fun vs H Q _ => ∃ (d q : Addr) (L : List Cell) (c : Cell), vs = [.ref d, .ref q] ∧ H d = some (.dT (lotK L)) ∧ At H q c ∧ ∀ l H', Same H H' → H l = none → CellsL H' l (nearC L c) → Q (.ref l) H'
theorem paired_snoc {α β : Type} {F : α → β → Prop} {xs : List α} {ys : List β} {x : α} {y : β} (h : Paired F xs ys) (k : F x y) : Paired F (xs ++ [x]) (ys ++ [y]) := h.snoc k
section
variable {P : Program} {w : World} {K : PySem.W.Frag} {mg : Str → Option Value} {base : Heap}
theorem scNe : FnScope ["lot", "cell", "near"] ["lot", "cell"] (defScope gNear) := ⟨rfl, rfl, rfl, by decide +kernel, rfl, by decide +kernel, by decide +kernel⟩
theorem ok_near {f fF : Addr} {fd fdF : FuncData} (F : FnP K "near_in" gNear f fd) (FF : FnP K "four_beside" gFour fF fdF) (gF : mg "four_beside" = some (.ref fF)) : FnOk P w K mg base CX0 2 f fd ["lot", "cell"] spNear := by
  have GF : FnOk P w K mg base CX0 1 fF fdF ["cell"] spFour := ok_four FF
  have bF : Binds K fdF ["cell"] [] := FF.bindsN fun _ _ _ _ _ _ us hl => match us, hl with | [_], _ => rfl
  refine F.ok scNe (fun vs H Q E h => ?_) (fun cdv A outer s H vs Q E hr h => ?_)
  · obtain ⟨d, q, L, c, rfl, _⟩ := h
    rfl
  · obtain ⟨d, q, L, c, rfl, ed, aq, k⟩ := h
    have hu := hu_of hr
    refine ⟨_, PSs.nox (pss_one (ps_ret (pe_lc (own := [("near", 2)]) (g := gName 2) rfl scNe.nd (pi_tup (pe_call GF hr rfl gF FF.kp bF .nil pass0 (pa_cons (pv 1) pa_nil))) (blkOk_by (N := ["lot", "cell", "near"]) (sc := defScope gNear) (by decide +kernel)) (fun _ _ _ _ _ => pg_name (i := 2) scNe.nd rfl (Or.inl rfl))
      (fun _ _ _ _ _ => pts_one (pt_cmp (pc_din hu (pv 2) (pv 0)))) (fun _ _ _ _ _ => pv 2)))), ?_⟩
    refine ⟨_, rfl, q, c, rfl, aq, fun t H1 s1 ht ⟨qs, et, pr⟩ => ⟨t, rfl, ⟨_, SqT.of et⟩, fun D hD => ?_⟩⟩
    refine lc_it (walk_tup (K := K) (a := t) (xs := qs.map V.ref)) (fun i G => Same H1 G ∧ ∃ rs : List Addr, G D = some (.lst (rs.map V.ref)) ∧ rs.length ≤ i ∧ Paired (fun r e => At H1 r e) rs (((besideC c).take i).filter fun e => decide (e ∈ L))) ⟨same_new hD, [], upd_same, Nat.le_refl _, .nil⟩ (fun i G _ p => SqT.of (p.1 _ _ et)) ?_ ?_
    · rintro i x G G' hi ⟨sm, rs, gD, ln, pp⟩ ⟨rfl, hx⟩
      rw [List.getElem?_map] at hx
      obtain ⟨p, hp, rfl⟩ := Option.map_eq_some_iff.mp hx
      obtain ⟨e, he, ae⟩ := paired_get pr hp
      have le : (qs.map V.ref).length = 4 := by rw [List.length_map]; exact Paired.length pr
      refine ⟨rfl, _, rfl, _, rfl, d, _, rfl, dget_lot (sm _ _ (s1 _ _ ed)) (ae.same sm), _, rfl, ?_⟩
      rw [lot_is]
      refine ite2 (fun hc => ?_) (fun hc => ?_)
      · refine ⟨_, rfl, _, gD, by rw [List.length_map, sizeLine_eq]; omega, fun b o e2 => ?_, rs ++ [p], by rw [upd_same]; simp, by rw [List.length_append]; exact Nat.succ_le_succ ln, ?_⟩
        · rw [upd_ne (fun z => by rw [z, hD] at e2; cases e2)]
          exact sm b o e2
        · rw [take_snoc he, List.filter_append]
          simp only [List.filter_cons, hc, if_true, List.filter_nil]
          exact pp.snoc ae
      · refine ⟨sm, rs, gD, Nat.le_succ_of_le ln, ?_⟩
        rw [take_snoc he, List.filter_append]
        have hc' : decide (e ∈ L) = false := Bool.eq_false_iff.mpr hc
        simp only [List.filter_cons, hc', Bool.false_eq_true, if_false, List.filter_nil, List.append_nil]
        exact pp
    · rintro G ⟨sm, rs, gD, _, pp⟩
      have le : (qs.map V.ref).length = (besideC c).length := by rw [List.length_map]; exact Paired.length pr
      rw [le, List.take_length] at pp
      exact k D G (s1.trans sm) (s1.free hD) ⟨rs, gD, paired_imp (fun _ _ a => a.same sm) pp⟩
end
end Sq

set_option Elab.async false
set_option linter.all false
set_option maxRecDepth 100000
set_option maxHeartbeats 4000000
/-! Bundles: a def of the module with its promise; the built-ins' names; a while by what may be hidden. -/
namespace Sq
open PySem PySem.Spec PyProof.Rows L2
/-- the built-ins' names are the module's own nowhere -/
structure Bl (mg : Str → Option Value) : Prop where
  int : mg "int" = none
  len : mg "len" = none
  list : mg "list" = none
  tuple : mg "tuple" = none
  bool : mg "bool" = none
  isinstance : mg "isinstance" = none
  range : mg "range" = none
  sorted : mg "sorted" = none
  abs : mg "abs" = none
  min : mg "min" = none
  max : mg "max" = none
  set : mg "set" = none
  any : mg "any" = none
/-- the module's def x keeps the promise sp -/
structure Df (P : Program) (w : World) (K : PySem.W.Frag) (mg : Str → Option Value) (base : Heap) (CX : CXT) (k : Nat) (x : Str) (ps : List Str) (sp : Sp) : Prop where
  ex : ∃ f fd, mg x = some (.ref f) ∧ PySem.W.keepIn K (.ref f) = true ∧ Binds K fd ps [] ∧ FnOk P w K mg base CX k f fd ps sp
section
variable {X : Cx} {CX : CXT} {j k : Nat} {x : Str} {ps : List Str} {sp : Sp} {E : XK} {p pos : Pos} {e : Expr} {es : List Expr} {t : TA}
theorem pe_df (D : Df X.prog X.w X.K X.mg X.base CX k x ps sp) (hr : Room j X.A) (hg : Gl X x) (hx : Passes CX X E) (ha : PA X (e :: es) t) (hkj : k ≤ j := by decide) (hdb : (x == ("__debug__" : Str)) = false := by decide)
    (he : starEach (e :: es) X.env = (false, eval e X.env) :: starEach es X.env := by rfl) (hpl : (backTo pos (starEach es X.env)).any (·.1) = false := by rfl) : PE X (.Call (.Name x p) (e :: es) [] pos) (tCall sp [] E t) := by
  obtain ⟨f, fd, g, kp, b, F⟩ := D.ex
  exact pe_call F (hr.mono hkj) hg g kp b .nil hx ha hdb he hpl
end
theorem while_ex {c : TT} {tb : TS} {D : Ends} {σ : L2.St} {H : Hp} (W : Nat → L2.St → Hp → Prop) (m0 : Nat) (h0 : W m0 σ H)
    (hs : ∀ m σ H, W m σ H → c σ H fun b H1 => if b = true then tb { D with nx := fun σ' H' => ∃ m', m' < m ∧ W m' σ' H', ct := fun σ' H' => ∃ m', m' < m ∧ W m' σ' H', bk := D.nx } σ H1 else D.nx σ H1)
    (mono : ∀ σ H Q Q', (∀ b H1, Q b H1 → Q' b H1) → c σ H Q → c σ H Q') : tWhile c tb D σ H := by
  refine ⟨W, ⟨m0, h0⟩, ?_⟩
  intro m σ H p
  refine mono σ H _ _ (fun b H1 q => ?_) (hs m σ H p)
  cases b with
  | true => exact ⟨_, fun σ' H' p' => p', q⟩
  | false => exact q
/-- all but what stands at S stays -/
def Kp (S : List Addr) (H H' : Hp) : Prop := ∀ b o, b ∉ S → H b = some o → H' b = some o
theorem Kp.refl {S : List Addr} {H : Hp} : Kp S H H := fun _ _ _ e => e
theorem Kp.trans {S : List Addr} {H H1 H2 : Hp} (h : Kp S H H1) (k : Kp S H1 H2) : Kp S H H2 := fun b o n e => k b o n (h b o n e)
theorem Kp.mono {S T : List Addr} {H H' : Hp} (h : Kp S H H') (k : ∀ b ∈ S, b ∈ T) : Kp T H H' := fun b o n e => h b o (fun m => n (k b m)) e
theorem Kp.of {S : List Addr} {H H' : Hp} (h : Same H H') : Kp S H H' := fun b o _ e => h b o e
theorem Kp.but {S : List Addr} {H H' : Hp} {p : Addr} (hp : p ∈ S) (h : ∀ b, b ≠ p → H' b = H b) : Kp S H H' := fun b o n e => by
  rw [h b (fun z => n (z ▸ hp))]
  exact e
/-- what is new in H is put on -/
theorem Kp.put {S : List Addr} {H0 H : Hp} {p : Addr} {o : HO} (h : Kp S H0 H) (hp : H0 p = none) : Kp S H0 (upd H p o) := fun b u n e => by
  rw [upd_ne (ne_of_none e hp)]
  exact h b u n e
theorem same_put {H0 H : Hp} {p : Addr} {o : HO} (h : Same H0 H) (hp : H0 p = none) : Same H0 (upd H p o) := fun b u e => by
  rw [upd_ne (ne_of_none e hp)]
  exact h b u e
theorem same_refl {H : Hp} : Same H H := fun _ _ e => e
end Sq
namespace Sq
open PySem PySem.Spec PyProof.Rows L2
/-- a def of the text whose code object is known -/
structure FunC (K : PySem.W.Frag) (x qual : Str) (params : Arguments) (body : List Stmt) (scope : Scope) (c f : Addr) (fd : FuncData) : Prop where
  ex : ∃ (oc : Value) (od : Option Addr) (dV kV doc pm : Value) (an : Option Addr) (ct : Value) (osl : Array (Option Value)),
    fd = PySem.W.fnOf x qual params body scope dV kV doc pm an (.ref c) ct ∧ K.lookup f = some ⟨oc, od, .func fd, osl⟩ ∧ PySem.W.codeIn K (.ref c) qual = true ∧ DflV K dV [] ∧ KwdV K kV []
  kp : PySem.W.keepIn K (.ref f) = true
section
variable {P : Program} {w : World} {K : PySem.W.Frag} {mg : Str → Option Value} {base : Heap} {x qual : Str} {params : Arguments} {body : List Stmt} {scope : Scope} {c f : Addr} {fd : FuncData}
theorem FunC.d (F : FunC K x qual params body scope c f fd) : FunD K x qual params body scope [] [] f fd := by
  obtain ⟨oc, od, dV, kV, doc, pm, an, ct, osl, r⟩ := F.ex
  exact ⟨⟨oc, od, dV, kV, doc, pm, an, _, ct, osl, r⟩, F.kp⟩
theorem FunC.ok {CX : CXT} {N ps : List Str} {k : Nat} {sp : Sp} (F : FunC K x qual params body scope c f fd) (S : FnScope N ps scope) (len : ∀ vs H Q E, sp vs H Q E → vs.length = ps.length)
    (run : ∀ (A : Around) (outer : List Env) (s : Shared) (H : Hp) (vs : List V) (Q : VK) (E : XK), Room k (A.deeper (envOfC qual scope s.heap.objs.size f (.ref c))) → sp vs H Q E →
      ∃ t, PSs (cxOf CX P w K mg base N qual scope f (.ref c) A outer s H E) body t ∧ t { nx := fun _ H' => Q .non H', rt := Q } (L2.start N vs) H) : FnOk P w K mg base CX (k + 1) f fd ps sp := by
  obtain ⟨oc, od, dV, kV, doc, pm, an, ct, osl, rfl, lk, hcd, _, _⟩ := F.ex
  exact fn_of lk hcd S len fun A outer s H vs Q E hr hsp => run A outer s H vs Q E hr hsp
end
/-- tables stand at all of Ts -/
def TabsG (Ts : List Addr) (H : Hp) : Prop := ∀ T ∈ Ts, GxR.TabG H T
/-- all but the tables stays, and these are tables still -/
structure KT (Ts : List Addr) (H G : Hp) : Prop where
  kp : Kp Ts H G
  tb : TabsG Ts H
  tb' : TabsG Ts G
theorem KT.get {Ts : List Addr} {H G : Hp} {b : Addr} {o : HO} (h : KT Ts H G) (e : H b = some o) (ho : ∀ ps, o ≠ .tbl ps) : G b = some o := by
  refine h.kp b o (fun m => ?_) e
  obtain ⟨ps, e2, _⟩ := h.tb b m
  rw [e2] at e
  exact ho ps (Option.some.inj e).symm
theorem KT.at {Ts : List Addr} {H G : Hp} {q : Addr} {c : Cell} (h : KT Ts H G) (e : At H q c) : At G q c := h.get e (fun _ z => nomatch z)
theorem KT.lot {Ts : List Addr} {H G : Hp} {d : Addr} {L : List (List Key × V)} (h : KT Ts H G) (e : H d = some (.dT L)) : G d = some (.dT L) := h.get e (fun _ z => nomatch z)
theorem KT.tup {Ts : List Addr} {H G : Hp} {d : Addr} {L : List V} (h : KT Ts H G) (e : H d = some (.tup L)) : G d = some (.tup L) := h.get e (fun _ z => nomatch z)
theorem KT.lst {Ts : List Addr} {H G : Hp} {d : Addr} {L : List V} (h : KT Ts H G) (e : H d = some (.lst L)) : G d = some (.lst L) := h.get e (fun _ z => nomatch z)
theorem tabG_same {H G : Hp} {P : Addr} (hP : GxR.TabG H P) (h : Same H G) : GxR.TabG G P := by
  obtain ⟨ps, e, t⟩ := hP
  exact ⟨ps, h _ _ e, t⟩
theorem TabsG.same {Ts : List Addr} {H G : Hp} (hT : TabsG Ts H) (h : Same H G) : TabsG Ts G := fun T m => tabG_same (hT T m) h
theorem KT.of {Ts : List Addr} {H G : Hp} (hT : TabsG Ts H) (h : Same H G) : KT Ts H G := ⟨Kp.of h, hT, hT.same h⟩
theorem KT.refl {Ts : List Addr} {H : Hp} (hT : TabsG Ts H) : KT Ts H H := ⟨Kp.refl, hT, hT⟩
theorem KT.trans {Ts : List Addr} {H G I : Hp} (h : KT Ts H G) (k : KT Ts G I) : KT Ts H I := ⟨h.kp.trans k.kp, h.tb, k.tb'⟩
theorem KT.same {Ts : List Addr} {H G I : Hp} (h : KT Ts H G) (k : Same G I) : KT Ts H I := h.trans (.of h.tb' k)
theorem KT.free {Ts : List Addr} {H G : Hp} {a : Addr} (h : KT Ts H G) (e : G a = none) : H a = none := by
  cases q : H a with
  | none => rfl
  | some o =>
    by_cases m : a ∈ Ts
    · obtain ⟨ps, e2, _⟩ := h.tb' a m
      rw [e] at e2
      cases e2
    · rw [h.kp a o m q] at e
      cases e
theorem KT.tabbed {Ts : List Addr} {P : Addr} {H G : Hp} (hT : TabsG Ts H) (m : P ∈ Ts) (h : GxR.Tabbed P H G) : KT Ts H G := by
  refine ⟨fun b o n e => ?_, hT, fun T mT => ?_⟩
  · rw [h.2 b (fun z => n (by rw [z]; exact m))]
    exact e
  · by_cases e : T = P
    · rw [e]
      exact h.1
    · obtain ⟨ps, e2, t⟩ := hT T mT
      exact ⟨ps, (h.2 T e).trans e2, t⟩
noncomputable def hangsB (L : List Cell) : Bool := @decide (Hangs L) (Classical.propDecidable _)
theorem hangsB_iff {L : List Cell} : hangsB L = true ↔ Hangs L := by
  unfold hangsB
  exact @decide_eq_true_iff (Hangs L) (Classical.propDecidable _)
theorem hangsB_of {L : List Cell} {b : Bool} (h : b = true ↔ Hangs L) : b = hangsB L := by
  cases e : hangsB L with
  | true => exact h.mpr (hangsB_iff.mp e)
  | false =>
    cases b with
    | false => rfl
    | true => exact absurd (hangsB_iff.mpr (h.mp rfl)) (by rw [e]; simp)
end Sq
namespace Sq
open PySem PySem.Spec PyProof.Rows L2
theorem ix_tupK {X : Cx} {K : PySem.W.Frag} (h : X.K = K) : IxR X (rIxT K) := h ▸ ix_tup
theorem ix_listK {X : Cx} {K : PySem.W.Frag} (h : X.K = K) : IxR X (rIxL K) := h ▸ ix_list
end Sq

set_option Elab.async false
set_option linter.all false
set_option maxRecDepth 100000
set_option maxHeartbeats 4000000
/-! The flood. -/
namespace Sq
open PySem PySem.Spec PyProof.Rows L2
structure Fl (H : Hp) (L : List Cell) (c0 : Cell) (fo ah : Addr) (F A : List Cell) (G : Hp) : Prop where
  same : Same H G
  gf : G fo = some (.dT (lotK F))
  ga : CellsL G ah A
  nd : F.Nodup
  cF : c0 ∈ F
  re : ∀ x ∈ F, Reach L c0 x
  sub : ∀ x ∈ A, x ∈ F
  len : A.length ≤ F.length
theorem snoc_inv {α : Type} {xs : List α} (h : xs ≠ []) : ∃ ys y, xs = ys ++ [y] := ⟨xs.dropLast, xs.getLast h, (List.dropLast_concat_getLast h).symm⟩
theorem paired_unsnoc {α β : Type} {F : α → β → Prop} {xs : List α} {x : α} {ys : List β} {y : β} (h : Paired F (xs ++ [x]) (ys ++ [y])) : Paired F xs ys ∧ F x y := by
  induction xs generalizing ys with
  | nil =>
    cases ys with
    | nil =>
      cases h with
      | cons a _ => exact ⟨.nil, a⟩
    | cons z zs =>
      have l := Paired.length h
      simp at l
  | cons a xs ih =>
    cases ys with
    | nil =>
      have l := Paired.length h
      simp at l
    | cons z zs =>
      cases h with
      | cons p t =>
        obtain ⟨h1, h2⟩ := ih t
        exact ⟨.cons p h1, h2⟩
def FlW (H : Hp) (L : List Cell) (c0 : Cell) (d q fo ah : Addr) (m : Nat) (σ : L2.St) (G : Hp) : Prop := ∃ (F A : List Cell) (v4 v5 : Option V), m = 2 * (L.length - F.length) + A.length ∧ σ = [some (.ref d), some (.ref q), some (.ref fo), some (.ref ah), v4, v5] ∧ Fl H L c0 fo ah F A G ∧
      ∀ x ∈ F, x ∉ A → ∀ y ∈ besideC x, y ∈ L → y ∈ F
def spFlood : Sp := fun vs H Q _ => ∃ (d q : Addr) (L : List Cell) (c : Cell), vs = [.ref d, .ref q] ∧ H d = some (.dT (lotK L)) ∧ L.Nodup ∧ L.length ≤ 1000 ∧ At H q c ∧ c ∈ L ∧
  ∀ e H' F, Same H H' → H e = none → H' e = some (.dT (lotK F)) → F.Nodup → (∀ x, x ∈ F ↔ Reach L c x) → Q (.ref e) H'
section
variable {P : Program} {w : World} {K : PySem.W.Frag} {mg : Str → Option Value} {base : Heap}
theorem scFl : FnScope ["lot", "first", "found", "ahead", "cell", "near"] ["lot", "first"] (defScope gFlood) := ⟨rfl, rfl, rfl, by decide +kernel, rfl, by decide +kernel, by decide +kernel⟩
theorem ok_flood {f : Addr} {fd : FuncData} (F : FnP K "flood" gFlood f fd) (DN : Df P w K mg base CX0 2 "near_in" ["lot", "cell"] spNear) : FnOk P w K mg base CX0 3 f fd ["lot", "first"] spFlood := by
  refine F.ok scFl (fun vs H Q E h => ?_) (fun cdv A outer s H vs Q E hr h => ?_)
  · obtain ⟨d, q, L, c, rfl, _⟩ := h
    rfl
  · obtain ⟨d, q, L, c0, rfl, ed, nL, lL, aq, cL, k⟩ := h
    have hu := hu_of hr
    refine ⟨_, PSs.nox (pss_cons (ps_set (i := 2) scFl.nd rfl (.inl rfl) (pe_disp1 (.inr rfl) hu (pv 1) pe_bl))
      (pss_cons (ps_set (i := 3) scFl.nd rfl (.inl rfl) (pe_lst (pa_cons (pv 1) pa_nil)))
      (pss_cons (ps_while PassesOwn.never (pt_truth (pv 3) (by intro _; rfl))
      (pss_cons (ps_set (i := 4) scFl.nd rfl (.inl rfl) (pe_bm0 PySem.F.plainAttrs_list PySem.F.slot_list_pop PySem.F.type_list_pop mt_pop (pv 3)))
        (pss_one (ps_for PassesOwn.never rfl (pi_list (pe_df DN hr (by rfl) pass0 (pa_cons (pv 0) (pa_cons (pv 4) pa_nil)))) (pg_name (i := 5) scFl.nd rfl (.inl rfl))
        (pss_one (ps_if (pt_cmp (pc_dnotin hu (pv 5) (pv 2)))
          (pss_cons (ps_dput hu (pv 2) (pv 5) pe_bl rfl)
            (pss_one (ps_expr (pe_bm PySem.F.plainAttrs_list PySem.F.slot_list_append PySem.F.type_list_append mt_append (pv 3) (pa_cons (pv 5) pa_nil)))))
          pss_nil))))))
      (pss_one (ps_ret (pv 2)))))), ?_⟩
    intro fo hfo
    refine ⟨_, rfl, _, dput_lot (L := []) upd_same (aq.new hfo) (by simp) (by rw [sizeLine_eq]; decide), ?_⟩
    rw [upd_upd]
    refine ⟨_, rfl, (by show 1 ≤ sizeLine; rw [sizeLine_eq]; decide), fun ah hah => ?_⟩
    have nah : ah ≠ fo := fun z => by rw [z, upd_same] at hah; cases hah
    have hah0 : H ah = none := by rw [upd_ne nah] at hah; exact hah
    refine ⟨FlW H L c0 d q fo ah, ⟨_, [c0], [c0], none, none, rfl, rfl, ⟨?_, ?_, ?_, by simp, by simp, ?_, fun _ h => h, Nat.le_refl _⟩, ?_⟩, ?_⟩
    · exact same_put (same_put same_refl hfo) hah0
    · rw [upd_ne (Ne.symm nah)]
      exact upd_same
    · exact ⟨[q], upd_same, .cons ((aq.new hfo).new hah) .nil⟩
    · intro x hx
      rw [List.mem_singleton.mp hx]
      exact .refl
    · intro x hx nx
      exact absurd hx nx
    · rintro m σ G ⟨F, A, v4, v5, rfl, rfl, I, cl⟩
      obtain ⟨qs, ea, pa⟩ := I.ga
      refine ⟨_, rfl, _, .inl ⟨_, SqL.of ea, rfl⟩, ?_⟩
      by_cases hA : A = []
      · subst hA
        cases pa
        have all : ∀ x, x ∈ F ↔ Reach L c0 x := fun x => ⟨I.re x, fun r => by
          induction r with
          | refl => exact I.cF
          | step _ hb hc ih => exact cl _ ih (by simp) _ hb hc⟩
        refine ⟨_, rfl, k fo G F I.same hfo I.gf I.nd all⟩
      · obtain ⟨A', c, eA⟩ := snoc_inv (xs := A) hA
        have ne : qs ≠ [] := fun z => by rw [z, eA] at pa; have l := Paired.length pa; simp at l
        obtain ⟨qs', qc, eq⟩ := snoc_inv ne
        subst eA eq
        obtain ⟨pa', ac⟩ := paired_unsnoc pa
        have isE : (List.map V.ref (qs' ++ [qc])).isEmpty = false := by simp
        rw [isE]
        refine ⟨fun σ' G' => ∃ m', m' < 2 * (L.length - F.length) + (A' ++ [c]).length ∧ FlW H L c0 d q fo ah m' σ' G', fun _ _ h => h, ?_⟩
        have cF : c ∈ F := I.sub c (by simp)
        have cLm : c ∈ L := (I.re c cF).mem cL
        have lenF : F.length ≤ L.length := len_le I.nd fun x hx => (I.re x hx).mem cL
        refine ⟨_, rfl, .inl ⟨rfl, _, SqL.of ea⟩, ah, _, .ref qc, rfl, rfl, ea, by simp, ?_⟩
        have drop : (List.map V.ref (qs' ++ [qc])).dropLast = qs'.map V.ref := by simp
        rw [drop]
        have nfo : fo ≠ ah := Ne.symm nah
        have s1 : Same H (upd G ah (.lst (qs'.map V.ref))) := same_put I.same hah0
        have offA : ∀ {b : Addr} {x : Cell}, At G b x → At (upd G ah (.lst (qs'.map V.ref))) b x := fun h => h.off ea (by intro xs z; cases z)
        refine ⟨_, rfl, _, rfl, d, qc, L, c, rfl, s1 _ _ ed, offA ac, fun l G2 s2 hl ⟨ns, el, pn⟩ => ?_⟩
        refine ⟨l, rfl, ⟨_, SqL.of el⟩, ?_⟩
        have lah : l ≠ ah := fun z => by rw [z, upd_same] at hl; cases hl
        have lfo : l ≠ fo := fun z => by rw [z, upd_ne nfo, I.gf] at hl; cases hl
        refine for_list (K := K) (a := l) (xs := ns.map V.ref) (fun i σ G => ∃ (F2 A2 : List Cell) (v5 : Option V), 2 * (L.length - F2.length) + A2.length < 2 * (L.length - F.length) + (A' ++ [c]).length ∧ σ = [some (.ref d), some (.ref q), some (.ref fo), some (.ref ah), some (.ref qc), v5] ∧
          Fl H L c0 fo ah F2 A2 G ∧ c ∈ F2 ∧ G l = some (.lst (ns.map V.ref)) ∧ Paired (fun b x => At G b x) ns (nearC L c) ∧ (∀ x ∈ F2, x ∉ A2 → x ≠ c → ∀ y ∈ besideC x, y ∈ L → y ∈ F2) ∧ ∀ y ∈ (nearC L c).take i, y ∈ F2) ?_ ?_ ?_ ?_
        · refine ⟨F, A', v5, ?_, rfl, ⟨s1.trans s2, ?_, ⟨qs', ?_, ?_⟩, I.nd, I.cF, I.re, fun x hx => I.sub x (List.mem_append_left _ hx), ?_⟩, cF, el, pn, ?_, by simp⟩
          · rw [List.length_append]
            show _ < _ + (_ + 1)
            omega
          · refine s2 _ _ ?_
            rw [upd_ne nfo]
            exact I.gf
          · exact s2 _ _ upd_same
          · exact paired_imp (fun _ _ h => (offA h).same s2) pa'
          · have := I.len
            rw [List.length_append] at this
            omega
          · intro x hx nx nc
            refine cl x hx fun m => ?_
            rcases List.mem_append.mp m with m | m
            · exact nx m
            · exact nc (List.mem_singleton.mp m)
        · rintro i σ G hi ⟨F2, A2, v, _, _, _, _, e, _⟩
          exact SqL.of e
        · rintro i x σ G hi ⟨F2, A2, v, lt, rfl, J, c2, gl, pn2, cl2, tk⟩
          rw [List.getElem?_map] at hi
          obtain ⟨b, hb, rfl⟩ := Option.map_eq_some_iff.mp hi
          obtain ⟨y, hy, ay⟩ := paired_get pn2 hb
          have lF2 : F2.length ≤ L.length := len_le J.nd fun x hx => (J.re x hx).mem cL
          have yN : y ∈ nearC L c := List.mem_of_getElem? hy
          have yL : y ∈ L := of_decide_eq_true (List.mem_filter.mp yN).2
          have yB : y ∈ besideC c := (List.mem_filter.mp yN).1
          refine ⟨_, rfl, _, rfl, fo, _, rfl, dget_lot J.gf ay, _, rfl, ?_⟩
          rw [lot_is]
          refine ite2 (fun hc => ?_) (fun hc => ?_)
          · have nF : y ∉ F2 := by simpa using hc
            have lt2 : F2.length + 1 ≤ L.length := len_le (xs := y :: F2) (List.nodup_cons.mpr ⟨nF, J.nd⟩) fun x hx => (List.mem_cons.mp hx).elim (fun e => e ▸ yL) (fun h => (J.re x h).mem cL)
            obtain ⟨qs2, ea2, pa2⟩ := J.ga
            have lq : qs2.length = A2.length := Paired.length pa2
            refine ⟨_, rfl, _, rfl, fo, _, rfl, dput_lot J.gf ay nF (by rw [sizeLine_eq]; omega), ?_⟩
            have ea3 : upd G fo (.dT (lotK (F2 ++ [y]))) ah = some (.lst (qs2.map V.ref)) := by rw [upd_ne nah]; exact ea2
            have offF : ∀ {b : Addr} {x : Cell}, At G b x → At (upd G fo (.dT (lotK (F2 ++ [y])))) b x := fun h => h.off J.gf (by intro xs z; cases z)
            have offB : ∀ {b : Addr} {x : Cell}, At G b x → At (upd (upd G fo (.dT (lotK (F2 ++ [y])))) ah (.lst (qs2.map V.ref ++ [V.ref b]))) b x := fun h => (offF h).off ea3 (by intro xs z; cases z)
            refine ⟨_, rfl, .inl ⟨rfl, _, SqL.of ea3⟩, _, rfl, ah, _, _, rfl, rfl, ea3, by rw [List.length_map, sizeLine_eq]; have := J.len; omega, ?_⟩
            refine ⟨F2 ++ [y], A2 ++ [y], _, ?_, rfl, ⟨same_put (same_put J.same hfo) hah0, ?_, ⟨qs2 ++ [b], ?_, ?_⟩, ?_, List.mem_append_left _ J.cF, ?_, ?_, ?_⟩, List.mem_append_left _ c2, ?_, ?_, ?_, ?_⟩
            · rw [List.length_append, List.length_append]
              show 2 * (L.length - (F2.length + 1)) + (A2.length + 1) < _
              omega
            · rw [upd_ne nfo]
              exact upd_same
            · rw [upd_same, List.map_append]
              rfl
            · exact (paired_imp (fun _ _ h => (offF h).off ea3 (by intro xs z; cases z)) pa2).snoc (offB ay)
            · exact List.nodup_append.mpr ⟨J.nd, by simp, fun a ha b hb => by rw [List.mem_singleton.mp hb]; exact fun z => nF (z ▸ ha)⟩
            · intro x hx
              rcases List.mem_append.mp hx with h | h
              · exact J.re x h
              · rw [List.mem_singleton.mp h]
                exact (J.re c c2).step yB yL
            · intro x hx
              rcases List.mem_append.mp hx with h | h
              · exact List.mem_append_left _ (J.sub x h)
              · exact List.mem_append_right _ h
            · rw [List.length_append, List.length_append]
              exact Nat.succ_le_succ J.len
            · rw [upd_ne lah, upd_ne lfo]
              exact gl
            · exact paired_imp (fun _ _ h => (offF h).off ea3 (by intro xs z; cases z)) pn2
            · intro x hx nx nc z hz zL
              rcases List.mem_append.mp hx with h | h
              · exact List.mem_append_left _ (cl2 x h (fun m => nx (List.mem_append_left _ m)) nc z hz zL)
              · exact absurd (List.mem_append_right _ h) nx
            · intro z hz
              rw [take_snoc hy] at hz
              rcases List.mem_append.mp hz with h | h
              · exact List.mem_append_left _ (tk z h)
              · exact List.mem_append_right _ h
          · have yF : y ∈ F2 := by simpa using hc
            refine ⟨F2, A2, _, lt, rfl, J, c2, gl, pn2, cl2, fun z hz => ?_⟩
            rw [take_snoc hy] at hz
            rcases List.mem_append.mp hz with h | h
            · exact tk z h
            · rw [List.mem_singleton.mp h]
              exact yF
        · rintro σ G ⟨F2, A2, v, lt, rfl, J, c2, gl, pn2, cl2, tk⟩
          refine ⟨_, lt, F2, A2, _, _, rfl, rfl, J, fun x hx nx y hy yL => ?_⟩
          by_cases hxc : x = c
          · subst hxc
            refine tk y ?_
            have e : (ns.map V.ref).length = (nearC L x).length := by rw [List.length_map]; exact Paired.length pn2
            rw [e, List.take_length]
            exact List.mem_filter.mpr ⟨hy, decide_eq_true yL⟩
          · exact cl2 x hx nx hxc y hy yL
end
end Sq

set_option Elab.async false
set_option linter.all false
set_option maxRecDepth 100000
set_option maxHeartbeats 4000000
/-! sorted of cells: out of a list, a dict's keys, a set. -/
namespace Sq
open PySem PySem.Spec PyProof.Rows L2
/-- the cell that stands at q, if one does -/
def cellAt (H : Hp) (q : Addr) : Cell := match H q with
  | some (.tup [.int i, .int j]) => (i, j)
  | _ => (0, 0)
theorem At.cell {H : Hp} {q : Addr} {c : Cell} (h : At H q c) : cellAt H q = c := by
  unfold cellAt
  rw [show H q = some (.tup [.int c.1, .int c.2]) from h]
theorem paired_cells {H : Hp} : ∀ {qs : List Addr} {cs : List Cell}, Paired (fun q c => At H q c) qs cs → cs = qs.map (cellAt H)
  | _, _, .nil => rfl
  | _, _, .cons h t => by rw [List.map_cons, h.cell, ← paired_cells t]
theorem paired_of {H : Hp} : ∀ {qs : List Addr}, (∀ q ∈ qs, At H q (cellAt H q)) → Paired (fun q c => At H q c) qs (qs.map (cellAt H))
  | [], _ => .nil
  | q :: qs, h => .cons (h q (List.mem_cons_self ..)) (paired_of fun r hr => h r (List.mem_cons_of_mem _ hr))
theorem paired_at {H : Hp} {qs : List Addr} {cs : List Cell} (h : Paired (fun q c => At H q c) qs cs) : ∀ q ∈ qs, At H q (cellAt H q) := by
  induction h with
  | nil => intro q hq; cases hq
  | cons a _ ih =>
    intro q hq
    rcases List.mem_cons.mp hq with e | e
    · rw [e, a.cell]
      exact a
    · exact ih q e
/-- what stands at refs, as pairs -/
def kC (H : Hp) : V → Int × Int
  | .ref q => cellAt H q
  | _ => (0, 0)
theorem lexB_cLt (a b : Cell) : SrtO.lexB a b = cLt a b := by
  cases h : cLt a b with
  | true => exact SrtO.lexB_iff.mpr (of_decide_eq_true h)
  | false => exact SrtO.lexB_no.mpr (of_decide_eq_false h)
/-- cells in their order -/
def Asc (cs : List Cell) : Prop := cs.Pairwise fun x y => cLt y x = false
/-- what a sorting of cells hands back -/
def sortedK (H : Hp) (cs : List Cell) (Q : VK) : Prop := ∀ (p : Addr) (qs' : List Addr) (cs' : List Cell), Paired (fun q c => At H q c) qs' cs' → cs'.Perm cs → Asc cs' → H p = none → Q (.ref p) (upd H p (.lst (qs'.map V.ref)))
theorem refs_perm {ys : List V} {qs : List Addr} (h : ys.Perm (qs.map V.ref)) : ∃ qs' : List Addr, ys = qs'.map V.ref ∧ qs'.Perm qs := by
  let un : V → Addr := fun v => match v with | .ref a => a | _ => 0
  have e0 : (qs.map V.ref).map un = qs := by
    rw [List.map_map]
    exact List.map_id' _
  refine ⟨ys.map un, ?_, ?_⟩
  · rw [List.map_map]
    have all : ∀ y ∈ ys, (V.ref ∘ un) y = y := fun y hy => by
      obtain ⟨q, _, rfl⟩ := List.mem_map.mp (h.mem_iff.mp hy)
      rfl
    rw [List.map_congr_left all]
    exact (List.map_id' _).symm
  · have := h.map un
    rwa [e0] at this
section
variable {X : Cx}
def rSortC (K : PySem.W.Frag) : List V → Hp → VK → Prop := fun vs H Q => ∃ (a : Addr) (qs : List Addr) (cs : List Cell), vs = [V.ref a] ∧ SqL K H a (qs.map V.ref) ∧ Paired (fun q c => At H q c) qs cs ∧ sortedK H cs Q
theorem sorted_end {H : Hp} {qs : List Addr} {cs : List Cell} {Q : VK} (pr : Paired (fun q c => At H q c) qs cs) (k : sortedK H cs Q) {ys : List V} {p : Addr} (hs : SrtO.Srtd (ltP (kC H)) ys) (hp : ys.Perm (qs.map V.ref)) (hn : H p = none) : Q (.ref p) (upd H p (.lst ys)) := by
  obtain ⟨qs', rfl, pm⟩ := refs_perm hp
  have al := paired_at pr
  refine k p qs' (qs'.map (cellAt H)) (paired_of fun q hq => al q (pm.mem_iff.mp hq)) ?_ ?_ hn
  · rw [paired_cells pr]
    exact pm.map _
  · unfold Asc
    rw [List.pairwise_map]
    refine (List.pairwise_map.mp hs).imp fun {a b} h => ?_
    rw [← lexB_cLt]
    exact h
theorem cr_sortedC : CallR X (.builtin "sorted") (rSortC X.K) := by
  intro pins s σ H vs us Q I r h
  obtain ⟨a, qs, cs, rfl, hs, pr, k⟩ := h
  refine cr_sortedPO pins s σ H _ us Q I r ⟨a, _, kC H, rfl, hs, fun x hx => ?_, fun ys p h1 h2 hn => sorted_end pr k h1 h2.perm hn⟩
  obtain ⟨q, hq, rfl⟩ := List.mem_map.mp hx
  exact ⟨q, rfl, paired_at pr q hq⟩
end
/-- sorted of whatever is collected to references of cells -/
theorem sorted_src {prog : Program} {w : World} {A : Around} {E : Value → Shared → Prop} {Q : Value → Shared → Prop} {s : Shared} {a : Addr} {k : Value → Int × Int}
    (hc : wpAny (model prog w) A.in1 (collect (.ref a)) (fun vs s1 => vs.length ≤ sizeLine ∧ (∀ v ∈ vs, Srt.IsPair s1.heap v (k v).1 (k v).2) ∧
      ∀ (h2 : Heap) (d : Addr) (out : List Value), SrtO.Srtd (fun v u => SrtO.lexB (k v) (k u)) out → out.Perm vs → (∀ b o, s1.heap.get? b = some o → h2.get? b = some o) → s1.heap.objs.size ≤ d → (∃ n, h2.get? d = some (seqObj "list" out.toArray n)) → Q (.ref d) { s1 with heap := h2 }) E s) :
    wpAny (model prog w) A (call (.builtin "sorted") [.ref a]) Q E s := by
  refine Calls.call_function_entry kind_sorted plain_sorted entry_sorted (args_sorted1 _) ?_
  unfold Builtin.«sorted»
  refine wpAny_bind (m := checkCount "sorted" 1 1 _) (wpAny_pure (wpAny_bind (wpAny_mono hc (fun vs s1 got => ?_) fun _ _ z => z)))
  obtain ⟨sz, ip, fin⟩ := got
  obtain ⟨hL, eL⟩ : ∃ hL : Heap, hL = s1.heap.push (seqObj "list" vs.toArray 0) := ⟨_, rfl⟩
  have at0 : hL.get? s1.heap.objs.size = some (seqObj "list" vs.toArray 0) := by rw [eL]; exact Heap.get?_push_size _ rfl
  have kp : ∀ b o, s1.heap.get? b = some o → hL.get? b = some o := fun b o e => by rw [eL]; exact Heap.get?_push_of_some _ e
  refine wpAny_bind (wpAny_newList ?_ sz)
  rw [← eL]
  refine wpAny_bind (wpAny_holding (wpAny_call_entry slot_list_sort ⟨_, at0, rfl⟩ entry_list_sort (SrtO.list_sort_ord (s := { s1 with heap := hL }) (SrtO.swo_lex k) at0 sz (fun two => ?_) fun out o1 o2 => ⟨_, rfl, ?_⟩) (args_list_sort _)))
  · refine SrtO.pairs_sortableO (by omega) (fun v hv => (ip v hv).keeps fun b o e _ => kp b o e) fun o e c => ?_
    have e2 : some o = some (seqObj "list" vs.toArray 0) := e.symm.trans at0
    cases e2
    exact absurd (Value.type.inj c) (by decide)
  · refine wpAny_pure ⟨_, rfl, fin _ _ out o1 o2.perm (fun b o e => ?_) (Nat.le_refl _) (sortedHeap_at at0)⟩
    have lt := Heap.lt_size e
    show (sortedHeap hL s1.heap.objs.size vs out.toArray).get? b = some o
    rw [sortedHeap_old (Nat.ne_of_lt lt) (by rw [eL, Heap.size_push]; exact Nat.lt_succ_of_lt lt)]
    exact kp b o e
end Sq

set_option Elab.async false
set_option linter.all false
set_option maxRecDepth 100000
set_option maxHeartbeats 4000000
/-! sorted of a set of cells, of a dict whose keys are cells. -/
namespace Sq
open PySem PySem.Spec PyProof.Rows L2
section
variable {X : Cx} {pins : List (Addr × Obj)} {σ : L2.St} {H : Hp} {s s1 : Shared}
/-- a new list of such values is laid behind a state that keeps all -/
theorem laid_list (I : Inv X pins σ H s) {h2 : Heap} {d : Addr} {out : List Value} {ys : List V} (k1 : ∀ b o, s.heap.get? b = some o → s1.heap.get? b = some o) (sz : s.heap.objs.size ≤ s1.heap.objs.size) (g : s1.gens = s.gens) (os : s1.os = s.os)
    (k2 : ∀ b o, s1.heap.get? b = some o → h2.get? b = some o) (hd : s1.heap.objs.size ≤ d) (hn : ∃ n, h2.get? d = some (seqObj "list" out.toArray n)) (rv : Vals ys out) (len : ys.length ≤ sizeLine) : Inv X pins σ (upd H d (.lst ys)) { s1 with heap := h2 } := by
  obtain ⟨c, hc⟩ := hn
  have kk : ∀ b o, s.heap.get? b = some o → h2.get? b = some o := fun b o e => k2 b o (k1 b o e)
  have hp : s.heap.objs.size ≤ d := Nat.le_trans sz hd
  exact I.call' (s' := { s1 with heap := h2 }) (ch := []) os (Un.laid kk hp (I.hok.fresh hp)) (I.hok.laid kk hp ⟨len, out, c, rv, hc⟩) (by show AllBare s1.gens; rw [g]; exact I.bare) (fun _ z => nomatch z)
/-- a cell's object in the true heap -/
theorem At.pair (I : Inv X pins σ H s) {q : Addr} {c : Cell} (h : At H q c) : Srt.IsPair s.heap (.ref q) c.1 c.2 := by
  obtain ⟨_, its2, r2, o, ho, hc, n, hd⟩ := I.hok _ _ h
  obtain ⟨u1, u2, rfl, ri, rj⟩ := vals2 r2
  obtain ⟨t1, rfl⟩ := ri
  obtain ⟨t2, rfl⟩ := rj
  exact ⟨q, o, t1, t2, n, rfl, ho, hc, hd⟩
/-- values that are refs, back -/
def kVal (H : Hp) : Value → Int × Int
  | .ref q => cellAt H q
  | _ => (0, 0)
theorem vals_perm {out : List Value} {qs : List Addr} (h : out.Perm (qs.map Value.ref)) : ∃ qs' : List Addr, out = qs'.map Value.ref ∧ qs'.Perm qs := by
  let un : Value → Addr := fun v => match v with | .ref a => a | _ => 0
  have e0 : (qs.map Value.ref).map un = qs := by
    rw [List.map_map]
    exact List.map_id' _
  refine ⟨out.map un, ?_, ?_⟩
  · rw [List.map_map]
    have all : ∀ y ∈ out, (Value.ref ∘ un) y = y := fun y hy => by
      obtain ⟨q, _, rfl⟩ := List.mem_map.mp (h.mem_iff.mp hy)
      rfl
    rw [List.map_congr_left all]
    exact (List.map_id' _).symm
  · have := h.map un
    rwa [e0] at this
/-- the end of a sorting of refs -/
theorem sort_fin (I : Inv X pins σ H s) {vs : List Value} {qs : List Addr} {cs : List Cell} {Q : VK} (pm : vs.Perm (qs.map Value.ref)) (pr : Paired (fun q c => At H q c) qs cs) (few : qs.length ≤ sizeLine) (k1 : ∀ b o, s.heap.get? b = some o → s1.heap.get? b = some o)
    (sz : s.heap.objs.size ≤ s1.heap.objs.size) (g : s1.gens = s.gens) (os : s1.os = s.os) (k : sortedK H cs Q) :
    vs.length ≤ sizeLine ∧ (∀ v ∈ vs, Srt.IsPair s1.heap v (kVal H v).1 (kVal H v).2) ∧
      ∀ (h2 : Heap) (d : Addr) (out : List Value), SrtO.Srtd (fun v u => SrtO.lexB (kVal H v) (kVal H u)) out → out.Perm vs → (∀ b o, s1.heap.get? b = some o → h2.get? b = some o) → s1.heap.objs.size ≤ d → (∃ n, h2.get? d = some (seqObj "list" out.toArray n)) →
        ∃ x H', Inv X pins σ H' { s1 with heap := h2 } ∧ RelV x (.ref d) ∧ Q x H' := by
  have al := paired_at pr
  refine ⟨by rw [pm.length_eq, List.length_map]; exact few, fun v hv => ?_, fun h2 d out o1 o2 k2 hd hn => ?_⟩
  · obtain ⟨q, hq, rfl⟩ := List.mem_map.mp (pm.mem_iff.mp hv)
    exact ((al q hq).pair I).keeps fun b o e _ => k1 b o e
  · obtain ⟨qs', rfl, pm'⟩ := vals_perm (o2.trans pm)
    have asc : Asc (qs'.map (cellAt H)) := by
      unfold Asc
      rw [List.pairwise_map]
      refine (List.pairwise_map.mp o1).imp fun {a b} h => ?_
      rw [← lexB_cLt]
      exact h
    refine ⟨.ref d, upd H d (.lst (qs'.map V.ref)), laid_list I k1 sz g os k2 hd hn (vals_refs qs') (by rw [List.length_map, pm'.length_eq]; exact few), rfl, ?_⟩
    refine k d qs' (qs'.map (cellAt H)) (paired_of fun q hq => al q (pm'.mem_iff.mp hq)) ?_ asc (I.hok.fresh (Nat.le_trans sz hd))
    rw [paired_cells pr]
    exact pm'.map _
/-- sorted of a set of cells -/
def rSortS (P : Program) (w : World) : List V → Hp → VK → Prop := fun vs H Q => ∃ (a : Addr) (L : List (Addr × List Int)) (cs : List Cell), vs = [V.ref a] ∧ H a = some (SetTO P w a L) ∧ Paired (fun p c => At H p.1 c ∧ p.2 = [c.1, c.2]) L cs ∧ (cs.Nodup → sortedK H cs Q)
theorem paired_imp0 {α β : Type} {F G : α → β → Prop} (k : ∀ a b, F a b → G a b) : ∀ {xs : List α} {ys : List β}, Paired F xs ys → Paired G xs ys
  | _, _, .nil => .nil
  | _, _, .cons h t => .cons (k _ _ h) (paired_imp0 k t)
theorem paired_map {α β γ : Type} {F : α → γ → Prop} (f : β → α) : ∀ {xs : List β} {ys : List γ}, Paired (fun b y => F (f b) y) xs ys → Paired F (xs.map f) ys
  | _, _, .nil => .nil
  | _, _, .cons h t => .cons h (paired_map f t)
theorem cr_sortedS (calm : X.calm = true) : CallR X (.builtin "sorted") (rSortS X.prog X.w) := by
  intro pins s σ H vs us Q I r h
  obtain ⟨a, L, cs, rfl, ha, pr, k⟩ := h
  have key : ∀ {L : List (Addr × List Int)} {cs : List Cell}, Paired (fun p c => At H p.1 c ∧ p.2 = [c.1, c.2]) L cs → ∀ p ∈ L, ∃ c, At H p.1 c ∧ p.2 = [c.1, c.2] := fun {L cs} pr => by
    induction pr with
    | nil => intro p hp; cases hp
    | cons h _ ih =>
      intro p hp
      rcases List.mem_cons.mp hp with e | e
      · rw [e]
        exact ⟨_, h⟩
      · exact ih p e
  have R0 : SetT0 X.prog X.w s.heap a L := (I.hok a _ ha).1
  obtain ⟨es, ep, t, R⟩ := R0.full fun p hp => I.isT (by
    obtain ⟨c, h1, h2⟩ := key pr p hp
    rw [h2]
    exact SqT.of h1)
  rw [Vals.ref1 r]
  obtain ⟨o, ho, hex, hd⟩ := R.ob
  have few := R.few
  have sz := R.size
  have nd : cs.Nodup := by
    have e : L.map (·.2) = cs.map fun c => [c.1, c.2] := by
      clear k ha R0 R sz few
      induction pr with
      | nil => rfl
      | cons h _ ih => rw [List.map_cons, List.map_cons, h.2, ih]
    have n := R.nd
    rw [e] at n
    exact nodup_of_map n
  refine sorted_src (k := kVal H) (collect_set (A := X.A.in1) (I.ok.hd calm) ⟨o, ho, hex.1, hd⟩ R.fits (by show es.size < 4096; omega) R.tab.ris R.led fun s1 vs k1 hz g1 o1 pm => ?_)
  have e2 : es.toList.map (·.2) = (L.map (·.1)).map Value.ref := by
    rw [R.rows]
    unfold rowsOf
    rw [List.map_map, List.map_map]
    rfl
  rw [e2] at pm
  exact sort_fin I pm (paired_map (fun p : Addr × List Int => p.1) (paired_imp0 (fun _ _ h => h.1) pr)) (by rw [List.length_map, sizeLine_eq]; omega) k1 hz g1 o1 (k nd)
end
end Sq

set_option Elab.async false
set_option linter.all false
set_option maxRecDepth 100000
set_option maxHeartbeats 4000000
/-! Hanging together; what is near a move. -/
namespace Sq
open PySem PySem.Spec PyProof.Rows L2
def spHangs : Sp := fun vs H Q _ => ∃ (d : Addr) (L : List Cell), vs = [.ref d] ∧ H d = some (.dT (lotK L)) ∧ L.Nodup ∧ L.length ≤ 1000 ∧ ∀ H', Same H H' → Q (.bl (hangsB L)) H'
def turnsB (L : List Cell) (s e : Cell) : Bool := decide ((s.1, e.2) ∈ L) != decide ((e.1, s.2) ∈ L)
def sideB (L : List Cell) (s e d : Cell) : Bool := decide ((s.1 + d.1, s.2 + d.2) ∈ L) && decide ((e.1 + d.1, e.2 + d.2) ∈ L)
def slidesB (L : List Cell) (s e : Cell) : Bool := sideB L s e (e.2 - s.2, e.1 - s.1) || sideB L s e (-(e.2 - s.2), -(e.1 - s.1))
def spTurns : Sp := fun vs H Q _ => ∃ (d p q : Addr) (L : List Cell) (s e : Cell), vs = [.ref d, .ref p, .ref q] ∧ H d = some (.dT (lotK L)) ∧ At H p s ∧ At H q e ∧ ∀ H', Same H H' → Q (.bl (turnsB L s e)) H'
def spSlides (Ts : List Addr) : Sp := fun vs H Q _ => ∃ (d p q : Addr) (L : List Cell) (s e : Cell), vs = [.ref d, .ref p, .ref q] ∧ H d = some (.dT (lotK L)) ∧ At H p s ∧ At H q e ∧ TabsG Ts H ∧ ∀ H', KT Ts H H' → Q (.bl (slidesB L s e)) H'
theorem min_ex : ∀ {L : List Cell}, L ≠ [] → ∃ m, m ∈ L ∧ ∀ d ∈ L, cLt d m = false
  | [c], _ => ⟨c, by simp, fun d hd => by rw [List.mem_singleton.mp hd]; exact cLt_irr c⟩
  | c :: d :: L, _ => by
    obtain ⟨m, hm, h⟩ := min_ex (L := d :: L) (by simp)
    cases e : cLt c m with
    | true => exact ⟨c, by simp, fun x hx => (List.mem_cons.mp hx).elim (fun z => z ▸ cLt_irr c) fun z => by
        cases q : cLt x c with
        | false => rfl
        | true => exact absurd (cLt_trans q e) (by rw [h x z]; simp)⟩
    | false => exact ⟨m, List.mem_cons_of_mem _ hm, fun x hx => (List.mem_cons.mp hx).elim (fun z => z ▸ e) (h x)⟩
section
variable {P : Program} {w : World} {K : PySem.W.Frag} {mg : Str → Option Value} {base : Heap}
theorem scHa : FnScope ["lot"] ["lot"] (defScope gHangs) := ⟨rfl, rfl, rfl, by decide +kernel, rfl, by decide +kernel, by decide +kernel⟩
theorem ok_hangs {f : Addr} {fd : FuncData} (F : FnP K "lot_hangs" gHangs f fd) (B : Bl mg) (DF : Df P w K mg base CX0 3 "flood" ["lot", "first"] spFlood) : FnOk P w K mg base CX0 4 f fd ["lot"] spHangs := by
  refine F.ok scHa (fun vs H Q E h => ?_) (fun cdv A outer s H vs Q E hr h => ?_)
  · obtain ⟨d, L, rfl, _⟩ := h
    rfl
  · obtain ⟨d, L, rfl, ed, nL, lL, k⟩ := h
    refine ⟨_, PSs.nox (pss_one (ps_ret (pe_and (pe_cmpR op_gt (pe_callB call_len_dT (by rfl) B.len PySem.boot_len (pa_cons (pv 0) pa_nil)) pe_int (nomark _)) (pe_one (pe_cmpR op_eq (pe_callB call_len_dT (by rfl) B.len PySem.boot_len (pa_cons (pe_df DF hr (by rfl) pass0 (pa_cons (pv 0) (pa_cons (pe_callB (cr_minC rfl (room2 hr)) (by rfl) B.min (by decide +kernel) (pa_cons (pv 0) pa_nil)) pa_nil))) pa_nil)) (pe_callB call_len_dT (by rfl) B.len PySem.boot_len (pa_cons (pv 0) pa_nil)) (nomark _)))))), ?_⟩
    refine ⟨_, rfl, d, _, rfl, ed, _, _, rfl, rfl, _, rfl, ?_⟩
    rw [lot_len]
    refine ite2 (fun hc => ?_) (fun hc => ?_)
    · have pos : 0 < L.length := by
        have := of_decide_eq_true hc
        omega
      have ne : L ≠ [] := fun z => by rw [z] at pos; exact absurd pos (by simp)
      refine ⟨_, rfl, _, rfl, d, _, L, rfl, ed, lot_keys L, ne, fun c q hc hmin aq => ?_⟩
      refine ⟨d, q, L, c, rfl, ed, nL, lL, aq, hc, fun e H' F s1 he eF nF hF => ?_⟩
      refine ⟨e, _, rfl, eF, _, rfl, d, _, rfl, s1 _ _ ed, rfl, ?_⟩
      have eq : decide ((V.int ((lotK F).length : Int)) = V.int ((lotK L).length : Int)) = hangsB L := hangsB_of (by
        rw [decide_eq_true_iff, lot_len, lot_len, V.int.injEq, ← hangs_len hc nL nF hF]
        omega)
      show Q (.bl (decide _)) H'
      rw [eq]
      exact k H' s1
    · have z : L = [] := by
        have := fun h => hc (decide_eq_true h)
        cases L with
        | nil => rfl
        | cons a l => exact absurd (by show ((a :: l).length : Int) > 0; simp <;> omega) this
      have e : false = hangsB L := hangsB_of ⟨fun h => absurd h (by simp), fun h => absurd z h.1⟩
      rw [e]
      exact k H same_refl
end
end Sq

set_option Elab.async false
set_option linter.all false
set_option maxRecDepth 100000
set_option maxHeartbeats 4000000
/-! slides: any of a generator expression. -/
namespace Sq
open PySem PySem.Spec PyProof.Rows L2
section
variable {P : Program} {w : World} {K : PySem.W.Frag} {mg : Str → Option Value} {base : Heap}
end
end Sq

set_option Elab.async false
set_option linter.all false
set_option maxRecDepth 100000
set_option maxHeartbeats 4000000
/-! The mathematics of a search in depth: which cells can be taken away. -/
namespace Sq
abbrev TwigC : Type := Cell × Option Cell
/-- a is v, or lies on the way that led to v -/
inductive Anc (T : List TwigC) (a : Cell) : Cell → Prop where
  | refl : Anc T a a
  | step {y v : Cell} : Anc T a y → (v, some y) ∈ T → Anc T a v
theorem Anc.mono {T U : List TwigC} {a v : Cell} (h : Anc T a v) (k : ∀ x ∈ T, x ∈ U) : Anc U a v := by
  induction h with
  | refl => exact .refl
  | step _ m ih => exact ih.step (k _ m)
theorem Anc.trans {T : List TwigC} {a b c : Cell} (h : Anc T a b) (k : Anc T b c) : Anc T a c := by
  induction k with
  | refl => exact h
  | step _ m ih => exact ih.step m
abbrev keysT (T : List TwigC) : List Cell := T.map (·.1)
/-- what a search in depth leaves: each cell with the one that led to it; a cell's neighbours that were met ahead of it lie on its way -/
inductive DTree (L : List Cell) : List TwigC → Prop where
  | root {r : Cell} (h : r ∈ L) : DTree L [(r, none)]
  | snoc {T : List TwigC} {v y : Cell} (t : DTree L T) (hy : y ∈ keysT T) (hv : v ∈ L) (nv : v ∉ keysT T) (b : v ∈ besideC y) (anc : ∀ u ∈ keysT T, v ∈ besideC u → Anc T u y) : DTree L (T ++ [(v, some y)])
section
variable {L : List Cell} {T : List TwigC}
theorem keys_snoc {T : List TwigC} {v : Cell} {o : Option Cell} : keysT (T ++ [(v, o)]) = keysT T ++ [v] := by simp [keysT]
theorem DTree.nodup (h : DTree L T) : (keysT T).Nodup := by
  induction h with
  | root => simp [keysT]
  | snoc _ _ _ nv _ _ ih =>
    rw [keys_snoc, List.nodup_append]
    refine ⟨ih, by simp, fun a ha b hb e => ?_⟩
    rw [List.mem_singleton.mp hb] at e
    exact nv (e ▸ ha)
theorem DTree.sub (h : DTree L T) : ∀ v ∈ keysT T, v ∈ L := by
  induction h with
  | root h =>
    intro v hv
    simp [keysT] at hv
    exact hv ▸ h
  | snoc _ _ hv _ _ _ ih =>
    intro u hu
    rw [keys_snoc] at hu
    rcases List.mem_append.mp hu with m | m
    · exact ih u m
    · rw [List.mem_singleton.mp m]; exact hv
/-- the place of a cell -/
def numT (T : List TwigC) (v : Cell) : Nat := (keysT T).idxOf v
theorem num_lt {v : Cell} : numT T v < (keysT T).length ↔ v ∈ keysT T := List.idxOf_lt_length_iff
theorem num_inj {v u : Cell} (hv : v ∈ keysT T) (hu : u ∈ keysT T) (h : numT T v = numT T u) : v = u := by
  have e1 := List.getElem_idxOf (num_lt.mpr hv)
  have e2 := List.getElem_idxOf (num_lt.mpr hu)
  unfold numT at h
  rw [← e1, ← e2]
  congr 1
theorem num_old {v w : Cell} {o : Option Cell} (hv : v ∈ keysT T) : numT (T ++ [(w, o)]) v = numT T v := by
  unfold numT
  rw [keys_snoc, List.idxOf_append, if_pos hv]
theorem num_new {w : Cell} {o : Option Cell} (hw : w ∉ keysT T) : numT (T ++ [(w, o)]) w = (keysT T).length := by
  unfold numT
  rw [keys_snoc, List.idxOf_append, if_neg hw]
  simp
/-- a twig's cells -/
theorem DTree.twig (h : DTree L T) {v y : Cell} (m : (v, some y) ∈ T) : v ∈ keysT T ∧ y ∈ keysT T ∧ v ∈ besideC y ∧ numT T y < numT T v := by
  induction h with
  | root => simp at m
  | @snoc T v' y' t hy hv nv b anc ih =>
    rw [keys_snoc]
    rcases List.mem_append.mp m with m | m
    · obtain ⟨h1, h2, h3, h4⟩ := ih m
      exact ⟨List.mem_append_left _ h1, List.mem_append_left _ h2, h3, by rw [num_old h1, num_old h2]; exact h4⟩
    · have e := List.mem_singleton.mp m
      obtain ⟨rfl, e2⟩ := Prod.mk.inj e
      have e2 := Option.some.inj e2
      subst e2
      exact ⟨by simp, List.mem_append_left _ hy, b, by rw [num_old hy, num_new nv]; exact num_lt.mpr hy⟩
theorem DTree.uniq (h : DTree L T) {v : Cell} {o o' : Option Cell} (m : (v, o) ∈ T) (m' : (v, o') ∈ T) : o = o' := by
  have nd := h.nodup
  obtain ⟨i, hi, e1⟩ := List.mem_iff_getElem.mp m
  obtain ⟨j, hj, e2⟩ := List.mem_iff_getElem.mp m'
  have k1 : (keysT T)[i]'(by simpa [keysT] using hi) = v := by simp [keysT, e1]
  have k2 : (keysT T)[j]'(by simpa [keysT] using hj) = v := by simp [keysT, e2]
  have ij : i = j := (List.getElem_inj nd).mp (k1.trans k2.symm)
  subst ij
  rw [e1] at e2
  exact (Prod.mk.inj e2).2
theorem DTree.anc_num (h : DTree L T) {a v : Cell} (k : Anc T a v) : numT T a ≤ numT T v := by
  induction k with
  | refl => exact Nat.le_refl _
  | step _ m ih => exact Nat.le_trans ih (Nat.le_of_lt (h.twig m).2.2.2)
theorem DTree.anc_mem (h : DTree L T) {a v : Cell} (k : Anc T a v) (hv : v ∈ keysT T) : a ∈ keysT T := by
  induction k with
  | refl => exact hv
  | step _ m ih => exact ih (h.twig m).2.1
/-- two neighbours: the one that was met first lies on the other one's way -/
theorem DTree.edge (h : DTree L T) : ∀ {u w : Cell}, u ∈ keysT T → w ∈ keysT T → w ∈ besideC u → numT T u < numT T w → Anc T u w := by
  induction h with
  | root =>
    intro u w hu hw b _
    simp [keysT] at hu hw
    rw [hu, hw] at b
    exact absurd rfl (beside_ne b)
  | @snoc T v y t hy hv nv b anc ih =>
    intro u w hu hw bw lt
    have sub : ∀ x ∈ T, x ∈ T ++ [(v, some y)] := fun x hx => List.mem_append_left _ hx
    have hu2 : u ∈ keysT T ∨ u = v := by
      rw [keys_snoc] at hu
      exact (List.mem_append.mp hu).imp id List.mem_singleton.mp
    have hw2 : w ∈ keysT T ∨ w = v := by
      rw [keys_snoc] at hw
      exact (List.mem_append.mp hw).imp id List.mem_singleton.mp
    rcases hu2 with hu2 | rfl
    · rcases hw2 with hw2 | rfl
      · rw [num_old hu2, num_old hw2] at lt
        exact (ih hu2 hw2 bw lt).mono sub
      · exact ((anc u hu2 bw).mono sub).step (by simp)
    · rcases hw2 with hw2 | rfl
      · rw [num_old hw2, num_new nv] at lt
        exact absurd (num_lt.mpr hw2) (by omega)
      · omega
/-- the ways to one cell: one lies on the other -/
theorem DTree.chain (h : DTree L T) {a b v : Cell} (k : Anc T a v) (l : Anc T b v) : Anc T a b ∨ Anc T b a := by
  induction k with
  | refl => exact .inr l
  | @step y v k m ih =>
    cases l with
    | refl => exact .inl (k.step m)
    | @step y' _ l m' =>
      have e := Option.some.inj (h.uniq m m')
      subst e
      exact ih l
theorem DTree.ne_step (h : DTree L T) {a y v : Cell} (k : Anc T a y) (m : (v, some y) ∈ T) : a ≠ v := fun e => by
  have h1 := h.anc_num k
  have h2 := (h.twig m).2.2.2
  rw [e] at h1
  omega
theorem Anc.antisymm (h : DTree L T) {a b : Cell} (hb : b ∈ keysT T) (k : Anc T a b) (l : Anc T b a) : a = b := num_inj (h.anc_mem k hb) hb (Nat.le_antisymm (h.anc_num k) (h.anc_num l))
/-- below v, but not v: below one child of it -/
theorem DTree.child_of (h : DTree L T) {v x : Cell} (k : Anc T v x) : x = v ∨ ∃ c, (c, some v) ∈ T ∧ Anc T c x := by
  induction k with
  | refl => exact .inl rfl
  | @step y x k m ih =>
    rcases ih with rfl | ⟨c, mc, kc⟩
    · exact .inr ⟨x, m, .refl⟩
    · exact .inr ⟨c, mc, kc.step m⟩
/-- the root -/
theorem DTree.root_ex (h : DTree L T) : ∃ r T', T = (r, none) :: T' ∧ r ∈ L := by
  induction h with
  | @root r hr => exact ⟨r, [], rfl, hr⟩
  | snoc _ _ _ _ _ _ ih =>
    obtain ⟨r, T', rfl, hr⟩ := ih
    exact ⟨r, T' ++ _, rfl, hr⟩
theorem DTree.other (h : DTree L T) {r : Cell} (hr : (r, none) ∈ T) : ∀ v ∈ keysT T, v = r ∨ ∃ y, (v, some y) ∈ T := by
  induction h with
  | root =>
    intro v hv
    simp [keysT] at hv hr
    exact .inl (hv.trans hr.symm)
  | @snoc T w y t hy hw nw b anc ih =>
    have hr : (r, none) ∈ T := by
      rcases List.mem_append.mp hr with m | m
      · exact m
      · simp at m
    intro v hv
    rw [keys_snoc] at hv
    rcases List.mem_append.mp hv with m | m
    · rcases ih hr v m with e | ⟨z, hz⟩
      · exact .inl e
      · exact .inr ⟨z, List.mem_append_left _ hz⟩
    · exact .inr ⟨y, by rw [List.mem_singleton.mp m]; simp⟩
theorem DTree.from_root (h : DTree L T) {r : Cell} (hr : (r, none) ∈ T) : ∀ v ∈ keysT T, Anc T r v := by
  have key : ∀ n v, numT T v ≤ n → v ∈ keysT T → Anc T r v := by
    intro n
    induction n with
    | zero =>
      intro v hn hv
      rcases h.other hr v hv with e | ⟨y, m⟩
      · rw [e]; exact .refl
      · have := (h.twig m).2.2.2
        omega
    | succ n ih =>
      intro v hn hv
      rcases h.other hr v hv with e | ⟨y, m⟩
      · rw [e]; exact .refl
      · have t := h.twig m
        exact (ih y (by omega) t.2.1).step m
  exact fun v hv => key _ v (Nat.le_refl _) hv
end
end Sq

set_option Elab.async false
set_option linter.all false
set_option maxRecDepth 100000
set_option maxHeartbeats 4000000
/-! A search in depth tells which cells can be taken away: the least numbers that are met. -/
namespace Sq
/-- what low tells -/
structure LowOk (L : List Cell) (T : List TwigC) (low : Cell → Nat) : Prop where
  le : ∀ v ∈ keysT T, ∀ w ∈ L, w ∈ besideC v → low v ≤ if (w, some v) ∈ T then low w else numT T w
  at_ : ∀ v ∈ keysT T, low v = numT T v ∨ ∃ w ∈ L, w ∈ besideC v ∧ low v = if (w, some v) ∈ T then low w else numT T w
section
variable {L : List Cell} {T : List TwigC} {low : Cell → Nat}
theorem LowOk.anc (lo : LowOk L T low) (h : DTree L T) {a v : Cell} (k : Anc T a v) : low a ≤ low v := by
  induction k with
  | refl => exact Nat.le_refl _
  | @step y v k m ih =>
    have t := h.twig m
    have := lo.le y t.2.1 v (h.sub v t.1) t.2.2.1
    rw [if_pos m] at this
    exact Nat.le_trans ih this
theorem LowOk.all (lo : LowOk L T low) (h : DTree L T) {c d w : Cell} (k : Anc T c d) (hd : d ∈ keysT T) (hw : w ∈ L) (b : w ∈ besideC d) (n : (w, some d) ∉ T) : low c ≤ numT T w := by
  have := lo.le d hd w hw b
  rw [if_neg n] at this
  exact Nat.le_trans (lo.anc h k) this
theorem LowOk.met (lo : LowOk L T low) (h : DTree L T) : ∀ c ∈ keysT T, low c = numT T c ∨ ∃ d w, Anc T c d ∧ d ∈ keysT T ∧ w ∈ L ∧ w ∈ besideC d ∧ low c = numT T w := by
  have key : ∀ n c, (keysT T).length - numT T c ≤ n → c ∈ keysT T → low c = numT T c ∨ ∃ d w, Anc T c d ∧ d ∈ keysT T ∧ w ∈ L ∧ w ∈ besideC d ∧ low c = numT T w := by
    intro n
    induction n with
    | zero =>
      intro c hn hc
      have := num_lt.mpr hc
      omega
    | succ n ih =>
      intro c hn hc
      rcases lo.at_ c hc with e | ⟨w, hw, b, e⟩
      · exact .inl e
      · by_cases m : (w, some c) ∈ T
        · rw [if_pos m] at e
          have t := h.twig m
          have l1 := num_lt.mpr hc
          have l2 := num_lt.mpr t.1
          rcases ih w (by omega) t.1 with e2 | ⟨d, z, k, hd, hz, bz, e2⟩
          · exact .inr ⟨c, w, .refl, hc, hw, b, e.trans e2⟩
          · exact .inr ⟨d, z, (Anc.refl.step m).trans k, hd, hz, bz, e.trans e2⟩
        · rw [if_neg m] at e
          exact .inr ⟨c, w, .refl, hc, hw, b, e⟩
  exact fun c hc => key _ c (Nat.le_refl _) hc
/-- a child meets nothing ahead of its parent, just if its number is the parent's -/
theorem LowOk.child (lo : LowOk L T low) (h : DTree L T) {c v : Cell} (m : (c, some v) ∈ T) : low c = numT T v ↔ ∀ d w, Anc T c d → d ∈ keysT T → w ∈ L → w ∈ besideC d → numT T v ≤ numT T w := by
  have t := h.twig m
  have up : low c ≤ numT T v := lo.all h .refl t.1 (h.sub v t.2.1) (beside_symm t.2.2.1) fun z => by
    have := (h.twig z).2.2.2
    omega
  constructor
  · intro e d w k hd hw b
    by_cases z : (w, some d) ∈ T
    · have h1 := (h.twig z).2.2.2
      have h2 := h.anc_num k
      omega
    · have := lo.all h k hd hw b z
      omega
  · intro all
    rcases lo.met h c t.1 with e | ⟨d, w, k, hd, hw, b, e⟩
    · omega
    · have := all d w k hd hw b
      omega
/-- all but v -/
abbrev but (L : List Cell) (v : Cell) : List Cell := L.filter fun d => decide (d ≠ v)
theorem mem_but {L : List Cell} {v x : Cell} : x ∈ but L v ↔ x ∈ L ∧ x ≠ v := by simp [but]
theorem DTree.down (h : DTree L T) {c v : Cell} (m : (c, some v) ∈ T) {d : Cell} (k : Anc T c d) : Reach (but L v) c d := by
  induction k with
  | refl => exact .refl
  | @step y x k mx ih =>
    have t := h.twig mx
    have n1 := h.anc_num k
    have n2 := (h.twig m).2.2.2
    exact ih.step t.2.2.1 (mem_but.mpr ⟨h.sub x t.1, fun e => by rw [e] at t; omega⟩)
theorem DTree.out (h : DTree L T) {r v x : Cell} (k : Anc T r x) (n : ¬ Anc T v x) : Reach (but L v) r x := by
  induction k with
  | refl => exact .refl
  | @step y x k m ih =>
    have t := h.twig m
    exact (ih fun z => n (z.step m)).step t.2.2.1 (mem_but.mpr ⟨h.sub x t.1, fun e => n (by rw [e]; exact .refl)⟩)
theorem LowOk.closed (lo : LowOk L T low) (h : DTree L T) (span : ∀ x ∈ L, x ∈ keysT T) {c v x : Cell} (m : (c, some v) ∈ T) (e : low c = numT T v) (k : Reach (but L v) c x) : Anc T c x := by
  have all := (lo.child h m).mp e
  have t := h.twig m
  induction k with
  | refl => exact .refl
  | @step d w k b hw ih =>
    obtain ⟨wL, wv⟩ := mem_but.mp hw
    have hd : d ∈ keysT T := by
      cases k with
      | refl => exact t.1
      | step _ _ z => exact span _ (mem_but.mp z).1
    have hwk := span w wL
    have ge := all d w ih hd wL b
    rcases Nat.lt_trichotomy (numT T d) (numT T w) with lt | eq | lt
    · exact ih.trans (h.edge hd hwk b lt)
    · exact absurd (num_inj hd hwk eq).symm (beside_ne b)
    · have a := h.edge hwk hd (beside_symm b) lt
      rcases h.chain ih a with z | z
      · exact z
      · cases z with
        | refl => exact .refl
        | @step y _ z mz =>
          have ev := Option.some.inj (h.uniq mz m)
          subst ev
          have := h.anc_num z
          exact absurd (num_inj hwk t.2.1 (by omega)) wv
/-- the root's number -/
theorem DTree.num_root (h : DTree L T) {r : Cell} (hr : (r, none) ∈ T) : numT T r = 0 := by
  obtain ⟨r', T', e, _⟩ := h.root_ex
  have m : r' ∈ keysT T := by rw [e]; simp [keysT]
  have a := h.anc_num (h.from_root hr r' m)
  have z : numT T r' = 0 := by
    unfold numT
    rw [e]
    simp [keysT]
  omega
/-- how many of v's children meet nothing ahead of it -/
def kids (T : List TwigC) (low : Cell → Nat) (v : Cell) : Nat := (T.filter fun t => decide (t.2 = some v ∧ low t.1 = numT T v)).length
theorem kids_zero {v : Cell} : kids T low v = 0 ↔ ∀ c, (c, some v) ∈ T → low c ≠ numT T v := by
  unfold kids
  rw [List.length_eq_zero_iff, List.filter_eq_nil_iff]
  constructor
  · intro a c m e
    exact a _ m (decide_eq_true ⟨rfl, e⟩)
  · rintro a ⟨c, o⟩ m z
    obtain ⟨e1, e2⟩ := of_decide_eq_true z
    subst e1
    exact a c m e2
theorem kids_one {v : Cell} (h : DTree L T) : kids T low v = 1 ↔ ∃ c, (c, some v) ∈ T ∧ low c = numT T v ∧ ∀ c', (c', some v) ∈ T → low c' = numT T v → c' = c := by
  have nd := h.nodup
  have mem : ∀ {c : Cell} {o : Option Cell}, (c, o) ∈ T.filter (fun t => decide (t.2 = some v ∧ low t.1 = numT T v)) ↔ (c, o) ∈ T ∧ o = some v ∧ low c = numT T v := fun {c o} => by
    rw [List.mem_filter, decide_eq_true_iff]
  have nk : ((T.filter fun t => decide (t.2 = some v ∧ low t.1 = numT T v)).map (·.1)).Nodup := nd.sublist (List.Sublist.map _ List.filter_sublist)
  unfold kids
  generalize T.filter (fun t => decide (t.2 = some v ∧ low t.1 = numT T v)) = K at mem nk
  constructor
  · intro l
    obtain ⟨⟨c, o⟩, rfl⟩ := List.length_eq_one_iff.mp l
    obtain ⟨h1, h2, h3⟩ := mem.mp (List.mem_singleton.mpr rfl)
    subst h2
    exact ⟨c, h1, h3, fun c' m' e' => (Prod.mk.inj (List.mem_singleton.mp (mem.mpr ⟨m', rfl, e'⟩))).1⟩
  · rintro ⟨c, m, e, u⟩
    have hm := mem.mpr ⟨m, rfl, e⟩
    rcases K with _ | ⟨t1, K⟩
    · cases hm
    rcases K with _ | ⟨t2, K⟩
    · rfl
    · obtain ⟨c1, o1⟩ := t1
      obtain ⟨c2, o2⟩ := t2
      obtain ⟨a1, a2, a3⟩ := mem.mp (List.mem_cons_self ..)
      obtain ⟨b1, b2, b3⟩ := mem.mp (List.mem_cons_of_mem _ (List.mem_cons_self ..))
      subst a2 b2
      have e1 := u c1 a1 a3
      have e2 := u c2 b1 b3
      rw [e1, e2] at nk
      simp at nk
theorem free_iff (h : DTree L T) (span : ∀ x ∈ L, x ∈ keysT T) (lo : LowOk L T low) {v : Cell} (hv : v ∈ L) : Hangs (but L v) ↔ (if (v, none) ∈ T then 0 else 1) + kids T low v = 1 := by
  obtain ⟨r, T', e, rL⟩ := h.root_ex
  have hr : (r, none) ∈ T := by rw [e]; exact List.mem_cons_self ..
  have n0 := h.num_root hr
  by_cases rv : r = v
  · subst rv
    rw [if_pos hr, Nat.zero_add, kids_one h]
    have all : ∀ c, (c, some r) ∈ T → low c = numT T r := fun c m => (lo.child h m).mpr fun d w _ _ _ _ => by omega
    have childM : ∀ c, (c, some r) ∈ T → c ∈ but L r := fun c m => mem_but.mpr ⟨h.sub c (h.twig m).1, fun z => by
      have := (h.twig m).2.2.2
      rw [z] at this
      omega⟩
    have under : ∀ b ∈ but L r, ∃ c, (c, some r) ∈ T ∧ Anc T c b := fun b hb => by
      obtain ⟨bL, br⟩ := mem_but.mp hb
      rcases h.child_of (h.from_root hr b (span b bL)) with z | z
      · exact absurd z br
      · exact z
    constructor
    · intro hh
      obtain ⟨b, hb⟩ := List.exists_mem_of_ne_nil _ hh.1
      obtain ⟨c, m, _⟩ := under b hb
      refine ⟨c, m, all c m, fun c' m' _ => ?_⟩
      have k := lo.closed h span m (all c m) (hh.2 c (childM c m) c' (childM c' m'))
      cases k with
      | refl => rfl
      | @step y _ k mk =>
        have ev := Option.some.inj (h.uniq mk m')
        subst ev
        have := h.anc_num k
        have := (h.twig m).2.2.2
        omega
    · rintro ⟨c, m, _, u⟩
      refine (hangs_from (childM c m)).mpr fun b hb => ?_
      obtain ⟨c', m', k⟩ := under b hb
      rw [u c' m' (all c' m')] at k
      exact h.down m k
  · have nv : (v, none) ∉ T := fun z => by
      have := h.num_root z
      exact rv (num_inj (by rw [e]; simp [keysT]) (span v hv) (by omega))
    have rM : r ∈ but L v := mem_but.mpr ⟨rL, rv⟩
    have v0 : 0 < numT T v := by
      rcases Nat.eq_zero_or_pos (numT T v) with z | z
      · exact absurd (num_inj (by rw [e]; simp [keysT]) (span v hv) (by omega)) rv
      · exact z
    rw [if_neg nv]
    have e1 : 1 + kids T low v = 1 ↔ kids T low v = 0 := by omega
    rw [e1, kids_zero]
    constructor
    · intro hh c m ec
      have t := h.twig m
      have cM : c ∈ but L v := mem_but.mpr ⟨h.sub c t.1, fun z => by rw [z] at t; omega⟩
      have := h.anc_num (lo.closed h span m ec (hh.2 c cM r rM))
      omega
    · intro no
      refine (hangs_from rM).mpr fun b hb => ?_
      obtain ⟨bL, bv⟩ := mem_but.mp hb
      have bk := span b bL
      by_cases kb : Anc T v b
      · rcases h.child_of kb with z | ⟨c, m, k⟩
        · exact absurd z bv
        · have t := h.twig m
          have cM : c ∈ but L v := mem_but.mpr ⟨h.sub c t.1, fun z => by rw [z] at t; omega⟩
          have ex : ∃ d w, Anc T c d ∧ d ∈ keysT T ∧ w ∈ L ∧ w ∈ besideC d ∧ numT T w < numT T v := Classical.byContradiction fun z => no c m ((lo.child h m).mpr fun d w k hd hw b => Classical.byContradiction fun y => z ⟨d, w, k, hd, hw, b, by omega⟩)
          obtain ⟨d, w, kd, hd, hw, bw, lt⟩ := ex
          have w1 : Reach (but L v) r w := h.out (h.from_root hr w (span w hw)) fun z => by
            have := h.anc_num z
            omega
          have dM : d ∈ but L v := mem_but.mpr ⟨h.sub d hd, fun z => by
            have h1 := h.anc_num kd
            rw [z] at h1
            omega⟩
          have d1 := w1.step (beside_symm bw) dM
          exact (d1.trans ((h.down m kd).symm cM)).trans (h.down m k)
      · exact h.out (h.from_root hr b bk) kb
end
end Sq

set_option Elab.async false
set_option linter.all false
set_option maxRecDepth 100000
set_option maxHeartbeats 4000000
/-! The steps of a search in depth. -/
namespace Sq
/-- what lies ahead: neighbours of cells that were met, each on the way of the ones above it -/
inductive StkOk (L : List Cell) : List TwigC → List TwigC → Prop where
  | start {m : Cell} (h : m ∈ L) : StkOk L [] [(m, none)]
  | go {T S : List TwigC} (t : DTree L T) (ent : ∀ a ∈ S, ∃ y, a.2 = some y ∧ y ∈ keysT T ∧ a.1 ∈ L ∧ a.1 ∈ besideC y) (ch : S.Pairwise fun a b => ∀ y z, a.2 = some y → b.2 = some z → Anc T y z)
      (all : ∀ u ∈ keysT T, ∀ w ∈ L, w ∈ besideC u → w ∉ keysT T → (w, some u) ∈ S) : StkOk L T S
def nextC (L : List Cell) (T : List TwigC) (x : Cell) : List Cell := ((besideC x).filter fun w => decide (w ∈ L)).filter fun w => decide (w ∉ keysT T)
section
variable {L : List Cell} {T S : List TwigC} {x : Cell} {o : Option Cell}
theorem StkOk.skip (h : StkOk L T (S ++ [(x, o)])) (hx : x ∈ keysT T) : StkOk L T S := by
  generalize e : S ++ [(x, o)] = S2 at h
  cases h with
  | start => cases hx
  | go t ent ch all =>
    subst e
    refine .go t (fun a ha => ent a (List.mem_append_left _ ha)) (List.pairwise_append.mp ch).1 fun u hu w hw b nw => ?_
    rcases List.mem_append.mp (all u hu w hw b nw) with m | m
    · exact m
    · have e := (Prod.mk.inj (List.mem_singleton.mp m)).1
      exact absurd (e ▸ hx) nw
theorem StkOk.tree (h : StkOk L T (S ++ [(x, o)])) (nx : x ∉ keysT T) : DTree L (T ++ [(x, o)]) := by
  generalize e : S ++ [(x, o)] = S2 at h
  cases h with
  | @start m hm =>
    have e2 : S = [] ∧ (x, o) = (m, none) := by
      cases S with
      | nil => exact ⟨rfl, (List.cons.inj e).1⟩
      | cons a S =>
        have := congrArg List.length e
        simp at this
    obtain ⟨_, e3⟩ := e2
    obtain ⟨rfl, rfl⟩ := Prod.mk.inj e3
    exact .root hm
  | go t ent ch all =>
    subst e
    obtain ⟨y, ey, hy, hx, b⟩ := ent (x, o) (by simp)
    have ey : o = some y := ey
    subst ey
    refine .snoc t hy hx nx b fun u hu bu => ?_
    rcases List.mem_append.mp (all u hu x hx bu nx) with m | m
    · exact (List.pairwise_append.mp ch).2.2 _ m _ (List.mem_singleton.mpr rfl) u y rfl rfl
    · have e := Option.some.inj (Prod.mk.inj (List.mem_singleton.mp m)).2
      rw [e]
      exact .refl
theorem StkOk.visit (h : StkOk L T (S ++ [(x, o)])) (nx : x ∉ keysT T) : StkOk L (T ++ [(x, o)]) (S ++ (nextC L (T ++ [(x, o)]) x).map fun w => (w, some x)) := by
  have tr := h.tree nx
  have mem : ∀ w, w ∈ nextC L (T ++ [(x, o)]) x ↔ w ∈ besideC x ∧ w ∈ L ∧ w ∉ keysT (T ++ [(x, o)]) := fun w => by
    unfold nextC
    rw [List.mem_filter, List.mem_filter, decide_eq_true_iff, decide_eq_true_iff, and_assoc]
  have xk : x ∈ keysT (T ++ [(x, o)]) := by rw [keys_snoc]; simp
  have fresh : ∀ a ∈ (nextC L (T ++ [(x, o)]) x).map fun w => ((w, some x) : TwigC), ∃ y, a.2 = some y ∧ y ∈ keysT (T ++ [(x, o)]) ∧ a.1 ∈ L ∧ a.1 ∈ besideC y := fun a ha => by
    obtain ⟨w, hw, rfl⟩ := List.mem_map.mp ha
    obtain ⟨b, l, _⟩ := (mem w).mp hw
    exact ⟨x, rfl, xk, l, b⟩
  have self : ((nextC L (T ++ [(x, o)]) x).map fun w => ((w, some x) : TwigC)).Pairwise fun a b => ∀ y z, a.2 = some y → b.2 = some z → Anc (T ++ [(x, o)]) y z := by
    refine List.pairwise_iff_forall_sublist.mpr fun {a b} sub y z e1 e2 => ?_
    have ha := sub.subset (List.mem_cons_self ..)
    have hb := sub.subset (List.mem_cons_of_mem _ (List.mem_cons_self ..))
    obtain ⟨w, _, rfl⟩ := List.mem_map.mp ha
    obtain ⟨w2, _, rfl⟩ := List.mem_map.mp hb
    rw [← Option.some.inj e1, ← Option.some.inj e2]
    exact .refl
  have own : ∀ w ∈ L, w ∈ besideC x → w ∉ keysT (T ++ [(x, o)]) → ((w, some x) : TwigC) ∈ (nextC L (T ++ [(x, o)]) x).map fun w => (w, some x) := fun w hw b nw => List.mem_map.mpr ⟨w, (mem w).mpr ⟨b, hw, nw⟩, rfl⟩
  generalize e : S ++ [(x, o)] = S2 at h
  cases h with
  | @start m hm =>
    have e2 : S = [] := by
      cases S with
      | nil => rfl
      | cons a S =>
        have := congrArg List.length e
        simp at this
    subst e2
    refine .go tr fresh self fun u hu w hw b nw => ?_
    rw [keys_snoc] at hu
    have e3 : u = x := by simpa [keysT] using hu
    subst e3
    exact own w hw b nw
  | go t ent ch all =>
    subst e
    obtain ⟨y, ey, hy, hx, b⟩ := ent (x, o) (by simp)
    have ey : o = some y := ey
    subst ey
    have sub : ∀ z ∈ T, z ∈ T ++ [((x, some y) : TwigC)] := fun z hz => List.mem_append_left _ hz
    refine .go tr (fun a ha => ?_) ?_ fun u hu w hw bw nw => ?_
    · rcases List.mem_append.mp ha with m | m
      · obtain ⟨z, e1, e2, e3, e4⟩ := ent a (List.mem_append_left _ m)
        exact ⟨z, e1, by rw [keys_snoc]; exact List.mem_append_left _ e2, e3, e4⟩
      · exact fresh a m
    · refine List.pairwise_append.mpr ⟨(List.pairwise_append.mp ch).1.imp fun r y z e1 e2 => (r y z e1 e2).mono sub, self, fun a ha b hb u z e1 e2 => ?_⟩
      obtain ⟨w, _, rfl⟩ := List.mem_map.mp hb
      rw [← Option.some.inj e2]
      exact (((List.pairwise_append.mp ch).2.2 a ha _ (List.mem_singleton.mpr rfl) u y e1 rfl).mono sub).step (by simp)
    · rw [keys_snoc] at hu
      rcases List.mem_append.mp hu with m | m
      · have nT : w ∉ keysT T := fun z => nw (by rw [keys_snoc]; exact List.mem_append_left _ z)
        rcases List.mem_append.mp (all u m w hw bw nT) with k | k
        · exact List.mem_append_left _ k
        · have e := (Prod.mk.inj (List.mem_singleton.mp k)).1
          exact absurd (by rw [keys_snoc, e]; simp) nw
      · rw [List.mem_singleton.mp m] at bw ⊢
        exact List.mem_append_right _ (own w hw bw nw)
theorem StkOk.fin (h : StkOk L T []) (hL : Hangs L) : DTree L T ∧ ∀ x ∈ L, x ∈ keysT T := by
  cases h with
  | go t ent ch all =>
    refine ⟨t, fun x hx => ?_⟩
    obtain ⟨r, T', e, rL⟩ := t.root_ex
    have rk : r ∈ keysT T := by rw [e]; simp [keysT]
    have k := hL.2 r rL x hx
    induction k with
    | refl => exact rk
    | @step b c k hb hc ih =>
      have bk := ih (by
        cases k with
        | refl => exact rL
        | step _ _ z => exact z)
      by_cases z : c ∈ keysT T
      · exact z
      · exact absurd (all b bk c hc hb z) (by simp)
theorem StkOk.keys (h : StkOk L T S) : (keysT T).Nodup ∧ ∀ v ∈ keysT T, v ∈ L := by
  cases h with
  | start => exact ⟨List.nodup_nil, fun v hv => nomatch hv⟩
  | go t _ _ _ => exact ⟨t.nodup, t.sub⟩
end
end Sq

set_option Elab.async false
set_option linter.all false
set_option maxRecDepth 100000
set_option maxHeartbeats 4000000
/-! Two squares or more: two free ones. -/
namespace Sq
theorem tree_ex {L : List Cell} (hL : Hangs L) : ∃ T, DTree L T ∧ ∀ x ∈ L, x ∈ keysT T := by
  have key : ∀ n T S, StkOk L T S → S.length + 5 * (L.length - T.length) ≤ n → ∃ T, DTree L T ∧ ∀ x ∈ L, x ∈ keysT T := by
    intro n
    induction n with
    | zero =>
      intro T S h l
      have e : S = [] := List.length_eq_zero_iff.mp (by omega)
      subst e
      exact ⟨T, h.fin hL⟩
    | succ n ih =>
      intro T S h l
      rcases List.eq_nil_or_concat S with e | ⟨S', x, e⟩
      · subst e
        exact ⟨T, h.fin hL⟩
      · rw [List.concat_eq_append] at e
        subst e
        obtain ⟨c, o⟩ := x
        rw [List.length_append] at l
        by_cases m : c ∈ keysT T
        · exact ih T S' (h.skip m) (by simp only [List.length_cons, List.length_nil] at l; omega)
        · have tr := h.tree m
          have l2 : T.length + 1 ≤ L.length := by
            have := len_le tr.nodup tr.sub
            simpa [keysT] using this
          have l4 : (nextC L (T ++ [(c, o)]) c).length ≤ 4 := Nat.le_trans (List.length_filter_le _ _) (List.length_filter_le _ _)
          refine ih _ _ (h.visit m) ?_
          rw [List.length_append, List.length_map, List.length_append]
          simp only [List.length_cons, List.length_nil] at l ⊢
          omega
  obtain ⟨m, hm⟩ := List.exists_mem_of_ne_nil _ hL.1
  exact key _ [] _ (.start hm) (Nat.le_refl _)
section
variable {L : List Cell} {T : List TwigC}
/-- the last one below c has no child -/
theorem DTree.leaf (h : DTree L T) {c : Cell} (hc : c ∈ keysT T) : ∃ x ∈ keysT T, Anc T c x ∧ ∀ z, (z, some x) ∉ T := by
  have key : ∀ n x, (keysT T).length - numT T x ≤ n → x ∈ keysT T → Anc T c x → ∃ x ∈ keysT T, Anc T c x ∧ ∀ z, (z, some x) ∉ T := by
    intro n
    induction n with
    | zero =>
      intro x l hx _
      have := num_lt.mpr hx
      omega
    | succ n ih =>
      intro x l hx k
      by_cases e : ∃ z, (z, some x) ∈ T
      · obtain ⟨z, m⟩ := e
        have t := h.twig m
        exact ih z (by omega) t.1 (k.step m)
      · exact ⟨x, hx, k, fun z m => e ⟨z, m⟩⟩
  exact key _ c (Nat.le_refl _) hc .refl
theorem DTree.leaf_free (h : DTree L T) (span : ∀ x ∈ L, x ∈ keysT T) {r x : Cell} (hr : (r, none) ∈ T) (rL : r ∈ L) (ne : x ≠ r) (no : ∀ z, (z, some x) ∉ T) : Hangs (but L x) := by
  refine (hangs_from (mem_but.mpr ⟨rL, fun e => ne e.symm⟩)).mpr fun b hb => ?_
  obtain ⟨bL, bx⟩ := mem_but.mp hb
  refine h.out (h.from_root hr b (span b bL)) fun k => ?_
  rcases h.child_of k with e | ⟨c, m, _⟩
  · exact bx e
  · exact no c m
theorem two_free (nL : L.Nodup) (hL : Hangs L) (l : 1 < L.length) : ∃ a b, a ∈ L ∧ b ∈ L ∧ a ≠ b ∧ Hangs (but L a) ∧ Hangs (but L b) := by
  obtain ⟨T, h, span⟩ := tree_ex hL
  obtain ⟨r, T', e, rL⟩ := h.root_ex
  have hr : (r, none) ∈ T := by rw [e]; exact List.mem_cons_self ..
  have ex : ∃ u ∈ L, u ≠ r := Classical.byContradiction fun z => by
    have := len_le nL (ys := [r]) fun x hx => List.mem_singleton.mpr (Classical.byContradiction fun e => z ⟨x, hx, e⟩)
    simp at this
    omega
  obtain ⟨u, hu, ur⟩ := ex
  have child : ∀ x ∈ L, x ≠ r → ∃ c, (c, some r) ∈ T ∧ Anc T c x := fun x hx ne => (h.child_of (h.from_root hr x (span x hx))).resolve_left ne
  obtain ⟨c, m, _⟩ := child u hu ur
  have below : ∀ {c x : Cell}, (c, some r) ∈ T → Anc T c x → x ≠ r := fun {c x} m k e => by
    have h1 := h.anc_num k
    have h2 := (h.twig m).2.2.2
    rw [e] at h1
    omega
  obtain ⟨x, hx, kx, nox⟩ := h.leaf (h.twig m).1
  have xr := below m kx
  have fx := h.leaf_free span hr rL xr nox
  by_cases one : ∀ c', (c', some r) ∈ T → c' = c
  · refine ⟨r, x, rL, h.sub x hx, xr.symm, ?_, fx⟩
    have cM : c ∈ but L r := mem_but.mpr ⟨h.sub c (h.twig m).1, below m .refl⟩
    refine (hangs_from cM).mpr fun b hb => ?_
    obtain ⟨bL, br⟩ := mem_but.mp hb
    obtain ⟨c', m', k⟩ := child b bL br
    rw [one c' m'] at k
    exact h.down m k
  · obtain ⟨c', hc'⟩ := Classical.not_forall.mp one
    obtain ⟨m', ne⟩ := Classical.not_imp.mp hc'
    obtain ⟨y, hy, ky, noy⟩ := h.leaf (h.twig m').1
    have yr := below m' ky
    have off : ∀ {a b : Cell}, (a, some r) ∈ T → (b, some r) ∈ T → Anc T a b → a = b := fun {a b} ma mb k => by
      cases k with
      | refl => rfl
      | @step z _ k mk =>
        have ev := Option.some.inj (h.uniq mk mb)
        subst ev
        have h1 := h.anc_num k
        have h2 := (h.twig ma).2.2.2
        omega
    refine ⟨x, y, h.sub x hx, h.sub y hy, fun e => ?_, fx, h.leaf_free span hr rL yr noy⟩
    subst e
    rcases h.chain kx ky with k | k
    · exact ne (off m m' k).symm
    · exact ne (off m' m k)
end
end Sq

set_option Elab.async false
set_option linter.all false
set_option maxRecDepth 100000
set_option maxHeartbeats 4000000
/-! Hanging together without a square, by its neighbours. -/
namespace Sq
open PySem PySem.Spec PyProof.Rows L2
/-- the others hang together just if all neighbours come to one of them -/
theorem rest_hangs {L : List Cell} (hL : Hangs L) {c a : Cell} (hc : c ∈ L) (ha : a ∈ L) (ac : a ∈ besideC c) : Hangs (but L c) ↔ ∀ x ∈ L, x ∈ besideC c → Reach (but L c) a x := by
  have am : a ∈ but L c := mem_but.mpr ⟨ha, beside_ne ac⟩
  constructor
  · intro h x hx hb
    exact h.2 a am x (mem_but.mpr ⟨hx, beside_ne hb⟩)
  · intro h
    refine (hangs_from am).mpr fun b hb => ?_
    obtain ⟨bL, bc⟩ := mem_but.mp hb
    have key : ∀ b, Reach L c b → b = c ∨ Reach (but L c) a b := fun b r => by
      induction r with
      | refl => exact .inl rfl
      | @step b x _ hx xL ih =>
        by_cases e : x = c
        · exact .inl e
        · rcases ih with rfl | ih
          · exact .inr (h x xL hx)
          · exact .inr (ih.step hx (mem_but.mpr ⟨xL, e⟩))
    rcases key b (hL.2 c hc b bL) with e | r
    · exact absurd e bc
    · exact r
/-- a square of more has a neighbour -/
theorem near_ex {L : List Cell} (hL : Hangs L) {c d : Cell} (hc : c ∈ L) (hd : d ∈ L) (ne : d ≠ c) : ∃ a ∈ L, a ∈ besideC c := by
  have r := hL.2 d hd c hc
  cases r with
  | refl => exact absurd rfl ne
  | @step b x h hx _ => exact ⟨b, h.mem hd, beside_symm hx⟩
theorem bes {a b c d : Int} (h : (a = c - 1 ∧ b = d) ∨ (a = c ∧ b = d - 1) ∨ (a = c + 1 ∧ b = d) ∨ (a = c ∧ b = d + 1)) : (a, b) ∈ besideC (c, d) := beside_iff.mpr h
def crossL : List Cell := [(-1, -1), (1, -1), (1, 1), (-1, 1)]
/-- the cell crosswise from c lies in L between two neighbours of c -/
def linkB (L : List Cell) (c d : Cell) : Bool := decide ((c.1 + d.1, c.2 + d.2) ∈ L) && (decide ((c.1 + d.1, c.2) ∈ L) && decide ((c.1, c.2 + d.2) ∈ L))
def linksN (L : List Cell) (c : Cell) : Nat := (crossL.filter (linkB L c)).length
def b2n (b : Bool) : Nat := if b = true then 1 else 0
theorem ring4 : ∀ p0 p1 p2 p3 l0 l1 l2 l3 : Bool, (!l0 || (p0 && p1)) && (!l1 || (p1 && p2)) && (!l2 || (p2 && p3)) && (!l3 || (p3 && p0)) = true → 2 ≤ b2n p0 + b2n p1 + b2n p2 + b2n p3 → b2n p0 + b2n p1 + b2n p2 + b2n p3 ≤ b2n l0 + b2n l1 + b2n l2 + b2n l3 + 1 →
    ((p0 && p1) = true → (l0 || (l1 && l2 && l3)) = true) ∧ ((p1 && p2) = true → (l1 || (l2 && l3 && l0)) = true) ∧ ((p2 && p3) = true → (l2 || (l3 && l0 && l1)) = true) ∧ ((p3 && p0) = true → (l3 || (l0 && l1 && l2)) = true) ∧ ((p0 && p2) = true → ((l0 && l1) || (l2 && l3)) = true) ∧ ((p1 && p3) = true → ((l1 && l2) || (l3 && l0)) = true) := by decide +kernel
theorem filt4 {p : Cell → Bool} {a b c d : Cell} : ([a, b, c, d].filter p).length = b2n (p a) + b2n (p b) + b2n (p c) + b2n (p d) := by
  simp only [List.filter_cons, List.filter_nil, b2n]
  cases p a <;> cases p b <;> cases p c <;> cases p d <;> rfl
theorem links_reach {L : List Cell} {c : Cell} (h2 : 2 ≤ ((besideC c).filter fun d => decide (d ∈ L)).length) (hl : ((besideC c).filter fun d => decide (d ∈ L)).length ≤ linksN L c + 1) :
    ∀ x ∈ L, x ∈ besideC c → ∀ y ∈ L, y ∈ besideC c → Reach (but L c) x y := by
  obtain ⟨c1, c2⟩ := c
  have W : ∀ {x y : Cell}, x ∈ L → x ≠ (c1, c2) → y ∈ L → y ≠ (c1, c2) → ∀ z ∈ L, z ≠ (c1, c2) → z ∈ besideC x → y ∈ besideC z → Reach (but L (c1, c2)) x y := fun {x y} _ _ yL yn z zL zn h k => (Reach.step .refl h (mem_but.mpr ⟨zL, zn⟩)).step k (mem_but.mpr ⟨yL, yn⟩)
  have neq : ∀ {a b : Int}, (a, b) ≠ (c1, c2) ↔ a ≠ c1 ∨ b ≠ c2 := fun {a b} => by rw [Ne, Prod.mk.injEq]; omega
  have L0 : linkB L (c1, c2) (-1, -1) = true → Reach (but L (c1, c2)) (c1 - 1, c2) (c1, c2 - 1) := fun h => by
    simp only [linkB, Bool.and_eq_true, decide_eq_true_eq] at h
    obtain ⟨h1, h2, h3⟩ := h
    refine W h2 (neq.mpr (by omega)) h3 (neq.mpr (by omega)) _ h1 (neq.mpr (by omega)) (bes (by omega)) (bes (by omega))
  have L1 : linkB L (c1, c2) (1, -1) = true → Reach (but L (c1, c2)) (c1, c2 - 1) (c1 + 1, c2) := fun h => by
    simp only [linkB, Bool.and_eq_true, decide_eq_true_eq] at h
    obtain ⟨h1, h2, h3⟩ := h
    refine W h3 (neq.mpr (by omega)) h2 (neq.mpr (by omega)) _ h1 (neq.mpr (by omega)) (bes (by omega)) (bes (by omega))
  have L2 : linkB L (c1, c2) (1, 1) = true → Reach (but L (c1, c2)) (c1 + 1, c2) (c1, c2 + 1) := fun h => by
    simp only [linkB, Bool.and_eq_true, decide_eq_true_eq] at h
    obtain ⟨h1, h2, h3⟩ := h
    refine W h2 (neq.mpr (by omega)) h3 (neq.mpr (by omega)) _ h1 (neq.mpr (by omega)) (bes (by omega)) (bes (by omega))
  have L3 : linkB L (c1, c2) (-1, 1) = true → Reach (but L (c1, c2)) (c1, c2 + 1) (c1 - 1, c2) := fun h => by
    simp only [linkB, Bool.and_eq_true, decide_eq_true_eq] at h
    obtain ⟨h1, h2, h3⟩ := h
    refine W h3 (neq.mpr (by omega)) h2 (neq.mpr (by omega)) _ h1 (neq.mpr (by omega)) (bes (by omega)) (bes (by omega))
  have sy : ∀ {x y : Cell}, x ∈ L → x ∈ besideC (c1, c2) → Reach (but L (c1, c2)) x y → Reach (but L (c1, c2)) y x := fun {x y} xL hb r => r.symm (mem_but.mpr ⟨xL, beside_ne hb⟩)
  unfold besideC at h2 hl
  unfold linksN crossL at hl
  rw [filt4] at h2 hl
  rw [filt4] at hl
  have q := ring4 (decide ((c1 - 1, c2) ∈ L)) (decide ((c1, c2 - 1) ∈ L)) (decide ((c1 + 1, c2) ∈ L)) (decide ((c1, c2 + 1) ∈ L)) (linkB L (c1, c2) (-1, -1)) (linkB L (c1, c2) (1, -1)) (linkB L (c1, c2) (1, 1)) (linkB L (c1, c2) (-1, 1)) ?_ h2 hl
  · obtain ⟨q01, q12, q23, q30, q02, q13⟩ := q
    simp only [Bool.and_eq_true, Bool.or_eq_true, decide_eq_true_eq] at q01 q12 q23 q30 q02 q13
    have b0 : (c1 - 1, c2) ∈ besideC (c1, c2) := by simp [besideC]
    have b1 : (c1, c2 - 1) ∈ besideC (c1, c2) := by simp [besideC]
    have b2 : (c1 + 1, c2) ∈ besideC (c1, c2) := by simp [besideC]
    have b3 : (c1, c2 + 1) ∈ besideC (c1, c2) := by simp [besideC]
    have r01 : (c1 - 1, c2) ∈ L → (c1, c2 - 1) ∈ L → Reach (but L (c1, c2)) (c1 - 1, c2) (c1, c2 - 1) := fun m0 m1 => (q01 ⟨m0, m1⟩).elim L0 fun ⟨⟨h1, h2⟩, h3⟩ => sy m1 b1 (((L1 h1).trans (L2 h2)).trans (L3 h3))
    have r12 : (c1, c2 - 1) ∈ L → (c1 + 1, c2) ∈ L → Reach (but L (c1, c2)) (c1, c2 - 1) (c1 + 1, c2) := fun m0 m1 => (q12 ⟨m0, m1⟩).elim L1 fun ⟨⟨h1, h2⟩, h3⟩ => sy m1 b2 (((L2 h1).trans (L3 h2)).trans (L0 h3))
    have r23 : (c1 + 1, c2) ∈ L → (c1, c2 + 1) ∈ L → Reach (but L (c1, c2)) (c1 + 1, c2) (c1, c2 + 1) := fun m0 m1 => (q23 ⟨m0, m1⟩).elim L2 fun ⟨⟨h1, h2⟩, h3⟩ => sy m1 b3 (((L3 h1).trans (L0 h2)).trans (L1 h3))
    have r30 : (c1, c2 + 1) ∈ L → (c1 - 1, c2) ∈ L → Reach (but L (c1, c2)) (c1, c2 + 1) (c1 - 1, c2) := fun m0 m1 => (q30 ⟨m0, m1⟩).elim L3 fun ⟨⟨h1, h2⟩, h3⟩ => sy m1 b0 (((L0 h1).trans (L1 h2)).trans (L2 h3))
    have r02 : (c1 - 1, c2) ∈ L → (c1 + 1, c2) ∈ L → Reach (but L (c1, c2)) (c1 - 1, c2) (c1 + 1, c2) := fun m0 m1 => (q02 ⟨m0, m1⟩).elim (fun ⟨h1, h2⟩ => (L0 h1).trans (L1 h2)) fun ⟨h1, h2⟩ => sy m1 b2 ((L2 h1).trans (L3 h2))
    have r13 : (c1, c2 - 1) ∈ L → (c1, c2 + 1) ∈ L → Reach (but L (c1, c2)) (c1, c2 - 1) (c1, c2 + 1) := fun m0 m1 => (q13 ⟨m0, m1⟩).elim (fun ⟨h1, h2⟩ => (L1 h1).trans (L2 h2)) fun ⟨h1, h2⟩ => sy m1 b3 ((L3 h1).trans (L0 h2))
    intro x xL xb y yL yb
    simp only [besideC, List.mem_cons, List.not_mem_nil, or_false] at xb yb
    rcases xb with rfl | rfl | rfl | rfl <;> rcases yb with rfl | rfl | rfl | rfl
    · exact .refl
    · exact r01 xL yL
    · exact r02 xL yL
    · exact sy yL b3 (r30 yL xL)
    · exact sy yL b0 (r01 yL xL)
    · exact .refl
    · exact r12 xL yL
    · exact r13 xL yL
    · exact sy yL b0 (r02 yL xL)
    · exact sy yL b1 (r12 yL xL)
    · exact .refl
    · exact r23 xL yL
    · exact r30 xL yL
    · exact sy yL b1 (r13 yL xL)
    · exact sy yL b2 (r23 yL xL)
    · exact .refl
  · have e1 : ∀ x : Int, x + -1 = x - 1 := fun x => rfl
    simp only [linkB, e1]
    cases decide ((c1 - 1, c2) ∈ L) <;> cases decide ((c1, c2 - 1) ∈ L) <;> cases decide ((c1 + 1, c2) ∈ L) <;> cases decide ((c1, c2 + 1) ∈ L) <;> simp
/-- a square with one neighbour alone -/
theorem one_hangs {L : List Cell} (hL : Hangs L) {c a : Cell} (hc : c ∈ L) (h : ((besideC c).filter fun d => decide (d ∈ L)) = [a]) : Hangs (but L c) := by
  have m : ∀ x, x ∈ besideC c → x ∈ L → x = a := fun x hx hxL => List.mem_singleton.mp (h ▸ List.mem_filter.mpr ⟨hx, decide_eq_true hxL⟩)
  have am : a ∈ (besideC c).filter fun d => decide (d ∈ L) := by rw [h]; exact List.mem_singleton.mpr rfl
  obtain ⟨ab, al⟩ := List.mem_filter.mp am
  refine (rest_hangs hL hc (of_decide_eq_true al) ab).mpr fun x hx hb => ?_
  rw [m x hb hx]
  exact .refl
theorem none_hangs {L : List Cell} (hL : Hangs L) {c : Cell} (hc : c ∈ L) (h : ((besideC c).filter fun d => decide (d ∈ L)) = []) : ¬ Hangs (but L c) := fun k => by
  obtain ⟨d, hd⟩ := List.exists_mem_of_ne_nil _ k.1
  obtain ⟨dL, dc⟩ := mem_but.mp hd
  obtain ⟨a, aL, ab⟩ := near_ex hL hc dL dc
  have : a ∈ (besideC c).filter fun d => decide (d ∈ L) := List.mem_filter.mpr ⟨ab, decide_eq_true aL⟩
  rw [h] at this
  cases this
/-- by links enough -/
theorem links_hangs {L : List Cell} (hL : Hangs L) {c : Cell} (hc : c ∈ L) (h2 : 2 ≤ ((besideC c).filter fun d => decide (d ∈ L)).length) (hl : ((besideC c).filter fun d => decide (d ∈ L)).length ≤ linksN L c + 1) : Hangs (but L c) := by
  cases e : (besideC c).filter fun d => decide (d ∈ L) with
  | nil => rw [e] at h2; simp at h2
  | cons a t =>
    have am : a ∈ (besideC c).filter fun d => decide (d ∈ L) := by rw [e]; exact List.mem_cons_self ..
    obtain ⟨ab, al⟩ := List.mem_filter.mp am
    exact (rest_hangs hL hc (of_decide_eq_true al) ab).mpr fun x hx hb => links_reach h2 hl a (of_decide_eq_true al) ab x hx hb
/-- a flood without c that has all there is -/
theorem flood_rest {L F : List Cell} {c a : Cell} (hF : ∀ x ∈ F, x = c ∨ Reach (but L c) a x) (aF : a ∈ F) (ac : a ≠ c) (cl : ∀ x ∈ F, x ≠ c → ∀ y ∈ besideC x, y ∈ L → y ∈ F) : ∀ x, x ≠ c → (x ∈ F ↔ Reach (but L c) a x) := fun x nx => by
  constructor
  · exact fun h => (hF x h).elim (fun e => absurd e nx) id
  · intro r
    clear nx
    induction r with
    | refl => exact aF
    | @step b y hb h hy ih =>
      refine cl b ih ?_ y h (mem_but.mp hy).1
      cases hb with
      | refl => exact ac
      | step _ _ hm => exact (mem_but.mp hm).2
end Sq

set_option Elab.async false
set_option linter.all false
set_option maxRecDepth 100000
set_option maxHeartbeats 4000000
/-! sorted of a list of data of any depth. -/
namespace Sq
open PySem PySem.Spec PyProof.Rows L2
section
variable {X : Cx}
def rSortD (K : PySem.W.Frag) : List V → Hp → VK → Prop := fun vs H Q => ∃ (a : Addr) (xs : List V) (β : Type) (enc : β → PyData) (bs : List β), vs = [V.ref a] ∧ SqL K H a xs ∧ Paired (fun x b => Dp K H x (enc b)) xs bs ∧ (∀ b b', PySem.W.alike (enc b) (enc b') = true) ∧
  PySem.W.Sortable (bs.map enc) ∧ (∀ b ∈ bs, (enc b).depth ≤ 8) ∧
  ∀ (ys : List V) (p : Addr), Paired (fun x b => x ∈ xs ∧ Dp K H x (enc b)) ys (bs.mergeSort (PySem.W.dataLe false enc)) → H p = none → Q (.ref p) (upd H p (.lst ys))
theorem each_of {β : Type} {F : V → β → Prop} {R : Value → β → Prop} {xs : List V} {us : List Value} {bs : List β} (rv : Vals xs us) (pr : Paired F xs bs) (k : ∀ x u b, x ∈ xs → RelV x u → F x b → R u b) : PySem.W.EachIs R us bs := by
  induction rv generalizing bs with
  | nil =>
    cases pr
    exact .nil
  | cons r _ ih =>
    cases pr with
    | cons h t => exact .cons (k _ _ _ (List.mem_cons_self ..) r h) (ih t fun x u b m => k x u b (List.mem_cons_of_mem _ m))
theorem each_back {β : Type} {F : V → β → Prop} {out : List Value} {bs : List β} (e : PySem.W.EachIs (fun v b => ∃ y, RelV y v ∧ F y b) out bs) : ∃ ys : List V, Vals ys out ∧ Paired F ys bs := by
  induction e with
  | nil => exact ⟨[], .nil, .nil⟩
  | cons h _ ih =>
    obtain ⟨y, r, f⟩ := h
    obtain ⟨ys, rs, fs⟩ := ih
    exact ⟨y :: ys, .cons r rs, .cons f fs⟩
theorem cr_sortedD (hu : X.A.units + 64 < cLine) : CallR X (.builtin "sorted") (rSortD X.K) := by
  intro pins s σ H vs us Q I r h
  obtain ⟨a, xs, β, enc, bs, rfl, hs, pr, al, so, dp, q⟩ := h
  obtain ⟨its, rv, hl, hz⟩ := I.list hs
  obtain ⟨u, rfl, ru⟩ := vals1 r
  obtain rfl : u = Value.ref a := ru
  have lb : bs.length ≤ sizeLine := by rw [← Paired.length pr]; exact hz
  refine PySem.W.sorted_data (R := fun v b => ∃ y, RelV y v ∧ y ∈ xs ∧ Dp X.K H y (enc b)) (enc := enc) (bs := bs) hl.isList (each_of rv pr fun x u b m rx hd => ⟨x, rx, m, hd⟩) (each_of rv pr fun x u b _ rx hd => Dp.reads I _ _ _ hd rx) (PySem.W.AllAlike.of al) so lb
    (fun b hb => by have := dp b hb; omega) fun out lo eo => ?_
  obtain ⟨ys, ry, py⟩ := each_back eo
  have len : ys.length ≤ sizeLine := by rw [ry.length, lo]; exact lb
  obtain ⟨e, he⟩ := sortedAll_at s.heap its out.toArray
  have hd : s.heap.objs.size ≤ s.heap.objs.size + 1 := Nat.le_succ _
  exact ⟨.ref (s.heap.objs.size + 1), upd H (s.heap.objs.size + 1) (.lst ys), I.laid (t' := s.toks) (fun b o e => sortedAll_old e) hd ⟨len, out, e, ry, he⟩, rfl, q ys _ py (I.hok.fresh hd)⟩
end
end Sq

set_option Elab.async false
set_option linter.all false
set_option maxRecDepth 100000
set_option maxHeartbeats 4000000
/-! Comprehensions that make lists of cells. -/
namespace Sq
open PySem PySem.Spec PyProof.Rows L2
theorem filter_snoc {α : Type} (p : α → Bool) (xs : List α) (x : α) : (xs ++ [x]).filter p = xs.filter p ++ (if p x = true then [x] else []) := by
  rw [List.filter_append]
  by_cases h : p x = true
  · rw [if_pos h, List.filter_cons_of_pos h]
    rfl
  · rw [if_neg h, List.filter_cons_of_neg h]
    rfl
theorem paired_app {α β : Type} {F : α → β → Prop} {xs xs' : List α} {ys ys' : List β} (h : Paired F xs ys) (k : Paired F xs' ys') : Paired F (xs ++ xs') (ys ++ ys') := by
  induction h with
  | nil => exact k
  | cons a _ ih => exact .cons a ih
theorem lc_cells {J : It} {n : Nat} {Gd : Hp → Prop} {Y : Nat → Hp → V → Hp → Prop} (w : Walk J n Gd Y) {g : TG} {tt : TT} {te : TE} {vs : List Nat} {σ : L2.St} {H1 : Hp} {D : Addr} {Qd : Hp → Prop} (hD : H1 D = none) (res : Nat → List Cell) (r0 : res 0 = []) (hn : n ≤ 1000000)
    (hG : ∀ i G, i ≤ n → Same H1 G → Gd G)
    (hs : ∀ i x G G' (K1 : V → Hp → Prop) (K0 : Hp → Prop), i < n → Same H1 G → Y i G x G' → (∀ r c H4, Same G H4 → At H4 r c → res (i + 1) = res i ++ [c] → K1 (.ref r) H4) → (∀ H3, Same G H3 → res (i + 1) = res i → K0 H3) →
      g x (wipe σ vs) G' fun σ2 H2 => wipe σ2 vs = wipe σ vs ∧ tt σ2 H2 fun b H3 => if b = true then te σ2 H3 K1 else K0 H3)
    (hd : ∀ G rs, Same H1 G → G D = some (.lst (rs.map V.ref)) → Paired (fun q c => At G q c) rs (res n) → Qd G) :
    ∃ W : Nat → Nat → Hp → Prop, (∃ m, W 0 m (upd H1 D (.lst []))) ∧ ∀ i m H, W i m H →
      (J.stop i H ∧ Qd H) ∨ (J.go i H ∧ ∃ Nx : Hp → Prop, (∀ H', Nx H' → ∃ m', m' < m ∧ W (i + 1) m' H') ∧ ∀ x H', J.yld i H x H' → g x (wipe σ vs) H' fun σ2 H2 => wipe σ2 vs = wipe σ vs ∧ tt σ2 H2 fun b H3 =>
        if b = true then te σ2 H3 fun y H4 => ∃ acc, H4 D = some (.lst acc) ∧ acc.length < sizeLine ∧ Nx (upd H4 D (.lst (acc ++ [y]))) else Nx H3) := by
  refine lc_it w (fun i G => Same H1 G ∧ ∃ rs : List Addr, G D = some (.lst (rs.map V.ref)) ∧ rs.length ≤ i ∧ Paired (fun q c => At G q c) rs (res i)) ⟨?_, [], upd_same, Nat.le_refl _, by rw [r0]; exact .nil⟩ (fun i G hi p => hG i G hi p.1) ?_ ?_
  · exact same_put same_refl hD
  · rintro i x G G' hi ⟨sm, rs, gD, ln, pr⟩ y
    refine hs i x G G' _ _ hi sm y (fun r c H4 s4 a4 e => ?_) (fun H3 s3 e => ?_)
    · refine ⟨_, s4 _ _ gD, by rw [List.length_map, sizeLine_eq]; omega, same_put (sm.trans s4) hD, rs ++ [r], by rw [upd_same, List.map_append]; rfl, by rw [List.length_append]; exact Nat.succ_le_succ ln, ?_⟩
      have off : ∀ {q : Addr} {c : Cell}, At H4 q c → At (upd H4 D (.lst (rs.map V.ref ++ [V.ref r]))) q c := fun h => h.off (s4 _ _ gD) (by intro xs z; cases z)
      rw [e]
      exact (paired_imp0 (fun _ _ h => off (s4 _ _ h)) pr).snoc (off a4)
    · refine ⟨sm.trans s3, rs, s3 _ _ gD, Nat.le_succ_of_le ln, ?_⟩
      rw [e]
      exact paired_imp0 (fun _ _ h => s3 _ _ h) pr
  · rintro G ⟨sm, rs, gD, _, pr⟩
    exact hd G rs sm gD pr
end Sq

set_option Elab.async false
set_option linter.all false
set_option maxRecDepth 100000
set_option maxHeartbeats 4000000
/-! Data that can be compared: lists and tuples of such. -/
namespace Sq
open PySem PySem.Spec PyProof.Rows L2
/-- d can be laid, n deep at most -/
def Lay (n : Nat) (d : PyData) : Prop := d.canLay0 = true ∧ d.depth ≤ n
theorem lay_all {n : Nat} : ∀ {ds : List PyData}, (∀ d ∈ ds, Lay n d) → PyData.canLayAll0 ds = true ∧ PyData.depthAll ds ≤ n
  | [], _ => ⟨by first | rfl | simp [PyData.canLayAll0], Nat.zero_le _⟩
  | d :: ds, h => by
    obtain ⟨h1, h2⟩ := lay_all (ds := ds) fun e he => h e (List.mem_cons_of_mem _ he)
    obtain ⟨k1, k2⟩ := h d (List.mem_cons_self ..)
    refine ⟨?_, ?_⟩
    · rw [PyData.canLayAll0, k1, h1]
      rfl
    · rw [PyData.depthAll]
      exact Nat.max_le.mpr ⟨k2, h2⟩
theorem lay_list {n : Nat} {ds : List PyData} (h : ∀ d ∈ ds, Lay n d) : Lay (n + 1) (.list ds) := by
  obtain ⟨h1, h2⟩ := lay_all h
  refine ⟨by rw [PyData.canLay0]; exact h1, ?_⟩
  rw [PyData.depth]
  exact Nat.succ_le_succ h2
theorem lay_tuple {n : Nat} {ds : List PyData} (h : ∀ d ∈ ds, Lay n d) : Lay (n + 1) (.tuple ds) := by
  obtain ⟨h1, h2⟩ := lay_all h
  refine ⟨by rw [PyData.canLay0]; exact h1, ?_⟩
  rw [PyData.depth]
  exact Nat.succ_le_succ h2
theorem Lay.mono {n m : Nat} {d : PyData} (h : Lay n d) (k : n ≤ m) : Lay m d := ⟨h.1, Nat.le_trans h.2 k⟩
theorem Lay.shaped {n : Nat} {d : PyData} (h : Lay n d) (k : n ≤ 64) : SeqAt.shaped d = true := by
  unfold SeqAt.shaped
  rw [h.1, decide_eq_true (Nat.le_trans h.2 k)]
  rfl
theorem lay_int (i : Int) : Lay 0 (.int i) := ⟨by first | rfl | simp [PyData.canLay0], Nat.le_refl _⟩
theorem lay_bool (i : Bool) : Lay 0 (.bool i) := ⟨by first | rfl | simp [PyData.canLay0], Nat.le_refl _⟩
theorem lay_str {i : Str} (h : PyData.strOk i = true) : Lay 0 (.str i) := ⟨by rw [PyData.canLay0]; exact h, Nat.le_refl _⟩
theorem lay_none : Lay 0 .none := ⟨by first | rfl | simp [PyData.canLay0], Nat.le_refl _⟩
theorem dpAll_of {K : PySem.W.Frag} {H : Hp} {β : Type} {enc : β → PyData} : ∀ {xs : List V} {bs : List β}, Paired (fun x b => Dp K H x (enc b)) xs bs → DpAll K H xs (bs.map enc)
  | _, _, .nil => .nil
  | _, _, .cons h t => .cons h (dpAll_of t)
end Sq

set_option Elab.async false
set_option linter.all false
set_option maxRecDepth 100000
set_option maxHeartbeats 4000000
/-! Several except clauses that all bind one name. -/
namespace Sq
open PySem PySem.Spec PyProof.Rows L2
abbrev Su := Addr → Value → Option Addr → TS
/-- the ends of a suite behind which the name at i goes -/
def gone (i : Nat) (D : Ends) : Ends := { nx := fun σ H => D.nx (σ.set i none) H, rt := D.rt, bk := fun σ H => D.bk (σ.set i none) H, ct := fun σ H => D.ct (σ.set i none) H }
/-- what the clauses wish, one after the other -/
def wAll (K : PySem.W.Frag) (i : Nat) (Wo : WX) (D : Ends) : List (Value × Su) → WX
  | [] => Wo
  | (c, ts) :: r => fun cls d σ H => ∃ y, PySem.W.exmOne K cls c = some y ∧ (y = true → ∀ a, H a = none → ts a cls d (gone i D) (σ.set i (some (.ref a))) H) ∧ (y = false → wAll K i Wo D r cls d σ H)
inductive HdAs (X : Cx) (n : Str) : List ExceptHandler → List (Value × Su) → Prop
  | nil : HdAs X n [] []
  | cons {x : Str} {c : Value} {ts : Su} {st : Stmt} {su : List Stmt} {p1 p2 : Pos} {hs : List ExceptHandler} {l : List (Value × Su)} (hc : Names X x c)
      (ok : ∀ (a : Addr) (oe : Obj) (cls : Value) (d : Option Addr) (pn : List (Addr × Obj)), Zc cls d oe → (∃ vs, oe.data = .fields vs) → PSs (X.suite a ((a, oe) :: pn)) (st :: su) (ts a cls d)) (r : HdAs X n hs l) :
      HdAs X n (.ExceptHandler (some (.Name x p1)) (some n) (st :: su) p2 :: hs) ((c, ts) :: l)
section
variable {X : Cx} {body : List Stmt} {h0 : ExceptHandler} {hs : List ExceptHandler} {l : List (Value × Su)} {pos : Pos} {tb : WX → TS} {Wo : WX} {n : Str} {i : Nat}
theorem ps_try_all (stk : X.stack = X.env :: X.outer) (fr : X.env.frame = some X.env.locals) (nd : X.N.Nodup) (hi : X.N[i]? = some n) (loc : X.env.kindOf n = some .local) (tk : Takes X Wo)
    (hb : ∀ (W : WX) (pn : List (Addr × Obj)) (xe : Value → Shared → Prop), Takes (X.tr pn xe) W → PassesOwn (model X.prog X.w) X.A X.env xe → PSs (X.tr pn xe) body (tb W))
    (hh : HdAs X n (h0 :: hs) l) : PS X (.Try body (h0 :: hs) [] [] pos) (fun D σ H => tb (wAll X.K i Wo D l) D σ H) := by
  refine ⟨fun pl s τ G D J0 asked => ?_⟩
  have okX := J0.ok
  have frA : X.A.frames = some (X.env :: X.outer) := okX.frames.trans (congrArg some stk)
  have lcn : Loc X.env.scope n := .inl loc
  let xe : Value → Shared → Prop := fun e z1 => wpAny (model X.prog X.w) X.A (noteFrame e X.env) (fun _ z2 => wpAny (model X.prog X.w) X.A (setFlight e none) (fun _ z3 =>
    wpAny (model X.prog X.w) X.A (handleBy e X.env (h0 :: hs)) (SP X pl D) X.xe z3) X.xe z2) X.xe z1
  refine wpAny_Try_except (wpAny_mono ((hb (wAll X.K i Wo D l) (X.pn ++ pl) xe (fun u z air => ?_) PassesOwn.looking).run [] s τ G D (J0.toTry _) asked) (fun fl z1 sp => ?_) fun e z1 he => he)
  · obtain ⟨a, Bg, zI, pl2, τ2, G2, cls, d, rfl, JT, nb, up, sky, na, eos, ag, wish⟩ := air
    have J : Inv X pl τ2 G2 zI := JT.ofTry okX
    show wpAny (model X.prog X.w) X.A (noteFrame (.ref a) X.env) _ _ _
    refine Sky.land Zc.steady frA fr (by rw [← stk]; exact sky) fun g1 fl1 up1 => ?_
    have J1 : Inv X pl τ2 G2 { z with heap := g1 } := J.landed nb fl1.1 (up.trans up1) eos ag
    obtain ⟨o1, v1, at1, zc1, dd1⟩ := fl1.there
    have off : ∀ {h : Heap} {o : Obj} {vs : Array Value}, h.FunFrames Bg (X.env :: X.outer) → h.get? a = some o → o.data = .fields vs → a ∉ frs (X.env :: X.outer) := fun {h o vs} ff e dd hm => by
      obtain ⟨_, u, eu, no⟩ := ff.mem hm
      rw [e] at eu
      cases eu
      exact no _ dd
    have nfr := off fl1.2.2.1 at1 dd1
    have nL : a ≠ X.env.locals := fun q => nfr (List.mem_filterMap.mpr ⟨X.env, List.mem_cons_self, fr.trans (congrArg some q.symm)⟩)
    have nF : a ∉ X.fs := fun hm => by
      obtain ⟨e, he, q⟩ := List.mem_filterMap.mp hm
      exact nfr (List.mem_filterMap.mpr ⟨e, List.mem_cons_of_mem _ he, q⟩)
    have S1 := J1.suite at1 dd1 na nL nF
    have turn : ∀ {hs2 : List ExceptHandler} {l2 : List (Value × Su)}, HdAs X n hs2 l2 → wAll X.K i Wo D l2 cls d τ2 G2 → wpAny (model X.prog X.w) X.A (handleBy (.ref a) X.env hs2) (SP X pl D) X.xe { z with heap := g1 } := by
      intro hs2 l2 hk
      induction hk with
      | nil =>
        intro wsh
        refine wpAny_handleBy_nil ?_
        obtain ⟨_, _, _, o2, v2, T, oT, ts2, at2, z2, d2, f2, _⟩ := id fl1
        unfold PySem.passOn
        refine wpAny_bind (wpAny_field at2 d2 f2 ?_)
        have nn : ¬ ((Value.ref T == Value.none) = true) := by simp
        rw [if_neg nn]
        have leave : wpAny (model X.prog X.w) X.A (setFlight (.ref a) X.env.frame) (fun _ z4 => wpAny (model X.prog X.w) X.A (throw (.ref a) : Sem Flow) (SP X pl D) X.xe z4) X.xe { z with heap := g1 } := by
          rw [fr]
          refine HandSPX.setFlight_upZ fl1 fun g4 hh4 up4 => wpAny_throw (tk _ _ ⟨a, Bg, zI, pl, τ2, G2, cls, d, rfl, J, nb, (up.trans up1).trans up4, .inr (.inr (by rw [stk]; exact hh4)), na, eos, ag, wsh⟩)
        first
          | exact wpAny_bind (wpAny_pure (wpAny_bind leave))
          | exact wpAny_bind leave
      | @cons x c ts st su p1 p2 hs3 l3 hc okS r ih =>
        intro wsh
        obtain ⟨y, hy, yes, no⟩ := wsh
        refine wpAny_handleBy_cons (codeAny_handlers_test ?_) (by intro q; cases q)
        have LT : PySem.W.Looks (model X.prog X.w) g1 (typeOf (.ref a)) cls := fun A Q E zz k q => wpAny_typeOf_ref (k _ _ at1) (by rw [zc1.1]; exact q)
        have LM := PySem.W.exm_one (M := model X.prog X.w) (J1.kIn) LT hy
        have look : ∀ {Q : Value → Shared → Prop} {E : Value → Shared → Prop}, Q c { z with heap := g1 } → wpAny (model X.prog X.w) (X.A.mark (some (.ref a))) (eval (.Name x p1) X.env) Q E { z with heap := g1 } := fun {Q E} q => by
          obtain ⟨hg, hdb, hm | ⟨hm, hv, hn2⟩⟩ := hc
          · exact ld_glob (X := X.suite a ((a, o1) :: (X.pn ++ pl))) S1 hg hm q hdb
          · exact ld_blt (X := X.suite a ((a, o1) :: (X.pn ++ pl))) S1 hg hm hv q hn2 hdb
        refine look (LM.here ?_)
        cases y with
        | false =>
          show wpAny _ X.A (handleBy (.ref a) X.env hs3) _ _ _
          exact ih (no rfl)
        | true =>
          refine codeAny_handlers_suite_as (HandSPX.lands_againZ fl1 fun g4 fl4 up4 => ?_)
          have J4 : Inv X pl τ2 G2 { z with heap := g4 } := J.landed nb fl4.1 ((up.trans up1).trans up4) eos ag
          obtain ⟨o4, v4, at4, zc4, dd4⟩ := fl4.there
          have S4 := J4.suite at4 dd4 na nL nF
          refine store_ok (X := X.suite a ((a, o4) :: (X.pn ++ pl))) (v := .ref a) S4 nd hi lcn rfl (fun z5 S5 => ?_) (.inr loc)
          refine wpAny_mono ((okS a o4 cls d (X.pn ++ pl) zc4 ⟨_, dd4⟩).run [] z5 _ G2 _ S5 (yes rfl a na)) (fun fl z6 sp => ?_) (fun _ _ q => False.elim q)
          have close : ∀ {τ6 : L2.St} {G6 : Hp} {Q : Shared → Prop}, Inv (X.suite a ((a, o4) :: (X.pn ++ pl))) [] τ6 G6 z6 → (∀ z7, Inv X pl (τ6.set i none) G6 z7 → Q z7) →
              wpAny (model X.prog X.w) X.A (do bindName X.env n .none; unbindBehindTheSuite X.env n p2) (fun _ z7 => Q z7) X.xe z6 := fun {τ6 G6 Q} S6 hq => gone_ok (S6.unsuite okX) nd hi loc hq
          cases fl with
          | next =>
            obtain ⟨τ6, G6, S6, q6⟩ := sp
            exact close S6 fun z7 J7 => ⟨_, _, J7, q6⟩
          | brk =>
            obtain ⟨τ6, G6, S6, q6⟩ := sp
            exact close S6 fun z7 J7 => ⟨_, _, J7, q6⟩
          | cont =>
            obtain ⟨τ6, G6, S6, q6⟩ := sp
            exact close S6 fun z7 J7 => ⟨_, _, J7, q6⟩
          | ret u =>
            obtain ⟨v6, τ6, G6, S6, r6, q6⟩ := sp
            exact close S6 fun z7 J7 => ⟨_, _, _, J7, r6, q6⟩
    exact turn hh wish
  · cases fl with
    | next =>
      obtain ⟨τ2, G2, JT, q⟩ := sp
      exact wpAny_execs_nil ⟨τ2, G2, JT.ofTry okX, q⟩
    | brk =>
      obtain ⟨τ2, G2, JT, q⟩ := sp
      exact ⟨τ2, G2, JT.ofTry okX, q⟩
    | cont =>
      obtain ⟨τ2, G2, JT, q⟩ := sp
      exact ⟨τ2, G2, JT.ofTry okX, q⟩
    | ret u =>
      obtain ⟨v, τ2, G2, JT, r, q⟩ := sp
      exact ⟨v, τ2, G2, JT.ofTry okX, r, q⟩
end
end Sq

set_option Elab.async false
set_option linter.all false
set_option maxRecDepth 100000
set_option maxHeartbeats 4000000
/-! {k: v, l: u}, the keys of any kind; del d[k], the key a tuple that is there. -/
namespace Sq
open PySem PySem.Spec PyProof.Rows L2
def tDisp2 (o0 : HO) (tk tv tl tu : TE) : TE := fun σ H Q => ∀ p, H p = none → tk σ (upd H p o0) fun x H1 => tv σ H1 fun y H2 => tl σ H2 fun x' H3 => tu σ H3 fun y' H4 => ∃ H5 H6, DPut H4 p x y H5 ∧ DPut H5 p x' y' H6 ∧ Q (.ref p) H6
def twoPairs (q : V → V → V → V → Hp → Prop) : List (V × V) → Hp → Prop
  | [p, r], H => q p.1 p.2 r.1 r.2 H
  | _, _ => False
theorem twoPairs_of {q : V → V → V → V → Hp → Prop} {H : Hp} : ∀ {ps : List (V × V)}, twoPairs q ps H → ∃ x y x' y', ps = [(x, y), (x', y')] ∧ q x y x' y' H
  | [p, r], h => ⟨p.1, p.2, r.1, r.2, rfl, h⟩
theorem pe_disp2 {X : Cx} {o0 : HO} {k v l u : Expr} {pos : Pos} {tk tv tl tu : TE} (ho : o0 = .dK [] ∨ o0 = .dT []) (hu : X.A.units + 1 < cLine) (hk : PE X k tk) (hv : PE X v tv) (hl : PE X l tl) (hw : PE X u tu) : PE X (.Dict [some k, some l] [v, u] pos) (tDisp2 o0 tk tv tl tu) := by
  refine ⟨fun pins s σ H Q I h => ?_⟩
  have fresh := I.hok.fresh (Nat.le_refl s.heap.objs.size)
  have I1 : Inv X pins σ (upd H s.heap.objs.size o0) { s with heap := s.heap.push { cls := .type "dict", data := .dict #[] } } := by
    refine I.laid (t' := s.toks) (fun _ _ q => Heap.get?_push_of_some _ q) (Nat.le_refl _) ?_
    rcases ho with rfl | rfl
    · exact dk_empty s.heap I.big
    · exact dt_empty s.heap I.big
  refine wpAny_Dict_any rfl rfl (List.cons_ne_nil _ _) (by show 2 ≤ 15; decide) ?_
  refine thn ((pps_cons hk hv (pps_cons hl hw pps_nil)).run pins _ σ _ (twoPairs fun x y x' y' H4 => ∃ H5 H6, DPut H4 s.heap.objs.size x y H5 ∧ DPut H5 s.heap.objs.size x' y' H6 ∧ Q (.ref s.heap.objs.size) H6) I1 (h _ fresh)) fun vs z hz => ?_
  obtain ⟨ps, H2, I2, rel, q⟩ := hz
  obtain ⟨x, y, x', y', rfl, H5, H6, put, put', q⟩ := twoPairs_of q
  cases rel with
  | cons rr r0 =>
    cases r0 with
    | cons rs r1 =>
      cases r1
      unfold storeAll
      rw [List.forIn_cons]
      refine wpAny_bind (wpAny_bind (dc_put hu I2 put rr.1 rr.2 fun z' I3 => wpAny_pure ?_))
      show wpAny _ _ (forIn (_ :: _ : List (Value × Value)) PUnit.unit _) _ _ _
      rw [List.forIn_cons]
      refine wpAny_bind (wpAny_bind (dc_put hu I3 put' rs.1 rs.2 fun z' I4 => wpAny_pure ?_))
      show wpAny _ _ (forIn ([] : List (Value × Value)) PUnit.unit _) _ _ _
      rw [List.forIn_nil]
      exact wpAny_pure ⟨.ref s.heap.objs.size, H6, I4, rfl, q⟩
/-- del d[y] -/
def sDelT (td ty : TE) : TS := fun D σ H => td σ H fun x H1 => ty σ H1 fun y H2 => ∃ (a : Addr) (kvs : List (List Key × V)) (k : List Key) (b : Addr), x = .ref a ∧ y = .ref b ∧ H2 a = some (.dT kvs) ∧ H2 b = some (.tup (k.map kV)) ∧ (valV kvs k).isSome = true ∧ D.nx σ (upd H2 a (.dT (dropK kvs k)))
theorem ps_ddelT {X : Cx} {o i : Expr} {td ty : TE} {pos tpos : Pos} (hu : X.A.units + 1 < cLine) (ho : PE X o td) (hi : PE X i ty) : PS X (.Delete [.Subscript o i tpos] pos) (sDelT td ty) := by
  refine ⟨fun pins s σ H D I h => ?_⟩
  refine wpAny_Delete (wpAny_deleteEach_cons (wpAny_delete_Subscript (thn (ho.run pins s σ H _ I h) fun u s1 ⟨x, H1, I1, rx, q1⟩ => thn (hi.run pins s1 σ H1 _ I1 q1) fun iv s2 ⟨y, H2, I2, ry, a, kvs, k, b, ex, ey, e, eb, l, q2⟩ => ?_)))
  subst ex ey
  obtain rfl : u = Value.ref a := rx
  obtain rfl : iv = Value.ref b := ry
  obtain ⟨z, hsys, ys, rel, dd⟩ := dt_of I2.hok e
  have hz : ys.length ≤ sizeLine := by rw [← Paired.length rel]; exact z
  have r := rel.val k
  cases ep : atKey ys k with
  | none =>
    rw [ep] at r
    cases hv : valV kvs k with
    | none => rw [hv] at l; cases l
    | some v => rw [hv] at r; exact r.elim
  | some p =>
    refine wpAny_delItem_heap (hsz := hz) (tupleKind_room_in1 hu) (key_of I2.hok eb) hsys dd ep fun h' dd' same => ?_
    obtain ⟨o2, en, e0, eo, c2, c3, c4, c5, c6⟩ := dd'
    refine wpAny_deleteEach_nil ⟨σ, _, d_write (ob := .dT (dropK kvs k)) I2 (by rw [e]; exact True.intro) same ⟨o2, eo⟩ ⟨Nat.le_trans (dropK_le kvs k) z, hsys, _, (DX.KT_drop k rel).keeps fun c ws ec => ?_, o2, en, e0, eo, c2, c3, c4, c6⟩, q2⟩
    rw [upd_ne (ne_of ec e (fun t => nomatch t))]
    exact ec
end Sq

set_option Elab.async false
set_option linter.all false
set_option maxRecDepth 100000
set_option maxHeartbeats 4000000
/-! The links around a cell. -/
namespace Sq
open PySem PySem.Spec PyProof.Rows L2
structure CrossC (K : PySem.W.Frag) (mg : Str → Option Value) (a : Addr) (rs : List Addr) : Prop where
  g : mg "CROSSWISE" = some (.ref a)
  t : ∀ H, SqT K H a (rs.map V.ref)
  e : Paired (fun r d => ∀ H, SqT K H r (cV d)) rs crossL
def spLinks : Sp := fun vs H Q _ => ∃ (d q : Addr) (L : List Cell) (c : Cell), vs = [.ref d, .ref q] ∧ H d = some (.dT (lotK L)) ∧ At H q c ∧ ∀ H', Same H H' → Q (.int (linksN L c : Int)) H'
theorem links_snoc {L : List Cell} {c d : Cell} {i : Nat} (h : crossL[i]? = some d) : (((crossL.take (i + 1)).filter (linkB L c)).length : Int) = ((crossL.take i).filter (linkB L c)).length + (if linkB L c d = true then 1 else 0) := by
  rw [take_snoc h, List.filter_append, List.length_append]
  by_cases e : linkB L c d = true
  · rw [if_pos e]
    simp [List.filter_cons, e]
  · rw [if_neg e]
    simp [List.filter_cons, e]
section
variable {P : Program} {w : World} {K : PySem.W.Frag} {mg : Str → Option Value} {base : Heap}
end
end Sq

set_option Elab.async false
set_option linter.all false
set_option maxRecDepth 100000
set_option maxHeartbeats 4000000
/-! What stays of values; the kind of a move. -/
namespace Sq
open PySem PySem.Spec PyProof.Rows L2
/-- all but tables and the dicts with plain keys (the pen) stays -/
def Ek (H H' : Hp) : Prop := ∀ b o, (∀ ps, o ≠ HO.tbl ps) → (∀ kvs, o ≠ HO.dK kvs) → H b = some o → H' b = some o
theorem Ek.refl {H : Hp} : Ek H H := fun _ _ _ _ e => e
theorem Ek.trans {H G I : Hp} (h : Ek H G) (k : Ek G I) : Ek H I := fun b o n m e => k b o n m (h b o n m e)
theorem Ek.of {H G : Hp} (h : Same H G) : Ek H G := fun b o _ _ e => h b o e
theorem KT.ek {Ts : List Addr} {H G : Hp} (h : KT Ts H G) : Ek H G := fun _ _ n _ e => h.get e n
theorem Ek.at {H G : Hp} {q : Addr} {c : Cell} (h : Ek H G) (e : At H q c) : At G q c := h _ _ (fun _ z => nomatch z) (fun _ z => nomatch z) e
theorem Ek.tup {H G : Hp} {q : Addr} {xs : List V} (h : Ek H G) (e : H q = some (.tup xs)) : G q = some (.tup xs) := h _ _ (fun _ z => nomatch z) (fun _ z => nomatch z) e
theorem Ek.lst {H G : Hp} {q : Addr} {xs : List V} (h : Ek H G) (e : H q = some (.lst xs)) : G q = some (.lst xs) := h _ _ (fun _ z => nomatch z) (fun _ z => nomatch z) e
theorem Ek.dT {H G : Hp} {q : Addr} {xs : List (List Key × V)} (h : Ek H G) (e : H q = some (.dT xs)) : G q = some (.dT xs) := h _ _ (fun _ z => nomatch z) (fun _ z => nomatch z) e
theorem Ek.cells {H G : Hp} {qs : List Addr} {cs : List Cell} (h : Ek H G) (e : Paired (fun q c => At H q c) qs cs) : Paired (fun q c => At G q c) qs cs := paired_imp (fun _ _ a => h.at a) e
theorem CellsT.ek {H G : Hp} {t : Addr} {cs : List Cell} (h : CellsT H t cs) (k : Ek H G) : CellsT G t cs := by
  obtain ⟨qs, e, r⟩ := h
  exact ⟨qs, k.tup e, k.cells r⟩
theorem CellsL.ek {H G : Hp} {t : Addr} {cs : List Cell} (h : CellsL H t cs) (k : Ek H G) : CellsL G t cs := by
  obtain ⟨qs, e, r⟩ := h
  exact ⟨qs, k.lst e, k.cells r⟩
theorem Kd.ek {K : PySem.W.Frag} {H G : Hp} {x : V} {T : String} (h : Kd K H x T) (k : Ek H G) : Kd K G x T := by
  have m := h.mem
  have t := h.ty
  refine ⟨?_, m⟩
  have nd : T ≠ "dict" := fun z => by rw [z] at m; exact absurd m (by decide)
  have ns : T ≠ "set" := fun z => by rw [z] at m; exact absurd m (by decide)
  generalize e : (Value.type T) = u at t
  cases t with
  | base b =>
    cases b with
    | non => exact .base .non
    | bl y => exact .base (.bl y)
    | int i => exact .base (.int i)
    | str y => exact .base (.str y)
    | flt y => exact .base (.flt y)
    | lst ea => exact .base (.lst (k.lst ea))
    | frz ea => exact .base (.frz (k _ _ (fun _ z => nomatch z) (fun _ z => nomatch z) ea))
    | tup ea => exact .base (.tup (k.tup ea))
    | dK ea => exact absurd (Value.type.inj e) nd
    | dT ea => exact absurd (Value.type.inj e) nd
    | ins _ _ _ _ _ _ => cases e
  | byt b => exact .byt b
  | set ea => exact absurd (Value.type.inj e) ns
  | kList ea c => exact .kList ea c
  | kTuple ea c => exact .kTuple ea c
  | kDict ea c => exact .kDict ea c
  | fTuple ea => exact .fTuple (k _ _ (fun _ z => nomatch z) (fun _ z => nomatch z) ea)
  | fDict ea => exact absurd (Value.type.inj e) nd
theorem CellQ.ek {K : PySem.W.Frag} {H G : Hp} {x : V} {b : Bool} (h : CellQ K H x b) (k : Ek H G) : CellQ K G x b := by
  cases h with
  | other kd n => exact .other (kd.ek k) n
  | len e n => exact .len (k.tup e) n
  | two e ky kz n => exact .two (k.tup e) (ky.ek k) (kz.ek k) n
  | cell e => exact .cell (k.at e)
/-- as call_abs says it -/
def absI (i : Int) : Int := if i < 0 then -i else i
/-- the kind by the cells around -/
def byPlace (L : List Cell) (s e : Cell) : V :=
  if decide (s ∈ L) = false ∨ decide (e ∈ L) = true then .non
  else if absI (e.1 - s.1) + absI (e.2 - s.2) = 1 then (if slidesB L s e = true then .str "slide" else .non)
  else if absI (e.1 - s.1) = 1 ∧ absI (e.2 - s.2) = 1 then (if turnsB L s e = true then .str "turn" else .non) else .non
noncomputable def kindV (L : List Cell) (s e : Cell) : V := if byPlace L s e = .non ∨ hangsB (without L s) = false then .non else byPlace L s e
def spByPlace (Ts : List Addr) : Sp := fun vs H Q _ => ∃ (d p q : Addr) (L : List Cell) (s e : Cell), vs = [.ref d, .ref p, .ref q] ∧ H d = some (.dT (lotK L)) ∧ At H p s ∧ At H q e ∧ TabsG Ts H ∧ ∀ H', KT Ts H H' → Q (byPlace L s e) H'
def spKindIn (Ts : List Addr) : Sp := fun vs H Q _ => ∃ (d p q : Addr) (L : List Cell) (s e : Cell), vs = [.ref d, .ref p, .ref q] ∧ H d = some (.dT (lotK L)) ∧ L.Nodup ∧ L.length ≤ 1000 ∧ Hangs L ∧ At H p s ∧ At H q e ∧ TabsG Ts H ∧ ∀ H', KT Ts H H' → Q (kindV L s e) H'
theorem byPlace_cases (L : List Cell) (s e : Cell) : byPlace L s e = .non ∨ byPlace L s e = .str "slide" ∨ byPlace L s e = .str "turn" := by
  unfold byPlace
  split
  · exact .inl rfl
  · split
    · split
      · exact .inr (.inl rfl)
      · exact .inl rfl
    · split
      · split
        · exact .inr (.inr rfl)
        · exact .inl rfl
      · exact .inl rfl
section
variable {P : Program} {w : World} {K : PySem.W.Frag} {mg : Str → Option Value} {base : Heap} {Ts : List Addr}
end
end Sq

set_option Elab.async false
set_option linter.all false
set_option maxRecDepth 100000
set_option maxHeartbeats 4000000
/-! Data stay where all but tables and the pen stays. -/
namespace Sq
open PySem PySem.Spec PyProof.Rows L2
section
variable {K : PySem.W.Frag} {H H' : Hp}
theorem Ek.rd (k : Ek H H') {l : Addr} {u : HO} (h1 : ∀ ps, u ≠ .tbl ps) (h2 : ∀ kvs, u ≠ .dK kvs) (h : Rd H l u) : Rd H' l u := by
  rcases h with h | ⟨o, h⟩
  · exact .inl (k l _ h1 h2 h)
  · exact .inr ⟨o, k l _ (fun _ z => nomatch z) (fun _ z => nomatch z) h⟩
theorem Ek.sqL (k : Ek H H') {l : Addr} {xs : List V} (h : SqL K H l xs) : SqL K H' l xs := h.elim (fun z => .inl (k.rd (fun _ q => nomatch q) (fun _ q => nomatch q) z)) .inr
theorem Ek.sqT (k : Ek H H') {l : Addr} {xs : List V} (h : SqT K H l xs) : SqT K H' l xs := h.elim (fun z => .inl (k.rd (fun _ q => nomatch q) (fun _ q => nomatch q) z)) .inr
mutual
theorem Ek.dp (k : Ek H H') : ∀ (d : PyData) (x : V), Dp K H x d → Dp K H' x d
  | .none, _, h => by
    cases h
    exact .non
  | .bool b, _, h => by
    cases h
    exact .bl b
  | .int i, _, h => by
    cases h
    exact .int i
  | .str s, _, h => by
    cases h
    exact .str s
  | .list ds, _, h => by
    cases h with
    | lst h1 h2 => exact .lst (k.sqL h1) (k.dps ds _ h2)
  | .tuple ds, _, h => by
    cases h with
    | tup h1 h2 => exact .tup (k.sqT h1) (k.dps ds _ h2)
  | .dict _, _, h => by cases h
theorem Ek.dps (k : Ek H H') : ∀ (ds : List PyData) (xs : List V), DpAll K H xs ds → DpAll K H' xs ds
  | [], _, h => by
    cases h
    exact .nil
  | d :: ds, _, h => by
    cases h with
    | cons h1 h2 => exact .cons (k.dp d _ h1) (k.dps ds _ h2)
end
/-- cells as data -/
theorem cells_dps : ∀ {qs : List Addr} {cs : List Cell}, Paired (fun q c => At H q c) qs cs → DpAll K H (qs.map V.ref) (cs.map cD)
  | _, _, .nil => .nil
  | _, _, .cons h t => .cons h.dp (cells_dps t)
theorem CellsT.dp {t : Addr} {cs : List Cell} (h : CellsT H t cs) : Dp K H (.ref t) (.tuple (cs.map cD)) := by
  obtain ⟨qs, e, pr⟩ := h
  exact .tup (SqT.of e) (cells_dps pr)
theorem CellsL.dp {t : Addr} {cs : List Cell} (h : CellsL H t cs) : Dp K H (.ref t) (.list (cs.map cD)) := by
  obtain ⟨qs, e, pr⟩ := h
  exact .lst (SqL.of e) (cells_dps pr)
end
end Sq

set_option Elab.async false
set_option linter.all false
set_option maxRecDepth 100000
set_option maxHeartbeats 4000000
/-! Hanging together without a cell. -/
namespace Sq
open PySem PySem.Spec PyProof.Rows L2
/-- in, for a cell and a list of cells -/
def rInH : R2 := fun x y H Q => ∃ (p t : Addr) (c : Cell) (L : List Cell), x = .ref p ∧ y = .ref t ∧ At H p c ∧ CellsL H t L ∧ Q (.bl (decide (c ∈ L))) H
theorem any_cellH (c : Cell) : ∀ L : List Cell, (L.map cD).any (fun z => PyData.eqv z (cD c)) = decide (c ∈ L)
  | [] => by simp
  | d :: L => by
    rw [List.map_cons, List.any_cons, any_cellH c L, cD_eqv]
    by_cases h : d = c
    · subst h
      simp
    · have h' : ¬ c = d := fun z => h z.symm
      simp [h, h']
theorem lay_cellH (c : Cell) : Lay 1 (cD c) := lay_tuple fun d hd => by
  simp only [List.mem_cons, List.not_mem_nil, or_false] at hd
  rcases hd with rfl | rfl
  · exact lay_int _
  · exact lay_int _
theorem cells_canH (L : List Cell) : PyData.canLayAll0 (L.map cD) = true := (lay_all (n := 1) fun d hd => by
  obtain ⟨c, _, rfl⟩ := List.mem_map.mp hd
  exact lay_cellH c).1
theorem op_inH {X : Cx} (hu : X.A.units + 64 < cLine) : OpR X (compareOp .In) rInH := by
  rintro pins s σ H x y v u Q I rx ry ⟨p, t, c, L, rfl, rfl, ap, ct, q⟩
  obtain ⟨as, r1⟩ := Dp.reads I (cD c) _ v ap.dp rx
  obtain ⟨bs, r2⟩ := Dp.reads I (.list (L.map cD)) _ u ct.dp ry
  have l1 := lay_cellH c
  refine SeqAt.in_list_reads r2 r1 (cells_canH L) l1.1 ?_ ⟨.bl _, H, I, rfl, ?_⟩
  · have m : min (PyData.depthAll (L.map cD)) (cD c).depth ≤ 1 := Nat.le_trans (Nat.min_le_right _ _) l1.2
    omega
  · rw [any_cellH]
    exact q
/-- how many of N are not met -/
def missN (N F : List Cell) : Nat := (N.filter fun x => !decide (x ∈ F)).length
theorem miss_put {F : List Cell} {y : Cell} (h : y ∉ F) : ∀ {N : List Cell}, N.Nodup → missN N (F ++ [y]) + (if y ∈ N then 1 else 0) = missN N F
  | [], _ => rfl
  | x :: N, nN => by
    obtain ⟨nx, nN⟩ := List.nodup_cons.mp nN
    have ih := miss_put h nN
    unfold missN at ih ⊢
    rw [List.filter_cons, List.filter_cons]
    by_cases e : x = y
    · subst e
      rw [if_neg nx] at ih
      have a : (!decide (x ∈ F ++ [x])) = false := by simp
      have b : (!decide (x ∈ F)) = true := by simp [h]
      rw [a, b, if_pos (List.mem_cons_self ..), if_pos rfl, if_neg (by simp), List.length_cons]
      omega
    · have a : decide (x ∈ F ++ [y]) = decide (x ∈ F) := by simp [e]
      have b : (y ∈ x :: N) ↔ y ∈ N := by simp [Ne.symm e]
      rw [a]
      have c : (if y ∈ x :: N then 1 else 0) = (if y ∈ N then 1 else 0 : Nat) := by simp only [b]
      rw [c]
      by_cases g : x ∈ F
      · simpa [g] using ih
      · simp only [g, decide_false, Bool.not_false, if_true, List.length_cons]
        omega
theorem miss_zero {N F : List Cell} : missN N F = 0 ↔ ∀ x ∈ N, x ∈ F := by
  unfold missN
  rw [List.length_eq_zero_iff, List.filter_eq_nil_iff]
  simp
theorem beside_nodup (c : Cell) : (besideC c).Nodup := by
  obtain ⟨a, b⟩ := c
  simp [besideC]
  omega
theorem near_nodup {L : List Cell} (c : Cell) : (nearC L c).Nodup := (beside_nodup c).sublist List.filter_sublist
structure Hw (H : Hp) (L : List Cell) (c a : Cell) (fo ah : Addr) (F A : List Cell) (G : Hp) : Prop where
  same : Same H G
  gf : G fo = some (.dT (lotK F))
  ga : CellsL G ah A
  nd : F.Nodup
  cF : c ∈ F
  aF : a ∈ F
  re : ∀ x ∈ F, x = c ∨ Reach (but L c) a x
  sub : ∀ x ∈ A, x ∈ F ∧ x ≠ c
  len : A.length ≤ F.length
def HwW (H : Hp) (L : List Cell) (c a : Cell) (d q ar fo ah : Addr) (m : Nat) (σ : L2.St) (G : Hp) : Prop := ∃ (F A : List Cell) (v6 v7 : Option V), m = 2 * (L.length - F.length) + A.length ∧ σ = [some (.ref d), some (.ref q), some (.ref ar), some (.ref fo), some (.ref ah), some (.int (missN (nearC L c) F : Int)), v6, v7] ∧ Hw H L c a fo ah F A G ∧
      ∀ x ∈ F, x ∉ A → x ≠ c → ∀ y ∈ besideC x, y ∈ L → y ∈ F
theorem one_lt : (1 : Nat) < sizeLine := by rw [sizeLine_eq]; decide
theorem one_le : (1 : Nat) ≤ sizeLine := by rw [sizeLine_eq]; decide
def spHangsW : Sp := fun vs H Q _ => ∃ (d q : Addr) (L : List Cell) (c : Cell), vs = [.ref d, .ref q] ∧ H d = some (.dT (lotK L)) ∧ L.Nodup ∧ L.length ≤ 1000 ∧ Hangs L ∧ c ∈ L ∧ At H q c ∧ ∀ H', Same H H' → Q (.bl (hangsB (without L c))) H'
theorem hangs_decide {L : List Cell} {p : Prop} [Decidable p] (h : p ↔ Hangs L) : (decide p) = hangsB L := hangsB_of (by rw [decide_eq_true_iff]; exact h)
section
variable {P : Program} {w : World} {K : PySem.W.Frag} {mg : Str → Option Value} {base : Heap}
end
end Sq

set_option Elab.async false
set_option linter.all false
set_option maxRecDepth 100000
set_option maxHeartbeats 4000000
/-! sorted of a lot of cells. -/
namespace Sq
open PySem PySem.Spec PyProof.Rows L2
theorem keys_cells {H : Hp} : ∀ {L : List Cell} {bs : List Addr}, IsKeys H (lotK L) bs → Paired (fun q c => At H q c) bs L
  | [], _, .nil => .nil
  | _ :: _, _, .cons h t => .cons h (keys_cells t)
section
variable {X : Cx}
def rSortDct : List V → Hp → VK → Prop := fun vs H Q => ∃ (a : Addr) (L : List Cell), vs = [V.ref a] ∧ H a = some (.dT (lotK L)) ∧ sortedK H L Q
theorem cr_sortedDct (calm : X.calm = true) : CallR X (.builtin "sorted") rSortDct := by
  intro pins s σ H vs us Q I r h
  obtain ⟨a, L, rfl, ha, k⟩ := h
  rw [Vals.ref1 r]
  obtain ⟨z, hs, ks, pr, o, es, ep, ho, hx, hdt, he, hn⟩ := (show ObjOk X.prog X.w H s.heap a (.dT (lotK L)) from I.hok a _ ha)
  have l1 : es.size = ks.length := size_of_entries he
  have l2 : (lotK L).length = ks.length := Paired.length pr
  refine sorted_src (k := kVal H) (collect_src (kdl_raw hs hx hdt) (I.ok.hd calm) ho (by omega) fun h' tk acc hk it => ?_)
  have ea : acc.toList = (ks.map fun x => x.2.1).map Value.ref := by
    rw [List.map_map]
    refine List.ext_getElem? fun j => ?_
    rw [List.getElem?_map]
    have hl : acc.toList.length = ks.length := by rw [Array.length_toList, it.1, l1]
    cases hj : acc.toList[j]? with
    | none =>
      rw [List.getElem?_eq_none (by have := List.getElem?_eq_none_iff.mp hj; omega)]
      rfl
    | some v =>
      obtain ⟨en, hen, hv⟩ := it.2 j v (by rw [← Array.getElem?_toList]; exact hj)
      have e1 := entry_at he j
      rw [hen] at e1
      cases hb : ks[j]? with
      | none =>
        rw [hb] at e1
        exact nomatch (show some en = none from e1)
      | some b =>
        rw [hb] at e1
        have e2 : en = entryOfKey (tupleKind (mixKind X.prog X.w)) b := Option.some.inj e1
        rw [hv, e2]
        rfl
  rw [ea]
  refine sort_fin (I.kept (t' := tk) hk) (List.Perm.refl _) (keys_cells (isKeys_of pr)) (by rw [List.length_map]; omega) (fun _ _ e => e) (Nat.le_refl _) rfl rfl k
end
end Sq

set_option Elab.async false
set_option linter.all false
set_option maxRecDepth 100000
set_option maxHeartbeats 4000000
/-! A square put elsewhere; the body of a lot; the kind of a move. -/
namespace Sq
open PySem PySem.Spec PyProof.Rows L2
theorem lot_dropW (c : Cell) (L : List Cell) : dropK (lotK L) (cK c) = lotK (without L c) := by
  unfold dropK lotK without
  rw [List.filter_map]
  congr 1
  refine List.filter_congr fun x _ => ?_
  show decide (cK x ≠ cK c) = decide (x ≠ c)
  by_cases h : x = c
  · simp [h]
  · have ne : ¬ cK x = cK c := fun z => h (cK_inj z)
    simp [h, ne]
theorem without_len (L : List Cell) (c : Cell) : (without L c).length ≤ L.length := List.length_filter_le _ _
theorem mem_without {L : List Cell} {c x : Cell} : x ∈ without L c ↔ x ∈ L ∧ x ≠ c := mem_but
/-- put(lot, start, end) -/
def spPut : Sp := fun vs H Q _ => ∃ (d p q : Addr) (L : List Cell) (s e : Cell), vs = [.ref d, .ref p, .ref q] ∧ H d = some (.dT (lotK L)) ∧ L.Nodup ∧ L.length ≤ 1000 ∧ s ∈ L ∧ e ∉ L ∧ At H p s ∧ At H q e ∧ Q .non (upd H d (.dT (lotK (without L s ++ [e]))))
/-- body_in(lot) -/
def spBodyIn : Sp := fun vs H Q _ => ∃ (d : Addr) (L : List Cell), vs = [.ref d] ∧ H d = some (.dT (lotK L)) ∧ ∀ r H' cs, Same H H' → H r = none → CellsT H' r cs → cs.Perm L → Asc cs → Q (.ref r) H'
section
variable {P : Program} {w : World} {K : PySem.W.Frag} {mg : Str → Option Value} {base : Heap} {Ts : List Addr}
theorem scPu : FnScope ["lot", "start", "end"] ["lot", "start", "end"] (defScope gPut) := ⟨rfl, rfl, rfl, by decide +kernel, rfl, by decide +kernel, by decide +kernel⟩
theorem ok_put {f : Addr} {fd : FuncData} (F : FnP K "put" gPut f fd) : FnOk P w K mg base CX0 1 f fd ["lot", "start", "end"] spPut := by
  refine F.ok scPu (fun vs H Q E h => ?_) (fun cdv A outer s H vs Q E hr h => ?_)
  · obtain ⟨d, p, q, L, s, e, rfl, _⟩ := h
    rfl
  · obtain ⟨d, p, q, L, a, b, rfl, ed, nL, lL, aL, bL, ap, aq, k⟩ := h
    have hu := hu_of hr
    refine ⟨_, PSs.nox (pss_cons (ps_ddelT hu (pv 0) (pv 1))
      (pss_one (ps_dput hu (pv 0) (pv 2) pe_bl rfl))), ?_⟩
    refine ⟨_, rfl, _, rfl, d, _, cK a, p, rfl, rfl, ed, ap, by rw [lot_is]; exact decide_eq_true aL, ?_⟩
    rw [lot_dropW a L]
    have e1 : (upd H d (.dT (lotK (without L a)))) d = some (.dT (lotK (without L a))) := upd_same
    have aq1 : At (upd H d (.dT (lotK (without L a)))) q b := aq.off ed (by intro xs z; cases z)
    refine ⟨_, rfl, _, rfl, d, _, rfl, dput_lot e1 aq1 (fun m => bL (mem_without.mp m).1) (by have := without_len L a; rw [sizeLine_eq]; omega), ?_⟩
    rw [upd_upd]
    exact k
theorem byPlace_mem {L : List Cell} {s e : Cell} (h : byPlace L s e ≠ .non) : s ∈ L ∧ e ∉ L := by
  unfold byPlace at h
  by_cases c : decide (s ∈ L) = false ∨ decide (e ∈ L) = true
  · rw [if_pos c] at h
    exact absurd rfl h
  · constructor
    · exact Classical.byContradiction fun n => c (.inl (decide_eq_false n))
    · exact fun n => c (.inr (decide_eq_true n))
end
end Sq

set_option Elab.async false
set_option linter.all false
set_option maxRecDepth 100000
set_option maxHeartbeats 4000000
/-! kind_of and done, with their errors. -/
namespace Sq
open PySem PySem.Spec PyProof.Rows L2
/-- an own error of the class at C is on its way, with these fields; all but tables stays -/
def Way (Ts : List Addr) (H : Hp) (C : Addr) (fs : List (Str × V)) (E : XK) : Prop := ∀ (dd : Addr) (H' : Hp), KT Ts H H' → H dd = none → H' dd = some (.xd fs) → E (.ref C) (some dd) H'
theorem Way.from {Ts : List Addr} {H G : Hp} {C : Addr} {fs : List (Str × V)} {E : XK} (h : Way Ts H C fs E) (k : KT Ts H G) : ∀ d, G d = none → E (.ref C) (some d) (upd G d (.xd fs)) := fun d hd =>
  h d _ (k.same (same_new hd)) (k.free hd) upd_same
def spKindOf (K : PySem.W.Frag) (Ts : List Addr) (CB : Addr) : Sp := fun vs H Q E => ∃ (t : Addr) (L : List Cell) (x y : V), vs = [.ref t, x, y] ∧ CellsT H t L ∧ L.Nodup ∧ L.length ≤ 1000 ∧ Hangs L ∧ TabsG Ts H ∧
  ((CellQ K H x false ∧ Way Ts H CB [("cell", x)] E) ∨ (∃ p s, x = .ref p ∧ At H p s ∧ ((CellQ K H y false ∧ Way Ts H CB [("cell", y)] E) ∨ (∃ q e, y = .ref q ∧ At H q e ∧ ∀ H', KT Ts H H' → Q (kindV L s e) H'))))
def spDone (K : PySem.W.Frag) (Ts : List Addr) (CB CT CM : Addr) : Sp := fun vs H Q E => ∃ (t : Addr) (L : List Cell) (x y : V), vs = [.ref t, x, y] ∧ CellsT H t L ∧ L.Nodup ∧ L.length ≤ 1000 ∧ Hangs L ∧ TabsG Ts H ∧
  ((CellQ K H x false ∧ Way Ts H CB [("cell", x)] E) ∨ (∃ p s, x = .ref p ∧ At H p s ∧ ((CellQ K H y false ∧ Way Ts H CB [("cell", y)] E) ∨ (∃ q e, y = .ref q ∧ At H q e ∧
    ((s ∉ L ∧ Way Ts H CT [("cell", x)] E) ∨ (s ∈ L ∧ ((kindV L s e = .non ∧ Way Ts H CM [("end", y), ("start", x)] E) ∨
      (kindV L s e ≠ .non ∧ ∀ r H' cs, KT Ts H H' → CellsT H' r cs → cs.Perm (without L s ++ [e]) → Asc cs → Q (.ref r) H'))))))))
section
variable {P : Program} {w : World} {K : PySem.W.Frag} {mg : Str → Option Value} {base : Heap} {Ts : List Addr}
end
end Sq

set_option Elab.async false
set_option linter.all false
set_option maxRecDepth 100000
set_option maxHeartbeats 4000000
/-! The pen: made, drawn from; a pick. -/
namespace Sq
open PySem PySem.Spec PyProof.Rows L2
abbrev kCells : Key := .inr "cells"
abbrev kAt : Key := .inr "at"
abbrev kDig : Key := .inr "digits"
abbrev kCnt : Key := .inr "count"
abbrev kFold : Key := .inr "fold"
/-- the pen's pairs -/
def penK (c : Addr) (i dg n fo : Int) : List (Key × V) := [(kCells, .ref c), (kAt, .int i), (kDig, .int dg), (kCnt, .int n), (kFold, .int fo)]
theorem pen_cells {c : Addr} {i dg n fo : Int} : valV (penK c i dg n fo) kCells = some (.ref c) := by kernel_rfl
theorem pen_at {c : Addr} {i dg n fo : Int} : valV (penK c i dg n fo) kAt = some (.int i) := by kernel_rfl
theorem pen_dig {c : Addr} {i dg n fo : Int} : valV (penK c i dg n fo) kDig = some (.int dg) := by kernel_rfl
theorem pen_cnt {c : Addr} {i dg n fo : Int} : valV (penK c i dg n fo) kCnt = some (.int n) := by kernel_rfl
theorem pen_fold {c : Addr} {i dg n fo : Int} : valV (penK c i dg n fo) kFold = some (.int fo) := by kernel_rfl
theorem put_at {c : Addr} {i dg n fo z : Int} : putK (penK c i dg n fo) kAt (.int z) = penK c z dg n fo := by kernel_rfl
theorem put_dig {c : Addr} {i dg n fo z : Int} : putK (penK c i dg n fo) kDig (.int z) = penK c i z n fo := by kernel_rfl
theorem put_cnt {c : Addr} {i dg n fo z : Int} : putK (penK c i dg n fo) kCnt (.int z) = penK c i dg z fo := by kernel_rfl
theorem put_fold {c : Addr} {i dg n fo z : Int} : putK (penK c i dg n fo) kFold (.int z) = penK c i dg n z := by kernel_rfl
theorem pen_disp {c : Addr} {fo : Int} : mergeK [] (penK c 0 0 0 fo) = penK c 0 0 0 fo := by kernel_rfl
/-- what is tracked but p stays -/
theorem same_but {H H' : Hp} {p : Addr} (h : H p = none) (k : ∀ b, b ≠ p → H' b = H b) : Same H H' := fun b u e => by
  rw [k b (ne_of_none e h)]
  exact e
theorem pen_len {c : Addr} {i dg n fo : Int} : (penK c i dg n fo).length < sizeLine := Nat.lt_of_le_of_lt (Nat.le_refl 5) (by rw [sizeLine_eq]; decide)
theorem dget_of {H : Hp} {p : Addr} {kvs : List (Key × V)} {k : Key} {v : V} (e : H p = some (.dK kvs)) (hv : valV kvs k = some v) : DGet H p (kV k) (some v) := hv ▸ DGet.k (k := k) e
theorem dput_of {H : Hp} {p c : Addr} {i dg n fo : Int} {kvs' : List (Key × V)} {k : Key} {v : V} (e : H p = some (.dK (penK c i dg n fo))) (hk : putK (penK c i dg n fo) k v = kvs') : DPut H p (kV k) v (upd H p (.dK kvs')) := hk ▸ DPut.k e pen_len
/-- a pen stands at p, n numbers were drawn -/
structure PenAt (H : Hp) (p : Addr) (n : Nat) : Prop where
  ex : ∃ (c : Addr) (zs : List Int) (i : Nat) (dg fo : Int), H p = some (.dK (penK c i dg n fo)) ∧ H c = some (.lst (zs.map V.int)) ∧ i ≤ zs.length ∧ zs.length ≤ 63 ∧ 0 ≤ dg ∧ 0 ≤ fo ∧ fo < 2147483648
/-- _law_pen(script): a new pen -/
def spPen (K : PySem.W.Frag) : Sp := fun vs H Q _ => ∃ (a : Addr) (zs : List Int), vs = [.ref a] ∧ SqL K H a (zs.map V.int) ∧ zs.length ≤ 63 ∧ ∀ (p : Addr) (H' : Hp), PenAt H' p 0 → Same H H' → H p = none → Q (.ref p) H'
/-- _law_draw(pen, many): a number below many; the pen alone changes -/
def spDraw : Sp := fun vs H Q _ => ∃ (p : Addr) (n : Nat) (m : Int), vs = [.ref p, .int m] ∧ PenAt H p n ∧ 1 ≤ m ∧ m < 1073741824 ∧ n < 1000000 ∧
  ∀ (r : Int) (H' : Hp), 0 ≤ r → r < m → PenAt H' p (n + 1) → (∀ b, b ≠ p → H' b = H b) → Q (.int r) H'
section
variable {P : Program} {w : World} {K : PySem.W.Frag} {mg : Str → Option Value} {base : Heap}
theorem scP : FnScope ["_law_script", "_law_fold", "_law_cell"] ["_law_script"] (defScope sPen) := ⟨rfl, rfl, rfl, by decide +kernel, rfl, by decide +kernel, by decide +kernel⟩
theorem ok_pen {f : Addr} {fd : FuncData} (F : FnP K "_law_pen" sPen f fd) (gI : mg "int" = none) (gL : mg "list" = none) : FnOk P w K mg base CX0 1 f fd ["_law_script"] (spPen K) := by
  refine F.ok scP (fun vs H Q E h => ?_) (fun cdv A outer s H vs Q E hr h => ?_)
  · obtain ⟨a, zs, rfl, _⟩ := h
    rfl
  · obtain ⟨a, zs, rfl, hS, hl, k⟩ := h
    refine ⟨_, PSs.nox (pss_cons (ps_set (i := 1) scP.nd rfl (.inl rfl) pe_int)
      (pss_cons (ps_for PassesOwn.never rfl (pi_list (pv 0)) (pg_name (i := 2) scP.nd rfl (.inl rfl))
        (pss_one (ps_set (i := 1) scP.nd rfl (.inl rfl) (pe_op op_mod (pe_callTy call_int1 (by rfl) gI PyProof.Rows.boot_int (pa_cons (pe_op op_add (pe_op op_mul (pv 1) pe_int) (pv 2)) pa_nil)) pe_int))))
      (pss_one (ps_ret (pe_disp (pps_cons pe_str (pe_callTy call_list_of (by rfl) gL PyProof.Rows.boot_list (pa_cons (pv 0) pa_nil)) (pps_cons pe_str pe_int (pps_cons pe_str pe_int (pps_cons pe_str pe_int (pps_cons pe_str (pv 1) pps_nil))))) rfl rfl (by simp) (by decide)))))), ?_⟩
    -- the loop
    refine ⟨_, rfl, a, rfl, ⟨_, hS⟩, for_list (K := K) (a := a) (xs := zs.map V.int) (fun i σ H2 => ∃ (fo : Int) (v : Option V), σ = [some (.ref a), some (.int fo), v] ∧ H2 = H ∧ 0 ≤ fo ∧ fo < 1000000007)
      ⟨0, none, rfl, rfl, by decide, by decide⟩ (fun i σ H2 _ ⟨_, _, _, e, _⟩ => by rw [e]; exact hS) ?_ ?_⟩
    · rintro i y σ H2 hi ⟨fo, v, rfl, rfl, h0, h1⟩
      obtain ⟨z, rfl⟩ : ∃ z, y = V.int z := by
        rw [List.getElem?_map] at hi
        cases e : zs[i]? with
        | none =>
          rw [e] at hi
          cases hi
        | some z =>
          rw [e] at hi
          exact ⟨z, (Option.some.inj hi).symm⟩
      refine ⟨_, rfl, _, _, rfl, rfl, .inl ⟨by omega, by omega⟩, _, rfl, _, _, rfl, rfl, .inl ⟨_, rfl, ?_⟩⟩
      refine ⟨_, _, rfl, rfl, (by show (0 : Int) < 1000000007; decide), _, _, rfl, rfl, ?_, ?_⟩
      · exact Int.emod_nonneg _ (by decide)
      · exact Int.emod_lt_of_pos _ (by decide)
    · rintro σ H2 ⟨fo, v, rfl, rfl, h0, h1⟩
      intro p hp
      refine ⟨_, rfl, a, zs.map V.int, rfl, .inl ?_, fun c hc => ?_⟩
      · exact (same_new hp).seq hS
      · have np : c ≠ p := fun z => by
          rw [z, upd_same] at hc
          cases hc
        have nc : H2 c = none := by
          rw [upd_ne np] at hc
          exact hc
        refine ⟨_, rfl, ?_, [(kCells, .ref c), (kAt, .int 0), (kDig, .int 0), (kCnt, .int 0), (kFold, .int fo)], rfl, by simp, ?_⟩
        · rw [upd_ne (Ne.symm np), upd_same]
        · refine k p _ ⟨⟨c, zs, 0, 0, fo, ?_, ?_, Nat.zero_le _, hl, by decide, h0, by omega⟩⟩ ?_ hp
          · rw [upd_same]
            exact congrArg (fun z => some (HO.dK z)) pen_disp
          · rw [upd_ne np, upd_same]
          · intro b u e
            rw [upd_ne (ne_of_none e hp), upd_ne (ne_of_none e nc), upd_ne (ne_of_none e hp)]
            exact e
theorem scD : FnScope ["_law_pen_here", "_law_many", "_law_cell", "_law_digit", "_law_blend"] ["_law_pen_here", "_law_many"] (defScope sDraw) := ⟨rfl, rfl, rfl, by decide +kernel, rfl, by decide +kernel, by decide +kernel⟩
theorem ok_draw {f : Addr} {fd : FuncData} (F : FnP K "_law_draw" sDraw f fd) (gI : mg "int" = none) (gL : mg "len" = none) : FnOk P w K mg base CX0 1 f fd ["_law_pen_here", "_law_many"] spDraw := by
  refine F.ok scD (fun vs H Q E h => ?_) (fun cdv A outer s H vs Q E hr h => ?_)
  · obtain ⟨p, n, m, rfl, _⟩ := h
    rfl
  · obtain ⟨p, n, m, rfl, ⟨c, zs, i, dg, fo, hp, hc, hi, hl, hd, f0, f1⟩, m1, m2, hn, k⟩ := h
    have hu := hu_of hr
    have cp : c ≠ p := ne_of hc hp (by intro z; cases z)
    -- what stands behind the first if
    obtain ⟨tt, htt, key⟩ : ∃ t, PSs (cxOf CX0 P w K mg base ["_law_pen_here", "_law_many", "_law_cell", "_law_digit", "_law_blend"] "_law_draw" (defScope sDraw) f cdv A outer s H E).nox ((defBody sDraw).drop 2) t ∧
        ∀ (D : Ends) (v : Option V) (i' : Nat) (dg' fo' : Int) (H1 : Hp), H1 p = some (.dK (penK c i' dg' ((n : Int) + 1) fo')) → H1 c = some (.lst (zs.map V.int)) → (∀ b, b ≠ p → H1 b = H b) → i' ≤ zs.length → 0 ≤ dg' → 0 ≤ fo' → fo' < 2147483648 →
          (∀ (r : Int) (H' : Hp), 0 ≤ r → r < m → PenAt H' p (n + 1) → (∀ b, b ≠ p → H' b = H b) → D.rt (.int r) H') → t D [some (.ref p), some (.int m), v, none, none] H1 := by
      refine ⟨_, pss_cons (ps_if (pt_cmpR op_gt (pe_dget hu (pv 0) pe_str (fun _ _ => rfl)) pe_int (nomark _))
        (pss_cons (ps_set (i := 3) scD.nd rfl (.inl rfl) (pe_op op_mod (pe_callTy call_int1 (by rfl) gI PyProof.Rows.boot_int (pa_cons (pe_dget hu (pv 0) pe_str (fun _ _ => rfl)) pa_nil)) (pv 1)))
        (pss_cons (ps_dput hu (pv 0) pe_str (pe_op op_fdiv (pe_dget hu (pv 0) pe_str (fun _ _ => rfl)) (pv 1)) rfl)
        (pss_one (ps_ret (pv 3)))))
        pss_nil)
        (pss_cons (ps_set (i := 4) scD.nd rfl (.inl rfl) (pe_op op_add (pe_op op_add (pe_dget hu (pv 0) pe_str (fun _ _ => rfl)) (pe_op op_mul (pe_dget hu (pv 0) pe_str (fun _ _ => rfl)) pe_int)) pe_int))
        (pss_one (ps_ret (pe_op op_mod (pe_op op_fdiv (pe_callTy call_int1 (by rfl) gI PyProof.Rows.boot_int (pa_cons (pe_op op_mod (pe_op op_pow (pv 4) pe_int) pe_int) pa_nil)) pe_int) (pv 1))))), ?_⟩
      intro D v i' dg' fo' H1 e1 e2 e3 h1 h2 h3 h4 kD
      refine ⟨_, rfl, p, _, rfl, dget_of e1 pen_dig, _, _, rfl, rfl, _, rfl, ?_⟩
      refine ite2 (fun hd => ?_) (fun hd => ?_)
      · refine ⟨_, rfl, p, _, rfl, dget_of e1 pen_dig, .inl ⟨_, rfl, _, rfl, _, _, rfl, rfl, (by show 0 < m; omega), ?_⟩⟩
        refine ⟨_, rfl, p, _, rfl, dget_of e1 pen_dig, _, rfl, _, _, rfl, rfl, ⟨by omega, m2⟩, _, rfl, p, _, rfl, dput_of e1 put_dig, ?_⟩
        refine ⟨_, rfl, ?_⟩
        refine kD _ _ (Int.emod_nonneg _ (by omega)) (Int.emod_lt_of_pos _ (by omega)) ⟨⟨c, zs, i', dg' / m, fo', ?_, ?_, h1, hl, Int.ediv_nonneg h2 (by omega), h3, h4⟩⟩ fun b hb => ?_
        · rw [upd_same]
          rfl
        · rw [upd_ne cp]
          exact e2
        · rw [upd_ne hb]
          exact e3 b hb
      · refine ⟨_, rfl, p, _, rfl, dget_of e1 pen_fold, _, rfl, p, _, rfl, dget_of e1 pen_cnt, _, _, rfl, rfl, .inr ⟨by decide, by decide⟩, _, _, rfl, rfl, _, _, rfl, rfl, ?_⟩
        refine ⟨_, rfl, _, _, rfl, rfl, ⟨by decide, by decide, ?_⟩, _, _, rfl, rfl, (by show (0 : Int) < 2305843009213693951; decide), .inl ⟨_, rfl, _, _, rfl, rfl, ⟨by decide, by decide⟩, _, rfl, _, _, rfl, rfl, (by show 0 < m; omega), ?_⟩⟩
        · show (fo' + ((n : Int) + 1) * 7907 + 37).natAbs < 18446744073709551616
          omega
        · exact kD _ _ (Int.emod_nonneg _ (by omega)) (Int.emod_lt_of_pos _ (by omega)) ⟨⟨c, zs, i', dg', fo', e1, e2, h1, hl, h2, h3, h4⟩⟩ e3
    refine ⟨_, PSs.nox (pss_cons (ps_dput hu (pv 0) pe_str (pe_op op_add (pe_dget hu (pv 0) pe_str (fun _ _ => rfl)) pe_int) rfl)
      (pss_cons (ps_if (PW.pt (pw_and (pt_cmpR op_eq (pe_dget hu (pv 0) pe_str (fun _ _ => rfl)) pe_int (nomark _)) (pw_and1 (pt_cmpR op_lt (pe_dget hu (pv 0) pe_str (fun _ _ => rfl)) (pe_callB call_len_seq (by rfl) gL PySem.boot_len (pa_cons (pe_dget hu (pv 0) pe_str (fun _ _ => rfl)) pa_nil)) (nomark _)))))
        (pss_cons (ps_set (i := 2) scD.nd rfl (.inl rfl) (pe_ix ix_list (pe_dget hu (pv 0) pe_str (fun _ _ => rfl)) (pe_dget hu (pv 0) pe_str (fun _ _ => rfl)) (fun _ _ => rfl)))
        (pss_cons (ps_dput hu (pv 0) pe_str (pe_op op_add (pe_dget hu (pv 0) pe_str (fun _ _ => rfl)) pe_int) rfl)
        (pss_one (ps_if (pt_cmpR op_ge (pv 2) (pe_op op_pow pe_int pe_int) (nomark _))
          (pss_one (ps_dput hu (pv 0) pe_str (pe_op op_sub (pv 2) (pe_op op_pow pe_int pe_int)) rfl))
          (pss_one (ps_dput hu (pv 0) pe_str (pe_op op_mod (pe_callTy call_int1 (by rfl) gI PyProof.Rows.boot_int (pa_cons (pe_op op_add (pe_op op_mul (pe_dget hu (pv 0) pe_str (fun _ _ => rfl)) pe_int) (pv 2)) pa_nil)) pe_int) rfl))))))
        pss_nil)
      htt)), ?_⟩
    refine ⟨_, rfl, p, _, rfl, dget_of hp pen_cnt, _, _, rfl, rfl, _, rfl, p, _, rfl, dput_of hp put_cnt, ?_⟩
    have hc1 : ∀ o, upd H p o c = some (.lst (zs.map V.int)) := fun o => by
      rw [upd_ne cp]
      exact hc
    have far : ∀ (o : HO) (b : Addr), b ≠ p → upd H p o b = H b := fun o b hb => upd_ne hb
    refine ⟨_, rfl, p, _, rfl, dget_of upd_same pen_dig, rfl, _, rfl, ?_⟩
    refine ite2 (fun _ => ?_) (fun _ => ?_)
    · refine ⟨_, rfl, p, _, rfl, dget_of upd_same pen_at, _, rfl, p, _, rfl, dget_of upd_same pen_cells, c, _, rfl, .inl (SqL.of (hc1 _)), _, _, rfl, rfl, _, rfl, ?_⟩
      refine ite2 (fun hlt => ?_) (fun _ => ?_)
      · have hlt' : (i : Int) < ((zs.map V.int).length : Int) := of_decide_eq_true hlt
        rw [List.length_map] at hlt'
        have hiz : i < zs.length := by omega
        have hat : atI (zs.map V.int) (i : Int) = some (.int zs[i]) := atI_nat (by rw [List.getElem?_map, List.getElem?_eq_getElem hiz]; rfl)
        refine ⟨_, rfl, p, _, rfl, dget_of upd_same pen_cells, _, rfl, p, _, rfl, dget_of upd_same pen_at, c, _, _, _, rfl, rfl, SqL.of (hc1 _), hat, ?_⟩
        refine ⟨_, rfl, p, _, rfl, dget_of upd_same pen_at, _, _, rfl, rfl, _, rfl, p, _, rfl, dput_of upd_same put_at, ?_⟩
        rw [upd_upd]
        refine ⟨_, rfl, _, _, rfl, rfl, ⟨by decide, by decide, by decide⟩, _, _, rfl, rfl, _, rfl, ?_⟩
        refine ite2 (fun hbig => ?_) (fun _ => ?_)
        · have hbig' : (10 : Int) ^ 18 ≤ zs[i] := of_decide_eq_true hbig
          refine ⟨_, rfl, _, _, rfl, rfl, ⟨by decide, by decide, by decide⟩, _, _, rfl, rfl, _, rfl, p, _, rfl, dput_of upd_same put_dig, ?_⟩
          rw [upd_upd]
          have e10 : (10 : Int) ^ 18 = 1000000000000000000 := by decide
          refine key _ _ (i + 1) _ fo _ upd_same (hc1 _) (far _) (by omega) ?_ f0 f1 k
          show 0 ≤ zs[i] - (10 : Int) ^ 18
          omega
        · refine ⟨_, rfl, p, _, rfl, dget_of upd_same pen_fold, _, _, rfl, rfl, .inr ⟨by decide, by decide⟩, _, rfl, _, _, rfl, rfl, .inl ⟨_, rfl, _, _, rfl, rfl, (by show (0 : Int) < 2147483587; decide), _, rfl, p, _, rfl, dput_of upd_same put_fold, ?_⟩⟩
          rw [upd_upd]
          refine key _ _ (i + 1) dg _ _ upd_same (hc1 _) (far _) (by omega) hd ?_ ?_ k
          · exact Int.emod_nonneg _ (by decide)
          · exact Int.lt_trans (Int.emod_lt_of_pos _ (by decide)) (by decide)
      · exact key _ _ i dg fo _ upd_same (hc1 _) (far _) hi hd f0 f1 k
    · exact key _ _ i dg fo _ upd_same (hc1 _) (far _) hi hd f0 f1 k
end
theorem rd_but {H H' : Hp} {p l : Addr} {kvs : List (Key × V)} {u : HO} (hp : H p = some (.dK kvs)) (k : ∀ b, b ≠ p → H' b = H b) (hu : ∀ kvs, u ≠ .dK kvs) (h : Rd H l u) : Rd H' l u := by
  rcases h with h | ⟨o, h⟩
  · exact .inl ((k l (ne_of h hp (hu _))).trans h)
  · exact .inr ⟨o, (k l (ne_of h hp (by intro z; cases z))).trans h⟩
theorem sqL_but {K : PySem.W.Frag} {H H' : Hp} {p l : Addr} {kvs : List (Key × V)} {xs : List V} (hp : H p = some (.dK kvs)) (k : ∀ b, b ≠ p → H' b = H b) (h : SqL K H l xs) : SqL K H' l xs := by
  rcases h with h | h
  · exact .inl (rd_but hp k (fun _ z => by cases z) h)
  · exact .inr h
theorem sqT_but {K : PySem.W.Frag} {H H' : Hp} {p l : Addr} {kvs : List (Key × V)} {xs : List V} (hp : H p = some (.dK kvs)) (k : ∀ b, b ≠ p → H' b = H b) (h : SqT K H l xs) : SqT K H' l xs := by
  rcases h with h | h
  · exact .inl (rd_but hp k (fun _ z => by cases z) h)
  · exact .inr h
theorem PenAt.same {H H' : Hp} {p : Addr} {n : Nat} (h : PenAt H p n) (k : Same H H') : PenAt H' p n := by
  obtain ⟨c, zs, i, dg, fo, e1, e2, r⟩ := h.ex
  exact ⟨⟨c, zs, i, dg, fo, k _ _ e1, k _ _ e2, r⟩⟩
/-- _law_pick(pen, some): one of them; the pen alone changes -/
def spPick (K : PySem.W.Frag) : Sp := fun vs H Q _ => ∃ (p l : Addr) (n : Nat) (xs : List V), vs = [.ref p, .ref l] ∧ PenAt H p n ∧ n < 1000000 ∧ (SqL K H l xs ∨ SqT K H l xs) ∧ 1 ≤ xs.length ∧ xs.length < 1073741824 ∧
  ∀ (i : Nat) (x : V) (H' : Hp), xs[i]? = some x → PenAt H' p (n + 1) → (∀ b, b ≠ p → H' b = H b) → Q x H'
section
variable {P : Program} {w : World} {K : PySem.W.Frag} {mg : Str → Option Value} {base : Heap}
theorem scK : FnScope ["_law_pen_here", "_law_some"] ["_law_pen_here", "_law_some"] (defScope sPick) := ⟨rfl, rfl, rfl, by decide +kernel, rfl, by decide +kernel, by decide +kernel⟩
theorem ok_pick {f : Addr} {fd : FuncData} (F : FnP K "_law_pick" sPick f fd) (DD : Df P w K mg base CX0 1 "_law_draw" ["_law_pen_here", "_law_many"] spDraw) (gL : mg "len" = none) : FnOk P w K mg base CX0 2 f fd ["_law_pen_here", "_law_some"] (spPick K) := by
  refine F.ok scK (fun vs H Q E h => ?_) (fun cdv A outer s H vs Q E hr h => ?_)
  · obtain ⟨p, l, n, xs, rfl, _⟩ := h
    rfl
  · obtain ⟨p, l, n, xs, rfl, hp, hn, hS, h1, h2, k⟩ := h
    obtain ⟨c, zs, i0, dg, fo, ep, _⟩ := hp.ex
    refine ⟨_, PSs.nox (pss_one (ps_ret (pe_ix (IxR.or ix_list ix_tup) (pv 1) (pe_df DD hr (by rfl) pass0 (pa_cons (pv 0) (pa_cons (pe_callB call_len_seq (by rfl) gL PySem.boot_len (pa_cons (pv 1) pa_nil)) pa_nil))) (fun _ _ => rfl)))), ?_⟩
    refine ⟨_, rfl, _, rfl, _, rfl, l, xs, rfl, hS, p, n, (xs.length : Int), rfl, hp, by omega, by omega, hn, fun r H' r0 r1 hp' hb => ?_⟩
    obtain ⟨j, rfl⟩ := Int.eq_ofNat_of_zero_le r0
    have hj : j < xs.length := by omega
    have hat : atI xs (j : Int) = some xs[j] := atI_nat (List.getElem?_eq_getElem hj)
    rcases hS with hS | hS
    · exact .inl ⟨l, xs, _, _, rfl, rfl, sqL_but ep hb hS, hat, k j _ H' (List.getElem?_eq_getElem hj) hp' hb⟩
    · exact .inr ⟨l, xs, _, _, rfl, rfl, sqT_but ep hb hS, hat, k j _ H' (List.getElem?_eq_getElem hj) hp' hb⟩
end
end Sq

set_option Elab.async false
set_option linter.all false
set_option maxRecDepth 100000
set_option maxHeartbeats 4000000
/-! The law's small defs: cells, beside, around, squares. -/
namespace Sq
open PySem PySem.Spec PyProof.Rows L2
def spLBeside : Sp := fun vs H Q _ => ∃ (p : Addr) (c : Cell), vs = [.ref p] ∧ At H p c ∧ ∀ l H', Same H H' → H l = none → CellsL H' l (besideC c) → Q (.ref l) H'
def spSquares : Sp := fun vs H Q _ => ∃ (t : Addr) (cs : List Cell), vs = [.ref t] ∧ CellsT H t cs ∧ cs.Nodup ∧ cs.length ≤ 1000 ∧ ∀ d H', Same H H' → H d = none → H' d = some (.dT (lotK cs)) → Q (.ref d) H'
/-- the eight around -/
def aroundC (c : Cell) : List Cell := [(c.1 - 1, c.2 - 1), (c.1 - 1, c.2), (c.1 - 1, c.2 + 1), (c.1, c.2 - 1), (c.1, c.2 + 1), (c.1 + 1, c.2 - 1), (c.1 + 1, c.2), (c.1 + 1, c.2 + 1)]
def spAround : Sp := fun vs H Q _ => ∃ (p : Addr) (c : Cell), vs = [.ref p] ∧ At H p c ∧ ∀ l H', Same H H' → H l = none → CellsL H' l (aroundC c) → Q (.ref l) H'
section
variable {P : Program} {w : World} {K : PySem.W.Frag} {mg : Str → Option Value} {base : Heap}
theorem scLB : FnScope ["_law_cell"] ["_law_cell"] (defScope lBeside) := ⟨rfl, rfl, rfl, by decide +kernel, rfl, by decide +kernel, by decide +kernel⟩
theorem ok_lBeside {f : Addr} {fd : FuncData} (F : FnP K "_law_t2_beside" lBeside f fd) : FnOk P w K mg base CX0 1 f fd ["_law_cell"] spLBeside := by
  refine F.ok scLB (fun vs H Q E h => ?_) (fun cdv A outer s H vs Q E hr h => ?_)
  · obtain ⟨p, c, rfl, _⟩ := h
    rfl
  · obtain ⟨p, c, rfl, e, k⟩ := h
    refine ⟨_, PSs.nox (pss_one (ps_ret (pe_lst (pa_cons (pe_tup (pa_cons (pe_op op_sub (pe_ix ix_tup (pv 0) pe_int (fun _ _ => rfl)) pe_int) (pa_cons (pe_ix ix_tup (pv 0) pe_int (fun _ _ => rfl)) pa_nil))) (pa_cons (pe_tup (pa_cons (pe_ix ix_tup (pv 0) pe_int (fun _ _ => rfl)) (pa_cons (pe_op op_sub (pe_ix ix_tup (pv 0) pe_int (fun _ _ => rfl)) pe_int) pa_nil))) (pa_cons (pe_tup (pa_cons (pe_op op_add (pe_ix ix_tup (pv 0) pe_int (fun _ _ => rfl)) pe_int) (pa_cons (pe_ix ix_tup (pv 0) pe_int (fun _ _ => rfl)) pa_nil))) (pa_cons (pe_tup (pa_cons (pe_ix ix_tup (pv 0) pe_int (fun _ _ => rfl)) (pa_cons (pe_op op_add (pe_ix ix_tup (pv 0) pe_int (fun _ _ => rfl)) pe_int) pa_nil))) pa_nil))))))), ?_⟩
    refine ⟨_, rfl, _, _, _, _, rfl, rfl, SqT.of e, at0, _, _, rfl, rfl, _, rfl, _, _, _, _, rfl, rfl, SqT.of e, at1, two_le, fun t1 h1 => ?_⟩
    have s1 := same_new (o := .tup [.int (c.1 - 1), .int c.2]) h1
    refine ⟨_, rfl, _, _, _, _, rfl, rfl, SqT.of (s1 _ _ e), at0, _, rfl, _, _, _, _, rfl, rfl, SqT.of (s1 _ _ e), at1, _, _, rfl, rfl, two_le, fun t2 h2 => ?_⟩
    have s2 := same_new (o := .tup [.int c.1, .int (c.2 - 1)]) h2
    have e2 := s2 _ _ (s1 _ _ e)
    refine ⟨_, rfl, _, _, _, _, rfl, rfl, SqT.of e2, at0, _, _, rfl, rfl, _, rfl, _, _, _, _, rfl, rfl, SqT.of e2, at1, two_le, fun t3 h3 => ?_⟩
    have s3 := same_new (o := .tup [.int (c.1 + 1), .int c.2]) h3
    have e3 := s3 _ _ e2
    refine ⟨_, rfl, _, _, _, _, rfl, rfl, SqT.of e3, at0, _, rfl, _, _, _, _, rfl, rfl, SqT.of e3, at1, _, _, rfl, rfl, two_le, fun t4 h4 => ?_⟩
    have s4 := same_new (o := .tup [.int c.1, .int (c.2 + 1)]) h4
    refine ⟨four_le, fun t5 h5 => ?_⟩
    have s5 := same_new (o := .lst [.ref t1, .ref t2, .ref t3, .ref t4]) h5
    refine k t5 _ (((s1.trans s2).trans s3).trans s4 |>.trans s5) (s1.free (s2.free (s3.free (s4.free h5)))) ⟨[t1, t2, t3, t4], upd_same, ?_⟩
    refine .cons ?_ (.cons ?_ (.cons ?_ (.cons ?_ .nil)))
    · exact s5 _ _ (s4 _ _ (s3 _ _ (s2 _ _ upd_same)))
    · exact s5 _ _ (s4 _ _ (s3 _ _ upd_same))
    · exact s5 _ _ (s4 _ _ upd_same)
    · exact s5 _ _ upd_same
theorem scLS : FnScope ["_law_body", "_law_found", "_law_cell"] ["_law_body"] (defScope lSquares) := ⟨rfl, rfl, rfl, by decide +kernel, rfl, by decide +kernel, by decide +kernel⟩
theorem ok_lSquares {f : Addr} {fd : FuncData} (F : FnP K "_law_t2_squares" lSquares f fd) : FnOk P w K mg base CX0 1 f fd ["_law_body"] spSquares := by
  refine F.ok scLS (fun vs H Q E h => ?_) (fun cdv A outer s H vs Q E hr h => ?_)
  · obtain ⟨t, cs, rfl, _⟩ := h
    rfl
  · obtain ⟨t, cs, rfl, ⟨qs, et, pr⟩, nd, big, k⟩ := h
    have hu := hu_of hr
    refine ⟨_, PSs.nox (pss_cons (ps_set (i := 1) scLS.nd rfl (.inl rfl) pe_dnewT)
      (pss_cons (ps_for PassesOwn.never rfl (pi_tup (pv 0)) (pg_name (i := 2) scLS.nd rfl (.inl rfl))
      (pss_one (ps_dput hu (pv 1) (pv 2) pe_bl rfl)))
      (pss_one (ps_ret (pv 1))))), ?_⟩
    intro d hd
    have s0 := same_new (o := .dT []) hd
    refine ⟨_, rfl, t, rfl, ⟨_, SqT.of (s0 _ _ et)⟩, ?_⟩
    refine for_tup (K := K) (a := t) (xs := qs.map V.ref) (fun i σ G => ∃ v, σ = [some (.ref t), some (.ref d), v] ∧ Same H G ∧ G d = some (.dT (lotK (cs.take i)))) ⟨_, rfl, s0, upd_same⟩ (fun i σ G _ ⟨_, _, sm, _⟩ => SqT.of (sm _ _ et)) ?_ ?_
    · rintro i x σ G hi ⟨v, rfl, sm, gd⟩
      rw [List.getElem?_map] at hi
      obtain ⟨q, hq, rfl⟩ := Option.map_eq_some_iff.mp hi
      obtain ⟨c, hc, ac⟩ := paired_get pr hq
      refine ⟨_, rfl, _, rfl, d, _, rfl, dput_lot gd (ac.same sm) (nodup_take nd hc) (by rw [List.length_take, sizeLine_eq]; omega), ?_⟩
      exact ⟨_, rfl, same_put sm hd, by rw [upd_same, take_snoc hc]⟩
    · rintro σ G ⟨v, rfl, sm, gd⟩
      have el : (qs.map V.ref).length = cs.length := by rw [List.length_map]; exact Paired.length pr
      rw [el, List.take_length] at gd
      exact ⟨_, rfl, k d G sm hd gd⟩
end
end Sq

set_option Elab.async false
set_option linter.all false
set_option maxRecDepth 100000
set_option maxHeartbeats 4000000
/-! The law's around, free's rest, done. -/
namespace Sq
open PySem PySem.Spec PyProof.Rows L2
def offs : List Int := [-1, 0, 1]
def rowU (a : Int) (us : List Int) : List Int := us.filter fun u => !decide ((a, u) = ((0, 0) : Cell))
def rowC (c : Cell) (a : Int) (us : List Int) : List Cell := (rowU a us).map fun u => (c.1 + a, c.2 + u)
theorem around_eq (c : Cell) : aroundC c = offs.flatMap fun a => rowC c a offs := by
  have e0 : rowU (-1) offs = [-1, 0, 1] := by decide
  have e1 : rowU 0 offs = [-1, 1] := by decide
  have e2 : rowU 1 offs = [-1, 0, 1] := by decide
  unfold aroundC
  simp only [offs, List.flatMap_cons, List.flatMap_nil, rowC]
  rw [show ([-1, 0, 1] : List Int) = offs from rfl, e0, e1, e2]
  simp only [List.map_cons, List.map_nil, List.cons_append, List.nil_append, List.append_nil, Int.add_zero, ← Int.sub_eq_add_neg]
theorem three_le : (3 : Nat) ≤ sizeLine := by rw [sizeLine_eq]; decide
section
variable {P : Program} {w : World} {K : PySem.W.Frag} {mg : Str → Option Value} {base : Heap}
theorem scLA : FnScope ["_law_cell", "_law_found", "_law_across", "_law_up"] ["_law_cell"] (defScope lAround) := ⟨rfl, rfl, rfl, by decide +kernel, rfl, by decide +kernel, by decide +kernel⟩
theorem ok_lAround {f : Addr} {fd : FuncData} (F : FnP K "_law_t2_around" lAround f fd) : FnOk P w K mg base CX0 1 f fd ["_law_cell"] spAround := by
  refine F.ok scLA (fun vs H Q E h => ?_) (fun cdv A outer s H vs Q E hr h => ?_)
  · obtain ⟨p, c, rfl, _⟩ := h
    rfl
  · obtain ⟨p, c, rfl, ap, k⟩ := h
    have h64 := room64 hr
    refine ⟨_, PSs.nox (pss_cons (ps_set (i := 1) scLA.nd rfl (.inl rfl) (pe_lst pa_nil))
      (pss_cons (ps_for PassesOwn.never rfl (pi_list (pe_lst (pa_cons (pe_un un_neg pe_int) (pa_cons pe_int (pa_cons pe_int pa_nil))))) (pg_name (i := 2) scLA.nd rfl (.inr rfl))
      (pss_one (ps_set (i := 1) scLA.nd rfl (.inl rfl) (pe_op op_cat (pv 1) (pe_lc (own := [("_law_up", 3)]) (g := gName 3) rfl scLA.nd (pi_list (pe_lst (pa_cons (pe_un un_neg pe_int) (pa_cons pe_int (pa_cons pe_int pa_nil))))) (blkOk_by (N := ["_law_cell", "_law_found", "_law_across", "_law_up"]) (sc := defScope lAround) (by decide +kernel)) (fun _ _ _ _ _ => pg_name (i := 3) scLA.nd rfl (Or.inl rfl)) (fun _ _ _ _ _ => (pts_one (pt_cmpR (op_neK (K := K) rfl h64) (pe_tup (pa_cons (pv 2) (pa_cons (pv 3) pa_nil))) (pe_tup (pa_cons pe_int (pa_cons pe_int pa_nil))) (nomark _)))) (fun _ _ _ _ _ => (pe_tup (pa_cons (pe_op op_add (pe_ix (ix_tupK (K := K) rfl) (pv 0) pe_int (fun _ _ => rfl)) (pv 2)) (pa_cons (pe_op op_add (pe_ix (ix_tupK (K := K) rfl) (pv 0) pe_int (fun _ _ => rfl)) (pv 3)) pa_nil)))))))))
      (pss_one (ps_ret (pv 1))))), ?_⟩
    refine ⟨Nat.zero_le _, fun l0 hl0 => ?_⟩
    have s0 := same_new (o := .lst []) hl0
    refine ⟨_, rfl, three_le, fun l1 hl1 => ?_⟩
    have s1 := same_new (o := .lst [.int (-1), .int 0, .int 1]) hl1
    have n01 : l0 ≠ l1 := fun z => by rw [← z, upd_same] at hl1; cases hl1
    have hl1' : H l1 = none := s0.free hl1
    refine ⟨l1, rfl, ⟨_, SqL.of upd_same⟩, ?_⟩
    refine for_list (K := K) (a := l1) (xs := offs.map V.int) (fun i σ G => ∃ (fl : Addr) (qs : List Addr) (v v3 : Option V), σ = [some (.ref p), some (.ref fl), v, v3] ∧ Same H G ∧ G l1 = some (.lst (offs.map V.int)) ∧ H fl = none ∧ G fl = some (.lst (qs.map V.ref)) ∧ qs.length ≤ 3 * i ∧ Paired (fun q c => At G q c) qs ((offs.take i).flatMap fun a => rowC c a offs)) ⟨l0, [], none, none, rfl, s0.trans s1, upd_same, hl0, by rw [upd_ne n01]; exact upd_same, Nat.zero_le _, .nil⟩ (fun i σ G _ ⟨_, _, _, _, _, _, e, _⟩ => SqL.of e) ?_ ?_
    · rintro i x σ G hi ⟨fl, qs, v, v3, rfl, sm, gl, hfl, gf, ln, pr⟩
      rw [List.getElem?_map] at hi
      obtain ⟨a, ha, rfl⟩ := Option.map_eq_some_iff.mp hi
      have i3 : i < 3 := (List.getElem?_eq_some_iff.mp ha).1
      refine ⟨_, rfl, _, rfl, three_le, fun l2 hl2 => ⟨l2, rfl, ⟨_, SqL.of upd_same⟩, fun D hD => ?_⟩⟩
      have s2 := same_new (o := .lst [.int (-1), .int 0, .int 1]) hl2
      have e2 : upd G l2 (.lst [.int (-1), .int 0, .int 1]) l2 = some (.lst (offs.map V.int)) := upd_same
      generalize upd G l2 (.lst [.int (-1), .int 0, .int 1]) = G2 at s2 e2 hD ⊢
      refine lc_cells (walk_list (K := K) (a := l2) (xs := offs.map V.int)) hD (fun j => rowC c a (offs.take j)) rfl (by decide) (fun j G3 _ s3 => SqL.of (s3 _ _ e2)) ?_ ?_
      · rintro j x G3 G' K1 K0 hj s3 ⟨rfl, hx⟩ k1 k0
        rw [List.getElem?_map] at hx
        obtain ⟨u, hu, rfl⟩ := Option.map_eq_some_iff.mp hx
        refine ⟨rfl, _, rfl, _, rfl, two_le, fun p1 h1 => ⟨two_le, fun p2 h2 => ?_⟩⟩
        have t1 := same_new (o := .tup [.int a, .int u]) h1
        have t2 := same_new (o := .tup [.int 0, .int 0]) h2
        have d1 : At (upd (upd G' p1 (.tup [.int a, .int u])) p2 (.tup [.int 0, .int 0])) p1 (a, u) := t2 _ _ upd_same
        have d2 : At (upd (upd G' p1 (.tup [.int a, .int u])) p2 (.tup [.int 0, .int 0])) p2 (0, 0) := upd_same
        refine ⟨cD (a, u), cD (0, 0), d1.dp, d2.dp, cD_shaped _, cD_shaped _, _, rfl, ?_⟩
        rw [cD_eqv]
        have app : (s3.trans (t1.trans t2)) _ _ (s2 _ _ (sm _ _ ap)) = (s3.trans (t1.trans t2)) _ _ (s2 _ _ (sm _ _ ap)) := rfl
        have at4 : At (upd (upd G' p1 (.tup [.int a, .int u])) p2 (.tup [.int 0, .int 0])) p c := (t1.trans t2) _ _ (s3 _ _ (s2 _ _ (sm _ _ ap)))
        have st : rowC c a (offs.take (j + 1)) = rowC c a (offs.take j) ++ (if (!decide ((a, u) = ((0, 0) : Cell))) = true then [u] else []).map fun u => (c.1 + a, c.2 + u) := by
          unfold rowC rowU
          rw [take_snoc hu, filter_snoc, List.map_append]
        refine ite2 (fun hc => ?_) (fun hc => ?_)
        · rw [if_pos hc] at st
          refine ⟨_, rfl, _, _, _, _, rfl, rfl, SqT.of at4, at0, _, rfl, _, _, rfl, rfl, _, rfl, _, _, _, _, rfl, rfl, SqT.of at4, at1, _, rfl, _, _, rfl, rfl, two_le, fun r hr' => ?_⟩
          have t3 := same_new (o := .tup [.int (c.1 + a), .int (c.2 + u)]) hr'
          exact k1 r (c.1 + a, c.2 + u) _ ((t1.trans t2).trans t3) upd_same st
        · rw [if_neg hc, List.map_nil, List.append_nil] at st
          exact k0 _ (t1.trans t2) st
      · rintro G3 rs s3 g3 p3
        have s23 := s2.trans s3
        have lr : rs.length ≤ 3 := by
          have e := Paired.length p3
          rw [e]
          unfold rowC rowU
          rw [List.length_map]
          refine Nat.le_trans (List.length_filter_le _ _) ?_
          rw [List.length_take]
          exact Nat.min_le_left _ _
        refine ⟨fl, D, _, _, rfl, rfl, s23 _ _ gf, g3, by rw [List.length_map, List.length_map, sizeLine_eq]; omega, fun np hnp => ?_⟩
        have t4 := same_new (o := .lst (qs.map V.ref ++ rs.map V.ref)) hnp
        refine ⟨np, qs ++ rs, _, _, rfl, (sm.trans s23).trans t4, t4 _ _ (s23 _ _ gl), (sm.trans s23).free hnp, by rw [upd_same, List.map_append], by rw [List.length_append]; omega, ?_⟩
        rw [take_snoc ha, List.flatMap_append]
        have e3 : rowC c a (offs.take (offs.map V.int).length) = rowC c a offs := rfl
        rw [e3] at p3
        have e4 : [a].flatMap (fun a => rowC c a offs) = rowC c a offs := by simp
        rw [e4]
        exact paired_app (paired_imp (fun _ _ h => t4 _ _ (s23 _ _ h)) pr) (paired_imp (fun _ _ h => t4 _ _ h) p3)
    · rintro σ G ⟨fl, qs, v, v3, rfl, sm, gl, hfl, gf, ln, pr⟩
      refine ⟨_, rfl, k fl G sm hfl ⟨qs, gf, ?_⟩⟩
      rw [around_eq]
      exact pr
end
end Sq

set_option Elab.async false
set_option linter.all false
set_option maxRecDepth 100000
set_option maxHeartbeats 4000000
/-! The parts of a lot: what they are. -/
namespace Sq
/-- cells, each once, as a dict keeps them -/
def addC (L : List Cell) (c : Cell) : List Cell := if c ∈ L then L else L ++ [c]
def uniq (cs : List Cell) : List Cell := cs.foldl addC []
theorem addC_mem {L : List Cell} {c x : Cell} : x ∈ addC L c ↔ x ∈ L ∨ x = c := by
  unfold addC
  by_cases h : c ∈ L
  · rw [if_pos h]
    exact ⟨.inl, fun z => z.elim id fun e => e ▸ h⟩
  · rw [if_neg h, List.mem_append, List.mem_singleton]
theorem addC_nodup {L : List Cell} {c : Cell} (h : L.Nodup) : (addC L c).Nodup := by
  unfold addC
  by_cases m : c ∈ L
  · rw [if_pos m]
    exact h
  · rw [if_neg m]
    exact List.nodup_append.mpr ⟨h, by simp, fun a ha b hb => by rw [List.mem_singleton.mp hb]; exact fun z => m (z ▸ ha)⟩
theorem addC_len {L : List Cell} {c : Cell} : (addC L c).length ≤ L.length + 1 := by
  unfold addC
  by_cases m : c ∈ L
  · rw [if_pos m]
    exact Nat.le_succ _
  · rw [if_neg m, List.length_append]
    exact Nat.le_refl _
theorem uniq_snoc (cs : List Cell) (c : Cell) : uniq (cs ++ [c]) = addC (uniq cs) c := by
  unfold uniq
  rw [List.foldl_append]
  rfl
theorem foldC_mem (x : Cell) : ∀ (cs L : List Cell), x ∈ cs.foldl addC L ↔ x ∈ L ∨ x ∈ cs
  | [], L => by simp
  | c :: cs, L => by
    show x ∈ cs.foldl addC (addC L c) ↔ _
    rw [foldC_mem x cs, addC_mem, List.mem_cons, or_assoc]
theorem uniq_mem {cs : List Cell} {x : Cell} : x ∈ uniq cs ↔ x ∈ cs := by
  unfold uniq
  rw [foldC_mem]
  simp
theorem foldC_nodup : ∀ (cs L : List Cell), L.Nodup → (cs.foldl addC L).Nodup
  | [], _, h => h
  | c :: cs, L, h => foldC_nodup cs (addC L c) (addC_nodup h)
theorem uniq_nodup {cs : List Cell} : (uniq cs).Nodup := foldC_nodup cs [] (by simp)
theorem foldC_len : ∀ (cs L : List Cell), (cs.foldl addC L).length ≤ L.length + cs.length
  | [], L => Nat.le_refl _
  | c :: cs, L => by
    have h := foldC_len cs (addC L c)
    have k := addC_len (L := L) (c := c)
    show (cs.foldl addC (addC L c)).length ≤ L.length + (cs.length + 1)
    omega
theorem uniq_len {cs : List Cell} : (uniq cs).length ≤ cs.length := by
  have h := foldC_len cs []
  unfold uniq
  simpa using h
/-- the parts of cells, in their order -/
structure IsParts (cs : List Cell) (ps : List (List Cell)) : Prop where
  asc : ∀ p ∈ ps, Asc p ∧ p.Nodup ∧ p ≠ []
  cls : ∀ p ∈ ps, ∀ x ∈ p, x ∈ cs ∧ ∀ y, y ∈ p ↔ Reach cs x y
  cov : ∀ x ∈ cs, ∃ p ∈ ps, x ∈ p
  ord : ps.Pairwise fun p q => ∃ a b, p.head? = some a ∧ q.head? = some b ∧ cLt a b = true
theorem parts_one {cs : List Cell} {ps : List (List Cell)} (h : IsParts cs ps) : ps.length = 1 ↔ Hangs cs := by
  constructor
  · intro l
    obtain ⟨p, rfl⟩ : ∃ p, ps = [p] := by
      match ps, l with
      | [p], _ => exact ⟨p, rfl⟩
    obtain ⟨_, _, ne⟩ := h.asc p (by simp)
    refine ⟨fun e => ?_, fun a ha b hb => ?_⟩
    · obtain ⟨x, hx⟩ := List.exists_mem_of_ne_nil _ ne
      have := (h.cls p (by simp) x hx).1
      rw [e] at this
      cases this
    · obtain ⟨q, hq, aq⟩ := h.cov a ha
      obtain ⟨r, hr, br⟩ := h.cov b hb
      rw [List.mem_singleton.mp hq] at aq
      rw [List.mem_singleton.mp hr] at br
      exact ((h.cls p (by simp) a aq).2 b).mp br
  · rintro ⟨ne, all⟩
    obtain ⟨x, hx⟩ := List.exists_mem_of_ne_nil _ ne
    obtain ⟨p, hp, xp⟩ := h.cov x hx
    match ps, hp, h with
    | [q], _, _ => rfl
    | q :: r :: ps, hp, h =>
      obtain ⟨a, b, ea, eb, lt⟩ := (List.pairwise_cons.mp h.ord).1 r (by simp)
      have ma : a ∈ q := List.mem_of_mem_head? ea
      have mb : b ∈ r := List.mem_of_mem_head? eb
      have ca := (h.cls q (by simp) a ma)
      have cb := (h.cls r (by simp) b mb)
      have bq : b ∈ q := (ca.2 b).mpr (all a ca.1 b cb.1)
      have ar : a ∈ r := (cb.2 a).mpr (all b cb.1 a ca.1)
      -- a heads q, so it is the least of q; b heads r, so the least of r
      have hb : cLt a b = false := by
        obtain ⟨asc, _, _⟩ := h.asc r (by simp)
        match r, eb, asc, ar with
        | c :: r', eb, asc, ar =>
          obtain rfl : c = b := Option.some.inj eb
          rcases List.mem_cons.mp ar with e | m
          · rw [e]
            exact cLt_irr c
          · exact (List.pairwise_cons.mp asc).1 a m
      rw [hb] at lt
      cases lt
end Sq

set_option Elab.async false
set_option linter.all false
set_option maxRecDepth 100000
set_option maxHeartbeats 4000000
/-! The law's parts. -/
namespace Sq
open PySem PySem.Spec PyProof.Rows L2
theorem lot_drop (c : Cell) : ∀ L : List Cell, dropK (lotK L) (cK c) = lotK (without L c)
  | [] => rfl
  | d :: L => by
    have ih := lot_drop c L
    show dropK ((cK d, V.bl true) :: lotK L) (cK c) = _
    unfold dropK at ih ⊢
    unfold without at ih ⊢
    rw [List.filter_cons, List.filter_cons, ih]
    by_cases h : d = c
    · subst h
      simp
    · have e : cK d ≠ cK c := fun z => h (cK_inj z)
      simp only [ne_eq, h, e, not_false_eq_true, decide_true, if_true]
      rfl
theorem lot_put' (c : Cell) (L : List Cell) : putK (lotK L) (cK c) (.bl true) = lotK (addC L c) := by
  unfold addC
  by_cases m : c ∈ L
  · rw [if_pos m]
    unfold putK
    have an : ((lotK L).any fun kv => decide (kv.1 = cK c)) = true := List.any_eq_true.mpr ⟨(cK c, .bl true), List.mem_map.mpr ⟨c, m, rfl⟩, decide_eq_true rfl⟩
    rw [if_pos an]
    have al : ∀ kv ∈ lotK L, (if kv.1 = cK c then (kv.1, V.bl true) else kv) = kv := fun kv hk => by
      obtain ⟨d, _, rfl⟩ := List.mem_map.mp hk
      by_cases e : cK d = cK c
      · exact if_pos e
      · exact if_neg e
    rw [List.map_congr_left al]
    exact List.map_id' _
  · rw [if_neg m]
    exact lot_put m
theorem dput_lot' {H : Hp} {d q : Addr} {L : List Cell} {c : Cell} (hd : H d = some (.dT (lotK L))) (hq : At H q c) (hl : L.length < sizeLine) : DPut H d (.ref q) (.bl true) (upd H d (.dT (lotK (addC L c)))) := lot_put' c L ▸ DPut.t hd hq (by rw [lot_len]; exact hl)
theorem for_range_fin {lo : Int} {n : Nat} {g : TG} {tb : TS} {D : Ends} {σ : L2.St} {H : Hp} (Pv : Nat → L2.St → Hp → Prop) (Fin : L2.St → Hp → Prop) (fin : ∀ σ H, Fin σ H → D.nx σ H) (h0 : Pv 0 σ H)
    (hs : ∀ (i : Nat) (σ : L2.St) (H : Hp) (Bk : L2.St → Hp → Prop), i < n → Pv i σ H → (∀ σ H, Fin σ H → Bk σ H) → g (.int (lo + i)) σ H fun σ2 H2 => tb { D with nx := Pv (i + 1), ct := Pv (i + 1), bk := Bk } σ2 H2) (hd : ∀ σ H, Pv n σ H → Fin σ H) :
    ∃ W : Nat → Nat → L2.St → Hp → Prop, (∃ m, W 0 m σ H) ∧ ∀ i m σ H, W i m σ H →
      ((Itr lo n).stop i H ∧ D.nx σ H) ∨ ((Itr lo n).go i H ∧ ∃ N : L2.St → Hp → Prop, (∀ σ' H', N σ' H' → ∃ m', m' < m ∧ W (i + 1) m' σ' H') ∧ ∀ x H', (Itr lo n).yld i H x H' → g x σ H' fun σ2 H2 => tb { D with nx := N, ct := N, bk := D.nx } σ2 H2) :=
  for_range Pv h0 (fun i σ H hi p => hs i σ H D.nx hi p fin) fun σ H p => fin σ H (hd σ H p)
/-- l holds a list of tuples of these cells -/
def CellsLL (H : Hp) (l : Addr) (ps : List (List Cell)) : Prop := ∃ ts : List Addr, H l = some (.lst (ts.map V.ref)) ∧ Paired (fun t p => CellsT H t p) ts ps
def spParts : Sp := fun vs H Q _ => ∃ (a : Addr) (cs : List Cell), vs = [.ref a] ∧ (CellsL H a cs ∨ CellsT H a cs) ∧ cs.length ≤ 1000 ∧ ∀ l H' ps, Same H H' → CellsLL H' l ps → ps.length ≤ cs.length → IsParts cs ps → Q (.ref l) H'
/-- the state between two cells -/
structure Pt (H : Hp) (cs S : List Cell) (dl fo so : Addr) (i : Nat) (R : List Cell) (ps : List (List Cell)) (G : Hp) : Prop where
  same : Same H G
  gl : G dl = some (.dT (lotK R))
  gf : CellsLL G fo ps
  gs : CellsL G so S
  nd : R.Nodup
  mem : ∀ x, x ∈ R ↔ x ∈ cs ∧ ∀ p ∈ ps, x ∉ p
  asc : ∀ p ∈ ps, Asc p ∧ p.Nodup ∧ p ≠ []
  cls : ∀ p ∈ ps, ∀ x ∈ p, x ∈ cs ∧ ∀ y, y ∈ p ↔ Reach cs x y
  cov : ∀ x ∈ S.take i, ∃ p ∈ ps, x ∈ p
  hed : ∀ p ∈ ps, ∃ a, p.head? = some a ∧ a ∈ S.take i
  ord : ps.Pairwise fun p q => ∃ a b, p.head? = some a ∧ q.head? = some b ∧ cLt a b = true
  few : ps.length ≤ i
section
variable {P : Program} {w : World} {K : PySem.W.Frag} {mg : Str → Option Value} {base : Heap}
theorem scPa : FnScope ["_law_cells", "_law_left", "_law_found", "_law_cell", "_law_part", "_law_lap", "_law_one"] ["_law_cells"] (defScope lParts) := ⟨rfl, rfl, rfl, by decide +kernel, rfl, by decide +kernel, by decide +kernel⟩
theorem PI.or {X : Cx} {tg e : Expr} {w1 w2 : TI} (h1 : PI X tg e w1) (h2 : PI X tg e w2) : PI X tg e (fun σ H R => w1 σ H R ∨ w2 σ H R) := ⟨fun pins s σ H R I h => h.elim (h1.run pins s σ H R I) (h2.run pins s σ H R I)⟩
/-- what is short of the cells' strict order -/
theorem asc_lt {S : List Cell} (asc : Asc S) (nd : S.Nodup) {i j : Nat} {a b : Cell} (ha : S[i]? = some a) (hb : S[j]? = some b) (hij : i < j) : cLt a b = true := by
  have h := List.pairwise_iff_getElem.mp asc
  obtain ⟨la, ea⟩ := List.getElem?_eq_some_iff.mp ha
  obtain ⟨lb, eb⟩ := List.getElem?_eq_some_iff.mp hb
  have q := h i j la lb hij
  rw [ea, eb] at q
  cases e : cLt a b with
  | true => rfl
  | false =>
    have := cLt_tri e q
    subst this
    have z := (List.getElem?_inj la nd).mp (ha.trans hb.symm)
    omega
/-- the state within a part's flood -/
structure Pf (H : Hp) (cs S : List Cell) (dl fo so pl : Addr) (c : Cell) (ps : List (List Cell)) (j : Nat) (R Pl : List Cell) (G : Hp) : Prop where
  same : Same H G
  gl : G dl = some (.dT (lotK R))
  gf : CellsLL G fo ps
  gs : CellsL G so S
  gp : CellsL G pl Pl
  nd : R.Nodup
  mem : ∀ x, x ∈ R ↔ (x ∈ cs ∧ ∀ p ∈ ps, x ∉ p) ∧ x ∉ Pl
  ndP : Pl.Nodup
  c0 : c ∈ Pl
  re : ∀ x ∈ Pl, Reach cs c x
  le : j ≤ Pl.length
  cl : ∀ k x, k < j → Pl[k]? = some x → ∀ y ∈ besideC x, y ∈ cs → y ∈ Pl
theorem ok_parts {f : Addr} {fd : FuncData} (F : FnP K "_law_t2_parts" lParts f fd) (B : Bl mg) (DB : Df P w K mg base CX0 1 "_law_t2_beside" ["_law_cell"] spLBeside) : FnOk P w K mg base CX0 2 f fd ["_law_cells"] spParts := by
  refine F.ok scPa (fun vs H Q E h => ?_) (fun cdv A outer s H vs Q E hr h => ?_)
  · obtain ⟨a, cs, rfl, _⟩ := h
    rfl
  · obtain ⟨a, cs, rfl, ca, lc, k⟩ := h
    have hu := hu_of hr
    -- the second loop and what follows
    obtain ⟨tt, htt, key⟩ : ∃ t, PSs (cxOf CX0 P w K mg base ["_law_cells", "_law_left", "_law_found", "_law_cell", "_law_part", "_law_lap", "_law_one"] "_law_t2_parts" (defScope lParts) f cdv A outer s H E).nox ((defBody lParts).drop 2) t ∧
        ∀ (D : Ends) (v : Option V) (dl fo : Addr) (G : Hp), Same H G → H dl = none → H fo = none → dl ≠ fo → G dl = some (.dT (lotK (uniq cs))) → G fo = some (.lst []) → (∀ l H' ps, Same H H' → CellsLL H' l ps → ps.length ≤ cs.length → IsParts cs ps → D.rt (.ref l) H') →
          t D [some (.ref a), some (.ref dl), some (.ref fo), v, none, none, none] G := by
      refine ⟨_, (pss_cons (ps_for PassesOwn.never rfl (pi_list (pe_callB cr_sortedC (by rfl) B.sorted (by decide +kernel) (pa_cons (pe_callTy (call_list_dT rfl) (by rfl) B.list PyProof.Rows.boot_list (pa_cons (pv 1) pa_nil)) pa_nil))) (pg_name (i := 3) scPa.nd rfl (.inl rfl))
      (pss_one (ps_if (pt_cmp (pc_din hu (pv 3) (pv 1)))
        (pss_cons (ps_set (i := 4) scPa.nd rfl (.inl rfl) (pe_lst (pa_cons (pv 3) pa_nil)))
          (pss_cons (ps_expr (pe_bm PySem.F.plainAttrs_dict PySem.F.slot_dict_pop PySem.F.type_dict_pop (mt_popC hu) (pv 1) (pa_cons (pv 3) pa_nil)))
          (pss_cons (ps_for PassesOwn.never rfl (pi_range1 (by rfl) B.range (pa_cons (pe_callB call_len_seq (by rfl) B.len PySem.boot_len (pa_cons (pv 0) pa_nil)) pa_nil)) (pg_name (i := 5) scPa.nd rfl (.inl rfl))
          (pss_cons (ps_if (pt_cmpR op_eq (pv 5) (pe_callB call_len_seq (by rfl) B.len PySem.boot_len (pa_cons (pv 4) pa_nil)) (nomark _))
            (pss_one ps_break)
            pss_nil)
            (pss_one (ps_for PassesOwn.never rfl (pi_list (pe_df DB hr (by rfl) pass0 (pa_cons (pe_ix (ix_listK (K := K) rfl) (pv 4) (pv 5) (fun _ _ => rfl)) pa_nil))) (pg_name (i := 6) scPa.nd rfl (.inl rfl))
            (pss_one (ps_if (pt_cmp (pc_din hu (pv 6) (pv 1)))
              (pss_cons (ps_expr (pe_bm PySem.F.plainAttrs_dict PySem.F.slot_dict_pop PySem.F.type_dict_pop (mt_popC hu) (pv 1) (pa_cons (pv 6) pa_nil)))
                (pss_one (ps_expr (pe_bm PySem.F.plainAttrs_list PySem.F.slot_list_append PySem.F.type_list_append mt_append (pv 4) (pa_cons (pv 6) pa_nil)))))
              pss_nil))))))
          (pss_one (ps_expr (pe_bm PySem.F.plainAttrs_list PySem.F.slot_list_append PySem.F.type_list_append mt_append (pv 2) (pa_cons (pe_tupleOf (by rfl) B.tuple (pe_callB cr_sortedC (by rfl) B.sorted (by decide +kernel) (pa_cons (pv 4) pa_nil))) pa_nil)))))))
        pss_nil)))
      (pss_one (ps_ret (pv 2)))), ?_⟩
      intro D v dl fo G sm hdl hfo nlf gl gf kD
      refine ⟨_, rfl, dl, _, rfl, .inl gl, fun p0 bs hp0 ik => ?_⟩
      have s0 := same_new (o := .lst (bs.map V.ref)) hp0
      refine ⟨p0, bs, uniq cs, rfl, SqL.of upd_same, paired_imp (fun _ _ h => s0 _ _ h) (keys_cells ik), fun so ss S prS pmS asc hso => ?_⟩
      have s1 := same_new (o := .lst (ss.map V.ref)) hso
      have sHG := (sm.trans s0).trans s1
      refine ⟨so, rfl, ⟨_, SqL.of upd_same⟩, ?_⟩
      have nS : S.Nodup := pmS.nodup_iff.mpr uniq_nodup
      have mS : ∀ x, x ∈ S ↔ x ∈ cs := fun x => by rw [pmS.mem_iff, uniq_mem]
      have lS : S.length ≤ cs.length := by rw [pmS.length_eq]; exact uniq_len
      have nso : so ≠ dl := fun z => by rw [z, s0 _ _ gl] at hso; cases hso
      have nso2 : so ≠ fo := fun z => by rw [z, s0 _ _ gf] at hso; cases hso
      have gs0 : CellsL (upd (upd G p0 (.lst (bs.map V.ref))) so (.lst (ss.map V.ref))) so S := ⟨ss, upd_same, paired_imp (fun _ _ h => s1 _ _ h) prS⟩
      refine for_list (K := K) (a := so) (xs := ss.map V.ref) (fun i σ G => ∃ (R : List Cell) (ps : List (List Cell)) (v3 v4 v5 v6 : Option V), σ = [some (.ref a), some (.ref dl), some (.ref fo), v3, v4, v5, v6] ∧ Pt H cs S dl fo so i R ps G ∧ G so = some (.lst (ss.map V.ref)))
        ⟨uniq cs, [], v, none, none, none, rfl, ⟨sHG, s1 _ _ (s0 _ _ gl), ⟨[], s1 _ _ (s0 _ _ gf), .nil⟩, gs0, uniq_nodup, fun x => by rw [uniq_mem]; simp, by simp, by simp, by simp, by simp, .nil, Nat.le_refl _⟩, upd_same⟩ (fun i σ G _ ⟨_, _, _, _, _, _, _, _, e⟩ => SqL.of e) ?_ ?_
      · rintro i x σ G hi ⟨R, ps, v3, v4, v5, v6, rfl, I, gso⟩
        rw [List.getElem?_map] at hi
        obtain ⟨q, hq, rfl⟩ := Option.map_eq_some_iff.mp hi
        obtain ⟨ss', es', pr'⟩ := I.gs
        have ess : ss' = ss := by
          rw [gso] at es'
          have z : ss.map V.ref = ss'.map V.ref := HO.lst.inj (Option.some.inj es')
          exact (List.map_inj_right (fun _ _ e => V.ref.inj e)).mp z.symm
        subst ess
        obtain ⟨c, hc, ac⟩ := paired_get pr' hq
        have cS : c ∈ S := List.mem_of_getElem? hc
        refine ⟨_, rfl, _, rfl, dl, _, rfl, dget_lot I.gl ac, _, rfl, ?_⟩
        rw [lot_is]
        refine ite2 (fun hcR => ?_) (fun hcR => ?_)
        · have cR : c ∈ R := of_decide_eq_true hcR
          have hcps : ∀ p ∈ ps, c ∉ p := ((I.mem c).mp cR).2
          have cC : c ∈ cs := (mS c).mp cS
          obtain ⟨xs, hxs, lxs⟩ : ∃ xs : List V, (∀ G, Same H G → (SqL K G a xs ∨ SqT K G a xs)) ∧ xs.length = cs.length := by
            rcases ca with ⟨qs, ea, pr⟩ | ⟨qs, ea, pr⟩
            · exact ⟨_, fun G sm => .inl (SqL.of (sm _ _ ea)), by rw [List.length_map]; exact Paired.length pr⟩
            · exact ⟨_, fun G sm => .inr (SqT.of (sm _ _ ea)), by rw [List.length_map]; exact Paired.length pr⟩
          refine ⟨_, rfl, (by show 1 ≤ sizeLine; rw [sizeLine_eq]; decide), fun pl hpl => ?_⟩
          have t1 := same_new (o := .lst [.ref q]) hpl
          have nldp : dl ≠ pl := fun z => by rw [← z, I.gl] at hpl; cases hpl
          have hplH : H pl = none := I.same.free hpl
          refine ⟨_, rfl, .inr (.inr (.inl ⟨rfl, .inr ⟨_, t1 _ _ I.gl⟩⟩)), _, rfl, dl, _, cK c, q, _, rfl, rfl, t1 _ _ I.gl, t1 _ _ ac, by rw [lot_val, if_pos cR], ?_⟩
          rw [lot_drop]
          have gl1 := t1 _ _ I.gl
          have off : ∀ (L' : List Cell) {b : Addr} {x : Cell}, At G b x → At (upd (upd G pl (.lst [.ref q])) dl (.dT (lotK L'))) b x := fun L' {b x} h => (show At (upd G pl (.lst [.ref q])) b x from t1 _ _ h).off gl1 (by intro xs z; cases z)
          obtain ⟨ts, ef, prf⟩ := I.gf
          have ndf : fo ≠ dl := Ne.symm nlf
          have gf1 : CellsLL (upd (upd G pl (.lst [.ref q])) dl (.dT (lotK (without R c)))) fo ps := by
            refine ⟨ts, by rw [upd_ne ndf]; exact t1 _ _ ef, paired_imp (fun t p h => ?_) prf⟩
            obtain ⟨us, eu, pu⟩ := h
            exact ⟨us, by rw [upd_ne (ne_of eu I.gl (by intro z; cases z))]; exact t1 _ _ eu, paired_imp (fun _ _ h => off _ h) pu⟩
          have gp1 : CellsL (upd (upd G pl (.lst [.ref q])) dl (.dT (lotK (without R c)))) pl [c] := ⟨[q], by rw [upd_ne (Ne.symm nldp)]; exact upd_same, .cons (off _ ac) .nil⟩
          have gs1 : CellsL (upd (upd G pl (.lst [.ref q])) dl (.dT (lotK (without R c)))) so S := ⟨ss', by rw [upd_ne nso]; exact t1 _ _ es', paired_imp (fun _ _ h => off _ h) pr'⟩
          have gso1 : (upd (upd G pl (.lst [.ref q])) dl (.dT (lotK (without R c)))) so = some (.lst (ss'.map V.ref)) := by rw [upd_ne nso]; exact t1 _ _ gso
          have nsp : so ≠ pl := fun z => by rw [← z, gso] at hpl; cases hpl
          have nfp : fo ≠ pl := fun z => by rw [← z, ef] at hpl; cases hpl
          have start : Pf H cs S dl fo so pl c ps 0 (without R c) [c] (upd (upd G pl (.lst [.ref q])) dl (.dT (lotK (without R c)))) := by
            refine ⟨same_put (I.same.trans t1) hdl, upd_same, gf1, gs1, gp1, I.nd.sublist List.filter_sublist, fun x => ?_, by simp, by simp, fun x hx => by rw [List.mem_singleton.mp hx]; exact .refl, Nat.zero_le _, fun k x h => absurd h (Nat.not_lt_zero k)⟩
            unfold without
            rw [List.mem_filter, I.mem x, decide_eq_true_iff, List.mem_singleton]
          generalize upd (upd G pl (.lst [.ref q])) dl (.dT (lotK (without R c))) = G1 at start gso1
          have small : ∀ {Pl : List Cell}, Pl.Nodup → (∀ x ∈ Pl, Reach cs c x) → Pl.length ≤ cs.length := fun {Pl} nd re => len_le nd fun x hx => (re x hx).mem cC
          refine ⟨_, rfl, a, xs, rfl, hxs G1 start.same, (xs.length : Int), rfl, by rw [lxs]; omega, by rw [lxs]; omega, ?_⟩
          have en : (xs.length : Int) = ((cs.length : Nat) : Int) := by rw [lxs]
          refine for_range_fin (lo := 0) (n := xs.length) (fun j σ G => ∃ (R Pl : List Cell) (v5 v6 : Option V), σ = [some (.ref a), some (.ref dl), some (.ref fo), some (.ref q), some (.ref pl), v5, v6] ∧ Pf H cs S dl fo so pl c ps j R Pl G ∧ G so = some (.lst (ss'.map V.ref)))
            (fun σ G => ∃ (R Pl : List Cell) (v5 v6 : Option V), σ = [some (.ref a), some (.ref dl), some (.ref fo), some (.ref q), some (.ref pl), v5, v6] ∧ Pf H cs S dl fo so pl c ps Pl.length R Pl G ∧ G so = some (.lst (ss'.map V.ref))) ?_ ⟨_, _, _, _, rfl, start, gso1⟩ ?_ ?_
          · rintro σ G2 ⟨R2, Pl, w5, w6, rfl, J, gso2⟩
            -- the part is told
            have closed : ∀ y, y ∈ Pl ↔ Reach cs c y := fun y => ⟨J.re y, fun r => by
              induction r with
              | refl => exact J.c0
              | step _ hb hy ih =>
                obtain ⟨k, hk⟩ := List.mem_iff_getElem?.mp ih
                exact J.cl k _ (List.getElem?_eq_some_iff.mp hk).1 hk _ hb hy⟩
            obtain ⟨ps1, ep, prp⟩ := J.gp
            obtain ⟨ts2, ef2, prf2⟩ := J.gf
            have lts : ts2.length = ps.length := Paired.length prf2
            refine ⟨_, rfl, .inl ⟨rfl, _, SqL.of ef2⟩, _, rfl, pl, ps1, Pl, rfl, SqL.of ep, prp, fun sp qs' p' prq pmp ascp hsp => .inl ⟨sp, _, rfl, SqL.of upd_same, fun tp htp => ?_⟩⟩
            have u1 := same_new (o := .lst (qs'.map V.ref)) hsp
            have u2 := same_new (o := .tup (qs'.map V.ref)) htp
            have u12 := u1.trans u2
            have few := I.few
            have iS : i < S.length := (List.getElem?_eq_some_iff.mp hc).1
            refine ⟨fo, _, _, rfl, rfl, u12 _ _ ef2, by rw [List.length_map, sizeLine_eq]; omega, ?_⟩
            have nfs : fo ≠ so := Ne.symm nso2
            have offF : ∀ {b : Addr} {x : Cell}, At G2 b x → At (upd (upd (upd G2 sp (.lst (qs'.map V.ref))) tp (.tup (qs'.map V.ref))) fo (.lst (ts2.map V.ref ++ [V.ref tp]))) b x := fun {b x} h => (show At (upd (upd G2 sp (.lst (qs'.map V.ref))) tp (.tup (qs'.map V.ref))) b x from u12 _ _ h).off (u12 _ _ ef2) (by intro xs z; cases z)
            have c' : c ∈ p' := pmp.mem_iff.mpr J.c0
            have mp : ∀ y, y ∈ p' ↔ Reach cs c y := fun y => by rw [pmp.mem_iff, closed]
            have ntp : ∀ {b : Addr} {xs : List V}, G2 b = some (.tup xs) → b ≠ tp := fun {b xs} e z => by
              rw [z] at e
              rw [u1 _ _ e] at htp
              cases htp
            have ndup : p'.Nodup := pmp.nodup_iff.mpr J.ndP
            have later : ∀ x ∈ p', x = c ∨ cLt c x = true := fun x hx => by
              have rx := (mp x).mp hx
              obtain ⟨j, hj⟩ := List.mem_iff_getElem?.mp ((mS x).mpr (rx.mem cC))
              by_cases hji : j < i
              · have xt : x ∈ S.take i := List.mem_of_getElem? (by rw [List.getElem?_take_of_lt hji]; exact hj)
                obtain ⟨p, hp, xp⟩ := I.cov x xt
                exact absurd (((I.cls p hp x xp).2 c).mpr (rx.symm cC)) (hcps p hp)
              · rcases Nat.lt_or_eq_of_le (Nat.le_of_not_lt hji) with h | h
                · exact .inr (asc_lt (by
                    exact asc) nS hc hj h)
                · subst h
                  rw [hc] at hj
                  exact .inl (Option.some.inj hj).symm
            have head : p'.head? = some c := by
              match p', c', ascp, later with
              | h :: r, c', ascp, later =>
                have hh := later h (List.mem_cons_self ..)
                rcases hh with e | e
                · rw [e]
                  rfl
                · rcases List.mem_cons.mp c' with z | z
                  · rw [z]
                    rfl
                  · have := (List.pairwise_cons.mp ascp).1 c z
                    rw [e] at this
                    cases this
            refine ⟨R2, ps ++ [p'], _, _, _, _, rfl, ⟨same_put (J.same.trans u12) hfo, ?_, ⟨ts2 ++ [tp], by rw [upd_same, List.map_append]; rfl, ?_⟩, ?_, J.nd, fun x => ?_, fun p hp => ?_, fun p hp => ?_, fun x hx => ?_, fun p hp => ?_, ?_, ?_⟩, ?_⟩
            · rw [upd_ne nlf]
              exact u12 _ _ J.gl
            · refine (paired_imp (fun t p h => ?_) prf2).snoc ⟨qs', ?_, ?_⟩
              · obtain ⟨us, eu, pu⟩ := h
                exact ⟨us, by rw [upd_ne (ne_of eu ef2 (by intro z; cases z))]; exact u12 _ _ eu, paired_imp (fun _ _ h => offF h) pu⟩
              · have nt : tp ≠ fo := fun z => by rw [z, u1 _ _ ef2] at htp; cases htp
                rw [upd_ne nt]
                exact upd_same
              · exact paired_imp (fun _ _ h => offF h) prq
            · obtain ⟨us, eu, pu⟩ := J.gs
              exact ⟨us, by rw [upd_ne nso2]; exact u12 _ _ eu, paired_imp (fun _ _ h => offF h) pu⟩
            · rw [J.mem x]
              constructor
              · rintro ⟨⟨h1, h2⟩, h3⟩
                refine ⟨h1, fun p hp => ?_⟩
                rcases List.mem_append.mp hp with m | m
                · exact h2 p m
                · rw [List.mem_singleton.mp m]
                  exact fun z => h3 (pmp.mem_iff.mp z)
              · rintro ⟨h1, h2⟩
                exact ⟨⟨h1, fun p hp => h2 p (List.mem_append_left _ hp)⟩, fun z => h2 p' (by simp) (pmp.mem_iff.mpr z)⟩
            · rcases List.mem_append.mp hp with m | m
              · exact I.asc p m
              · rw [List.mem_singleton.mp m]
                exact ⟨ascp, ndup, List.ne_nil_of_mem c'⟩
            · rcases List.mem_append.mp hp with m | m
              · exact I.cls p m
              · rw [List.mem_singleton.mp m]
                intro x hx
                have rx := (mp x).mp hx
                exact ⟨rx.mem cC, fun y => by rw [mp y]; exact ⟨fun r => (rx.symm cC).trans r, fun r => rx.trans r⟩⟩
            · rw [take_snoc hc] at hx
              rcases List.mem_append.mp hx with h | h
              · obtain ⟨p, hp, xp⟩ := I.cov x h
                exact ⟨p, List.mem_append_left _ hp, xp⟩
              · rw [List.mem_singleton.mp h]
                exact ⟨p', by simp, c'⟩
            · rcases List.mem_append.mp hp with m | m
              · obtain ⟨b, hb, mb⟩ := I.hed p m
                exact ⟨b, hb, by rw [take_snoc hc]; exact List.mem_append_left _ mb⟩
              · rw [List.mem_singleton.mp m]
                exact ⟨c, head, by rw [take_snoc hc]; simp⟩
            · refine List.pairwise_append.mpr ⟨I.ord, by simp, fun p hp p2 hp2 => ?_⟩
              rw [List.mem_singleton.mp hp2]
              obtain ⟨b, hb, mb⟩ := I.hed p hp
              obtain ⟨j, hj⟩ := List.mem_iff_getElem?.mp mb
              have hji : j < i := by
                have := (List.getElem?_eq_some_iff.mp hj).1
                rw [List.length_take] at this
                omega
              rw [List.getElem?_take_of_lt hji] at hj
              exact ⟨b, c, hb, head, asc_lt asc nS hj hc hji⟩
            · rw [List.length_append]
              exact Nat.succ_le_succ I.few
            · rw [upd_ne nso2]
              exact u12 _ _ gso2
          · rintro j σ G2 Bk hj ⟨R2, Pl, w5, w6, rfl, J, gso2⟩ hBk
            rw [Int.zero_add]
            obtain ⟨ps1, ep, prp⟩ := J.gp
            have lp1 : (ps1.map V.ref).length = Pl.length := by rw [List.length_map]; exact Paired.length prp
            refine ⟨_, rfl, _, rfl, pl, _, rfl, .inl (SqL.of ep), rfl, _, rfl, ?_⟩
            refine ite2 (fun he => ?_) (fun he => ?_)
            · have he : j = Pl.length := by
                have := V.int.inj (of_decide_eq_true he)
                rw [lp1] at this
                omega
              subst he
              exact hBk _ _ ⟨R2, Pl, _, _, rfl, J, gso2⟩
            · have hne : j ≠ Pl.length := fun z => he (decide_eq_true (by rw [lp1, z]))
              have hlt : j < Pl.length := by have := J.le; omega
              obtain ⟨b, hb⟩ : ∃ b, ps1[j]? = some b := ⟨_, List.getElem?_eq_getElem (by rw [Paired.length prp]; exact hlt)⟩
              obtain ⟨x, hx, ax⟩ := paired_get prp hb
              have xP : x ∈ Pl := List.mem_of_getElem? hx
              refine ⟨_, rfl, _, rfl, pl, _, _, _, rfl, rfl, SqL.of ep, atI_nat (by rw [List.getElem?_map, hb]; rfl), b, x, rfl, ax, fun l G3 u3 hl ⟨ns, el, pn⟩ => ?_⟩
              refine ⟨l, rfl, ⟨_, SqL.of el⟩, ?_⟩
              have nll : l ≠ dl := fun z => by rw [z, J.gl] at hl; cases hl
              have nlp : l ≠ pl := fun z => by rw [z, ep] at hl; cases hl
              have J3 : Pf H cs S dl fo so pl c ps j R2 Pl G3 := by
                obtain ⟨ts2, ef2, prf2⟩ := J.gf
                obtain ⟨us, eu, pu⟩ := J.gs
                exact ⟨J.same.trans u3, u3 _ _ J.gl, ⟨ts2, u3 _ _ ef2, paired_imp (fun _ _ h => h.same u3) prf2⟩, ⟨us, u3 _ _ eu, paired_imp (fun _ _ h => u3 _ _ h) pu⟩, ⟨ps1, u3 _ _ ep, paired_imp (fun _ _ h => u3 _ _ h) prp⟩, J.nd, J.mem, J.ndP, J.c0, J.re, J.le, J.cl⟩
              refine for_list (K := K) (a := l) (xs := ns.map V.ref) (fun t σ G => ∃ (R Pl : List Cell) (w6 : Option V), σ = [some (.ref a), some (.ref dl), some (.ref fo), some (.ref q), some (.ref pl), some (.int (j : Int)), w6] ∧ Pf H cs S dl fo so pl c ps j R Pl G ∧ G so = some (.lst (ss'.map V.ref)) ∧
                G l = some (.lst (ns.map V.ref)) ∧ Paired (fun q c => At G q c) ns (besideC x) ∧ j < Pl.length ∧ Pl[j]? = some x ∧ ∀ y ∈ (besideC x).take t, y ∈ cs → y ∈ Pl)
                ⟨R2, Pl, w6, rfl, J3, u3 _ _ gso2, el, pn, hlt, hx, fun y h => absurd h (by simp)⟩ (fun t σ G _ ⟨_, _, _, _, _, _, e, _⟩ => SqL.of e) ?_ ?_
              · rintro t z σ G4 hz ⟨R4, P4, w6, rfl, M, gso4, gl4, pn4, lt4, hx4, tk4⟩
                rw [List.getElem?_map] at hz
                obtain ⟨b4, hb4, rfl⟩ := Option.map_eq_some_iff.mp hz
                obtain ⟨y, hy, ay⟩ := paired_get pn4 hb4
                have yB : y ∈ besideC x := List.mem_of_getElem? hy
                have x4 : x ∈ P4 := List.mem_of_getElem? hx4
                refine ⟨_, rfl, _, rfl, dl, _, rfl, dget_lot M.gl ay, _, rfl, ?_⟩
                rw [lot_is]
                refine ite2 (fun hyR => ?_) (fun hyR => ?_)
                · have yR : y ∈ R4 := of_decide_eq_true hyR
                  have ym := (M.mem y).mp yR
                  refine ⟨_, rfl, .inr (.inr (.inl ⟨rfl, .inr ⟨_, M.gl⟩⟩)), _, rfl, dl, _, cK y, b4, _, rfl, rfl, M.gl, ay, by rw [lot_val, if_pos yR], ?_⟩
                  rw [lot_drop]
                  obtain ⟨ps4, ep4, prp4⟩ := M.gp
                  have ep5 : upd G4 dl (.dT (lotK (without R4 y))) pl = some (.lst (ps4.map V.ref)) := by rw [upd_ne (Ne.symm nldp)]; exact ep4
                  have sm4 := small M.ndP M.re
                  have off4 : ∀ {b : Addr} {c : Cell}, At G4 b c → At (upd (upd G4 dl (.dT (lotK (without R4 y)))) pl (.lst (ps4.map V.ref ++ [V.ref b4]))) b c := fun h => (h.off M.gl (by intro xs z; cases z)).off ep5 (by intro xs z; cases z)
                  refine ⟨_, rfl, .inl ⟨rfl, _, SqL.of ep5⟩, _, rfl, pl, _, _, rfl, rfl, ep5, by rw [List.length_map, Paired.length prp4, sizeLine_eq]; omega, ?_⟩
                  refine ⟨without R4 y, P4 ++ [y], _, rfl, ⟨same_put (same_put M.same hdl) hplH, ?_, ?_, ?_, ⟨ps4 ++ [b4], by rw [upd_same, List.map_append]; rfl, (paired_imp (fun _ _ h => off4 h) prp4).snoc (off4 ay)⟩, M.nd.sublist List.filter_sublist, fun x => ?_, ?_, List.mem_append_left _ M.c0, fun x hx => ?_, ?_, fun k x hk hx y2 hy2 y2c => ?_⟩, ?_, ?_, paired_imp (fun _ _ h => off4 h) pn4, ?_, ?_, fun z hz zc => ?_⟩
                  · rw [upd_ne nldp]
                    exact upd_same
                  · obtain ⟨ts2, ef2, prf2⟩ := M.gf
                    refine ⟨ts2, by rw [upd_ne nfp, upd_ne ndf]; exact ef2, paired_imp (fun t p h => ?_) prf2⟩
                    obtain ⟨us, eu, pu⟩ := h
                    have e1 : upd G4 dl (.dT (lotK (without R4 y))) t = some (.tup (us.map V.ref)) := by rw [upd_ne (ne_of eu M.gl (by intro z; cases z))]; exact eu
                    exact ⟨us, by rw [upd_ne (ne_of e1 ep5 (by intro z; cases z))]; exact e1, paired_imp (fun _ _ h => off4 h) pu⟩
                  · obtain ⟨us, eu, pu⟩ := M.gs
                    exact ⟨us, by rw [upd_ne nsp, upd_ne nso]; exact eu, paired_imp (fun _ _ h => off4 h) pu⟩
                  · unfold without
                    rw [List.mem_filter, M.mem x, decide_eq_true_iff, List.mem_append, List.mem_singleton, not_or, and_assoc]
                  · exact List.nodup_append.mpr ⟨M.ndP, by simp, fun a ha b hb => by rw [List.mem_singleton.mp hb]; exact fun z => ym.2 (z ▸ ha)⟩
                  · rcases List.mem_append.mp hx with h | h
                    · exact M.re x h
                    · rw [List.mem_singleton.mp h]
                      exact (M.re _ x4).step yB ym.1.1
                  · rw [List.length_append]
                    exact Nat.le_succ_of_le M.le
                  · have kl : k < P4.length := by have := M.le; omega
                    rw [List.getElem?_append_left kl] at hx
                    exact List.mem_append_left _ (M.cl k x hk hx y2 hy2 y2c)
                  · rw [upd_ne nsp, upd_ne nso]
                    exact gso4
                  · rw [upd_ne nlp, upd_ne nll]
                    exact gl4
                  · rw [List.length_append]
                    exact Nat.lt_succ_of_lt lt4
                  · rw [List.getElem?_append_left lt4]
                    exact hx4
                  · rw [take_snoc hy] at hz
                    rcases List.mem_append.mp hz with h | h
                    · exact List.mem_append_left _ (tk4 z h zc)
                    · exact List.mem_append_right _ h
                · have yR : y ∉ R4 := fun z => hyR (decide_eq_true z)
                  refine ⟨R4, P4, _, rfl, M, gso4, gl4, pn4, lt4, hx4, fun z hz zc => ?_⟩
                  rw [take_snoc hy] at hz
                  rcases List.mem_append.mp hz with h | h
                  · exact tk4 z h zc
                  · rw [List.mem_singleton.mp h] at zc ⊢
                    have nn := (not_congr (M.mem y)).mp yR
                    have out : ∀ p ∈ ps, y ∉ p := fun p hp yp => by
                      have ry : Reach cs c y := (M.re _ x4).step yB zc
                      exact hcps p hp (((I.cls p hp y yp).2 c).mpr (ry.symm cC))
                    exact Classical.byContradiction fun no => nn ⟨⟨zc, out⟩, no⟩
              · rintro σ G4 ⟨R4, P4, w6, rfl, M, gso4, gl4, pn4, lt4, hx4, tk4⟩
                refine ⟨R4, P4, _, _, rfl, ⟨M.same, M.gl, M.gf, M.gs, M.gp, M.nd, M.mem, M.ndP, M.c0, M.re, lt4, fun k z hk hz y hy yc => ?_⟩, gso4⟩
                rcases Nat.lt_succ_iff_lt_or_eq.mp hk with h | h
                · exact M.cl k z h hz y hy yc
                · subst h
                  rw [hx4] at hz
                  cases hz
                  refine tk4 y ?_ yc
                  have el4 : (ns.map V.ref).length = (besideC x).length := by rw [List.length_map]; exact Paired.length pn4
                  rw [el4, List.take_length]
                  exact hy
          · rintro σ G2 ⟨R2, Pl, w5, w6, rfl, J, gso2⟩
            have l1 := small J.ndP J.re
            have e : xs.length = Pl.length := by have := J.le; omega
            rw [e] at J
            exact ⟨R2, Pl, _, _, rfl, J, gso2⟩
        · have cR : c ∉ R := fun z => hcR (decide_eq_true z)
          refine ⟨R, ps, _, _, _, _, rfl, ⟨I.same, I.gl, I.gf, I.gs, I.nd, I.mem, I.asc, I.cls, fun x hx => ?_, fun p hp => ?_, I.ord, Nat.le_succ_of_le I.few⟩, gso⟩
          · rw [take_snoc hc] at hx
            rcases List.mem_append.mp hx with h | h
            · exact I.cov x h
            · rw [List.mem_singleton.mp h]
              have nn := (not_congr (I.mem c)).mp cR
              have : ¬ ∀ p ∈ ps, c ∉ p := fun z => nn ⟨(mS c).mp cS, z⟩
              simpa using this
          · obtain ⟨a, ha, m⟩ := I.hed p hp
            exact ⟨a, ha, by rw [take_snoc hc]; exact List.mem_append_left _ m⟩
      · rintro σ G ⟨R, ps, v3, v4, v5, v6, rfl, I, gso⟩
        have el : (ss.map V.ref).length = S.length := by rw [List.length_map]; exact Paired.length prS
        have cov := I.cov
        rw [el, List.take_length] at cov
        have few := I.few
        rw [el] at few
        exact ⟨_, rfl, kD fo G ps I.same I.gf (Nat.le_trans few lS) ⟨I.asc, I.cls, fun x hx => cov x ((mS x).mpr hx), I.ord⟩⟩
    refine ⟨_, PSs.nox (pss_cons (ps_par (i := 1) (j := 2) (by rfl) scPa.nd rfl rfl (by decide) rfl rfl (pa_cons pe_dnewT (pa_cons (pe_lst pa_nil) pa_nil)) (by rfl))
      (pss_cons (ps_for PassesOwn.never rfl (PI.or (pi_list (pv 0)) (pi_tup (pv 0))) (pg_name (i := 3) scPa.nd rfl (.inl rfl))
      (pss_one (ps_dput hu (pv 1) (pv 3) pe_bl rfl))) htt)), ?_⟩
    refine fun dl hdl => ⟨Nat.zero_le _, fun fo hfo => ⟨_, _, rfl, ?_⟩⟩
    have s0 := same_new (o := .dT []) hdl
    have s1 := same_new (o := .lst []) hfo
    have nlf : dl ≠ fo := fun z => by rw [← z, upd_same] at hfo; cases hfo
    have hfoH : H fo = none := s0.free hfo
    have g0 : upd (upd H dl (.dT [])) fo (.lst []) dl = some (.dT (lotK (uniq []))) := s1 _ _ upd_same
    have step : ∀ {qs : List Addr} {i : Nat} {q : Addr} {c : Cell} {G : Hp}, Paired (fun q c => At H q c) qs cs → qs[i]? = some q → cs[i]? = some c → Same H G → G dl = some (.dT (lotK (uniq (cs.take i)))) → G fo = some (.lst []) →
        DPut G dl (.ref q) (.bl true) (upd G dl (.dT (lotK (uniq (cs.take (i + 1)))))) ∧ Same H (upd G dl (.dT (lotK (uniq (cs.take (i + 1)))))) ∧ upd G dl (.dT (lotK (uniq (cs.take (i + 1))))) fo = some (.lst []) := fun {qs i q c G} pr hq hc sm gl gf => by
      have ac : At H q c := by
        obtain ⟨c', hc', ac⟩ := paired_get pr hq
        rw [hc] at hc'
        rw [Option.some.inj hc']
        exact ac
      have lu : (uniq (cs.take i)).length < sizeLine := by
        have := uniq_len (cs := cs.take i)
        rw [List.length_take] at this
        rw [sizeLine_eq]
        omega
      have p := dput_lot' gl (ac.same sm) lu
      rw [← uniq_snoc, ← take_snoc hc] at p
      exact ⟨p, same_put sm hdl, by rw [upd_ne (Ne.symm nlf)]; exact gf⟩
    rcases ca with ⟨qs, ea, pr⟩ | ⟨qs, ea, pr⟩
    · refine .inl ⟨_, rfl, a, rfl, ⟨_, SqL.of (s1 _ _ (s0 _ _ ea))⟩, ?_⟩
      refine for_list (K := K) (a := a) (xs := qs.map V.ref) (fun i σ G => ∃ v, σ = [some (.ref a), some (.ref dl), some (.ref fo), v, none, none, none] ∧ Same H G ∧ G dl = some (.dT (lotK (uniq (cs.take i)))) ∧ G fo = some (.lst [])) ⟨_, rfl, s0.trans s1, g0, upd_same⟩ (fun i σ G _ ⟨_, _, sm, _⟩ => SqL.of (sm _ _ ea)) ?_ ?_
      · rintro i x σ G hi ⟨v, rfl, sm, gl, gf⟩
        rw [List.getElem?_map] at hi
        obtain ⟨q, hq, rfl⟩ := Option.map_eq_some_iff.mp hi
        obtain ⟨c, hc, _⟩ := paired_get pr hq
        obtain ⟨p, sm2, gf2⟩ := step pr hq hc sm gl gf
        exact ⟨_, rfl, _, rfl, dl, _, rfl, p, _, rfl, sm2, upd_same, gf2⟩
      · rintro σ G ⟨v, rfl, sm, gl, gf⟩
        have el : (qs.map V.ref).length = cs.length := by rw [List.length_map]; exact Paired.length pr
        rw [el, List.take_length] at gl
        exact key _ v dl fo G sm hdl hfoH nlf gl gf k
    · refine .inr ⟨_, rfl, a, rfl, ⟨_, SqT.of (s1 _ _ (s0 _ _ ea))⟩, ?_⟩
      refine for_tup (K := K) (a := a) (xs := qs.map V.ref) (fun i σ G => ∃ v, σ = [some (.ref a), some (.ref dl), some (.ref fo), v, none, none, none] ∧ Same H G ∧ G dl = some (.dT (lotK (uniq (cs.take i)))) ∧ G fo = some (.lst [])) ⟨_, rfl, s0.trans s1, g0, upd_same⟩ (fun i σ G _ ⟨_, _, sm, _⟩ => SqT.of (sm _ _ ea)) ?_ ?_
      · rintro i x σ G hi ⟨v, rfl, sm, gl, gf⟩
        rw [List.getElem?_map] at hi
        obtain ⟨q, hq, rfl⟩ := Option.map_eq_some_iff.mp hi
        obtain ⟨c, hc, _⟩ := paired_get pr hq
        obtain ⟨p, sm2, gf2⟩ := step pr hq hc sm gl gf
        exact ⟨_, rfl, _, rfl, dl, _, rfl, p, _, rfl, sm2, upd_same, gf2⟩
      · rintro σ G ⟨v, rfl, sm, gl, gf⟩
        have el : (qs.map V.ref).length = cs.length := by rw [List.length_map]; exact Paired.length pr
        rw [el, List.take_length] at gl
        exact key _ v dl fo G sm hdl hfoH nlf gl gf k
end
end Sq

set_option Elab.async false
set_option linter.all false
set_option maxRecDepth 100000
set_option maxHeartbeats 4000000
/-! The law's hangs, free, supports, kind. -/
namespace Sq
open PySem PySem.Spec PyProof.Rows L2
def spLHangs : Sp := fun vs H Q _ => ∃ (a : Addr) (cs : List Cell), vs = [.ref a] ∧ (CellsL H a cs ∨ CellsT H a cs) ∧ cs.length ≤ 1000 ∧ ∀ H', Same H H' → Q (.bl (hangsB cs)) H'
def spFree : Sp := fun vs H Q _ => ∃ (t q : Addr) (L : List Cell) (c : Cell), vs = [.ref t, .ref q] ∧ CellsT H t L ∧ L.length ≤ 1000 ∧ At H q c ∧ ∀ H', Same H H' → Q (.bl (hangsB (without L c))) H'
def spSupp (K : PySem.W.Frag) : Sp := fun vs H Q _ => ∃ (d p q : Addr) (L : List Cell) (s e : Cell), vs = [.ref d, .ref p, .ref q] ∧ H d = some (.dT (lotK L)) ∧ At H p s ∧ At H q e ∧
  ∀ l H' ds, Same H H' → Dp K H' (.ref l) (.list ds) → Lay 8 (.list ds) → (ds = [] ↔ byPlace L s e = .non) → Q (.ref l) H'
def spLKind : Sp := fun vs H Q _ => ∃ (t p q : Addr) (L : List Cell) (s e : Cell), vs = [.ref t, .ref p, .ref q] ∧ CellsT H t L ∧ L.Nodup ∧ L.length ≤ 1000 ∧ At H p s ∧ At H q e ∧ ∀ H', Same H H' → Q (kindV L s e) H'
theorem lay_cell (c : Cell) : Lay 1 (cD c) := lay_tuple fun d hd => by
  rcases List.mem_cons.mp hd with e | e
  · rw [e]; exact lay_int _
  · rw [List.mem_singleton.mp e]; exact lay_int _
theorem byPlace_line {L : List Cell} {s e : Cell} (h : byPlace L s e ≠ .non) : byPlace L s e = if s.1 = e.1 ∨ s.2 = e.2 then .str "slide" else .str "turn" := by
  have a0 : ∀ i : Int, absI i = 0 ↔ i = 0 := fun i => by unfold absI; split <;> omega
  have an : ∀ i : Int, 0 ≤ absI i := fun i => by unfold absI; split <;> omega
  revert h
  unfold byPlace
  split
  · intro h; exact absurd rfl h
  · split
    · rename_i h1
      split
      · intro _
        have n1 := an (e.1 - s.1)
        have n2 := an (e.2 - s.2)
        have z : absI (e.1 - s.1) = 0 ∨ absI (e.2 - s.2) = 0 := by omega
        rw [if_pos (by
          rcases z with z | z
          · exact .inl (by have := (a0 _).mp z; omega)
          · exact .inr (by have := (a0 _).mp z; omega))]
      · intro h; exact absurd rfl h
    · split
      · rename_i h1 h2
        split
        · intro _
          rw [if_neg (fun z => by
            rcases z with z | z
            · have := (a0 (e.1 - s.1)).mpr (by omega); omega
            · have := (a0 (e.2 - s.2)).mpr (by omega); omega)]
        · intro h; exact absurd rfl h
      · intro h; exact absurd rfl h
section
variable {P : Program} {w : World} {K : PySem.W.Frag} {mg : Str → Option Value} {base : Heap}
theorem scLH : FnScope ["_law_cells"] ["_law_cells"] (defScope lHangs) := ⟨rfl, rfl, rfl, by decide +kernel, rfl, by decide +kernel, by decide +kernel⟩
theorem ok_lHangs {f : Addr} {fd : FuncData} (F : FnP K "_law_t2_hangs" lHangs f fd) (B : Bl mg) (DP : Df P w K mg base CX0 2 "_law_t2_parts" ["_law_cells"] spParts) : FnOk P w K mg base CX0 3 f fd ["_law_cells"] spLHangs := by
  refine F.ok scLH (fun vs H Q E h => ?_) (fun cdv A outer s H vs Q E hr h => ?_)
  · obtain ⟨a, cs, rfl, _⟩ := h
    rfl
  · obtain ⟨a, cs, rfl, ca, lc, k⟩ := h
    refine ⟨_, PSs.nox (pss_one (ps_ret (pe_cmpR op_eq (pe_callB call_len_seq (by rfl) B.len PySem.boot_len (pa_cons (pe_df DP hr (by rfl) pass0 (pa_cons (pv 0) pa_nil)) pa_nil)) pe_int (nomark _)))), ?_⟩
    refine ⟨_, rfl, a, cs, rfl, ca, lc, fun l H' ps s1 ⟨ts, el, pr⟩ few ip => ?_⟩
    refine ⟨l, _, rfl, .inl (SqL.of el), rfl, ?_⟩
    have e : decide (V.int ((ts.map V.ref).length : Int) = V.int 1) = hangsB cs := hangsB_of (by
      rw [decide_eq_true_iff, V.int.injEq, List.length_map, Paired.length pr, ← parts_one ip]
      omega)
    rw [e]
    exact k H' s1
theorem scLF : FnScope ["_law_body", "_law_cell", "_law_one"] ["_law_body", "_law_cell"] (defScope lFree) := ⟨rfl, rfl, rfl, by decide +kernel, rfl, by decide +kernel, by decide +kernel⟩
theorem ok_lFree {f : Addr} {fd : FuncData} (F : FnP K "_law_t2_free" lFree f fd) (DH : Df P w K mg base CX0 3 "_law_t2_hangs" ["_law_cells"] spLHangs) : FnOk P w K mg base CX0 4 f fd ["_law_body", "_law_cell"] spFree := by
  refine F.ok scLF (fun vs H Q E h => ?_) (fun cdv A outer s H vs Q E hr h => ?_)
  · obtain ⟨t, q, L, c, rfl, _⟩ := h
    rfl
  · obtain ⟨t, q, L, c, rfl, ⟨qs, et, pr⟩, lL, aq, k⟩ := h
    have h64 := room64 hr
    refine ⟨_, PSs.nox (pss_one (ps_ret (pe_df DH hr (by rfl) pass0 (pa_cons (pe_lc (own := [("_law_one", 2)]) (g := gName 2) rfl scLF.nd (pi_tup (pv 0)) (blkOk_by (N := ["_law_body", "_law_cell", "_law_one"]) (sc := defScope lFree) (by decide +kernel)) (fun _ _ _ _ _ => pg_name (i := 2) scLF.nd rfl (Or.inl rfl)) (fun _ _ _ _ _ => (pts_one (pt_cmpR (op_neK (K := K) rfl h64) (pv 2) (pv 1) (nomark _)))) (fun _ _ _ _ _ => (pv 2))) pa_nil)))), ?_⟩
    refine ⟨_, rfl, t, rfl, ⟨_, SqT.of et⟩, fun D hD => ?_⟩
    refine lc_cells (walk_tup (K := K) (a := t) (xs := qs.map V.ref)) hD (fun i => without (L.take i) c) rfl (by rw [List.length_map, Paired.length pr]; omega) (fun i G _ sm => SqT.of (sm _ _ et)) ?_ ?_
    · rintro i x G G' K1 K0 hi sm ⟨rfl, hx⟩ k1 k0
      rw [List.getElem?_map] at hx
      obtain ⟨b, hb, rfl⟩ := Option.map_eq_some_iff.mp hx
      obtain ⟨e, he, ae⟩ := paired_get pr hb
      have ae' : At G' b e := sm _ _ ae
      have aq' : At G' q c := sm _ _ aq
      have st : without (L.take (i + 1)) c = if e = c then without (L.take i) c else without (L.take i) c ++ [e] := by rw [take_snoc he, without_snoc]
      refine ⟨rfl, _, rfl, _, rfl, cD e, cD c, ae'.dp, aq'.dp, cD_shaped e, cD_shaped c, _, rfl, ?_⟩
      rw [cD_eqv]
      refine ite2 (fun hc => ?_) (fun hc => ?_)
      · have ne : e ≠ c := by simpa using hc
        rw [if_neg ne] at st
        exact ⟨_, rfl, k1 b e _ same_refl ae' st⟩
      · have ec : e = c := by simpa using hc
        rw [if_pos ec] at st
        exact k0 _ same_refl st
    · rintro G rs sm gD pr2
      have e : L.take (qs.map V.ref).length = L := by rw [List.length_map, Paired.length pr, List.take_length]
      rw [e] at pr2
      exact ⟨D, _, rfl, .inl ⟨rs, gD, pr2⟩, Nat.le_trans (List.length_filter_le _ _) lL, fun H' s2 => k H' (sm.trans s2)⟩
theorem scLK : FnScope ["_law_body", "_law_start", "_law_end"] ["_law_body", "_law_start", "_law_end"] (defScope lKind) := ⟨rfl, rfl, rfl, by decide +kernel, rfl, by decide +kernel, by decide +kernel⟩
theorem ok_lKind {f : Addr} {fd : FuncData} (F : FnP K "_law_t2_kind" lKind f fd) (DS : Df P w K mg base CX0 2 "_law_t2_supports" ["_law_squares", "_law_start", "_law_end"] (spSupp K)) (DQ : Df P w K mg base CX0 1 "_law_t2_squares" ["_law_body"] spSquares) (DF : Df P w K mg base CX0 4 "_law_t2_free" ["_law_body", "_law_cell"] spFree) :
    FnOk P w K mg base CX0 5 f fd ["_law_body", "_law_start", "_law_end"] spLKind := by
  refine F.ok scLK (fun vs H Q E h => ?_) (fun cdv A outer s H vs Q E hr h => ?_)
  · obtain ⟨t, p, q, L, a, b, rfl, _⟩ := h
    rfl
  · obtain ⟨t, p, q, L, a, b, rfl, ct, nL, lL, ap, aq, k⟩ := h
    have h64 := room64 hr
    refine ⟨_, PSs.nox (pss_cons (ps_if (PW.pt (pw_or (pt_cmpR (op_eqK (K := K) rfl h64) (pe_df DS hr (by rfl) pass0 (pa_cons (pe_df DQ hr (by rfl) pass0 (pa_cons (pv 0) pa_nil)) (pa_cons (pv 1) (pa_cons (pv 2) pa_nil)))) (pe_lst pa_nil) (nomark _)) (pw_or1 (pt_not (pt_val (pe_df DF hr (by rfl) pass0 (pa_cons (pv 0) (pa_cons (pv 1) pa_nil))))))))
      (pss_one (ps_ret pe_non))
      pss_nil)
      (pss_one (ps_ret (pe_ifExp (PW.pt (pw_or (pt_cmpR op_eq (pe_ix ix_tup (pv 1) pe_int (fun _ _ => rfl)) (pe_ix ix_tup (pv 2) pe_int (fun _ _ => rfl)) (nomark _)) (pw_or1 (pt_cmpR op_eq (pe_ix ix_tup (pv 1) pe_int (fun _ _ => rfl)) (pe_ix ix_tup (pv 2) pe_int (fun _ _ => rfl)) (nomark _))))) pe_str pe_str)))), ?_⟩
    refine ⟨_, rfl, t, L, rfl, ct, nL, lL, fun d H1 s1 hd ed => ?_⟩
    refine ⟨_, rfl, _, rfl, d, p, q, L, a, b, rfl, ed, s1 _ _ ap, s1 _ _ aq, fun l H2 ds s2 dl ll hds => ?_⟩
    refine ⟨Nat.zero_le _, fun l2 hl2 => ?_⟩
    have s3 := same_new (o := .lst []) hl2
    have s12 := s1.trans (s2.trans s3)
    have dl3 : Dp K (upd H2 l2 (.lst [])) (.ref l) (.list ds) := by
      exact (Ek.of s3).dp _ _ dl
    refine ⟨_, _, dl3, .lst (SqL.of upd_same) .nil, ll.shaped (by decide), (lay_list (n := 0) (ds := []) (by simp)).shaped (by decide), _, rfl, ?_⟩
    have ee : PyData.eqv (.list ds) (.list []) = decide (ds = []) := by
      cases ds with
      | nil => rfl
      | cons x xs => rw [decide_eq_false (by simp)]; rfl
    rw [ee]
    refine ite2 (fun h1 => ?_) (fun h1 => ?_)
    · have h1 : byPlace L a b = .non := hds.mp (of_decide_eq_true h1)
      have fin := k _ s12
      unfold kindV at fin
      rw [if_pos (.inl h1)] at fin
      exact fin
    · have h1 : byPlace L a b ≠ .non := fun z => h1 (decide_eq_true (hds.mpr z))
      refine ⟨_, rfl, _, rfl, t, p, L, a, rfl, ct.ek (.of s12), lL, s12 _ _ ap, fun H3 s4 => ?_⟩
      have s14 := s12.trans s4
      refine ⟨_, rfl, ite2 (fun h2 => ?_) (fun h2 => ?_)⟩
      · have h2 : hangsB (without L a) = false := by simpa using h2
        have fin := k _ s14
        unfold kindV at fin
        rw [if_pos (.inr h2)] at fin
        exact fin
      · have h2 : hangsB (without L a) = true := by simpa using h2
        have fin := k _ s14
        unfold kindV at fin
        rw [if_neg (fun z => z.elim h1 fun y => by rw [h2] at y; cases y), byPlace_line h1] at fin
        refine ⟨_, rfl, _, _, _, _, rfl, rfl, SqT.of (s14 _ _ ap), at0, _, rfl, _, _, _, _, rfl, rfl, SqT.of (s14 _ _ aq), at0, rfl, _, rfl, ?_⟩
        refine ite2 (fun h3 => ?_) (fun h3 => ?_)
        · have h3 : a.1 = b.1 := V.int.inj (of_decide_eq_true h3)
          rw [if_pos (.inl h3)] at fin
          exact fin
        · have h3 : ¬ a.1 = b.1 := fun z => h3 (decide_eq_true (congrArg V.int z))
          refine ⟨_, rfl, _, _, _, _, rfl, rfl, SqT.of (s14 _ _ ap), at1, _, rfl, _, _, _, _, rfl, rfl, SqT.of (s14 _ _ aq), at1, rfl, _, rfl, ?_⟩
          refine ite2 (fun h4 => ?_) (fun h4 => ?_)
          · have h4 : a.2 = b.2 := V.int.inj (of_decide_eq_true h4)
            rw [if_pos (.inr h4)] at fin
            exact fin
          · have h4 : ¬ a.2 = b.2 := fun z => h4 (decide_eq_true (congrArg V.int z))
            rw [if_neg (fun z => z.elim h3 h4)] at fin
            exact fin
end
end Sq

set_option Elab.async false
set_option linter.all false
set_option maxRecDepth 100000
set_option maxHeartbeats 4000000
/-! The law's supports. -/
namespace Sq
open PySem PySem.Spec PyProof.Rows L2
abbrev CellP := Cell × Cell
def pD (p : CellP) : PyData := .tuple [cD p.1, cD p.2]
theorem alike_cD (c d : Cell) : PySem.W.alike (cD c) (cD d) = true := by
  simp only [cD, PySem.W.alike, PySem.W.alikeAll, Bool.and_true]
theorem alike_pD (c d : CellP) : PySem.W.alike (pD c) (pD d) = true := by
  simp only [pD, PySem.W.alike, PySem.W.alikeAll, alike_cD, Bool.and_true]
theorem lay_pD (p : CellP) : Lay 2 (pD p) := lay_tuple fun d hd => by
  rcases List.mem_cons.mp hd with e | e
  · rw [e]; exact lay_cell _
  · rw [List.mem_singleton.mp e]; exact lay_cell _
/-- a pair of cells stands at r -/
def PairAt (H : Hp) (r : Addr) (b : CellP) : Prop := ∃ q1 q2 : Addr, H r = some (.tup [.ref q1, .ref q2]) ∧ At H q1 b.1 ∧ At H q2 b.2
theorem PairAt.same {H G : Hp} {r : Addr} {b : CellP} (h : PairAt H r b) (k : Same H G) : PairAt G r b := by
  obtain ⟨q1, q2, e, a1, a2⟩ := h
  exact ⟨q1, q2, k _ _ e, k _ _ a1, k _ _ a2⟩
theorem PairAt.off {H : Hp} {r p : Addr} {b : CellP} {o u : HO} (h : PairAt H r b) (hp : H p = some u) (hu : ∀ xs, u ≠ .tup xs) : PairAt (upd H p o) r b := by
  obtain ⟨q1, q2, e, a1, a2⟩ := h
  exact ⟨q1, q2, by rw [upd_ne (ne_of e hp (fun z => hu _ z.symm))]; exact e, a1.off hp hu, a2.off hp hu⟩
theorem PairAt.dp {K : PySem.W.Frag} {H : Hp} {r : Addr} {b : CellP} (h : PairAt H r b) : Dp K H (.ref r) (pD b) := by
  obtain ⟨q1, q2, e, a1, a2⟩ := h
  exact .tup (SqT.of e) (.cons a1.dp (.cons a2.dp .nil))
theorem paired_mapL {α β γ : Type} {F : α → γ → Prop} (f : β → α) : ∀ {xs : List β} {ys : List γ}, Paired (fun b y => F (f b) y) xs ys → Paired F (xs.map f) ys
  | _, _, .nil => .nil
  | _, _, .cons h t => .cons h (paired_mapL f t)
/-- the sides as the law tries them: +1, then -1 -/
def sgn (s e : Cell) (g : Int) : Cell := (g * (e.2 - s.2), g * (e.1 - s.1))
theorem nb {p : Prop} [Decidable p] : (!decide p) = true ↔ ¬ p := by simp
theorem absI_nonneg (i : Int) : 0 ≤ absI i := by unfold absI; split <;> omega
theorem absI_zero {i : Int} : absI i = 0 ↔ i = 0 := by unfold absI; split <;> omega
theorem max_one {a b : Int} (h : (if absI b > absI a then absI b else absI a) = 1) : (absI a + absI b = 1 ∧ (a = 0 ∨ b = 0)) ∨ (absI a = 1 ∧ absI b = 1 ∧ a ≠ 0 ∧ b ≠ 0) := by
  have h1 := absI_nonneg a
  have h2 := absI_nonneg b
  have z1 := absI_zero (i := a)
  have z2 := absI_zero (i := b)
  split at h <;> omega
theorem not_one {a b : Int} (h : ¬ (if absI b > absI a then absI b else absI a) = 1) : ¬ absI a + absI b = 1 ∧ ¬ (absI a = 1 ∧ absI b = 1) := by
  have h1 := absI_nonneg a
  have h2 := absI_nonneg b
  split at h <;> omega
section
variable {P : Program} {w : World} {K : PySem.W.Frag} {mg : Str → Option Value} {base : Heap}
theorem scSu : FnScope ["_law_squares", "_law_start", "_law_end", "_law_across", "_law_up", "_law_found", "_law_one", "_law_two", "_law_sign"] ["_law_squares", "_law_start", "_law_end"] (defScope lSupports) := ⟨rfl, rfl, rfl, by decide +kernel, rfl, by decide +kernel, by decide +kernel⟩
theorem ok_lSupports {f : Addr} {fd : FuncData} (F : FnP K "_law_t2_supports" lSupports f fd) (B : Bl mg) : FnOk P w K mg base CX0 1 f fd ["_law_squares", "_law_start", "_law_end"] (spSupp K) := by
  refine F.ok scSu (fun vs H Q E h => ?_) (fun cdv A outer s H vs Q E hr h => ?_)
  · obtain ⟨d, p, q, L, a, b, rfl, _⟩ := h
    rfl
  · obtain ⟨d, p, q, L, a, b, rfl, ed, ap, aq, k⟩ := h
    have hu := hu_of hr
    have h64 := room64 hr
    -- the loop over both sides and what follows
    obtain ⟨tt, htt, key⟩ : ∃ t, PSs (cxOf CX0 P w K mg base ["_law_squares", "_law_start", "_law_end", "_law_across", "_law_up", "_law_found", "_law_one", "_law_two", "_law_sign"] "_law_t2_supports" (defScope lSupports) f cdv A outer s H E).nox ((defBody lSupports).drop 4) t ∧
        ∀ (D : Ends) (fo : Addr) (G : Hp), Same H G → H fo = none → G fo = some (.lst []) → (∀ l H' ds, Same H H' → Dp K H' (.ref l) (.list ds) → Lay 8 (.list ds) → (ds = [] ↔ slidesB L a b = false) → D.rt (.ref l) H') →
          t D [some (.ref d), some (.ref p), some (.ref q), some (.int (b.1 - a.1)), some (.int (b.2 - a.2)), some (.ref fo), none, none, none] G := by
      refine ⟨_, (pss_cons (ps_for PassesOwn.never rfl (pi_list (pe_lst (pa_cons pe_int (pa_cons (pe_un un_neg pe_int) pa_nil)))) (pg_name (i := 8) scSu.nd rfl (.inl rfl))
      (pss_cons (ps_par (i := 6) (j := 7) (by rfl) scSu.nd rfl rfl (by decide) rfl rfl (pa_cons (pe_tup (pa_cons (pe_op op_add (pe_ix ix_tup (pv 1) pe_int (fun _ _ => rfl)) (pe_op op_mul (pv 8) (pv 4))) (pa_cons (pe_op op_add (pe_ix ix_tup (pv 1) pe_int (fun _ _ => rfl)) (pe_op op_mul (pv 8) (pv 3))) pa_nil))) (pa_cons (pe_tup (pa_cons (pe_op op_add (pe_ix ix_tup (pv 2) pe_int (fun _ _ => rfl)) (pe_op op_mul (pv 8) (pv 4))) (pa_cons (pe_op op_add (pe_ix ix_tup (pv 2) pe_int (fun _ _ => rfl)) (pe_op op_mul (pv 8) (pv 3))) pa_nil))) pa_nil)) (by rfl))
        (pss_one (ps_if (PW.pt (pw_and (pt_cmp (pc_din hu (pv 6) (pv 0))) (pw_and1 (pt_cmp (pc_din hu (pv 7) (pv 0))))))
        (pss_one (ps_expr (pe_bm PySem.F.plainAttrs_list PySem.F.slot_list_append PySem.F.type_list_append mt_append (pv 5) (pa_cons (pe_tupleOf (by rfl) B.tuple (pe_callB cr_sortedC (by rfl) B.sorted (by decide +kernel) (pa_cons (pe_lst (pa_cons (pv 6) (pa_cons (pv 7) pa_nil))) pa_nil))) pa_nil))))
        pss_nil))))
      (pss_one (ps_ret (pe_callB (cr_sortedD h64) (by rfl) B.sorted (by decide +kernel) (pa_cons (pv 5) pa_nil))))), ?_⟩
      intro D fo G sG hfo gf kD
      refine ⟨_, rfl, two_le, fun l1 hl1 => ?_⟩
      have u1 := same_new (o := .lst [.int 1, .int (-1)]) hl1
      refine ⟨l1, rfl, ⟨_, SqL.of upd_same⟩, ?_⟩
      refine for_list (K := K) (a := l1) (xs := [(1 : Int), -1].map V.int) (fun i σ G => ∃ (rs : List Addr) (bs : List CellP) (v6 v7 v8 : Option V), σ = [some (.ref d), some (.ref p), some (.ref q), some (.int (b.1 - a.1)), some (.int (b.2 - a.2)), some (.ref fo), v6, v7, v8] ∧ Same H G ∧
        G l1 = some (.lst ([(1 : Int), -1].map V.int)) ∧ G fo = some (.lst (rs.map V.ref)) ∧ rs.length ≤ i ∧ Paired (fun r b => PairAt G r b) rs bs ∧ (bs = [] ↔ ∀ g ∈ [(1 : Int), -1].take i, sideB L a b (sgn a b g) = false))
        ⟨[], [], none, none, none, rfl, sG.trans u1, upd_same, u1 _ _ gf, Nat.zero_le _, .nil, ⟨fun _ g hg => absurd hg (by simp), fun _ => rfl⟩⟩ (fun i σ G _ ⟨_, _, _, _, _, _, _, e, _⟩ => SqL.of e) ?_ ?_
      · rintro i x σ G2 hi ⟨rs, bs, v6, v7, v8, rfl, s2, gl, gx, ln, pr, none1⟩
        rw [List.getElem?_map] at hi
        obtain ⟨g, hg, rfl⟩ := Option.map_eq_some_iff.mp hi
        have g1 : g = 1 ∨ g = -1 := by simpa using List.mem_of_getElem? hg
        have i2 : i < 2 := (List.getElem?_eq_some_iff.mp hg).1
        have gb : -(2 ^ 64) < g ∧ g < 2 ^ 64 := by rcases g1 with rfl | rfl <;> decide
        have ap2 := s2 _ _ ap
        have aq2 := s2 _ _ aq
        refine ⟨_, rfl, _, _, _, _, rfl, rfl, SqT.of ap2, at0, _, rfl, _, rfl, _, _, rfl, rfl, .inl gb, _, _, rfl, rfl, ?_⟩
        refine ⟨_, rfl, _, _, _, _, rfl, rfl, SqT.of ap2, at1, _, rfl, _, rfl, _, _, rfl, rfl, .inl gb, _, _, rfl, rfl, two_le, fun p1 hp1 => ?_⟩
        have t1 := same_new (o := .tup [.int (a.1 + g * (b.2 - a.2)), .int (a.2 + g * (b.1 - a.1))]) hp1
        have aq3 := t1 _ _ aq2
        refine ⟨_, rfl, _, _, _, _, rfl, rfl, SqT.of aq3, at0, _, rfl, _, rfl, _, _, rfl, rfl, .inl gb, _, _, rfl, rfl, ?_⟩
        refine ⟨_, rfl, _, _, _, _, rfl, rfl, SqT.of aq3, at1, _, rfl, _, rfl, _, _, rfl, rfl, .inl gb, _, _, rfl, rfl, two_le, fun p2 hp2 => ?_⟩
        have t2 := same_new (o := .tup [.int (b.1 + g * (b.2 - a.2)), .int (b.2 + g * (b.1 - a.1))]) hp2
        have t12 := t1.trans t2
        have a1 : At (upd (upd G2 p1 (.tup [.int (a.1 + g * (b.2 - a.2)), .int (a.2 + g * (b.1 - a.1))])) p2 (.tup [.int (b.1 + g * (b.2 - a.2)), .int (b.2 + g * (b.1 - a.1))])) p1 (a.1 + g * (b.2 - a.2), a.2 + g * (b.1 - a.1)) := t2 _ _ upd_same
        have a2 : At (upd (upd G2 p1 (.tup [.int (a.1 + g * (b.2 - a.2)), .int (a.2 + g * (b.1 - a.1))])) p2 (.tup [.int (b.1 + g * (b.2 - a.2)), .int (b.2 + g * (b.1 - a.1))])) p2 (b.1 + g * (b.2 - a.2), b.2 + g * (b.1 - a.1)) := upd_same
        refine ⟨_, _, rfl, ?_⟩
        show Ends.nx _ _ (upd (upd G2 p1 (.tup [.int (a.1 + g * (b.2 - a.2)), .int (a.2 + g * (b.1 - a.1))])) p2 (.tup [.int (b.1 + g * (b.2 - a.2)), .int (b.2 + g * (b.1 - a.1))]))
        generalize upd (upd G2 p1 (.tup [.int (a.1 + g * (b.2 - a.2)), .int (a.2 + g * (b.1 - a.1))])) p2 (.tup [.int (b.1 + g * (b.2 - a.2)), .int (b.2 + g * (b.1 - a.1))]) = G3 at t12 a1 a2 ⊢
        have ed3 := t12 _ _ (s2 _ _ ed)
        have sb : sideB L a b (sgn a b g) = (decide ((a.1 + g * (b.2 - a.2), a.2 + g * (b.1 - a.1)) ∈ L) && decide ((b.1 + g * (b.2 - a.2), b.2 + g * (b.1 - a.1)) ∈ L)) := rfl
        have tk : [(1 : Int), -1].take (i + 1) = [(1 : Int), -1].take i ++ [g] := take_snoc hg
        -- nothing is appended
        have skip : sideB L a b (sgn a b g) = false → (bs = [] ↔ ∀ g ∈ [(1 : Int), -1].take (i + 1), sideB L a b (sgn a b g) = false) := fun hs => by
          rw [none1, tk]
          exact ⟨fun h z hz => (List.mem_append.mp hz).elim (h z) fun m => by rw [List.mem_singleton.mp m]; exact hs, fun h z hz => h z (List.mem_append_left _ hz)⟩
        refine ⟨_, rfl, _, rfl, d, _, rfl, dget_lot ed3 a1, _, rfl, ?_⟩
        rw [lot_is]
        refine ite2 (fun h1 => ?_) (fun h1 => ?_)
        · refine ⟨_, rfl, _, rfl, d, _, rfl, dget_lot ed3 a2, _, rfl, ?_⟩
          rw [lot_is]
          refine ite2 (fun h2 => ?_) (fun h2 => ?_)
          · have yes : sideB L a b (sgn a b g) = true := by rw [sb, h1, h2]; rfl
            refine ⟨_, rfl, .inl ⟨rfl, _, SqL.of (t12 _ _ gx)⟩, ?_⟩
            refine ⟨_, rfl, _, rfl, two_le, fun l2 hl2 => ?_⟩
            have w1 := same_new (o := .lst [.ref p1, .ref p2]) hl2
            refine ⟨l2, [p1, p2], _, rfl, SqL.of upd_same, .cons (w1 _ _ a1) (.cons (w1 _ _ a2) .nil), fun so qs' cs' prq pm asc hso => ?_⟩
            have w2 := same_new (o := .lst (qs'.map V.ref)) hso
            refine .inl ⟨so, _, rfl, SqL.of upd_same, fun tp htp => ?_⟩
            have w3 := same_new (o := .tup (qs'.map V.ref)) htp
            have w := (w1.trans w2).trans w3
            have gx3 := w _ _ (t12 _ _ gx)
            obtain ⟨x, y, rfl⟩ : ∃ x y, cs' = [x, y] := by
              have l := pm.length_eq
              match cs', l with
              | [x, y], _ => exact ⟨x, y, rfl⟩
            have pa : PairAt (upd (upd (upd G3 l2 (.lst [.ref p1, .ref p2])) so (.lst (qs'.map V.ref))) tp (.tup (qs'.map V.ref))) tp (x, y) := by
              cases prq with
              | cons b1 r1 =>
                cases r1 with
                | cons b2 r2 =>
                  cases r2
                  exact ⟨_, _, upd_same, w3 _ _ (w2 _ _ b1), w3 _ _ (w2 _ _ b2)⟩
            have nt : tp ≠ fo := fun z => by rw [z, (w1.trans w2) _ _ (t12 _ _ gx)] at htp; cases htp
            refine ⟨fo, _, _, rfl, rfl, gx3, by rw [List.length_map, sizeLine_eq]; omega, ?_⟩
            have nl : l1 ≠ fo := fun z => by
              rw [z, gx] at gl
              have z : rs.map V.ref = [(1 : Int), -1].map V.int := HO.lst.inj (Option.some.inj gl)
              cases rs with
              | nil => cases z
              | cons r rs => cases z
            have off : ∀ {r : Addr} {b : CellP}, PairAt (upd (upd (upd G3 l2 (.lst [.ref p1, .ref p2])) so (.lst (qs'.map V.ref))) tp (.tup (qs'.map V.ref))) r b → PairAt (upd (upd (upd (upd G3 l2 (.lst [.ref p1, .ref p2])) so (.lst (qs'.map V.ref))) tp (.tup (qs'.map V.ref))) fo (.lst (rs.map V.ref ++ [V.ref tp]))) r b := fun h => h.off gx3 (by intro xs z; cases z)
            refine ⟨rs ++ [tp], bs ++ [(x, y)], _, _, _, rfl, same_put ((s2.trans t12).trans w) hfo, ?_, by rw [upd_same, List.map_append]; rfl, by rw [List.length_append]; exact Nat.succ_le_succ ln, (paired_imp (fun _ _ h => off ((h.same t12).same w)) pr).snoc (off pa), ⟨fun z => absurd z (by simp), fun h => ?_⟩⟩
            · rw [upd_ne nl]
              exact w _ _ (t12 _ _ gl)
            · have := h g (by rw [tk]; simp)
              rw [yes] at this
              cases this
          · exact ⟨rs, bs, _, _, _, rfl, s2.trans t12, t12 _ _ gl, t12 _ _ gx, Nat.le_succ_of_le ln, paired_imp (fun _ _ h => h.same t12) pr, skip (by rw [sb, Bool.eq_false_iff.mpr h2, Bool.and_false])⟩
        · exact ⟨rs, bs, _, _, _, rfl, s2.trans t12, t12 _ _ gl, t12 _ _ gx, Nat.le_succ_of_le ln, paired_imp (fun _ _ h => h.same t12) pr, skip (by rw [sb, Bool.eq_false_iff.mpr h1, Bool.false_and])⟩
      · rintro σ G2 ⟨rs, bs, v6, v7, v8, rfl, s2, gl, gx, ln, pr, none1⟩
        refine ⟨_, rfl, fo, _, CellP, pD, bs, rfl, SqL.of gx, paired_mapL V.ref (paired_imp (fun _ _ h => h.dp) pr), alike_pD, PySem.W.Sortable.tuples (fun b => ⟨_, _, rfl⟩), fun b _ => Nat.le_trans (lay_pD b).2 (by decide), fun ys p2 pr2 hp2 => ?_⟩
        have u2 := same_new (o := .lst ys) hp2
        refine kD p2 _ ((bs.mergeSort (PySem.W.dataLe false pD)).map pD) (s2.trans u2) (.lst (SqL.of upd_same) (dpAll_of (paired_imp (fun _ _ h => (Ek.of u2).dp _ _ h.2) pr2))) ?_ ?_
        · refine (lay_list (n := 2) fun d hd => ?_).mono (by decide)
          obtain ⟨b, _, rfl⟩ := List.mem_map.mp hd
          exact lay_pD b
        · have e1 : (bs.mergeSort (PySem.W.dataLe false pD)).map pD = [] ↔ bs = [] := by
            rw [List.map_eq_nil_iff, ← List.length_eq_zero_iff, List.length_mergeSort, List.length_eq_zero_iff]
          rw [e1, none1]
          have e2 : slidesB L a b = (sideB L a b (sgn a b 1) || sideB L a b (sgn a b (-1))) := by
            unfold slidesB sgn
            rw [Int.one_mul, Int.one_mul, Int.neg_mul, Int.neg_mul, Int.one_mul, Int.one_mul]
          rw [e2]
          constructor
          · intro h
            rw [h 1 (by simp), h (-1) (by simp)]
            rfl
          · intro h g hg
            have hg : g = 1 ∨ g = -1 := by simpa using hg
            have hh : sideB L a b (sgn a b 1) = false ∧ sideB L a b (sgn a b (-1)) = false := by simpa using h
            rcases hg with rfl | rfl
            · exact hh.1
            · exact hh.2
    refine ⟨_, PSs.nox (pss_cons (ps_par (i := 3) (j := 4) (by rfl) scSu.nd rfl rfl (by decide) rfl rfl (pa_cons (pe_op op_sub (pe_ix ix_tup (pv 2) pe_int (fun _ _ => rfl)) (pe_ix ix_tup (pv 1) pe_int (fun _ _ => rfl))) (pa_cons (pe_op op_sub (pe_ix ix_tup (pv 2) pe_int (fun _ _ => rfl)) (pe_ix ix_tup (pv 1) pe_int (fun _ _ => rfl))) pa_nil)) (by rfl))
      (pss_cons (ps_if (PW.pt (pw_or (pt_cmp (pc_dnotin hu (pv 1) (pv 0))) (pw_or (pt_cmp (pc_din hu (pv 2) (pv 0))) (pw_or1 (pt_cmpR op_ne (pe_callB (call_max2 rfl) (by rfl) B.max (by decide +kernel) (pa_cons (pe_callB call_abs (by rfl) B.abs (by decide +kernel) (pa_cons (pv 3) pa_nil)) (pa_cons (pe_callB call_abs (by rfl) B.abs (by decide +kernel) (pa_cons (pv 4) pa_nil)) pa_nil))) pe_int (nomark _))))))
      (pss_one (ps_ret (pe_lst pa_nil)))
      pss_nil)
      (pss_cons (ps_set (i := 5) scSu.nd rfl (.inl rfl) (pe_lst pa_nil))
      (pss_cons (ps_if (PW.pt (pw_and (pt_cmpR op_ne (pv 3) pe_int (nomark _)) (pw_and1 (pt_cmpR op_ne (pv 4) pe_int (nomark _)))))
      (pss_cons (ps_par (i := 6) (j := 7) (by rfl) scSu.nd rfl rfl (by decide) rfl rfl (pa_cons (pe_tup (pa_cons (pe_ix ix_tup (pv 2) pe_int (fun _ _ => rfl)) (pa_cons (pe_ix ix_tup (pv 1) pe_int (fun _ _ => rfl)) pa_nil))) (pa_cons (pe_tup (pa_cons (pe_ix ix_tup (pv 1) pe_int (fun _ _ => rfl)) (pa_cons (pe_ix ix_tup (pv 2) pe_int (fun _ _ => rfl)) pa_nil))) pa_nil)) (by rfl))
        (pss_cons (ps_if (pt_cmpR op_ne (pe_cmp (pc_din hu (pv 6) (pv 0)) rfl) (pe_cmp (pc_din hu (pv 7) (pv 0)) rfl) (nomark _))
        (pss_one (ps_expr (pe_bm PySem.F.plainAttrs_list PySem.F.slot_list_append PySem.F.type_list_append mt_append (pv 5) (pa_cons (pe_ifExp (pt_cmp (pc_din hu (pv 6) (pv 0))) (pe_tup (pa_cons (pv 6) pa_nil)) (pe_tup (pa_cons (pv 7) pa_nil))) pa_nil))))
        pss_nil)
        (pss_one (ps_ret (pv 5)))))
      pss_nil)
      htt)))), ?_⟩
    have empty : ∀ {l : Addr}, H l = none → Dp K (upd H l (.lst [])) (.ref l) (.list []) := fun _ => .lst (SqL.of upd_same) .nil
    have lay0 : Lay 8 (.list []) := (lay_list (n := 0) (ds := []) (by simp)).mono (by decide)
    refine ⟨_, rfl, _, _, _, _, rfl, rfl, SqT.of aq, at0, _, rfl, _, _, _, _, rfl, rfl, SqT.of ap, at0, _, _, rfl, rfl, ?_⟩
    refine ⟨_, rfl, _, _, _, _, rfl, rfl, SqT.of aq, at1, _, rfl, _, _, _, _, rfl, rfl, SqT.of ap, at1, _, _, rfl, rfl, _, _, rfl, ?_⟩
    refine ⟨_, rfl, _, rfl, d, _, rfl, dget_lot ed ap, _, rfl, ?_⟩
    rw [lot_is]
    refine ite2 (fun hc => ?_) (fun hc => ?_)
    · have hc : decide (a ∈ L) = false := by simpa using hc
      refine ⟨Nat.zero_le _, fun l hl => k l _ [] (same_new hl) (empty hl) lay0 ⟨fun _ => ?_, fun _ => rfl⟩⟩
      unfold byPlace
      rw [if_pos (.inl hc)]
    have hc : decide (a ∈ L) = true := by simpa using hc
    refine ⟨_, rfl, _, rfl, d, _, rfl, dget_lot ed aq, _, rfl, ?_⟩
    rw [lot_is]
    refine ite2 (fun hc2 => ?_) (fun hc2 => ?_)
    · refine ⟨Nat.zero_le _, fun l hl => k l _ [] (same_new hl) (empty hl) lay0 ⟨fun _ => ?_, fun _ => rfl⟩⟩
      unfold byPlace
      rw [if_pos (.inr hc2)]
    have hno : ¬ (decide (a ∈ L) = false ∨ decide (b ∈ L) = true) := fun z => z.elim (fun y => by rw [hc] at y; cases y) hc2
    refine ⟨_, rfl, _, rfl, _, rfl, _, rfl, _, _, rfl, rfl, _, rfl, ?_⟩
    refine ite2 (fun h1 => ?_) (fun h1 => ?_)
    · have h1 : ¬ (if absI (b.2 - a.2) > absI (b.1 - a.1) then absI (b.2 - a.2) else absI (b.1 - a.1)) = 1 := fun z => (nb.mp h1) (congrArg V.int z)
      obtain ⟨n1, n2⟩ := not_one h1
      refine ⟨Nat.zero_le _, fun l hl => k l _ [] (same_new hl) (empty hl) lay0 ⟨fun _ => ?_, fun _ => rfl⟩⟩
      unfold byPlace
      rw [if_neg hno, if_neg n1, if_neg n2]
    have h1 : (if absI (b.2 - a.2) > absI (b.1 - a.1) then absI (b.2 - a.2) else absI (b.1 - a.1)) = 1 := Classical.byContradiction fun z => h1 (nb.mpr fun e => z (V.int.inj e))
    have cases1 := max_one h1
    refine ⟨Nat.zero_le _, fun fo hfo => ?_⟩
    have s0 := same_new (o := .lst []) hfo
    refine ⟨_, rfl, rfl, _, rfl, ?_⟩
    have slide : (b.1 - a.1 = 0 ∨ b.2 - a.2 = 0) → ∀ ds : List PyData, (ds = [] ↔ slidesB L a b = false) → (ds = [] ↔ byPlace L a b = .non) := fun hz ds hds => by
      have sum : absI (b.1 - a.1) + absI (b.2 - a.2) = 1 := by
        rcases cases1 with ⟨h, _⟩ | ⟨_, _, n1, n2⟩
        · exact h
        · exact absurd hz (fun z => z.elim n1 n2)
      unfold byPlace
      rw [if_neg hno, if_pos sum, hds]
      cases slidesB L a b with
      | true => exact ⟨fun z => absurd z (by simp), fun z => absurd z (by simp)⟩
      | false => exact ⟨fun _ => rfl, fun _ => rfl⟩
    -- the slides and the turns
    refine ite2 (fun h2 => ?_) (fun h2 => ?_)
    · have h2 : b.1 - a.1 ≠ 0 := fun z => (nb.mp h2) (congrArg V.int z)
      refine ⟨_, rfl, rfl, _, rfl, ?_⟩
      refine ite2 (fun h3 => ?_) (fun h3 => ?_)
      · have h3 : b.2 - a.2 ≠ 0 := fun z => (nb.mp h3) (congrArg V.int z)
        have hb : absI (b.1 - a.1) = 1 ∧ absI (b.2 - a.2) = 1 := by
          rcases cases1 with ⟨_, z | z⟩ | ⟨h, h', _⟩
          · exact absurd z h2
          · exact absurd z h3
          · exact ⟨h, h'⟩
        have place : byPlace L a b = if turnsB L a b = true then .str "turn" else .non := by
          unfold byPlace
          rw [if_neg hno, if_neg (by omega), if_pos hb]
        refine ⟨_, rfl, _, _, _, _, rfl, rfl, SqT.of (s0 _ _ aq), at0, _, rfl, _, _, _, _, rfl, rfl, SqT.of (s0 _ _ ap), at1, two_le, fun p1 hp1 => ?_⟩
        have s1 := same_new (o := .tup [.int b.1, .int a.2]) hp1
        refine ⟨_, rfl, _, _, _, _, rfl, rfl, SqT.of (s1 _ _ (s0 _ _ ap)), at0, _, rfl, _, _, _, _, rfl, rfl, SqT.of (s1 _ _ (s0 _ _ aq)), at1, two_le, fun p2 hp2 => ?_⟩
        have s2 := same_new (o := .tup [.int a.1, .int b.2]) hp2
        have sA := (s0.trans s1).trans s2
        have a1 : At (upd (upd (upd H fo (.lst [])) p1 (.tup [.int b.1, .int a.2])) p2 (.tup [.int a.1, .int b.2])) p1 (b.1, a.2) := s2 _ _ upd_same
        have a2 : At (upd (upd (upd H fo (.lst [])) p1 (.tup [.int b.1, .int a.2])) p2 (.tup [.int a.1, .int b.2])) p2 (a.1, b.2) := upd_same
        have gf : upd (upd (upd H fo (.lst [])) p1 (.tup [.int b.1, .int a.2])) p2 (.tup [.int a.1, .int b.2]) fo = some (.lst []) := s2 _ _ (s1 _ _ upd_same)
        generalize upd (upd (upd H fo (.lst [])) p1 (.tup [.int b.1, .int a.2])) p2 (.tup [.int a.1, .int b.2]) = G at sA a1 a2 gf ⊢
        have eG := sA _ _ ed
        refine ⟨_, _, rfl, _, rfl, _, rfl, d, _, rfl, dget_lot eG a1, _, rfl, _, rfl, d, _, rfl, dget_lot eG a2, rfl, _, rfl, ?_⟩
        rw [lot_is, lot_is]
        have tb : turnsB L a b = (decide ((a.1, b.2) ∈ L) != decide ((b.1, a.2) ∈ L)) := rfl
        -- what is appended
        have app : ∀ (c : Cell) (r tp : Addr) (o : HO), At G r c → G tp = none → turnsB L a b = true → Q (.ref fo) (upd (upd G tp (.tup [.ref r])) fo (.lst ([] ++ [V.ref tp]))) := fun c r tp o ar htp tt => by
          have u1 := same_new (o := .tup [.ref r]) htp
          have nt : tp ≠ fo := fun z => by rw [z, gf] at htp; cases htp
          have ar2 : At (upd (upd G tp (.tup [.ref r])) fo (.lst ([] ++ [V.ref tp]))) r c := (show At (upd G tp (.tup [.ref r])) r c from u1 _ _ ar).off (u1 _ _ gf) (by intro xs z; cases z)
          refine k fo _ [.tuple [cD c]] (same_put (sA.trans u1) hfo) (.lst (SqL.of upd_same) (.cons (.tup (SqT.of (by rw [upd_ne nt]; exact upd_same)) (.cons ar2.dp .nil)) .nil)) ?_ ⟨fun z => absurd z (by simp), fun z => ?_⟩
          · refine (lay_list (n := 2) fun d hd => ?_).mono (by decide)
            rw [List.mem_singleton.mp hd]
            exact lay_tuple fun d hd => by rw [List.mem_singleton.mp hd]; exact lay_cell c
          · rw [place, if_pos tt] at z
            cases z
        refine ite2 (fun h4 => ?_) (fun h4 => ?_)
        · have tt : turnsB L a b = true := by
            rw [tb]
            have h4 := nb.mp h4
            cases x : decide ((b.1, a.2) ∈ L) <;> cases y : decide ((a.1, b.2) ∈ L) <;> rw [x, y] at h4 <;> first | rfl | exact absurd rfl h4
          refine ⟨_, rfl, .inl ⟨rfl, _, SqL.of gf⟩, _, rfl, _, rfl, d, _, rfl, dget_lot eG a1, _, rfl, ?_⟩
          rw [lot_is]
          refine ite2 (fun h5 => ?_) (fun h5 => ?_)
          · refine ⟨_, rfl, (by show 1 ≤ sizeLine; rw [sizeLine_eq]; decide), fun tp htp => ?_⟩
            have u1 := same_new (o := .tup [.ref p1]) htp
            exact ⟨fo, _, _, rfl, rfl, u1 _ _ gf, by show 0 < sizeLine; rw [sizeLine_eq]; decide, _, rfl, app _ p1 tp (.lst []) a1 htp tt⟩
          · refine ⟨_, rfl, (by show 1 ≤ sizeLine; rw [sizeLine_eq]; decide), fun tp htp => ?_⟩
            have u1 := same_new (o := .tup [.ref p2]) htp
            exact ⟨fo, _, _, rfl, rfl, u1 _ _ gf, by show 0 < sizeLine; rw [sizeLine_eq]; decide, _, rfl, app _ p2 tp (.lst []) a2 htp tt⟩
        · have tt : turnsB L a b = false := by
            rw [tb]
            have h4 : ¬ ¬ _ := fun z => h4 (nb.mpr z)
            have h4 := Classical.not_not.mp h4
            cases x : decide ((b.1, a.2) ∈ L) <;> cases y : decide ((a.1, b.2) ∈ L) <;> rw [x, y] at h4 <;> first | rfl | exact absurd h4 (by simp)
          refine ⟨_, rfl, k fo G [] sA (.lst (SqL.of gf) .nil) lay0 ⟨fun _ => ?_, fun _ => rfl⟩⟩
          rw [place, tt]
          rfl
      · have h3 : b.2 - a.2 = 0 := Classical.byContradiction fun z => h3 (nb.mpr fun e => z (V.int.inj e))
        exact key _ fo _ s0 hfo upd_same fun l H' ds sm dp ll hds => k l H' ds sm dp ll (slide (.inr h3) ds hds)
    · have h2 : b.1 - a.1 = 0 := Classical.byContradiction fun z => h2 (nb.mpr fun e => z (V.int.inj e))
      exact key _ fo _ s0 hfo upd_same fun l H' ds sm dp ll hds => k l H' ds sm dp ll (slide (.inl h2) ds hds)
end
end Sq

set_option Elab.async false
set_option linter.all false
set_option maxRecDepth 100000
set_option maxHeartbeats 4000000
/-! The law's done; odd cells. -/
namespace Sq
open PySem PySem.Spec PyProof.Rows L2
def spLDone : Sp := fun vs H Q _ => ∃ (t p q : Addr) (L : List Cell) (s e : Cell), vs = [.ref t, .ref p, .ref q] ∧ CellsT H t L ∧ L.length ≤ 1000 ∧ At H p s ∧ At H q e ∧ ∀ r H' cs, Same H H' → CellsT H' r cs → cs.Perm (without L s ++ [e]) → Asc cs → Q (.ref r) H'
/-- x is no cell, and can be compared -/
structure OddQ (K : PySem.W.Frag) (H : Hp) (x : V) (d : PyData) : Prop where
  cq : CellQ K H x false
  dp : Dp K H x d
  ly : Lay 3 d
theorem OddQ.ek {K : PySem.W.Frag} {H G : Hp} {x : V} {d : PyData} (h : OddQ K H x d) (k : Ek H G) : OddQ K G x d := ⟨h.cq.ek k, k.dp _ _ h.dp, h.ly⟩
theorem pen_ek {H H' : Hp} {p : Addr} {n : Nat} (hp : PenAt H p n) (h : Kp [p] H H') : Ek H H' := fun b o _ n2 e => h b o (fun m => by
  obtain ⟨c, zs, i, dg, fo, e2, _⟩ := hp.ex
  rw [List.mem_singleton.mp m, e2] at e
  exact n2 _ (Option.some.inj e).symm) e
theorem pen_tabs {Ts : List Addr} {H H' : Hp} {p : Addr} {n : Nat} (hp : PenAt H p n) (h : Kp [p] H H') (tb : TabsG Ts H) : TabsG Ts H' := fun T m => by
  obtain ⟨ps, e, t⟩ := tb T m
  refine ⟨ps, h T _ (fun mm => ?_) e, t⟩
  obtain ⟨c, zs, i, dg, fo, e2, _⟩ := hp.ex
  rw [List.mem_singleton.mp mm, e2] at e
  cases e
/-- what a pen's def does -/
theorem kp_pick {H H' : Hp} {p : Addr} (h : ∀ b, b ≠ p → H' b = H b) : Kp [p] H H' := Kp.but (List.mem_singleton.mpr rfl) h
def spOdd (K : PySem.W.Frag) : Sp := fun vs H Q _ => ∃ (p : Addr) (n : Nat), vs = [.ref p] ∧ PenAt H p n ∧ n < 1000000 ∧ ∀ x d H', PenAt H' p (n + 1) → Kp [p] H H' → OddQ K H' x d → Q x H'
def AllOdd (K : PySem.W.Frag) (H : Hp) (xs : List V) : Prop := ∀ x ∈ xs, ∃ d, OddQ K H x d
theorem AllOdd.more {K : PySem.W.Frag} {H G : Hp} {xs : List V} {x : V} {d : PyData} (h : AllOdd K H xs) (k : Same H G) (o : OddQ K G x d) : AllOdd K G (x :: xs) := fun y hy => (List.mem_cons.mp hy).elim (fun e => ⟨d, e ▸ o⟩) fun m => by
  obtain ⟨d, z⟩ := h y m
  exact ⟨d, z.ek (.of k)⟩
theorem AllOdd.same {K : PySem.W.Frag} {H G : Hp} {xs : List V} (h : AllOdd K H xs) (k : Same H G) : AllOdd K G xs := fun y m => by
  obtain ⟨d, z⟩ := h y m
  exact ⟨d, z.ek (.of k)⟩
section
variable {P : Program} {w : World} {K : PySem.W.Frag} {mg : Str → Option Value} {base : Heap}
theorem scLD : FnScope ["_law_body", "_law_start", "_law_end", "_law_cell"] ["_law_body", "_law_start", "_law_end"] (defScope lDone) := ⟨rfl, rfl, rfl, by decide +kernel, rfl, by decide +kernel, by decide +kernel⟩
theorem ok_lDone {f : Addr} {fd : FuncData} (F : FnP K "_law_t2_done" lDone f fd) (B : Bl mg) : FnOk P w K mg base CX0 1 f fd ["_law_body", "_law_start", "_law_end"] spLDone := by
  refine F.ok scLD (fun vs H Q E h => ?_) (fun cdv A outer s H vs Q E hr h => ?_)
  · obtain ⟨t, p, q, L, a, b, rfl, _⟩ := h
    rfl
  · obtain ⟨t, p, q, L, a, b, rfl, ⟨qs, et, pr⟩, lL, ap, aq, k⟩ := h
    have h64 := room64 hr
    refine ⟨_, PSs.nox (pss_one (ps_ret (pe_tupleOf (by rfl) B.tuple (pe_callB cr_sortedC (by rfl) B.sorted (by decide +kernel) (pa_cons (pe_op op_cat (pe_lc (own := [("_law_cell", 3)]) (g := gName 3) rfl scLD.nd (pi_tup (pv 0)) (blkOk_by (N := ["_law_body", "_law_start", "_law_end", "_law_cell"]) (sc := defScope lDone) (by decide +kernel)) (fun _ _ _ _ _ => pg_name (i := 3) scLD.nd rfl (Or.inl rfl)) (fun _ _ _ _ _ => (pts_one (pt_cmpR (op_neK (K := K) rfl h64) (pv 3) (pv 1) (nomark _)))) (fun _ _ _ _ _ => (pv 3))) (pe_lst (pa_cons (pv 2) pa_nil))) pa_nil))))), ?_⟩
    refine ⟨_, rfl, t, rfl, ⟨_, SqT.of et⟩, fun D hD => ?_⟩
    refine lc_cells (walk_tup (K := K) (a := t) (xs := qs.map V.ref)) hD (fun i => without (L.take i) a) rfl (by rw [List.length_map, Paired.length pr]; omega) (fun i G _ sm => SqT.of (sm _ _ et)) ?_ ?_
    · rintro i x G G' K1 K0 hi sm ⟨rfl, hx⟩ k1 k0
      rw [List.getElem?_map] at hx
      obtain ⟨b, hb, rfl⟩ := Option.map_eq_some_iff.mp hx
      obtain ⟨e, he, ae⟩ := paired_get pr hb
      have ae' : At G' b e := sm _ _ ae
      have ap' : At G' p a := sm _ _ ap
      have st : without (L.take (i + 1)) a = if e = a then without (L.take i) a else without (L.take i) a ++ [e] := by rw [take_snoc he, without_snoc]
      refine ⟨rfl, _, rfl, _, rfl, cD e, cD a, ae'.dp, ap'.dp, cD_shaped e, cD_shaped a, _, rfl, ?_⟩
      rw [cD_eqv]
      refine ite2 (fun hc => ?_) (fun hc => ?_)
      · have ne : e ≠ a := by simpa using hc
        rw [if_neg ne] at st
        exact ⟨_, rfl, k1 b e _ same_refl ae' st⟩
      · have ec : e = a := by simpa using hc
        rw [if_pos ec] at st
        exact k0 _ same_refl st
    · rintro G rs sm gD pr2
      have e : L.take (qs.map V.ref).length = L := by rw [List.length_map, Paired.length pr, List.take_length]
      rw [e] at pr2
      have lw : (without L a).length ≤ 1000 := Nat.le_trans (List.length_filter_le _ _) lL
      have lr : rs.length = (without L a).length := Paired.length pr2
      refine ⟨_, rfl, (by show 1 ≤ sizeLine; rw [sizeLine_eq]; decide), fun l1 hl1 => ?_⟩
      have s1 := same_new (o := .lst [.ref q]) hl1
      refine ⟨D, l1, _, _, rfl, rfl, s1 _ _ gD, upd_same, by rw [List.length_map, sizeLine_eq]; show rs.length + 1 ≤ _; omega, fun l2 hl2 => ?_⟩
      have s2 := same_new (o := .lst (rs.map V.ref ++ [.ref q])) hl2
      have sA := s1.trans s2
      refine ⟨l2, rs ++ [q], without L a ++ [b], rfl, SqL.of (by rw [upd_same, List.map_append]; rfl), (paired_imp (fun _ _ h => sA _ _ h) pr2).snoc (sA _ _ (sm _ _ aq)), fun so qs' cs' prq pm asc hso => .inl ⟨so, _, rfl, SqL.of upd_same, fun tp htp => ?_⟩⟩
      have s3 := same_new (o := .lst (qs'.map V.ref)) hso
      have s4 := same_new (o := .tup (qs'.map V.ref)) htp
      exact k tp _ cs' (((sm.trans sA).trans s3).trans s4) ⟨qs', upd_same, paired_imp (fun q c (h : At _ q c) => s4 _ _ (s3 _ _ h)) prq⟩ pm asc
end
end Sq

set_option Elab.async false
set_option linter.all false
set_option maxRecDepth 100000
set_option maxHeartbeats 4000000
/-! Growing blobs; dicts from cells to numbers. -/
namespace Sq
open PySem PySem.Spec PyProof.Rows L2
theorem east_most : ∀ {A : List Cell}, A ≠ [] → ∃ a ∈ A, ∀ b ∈ A, b.1 ≤ a.1
  | [c], _ => ⟨c, by simp, fun b hb => by rw [List.mem_singleton.mp hb]; exact Int.le_refl _⟩
  | c :: d :: A, _ => by
    obtain ⟨a, ha, h⟩ := east_most (A := d :: A) (by simp)
    by_cases e : a.1 ≤ c.1
    · exact ⟨c, by simp, fun b hb => (List.mem_cons.mp hb).elim (fun z => z ▸ Int.le_refl _) fun m => Int.le_trans (h b m) e⟩
    · exact ⟨a, List.mem_cons_of_mem _ ha, fun b hb => (List.mem_cons.mp hb).elim (fun z => by rw [z]; omega) (h b)⟩
theorem ext_free {A : List Cell} (h : A ≠ []) : ∃ a ∈ A, ∃ x ∈ besideC a, x ∉ A := by
  obtain ⟨a, ha, k⟩ := east_most h
  refine ⟨a, ha, (a.1 + 1, a.2), by simp [besideC], fun m => ?_⟩
  have : a.1 + 1 ≤ a.1 := k _ m
  omega
theorem Reach.mono {L M : List Cell} (h : ∀ x ∈ L, x ∈ M) {a b : Cell} (k : Reach L a b) : Reach M a b := by
  induction k with
  | refl => exact .refl
  | step _ hb hc ih => exact ih.step hb (h _ hc)
theorem hangs_snoc {A : List Cell} {a x : Cell} (h : Hangs A) (ha : a ∈ A) (hx : x ∈ besideC a) : Hangs (A ++ [x]) := by
  have m : a ∈ A ++ [x] := List.mem_append_left _ ha
  refine (hangs_from m).mpr fun b hb => ?_
  rcases List.mem_append.mp hb with k | k
  · exact (h.2 a ha b k).mono fun y hy => List.mem_append_left _ hy
  · rw [List.mem_singleton.mp k]
    exact Reach.refl.step hx (by simp)
theorem hangs_one (c : Cell) : Hangs [c] := ⟨by simp, fun a ha b hb => by rw [List.mem_singleton.mp ha, List.mem_singleton.mp hb]; exact .refl⟩
/-- a dict from these cells to numbers -/
structure IntD (kvs : List (List Key × V)) (Cs : List Cell) : Prop where
  keys : kvs.map (·.1) = Cs.map cK
  nums : ∀ kv ∈ kvs, ∃ i : Int, kv.2 = .int i
theorem IntD.get {kvs : List (List Key × V)} {Cs : List Cell} (h : IntD kvs Cs) (c : Cell) : (c ∈ Cs ∧ ∃ i : Int, valV kvs (cK c) = some (.int i)) ∨ (c ∉ Cs ∧ valV kvs (cK c) = none) := by
  obtain ⟨hk, hi⟩ := h
  induction kvs generalizing Cs with
  | nil =>
    cases Cs with
    | nil => exact .inr ⟨by simp, rfl⟩
    | cons d Cs => cases hk
  | cons kv kvs ih =>
    cases Cs with
    | nil => cases hk
    | cons d Cs =>
      rw [List.map_cons, List.map_cons] at hk
      injection hk with h1 h2
      by_cases e : d = c
      · subst e
        obtain ⟨i, ei⟩ := hi kv (List.mem_cons_self ..)
        refine .inl ⟨List.mem_cons_self .., i, ?_⟩
        rw [valV_pos h1, ei]
      · rw [valV_neg (by rw [h1]; exact fun z => e (cK_inj z))]
        rcases ih h2 (fun kv hkv => hi kv (List.mem_cons_of_mem _ hkv)) with ⟨m, r⟩ | ⟨m, r⟩
        · exact .inl ⟨List.mem_cons_of_mem _ m, r⟩
        · exact .inr ⟨fun z => (List.mem_cons.mp z).elim (fun q => e q.symm) m, r⟩
theorem IntD.put {kvs : List (List Key × V)} {Cs : List Cell} (h : IntD kvs Cs) (c : Cell) (j : Int) : IntD (putK kvs (cK c) (.int j)) (addC Cs c) := by
  have keyc : ∀ kv ∈ kvs, ∃ d ∈ Cs, kv.1 = cK d := fun kv hkv => by
    have : kv.1 ∈ Cs.map cK := by rw [← h.keys]; exact List.mem_map.mpr ⟨kv, hkv, rfl⟩
    obtain ⟨d, hd, e⟩ := List.mem_map.mp this
    exact ⟨d, hd, e.symm⟩
  unfold putK addC
  by_cases m : c ∈ Cs
  · have an : (kvs.any fun kv => decide (kv.1 = cK c)) = true := by
      have : cK c ∈ kvs.map (·.1) := by rw [h.keys]; exact List.mem_map.mpr ⟨c, m, rfl⟩
      obtain ⟨kv, hkv, e⟩ := List.mem_map.mp this
      exact List.any_eq_true.mpr ⟨kv, hkv, decide_eq_true e⟩
    rw [if_pos an, if_pos m]
    refine ⟨?_, fun kv hkv => ?_⟩
    · rw [List.map_map, ← h.keys]
      refine List.map_congr_left fun kv _ => ?_
      show (if kv.1 = cK c then (kv.1, V.int j) else kv).1 = kv.1
      split <;> rfl
    · obtain ⟨kv0, h0, e⟩ := List.mem_map.mp hkv
      rw [← e]
      by_cases q : kv0.1 = cK c
      · rw [if_pos q]
        exact ⟨j, rfl⟩
      · rw [if_neg q]
        exact h.nums kv0 h0
  · have an : ¬ (kvs.any fun kv => decide (kv.1 = cK c)) = true := fun z => by
      obtain ⟨kv, hkv, e⟩ := List.any_eq_true.mp z
      obtain ⟨d, hd, e2⟩ := keyc kv hkv
      rw [of_decide_eq_true e] at e2
      rw [cK_inj e2] at m
      exact m hd
    rw [if_neg an, if_neg m]
    refine ⟨by rw [List.map_append, List.map_append, h.keys]; rfl, fun kv hkv => ?_⟩
    rcases List.mem_append.mp hkv with q | q
    · exact h.nums kv q
    · rw [List.mem_singleton.mp q]
      exact ⟨j, rfl⟩
theorem IntD.len {kvs : List (List Key × V)} {Cs : List Cell} (h : IntD kvs Cs) : kvs.length = Cs.length := by
  have := congrArg List.length h.keys
  rwa [List.length_map, List.length_map] at this
theorem keysC {H : Hp} : ∀ {kvs : List (List Key × V)} {Cs : List Cell} {bs : List Addr}, kvs.map (·.1) = Cs.map cK → IsKeys H kvs bs → Paired (fun q c => At H q c) bs Cs
  | [], [], _, _, .nil => .nil
  | [], _ :: _, _, e, _ => by cases e
  | _ :: _, [], _, e, _ => by cases e
  | kv :: kvs, c :: Cs, b :: bs, e, .cons h t => by
    rw [List.map_cons, List.map_cons] at e
    injection e with e1 e2
    refine .cons ?_ (keysC e2 t)
    have h : H b = some (.tup (kv.1.map kV)) := h
    rw [e1] at h
    exact h
end Sq

set_option Elab.async false
set_option linter.all false
set_option maxRecDepth 100000
set_option maxHeartbeats 4000000
/-! The law's blobs. -/
namespace Sq
open PySem PySem.Spec PyProof.Rows L2
def spBlob : Sp := fun vs H Q _ => ∃ (p : Addr) (n m : Nat) (tt : Int), vs = [.ref p, .int (m : Int), .int tt] ∧ PenAt H p n ∧ 1 ≤ m ∧ m ≤ 60 ∧ n < 900000 ∧
  ∀ l H' A n', PenAt H' p n' → n' ≤ n + 3 * m → Kp [p] H H' → CellsL H' l A → A.length = m → A.Nodup → Hangs A → A.head? = some (0, 0) → Q (.ref l) H'
/-- the state of a blob that grows: known and counts, and so on -/
structure Bb (H : Hp) (p ce kn co : Addr) (i : Nat) (A Cs : List Cell) (n : Nat) (G : Hp) : Prop where
  pen : PenAt G p n
  kp : Kp [p] H G
  gc : CellsL G ce A
  gk : G kn = some (.dT (lotK A))
  go : ∃ kvs, G co = some (.dT kvs) ∧ IntD kvs Cs
  nd : A.Nodup
  hangs : Hangs A
  ndC : Cs.Nodup
  len : A.length = i + 1
  sub : ∀ x ∈ Cs, ∃ a ∈ A, x ∈ besideC a
  hd : A.head? = some (0, 0)
theorem head_app {A : List Cell} {c : Cell} (h : A.head? = some c) (B : List Cell) : (A ++ B).head? = some c := by
  cases A with
  | nil => cases h
  | cons a t => exact h
theorem Bb.ek {H : Hp} {p ce kn co : Addr} {i n n' : Nat} {A Cs : List Cell} {G G1 : Hp} (I : Bb H p ce kn co i A Cs n G) (k : Kp [p] G G1) (hp : PenAt G1 p n') : Bb H p ce kn co i A Cs n' G1 := by
  have ek := pen_ek I.pen k
  obtain ⟨kvs, e, d⟩ := I.go
  exact ⟨hp, I.kp.trans k, I.gc.ek ek, ek.dT I.gk, ⟨kvs, ek.dT e, d⟩, I.nd, I.hangs, I.ndC, I.len, I.sub, I.hd⟩
theorem eqv_nil (F : List Cell) : PyData.eqv (.list (F.map cD)) (.list []) = decide (F = []) := by
  cases F with
  | nil => rfl
  | cons x xs => rw [decide_eq_false (by simp)]; rfl
theorem lay_cells {F : List Cell} : Lay 2 (.list (F.map cD)) := lay_list fun d hd => by
  obtain ⟨c, _, rfl⟩ := List.mem_map.mp hd
  exact lay_cell c
/-- cells to pick from -/
def Good (A F : List Cell) : Prop := F.length ≤ 1000 ∧ ∀ x ∈ F, x ∉ A ∧ ∃ a ∈ A, x ∈ besideC a
def intOf : Option V → Int
  | some (.int i) => i
  | _ => 0
theorem Bb.putC {H : Hp} {p ce kn co : Addr} {i n : Nat} {A Cs : List Cell} {G : Hp} {kvs : List (List Key × V)} {y : Cell} {j : Int} (I : Bb H p ce kn co i A Cs n G) (e : G co = some (.dT kvs)) (d : IntD kvs Cs) (hco : H co = none) (nck : co ≠ kn) (hy : ∃ a ∈ A, y ∈ besideC a) :
    Bb H p ce kn co i A (addC Cs y) n (upd G co (.dT (putK kvs (cK y) (.int j)))) := by
  have off : ∀ {q : Addr} {x : Cell}, At G q x → At (upd G co (.dT (putK kvs (cK y) (.int j)))) q x := fun h => h.off e (by intro xs z; cases z)
  obtain ⟨cs, ec, pc⟩ := I.gc
  obtain ⟨c0, zs, i0, dg, fo, e1, e2, r⟩ := I.pen.ex
  refine ⟨⟨⟨c0, zs, i0, dg, fo, ?_, ?_, r⟩⟩, I.kp.put hco, ⟨cs, ?_, paired_imp (fun _ _ h => off h) pc⟩, ?_, ⟨_, upd_same, d.put y j⟩, I.nd, I.hangs, addC_nodup I.ndC, I.len, fun x hx => ?_, I.hd⟩
  · rw [upd_ne (ne_of e1 e (by intro z; cases z))]
    exact e1
  · rw [upd_ne (ne_of e2 e (by intro z; cases z))]
    exact e2
  · rw [upd_ne (ne_of ec e (by intro z; cases z))]
    exact ec
  · rw [upd_ne (Ne.symm nck)]
    exact I.gk
  · rcases addC_mem.mp hx with h | h
    · exact I.sub x h
    · exact h ▸ hy
theorem neg_last {α : Type} {xs : List α} {v : α} (h : xs[xs.length - 1]? = some v) : atI xs (-1) = some v := by
  have ne : xs ≠ [] := fun z => by rw [z] at h; cases h
  obtain ⟨ys, y, rfl⟩ := snoc_inv ne
  have : (ys ++ [y])[(ys ++ [y]).length - 1]? = some y := by simp
  rw [this] at h
  rw [Option.some.inj h]
  exact atI_last ys v
section
variable {P : Program} {w : World} {K : PySem.W.Frag} {mg : Str → Option Value} {base : Heap}
theorem scBl : FnScope ["_law_pen_here", "_law_many", "_law_taste", "_law_cells", "_law_known", "_law_counts", "_law_lap", "_law_one", "_law_free", "_law_thin", "_law_thick"] ["_law_pen_here", "_law_many", "_law_taste"] (defScope lBlob) := ⟨rfl, rfl, rfl, by decide +kernel, rfl, by decide +kernel, by decide +kernel⟩
/-- the body of the lap -/
def blobLap : List Stmt := match (defBody lBlob).getD 2 (.Pass ⟨0, 0, 0, 0⟩) with
  | .For (body := b) .. => b
  | _ => []
theorem ok_blob {f : Addr} {fd : FuncData} (F : FnP K "_law_t2_blob" lBlob f fd) (B : Bl mg) (DB : Df P w K mg base CX0 1 "_law_t2_beside" ["_law_cell"] spLBeside) (DD : Df P w K mg base CX0 1 "_law_draw" ["_law_pen_here", "_law_many"] spDraw) (DP : Df P w K mg base CX0 2 "_law_pick" ["_law_pen_here", "_law_some"] (spPick K)) :
    FnOk P w K mg base CX0 3 f fd ["_law_pen_here", "_law_many", "_law_taste"] spBlob := by
  refine F.ok scBl (fun vs H Q E h => ?_) (fun cdv A0 outer s H vs Q E hr h => ?_)
  · obtain ⟨p, n, m, tt, rfl, _⟩ := h
    rfl
  · obtain ⟨p, n0, m, taste, rfl, hp, m1, m60, hn, k⟩ := h
    have hu := hu_of hr
    have h64 := room64 hr
    -- a cell is picked and put
    obtain ⟨t2, ht2, key2⟩ : ∃ t, PSs (cxOf CX0 P w K mg base ["_law_pen_here", "_law_many", "_law_taste", "_law_cells", "_law_known", "_law_counts", "_law_lap", "_law_one", "_law_free", "_law_thin", "_law_thick"] "_law_t2_blob" (defScope lBlob) f cdv A0 outer s H E).nox (blobLap.drop 6) t ∧
        ∀ (D : Ends) (ce kn co fr : Addr) (v6 v7 v9 v10 : Option V) (i : Nat) (A Cs F : List Cell) (n : Nat) (G : Hp), Bb H p ce kn co i A Cs n G → H ce = none → H kn = none → co ≠ kn → CellsL G fr F → F ≠ [] → Good A F → i ≤ 60 → n < 1000000 →
          (∀ v8 x G', Bb H p ce kn co (i + 1) (A ++ [x]) Cs (n + 1) G' → D.nx [some (.ref p), some (.int (m : Int)), some (.int taste), some (.ref ce), some (.ref kn), some (.ref co), v6, v7, v8, v9, v10] G') → t D [some (.ref p), some (.int (m : Int)), some (.int taste), some (.ref ce), some (.ref kn), some (.ref co), v6, v7, some (.ref fr), v9, v10] G := by
      refine ⟨_, (pss_cons (ps_expr (pe_bm PySem.F.plainAttrs_list PySem.F.slot_list_append PySem.F.type_list_append mt_append (pv 3) (pa_cons (pe_df DP hr (by rfl) pass0 (pa_cons (pv 0) (pa_cons (pv 8) pa_nil))) pa_nil)))
        (pss_one (ps_dput hu (pv 4) (pe_ix (ix_listK (K := K) rfl) (pv 3) (pe_un un_neg pe_int) (fun _ _ => rfl)) pe_bl rfl))), ?_⟩
      intro D ce kn co fr v6 v7 v9 v10 i A Cs F n G I hce hkn nck cf neF ⟨lenF, fr1⟩ i60 hn kD
      obtain ⟨fs, ef, pf⟩ := cf
      obtain ⟨cs, ec, pc⟩ := I.gc
      obtain ⟨kvs, eco, iD⟩ := I.go
      have lf : (fs.map V.ref).length = F.length := by rw [List.length_map]; exact Paired.length pf
      have lc : cs.length = A.length := Paired.length pc
      have lF : 0 < F.length := List.length_pos_iff.mpr neF
      refine ⟨_, rfl, .inl ⟨rfl, _, SqL.of ec⟩, _, rfl, _, rfl, p, fr, n, _, rfl, I.pen, hn, .inl (SqL.of ef), by rw [lf]; exact lF, by rw [lf]; omega, fun j x G1 hx hp1 hb1 => ?_⟩
      rw [List.getElem?_map] at hx
      obtain ⟨b, hb, rfl⟩ := Option.map_eq_some_iff.mp hx
      obtain ⟨c, hc, ac⟩ := paired_get pf hb
      obtain ⟨cA, a, aA, ca⟩ := fr1 c (List.mem_of_getElem? hc)
      have kp1 := kp_pick hb1
      have ek := pen_ek I.pen kp1
      obtain ⟨c0, zs, i0, dg, fo, ep, _⟩ := I.pen.ex
      have ec1 : G1 ce = some (.lst (cs.map V.ref)) := ek.lst ec
      refine ⟨ce, _, _, rfl, rfl, ec1, by rw [List.length_map, lc, I.len, sizeLine_eq]; omega, ?_⟩
      have ace : At (upd G1 ce (.lst (cs.map V.ref ++ [V.ref b]))) b c := (ek.at ac).off ec1 (by intro xs z; cases z)
      have ek1 : G1 kn = some (.dT (lotK A)) := ek.dT I.gk
      have nkc : kn ≠ ce := fun z => by rw [z, ec1] at ek1; cases ek1
      have eco1 : G1 co = some (.dT kvs) := ek.dT eco
      have ncc : co ≠ ce := fun z => by rw [z, ec1] at eco1; cases eco1
      have ekn : upd G1 ce (.lst (cs.map V.ref ++ [V.ref b])) kn = some (.dT (lotK A)) := by rw [upd_ne nkc]; exact ek1
      refine ⟨_, rfl, _, rfl, _, rfl, ce, _, _, _, rfl, rfl, SqL.of upd_same, atI_last _ _, kn, _, rfl, dput_lot ekn ace cA (by rw [I.len, sizeLine_eq]; omega), ?_⟩
      have off : ∀ {q : Addr} {x : Cell}, At G q x → At (upd (upd G1 ce (.lst (cs.map V.ref ++ [V.ref b]))) kn (.dT (lotK (A ++ [c])))) q x := fun {q x} h => ((ek.at h).off ec1 (by intro xs z; cases z)).off ekn (by intro xs z; cases z)
      have npc : p ≠ ce := fun z => by rw [← z, ep] at ec; cases ec
      have npk : p ≠ kn := fun z => by
        have e := I.gk
        rw [← z, ep] at e
        cases e
      have hp2 : PenAt (upd (upd G1 ce (.lst (cs.map V.ref ++ [V.ref b]))) kn (.dT (lotK (A ++ [c])))) p (n + 1) := by
        obtain ⟨c1, zs1, i1, dg1, fo1, e1, e2, r⟩ := hp1.ex
        have n1 : c1 ≠ kn := fun z => by rw [z, ek1] at e2; cases e2
        have n2 : c1 ≠ ce := fun z => by
          rw [z, ec1] at e2
          have e2 : cs.map V.ref = zs1.map V.int := HO.lst.inj (Option.some.inj e2)
          have lcs : 0 < cs.length := by rw [lc, I.len]; omega
          cases cs with
          | nil => cases lcs
          | cons u us =>
            cases zs1 with
            | nil => cases e2
            | cons z zs1 => cases e2
        exact ⟨⟨c1, zs1, i1, dg1, fo1, by rw [upd_ne npk, upd_ne npc]; exact e1, by rw [upd_ne n1, upd_ne n2]; exact e2, r⟩⟩
      refine kD _ c _ ⟨hp2, (((I.kp.trans kp1).put hce).put hkn), ⟨cs ++ [b], by rw [upd_ne (Ne.symm nkc), upd_same, List.map_append]; rfl, (paired_imp (fun _ _ h => off h) pc).snoc (off ac)⟩, upd_same, ⟨kvs, by rw [upd_ne nck, upd_ne ncc]; exact eco1, iD⟩, ?_, hangs_snoc I.hangs aA ca, I.ndC, by rw [List.length_append, I.len]; rfl, fun x hx => ?_, head_app I.hd _⟩
      · exact List.nodup_append.mpr ⟨I.nd, by simp, fun a ha b hb => by rw [List.mem_singleton.mp hb]; exact fun z => cA (z ▸ ha)⟩
      · obtain ⟨a, ha, m⟩ := I.sub x hx
        exact ⟨a, List.mem_append_left _ ha, m⟩
    -- by the taste
    obtain ⟨t1, ht1, key1⟩ : ∃ t, PSs (cxOf CX0 P w K mg base ["_law_pen_here", "_law_many", "_law_taste", "_law_cells", "_law_known", "_law_counts", "_law_lap", "_law_one", "_law_free", "_law_thin", "_law_thick"] "_law_t2_blob" (defScope lBlob) f cdv A0 outer s H E).nox (blobLap.drop 5) t ∧
        ∀ (D : Ends) (ce kn co fr tk : Addr) (v6 v7 v9 : Option V) (i : Nat) (A Cs F F2 : List Cell) (n : Nat) (G : Hp), Bb H p ce kn co i A Cs n G → H ce = none → H kn = none → co ≠ kn → CellsL G fr F → F ≠ [] → Good A F → CellsL G tk F2 → Good A F2 → i ≤ 60 → n + 1 < 1000000 →
          (∀ v8 x n' G', n' ≤ n + 2 → Bb H p ce kn co (i + 1) (A ++ [x]) Cs n' G' → D.nx [some (.ref p), some (.int (m : Int)), some (.int taste), some (.ref ce), some (.ref kn), some (.ref co), v6, v7, v8, v9, some (.ref tk)] G') →
          t D [some (.ref p), some (.int (m : Int)), some (.int taste), some (.ref ce), some (.ref kn), some (.ref co), v6, v7, some (.ref fr), v9, some (.ref tk)] G := by
      refine ⟨_, (pss_cons (ps_if (PW.pt (pw_and (pt_cmpR op_eq (pv 2) pe_int (nomark _)) (pw_and (pt_cmpR (op_neK (K := K) rfl h64) (pv 10) (pe_lst pa_nil) (nomark _)) (pw_and1 (pt_cmpR op_gt (pe_df DD hr (by rfl) pass0 (pa_cons (pv 0) (pa_cons pe_int pa_nil))) pe_int (nomark _))))))
        (pss_one (ps_set (i := 8) scBl.nd rfl (.inl rfl) (pv 10)))
        pss_nil) ht2), ?_⟩
      intro D ce kn co fr tk v6 v7 v9 i A Cs F F2 n G I hce hkn nck cf neF gF ct gF2 i60 hn kD
      refine ⟨_, rfl, rfl, _, rfl, ite2 (fun h1 => ?_) (fun h1 => ?_)⟩
      · refine ⟨_, rfl, Nat.zero_le _, fun l hl => ?_⟩
        have s1 := same_new (o := .lst []) hl
        have I1 := I.ek (Kp.of s1) (I.pen.same s1)
        have ct1 := ct.ek (.of s1)
        refine ⟨_, _, ct1.dp, .lst (SqL.of upd_same) .nil, lay_cells.shaped (by decide), (lay_list (n := 0) (ds := []) (by simp)).shaped (by decide), _, rfl, ?_⟩
        rw [eqv_nil]
        refine ite2 (fun h2 => ?_) (fun h2 => ?_)
        · have ne2 : F2 ≠ [] := by simpa using h2
          refine ⟨_, rfl, p, n, 9, rfl, I1.pen, by decide, by decide, by omega, fun r G1 r0 r1 hp1 hb1 => ⟨_, _, rfl, rfl, _, rfl, ?_⟩⟩
          have kp1 := kp_pick hb1
          have I2 := I1.ek kp1 hp1
          have ek1 := pen_ek I1.pen kp1
          refine ite2 (fun h3 => ?_) (fun h3 => ?_)
          · exact ⟨_, rfl, key2 D ce kn co tk v6 v7 v9 _ i A Cs F2 (n + 1) G1 I2 hce hkn nck (ct1.ek ek1) ne2 gF2 i60 (by omega) fun v8 x G' b => kD v8 x _ G' (by omega) b⟩
          · exact key2 D ce kn co fr v6 v7 v9 _ i A Cs F (n + 1) G1 I2 hce hkn nck ((cf.ek (.of s1)).ek ek1) neF gF i60 (by omega) fun v8 x G' b => kD v8 x _ G' (by omega) b
        · exact key2 D ce kn co fr v6 v7 v9 _ i A Cs F n _ I1 hce hkn nck (cf.ek (.of s1)) neF gF i60 (by omega) fun v8 x G' b => kD v8 x _ G' (by omega) b
      · exact key2 D ce kn co fr v6 v7 v9 _ i A Cs F n G I hce hkn nck cf neF gF i60 (by omega) fun v8 x G' b => kD v8 x _ G' (by omega) b
    obtain ⟨t0, ht0, key0⟩ : ∃ t, PSs (cxOf CX0 P w K mg base ["_law_pen_here", "_law_many", "_law_taste", "_law_cells", "_law_known", "_law_counts", "_law_lap", "_law_one", "_law_free", "_law_thin", "_law_thick"] "_law_t2_blob" (defScope lBlob) f cdv A0 outer s H E).nox (blobLap.drop 4) t ∧
        ∀ (D : Ends) (ce kn co fr tn tk : Addr) (v6 v7 : Option V) (i : Nat) (A Cs F F1 F2 : List Cell) (n : Nat) (G : Hp), Bb H p ce kn co i A Cs n G → H ce = none → H kn = none → co ≠ kn → CellsL G fr F → F ≠ [] → Good A F → CellsL G tn F1 → Good A F1 → CellsL G tk F2 → Good A F2 → i ≤ 60 → n + 2 < 1000000 →
          (∀ v8 x n' G', n' ≤ n + 3 → Bb H p ce kn co (i + 1) (A ++ [x]) Cs n' G' → D.nx [some (.ref p), some (.int (m : Int)), some (.int taste), some (.ref ce), some (.ref kn), some (.ref co), v6, v7, v8, some (.ref tn), some (.ref tk)] G') →
          t D [some (.ref p), some (.int (m : Int)), some (.int taste), some (.ref ce), some (.ref kn), some (.ref co), v6, v7, some (.ref fr), some (.ref tn), some (.ref tk)] G := by
      refine ⟨_, (pss_cons (ps_if (PW.pt (pw_and (pt_cmpR op_eq (pv 2) pe_int (nomark _)) (pw_and (pt_cmpR (op_neK (K := K) rfl h64) (pv 9) (pe_lst pa_nil) (nomark _)) (pw_and1 (pt_cmpR op_gt (pe_df DD hr (by rfl) pass0 (pa_cons (pv 0) (pa_cons pe_int pa_nil))) pe_int (nomark _))))))
        (pss_one (ps_set (i := 8) scBl.nd rfl (.inl rfl) (pv 9)))
        pss_nil) ht1), ?_⟩
      intro D ce kn co fr tn tk v6 v7 i A Cs F F1 F2 n G I hce hkn nck cf neF gF cn gF1 ct gF2 i60 hn kD
      refine ⟨_, rfl, rfl, _, rfl, ite2 (fun h1 => ?_) (fun h1 => ?_)⟩
      · refine ⟨_, rfl, Nat.zero_le _, fun l hl => ?_⟩
        have s1 := same_new (o := .lst []) hl
        have I1 := I.ek (Kp.of s1) (I.pen.same s1)
        have cn1 := cn.ek (.of s1)
        have ct1 := ct.ek (.of s1)
        refine ⟨_, _, cn1.dp, .lst (SqL.of upd_same) .nil, lay_cells.shaped (by decide), (lay_list (n := 0) (ds := []) (by simp)).shaped (by decide), _, rfl, ?_⟩
        rw [eqv_nil]
        refine ite2 (fun h2 => ?_) (fun h2 => ?_)
        · have ne2 : F1 ≠ [] := by simpa using h2
          refine ⟨_, rfl, p, n, 9, rfl, I1.pen, by decide, by decide, by omega, fun r G1 r0 r1 hp1 hb1 => ⟨_, _, rfl, rfl, _, rfl, ?_⟩⟩
          have kp1 := kp_pick hb1
          have I2 := I1.ek kp1 hp1
          have ek1 := pen_ek I1.pen kp1
          refine ite2 (fun h3 => ?_) (fun h3 => ?_)
          · exact ⟨_, rfl, key1 D ce kn co tn tk v6 v7 _ i A Cs F1 F2 (n + 1) G1 I2 hce hkn nck (cn1.ek ek1) ne2 gF1 (ct1.ek ek1) gF2 i60 (by omega) fun v8 x n' G' hn' b => kD v8 x n' G' (by omega) b⟩
          · exact key1 D ce kn co fr tk v6 v7 _ i A Cs F F2 (n + 1) G1 I2 hce hkn nck ((cf.ek (.of s1)).ek ek1) neF gF (ct1.ek ek1) gF2 i60 (by omega) fun v8 x n' G' hn' b => kD v8 x n' G' (by omega) b
        · exact key1 D ce kn co fr tk v6 v7 _ i A Cs F F2 n _ I1 hce hkn nck (cf.ek (.of s1)) neF gF ct1 gF2 i60 (by omega) fun v8 x n' G' hn' b => kD v8 x n' G' (by omega) b
      · exact key1 D ce kn co fr tk v6 v7 _ i A Cs F F2 n G I hce hkn nck cf neF gF ct gF2 i60 (by omega) fun v8 x n' G' hn' b => kD v8 x n' G' (by omega) b
    -- the three lists
    obtain ⟨t3, ht3, key3⟩ : ∃ t, PSs (cxOf CX0 P w K mg base ["_law_pen_here", "_law_many", "_law_taste", "_law_cells", "_law_known", "_law_counts", "_law_lap", "_law_one", "_law_free", "_law_thin", "_law_thick"] "_law_t2_blob" (defScope lBlob) f cdv A0 outer s H E).nox (blobLap.drop 1) t ∧
        ∀ (D : Ends) (ce kn co : Addr) (v6 v7 v8 v9 v10 : Option V) (i : Nat) (A Cs : List Cell) (n : Nat) (G : Hp), Bb H p ce kn co i A Cs n G → H ce = none → H kn = none → co ≠ kn → (∀ a ∈ A, ∀ y ∈ besideC a, y ∈ Cs) → Cs.length ≤ 1000 → i ≤ 60 → n + 2 < 1000000 →
          (∀ v8 v9 v10 x n' G', n' ≤ n + 3 → Bb H p ce kn co (i + 1) (A ++ [x]) Cs n' G' → D.nx [some (.ref p), some (.int (m : Int)), some (.int taste), some (.ref ce), some (.ref kn), some (.ref co), v6, v7, v8, v9, v10] G') →
          t D [some (.ref p), some (.int (m : Int)), some (.int taste), some (.ref ce), some (.ref kn), some (.ref co), v6, v7, v8, v9, v10] G := by
      refine ⟨_, (pss_cons (ps_setLc (i := 8) (own := [("_law_one", 7)]) (g := gName 7) (by rfl) scBl.nd rfl rfl (sw_true rfl rfl rfl (by decide +kernel)) (pi_list (pe_callTy (call_list_dT rfl) (by rfl) B.list PyProof.Rows.boot_list (pa_cons (pv 5) pa_nil))) (blkOk_by (N := ["_law_pen_here", "_law_many", "_law_taste", "_law_cells", "_law_known", "_law_counts", "_law_lap", "_law_one", "_law_free", "_law_thin", "_law_thick"]) (sc := defScope lBlob) (by decide +kernel)) (fun _ _ _ _ _ => pg_name (i := 7) scBl.nd rfl (Or.inl rfl)) (fun _ _ _ _ _ => (pts_one (pt_cmp (pc_dnotin hu (pv 7) (pv 4))))) (fun _ _ _ _ _ => (pv 7)))
        (pss_cons (ps_setLc (i := 9) (own := [("_law_one", 7)]) (g := gName 7) (by rfl) scBl.nd rfl rfl (sw_true rfl rfl rfl (by decide +kernel)) (pi_list (pv 8)) (blkOk_by (N := ["_law_pen_here", "_law_many", "_law_taste", "_law_cells", "_law_known", "_law_counts", "_law_lap", "_law_one", "_law_free", "_law_thin", "_law_thick"]) (sc := defScope lBlob) (by decide +kernel)) (fun _ _ _ _ _ => pg_name (i := 7) scBl.nd rfl (Or.inl rfl)) (fun _ _ _ _ _ => (pts_one (pt_cmpR op_eq (pe_dget hu (pv 5) (pv 7) (fun _ _ => rfl)) pe_int (nomark _)))) (fun _ _ _ _ _ => (pv 7)))
        (pss_cons (ps_setLc (i := 10) (own := [("_law_one", 7)]) (g := gName 7) (by rfl) scBl.nd rfl rfl (sw_true rfl rfl rfl (by decide +kernel)) (pi_list (pv 8)) (blkOk_by (N := ["_law_pen_here", "_law_many", "_law_taste", "_law_cells", "_law_known", "_law_counts", "_law_lap", "_law_one", "_law_free", "_law_thin", "_law_thick"]) (sc := defScope lBlob) (by decide +kernel)) (fun _ _ _ _ _ => pg_name (i := 7) scBl.nd rfl (Or.inl rfl)) (fun _ _ _ _ _ => (pts_one (pt_cmpR op_gt (pe_dget hu (pv 5) (pv 7) (fun _ _ => rfl)) pe_int (nomark _)))) (fun _ _ _ _ _ => (pv 7))) ht0))), ?_⟩
      intro D ce kn co v6 v7 v8 v9 v10 i A Cs n G I hce hkn nck full lenC i60 hn kD
      obtain ⟨kvs, eco, iD⟩ := I.go
      refine ⟨_, rfl, co, kvs, rfl, .inl eco, fun l0 bs hl0 ik => ?_⟩
      have s0 := same_new (o := .lst (bs.map V.ref)) hl0
      have pb : Paired (fun q c => At (upd G l0 (.lst (bs.map V.ref))) q c) bs Cs := paired_imp (fun _ _ h => s0 _ _ h) (keysC iD.keys ik)
      have el0 : upd G l0 (.lst (bs.map V.ref)) l0 = some (.lst (bs.map V.ref)) := upd_same
      generalize upd G l0 (.lst (bs.map V.ref)) = G0 at s0 pb el0 ⊢
      have lb : bs.length = Cs.length := Paired.length pb
      refine ⟨l0, rfl, ⟨_, SqL.of el0⟩, fun fr hfr => ?_⟩
      refine lc_cells (walk_list (K := K) (a := l0) (xs := bs.map V.ref)) hfr (fun j => (Cs.take j).filter fun c => !decide (c ∈ A)) rfl (by rw [List.length_map]; omega) (fun j G2 _ sm => SqL.of (sm _ _ el0)) ?_ ?_
      · rintro j x G2 G2' K1 K0 hj sm ⟨rfl, hx⟩ k1 k0
        rw [List.getElem?_map] at hx
        obtain ⟨b, hb, rfl⟩ := Option.map_eq_some_iff.mp hx
        obtain ⟨c, hc, ac⟩ := paired_get pb hb
        have ac' : At G2' b c := sm _ _ ac
        have st : ((Cs.take (j + 1)).filter fun c => !decide (c ∈ A)) = ((Cs.take j).filter fun c => !decide (c ∈ A)) ++ (if (!decide (c ∈ A)) = true then [c] else []) := by rw [take_snoc hc, filter_snoc]
        refine ⟨rfl, _, rfl, _, rfl, kn, _, rfl, dget_lot (sm _ _ (s0 _ _ I.gk)) ac', _, rfl, ?_⟩
        rw [lot_is]
        refine ite2 (fun h1 => ?_) (fun h1 => ?_)
        · rw [if_pos h1] at st
          exact ⟨_, rfl, k1 b c _ same_refl ac' st⟩
        · rw [if_neg h1, List.append_nil] at st
          exact k0 _ same_refl st
      rintro G1 fs sm1 gfr pfr
      have eC : Cs.take (bs.map V.ref).length = Cs := by rw [List.length_map, lb, List.take_length]
      rw [eC] at pfr
      obtain ⟨F, eF⟩ : ∃ F, F = Cs.filter fun c => !decide (c ∈ A) := ⟨_, rfl⟩
      rw [← eF] at pfr
      have sA := s0.trans sm1
      have memF : ∀ x, x ∈ F → x ∈ Cs ∧ x ∉ A := fun x hx => by
        rw [eF, List.mem_filter] at hx
        exact ⟨hx.1, by simpa using hx.2⟩
      have gF : Good A F := ⟨by rw [eF]; exact Nat.le_trans (List.length_filter_le _ _) lenC, fun x hx => ⟨(memF x hx).2, I.sub x (memF x hx).1⟩⟩
      have neF : F ≠ [] := by
        obtain ⟨a, ha, x, hx, nx⟩ := ext_free (A := A) (fun z => by have := I.len; rw [z] at this; cases this)
        have : x ∈ F := by
          rw [eF, List.mem_filter]
          exact ⟨full a ha x hx, by simpa using nx⟩
        exact List.ne_nil_of_mem this
      have cf : CellsL G1 fr F := ⟨fs, gfr, pfr⟩
      have eco1 : G1 co = some (.dT kvs) := sA _ _ eco
      have lfs : fs.length = F.length := Paired.length pfr
      -- a list by the counts
      have val : ∀ {c : Cell}, c ∈ F → valV kvs (cK c) = some (.int (intOf (valV kvs (cK c)))) := fun {c} hc => by
        rcases iD.get c with ⟨_, j, e⟩ | ⟨no, _⟩
        · rw [e]
          rfl
        · exact absurd (memF c hc).1 no
      refine ⟨_, rfl, fr, rfl, ⟨_, SqL.of gfr⟩, fun tn htn => ?_⟩
      refine lc_cells (walk_list (K := K) (a := fr) (xs := fs.map V.ref)) htn (fun j => (F.take j).filter fun c => decide (V.int (intOf (valV kvs (cK c))) = V.int 1)) rfl (by rw [List.length_map]; have := gF.1; omega) (fun j G2 _ sm => SqL.of (sm _ _ gfr)) ?_ ?_
      · rintro j x G2 G2' K1 K0 hj sm ⟨rfl, hx⟩ k1 k0
        rw [List.getElem?_map] at hx
        obtain ⟨b, hb, rfl⟩ := Option.map_eq_some_iff.mp hx
        obtain ⟨c, hc, ac⟩ := paired_get pfr hb
        have ac' : At G2' b c := sm _ _ ac
        have st : ((F.take (j + 1)).filter fun c => decide (V.int (intOf (valV kvs (cK c))) = V.int 1)) = ((F.take j).filter fun c => decide (V.int (intOf (valV kvs (cK c))) = V.int 1)) ++ (if decide (V.int (intOf (valV kvs (cK c))) = V.int 1) = true then [c] else []) := by rw [take_snoc hc, filter_snoc]
        have dg : DGet G2' co (.ref b) (some (.int (intOf (valV kvs (cK c))))) := val (List.mem_of_getElem? hc) ▸ DGet.t (sm _ _ eco1) ac'
        refine ⟨rfl, _, rfl, _, rfl, co, _, rfl, dg, rfl, _, rfl, ?_⟩
        refine ite2 (fun h1 => ?_) (fun h1 => ?_)
        · rw [if_pos h1] at st
          exact ⟨_, rfl, k1 b c _ same_refl ac' st⟩
        · rw [if_neg h1, List.append_nil] at st
          exact k0 _ same_refl st
      rintro G3 ns sm3 gtn ptn
      have eF2 : F.take (fs.map V.ref).length = F := by rw [List.length_map, lfs, List.take_length]
      rw [eF2] at ptn
      refine ⟨_, rfl, fr, rfl, ⟨_, SqL.of (sm3 _ _ gfr)⟩, fun tk htk => ?_⟩
      refine lc_cells (walk_list (K := K) (a := fr) (xs := fs.map V.ref)) htk (fun j => (F.take j).filter fun c => decide (intOf (valV kvs (cK c)) > 1)) rfl (by rw [List.length_map]; have := gF.1; omega) (fun j G2 _ sm => SqL.of (sm _ _ (sm3 _ _ gfr))) ?_ ?_
      · rintro j x G2 G2' K1 K0 hj sm ⟨rfl, hx⟩ k1 k0
        rw [List.getElem?_map] at hx
        obtain ⟨b, hb, rfl⟩ := Option.map_eq_some_iff.mp hx
        obtain ⟨c, hc, ac⟩ := paired_get pfr hb
        have ac' : At G2' b c := sm _ _ (sm3 _ _ ac)
        have st : ((F.take (j + 1)).filter fun c => decide (intOf (valV kvs (cK c)) > 1)) = ((F.take j).filter fun c => decide (intOf (valV kvs (cK c)) > 1)) ++ (if decide (intOf (valV kvs (cK c)) > 1) = true then [c] else []) := by rw [take_snoc hc, filter_snoc]
        have dg : DGet G2' co (.ref b) (some (.int (intOf (valV kvs (cK c))))) := val (List.mem_of_getElem? hc) ▸ DGet.t (sm _ _ (sm3 _ _ eco1)) ac'
        refine ⟨rfl, _, rfl, _, rfl, co, _, rfl, dg, _, _, rfl, rfl, _, rfl, ?_⟩
        refine ite2 (fun h1 => ?_) (fun h1 => ?_)
        · rw [if_pos h1] at st
          exact ⟨_, rfl, k1 b c _ same_refl ac' st⟩
        · rw [if_neg h1, List.append_nil] at st
          exact k0 _ same_refl st
      rintro G4 ms sm4 gtk ptk
      rw [eF2] at ptk
      have s13 := sm3.trans sm4
      have sub : ∀ (pr : Cell → Bool), Good A (F.filter pr) := fun pr => ⟨Nat.le_trans (List.length_filter_le _ _) gF.1, fun x hx => gF.2 x (List.mem_filter.mp hx).1⟩
      exact key0 D ce kn co fr tn tk v6 v7 i A Cs F _ _ n G4 (I.ek (Kp.of (sA.trans s13)) (I.pen.same (sA.trans s13))) hce hkn nck (cf.ek (.of s13)) neF gF (⟨ns, sm4 _ _ gtn, paired_imp (fun _ _ h => sm4 _ _ h) ptn⟩) (sub _) ⟨ms, gtk, ptk⟩ (sub _) i60 hn fun v8 x n' G' hn' b => kD v8 _ _ x n' G' hn' b
    refine ⟨_, PSs.nox (pss_cons (ps_asg (pe_tup (pa_cons (pe_lst (pa_cons (pe_tup (pa_cons pe_int (pa_cons pe_int pa_nil))) pa_nil)) (pa_cons pe_dnewT (pa_cons pe_dnewT pa_nil)))) (pg_tup (by rfl) (pgs_cons (pg_name (i := 3) scBl.nd rfl (.inl rfl)) (pgs_cons (pg_name (i := 4) scBl.nd rfl (.inr rfl)) (pgs_cons (pg_name (i := 5) scBl.nd rfl (.inr rfl)) pgs_nil)))))
      (pss_cons (ps_dput hu (pv 4) (pe_tup (pa_cons pe_int (pa_cons pe_int pa_nil))) pe_bl rfl)
      (pss_cons (ps_for PassesOwn.never rfl (pi_range1 (by rfl) B.range (pa_cons (pe_op op_sub (pv 1) pe_int) pa_nil)) (pg_name (i := 6) scBl.nd rfl (.inl rfl))
      (pss_cons (ps_for PassesOwn.never rfl (pi_list (pe_df DB hr (by rfl) pass0 (pa_cons (pe_ix (ix_listK (K := K) rfl) (pv 3) (pe_un un_neg pe_int) (fun _ _ => rfl)) pa_nil))) (pg_name (i := 7) scBl.nd rfl (.inl rfl))
        (pss_one (ps_dput hu (pv 5) (pv 7) (pe_op op_add (pe_dget2 hu (pv 5) (pv 7) pe_int ⟨rfl, rfl, rfl, rfl⟩) pe_int) rfl))) ht3))
      (pss_one (ps_ret (pv 3)))))), ?_⟩
    refine ⟨two_le, fun q0 hq0 => ⟨(by show 1 ≤ sizeLine; rw [sizeLine_eq]; decide), fun ce hce => fun kn hkn => fun co hco => ⟨three_le, fun tp htp => ?_⟩⟩⟩
    have s0 := same_new (o := .tup [.int 0, .int 0]) hq0
    have s1 := same_new (o := .lst [.ref q0]) hce
    have s2 := same_new (o := .dT []) hkn
    have s3 := same_new (o := .dT []) hco
    have s4 := same_new (o := .tup [.ref ce, .ref kn, .ref co]) htp
    refine ⟨tp, _, rfl, SqT.of upd_same, rfl, _, _, rfl, _, _, rfl, _, _, rfl, rfl, ?_⟩
    have hceH : H ce = none := s0.free hce
    have hknH : H kn = none := (s0.trans s1).free hkn
    have hcoH : H co = none := ((s0.trans s1).trans s2).free hco
    have sA := ((s0.trans s1).trans s2).trans (s3.trans s4)
    have nck : co ≠ kn := fun z => by rw [z, upd_same] at hco; cases hco
    have e0 := s4 _ _ (s3 _ _ (s2 _ _ (s1 _ _ (upd_same (a := q0) (o := .tup [.int 0, .int 0])))))
    have ece := s4 _ _ (s3 _ _ (s2 _ _ (upd_same (a := ce) (o := .lst [.ref q0]))))
    have ekn := s4 _ _ (s3 _ _ (upd_same (a := kn) (o := .dT [])))
    have eco := s4 _ _ (upd_same (a := co) (o := .dT []))
    refine ⟨_, rfl, two_le, fun q1 hq1 => ?_⟩
    have s5 := same_new (o := .tup [.int 0, .int 0]) hq1
    have ekn5 := s5 _ _ ekn
    refine ⟨kn, _, rfl, dput_lot (L := []) (c := (0, 0)) ekn5 upd_same (by simp) (by rw [sizeLine_eq]; decide), ?_⟩
    have sB := sA.trans s5
    have ece5 := s5 _ _ ece
    have eco5 := s5 _ _ eco
    have e05 := s5 _ _ e0
    have hp5 := hp.same sB
    have nkc : ce ≠ kn := ne_of ece5 ekn5 (by intro z; cases z)
    have start : Bb H p ce kn co 0 [(0, 0)] [] n0 (upd (upd (upd (upd (upd (upd (upd H q0 (.tup [.int 0, .int 0])) ce (.lst [.ref q0])) kn (.dT [])) co (.dT [])) tp (.tup [.ref ce, .ref kn, .ref co])) q1 (.tup [.int 0, .int 0])) kn (.dT (lotK ([] ++ [(0, 0)])))) := by
      obtain ⟨c0, zs, i0, dg, fo, e1, e2, r⟩ := hp5.ex
      refine ⟨⟨⟨c0, zs, i0, dg, fo, ?_, ?_, r⟩⟩, (Kp.of sB).put hknH, ⟨[q0], ?_, .cons ?_ .nil⟩, upd_same, ⟨[], ?_, rfl, by simp⟩, by simp, hangs_one _, by simp, rfl, by simp, rfl⟩
      · rw [upd_ne (ne_of e1 ekn5 (by intro z; cases z))]
        exact e1
      · rw [upd_ne (ne_of e2 ekn5 (by intro z; cases z))]
        exact e2
      · rw [upd_ne nkc]
        exact ece5
      · exact (show At _ q0 (0, 0) from e05).off ekn5 (by intro xs z; cases z)
      · rw [upd_ne nck]
        exact eco5
    have eM : ((m : Int) - 1).toNat = m - 1 := by omega
    refine ⟨_, rfl, _, _, rfl, rfl, ((m : Int) - 1), rfl, by omega, by omega, ?_⟩
    refine for_range (lo := 0) (n := ((m : Int) - 1).toNat) (fun i σ G => ∃ (A Cs : List Cell) (n : Nat) (v6 v7 v8 v9 v10 : Option V), σ = [some (.ref p), some (.int (m : Int)), some (.int taste), some (.ref ce), some (.ref kn), some (.ref co), v6, v7, v8, v9, v10] ∧
      Bb H p ce kn co i A Cs n G ∧ n ≤ n0 + 3 * i ∧ Cs.length ≤ 4 * i ∧ ∀ a ∈ A.dropLast, ∀ y ∈ besideC a, y ∈ Cs) ⟨_, _, _, none, none, none, none, none, rfl, start, by omega, Nat.le_refl _, by simp⟩ ?_ ?_
    · rintro i σ G hi ⟨A, Cs, n, v6, v7, v8, v9, v10, rfl, I, hn2, lenC, full⟩
      have i60 : i ≤ 60 := by omega
      have neA : A ≠ [] := fun z => by have := I.len; rw [z] at this; cases this
      obtain ⟨A', c, eA⟩ := snoc_inv neA
      obtain ⟨cs, ec, pc⟩ := I.gc
      have lcs : cs.length = A.length := Paired.length pc
      obtain ⟨cs', b, ecs⟩ : ∃ cs' b, cs = cs' ++ [b] := snoc_inv (fun z => by rw [z] at lcs; have := I.len; rw [← lcs] at this; cases this)
      subst eA ecs
      have ab : At G b c := (paired_unsnoc pc).2
      have cA : c ∈ A' ++ [c] := by simp
      refine ⟨_, rfl, _, rfl, ce, _, _, _, rfl, rfl, SqL.of ec, by rw [List.map_append]; exact atI_last _ _, b, c, rfl, ab, fun l G1 u1 hl ⟨ns, el, pn⟩ => ?_⟩
      refine ⟨l, rfl, ⟨_, SqL.of el⟩, ?_⟩
      have I1 := I.ek (Kp.of u1) (I.pen.same u1)
      refine for_list (K := K) (a := l) (xs := ns.map V.ref) (fun t σ G => ∃ (Cs : List Cell) (v7 : Option V), σ = [some (.ref p), some (.int (m : Int)), some (.int taste), some (.ref ce), some (.ref kn), some (.ref co), some (.int (0 + (i : Int))), v7, v8, v9, v10] ∧
        Bb H p ce kn co i (A' ++ [c]) Cs n G ∧ G l = some (.lst (ns.map V.ref)) ∧ Paired (fun q c => At G q c) ns (besideC c) ∧ (∀ a ∈ A', ∀ y ∈ besideC a, y ∈ Cs) ∧ (∀ y ∈ (besideC c).take t, y ∈ Cs) ∧ Cs.length ≤ 4 * i + t)
        ⟨Cs, v7, rfl, I1, el, pn, fun a ha => full a (by simpa using ha), by simp, lenC⟩ (fun t σ G _ ⟨_, _, _, _, e, _⟩ => SqL.of e) ?_ ?_
      · rintro t x σ G2 hx ⟨Cs2, w7, rfl, I2, gl, pn2, f2, tk2, len2⟩
        rw [List.getElem?_map] at hx
        obtain ⟨b2, hb2, rfl⟩ := Option.map_eq_some_iff.mp hx
        obtain ⟨y, hy, ay⟩ := paired_get pn2 hb2
        have yB : y ∈ besideC c := List.mem_of_getElem? hy
        have t4 : t < 4 := (List.getElem?_eq_some_iff.mp hy).1
        obtain ⟨kvs, eco2, iD⟩ := I2.go
        obtain ⟨j, ej⟩ : ∃ j : Int, (valV kvs (cK y)).getD (.int 0) = .int j := by
          rcases iD.get y with ⟨_, j, e⟩ | ⟨_, e⟩
          · exact ⟨j, by rw [e]; rfl⟩
          · exact ⟨0, by rw [e]; rfl⟩
        have lk := iD.len
        refine ⟨_, rfl, co, rfl, .inr ⟨_, .inl eco2⟩, _, rfl, _, DGet.t (k := cK y) eco2 ay, _, _, ej, rfl, _, rfl, _, rfl, co, _, rfl, DPut.t (k := cK y) eco2 ay (by rw [lk, sizeLine_eq]; omega), ?_⟩
        have off : ∀ {kv : List (List Key × V)} {q : Addr} {x : Cell}, At G2 q x → At (upd G2 co (.dT kv)) q x := fun h => h.off eco2 (by intro xs z; cases z)
        have I3 := I2.putC (j := j + 1) eco2 iD hcoH nck ⟨c, cA, yB⟩
        refine ⟨addC Cs2 y, _, rfl, I3, ?_, paired_imp (fun _ _ h => off h) pn2, fun a ha z hz => addC_mem.mpr (.inl (f2 a ha z hz)), fun z hz => ?_, ?_⟩
        · rw [upd_ne (ne_of gl eco2 (by intro z; cases z))]
          exact gl
        · rw [take_snoc hy] at hz
          rcases List.mem_append.mp hz with h | h
          · exact addC_mem.mpr (.inl (tk2 z h))
          · exact addC_mem.mpr (.inr (List.mem_singleton.mp h))
        · have := addC_len (L := Cs2) (c := y)
          omega
      · rintro σ G2 ⟨Cs2, w7, rfl, I2, gl, pn2, f2, tk2, len2⟩
        have ln : (ns.map V.ref).length = (besideC c).length := by rw [List.length_map]; exact Paired.length pn2
        rw [ln, List.take_length] at tk2
        have l4 : (besideC c).length = 4 := rfl
        rw [ln, l4] at len2
        refine key3 _ ce kn co _ w7 v8 v9 v10 i (A' ++ [c]) Cs2 n G2 I2 hceH hknH nck (fun a ha y hy => ?_) (by omega) i60 (by omega) fun w8 w9 w10 x n' G' hn' I4 => ?_
        · rcases List.mem_append.mp ha with h | h
          · exact f2 a h y hy
          · rw [List.mem_singleton.mp h] at hy
            exact tk2 y hy
        · refine ⟨_, Cs2, n', _, _, _, _, _, rfl, I4, by omega, by omega, fun a ha y hy => ?_⟩
          have ha : a ∈ A' ++ [c] := by simpa using ha
          rcases List.mem_append.mp ha with h | h
          · exact f2 a h y hy
          · rw [List.mem_singleton.mp h] at hy
            exact tk2 y hy
    · rintro σ G ⟨A, Cs, n, v6, v7, v8, v9, v10, rfl, I, hn2, lenC, full⟩
      refine ⟨_, rfl, k ce G A n I.pen (by omega) I.kp I.gc (by rw [I.len]; omega) I.nd I.hangs I.hd⟩
end
end Sq

set_option Elab.async false
set_option linter.all false
set_option maxRecDepth 100000
set_option maxHeartbeats 4000000
/-! The law's ways. -/
namespace Sq
open PySem PySem.Spec PyProof.Rows L2
theorem new_at {H : Hp} {p : Addr} (o : HO) (_ : H p = none) : upd H p o p = some o := upd_same
/-- each cell lies beside the one ahead of it -/
def Path (A : List Cell) : Prop := ∀ i a b, A[i]? = some a → A[i + 1]? = some b → b ∈ besideC a
theorem Path.take {A : List Cell} (h : Path A) (n : Nat) : Path (A.take n) := fun i a b ha hb => by
  have l1 := (List.getElem?_eq_some_iff.mp hb).1
  rw [List.length_take] at l1
  rw [List.getElem?_take_of_lt (by omega)] at ha hb
  exact h i a b ha hb
theorem Path.snoc {A : List Cell} {c x : Cell} (h : Path (A ++ [c])) (hx : x ∈ besideC c) : Path (A ++ [c] ++ [x]) := fun i a b ha hb => by
  have l1 := (List.getElem?_eq_some_iff.mp hb).1
  rw [List.length_append] at l1
  have l1 : i + 1 < (A ++ [c]).length + 1 := l1
  by_cases e : i + 1 < (A ++ [c]).length
  · rw [List.getElem?_append_left e] at hb
    rw [List.getElem?_append_left (by omega)] at ha
    exact h i a b ha hb
  · have e1 : i + 1 = (A ++ [c]).length := by omega
    rw [List.getElem?_append_left (by omega)] at ha
    rw [e1] at hb
    have e2 : ((A ++ [c]) ++ [x])[(A ++ [c]).length]? = some x := by simp
    rw [e2] at hb
    have e3 : i = A.length := by rw [List.length_append] at e1; simp at e1; exact e1
    rw [e3] at ha
    have e4 : (A ++ [c])[A.length]? = some c := by simp
    rw [e4] at ha
    rw [← Option.some.inj ha, ← Option.some.inj hb]
    exact hx
theorem path_hangs : ∀ (n : Nat) {A : List Cell}, A.length = n + 1 → Path A → Hangs A
  | 0, A, l, _ => by
    match A, l with
    | [c], _ => exact hangs_one c
  | n + 1, A, l, p => by
    obtain ⟨B, x, rfl⟩ := snoc_inv (xs := A) (fun z => by rw [z] at l; cases l)
    have lB : B.length = n + 1 := by rw [List.length_append] at l; simp at l; exact l
    obtain ⟨C, c, rfl⟩ := snoc_inv (xs := B) (fun z => by rw [z] at lB; cases lB)
    have pB : Path (C ++ [c]) := by
      have := p.take (C ++ [c]).length
      rwa [List.take_left] at this
    refine hangs_snoc (path_hangs n lB pB) (a := c) (by simp) (p C.length c x ?_ ?_)
    · rw [List.getElem?_append_left (by simp)]
      simp
    · have e : C.length + 1 = (C ++ [c]).length := by simp
      rw [e]
      simp
theorem Path.hangs {A : List Cell} (p : Path A) (ne : A ≠ []) : Hangs A := by
  cases A with
  | nil => exact absurd rfl ne
  | cons c A => exact path_hangs A.length rfl p
def dirs : List Cell := [(1, 0), (0, 1), (-1, 0), (0, -1)]
theorem dir_beside {c d : Cell} (h : d ∈ dirs) : (c.1 + d.1, c.2 + d.2) ∈ besideC c := by
  rw [beside_iff]
  simp only [dirs, List.mem_cons, List.not_mem_nil, or_false] at h
  rcases h with rfl | rfl | rfl | rfl
  · exact .inr (.inr (.inl ⟨rfl, Int.add_zero _⟩))
  · exact .inr (.inr (.inr ⟨Int.add_zero _, rfl⟩))
  · exact .inl ⟨rfl, Int.add_zero _⟩
  · exact .inr (.inl ⟨Int.add_zero _, rfl⟩)
def spWay (K : PySem.W.Frag) : Sp := fun vs H Q _ => ∃ (a : Addr) (t : Int) (ss : List Nat), vs = [.ref a, .int t] ∧ SqL K H a (ss.map fun (s : Nat) => V.int (s : Int)) ∧ 0 ≤ t ∧ t ≤ 4 ∧ ss.length ≤ 60 ∧ (∀ s ∈ ss, s ≤ 100) ∧
  ∀ l H' A, Same H H' → CellsL H' l A → A ≠ [] → A.length ≤ 10000 → Path A → A.head? = some (0, 0) → ((∀ s ∈ ss, 1 ≤ s) → ss.length < A.length) → Q (.ref l) H'
/-- the state of a way -/
structure Wy (K : PySem.W.Frag) (H : Hp) (ce at_ ah : Addr) (m : Nat) (A : List Cell) (c : Cell) (G : Hp) : Prop where
  same : Same H G
  gc : CellsL G ce (A ++ [c])
  ga : At G at_ c
  gd : CellsL G ah dirs
  path : Path (A ++ [c])
  len : A.length + 1 ≤ m
  hd : (A ++ [c]).head? = some (0, 0)
section
variable {P : Program} {w : World} {K : PySem.W.Frag} {mg : Str → Option Value} {base : Heap}
theorem scWy : FnScope ["_law_steps", "_law_turns", "_law_cells", "_law_at", "_law_ahead", "_law_k", "_law_by", "_law_lap"] ["_law_steps", "_law_turns"] (defScope lWay) := ⟨rfl, rfl, rfl, by decide +kernel, rfl, by decide +kernel, by decide +kernel⟩
theorem ok_way {f : Addr} {fd : FuncData} (F : FnP K "_law_t2_way" lWay f fd) (B : Bl mg) : FnOk P w K mg base CX0 1 f fd ["_law_steps", "_law_turns"] (spWay K) := by
  refine F.ok scWy (fun vs H Q E h => ?_) (fun cdv A0 outer s H vs Q E hr h => ?_)
  · obtain ⟨a, t, ss, rfl, _⟩ := h
    rfl
  · obtain ⟨a, tu, ss, rfl, hS, t0, t4, l60, s100, k⟩ := h
    refine ⟨_, PSs.nox (pss_cons (ps_par3 (i := 2) (j := 3) (l := 4) (by rfl) scWy.nd rfl rfl rfl (by decide) (by decide) (by decide) rfl rfl rfl (pa_cons (pe_lst (pa_cons (pe_tup (pa_cons pe_int (pa_cons pe_int pa_nil))) pa_nil)) (pa_cons (pe_tup (pa_cons pe_int (pa_cons pe_int pa_nil))) (pa_cons (pe_lst (pa_cons (pe_tup (pa_cons pe_int (pa_cons pe_int pa_nil))) (pa_cons (pe_tup (pa_cons pe_int (pa_cons pe_int pa_nil))) (pa_cons (pe_tup (pa_cons (pe_un un_neg pe_int) (pa_cons pe_int pa_nil))) (pa_cons (pe_tup (pa_cons pe_int (pa_cons (pe_un un_neg pe_int) pa_nil))) pa_nil))))) pa_nil))) (by rfl))
      (pss_cons (ps_for PassesOwn.never rfl (pi_range1 (by rfl) B.range (pa_cons (pe_callB call_len_seq (by rfl) B.len PySem.boot_len (pa_cons (pv 0) pa_nil)) pa_nil)) (pg_name (i := 5) scWy.nd rfl (.inl rfl))
      (pss_cons (ps_set (i := 6) scWy.nd rfl (.inl rfl) (pe_ix (ix_listK (K := K) rfl) (pv 4) (pe_op op_mod (pe_callTy call_int1 (by rfl) B.int PyProof.Rows.boot_int (pa_cons (pe_op op_mul (pv 1) (pv 5)) pa_nil)) pe_int) (fun _ _ => rfl)))
        (pss_one (ps_for PassesOwn.never rfl (pi_range1 (by rfl) B.range (pa_cons (pe_ix (ix_listK (K := K) rfl) (pv 0) (pv 5) (fun _ _ => rfl)) pa_nil)) (pg_name (i := 7) scWy.nd rfl (.inl rfl))
        (pss_cons (ps_set (i := 3) scWy.nd rfl (.inl rfl) (pe_tup (pa_cons (pe_op op_add (pe_ix (ix_tupK (K := K) rfl) (pv 3) pe_int (fun _ _ => rfl)) (pe_ix (ix_tupK (K := K) rfl) (pv 6) pe_int (fun _ _ => rfl))) (pa_cons (pe_op op_add (pe_ix (ix_tupK (K := K) rfl) (pv 3) pe_int (fun _ _ => rfl)) (pe_ix (ix_tupK (K := K) rfl) (pv 6) pe_int (fun _ _ => rfl))) pa_nil))))
          (pss_one (ps_expr (pe_bm PySem.F.plainAttrs_list PySem.F.slot_list_append PySem.F.type_list_append mt_append (pv 2) (pa_cons (pv 3) pa_nil)))))))))
      (pss_one (ps_ret (pv 2))))), ?_⟩
    refine ⟨two_le, fun q0 hq0 => ⟨(by show 1 ≤ sizeLine; rw [sizeLine_eq]; decide), fun ce hce => ?_⟩⟩
    refine ⟨two_le, fun q1 hq1 => ?_⟩
    refine ⟨two_le, fun d1 h1 => ⟨two_le, fun d2 h2 => ⟨_, rfl, two_le, fun d3 h3 => ⟨_, rfl, two_le, fun d4 h4 => ⟨four_le, fun ah hah => ⟨_, _, _, rfl, ?_⟩⟩⟩⟩⟩⟩
    have s0 := same_new (o := .tup [.int 0, .int 0]) hq0
    have s1 := same_new (o := .lst [.ref q0]) hce
    have s2 := same_new (o := .tup [.int 0, .int 0]) hq1
    have s3 := same_new (o := .tup [.int 1, .int 0]) h1
    have s4 := same_new (o := .tup [.int 0, .int 1]) h2
    have s5 := same_new (o := .tup [.int (-1), .int 0]) h3
    have s6 := same_new (o := .tup [.int 0, .int (-1)]) h4
    have s7 := same_new (o := .lst [.ref d1, .ref d2, .ref d3, .ref d4]) hah
    have hceH : H ce = none := s0.free hce
    have sA := ((s0.trans s1).trans (s2.trans s3)).trans ((s4.trans s5).trans (s6.trans s7))
    have a0 := (s7 _ _ (s6 _ _ (s5 _ _ (s4 _ _ (s3 _ _ (s2 _ _ (s1 _ _ (upd_same (a := q0) (o := .tup [.int 0, .int 0])))))))))
    have ec := (s7 _ _ (s6 _ _ (s5 _ _ (s4 _ _ (s3 _ _ (s2 _ _ (upd_same (a := ce) (o := .lst [.ref q0]))))))))
    have a1 := (s7 _ _ (s6 _ _ (s5 _ _ (s4 _ _ (s3 _ _ (upd_same (a := q1) (o := .tup [.int 0, .int 0])))))))
    have b1 := (s7 _ _ (s6 _ _ (s5 _ _ (s4 _ _ (upd_same (a := d1) (o := .tup [.int 1, .int 0]))))))
    have b2 := (s7 _ _ (s6 _ _ (s5 _ _ (upd_same (a := d2) (o := .tup [.int 0, .int 1])))))
    have b3 := (s7 _ _ (s6 _ _ (upd_same (a := d3) (o := .tup [.int (-1), .int 0]))))
    have b4 := (s7 _ _ (upd_same (a := d4) (o := .tup [.int 0, .int (-1)])))
    have eh := new_at (.lst [.ref d1, .ref d2, .ref d3, .ref d4]) hah
    have gd0 := (⟨[d1, d2, d3, d4], eh, .cons b1 (.cons b2 (.cons b3 (.cons b4 .nil)))⟩ : CellsL _ ah dirs)
    have start : Wy K H ce q1 ah 1 [] (0, 0) _ := ⟨sA, ⟨[q0], ec, .cons a0 .nil⟩, a1, gd0, fun i a b _ hb => by simp at hb, Nat.le_refl _, rfl⟩
    have nch : ce ≠ ah := ne_of ec eh (fun z => by have z := HO.lst.inj z; cases z)
    have hSG : ∀ {G : Hp}, Same H G → SqL K G a (ss.map fun (s : Nat) => V.int (s : Int)) := fun sm => (Ek.of sm).sqL hS
    refine ⟨_, rfl, a, _, rfl, .inl (hSG sA), _, rfl, by rw [List.length_map]; omega, by rw [List.length_map]; omega, ?_⟩
    refine for_range (lo := 0) (n := (((ss.map fun (s : Nat) => V.int (s : Int)).length : Int)).toNat) (fun i σ G => ∃ (q : Addr) (A : List Cell) (c : Cell) (v5 v6 v7 : Option V), σ = [some (.ref a), some (.int tu), some (.ref ce), some (.ref q), some (.ref ah), v5, v6, v7] ∧ Wy K H ce q ah (1 + 100 * i) A c G ∧ ((∀ s ∈ ss, 1 ≤ s) → i ≤ A.length))
      ⟨_, _, _, none, none, none, rfl, start, fun _ => Nat.zero_le _⟩ ?_ ?_
    · rintro i σ G hi ⟨q, A, c, v5, v6, v7, rfl, I, lo⟩
      have hi : i < ss.length := by simpa using hi
      rw [Int.zero_add]
      obtain ⟨ds, ed, pd⟩ := I.gd
      have r0 : 0 ≤ tu * (i : Int) % 4 := Int.emod_nonneg _ (by decide)
      have r4 : tu * (i : Int) % 4 < 4 := Int.emod_lt_of_pos _ (by decide)
      obtain ⟨j, hj⟩ := Int.eq_ofNat_of_zero_le r0
      have j4 : j < 4 := by omega
      have lds : ds.length = 4 := Paired.length pd
      obtain ⟨b, hb⟩ : ∃ b, ds[j]? = some b := ⟨_, List.getElem?_eq_getElem (by omega)⟩
      obtain ⟨d, hd, ad⟩ := paired_get pd hb
      have dm : d ∈ dirs := List.mem_of_getElem? hd
      refine ⟨_, rfl, _, rfl, _, rfl, _, _, rfl, rfl, .inl ⟨by omega, by omega⟩, .inl ⟨_, rfl, _, _, rfl, rfl, (by show (0 : Int) < 4; decide), ah, _, _, .ref b, rfl, rfl, SqL.of ed, by rw [hj]; exact atI_nat (by rw [List.getElem?_map, hb]; rfl), ?_⟩⟩
      have hs : ss[i]? = some ss[i] := List.getElem?_eq_getElem hi
      have sm100 : ss[i] ≤ 100 := s100 _ (List.getElem_mem hi)
      refine ⟨_, rfl, _, rfl, a, _, _, .int ((ss[i] : Nat) : Int), rfl, rfl, hSG I.same, atI_nat (by rw [List.getElem?_map, hs]; rfl), ((ss[i] : Nat) : Int), rfl, by omega, by omega, ?_⟩
      refine for_range (lo := 0) (n := ((ss[i] : Nat) : Int).toNat) (fun t σ G => ∃ (q : Addr) (A : List Cell) (c : Cell) (v7 : Option V), σ = [some (.ref a), some (.int tu), some (.ref ce), some (.ref q), some (.ref ah), some (.int (i : Int)), some (.ref b), v7] ∧ Wy K H ce q ah (1 + 100 * i + t) A c G ∧ At G b d ∧ ((∀ s ∈ ss, 1 ≤ s) → i + t ≤ A.length))
        ⟨q, A, c, v7, rfl, I, ad, lo⟩ ?_ ?_
      · rintro t σ G2 ht ⟨q2, A2, c2, w7, rfl, J, ad2, lo2⟩
        have ht : t < ss[i] := by simpa using ht
        obtain ⟨cs, ec2, pc⟩ := J.gc
        obtain ⟨es, ed2, pd2⟩ := J.gd
        have lJ := J.len
        have lcs : cs.length = A2.length + 1 := by rw [Paired.length pc, List.length_append]; rfl
        refine ⟨_, rfl, _, _, _, _, rfl, rfl, SqT.of J.ga, at0, _, rfl, _, _, _, _, rfl, rfl, SqT.of ad2, at0, _, _, rfl, rfl, ?_⟩
        refine ⟨_, rfl, _, _, _, _, rfl, rfl, SqT.of J.ga, at1, _, rfl, _, _, _, _, rfl, rfl, SqT.of ad2, at1, _, _, rfl, rfl, two_le, fun r hr' => ?_⟩
        have u1 := same_new (o := .tup [.int (c2.1 + d.1), .int (c2.2 + d.2)]) hr'
        have ar : At (upd G2 r (.tup [.int (c2.1 + d.1), .int (c2.2 + d.2)])) r (c2.1 + d.1, c2.2 + d.2) := upd_same
        have ec3 := u1 _ _ ec2
        refine ⟨_, rfl, .inl ⟨rfl, _, SqL.of ec3⟩, _, rfl, ce, _, _, rfl, rfl, ec3, by rw [List.length_map, sizeLine_eq]; omega, ?_⟩
        have off : ∀ {x : Addr} {y : Cell}, At (upd G2 r (.tup [.int (c2.1 + d.1), .int (c2.2 + d.2)])) x y → At (upd (upd G2 r (.tup [.int (c2.1 + d.1), .int (c2.2 + d.2)])) ce (.lst (cs.map V.ref ++ [V.ref r]))) x y := fun h => h.off ec3 (by intro xs z; cases z)
        refine ⟨r, A2 ++ [c2], (c2.1 + d.1, c2.2 + d.2), _, rfl, ⟨same_put (J.same.trans u1) hceH, ⟨cs ++ [r], by rw [upd_same, List.map_append]; rfl, (paired_imp (fun x y (h : At G2 x y) => off (u1 _ _ h)) pc).snoc (off ar)⟩, off ar, ⟨es, by rw [upd_ne (Ne.symm nch)]; exact u1 _ _ ed2, paired_imp (fun x y (h : At G2 x y) => off (u1 _ _ h)) pd2⟩, J.path.snoc (dir_beside dm), by rw [List.length_append]; show A2.length + 1 + 1 ≤ _; omega, head_app J.hd _⟩, off (u1 _ _ ad2), fun h => by have := lo2 h; rw [List.length_append]; show i + (t + 1) ≤ A2.length + 1; omega⟩
      · rintro σ G2 ⟨q2, A2, c2, w7, rfl, J, ad2, lo2⟩
        have l := J.len
        refine ⟨q2, A2, c2, _, _, _, rfl, ⟨J.same, J.gc, J.ga, J.gd, J.path, ?_, J.hd⟩, fun h => by
          have h1 := lo2 h
          have h2 := h _ (List.getElem_mem hi)
          have : (((ss[i] : Nat) : Int)).toNat = ss[i] := Int.toNat_natCast _
          omega⟩
        have : (((ss[i] : Nat) : Int)).toNat = ss[i] := Int.toNat_natCast _
        omega
    · rintro σ G ⟨q, A, c, v5, v6, v7, rfl, I, lo⟩
      have l := I.len
      refine ⟨_, rfl, k ce G (A ++ [c]) I.same I.gc (by simp) ?_ I.path I.hd fun h => ?_⟩
      rotate_left
      · have h1 := lo h
        rw [List.length_append]
        simp at h1 ⊢
        omega
      rw [List.length_append]
      have : (ss.map fun (s : Nat) => V.int (s : Int)).length = ss.length := List.length_map ..
      rw [this] at l
      simp at l ⊢
      omega
end
end Sq

set_option Elab.async false
set_option linter.all false
set_option maxRecDepth 100000
set_option maxHeartbeats 4000000
/-! Lists of cells each of which lies beside one ahead of it. -/
namespace Sq
open PySem PySem.Spec PyProof.Rows L2
def Grown (A : List Cell) : Prop := ∀ i b, A[i + 1]? = some b → ∃ j a, j ≤ i ∧ A[j]? = some a ∧ b ∈ besideC a
theorem Path.grown {A : List Cell} (h : Path A) : Grown A := fun i b hb => by
  have l := (List.getElem?_eq_some_iff.mp hb).1
  exact ⟨i, A[i], Nat.le_refl _, List.getElem?_eq_getElem (by omega), h i _ b (List.getElem?_eq_getElem (by omega)) hb⟩
theorem Grown.take {A : List Cell} (h : Grown A) (n : Nat) : Grown (A.take n) := fun i b hb => by
  have l := (List.getElem?_eq_some_iff.mp hb).1
  rw [List.length_take] at l
  rw [List.getElem?_take_of_lt (by omega)] at hb
  obtain ⟨j, a, hj, ha, hb⟩ := h i b hb
  exact ⟨j, a, hj, by rw [List.getElem?_take_of_lt (by omega)]; exact ha, hb⟩
theorem Grown.snoc {A : List Cell} {a x : Cell} (h : Grown A) (ha : a ∈ A) (hx : x ∈ besideC a) : Grown (A ++ [x]) := fun i b hb => by
  have l := (List.getElem?_eq_some_iff.mp hb).1
  rw [List.length_append] at l
  have l : i + 1 < A.length + 1 := l
  by_cases e : i + 1 < A.length
  · rw [List.getElem?_append_left e] at hb
    obtain ⟨j, c, hj, hc, hb⟩ := h i b hb
    exact ⟨j, c, hj, by rw [List.getElem?_append_left (by omega)]; exact hc, hb⟩
  · have e1 : i + 1 = A.length := by omega
    rw [e1] at hb
    have e2 : (A ++ [x])[A.length]? = some x := by simp
    rw [e2] at hb
    obtain ⟨j, hj⟩ := List.mem_iff_getElem?.mp ha
    have lj := (List.getElem?_eq_some_iff.mp hj).1
    exact ⟨j, a, by omega, by rw [List.getElem?_append_left lj]; exact hj, by rw [← Option.some.inj hb]; exact hx⟩
theorem grown_hangs : ∀ (n : Nat) {A : List Cell}, A.length = n + 1 → Grown A → Hangs A
  | 0, A, l, _ => by
    match A, l with
    | [c], _ => exact hangs_one c
  | n + 1, A, l, g => by
    obtain ⟨B, x, rfl⟩ := snoc_inv (xs := A) (fun z => by rw [z] at l; cases l)
    have lB : B.length = n + 1 := by rw [List.length_append] at l; simp at l; exact l
    have gB : Grown B := by
      have := g.take B.length
      rwa [List.take_left] at this
    have hx : (B ++ [x])[n + 1]? = some x := by rw [← lB]; simp
    obtain ⟨j, a, hj, ha, hb⟩ := g n x hx
    rw [List.getElem?_append_left (by omega)] at ha
    exact hangs_snoc (grown_hangs n lB gB) (List.mem_of_getElem? ha) hb
theorem Grown.hangs {A : List Cell} (p : Grown A) (ne : A ≠ []) : Hangs A := by
  cases A with
  | nil => exact absurd rfl ne
  | cons c A => exact grown_hangs A.length rfl p
theorem cut_take (xs : List V) (k : Nat) : cutV xs none (some (k : Int)) = xs.take k := by
  unfold cutV
  rw [HT.sIx_none, HT.sIx_nat, List.drop_zero, Nat.sub_zero]
  by_cases h : k ≤ xs.length
  · rw [Nat.min_eq_left h]
  · rw [Nat.min_eq_right (by omega), List.take_length, List.take_of_length_le (by omega)]
theorem CellsL.cut {H : Hp} {qs : List Addr} {cs : List Cell} (pr : Paired (fun q c => At H q c) qs cs) (k : Nat) : Paired (fun q c => At H q c) (qs.take k) (cs.take k) := by
  induction pr generalizing k with
  | nil =>
    rw [List.take_nil, List.take_nil]
    exact .nil
  | cons h _ ih =>
    cases k with
    | zero => exact .nil
    | succ k => exact .cons h (ih k)
theorem take_ne {α : Type} {xs : List α} {k : Nat} (h : xs ≠ []) (hk : 1 ≤ k) : xs.take k ≠ [] := by
  cases xs with
  | nil => exact absurd rfl h
  | cons x xs =>
    cases k with
    | zero => omega
    | succ k => simp
theorem rgc2 : ∀ M : Nat, M < 40 → RgC 0 (M : Int) 2 ((M + 1) / 2) := by
  have h : ∀ M : Nat, M < 40 → (Builtin.Range.small 0 (M : Int) 2 = true ∧ Builtin.Range.rangeSize 0 (M : Int) 2 = (M + 1) / 2) := by decide +kernel
  exact fun M hM => ⟨by decide, by decide, (h M hM).1, by rw [(h M hM).2]; omega⟩
/-- a comprehension whose items are told by a function -/
theorem lc_fn {J : It} {n : Nat} {Gd : Hp → Prop} {Y : Nat → Hp → V → Hp → Prop} (w : Walk J n Gd Y) {g : TG} {tt : TT} {te : TE} {vs : List Nat} {σ : L2.St} {H1 : Hp} {D : Addr} {Qd : Hp → Prop} (hD : H1 D = none) (f : Nat → V) (hn : n ≤ 1000000)
    (hG : ∀ i G, i ≤ n → Same H1 G → Gd G)
    (hs : ∀ i x G G' (K1 : V → Hp → Prop) (K0 : Hp → Prop), i < n → Same H1 G → Y i G x G' → (∀ H4, Same G H4 → K1 (f i) H4) → g x (wipe σ vs) G' fun σ2 H2 => wipe σ2 vs = wipe σ vs ∧ tt σ2 H2 fun b H3 => if b = true then te σ2 H3 K1 else K0 H3)
    (hd : ∀ G, Same H1 G → G D = some (.lst ((List.range n).map f)) → Qd G) :
    ∃ W : Nat → Nat → Hp → Prop, (∃ m, W 0 m (upd H1 D (.lst []))) ∧ ∀ i m H, W i m H →
      (J.stop i H ∧ Qd H) ∨ (J.go i H ∧ ∃ Nx : Hp → Prop, (∀ H', Nx H' → ∃ m', m' < m ∧ W (i + 1) m' H') ∧ ∀ x H', J.yld i H x H' → g x (wipe σ vs) H' fun σ2 H2 => wipe σ2 vs = wipe σ vs ∧ tt σ2 H2 fun b H3 =>
        if b = true then te σ2 H3 fun y H4 => ∃ acc, H4 D = some (.lst acc) ∧ acc.length < sizeLine ∧ Nx (upd H4 D (.lst (acc ++ [y]))) else Nx H3) := by
  refine lc_it w (fun i G => Same H1 G ∧ G D = some (.lst ((List.range i).map f))) ⟨same_put same_refl hD, upd_same⟩ (fun i G hi p => hG i G hi p.1) ?_ (fun G p => hd G p.1 p.2)
  rintro i x G G' hi ⟨sm, gD⟩ y
  exact hs i x G G' _ _ hi sm y fun H4 s4 => ⟨_, s4 _ _ gD, by rw [List.length_map, List.length_range, sizeLine_eq]; omega, same_put (sm.trans s4) hD, by rw [upd_same, List.range_succ, List.map_append]; rfl⟩
end Sq

set_option Elab.async false
set_option linter.all false
set_option maxRecDepth 100000
set_option maxHeartbeats 4000000
/-! The law's lists of cells. -/
namespace Sq
open PySem PySem.Spec PyProof.Rows L2
theorem tooth_grown {cs : List Cell} {k : Int} (h : Grown cs) (hk : (k, (0 : Int)) ∈ cs) : ∀ j : Nat, Grown (cs ++ (List.range j).map fun (u : Nat) => (k, 1 + (u : Int)))
  | 0 => by simpa using h
  | j + 1 => by
    rw [List.range_succ, List.map_append, ← List.append_assoc]
    cases j with
    | zero => exact (tooth_grown h hk 0).snoc (a := (k, 0)) (List.mem_append_left _ hk) (by rw [beside_iff]; exact .inr (.inr (.inr ⟨rfl, by show (1 : Int) + ((0 : Nat) : Int) = (0 : Int) + 1; omega⟩)))
    | succ i => exact (tooth_grown h hk (i + 1)).snoc (a := (k, 1 + (i : Int))) (List.mem_append_right _ (List.mem_map.mpr ⟨i, List.mem_range.mpr (Nat.lt_succ_self i), rfl⟩)) (by rw [beside_iff]; exact .inr (.inr (.inr ⟨rfl, by show (1 : Int) + ((i + 1 : Nat) : Int) = (1 + (i : Int)) + 1; omega⟩)))
theorem base_grown : ∀ j : Nat, Grown ((List.range (j + 1)).map fun (u : Nat) => ((u : Int), (0 : Int)))
  | 0 => fun i b hb => by simp at hb
  | j + 1 => by
    rw [List.range_succ, List.map_append]
    exact (base_grown j).snoc (a := ((j : Int), 0)) (List.mem_map.mpr ⟨j, List.mem_range.mpr (Nat.lt_succ_self j), rfl⟩) (by rw [beside_iff]; exact .inr (.inr (.inl ⟨by simp, rfl⟩)))
theorem head_take {A : List Cell} {c : Cell} {k : Nat} (h : A.head? = some c) (hk : 1 ≤ k) : (A.take k).head? = some c := by
  cases A with
  | nil => cases h
  | cons a t =>
    cases k with
    | zero => omega
    | succ k => exact h
def spCells : Sp := fun vs H Q _ => ∃ (p : Addr) (n most : Nat), vs = [.ref p, .int (most : Int)] ∧ PenAt H p n ∧ 1 ≤ most ∧ most ≤ 50 ∧ n < 800000 ∧
  ∀ l H' A n', PenAt H' p n' → n' ≤ n + 400 → Kp [p] H H' → CellsL H' l A → A ≠ [] → A.length ≤ most → Hangs A → A.head? = some (0, 0) → Q (.ref l) H'
section
variable {P : Program} {w : World} {K : PySem.W.Frag} {mg : Str → Option Value} {base : Heap}
theorem scCe : FnScope ["_law_pen_here", "_law_most", "_law_way", "_law_many", "_law_wide", "_law_tall", "_law_k", "_law_comb", "_law_up"] ["_law_pen_here", "_law_most"] (defScope lCells) := ⟨rfl, rfl, rfl, by decide +kernel, rfl, by decide +kernel, by decide +kernel⟩
theorem ok_cells {f : Addr} {fd : FuncData} (F : FnP K "_law_t2_cells" lCells f fd) (B : Bl mg) (DD : Df P w K mg base CX0 1 "_law_draw" ["_law_pen_here", "_law_many"] spDraw) (DB : Df P w K mg base CX0 3 "_law_t2_blob" ["_law_pen_here", "_law_many", "_law_taste"] spBlob) (DW : Df P w K mg base CX0 1 "_law_t2_way" ["_law_steps", "_law_turns"] (spWay K)) :
    FnOk P w K mg base CX0 4 f fd ["_law_pen_here", "_law_most"] spCells := by
  refine F.ok scCe (fun vs H Q E h => ?_) (fun cdv A0 outer s H vs Q E hr h => ?_)
  · obtain ⟨p, n, most, rfl, _⟩ := h
    rfl
  · obtain ⟨p, n, most, rfl, hp, m1, m50, hn, k⟩ := h
    refine ⟨_, PSs.nox (pss_cons (ps_par (i := 2) (j := 3) (by rfl) scCe.nd rfl rfl (by decide) rfl rfl (pa_cons (pe_df DD hr (by rfl) pass0 (pa_cons (pv 0) (pa_cons pe_int pa_nil))) (pa_cons (pe_op op_add pe_int (pe_df DD hr (by rfl) pass0 (pa_cons (pv 0) (pa_cons (pv 1) pa_nil)))) pa_nil)) (by rfl))
      (pss_cons (ps_if (pt_cmpR op_lt (pv 2) pe_int (nomark _))
      (pss_one (ps_ret (pe_df DB hr (by rfl) pass0 (pa_cons (pv 0) (pa_cons (pv 3) (pa_cons (pe_ix (ix_listK (K := K) rfl) (pe_lst (pa_cons pe_int (pa_cons pe_int (pa_cons pe_int (pa_cons pe_int (pa_cons pe_int pa_nil)))))) (pv 2) (fun _ _ => rfl)) pa_nil))))))
      pss_nil)
      (pss_cons (ps_if (pt_cmpR op_eq (pv 2) pe_int (nomark _))
      (pss_one (ps_ret (pe_slice sl_list (pe_df DW hr (by rfl) pass0 (pa_cons (pe_lst (pa_cons (pe_op op_sub (pv 3) pe_int) pa_nil)) (pa_cons (pe_df DD hr (by rfl) pass0 (pa_cons (pv 0) (pa_cons pe_int pa_nil))) pa_nil))) po_none (po_some (pv 3)))))
      pss_nil)
      (pss_cons (ps_if (pt_cmpR op_eq (pv 2) pe_int (nomark _))
      (pss_cons (ps_par (i := 4) (j := 5) (by rfl) scCe.nd rfl rfl (by decide) rfl rfl (pa_cons (pe_op op_add pe_int (pe_df DD hr (by rfl) pass0 (pa_cons (pv 0) (pa_cons (pe_op op_add pe_int (pe_op op_fdiv (pv 1) pe_int)) pa_nil)))) (pa_cons (pe_op op_add pe_int (pe_df DD hr (by rfl) pass0 (pa_cons (pv 0) (pa_cons (pe_op op_add pe_int (pe_op op_fdiv (pv 1) pe_int)) pa_nil)))) pa_nil)) (by rfl))
        (pss_one (ps_ret (pe_slice sl_list (pe_slice sl_list (pe_df DW hr (by rfl) pass0 (pa_cons (pe_lst (pa_cons (pv 4) (pa_cons (pv 5) (pa_cons (pv 4) (pa_cons (pv 5) pa_nil))))) (pa_cons pe_int pa_nil))) po_none (po_some (pe_callB (call_max2 rfl) (by rfl) B.max (by decide +kernel) (pa_cons pe_int (pa_cons (pe_op op_sub (pe_op op_mul pe_int (pe_op op_add (pv 4) (pv 5))) (pe_df DD hr (by rfl) pass0 (pa_cons (pv 0) (pa_cons pe_int pa_nil)))) pa_nil))))) po_none (po_some (pv 1))))))
      pss_nil)
      (pss_cons (ps_if (pt_cmpR op_eq (pv 2) pe_int (nomark _))
      (pss_one (ps_ret (pe_slice sl_list (pe_df DW hr (by rfl) pass0 (pa_cons (pe_lc (own := [("_law_k", 6)]) (g := gName 6) (tt := tYes) rfl scCe.nd (pi_range1 (by rfl) B.range (pa_cons (pv 1) pa_nil)) (blkOk_by (N := ["_law_pen_here", "_law_most", "_law_way", "_law_many", "_law_wide", "_law_tall", "_law_k", "_law_comb", "_law_up"]) (sc := defScope lCells) (by decide +kernel)) (fun _ _ _ _ _ => pg_name (i := 6) scCe.nd rfl (Or.inl rfl)) (fun _ _ _ _ _ => pts_nil) (fun _ _ _ _ _ => (pe_op op_mul (pe_op op_fdiv (pe_op op_add (pv 6) pe_int) pe_int) pe_int))) (pa_cons pe_int pa_nil))) po_none (po_some (pv 3)))))
      pss_nil)
      (pss_cons (ps_setLc (i := 7) (own := [("_law_k", 6)]) (g := gName 6) (tt := tYes) (by rfl) scCe.nd rfl rfl (sw_true rfl rfl rfl (by decide +kernel)) (pi_range1 (by rfl) B.range (pa_cons (pe_op op_add pe_int (pe_op op_fdiv (pv 1) pe_int)) pa_nil)) (blkOk_by (N := ["_law_pen_here", "_law_most", "_law_way", "_law_many", "_law_wide", "_law_tall", "_law_k", "_law_comb", "_law_up"]) (sc := defScope lCells) (by decide +kernel)) (fun _ _ _ _ _ => pg_name (i := 6) scCe.nd rfl (Or.inl rfl)) (fun _ _ _ _ _ => pts_nil) (fun _ _ _ _ _ => (pe_tup (pa_cons (pv 6) (pa_cons pe_int pa_nil)))))
      (pss_cons (ps_for PassesOwn.never rfl (pi_range3 (by rfl) B.range (pa_cons pe_int (pa_cons (pe_op op_add pe_int (pe_op op_fdiv (pv 1) pe_int)) (pa_cons pe_int pa_nil)))) (pg_name (i := 6) scCe.nd rfl (.inr rfl))
      (pss_one (ps_set (i := 7) scCe.nd rfl (.inl rfl) (pe_op op_cat (pv 7) (pe_lc (own := [("_law_up", 8)]) (g := gName 8) (tt := tYes) rfl scCe.nd (pi_range1 (by rfl) B.range (pa_cons (pe_df DD hr (by rfl) pass0 (pa_cons (pv 0) (pa_cons pe_int pa_nil))) pa_nil)) (blkOk_by (N := ["_law_pen_here", "_law_most", "_law_way", "_law_many", "_law_wide", "_law_tall", "_law_k", "_law_comb", "_law_up"]) (sc := defScope lCells) (by decide +kernel)) (fun _ _ _ _ _ => pg_name (i := 8) scCe.nd rfl (Or.inl rfl)) (fun _ _ _ _ _ => pts_nil) (fun _ _ _ _ _ => (pe_tup (pa_cons (pv 6) (pa_cons (pe_op op_add pe_int (pv 8)) pa_nil)))))))))
      (pss_one (ps_ret (pe_slice sl_list (pv 7) po_none (po_some (pe_callB (call_max2 rfl) (by rfl) B.max (by decide +kernel) (pa_cons pe_int (pa_cons (pv 1) pa_nil)))))))))))))), ?_⟩
    -- two draws
    refine ⟨_, rfl, p, n, 9, rfl, hp, by decide, by decide, by omega, fun r G1 r0 r9 hp1 hb1 => ?_⟩
    refine ⟨_, rfl, _, rfl, p, n + 1, (most : Int), rfl, hp1, by omega, by omega, by omega, fun r2 G2 q0 q1 hp2 hb2 => ?_⟩
    have kp2 : Kp [p] H G2 := (kp_pick hb1).trans (kp_pick hb2)
    obtain ⟨way, rfl⟩ := Int.eq_ofNat_of_zero_le r0
    obtain ⟨mm, rfl⟩ := Int.eq_ofNat_of_zero_le q0
    refine ⟨_, _, rfl, rfl, .int (way : Int), .int ((1 + mm : Nat) : Int), congrArg (fun z => [V.int (way : Int), V.int z]) (Int.natCast_add 1 mm).symm, ?_⟩
    have mn1 : 1 ≤ 1 + mm := Nat.le_add_right 1 mm
    have mn : 1 + mm ≤ most := by omega
    generalize 1 + mm = many at mn mn1 ⊢
    -- the five kinds
    refine ⟨_, rfl, _, _, rfl, rfl, _, rfl, ?_⟩
    refine ite2 (fun h5 => ?_) (fun h5 => ?_)
    · have w5 : way < 5 := by have := of_decide_eq_true h5; omega
      refine ⟨_, rfl, _, rfl, (by show 5 ≤ sizeLine; rw [sizeLine_eq]; decide), fun l1 hl1 => ?_⟩
      have s1 := same_new (o := .lst [.int 0, .int 0, .int 1, .int 1, .int 2]) hl1
      obtain ⟨tt, htt⟩ : ∃ tt : Int, ([.int 0, .int 0, .int 1, .int 1, .int 2] : List V)[way]? = some (.int tt) := by
        match way, w5 with
        | 0, _ => exact ⟨_, rfl⟩
        | 1, _ => exact ⟨_, rfl⟩
        | 2, _ => exact ⟨_, rfl⟩
        | 3, _ => exact ⟨_, rfl⟩
        | 4, _ => exact ⟨_, rfl⟩
      refine ⟨_, rfl, l1, _, _, _, rfl, rfl, SqL.of upd_same, atI_nat htt, p, n + 2, many, tt, rfl, hp2.same s1, mn1, by omega, by omega, fun l H' A n' hp' hn' kp' ca lA nA hA hd => ?_⟩
      exact k l H' A n' hp' (by omega) ((kp2.trans (Kp.of s1)).trans kp') ca (fun z => by rw [z] at lA; have : many = 0 := lA.symm; omega) (by omega) hA hd
    refine ⟨_, rfl, rfl, _, rfl, ?_⟩
    refine ite2 (fun h6 => ?_) (fun h6 => ?_)
    · refine ⟨_, rfl, _, _, rfl, rfl, (by show 1 ≤ sizeLine; rw [sizeLine_eq]; decide), fun l1 hl1 => ?_⟩
      have s1 := same_new (o := .lst [.int ((many : Int) - 1)]) hl1
      refine ⟨_, rfl, p, n + 2, 4, rfl, hp2.same s1, by decide, by decide, by omega, fun r3 G3 t0 t4 hp3 hb3 => ?_⟩
      have kp3 := kp_pick hb3
      have ek3 := pen_ek (hp2.same s1) kp3
      have el : G3 l1 = some (.lst [.int ((many : Int) - 1)]) := ek3.lst upd_same
      have e1 : (many : Int) - 1 = ((many - 1 : Nat) : Int) := by omega
      refine ⟨l1, r3, [many - 1], rfl, SqL.of (by rw [el, e1]; rfl), t0, by omega, (by show 1 ≤ 60; decide), fun s hs => by rw [List.mem_singleton.mp hs]; omega, fun l H' A s4 ⟨qs, eA, pA⟩ neA lA pa hd _ => ?_⟩
      refine ⟨_, rfl, _, rfl, l, _, rfl, SqL.of eA, fun np hnp => ?_⟩
      rw [cut_take]
      have s5 := same_new (o := .lst ((qs.map V.ref).take many)) hnp
      refine k np _ (A.take many) (n + 3) ((hp3.same s4).same s5) (by omega) ((((kp2.trans (Kp.of s1)).trans kp3).trans (Kp.of s4)).trans (Kp.of s5)) ⟨qs.take many, by rw [upd_same, List.map_take], paired_imp (fun _ _ h => s5 _ _ h) (CellsL.cut pA many)⟩ (take_ne neA mn1) (by rw [List.length_take]; omega) ((pa.take many).hangs (take_ne neA mn1)) (head_take hd mn1)
    refine ⟨_, rfl, rfl, _, rfl, ?_⟩
    refine ite2 (fun h7 => ?_) (fun h7 => ?_)
    · refine ⟨_, rfl, _, rfl, _, _, rfl, rfl, ⟨by decide, by decide⟩, _, _, rfl, rfl, p, n + 2, 1 + (most : Int) / 6, rfl, hp2, by omega, by omega, by omega, fun r3 G3 u0 u1 hp3 hb3 => ?_⟩
      refine ⟨_, _, rfl, rfl, _, rfl, _, rfl, _, _, rfl, rfl, ⟨by decide, by decide⟩, _, _, rfl, rfl, p, n + 3, 1 + (most : Int) / 6, rfl, hp3, by omega, by omega, by omega, fun r4 G4 x0 x1 hp4 hb4 => ?_⟩
      obtain ⟨wd, rfl⟩ := Int.eq_ofNat_of_zero_le u0
      obtain ⟨tl, rfl⟩ := Int.eq_ofNat_of_zero_le x0
      refine ⟨_, _, rfl, rfl, .int ((2 + wd : Nat) : Int), .int ((2 + tl : Nat) : Int), ?_, ?_⟩
      · rw [Int.natCast_add, Int.natCast_add]
        rfl
      have kp4 : Kp [p] H G4 := (kp2.trans (kp_pick hb3)).trans (kp_pick hb4)
      have wd60 : 2 + wd ≤ 60 := by omega
      have tl60 : 2 + tl ≤ 60 := by omega
      refine ⟨_, rfl, _, rfl, _, rfl, _, rfl, four_le, fun l1 hl1 => ?_⟩
      have s1 := same_new (o := .lst [.int ((2 + wd : Nat) : Int), .int ((2 + tl : Nat) : Int), .int ((2 + wd : Nat) : Int), .int ((2 + tl : Nat) : Int)]) hl1
      refine ⟨l1, 1, [2 + wd, 2 + tl, 2 + wd, 2 + tl], rfl, SqL.of upd_same, by decide, by decide, (by show 4 ≤ 60; decide), fun s hs => ?_, fun l G5 A s5 ⟨qs, eA, pA⟩ neA lA pa hd _ => ?_⟩
      · simp only [List.mem_cons, List.not_mem_nil, or_false] at hs
        rcases hs with rfl | rfl | rfl | rfl <;> omega
      have s15 := s1.trans s5
      refine ⟨_, rfl, _, rfl, _, _, rfl, rfl, _, _, rfl, rfl, .inl ⟨by decide, by decide⟩, _, rfl, p, n + 4, 3, rfl, hp4.same s15, by decide, by decide, by omega, fun r5 G6 z0 z1 hp6 hb6 => ?_⟩
      have kp6 := kp_pick hb6
      have ek6 := pen_ek (hp4.same s15) kp6
      obtain ⟨kk, hk, k1⟩ : ∃ kk : Nat, (if 2 * (((2 + wd : Nat) : Int) + ((2 + tl : Nat) : Int)) - r5 > 2 then 2 * (((2 + wd : Nat) : Int) + ((2 + tl : Nat) : Int)) - r5 else 2) = (kk : Int) ∧ 1 ≤ kk := by
        split
        · exact ⟨(2 * (((2 + wd : Nat) : Int) + ((2 + tl : Nat) : Int)) - r5).toNat, by omega, by omega⟩
        · exact ⟨2, rfl, by decide⟩
      refine ⟨_, _, rfl, rfl, _, _, rfl, (kk : Int), congrArg V.int hk, l, _, rfl, SqL.of (ek6.lst eA), fun np hnp => ?_⟩
      rw [cut_take]
      have s7 := same_new (o := .lst ((qs.map V.ref).take kk)) hnp
      refine ⟨_, rfl, _, rfl, np, _, rfl, SqL.of upd_same, fun np2 hnp2 => ?_⟩
      rw [cut_take]
      have s8 := same_new (o := .lst (((qs.map V.ref).take kk).take most)) hnp2
      have ne2 : (A.take kk).take most ≠ [] := take_ne (take_ne neA k1) m1
      refine k np2 _ ((A.take kk).take most) (n + 5) ((hp6.same s7).same s8) (by omega) (((kp4.trans (Kp.of s15)).trans kp6).trans (Kp.of (s7.trans s8))) ⟨(qs.take kk).take most, by rw [upd_same, List.map_take, List.map_take], paired_imp (fun _ _ h => s8 _ _ (s7 _ _ h)) (CellsL.cut (CellsL.cut (ek6.cells pA) kk) most)⟩ ne2 (by rw [List.length_take]; omega) (((pa.take kk).take most).hangs ne2) (head_take (head_take hd k1) m1)
    refine ⟨_, rfl, rfl, _, rfl, ?_⟩
    refine ite2 (fun h8 => ?_) (fun h8 => ?_)
    · refine ⟨_, rfl, (most : Int), rfl, by omega, by omega, fun D hD => ?_⟩
      refine lc_fn (walk_range (lo := 0) (n := ((most : Int)).toNat)) hD (fun i => .int (((i + 2) / 2 * 2 : Nat) : Int)) (by omega) (fun _ _ _ _ => trivial) ?_ ?_
      · rintro i x G G' K1 K0 hi sm ⟨rfl, rfl⟩ k1
        refine ⟨rfl, yesT ⟨_, rfl, _, _, rfl, rfl, _, _, rfl, rfl, ⟨by decide, by decide⟩, _, _, rfl, rfl, .inr ⟨by decide, by decide⟩, ?_⟩⟩
        have e : ((0 : Int) + (i : Int) + 2) / 2 * 2 = (((i + 2) / 2 * 2 : Nat) : Int) := by omega
        have z := k1 G' same_refl
        rw [← e] at z
        exact z
      · intro G3 s3 gD
        have eM : ((most : Int)).toNat = most := Int.toNat_natCast _
        rw [eM] at gD
        refine ⟨D, 1, (List.range most).map fun i => (i + 2) / 2 * 2, rfl, SqL.of (by rw [gD, List.map_map]; rfl), by decide, by decide, by rw [List.length_map, List.length_range]; omega, fun s hs => ?_, fun l G5 A s5 ⟨qs, eA, pA⟩ neA lA pa hd _ => ?_⟩
        · obtain ⟨i, hi, rfl⟩ := List.mem_map.mp hs
          have := List.mem_range.mp hi
          omega
        refine ⟨_, rfl, _, rfl, l, _, rfl, SqL.of eA, fun np hnp => ?_⟩
        rw [cut_take]
        have s7 := same_new (o := .lst ((qs.map V.ref).take many)) hnp
        have sA := (s3.trans s5).trans s7
        refine k np _ (A.take many) (n + 2) (hp2.same sA) (by omega) (kp2.trans (Kp.of sA)) ⟨qs.take many, by rw [upd_same, List.map_take], paired_imp (fun _ _ h => s7 _ _ h) (CellsL.cut pA many)⟩ (take_ne neA mn1) (by rw [List.length_take]; omega) ((pa.take many).hangs (take_ne neA mn1)) (head_take hd mn1)
    obtain ⟨M, hM⟩ : ∃ M : Nat, M = 1 + most / 3 := ⟨_, rfl⟩
    have eM : (1 : Int) + (most : Int) / 3 = (M : Int) := by omega
    have M1 : 1 ≤ M := by omega
    have M20 : M ≤ 20 := by omega
    refine ⟨_, rfl, _, _, rfl, rfl, ⟨by decide, by decide⟩, _, _, rfl, rfl, (M : Int), congrArg (fun z => [V.int z]) eM, by omega, by omega, fun D hD => ?_⟩
    refine lc_cells (walk_range (lo := 0) (n := ((M : Int)).toNat)) hD (fun j => (List.range j).map fun (u : Nat) => ((u : Int), (0 : Int))) rfl (by omega) (fun _ _ _ _ => trivial) ?_ ?_
    · rintro i x G G' K1 K0 hi sm ⟨rfl, rfl⟩ k1 k0
      refine ⟨rfl, yesT ⟨_, rfl, two_le, fun r hr' => ?_⟩⟩
      refine k1 r ((i : Int), 0) _ (same_new hr') ?_ (by rw [List.range_succ, List.map_append]; rfl)
      show upd G' r (.tup [.int (0 + (i : Int)), .int 0]) r = some (.tup [.int (i : Int), .int 0])
      rw [Int.zero_add]
      exact upd_same
    rintro G3 rs s3 gD pD
    have eN : ((M : Int)).toNat = M := Int.toNat_natCast _
    rw [eN] at pD
    refine ⟨_, rfl, _, _, rfl, rfl, ⟨by decide, by decide⟩, _, _, rfl, rfl, 0, (M : Int), 2, (M + 1) / 2, congrArg (fun z => [V.int 0, V.int z, V.int 2]) eM, rgc2 M (by omega), ?_⟩
    refine for_rangeC (lo := 0) (c := 2) (n := (M + 1) / 2) (fun i σ G => ∃ (cl : Addr) (qs : List Addr) (cs : List Cell) (v6 v8 : Option V) (n' : Nat), σ = [some (.ref p), some (.int (most : Int)), some (.int (way : Int)), some (.int (many : Int)), none, none, v6, some (.ref cl), v8] ∧
      G cl = some (.lst (qs.map V.ref)) ∧ Paired (fun q c => At G q c) qs cs ∧ cs.length ≤ M + 3 * i ∧ Grown cs ∧ cs.head? = some (0, 0) ∧ cs ≠ [] ∧ (∀ u : Nat, u < M → ((u : Int), (0 : Int)) ∈ cs) ∧ PenAt G p n' ∧ n' ≤ n + 2 + i ∧ Kp [p] H G)
      ⟨D, rs, _, _, _, n + 2, rfl, gD, pD, by simp, ?_, ?_, ?_, fun u hu => List.mem_map.mpr ⟨u, List.mem_range.mpr hu, rfl⟩, hp2.same s3, by omega, kp2.trans (Kp.of s3)⟩ ?_ ?_
    · obtain ⟨j, rfl⟩ : ∃ j, M = j + 1 := ⟨M - 1, by omega⟩
      exact base_grown j
    · obtain ⟨j, rfl⟩ : ∃ j, M = j + 1 := ⟨M - 1, by omega⟩
      rw [List.range_succ_eq_map]
      rfl
    · intro z
      have := congrArg List.length z
      rw [List.length_map, List.length_range] at this
      have : M = 0 := this
      omega
    · rintro i σ G hi ⟨cl, qs, cs, v6, v8, n', rfl, gl, pr, ln, gr, hd, ne, bas, hpn, hn', kpG⟩
      refine ⟨_, rfl, _, rfl, p, n', 4, rfl, hpn, by decide, by decide, by omega, fun r G1 r0 r4 hp1 hb1 => ?_⟩
      obtain ⟨u, rfl⟩ := Int.eq_ofNat_of_zero_le r0
      have kp1 := kp_pick hb1
      have ek1 := pen_ek hpn kp1
      refine ⟨(u : Int), rfl, by omega, by omega, fun D2 hD2 => ?_⟩
      refine lc_cells (walk_range (lo := 0) (n := ((u : Int)).toNat)) hD2 (fun j => (List.range j).map fun (w : Nat) => (((i * 2 : Nat) : Int), 1 + (w : Int))) rfl (by omega) (fun _ _ _ _ => trivial) ?_ ?_
      · rintro j x G4 G4' K1 K0 hj sm ⟨rfl, rfl⟩ k1 k0
        refine ⟨rfl, yesT ⟨_, rfl, _, rfl, _, _, rfl, rfl, two_le, fun r hr' => ?_⟩⟩
        refine k1 r (((i * 2 : Nat) : Int), 1 + (j : Int)) _ (same_new hr') ?_ (by rw [List.range_succ, List.map_append]; rfl)
        have e1 : (0 : Int) + ((i : Nat) : Int) * 2 = ((i * 2 : Nat) : Int) := by omega
        have e2 : (1 : Int) + (0 + (j : Int)) = 1 + (j : Int) := by omega
        show upd G4' r (.tup [.int (0 + (i : Int) * 2), .int (1 + (0 + (j : Int)))]) r = some (.tup [.int ((i * 2 : Nat) : Int), .int (1 + (j : Int))])
        rw [e1, e2]
        exact upd_same
      · rintro G5 ws s5 gD2 pD2
        have eU : ((u : Int)).toNat = u := Int.toNat_natCast _
        rw [eU] at pD2
        have lw : ws.length = u := by rw [Paired.length pD2, List.length_map, List.length_range]
        have lq : qs.length = cs.length := Paired.length pr
        have gl5 := s5 _ _ (ek1.lst gl)
        refine ⟨cl, D2, _, _, rfl, rfl, gl5, gD2, by rw [List.length_map, List.length_map, sizeLine_eq]; omega, fun np hnp => ?_⟩
        have s6 := same_new (o := .lst (qs.map V.ref ++ ws.map V.ref)) hnp
        refine ⟨np, qs ++ ws, cs ++ _, _, _, n' + 1, rfl, by rw [upd_same, List.map_append], paired_app (paired_imp (fun x y (h : At G x y) => s6 _ _ (s5 _ _ (ek1.at h))) pr) (paired_imp (fun _ _ h => s6 _ _ h) pD2), ?_, tooth_grown gr (bas (i * 2) (by omega)) u, head_app hd _, fun z => ne (List.append_eq_nil_iff.mp z).1, fun w hw => List.mem_append_left _ (bas w hw), (hp1.same s5).same s6, by omega, (kpG.trans kp1).trans (Kp.of (s5.trans s6))⟩
        rw [List.length_append, List.length_map, List.length_range]
        omega
    · rintro σ G ⟨cl, qs, cs, v6, v8, n', rfl, gl, pr, ln, gr, hd, ne, bas, hpn, hn', kpG⟩
      have em : (if (most : Int) > 1 then (most : Int) else 1) = (most : Int) := by split <;> omega
      refine ⟨_, rfl, _, rfl, _, _, rfl, (most : Int), congrArg V.int em, cl, _, rfl, SqL.of gl, fun np hnp => ?_⟩
      rw [cut_take]
      have s7 := same_new (o := .lst ((qs.map V.ref).take most)) hnp
      exact k np _ (cs.take most) n' (hpn.same s7) (by omega) (kpG.trans (Kp.of s7)) ⟨qs.take most, by rw [upd_same, List.map_take], paired_imp (fun _ _ h => s7 _ _ h) (CellsL.cut pr most)⟩ (take_ne ne m1) (by rw [List.length_take]; omega) ((gr.take most).hangs (take_ne ne m1)) (head_take hd m1)
end
end Sq

set_option Elab.async false
set_option linter.all false
set_option maxRecDepth 100000
set_option maxHeartbeats 4000000
/-! The law's bodies. -/
namespace Sq
open PySem PySem.Spec PyProof.Rows L2
/-- turned or not, and moved -/
def placeC (t : Bool) (by_ c : Cell) : Cell := if t = true then (c.2 + by_.1, c.1 + by_.2) else (c.1 + by_.1, c.2 + by_.2)
theorem place_beside {t : Bool} {by_ a b : Cell} (h : b ∈ besideC a) : placeC t by_ b ∈ besideC (placeC t by_ a) := by
  rw [beside_iff] at h ⊢
  unfold placeC
  cases t with
  | true =>
    simp only [if_true]
    omega
  | false =>
    simp only [Bool.false_eq_true, if_false]
    omega
theorem hangs_map {A : List Cell} {g : Cell → Cell} (k : ∀ a b, b ∈ besideC a → g b ∈ besideC (g a)) (h : Hangs A) : Hangs (A.map g) := by
  have r : ∀ {a b : Cell}, Reach A a b → Reach (A.map g) (g a) (g b) := fun {a b} z => by
    induction z with
    | refl => exact .refl
    | step _ hb hc ih => exact ih.step (k _ _ hb) (List.mem_map.mpr ⟨_, hc, rfl⟩)
  refine ⟨fun z => h.1 (List.map_eq_nil_iff.mp z), fun x hx y hy => ?_⟩
  obtain ⟨a, ha, rfl⟩ := List.mem_map.mp hx
  obtain ⟨b, hb, rfl⟩ := List.mem_map.mp hy
  exact r (h.2 a ha b hb)
theorem ks_of {H : Hp} : ∀ {qs : List Addr} {cs : List Cell}, Paired (fun q c => At H q c) qs cs → ∃ ks : List (Addr × List Int), ks.map (·.1) = qs ∧ (∀ p ∈ ks, ∃ c ∈ cs, At H p.1 c ∧ p.2 = [c.1, c.2]) ∧ ∀ c ∈ cs, ∃ p ∈ ks, p.2 = [c.1, c.2]
  | _, _, .nil => ⟨[], rfl, by simp, by simp⟩
  | q :: qs, c :: cs, .cons h t => by
    obtain ⟨ks, e, h1, h2⟩ := ks_of t
    refine ⟨(q, [c.1, c.2]) :: ks, by rw [List.map_cons, e], fun p hp => ?_, fun d hd => ?_⟩
    · rcases List.mem_cons.mp hp with z | z
      · rw [z]
        exact ⟨c, List.mem_cons_self .., h, rfl⟩
      · obtain ⟨d, hd, r⟩ := h1 p z
        exact ⟨d, List.mem_cons_of_mem _ hd, r⟩
    · rcases List.mem_cons.mp hd with z | z
      · rw [z]
        exact ⟨_, List.mem_cons_self .., rfl⟩
      · obtain ⟨p, hp, r⟩ := h2 d z
        exact ⟨p, List.mem_cons_of_mem _ hp, r⟩
theorem cs_of {H : Hp} : ∀ {L : List (Addr × List Int)}, (∀ p ∈ L, ∃ c, At H p.1 c ∧ p.2 = [c.1, c.2]) → ∃ cs : List Cell, Paired (fun p c => At H p.1 c ∧ p.2 = [c.1, c.2]) L cs
  | [], _ => ⟨[], .nil⟩
  | p :: L, h => by
    obtain ⟨c, hc⟩ := h p (List.mem_cons_self ..)
    obtain ⟨cs, r⟩ := cs_of (L := L) fun q hq => h q (List.mem_cons_of_mem _ hq)
    exact ⟨c :: cs, .cons hc r⟩
theorem paired_memR {α β : Type} {F : α → β → Prop} {xs : List α} {ys : List β} (h : Paired F xs ys) : ∀ y ∈ ys, ∃ x ∈ xs, F x y := by
  induction h with
  | nil => intro y hy; cases hy
  | cons a _ ih =>
    intro y hy
    rcases List.mem_cons.mp hy with z | z
    · exact ⟨_, List.mem_cons_self .., z ▸ a⟩
    · obtain ⟨x, hx, f⟩ := ih y z
      exact ⟨x, List.mem_cons_of_mem _ hx, f⟩
theorem paired_memL {α β : Type} {F : α → β → Prop} {xs : List α} {ys : List β} (h : Paired F xs ys) : ∀ x ∈ xs, ∃ y ∈ ys, F x y := by
  induction h with
  | nil => intro y hy; cases hy
  | cons a _ ih =>
    intro y hy
    rcases List.mem_cons.mp hy with z | z
    · exact ⟨_, List.mem_cons_self .., z ▸ a⟩
    · obtain ⟨x, hx, f⟩ := ih y z
      exact ⟨x, List.mem_cons_of_mem _ hx, f⟩
theorem pair_inj {c d : Cell} (h : ([c.1, c.2] : List Int) = [d.1, d.2]) : c = d := by
  obtain ⟨c1, c2⟩ := c
  obtain ⟨d1, d2⟩ := d
  simp only [List.cons.injEq, and_true] at h
  rw [h.1, h.2]
theorem mul_near {r fr : Int} (h0 : 0 ≤ r) (h9 : r < 9) (f0 : 0 ≤ fr) (f1 : fr ≤ 10 ^ 15) : -5000000000000000 ≤ (r - 4) * fr ∧ (r - 4) * fr ≤ 5000000000000000 := by
  have h : r = 0 ∨ r = 1 ∨ r = 2 ∨ r = 3 ∨ r = 4 ∨ r = 5 ∨ r = 6 ∨ r = 7 ∨ r = 8 := by omega
  rcases h with rfl | rfl | rfl | rfl | rfl | rfl | rfl | rfl | rfl <;> omega
/-- a cell of it is not far from the middle -/
def Near0 (L : List Cell) : Prop := ∃ b ∈ L, -5000000000000000 ≤ b.1 ∧ b.1 ≤ 5000000000000000 ∧ -5000000000000000 ≤ b.2 ∧ b.2 ≤ 5000000000000000
def spBody : Sp := fun vs H Q _ => ∃ (p : Addr) (n most : Nat), vs = [.ref p, .int (most : Int)] ∧ PenAt H p n ∧ 1 ≤ most ∧ most ≤ 50 ∧ n < 700000 ∧
  ∀ t H' L n', PenAt H' p n' → n' ≤ n + 500 → Kp [p] H H' → CellsT H' t L → L.Nodup → Asc L → L ≠ [] → L.length ≤ most → Hangs L → Near0 L → Q (.ref t) H'
section
variable {P : Program} {w : World} {K : PySem.W.Frag} {mg : Str → Option Value} {base : Heap}
theorem scBo : FnScope ["_law_pen_here", "_law_most", "_law_far", "_law_cells", "_law_by", "_law_is_turned", "_law_found", "_law_column", "_law_row"] ["_law_pen_here", "_law_most"] (defScope lBody) := ⟨rfl, rfl, rfl, by decide +kernel, rfl, by decide +kernel, by decide +kernel⟩
theorem ok_body {f : Addr} {fd : FuncData} (F : FnP K "_law_t2_body" lBody f fd) (B : Bl mg) (DD : Df P w K mg base CX0 1 "_law_draw" ["_law_pen_here", "_law_many"] spDraw) (DP : Df P w K mg base CX0 2 "_law_pick" ["_law_pen_here", "_law_some"] (spPick K)) (DC : Df P w K mg base CX0 4 "_law_t2_cells" ["_law_pen_here", "_law_most"] spCells) :
    FnOk P w K mg base CX0 5 f fd ["_law_pen_here", "_law_most"] spBody := by
  refine F.ok scBo (fun vs H Q E h => ?_) (fun cdv A0 outer s H vs Q E hr h => ?_)
  · obtain ⟨p, n, most, rfl, _⟩ := h
    rfl
  · obtain ⟨p, n, most, rfl, hp, m1, m50, hn, k⟩ := h
    have h64 := room64 hr
    refine ⟨_, PSs.nox (pss_cons (ps_par (i := 2) (j := 3) (by rfl) scBo.nd rfl rfl (by decide) rfl rfl (pa_cons (pe_df DP hr (by rfl) pass0 (pa_cons (pv 0) (pa_cons (pe_lst (pa_cons pe_int (pa_cons pe_int (pa_cons pe_int (pa_cons (pe_op op_pow pe_int pe_int) pa_nil))))) pa_nil))) (pa_cons (pe_df DC hr (by rfl) pass0 (pa_cons (pv 0) (pa_cons (pv 1) pa_nil))) pa_nil)) (by rfl))
      (pss_cons (ps_par (i := 4) (j := 5) (by rfl) scBo.nd rfl rfl (by decide) rfl rfl (pa_cons (pe_tup (pa_cons (pe_op op_mul (pe_op op_sub (pe_df DD hr (by rfl) pass0 (pa_cons (pv 0) (pa_cons pe_int pa_nil))) pe_int) (pv 2)) (pa_cons (pe_op op_mul (pe_op op_sub (pe_df DD hr (by rfl) pass0 (pa_cons (pv 0) (pa_cons pe_int pa_nil))) pe_int) (pv 2)) pa_nil))) (pa_cons (pe_cmpR op_eq (pe_df DD hr (by rfl) pass0 (pa_cons (pv 0) (pa_cons pe_int pa_nil))) pe_int (nomark _)) pa_nil)) (by rfl))
      (pss_cons (ps_set (i := 6) scBo.nd rfl (.inl rfl) (pe_lst pa_nil))
      (pss_cons (ps_for PassesOwn.never rfl (pi_list (pv 3)) (pg_tup (by rfl) (pgs_cons (pg_name (i := 7) scBo.nd rfl (.inl rfl)) (pgs_cons (pg_name (i := 8) scBo.nd rfl (.inl rfl)) pgs_nil)))
      (pss_one (ps_expr (pe_bm PySem.F.plainAttrs_list PySem.F.slot_list_append PySem.F.type_list_append mt_append (pv 6) (pa_cons (pe_ifExp (pt_truth (pv 5) (by intro _; rfl)) (pe_tup (pa_cons (pe_op op_add (pv 8) (pe_ix (ix_tupK (K := K) rfl) (pv 4) pe_int (fun _ _ => rfl))) (pa_cons (pe_op op_add (pv 7) (pe_ix (ix_tupK (K := K) rfl) (pv 4) pe_int (fun _ _ => rfl))) pa_nil))) (pe_tup (pa_cons (pe_op op_add (pv 7) (pe_ix (ix_tupK (K := K) rfl) (pv 4) pe_int (fun _ _ => rfl))) (pa_cons (pe_op op_add (pv 8) (pe_ix (ix_tupK (K := K) rfl) (pv 4) pe_int (fun _ _ => rfl))) pa_nil)))) pa_nil)))))
      (pss_one (ps_ret (pe_tupleOf (by rfl) B.tuple (pe_callB (cr_sortedS rfl) (by rfl) B.sorted (by decide +kernel) (pa_cons (pe_callTy (cr_setOfT rfl h64) (by rfl) B.set (by decide +kernel) (pa_cons (pv 6) pa_nil)) pa_nil))))))))), ?_⟩
    refine ⟨_, rfl, _, _, rfl, rfl, ⟨by decide, by decide, by decide⟩, four_le, fun l0 hl0 => ?_⟩
    have s0 := same_new (o := .lst [.int 0, .int 0, .int 1, .int (10 ^ 15)]) hl0
    have hp0 := hp.same s0
    refine ⟨p, l0, n, [.int 0, .int 0, .int 1, .int (10 ^ 15)], rfl, hp0, by omega, .inl (SqL.of upd_same), by decide, by decide, fun i x G1 hx hp1 hb1 => ?_⟩
    obtain ⟨fr, rfl, fr0, fr1⟩ : ∃ fr : Int, x = .int fr ∧ 0 ≤ fr ∧ fr ≤ 10 ^ 15 := by
      have m := List.mem_of_getElem? hx
      simp only [List.mem_cons, List.not_mem_nil, or_false] at m
      rcases m with h | h | h | h <;> exact ⟨_, h, by decide, by decide⟩
    have kp1 : Kp [p] H G1 := (Kp.of s0).trans (kp_pick hb1)
    refine ⟨_, rfl, _, rfl, p, n + 1, most, rfl, hp1, m1, m50, by omega, fun lc G2 A n2 hp2 hn2 kp2 ca neA lA hA hd => ?_⟩
    refine ⟨_, _, rfl, ?_⟩
    -- by and turned
    refine ⟨_, rfl, p, n2, 9, rfl, hp2, by decide, by decide, by omega, fun r3 G3 a0 a9 hp3 hb3 => ⟨_, _, rfl, rfl, _, rfl, _, _, rfl, rfl, .inl ⟨by omega, by omega⟩, ?_⟩⟩
    refine ⟨_, rfl, p, n2 + 1, 9, rfl, hp3, by decide, by decide, by omega, fun r4 G4 b0 b9 hp4 hb4 => ⟨_, _, rfl, rfl, _, rfl, _, _, rfl, rfl, .inl ⟨by omega, by omega⟩, two_le, fun bt hbt => ?_⟩⟩
    have s5 := same_new (o := .tup [.int ((r3 - 4) * fr), .int ((r4 - 4) * fr)]) hbt
    have hp5 := hp4.same s5
    refine ⟨_, rfl, p, n2 + 2, 2, rfl, hp5, by decide, by decide, by omega, fun r6 G6 c0 c2 hp6 hb6 => ⟨rfl, _, _, rfl, ?_⟩⟩
    have kp6' := kp_pick hb6
    have ek6 := pen_ek hp5 kp6'
    have kp6 : Kp [p] G2 G6 := (((kp_pick hb3).trans (kp_pick hb4)).trans (Kp.of s5)).trans kp6'
    have ek26 := pen_ek hp2 kp6
    have abt : At G6 bt ((r3 - 4) * fr, (r4 - 4) * fr) := ek6.at upd_same
    obtain ⟨byc, eby⟩ : ∃ byc : Cell, byc = ((r3 - 4) * fr, (r4 - 4) * fr) := ⟨_, rfl⟩
    rw [← eby] at abt
    obtain ⟨tt, ett⟩ : ∃ tt : Bool, tt = decide (V.int r6 = V.int 0) := ⟨_, rfl⟩
    rw [← ett]
    refine ⟨Nat.zero_le _, fun fo hfo => ?_⟩
    have s7 := same_new (o := .lst []) hfo
    obtain ⟨qs, eq, pq⟩ := (ca.ek ek26).ek (.of s7)
    have kp7 : Kp [p] H (upd G6 fo (.lst [])) := ((kp1.trans kp2).trans kp6).trans (Kp.of s7)
    have hp7 := hp6.same s7
    have ab7 : At (upd G6 fo (.lst [])) bt byc := s7 _ _ abt
    have ef : upd G6 fo (.lst []) fo = some (.lst []) := upd_same
    have fresh : ∀ (b : Addr) (o : HO), b ≠ p → H b = some o → b ≠ fo := fun b o hb e z => by
      have := ((kp1.trans kp2).trans kp6) b o (fun m => hb (List.mem_singleton.mp m)) e
      rw [z, hfo] at this
      cases this
    have npf : p ≠ fo := fun z => by
      obtain ⟨c, zs, i, dg, fo1, e, _⟩ := hp6.ex
      rw [z, hfo] at e
      cases e
    have nqf : lc ≠ fo := fun z => by
      obtain ⟨qs', eq', _⟩ := (ca.ek ek26)
      rw [z, hfo] at eq'
      cases eq'
    obtain ⟨pc, pz, pi, pd, pf, pe1, pe2, pr0⟩ := hp6.ex
    have npc : pc ≠ fo := fun z => by
      rw [z, hfo] at pe2
      cases pe2
    have pe1 := s7 _ _ pe1
    have pe2 := s7 _ _ pe2
    generalize upd G6 fo (.lst []) = G7 at eq pq kp7 hp7 ab7 ef pe1 pe2 ⊢
    have lq : qs.length = A.length := Paired.length pq
    refine ⟨_, rfl, lc, rfl, ⟨_, SqL.of eq⟩, ?_⟩
    refine for_list (K := K) (a := lc) (xs := qs.map V.ref) (fun i σ G => ∃ (v7 v8 : Option V) (rs : List Addr), σ = [some (.ref p), some (.int (most : Int)), some (.int fr), some (.ref lc), some (.ref bt), some (.bl tt), some (.ref fo), v7, v8] ∧
      (∀ b o, b ≠ fo → G7 b = some o → G b = some o) ∧ G fo = some (.lst (rs.map V.ref)) ∧ rs.length ≤ i ∧ Paired (fun q c => At G q c) rs ((A.take i).map (placeC tt byc))) ⟨none, none, [], rfl, fun _ _ _ e => e, ef, Nat.le_refl _, .nil⟩ (fun i σ G _ ⟨_, _, _, _, kp, _⟩ => SqL.of (kp _ _ nqf eq)) ?_ ?_
    · rintro i x σ G hi ⟨v7, v8, rs, rfl, kG, gf, ln, pr⟩
      rw [List.getElem?_map] at hi
      obtain ⟨q, hq, rfl⟩ := Option.map_eq_some_iff.mp hi
      obtain ⟨c, hc, ac⟩ := paired_get pq hq
      have iA : i < A.length := (List.getElem?_eq_some_iff.mp hc).1
      have nf : ∀ {b : Addr} {d : Cell}, At G7 b d → b ≠ fo := fun {b d} h => ne_of h ef (by intro z; cases z)
      have acG : At G q c := kG _ _ (nf ac) ac
      have abG : At G bt byc := kG _ _ (nf ab7) ab7
      refine ⟨q, _, rfl, SqT.of acG, rfl, _, _, rfl, _, _, rfl, rfl, ?_⟩
      -- the end of the turn
      have fin : ∀ (r : Addr) (G' : Hp), G r = none → G' = upd (upd G r (.tup (cV (placeC tt byc c)))) fo (.lst (rs.map V.ref ++ [V.ref r])) → ∃ (w7 w8 : Option V) (rs' : List Addr), [some (.ref p), some (.int (most : Int)), some (.int fr), some (.ref lc), some (.ref bt), some (.bl tt), some (.ref fo), some (.int c.1), some (.int c.2)] = [some (.ref p), some (.int (most : Int)), some (.int fr), some (.ref lc), some (.ref bt), some (.bl tt), some (.ref fo), w7, w8] ∧
          (∀ b o, b ≠ fo → G7 b = some o → G' b = some o) ∧ G' fo = some (.lst (rs'.map V.ref)) ∧ rs'.length ≤ i + 1 ∧ Paired (fun q c => At G' q c) rs' ((A.take (i + 1)).map (placeC tt byc)) := by
        intro r G' hr' e
        subst e
        have u1 := same_new (o := .tup (cV (placeC tt byc c))) hr'
        have off : ∀ {x : Addr} {y : Cell}, At (upd G r (.tup (cV (placeC tt byc c)))) x y → At (upd (upd G r (.tup (cV (placeC tt byc c)))) fo (.lst (rs.map V.ref ++ [V.ref r]))) x y := fun h => h.off (u1 _ _ gf) (by intro xs z; cases z)
        refine ⟨_, _, rs ++ [r], rfl, fun b o hb e => ?_, by rw [upd_same, List.map_append]; rfl, by rw [List.length_append]; exact Nat.succ_le_succ ln, ?_⟩
        · rw [upd_ne hb]
          exact u1 _ _ (kG b o hb e)
        · rw [take_snoc hc, List.map_append]
          exact (paired_imp (fun x y (h : At G x y) => off (u1 _ _ h)) pr).snoc (off upd_same)
      refine ⟨_, rfl, .inl ⟨rfl, _, SqL.of gf⟩, _, rfl, tt, rfl, ?_⟩
      refine ite2 (fun ht => ?_) (fun ht => ?_)
      · refine ⟨_, rfl, _, rfl, _, _, _, _, rfl, rfl, SqT.of abG, at0, _, _, rfl, rfl, _, rfl, _, rfl, _, _, _, _, rfl, rfl, SqT.of abG, at1, _, _, rfl, rfl, two_le, fun r hr' => ?_⟩
        have pe : placeC tt byc c = (c.2 + byc.1, c.1 + byc.2) := by unfold placeC; rw [if_pos ht]
        have u1 := same_new (o := .tup [.int (c.2 + byc.1), .int (c.1 + byc.2)]) hr'
        exact ⟨fo, _, _, rfl, rfl, u1 _ _ gf, by rw [List.length_map, sizeLine_eq]; omega, fin r _ hr' (by rw [pe]; rfl)⟩
      · refine ⟨_, rfl, _, rfl, _, _, _, _, rfl, rfl, SqT.of abG, at0, _, _, rfl, rfl, _, rfl, _, rfl, _, _, _, _, rfl, rfl, SqT.of abG, at1, _, _, rfl, rfl, two_le, fun r hr' => ?_⟩
        have pe : placeC tt byc c = (c.1 + byc.1, c.2 + byc.2) := by unfold placeC; rw [if_neg ht]
        have u1 := same_new (o := .tup [.int (c.1 + byc.1), .int (c.2 + byc.2)]) hr'
        exact ⟨fo, _, _, rfl, rfl, u1 _ _ gf, by rw [List.length_map, sizeLine_eq]; omega, fin r _ hr' (by rw [pe]; rfl)⟩
    · rintro σ G ⟨v7, v8, rs, rfl, kG, gf, ln, pr⟩
      have el : A.take (qs.map V.ref).length = A := by rw [List.length_map, lq, List.take_length]
      rw [el] at pr
      obtain ⟨ks, ek, k1, k2⟩ := ks_of pr
      have lks : ks.length = rs.length := by rw [← ek, List.length_map]
      have lrs : rs.length = A.length := by rw [Paired.length pr, List.length_map]
      refine ⟨_, rfl, fo, ks, rfl, SqL.of (by rw [gf, ← ek, List.map_map]; rfl), fun q hq => ?_, by omega, fun sa L hsa subL allL => ?_⟩
      · obtain ⟨c, _, ac, e⟩ := k1 q hq
        rw [e]
        exact SqT.of ac
      have u1 := same_new (o := SetTO P w sa L) hsa
      obtain ⟨cs, pcs⟩ := cs_of (H := upd G sa (SetTO P w sa L)) (L := L) fun q hq => by
        obtain ⟨c, _, ac, e⟩ := k1 q (subL q hq)
        exact ⟨c, u1 _ _ ac, e⟩
      have mem : ∀ c, c ∈ cs ↔ c ∈ A.map (placeC tt byc) := fun c => by
        constructor
        · intro hc
          obtain ⟨q, hq, aq, e⟩ := paired_memR pcs c hc
          obtain ⟨d, hd, ad, e2⟩ := k1 q (subL q hq)
          rw [e] at e2
          rw [pair_inj e2]
          exact hd
        · intro hc
          obtain ⟨q, hq, e⟩ := k2 c hc
          obtain ⟨q2, hq2, e2⟩ := List.mem_map.mp (allL q hq)
          obtain ⟨d, hd, _, e3⟩ := paired_memL pcs q2 hq2
          rw [e2, e] at e3
          rw [pair_inj e3]
          exact hd
      refine ⟨sa, L, cs, rfl, upd_same, pcs, fun nd so qs' cs' prq pm asc hso => .inl ⟨so, _, rfl, SqL.of upd_same, fun tp htp => ?_⟩⟩
      have u2 := same_new (o := .lst (qs'.map V.ref)) hso
      have u3 := same_new (o := .tup (qs'.map V.ref)) htp
      have u := (u1.trans u2).trans u3
      have nd' : cs'.Nodup := pm.nodup_iff.mpr nd
      have mem' : ∀ c, c ∈ cs' ↔ c ∈ A.map (placeC tt byc) := fun c => by rw [pm.mem_iff, mem]
      have hA' : Hangs cs' := (hangs_perm mem').mpr (hangs_map (fun a b h => place_beside h) hA)
      have len' : cs'.length ≤ most := by
        have := len_le nd' (ys := A.map (placeC tt byc)) fun x hx => (mem' x).mp hx
        rw [List.length_map] at this
        omega
      have near : Near0 cs' := by
        have m0 : ((0, 0) : Cell) ∈ A := by
          cases A with
          | nil => cases hd
          | cons a t =>
            rw [Option.some.inj hd]
            exact List.mem_cons_self ..
        have e0 : placeC tt byc (0, 0) = byc := by
          unfold placeC
          split <;> simp
        refine ⟨byc, (mem' byc).mpr (List.mem_map.mpr ⟨_, m0, e0⟩), ?_⟩
        rw [eby]
        obtain ⟨x1, x2⟩ := mul_near a0 a9 fr0 fr1
        obtain ⟨y1, y2⟩ := mul_near b0 b9 fr0 fr1
        exact ⟨x1, x2, y1, y2⟩
      have hpG : PenAt G p (n2 + 3) := ⟨⟨pc, pz, pi, pd, pf, kG _ _ npf pe1, kG _ _ npc pe2, pr0⟩⟩
      exact k tp _ cs' (n2 + 3) (hpG.same u) (by omega) (fun b o hb e => u _ _ (kG b o (fresh b o (fun z => hb (by rw [z]; exact List.mem_singleton.mpr rfl)) e) (kp7 b o hb e))) ⟨qs', upd_same, paired_imp (fun x y (h : At _ x y) => u3 _ _ (u2 _ _ h)) prq⟩ nd' asc hA'.1 len' hA' near
end
end Sq

set_option Elab.async false
set_option linter.all false
set_option maxRecDepth 100000
set_option maxHeartbeats 4000000
/-! The pairs of a dict whose keys are tuples, gone through. -/
namespace Sq
open PySem PySem.Spec PyProof.Rows L2
section
variable {X : Cx} {pins : List (Addr × Obj)} {σ : L2.St} {H : Hp} {s : Shared} {d : Addr} {o : Obj}
/-- what a locked dict of tuple keys holds, as it stands -/
theorem frz_pairs {kvs : List (List Key × V)} (I : Inv X pins σ H s) (h : H d = some (.frz o (.dT kvs))) :
    (d == sysModules) = false ∧ o.ExactDict ∧ ∃ (es : Array DictEntry) (ep : Nat), o.data = .dict es ep ∧ s.heap.DictRaw d es ep ∧ es.size = kvs.length ∧
      ∀ (i : Nat) (k : List Key) (v : V), kvs[i]? = some (k, v) → ∃ (hi : i < es.size) (q : Addr), es[i].key = .ref q ∧ H q = some (.tup (k.map kV)) ∧ RelV v es[i].val := by
  obtain ⟨hd, z, hs, xs, pr, o', es, ep, ho, hx, hdt, he, _⟩ := I.hok d _ h
  rw [hd] at ho
  cases ho
  have l1 : es.size = xs.length := size_of_entries he
  have l2 : kvs.length = xs.length := Paired.length pr
  refine ⟨hs, hx, es, ep, hdt, ⟨_, hd, hx, hdt⟩, by omega, fun i k v e => ?_⟩
  have hi : i < es.size := by
    have := (List.getElem?_eq_some_iff.mp e).1
    omega
  obtain ⟨b, hb, e1, e2, e3⟩ := L2.paired_get pr e
  have q := entry_at he i
  rw [hb, Array.getElem?_eq_getElem hi] at q
  have q2 := Option.some.inj q
  refine ⟨hi, b.2.1, ?_, e2, ?_⟩
  · rw [q2]
    rfl
  · rw [q2]
    exact e3
end
/-- the pairs, each a new tuple of the key's own tuple and its value -/
def ItPt (d : Addr) (o : Obj) (kvs : List (List Key × V)) : It :=
  ⟨fun i H => H d = some (.frz o (.dT kvs)) ∧ i < kvs.length, fun i H x H' => ∃ (t q : Addr) (k : List Key) (v : V), kvs[i]? = some (k, v) ∧ H q = some (.tup (k.map kV)) ∧ x = .ref t ∧ H t = none ∧ H' = upd H t (.tup [.ref q, v]), fun i H => H d = some (.frz o (.dT kvs)) ∧ kvs.length ≤ i⟩
theorem turn_pairsT {P : Program} {w : World} {K : PySem.W.Frag} {d : Addr} {o : Obj} {es : Array DictEntry} {ep : Nat} {kvs : List (List Key × V)} {elts : List Expr} {kk : Nat} {tpos : Pos} (it : Addr) (hod : o.data = .dict es ep) :
    Turn P w K (.Tuple elts kk tpos) (ItPt d o kvs) [it] it (fun i h => ∃ ok ov, IsItemIter h it d i kvs.length ep ok ov) where
  mem := List.mem_singleton.mpr rfl
  obj := fun i h st b hb => by
    obtain ⟨ok, ov, e⟩ := st
    rw [List.mem_singleton.mp hb]
    exact ⟨_, e, fun v z => nomatch z⟩
  keep := fun i h h' st k => by
    obtain ⟨ok, ov, e⟩ := st
    exact ⟨ok, ov, k it (List.mem_singleton.mpr rfl) _ e⟩
  item := by
    intro X eP ew eK calm i pins s σ H E I free st go
    subst eP ew eK
    obtain ⟨hd, hi⟩ := go
    obtain ⟨hs, hx, es2, ep2, hdt, raw, sz, ent⟩ := frz_pairs I hd
    obtain ⟨rfl, rfl⟩ := dict_ep hod hdt
    obtain ⟨⟨k, v⟩, hkv⟩ : ∃ p, kvs[i]? = some p := ⟨_, List.getElem?_eq_getElem hi⟩
    obtain ⟨hi2, q, ek, hq, rv⟩ := ent i k v hkv
    obtain ⟨ok, ov, here⟩ := st
    rw [← sz] at here
    have lt : it < s.heap.objs.size := Heap.lt_size here
    refine wpAny_pyNext_items_item_raw here raw hi2 fun h1 out tup _ old => ?_
    refine ⟨_, rfl, wpAny_letOwnedTupleGo_items (s := { s with heap := h1 }) out fun h2 next same => ?_⟩
    have tup2 : h2.get? s.heap.objs.size = some { cls := .type "tuple", data := .seq #[es2[i].key, es2[i].val] } := (same.2 _ (Nat.ne_of_gt lt)).trans tup
    have fresh : ObjOk X.prog X.w (upd H s.heap.objs.size (.tup [.ref q, v])) h2 s.heap.objs.size (.tup [.ref q, v]) :=
      ⟨by show 2 ≤ sizeLine; decide, [es2[i].key, es2[i].val], .cons ek (.cons rv .nil), ⟨_, tup2, rfl, _, rfl⟩⟩
    have J : Inv X pins σ (upd H s.heap.objs.size (.tup [.ref q, v])) { s with heap := h2 } :=
      I.turnedNew (t' := s.toks) (ch := [it]) (fun b u hb e => (same.2 b (fun z => hb (List.mem_singleton.mpr z))).trans (old b u (fun z => hb (List.mem_singleton.mpr z)) e)) free (Nat.le_refl _) fresh
    refine ⟨.ref s.heap.objs.size, _, J, rfl, ⟨_, q, k, v, hkv, hq, rfl, I.hok.fresh (Nat.le_refl _), rfl⟩, ⟨es2[i].key, es2[i].val, ?_⟩, fun b hb => ?_⟩
    · rw [← sz]
      exact next
    · rw [List.mem_singleton.mp hb, upd_ne (Nat.ne_of_lt lt)]
      exact (free it (List.mem_singleton.mpr rfl)).1
  done := by
    intro X eP ew eK calm i pins s σ H E I free st stop
    subst eP ew eK
    obtain ⟨hd, hi⟩ := stop
    obtain ⟨f0, f1, f2, f3, f4, f5⟩ := free it (List.mem_singleton.mpr rfl)
    obtain ⟨hs, hx, es2, ep2, hdt, raw, sz, _⟩ := frz_pairs I hd
    obtain ⟨rfl, rfl⟩ := dict_ep hod hdt
    obtain ⟨ok, ov, here⟩ := st
    rw [← sz] at here
    exact wpAny_pyNext_items_end_raw (I.ok.hd calm) here raw (by omega) fun h2 eb => ⟨rfl, I.turned (t' := s.toks) (fun b u hb e => eb b u hb e) f0 f1 f3 f4 f5⟩
  self := fun A i s Q E st h => by
    obtain ⟨_, _, e⟩ := st
    exact PySem.W.kcp_self e h
/-- d.items(), d locked -/
def iPairsT (td : TE) : TI := fun σ H R => td σ H fun x H1 => ∃ d o kvs, x = .ref d ∧ H1 d = some (.frz o (.dT kvs)) ∧ R (ItPt d o kvs) H1
theorem pi_pairsT {X : Cx} {e : Expr} {td : TE} {apos cpos : Pos} {elts : List Expr} {kk : Nat} {tpos : Pos} (he : PE X e td) (hbase : attributeBase e "items" X.env (eval e X.env) = eval e X.env := by rfl) (hline : (apos.endLine == cpos.line) = true := by rfl) :
    PI X (.Tuple elts kk tpos) (.Call (.Attribute e "items" apos) [] [] cpos) (iPairsT td) := by
  refine ⟨fun pins s σ H R I h => ?_⟩
  refine wpAny_Call_method (T := "dict") (id := "dict.items") hbase rfl hline PySem.F.plainAttrs_dict PySem.F.slot_dict_items PySem.F.type_dict_items (thn (he.run pins s σ H _ I h) fun u s1 ⟨x, H1, I1, rx, d, o, kvs, ex, hd, q⟩ => ?_)
  subst ex
  obtain rfl : u = Value.ref d := rx
  obtain ⟨hs, hx, es, ep, hdt, raw, sz, _⟩ := frz_pairs I1 hd
  refine ⟨raw.typeIs, ?_, ?_⟩
  · intro b eb
    obtain ⟨od, a1, a2, a3⟩ := raw
    obtain rfl : d = b := Value.ref.inj eb
    exact ⟨od, a1, a2.2.1⟩
  have I2 : Inv X pins σ H1 { s1 with heap := s1.heap.push { cls := .type "dict_items", data := .fields #[.ref d] } } := I1.kept (t' := s1.toks) fun b u e => Heap.get?_push_of_some _ e
  have raw2 : (s1.heap.push { cls := .type "dict_items", data := .fields #[.ref d] }).DictRaw d es ep := by
    obtain ⟨od, a1, a2, a3⟩ := raw
    exact ⟨od, Heap.get?_push_of_some _ a1, a2, a3⟩
  have fin : wpAny (model X.prog X.w) X.A (pyIter (.ref s1.heap.objs.size)) (PIE X pins σ (.Tuple elts kk tpos) R) X.xe { s1 with heap := s1.heap.push { cls := .type "dict_items", data := .fields #[.ref d] } } := by
    refine wpAny_pyIter_items_raw (d := d) ⟨_, Heap.get?_push_size _ rfl, rfl, rfl⟩ raw2 (pi_one (tk := s1.toks) I2 _ (turn_pairsT _ hdt) ⟨.none, .none, ?_⟩ q)
    rw [← sz]
    exact Heap.get?_push_size _ rfl
  show wpAny _ _ (callWith cpos (.builtin "dict.items") [.ref d] [] []) _ X.xe s1
  exact method_meetsIn PySem.F.slot_dict_items PySem.F.entry_dict_items rfl (PySem.evalArgs_none ⟨rfl, raw.typeIs, PySem.F.args_dict_items_1 _, _, meets_dict_items_raw d hs, ⟨_, _, raw⟩, fin⟩)
end Sq

set_option Elab.async false
set_option linter.all false
set_option maxRecDepth 100000
set_option maxHeartbeats 4000000
/-! enumerate over a dict whose keys are tuples. -/
namespace Sq
open PySem PySem.Spec PyProof.Rows L2
section
variable {prog : Program} {w : World} {A : Around} {E : Value → Shared → Prop} {s : Shared} {it d : Addr} {i ep : Nat} {es : Array DictEntry}
theorem key_next {Q : Value → Shared → Prop} (here : s.heap.IsKeyIter it d i es.size ep) (raw : s.heap.DictRaw d es ep) (lt : i < es.size)
    (q : ∀ h1, h1.IsKeyIter it d (i + 1) es.size ep → Heap.SameBut it s.heap h1 → Q es[i].key { s with heap := h1 }) : wpAny (model prog w) A (Builtin.SmallTypes.nextOf (.ref it)) Q E s := by
  obtain ⟨oi, ei, ci, di⟩ := id here
  obtain ⟨od, e1, x1, d1⟩ := id raw
  have own : Builtin.Dict_items.ownsTuple "dict_keyiterator" = false := by decide
  unfold Builtin.SmallTypes.nextOf
  refine wpAny_bind (wpAny_callSpecial?_slot (name := Str.ofString "__next__") here.typeIs PySem.F.slot_dict_keyiterator_next (wpAny_call_entry PySem.F.slot_dict_keyiterator_next here.typeIs PySem.F.entry_dict_keyiterator_next ?_ (PySem.F.args_dict_keyiterator_next_1 _)))
  refine wpAny_bind (wpAny_pure (wpAny_bind (wpAny_bind ?_)))
  first | refine wpAny_bind (wpAny_typeNameOfWhole_keyiter here.typeIs (wpAny_pure (wpAny_bind (wpAny_fieldsOf ei di ?_)))) | refine wpAny_bind (wpAny_typeNameOf_keyiter here.typeIs (wpAny_pure (wpAny_bind (wpAny_fieldsOf ei di ?_))))
  simp only [own, Bool.false_eq_true, if_false]
  show wpAny (model prog w) _ (if (Value.ref d == Value.none) = true then _ else _) _ _ s
  rw [if_neg (show ¬ ((Value.ref d == Value.none) = true) from Bool.false_ne_true)] <;> refine wpAny_bind (wpAny_pure (wpAny_bind (wpAny_dictEntries e1 d1 ?_)))
  rw [if_neg (by simp)] <;> refine wpAny_bind (wpAny_pure (wpAny_bind (wpAny_dictEpoch e1 d1 ?_)))
  rw [if_neg (by simp)] <;> refine wpAny_pure ?_
  simp only [show ¬ ((i : Int) < 0) from by omega, if_false, Int.toNat_natCast, Array.getElem?_eq_getElem lt] <;> refine wpAny_bind ?_
  first | refine wpAny_bind (wpAny_typeNameOfWhole_keyiter here.typeIs (wpAny_pure (wpAny_bind (wpAny_isOneOf_keyiter here.typeIs ?_)))) | refine wpAny_bind (wpAny_typeNameOf_keyiter here.typeIs (wpAny_pure (wpAny_bind (wpAny_isOneOf_keyiter here.typeIs ?_))))
  show wpAny (model prog w) _ (setField (.ref it) 1 (rawInt ((i : Int) + 1)) >>= _) _ _ s
  refine wpAny_bind (wpAny_setField ei di (by simp) ?_)
  have next : (s.heap.update it (Obj.mapFields (·.setIfInBounds 1 (rawInt ((i : Int) + 1))))).IsKeyIter it d (i + 1) es.size ep := ⟨_, Heap.get?_update_self _ ei (Obj.isFreed_of_fields (Obj.data_mapFields di _)), (Obj.cls_mapFields ..).trans ci, by
    rw [Obj.data_mapFields di] <;> simp [rawInt]⟩
  refine wpAny_bind (wpAny_holding (wpAny_bind (wpAny_isOneOf_keyiter (s := { s with heap := s.heap.update it (Obj.mapFields (·.setIfInBounds 1 (rawInt ((i : Int) + 1)))) }) next.typeIs ?_)))
  show wpAny (model prog w) _ (pure es[i].key) _ _ _
  exact wpAny_pure (wpAny_pure ⟨_, rfl, wpAny_pure (q _ next (Heap.SameBut.update ..))⟩)
theorem key_stop {Q : Value → Shared → Prop} (calm : A.handled = none) (here : s.heap.IsKeyIter it d i es.size ep) (raw : s.heap.DictRaw d es ep) (ge : es.size ≤ i)
    (q : ∀ h1 x, Heap.ExtBut it s.heap h1 → (∃ o, h1.get? x = some o ∧ o.cls = .type "StopIteration") → E (.ref x) { s with heap := h1 }) : wpAny (model prog w) A (Builtin.SmallTypes.nextOf (.ref it)) Q E s := by
  obtain ⟨oi, ei, ci, di⟩ := id here
  obtain ⟨od, e1, x1, d1⟩ := id raw
  have own : Builtin.Dict_items.ownsTuple "dict_keyiterator" = false := by decide
  unfold Builtin.SmallTypes.nextOf
  refine wpAny_bind (wpAny_callSpecial?_slot (name := Str.ofString "__next__") here.typeIs PySem.F.slot_dict_keyiterator_next (wpAny_call_entry PySem.F.slot_dict_keyiterator_next here.typeIs PySem.F.entry_dict_keyiterator_next ?_ (PySem.F.args_dict_keyiterator_next_1 _)))
  refine wpAny_bind (wpAny_pure (wpAny_bind (wpAny_bind ?_)))
  first | refine wpAny_bind (wpAny_typeNameOfWhole_keyiter here.typeIs (wpAny_pure (wpAny_bind (wpAny_fieldsOf ei di ?_)))) | refine wpAny_bind (wpAny_typeNameOf_keyiter here.typeIs (wpAny_pure (wpAny_bind (wpAny_fieldsOf ei di ?_))))
  simp only [own, Bool.false_eq_true, if_false]
  show wpAny (model prog w) _ (if (Value.ref d == Value.none) = true then _ else _) _ _ s
  rw [if_neg (show ¬ ((Value.ref d == Value.none) = true) from Bool.false_ne_true)] <;> refine wpAny_bind (wpAny_pure (wpAny_bind (wpAny_dictEntries e1 d1 ?_)))
  rw [if_neg (by simp)] <;> refine wpAny_bind (wpAny_pure (wpAny_bind (wpAny_dictEpoch e1 d1 ?_)))
  rw [if_neg (by simp)] <;> refine wpAny_pure ?_
  simp only [show ¬ ((i : Int) < 0) from by omega, if_false, Int.toNat_natCast, Array.getElem?_eq_none ge] <;> refine wpAny_bind ?_
  first | refine wpAny_bind (wpAny_typeNameOfWhole_keyiter here.typeIs (wpAny_pure ?_)) | refine wpAny_bind (wpAny_typeNameOf_keyiter here.typeIs (wpAny_pure ?_))
  show wpAny (model prog w) _ (setField (.ref it) 0 .none >>= _) _ _ s
  refine wpAny_bind (wpAny_setField ei di (by simp) ?_)
  show wpAny (model prog w) _ (newExc (.type "StopIteration") [] >>= _) _ _ _
  refine wpAny_bind ?_ <;> simp only [newExc, newTuple]
  refine wpAny_bind (wpAny_newObj_type (wpAny_bind (m := firstArgMember _ _) (wpAny_of_eq (a := Value.none) (by first | rfl | (simp only [firstArgMember]; rfl)) (wpAny_newObj_type ?_ (by size_fits)))) (by size_fits))
  simp only [raiseNew] <;> refine wpAny_bind (wpAny_handled ?_)
  first | rw [show A.in1.handled = none from calm] | rw [calm]
  exact wpAny_bind (wpAny_pure (wpAny_throw (q _ _ (((Heap.SameBut.update ..).extBut.push _).push _) ⟨_, Heap.get?_push_size _ rfl, rfl⟩)))
end
/-- what a dict's key iterator hands out -/
theorem keys_draw {prog : Program} {w : World} {A : Around} {it d : Addr} {ep : Nat} {es : Array DictEntry} (calm : A.handled = none) :
    Draws prog w A it [it, d] es.size (fun i x => ∃ hi : i < es.size, x = es[i].key) (fun i h => h.IsKeyIter it d i es.size ep ∧ h.DictRaw d es ep ∧ it ≠ d) where
  live := fun i h st => by
    obtain ⟨⟨o, e, _⟩, _⟩ := st
    exact ⟨o, e⟩
  frame := fun i h h' st k => ⟨st.1.at fun o e => k it (List.mem_cons_self ..) o e, st.2.1.at fun o e => k d (List.mem_cons_of_mem _ (List.mem_cons_self ..)) o e, st.2.2⟩
  item := fun i s Q E hi st q => by
    obtain ⟨here, raw, ne⟩ := st
    exact key_next here raw hi fun h1 a sb => q _ h1 s.toks ⟨hi, rfl⟩ ⟨a, raw.at fun o e => (sb.2 d (Ne.symm ne)).trans e, ne⟩ sb
  done := fun s Q E st q => by
    obtain ⟨here, raw, ne⟩ := st
    exact key_stop calm here raw (Nat.le_refl _) fun h1 x eb ex => q h1 x eb ex
theorem begins_dict {d : Addr} {es : Array DictEntry} {ep : Nat} (hd : (d == sysModules) = false) : Begins (.ref d) { cls := .type "dict_keyiterator", data := .fields #[.ref d, .int 0 0, .int es.size 0, .int ep 0] } fun h => h.DictRaw d es ep where
  iter := fun prog w A E s Q raw q => wpAny_pyIter_dict_raw hd raw q
  keeps := fun h h' x k => x.at fun o e => k d o e
  free := rfl
set_option maxHeartbeats 8000000 in
theorem enum_new {v : Value} {o : Obj} {Hh : Heap → Prop} (B : Begins v o Hh) :
    Meets (Builtin.«enumerate.__new__» ⟨[.type "enumerate", v], []⟩) (fun _ R s => Hh s.heap ∧ R (.ok (.ret (.ref (s.heap.push o).objs.size))) { s with heap := (s.heap.push o).push { cls := .type "enumerate", data := .fields #[.none, .bool false, .ref s.heap.objs.size, rawInt 0, .none, .none] } }) :=
  .of_wp fun prog w A R s hh => by
    obtain ⟨hp, g, d, tk, os⟩ := s
    obtain ⟨h1, q0⟩ := hh
    have subE := sub_enumerate
    have go : ∀ {A' : Around} {E : Value → Shared → Prop} {Q : Value → Shared → Prop}, Q (.ref hp.objs.size) ⟨hp.push o, g, d, tk, os⟩ → wpAny (model prog w) A' (pyIter v) Q E ⟨hp, g, d, tk, os⟩ := fun {A' E Q} q => B.iter prog w A' E ⟨hp, g, d, tk, os⟩ Q h1 q
    wp_walk using go
    refine wpAny_stack_any fun st => wpAny_pure ?_
    split
    · rename_i c _ _ _ _ _
      cases (c == Value.type "enumerate") <;> (wp_walk using go; exact ⟨_, rfl, q0⟩)
    · wp_walk using go; exact ⟨_, rfl, q0⟩
theorem call_enumD {prog : Program} {w : World} {A : Around} {E : Value → Shared → Prop} {s : Shared} {v : Value} {o : Obj} {Hh : Heap → Prop} {Q : Value → Shared → Prop} (B : Begins v o Hh) (h1 : Hh s.heap)
    (q : ∀ h', IsEnum h' (s.heap.objs.size + 1) s.heap.objs.size 0 .none → h'.get? s.heap.objs.size = some o → (∀ b u, s.heap.get? b = some u → h'.get? b = some u) → Q (.ref (s.heap.objs.size + 1)) { s with heap := h' }) :
    wpAny (model prog w) A (call (.type "enumerate") [v]) Q E s := by
  refine callType_new PySem.F.called_enumerate (by decide) (PySem.F.typeCall_enumerate_1 _) (PySem.F.newCall_enumerate_1 _) (fun obj => PySem.F.args_object_init_2 obj _) PySem.F.entry_enumerate_new (enum_new B) ⟨h1, ?_⟩
  have sz : (s.heap.push o).objs.size = s.heap.objs.size + 1 := Heap.size_push ..
  show _ ∧ _
  rw [sz]
  have he : IsEnum ((s.heap.push o).push { cls := .type "enumerate", data := .fields #[.none, .bool false, .ref s.heap.objs.size, rawInt 0, .none, .none] }) (s.heap.objs.size + 1) s.heap.objs.size 0 .none := by
    have z := Heap.get?_push_size (s.heap.push o) (o := { cls := .type "enumerate", data := .fields #[.none, .bool false, .ref s.heap.objs.size, rawInt 0, .none, .none] }) rfl
    rwa [sz] at z
  exact ⟨⟨_, he, rfl⟩, q _ he (Heap.get?_push_of_some _ (Heap.get?_push_size _ B.free)) fun b u x => Heap.get?_push_of_some _ (Heap.get?_push_of_some _ x)⟩
/-- the keys of the locked dict at d with their numbers, in new pairs -/
def ItEt (d : Addr) (o : Obj) (kvs : List (List Key × V)) : It :=
  ⟨fun i H => H d = some (.frz o (.dT kvs)) ∧ i < kvs.length, fun i H x H' => ∃ (t q : Addr) (k : List Key) (v : V), kvs[i]? = some (k, v) ∧ H q = some (.tup (k.map kV)) ∧ x = .ref t ∧ H t = none ∧ H' = upd H t (.tup [.int (i : Nat), .ref q]), fun i H => H d = some (.frz o (.dT kvs)) ∧ kvs.length ≤ i⟩
theorem turn_enumT {P : Program} {w : World} {K : PySem.W.Frag} {d e it : Addr} {o : Obj} {es : Array DictEntry} {ep : Nat} {kvs : List (List Key × V)} {elts : List Expr} {kk : Nat} {tpos : Pos} (hod : o.data = .dict es ep) :
    Turn P w K (.Tuple elts kk tpos) (ItEt d o kvs) [e, it] e (fun i h => (∃ old, IsEnum h e it ((i : Nat) : Int) old) ∧ h.IsKeyIter it d i es.size ep ∧ e ≠ it ∧ i ≤ es.size) where
  mem := List.mem_cons_self ..
  obj := fun i h st b hb => by
    obtain ⟨⟨old, he⟩, ⟨oi, ei, ci, di⟩, _⟩ := st
    rcases List.mem_cons.mp hb with z | z
    · exact z ▸ ⟨_, he, fun v q => nomatch q⟩
    · refine List.mem_singleton.mp z ▸ ⟨oi, ei, fun v q => ?_⟩
      rw [di] at q
      cases q
  keep := fun i h h' st k => by
    obtain ⟨⟨old, he⟩, hi, ne, le⟩ := st
    exact ⟨⟨old, k e (List.mem_cons_self ..) _ he⟩, hi.at fun u q => k it (List.mem_cons_of_mem _ (List.mem_cons_self ..)) u q, ne, le⟩
  item := by
    intro X eP ew eK calm i pins s σ H E I free st go
    subst eP ew eK
    obtain ⟨hd, hi⟩ := go
    obtain ⟨hs, hx, es2, ep2, hdt, raw, sz, ent⟩ := frz_pairs I hd
    obtain ⟨rfl, rfl⟩ := dict_ep hod hdt
    obtain ⟨⟨k, v⟩, hkv⟩ : ∃ p, kvs[i]? = some p := ⟨_, List.getElem?_eq_getElem hi⟩
    obtain ⟨hi2, q, ek, hq, rv⟩ := ent i k v hkv
    obtain ⟨⟨old, he⟩, here, ne, _⟩ := st
    have out : ∀ b ∈ [e, it], b ≠ d := fun b hb z => by
      have n := (free b hb).1
      rw [z, hd] at n
      cases n
    have ned : e ≠ d := out e (List.mem_cons_self ..)
    have nid : it ≠ d := out it (List.mem_cons_of_mem _ (List.mem_cons_self ..))
    have le : e < s.heap.objs.size := Heap.lt_size he
    have li : it < s.heap.objs.size := by
      obtain ⟨_, z, _⟩ := here
      exact Heap.lt_size z
    refine wpAny_pyNext_enum_itemC (keys_draw (A := X.A.in1) (I.ok.hd calm)) he ⟨here, raw, nid⟩ hi2 ne (by simp [ne, ned]) fun x h1 tk hP eo st1 tup _ old1 => ?_
    obtain ⟨_, rfl⟩ := hP
    refine ⟨_, rfl, wpAny_letOwnedTupleGo_enum (s := { s with heap := h1, toks := tk + 1 }) eo fun h2 en sb => ?_⟩
    have tup2 : h2.get? s.heap.objs.size = some { cls := .type "tuple", data := .seq #[.int (i : Nat) tk, es2[i].key] } := (sb.2 _ (Nat.ne_of_gt le)).trans tup
    have fresh : ObjOk X.prog X.w (upd H s.heap.objs.size (.tup [.int (i : Nat), .ref q])) h2 s.heap.objs.size (.tup [.int (i : Nat), .ref q]) :=
      ⟨by show 2 ≤ sizeLine; decide, [.int (i : Nat) tk, es2[i].key], .cons ⟨_, rfl⟩ (.cons ek .nil), ⟨_, tup2, rfl, _, rfl⟩⟩
    have nb : ∀ {b : Addr}, b ∉ [e, it] → b ≠ e ∧ b ≠ it := fun {b} h => ⟨fun z => h (z ▸ List.mem_cons_self ..), fun z => h (z ▸ List.mem_cons_of_mem _ (List.mem_cons_self ..))⟩
    have J : Inv X pins σ (upd H s.heap.objs.size (.tup [.int (i : Nat), .ref q])) { s with heap := h2, toks := tk + 1 } :=
      I.turnedNew (t' := tk + 1) (ch := [e, it]) (fun b u hb x => (sb.2 b (nb hb).1).trans (old1 b u (nb hb).1 (nb hb).2 x)) free (Nat.le_refl _) fresh
    have e1 : ((i + 1 : Nat) : Int) = (i : Int) + 1 := by omega
    refine ⟨.ref s.heap.objs.size, _, J, rfl, ⟨_, q, k, v, hkv, hq, rfl, I.hok.fresh (Nat.le_refl _), rfl⟩, ⟨⟨es2[i].key, ?_⟩, st1.1.at fun u z => (sb.2 it (Ne.symm ne)).trans z, ne, hi2⟩, fun b hb => ?_⟩
    · rw [e1]
      exact en
    · have lb : b < s.heap.objs.size := by
        rcases List.mem_cons.mp hb with z | z
        · rw [z]; exact le
        · rw [List.mem_singleton.mp z]; exact li
      rw [upd_ne (Nat.ne_of_lt lb)]
      exact (free b hb).1
  done := by
    intro X eP ew eK calm i pins s σ H E I free st stop
    subst eP ew eK
    obtain ⟨hd, hi⟩ := stop
    obtain ⟨hs, hx, es2, ep2, hdt, raw, sz, _⟩ := frz_pairs I hd
    obtain ⟨rfl, rfl⟩ := dict_ep hod hdt
    obtain ⟨⟨old, he⟩, here, ne, le⟩ := st
    obtain ⟨f0, f1, f2, f3, f4, f5⟩ := free it (List.mem_cons_of_mem _ (List.mem_cons_self ..))
    have nid : it ≠ d := fun z => by
      rw [z, hd] at f0
      cases f0
    have ei : i = es2.size := by omega
    subst ei
    exact wpAny_pyNext_enum_endD (keys_draw (A := X.A.in1) (I.ok.hd calm)) he ⟨here, raw, nid⟩ fun h2 eb => ⟨rfl, I.turned (t' := s.toks) (fun b u hb z => eb b u hb z) f0 f1 f3 f4 f5⟩
  self := fun A i s Q E st h => by
    obtain ⟨⟨_, he⟩, _⟩ := st
    exact wpAny_pyIter_enum he h
/-- enumerate(d), d locked -/
def iEnumT (ta : TA) : TI := fun σ H R => ta σ H fun vs H1 => ∃ d o kvs, vs = [.ref d] ∧ H1 d = some (.frz o (.dT kvs)) ∧ R (ItEt d o kvs) H1
theorem pi_enumT {X : Cx} {e : Expr} {ta : TA} {p pos tpos : Pos} {elts : List Expr} {kk : Nat} (hg : Gl X "enumerate") (hm : X.mg "enumerate" = none) (ha : PA X [e] ta) (hs : starEach [e] X.env = [(false, eval e X.env)] := by rfl) :
    PI X (.Tuple elts kk tpos) (.Call (.Name "enumerate" p) [e] [] pos) (iEnumT ta) := by
  refine ⟨fun pins s σ H R I asked => ?_⟩
  refine Call_ (ld_blt I hg hm boot_enumerate (PyProof.Rows.callWith_type1 (thn (ha.run pos pins s σ H _ I asked) fun us s1 ⟨vs, H1, I1, r1, d, o, kvs, ex, hd, q⟩ => ?_) hs rfl))
  subst ex
  cases r1 with
  | cons r rr =>
    cases rr
    cases r
    obtain ⟨hsys, hx, es, ep, hdt, raw, sz, _⟩ := frz_pairs I1 hd
    refine call_enumD (begins_dict hsys) raw fun h' he hit old => wpAny_pyIter_enum he ?_
    have I2 : Inv X pins σ H1 { s1 with heap := h' } := I1.kept (t' := s1.toks) old
    refine ⟨s1.heap.objs.size + 1, [s1.heap.objs.size + 1, s1.heap.objs.size], _, _, H1, rfl, I2, turn_enumT hdt, ⟨⟨.none, he⟩, ⟨_, hit, rfl, rfl⟩, Nat.succ_ne_self _, Nat.zero_le _⟩, fun b hb => ?_, q⟩
    have le : s1.heap.objs.size ≤ b := by
      rcases List.mem_cons.mp hb with z | z
      · rw [z]; exact Nat.le_add_right _ _
      · rw [List.mem_singleton.mp z]; exact Nat.le_refl _
    exact I1.fpOk le (I1.hok.fresh le)
end Sq

set_option Elab.async false
set_option linter.all false
set_option maxRecDepth 100000
set_option maxHeartbeats 4000000
/-! min(xs, default=d), xs a list of ints. -/
namespace Sq
open PySem PySem.Spec PyProof.Rows L2
theorem args_minD (a v : Value) : argsOk "min" ⟨[a], [(Str.ofString "default", v)]⟩ := by unfold argsOk; kernel_rfl
section
variable {prog : Program} {w : World} {A : Around} {R : Result → Shared → Prop} {it : Addr} {fp wr : List Addr} {n : Nat} {P : Nat → Value → Prop} {St : Nat → Heap → Prop} {d : Value}
theorem min_turns (W : Walks prog w A.in1 it fp wr n P St) (bt : Nat → Nat → Bool) (cmp : CmpOf prog w A.in1 .Lt P bt) (b0 : Addr) (out : b0 ∉ fp) :
    ∀ (k j : Nat) (s : Shared) (vb : Value) (c : Nat), n - (j + 1) = k → j + 1 ≤ n → St (j + 1) s.heap → P (argBest bt j) vb → s.heap.get? b0 = some { cls := .type "list", dict := none, data := .seq #[vb, vb] c, slots := #[] } →
      (∀ v h1 tk, P (argBest bt (n - 1)) v → (∀ b o, b ∉ wr → b ≠ b0 → s.heap.get? b = some o → h1.get? b = some o) → R (.ok (.ret v)) { s with heap := h1, toks := tk }) → codeAny (model prog w) A (.builtin "min.loop" ⟨[.ref it, .none, .ref b0], [(Str.ofString "default", d)]⟩) R s := by
  have outW : b0 ∉ wr := fun h => out (W.sub _ h)
  have nm : (toString "min" ++ toString ".loop" : String) = "min.loop" := by decide
  intro k
  induction k with
  | zero =>
    intro j s vb c ek le st pb hb q
    have en : j + 1 = n := by omega
    refine codeAny_builtin PySem.F.entry_min_loop ?_
    rw [Around.under_plainId PySem.F.plain_min_loop _] <;> show wpAny (model prog w) A.in1 (seqItems? (.ref b0) >>= _) _ _ s
    refine wpAny_bind (wpAny_seqItems hb rfl ?_) <;> show wpAny (model prog w) A.in1 (tryCatch (pyNext (.ref it)) _ >>= _) _ _ s
    refine wpAny_bind (wpAny_tryCatch (W.done s _ _ (en ▸ st) fun h1 tk keep => ?_))
    have hb1 := keep b0 _ outW hb
    show wpAny (model prog w) A.in1 (updateSeq b0 (fun _ => #[]) >>= _) _ _ _
    refine wpAny_bind (wpAny_updateSeq hb1 rfl (wpAny_bind (wpAny_letGo (wpAny_pure ?_))))
    exact q vb _ tk (by rw [← en]; exact pb) fun b o hw hne e => (Heap.get?_update_other _ _ (Ne.symm hne)).trans (keep b o hw e)
  | succ k ih =>
    intro j s vb c ek le st pb hb q
    have lt : j + 1 < n := by omega
    refine codeAny_builtin PySem.F.entry_min_loop ?_
    rw [Around.under_plainId PySem.F.plain_min_loop _] <;> show wpAny (model prog w) A.in1 (seqItems? (.ref b0) >>= _) _ _ s
    refine wpAny_bind (wpAny_seqItems hb rfl ?_) <;> show wpAny (model prog w) A.in1 (tryCatch (pyNext (.ref it)) _ >>= _) _ _ s
    refine wpAny_bind (wpAny_tryCatch (W.item (j + 1) s _ _ lt st fun v h1 tk pv st1 keep => ?_))
    have hb1 := keep b0 _ outW hb
    show wpAny (model prog w) A.in1 (tryCatch (holding [v, v] (richCompare .Lt v vb >>= _)) _ >>= _) _ _ _
    refine wpAny_bind (wpAny_tryCatch (wpAny_holding (wpAny_bind (cmp (j + 1) (argBest bt j) v vb _ _ _ pv pb (wpAny_bind (wpAny_holding (wpAny_truthy_bool (wpAny_bind (wpAny_letGo (wpAny_pure ?_))))))))))
    cases eb : bt (j + 1) (argBest bt j) with
    | true =>
      rw [if_pos rfl]
      refine wpAny_bind (wpAny_updateSeq hb1 rfl (wpAny_bind (wpAny_letGo ?_)))
      rw [nm] <;> refine wpAny_pure ⟨plainId_quiet PySem.F.plain_min_loop _, ih (j + 1) _ v _ (by omega) lt (W.frame _ _ _ st1 fun b hbf o e => (Heap.get?_update_other _ _ (fun h : b0 = b => out (by rw [h]; exact hbf))).trans e) (by simp only [argBest, eb, if_true]; exact pv) (Heap.get?_update_self _ hb1 rfl) fun v2 h2 tk2 p2 keep2 => ?_⟩
      exact q v2 h2 tk2 p2 fun b o hw hne e => keep2 b o hw hne ((Heap.get?_update_other _ _ (Ne.symm hne)).trans (keep b o hw e))
    | false =>
      rw [if_neg Bool.false_ne_true]
      refine wpAny_bind (wpAny_letGo ?_)
      rw [nm] <;> refine wpAny_pure ⟨plainId_quiet PySem.F.plain_min_loop _, ih (j + 1) _ vb c (by omega) lt st1 (by simp only [argBest, eb, Bool.false_eq_true, if_false]; exact pb) hb1 fun v2 h2 tk2 p2 keep2 => ?_⟩
      exact q v2 h2 tk2 p2 fun b o hw hne e => keep2 b o hw hne (keep b o hw e)
theorem min_first (W : Walks prog w A.in1 it fp wr n P St) (bt : Nat → Nat → Bool) (cmp : CmpOf prog w A.in1 .Lt P bt) (b0 : Addr) (out : b0 ∉ fp) {s : Shared} {c : Nat} (st : St 0 s.heap) (hb : s.heap.get? b0 = some { cls := .type "list", dict := none, data := .seq #[] c, slots := #[] })
    (q : ∀ v h1 tk, (n = 0 → v = d) → (0 < n → P (argBest bt (n - 1)) v) → (∀ b o, b ∉ wr → b ≠ b0 → s.heap.get? b = some o → h1.get? b = some o) → R (.ok (.ret v)) { s with heap := h1, toks := tk }) :
    codeAny (model prog w) A (.builtin "min.loop" ⟨[.ref it, .none, .ref b0], [(Str.ofString "default", d)]⟩) R s := by
  have outW : b0 ∉ wr := fun h => out (W.sub _ h)
  have nm : (toString "min" ++ toString ".loop" : String) = "min.loop" := by decide
  refine codeAny_builtin PySem.F.entry_min_loop ?_
  rw [Around.under_plainId PySem.F.plain_min_loop _] <;> show wpAny (model prog w) A.in1 (seqItems? (.ref b0) >>= _) _ _ s
  refine wpAny_bind (wpAny_seqItems hb rfl ?_) <;> show wpAny (model prog w) A.in1 (tryCatch (pyNext (.ref it)) _ >>= _) _ _ s
  rcases Nat.eq_zero_or_pos n with z | pos
  · refine wpAny_bind (wpAny_tryCatch (W.done s _ _ (by rw [z]; exact st) fun h1 tk keep => ?_))
    show wpAny (model prog w) A.in1 (rule _ >>= _) _ _ _
    refine wpAny_bind (wpAny_rule (wpAny_pure ?_))
    exact q d _ tk (fun _ => rfl) (fun p => by omega) fun b o hw _ e => keep b o hw e
  · refine wpAny_bind (wpAny_tryCatch (W.item 0 s _ _ pos st fun v h1 tk pv st1 keep => ?_))
    have hb1 := keep b0 _ outW hb
    show wpAny (model prog w) A.in1 (updateSeq b0 (fun _ => #[v, v]) >>= _) _ _ _
    refine wpAny_bind (wpAny_updateSeq hb1 rfl ?_)
    rw [nm] <;> refine wpAny_pure ⟨plainId_quiet PySem.F.plain_min_loop _, min_turns W bt cmp b0 out _ 0 _ v _ rfl pos (W.frame _ _ _ st1 fun b hbf o e => (Heap.get?_update_other _ _ (fun h : b0 = b => out (by rw [h]; exact hbf))).trans e) pv (Heap.get?_update_self _ hb1 rfl) fun v2 h2 tk2 p2 keep2 => ?_⟩
    exact q v2 h2 tk2 (fun z => by omega) (fun _ => p2) fun b o hw hne e => keep2 b o hw hne ((Heap.get?_update_other _ _ (Ne.symm hne)).trans (keep b o hw e))
end
section
variable {prog : Program} {w : World} {A : Around} {E : Value → Shared → Prop} {s : Shared}
theorem call_minD {l : Addr} {xs : Array (Int × Tok)} {d : Value} {Q : Value → Shared → Prop} (calm : A.handled = none) (hl : s.heap.IsList l (intItems xs))
    (q : ∀ v h1 tk, (xs.size = 0 → v = d) → (0 < xs.size → (intItems xs)[argBest (fun i j => decide (numAt xs i < numAt xs j)) (xs.size - 1)]? = some v) → (∀ b o, s.heap.get? b = some o → h1.get? b = some o) → Q v { s with heap := h1, toks := tk }) :
    wpAny (model prog w) A (call (.builtin "min") [.ref l] [(Str.ofString "default", d)]) Q E s := by
  have nm : (toString "min" ++ toString ".loop" : String) = "min.loop" := by decide
  have core : wpAny (model prog w) A.in1 (Builtin.«min» ⟨[.ref l], [(Str.ofString "default", d)]⟩) (fun fin s1 => match fin with
      | .done f => (match (Except.ok f : Result) with
        | .ok (.ret v) => Q v s1
        | .ok _ => False
        | .error e => E e s1)
      | .again c2 => c2.quiet = true ∧ codeAny (model prog w) A c2 (fun r s2 => match r with
        | .ok (.ret v) => Q v s2
        | .ok _ => False
        | .error e => E e s2) s1) E s := by
    show wpAny (model prog w) A.in1 (Builtin.Builtins.bindParams "min" ["key", "default"] 0 ⟨[], [(Str.ofString "default", d)]⟩ >>= _) _ _ s
    refine wpAny_bind (wpAny_of_eq (show Builtin.Builtins.bindParams "min" ["key", "default"] 0 ⟨[], [(Str.ofString "default", d)]⟩ = pure [none, some d] from rfl) ?_)
    refine wpAny_bind (wpAny_pure (wpAny_bind (iter_intList hl fun s2 e st hfp hlI => ?_)))
    subst e
    have W := Walks.list (prog := prog) (w := w) (A := A.in1) calm s.heap.objs.size l hlI (intItems xs)
    refine wpAny_bind (wpAny_newObj_type ?_)
    generalize hz : ({ s with heap := s.heap.push { cls := .type "list_iterator", data := .fields #[.ref l, .int 0 0] } } : Shared) = s2 at st hfp ⊢
    have out : s2.heap.objs.size ∉ [s.heap.objs.size, l] := fun hm => Nat.lt_irrefl _ (hfp _ hm)
    rw [nm]
    refine wpAny_pure ⟨plainId_quiet PySem.F.plain_min_loop _, min_first W _ (CmpOf.ints_lt (numAt xs) (fun _ _ => intItems_at)) s2.heap.objs.size out (W.frame _ _ _ st fun b _ o e => Heap.get?_push_of_some _ e) (Heap.get?_push_size _ rfl) fun v h1 tk z p keep => ?_⟩
    subst hz
    refine q v h1 tk (fun e => z (by simpa [intItems] using e)) (fun e => by simpa [intItems] using p (by simpa [intItems] using e)) (old_kept fun b o hb e => keep b o hb (Nat.ne_of_lt (Heap.lt_size e)) (Heap.get?_push_of_some _ e))
  refine wpAny_call (codeAny_call_builtin PySem.F.plain_min PySem.F.entry_min ?_)
  have ok := args_minD (.ref l) d
  simp only [checkBuiltinCall, PySem.F.kind_min]
  cases sg : Manifest.signature? "min" with
  | none => exact wpAny_pure core
  | some sig =>
    have ok2 : Bind.checkArgs "min" sig ⟨[.ref l], [(Str.ofString "default", d)]⟩ = pure () := by simpa only [argsOk, sg] using ok
    simp only [ok2]
    exact wpAny_pure core
end
/-- min(xs, default=d) of ints -/
def rMinD (K : PySem.W.Frag) : List V → List V → Hp → VK → Prop := fun vs zs H Q => ∃ (a : Addr) (ns : List Int) (d : Int), vs = [V.ref a] ∧ zs = [V.int d] ∧ SqL K H a (ns.map V.int) ∧ ∀ m, (ns = [] → m = d) → (ns ≠ [] → m ∈ ns ∧ ∀ y ∈ ns, m ≤ y) → Q (.int m) H
theorem cr_minD {X : Cx} (calm : X.calm = true) : CallRK X (.builtin "min") [Str.ofString "default"] (rMinD X.K) := by
  intro pins s σ H vs zs us ws Q I r rz h
  obtain ⟨a, ns, d, rfl, rfl, hs, q⟩ := h
  obtain rfl := Vals.ref1 r
  obtain ⟨w1, rfl, e1⟩ := vals1 rz
  obtain ⟨td, rfl⟩ : ∃ t, w1 = Value.int d t := e1
  obtain ⟨its, rv, hl, _⟩ := I.list hs
  have hi := rv.ints
  have hl := hl.isList
  obtain ⟨xs, e⟩ := hi.allInts.items
  have hn : numsOf (intItems xs).toList = ns := by rw [← e]; exact hi.numsOf
  rw [nums_intItems] at hn
  subst hn
  rw [e] at hl
  have sz : ((xs.toList.map (·.1)) : List Int).length = xs.size := by rw [List.length_map, Array.length_toList]
  refine call_minD (I.ok.hd calm) hl fun v h1 tk z p keep => ?_
  rcases Nat.eq_zero_or_pos xs.size with zero | pos
  · have ev := z zero
    subst ev
    have en : (xs.toList.map (·.1) : List Int) = [] := List.length_eq_zero_iff.mp (by omega)
    exact ⟨.int d, H, I.kept keep, ⟨td, rfl⟩, q d (fun _ => rfl) fun ne => absurd en ne⟩
  · obtain ⟨t, rfl⟩ := intItems_at (p pos)
    obtain ⟨b1, b2⟩ := argBest_lt (numAt xs) (xs.size - 1)
    refine ⟨.int _, H, I.kept keep, ⟨t, rfl⟩, q _ (fun en => ?_) fun _ => ⟨?_, fun y hy => ?_⟩⟩
    · rw [en] at sz
      exact absurd sz (by show ¬ 0 = xs.size; omega)
    · rw [numAt_eq]
      exact PySem.getD_mem (by rw [sz]; omega)
    · obtain ⟨j, hj, rfl⟩ := mem_getD hy
      rw [sz] at hj
      rw [← numAt_eq]
      exact b2 j (by omega)
end Sq

set_option Elab.async false
set_option linter.all false
set_option maxRecDepth 100000
set_option maxHeartbeats 4000000
/-! The search in depth, as it runs. -/
namespace Sq
open PySem PySem.Spec PyProof.Rows L2
/-- all tuples stay -/
def Tk (H G : Hp) : Prop := ∀ b xs, H b = some (.tup xs) → G b = some (.tup xs)
theorem Tk.of {H G : Hp} (h : Same H G) : Tk H G := fun b xs e => h b _ e
theorem Tk.trans {H G I : Hp} (h : Tk H G) (k : Tk G I) : Tk H I := fun b xs e => k b xs (h b xs e)
theorem Tk.refl {H : Hp} : Tk H H := fun _ _ e => e
theorem tk_upd {H : Hp} {a : Addr} {o o' : HO} (e : H a = some o) (n : ∀ xs, o ≠ .tup xs) : Tk H (upd H a o') := fun b xs q => by
  rw [upd_ne (fun z => by rw [z, e] at q; exact n xs (Option.some.inj q))]
  exact q
theorem At.tk {H G : Hp} {q : Addr} {c : Cell} (h : At H q c) (k : Tk H G) : At G q c := k _ _ h
/-- the value that stands for what led to a cell -/
def TwV (H : Hp) (v : V) : Option Cell → Prop
  | none => v = .non
  | some y => ∃ q, v = .ref q ∧ At H q y
theorem TwV.tk {H G : Hp} {v : V} {o : Option Cell} (h : TwV H v o) (k : Tk H G) : TwV G v o := by
  cases o with
  | none => exact h
  | some y =>
    obtain ⟨q, e, a⟩ := h
    exact ⟨q, e, a.tk k⟩
def TwL (H : Hp) (kvs : List (List Key × V)) (T : List TwigC) : Prop := Paired (fun p t => p.1 = cK t.1 ∧ TwV H p.2 t.2) kvs T
theorem TwL.tk {H G : Hp} {kvs : List (List Key × V)} {T : List TwigC} (h : TwL H kvs T) (k : Tk H G) : TwL G kvs T := paired_imp (fun _ _ z => ⟨z.1, z.2.tk k⟩) h
def EntA (H : Hp) (q : Addr) (t : TwigC) : Prop := ∃ b v, H q = some (.tup [.ref b, v]) ∧ At H b t.1 ∧ TwV H v t.2
theorem EntA.tk {H G : Hp} {q : Addr} {t : TwigC} (h : EntA H q t) (k : Tk H G) : EntA G q t := by
  obtain ⟨b, v, e, a, w⟩ := h
  exact ⟨b, v, k _ _ e, a.tk k, w.tk k⟩
theorem tw_none {H : Hp} {c : Cell} : ∀ {kvs : List (List Key × V)} {T : List TwigC}, TwL H kvs T → c ∉ keysT T → valV kvs (cK c) = none
  | _, _, .nil, _ => rfl
  | (k, v) :: kvs, t :: T, .cons h r, n => by
    have ne : t.1 ≠ c := fun e => n (by simp [keysT, e])
    rw [show k = cK t.1 from h.1, valV_neg (fun e => ne (cK_inj e))]
    exact tw_none r fun m => n (List.mem_cons_of_mem _ m)
theorem tw_some {H : Hp} {c : Cell} {o : Option Cell} : ∀ {kvs : List (List Key × V)} {T : List TwigC}, TwL H kvs T → (keysT T).Nodup → (c, o) ∈ T → ∃ v, valV kvs (cK c) = some v ∧ TwV H v o
  | [], [], .nil, _, m => nomatch m
  | (k, v) :: kvs, t :: T, .cons h r, nd, m => by
    have nd2 := List.nodup_cons.mp nd
    rcases List.mem_cons.mp m with e | m
    · subst e
      rw [show k = cK c from h.1, valV_pos rfl]
      exact ⟨v, rfl, h.2⟩
    · have ne : t.1 ≠ c := fun e => nd2.1 (List.mem_map.mpr ⟨(c, o), m, e.symm⟩)
      rw [show k = cK t.1 from h.1, valV_neg (fun e => ne (cK_inj e))]
      exact tw_some r nd2.2 m
theorem tw_is {H : Hp} {c : Cell} {kvs : List (List Key × V)} {T : List TwigC} (h : TwL H kvs T) (nd : (keysT T).Nodup) : (valV kvs (cK c)).isSome = decide (c ∈ keysT T) := by
  by_cases m : c ∈ keysT T
  · obtain ⟨⟨c', o⟩, mt, e⟩ := List.mem_map.mp m
    have e : c' = c := e
    subst e
    obtain ⟨v, e, _⟩ := tw_some h nd mt
    rw [e, decide_eq_true m]
    rfl
  · rw [tw_none h m, decide_eq_false m]
    rfl
theorem tw_put {H : Hp} {c : Cell} {o : Option Cell} {v : V} {kvs : List (List Key × V)} {T : List TwigC} (h : TwL H kvs T) (n : c ∉ keysT T) (w : TwV H v o) : TwL H (putK kvs (cK c) v) (T ++ [(c, o)]) := by
  rw [putK_new _ (tw_none h n)]
  exact Paired.snoc h ⟨rfl, w⟩
theorem dget_c {H : Hp} {d q : Addr} {c : Cell} {kvs : List (List Key × V)} (hd : H d = some (.dT kvs)) (hq : At H q c) : DGet H d (.ref q) (valV kvs (cK c)) := DGet.t hd hq
theorem dput_c {H : Hp} {d q : Addr} {c : Cell} {v : V} {kvs : List (List Key × V)} (hd : H d = some (.dT kvs)) (hq : At H q c) (hl : kvs.length < sizeLine) : DPut H d (.ref q) v (upd H d (.dT (putK kvs (cK c) v))) := DPut.t hd hq hl
def spDepth : Sp := fun vs H Q _ => ∃ (d : Addr) (L : List Cell), vs = [.ref d] ∧ H d = some (.dT (lotK L)) ∧ L.Nodup ∧ L.length ≤ 1000 ∧ Hangs L ∧ ∀ e H' kvs T, Same H H' → H e = none → H' e = some (.dT kvs) → TwL H' kvs T → DTree L T → (∀ x ∈ L, x ∈ keysT T) → Q (.ref e) H'
def DfW (H : Hp) (L : List Cell) (d cf ah : Addr) (m : Nat) (σ : L2.St) (G : Hp) : Prop := ∃ (T S : List TwigC) (kvs : List (List Key × V)) (qs : List Addr) (v3 v4 : Option V), m = S.length + 5 * (L.length - T.length) ∧ σ = [some (.ref d), some (.ref cf), some (.ref ah), v3, v4, none] ∧
  Same H G ∧ G cf = some (.dT kvs) ∧ TwL G kvs T ∧ G ah = some (.lst (qs.map V.ref)) ∧ Paired (EntA G) qs S ∧ StkOk L T S ∧ S.length ≤ 1 + 4 * T.length
section
variable {P : Program} {w : World} {K : PySem.W.Frag} {mg : Str → Option Value} {base : Heap}
end
end Sq

set_option Elab.async false
set_option linter.all false
set_option maxRecDepth 100000
set_option maxHeartbeats 4000000
/-! The least numbers that are met, as they are told. -/
namespace Sq
open PySem PySem.Spec PyProof.Rows L2
def lowV (T : List TwigC) (low : Cell → Nat) (v w : Cell) : Nat := if (w, some v) ∈ T then low w else numT T w
def LowAt (L : List Cell) (T : List TwigC) (low : Cell → Nat) (v : Cell) : Prop := (∀ w ∈ L, w ∈ besideC v → low v ≤ lowV T low v w) ∧ (low v = numT T v ∨ ∃ w ∈ L, w ∈ besideC v ∧ low v = lowV T low v w)
def putL (low : Cell → Nat) (c : Cell) (m : Nat) : Cell → Nat := fun x => if x = c then m else low x
theorem putL_same {low : Cell → Nat} {c : Cell} {m : Nat} : putL low c m c = m := if_pos rfl
theorem putL_other {low : Cell → Nat} {c x : Cell} {m : Nat} (h : x ≠ c) : putL low c m x = low x := if_neg h
/-- told for the last i cells -/
structure LmI (L : List Cell) (T : List TwigC) (i : Nat) (lk : List (List Key × V)) (low : Cell → Nat) : Prop where
  val : ∀ v ∈ keysT T, (keysT T).length ≤ numT T v + i → valV lk (cK v) = some (.int (low v : Int))
  ok : ∀ v ∈ keysT T, (keysT T).length ≤ numT T v + i → LowAt L T low v
  len : lk.length ≤ i
theorem LmI.next {L : List Cell} {T : List TwigC} {i m : Nat} {lk : List (List Key × V)} {low : Cell → Nat} {c : Cell} (h : DTree L T) (I : LmI L T i lk low) (hc : c ∈ keysT T) (nc : numT T c + (i + 1) = (keysT T).length)
    (le : ∀ w ∈ L, w ∈ besideC c → m ≤ lowV T low c w) (at_ : m = numT T c ∨ ∃ w ∈ L, w ∈ besideC c ∧ m = lowV T low c w) : LmI L T (i + 1) (putK lk (cK c) (.int (m : Int))) (putL low c m) := by
  have cases1 : ∀ v ∈ keysT T, (keysT T).length ≤ numT T v + (i + 1) → v = c ∨ (v ≠ c ∧ (keysT T).length ≤ numT T v + i) := fun v hv l => by
    by_cases e : v = c
    · exact .inl e
    · refine .inr ⟨e, ?_⟩
      have : numT T v ≠ numT T c := fun z => e (num_inj hv hc z)
      omega
  have same : ∀ v ∈ keysT T, numT T c ≤ numT T v → ∀ w, lowV T (putL low c m) v w = lowV T low v w := fun v hv l w => by
    unfold lowV
    by_cases z : (w, some v) ∈ T
    · rw [if_pos z, if_pos z]
      have t := (h.twig z).2.2.2
      have ne : w ≠ c := fun e => by rw [e] at t; omega
      exact putL_other ne
    · rw [if_neg z, if_neg z]
  refine ⟨fun v hv l => ?_, fun v hv l => ?_, ?_⟩
  · rcases cases1 v hv l with rfl | ⟨ne, l⟩
    · rw [putL_same, valV_put, if_pos rfl]
    · rw [putL_other ne, valV_put, if_neg (fun e => ne (cK_inj e))]
      exact I.val v hv l
  · rcases cases1 v hv l with rfl | ⟨ne, l⟩
    · refine ⟨fun w hw b => ?_, ?_⟩
      · rw [same v hv (Nat.le_refl _), putL_same]
        exact le w hw b
      · rw [putL_same]
        rcases at_ with e | ⟨w, hw, b, e⟩
        · exact .inl e
        · exact .inr ⟨w, hw, b, by rw [same v hv (Nat.le_refl _)]; exact e⟩
    · have l2 : numT T c ≤ numT T v := by omega
      obtain ⟨a1, a2⟩ := I.ok v hv l
      refine ⟨fun w hw b => ?_, ?_⟩
      · rw [same v hv l2, putL_other ne]
        exact a1 w hw b
      · rw [putL_other ne]
        rcases a2 with e | ⟨w, hw, b, e⟩
        · exact .inl e
        · exact .inr ⟨w, hw, b, by rw [same v hv l2]; exact e⟩
  · exact Nat.le_trans (length_putK _ _ _) (Nat.succ_le_succ I.len)
theorem LmI.all {L : List Cell} {T : List TwigC} {lk : List (List Key × V)} {low : Cell → Nat} (I : LmI L T (keysT T).length lk low) : LowOk L T low :=
  ⟨fun v hv => (I.ok v hv (Nat.le_add_left _ _)).1, fun v hv => (I.ok v hv (Nat.le_add_left _ _)).2⟩
def numK (T : List TwigC) : List (List Key × V) := (keysT T).map fun v => (cK v, V.int (numT T v : Int))
theorem map_val {f : Cell → V} {c : Cell} : ∀ {l : List Cell}, c ∈ l → valV (l.map fun v => (cK v, f v)) (cK c) = some (f c)
  | d :: l, h => by
    by_cases e : d = c
    · subst e
      exact valV_pos rfl
    · rw [List.map_cons, valV_neg (fun z => e (cK_inj z))]
      exact map_val ((List.mem_cons.mp h).resolve_left fun z => e z.symm)
theorem keys_at {H G : Hp} : ∀ {kvs : List (List Key × V)} {T : List TwigC} {bs : List Addr}, TwL H kvs T → IsKeys G kvs bs → Paired (fun b v => At G b v) bs (keysT T)
  | _, _, _, .nil, .nil => .nil
  | (k, v) :: kvs, t :: T, b :: bs, .cons h r, .cons q r2 => by
    have e : k = cK t.1 := h.1
    subst e
    exact .cons q (keys_at r r2)
theorem dget_s {H : Hp} {d q : Addr} {c : Cell} {v : V} {kvs : List (List Key × V)} (hd : H d = some (.dT kvs)) (hq : At H q c) (e : valV kvs (cK c) = some v) : DGet H d (.ref q) (some v) := e ▸ dget_c hd hq
theorem range_map {β : Type} (l : List β) (f : Nat → V) (g : β → V) (h : ∀ i x, l[i]? = some x → f i = g x) : (List.range l.length).map f = l.map g := by
  refine List.ext_getElem? fun i => ?_
  rw [List.getElem?_map, List.getElem?_map]
  by_cases lt : i < l.length
  · rw [List.getElem?_range lt, List.getElem?_eq_getElem lt]
    exact congrArg some (h i _ (List.getElem?_eq_getElem lt))
  · rw [List.getElem?_eq_none (by rw [List.length_range]; omega), List.getElem?_eq_none (by omega)]
    rfl
def spLow : Sp := fun vs H Q _ => ∃ (d cf nu : Addr) (L : List Cell) (kvs : List (List Key × V)) (T : List TwigC), vs = [.ref d, .ref cf, .ref nu] ∧ H d = some (.dT (lotK L)) ∧ L.length ≤ 1000 ∧ H cf = some (.dT kvs) ∧ TwL H kvs T ∧ DTree L T ∧ (∀ x ∈ L, x ∈ keysT T) ∧ H nu = some (.dT (numK T)) ∧
  ∀ e H' lk low, Same H H' → H e = none → H' e = some (.dT lk) → (∀ v ∈ keysT T, valV lk (cK v) = some (.int (low v : Int))) → LowOk L T low → Q (.ref e) H'
section
variable {P : Program} {w : World} {K : PySem.W.Frag} {mg : Str → Option Value} {base : Heap}
end
end Sq

set_option Elab.async false
set_option linter.all false
set_option maxRecDepth 100000
set_option maxHeartbeats 4000000
/-! name = {k: v for ..}, the name a local. -/
namespace Sq
open PySem PySem.Spec PyProof.Rows L2
section
variable {X : Cx}
theorem ps_setDct {y : Str} {py spos : Pos} {ix : Nat} {o0 : HO} {kx vx tg it0 : Expr} {ifs : List Expr} {sc : Scope} {own : List (Str × Nat)} {pos : Pos} {wi : TI} {g : TG} {tt : TT} {tk tv : TE} (ho : o0 = .dK [] ∨ o0 = .dT []) (calm : X.calm = true) (hu : X.A.units + 1 < cLine) (nd : X.N.Nodup) (hi : PI X tg it0 wi)
    (hy : X.N[ix]? = some y) (hyl : X.env.scope.names.lookup y = some .local) (hsw : swapsWith (.DictComp kx vx [⟨tg, it0, ifs, 0⟩] sc pos) (some (.Name y py)) spos.line X.env = pure true) (bo : BlkOk X.N X.env.scope sc own)
    (hg : ∀ (s : Shared) (H : Hp) (C : Addr) (cl : List (Str × Addr)) (fp : List Addr), PG (X.blk s H sc (compEnvC sc cl C X.env) fp) tg g)
    (ht : ∀ (s : Shared) (H : Hp) (C : Addr) (cl : List (Str × Addr)) (fp : List Addr), PTs (X.blk s H sc (compEnvC sc cl C X.env) fp) ifs tt)
    (hk : ∀ (s : Shared) (H : Hp) (C : Addr) (cl : List (Str × Addr)) (fp : List Addr), PE (X.blk s H sc (compEnvC sc cl C X.env) fp) kx tk)
    (hv : ∀ (s : Shared) (H : Hp) (C : Addr) (cl : List (Str × Addr)) (fp : List Addr), PE (X.blk s H sc (compEnvC sc cl C X.env) fp) vx tv)
    (hf : ∀ x, foldedSetIterable it0 X.env x = pure x := by intro _; rfl) : PS X (.Assign [.Name y py] (.DictComp kx vx [⟨tg, it0, ifs, 0⟩] sc pos) spos) (tAsg (tDct o0 wi g tt tk tv (own.map (·.2))) (gName ix)) := by
  refine ⟨fun pins z0 σ H Dd I0 asked => ?_⟩
  have asked : tDct o0 wi g tt tk tv (own.map (·.2)) σ H (fun x H1 => gName ix x σ H1 Dd.nx) := asked
  rw [exec_Assign_Name_used _ _ _ _ hsw]
  refine wpAny_bind (wpAny_standAt (wpAny_bind ?_))
  show wpAny (model X.prog X.w) X.A (do let _ ← comprehension (.DictComp kx vx [⟨tg, it0, ifs, 0⟩] sc pos) sc X.env (firstIterPos [⟨tg, it0, ifs, 0⟩] pos) newDict false (eval it0 X.env) (some (assign (.Name y py) X.env))) _ _ z0
  refine wpAny_bind (thn (Q := fun _ s' => SP X pins Dd .next s') ?_ fun _ s' hq => wpAny_pure (wpAny_pure hq))
  have caught : ∀ y ∈ sc.names, y.2 = .free → ∃ c, X.env.cells.lookup y.1 = some c := fun y hy e => I0.ok.has _ (bo.free y hy e)
  refine wpAny_comprehension_free (use := some (assign (.Name y py) X.env)) rfl hf (closure_ok caught) bo.kind (fun y hy e => by rw [bo.uniq y hy, e]) (thn (hi.run pins z0 σ H _ I0 asked) fun xv z1 hx => thn hx fun iv z2 made => ?_)
  obtain ⟨wk, fp, tn, J, H2, rfl, I2, T, at2, fp2, want⟩ := made
  refine wpAny_newObj_type (newEnv_comp ?_)
  obtain ⟨D, eD⟩ : ∃ D, D = z2.heap.objs.size := ⟨_, rfl⟩
  have freeD : H2 D = none := I2.hok.fresh (Nat.le_of_eq eD.symm)
  obtain ⟨W, ⟨m0, first⟩, each⟩ := want D freeD
  obtain ⟨z3, e3⟩ : ∃ z3 : Shared, z3 = { z2 with heap := z2.heap.push { cls := .type "dict", data := .dict #[] } } := ⟨_, rfl⟩
  have heap3 : z3.heap = z2.heap.push { cls := .type "dict", data := .dict #[] } := by rw [e3]
  have I3 : Inv X pins σ (upd H2 D o0) z3 := by
    rw [e3]
    refine I2.laid (t' := z2.toks) (fun b o e => Heap.get?_push_of_some _ e) (Nat.le_of_eq eD.symm) ?_
    rw [eD]
    rcases ho with rfl | rfl
    · exact dk_empty z2.heap I2.big
    · exact dt_empty z2.heap I2.big
  have old : ∀ b ∈ fp, b < z2.heap.objs.size := fun b hb => (T.obj _ _ at2 b hb).elim fun o r => Heap.lt_size r.1
  have fp3 : ∀ b ∈ fp, FpOk X pins (upd H2 D o0) b ∧ b < z3.heap.objs.size := fun b hb => by
    have lt := old b hb
    have ne : b ≠ D := by rw [eD]; exact Nat.ne_of_lt lt
    exact ⟨⟨by rw [upd_ne ne]; exact (fp2 b hb).1, (fp2 b hb).2⟩, by rw [heap3, Heap.size_push]; exact Nat.lt_succ_of_lt lt⟩
  have at3 : tn 0 z3.heap := T.keep _ _ _ at2 fun b _ o e => by rw [heap3]; exact Heap.get?_push_of_some _ e
  have I4 := block_start I3 bo nd fp3
  have PG4 := hg z3 (upd H2 D o0) z3.heap.objs.size (cellsFrom (z3.heap.objs.size + 1) sc.names (cloFrom X.env.cells sc.names [])) fp
  have PT4 := ht z3 (upd H2 D o0) z3.heap.objs.size (cellsFrom (z3.heap.objs.size + 1) sc.names (cloFrom X.env.cells sc.names [])) fp
  have PK4 := hk z3 (upd H2 D o0) z3.heap.objs.size (cellsFrom (z3.heap.objs.size + 1) sc.names (cloFrom X.env.cells sc.names [])) fp
  have PV4 := hv z3 (upd H2 D o0) z3.heap.objs.size (cellsFrom (z3.heap.objs.size + 1) sc.names (cloFrom X.env.cells sc.names [])) fp
  rw [← e3, ← eD]
  show codeAny _ _ (.compStart (.DictComp kx vx [⟨tg, it0, ifs, 0⟩] sc pos) 0 (.ref wk) (.ref D) (compEnvC sc (cellsFrom (z3.heap.objs.size + 1) sc.names (cloFrom X.env.cells sc.names [])) z3.heap.objs.size X.env))
    (compPost (model X.prog X.w) X.A X.xe (some (assign (.Name y py) X.env)) (fun _ s' => SP X pins Dd .next s') (.ref D) z3.heap.objs.size) { z3 with heap := pushCells (z3.heap.push { cls := .type "dict", data := .dict #[] }) sc.names }
  have none3 : ∀ b ∈ fp, upd H2 D o0 b = none := fun b hb => (fp3 b hb).1.1
  generalize ec : compEnvC sc (cellsFrom (z3.heap.objs.size + 1) sc.names (cloFrom X.env.cells sc.names [])) z3.heap.objs.size X.env = ce at I4 PG4 PT4 PK4 PV4 ⊢
  have locs : ce.locals = z3.heap.objs.size := by rw [← ec]; rfl
  generalize eG : upd H2 D o0 = G3 at I3 I4 PG4 PT4 PK4 PV4 first none3 fp3
  generalize e4 : ({ z3 with heap := pushCells (z3.heap.push { cls := .type "dict", data := .dict #[] }) sc.names } : Shared) = z4 at I4 ⊢
  have at4 : tn 0 z4.heap := T.keep _ _ _ at3 fun b _ o e => by rw [← e4]; exact pushCells_keeps _ _ _ _ (Heap.get?_push_of_some _ e)
  have still : ∀ {τ : L2.St} {G : Hp} {z : Shared}, Inv (X.blk z3 G3 sc ce fp) [] τ G z → (∀ b ∈ fp, G b = none) → ∀ b ∈ fp, FpOk (X.blk z3 G3 sc ce fp) [] G b := fun {τ G z} J1 n1 b hb =>
    ⟨n1 b hb, (J1.ok.exf b hb).1, J1.ok.exfs b hb, .inl hb, fun x c e => (J1.ok.exf b hb).2 x c e, fun p hp => absurd (show p ∈ ([] : List (Addr × Obj)) ++ [] from hp) (by simp)⟩
  have turns : codeAny (model X.prog X.w) X.A (.compLoop (.DictComp kx vx [⟨tg, it0, ifs, 0⟩] sc pos) 0 (.ref wk) (.ref D) ce) (compPost (model X.prog X.w) X.A X.xe (some (assign (.Name y py) X.env)) (fun _ s' => SP X pins Dd .next s') (.ref D) z3.heap.objs.size) z4 := by
    refine compLoop_anyD (fun n z => ∃ i G, Inv (X.blk z3 G3 sc ce fp) [] (wipe σ (own.map (·.2))) G z ∧ tn i z.heap ∧ (∀ b ∈ fp, G b = none) ∧ W i n G) ?_ m0 ⟨0, G3, I4, at4, none3, first⟩
    rintro n z5 ⟨i, G5, I5, at5, n5, w5⟩
    rcases each i n G5 w5 with ⟨stops, goal⟩ | ⟨goes, Nx, less, turn⟩
    · refine thnF (T.done (X.blk z3 G3 sc ce fp) rfl rfl rfl calm i [] z5 _ G5 (fun _ _ => False) I5 (still I5 n5) at5 stops) fun r z6 ⟨er, I6⟩ => ?_
      subst er
      have I7 : Inv X pins σ G5 z6 := I3.call' (ch := fp) I6.os I6.base I6.hok I6.bare fun b hb => ⟨(fp3 b hb).1.2.2.2.1, (fp3 b hb).1.2.1, (fp3 b hb).1.2.2.2.2.1, (fp3 b hb).1.2.2.2.2.2⟩
      have n6 : G5 z3.heap.objs.size = none := by
        have q : G5 ce.locals = none := I6.free
        rwa [locs] at q
      obtain ⟨mm, hm, _⟩ := I6.loc
      have hm' : z6.heap.Ns ce.locals mm := hm
      rw [locs] at hm'
      obtain ⟨g0, g1, g2, g3, g4, g5⟩ := I3.fpOk (Nat.le_refl _) n6
      show wpAny (model X.prog X.w) X.A (assign (.Name y py) X.env (.ref D)) _ _ _
      refine wpAny_assign_Name (store_ok2 (v := V.ref D) I7 nd hy (.inl hyl) rfl (fun s2 I8 ⟨a, sb, ha⟩ => ?_) (.inr hyl))
      have off : z3.heap.objs.size ≠ a := by
        rcases ha with z | z
        · rw [z]; exact g1
        · exact fun e => g4 y a z e.symm
      exact ⟨mm, hm'.sameBut sb off, fun h9 sb9 => ⟨_, G5, I8.turned (t' := s2.toks) (fun b o hb e => (sb9.2 b hb).trans e) g0 g1 g3 g4 g5, goal⟩⟩
    · refine thnF (T.item (X.blk z3 G3 sc ce fp) rfl rfl rfl calm i [] z5 _ G5 (fun _ _ => False) I5 (still I5 n5) at5 goes) fun r z6 ⟨u, er, h6⟩ => ?_
      subst er
      refine thnF h6 fun _ z7 ⟨x, G7, I7, rx, hy, at7, n7⟩ => ?_
      refine thnF (PG4.run _ z7 _ G7 x u _ (I7.pinned (still I7 n7) (T.obj _ _ at7)) rx (turn x G7 hy)) fun _ z8 ⟨τ8, G8, I8, same8, q8⟩ => ?_
      refine thnF (PT4.run _ z8 τ8 G8 _ I8 q8) fun b z9 ⟨G9, I9, q9⟩ => ?_
      have close : ∀ {z : Shared} {G : Hp}, Inv (X.blk z3 G3 sc ce fp) ([] ++ pinsAt fp z7.heap) τ8 G z → Nx G → ∃ m, m < n ∧ ∃ i G, Inv (X.blk z3 G3 sc ce fp) [] (wipe σ (own.map (·.2))) G z ∧ tn i z.heap ∧ (∀ b ∈ fp, G b = none) ∧ W i m G := fun {z G} J1 nx => by
        obtain ⟨m1, lt1, w1⟩ := less G nx
        have kept : ∀ b ∈ fp, ∀ o, z7.heap.get? b = some o → z.heap.get? b = some o ∧ G b = none := fun b hb o e => by
          have t := J1.pin (b, o) (List.mem_append_right _ (List.mem_append_right _ (mem_pinsAt hb e)))
          exact ⟨t.1, t.2.1⟩
        refine ⟨m1, lt1, i + 1, G, (J1.unpinned (pins := [])).weak (by rw [← same8, wipe_length]) (fun j v e => by rw [← same8] at e; exact (wipe_some e).1), T.keep _ _ _ at7 fun b hb o e => (kept b hb o e).1, fun b hb => ?_, w1⟩
        obtain ⟨o, e, _⟩ := T.obj _ _ at7 b hb
        exact (kept b hb o e).2
      cases b with
      | false =>
        simp only [Bool.false_eq_true, if_false] at q9 ⊢
        exact close I9 q9
      | true =>
        simp only [if_true] at q9 ⊢
        refine thnF (PK4.run _ z9 τ8 G9 _ I9 q9) fun k1 z10 ⟨yk, G10, I10, rk, q10⟩ => ?_
        refine thnF (PV4.run _ z10 τ8 G10 _ I10 q10) fun v1 z11 ⟨yv, G11, I11, rv, G12, put, nx⟩ => ?_
        exact dc_put (X := X.blk z3 G3 sc ce fp) hu I11 put rk rv fun z12 I12 => close I12 nx
  exact codeAny_compStart_dict turns (T.self X.A 0 _ _ _ at4 turns)
end
theorem sw_dict {kx vx : Expr} {gs : List Comprehension} {scope : Scope} {pos py : Pos} {y : Str} {l : Nat} {env : Env} (hk : env.scope.kind = .function) (hy : env.scope.names.lookup y = some .local) (hl : (py.line == pos.line) = true)
    (out : (scope.names.any fun (n, k) => n == y && (k == .local || k == .cell)) = false) : swapsWith (.DictComp kx vx gs scope pos) (some (.Name y py)) l env = pure true := by
  have e1 : env.kindOf y = some .local := hy
  have e2 : env.blockKind = .function := by
    unfold Env.blockKind
    rw [hk] <;> rfl
  unfold swapsWith
  simp only [e2, e1, out, Expr.pos, hl] <;> rfl
end Sq

set_option Elab.async false
set_option linter.all false
set_option maxRecDepth 100000
set_option maxHeartbeats 4000000
/-! Into how many parts the rest falls, as it is told. -/
namespace Sq
open PySem PySem.Spec PyProof.Rows L2
theorem walk_pairs {d : Addr} {o : Obj} {kvs : List (List Key × V)} : Walk (ItPt d o kvs) kvs.length (fun H => H d = some (.frz o (.dT kvs))) fun i H x H' => ∃ (t q : Addr) (k : List Key) (v : V), kvs[i]? = some (k, v) ∧ H q = some (.tup (k.map kV)) ∧ x = .ref t ∧ H t = none ∧ H' = upd H t (.tup [.ref q, v]) :=
  ⟨fun i H hi q => ⟨q, hi⟩, fun H q => ⟨q, Nat.le_refl _⟩, fun i H x H' hi q y => y⟩
theorem walk_enumT {d : Addr} {o : Obj} {kvs : List (List Key × V)} : Walk (ItEt d o kvs) kvs.length (fun H => H d = some (.frz o (.dT kvs))) fun i H x H' => ∃ (t q : Addr) (k : List Key) (v : V), kvs[i]? = some (k, v) ∧ H q = some (.tup (k.map kV)) ∧ x = .ref t ∧ H t = none ∧ H' = upd H t (.tup [.int (i : Nat), .ref q]) :=
  ⟨fun i H hi q => ⟨q, hi⟩, fun H q => ⟨q, Nat.le_refl _⟩, fun i H x H' hi q y => y⟩
theorem for_w {J : It} {n : Nat} {Gd : Hp → Prop} {Y : Nat → Hp → V → Hp → Prop} (wk : Walk J n Gd Y) {g : TG} {tb : TS} {D : Ends} {σ : L2.St} {H : Hp} (Pv : Nat → L2.St → Hp → Prop) (h0 : Pv 0 σ H) (hG : ∀ i σ H, i ≤ n → Pv i σ H → Gd H)
    (hs : ∀ i x σ H H', i < n → Pv i σ H → Y i H x H' → g x σ H' fun σ2 H2 => tb { D with nx := Pv (i + 1), ct := Pv (i + 1), bk := D.nx } σ2 H2) (hd : ∀ σ H, Pv n σ H → D.nx σ H) :
    ∃ W : Nat → Nat → L2.St → Hp → Prop, (∃ m, W 0 m σ H) ∧ ∀ i m σ H, W i m σ H →
      (J.stop i H ∧ D.nx σ H) ∨ (J.go i H ∧ ∃ N : L2.St → Hp → Prop, (∀ σ' H', N σ' H' → ∃ m', m' < m ∧ W (i + 1) m' σ' H') ∧ ∀ v H', J.yld i H v H' → g v σ H' fun σ2 H2 => tb { D with nx := N, ct := N, bk := D.nx } σ2 H2) := by
  refine ⟨fun i m σ H => m = n - i ∧ i ≤ n ∧ Pv i σ H, ⟨n, rfl, Nat.zero_le _, h0⟩, ?_⟩
  rintro i m σ H ⟨rfl, hi, p⟩
  by_cases lt : i < n
  · exact .inr ⟨wk.goes i H lt (hG i σ H hi p), Pv (i + 1), fun σ' H' p' => ⟨n - (i + 1), by omega, rfl, lt, p'⟩, fun x H' y => hs i x σ H H' lt p (wk.yields i H x H' lt (hG i σ H hi p) y)⟩
  · have e : i = n := by omega
    subst e
    exact .inl ⟨wk.stops H (hG i σ H hi p), hd σ H p⟩
theorem put_map {f : Cell → V} {c : Cell} {x : V} {l : List Cell} (h : c ∈ l) : putK (l.map fun v => (cK v, f v)) (cK c) x = l.map fun v => (cK v, if v = c then x else f v) := by
  have any : ((l.map fun v => (cK v, f v)).any fun kv => decide (kv.1 = cK c)) = true := List.any_eq_true.mpr ⟨(cK c, f c), List.mem_map.mpr ⟨c, h, rfl⟩, decide_eq_true rfl⟩
  unfold putK
  rw [if_pos any, List.map_map]
  refine List.map_congr_left fun v _ => ?_
  show (if cK v = cK c then (cK v, x) else (cK v, f v)) = _
  by_cases e : v = c
  · subst e
    rw [if_pos rfl, if_pos rfl]
  · rw [if_neg (fun z => e (cK_inj z)), if_neg e]
def base01 (o : Option Cell) : Nat := match o with
  | none => 0
  | some _ => 1
/-- what is counted behind the first twigs -/
def cntT (T : List TwigC) (low : Cell → Nat) (i : Nat) (v : Cell) : Nat := (if (v, none) ∈ T then 0 else 1) + ((T.take i).filter fun t => decide (t.2 = some v ∧ low t.1 = numT T v)).length
theorem cnt_next {T : List TwigC} {low : Cell → Nat} {i : Nat} {t : TwigC} {v : Cell} (h : T[i]? = some t) : cntT T low (i + 1) v = cntT T low i v + if t.2 = some v ∧ low t.1 = numT T v then 1 else 0 := by
  unfold cntT
  rw [take_snoc h, List.filter_append, List.length_append]
  by_cases z : t.2 = some v ∧ low t.1 = numT T v
  · simp only [List.filter_cons, decide_eq_true z, if_true, List.filter_nil, List.length_cons, List.length_nil, if_pos z]
    omega
  · simp only [List.filter_cons, decide_eq_false z, Bool.false_eq_true, if_false, List.filter_nil, List.length_nil, if_neg z]
    omega
theorem cnt_all {T : List TwigC} {low : Cell → Nat} {v : Cell} : cntT T low T.length v = (if (v, none) ∈ T then 0 else 1) + kids T low v := by
  unfold cntT kids
  rw [List.take_length]
theorem cnt_cut {L : List Cell} {T : List TwigC} {low : Cell → Nat} (h : DTree L T) (span : ∀ x ∈ L, x ∈ keysT T) (lo : LowOk L T low) (nL : L.Nodup) {v : Cell} (hv : v ∈ L) : 1 < cntT T low T.length v ↔ ¬ Hangs (but L v) ∧ 1 < L.length := by
  have fr := free_iff h span lo hv
  rw [← cnt_all] at fr
  have len : 1 < L.length ↔ ∃ u ∈ L, u ≠ v := by
    constructor
    · intro l
      refine Classical.byContradiction fun z => ?_
      have all : ∀ x ∈ L, x ∈ [v] := fun x hx => List.mem_singleton.mpr (Classical.byContradiction fun e => z ⟨x, hx, e⟩)
      have := len_le nL all
      simp at this
      omega
    · rintro ⟨u, hu, ne⟩
      have := len_le (xs := [u, v]) (ys := L) (by simp [ne]) fun x hx => by
        simp only [List.mem_cons, List.not_mem_nil, or_false] at hx
        rcases hx with rfl | rfl
        · exact hu
        · exact hv
      exact this
  have zero : cntT T low T.length v = 0 ↔ ¬ ∃ u ∈ L, u ≠ v := by
    rw [cnt_all]
    obtain ⟨r, T', e, rL⟩ := h.root_ex
    have hr : (r, none) ∈ T := by rw [e]; exact List.mem_cons_self ..
    by_cases rv : (v, none) ∈ T
    · rw [if_pos rv, Nat.zero_add, kids_zero]
      have n0 := h.num_root rv
      constructor
      · rintro no ⟨u, hu, ne⟩
        rcases h.child_of (h.from_root rv u (span u hu)) with z | ⟨c, m, _⟩
        · exact ne z
        · exact no c m ((lo.child h m).mpr fun d w _ _ _ _ => by omega)
      · intro no c m _
        have t := h.twig m
        exact no ⟨c, h.sub c t.1, fun z => by rw [z] at t; omega⟩
    · rw [if_neg rv]
      constructor
      · intro z
        omega
      · intro no
        exact absurd ⟨r, rL, fun z => rv (z ▸ hr)⟩ no
  rw [fr, len]
  constructor
  · intro l
    exact ⟨by omega, Classical.byContradiction fun z => by have := zero.mpr z; omega⟩
  · rintro ⟨n1, ex⟩
    have n0 : cntT T low T.length v ≠ 0 := fun z => zero.mp z ex
    omega
theorem map_none {f : Cell → V} {c : Cell} : ∀ {l : List Cell}, c ∉ l → valV (l.map fun v => (cK v, f v)) (cK c) = none
  | [], _ => rfl
  | d :: l, h => by
    rw [List.map_cons, valV_neg (fun e => h (by rw [cK_inj e]; exact List.mem_cons_self ..))]
    exact map_none fun m => h (List.mem_cons_of_mem _ m)
theorem put_take {f : Cell → V} {c : Cell} {i : Nat} {l : List Cell} (nd : l.Nodup) (h : l[i]? = some c) : putK ((l.take i).map fun v => (cK v, f v)) (cK c) (f c) = (l.take (i + 1)).map fun v => (cK v, f v) := by
  rw [putK_new _ (map_none (nodup_take nd h)), take_snoc h, List.map_append]
  rfl
theorem num_at {T : List TwigC} {c : Cell} {i : Nat} (nd : (keysT T).Nodup) (h : (keysT T)[i]? = some c) : numT T c = i := by
  obtain ⟨lt, e⟩ := List.getElem?_eq_some_iff.mp h
  unfold numT
  rw [← e]
  exact List.Nodup.idxOf_getElem nd _ lt
/-- all but what stands at d stays -/
def KpD (d : Addr) (H G : Hp) : Prop := ∀ b o, b ≠ d → H b = some o → G b = some o
theorem KpD.at {d : Addr} {H G : Hp} (k : KpD d H G) {u : HO} (hd : H d = some u) (nu : ∀ xs, u ≠ .tup xs) : Tk H G := fun b xs e => k b _ (fun z => by rw [z, hd] at e; exact nu xs (Option.some.inj e)) e
theorem KpD.put {d D : Addr} {H G : Hp} {o : HO} (k : KpD d H G) (h : H D = none) : KpD d H (upd G D o) := fun b u nb e => by
  rw [upd_ne (ne_of_none e h)]
  exact k b u nb e
theorem KpD.new {d t : Addr} {H G : Hp} {o : HO} (k : KpD d H G) (h : G t = none) : KpD d H (upd G t o) := fun b u nb e => by
  have := k b u nb e
  rw [upd_ne (ne_of_none this h)]
  exact this
theorem KpD.back {d : Addr} {H G : Hp} {u : HO} (k : KpD d H G) (hd : H d = some u) : Same H (upd G d u) := fun b o e => by
  by_cases z : b = d
  · subst z
    rw [upd_same]
    exact hd.symm.trans e
  · rw [upd_ne z]
    exact k b o z e
def spRest : Sp := fun vs H Q _ => ∃ (d : Addr) (L : List Cell), vs = [.ref d] ∧ H d = some (.dT (lotK L)) ∧ L.Nodup ∧ L.length ≤ 1000 ∧ Hangs L ∧
  ∀ e H' (Ks : List Cell) (cnt : Cell → Nat), Same H H' → H e = none → H' e = some (.dT (Ks.map fun v => (cK v, V.int (cnt v : Int)))) → Ks.Nodup → (∀ x, x ∈ Ks ↔ x ∈ L) → (∀ v ∈ L, (cnt v = 1 ↔ Hangs (without L v)) ∧ (1 < cnt v ↔ ¬ Hangs (without L v) ∧ 1 < L.length)) → Q (.ref e) H'
section
variable {P : Program} {w : World} {K : PySem.W.Frag} {mg : Str → Option Value} {base : Heap}
end
end Sq

set_option Elab.async false
set_option linter.all false
set_option maxRecDepth 100000
set_option maxHeartbeats 4000000
/-! Free squares, cut squares, neighbours. -/
namespace Sq
open PySem PySem.Spec PyProof.Rows L2
def FreeP (L : List Cell) (x : Cell) : Prop := Hangs (without L x)
def CutP (L : List Cell) (x : Cell) : Prop := ¬ Hangs (without L x) ∧ 1 < L.length
def spSome (p : List Cell → Cell → Prop) : Sp := fun vs H Q _ => ∃ (t : Addr) (L : List Cell), vs = [.ref t] ∧ CellsT H t L ∧ L.Nodup ∧ L.length ≤ 1000 ∧ Hangs L ∧ ∀ r H' cs, Same H H' → CellsT H' r cs → cs.Nodup → Asc cs → (∀ x, x ∈ cs ↔ x ∈ L ∧ p L x) → Q (.ref r) H'
def spFreeIn : Sp := fun vs H Q _ => ∃ (d : Addr) (L : List Cell), vs = [.ref d] ∧ H d = some (.dT (lotK L)) ∧ L.Nodup ∧ L.length ≤ 1000 ∧ Hangs L ∧ ∀ l H' cs, Same H H' → H l = none → CellsL H' l cs → cs.Nodup → Asc cs → (∀ x, x ∈ cs ↔ x ∈ L ∧ FreeP L x) → Q (.ref l) H'
theorem dget_f {H : Hp} {d q : Addr} {c : Cell} {v : V} {o : Obj} {kvs : List (List Key × V)} (hd : H d = some (.frz o (.dT kvs))) (hq : At H q c) (e : valV kvs (cK c) = some v) : DGet H d (.ref q) (some v) := .inr ⟨kvs, cK c, q, .inr ⟨o, hd⟩, rfl, hq, e.symm⟩
/-- a key of a map of cells -/
theorem map_key {f : Cell → V} {l : List Cell} {i : Nat} {k : List Key} {v : V} (h : (l.map fun v => (cK v, f v))[i]? = some (k, v)) : ∃ c, l[i]? = some c ∧ k = cK c ∧ v = f c := by
  rw [List.getElem?_map] at h
  obtain ⟨c, hc, e⟩ := Option.map_eq_some_iff.mp h
  obtain ⟨rfl, rfl⟩ := Prod.mk.inj e
  exact ⟨c, hc, rfl, rfl⟩
section
variable {P : Program} {w : World} {K : PySem.W.Frag} {mg : Str → Option Value} {base : Heap}
/-- what is told of the kept ones -/
theorem told_some {H : Hp} {L Ks : List Cell} {p : Cell → Bool} {pp : List Cell → Cell → Prop} {cs : List Cell} (nK : Ks.Nodup) (mem : ∀ x, x ∈ Ks ↔ x ∈ L) (hp : ∀ x ∈ L, p x = true ↔ pp L x) (pm : cs.Perm (Ks.filter p)) : cs.Nodup ∧ ∀ x, x ∈ cs ↔ x ∈ L ∧ pp L x := by
  refine ⟨pm.nodup_iff.mpr (nK.sublist List.filter_sublist), fun x => ?_⟩
  rw [pm.mem_iff, List.mem_filter, mem]
  exact ⟨fun h => ⟨h.1, (hp x h.1).mp h.2⟩, fun h => ⟨h.1, (hp x h.1).mpr h.2⟩⟩
def spNeigh (K : PySem.W.Frag) (CB : Addr) : Sp := fun vs H Q E => ∃ (t : Addr) (L : List Cell) (y : V), vs = [.ref t, y] ∧ CellsT H t L ∧ L.Nodup ∧ L.length ≤ 1000 ∧
  ((CellQ K H y false ∧ Way [] H CB [("cell", y)] E) ∨ ∃ q c, y = .ref q ∧ At H q c ∧ ∀ r H' cs, Same H H' → CellsT H' r cs → cs.Perm (nearC L c) → Asc cs → Q (.ref r) H')
end
end Sq

set_option Elab.async false
set_option linter.all false
set_option maxRecDepth 100000
set_option maxHeartbeats 4000000
/-! moves_of. -/
namespace Sq
open PySem PySem.Spec PyProof.Rows L2
/-- the module's eight steps -/
def stepL : List Cell := [(-1, -1), (-1, 0), (-1, 1), (0, -1), (0, 1), (1, -1), (1, 0), (1, 1)]
structure StepsC (K : PySem.W.Frag) (mg : Str → Option Value) (a : Addr) (rs : List Addr) : Prop where
  g : mg "STEPS" = some (.ref a)
  t : ∀ H, SqT K H a (rs.map V.ref)
  e : Paired (fun r d => ∀ H, SqT K H r (cV d)) rs stepL
theorem around_steps (c : Cell) : aroundC c = stepL.map fun d => (c.1 + d.1, c.2 + d.2) := by
  simp [aroundC, stepL, Int.sub_eq_add_neg]
theorem asc_same {A M : List Cell} (nA : A.Nodup) (nM : M.Nodup) (sa : Asc A) (sm : Asc M) (mem : ∀ x, x ∈ A ↔ x ∈ M) : A = M :=
  List.Perm.eq_of_pairwise (le := fun x y => cLt y x = false) (fun x y _ _ h k => cLt_tri k h) sa sm ((List.perm_ext_iff_of_nodup nA nM).mpr mem)
def endsC (L : List Cell) (s : Cell) : List Cell := (aroundC s).filter fun e => !decide (byPlace L s e = .non)
def movesC (L F : List Cell) : List (Cell × Cell) := F.flatMap fun s => (endsC L s).map fun e => (s, e)
theorem moves_snoc {L F : List Cell} {i : Nat} {s : Cell} (h : F[i]? = some s) : movesC L (F.take (i + 1)) = movesC L (F.take i) ++ (endsC L s).map fun e => (s, e) := by
  unfold movesC
  rw [take_snoc h, List.flatMap_append]
  simp
theorem PairAt.keep {H G : Hp} {p : Addr} {m : Cell × Cell} (h : PairAt H p m) (k : Tk H G) : PairAt G p m := by
  obtain ⟨x, y, e, ax, ay⟩ := h
  exact ⟨x, y, k _ _ e, k _ _ ax, k _ _ ay⟩
def PairsT (H : Hp) (t : Addr) (ms : List (Cell × Cell)) : Prop := ∃ ps : List Addr, H t = some (.tup (ps.map V.ref)) ∧ Paired (fun p m => PairAt H p m) ps ms
theorem KT.put {Ts : List Addr} {H G : Hp} {D : Addr} {xs : List V} {o : HO} (k : KT Ts H G) (hD : H D = none) (gD : G D = some (.lst xs)) : KT Ts H (upd G D o) := by
  refine ⟨fun b u n e => ?_, k.tb, fun T m => ?_⟩
  · by_cases z : b = D
    · rw [z, hD] at e
      cases e
    · rw [upd_ne z]
      exact k.kp b u n e
  · obtain ⟨ps, e, t⟩ := k.tb' T m
    refine ⟨ps, ?_, t⟩
    by_cases z : T = D
    · rw [z, gD] at e
      cases e
    · rw [upd_ne z]
      exact e
/-- shifted(cell, by), by a tuple of the file or of the run -/
def spShiftK (K : PySem.W.Frag) : Sp := fun vs H Q _ => ∃ (p r : Addr) (c d : Cell), vs = [.ref p, .ref r] ∧ At H p c ∧ SqT K H r (cV d) ∧ ∀ q, H q = none → Q (.ref q) (upd H q (.tup (cV (c.1 + d.1, c.2 + d.2))))
def spMoves (Ts : List Addr) : Sp := fun vs H Q _ => ∃ (t : Addr) (L : List Cell), vs = [.ref t] ∧ CellsT H t L ∧ L.Nodup ∧ Asc L ∧ L.length ≤ 1000 ∧ Hangs L ∧ TabsG Ts H ∧
  ∀ r H', KT Ts H H' → PairsT H' r (movesC L (L.filter fun c => hangsB (without L c))) → Q (.ref r) H'
section
variable {P : Program} {w : World} {K : PySem.W.Frag} {mg : Str → Option Value} {base : Heap} {Ts : List Addr}
theorem ok_shiftK {f : Addr} {fd : FuncData} (F : FnP K "shifted" gShifted f fd) : FnOk P w K mg base CX0 1 f fd ["cell", "by"] (spShiftK K) := by
  refine F.ok scSh (fun vs H Q E h => ?_) (fun cdv A outer s H vs Q E hr h => ?_)
  · obtain ⟨p, r, c, d, rfl, _⟩ := h
    rfl
  · obtain ⟨p, r, c, d, rfl, e1, e2, k⟩ := h
    refine ⟨_, PSs.nox (pss_one (ps_ret (pe_tup (pa_cons (pe_op op_add (pe_ix (ix_tupK (K := K) rfl) (pv 0) pe_int (fun _ _ => rfl)) (pe_ix (ix_tupK (K := K) rfl) (pv 1) pe_int (fun _ _ => rfl))) (pa_cons (pe_op op_add (pe_ix (ix_tupK (K := K) rfl) (pv 0) pe_int (fun _ _ => rfl)) (pe_ix (ix_tupK (K := K) rfl) (pv 1) pe_int (fun _ _ => rfl))) pa_nil))))), ?_⟩
    exact ⟨_, rfl, _, _, _, _, rfl, rfl, SqT.of e1, at0, _, rfl, _, _, _, _, rfl, rfl, e2, at0, _, _, rfl, rfl, _, rfl, _, _, _, _, rfl, rfl, SqT.of e1, at1, _, rfl, _, _, _, _, rfl, rfl, e2, at1, _, _, rfl, rfl, two_le, fun q hq => k q hq⟩
end
end Sq

set_option Elab.async false
set_option linter.all false
set_option maxRecDepth 100000
set_option maxHeartbeats 4000000
/-! The law's moves. -/
namespace Sq
open PySem PySem.Spec PyProof.Rows L2
theorem pD_toks (p : CellP) : PySem.W.keyToks (pD p) = [.inl 1, .inl 1, .inl p.1.1, .inl 1, .inl p.1.2, .inl 0, .inl 1, .inl 1, .inl p.2.1, .inl 1, .inl p.2.2, .inl 0, .inl 0] := by
  simp [pD, cD, PySem.W.keyToks, PySem.W.keyToksAll]
theorem pLe {a b : CellP} (h : cLt a.1 b.1 = true ∨ (a.1 = b.1 ∧ cLt a.2 b.2 = true)) : PySem.W.dataLe false pD a b = true := by
  unfold PySem.W.dataLe
  show (!PyProof.Rows.lexLt PyProof.Rows.itemOrd (PySem.W.keyToks (pD b)) (PySem.W.keyToks (pD a))) = true
  rw [pD_toks, pD_toks]
  obtain ⟨⟨a1, a2⟩, a3, a4⟩ := a
  obtain ⟨⟨b1, b2⟩, b3, b4⟩ := b
  simp only [cLt, decide_eq_true_eq, Prod.mk.injEq] at h
  have at1 : ∀ (x y : Int) (r t : List (Int ⊕ List Nat)), PyProof.Rows.lexLt PyProof.Rows.itemOrd (.inl x :: r) (.inl y :: t) = (decide (x < y) || (!decide (y < x) && PyProof.Rows.lexLt PyProof.Rows.itemOrd r t)) := fun x y r t => PyProof.Rows.lex_cons (O := PyProof.Rows.itemOrd) (.inl x) (.inl y) r t
  have nil : PyProof.Rows.lexLt PyProof.Rows.itemOrd ([] : List (Int ⊕ List Nat)) [] = false := rfl
  simp only [at1, nil]
  simp
  omega
section
variable {X : Cx}
/-- sorted of data, each value with what it is known as -/
def rSortF (K : PySem.W.Frag) : List V → Hp → VK → Prop := fun vs H Q => ∃ (a : Addr) (xs : List V) (β : Type) (enc : β → PyData) (bs : List β) (F : V → β → Prop), vs = [V.ref a] ∧ SqL K H a xs ∧ Paired F xs bs ∧ (∀ x b, F x b → Dp K H x (enc b)) ∧ (∀ b b', PySem.W.alike (enc b) (enc b') = true) ∧
  PySem.W.Sortable (bs.map enc) ∧ (∀ b ∈ bs, (enc b).depth ≤ 8) ∧
  ∀ (ys : List V) (p : Addr), Paired F ys (bs.mergeSort (PySem.W.dataLe false enc)) → H p = none → Q (.ref p) (upd H p (.lst ys))
theorem cr_sortedF (hu : X.A.units + 64 < cLine) : CallR X (.builtin "sorted") (rSortF X.K) := by
  intro pins s σ H vs us Q I r h
  obtain ⟨a, xs, β, enc, bs, F, rfl, hs, pr, fd, al, so, dp, q⟩ := h
  obtain ⟨its, rv, hl, hz⟩ := I.list hs
  obtain ⟨u, rfl, ru⟩ := vals1 r
  obtain rfl : u = Value.ref a := ru
  have lb : bs.length ≤ sizeLine := by rw [← Paired.length pr]; exact hz
  refine PySem.W.sorted_data (R := fun v b => ∃ y, RelV y v ∧ F y b) (enc := enc) (bs := bs) hl.isList (each_of rv pr fun x u b m rx hd => ⟨x, rx, hd⟩) (each_of rv pr fun x u b _ rx hd => Dp.reads I _ _ _ (fd x b hd) rx) (PySem.W.AllAlike.of al) so lb
    (fun b hb => by have := dp b hb; omega) fun out lo eo => ?_
  obtain ⟨ys, ry, py⟩ := each_back eo
  have len : ys.length ≤ sizeLine := by rw [ry.length, lo]; exact lb
  obtain ⟨e, he⟩ := sortedAll_at s.heap its out.toArray
  have hd : s.heap.objs.size ≤ s.heap.objs.size + 1 := Nat.le_succ _
  exact ⟨.ref (s.heap.objs.size + 1), upd H (s.heap.objs.size + 1) (.lst ys), I.laid (t' := s.toks) (fun b o e => sortedAll_old e) hd ⟨len, out, e, ry, he⟩, rfl, q ys _ py (I.hok.fresh hd)⟩
end
/-- a comprehension whose items are pairs of cells -/
theorem lc_pairs {J : It} {n : Nat} {Gd : Hp → Prop} {Y : Nat → Hp → V → Hp → Prop} (w : Walk J n Gd Y) {g : TG} {tt : TT} {te : TE} {vs : List Nat} {σ : L2.St} {H1 : Hp} {D : Addr} {Qd : Hp → Prop} (hD : H1 D = none) (res : Nat → List CellP) (r0 : res 0 = []) (hn : n ≤ 1000000)
    (hG : ∀ i G, i ≤ n → Same H1 G → Gd G)
    (hs : ∀ i x G G' (K1 : V → Hp → Prop) (K0 : Hp → Prop), i < n → Same H1 G → Y i G x G' → (∀ r c H4, Same G H4 → PairAt H4 r c → res (i + 1) = res i ++ [c] → K1 (.ref r) H4) → (∀ H3, Same G H3 → res (i + 1) = res i → K0 H3) →
      g x (wipe σ vs) G' fun σ2 H2 => wipe σ2 vs = wipe σ vs ∧ tt σ2 H2 fun b H3 => if b = true then te σ2 H3 K1 else K0 H3)
    (hd : ∀ G rs, Same H1 G → G D = some (.lst (rs.map V.ref)) → Paired (fun q c => PairAt G q c) rs (res n) → Qd G) :
    ∃ W : Nat → Nat → Hp → Prop, (∃ m, W 0 m (upd H1 D (.lst []))) ∧ ∀ i m H, W i m H →
      (J.stop i H ∧ Qd H) ∨ (J.go i H ∧ ∃ Nx : Hp → Prop, (∀ H', Nx H' → ∃ m', m' < m ∧ W (i + 1) m' H') ∧ ∀ x H', J.yld i H x H' → g x (wipe σ vs) H' fun σ2 H2 => wipe σ2 vs = wipe σ vs ∧ tt σ2 H2 fun b H3 =>
        if b = true then te σ2 H3 fun y H4 => ∃ acc, H4 D = some (.lst acc) ∧ acc.length < sizeLine ∧ Nx (upd H4 D (.lst (acc ++ [y]))) else Nx H3) := by
  refine lc_it w (fun i G => Same H1 G ∧ ∃ rs : List Addr, G D = some (.lst (rs.map V.ref)) ∧ rs.length ≤ i ∧ Paired (fun q c => PairAt G q c) rs (res i)) ⟨?_, [], upd_same, Nat.le_refl _, by rw [r0]; exact .nil⟩ (fun i G hi p => hG i G hi p.1) ?_ ?_
  · exact same_put same_refl hD
  · rintro i x G G' hi ⟨sm, rs, gD, ln, pr⟩ y
    refine hs i x G G' _ _ hi sm y (fun r c H4 s4 a4 e => ?_) (fun H3 s3 e => ?_)
    · refine ⟨_, s4 _ _ gD, by rw [List.length_map, sizeLine_eq]; omega, same_put (sm.trans s4) hD, rs ++ [r], by rw [upd_same, List.map_append]; rfl, by rw [List.length_append]; exact Nat.succ_le_succ ln, ?_⟩
      have off : ∀ {q : Addr} {c : CellP}, PairAt H4 q c → PairAt (upd H4 D (.lst (rs.map V.ref ++ [V.ref r]))) q c := fun h => h.off (s4 _ _ gD) (by intro xs z; cases z)
      rw [e]
      exact (paired_imp (fun _ _ h => off (h.same s4)) pr).snoc (off a4)
    · refine ⟨sm.trans s3, rs, s3 _ _ gD, Nat.le_succ_of_le ln, ?_⟩
      rw [e]
      exact paired_imp (fun _ _ h => h.same s3) pr
  · rintro G ⟨sm, rs, gD, _, pr⟩
    exact hd G rs sm gD pr
theorem filt_snoc {L : List Cell} {p : Cell → Bool} {i : Nat} {c : Cell} (h : L[i]? = some c) (hp : p c = true) : (L.take (i + 1)).filter p = (L.take i).filter p ++ [c] := by
  rw [take_snoc h, List.filter_append]
  simp only [List.filter_cons, hp, if_true, List.filter_nil]
theorem filt_skip {L : List Cell} {p : Cell → Bool} {i : Nat} {c : Cell} (h : L[i]? = some c) (hp : p c ≠ true) : (L.take (i + 1)).filter p = (L.take i).filter p := by
  rw [take_snoc h, List.filter_append]
  simp only [List.filter_cons, hp, if_false, List.filter_nil, List.append_nil]
  simp
theorem eqv_nilD (ds : List PyData) : PyData.eqv (.list ds) (.list []) = decide (ds = []) := by
  cases ds with
  | nil => rfl
  | cons x xs => rw [decide_eq_false (by simp)]; rfl
def PairsL (H : Hp) (t : Addr) (ms : List CellP) : Prop := ∃ ps : List Addr, H t = some (.lst (ps.map V.ref)) ∧ Paired (fun p m => PairAt H p m) ps ms
def spLMoves : Sp := fun vs H Q _ => ∃ (t : Addr) (L : List Cell), vs = [.ref t] ∧ CellsT H t L ∧ L.Nodup ∧ Asc L ∧ L.length ≤ 1000 ∧
  ∀ l H', Same H H' → PairsL H' l (movesC L (L.filter fun c => hangsB (without L c))) → Q (.ref l) H'
/-- one start after the other -/
theorem moves_step {L : List Cell} {i : Nat} {s : Cell} (h : L[i]? = some s) : movesC L ((L.take (i + 1)).filter fun c => hangsB (without L c)) = movesC L ((L.take i).filter fun c => hangsB (without L c)) ++ (if hangsB (without L s) = true then (endsC L s).map fun e => (s, e) else []) := by
  rw [take_snoc h, List.filter_append]
  unfold movesC
  rw [List.flatMap_append]
  by_cases c : hangsB (without L s) = true
  · rw [if_pos c]
    simp [List.filter_cons, c]
  · rw [if_neg c]
    simp [List.filter_cons, c]
theorem refs_of {α : Type} {F : Addr → α → Prop} : ∀ {ys : List V} {ms : List α}, Paired (fun x m => ∃ r, x = V.ref r ∧ F r m) ys ms → ∃ rs : List Addr, ys = rs.map V.ref ∧ Paired F rs ms
  | _, _, .nil => ⟨[], rfl, .nil⟩
  | _, _, .cons h t => by
    obtain ⟨r, rfl, f⟩ := h
    obtain ⟨rs, rfl, p⟩ := refs_of t
    exact ⟨r :: rs, rfl, .cons f p⟩
theorem around_asc (c : Cell) : (aroundC c).Pairwise fun x y => cLt x y = true := by
  simp [aroundC, cLt]
  omega
theorem moves_asc {L : List Cell} (asc : Asc L) (nL : L.Nodup) : (movesC L (L.filter fun c => hangsB (without L c))).Pairwise fun a b => PySem.W.dataLe false pD a b = true := by
  have lt : (L.filter fun c => hangsB (without L c)).Pairwise fun x y => cLt x y = true := by
    refine List.Pairwise.sublist List.filter_sublist ?_
    refine (asc.and nL).imp fun {x y} h => ?_
    cases e : cLt x y with
    | true => rfl
    | false => exact absurd (cLt_tri e h.1) h.2
  unfold movesC
  generalize (L.filter fun c => hangsB (without L c)) = F at lt
  induction F with
  | nil => exact .nil
  | cons s F ih =>
    rw [List.flatMap_cons]
    obtain ⟨h1, h2⟩ := List.pairwise_cons.mp lt
    refine List.pairwise_append.mpr ⟨?_, ih h2, fun a ha b hb => ?_⟩
    · refine List.pairwise_map.mpr ?_
      refine ((around_asc s).sublist List.filter_sublist).imp fun {x y} h => ?_
      exact pLe (.inr ⟨rfl, h⟩)
    · obtain ⟨e, _, rfl⟩ := List.mem_map.mp ha
      obtain ⟨s', hs', hb'⟩ := List.mem_flatMap.mp hb
      obtain ⟨e', _, rfl⟩ := List.mem_map.mp hb'
      exact pLe (.inl (h1 s' hs'))
section
variable {P : Program} {w : World} {K : PySem.W.Frag} {mg : Str → Option Value} {base : Heap}
theorem scLM : FnScope ["_law_body", "_law_squares", "_law_found", "_law_start", "_law_ends", "_law_end"] ["_law_body"] (defScope lMoves) := ⟨rfl, rfl, rfl, by decide +kernel, rfl, by decide +kernel, by decide +kernel⟩
theorem ok_lMoves {f : Addr} {fd : FuncData} (F : FnP K "_law_t2_moves" lMoves f fd) (B : Bl mg) (DQ : Df P w K mg base CX0 1 "_law_t2_squares" ["_law_body"] spSquares) (DA : Df P w K mg base CX0 1 "_law_t2_around" ["_law_cell"] spAround) (DS : Df P w K mg base CX0 2 "_law_t2_supports" ["_law_squares", "_law_start", "_law_end"] (spSupp K)) (DF : Df P w K mg base CX0 4 "_law_t2_free" ["_law_body", "_law_cell"] spFree) :
    FnOk P w K mg base CX0 5 f fd ["_law_body"] spLMoves := by
  refine F.ok scLM (fun vs H Q E h => ?_) (fun cdv A outer s H vs Q E hr h => ?_)
  · obtain ⟨t, L, rfl, _⟩ := h
    rfl
  · obtain ⟨t, L, rfl, ct, nL, asc, lL, k⟩ := h
    have h64 := room64 hr
    refine ⟨_, PSs.nox (pss_cons (ps_asg (pe_tup (pa_cons (pe_df DQ hr (by rfl) pass0 (pa_cons (pv 0) pa_nil)) (pa_cons (pe_lst pa_nil) pa_nil))) (pg_tup (by rfl) (pgs_cons (pg_name (i := 1) scLM.nd rfl (.inr rfl)) (pgs_cons (pg_name (i := 2) scLM.nd rfl (.inl rfl)) pgs_nil))))
      (pss_cons (ps_for PassesOwn.never rfl (pi_tup (pv 0)) (pg_name (i := 3) scLM.nd rfl (.inr rfl))
      (pss_cons (ps_setLc (i := 4) (own := [("_law_end", 5)]) (g := gName 5) (by rfl) scLM.nd rfl rfl (sw_true rfl rfl rfl (by decide +kernel)) (pi_list (pe_df DA hr (by rfl) pass0 (pa_cons (pv 3) pa_nil))) (blkOk_by (N := ["_law_body", "_law_squares", "_law_found", "_law_start", "_law_ends", "_law_end"]) (sc := defScope lMoves) (by decide +kernel)) (fun _ _ _ _ _ => pg_name (i := 5) scLM.nd rfl (Or.inl rfl)) (fun _ _ _ _ _ => (pts_one (pt_cmpR (op_neK (K := K) rfl h64) (pe_df DS hr (by rfl) pass0 (pa_cons (pv 1) (pa_cons (pv 3) (pa_cons (pv 5) pa_nil)))) (pe_lst pa_nil) (nomark _)))) (fun _ _ _ _ _ => (pv 5)))
        (pss_one (ps_if (PW.pt (pw_and (pt_cmpR (op_neK (K := K) rfl h64) (pv 4) (pe_lst pa_nil) (nomark _)) (pw_and1 (pt_val (pe_df DF hr (by rfl) pass0 (pa_cons (pv 0) (pa_cons (pv 3) pa_nil)))))))
        (pss_one (ps_set (i := 2) scLM.nd rfl (.inl rfl) (pe_op op_cat (pv 2) (pe_lc (own := [("_law_end", 5)]) (g := gName 5) (tt := tYes) rfl scLM.nd (pi_list (pv 4)) (blkOk_by (N := ["_law_body", "_law_squares", "_law_found", "_law_start", "_law_ends", "_law_end"]) (sc := defScope lMoves) (by decide +kernel)) (fun _ _ _ _ _ => pg_name (i := 5) scLM.nd rfl (Or.inl rfl)) (fun _ _ _ _ _ => pts_nil) (fun _ _ _ _ _ => (pe_tup (pa_cons (pv 3) (pa_cons (pv 5) pa_nil))))))))
        pss_nil))))
      (pss_one (ps_ret (pe_callB (cr_sortedF h64) (by rfl) B.sorted (by decide +kernel) (pa_cons (pv 2) pa_nil)))))), ?_⟩
    obtain ⟨qs, et, pr⟩ := id ct
    have lq : qs.length = L.length := Paired.length pr
    refine ⟨_, rfl, t, L, rfl, ct, nL, lL, fun d H1 s1 hd ed => ?_⟩
    refine ⟨Nat.zero_le _, fun l0 hl0 => ⟨two_le, fun tp htp => ?_⟩⟩
    have s2 := same_new (o := .lst []) hl0
    have s3 := same_new (o := .tup [.ref d, .ref l0]) htp
    have sA := (s1.trans s2).trans s3
    refine ⟨tp, _, rfl, SqT.of upd_same, rfl, _, _, rfl, _, _, rfl, rfl, ?_⟩
    refine ⟨_, rfl, t, rfl, ⟨_, SqT.of (sA _ _ et)⟩, ?_⟩
    refine for_tup (K := K) (a := t) (xs := qs.map V.ref) (fun i σ G => ∃ (fl : Addr) (ps : List Addr) (v3 v4 v5 : Option V), σ = [some (.ref t), some (.ref d), some (.ref fl), v3, v4, v5] ∧ Same H G ∧ G d = some (.dT (lotK L)) ∧ G fl = some (.lst (ps.map V.ref)) ∧ ps.length ≤ 8 * i ∧ Paired (fun p m => PairAt G p m) ps (movesC L ((L.take i).filter fun c => hangsB (without L c))))
      ⟨l0, [], none, none, none, rfl, sA, s3 _ _ (s2 _ _ ed), s3 _ _ upd_same, Nat.le_refl _, .nil⟩ (fun i σ G _ ⟨_, _, _, _, _, _, sm, _⟩ => SqT.of (sm _ _ et)) ?_ ?_
    · rintro i x σ G hi ⟨fl, ps, v3, v4, v5, rfl, sm, gd, gf, ln, prM⟩
      rw [List.getElem?_map] at hi
      obtain ⟨q, hq, rfl⟩ := Option.map_eq_some_iff.mp hi
      obtain ⟨c, hc, ac⟩ := paired_get pr hq
      refine ⟨_, rfl, q, c, rfl, sm _ _ ac, fun l1 G1 s4 hl1 cl1 => ⟨l1, rfl, ?_⟩⟩
      obtain ⟨us, el1, pr1⟩ := cl1
      have lu : us.length = 8 := Paired.length pr1
      refine ⟨⟨_, SqL.of el1⟩, fun D hD => ?_⟩
      have smG1 := sm.trans s4
      refine lc_cells (walk_list (K := K) (a := l1) (xs := us.map V.ref)) hD (fun j => ((aroundC c).take j).filter fun e => !decide (byPlace L c e = .non)) rfl (by rw [List.length_map]; omega) (fun j G2 _ s => SqL.of (s _ _ el1)) ?_ ?_
      · rintro j x G2 G' Kk1 Kk0 hj s5 ⟨rfl, hx⟩ k1 k0
        rw [List.getElem?_map] at hx
        obtain ⟨u, hu2, rfl⟩ := Option.map_eq_some_iff.mp hx
        obtain ⟨e, he, ae⟩ := paired_get pr1 hu2
        refine ⟨rfl, _, rfl, _, rfl, _, rfl, d, q, u, L, c, e, rfl, s5 _ _ (s4 _ _ gd), s5 _ _ (smG1 _ _ ac), s5 _ _ ae, fun l H2 ds s6 dl ll hds => ⟨Nat.zero_le _, fun l2 hl2 => ?_⟩⟩
        have s7 := same_new (o := .lst []) hl2
        refine ⟨_, _, (Ek.of s7).dp _ _ dl, .lst (SqL.of upd_same) .nil, ll.shaped (by decide), (lay_list (n := 0) (ds := []) (by simp)).shaped (by decide), _, rfl, ?_⟩
        rw [eqv_nilD]
        have s67 := s6.trans s7
        refine ite2 (fun h1 => ?_) (fun h1 => ?_)
        · exact ⟨_, rfl, k1 u e _ s67 (s67 _ _ (s5 _ _ ae)) (filt_snoc he (by rw [← h1]; simp [hds]))⟩
        · exact k0 _ s67 (filt_skip he (by intro z; exact h1 (by rw [← z]; simp [hds])))
      rintro G2 rs s5 gD prD
      have e8 : (aroundC c).take (us.map V.ref).length = aroundC c := by rw [List.length_map, lu]; rfl
      rw [e8] at prD
      have prD : Paired (fun q e => At G2 q e) rs (endsC L c) := prD
      have sm2 := smG1.trans s5
      have s45 := s4.trans s5
      have lrs : rs.length ≤ 8 := by rw [Paired.length prD]; exact Nat.le_trans (List.length_filter_le ..) (Nat.le_refl 8)
      refine ⟨_, rfl, Nat.zero_le _, fun l3 hl3 => ?_⟩
      have s6 := same_new (o := .lst []) hl3
      have cD2 : CellsL (upd G2 l3 (.lst [])) D (endsC L c) := CellsL.ek ⟨rs, gD, prD⟩ (.of s6)
      refine ⟨_, _, cD2.dp, .lst (SqL.of upd_same) .nil, lay_cells.shaped (by decide), (lay_list (n := 0) (ds := []) (by simp)).shaped (by decide), _, rfl, ?_⟩
      rw [eqv_nilD]
      have s46 := s45.trans s6
      have sm3 := sm2.trans s6
      refine ite2 (fun h1 => ?_) (fun h1 => iteF ?_)
      · refine ⟨_, rfl, _, rfl, t, q, L, c, rfl, ct.ek (.of sm3), lL, sm3 _ _ ac, fun G4 s7 => ⟨_, rfl, ?_⟩⟩
        have s47 := s46.trans s7
        have sm4 := sm3.trans s7
        refine ite2 (fun h2 => ?_) (fun h2 => ?_)
        · refine ⟨_, rfl, _, rfl, D, rfl, ⟨_, SqL.of (s7 _ _ (s6 _ _ gD))⟩, fun D2 hD2 => ?_⟩
          refine lc_pairs (walk_list (K := K) (a := D) (xs := rs.map V.ref)) hD2 (fun j => ((endsC L c).take j).map fun e => (c, e)) rfl (by rw [List.length_map]; omega) (fun j G5 _ s => SqL.of (s _ _ (s7 _ _ (s6 _ _ gD)))) ?_ ?_
          · rintro j x G5 G' Kk1 Kk0 hj s8 ⟨rfl, hx⟩ k1 k0
            rw [List.getElem?_map] at hx
            obtain ⟨u, hu2, rfl⟩ := Option.map_eq_some_iff.mp hx
            obtain ⟨e, he, ae⟩ := paired_get prD hu2
            refine ⟨rfl, ?_⟩
            refine ⟨_, rfl, _, rfl, two_le, fun p hp => ?_⟩
            have s9 := same_new (o := .tup [.ref q, .ref u]) hp
            exact k1 p (c, e) _ s9 ⟨q, u, upd_same, s9 _ _ (s8 _ _ (sm4 _ _ ac)), s9 _ _ (s8 _ _ (s7 _ _ (s6 _ _ ae)))⟩ (by rw [take_snoc he, List.map_append]; rfl)
          · rintro G5 ns s8 gD2 prN
            have eN : (endsC L c).take (rs.map V.ref).length = endsC L c := by rw [List.length_map, Paired.length prD, List.take_length]
            rw [eN] at prN
            have lns : ns.length ≤ 8 := by rw [Paired.length prN, List.length_map, ← Paired.length prD]; exact lrs
            have s48 := s47.trans s8
            have iL : i < L.length := (List.getElem?_eq_some_iff.mp hc).1
            refine ⟨fl, D2, _, _, rfl, rfl, s48 _ _ gf, gD2, by rw [List.length_map, List.length_map, sizeLine_eq]; omega, fun np hnp => ?_⟩
            have s9 := same_new (o := .lst (ps.map V.ref ++ ns.map V.ref)) hnp
            refine ⟨np, ps ++ ns, _, _, _, rfl, (sm4.trans s8).trans s9, s9 _ _ (s48 _ _ gd), by rw [upd_same, List.map_append], by rw [List.length_append]; omega, ?_⟩
            rw [moves_step hc, if_pos h2]
            exact paired_app (paired_imp (fun _ _ h => (h.same s48).same s9) prM) (paired_imp (fun _ _ h => h.same s9) prN)
        · refine ⟨fl, ps, _, _, _, rfl, sm4, s47 _ _ gd, s47 _ _ gf, Nat.le_trans ln (by omega), ?_⟩
          rw [moves_step hc, if_neg h2, List.append_nil]
          exact paired_imp (fun _ _ h => h.same s47) prM
      · refine ⟨fl, ps, _, _, _, rfl, sm3, s46 _ _ gd, s46 _ _ gf, Nat.le_trans ln (by omega), ?_⟩
        have e0 : endsC L c = [] := by
          have := h1
          simpa using this
        rw [moves_step hc, e0]
        simp only [List.map_nil, ite_self, List.append_nil]
        exact paired_imp (fun _ _ h => h.same s46) prM
    · rintro σ G ⟨fl, ps, v3, v4, v5, rfl, sm, gd, gf, ln, prM⟩
      have el : L.take (qs.map V.ref).length = L := by rw [List.length_map, lq, List.take_length]
      rw [el] at prM
      refine ⟨_, rfl, fl, _, CellP, pD, _, (fun x m => ∃ r, x = V.ref r ∧ PairAt G r m), rfl, SqL.of gf, paired_mapL V.ref (paired_imp (fun r _ h => ⟨r, rfl, h⟩) prM), fun x b ⟨r, e, h⟩ => e ▸ h.dp, alike_pD, PySem.W.Sortable.tuples (fun b => ⟨_, _, rfl⟩), fun b _ => Nat.le_trans (lay_pD b).2 (by decide), fun ys p2 pr2 hp2 => ?_⟩
      rw [List.mergeSort_of_pairwise (moves_asc asc nL)] at pr2
      obtain ⟨rs, rfl, prR⟩ := refs_of pr2
      have s9 := same_new (o := .lst (rs.map V.ref)) hp2
      exact k p2 _ (sm.trans s9) ⟨rs, upd_same, paired_imp (fun _ _ h => h.same s9) prR⟩
end
end Sq

set_option Elab.async false
set_option linter.all false
set_option maxRecDepth 100000
set_option maxHeartbeats 4000000
/-! sorted of a lot of cells; is_body. -/
namespace Sq
open PySem PySem.Spec PyProof.Rows L2
theorem iteN {c : Prop} [Decidable c] {p q : Prop} (h : ¬c) (k : q) : if c then p else q := by
  rw [if_neg h]
  exact k
theorem asc_one {A M : List Cell} (h : A.Perm M) (sa : Asc A) (sm : Asc M) : A = M :=
  List.Perm.eq_of_pairwise (le := fun x y => cLt y x = false) (fun x y _ _ h k => cLt_tri k h) sa sm h
/-- is_body of an ascending tuple of cells, none twice -/
def spIsBody (Ts : List Addr) : Sp := fun vs H Q _ => ∃ (t : Addr) (L : List Cell), vs = [.ref t] ∧ CellsT H t L ∧ L.Nodup ∧ Asc L ∧ L.length ≤ 1000 ∧ TabsG Ts H ∧ ∀ H', KT Ts H H' → Q (.bl (hangsB L)) H'
section
variable {P : Program} {w : World} {K : PySem.W.Frag} {mg : Str → Option Value} {base : Heap}
end
end Sq

set_option Elab.async false
set_option linter.all false
set_option maxRecDepth 100000
set_option maxHeartbeats 4000000
/-! in, for a pair of cells and a tuple of such pairs. -/
namespace Sq
open PySem PySem.Spec PyProof.Rows L2
theorem pD_eqv (a b : CellP) : PyData.eqv (pD a) (pD b) = decide (a = b) := by
  have e : PyData.eqv (pD a) (pD b) = (PyData.eqv (cD a.1) (cD b.1) && PyData.eqv (cD a.2) (cD b.2)) := by
    simp [pD, PyData.eqv, PyData.eqvAll]
  rw [e, cD_eqv, cD_eqv, Bool.eq_iff_iff]
  obtain ⟨a1, a2⟩ := a
  obtain ⟨b1, b2⟩ := b
  simp
theorem any_pair (c : CellP) : ∀ L : List CellP, (L.map pD).any (fun z => PyData.eqv z (pD c)) = decide (c ∈ L)
  | [] => by simp
  | d :: L => by
    rw [List.map_cons, List.any_cons, any_pair c L, pD_eqv]
    by_cases h : d = c
    · subst h
      simp
    · have h' : ¬ c = d := fun z => h z.symm
      simp [h, h']
theorem pairs_can (L : List CellP) : PyData.canLayAll0 (L.map pD) = true := (lay_all (n := 2) fun d hd => by
  obtain ⟨c, _, rfl⟩ := List.mem_map.mp hd
  exact lay_pD c).1
theorem pairs_dps {K : PySem.W.Frag} {H : Hp} : ∀ {ps : List Addr} {ms : List CellP}, Paired (fun p m => PairAt H p m) ps ms → DpAll K H (ps.map V.ref) (ms.map pD)
  | _, _, .nil => .nil
  | _, _, .cons h t => .cons h.dp (pairs_dps t)
theorem PairsT.dp {K : PySem.W.Frag} {H : Hp} {t : Addr} {ms : List CellP} (h : PairsT H t ms) : Dp K H (.ref t) (.tuple (ms.map pD)) := by
  obtain ⟨ps, e, pr⟩ := h
  exact .tup (SqT.of e) (pairs_dps pr)
theorem PairsL.dp {K : PySem.W.Frag} {H : Hp} {t : Addr} {ms : List CellP} (h : PairsL H t ms) : Dp K H (.ref t) (.list (ms.map pD)) := by
  obtain ⟨ps, e, pr⟩ := h
  exact .lst (SqL.of e) (pairs_dps pr)
/-- in, for a pair of cells and a tuple of pairs of cells -/
def rInP : R2 := fun x y H Q => ∃ (p t : Addr) (c : CellP) (L : List CellP), x = .ref p ∧ y = .ref t ∧ PairAt H p c ∧ PairsT H t L ∧ Q (.bl (decide (c ∈ L))) H
theorem op_inP {X : Cx} (hu : X.A.units + 64 < cLine) : OpR X (compareOp .In) rInP := by
  rintro pins s σ H x y v u Q I rx ry ⟨p, t, c, L, rfl, rfl, ap, ct, q⟩
  obtain ⟨as, r1⟩ := Dp.reads I (pD c) _ v ap.dp rx
  obtain ⟨bs, r2⟩ := Dp.reads I (.tuple (L.map pD)) _ u ct.dp ry
  have l1 := lay_pD c
  refine SeqAt.in_tuple_reads r2 r1 (pairs_can L) l1.1 ?_ ⟨.bl _, H, I, rfl, ?_⟩
  · have m : min (PyData.depthAll (L.map pD)) (pD c).depth ≤ 2 := Nat.le_trans (Nat.min_le_right _ _) l1.2
    omega
  · rw [any_pair]
    exact q
/-- a pair is a move just if its square is free and its place tells a kind -/
theorem mem_moves {L : List Cell} {s e : Cell} : (s, e) ∈ movesC L (L.filter fun c => hangsB (without L c)) ↔ s ∈ L ∧ e ∈ aroundC s ∧ hangsB (without L s) = true ∧ byPlace L s e ≠ .non := by
  unfold movesC endsC
  simp only [List.mem_flatMap, List.mem_map, List.mem_filter, Prod.mk.injEq]
  constructor
  · rintro ⟨s', ⟨h1, h2⟩, e', ⟨h3, h4⟩, rfl, rfl⟩
    exact ⟨h1, h3, h2, by simpa using h4⟩
  · rintro ⟨h1, h3, h2, h4⟩
    exact ⟨s, ⟨h1, h2⟩, e, ⟨h3, by simpa using h4⟩, rfl, rfl⟩
end Sq

set_option Elab.async false
set_option linter.all false
set_option maxRecDepth 100000
set_option maxHeartbeats 4000000
/-! A lot that hangs together is no wider than it has cells. -/
namespace Sq
open PySem PySem.Spec PyProof.Rows L2
theorem reach_between {L : List Cell} {f : Cell → Int} (hf : ∀ c d, d ∈ besideC c → f d - f c ≤ 1 ∧ f c - f d ≤ 1) {a x : Cell} (h : Reach L a x) (ha : a ∈ L) : ∀ k : Int, (f a ≤ k ∧ k ≤ f x) ∨ (f x ≤ k ∧ k ≤ f a) → ∃ y ∈ L, f y = k := by
  induction h with
  | refl => exact fun k hk => ⟨a, ha, by omega⟩
  | @step b x r hx xL ih =>
    intro k hk
    obtain ⟨h1, h2⟩ := hf b x hx
    by_cases e : f x = k
    · exact ⟨x, xL, e⟩
    · exact ih k (by omega)
theorem span_of {L : List Cell} {f : Cell → Int} (hf : ∀ c d, d ∈ besideC c → f d - f c ≤ 1 ∧ f c - f d ≤ 1) (hL : Hangs L) {a x : Cell} (ha : a ∈ L) (hx : x ∈ L) (le : f a ≤ f x) : f x - f a < L.length := by
  have r := reach_between hf (hL.2 a ha x hx) ha
  obtain ⟨d, hd⟩ := Int.eq_ofNat_of_zero_le (show 0 ≤ f x - f a by omega)
  have nd : ((List.range (d + 1)).map fun i : Nat => f a + (i : Int)).Nodup := by
    refine List.pairwise_map.mpr ((List.nodup_range (n := d + 1)).imp ?_)
    intro i j h h'
    exact h (by omega)
  have sub : ∀ y ∈ (List.range (d + 1)).map fun i : Nat => f a + (i : Int), y ∈ L.map f := fun y hy => by
    obtain ⟨i, hi, rfl⟩ := List.mem_map.mp hy
    have := List.mem_range.mp hi
    obtain ⟨z, hz, e⟩ := r (f a + (i : Int)) (by omega)
    exact List.mem_map.mpr ⟨z, hz, e⟩
  have l := len_le nd sub
  rw [List.length_map, List.length_map, List.length_range] at l
  omega
theorem beside_col (c d : Cell) (h : d ∈ besideC c) : d.1 - c.1 ≤ 1 ∧ c.1 - d.1 ≤ 1 := by
  have := beside_iff.mp h
  omega
theorem beside_row (c d : Cell) (h : d ∈ besideC c) : d.2 - c.2 ≤ 1 ∧ c.2 - d.2 ≤ 1 := by
  have := beside_iff.mp h
  omega
theorem span {L : List Cell} (hL : Hangs L) {a x : Cell} (ha : a ∈ L) (hx : x ∈ L) : x.1 - a.1 < L.length ∧ a.1 - x.1 < L.length ∧ x.2 - a.2 < L.length ∧ a.2 - x.2 < L.length := by
  have c1 := fun h => span_of (f := fun c => c.1) beside_col hL ha hx h
  have c2 := fun h => span_of (f := fun c => c.1) beside_col hL hx ha h
  have r1 := fun h => span_of (f := fun c => c.2) beside_row hL ha hx h
  have r2 := fun h => span_of (f := fun c => c.2) beside_row hL hx ha h
  refine ⟨?_, ?_, ?_, ?_⟩
  · by_cases h : a.1 ≤ x.1
    · exact c1 h
    · have := Int.natCast_nonneg L.length
      omega
  · by_cases h : x.1 ≤ a.1
    · exact c2 h
    · have := Int.natCast_nonneg L.length
      omega
  · by_cases h : a.2 ≤ x.2
    · exact r1 h
    · have := Int.natCast_nonneg L.length
      omega
  · by_cases h : x.2 ≤ a.2
    · exact r2 h
    · have := Int.natCast_nonneg L.length
      omega
end Sq

set_option Elab.async false
set_option linter.all false
set_option maxRecDepth 100000
set_option maxHeartbeats 4000000
/-! A call of a def that is run while no guard stands; the end of a law whose def is told so, with tables. -/
namespace Sq
open PySem PySem.Spec PyProof.Rows L2
section
variable {X : Cx} {CX : CXT} {j k : Nat} {f : Addr} {fd : FuncData} {ps : List Str} {sp : Sp} {E : XK}
/-- the callee runs, no guard around -/
theorem run_fnG {pins : List (Addr × Obj)} {σ : L2.St} {H : Hp} {s : Shared} {Q : VK} {us : List Value} {vs : List V} (len : ∀ vs H Q E, sp vs H Q E → vs.length = ps.length) (F : RunG X.prog X.w X.K X.mg X.base CX k f fd ps sp) (g0 : X.A.guards = some []) (room : Room k X.A)
    (bind : Binds X.K fd ps []) (pass : Passes CX X E) (J : Inv X pins σ H s) (rel : Vals vs us) (q : sp vs H Q E) : wpAny (model X.prog X.w) X.A (call (.ref f) us) (EP X pins σ Q) X.xe s := by
  have hl : us.length = ps.length := by
    rw [← rel.length]
    exact len _ _ _ _ q
  have bb := bind s us J.kIn (by rw [List.append_nil]; exact hl)
  rw [List.append_nil] at bb
  have run := F X.A X.stack s H ⟨us, []⟩ us vs Q E g0 room J.env0 bb rel q
  refine wpAny_call (codeAny_mono run fun r z hz => ?_)
  match r, hz with
  | .error e, hz => exact pass pins σ H s e z J hz
  | .ok (.ret u), hz => exact J.after hz
  | .ok .next, hz => exact hz.elim
  | .ok .brk, hz => exact hz.elim
  | .ok .cont, hz => exact hz.elim
/-- the module's def x, told where no guard stands -/
structure Dg (P : Program) (w : World) (K : PySem.W.Frag) (mg : Str → Option Value) (base : Heap) (CX : CXT) (k : Nat) (x : Str) (ps : List Str) (sp : Sp) : Prop where
  len : ∀ vs H Q E, sp vs H Q E → vs.length = ps.length
  ex : ∃ f fd, mg x = some (.ref f) ∧ PySem.W.keepIn K (.ref f) = true ∧ Binds K fd ps [] ∧ RunG P w K mg base CX k f fd ps sp
theorem pe_dg {x : Str} {p pos : Pos} {e : Expr} {es : List Expr} {t : TA} (D : Dg X.prog X.w X.K X.mg X.base CX k x ps sp) (g0 : X.A.guards = some []) (room : Room j X.A) (hg : Gl X x) (pass : Passes CX X E) (ha : PA X (e :: es) t) (hkj : k ≤ j := by decide) (hdb : (x == ("__debug__" : Str)) = false := by decide)
    (he : starEach (e :: es) X.env = (false, eval e X.env) :: starEach es X.env := by rfl) (hpl : (backTo pos (starEach es X.env)).any (·.1) = false := by rfl) : PE X (.Call (.Name x p) (e :: es) [] pos) (tCall sp [] E t) := by
  obtain ⟨f, fd, hm, kp, b, F⟩ := D.ex
  refine ⟨fun pins s σ H Q J q0 => wpAny_Call_Name_kw (ld_glob J hg hm ?_ hdb)⟩
  refine PySem.W.callWith_K (h₀ := X.base) J.ok.mod.kin kp (thn (ha.run pos pins s σ H _ J q0) ?_) he hpl
  rintro us z ⟨vs, G, J1, rel, q⟩
  refine ⟨J1.kIn, ?_⟩
  have q' : sp vs G Q E := by
    have q'' : sp (vs ++ []) G Q E := q
    rw [List.append_nil] at q''
    exact q''
  exact run_fnG D.len F g0 (room.mono hkj) b pass J1 rel q'
end
/-- where a law begins: its script and its tables stand apart -/
structure Beg (P : Program) (w : World) (K : PySem.W.Frag) (ts : List Addr) (z : Shared) (a : Addr) (H : Hp) : Prop where
  tb : ∀ t ∈ ts, H t = some (.tbl #[])
  kinds : ∀ b, H b = none ∨ b ∈ ts ∨ ∃ o xs, H b = some (.frz o (.lst xs))
  ok : HOk P w H z.heap
  sup : ∀ b, H b ≠ none → b = a ∨ b ∈ ts
  ka : H a ≠ none → K.lookup a = none
/-- what of the heap is not tracked -/
theorem Beg.free {P : Program} {w : World} {K : PySem.W.Frag} {ts : List Addr} {z : Shared} {a : Addr} {H : Hp} {vs : List Value} (B : Beg P w K ts z a H) (ha : z.heap.get? a = some { cls := .type "list", data := .seq vs.toArray }) (ht : ∀ t ∈ ts, z.heap.get? t = some { cls := .none, data := .fields #[] })
    {b : Addr} {o : Obj} (e : z.heap.get? b = some o) (n1 : ∀ us m, o.data ≠ .seq us m) (n2 : o.data ≠ .fields #[]) : H b = none := by
  refine Classical.byContradiction fun n => ?_
  rcases B.sup b n with rfl | m
  · have y := Option.some.inj (ha.symm.trans e)
    subst y
    exact n1 _ _ rfl
  · have y := Option.some.inj ((ht b m).symm.trans e)
    subst y
    exact n2 rfl
theorem law_callTG {P : Program} {w : World} {K : PySem.W.Frag} {mg mb : Str → Option Value} {CX : CXT} {k : Nat} {fa a : Addr} {cs : List (Addr × Addr)} {fd : FuncData} {x : Str} {sp : Sp} {z : Shared} {vs : List Value} {zs : List Int}
    (KX : K.In z.heap) (hG : z.heap.Ns mainGlobals mg) (hB : z.heap.Ns builtinsNs mb) (hbb : ∀ x : Str, x ≠ "__name__" → mb x = bootBuiltins x) (hlim : z.heap.NoLimit) (hgn : z.gens = #[])
    (tabs : ∀ p ∈ cs, z.heap.get? p.2 = some { cls := .none, data := .fields #[] } ∧ K.lookup p.2 = none ∧ PySem.W.CodeHd z.heap p.1 p.2)
    (bmain : ∃ (bm : Addr) (ob : Obj), mg "__builtins__" = some (.ref bm) ∧ bm ≠ builtinsNs ∧ z.heap.get? bm = some ob ∧ ob.cls = .type "module" ∧ ob.dict = some builtinsNs ∧ ob.data = .plain)
    (ha : z.heap.get? a = some { cls := .type "list", data := .seq vs.toArray }) (nums : IntsAre vs zs) (few : zs.length ≤ sizeLine) (room : Room k callerA)
    (F : ∀ base : Heap, K.In base → base.Ns mainGlobals mg → (∀ p ∈ cs, LamX.TabB base mg p.1 p.2) → RunG P w K mg base CX k fa fd [x] sp) (bind : ∀ (s : Shared) (u : Value), BindsTo s fd ⟨[u], []⟩ [(x, u)])
    (hsp : ∀ H : Hp, (∀ p ∈ cs, H p.2 = some (.tbl #[])) → SqL K H a (zs.map V.int) → sp [.ref a] H (fun v _ => v = .bl true) fun _ _ _ => False)
    (noX : ∀ H e s', CX [] H z (fun _ _ _ => False) e s' → False) :
    codeAny (model P w) callerA (.call (.ref fa) ⟨[.ref a], []⟩) (fun r s' => r = .ok (.ret (.bool true)) ∧ OldK z.heap s'.heap ∧ s'.os = z.os ∧ AllBare s'.gens) z := by
  have rel := vals_ints nums
  have lv := nums.length
  have ht : ∀ t ∈ cs.map (·.2), z.heap.get? t = some { cls := .none, data := .fields #[] } := fun t m => by
    obtain ⟨p, mp, rfl⟩ := List.mem_map.mp m
    exact (tabs p mp).1
  have inT : ∀ p ∈ cs, p.2 ∈ cs.map (·.2) := fun p hp => List.mem_map_of_mem hp
  have outA : a ∉ cs.map (·.2) := fun m => by
    have y : Data.seq vs.toArray _ = Data.fields #[] := congrArg Obj.data (Option.some.inj (ha.symm.trans (ht a m)))
    cases y
  -- by any such beginning
  have go : ∀ H : Hp, Beg P w K (cs.map (·.2)) z a H → SqL K H a (zs.map V.int) → codeAny (model P w) callerA (.call (.ref fa) ⟨[.ref a], []⟩) (fun r s' => r = .ok (.ret (.bool true)) ∧ OldK z.heap s'.heap ∧ s'.os = z.os ∧ AllBare s'.gens) z := by
    intro H B hS
    have keep : ∀ {b : Addr} {o : Obj}, z.heap.get? b = some o → (∀ us m, o.data ≠ .seq us m) → o.data ≠ .fields #[] → (hidT z.heap H).get? b = some o := fun e n1 n2 => hidT_get e (B.free ha ht e n1 n2)
    have names : ∀ {b : Addr} {m : Str → Option Value}, z.heap.Ns b m → (hidT z.heap H).Ns b m := fun {b m} h => by
      obtain ⟨o, es, ep, e, d, r⟩ := h
      exact ⟨o, es, ep, keep e (fun us n y => by rw [d] at y; cases y) (fun y => by rw [d] at y; cases y), d, r⟩
    have kin : K.In (hidT z.heap H) := fun b o e => by
      refine hidT_get (KX b o e) (Classical.byContradiction fun n => ?_)
      rcases B.sup b n with rfl | m
      · rw [B.ka n] at e
        cases e
      · obtain ⟨p, mp, rfl⟩ := List.mem_map.mp m
        rw [(tabs p mp).2.1] at e
        cases e
    have lim : (hidT z.heap H).NoLimit := by
      obtain ⟨mc, h1, h2⟩ := hlim
      exact ⟨mc, names h1, h2⟩
    have TB : ∀ p ∈ cs, LamX.TabB (hidT z.heap H) mg p.1 p.2 := fun p mp => by
      obtain ⟨tp, _, C⟩ := tabs p mp
      refine ⟨?_, ?_, fun y => ?_⟩
      · obtain ⟨o, us, fl, tf, gs, tg, inF, tx, tt, e1, r1, r2, r3, rest⟩ := C
        refine ⟨o, us, fl, tf, gs, tg, inF, tx, tt, keep e1 (fun us n y => by rw [r2] at y; cases y) (fun y => ?_), r1, r2, r3, rest⟩
        rw [r2] at y
        cases y
        simp at r3
      · obtain ⟨bm, ob, b1, b2, b3, b4, b5, b6⟩ := bmain
        refine ⟨bm, ob, b1, b2, fun y => ?_, fun y => ?_, keep b3 (fun us n y => by rw [b6] at y; cases y) (fun y => by rw [b6] at y; cases y), b4, b5, b6⟩
        · obtain ⟨o, es, ep, e, hd, _⟩ := hG
          rw [y] at b3
          have q := Option.some.inj (b3.symm.trans e)
          subst q
          rw [hd] at b6
          cases b6
        · rw [y] at b3
          have q := Option.some.inj (b3.symm.trans tp)
          subst q
          cases b6
      · obtain ⟨o, es, ep, e, hd, _⟩ := hG
        rw [y] at e
        have q := Option.some.inj (tp.symm.trans e)
        subst q
        cases hd
    have env : Env0 P w K mg (hidT z.heap H) callerA [] z H := ⟨rfl, ⟨kin, names hG, ⟨mb, names hB, hbb⟩, lim⟩, fun _ _ e => of_hidT e, Nat.le_of_eq (hidT_size _ _), trivial, fun b y => (List.not_mem_nil (show b ∈ ([] : List Addr) from y)).elim, B.ok, .of_eq hgn⟩
    have run := F _ kin (names hG) TB callerA [] z H ⟨[.ref a], []⟩ [.ref a] [.ref a] _ _ rfl room env (bind z (.ref a)) (.cons rfl .nil) (hsp H (fun p hp => B.tb _ (inT p hp)) hS)
    refine codeAny_mono run fun r y hy => ?_
    match r, hy with
    | .error e, hy => exact (noX H e y hy).elim
    | .ok .next, hy => exact hy.elim
    | .ok .brk, hy => exact hy.elim
    | .ok .cont, hy => exact hy.elim
    | .ok (.ret u), hy =>
      obtain ⟨v, G, os, bare, un, okG, rv, qv⟩ := hy
      obtain rfl : v = .bl true := qv
      obtain rfl : u = Value.bool true := rv
      have old : ∀ b o, b ∉ cs.map (·.2) → z.heap.get? b = some o → y.heap.get? b = some o := fun b o nb e => by
        rcases B.kinds b with h | h | ⟨ob, xs, h⟩
        · exact un.keep b o e h (fun m => (List.not_mem_nil (show b ∈ ([] : List Addr) from m)).elim) (by simp)
        · exact absurd h nb
        · have e1 := (B.ok b _ h).1
          have e2 := (okG b _ (un.frzs b ob _ h)).1
          rw [Option.some.inj (e.symm.trans e1)]
          exact e2
      have more : ∀ p ∈ cs, ∃ us : Array Value, y.heap.get? p.2 = some { cls := .none, data := .fields us } := fun p mp => by
        obtain ⟨us, h⟩ := un.tbls p.2 #[] (B.tb _ (inT p mp))
        exact ⟨_, okG p.2 _ h⟩
      refine ⟨rfl, ⟨fun b o e => ?_, fun b o e => ?_⟩, os, bare⟩
      · by_cases m : b ∈ cs.map (·.2)
        · have eb := Option.some.inj ((ht b m).symm.trans e)
          subst eb
          obtain ⟨p, mp, rfl⟩ := List.mem_map.mp m
          obtain ⟨us, hus⟩ := more p mp
          refine .inr (.inl ⟨((tabs p mp).2.2.tab (tabs p mp).1).isCodeTable, rfl, #[], us, rfl, ?_⟩)
          rw [Array.empty_append]
          exact hus
        · exact .inl (old b o m e)
      · by_cases m : b ∈ cs.map (·.2)
        · obtain ⟨p, mp, rfl⟩ := List.mem_map.mp m
          obtain ⟨us, hus⟩ := more p mp
          exact ⟨_, hus⟩
        · exact ⟨o, old b o m e⟩
  let T0 : Hp := fun b => if b ∈ cs.map (·.2) then some (.tbl #[]) else none
  have t0 : ∀ b, (b ∈ cs.map (·.2) ∧ T0 b = some (.tbl #[])) ∨ (b ∉ cs.map (·.2) ∧ T0 b = none) := fun b => by
    by_cases m : b ∈ cs.map (·.2)
    · exact .inl ⟨m, if_pos m⟩
    · exact .inr ⟨m, if_neg m⟩
  have okT : ∀ {b : Addr} {u : HO}, T0 b = some u → u = .tbl #[] ∧ z.heap.get? b = some { cls := .none, data := .fields #[] } := fun {b u} e => by
    rcases t0 b with ⟨m, h⟩ | ⟨_, h⟩
    · exact ⟨Option.some.inj (e.symm.trans h), ht b m⟩
    · rw [h] at e
      cases e
  cases hk : K.lookup a with
  | some o =>
    have eo := Option.some.inj (ha.symm.trans (KX a o hk))
    subst eo
    refine go T0 ⟨fun t m => if_pos m, fun b => ?_, fun b u e => ?_, fun b n => ?_, fun n => ?_⟩ (.inr ⟨_, vs.toArray, _, hk, rfl, rfl, rfl, by rw [List.size_toArray, lv]; exact few, by simpa using rel⟩)
    · exact (t0 b).elim (fun h => .inr (.inl h.1)) fun h => .inl h.2
    · obtain ⟨rfl, h⟩ := okT e
      exact h
    · exact (t0 b).elim (fun h => .inr h.1) fun h => absurd h.2 n
    · exact absurd (if_neg outA) n
  | none =>
    let T1 : Hp := upd T0 a (.frz { cls := .type "list", data := .seq vs.toArray } (.lst (zs.map V.int)))
    have e1 : T1 a = some (.frz { cls := .type "list", data := .seq vs.toArray } (.lst (zs.map V.int))) := upd_same
    have e2 : ∀ {b : Addr}, b ≠ a → T1 b = T0 b := fun n => upd_ne n
    refine go T1 ⟨fun t m => ?_, fun b => ?_, fun b u e => ?_, fun b n => ?_, fun _ => hk⟩ (.inl (.inr ⟨_, e1⟩))
    · rw [e2 (fun y => outA (y ▸ m))]
      exact if_pos m
    · by_cases y : b = a
      · exact .inr (.inr ⟨_, _, y ▸ e1⟩)
      · rw [e2 y]
        exact (t0 b).elim (fun h => .inr (.inl h.1)) fun h => .inl h.2
    · by_cases y : b = a
      · subst y
        have q := Option.some.inj (e1.symm.trans e)
        subst q
        exact ⟨ha, by rw [List.length_map]; exact few, vs, _, rel, ha⟩
      · rw [e2 y] at e
        obtain ⟨rfl, h⟩ := okT e
        exact h
    · by_cases y : b = a
      · exact .inl y
      · rw [e2 y] at n
        exact (t0 b).elim (fun h => .inr h.1) fun h => absurd h.2 n
/-- what is known of the law at the head's heap -/
def LawG (l : PySem.W.OpenLaw) (w : World) (K : PySem.W.Frag) (CX : CXT) (k n : Nat) (x : Str) (mg : Str → Option Value) (fa : Addr) (h : Heap) : Prop :=
  ∃ (fd : FuncData) (cs : List (Addr × Addr)) (sp : Sp), (∀ p ∈ cs, h.get? p.2 = some { cls := .none, data := .fields #[] } ∧ K.lookup p.2 = none ∧ PySem.W.CodeHd h p.1 p.2) ∧ (∀ (s : Shared) (u : Value), BindsTo s fd ⟨[u], []⟩ [(x, u)]) ∧
    (∀ (H : Hp) (a : Addr) (zs : List Int), zs.length ≤ n → (∀ p ∈ cs, H p.2 = some (.tbl #[])) → SqL K H a (zs.map V.int) → sp [.ref a] H (fun v _ => v = .bl true) fun _ _ _ => False) ∧
    ∀ base : Heap, K.In base → base.Ns mainGlobals mg → (∀ p ∈ cs, LamX.TabB base mg p.1 p.2) → RunG l.prog w K mg base CX k fa fd [x] sp
theorem walk_ofTG {l : PySem.W.OpenLaw} {n k : Nat} {q : Program} {loose : List Str} {XP : (Str → Option Value) → Heap → Prop} {YP : World → Heap → Prop} {d : DefRec} {x : Str}
    (hn : l.most = some n) (hn2 : n ≤ sizeLine) (hdf : d.params.defaults = []) (room : Room k callerA)
    (F : ∀ (w : World) (mg : Str → Option Value) (fa : Addr) (h : Heap), YP w h → h.Ns mainGlobals mg → mg d.name = some (.ref fa) → ∃ K : PySem.W.Frag, K.In h ∧ LawG l w K CX0 k n x mg fa h) :
    PySem.W.WalkO q loose XP YP l.row.toRowW d [] (fun f vs => PySem.call f vs) := by
  refine Att.attach_callB hn hdf fun w s₀ z mg mb fa o pm cd doc a vs zs G Y ho hd hcd hmg hobj nums few bits hgn => ?_
  obtain ⟨K, KX, fd, cs, sp, tabs, hb, hsp, hF⟩ := F w mg fa _ Y G.T.g hmg
  refine law_callTG KX G.T.g G.T.b G.T.builtins G.T.nolimit hgn tabs G.T.bmain hobj nums (Nat.le_trans few hn2) room hF hb ?_ (fun _ _ _ y => y)
  exact fun H hT hS => hsp H a zs few hT hS
end Sq

set_option Elab.async false
set_option linter.all false
set_option maxRecDepth 100000
set_option maxHeartbeats 4000000
/-! What repr shows, in few signs. -/
namespace Sq
open PySem PySem.Spec PyProof.Rows L2
/-- d is shown in n signs at most, nested m deep at most -/
structure Sh (m n : Nat) (d : PyData) : Prop where
  sh : d.showable = true
  nd : d.hasDict = false
  dp : d.depth ≤ m
  ln : d.shown.length ≤ n
theorem Sh.mono {m n m' n' : Nat} {d : PyData} (h : Sh m n d) (hm : m ≤ m') (hn : n ≤ n') : Sh m' n' d := ⟨h.sh, h.nd, Nat.le_trans h.dp hm, Nat.le_trans h.ln hn⟩
theorem sh_int {i : Int} (h : i.natAbs < 10 ^ 40) : Sh 0 41 (.int i) := by
  refine ⟨?_, by simp only [PyData.hasDict], by simp only [PyData.depth]; omega, ?_⟩
  · simp only [PyData.showable, decide_eq_true_eq]
    by_cases h0 : i.natAbs = 0
    · rw [h0]
      decide
    · rw [Nat.log2_lt h0]
      exact Nat.lt_trans h (by decide)
  · show (Str.ofString (toString i)).length ≤ 41
    rw [PySem.ofString_length]
    exact int_text_length_le10 (k := 40) (by decide) h
theorem sh_all {m n : Nat} : ∀ (ds : List PyData), (∀ d ∈ ds, Sh m n d) → PyData.showableAll ds = true ∧ PyData.hasDictAll ds = false ∧ PyData.depthAll ds ≤ m ∧ ((PyData.shownAll ds).map (·.length)).sum ≤ n * ds.length ∧ (PyData.shownAll ds).length = ds.length
  | [], _ => by
    simp only [PyData.showableAll, PyData.hasDictAll, PyData.depthAll, PyData.shownAll]
    exact ⟨trivial, trivial, Nat.zero_le _, by simp, rfl⟩
  | d :: ds, h => by
    obtain ⟨a1, a2, a3, a4, a5⟩ := sh_all ds fun e he => h e (List.mem_cons_of_mem _ he)
    obtain ⟨b1, b2, b3, b4⟩ := h d List.mem_cons_self
    simp only [PyData.showableAll, PyData.hasDictAll, PyData.depthAll, PyData.shownAll, List.length_cons, List.map_cons, List.sum_cons]
    refine ⟨by rw [a1, b1]; rfl, by rw [a2, b2]; rfl, by omega, ?_, by rw [a5]⟩
    rw [Nat.mul_add, Nat.mul_one]
    omega
theorem sh_tuple {m n k : Nat} {ds : List PyData} (h : ∀ d ∈ ds, Sh m n d) (hk : ds.length ≤ k) : Sh (m + 1) (n * k + 2 * k + 3) (.tuple ds) := by
  obtain ⟨a1, a2, a3, a4, a5⟩ := sh_all ds h
  refine ⟨by simp only [PyData.showable]; exact a1, by simp only [PyData.hasDict]; exact a2, by simp only [PyData.depth]; omega, ?_⟩
  simp only [PyData.shown]
  have t := tupleText_len_le (PyData.shownAll ds)
  have nk : n * ds.length ≤ n * k := Nat.mul_le_mul_left n hk
  omega
theorem sh_list {m n k : Nat} {ds : List PyData} (h : ∀ d ∈ ds, Sh m n d) (hk : ds.length ≤ k) : Sh (m + 1) (n * k + 2 * k + 3) (.list ds) := by
  obtain ⟨a1, a2, a3, a4, a5⟩ := sh_all ds h
  refine ⟨by simp only [PyData.showable]; exact a1, by simp only [PyData.hasDict]; exact a2, by simp only [PyData.depth]; omega, ?_⟩
  simp only [PyData.shown]
  have t := listText_len_le (PyData.shownAll ds)
  have nk : n * ds.length ≤ n * k := Nat.mul_le_mul_left n hk
  omega
theorem sh_bool (b : Bool) : Sh 0 5 (.bool b) := by
  cases b <;> exact ⟨rfl, rfl, Nat.le_refl _, by decide⟩
/-- repr(t), told by its data -/
theorem repr_sh {K : PySem.W.Frag} {a : Addr} {d : PyData} {H : Hp} {Q : VK} {m n : Nat} (h : Dp K H (.ref a) d) (s : Sh m n d) (q : Q (.str d.shown) H) (hm : m ≤ 50 := by decide) (hn : n ≤ 16777216 := by decide) : rReprD K [.ref a] H Q :=
  ⟨a, d, rfl, h, s.sh, s.nd, Nat.le_trans s.dp hm, by rw [sizeLine_eq]; exact Nat.le_trans s.ln hn, q⟩
theorem Sh.d50 {m n : Nat} {d : PyData} (s : Sh m n d) (hm : m ≤ 50 := by decide) : d.depth ≤ 50 := Nat.le_trans s.dp hm
theorem Sh.fits {m n : Nat} {d : PyData} (s : Sh m n d) (hn : n ≤ 16777216 := by decide) : d.shown.length ≤ sizeLine := by
  rw [sizeLine_eq]
  exact Nat.le_trans s.ln hn
/-- coordinates that are not great -/
def Small (c : Cell) : Prop := c.1.natAbs < 10 ^ 40 ∧ c.2.natAbs < 10 ^ 40
end Sq

set_option Elab.async false
set_option linter.all false
set_option maxRecDepth 100000
set_option maxHeartbeats 4000000
/-! What a move is, as mathematics. -/
namespace Sq
open PySem PySem.Spec PyProof.Rows L2
theorem abs_one {i : Int} : absI i = 1 ↔ i = 1 ∨ i = -1 := by
  unfold absI
  split <;> omega
theorem abs_zero {i : Int} : absI i = 0 ↔ i = 0 := by
  unfold absI
  split <;> omega
theorem abs_nn (i : Int) : 0 ≤ absI i := by
  unfold absI
  split <;> omega
/-- what lies behind a kind -/
structure IsMv (L : List Cell) (s e : Cell) : Prop where
  sL : s ∈ L
  eL : e ∉ L
  ar : e ∈ aroundC s
  near : ∃ a ∈ without L s, e ∈ besideC a
theorem around_iff {s e : Cell} : e ∈ aroundC s ↔ (e.1 - s.1 = -1 ∨ e.1 - s.1 = 0 ∨ e.1 - s.1 = 1) ∧ (e.2 - s.2 = -1 ∨ e.2 - s.2 = 0 ∨ e.2 - s.2 = 1) ∧ ¬ (e.1 = s.1 ∧ e.2 = s.2) := by
  obtain ⟨e1, e2⟩ := e
  obtain ⟨s1, s2⟩ := s
  simp only [aroundC, List.mem_cons, List.not_mem_nil, or_false, Prod.mk.injEq]
  omega
theorem byPlace_is {L : List Cell} {s e : Cell} (h : byPlace L s e ≠ .non) : IsMv L s e := by
  obtain ⟨sL, eL⟩ := byPlace_mem h
  have key : e ∈ aroundC s ∧ ∃ a ∈ without L s, e ∈ besideC a := by
    unfold byPlace at h
    rw [if_neg (by simp [sL, eL])] at h
    obtain ⟨e1, e2⟩ := e
    obtain ⟨s1, s2⟩ := s
    by_cases c1 : absI (e1 - s1) + absI (e2 - s2) = 1
    · rw [if_pos c1] at h
      have hs : slidesB L (s1, s2) (e1, e2) = true := by
        refine Classical.byContradiction fun n => h ?_
        rw [if_neg n]
      have n1 := abs_nn (e1 - s1)
      have n2 := abs_nn (e2 - s2)
      have cs : (e1 - s1 = 0 ∧ (e2 - s2 = 1 ∨ e2 - s2 = -1)) ∨ ((e1 - s1 = 1 ∨ e1 - s1 = -1) ∧ e2 - s2 = 0) := by
        by_cases z : absI (e1 - s1) = 0
        · exact .inl ⟨abs_zero.mp z, abs_one.mp (by omega)⟩
        · exact .inr ⟨abs_one.mp (by omega), abs_zero.mp (by omega)⟩
      refine ⟨around_iff.mpr ⟨?_, ?_, ?_⟩, ?_⟩
      · simp only
        omega
      · simp only
        omega
      · simp only
        omega
      · unfold slidesB sideB at hs
        simp only [Bool.or_eq_true, Bool.and_eq_true, decide_eq_true_eq] at hs
        rcases hs with ⟨_, hm⟩ | ⟨_, hm⟩
        · refine ⟨_, mem_without.mpr ⟨hm, fun z => ?_⟩, bes (by omega)⟩
          obtain ⟨z1, z2⟩ := Prod.mk.inj z
          omega
        · refine ⟨_, mem_without.mpr ⟨hm, fun z => ?_⟩, bes (by omega)⟩
          obtain ⟨z1, z2⟩ := Prod.mk.inj z
          omega
    · rw [if_neg c1] at h
      by_cases c2 : absI (e1 - s1) = 1 ∧ absI (e2 - s2) = 1
      · rw [if_pos c2] at h
        have hs : turnsB L (s1, s2) (e1, e2) = true := by
          refine Classical.byContradiction fun n => h ?_
          rw [if_neg n]
        have d1 := abs_one.mp c2.1
        have d2 := abs_one.mp c2.2
        refine ⟨around_iff.mpr ⟨?_, ?_, ?_⟩, ?_⟩
        · simp only
          omega
        · simp only
          omega
        · simp only
          omega
        · have hm : (s1, e2) ∈ L ∨ (e1, s2) ∈ L := by
            unfold turnsB at hs
            by_cases m : (s1, e2) ∈ L
            · exact .inl m
            · by_cases m2 : (e1, s2) ∈ L
              · exact .inr m2
              · simp [m, m2] at hs
          rcases hm with hm | hm
          · refine ⟨_, mem_without.mpr ⟨hm, fun z => ?_⟩, bes (by omega)⟩
            obtain ⟨z1, z2⟩ := Prod.mk.inj z
            omega
          · refine ⟨_, mem_without.mpr ⟨hm, fun z => ?_⟩, bes (by omega)⟩
            obtain ⟨z1, z2⟩ := Prod.mk.inj z
            omega
      · rw [if_neg c2] at h
        exact absurd rfl h
  exact ⟨sL, eL, key.1, key.2⟩
theorem kind_ne {L : List Cell} {s e : Cell} : kindV L s e ≠ .non ↔ byPlace L s e ≠ .non ∧ hangsB (without L s) = true := by
  unfold kindV
  constructor
  · intro h
    refine ⟨fun z => h (by rw [if_pos (.inl z)]), ?_⟩
    refine Classical.byContradiction fun n => h ?_
    rw [if_pos (.inr (Bool.eq_false_iff.mpr n))]
  · rintro ⟨h1, h2⟩
    rw [if_neg (fun z => z.elim h1 fun y => by rw [h2] at y; cases y)]
    exact h1
/-- just the pairs with a kind are moves -/
theorem moves_kind {L : List Cell} {s e : Cell} : (s, e) ∈ movesC L (L.filter fun c => hangsB (without L c)) ↔ kindV L s e ≠ .non := by
  rw [mem_moves, kind_ne]
  constructor
  · exact fun h => ⟨h.2.2.2, h.2.2.1⟩
  · intro h
    have m := byPlace_is h.1
    exact ⟨m.sL, m.ar, h.2, h.1⟩
/-- behind a move the body hangs together, and has as many squares -/
theorem behind {L cs : List Cell} {s e : Cell} (nL : L.Nodup) (h : kindV L s e ≠ .non) (pm : cs.Perm (without L s ++ [e])) : Hangs cs ∧ cs.Nodup ∧ cs.length = L.length := by
  obtain ⟨h1, h2⟩ := kind_ne.mp h
  obtain ⟨sL, eL, ar, a, ha, hb⟩ := byPlace_is h1
  have hh : Hangs (without L s ++ [e]) := hangs_snoc (hangsB_iff.mp h2) ha hb
  have nd : (without L s ++ [e]).Nodup := List.nodup_append.mpr ⟨nL.sublist List.filter_sublist, by simp, fun a ha b hb => by
    rw [List.mem_singleton.mp hb]
    exact fun z => eL (z ▸ (mem_without.mp ha).1)⟩
  refine ⟨(hangs_perm fun x => pm.mem_iff).mpr hh, pm.nodup_iff.mpr nd, ?_⟩
  rw [pm.length_eq, List.length_append]
  have l1 : (without L s).length + 1 = L.length := by
    have p1 : L.Perm (s :: without L s) := by
      refine (List.perm_ext_iff_of_nodup nL (List.nodup_cons.mpr ⟨fun m => (mem_without.mp m).2 rfl, nL.sublist List.filter_sublist⟩)).mpr fun x => ?_
      rw [List.mem_cons, mem_without]
      by_cases z : x = s
      · subst z
        simp [sL]
      · simp [z]
    have := p1.length_eq
    rw [List.length_cons] at this
    omega
  exact l1
theorem body_small {L : List Cell} (hL : Hangs L) (n0 : Near0 L) (l : L.length ≤ 1000) : ∀ c ∈ L, c.1.natAbs < 6000000000000000 ∧ c.2.natAbs < 6000000000000000 := fun c hc => by
  obtain ⟨b, hb, b1, b2, b3, b4⟩ := n0
  obtain ⟨s1, s2, s3, s4⟩ := span hL hb hc
  omega
theorem sh_cell {c : Cell} (h : c.1.natAbs < 10 ^ 40 ∧ c.2.natAbs < 10 ^ 40) : Sh 1 89 (cD c) := sh_tuple (m := 0) (n := 41) (k := 2) (fun d hd => by
  simp only [List.mem_cons, List.not_mem_nil, or_false] at hd
  rcases hd with rfl | rfl
  · exact sh_int h.1
  · exact sh_int h.2) (Nat.le_refl 2)
theorem sh_pair {m : CellP} (h1 : m.1.1.natAbs < 10 ^ 40 ∧ m.1.2.natAbs < 10 ^ 40) (h2 : m.2.1.natAbs < 10 ^ 40 ∧ m.2.2.natAbs < 10 ^ 40) : Sh 2 185 (pD m) := sh_tuple (m := 1) (n := 89) (k := 2) (fun d hd => by
  simp only [List.mem_cons, List.not_mem_nil, or_false] at hd
  rcases hd with rfl | rfl
  · exact sh_cell h1
  · exact sh_cell h2) (Nat.le_refl 2)
theorem KT.pen {Ts : List Addr} {H G : Hp} {p : Addr} {n : Nat} (k : KT Ts H G) (h : PenAt H p n) : PenAt G p n := by
  obtain ⟨c, zs, i, dg, fo, e1, e2, r⟩ := h.ex
  exact ⟨⟨c, zs, i, dg, fo, k.get e1 (fun _ z => nomatch z), k.get e2 (fun _ z => nomatch z), r⟩⟩
theorem moves_len (L : List Cell) : ∀ F : List Cell, (movesC L F).length ≤ 8 * F.length
  | [] => Nat.le_refl _
  | c :: F => by
    have ih := moves_len L F
    have e : movesC L (c :: F) = ((endsC L c).map fun e => (c, e)) ++ movesC L F := rfl
    have l8 : (endsC L c).length ≤ 8 := Nat.le_trans (List.length_filter_le ..) (Nat.le_refl 8)
    rw [e, List.length_append, List.length_map, List.length_cons]
    omega
theorem around_small {s e : Cell} (h : e ∈ aroundC s) (hs : s.1.natAbs < 6000000000000000 ∧ s.2.natAbs < 6000000000000000) : e.1.natAbs < 10 ^ 40 ∧ e.2.natAbs < 10 ^ 40 := by
  have := around_iff.mp h
  omega
theorem small40 {s : Cell} (hs : s.1.natAbs < 6000000000000000 ∧ s.2.natAbs < 6000000000000000) : s.1.natAbs < 10 ^ 40 ∧ s.2.natAbs < 10 ^ 40 := by omega
theorem sh_moves {L : List Cell} (sm : ∀ c ∈ L, c.1.natAbs < 6000000000000000 ∧ c.2.natAbs < 6000000000000000) (l : L.length ≤ 1000) : Sh 3 1496003 (.tuple ((movesC L (L.filter fun c => hangsB (without L c))).map pD)) := by
  refine sh_tuple (m := 2) (n := 185) (k := 8000) (fun d hd => ?_) ?_
  · obtain ⟨⟨s, e⟩, hm, rfl⟩ := List.mem_map.mp hd
    have := mem_moves.mp hm
    exact sh_pair (small40 (sm s this.1)) (around_small this.2.1 (sm s this.1))
  · have := moves_len L (L.filter fun c => hangsB (without L c))
    have := List.length_filter_le (fun c => hangsB (without L c)) L
    rw [List.length_map]
    omega
theorem sh_cells {cs : List Cell} (sm : ∀ c ∈ cs, c.1.natAbs < 10 ^ 40 ∧ c.2.natAbs < 10 ^ 40) (l : cs.length ≤ 1000) : Sh 2 91003 (.tuple (cs.map cD)) := by
  refine sh_tuple (m := 1) (n := 89) (k := 1000) (fun d hd => ?_) (by rw [List.length_map]; exact l)
  obtain ⟨c, hc, rfl⟩ := List.mem_map.mp hd
  exact sh_cell (sm c hc)
theorem call_reprK {X : Cx} {K : PySem.W.Frag} {k : Nat} (h : X.K = K) (hg : X.A.guards = some []) (hr : Room k X.A) : CallR X (.builtin "repr") (rReprD K) := h ▸ call_reprD hg hr
theorem kind_scal {L : List Cell} {s e : Cell} : scal (kindV L s e) (kindV L s e) = true := by
  unfold kindV
  split
  · rfl
  · rcases byPlace_cases L s e with h | h | h <;> rw [h] <;> rfl
theorem notN_kind {L : List Cell} {s e : Cell} : (!decide (kindV L s e = .non)) = decide ((s, e) ∈ movesC L (L.filter fun c => hangsB (without L c))) := by
  rw [Bool.eq_iff_iff, decide_eq_true_iff, moves_kind]
  simp
theorem asc_uniq {A B M : List Cell} (ha : A.Perm M) (hb : B.Perm M) (sa : Asc A) (sb : Asc B) : A = B :=
  List.Perm.eq_of_pairwise (le := fun x y => cLt y x = false) (fun x y _ _ h k => cLt_tri k h) sa sb (ha.trans hb.symm)
theorem PairAt.ek {H G : Hp} {p : Addr} {m : CellP} (h : PairAt H p m) (k : Ek H G) : PairAt G p m := by
  obtain ⟨x, y, e, ax, ay⟩ := h
  exact ⟨x, y, k.tup e, k.at ax, k.at ay⟩
theorem PairsT.ek {H G : Hp} {t : Addr} {ms : List CellP} (h : PairsT H t ms) (k : Ek H G) : PairsT G t ms := by
  obtain ⟨ps, e, pr⟩ := h
  exact ⟨ps, k.tup e, paired_imp (fun _ _ a => PairAt.ek a k) pr⟩
theorem PairsL.ek {H G : Hp} {t : Addr} {ms : List CellP} (h : PairsL H t ms) (k : Ek H G) : PairsL G t ms := by
  obtain ⟨ps, e, pr⟩ := h
  exact ⟨ps, k.lst e, paired_imp (fun _ _ a => PairAt.ek a k) pr⟩
theorem ne_same {v : V} (h : scal v v = true) {H : Hp} {Q : VK} (q : Q (.bl false) H) : rNe v v H Q := ⟨h, by rw [decide_eq_true rfl]; exact q⟩
theorem ne_eq {i j : Int} (h : i = j) {H : Hp} {Q : VK} (q : Q (.bl false) H) : rNe (.int i) (.int j) H Q := by
  subst h
  exact ne_same rfl q
end Sq

set_option Elab.async false
set_option linter.all false
set_option maxRecDepth 100000
set_option maxHeartbeats 4000000
/-! is_move_in: whether a pair of a plan is a move. -/
namespace Sq
open PySem PySem.Spec PyProof.Rows L2
/-- a value: a cell, or none -/
def CellO (K : PySem.W.Frag) (H : Hp) (x : V) : Option Cell → Prop
  | none => CellQ K H x false
  | some c => ∃ p, x = .ref p ∧ At H p c
theorem CellO.ek {K : PySem.W.Frag} {H G : Hp} {x : V} {o : Option Cell} (h : CellO K H x o) (k : Ek H G) : CellO K G x o := by
  cases o with
  | none => exact CellQ.ek (show CellQ K H x false from h) k
  | some c =>
    obtain ⟨p, e, a⟩ := h
    exact ⟨p, e, k.at a⟩
/-- what is_cell says of it -/
theorem CellO.q {K : PySem.W.Frag} {H : Hp} {x : V} {o : Option Cell} (h : CellO K H x o) : CellQ K H x o.isSome := by
  cases o with
  | none => exact h
  | some c =>
    obtain ⟨p, rfl, a⟩ := h
    exact .cell a
abbrev MvO := Option Cell × Option Cell
/-- a pair of a plan -/
def MvAt (K : PySem.W.Frag) (H : Hp) (q : Addr) (m : MvO) : Prop := ∃ x y, H q = some (.tup [x, y]) ∧ CellO K H x m.1 ∧ CellO K H y m.2
theorem MvAt.ek {K : PySem.W.Frag} {H G : Hp} {q : Addr} {m : MvO} (h : MvAt K H q m) (k : Ek H G) : MvAt K G q m := by
  obtain ⟨x, y, e, a, b⟩ := h
  exact ⟨x, y, k.tup e, a.ek k, b.ek k⟩
/-- whether it is a move -/
noncomputable def moveB (L : List Cell) : MvO → Bool
  | (some a, some b) => !decide (kindV L a b = .non)
  | _ => false
def spMoveIn (K : PySem.W.Frag) (Ts : List Addr) : Sp := fun vs H Q _ => ∃ (d q : Addr) (L : List Cell) (m : MvO), vs = [.ref d, .ref q] ∧ H d = some (.dT (lotK L)) ∧ L.Nodup ∧ L.length ≤ 1000 ∧ Hangs L ∧ MvAt K H q m ∧ TabsG Ts H ∧ ∀ H', KT Ts H H' → Q (.bl (moveB L m)) H'
section
variable {P : Program} {w : World} {K : PySem.W.Frag} {mg : Str → Option Value} {base : Heap} {Ts : List Addr}
end
end Sq

set_option Elab.async false
set_option linter.all false
set_option maxRecDepth 100000
set_option maxHeartbeats 4000000
/-! enumerate over a tuple. -/
namespace Sq
open PySem PySem.Spec PyProof.Rows L2
/-- the items of the tuple at a with their numbers, in new pairs -/
def ItU (a : Addr) (xs : List V) : It :=
  ⟨fun i H => H a = some (.tup xs) ∧ i < xs.length, fun i H v H' => ∃ (t : Addr) (x : V), xs[i]? = some x ∧ v = .ref t ∧ H t = none ∧ H' = upd H t (.tup [.int (i : Nat), x]), fun i H => H a = some (.tup xs) ∧ xs.length ≤ i⟩
theorem turn_enumU {P : Program} {w : World} {K : PySem.W.Frag} {a e it : Addr} {xs : List V} {elts : List Expr} {kk : Nat} {tpos : Pos} :
    Turn P w K (.Tuple elts kk tpos) (ItU a xs) [e, it] e (fun i h => (∃ old, IsEnum h e it ((i : Nat) : Int) old) ∧ h.IsTupleIter it a i ∧ e ≠ it ∧ i ≤ xs.length) where
  mem := List.mem_cons_self ..
  obj := fun i h st b hb => by
    obtain ⟨⟨old, he⟩, ⟨oi, ei, ci, di⟩, _⟩ := st
    rcases List.mem_cons.mp hb with z | z
    · exact z ▸ ⟨_, he, fun v q => nomatch q⟩
    · refine List.mem_singleton.mp z ▸ ⟨oi, ei, fun v q => ?_⟩
      rw [di] at q
      cases q
  keep := fun i h h' st k => by
    obtain ⟨⟨old, he⟩, hi, ne, le⟩ := st
    exact ⟨⟨old, k e (List.mem_cons_self ..) _ he⟩, hi.at fun u q => k it (List.mem_cons_of_mem _ (List.mem_cons_self ..)) u q, ne, le⟩
  item := by
    intro X eP ew eK calm i pins s σ H E I free st go
    subst eP ew eK
    obtain ⟨hd, hi⟩ := go
    obtain ⟨its, rv, p, hz⟩ := I.tuple (SqT.of hd)
    have raw : s.heap.IsTuple a its.toArray := p
    obtain ⟨x, hx⟩ : ∃ x, xs[i]? = some x := ⟨_, List.getElem?_eq_getElem hi⟩
    obtain ⟨u, hu, ru⟩ := rv.get hx
    have hl := rv.length
    obtain ⟨⟨old, he⟩, here, ne, _⟩ := st
    have out : ∀ b ∈ [e, it], b ≠ a := fun b hb z => by
      have n := (free b hb).1
      rw [z, hd] at n
      cases n
    have ned : e ≠ a := out e (List.mem_cons_self ..)
    have nid : it ≠ a := out it (List.mem_cons_of_mem _ (List.mem_cons_self ..))
    have le : e < s.heap.objs.size := Heap.lt_size he
    have li : it < s.heap.objs.size := by
      obtain ⟨_, z, _⟩ := here
      exact Heap.lt_size z
    refine wpAny_pyNext_enum_itemC (Draws.tuple (A := X.A.in1) (I.ok.hd calm) it a (Ne.symm nid) its.toArray) he ⟨here, raw⟩ (by simp; omega) ne (by simp [ne, ned]) fun y h1 tk hP eo st1 tup _ old1 => ?_
    have ey : y = u := by
      have z : its.toArray[i]? = some u := by simpa using hu
      exact Option.some.inj (hP.symm.trans z)
    subst ey
    refine ⟨_, rfl, wpAny_letOwnedTupleGo_enum (s := { s with heap := h1, toks := tk + 1 }) eo fun h2 en sb => ?_⟩
    have tup2 : h2.get? s.heap.objs.size = some { cls := .type "tuple", data := .seq #[.int (i : Nat) tk, y] } := (sb.2 _ (Nat.ne_of_gt le)).trans tup
    have fresh : ObjOk X.prog X.w (upd H s.heap.objs.size (.tup [.int (i : Nat), x])) h2 s.heap.objs.size (.tup [.int (i : Nat), x]) :=
      ⟨by show 2 ≤ sizeLine; decide, [.int (i : Nat) tk, y], .cons ⟨_, rfl⟩ (.cons ru .nil), ⟨_, tup2, rfl, _, rfl⟩⟩
    have nb : ∀ {b : Addr}, b ∉ [e, it] → b ≠ e ∧ b ≠ it := fun {b} h => ⟨fun z => h (z ▸ List.mem_cons_self ..), fun z => h (z ▸ List.mem_cons_of_mem _ (List.mem_cons_self ..))⟩
    have J : Inv X pins σ (upd H s.heap.objs.size (.tup [.int (i : Nat), x])) { s with heap := h2, toks := tk + 1 } :=
      I.turnedNew (t' := tk + 1) (ch := [e, it]) (fun b u hb x => (sb.2 b (nb hb).1).trans (old1 b u (nb hb).1 (nb hb).2 x)) free (Nat.le_refl _) fresh
    have e1 : ((i + 1 : Nat) : Int) = (i : Int) + 1 := by omega
    refine ⟨.ref s.heap.objs.size, _, J, rfl, ⟨_, x, hx, rfl, I.hok.fresh (Nat.le_refl _), rfl⟩, ⟨⟨y, ?_⟩, st1.1.at fun u z => (sb.2 it (Ne.symm ne)).trans z, ne, hi⟩, fun b hb => ?_⟩
    · rw [e1]
      exact en
    · have lb : b < s.heap.objs.size := by
        rcases List.mem_cons.mp hb with z | z
        · rw [z]; exact le
        · rw [List.mem_singleton.mp z]; exact li
      rw [upd_ne (Nat.ne_of_lt lb)]
      exact (free b hb).1
  done := by
    intro X eP ew eK calm i pins s σ H E I free st stop
    subst eP ew eK
    obtain ⟨hd, hi⟩ := stop
    obtain ⟨its, rv, p, hz⟩ := I.tuple (SqT.of hd)
    have raw : s.heap.IsTuple a its.toArray := p
    have hl := rv.length
    obtain ⟨⟨old, he⟩, here, ne, le⟩ := st
    obtain ⟨f0, f1, f2, f3, f4, f5⟩ := free it (List.mem_cons_of_mem _ (List.mem_cons_self ..))
    have nid : it ≠ a := fun z => by
      rw [z, hd] at f0
      cases f0
    have ei : i = its.toArray.size := by
      rw [List.size_toArray]
      omega
    subst ei
    exact wpAny_pyNext_enum_endD (Draws.tuple (A := X.A.in1) (I.ok.hd calm) it a (Ne.symm nid) its.toArray) he ⟨here, raw⟩ fun h2 eb => ⟨rfl, I.turned (t' := s.toks) (fun b u hb z => eb b u hb z) f0 f1 f3 f4 f5⟩
  self := fun A i s Q E st h => by
    obtain ⟨⟨_, he⟩, _⟩ := st
    exact wpAny_pyIter_enum he h
/-- enumerate(t), t a tuple of the run -/
def iEnumU (ta : TA) : TI := fun σ H R => ta σ H fun vs H1 => ∃ a xs, vs = [.ref a] ∧ H1 a = some (.tup xs) ∧ R (ItU a xs) H1
theorem pi_enumU {X : Cx} {e : Expr} {ta : TA} {p pos tpos : Pos} {elts : List Expr} {kk : Nat} (hg : Gl X "enumerate") (hm : X.mg "enumerate" = none) (ha : PA X [e] ta) (hs : starEach [e] X.env = [(false, eval e X.env)] := by rfl) :
    PI X (.Tuple elts kk tpos) (.Call (.Name "enumerate" p) [e] [] pos) (iEnumU ta) := by
  refine ⟨fun pins s σ H R I asked => ?_⟩
  refine Call_ (ld_blt I hg hm boot_enumerate (PyProof.Rows.callWith_type1 (thn (ha.run pos pins s σ H _ I asked) fun us s1 ⟨vs, H1, I1, r1, a, xs, ex, hd, q⟩ => ?_) hs rfl))
  subst ex
  cases r1 with
  | cons r rr =>
    cases rr
    cases r
    obtain ⟨its, rv, p, hz⟩ := I1.tuple (SqT.of hd)
    have raw : s1.heap.IsTuple a its.toArray := p
    refine call_enumD (begins_tuple a its.toArray) raw fun h' he hit old => wpAny_pyIter_enum he ?_
    have I2 : Inv X pins σ H1 { s1 with heap := h' } := I1.kept (t' := s1.toks) old
    refine ⟨s1.heap.objs.size + 1, [s1.heap.objs.size + 1, s1.heap.objs.size], _, _, H1, rfl, I2, turn_enumU, ⟨⟨.none, he⟩, ⟨_, hit, rfl, rfl⟩, Nat.succ_ne_self _, Nat.zero_le _⟩, fun b hb => ?_, q⟩
    have le : s1.heap.objs.size ≤ b := by
      rcases List.mem_cons.mp hb with z | z
      · rw [z]; exact Nat.le_add_right _ _
      · rw [List.mem_singleton.mp z]; exact Nat.le_refl _
    exact I1.fpOk le (I1.hok.fresh le)
/-- a new pair of i and the i-th of xs -/
def YEn (xs : List V) : Nat → Hp → V → Hp → Prop := fun i H v H' => ∃ (t : Addr) (x : V), xs[i]? = some x ∧ v = .ref t ∧ H t = none ∧ H' = upd H t (.tup [.int (i : Nat), x])
theorem walk_enumU {a : Addr} {xs : List V} : Walk (ItU a xs) xs.length (fun H => H a = some (.tup xs)) (YEn xs) :=
  ⟨fun i H hi h => ⟨h, hi⟩, fun H h => ⟨h, Nat.le_refl _⟩, fun i H x H' hi h y => y⟩
theorem walk_enumL {K : PySem.W.Frag} {a : Addr} {xs : List V} : Walk (Ite K a) xs.length (fun H => SqL K H a xs) (YEn xs) :=
  ⟨fun i H hi h => ⟨xs, xs[i], h, List.getElem?_eq_getElem hi⟩, fun H h => ⟨xs, h, Nat.le_refl _⟩, fun i H v H' hi h y => by
    obtain ⟨t, x, e1, e2, e3, e4⟩ := y
    exact ⟨t, x, e4 xs h, e1, e2, e3⟩⟩
end Sq

set_option Elab.async false
set_option linter.all false
set_option maxRecDepth 100000
set_option maxHeartbeats 4000000
/-! first_wrong. -/
namespace Sq
open PySem PySem.Spec PyProof.Rows L2
/-- the lot behind a pair -/
def stepC (L : List Cell) : MvO → List Cell
  | (some a, some b) => without L a ++ [b]
  | _ => L
/-- the lot ahead of the pair at i -/
def lotAt (L : List Cell) (ms : List MvO) (i : Nat) : List Cell := (ms.take i).foldl stepC L
theorem lotAt_succ {L : List Cell} {ms : List MvO} {i : Nat} {m : MvO} (h : ms[i]? = some m) : lotAt L ms (i + 1) = stepC (lotAt L ms i) m := by
  unfold lotAt
  rw [take_snoc h, List.foldl_append]
  rfl
theorem step_ok {L : List Cell} {m : MvO} (nL : L.Nodup) (h : moveB L m = true) : ∃ a b, m = (some a, some b) ∧ kindV L a b ≠ .non ∧ Hangs (stepC L m) ∧ (stepC L m).Nodup ∧ (stepC L m).length = L.length := by
  obtain ⟨o1, o2⟩ := m
  cases o1 with
  | none => cases h
  | some a =>
    cases o2 with
    | none => cases h
    | some b =>
      have kn : kindV L a b ≠ .non := by simpa [moveB] using h
      exact ⟨a, b, rfl, kn, behind nL kn (.refl _)⟩
/-- none of the first n pairs is wrong -/
def GoodTo (L : List Cell) (ms : List MvO) (n : Nat) : Prop := ∀ j m, j < n → ms[j]? = some m → moveB (lotAt L ms j) m = true
def WrongIs (L : List Cell) (ms : List MvO) : Option Nat → Prop
  | none => GoodTo L ms ms.length
  | some i => GoodTo L ms i ∧ ∃ m, ms[i]? = some m ∧ moveB (lotAt L ms i) m = false
theorem good_lot {L : List Cell} {ms : List MvO} (nL : L.Nodup) (hL : Hangs L) : ∀ {n : Nat}, n ≤ ms.length → GoodTo L ms n → Hangs (lotAt L ms n) ∧ (lotAt L ms n).Nodup ∧ (lotAt L ms n).length = L.length
  | 0, _, _ => ⟨hL, nL, rfl⟩
  | n + 1, hn, g => by
    obtain ⟨h1, h2, h3⟩ := good_lot nL hL (n := n) (by omega) fun j m hj hm => g j m (by omega) hm
    have hm : ms[n]? = some ms[n] := List.getElem?_eq_getElem (by omega)
    obtain ⟨a, b, _, _, q1, q2, q3⟩ := step_ok h2 (g n _ (Nat.lt_succ_self n) hm)
    rw [lotAt_succ hm]
    exact ⟨q1, q2, by rw [q3, h3]⟩
def oV : Option Nat → V
  | none => .non
  | some i => .int (i : Int)
/-- a plan: a list or a tuple of pairs -/
def PlanAt (K : PySem.W.Frag) (H : Hp) (pl : Addr) (ms : List MvO) : Prop := ∃ qs : List Addr, (H pl = some (.lst (qs.map V.ref)) ∨ H pl = some (.tup (qs.map V.ref))) ∧ Paired (fun q m => MvAt K H q m) qs ms
theorem PlanAt.ek {K : PySem.W.Frag} {H G : Hp} {pl : Addr} {ms : List MvO} (h : PlanAt K H pl ms) (k : Ek H G) : PlanAt K G pl ms := by
  obtain ⟨qs, e, pr⟩ := h
  exact ⟨qs, e.elim (fun e => .inl (k.lst e)) fun e => .inr (k.tup e), paired_imp (fun _ _ h => h.ek k) pr⟩
def spFirstWrong (K : PySem.W.Frag) (Ts : List Addr) : Sp := fun vs H Q _ => ∃ (t pl : Addr) (L : List Cell) (ms : List MvO), vs = [.ref t, .ref pl] ∧ CellsT H t L ∧ L.Nodup ∧ L.length ≤ 1000 ∧ Hangs L ∧ PlanAt K H pl ms ∧ ms.length ≤ 100000 ∧ TabsG Ts H ∧ ∀ H' o, KT Ts H H' → WrongIs L ms o → Q (oV o) H'
section
variable {P : Program} {w : World} {K : PySem.W.Frag} {mg : Str → Option Value} {base : Heap} {Ts : List Addr}
end
end Sq

set_option Elab.async false
set_option linter.all false
set_option maxRecDepth 100000
set_option maxHeartbeats 4000000
/-! checked_moves. -/
namespace Sq
open PySem PySem.Spec PyProof.Rows L2
/-- the pairs of cells of a plan -/
def cellsOf (ms : List MvO) : List CellP := ms.filterMap fun m => match m with
  | (some a, some b) => some (a, b)
  | _ => none
theorem cellsOf_snoc {ms : List MvO} {i : Nat} {a b : Cell} (h : ms[i]? = some (some a, some b)) : cellsOf (ms.take (i + 1)) = cellsOf (ms.take i) ++ [(a, b)] := by
  unfold cellsOf
  rw [take_snoc h, List.filterMap_append]
  rfl
def spCheckedM (K : PySem.W.Frag) (Ts : List Addr) (CN : Addr) : Sp := fun vs H Q E => ∃ (t pl : Addr) (L : List Cell) (ms : List MvO), vs = [.ref t, .ref pl] ∧ CellsT H t L ∧ L.Nodup ∧ L.length ≤ 1000 ∧ Hangs L ∧ PlanAt K H pl ms ∧ ms.length ≤ 100000 ∧ TabsG Ts H ∧
  (∀ i, WrongIs L ms (some i) → Way Ts H CN [("witness", .int (i : Int)), ("promise", .str "plan")] E) ∧ (GoodTo L ms ms.length → ∀ l H', KT Ts H H' → H l = none → PairsL H' l (cellsOf ms) → Q (.ref l) H')
section
variable {P : Program} {w : World} {K : PySem.W.Frag} {mg : Str → Option Value} {base : Heap} {Ts : List Addr}
end
end Sq

set_option Elab.async false
set_option linter.all false
set_option maxRecDepth 100000
set_option maxHeartbeats 4000000
/-! bodies_behind, bodies_of, end_of. -/
namespace Sq
open PySem PySem.Spec PyProof.Rows L2
theorem cellsT_tu {H G : Hp} {t : Addr} {L : List Cell} (h : CellsT H t L) (k : ∀ b xs, H b = some (.tup xs) → G b = some (.tup xs)) : CellsT G t L := by
  obtain ⟨qs, e, pr⟩ := h
  exact ⟨qs, k _ _ e, paired_imp (fun _ _ a => k _ _ a) pr⟩
theorem upd_tu {G : Hp} {d : Addr} {o o' : HO} (hd : G d = some o) (n : ∀ xs, o ≠ .tup xs) : ∀ b xs, G b = some (.tup xs) → upd G d o' b = some (.tup xs) := fun b xs e => by
  rw [upd_ne (fun z => by rw [z, hd] at e; exact n xs (Option.some.inj e))]
  exact e
/-- the bodies of a plan, up to the n-th -/
def BsOk (L : List Cell) (ms : List MvO) (n : Nat) (Bs : List (List Cell)) : Prop := Bs.length = n + 1 ∧ ∀ j B, Bs[j]? = some B → B.Perm (lotAt L ms j) ∧ Asc B
theorem BsOk.snoc {L B : List Cell} {ms : List MvO} {n : Nat} {Bs : List (List Cell)} (h : BsOk L ms n Bs) (p : B.Perm (lotAt L ms (n + 1))) (a : Asc B) : BsOk L ms (n + 1) (Bs ++ [B]) := by
  refine ⟨by rw [List.length_append, h.1]; rfl, fun j X e => ?_⟩
  by_cases hj : j < Bs.length
  · rw [List.getElem?_append_left hj] at e
    exact h.2 j X e
  · have hj' : j = Bs.length := by
      have := (List.getElem?_eq_some_iff.mp e).1
      rw [List.length_append] at this
      have : j < Bs.length + 1 := this
      omega
    subst hj'
    rw [List.getElem?_append_right (Nat.le_refl _), Nat.sub_self] at e
    have := Option.some.inj e
    subst this
    rw [h.1]
    exact ⟨p, a⟩
/-- a good plan's pairs are cells -/
theorem cells_get {L : List Cell} {ms : List MvO} (nL : L.Nodup) (hL : Hangs L) (g : GoodTo L ms ms.length) : (cellsOf ms).map (fun c => ((some c.1, some c.2) : MvO)) = ms := by
  have all : ∀ n, n ≤ ms.length → (cellsOf (ms.take n)).map (fun c => ((some c.1, some c.2) : MvO)) = ms.take n := by
    intro n
    induction n with
    | zero => intro _; rfl
    | succ n ih =>
      intro hn
      have hm : ms[n]? = some ms[n] := List.getElem?_eq_getElem (by omega)
      obtain ⟨h1, h2, h3⟩ := good_lot nL hL (n := n) (by omega) fun u v hu hv => g u v (by omega) hv
      obtain ⟨a, b, e, _⟩ := step_ok h2 (g n _ (by omega) hm)
      rw [e] at hm
      rw [cellsOf_snoc hm, List.map_append, ih (by omega), take_snoc hm]
      rfl
  have := all ms.length (Nat.le_refl _)
  rwa [List.take_length] at this
def spBehind : Sp := fun vs H Q _ => ∃ (t ml : Addr) (L : List Cell) (ms : List MvO), vs = [.ref t, .ref ml] ∧ CellsT H t L ∧ L.Nodup ∧ L.length ≤ 1000 ∧ Hangs L ∧ PairsL H ml (cellsOf ms) ∧ ms.length ≤ 100000 ∧ GoodTo L ms ms.length ∧
  ∀ l H' Bs, Same H H' → H l = none → CellsLL H' l Bs → BsOk L ms ms.length Bs → Q (.ref l) H'
section
variable {P : Program} {w : World} {K : PySem.W.Frag} {mg : Str → Option Value} {base : Heap} {Ts : List Addr}
end
end Sq

set_option Elab.async false
set_option linter.all false
set_option maxRecDepth 100000
set_option maxHeartbeats 4000000
/-! The parts are told by the cells alone. -/
namespace Sq
open PySem PySem.Spec PyProof.Rows L2
theorem asc_memU {A M : List Cell} (nA : A.Nodup) (nM : M.Nodup) (sa : Asc A) (sm : Asc M) (mem : ∀ x, x ∈ A ↔ x ∈ M) : A = M :=
  List.Perm.eq_of_pairwise (le := fun x y => cLt y x = false) (fun x y _ _ h k => cLt_tri k h) sa sm ((List.perm_ext_iff_of_nodup nA nM).mpr mem)
theorem IsParts.sub {cs : List Cell} {ps qs : List (List Cell)} (h : IsParts cs ps) (k : IsParts cs qs) : ∀ p ∈ ps, p ∈ qs := fun p hp => by
  obtain ⟨ap, np, ne⟩ := h.asc p hp
  obtain ⟨x, hx⟩ := List.exists_mem_of_ne_nil _ ne
  obtain ⟨xc, cp⟩ := h.cls p hp x hx
  obtain ⟨q, hq, xq⟩ := k.cov x xc
  obtain ⟨aq, nq, _⟩ := k.asc q hq
  have e : p = q := asc_memU np nq ap aq fun y => by rw [cp y, (k.cls q hq x xq).2 y]
  exact e ▸ hq
theorem IsParts.nodup {cs : List Cell} {ps : List (List Cell)} (h : IsParts cs ps) : ps.Nodup := h.ord.imp fun {p q} ⟨a, b, ha, hb, lt⟩ e => by
  subst e
  rw [ha] at hb
  have := Option.some.inj hb
  subst this
  rw [cLt_irr] at lt
  cases lt
theorem parts_uniq {cs : List Cell} {ps qs : List (List Cell)} (h : IsParts cs ps) (k : IsParts cs qs) : ps = qs := by
  refine List.Perm.eq_of_pairwise (le := fun p q => ∃ a b, p.head? = some a ∧ q.head? = some b ∧ cLt a b = true) (fun p q _ _ ⟨a, b, ha, hb, lt⟩ ⟨c, d, hc, hd, lt2⟩ => ?_) h.ord k.ord ((List.perm_ext_iff_of_nodup h.nodup k.nodup).mpr fun p => ⟨h.sub k p, k.sub h p⟩)
  rw [ha] at hd
  rw [hb] at hc
  have e1 := Option.some.inj hd
  have e2 := Option.some.inj hc
  subst e1 e2
  rw [cLt_asym lt] at lt2
  cases lt2
theorem parts_perm {cs ds : List Cell} {ps : List (List Cell)} (h : IsParts cs ps) (m : ∀ x, x ∈ cs ↔ x ∈ ds) : IsParts ds ps := by
  have r : ∀ {a b : Cell}, Reach cs a b ↔ Reach ds a b := fun {a b} => by
    constructor
    · intro k
      induction k with
      | refl => exact .refl
      | step _ hb hc ih => exact ih.step hb ((m _).mp hc)
    · intro k
      induction k with
      | refl => exact .refl
      | step _ hb hc ih => exact ih.step hb ((m _).mpr hc)
  exact ⟨h.asc, fun p hp x hx => ⟨(m x).mp (h.cls p hp x hx).1, fun y => by rw [(h.cls p hp x hx).2 y, r]⟩, fun x hx => h.cov x ((m x).mpr hx), h.ord⟩
end Sq

set_option Elab.async false
set_option linter.all false
set_option maxRecDepth 100000
set_option maxHeartbeats 4000000
/-! A value that is locked for good behind its making; in, for a text and a list of texts. -/
namespace Sq
open PySem PySem.Spec PyProof.Rows L2
/-- what e gives is locked from here on -/
def tFreeze (t : TE) : TE := fun σ H Q => t σ H fun x H1 => ∃ d u, x = .ref d ∧ H1 d = some u ∧ Mut (some u) ∧ ∀ od, Q (.ref d) (upd H1 d (.frz od u))
theorem pe_freeze {X : Cx} {e : Expr} {t : TE} (h : PE X e t) : PE X e (tFreeze t) := by
  refine ⟨fun pins s σ H Q I hw => thn (h.run pins s σ H _ I hw) fun v z ⟨x, H1, I1, r, d, u, ex, hd, mu, q⟩ => ?_⟩
  subst ex
  obtain ⟨od, I2⟩ := I1.lock hd mu
  exact ⟨.ref d, _, I2, r, q od⟩
end Sq

set_option Elab.async false
set_option linter.all false
set_option maxRecDepth 100000
set_option maxHeartbeats 4000000
/-! checked_lot of cells; parts_of. -/
namespace Sq
open PySem PySem.Spec PyProof.Rows L2
/-- checked_lot of cells, as a list or a tuple, in any order, also twice -/
def spCLot : Sp := fun vs H Q _ => ∃ (a : Addr) (cs : List Cell), vs = [.ref a] ∧ (CellsL H a cs ∨ CellsT H a cs) ∧ cs.length ≤ 1000 ∧ ∀ d H', Same H H' → H d = none → H' d = some (.dT (lotK (uniq cs))) → Q (.ref d) H'
/-- t holds a tuple of tuples of these cells -/
def CellsTT (H : Hp) (t : Addr) (ps : List (List Cell)) : Prop := ∃ ts : List Addr, H t = some (.tup (ts.map V.ref)) ∧ Paired (fun t p => CellsT H t p) ts ps
def spPartsOf : Sp := fun vs H Q _ => ∃ (a : Addr) (cs : List Cell), vs = [.ref a] ∧ (CellsL H a cs ∨ CellsT H a cs) ∧ cs.length ≤ 1000 ∧ ∀ t H' ps, Same H H' → CellsTT H' t ps → ps.length ≤ cs.length → IsParts cs ps → Q (.ref t) H'
/-- between two cells -/
structure Po (H : Hp) (cs S : List Cell) (dl mt pl so : Addr) (i : Nat) (M : List Cell) (ps : List (List Cell)) (G : Hp) : Prop where
  same : Same H G
  gl : G dl = some (.dT (lotK (uniq cs)))
  gm : G mt = some (.dT (lotK M))
  gp : CellsLL G pl ps
  gs : CellsL G so S
  nd : M.Nodup
  mem : ∀ x, x ∈ M ↔ ∃ p ∈ ps, x ∈ p
  asc : ∀ p ∈ ps, Asc p ∧ p.Nodup ∧ p ≠ []
  cls : ∀ p ∈ ps, ∀ x ∈ p, x ∈ cs ∧ ∀ y, y ∈ p ↔ Reach cs x y
  cov : ∀ x ∈ S.take i, ∃ p ∈ ps, x ∈ p
  hed : ∀ p ∈ ps, ∃ a, p.head? = some a ∧ a ∈ S.take i
  ord : ps.Pairwise fun p q => ∃ a b, p.head? = some a ∧ q.head? = some b ∧ cLt a b = true
  few : ps.length ≤ i
theorem reach_uniq {cs : List Cell} {a b : Cell} : Reach (uniq cs) a b ↔ Reach cs a b := by
  constructor
  · intro k
    induction k with
    | refl => exact .refl
    | step _ hb hc ih => exact ih.step hb (uniq_mem.mp hc)
  · intro k
    induction k with
    | refl => exact .refl
    | step _ hb hc ih => exact ih.step hb (uniq_mem.mpr hc)
section
variable {P : Program} {w : World} {K : PySem.W.Frag} {mg : Str → Option Value} {base : Heap}
end
end Sq

set_option Elab.async false
set_option linter.all false
set_option maxRecDepth 100000
set_option maxHeartbeats 4000000
/-! bodies_of, end_of. -/
namespace Sq
open PySem PySem.Spec PyProof.Rows L2
def PlanQ (K : PySem.W.Frag) (Ts : List Addr) (CN : Addr) (H : Hp) (E : XK) (t pl : Addr) (L : List Cell) (ms : List MvO) : Prop := CellsT H t L ∧ L.Nodup ∧ L.length ≤ 1000 ∧ Hangs L ∧ PlanAt K H pl ms ∧ ms.length ≤ 100000 ∧ TabsG Ts H ∧
  (∀ i, WrongIs L ms (some i) → Way Ts H CN [("witness", .int (i : Int)), ("promise", .str "plan")] E)
def spBodiesOf (K : PySem.W.Frag) (Ts : List Addr) (CN : Addr) : Sp := fun vs H Q E => ∃ (t pl : Addr) (L : List Cell) (ms : List MvO), vs = [.ref t, .ref pl] ∧ PlanQ K Ts CN H E t pl L ms ∧
  (GoodTo L ms ms.length → ∀ u H' Bs, KT Ts H H' → CellsTT H' u Bs → BsOk L ms ms.length Bs → Q (.ref u) H')
def spEndOf (K : PySem.W.Frag) (Ts : List Addr) (CN : Addr) : Sp := fun vs H Q E => ∃ (t pl : Addr) (L : List Cell) (ms : List MvO), vs = [.ref t, .ref pl] ∧ PlanQ K Ts CN H E t pl L ms ∧
  (GoodTo L ms ms.length → ∀ u H' B, KT Ts H H' → CellsT H' u B → B.Perm (lotAt L ms ms.length) → Asc B → Q (.ref u) H')
section
variable {P : Program} {w : World} {K : PySem.W.Frag} {mg : Str → Option Value} {base : Heap} {Ts : List Addr}
end
end Sq

set_option Elab.async false
set_option linter.all false
set_option maxRecDepth 100000
set_option maxHeartbeats 4000000
/-! The law's first_wrong. -/
namespace Sq
open PySem PySem.Spec PyProof.Rows L2
theorem hangsB_cong {L M : List Cell} (h : ∀ x, x ∈ L ↔ x ∈ M) : hangsB L = hangsB M := by
  rw [Bool.eq_iff_iff, hangsB_iff, hangsB_iff]
  exact hangs_perm h
def byF (s e : Cell) (f : Cell → Bool) : V :=
  if f s = false ∨ f e = true then .non
  else if absI (e.1 - s.1) + absI (e.2 - s.2) = 1 then (if ((f (s.1 + (e.2 - s.2), s.2 + (e.1 - s.1)) && f (e.1 + (e.2 - s.2), e.2 + (e.1 - s.1))) || (f (s.1 + -(e.2 - s.2), s.2 + -(e.1 - s.1)) && f (e.1 + -(e.2 - s.2), e.2 + -(e.1 - s.1)))) = true then .str "slide" else .non)
  else if absI (e.1 - s.1) = 1 ∧ absI (e.2 - s.2) = 1 then (if (f (s.1, e.2) != f (e.1, s.2)) = true then .str "turn" else .non) else .non
theorem byPlace_cong {L M : List Cell} {s e : Cell} (h : ∀ x, x ∈ L ↔ x ∈ M) : byPlace L s e = byPlace M s e := by
  have hf : (fun c => decide (c ∈ L)) = (fun c => decide (c ∈ M)) := funext fun c => by
    rw [Bool.eq_iff_iff, decide_eq_true_iff, decide_eq_true_iff]
    exact h c
  have key : ∀ L, byPlace L s e = byF s e (fun c => decide (c ∈ L)) := fun _ => rfl
  rw [key L, key M, hf]
theorem kindV_cong {L M : List Cell} {s e : Cell} (h : ∀ x, x ∈ L ↔ x ∈ M) : kindV L s e = kindV M s e := by
  unfold kindV
  rw [byPlace_cong h, hangsB_cong (L := without L s) (M := without M s) fun x => by rw [mem_without, mem_without, h]]
theorem without_perm {L M : List Cell} (h : L.Perm M) (c : Cell) : (without L c).Perm (without M c) := h.filter _
def spLFw (K : PySem.W.Frag) : Sp := fun vs H Q _ => ∃ (t pl : Addr) (L : List Cell) (ms : List MvO) (qs : List Addr), vs = [.ref t, .ref pl] ∧ CellsT H t L ∧ L.Nodup ∧ Asc L ∧ L.length ≤ 1000 ∧ Hangs L ∧ H pl = some (.lst (qs.map V.ref)) ∧ Paired (fun q m => MvAt K H q m) qs ms ∧ ms.length ≤ 100000 ∧
  ∀ u H' bl Bs o, Same H H' → H' u = some (.tup [oV o, .ref bl]) → CellsLL H' bl Bs → WrongIs L ms o → BsOk L ms (o.getD ms.length) Bs → Q (.ref u) H'
section
variable {P : Program} {w : World} {K : PySem.W.Frag} {mg : Str → Option Value} {base : Heap} {Ts : List Addr}
end
end Sq

set_option Elab.async false
set_option linter.all false
set_option maxRecDepth 100000
set_option maxHeartbeats 4000000
/-! What the law asks of bodies_of and end_of. -/
namespace Sq
open PySem PySem.Spec PyProof.Rows L2
def bodsD (ps : List (List Cell)) : PyData := .tuple (ps.map fun p => .tuple (p.map cD))
theorem bods_dps {K : PySem.W.Frag} {H : Hp} : ∀ {ts : List Addr} {ps : List (List Cell)}, Paired (fun t p => CellsT H t p) ts ps → DpAll K H (ts.map V.ref) (ps.map fun p => .tuple (p.map cD))
  | _, _, .nil => .nil
  | _, _, .cons h t => .cons h.dp (bods_dps t)
theorem bods_dp {K : PySem.W.Frag} {H : Hp} {t : Addr} {ps : List (List Cell)} (h : CellsTT H t ps) : Dp K H (.ref t) (bodsD ps) := by
  obtain ⟨ts, e, pr⟩ := h
  exact .tup (SqT.of e) (bods_dps pr)
/-- what is told of a plan -/
inductive OutP (w : Int) (L : List Cell) (ms : List MvO) : PyData → Prop where
  | bad {i : Nat} (h : WrongIs L ms (some i)) : OutP w L ms (.tuple [.str "not", .str "plan", .int (i : Int)])
  | all {Bs : List (List Cell)} (h : w = 0) (g : GoodTo L ms ms.length) (b : BsOk L ms ms.length Bs) : OutP w L ms (.tuple [.str "told", bodsD Bs])
  | fin {B : List Cell} (h : w ≠ 0) (g : GoodTo L ms ms.length) (p : B.Perm (lotAt L ms ms.length)) (a : Asc B) : OutP w L ms (.tuple [.str "told", .tuple (B.map cD)])
def spAskedP (K : PySem.W.Frag) (Ts : List Addr) : Sp := fun vs H Q _ => ∃ (w : Int) (t pl : Addr) (L : List Cell) (ms : List MvO), vs = [.int w, .ref t, .ref pl] ∧ CellsT H t L ∧ L.Nodup ∧ L.length ≤ 1000 ∧ Hangs L ∧ PlanAt K H pl ms ∧ ms.length ≤ 100000 ∧ TabsG Ts H ∧
  ∀ r H' o, KT Ts H H' → Dp K H' (.ref r) o → OutP w L ms o → Q (.ref r) H'
theorem wrong_or {L : List Cell} {ms : List MvO} : ∃ o, WrongIs L ms o := by
  by_cases g : GoodTo L ms ms.length
  · exact ⟨none, g⟩
  · have ex : ∃ n, n ≤ ms.length ∧ ¬ GoodTo L ms n := ⟨_, Nat.le_refl _, g⟩
    have low : ∀ n, n ≤ ms.length → ¬ GoodTo L ms n → ∃ i, WrongIs L ms (some i) := by
      intro n
      induction n with
      | zero => exact fun _ h => absurd (fun j m hj => absurd hj (Nat.not_lt_zero _)) h
      | succ n ih =>
        intro hn h
        by_cases g' : GoodTo L ms n
        · have hm : ms[n]? = some ms[n] := List.getElem?_eq_getElem (by omega)
          refine ⟨n, g', _, hm, ?_⟩
          cases e : moveB (lotAt L ms n) ms[n] with
          | false => rfl
          | true =>
            refine absurd (fun j m hj hm' => ?_) h
            rcases Nat.lt_succ_iff_lt_or_eq.mp hj with z | z
            · exact g' j m z hm'
            · subst z
              rw [hm] at hm'
              have := Option.some.inj hm'
              subst this
              exact e
        · exact ih (by omega) g'
    obtain ⟨i, h⟩ := low _ (Nat.le_refl _) g
    exact ⟨some i, h⟩
section
variable {P : Program} {w : World} {K : PySem.W.Frag} {mg : Str → Option Value} {base : Heap} {Ts : List Addr}
def tArgs2 : TA := tCons (tVar 1) (tCons (tVar 2) tNil)
def tToldP (K : PySem.W.Frag) (Ts : List Addr) (CN : Addr) (W : WX) : TS :=
  tAsg (tTup (tCons (tC (.str "told")) (tCons (tIf (tTest (tOp rEq (tVar 0) (tC (.int 0)))) (tCallS (spBodiesOf K Ts CN) (WE W) tArgs2) (tCallS (spEndOf K Ts CN) (WE W) tArgs2)) tNil))) (gName 3)
def tNot (C : Addr) : Su := fun a cls d => tAsg (tTup (tCons (tC (.str "not")) (tCons (tXf a cls d C "promise" (tVar 4)) (tCons (tXf a cls d C "witness" (tVar 4)) tNil)))) (gName 3)
end
end Sq

set_option Elab.async false
set_option linter.all false
set_option maxRecDepth 100000
set_option maxHeartbeats 4000000
/-! draw and pick again: the pen's list stays where it is. -/
namespace Sq
open PySem PySem.Spec PyProof.Rows L2
/-- a pen stands at p, its list at c, n numbers were drawn -/
structure PenC (H : Hp) (p c : Addr) (n : Nat) : Prop where
  ex : ∃ (zs : List Int) (i : Nat) (dg fo : Int), H p = some (.dK (penK c i dg n fo)) ∧ H c = some (.lst (zs.map V.int)) ∧ i ≤ zs.length ∧ zs.length ≤ 63 ∧ 0 ≤ dg ∧ 0 ≤ fo ∧ fo < 2147483648
theorem PenC.at {H : Hp} {p c : Addr} {n : Nat} (h : PenC H p c n) : PenAt H p n := ⟨⟨c, h.ex⟩⟩
theorem PenAt.c {H : Hp} {p : Addr} {n : Nat} (h : PenAt H p n) : ∃ c, PenC H p c n := by
  obtain ⟨c, r⟩ := h.ex
  exact ⟨c, ⟨r⟩⟩
theorem PenC.same {H H' : Hp} {p c : Addr} {n : Nat} (h : PenC H p c n) (k : Same H H') : PenC H' p c n := by
  obtain ⟨zs, i, dg, fo, e1, e2, r⟩ := h.ex
  exact ⟨⟨zs, i, dg, fo, k _ _ e1, k _ _ e2, r⟩⟩
/-- what is put elsewhere -/
theorem PenC.off {H : Hp} {p c q : Addr} {n : Nat} {o : HO} (h : PenC H p c n) (np : p ≠ q) (nc : c ≠ q) : PenC (upd H q o) p c n := by
  obtain ⟨zs, i, dg, fo, e1, e2, r⟩ := h.ex
  exact ⟨⟨zs, i, dg, fo, by rw [upd_ne np]; exact e1, by rw [upd_ne nc]; exact e2, r⟩⟩
theorem PenC.ne {H : Hp} {p c q : Addr} {n : Nat} (h : PenC H p c n) (hq : H q = none) : p ≠ q ∧ c ≠ q := by
  obtain ⟨zs, i, dg, fo, e1, e2, r⟩ := h.ex
  exact ⟨ne_of_none e1 hq, ne_of_none e2 hq⟩
def spDrawC : Sp := fun vs H Q _ => ∃ (p c : Addr) (n : Nat) (m : Int), vs = [.ref p, .int m] ∧ PenC H p c n ∧ 1 ≤ m ∧ m < 1073741824 ∧ n < 1000000 ∧
  ∀ (r : Int) (H' : Hp), 0 ≤ r → r < m → PenC H' p c (n + 1) → (∀ b, b ≠ p → H' b = H b) → Q (.int r) H'
def spPickC (K : PySem.W.Frag) : Sp := fun vs H Q _ => ∃ (p c l : Addr) (n : Nat) (xs : List V), vs = [.ref p, .ref l] ∧ PenC H p c n ∧ n < 1000000 ∧ (SqL K H l xs ∨ SqT K H l xs) ∧ 1 ≤ xs.length ∧ xs.length < 1073741824 ∧
  ∀ (i : Nat) (x : V) (H' : Hp), xs[i]? = some x → PenC H' p c (n + 1) → (∀ b, b ≠ p → H' b = H b) → Q x H'
section
variable {P : Program} {w : World} {K : PySem.W.Frag} {mg : Str → Option Value} {base : Heap}
theorem ok_drawC {f : Addr} {fd : FuncData} (F : FnP K "_law_draw" sDraw f fd) (gI : mg "int" = none) (gL : mg "len" = none) : FnOk P w K mg base CX0 1 f fd ["_law_pen_here", "_law_many"] spDrawC := by
  refine F.ok scD (fun vs H Q E h => ?_) (fun cdv A outer s H vs Q E hr h => ?_)
  · obtain ⟨p, c, n, m, rfl, _⟩ := h
    rfl
  · obtain ⟨p, c, n, m, rfl, ⟨zs, i, dg, fo, hp, hc, hi, hl, hd, f0, f1⟩, m1, m2, hn, k⟩ := h
    have hu := hu_of hr
    have cp : c ≠ p := ne_of hc hp (by intro z; cases z)
    -- what stands behind the first if
    obtain ⟨tt, htt, key⟩ : ∃ t, PSs (cxOf CX0 P w K mg base ["_law_pen_here", "_law_many", "_law_cell", "_law_digit", "_law_blend"] "_law_draw" (defScope sDraw) f cdv A outer s H E).nox ((defBody sDraw).drop 2) t ∧
        ∀ (D : Ends) (v : Option V) (i' : Nat) (dg' fo' : Int) (H1 : Hp), H1 p = some (.dK (penK c i' dg' ((n : Int) + 1) fo')) → H1 c = some (.lst (zs.map V.int)) → (∀ b, b ≠ p → H1 b = H b) → i' ≤ zs.length → 0 ≤ dg' → 0 ≤ fo' → fo' < 2147483648 →
          (∀ (r : Int) (H' : Hp), 0 ≤ r → r < m → PenC H' p c (n + 1) → (∀ b, b ≠ p → H' b = H b) → D.rt (.int r) H') → t D [some (.ref p), some (.int m), v, none, none] H1 := by
      refine ⟨_, pss_cons (ps_if (pt_cmpR op_gt (pe_dget hu (pv 0) pe_str (fun _ _ => rfl)) pe_int (nomark _))
        (pss_cons (ps_set (i := 3) scD.nd rfl (.inl rfl) (pe_op op_mod (pe_callTy call_int1 (by rfl) gI PyProof.Rows.boot_int (pa_cons (pe_dget hu (pv 0) pe_str (fun _ _ => rfl)) pa_nil)) (pv 1)))
        (pss_cons (ps_dput hu (pv 0) pe_str (pe_op op_fdiv (pe_dget hu (pv 0) pe_str (fun _ _ => rfl)) (pv 1)) rfl)
        (pss_one (ps_ret (pv 3)))))
        pss_nil)
        (pss_cons (ps_set (i := 4) scD.nd rfl (.inl rfl) (pe_op op_add (pe_op op_add (pe_dget hu (pv 0) pe_str (fun _ _ => rfl)) (pe_op op_mul (pe_dget hu (pv 0) pe_str (fun _ _ => rfl)) pe_int)) pe_int))
        (pss_one (ps_ret (pe_op op_mod (pe_op op_fdiv (pe_callTy call_int1 (by rfl) gI PyProof.Rows.boot_int (pa_cons (pe_op op_mod (pe_op op_pow (pv 4) pe_int) pe_int) pa_nil)) pe_int) (pv 1))))), ?_⟩
      intro D v i' dg' fo' H1 e1 e2 e3 h1 h2 h3 h4 kD
      refine ⟨_, rfl, p, _, rfl, dget_of e1 pen_dig, _, _, rfl, rfl, _, rfl, ?_⟩
      refine ite2 (fun hd => ?_) (fun hd => ?_)
      · refine ⟨_, rfl, p, _, rfl, dget_of e1 pen_dig, .inl ⟨_, rfl, _, rfl, _, _, rfl, rfl, (by show 0 < m; omega), ?_⟩⟩
        refine ⟨_, rfl, p, _, rfl, dget_of e1 pen_dig, _, rfl, _, _, rfl, rfl, ⟨by omega, m2⟩, _, rfl, p, _, rfl, dput_of e1 put_dig, ?_⟩
        refine ⟨_, rfl, ?_⟩
        refine kD _ _ (Int.emod_nonneg _ (by omega)) (Int.emod_lt_of_pos _ (by omega)) ⟨⟨zs, i', dg' / m, fo', ?_, ?_, h1, hl, Int.ediv_nonneg h2 (by omega), h3, h4⟩⟩ fun b hb => ?_
        · rw [upd_same]
          rfl
        · rw [upd_ne cp]
          exact e2
        · rw [upd_ne hb]
          exact e3 b hb
      · refine ⟨_, rfl, p, _, rfl, dget_of e1 pen_fold, _, rfl, p, _, rfl, dget_of e1 pen_cnt, _, _, rfl, rfl, .inr ⟨by decide, by decide⟩, _, _, rfl, rfl, _, _, rfl, rfl, ?_⟩
        refine ⟨_, rfl, _, _, rfl, rfl, ⟨by decide, by decide, ?_⟩, _, _, rfl, rfl, (by show (0 : Int) < 2305843009213693951; decide), .inl ⟨_, rfl, _, _, rfl, rfl, ⟨by decide, by decide⟩, _, rfl, _, _, rfl, rfl, (by show 0 < m; omega), ?_⟩⟩
        · show (fo' + ((n : Int) + 1) * 7907 + 37).natAbs < 18446744073709551616
          omega
        · exact kD _ _ (Int.emod_nonneg _ (by omega)) (Int.emod_lt_of_pos _ (by omega)) ⟨⟨zs, i', dg', fo', e1, e2, h1, hl, h2, h3, h4⟩⟩ e3
    refine ⟨_, PSs.nox (pss_cons (ps_dput hu (pv 0) pe_str (pe_op op_add (pe_dget hu (pv 0) pe_str (fun _ _ => rfl)) pe_int) rfl)
      (pss_cons (ps_if (PW.pt (pw_and (pt_cmpR op_eq (pe_dget hu (pv 0) pe_str (fun _ _ => rfl)) pe_int (nomark _)) (pw_and1 (pt_cmpR op_lt (pe_dget hu (pv 0) pe_str (fun _ _ => rfl)) (pe_callB call_len_seq (by rfl) gL PySem.boot_len (pa_cons (pe_dget hu (pv 0) pe_str (fun _ _ => rfl)) pa_nil)) (nomark _)))))
        (pss_cons (ps_set (i := 2) scD.nd rfl (.inl rfl) (pe_ix ix_list (pe_dget hu (pv 0) pe_str (fun _ _ => rfl)) (pe_dget hu (pv 0) pe_str (fun _ _ => rfl)) (fun _ _ => rfl)))
        (pss_cons (ps_dput hu (pv 0) pe_str (pe_op op_add (pe_dget hu (pv 0) pe_str (fun _ _ => rfl)) pe_int) rfl)
        (pss_one (ps_if (pt_cmpR op_ge (pv 2) (pe_op op_pow pe_int pe_int) (nomark _))
          (pss_one (ps_dput hu (pv 0) pe_str (pe_op op_sub (pv 2) (pe_op op_pow pe_int pe_int)) rfl))
          (pss_one (ps_dput hu (pv 0) pe_str (pe_op op_mod (pe_callTy call_int1 (by rfl) gI PyProof.Rows.boot_int (pa_cons (pe_op op_add (pe_op op_mul (pe_dget hu (pv 0) pe_str (fun _ _ => rfl)) pe_int) (pv 2)) pa_nil)) pe_int) rfl))))))
        pss_nil)
      htt)), ?_⟩
    refine ⟨_, rfl, p, _, rfl, dget_of hp pen_cnt, _, _, rfl, rfl, _, rfl, p, _, rfl, dput_of hp put_cnt, ?_⟩
    have hc1 : ∀ o, upd H p o c = some (.lst (zs.map V.int)) := fun o => by
      rw [upd_ne cp]
      exact hc
    have far : ∀ (o : HO) (b : Addr), b ≠ p → upd H p o b = H b := fun o b hb => upd_ne hb
    refine ⟨_, rfl, p, _, rfl, dget_of upd_same pen_dig, rfl, _, rfl, ?_⟩
    refine ite2 (fun _ => ?_) (fun _ => ?_)
    · refine ⟨_, rfl, p, _, rfl, dget_of upd_same pen_at, _, rfl, p, _, rfl, dget_of upd_same pen_cells, c, _, rfl, .inl (SqL.of (hc1 _)), _, _, rfl, rfl, _, rfl, ?_⟩
      refine ite2 (fun hlt => ?_) (fun _ => ?_)
      · have hlt' : (i : Int) < ((zs.map V.int).length : Int) := of_decide_eq_true hlt
        rw [List.length_map] at hlt'
        have hiz : i < zs.length := by omega
        have hat : atI (zs.map V.int) (i : Int) = some (.int zs[i]) := atI_nat (by rw [List.getElem?_map, List.getElem?_eq_getElem hiz]; rfl)
        refine ⟨_, rfl, p, _, rfl, dget_of upd_same pen_cells, _, rfl, p, _, rfl, dget_of upd_same pen_at, c, _, _, _, rfl, rfl, SqL.of (hc1 _), hat, ?_⟩
        refine ⟨_, rfl, p, _, rfl, dget_of upd_same pen_at, _, _, rfl, rfl, _, rfl, p, _, rfl, dput_of upd_same put_at, ?_⟩
        rw [upd_upd]
        refine ⟨_, rfl, _, _, rfl, rfl, ⟨by decide, by decide, by decide⟩, _, _, rfl, rfl, _, rfl, ?_⟩
        refine ite2 (fun hbig => ?_) (fun _ => ?_)
        · have hbig' : (10 : Int) ^ 18 ≤ zs[i] := of_decide_eq_true hbig
          refine ⟨_, rfl, _, _, rfl, rfl, ⟨by decide, by decide, by decide⟩, _, _, rfl, rfl, _, rfl, p, _, rfl, dput_of upd_same put_dig, ?_⟩
          rw [upd_upd]
          have e10 : (10 : Int) ^ 18 = 1000000000000000000 := by decide
          refine key _ _ (i + 1) _ fo _ upd_same (hc1 _) (far _) (by omega) ?_ f0 f1 k
          show 0 ≤ zs[i] - (10 : Int) ^ 18
          omega
        · refine ⟨_, rfl, p, _, rfl, dget_of upd_same pen_fold, _, _, rfl, rfl, .inr ⟨by decide, by decide⟩, _, rfl, _, _, rfl, rfl, .inl ⟨_, rfl, _, _, rfl, rfl, (by show (0 : Int) < 2147483587; decide), _, rfl, p, _, rfl, dput_of upd_same put_fold, ?_⟩⟩
          rw [upd_upd]
          refine key _ _ (i + 1) dg _ _ upd_same (hc1 _) (far _) (by omega) hd ?_ ?_ k
          · exact Int.emod_nonneg _ (by decide)
          · exact Int.lt_trans (Int.emod_lt_of_pos _ (by decide)) (by decide)
      · exact key _ _ i dg fo _ upd_same (hc1 _) (far _) hi hd f0 f1 k
    · exact key _ _ i dg fo _ upd_same (hc1 _) (far _) hi hd f0 f1 k
theorem ok_pickC {f : Addr} {fd : FuncData} (F : FnP K "_law_pick" sPick f fd) (DD : Df P w K mg base CX0 1 "_law_draw" ["_law_pen_here", "_law_many"] spDrawC) (gL : mg "len" = none) : FnOk P w K mg base CX0 2 f fd ["_law_pen_here", "_law_some"] (spPickC K) := by
  refine F.ok scK (fun vs H Q E h => ?_) (fun cdv A outer s H vs Q E hr h => ?_)
  · obtain ⟨p, c, l, n, xs, rfl, _⟩ := h
    rfl
  · obtain ⟨p, c, l, n, xs, rfl, hp, hn, hS, h1, h2, k⟩ := h
    obtain ⟨zs, i0, dg, fo, ep, _⟩ := hp.ex
    refine ⟨_, PSs.nox (pss_one (ps_ret (pe_ix (IxR.or ix_list ix_tup) (pv 1) (pe_df DD hr (by rfl) pass0 (pa_cons (pv 0) (pa_cons (pe_callB call_len_seq (by rfl) gL PySem.boot_len (pa_cons (pv 1) pa_nil)) pa_nil))) (fun _ _ => rfl)))), ?_⟩
    refine ⟨_, rfl, _, rfl, _, rfl, l, xs, rfl, hS, p, c, n, (xs.length : Int), rfl, hp, by omega, by omega, hn, fun r H' r0 r1 hp' hb => ?_⟩
    obtain ⟨j, rfl⟩ := Int.eq_ofNat_of_zero_le r0
    have hj : j < xs.length := by omega
    have hat : atI xs (j : Int) = some xs[j] := atI_nat (List.getElem?_eq_getElem hj)
    rcases hS with hS | hS
    · exact .inl ⟨l, xs, _, _, rfl, rfl, sqL_but ep hb hS, hat, k j _ H' (List.getElem?_eq_getElem hj) hp' hb⟩
    · exact .inr ⟨l, xs, _, _, rfl, rfl, sqT_but ep hb hS, hat, k j _ H' (List.getElem?_eq_getElem hj) hp' hb⟩
end
end Sq

set_option Elab.async false
set_option linter.all false
set_option maxRecDepth 100000
set_option maxHeartbeats 4000000
/-! The law's plans. -/
namespace Sq
open PySem PySem.Spec PyProof.Rows L2
/-- a comprehension that keeps some pairs of cells -/
theorem lc_sub {J : It} {n : Nat} {Gd : Hp → Prop} {Y : Nat → Hp → V → Hp → Prop} (w : Walk J n Gd Y) {g : TG} {tt : TT} {te : TE} {vs : List Nat} {σ : L2.St} {H1 : Hp} {D : Addr} {Qd : Hp → Prop} (hD : H1 D = none) (ok : CellP → Prop) (hn : n ≤ 1000000)
    (hG : ∀ i G, i ≤ n → Same H1 G → Gd G)
    (hs : ∀ i x G G' (K1 : V → Hp → Prop) (K0 : Hp → Prop), i < n → Same H1 G → Y i G x G' → (∀ r c H4, Same G H4 → PairAt H4 r c → ok c → K1 (.ref r) H4) → (∀ H3, Same G H3 → K0 H3) →
      g x (wipe σ vs) G' fun σ2 H2 => wipe σ2 vs = wipe σ vs ∧ tt σ2 H2 fun b H3 => if b = true then te σ2 H3 K1 else K0 H3)
    (hd : ∀ G rs cs, Same H1 G → G D = some (.lst (rs.map V.ref)) → rs.length ≤ n → Paired (fun q c => PairAt G q c) rs cs → (∀ c ∈ cs, ok c) → Qd G) :
    ∃ W : Nat → Nat → Hp → Prop, (∃ m, W 0 m (upd H1 D (.lst []))) ∧ ∀ i m H, W i m H →
      (J.stop i H ∧ Qd H) ∨ (J.go i H ∧ ∃ Nx : Hp → Prop, (∀ H', Nx H' → ∃ m', m' < m ∧ W (i + 1) m' H') ∧ ∀ x H', J.yld i H x H' → g x (wipe σ vs) H' fun σ2 H2 => wipe σ2 vs = wipe σ vs ∧ tt σ2 H2 fun b H3 =>
        if b = true then te σ2 H3 fun y H4 => ∃ acc, H4 D = some (.lst acc) ∧ acc.length < sizeLine ∧ Nx (upd H4 D (.lst (acc ++ [y]))) else Nx H3) := by
  refine lc_it w (fun i G => Same H1 G ∧ ∃ (rs : List Addr) (cs : List CellP), G D = some (.lst (rs.map V.ref)) ∧ rs.length ≤ i ∧ Paired (fun q c => PairAt G q c) rs cs ∧ ∀ c ∈ cs, ok c) ⟨same_put same_refl hD, [], [], upd_same, Nat.le_refl _, .nil, by simp⟩ (fun i G hi p => hG i G hi p.1) ?_ ?_
  · rintro i x G G' hi ⟨sm, rs, cs, gD, ln, pr, al⟩ y
    refine hs i x G G' _ _ hi sm y (fun r c H4 s4 a4 oc => ?_) (fun H3 s3 => ⟨sm.trans s3, rs, cs, s3 _ _ gD, Nat.le_succ_of_le ln, paired_imp (fun _ _ h => h.same s3) pr, al⟩)
    refine ⟨_, s4 _ _ gD, by rw [List.length_map, sizeLine_eq]; omega, same_put (sm.trans s4) hD, rs ++ [r], cs ++ [c], by rw [upd_same, List.map_append]; rfl, by rw [List.length_append]; exact Nat.succ_le_succ ln, ?_, fun z hz => ?_⟩
    · have off : ∀ {q : Addr} {c : CellP}, PairAt H4 q c → PairAt (upd H4 D (.lst (rs.map V.ref ++ [V.ref r]))) q c := fun h => h.off (s4 _ _ gD) (by intro xs z; cases z)
      exact (paired_imp (fun _ _ h => off (h.same s4)) pr).snoc (off a4)
    · rcases List.mem_append.mp hz with h | h
      · exact al z h
      · exact (List.mem_singleton.mp h) ▸ oc
  · rintro G ⟨sm, rs, cs, gD, ln, pr, al⟩
    exact hd G rs cs sm gD ln pr al
def mvO (c : CellP) : MvO := (some c.1, some c.2)
theorem lotAt_app {L : List Cell} {ms r : List MvO} {j : Nat} (h : j ≤ ms.length) : lotAt L (ms ++ r) j = lotAt L ms j := by
  unfold lotAt
  rw [List.take_append_of_le_length h]
theorem good_snoc {L : List Cell} {ms : List MvO} {m : MvO} (g : GoodTo L ms ms.length) (h : moveB (lotAt L ms ms.length) m = true) : GoodTo L (ms ++ [m]) (ms ++ [m]).length := fun j x hj hx => by
  rw [List.length_append] at hj
  have hj : j < ms.length + 1 := hj
  rw [lotAt_app (by omega)]
  by_cases c : j < ms.length
  · rw [List.getElem?_append_left c] at hx
    exact g j x c hx
  · have e : j = ms.length := by omega
    subst e
    rw [List.getElem?_append_right (Nat.le_refl _), Nat.sub_self] at hx
    have := Option.some.inj hx
    subst this
    exact h
theorem bs_snoc {L C : List Cell} {ms : List MvO} {m : MvO} {Bs : List (List Cell)} (h : BsOk L ms ms.length Bs) (p : C.Perm (stepC (lotAt L ms ms.length) m)) (a : Asc C) : BsOk L (ms ++ [m]) (ms ++ [m]).length (Bs ++ [C]) := by
  rw [List.length_append]
  refine BsOk.snoc ⟨h.1, fun j X e => ?_⟩ ?_ a
  · have hj : j < Bs.length := (List.getElem?_eq_some_iff.mp e).1
    rw [lotAt_app (by have := h.1; omega)]
    exact h.2 j X e
  · have e : lotAt L (ms ++ [m]) (ms.length + 1) = stepC (lotAt L (ms ++ [m]) ms.length) m := lotAt_succ (by rw [List.getElem?_append_right (Nat.le_refl _), Nat.sub_self]; rfl)
    rw [e, lotAt_app (Nat.le_refl _)]
    exact p
theorem lay_pairsL {ms : List CellP} : Lay 3 (.list (ms.map pD)) := lay_list fun d hd => by
  obtain ⟨m, _, rfl⟩ := List.mem_map.mp hd
  exact lay_pD m
def spLPlan : Sp := fun vs H Q _ => ∃ (p t : Addr) (n many : Nat) (L : List Cell), vs = [.ref p, .ref t, .int (many : Int)] ∧ PenAt H p n ∧ n ≤ 100000 ∧ many ≤ 20 ∧ CellsT H t L ∧ L.Nodup ∧ Asc L ∧ L.length ≤ 1000 ∧ Hangs L ∧
  ∀ u H' pl bl ps Bs n', PenAt H' p n' → n' ≤ n + 2 * many → Kp [p] H H' → H' u = some (.tup [.ref pl, .ref bl]) → PairsL H' pl ps → ps.length ≤ many → CellsLL H' bl Bs → GoodTo L (ps.map mvO) (ps.map mvO).length → BsOk L (ps.map mvO) (ps.map mvO).length Bs → Q (.ref u) H'
end Sq

set_option Elab.async false
set_option linter.all false
set_option maxRecDepth 100000
set_option maxHeartbeats 4000000
/-! The law's plans: the def. -/
namespace Sq
open PySem PySem.Spec PyProof.Rows L2
abbrev lpN : List Str := ["_law_pen_here", "_law_body", "_law_many", "_law_plan", "_law_bodies", "_law_lap", "_law_moves", "_law_same", "_law_move"]
def forBody : Stmt → List Stmt
  | .For _ _ b _ _ => b
  | _ => []
/-- the state between two laps -/
structure LpI (H : Hp) (p c pl bl : Addr) (L : List Cell) (qs ts : List Addr) (ps : List CellP) (Bs : List (List Cell)) (m i : Nat) (G : Hp) : Prop where
  pen : PenC G p c m
  kp : Kp [p] H G
  ep : G pl = some (.lst (qs.map V.ref))
  pp : Paired (fun q m => PairAt G q m) qs ps
  eb : G bl = some (.lst (ts.map V.ref))
  pb : Paired (fun t B => CellsT G t B) ts Bs
  lp : ps.length ≤ i
  good : GoodTo L (ps.map mvO) (ps.map mvO).length
  ok : BsOk L (ps.map mvO) (ps.map mvO).length Bs
theorem LpI.ek {H : Hp} {p c pl bl : Addr} {L : List Cell} {qs ts : List Addr} {ps : List CellP} {Bs : List (List Cell)} {m m' i : Nat} {G G' : Hp} (I : LpI H p c pl bl L qs ts ps Bs m i G) (k : Kp [p] G G') (hp : PenC G' p c m') : LpI H p c pl bl L qs ts ps Bs m' i G' := by
  have e := pen_ek I.pen.at k
  exact ⟨hp, I.kp.trans k, e.lst I.ep, paired_imp (fun _ _ h => PairAt.ek h e) I.pp, e.lst I.eb, paired_imp (fun _ _ h => CellsT.ek h e) I.pb, I.lp, I.good, I.ok⟩
theorem LpI.same {H : Hp} {p c pl bl : Addr} {L : List Cell} {qs ts : List Addr} {ps : List CellP} {Bs : List (List Cell)} {m i : Nat} {G G' : Hp} (I : LpI H p c pl bl L qs ts ps Bs m i G) (k : Same G G') : LpI H p c pl bl L qs ts ps Bs m i G' := I.ek (Kp.of k) (I.pen.same k)
/-- the last one of the bodies -/
theorem LpI.last {H : Hp} {p c pl bl : Addr} {L : List Cell} {qs ts : List Addr} {ps : List CellP} {Bs : List (List Cell)} {m i : Nat} {G : Hp} (I : LpI H p c pl bl L qs ts ps Bs m i G) (nL : L.Nodup) (hL : Hangs L) :
    ∃ ts' tl Bl, ts = ts' ++ [tl] ∧ CellsT G tl Bl ∧ Bl.Perm (lotAt L (ps.map mvO) (ps.map mvO).length) ∧ Asc Bl ∧ Bl.Nodup ∧ Bl.length = L.length ∧ Hangs Bl := by
  obtain ⟨h1, h2, h3⟩ := good_lot nL hL (Nat.le_refl _) I.good
  have lt : ts.length = (ps.map mvO).length + 1 := by rw [Paired.length I.pb, I.ok.1]
  obtain ⟨ts', tl, rfl⟩ : ∃ ts' tl, ts = ts' ++ [tl] := by
    rcases List.eq_nil_or_concat ts with z | ⟨a, b, z⟩
    · rw [z] at lt
      cases lt
    · exact ⟨a, b, by rw [z, List.concat_eq_append]⟩
  have lt' : ts'.length = (ps.map mvO).length := by rw [List.length_append] at lt; exact Nat.succ.inj lt
  have htl : (ts' ++ [tl])[(ps.map mvO).length]? = some tl := by rw [List.getElem?_append_right (by omega), lt', Nat.sub_self]; rfl
  obtain ⟨Bl, hBl, cBl⟩ := paired_get I.pb htl
  obtain ⟨pB, aB⟩ := I.ok.2 _ Bl hBl
  exact ⟨ts', tl, Bl, rfl, cBl, pB, aB, pB.nodup_iff.mpr h2, by rw [pB.length_eq, h3], (hangs_perm fun x => pB.mem_iff).mpr h1⟩
section
variable {P : Program} {w : World} {K : PySem.W.Frag} {mg : Str → Option Value} {base : Heap} {Ts : List Addr}
theorem scLp : FnScope lpN ["_law_pen_here", "_law_body", "_law_many"] (defScope lPlan) := ⟨rfl, rfl, rfl, by decide +kernel, rfl, by decide +kernel, by decide +kernel⟩
/-- the end of a lap: a move is picked and done -/
theorem lap_end {f : Addr} {cdv : Value} {A : Around} {outer : List Env} {s : Shared} {H0 : Hp} {E : XK} (hr : Room 5 (cxOf CX0 P w K mg base lpN "_law_t2_plan" (defScope lPlan) f cdv A outer s H0 E).nox.A) (DP : Df P w K mg base CX0 2 "_law_pick" ["_law_pen_here", "_law_some"] (spPickC K)) (DD : Df P w K mg base CX0 1 "_law_t2_done" ["_law_body", "_law_start", "_law_end"] spLDone) :
    ∃ t, PSs (cxOf CX0 P w K mg base lpN "_law_t2_plan" (defScope lPlan) f cdv A outer s H0 E).nox ((forBody ((defBody lPlan).getD 1 (.Pass ⟨0, 0, 0, 0⟩))).drop 4) t ∧
      ∀ (D : Ends) (H G : Hp) (p c pl bl a2 ml : Addr) (many : Int) (v5 v7 v8 : Option V) (L : List Cell) (m i : Nat) (qs ts : List Addr) (ps : List CellP) (Bs : List (List Cell)) (us : List Addr) (M : List CellP), LpI H p c pl bl L qs ts ps Bs m i G → m < 1000000 → H pl = none → H bl = none → pl ≠ bl → pl ≠ c → bl ≠ c → L.Nodup → Hangs L → L.length ≤ 1000 → i ≤ 1000 →
        G ml = some (.lst (us.map V.ref)) → Paired (fun q c => PairAt G q c) us M → us.length ≤ 100000 → M ≠ [] → (∀ Bl, Bl.Perm (lotAt L (ps.map mvO) (ps.map mvO).length) → ∀ x ∈ M, kindV Bl x.1 x.2 ≠ .non) →
        (∀ G' qs' ts' ps' Bs', LpI H p c pl bl L qs' ts' ps' Bs' (m + 1) (i + 1) G' → D.nx [some (.ref p), some (.ref a2), some (.int many), some (.ref pl), some (.ref bl), v5, some (.ref ml), v7, v8] G') →
        t D [some (.ref p), some (.ref a2), some (.int many), some (.ref pl), some (.ref bl), v5, some (.ref ml), v7, v8] G := by
  refine ⟨_, (pss_cons (ps_expr (pe_bm PySem.F.plainAttrs_list PySem.F.slot_list_append PySem.F.type_list_append mt_append (pv 3) (pa_cons (pe_df DP hr (by rfl) pass0 (pa_cons (pv 0) (pa_cons (pv 6) pa_nil))) pa_nil)))
      (pss_one (ps_expr (pe_bm PySem.F.plainAttrs_list PySem.F.slot_list_append PySem.F.type_list_append mt_append (pv 4) (pa_cons (pe_df DD hr (by rfl) pass0 (pa_cons (pe_ix (ix_listK (K := K) rfl) (pv 4) (pe_un un_neg pe_int) (fun _ _ => rfl)) (pa_cons (pe_ix (ix_tupK (K := K) rfl) (pe_ix (ix_listK (K := K) rfl) (pv 3) (pe_un un_neg pe_int) (fun _ _ => rfl)) pe_int (fun _ _ => rfl)) (pa_cons (pe_ix (ix_tupK (K := K) rfl) (pe_ix (ix_listK (K := K) rfl) (pv 3) (pe_un un_neg pe_int) (fun _ _ => rfl)) pe_int (fun _ _ => rfl)) pa_nil)))) pa_nil))))), ?_⟩
  intro D H G p c pl bl a2 ml many v5 v7 v8 L m i qs ts ps Bs us M I hm hpl hbl npb npc nbc nL hL lL hi em pm lu nM kM kD
  have lM : M.length ≤ 100000 := by rw [← Paired.length pm]; exact lu
  have l1 : 1 ≤ us.length := by
    rw [Paired.length pm]
    cases M with
    | nil => exact absurd rfl nM
    | cons x M => exact Nat.succ_le_succ (Nat.zero_le _)
  have lq : qs.length = ps.length := Paired.length I.pp
  have lps := I.lp
  obtain ⟨ts', tl, Bl, rfl, cBl, pB, aB, ndB, lB, hgB⟩ := I.last nL hL
  refine ⟨_, rfl, .inl ⟨rfl, _, SqL.of I.ep⟩, _, rfl, _, rfl, p, c, ml, m, us.map V.ref, rfl, I.pen, hm, .inl (SqL.of em), by rw [List.length_map]; exact l1, by rw [List.length_map]; omega, fun j x G1 hx hp1 hb1 => ?_⟩
  rw [List.getElem?_map] at hx
  obtain ⟨u, hu, rfl⟩ := Option.map_eq_some_iff.mp hx
  obtain ⟨⟨a, b⟩, hmv, q1, q2, eu, y1, y2⟩ := paired_get pm hu
  have kn := kM Bl pB (a, b) (List.mem_of_getElem? hmv)
  have k1 := kp_pick hb1
  have ek1 := pen_ek I.pen.at k1
  have eu1 := ek1.tup eu
  have y11 := ek1.at y1
  have y21 := ek1.at y2
  have I1 := I.ek k1 hp1
  have npp : pl ≠ p := fun z => by
    obtain ⟨zs, i0, dg, fo, e1, _⟩ := hp1.ex
    rw [← z, I1.ep] at e1
    cases e1
  have nbp : bl ≠ p := fun z => by
    obtain ⟨zs, i0, dg, fo, e1, _⟩ := hp1.ex
    rw [← z, I1.eb] at e1
    cases e1
  refine ⟨pl, _, _, rfl, rfl, I1.ep, by rw [List.length_map, sizeLine_eq]; omega, ?_⟩
  have tu2 := upd_tu (o' := .lst (qs.map V.ref ++ [V.ref u])) I1.ep (by intro xs z; cases z)
  have eb2 : upd G1 pl (.lst (qs.map V.ref ++ [V.ref u])) bl = some (.lst (ts'.map V.ref ++ [V.ref tl])) := by rw [upd_ne (Ne.symm npb), I1.eb, List.map_append]; rfl
  have ep2 : upd G1 pl (.lst (qs.map V.ref ++ [V.ref u])) pl = some (.lst (qs.map V.ref ++ [V.ref u])) := upd_same
  refine ⟨_, rfl, .inl ⟨rfl, _, SqL.of eb2⟩, _, rfl, _, rfl, _, _, _, _, rfl, rfl, SqL.of eb2, atI_last _ _, ?_⟩
  refine ⟨_, rfl, _, rfl, _, _, _, _, rfl, rfl, SqL.of ep2, atI_last _ _, _, _, _, _, rfl, rfl, SqT.of (tu2 _ _ eu1), at0, ?_⟩
  have cB2 : CellsT (upd G1 pl (.lst (qs.map V.ref ++ [V.ref u]))) tl Bl := cellsT_tu (CellsT.ek cBl ek1) tu2
  refine ⟨_, rfl, _, rfl, _, _, _, _, rfl, rfl, SqL.of ep2, atI_last _ _, _, _, _, _, rfl, rfl, SqT.of (tu2 _ _ eu1), at1, tl, q1, q2, Bl, a, b, rfl, cB2, by rw [lB]; exact lL, tu2 _ _ y11, tu2 _ _ y21, fun r G2 C s2 cC pC aC => ?_⟩
  have eb3 := s2 _ _ eb2
  have ep3 := s2 _ _ ep2
  have lt : (ts'.map V.ref ++ [V.ref tl]).length = ps.length + 1 := by
    have h1 := Paired.length I.pb
    have h2 := I.ok.1
    rw [List.length_append] at h1
    rw [List.length_append, List.length_map]
    rw [List.length_map] at h2
    have : ts'.length + 1 = ps.length + 1 := h1.trans h2
    exact this
  refine ⟨bl, _, _, rfl, rfl, eb3, by rw [lt, sizeLine_eq]; omega, ?_⟩
  have tu4 := upd_tu (o' := .lst (ts'.map V.ref ++ [V.ref tl] ++ [V.ref r])) eb3 (by intro xs z; cases z)
  have tuA : ∀ b xs, G1 b = some (.tup xs) → upd G2 bl (.lst (ts'.map V.ref ++ [V.ref tl] ++ [V.ref r])) b = some (.tup xs) := fun b xs e => tu4 _ _ (s2 _ _ (tu2 _ _ e))
  have pairs : ∀ {q : Addr} {x : CellP}, PairAt G1 q x → PairAt (upd G2 bl (.lst (ts'.map V.ref ++ [V.ref tl] ++ [V.ref r]))) q x := fun {q x} ⟨z1, z2, e, g1, g2⟩ => ⟨z1, z2, tuA _ _ e, tuA _ _ g1, tuA _ _ g2⟩
  have mv : moveB (lotAt L (ps.map mvO) (ps.map mvO).length) (mvO (a, b)) = true := by
    show (!decide (kindV _ a b = .non)) = true
    rw [← kindV_cong fun x => pB.mem_iff]
    simpa using kn
  refine kD _ (qs ++ [u]) (ts' ++ [tl] ++ [r]) (ps ++ [(a, b)]) (Bs ++ [C]) ⟨?_, ?_, ?_, ?_, ?_, ?_, ?_, ?_, ?_⟩
  · exact ((hp1.off (Ne.symm npp) (Ne.symm npc)).same s2).off (Ne.symm nbp) (Ne.symm nbc)
  · exact ((((I1.kp).put hpl).trans (Kp.of s2)).put hbl)
  · rw [upd_ne npb, ep3, List.map_append]
    rfl
  · exact (paired_imp (fun _ _ h => pairs h) I1.pp).snoc ⟨q1, q2, tuA _ _ eu1, tuA _ _ y11, tuA _ _ y21⟩
  · rw [upd_same, List.map_append, List.map_append]
    rfl
  · exact (paired_imp (fun _ _ h => cellsT_tu h tuA) I1.pb).snoc (cellsT_tu cC tu4)
  · rw [List.length_append]
    exact Nat.succ_le_succ lps
  · rw [List.map_append]
    exact good_snoc I.good mv
  · rw [List.map_append]
    exact bs_snoc I.ok (pC.trans ((without_perm pB a).append_right [b])) aC
end
end Sq

set_option Elab.async false
set_option linter.all false
set_option maxRecDepth 100000
set_option maxHeartbeats 4000000
/-! The law's plans: the def. -/
namespace Sq
open PySem PySem.Spec PyProof.Rows L2
section
variable {P : Program} {w : World} {K : PySem.W.Frag} {mg : Str → Option Value} {base : Heap} {Ts : List Addr}
theorem ok_lPlan {f : Addr} {fd : FuncData} (F : FnP K "_law_t2_plan" lPlan f fd) (B : Bl mg) (DW : Df P w K mg base CX0 1 "_law_draw" ["_law_pen_here", "_law_many"] spDrawC) (DP : Df P w K mg base CX0 2 "_law_pick" ["_law_pen_here", "_law_some"] (spPickC K)) (DM : Df P w K mg base CX0 5 "_law_t2_moves" ["_law_body"] spLMoves) (DD : Df P w K mg base CX0 1 "_law_t2_done" ["_law_body", "_law_start", "_law_end"] spLDone) :
    FnOk P w K mg base CX0 6 f fd ["_law_pen_here", "_law_body", "_law_many"] spLPlan := by
  refine F.ok scLp (fun vs H Q E h => ?_) (fun cdv A outer s H vs Q E hr h => ?_)
  · obtain ⟨p, t, n, many, L, rfl, _⟩ := h
    rfl
  · obtain ⟨p, t, n, many, L, rfl, hp0, hn, hm20, ct, nL, aL, lL, hang, k⟩ := h
    have h64 := room64 hr
    obtain ⟨c, hp⟩ := hp0.c
    obtain ⟨t2, ht2, key2⟩ := lap_end (f := f) (cdv := cdv) (A := A) (outer := outer) (s := s) (H0 := H) (E := E) hr DP DD
    refine ⟨_, PSs.nox (pss_cons (ps_asg (pe_tup (pa_cons (pe_lst pa_nil) (pa_cons (pe_lst (pa_cons (pv 1) pa_nil)) pa_nil))) (pg_tup (by rfl) (pgs_cons (pg_name (i := 3) scLp.nd rfl (.inr rfl)) (pgs_cons (pg_name (i := 4) scLp.nd rfl (.inl rfl)) pgs_nil))))
      (pss_cons (ps_for PassesOwn.never rfl (pi_range1 (by rfl) B.range (pa_cons (pv 2) pa_nil)) (pg_name (i := 5) scLp.nd rfl (.inl rfl))
      (pss_cons (ps_set (i := 6) scLp.nd rfl (.inl rfl) (pe_df DM hr (by rfl) pass0 (pa_cons (pe_ix (ix_listK (K := K) rfl) (pv 4) (pe_un un_neg pe_int) (fun _ _ => rfl)) pa_nil)))
      (pss_cons (ps_if (pt_cmpR (op_eqK (K := K) rfl h64) (pv 6) (pe_lst pa_nil) (nomark _))
      (pss_one ps_break)
      pss_nil)
      (pss_cons (ps_setLc (i := 7) (own := [("_law_move", 8)]) (g := gName 8) (by rfl) scLp.nd rfl rfl (sw_true rfl rfl rfl (by decide +kernel)) (pi_list (pv 6)) (blkOk_by (N := lpN) (sc := defScope lPlan) (by decide +kernel)) (fun _ _ _ _ _ => pg_name (i := 8) scLp.nd rfl (Or.inl rfl))
        (fun _ _ _ _ _ => (pts_one (PW.pt (pw_and (pt_cmpR (op_neK (K := K) rfl h64) (pv 3) (pe_lst pa_nil) (nomark _)) (pw_and (pt_cmpR (op_eqK (K := K) rfl h64) (pe_ix (ix_tupK (K := K) rfl) (pv 8) pe_int (fun _ _ => rfl)) (pe_ix (ix_tupK (K := K) rfl) (pe_ix (ix_listK (K := K) rfl) (pv 3) (pe_un un_neg pe_int) (fun _ _ => rfl)) pe_int (fun _ _ => rfl)) (nomark _)) (pw_and1 (pt_cmpR (op_neK (K := K) rfl h64) (pe_ix (ix_tupK (K := K) rfl) (pv 8) pe_int (fun _ _ => rfl)) (pe_ix (ix_tupK (K := K) rfl) (pe_ix (ix_listK (K := K) rfl) (pv 3) (pe_un un_neg pe_int) (fun _ _ => rfl)) pe_int (fun _ _ => rfl)) (nomark _)))))))) (fun _ _ _ _ _ => (pv 8)))
      (pss_cons (ps_if (PW.pt (pw_and (pt_cmpR (op_neK (K := K) rfl h64) (pv 7) (pe_lst pa_nil) (nomark _)) (pw_and1 (pt_cmpR op_gt (pe_df DW hr (by rfl) pass0 (pa_cons (pv 0) (pa_cons pe_int pa_nil))) pe_int (nomark _)))))
      (pss_one (ps_set (i := 6) scLp.nd rfl (.inl rfl) (pv 7)))
      pss_nil)
      ht2)))))
      (pss_one (ps_ret (pe_tup (pa_cons (pv 3) (pa_cons (pv 4) pa_nil))))))), ?_⟩
    refine ⟨Nat.zero_le _, fun pl hpl => ⟨_, rfl, one_le, fun bl hbl => ⟨two_le, fun tp htp => ?_⟩⟩⟩
    have s1 := same_new (o := .lst []) hpl
    have s2 := same_new (o := .lst [.ref t]) hbl
    have s3 := same_new (o := .tup [.ref pl, .ref bl]) htp
    have sA := (s1.trans s2).trans s3
    have hblH : H bl = none := s1.free hbl
    have npb : pl ≠ bl := fun z => by rw [← z, upd_same] at hbl; cases hbl
    have ncp := (hp.ne hpl).2
    have ncb := (hp.ne hblH).2
    refine ⟨tp, _, rfl, SqT.of upd_same, rfl, _, _, rfl, _, _, rfl, rfl, ?_⟩
    refine ⟨_, rfl, (many : Int), rfl, by omega, by omega, ?_⟩
    have eN : ((many : Int)).toNat = many := Int.toNat_natCast _
    rw [eN]
    have base0 : LpI H p c pl bl L [] [t] [] [L] n 0 (upd (upd (upd H pl (.lst [])) bl (.lst [.ref t])) tp (.tup [.ref pl, .ref bl])) := by
      refine ⟨hp.same sA, Kp.of sA, s3 _ _ (s2 _ _ upd_same), .nil, s3 _ _ upd_same, .cons (ct.ek (.of sA)) .nil, Nat.le_refl _, fun j m hj => absurd hj (Nat.not_lt_zero _), rfl, fun j X e => ?_⟩
      cases j with
      | zero =>
        have := Option.some.inj e
        subst this
        exact ⟨.refl _, aL⟩
      | succ j => cases e
    refine for_range_fin (lo := 0) (n := many) (fun i σ G => ∃ (qs ts : List Addr) (ps : List CellP) (Bs : List (List Cell)) (m : Nat) (v5 v6 v7 v8 : Option V), m ≤ n + 2 * i ∧ σ = [some (.ref p), some (.ref t), some (.int (many : Int)), some (.ref pl), some (.ref bl), v5, v6, v7, v8] ∧ LpI H p c pl bl L qs ts ps Bs m i G)
      (fun σ G => ∃ (qs ts : List Addr) (ps : List CellP) (Bs : List (List Cell)) (m i : Nat) (v5 v6 v7 v8 : Option V), i ≤ many ∧ m ≤ n + 2 * i ∧ σ = [some (.ref p), some (.ref t), some (.int (many : Int)), some (.ref pl), some (.ref bl), v5, v6, v7, v8] ∧ LpI H p c pl bl L qs ts ps Bs m i G)
      ?_ ⟨[], [t], [], [L], n, _, _, _, _, by omega, rfl, base0⟩ ?_ ?_
    · rintro σ G ⟨qs, ts, ps, Bs, m, i, v5, v6, v7, v8, hi, hm, rfl, I⟩
      refine ⟨_, rfl, _, rfl, two_le, fun u hu => ?_⟩
      have s4 := same_new (o := .tup [.ref pl, .ref bl]) hu
      have J := I.same s4
      exact k u _ pl bl ps Bs m J.pen.at (by omega) J.kp upd_same ⟨qs, J.ep, J.pp⟩ (Nat.le_trans J.lp hi) ⟨ts, J.eb, J.pb⟩ J.good J.ok
    · rintro i σ G Bk hi ⟨qs, ts, ps, Bs, m, v5, v6, v7, v8, hm, rfl, I⟩ bk
      rw [Int.zero_add]
      obtain ⟨ts', tl, Bl, rfl, cBl, pB, aB, ndB, lB, hgB⟩ := I.last nL hang
      have eb : G bl = some (.lst (ts'.map V.ref ++ [V.ref tl])) := by rw [I.eb, List.map_append]; rfl
      refine ⟨_, rfl, _, rfl, _, _, _, _, rfl, rfl, SqL.of eb, atI_last _ _, tl, Bl, rfl, cBl, ndB, aB, by rw [lB]; exact lL, fun ml G1 s1 cm => ?_⟩
      have I1 := I.same s1
      obtain ⟨ms, em, pm⟩ := id cm
      have kn : ∀ x ∈ movesC Bl (Bl.filter fun c => hangsB (without Bl c)), ∀ Bl', Bl'.Perm (lotAt L (ps.map mvO) (ps.map mvO).length) → kindV Bl' x.1 x.2 ≠ .non := fun x hx Bl' pB' => by
        obtain ⟨h1, h2, h3, h4⟩ := mem_moves.mp (show (x.1, x.2) ∈ _ from hx)
        rw [kindV_cong fun y => (pB'.trans pB.symm).mem_iff]
        exact kind_ne.mpr ⟨h4, h3⟩
      have lmv : (movesC Bl (Bl.filter fun c => hangsB (without Bl c))).length ≤ 8000 := by
        have z1 := moves_len Bl (Bl.filter fun c => hangsB (without Bl c))
        have z2 := List.length_filter_le (fun c => hangsB (without Bl c)) Bl
        omega
      have lms : ms.length ≤ 8000 := by rw [Paired.length pm]; exact lmv
      generalize movesC Bl (Bl.filter fun c => hangsB (without Bl c)) = M at cm pm kn lmv
      -- is there a move
      refine ⟨_, rfl, Nat.zero_le _, fun l2 hl2 => ?_⟩
      have s4 := same_new (o := .lst []) hl2
      refine ⟨_, _, (Ek.of s4).dp _ _ cm.dp, .lst (SqL.of upd_same) .nil, lay_pairsL.shaped (by decide), (lay_list (n := 0) (ds := []) (by simp)).shaped (by decide), _, rfl, ?_⟩
      rw [eqv_nilD]
      refine ite2 (fun h1 => ?_) (fun h1 => ?_)
      · exact bk _ _ ⟨qs, _, ps, Bs, m, i, _, _, _, _, Nat.le_of_lt hi, hm, rfl, I1.same s4⟩
      have nM : M ≠ [] := fun z => h1 (by rw [z]; rfl)
      have I2 := I1.same s4
      have em2 := s4 _ _ em
      have pm2 : Paired (fun q c => PairAt (upd G1 l2 (.lst [])) q c) ms M := paired_imp (fun _ _ h => h.same s4) pm
      generalize upd G1 l2 (.lst []) = G2 at I2 em2 pm2
      refine ⟨_, rfl, ml, rfl, ⟨_, SqL.of em2⟩, fun D hD => ?_⟩
      refine lc_sub (walk_list (K := K) (a := ml) (xs := ms.map V.ref)) hD (fun c => c ∈ M) (by rw [List.length_map]; omega) (fun j G _ sm => SqL.of (sm _ _ em2)) ?_ ?_
      · rintro j x G3 G' K1 K0 hj sm ⟨rfl, hx⟩ k1 k0
        rw [List.getElem?_map] at hx
        obtain ⟨u, hu, rfl⟩ := Option.map_eq_some_iff.mp hx
        obtain ⟨⟨a, b⟩, hmv, q1, q2, eu, y1, y2⟩ := paired_get pm2 hu
        have I3 := I2.same sm
        have cp3 : PairsL G' pl ps := ⟨qs, I3.ep, I3.pp⟩
        refine ⟨rfl, _, rfl, Nat.zero_le _, fun l3 hl3 => ?_⟩
        have s5 := same_new (o := .lst []) hl3
        refine ⟨_, _, (Ek.of s5).dp _ _ cp3.dp, .lst (SqL.of upd_same) .nil, lay_pairsL.shaped (by decide), (lay_list (n := 0) (ds := []) (by simp)).shaped (by decide), _, rfl, ?_⟩
        rw [eqv_nilD]
        refine ite2 (fun h2 => ?_) (fun h2 => k0 _ s5)
        have lq : qs.length = ps.length := Paired.length I3.pp
        obtain ⟨qs', ql, rfl⟩ : ∃ qs' ql, qs = qs' ++ [ql] := by
          rcases List.eq_nil_or_concat qs with z | ⟨a, b, z⟩
          · rw [z] at lq
            rw [List.eq_nil_of_length_eq_zero lq.symm] at h2
            exact absurd h2 (by decide)
          · exact ⟨a, b, by rw [z, List.concat_eq_append]⟩
        obtain ⟨⟨a', b'⟩, _, z1, z2, el, w1, w2⟩ := paired_get I3.pp (show (qs' ++ [ql])[qs'.length]? = some ql by rw [List.getElem?_append_right (Nat.le_refl _), Nat.sub_self]; rfl)
        have ep5 := s5 _ _ I3.ep
        rw [List.map_append] at ep5
        have y1' := s5 _ _ (sm _ _ y1)
        have y2' := s5 _ _ (sm _ _ y2)
        have eu' := s5 _ _ (sm _ _ eu)
        have el' := s5 _ _ el
        have w1' := s5 _ _ w1
        have w2' := s5 _ _ w2
        refine ⟨_, rfl, _, _, _, _, rfl, rfl, SqT.of eu', at0, ?_⟩
        refine ⟨_, rfl, _, rfl, _, _, _, _, rfl, rfl, SqL.of ep5, atI_last _ _, _, _, _, _, rfl, rfl, SqT.of el', at1, ?_⟩
        refine ⟨_, _, At.dp y1', At.dp w2', (lay_cell _).shaped (by decide), (lay_cell _).shaped (by decide), _, rfl, ?_⟩
        refine ite2 (fun h3 => ?_) (fun h3 => k0 _ s5)
        refine ⟨_, rfl, _, _, _, _, rfl, rfl, SqT.of eu', at1, ?_⟩
        refine ⟨_, rfl, _, rfl, _, _, _, _, rfl, rfl, SqL.of ep5, atI_last _ _, _, _, _, _, rfl, rfl, SqT.of el', at0, ?_⟩
        refine ⟨_, _, At.dp y2', At.dp w1', (lay_cell _).shaped (by decide), (lay_cell _).shaped (by decide), _, rfl, ?_⟩
        refine ite2 (fun h4 => ?_) (fun h4 => k0 _ s5)
        exact ⟨_, rfl, k1 u (a, b) _ s5 ⟨q1, q2, eu', y1', y2'⟩ (List.mem_of_getElem? hmv)⟩
      · rintro G3 rs cs sm eD lrs pD mD
        rw [List.length_map] at lrs
        have I3 := I2.same sm
        have em3 := sm _ _ em2
        have pm3 : Paired (fun q c => PairAt G3 q c) ms M := paired_imp (fun _ _ h => h.same sm) pm2
        have cD3 : PairsL G3 D cs := ⟨rs, eD, pD⟩
        refine ⟨_, rfl, Nat.zero_le _, fun l3 hl3 => ?_⟩
        have s5 := same_new (o := .lst []) hl3
        refine ⟨_, _, (Ek.of s5).dp _ _ cD3.dp, .lst (SqL.of upd_same) .nil, lay_pairsL.shaped (by decide), (lay_list (n := 0) (ds := []) (by simp)).shaped (by decide), _, rfl, ?_⟩
        rw [eqv_nilD]
        have I4 := I3.same s5
        have em4 := s5 _ _ em3
        have eD4 := s5 _ _ eD
        have pm4 : Paired (fun q c => PairAt (upd G3 l3 (.lst [])) q c) ms M := paired_imp (fun _ _ h => h.same s5) pm3
        have pD4 : Paired (fun q c => PairAt (upd G3 l3 (.lst [])) q c) rs cs := paired_imp (fun _ _ h => h.same s5) pD
        generalize upd G3 l3 (.lst []) = G4 at I4 em4 eD4 pm4 pD4
        refine ite2 (fun h2 => ?_) (fun h2 => ?_)
        · have ncs : cs ≠ [] := fun z => by rw [z] at h2; exact absurd h2 (by decide)
          refine ⟨_, rfl, p, c, m, 3, rfl, I4.pen, by decide, by decide, by omega, fun r5 G5 x0 x1 hp5 hb5 => ?_⟩
          have kp5 := kp_pick hb5
          have ek5 := pen_ek I4.pen.at kp5
          have I5 := I4.ek kp5 hp5
          refine ⟨_, _, rfl, rfl, _, rfl, ?_⟩
          refine ite2 (fun h3 => ?_) (fun h3 => ?_)
          · refine ⟨_, rfl, ?_⟩
            refine key2 _ H G5 p c pl bl t D many _ _ _ L (m + 1) i qs _ ps Bs rs cs I5 (by omega) hpl hblH npb (Ne.symm ncp) (Ne.symm ncb) nL hang lL (by omega) (ek5.lst eD4) (paired_imp (fun _ _ h => h.ek ek5) pD4) (by omega) ncs (fun Bl' pB' x hx => kn x (mD x hx) Bl' pB') fun G' qs' ts2 ps' Bs' J => ⟨qs', ts2, ps', Bs', m + 2, _, _, _, _, by omega, rfl, J⟩
          · refine key2 _ H G5 p c pl bl t ml many _ _ _ L (m + 1) i qs _ ps Bs ms M I5 (by omega) hpl hblH npb (Ne.symm ncp) (Ne.symm ncb) nL hang lL (by omega) (ek5.lst em4) (paired_imp (fun _ _ h => h.ek ek5) pm4) (by omega) nM (fun Bl' pB' x hx => kn x hx Bl' pB') fun G' qs' ts2 ps' Bs' J => ⟨qs', ts2, ps', Bs', m + 2, _, _, _, _, by omega, rfl, J⟩
        · refine iteF ?_
          refine key2 _ H G4 p c pl bl t ml many _ _ _ L m i qs _ ps Bs ms M I4 (by omega) hpl hblH npb (Ne.symm ncp) (Ne.symm ncb) nL hang lL (by omega) em4 pm4 (by omega) nM (fun Bl' pB' x hx => kn x hx Bl' pB') fun G' qs' ts2 ps' Bs' J => ⟨qs', ts2, ps', Bs', m + 1, _, _, _, _, by omega, rfl, J⟩
    · rintro σ G ⟨qs, ts, ps, Bs, m, v5, v6, v7, v8, hm, rfl, I⟩
      exact ⟨qs, ts, ps, Bs, m, many, v5, v6, v7, v8, Nat.le_refl _, hm, rfl, I⟩
end
end Sq

set_option Elab.async false
set_option linter.all false
set_option maxRecDepth 100000
set_option maxHeartbeats 8000000
/-! The law's changed plans. -/
namespace Sq
open PySem PySem.Spec PyProof.Rows L2
/-- a value of a pair: a cell or none, and it can be compared -/
def VO (K : PySem.W.Frag) (H : Hp) (x : V) : Prop := ∃ o d, CellO K H x o ∧ Dp K H x d ∧ Lay 3 d
theorem VO.ek {K : PySem.W.Frag} {H G : Hp} {x : V} (h : VO K H x) (k : Ek H G) : VO K G x := by
  obtain ⟨o, d, a, b, c⟩ := h
  exact ⟨o, d, a.ek k, k.dp _ _ b, c⟩
theorem VO.cell {K : PySem.W.Frag} {H : Hp} {q : Addr} {c : Cell} (h : At H q c) : VO K H (.ref q) := ⟨some c, cD c, ⟨q, rfl, h⟩, h.dp, (lay_cell c).mono (by decide)⟩
theorem VO.odd {K : PySem.W.Frag} {H : Hp} {x : V} {d : PyData} (h : OddQ K H x d) : VO K H x := ⟨none, d, h.cq, h.dp, h.ly⟩
/-- a pair of a changed plan -/
def MvD (K : PySem.W.Frag) (H : Hp) (x : V) : Prop := ∃ (q : Addr) (m : MvO) (d : PyData), x = .ref q ∧ MvAt K H q m ∧ Dp K H x d ∧ Lay 4 d
theorem MvD.ek {K : PySem.W.Frag} {H G : Hp} {x : V} (h : MvD K H x) (k : Ek H G) : MvD K G x := by
  obtain ⟨q, m, d, e, a, b, c⟩ := h
  exact ⟨q, m, d, e, a.ek k, k.dp _ _ b, c⟩
theorem MvD.two {K : PySem.W.Frag} {H : Hp} {q : Addr} {x y : V} (e : H q = some (.tup [x, y])) (hx : VO K H x) (hy : VO K H y) : MvD K H (.ref q) := by
  obtain ⟨o1, d1, a1, b1, c1⟩ := hx
  obtain ⟨o2, d2, a2, b2, c2⟩ := hy
  refine ⟨q, (o1, o2), .tuple [d1, d2], rfl, ⟨x, y, e, a1, a2⟩, .tup (SqT.of e) (.cons b1 (.cons b2 .nil)), lay_tuple fun d hd => ?_⟩
  rcases List.mem_cons.mp hd with z | z
  · exact z ▸ c1
  · exact (List.mem_singleton.mp z) ▸ c2
theorem MvD.pair {K : PySem.W.Frag} {H : Hp} {q : Addr} {c : CellP} (h : PairAt H q c) : MvD K H (.ref q) := by
  obtain ⟨q1, q2, e, a1, a2⟩ := h
  exact .two e (.cell a1) (.cell a2)
def RowOk (K : PySem.W.Frag) (H : Hp) (xs : List V) : Prop := ∀ x ∈ xs, MvD K H x
theorem RowOk.ek {K : PySem.W.Frag} {H G : Hp} {xs : List V} (h : RowOk K H xs) (k : Ek H G) : RowOk K G xs := fun x hx => (h x hx).ek k
theorem RowOk.of {K : PySem.W.Frag} {H : Hp} {qs : List Addr} {ps : List CellP} (pr : Paired (fun q c => PairAt H q c) qs ps) : RowOk K H (qs.map V.ref) := fun x hx => by
  obtain ⟨q, hq, rfl⟩ := List.mem_map.mp hx
  obtain ⟨i, hi⟩ := List.mem_iff_getElem?.mp hq
  obtain ⟨c, _, a⟩ := paired_get pr hi
  exact .pair a
theorem RowOk.take {K : PySem.W.Frag} {H : Hp} {xs : List V} (h : RowOk K H xs) (k : Nat) : RowOk K H (xs.take k) := fun x hx => h x (List.mem_of_mem_take hx)
theorem RowOk.drop {K : PySem.W.Frag} {H : Hp} {xs : List V} (h : RowOk K H xs) (k : Nat) : RowOk K H (xs.drop k) := fun x hx => h x (List.mem_of_mem_drop hx)
theorem RowOk.app {K : PySem.W.Frag} {H : Hp} {xs ys : List V} (h : RowOk K H xs) (k : RowOk K H ys) : RowOk K H (xs ++ ys) := fun x hx => (List.mem_append.mp hx).elim (h x) (k x)
theorem RowOk.one {K : PySem.W.Frag} {H : Hp} {x : V} (h : MvD K H x) : RowOk K H [x] := fun y hy => (List.mem_singleton.mp hy) ▸ h
theorem RowOk.two {K : PySem.W.Frag} {H : Hp} {x y : V} (h : MvD K H x) (k : MvD K H y) : RowOk K H [x, y] := fun z hz => (List.mem_cons.mp hz).elim (fun e => e ▸ h) fun e => (List.mem_singleton.mp e) ▸ k
theorem cut_drop (xs : List V) (k : Nat) : cutV xs (some (k : Int)) none = xs.drop k := by
  unfold cutV
  rw [HT.sIx_none, HT.sIx_nat]
  by_cases h : k ≤ xs.length
  · rw [Nat.min_eq_left h, List.take_of_length_le (by rw [List.length_drop]; exact Nat.le_refl _)]
  · rw [Nat.min_eq_right (by omega), Nat.sub_self, List.take_zero, List.drop_of_length_le (by omega)]
theorem RowOk.dp {K : PySem.W.Frag} {H : Hp} : ∀ {xs : List V}, RowOk K H xs → ∃ ds : List PyData, DpAll K H xs ds ∧ (∀ d ∈ ds, Lay 4 d) ∧ ds.length = xs.length
  | [], _ => ⟨[], .nil, by simp, rfl⟩
  | x :: xs, h => by
    obtain ⟨ds, a, b, c⟩ := RowOk.dp (xs := xs) fun y hy => h y (List.mem_cons_of_mem _ hy)
    obtain ⟨q, m, d, rfl, _, dp, ly⟩ := h x (List.mem_cons_self ..)
    exact ⟨d :: ds, .cons dp a, fun z hz => (List.mem_cons.mp hz).elim (fun e => e ▸ ly) (b z), congrArg Nat.succ c⟩
/-- two lists and the rest of a third, one behind the other -/
theorem cat_end {K : PySem.W.Frag} {σ : L2.St} {G : Hp} {l1 l2 rl : Addr} {zs A M : List V} {te : TE} {j : Nat} {Q : VK} (e1 : G l1 = some (.lst A)) (e2 : G l2 = some (.lst M)) (er : G rl = some (.lst zs)) (hσ : ∀ H R, R (.ref rl) H → tVar 5 σ H R) (hte : ∀ H R, R (.int (j : Int)) H → te σ H R) (len : A.length + M.length + zs.length ≤ 1000)
    (k : ∀ l G', Same G G' → G' l = some (.lst (A ++ M ++ zs.drop j)) → Q (.ref l) G') : rCat (.ref l1) (.ref l2) G fun x H1 => tSl (rSlL K) (tVar 5) (tPart te) tNoPart σ H1 fun y H2 => rCat x y H2 Q := by
  refine ⟨l1, l2, A, M, rfl, rfl, e1, e2, by rw [sizeLine_eq]; omega, fun l3 h3 => ?_⟩
  have s3 := same_new (o := .lst (A ++ M)) h3
  refine hσ _ _ (hte _ _ ⟨_, rfl, rl, zs, rfl, SqL.of (s3 _ _ er), fun l4 h4 => ?_⟩)
  rw [cut_drop]
  have s4 := same_new (o := .lst (zs.drop j)) h4
  refine ⟨l3, l4, _, _, rfl, rfl, s4 _ _ upd_same, upd_same, by rw [List.length_append, List.length_drop, sizeLine_eq]; omega, fun l5 h5 => ?_⟩
  exact k l5 _ ((s3.trans s4).trans (same_new h5)) upd_same
theorem both {T G : Prop} (f : T → G) (t : T) : G := f t
def spChanged (K : PySem.W.Frag) : Sp := fun vs H Q _ => ∃ (p t pl : Addr) (n : Nat) (L : List Cell) (ps : List CellP), vs = [.ref p, .ref t, .ref pl] ∧ PenAt H p n ∧ n ≤ 900000 ∧ CellsT H t L ∧ L ≠ [] ∧ L.length ≤ 1000 ∧ PairsL H pl ps ∧ ps.length ≤ 100 ∧
  ∀ l H' xs n', PenAt H' p n' → n' ≤ n + 10 → Kp [p] H H' → H' l = some (.lst xs) → RowOk K H' xs → xs.length ≤ ps.length + 1 → Q (.ref l) H'
section
variable {P : Program} {w : World} {K : PySem.W.Frag} {mg : Str → Option Value} {base : Heap} {Ts : List Addr}
end
end Sq

set_option Elab.async false
set_option linter.all false
set_option maxRecDepth 100000
set_option maxHeartbeats 8000000
/-! What is told of a plan is told by it alone; the law's turns. -/
namespace Sq
open PySem PySem.Spec PyProof.Rows L2
theorem lay_cellsT8 {cs : List Cell} : Lay 2 (.tuple (cs.map cD)) := lay_tuple fun d hd => by
  obtain ⟨c, _, rfl⟩ := List.mem_map.mp hd
  exact lay_cell c
theorem eqv_self8 {n : Nat} {d : PyData} (h : Lay n d) (k : n ≤ 64 := by decide) : PyData.eqv d d = true := SeqAt.eqv_refl _ (SeqAt.canLay_of_shaped (h.shaped k))
theorem wrong_uniq {L : List Cell} {ms : List MvO} : ∀ {o o' : Option Nat}, WrongIs L ms o → WrongIs L ms o' → o = o'
  | none, none, _, _ => rfl
  | none, some i, h, ⟨_, m, e, k⟩ => by
    have := h i m (List.getElem?_eq_some_iff.mp e).1 e
    rw [k] at this
    cases this
  | some i, none, ⟨_, m, e, k⟩, h => by
    have := h i m (List.getElem?_eq_some_iff.mp e).1 e
    rw [k] at this
    cases this
  | some i, some j, ⟨g1, m1, e1, k1⟩, ⟨g2, m2, e2, k2⟩ => by
    rcases Nat.lt_trichotomy i j with h | h | h
    · have := g2 i m1 h e1
      rw [k1] at this
      cases this
    · rw [h]
    · have := g1 j m2 h e2
      rw [k2] at this
      cases this
theorem bs_uniq {L : List Cell} {ms : List MvO} {n : Nat} {Bs Cs : List (List Cell)} (h : BsOk L ms n Bs) (k : BsOk L ms n Cs) : Bs = Cs := by
  refine List.ext_getElem? fun j => ?_
  by_cases hj : j < n + 1
  · obtain ⟨B, eB⟩ : ∃ B, Bs[j]? = some B := ⟨_, List.getElem?_eq_getElem (by rw [h.1]; exact hj)⟩
    obtain ⟨C, eC⟩ : ∃ C, Cs[j]? = some C := ⟨_, List.getElem?_eq_getElem (by rw [k.1]; exact hj)⟩
    obtain ⟨p1, a1⟩ := h.2 j B eB
    obtain ⟨p2, a2⟩ := k.2 j C eC
    rw [eB, eC, asc_one (p1.trans p2.symm) a1 a2]
  · rw [List.getElem?_eq_none (by rw [h.1]; omega), List.getElem?_eq_none (by rw [k.1]; omega)]
/-- what the law expects of both -/
def dueD (o : Option Nat) (Bs : List (List Cell)) (w : Nat) : PyData := match o with
  | some i => .tuple [.str "not", .str "plan", .int (i : Int)]
  | none => if w = 0 then .tuple [.str "told", bodsD Bs] else .tuple [.str "told", .tuple (((Bs.getLast?).getD []).map cD)]
theorem lay_bods {ps : List (List Cell)} : Lay 3 (bodsD ps) := lay_tuple fun d hd => by
  obtain ⟨p, _, rfl⟩ := List.mem_map.mp hd
  exact lay_cellsT8
theorem lay_due (o : Option Nat) (Bs : List (List Cell)) (w : Nat) : Lay 4 (dueD o Bs w) := by
  unfold dueD
  cases o with
  | some i =>
    refine (lay_tuple (n := 0) fun d hd => ?_).mono (by decide)
    simp only [List.mem_cons, List.not_mem_nil, or_false] at hd
    rcases hd with rfl | rfl | rfl
    · exact lay_str (by decide +kernel)
    · exact lay_str (by decide +kernel)
    · exact lay_int _
  | none =>
    show Lay 4 (if w = 0 then _ else _)
    split
    · refine lay_tuple (n := 3) fun d hd => ?_
      simp only [List.mem_cons, List.not_mem_nil, or_false] at hd
      rcases hd with rfl | rfl
      · exact (lay_str (by decide +kernel)).mono (by decide)
      · exact lay_bods
    · refine lay_tuple (n := 3) fun d hd => ?_
      simp only [List.mem_cons, List.not_mem_nil, or_false] at hd
      rcases hd with rfl | rfl
      · exact (lay_str (by decide +kernel)).mono (by decide)
      · exact lay_cellsT8.mono (by decide)
theorem out_due {w : Nat} {L : List Cell} {ms : List MvO} {d : PyData} {o : Option Nat} {Bs : List (List Cell)} (h : OutP (w : Int) L ms d) (ho : WrongIs L ms o) (hb : BsOk L ms (o.getD ms.length) Bs) : d = dueD o Bs w := by
  cases h with
  | bad h =>
    have e := wrong_uniq ho h
    subst e
    rfl
  | all h g b =>
    have e : o = none := wrong_uniq ho (o' := none) g
    subst e
    rw [bs_uniq hb b]
    unfold dueD
    rw [if_pos (by omega)]
  | fin h g p a =>
    have e : o = none := wrong_uniq ho (o' := none) g
    subst e
    have hb : BsOk L ms ms.length Bs := hb
    have hl : Bs.getLast? = Bs[ms.length]? := by rw [List.getLast?_eq_getElem?, hb.1]; rfl
    obtain ⟨C, eC⟩ : ∃ C, Bs[ms.length]? = some C := ⟨_, List.getElem?_eq_getElem (by rw [hb.1]; omega)⟩
    obtain ⟨p2, a2⟩ := hb.2 _ C eC
    unfold dueD
    rw [if_neg (by omega), hl, eC, asc_one (p.trans p2.symm) a a2]
    rfl
/-- all but lists stays -/
def Nl (H G : Hp) : Prop := ∀ b o, (∀ xs, o ≠ HO.lst xs) → H b = some o → G b = some o
theorem Nl.put {G : Hp} {d : Addr} {xs : List V} {o : HO} (hd : G d = some (.lst xs)) : Nl G (upd G d o) := fun b u n e => by
  rw [upd_ne (fun z => by rw [z, hd] at e; exact n xs (Option.some.inj e).symm)]
  exact e
mutual
def noL : PyData → Bool
  | .list _ => false
  | .tuple ds => noLs ds
  | _ => true
def noLs : List PyData → Bool
  | [] => true
  | d :: ds => noL d && noLs ds
end
mutual
theorem Nl.dp {K : PySem.W.Frag} {H G : Hp} (k : Nl H G) : ∀ (d : PyData) (x : V), noL d = true → Dp K H x d → Dp K G x d
  | .none, _, _, h => by
    cases h
    exact .non
  | .bool b, _, _, h => by
    cases h
    exact .bl b
  | .int i, _, _, h => by
    cases h
    exact .int i
  | .str s, _, _, h => by
    cases h
    exact .str s
  | .list ds, _, n, h => by cases n
  | .tuple ds, _, n, h => by
    cases h with
    | tup h1 h2 =>
      refine .tup ?_ (k.dps ds _ n h2)
      refine h1.elim (fun z => .inl ?_) .inr
      rcases z with z | ⟨o, z⟩
      · exact .inl (k _ _ (fun _ q => nomatch q) z)
      · exact .inr ⟨o, k _ _ (fun _ q => nomatch q) z⟩
  | .dict _, _, _, h => by cases h
theorem Nl.dps {K : PySem.W.Frag} {H G : Hp} (k : Nl H G) : ∀ (ds : List PyData) (xs : List V), noLs ds = true → DpAll K H xs ds → DpAll K G xs ds
  | [], _, _, h => by
    cases h
    exact .nil
  | d :: ds, _, n, h => by
    have n : (noL d && noLs ds) = true := n
    rw [Bool.and_eq_true] at n
    cases h with
    | cons h1 h2 => exact .cons (k.dp d _ n.1 h1) (k.dps ds _ n.2 h2)
end
theorem noLs_of : ∀ {ds : List PyData}, (∀ d ∈ ds, noL d = true) → noLs ds = true
  | [], _ => rfl
  | d :: ds, h => by
    show (noL d && noLs ds) = true
    rw [h d (List.mem_cons_self ..), noLs_of fun x hx => h x (List.mem_cons_of_mem _ hx)]
    rfl
theorem noL_cells {cs : List Cell} : noL (.tuple (cs.map cD)) = true := noLs_of fun d hd => by
  obtain ⟨c, _, rfl⟩ := List.mem_map.mp hd
  rfl
theorem noL_due (o : Option Nat) (Bs : List (List Cell)) (w : Nat) : noL (dueD o Bs w) = true := by
  unfold dueD
  cases o with
  | some i => rfl
  | none =>
    show noL (if w = 0 then _ else _) = true
    split
    · refine noLs_of fun d hd => ?_
      simp only [List.mem_cons, List.not_mem_nil, or_false] at hd
      rcases hd with rfl | rfl
      · rfl
      · refine noLs_of fun d hd => ?_
        obtain ⟨p, _, rfl⟩ := List.mem_map.mp hd
        exact noL_cells
    · refine noLs_of fun d hd => ?_
      simp only [List.mem_cons, List.not_mem_nil, or_false] at hd
      rcases hd with rfl | rfl
      · rfl
      · exact noL_cells
theorem cellsLL_ek {H G : Hp} {l : Addr} {ps : List (List Cell)} (h : CellsLL H l ps) (k : Ek H G) : CellsLL G l ps := by
  obtain ⟨ts, e, pr⟩ := h
  exact ⟨ts, k.lst e, paired_imp (fun _ _ a => CellsT.ek a k) pr⟩
theorem cellsLL_dp {K : PySem.W.Frag} {H : Hp} {l : Addr} {ps : List (List Cell)} (h : CellsLL H l ps) : Dp K H (.ref l) (.list (ps.map fun p => .tuple (p.map cD))) := by
  obtain ⟨ts, e, pr⟩ := h
  exact .lst (SqL.of e) (bods_dps pr)
theorem lay_bodsL {ps : List (List Cell)} : Lay 3 (.list (ps.map fun p => .tuple (p.map cD))) := lay_list fun d hd => by
  obtain ⟨p, _, rfl⟩ := List.mem_map.mp hd
  exact lay_cellsT8
theorem row_pairs {K : PySem.W.Frag} {H : Hp} : ∀ {xs : List V}, RowOk K H xs → ∃ (qs : List Addr) (ms : List MvO), xs = qs.map V.ref ∧ Paired (fun q m => MvAt K H q m) qs ms
  | [], _ => ⟨[], [], rfl, .nil⟩
  | x :: xs, h => by
    obtain ⟨qs, ms, e, pr⟩ := row_pairs (xs := xs) fun y hy => h y (List.mem_cons_of_mem _ hy)
    obtain ⟨q, m, d, rfl, a, _, _⟩ := h x (List.mem_cons_self ..)
    exact ⟨q :: qs, m :: ms, by rw [e]; rfl, .cons a pr⟩
theorem pairs_mv {K : PySem.W.Frag} {H : Hp} {qs : List Addr} {ps : List CellP} (h : Paired (fun q c => PairAt H q c) qs ps) : Paired (fun q m => MvAt K H q m) qs (ps.map mvO) := by
  induction h with
  | nil => exact .nil
  | cons a t ih =>
    obtain ⟨q1, q2, e, a1, a2⟩ := a
    exact .cons ⟨_, _, e, ⟨q1, rfl, a1⟩, ⟨q2, rfl, a2⟩⟩ ih
end Sq

set_option Elab.async false
set_option linter.all false
set_option maxRecDepth 100000
set_option maxHeartbeats 4000000
/-! Supports: tuples of cells in lists; what a support is. -/
namespace Sq
open PySem PySem.Spec PyProof.Rows L2
theorem cs_eqv : ∀ S T : List Cell, PyData.eqv (.tuple (S.map cD)) (.tuple (T.map cD)) = decide (S = T) := by
  have all : ∀ S T : List Cell, PyData.eqvAll (S.map cD) (T.map cD) = decide (S = T) := by
    intro S
    induction S with
    | nil =>
      intro T
      cases T with
      | nil => simp [PyData.eqvAll]
      | cons y T => simp [PyData.eqvAll]
    | cons x S ih =>
      intro T
      cases T with
      | nil => simp [PyData.eqvAll]
      | cons y T =>
        show (PyData.eqv (cD x) (cD y) && PyData.eqvAll (S.map cD) (T.map cD)) = _
        rw [cD_eqv, ih, Bool.eq_iff_iff]
        simp
  intro S T
  have e : PyData.eqv (.tuple (S.map cD)) (.tuple (T.map cD)) = PyData.eqvAll (S.map cD) (T.map cD) := by simp [PyData.eqv]
  rw [e, all]
theorem any_cs (S : List Cell) : ∀ Ss : List (List Cell), (Ss.map fun T => PyData.tuple (T.map cD)).any (fun z => PyData.eqv z (.tuple (S.map cD))) = decide (S ∈ Ss)
  | [] => by simp
  | T :: Ss => by
    rw [List.map_cons, List.any_cons, any_cs S Ss, cs_eqv]
    by_cases h : T = S
    · subst h
      simp
    · have h' : ¬ S = T := fun z => h z.symm
      simp [h, h']
theorem css_can (Ss : List (List Cell)) : PyData.canLayAll0 (Ss.map fun T => PyData.tuple (T.map cD)) = true := (lay_all (n := 2) fun d hd => by
  obtain ⟨c, _, rfl⟩ := List.mem_map.mp hd
  exact lay_cellsT8).1
/-- in, not in, for a tuple of cells and a list of such -/
def rInLL : R2 := fun x y H Q => ∃ (p l : Addr) (S : List Cell) (Ss : List (List Cell)), x = .ref p ∧ y = .ref l ∧ CellsT H p S ∧ CellsLL H l Ss ∧ Q (.bl (decide (S ∈ Ss))) H
def rOutLL : R2 := fun x y H Q => ∃ (p l : Addr) (S : List Cell) (Ss : List (List Cell)), x = .ref p ∧ y = .ref l ∧ CellsT H p S ∧ CellsLL H l Ss ∧ Q (.bl (!decide (S ∈ Ss))) H
theorem op_inLL {X : Cx} (hu : X.A.units + 64 < cLine) : OpR X (compareOp .In) rInLL := by
  rintro pins s σ H x y v u Q I rx ry ⟨p, l, S, Ss, rfl, rfl, cp, cl, q⟩
  obtain ⟨as, r1⟩ := Dp.reads I (.tuple (S.map cD)) _ v cp.dp rx
  obtain ⟨bs, r2⟩ := Dp.reads I (.list (Ss.map fun T => .tuple (T.map cD))) _ u (cellsLL_dp cl) ry
  have l1 := lay_cellsT8 (cs := S)
  refine SeqAt.in_list_reads r2 r1 (css_can Ss) l1.1 ?_ ⟨.bl _, H, I, rfl, ?_⟩
  · have m : min (PyData.depthAll (Ss.map fun T => PyData.tuple (T.map cD))) (PyData.tuple (S.map cD)).depth ≤ 2 := Nat.le_trans (Nat.min_le_right _ _) l1.2
    omega
  · rw [any_cs]
    exact q
theorem op_outLL {X : Cx} (hu : X.A.units + 64 < cLine) : OpR X (compareOp .NotIn) rOutLL := by
  rintro pins s σ H x y v u Q I rx ry ⟨p, l, S, Ss, rfl, rfl, cp, cl, q⟩
  obtain ⟨as, r1⟩ := Dp.reads I (.tuple (S.map cD)) _ v cp.dp rx
  obtain ⟨bs, r2⟩ := Dp.reads I (.list (Ss.map fun T => .tuple (T.map cD))) _ u (cellsLL_dp cl) ry
  have l1 := lay_cellsT8 (cs := S)
  refine SeqAt.notIn_list_reads r2 r1 (css_can Ss) l1.1 ?_ ⟨.bl _, H, I, rfl, ?_⟩
  · have m : min (PyData.depthAll (Ss.map fun T => PyData.tuple (T.map cD))) (PyData.tuple (S.map cD)).depth ≤ 2 := Nat.le_trans (Nat.min_le_right _ _) l1.2
    omega
  · rw [any_cs]
    exact q
/-- two cells as a support -/
def Two (S : List Cell) (x y : Cell) : Prop := S.Perm [x, y] ∧ Asc S
/-- S is a support of the way from s to e, whoever lies at both -/
def SuppOf (L : List Cell) (s e : Cell) (S : List Cell) : Prop :=
  (absI (e.1 - s.1) + absI (e.2 - s.2) = 1 ∧ ∃ g : Int, (g = 1 ∨ g = -1) ∧ (s.1 + g * (e.2 - s.2), s.2 + g * (e.1 - s.1)) ∈ L ∧ (e.1 + g * (e.2 - s.2), e.2 + g * (e.1 - s.1)) ∈ L ∧ Two S (s.1 + g * (e.2 - s.2), s.2 + g * (e.1 - s.1)) (e.1 + g * (e.2 - s.2), e.2 + g * (e.1 - s.1))) ∨
  (absI (e.1 - s.1) = 1 ∧ absI (e.2 - s.2) = 1 ∧ ∃ c : Cell, (((s.1, e.2) ∈ L ∧ (e.1, s.2) ∉ L ∧ c = (s.1, e.2)) ∨ ((e.1, s.2) ∈ L ∧ (s.1, e.2) ∉ L ∧ c = (e.1, s.2))) ∧ S = [c])
theorem supp_place {L : List Cell} {s e : Cell} (sL : s ∈ L) (eL : e ∉ L) : (∃ S, SuppOf L s e S) ↔ byPlace L s e ≠ .non := by
  unfold byPlace SuppOf
  rw [if_neg (by simp [sL, eL])]
  have two : ∀ x y : Cell, ∃ S, Two S x y := fun x y => by
    cases h : cLt y x with
    | false => exact ⟨[x, y], .refl _, by simp [Asc, h]⟩
    | true =>
      refine ⟨[y, x], .swap _ _ _, ?_⟩
      cases q : cLt x y with
      | false => simp [Asc, q]
      | true =>
        unfold cLt at h q
        have h := of_decide_eq_true h
        have q := of_decide_eq_true q
        omega
  constructor
  · rintro ⟨S, ⟨h1, g, hg, m1, m2, _⟩ | ⟨h1, h2, c, hc, _⟩⟩
    · rw [if_pos h1]
      have sl : slidesB L s e = true := by
        unfold slidesB sideB
        rcases hg with rfl | rfl
        · rw [Int.one_mul, Int.one_mul] at m1 m2
          rw [decide_eq_true m1, decide_eq_true m2]
          rfl
        · rw [Int.neg_mul, Int.neg_mul, Int.one_mul, Int.one_mul] at m1 m2
          rw [decide_eq_true m1, decide_eq_true m2, Bool.and_self, Bool.or_true]
      rw [if_pos sl]
      simp
    · rw [if_neg (by omega), if_pos ⟨h1, h2⟩]
      have tu : turnsB L s e = true := by
        unfold turnsB
        rcases hc with ⟨a, b, _⟩ | ⟨a, b, _⟩
        · rw [decide_eq_true a, decide_eq_false b]
          rfl
        · rw [decide_eq_true a, decide_eq_false b]
          rfl
      rw [if_pos tu]
      simp
  · intro h
    by_cases h1 : absI (e.1 - s.1) + absI (e.2 - s.2) = 1
    · rw [if_pos h1] at h
      have sl : slidesB L s e = true := by
        cases q : slidesB L s e with
        | true => rfl
        | false => rw [q] at h; exact absurd rfl h
      unfold slidesB sideB at sl
      rw [Bool.or_eq_true, Bool.and_eq_true, Bool.and_eq_true] at sl
      rcases sl with ⟨a, b⟩ | ⟨a, b⟩
      · obtain ⟨S, hS⟩ := two (s.1 + (1 : Int) * (e.2 - s.2), s.2 + (1 : Int) * (e.1 - s.1)) (e.1 + (1 : Int) * (e.2 - s.2), e.2 + (1 : Int) * (e.1 - s.1))
        exact ⟨S, .inl ⟨h1, 1, .inl rfl, by rw [Int.one_mul, Int.one_mul]; exact of_decide_eq_true a, by rw [Int.one_mul, Int.one_mul]; exact of_decide_eq_true b, hS⟩⟩
      · obtain ⟨S, hS⟩ := two (s.1 + (-1 : Int) * (e.2 - s.2), s.2 + (-1 : Int) * (e.1 - s.1)) (e.1 + (-1 : Int) * (e.2 - s.2), e.2 + (-1 : Int) * (e.1 - s.1))
        exact ⟨S, .inl ⟨h1, -1, .inr rfl, by rw [Int.neg_mul, Int.neg_mul, Int.one_mul, Int.one_mul]; exact of_decide_eq_true a, by rw [Int.neg_mul, Int.neg_mul, Int.one_mul, Int.one_mul]; exact of_decide_eq_true b, hS⟩⟩
    · rw [if_neg h1] at h
      by_cases h2 : absI (e.1 - s.1) = 1 ∧ absI (e.2 - s.2) = 1
      · rw [if_pos h2] at h
        have tu : turnsB L s e = true := by
          cases q : turnsB L s e with
          | true => rfl
          | false => rw [q] at h; exact absurd rfl h
        unfold turnsB at tu
        by_cases a : (s.1, e.2) ∈ L
        · by_cases b : (e.1, s.2) ∈ L
          · rw [decide_eq_true a, decide_eq_true b] at tu
            cases tu
          · exact ⟨[(s.1, e.2)], .inr ⟨h2.1, h2.2, _, .inl ⟨a, b, rfl⟩, rfl⟩⟩
        · by_cases b : (e.1, s.2) ∈ L
          · exact ⟨[(e.1, s.2)], .inr ⟨h2.1, h2.2, _, .inr ⟨b, a, rfl⟩, rfl⟩⟩
          · rw [decide_eq_false a, decide_eq_false b] at tu
            cases tu
      · rw [if_neg h2] at h
        exact absurd rfl h
theorem supp_good {L : List Cell} {s e : Cell} {S : List Cell} (h : SuppOf L s e S) (ne : s ≠ e) : S.Nodup ∧ Asc S ∧ S.length ≤ 2 ∧ S ≠ [] ∧ ∀ x ∈ S, x ∈ L := by
  rcases h with ⟨h1, g, hg, m1, m2, pm, asc⟩ | ⟨h1, h2, c, hc, rfl⟩
  · refine ⟨pm.nodup_iff.mpr ?_, asc, by rw [pm.length_eq]; exact Nat.le_refl 2, fun z => ?_, fun x hx => ?_⟩
    · rw [List.nodup_cons]
      refine ⟨fun z => ne ?_, by simp⟩
      have z := List.mem_singleton.mp z
      obtain ⟨z1, z2⟩ := Prod.mk.inj z
      obtain ⟨s1, s2⟩ := s
      obtain ⟨e1, e2⟩ := e
      simp only at z1 z2
      rw [Prod.mk.injEq]
      omega
    · rw [z] at pm
      have := pm.length_eq
      cases this
    · have := pm.mem_iff.mp hx
      simp only [List.mem_cons, List.not_mem_nil, or_false] at this
      rcases this with rfl | rfl
      · exact m1
      · exact m2
  · refine ⟨by simp, by simp [Asc], Nat.le_succ 1, by simp, fun x hx => ?_⟩
    rw [List.mem_singleton.mp hx]
    rcases hc with ⟨a, _, rfl⟩ | ⟨a, _, rfl⟩ <;> exact a
theorem two_uniq {S T : List Cell} {x y : Cell} (h : Two S x y) (k : Two T x y) : S = T := asc_one (h.1.trans k.1.symm) h.2 k.2
end Sq

set_option Elab.async false
set_option linter.all false
set_option maxRecDepth 100000
set_option maxHeartbeats 8000000
/-! The law's supports, told as they are. -/
namespace Sq
open PySem PySem.Spec PyProof.Rows L2
def lst2 (c : CellP) : List Cell := [c.1, c.2]
theorem pairs_lst2 {G : Hp} : ∀ {us : List Addr} {cs : List CellP}, Paired (fun q c => PairAt G q c) us cs → Paired (fun t S => CellsT G t S) us (cs.map lst2)
  | _, _, .nil => .nil
  | _, _, .cons ⟨q1, q2, e, a1, a2⟩ t => .cons ⟨[q1, q2], e, .cons a1 (.cons a2 .nil)⟩ (pairs_lst2 t)
/-- the side g of the way from a to b has two squares, S -/
def SideS (L : List Cell) (a b : Cell) (g : Int) (S : List Cell) : Prop := (a.1 + g * (b.2 - a.2), a.2 + g * (b.1 - a.1)) ∈ L ∧ (b.1 + g * (b.2 - a.2), b.2 + g * (b.1 - a.1)) ∈ L ∧ Two S (a.1 + g * (b.2 - a.2), a.2 + g * (b.1 - a.1)) (b.1 + g * (b.2 - a.2), b.2 + g * (b.1 - a.1))
def spSuppX (K : PySem.W.Frag) : Sp := fun vs H Q _ => ∃ (d p q : Addr) (L : List Cell) (s e : Cell), vs = [.ref d, .ref p, .ref q] ∧ H d = some (.dT (lotK L)) ∧ At H p s ∧ At H q e ∧
  ∀ l H' Ss, Same H H' → CellsLL H' l Ss → Ss.length ≤ 2 → (∀ S, S ∈ Ss ↔ s ∈ L ∧ e ∉ L ∧ SuppOf L s e S) → Q (.ref l) H'
section
variable {P : Program} {w : World} {K : PySem.W.Frag} {mg : Str → Option Value} {base : Heap}
theorem ok_lSuppX {f : Addr} {fd : FuncData} (F : FnP K "_law_t2_supports" lSupports f fd) (B : Bl mg) : FnOk P w K mg base CX0 1 f fd ["_law_squares", "_law_start", "_law_end"] (spSuppX K) := by
  refine F.ok scSu (fun vs H Q E h => ?_) (fun cdv A outer s H vs Q E hr h => ?_)
  · obtain ⟨d, p, q, L, a, b, rfl, _⟩ := h
    rfl
  · obtain ⟨d, p, q, L, a, b, rfl, ed, ap, aq, k⟩ := h
    have hu := hu_of hr
    have h64 := room64 hr
    -- the loop over both sides and what follows
    obtain ⟨tt, htt, key⟩ : ∃ t, PSs (cxOf CX0 P w K mg base ["_law_squares", "_law_start", "_law_end", "_law_across", "_law_up", "_law_found", "_law_one", "_law_two", "_law_sign"] "_law_t2_supports" (defScope lSupports) f cdv A outer s H E).nox ((defBody lSupports).drop 4) t ∧
        ∀ (D : Ends) (fo : Addr) (G : Hp), Same H G → H fo = none → G fo = some (.lst []) → (∀ l H' Ss, Same H H' → CellsLL H' l Ss → Ss.length ≤ 2 → (∀ S, S ∈ Ss ↔ ∃ g : Int, (g = 1 ∨ g = -1) ∧ SideS L a b g S) → D.rt (.ref l) H') →
          t D [some (.ref d), some (.ref p), some (.ref q), some (.int (b.1 - a.1)), some (.int (b.2 - a.2)), some (.ref fo), none, none, none] G := by
      refine ⟨_, (pss_cons (ps_for PassesOwn.never rfl (pi_list (pe_lst (pa_cons pe_int (pa_cons (pe_un un_neg pe_int) pa_nil)))) (pg_name (i := 8) scSu.nd rfl (.inl rfl))
      (pss_cons (ps_par (i := 6) (j := 7) (by rfl) scSu.nd rfl rfl (by decide) rfl rfl (pa_cons (pe_tup (pa_cons (pe_op op_add (pe_ix ix_tup (pv 1) pe_int (fun _ _ => rfl)) (pe_op op_mul (pv 8) (pv 4))) (pa_cons (pe_op op_add (pe_ix ix_tup (pv 1) pe_int (fun _ _ => rfl)) (pe_op op_mul (pv 8) (pv 3))) pa_nil))) (pa_cons (pe_tup (pa_cons (pe_op op_add (pe_ix ix_tup (pv 2) pe_int (fun _ _ => rfl)) (pe_op op_mul (pv 8) (pv 4))) (pa_cons (pe_op op_add (pe_ix ix_tup (pv 2) pe_int (fun _ _ => rfl)) (pe_op op_mul (pv 8) (pv 3))) pa_nil))) pa_nil)) (by rfl))
        (pss_one (ps_if (PW.pt (pw_and (pt_cmp (pc_din hu (pv 6) (pv 0))) (pw_and1 (pt_cmp (pc_din hu (pv 7) (pv 0))))))
        (pss_one (ps_expr (pe_bm PySem.F.plainAttrs_list PySem.F.slot_list_append PySem.F.type_list_append mt_append (pv 5) (pa_cons (pe_tupleOf (by rfl) B.tuple (pe_callB cr_sortedC (by rfl) B.sorted (by decide +kernel) (pa_cons (pe_lst (pa_cons (pv 6) (pa_cons (pv 7) pa_nil))) pa_nil))) pa_nil))))
        pss_nil))))
      (pss_one (ps_ret (pe_callB (cr_sortedF h64) (by rfl) B.sorted (by decide +kernel) (pa_cons (pv 5) pa_nil))))), ?_⟩
      intro D fo G sG hfo gf kD
      refine ⟨_, rfl, two_le, fun l1 hl1 => ?_⟩
      have u1 := same_new (o := .lst [.int 1, .int (-1)]) hl1
      refine ⟨l1, rfl, ⟨_, SqL.of upd_same⟩, ?_⟩
      refine for_list (K := K) (a := l1) (xs := [(1 : Int), -1].map V.int) (fun i σ G => ∃ (rs : List Addr) (bs : List CellP) (v6 v7 v8 : Option V), σ = [some (.ref d), some (.ref p), some (.ref q), some (.int (b.1 - a.1)), some (.int (b.2 - a.2)), some (.ref fo), v6, v7, v8] ∧ Same H G ∧
        G l1 = some (.lst ([(1 : Int), -1].map V.int)) ∧ G fo = some (.lst (rs.map V.ref)) ∧ rs.length ≤ i ∧ Paired (fun r b => PairAt G r b) rs bs ∧ (∀ S, S ∈ bs.map lst2 ↔ ∃ g ∈ [(1 : Int), -1].take i, SideS L a b g S))
        ⟨[], [], none, none, none, rfl, sG.trans u1, upd_same, u1 _ _ gf, Nat.zero_le _, .nil, fun S => ⟨fun h => absurd h (by simp), fun ⟨g, hg, _⟩ => absurd hg (by simp)⟩⟩ (fun i σ G _ ⟨_, _, _, _, _, _, _, e, _⟩ => SqL.of e) ?_ ?_
      · rintro i x σ G2 hi ⟨rs, bs, v6, v7, v8, rfl, s2, gl, gx, ln, pr, none1⟩
        rw [List.getElem?_map] at hi
        obtain ⟨g, hg, rfl⟩ := Option.map_eq_some_iff.mp hi
        have g1 : g = 1 ∨ g = -1 := by simpa using List.mem_of_getElem? hg
        have i2 : i < 2 := (List.getElem?_eq_some_iff.mp hg).1
        have gb : -(2 ^ 64) < g ∧ g < 2 ^ 64 := by rcases g1 with rfl | rfl <;> decide
        have ap2 := s2 _ _ ap
        have aq2 := s2 _ _ aq
        refine ⟨_, rfl, _, _, _, _, rfl, rfl, SqT.of ap2, at0, _, rfl, _, rfl, _, _, rfl, rfl, .inl gb, _, _, rfl, rfl, ?_⟩
        refine ⟨_, rfl, _, _, _, _, rfl, rfl, SqT.of ap2, at1, _, rfl, _, rfl, _, _, rfl, rfl, .inl gb, _, _, rfl, rfl, two_le, fun p1 hp1 => ?_⟩
        have t1 := same_new (o := .tup [.int (a.1 + g * (b.2 - a.2)), .int (a.2 + g * (b.1 - a.1))]) hp1
        have aq3 := t1 _ _ aq2
        refine ⟨_, rfl, _, _, _, _, rfl, rfl, SqT.of aq3, at0, _, rfl, _, rfl, _, _, rfl, rfl, .inl gb, _, _, rfl, rfl, ?_⟩
        refine ⟨_, rfl, _, _, _, _, rfl, rfl, SqT.of aq3, at1, _, rfl, _, rfl, _, _, rfl, rfl, .inl gb, _, _, rfl, rfl, two_le, fun p2 hp2 => ?_⟩
        have t2 := same_new (o := .tup [.int (b.1 + g * (b.2 - a.2)), .int (b.2 + g * (b.1 - a.1))]) hp2
        have t12 := t1.trans t2
        have a1 : At (upd (upd G2 p1 (.tup [.int (a.1 + g * (b.2 - a.2)), .int (a.2 + g * (b.1 - a.1))])) p2 (.tup [.int (b.1 + g * (b.2 - a.2)), .int (b.2 + g * (b.1 - a.1))])) p1 (a.1 + g * (b.2 - a.2), a.2 + g * (b.1 - a.1)) := t2 _ _ upd_same
        have a2 : At (upd (upd G2 p1 (.tup [.int (a.1 + g * (b.2 - a.2)), .int (a.2 + g * (b.1 - a.1))])) p2 (.tup [.int (b.1 + g * (b.2 - a.2)), .int (b.2 + g * (b.1 - a.1))])) p2 (b.1 + g * (b.2 - a.2), b.2 + g * (b.1 - a.1)) := upd_same
        refine ⟨_, _, rfl, ?_⟩
        show Ends.nx _ _ (upd (upd G2 p1 (.tup [.int (a.1 + g * (b.2 - a.2)), .int (a.2 + g * (b.1 - a.1))])) p2 (.tup [.int (b.1 + g * (b.2 - a.2)), .int (b.2 + g * (b.1 - a.1))]))
        generalize upd (upd G2 p1 (.tup [.int (a.1 + g * (b.2 - a.2)), .int (a.2 + g * (b.1 - a.1))])) p2 (.tup [.int (b.1 + g * (b.2 - a.2)), .int (b.2 + g * (b.1 - a.1))]) = G3 at t12 a1 a2 ⊢
        have ed3 := t12 _ _ (s2 _ _ ed)
        have sb : sideB L a b (sgn a b g) = (decide ((a.1 + g * (b.2 - a.2), a.2 + g * (b.1 - a.1)) ∈ L) && decide ((b.1 + g * (b.2 - a.2), b.2 + g * (b.1 - a.1)) ∈ L)) := rfl
        have tk : [(1 : Int), -1].take (i + 1) = [(1 : Int), -1].take i ++ [g] := take_snoc hg
        -- nothing is appended
        have skip : sideB L a b (sgn a b g) = false → (∀ S, S ∈ bs.map lst2 ↔ ∃ g ∈ [(1 : Int), -1].take (i + 1), SideS L a b g S) := fun hs S => by
          rw [none1 S, tk]
          refine ⟨fun ⟨z, hz, k⟩ => ⟨z, List.mem_append_left _ hz, k⟩, fun ⟨z, hz, k⟩ => (List.mem_append.mp hz).elim (fun m => ⟨z, m, k⟩) fun m => ?_⟩
          rw [List.mem_singleton.mp m] at k
          rw [sb, decide_eq_true k.1, decide_eq_true k.2.1] at hs
          cases hs
        refine ⟨_, rfl, _, rfl, d, _, rfl, dget_lot ed3 a1, _, rfl, ?_⟩
        rw [lot_is]
        refine ite2 (fun h1 => ?_) (fun h1 => ?_)
        · refine ⟨_, rfl, _, rfl, d, _, rfl, dget_lot ed3 a2, _, rfl, ?_⟩
          rw [lot_is]
          refine ite2 (fun h2 => ?_) (fun h2 => ?_)
          · have yes : sideB L a b (sgn a b g) = true := by rw [sb, h1, h2]; rfl
            refine ⟨_, rfl, .inl ⟨rfl, _, SqL.of (t12 _ _ gx)⟩, ?_⟩
            refine ⟨_, rfl, _, rfl, two_le, fun l2 hl2 => ?_⟩
            have w1 := same_new (o := .lst [.ref p1, .ref p2]) hl2
            refine ⟨l2, [p1, p2], _, rfl, SqL.of upd_same, .cons (w1 _ _ a1) (.cons (w1 _ _ a2) .nil), fun so qs' cs' prq pm asc hso => ?_⟩
            have w2 := same_new (o := .lst (qs'.map V.ref)) hso
            refine .inl ⟨so, _, rfl, SqL.of upd_same, fun tp htp => ?_⟩
            have w3 := same_new (o := .tup (qs'.map V.ref)) htp
            have w := (w1.trans w2).trans w3
            have gx3 := w _ _ (t12 _ _ gx)
            obtain ⟨x, y, rfl⟩ : ∃ x y, cs' = [x, y] := by
              have l := pm.length_eq
              match cs', l with
              | [x, y], _ => exact ⟨x, y, rfl⟩
            have pa : PairAt (upd (upd (upd G3 l2 (.lst [.ref p1, .ref p2])) so (.lst (qs'.map V.ref))) tp (.tup (qs'.map V.ref))) tp (x, y) := by
              cases prq with
              | cons b1 r1 =>
                cases r1 with
                | cons b2 r2 =>
                  cases r2
                  exact ⟨_, _, upd_same, w3 _ _ (w2 _ _ b1), w3 _ _ (w2 _ _ b2)⟩
            have nt : tp ≠ fo := fun z => by rw [z, (w1.trans w2) _ _ (t12 _ _ gx)] at htp; cases htp
            refine ⟨fo, _, _, rfl, rfl, gx3, by rw [List.length_map, sizeLine_eq]; omega, ?_⟩
            have nl : l1 ≠ fo := fun z => by
              rw [z, gx] at gl
              have z : rs.map V.ref = [(1 : Int), -1].map V.int := HO.lst.inj (Option.some.inj gl)
              cases rs with
              | nil => cases z
              | cons r rs => cases z
            have off : ∀ {r : Addr} {b : CellP}, PairAt (upd (upd (upd G3 l2 (.lst [.ref p1, .ref p2])) so (.lst (qs'.map V.ref))) tp (.tup (qs'.map V.ref))) r b → PairAt (upd (upd (upd (upd G3 l2 (.lst [.ref p1, .ref p2])) so (.lst (qs'.map V.ref))) tp (.tup (qs'.map V.ref))) fo (.lst (rs.map V.ref ++ [V.ref tp]))) r b := fun h => h.off gx3 (by intro xs z; cases z)
            refine ⟨rs ++ [tp], bs ++ [(x, y)], _, _, _, rfl, same_put ((s2.trans t12).trans w) hfo, ?_, by rw [upd_same, List.map_append]; rfl, by rw [List.length_append]; exact Nat.succ_le_succ ln, (paired_imp (fun _ _ h => off ((h.same t12).same w)) pr).snoc (off pa), fun S => ?_⟩
            · rw [upd_ne nl]
              exact w _ _ (t12 _ _ gl)
            · have new : SideS L a b g [x, y] := ⟨of_decide_eq_true h1, of_decide_eq_true h2, pm, asc⟩
              rw [List.map_append, List.mem_append, none1 S, tk]
              constructor
              · rintro (⟨z, hz, k⟩ | h)
                · exact ⟨z, List.mem_append_left _ hz, k⟩
                · rw [List.mem_singleton.mp h]
                  exact ⟨g, by simp, new⟩
              · rintro ⟨z, hz, k⟩
                rcases List.mem_append.mp hz with m | m
                · exact .inl ⟨z, m, k⟩
                · rw [List.mem_singleton.mp m] at k
                  exact .inr (List.mem_singleton.mpr (two_uniq k.2.2 new.2.2))
          · exact ⟨rs, bs, _, _, _, rfl, s2.trans t12, t12 _ _ gl, t12 _ _ gx, Nat.le_succ_of_le ln, paired_imp (fun _ _ h => h.same t12) pr, skip (by rw [sb, Bool.eq_false_iff.mpr h2, Bool.and_false])⟩
        · exact ⟨rs, bs, _, _, _, rfl, s2.trans t12, t12 _ _ gl, t12 _ _ gx, Nat.le_succ_of_le ln, paired_imp (fun _ _ h => h.same t12) pr, skip (by rw [sb, Bool.eq_false_iff.mpr h1, Bool.false_and])⟩
      · rintro σ G2 ⟨rs, bs, v6, v7, v8, rfl, s2, gl, gx, ln, pr, none1⟩
        refine ⟨_, rfl, fo, _, CellP, pD, bs, (fun x m => ∃ r, x = V.ref r ∧ PairAt G2 r m), rfl, SqL.of gx, paired_mapL V.ref (paired_imp (fun r _ h => ⟨r, rfl, h⟩) pr), fun x b ⟨r, e, h⟩ => e ▸ h.dp, alike_pD, PySem.W.Sortable.tuples (fun b => ⟨_, _, rfl⟩), fun b _ => Nat.le_trans (lay_pD b).2 (by decide), fun ys p2 pr2 hp2 => ?_⟩
        obtain ⟨us, rfl, prR⟩ := refs_of pr2
        have u2 := same_new (o := .lst (us.map V.ref)) hp2
        have lb : bs.length ≤ 2 := by
          have : rs.length ≤ 2 := ln
          rw [← Paired.length pr]
          exact this
        refine kD p2 _ ((bs.mergeSort (PySem.W.dataLe false pD)).map lst2) (s2.trans u2) ⟨us, upd_same, pairs_lst2 (paired_imp (fun _ _ h => h.same u2) prR)⟩ (by rw [List.length_map, List.length_mergeSort]; exact lb) fun S => ?_
        have e1 : S ∈ (bs.mergeSort (PySem.W.dataLe false pD)).map lst2 ↔ S ∈ bs.map lst2 := by
          rw [List.mem_map, List.mem_map]
          exact ⟨fun ⟨c, hc, e⟩ => ⟨c, List.mem_mergeSort.mp hc, e⟩, fun ⟨c, hc, e⟩ => ⟨c, List.mem_mergeSort.mpr hc, e⟩⟩
        rw [e1, none1 S]
        refine ⟨fun ⟨g, hg, k⟩ => ⟨g, by simpa using hg, k⟩, fun ⟨g, hg, k⟩ => ⟨g, by simpa using hg, k⟩⟩
    refine ⟨_, PSs.nox (pss_cons (ps_par (i := 3) (j := 4) (by rfl) scSu.nd rfl rfl (by decide) rfl rfl (pa_cons (pe_op op_sub (pe_ix ix_tup (pv 2) pe_int (fun _ _ => rfl)) (pe_ix ix_tup (pv 1) pe_int (fun _ _ => rfl))) (pa_cons (pe_op op_sub (pe_ix ix_tup (pv 2) pe_int (fun _ _ => rfl)) (pe_ix ix_tup (pv 1) pe_int (fun _ _ => rfl))) pa_nil)) (by rfl))
      (pss_cons (ps_if (PW.pt (pw_or (pt_cmp (pc_dnotin hu (pv 1) (pv 0))) (pw_or (pt_cmp (pc_din hu (pv 2) (pv 0))) (pw_or1 (pt_cmpR op_ne (pe_callB (call_max2 rfl) (by rfl) B.max (by decide +kernel) (pa_cons (pe_callB call_abs (by rfl) B.abs (by decide +kernel) (pa_cons (pv 3) pa_nil)) (pa_cons (pe_callB call_abs (by rfl) B.abs (by decide +kernel) (pa_cons (pv 4) pa_nil)) pa_nil))) pe_int (nomark _))))))
      (pss_one (ps_ret (pe_lst pa_nil)))
      pss_nil)
      (pss_cons (ps_set (i := 5) scSu.nd rfl (.inl rfl) (pe_lst pa_nil))
      (pss_cons (ps_if (PW.pt (pw_and (pt_cmpR op_ne (pv 3) pe_int (nomark _)) (pw_and1 (pt_cmpR op_ne (pv 4) pe_int (nomark _)))))
      (pss_cons (ps_par (i := 6) (j := 7) (by rfl) scSu.nd rfl rfl (by decide) rfl rfl (pa_cons (pe_tup (pa_cons (pe_ix ix_tup (pv 2) pe_int (fun _ _ => rfl)) (pa_cons (pe_ix ix_tup (pv 1) pe_int (fun _ _ => rfl)) pa_nil))) (pa_cons (pe_tup (pa_cons (pe_ix ix_tup (pv 1) pe_int (fun _ _ => rfl)) (pa_cons (pe_ix ix_tup (pv 2) pe_int (fun _ _ => rfl)) pa_nil))) pa_nil)) (by rfl))
        (pss_cons (ps_if (pt_cmpR op_ne (pe_cmp (pc_din hu (pv 6) (pv 0)) rfl) (pe_cmp (pc_din hu (pv 7) (pv 0)) rfl) (nomark _))
        (pss_one (ps_expr (pe_bm PySem.F.plainAttrs_list PySem.F.slot_list_append PySem.F.type_list_append mt_append (pv 5) (pa_cons (pe_ifExp (pt_cmp (pc_din hu (pv 6) (pv 0))) (pe_tup (pa_cons (pv 6) pa_nil)) (pe_tup (pa_cons (pv 7) pa_nil))) pa_nil))))
        pss_nil)
        (pss_one (ps_ret (pv 5)))))
      pss_nil)
      htt)))), ?_⟩
    have empty : ∀ {l : Addr} {G : Hp}, G l = some (.lst []) → CellsLL G l [] := fun h => ⟨[], h, .nil⟩
    refine ⟨_, rfl, _, _, _, _, rfl, rfl, SqT.of aq, at0, _, rfl, _, _, _, _, rfl, rfl, SqT.of ap, at0, _, _, rfl, rfl, ?_⟩
    refine ⟨_, rfl, _, _, _, _, rfl, rfl, SqT.of aq, at1, _, rfl, _, _, _, _, rfl, rfl, SqT.of ap, at1, _, _, rfl, rfl, _, _, rfl, ?_⟩
    refine ⟨_, rfl, _, rfl, d, _, rfl, dget_lot ed ap, _, rfl, ?_⟩
    rw [lot_is]
    refine ite2 (fun hc => ?_) (fun hc => ?_)
    · have hc : decide (a ∈ L) = false := by simpa using hc
      refine ⟨Nat.zero_le _, fun l hl => k l _ [] (same_new hl) (empty upd_same) (Nat.zero_le _) fun S => ⟨fun h => absurd h (by simp), fun ⟨h, _⟩ => ?_⟩⟩
      rw [decide_eq_true h] at hc
      cases hc
    have hc : decide (a ∈ L) = true := by simpa using hc
    refine ⟨_, rfl, _, rfl, d, _, rfl, dget_lot ed aq, _, rfl, ?_⟩
    rw [lot_is]
    refine ite2 (fun hc2 => ?_) (fun hc2 => ?_)
    · refine ⟨Nat.zero_le _, fun l hl => k l _ [] (same_new hl) (empty upd_same) (Nat.zero_le _) fun S => ⟨fun h => absurd h (by simp), fun ⟨_, h, _⟩ => absurd (of_decide_eq_true hc2) h⟩⟩
    have aL : a ∈ L := of_decide_eq_true hc
    have bL : b ∉ L := fun z => hc2 (decide_eq_true z)
    refine ⟨_, rfl, _, rfl, _, rfl, _, rfl, _, _, rfl, rfl, _, rfl, ?_⟩
    refine ite2 (fun h1 => ?_) (fun h1 => ?_)
    · have h1 : ¬ (if absI (b.2 - a.2) > absI (b.1 - a.1) then absI (b.2 - a.2) else absI (b.1 - a.1)) = 1 := fun z => (nb.mp h1) (congrArg V.int z)
      obtain ⟨n1, n2⟩ := not_one h1
      refine ⟨Nat.zero_le _, fun l hl => k l _ [] (same_new hl) (empty upd_same) (Nat.zero_le _) fun S => ⟨fun h => absurd h (by simp), fun ⟨_, _, h⟩ => ?_⟩⟩
      rcases h with ⟨h, _⟩ | ⟨h, h', _⟩
      · exact absurd h n1
      · exact absurd ⟨h, h'⟩ n2
    have h1 : (if absI (b.2 - a.2) > absI (b.1 - a.1) then absI (b.2 - a.2) else absI (b.1 - a.1)) = 1 := Classical.byContradiction fun z => h1 (nb.mpr fun e => z (V.int.inj e))
    have cases1 := max_one h1
    refine ⟨Nat.zero_le _, fun fo hfo => ?_⟩
    have s0 := same_new (o := .lst []) hfo
    refine ⟨_, rfl, rfl, _, rfl, ?_⟩
    have slide : (b.1 - a.1 = 0 ∨ b.2 - a.2 = 0) → ∀ Ss : List (List Cell), (∀ S, S ∈ Ss ↔ ∃ g : Int, (g = 1 ∨ g = -1) ∧ SideS L a b g S) → ∀ S, S ∈ Ss ↔ a ∈ L ∧ b ∉ L ∧ SuppOf L a b S := fun hz Ss hS S => by
      have sum : absI (b.1 - a.1) + absI (b.2 - a.2) = 1 ∧ ¬ (absI (b.1 - a.1) = 1 ∧ absI (b.2 - a.2) = 1) := by
        rcases cases1 with ⟨h, _⟩ | ⟨_, _, n1, n2⟩
        · exact ⟨h, by omega⟩
        · exact absurd hz (fun z => z.elim n1 n2)
      rw [hS S]
      constructor
      · rintro ⟨g, hg, m1, m2, tw⟩
        exact ⟨aL, bL, .inl ⟨sum.1, g, hg, m1, m2, tw⟩⟩
      · rintro ⟨_, _, ⟨_, g, hg, m1, m2, tw⟩ | ⟨h, h', _⟩⟩
        · exact ⟨g, hg, m1, m2, tw⟩
        · exact absurd ⟨h, h'⟩ sum.2
    -- the slides and the turns
    refine ite2 (fun h2 => ?_) (fun h2 => ?_)
    · have h2 : b.1 - a.1 ≠ 0 := fun z => (nb.mp h2) (congrArg V.int z)
      refine ⟨_, rfl, rfl, _, rfl, ?_⟩
      refine ite2 (fun h3 => ?_) (fun h3 => ?_)
      · have h3 : b.2 - a.2 ≠ 0 := fun z => (nb.mp h3) (congrArg V.int z)
        have hb : absI (b.1 - a.1) = 1 ∧ absI (b.2 - a.2) = 1 := by
          rcases cases1 with ⟨_, z | z⟩ | ⟨h, h', _⟩
          · exact absurd z h2
          · exact absurd z h3
          · exact ⟨h, h'⟩
        have turnS : ∀ S, SuppOf L a b S ↔ ∃ c : Cell, (((a.1, b.2) ∈ L ∧ (b.1, a.2) ∉ L ∧ c = (a.1, b.2)) ∨ ((b.1, a.2) ∈ L ∧ (a.1, b.2) ∉ L ∧ c = (b.1, a.2))) ∧ S = [c] := fun S => by
          unfold SuppOf
          constructor
          · rintro (⟨h, _⟩ | ⟨_, _, h⟩)
            · omega
            · exact h
          · exact fun h => .inr ⟨hb.1, hb.2, h⟩
        refine ⟨_, rfl, _, _, _, _, rfl, rfl, SqT.of (s0 _ _ aq), at0, _, rfl, _, _, _, _, rfl, rfl, SqT.of (s0 _ _ ap), at1, two_le, fun p1 hp1 => ?_⟩
        have s1 := same_new (o := .tup [.int b.1, .int a.2]) hp1
        refine ⟨_, rfl, _, _, _, _, rfl, rfl, SqT.of (s1 _ _ (s0 _ _ ap)), at0, _, rfl, _, _, _, _, rfl, rfl, SqT.of (s1 _ _ (s0 _ _ aq)), at1, two_le, fun p2 hp2 => ?_⟩
        have s2 := same_new (o := .tup [.int a.1, .int b.2]) hp2
        have sA := (s0.trans s1).trans s2
        have a1 : At (upd (upd (upd H fo (.lst [])) p1 (.tup [.int b.1, .int a.2])) p2 (.tup [.int a.1, .int b.2])) p1 (b.1, a.2) := s2 _ _ upd_same
        have a2 : At (upd (upd (upd H fo (.lst [])) p1 (.tup [.int b.1, .int a.2])) p2 (.tup [.int a.1, .int b.2])) p2 (a.1, b.2) := upd_same
        have gf : upd (upd (upd H fo (.lst [])) p1 (.tup [.int b.1, .int a.2])) p2 (.tup [.int a.1, .int b.2]) fo = some (.lst []) := s2 _ _ (s1 _ _ upd_same)
        generalize upd (upd (upd H fo (.lst [])) p1 (.tup [.int b.1, .int a.2])) p2 (.tup [.int a.1, .int b.2]) = G at sA a1 a2 gf ⊢
        have eG := sA _ _ ed
        refine ⟨_, _, rfl, _, rfl, _, rfl, d, _, rfl, dget_lot eG a1, _, rfl, _, rfl, d, _, rfl, dget_lot eG a2, rfl, _, rfl, ?_⟩
        rw [lot_is, lot_is]
        -- what is appended
        have app : ∀ (c : Cell) (r tp : Addr), At G r c → G tp = none → (((a.1, b.2) ∈ L ∧ (b.1, a.2) ∉ L ∧ c = (a.1, b.2)) ∨ ((b.1, a.2) ∈ L ∧ (a.1, b.2) ∉ L ∧ c = (b.1, a.2))) → Q (.ref fo) (upd (upd G tp (.tup [.ref r])) fo (.lst ([] ++ [V.ref tp]))) := fun c r tp ar htp tt => by
          have u1 := same_new (o := .tup [.ref r]) htp
          have nt : tp ≠ fo := fun z => by rw [z, gf] at htp; cases htp
          have ar2 : At (upd (upd G tp (.tup [.ref r])) fo (.lst ([] ++ [V.ref tp]))) r c := (show At (upd G tp (.tup [.ref r])) r c from u1 _ _ ar).off (u1 _ _ gf) (by intro xs z; cases z)
          refine k fo _ [[c]] (same_put (sA.trans u1) hfo) ⟨[tp], upd_same, .cons ⟨[r], by rw [upd_ne nt]; exact upd_same, .cons ar2 .nil⟩ .nil⟩ (Nat.le_succ 1) fun S => ?_
          rw [turnS S, List.mem_singleton]
          constructor
          · exact fun e => ⟨aL, bL, c, tt, e⟩
          · rintro ⟨_, _, d, hd, e⟩
            rw [e]
            congr 1
            rcases tt with ⟨x1, x2, e1⟩ | ⟨x1, x2, e1⟩ <;> rcases hd with ⟨y1, y2, e2⟩ | ⟨y1, y2, e2⟩
            · rw [e1, e2]
            · exact absurd y1 x2
            · exact absurd y1 x2
            · rw [e1, e2]
        refine ite2 (fun h4 => ?_) (fun h4 => ?_)
        · have h4 := nb.mp h4
          refine ⟨_, rfl, .inl ⟨rfl, _, SqL.of gf⟩, _, rfl, _, rfl, d, _, rfl, dget_lot eG a1, _, rfl, ?_⟩
          rw [lot_is]
          refine ite2 (fun h5 => ?_) (fun h5 => ?_)
          · refine ⟨_, rfl, (by show 1 ≤ sizeLine; rw [sizeLine_eq]; decide), fun tp htp => ?_⟩
            have u1 := same_new (o := .tup [.ref p1]) htp
            exact ⟨fo, _, _, rfl, rfl, u1 _ _ gf, by show 0 < sizeLine; rw [sizeLine_eq]; decide, _, rfl, app _ p1 tp a1 htp (.inr ⟨of_decide_eq_true h5, fun z => h4 (by rw [h5, decide_eq_true z]), rfl⟩)⟩
          · refine ⟨_, rfl, (by show 1 ≤ sizeLine; rw [sizeLine_eq]; decide), fun tp htp => ?_⟩
            have u1 := same_new (o := .tup [.ref p2]) htp
            exact ⟨fo, _, _, rfl, rfl, u1 _ _ gf, by show 0 < sizeLine; rw [sizeLine_eq]; decide, _, rfl, app _ p2 tp a2 htp (.inl ⟨Classical.byContradiction fun z => h4 (by rw [decide_eq_false z, Bool.eq_false_iff.mpr h5]), fun z => h5 (decide_eq_true z), rfl⟩)⟩
        · have h4 : ¬ ¬ _ := fun z => h4 (nb.mpr z)
          have h4 := V.bl.inj (Classical.not_not.mp h4)
          refine ⟨_, rfl, k fo G [] sA (empty gf) (Nat.zero_le _) fun S => ⟨fun h => absurd h (by simp), fun ⟨_, _, h⟩ => ?_⟩⟩
          obtain ⟨c, ⟨x1, x2, _⟩ | ⟨x1, x2, _⟩, _⟩ := (turnS S).mp h
          · rw [decide_eq_true x1, decide_eq_false x2] at h4
            cases h4
          · rw [decide_eq_true x1, decide_eq_false x2] at h4
            cases h4
      · have h3 : b.2 - a.2 = 0 := Classical.byContradiction fun z => h3 (nb.mpr fun e => z (V.int.inj e))
        exact key _ fo _ s0 hfo upd_same fun l H' Ss sm cl ll hS => k l H' Ss sm cl ll (slide (.inr h3) Ss hS)
    · have h2 : b.1 - a.1 = 0 := Classical.byContradiction fun z => h2 (nb.mpr fun e => z (V.int.inj e))
      exact key _ fo _ s0 hfo upd_same fun l H' Ss sm cl ll hS => k l H' Ss sm cl ll (slide (.inl h2) Ss hS)
end
end Sq

set_option Elab.async false
set_option linter.all false
set_option maxRecDepth 100000
set_option maxHeartbeats 8000000
/-! supports_in. -/
namespace Sq
open PySem PySem.Spec PyProof.Rows L2
def spSuppIn : Sp := fun vs H Q _ => ∃ (d p q : Addr) (L : List Cell) (s e : Cell), vs = [.ref d, .ref p, .ref q] ∧ H d = some (.dT (lotK L)) ∧ At H p s ∧ At H q e ∧
  ∀ l H' Ss, Same H H' → CellsLL H' l Ss → (∀ S, S ∈ Ss ↔ SuppOf L s e S) → Q (.ref l) H'
def gOf (j : Nat) : Int := if j = 0 then 1 else -1
def oneC (a b : Cell) (g : Int) : Cell := (a.1 + g * (b.2 - a.2), a.2 + g * (b.1 - a.1))
def twoC (a b : Cell) (g : Int) : Cell := (b.1 + g * (b.2 - a.2), b.2 + g * (b.1 - a.1))
theorem perm_two {x y a b : Cell} (h : Two [x, y] a b) (L : List Cell) : (x ∈ L ∧ y ∈ L) ↔ (a ∈ L ∧ b ∈ L) := by
  have h1 := fun z => h.1.mem_iff (a := z)
  simp only [List.mem_cons, List.not_mem_nil, or_false] at h1
  constructor
  · rintro ⟨hx, hy⟩
    exact ⟨((h1 a).mpr (.inl rfl)).elim (fun e => e ▸ hx) fun e => e ▸ hy, ((h1 b).mpr (.inr rfl)).elim (fun e => e ▸ hx) fun e => e ▸ hy⟩
  · rintro ⟨ha, hb⟩
    exact ⟨((h1 x).mp (.inl rfl)).elim (fun e => e ▸ ha) fun e => e ▸ hb, ((h1 y).mp (.inr rfl)).elim (fun e => e ▸ ha) fun e => e ▸ hb⟩
theorem supp_slide {L : List Cell} {a b : Cell} (h1 : absI (b.1 - a.1) + absI (b.2 - a.2) = 1) (bs : List CellP) (ln : bs.length = 2) (tw : ∀ j c, bs[j]? = some c → Two (lst2 c) (oneC a b (gOf j)) (twoC a b (gOf j))) (S : List Cell) :
    S ∈ (bs.filter (fun c => decide (c.1 ∈ L ∧ c.2 ∈ L))).map lst2 ↔ SuppOf L a b S := by
  rw [List.mem_map]
  constructor
  · rintro ⟨c, hc, rfl⟩
    obtain ⟨m, hL⟩ := List.mem_filter.mp hc
    have hL := of_decide_eq_true hL
    obtain ⟨j, hj⟩ := List.mem_iff_getElem?.mp m
    have t := tw j c hj
    have := (perm_two t L).mp hL
    exact .inl ⟨h1, gOf j, by unfold gOf; by_cases z : j = 0 <;> simp [z], this.1, this.2, t⟩
  · rintro (⟨_, g, hg, m1, m2, t⟩ | ⟨h, h', _⟩)
    · obtain ⟨j, hj, e⟩ : ∃ j, j < 2 ∧ gOf j = g := by
        rcases hg with rfl | rfl
        · exact ⟨0, by decide, rfl⟩
        · exact ⟨1, by decide, rfl⟩
      subst e
      have jc : j < bs.length := by omega
      have hj2 : bs[j]? = some bs[j] := by simp [jc]
      have t2 := tw j _ hj2
      refine ⟨bs[j], List.mem_filter.mpr ⟨List.getElem_mem jc, decide_eq_true ((perm_two t2 L).mpr ⟨m1, m2⟩)⟩, two_uniq t2 t⟩
    · omega
section
variable {X : Cx} {K : PySem.W.Frag}
theorem pe_tupleOfK {p pos : Pos} {a : Expr} {ta : TE} (e : X.K = K) (hg : Gl X "tuple") (hm : X.mg "tuple" = none) (ha : PE X a ta) (na : starEach [a] X.env = (false, eval a X.env) :: starEach [] X.env := by rfl) :
    PE X (.Call (.Name "tuple" p) [a] [] pos) (tThen ta (kTup K)) := e ▸ pe_tupleOf hg hm ha na
theorem cr_sortedCK (e : X.K = K) : CallR X (.builtin "sorted") (rSortC K) := e ▸ cr_sortedC
end
abbrev siN : List Str := ["lot", "start", "end", "across", "up", "sides", "pairs", "side", "one", "two", "corners", "corner"]
section
variable {P : Program} {w : World} {K : PySem.W.Frag} {mg : Str → Option Value} {base : Heap}
theorem scSI : FnScope siN ["lot", "start", "end"] (defScope gSupportsIn) := ⟨rfl, rfl, rfl, by decide +kernel, rfl, by decide +kernel, by decide +kernel⟩
theorem ok_suppIn {f : Addr} {fd : FuncData} (F : FnP K "supports_in" gSupportsIn f fd) (B : Bl mg) (DS : Df P w K mg base CX0 1 "shifted" ["cell", "by"] spShifted) : FnOk P w K mg base CX0 2 f fd ["lot", "start", "end"] spSuppIn := by
  refine F.ok scSI (fun vs H Q E h => ?_) (fun cdv A outer s H vs Q E hr h => ?_)
  · obtain ⟨d, p, q, L, a, b, rfl, _⟩ := h
    rfl
  · obtain ⟨d, p, q, L, a, b, rfl, ed, ap, aq, k⟩ := h
    have hu := hu_of hr
    refine ⟨_, PSs.nox (pss_cons (ps_set (i := 3) scSI.nd rfl (.inl rfl) (pe_op op_sub (pe_ix (ix_tupK (K := K) rfl) (pv 2) pe_int (fun _ _ => rfl)) (pe_ix (ix_tupK (K := K) rfl) (pv 1) pe_int (fun _ _ => rfl))))
      (pss_cons (ps_set (i := 4) scSI.nd rfl (.inl rfl) (pe_op op_sub (pe_ix (ix_tupK (K := K) rfl) (pv 2) pe_int (fun _ _ => rfl)) (pe_ix (ix_tupK (K := K) rfl) (pv 1) pe_int (fun _ _ => rfl))))
      (pss_cons (ps_if (pt_cmpR op_eq (pe_op op_add (pe_callB call_abs (by rfl) B.abs (by decide +kernel) (pa_cons (pv 3) pa_nil)) (pe_callB call_abs (by rfl) B.abs (by decide +kernel) (pa_cons (pv 4) pa_nil))) pe_int (nomark _))
      (pss_cons (ps_set (i := 5) scSI.nd rfl (.inl rfl) (pe_tup (pa_cons (pe_tup (pa_cons (pv 4) (pa_cons (pv 3) pa_nil))) (pa_cons (pe_tup (pa_cons (pe_un un_neg (pv 4)) (pa_cons (pe_un un_neg (pv 3)) pa_nil))) pa_nil))))
        (pss_cons (ps_setLc (i := 6) (own := [("side", 7)]) (g := gName 7) (tt := tYes) (by rfl) scSI.nd rfl rfl (sw_true rfl rfl rfl (by decide +kernel)) (pi_tup (pv 5)) (blkOk_by (N := siN) (sc := defScope gSupportsIn) (by decide +kernel)) (fun _ _ _ _ _ => pg_name (i := 7) scSI.nd rfl (Or.inl rfl)) (fun _ _ _ _ _ => pts_nil) (fun _ _ _ _ _ => (pe_tupleOfK (K := K) rfl (by rfl) B.tuple (pe_callB (cr_sortedCK (K := K) rfl) (by rfl) B.sorted (by decide +kernel) (pa_cons (pe_lst (pa_cons (pe_df DS hr (by rfl) pass0 (pa_cons (pv 1) (pa_cons (pv 7) pa_nil))) (pa_cons (pe_df DS hr (by rfl) pass0 (pa_cons (pv 2) (pa_cons (pv 7) pa_nil))) pa_nil))) pa_nil)))))
        (pss_one (ps_ret (pe_lc (own := [("one", 8), ("two", 9)]) (g := gTup K 2 (gCons (gName 8) (gCons (gName 9) gNil))) rfl scSI.nd (pi_list (pv 6)) (blkOk_by (N := siN) (sc := defScope gSupportsIn) (by decide +kernel)) (fun _ _ _ _ _ => (pg_tup (by rfl) (pgs_cons (pg_name (i := 8) scSI.nd rfl (.inl rfl)) (pgs_cons (pg_name (i := 9) scSI.nd rfl (.inl rfl)) pgs_nil)))) (fun _ _ _ _ _ => (pts_one (PW.pt (pw_and (pt_cmp (pc_din hu (pv 8) (pv 0))) (pw_and1 (pt_cmp (pc_din hu (pv 9) (pv 0)))))))) (fun _ _ _ _ _ => (pe_tup (pa_cons (pv 8) (pa_cons (pv 9) pa_nil)))))))))
      pss_nil)
      (pss_cons (ps_if (PW.pt (pw_and (pt_cmpR op_eq (pe_callB call_abs (by rfl) B.abs (by decide +kernel) (pa_cons (pv 3) pa_nil)) pe_int (nomark _)) (pw_and1 (pt_cmpR op_eq (pe_callB call_abs (by rfl) B.abs (by decide +kernel) (pa_cons (pv 4) pa_nil)) pe_int (nomark _)))))
      (pss_cons (ps_setLc (i := 10) (own := [("corner", 11)]) (g := gName 11) (by rfl) scSI.nd rfl rfl (sw_true rfl rfl rfl (by decide +kernel)) (pi_tup (pe_tup (pa_cons (pe_tup (pa_cons (pe_ix (ix_tupK (K := K) rfl) (pv 1) pe_int (fun _ _ => rfl)) (pa_cons (pe_ix (ix_tupK (K := K) rfl) (pv 2) pe_int (fun _ _ => rfl)) pa_nil))) (pa_cons (pe_tup (pa_cons (pe_ix (ix_tupK (K := K) rfl) (pv 2) pe_int (fun _ _ => rfl)) (pa_cons (pe_ix (ix_tupK (K := K) rfl) (pv 1) pe_int (fun _ _ => rfl)) pa_nil))) pa_nil)))) (blkOk_by (N := siN) (sc := defScope gSupportsIn) (by decide +kernel)) (fun _ _ _ _ _ => pg_name (i := 11) scSI.nd rfl (Or.inl rfl)) (fun _ _ _ _ _ => (pts_one (pt_cmp (pc_din hu (pv 11) (pv 0))))) (fun _ _ _ _ _ => (pv 11)))
        (pss_one (ps_ret (pe_ifExp (pt_cmpR op_eq (pe_callB call_len_seq (by rfl) B.len PySem.boot_len (pa_cons (pv 10) pa_nil)) pe_int (nomark _)) (pe_lst (pa_cons (pe_tup (pa_cons (pe_ix (ix_listK (K := K) rfl) (pv 10) pe_int (fun _ _ => rfl)) pa_nil)) pa_nil)) (pe_lst pa_nil)))))
      pss_nil)
      (pss_one (ps_ret (pe_lst pa_nil))))))), ?_⟩
    refine ⟨_, rfl, _, _, _, _, rfl, rfl, SqT.of aq, at0, _, rfl, _, _, _, _, rfl, rfl, SqT.of ap, at0, _, _, rfl, rfl, ?_⟩
    refine ⟨_, rfl, _, _, _, _, rfl, rfl, SqT.of aq, at1, _, rfl, _, _, _, _, rfl, rfl, SqT.of ap, at1, _, _, rfl, rfl, ?_⟩
    refine ⟨_, rfl, _, rfl, _, rfl, _, rfl, _, _, rfl, rfl, rfl, _, rfl, ?_⟩
    refine ite2 (fun h1 => ?_) (fun h1 => ?_)
    · have h1 : absI (b.1 - a.1) + absI (b.2 - a.2) = 1 := V.int.inj (of_decide_eq_true h1)
      refine ⟨_, rfl, _, rfl, two_le, fun t1 ht1 => ?_⟩
      have s1 := same_new (o := .tup [.int (b.2 - a.2), .int (b.1 - a.1)]) ht1
      refine ⟨_, rfl, _, rfl, _, rfl, _, rfl, two_le, fun t2 ht2 => ⟨two_le, fun t3 ht3 => ?_⟩⟩
      have s2 := same_new (o := .tup [.int (-(b.2 - a.2)), .int (-(b.1 - a.1))]) ht2
      have s3 := same_new (o := .tup [.ref t1, .ref t2]) ht3
      have s13 := (s1.trans s2).trans s3
      have e3 := upd_same (H := upd (upd H t1 (.tup [.int (b.2 - a.2), .int (b.1 - a.1)])) t2 (.tup [.int (-(b.2 - a.2)), .int (-(b.1 - a.1))])) (a := t3) (o := .tup [.ref t1, .ref t2])
      have e1 := (s2.trans s3) _ _ (upd_same (H := H) (a := t1) (o := .tup [.int (b.2 - a.2), .int (b.1 - a.1)]))
      have e2 := s3 _ _ (upd_same (H := upd H t1 (.tup [.int (b.2 - a.2), .int (b.1 - a.1)])) (a := t2) (o := .tup [.int (-(b.2 - a.2)), .int (-(b.1 - a.1))]))
      have sides : ∀ j x, ([t1, t2].map V.ref)[j]? = some x → ∃ t, x = .ref t ∧ At (upd (upd (upd H t1 (.tup [.int (b.2 - a.2), .int (b.1 - a.1)])) t2 (.tup [.int (-(b.2 - a.2)), .int (-(b.1 - a.1))])) t3 (.tup [.ref t1, .ref t2])) t (gOf j * (b.2 - a.2), gOf j * (b.1 - a.1)) := fun j x hx => by
        match j, hx with
        | 0, hx =>
          have := Option.some.inj hx
          subst this
          refine ⟨t1, rfl, ?_⟩
          unfold gOf
          rw [if_pos rfl, Int.one_mul, Int.one_mul]
          exact e1
        | 1, hx =>
          have := Option.some.inj hx
          subst this
          refine ⟨t2, rfl, ?_⟩
          unfold gOf
          rw [if_neg (by decide), Int.neg_mul, Int.neg_mul, Int.one_mul, Int.one_mul]
          exact e2
      generalize upd (upd (upd H t1 (.tup [.int (b.2 - a.2), .int (b.1 - a.1)])) t2 (.tup [.int (-(b.2 - a.2)), .int (-(b.1 - a.1))])) t3 (.tup [.ref t1, .ref t2]) = G3 at s13 e3 sides
      refine ⟨_, rfl, t3, rfl, ⟨_, SqT.of e3⟩, fun D hD => ?_⟩
      refine lc_it (walk_tup (K := K) (a := t3) (xs := [t1, t2].map V.ref)) (fun i G => Same G3 G ∧ ∃ (rs : List Addr) (bs : List CellP), G D = some (.lst (rs.map V.ref)) ∧ rs.length = i ∧ Paired (fun r c => PairAt G r c) rs bs ∧ ∀ j c, bs[j]? = some c → Two (lst2 c) (oneC a b (gOf j)) (twoC a b (gOf j)))
        ⟨same_new hD, [], [], upd_same, rfl, .nil, fun j c h => by simp at h⟩ (fun i G _ q => SqT.of (q.1 _ _ e3)) ?_ ?_
      · rintro i x G G' hi ⟨sm, rs, bs, gD, ln, pr, tw⟩ ⟨rfl, hx⟩
        obtain ⟨t, rfl, at_⟩ := sides i x hx
        have sHG := s13.trans sm
        refine ⟨rfl, yesT ?_⟩
        refine ⟨_, rfl, _, rfl, p, t, a, _, rfl, sHG _ _ ap, sm _ _ at_, fun c1 hc1 => ?_⟩
        have u1 := same_new (o := .tup (cV (oneC a b (gOf i)))) hc1
        refine ⟨_, rfl, _, rfl, q, t, b, _, rfl, u1 _ _ (sHG _ _ aq), u1 _ _ (sm _ _ at_), fun c2 hc2 => ?_⟩
        have u2 := same_new (o := .tup (cV (twoC a b (gOf i)))) hc2
        refine ⟨two_le, fun l2 hl2 => ?_⟩
        have u3 := same_new (o := .lst [.ref c1, .ref c2]) hl2
        have u := (u1.trans u2).trans u3
        refine ⟨l2, [c1, c2], _, rfl, SqL.of upd_same, .cons (u3 _ _ (u2 _ _ (show At _ c1 (oneC a b (gOf i)) from upd_same))) (.cons (u3 _ _ (show At _ c2 (twoC a b (gOf i)) from upd_same)) .nil), fun so qs' cs' prq pm asc hso => ?_⟩
        have w2 := same_new (o := .lst (qs'.map V.ref)) hso
        refine .inl ⟨so, _, rfl, SqL.of upd_same, fun tp htp => ?_⟩
        have w3 := same_new (o := .tup (qs'.map V.ref)) htp
        have w := (u.trans w2).trans w3
        have gD3 := w _ _ gD
        obtain ⟨x, y, rfl⟩ : ∃ x y, cs' = [x, y] := by
          have l := pm.length_eq
          match cs', l with
          | [x, y], _ => exact ⟨x, y, rfl⟩
        have nD : tp ≠ D := fun z => by rw [z, (u.trans w2) _ _ gD] at htp; cases htp
        refine ⟨_, gD3, by rw [List.length_map, sizeLine_eq, ln]; exact Nat.lt_trans hi (by show 2 < 16777216; decide), same_put (sm.trans w) hD, rs ++ [tp], bs ++ [(x, y)], by rw [upd_same, List.map_append]; rfl, by rw [List.length_append, ln]; rfl, ?_, fun j c hj => ?_⟩
        · have off : ∀ {q : Addr} {c : CellP}, PairAt _ q c → PairAt (upd _ D (.lst (rs.map V.ref ++ [V.ref tp]))) q c := fun h => h.off gD3 (by intro xs z; cases z)
          refine (paired_imp (fun _ _ h => off (h.same w)) pr).snoc (off ?_)
          cases prq with
          | cons b1 r1 =>
            cases r1 with
            | cons b2 r2 =>
              cases r2
              exact ⟨_, _, upd_same, w3 _ _ (w2 _ _ b1), w3 _ _ (w2 _ _ b2)⟩
        · have lb : bs.length = i := by rw [← Paired.length pr, ln]
          by_cases hji : j < i
          · rw [List.getElem?_append_left (by omega)] at hj
            exact tw j c hj
          · rw [List.getElem?_append_right (by omega), lb] at hj
            have : j = i := by
              have := (List.getElem?_eq_some_iff.mp hj).1
              simp at this
              omega
            subst this
            rw [Nat.sub_self] at hj
            obtain rfl := Option.some.inj hj
            exact ⟨pm, asc⟩
      · rintro G ⟨sm, rs, bs, gD, ln, pr, tw⟩
        have sH := s13.trans sm
        have edG := sH _ _ ed
        have ln2 : rs.length = 2 := ln
        have lb : bs.length = 2 := by rw [← Paired.length pr, ln2]
        refine ⟨_, rfl, D, rfl, ⟨_, SqL.of gD⟩, fun D2 hD2 => ?_⟩
        refine lc_pairs (walk_list (K := K) (a := D) (xs := rs.map V.ref)) hD2 (fun j => (bs.take j).filter (fun c => decide (c.1 ∈ L ∧ c.2 ∈ L))) rfl (by rw [List.length_map]; omega) (fun j G5 _ s => SqL.of (s _ _ gD)) ?_ ?_
        · rintro j x G5 G' Kk1 Kk0 hj s8 ⟨rfl, hx⟩ k1 k0
          rw [List.getElem?_map] at hx
          obtain ⟨u, hu2, rfl⟩ := Option.map_eq_some_iff.mp hx
          obtain ⟨c, hc, q1, q2, e0, a1, a2⟩ := paired_get pr hu2
          refine ⟨u, _, rfl, SqT.of (s8 _ _ e0), rfl, _, _, rfl, _, _, rfl, rfl, rfl, ?_⟩
          refine ⟨_, rfl, _, rfl, d, _, rfl, dget_lot (s8 _ _ edG) (s8 _ _ a1), _, rfl, ?_⟩
          rw [lot_is]
          have step : (bs.take (j + 1)).filter (fun c => decide (c.1 ∈ L ∧ c.2 ∈ L)) = (bs.take j).filter (fun c => decide (c.1 ∈ L ∧ c.2 ∈ L)) ++ if c.1 ∈ L ∧ c.2 ∈ L then [c] else [] := by
            rw [take_snoc hc, List.filter_append]
            by_cases z : c.1 ∈ L ∧ c.2 ∈ L
            · rw [if_pos z]
              simp [z.1, z.2]
            · rw [if_neg z]
              have : decide (c.1 ∈ L ∧ c.2 ∈ L) = false := decide_eq_false z
              simp only [List.filter, this]
          refine ite2 (fun h1 => ?_) (fun h1 => ?_)
          · have h1 := of_decide_eq_true h1
            refine ⟨_, rfl, _, rfl, d, _, rfl, dget_lot (s8 _ _ edG) (s8 _ _ a2), _, rfl, ?_⟩
            rw [lot_is]
            refine ite2 (fun h2 => ?_) (fun h2 => ?_)
            · have h2 := of_decide_eq_true h2
              refine ⟨_, rfl, _, rfl, two_le, fun tp htp => ?_⟩
              have s9 := same_new (o := .tup [.ref q1, .ref q2]) htp
              exact k1 tp c _ s9 ⟨q1, q2, upd_same, s9 _ _ (s8 _ _ a1), s9 _ _ (s8 _ _ a2)⟩ (by rw [step, if_pos ⟨h1, h2⟩])
            · exact k0 _ same_refl (by rw [step, if_neg (fun z => h2 (decide_eq_true z.2)), List.append_nil])
          · exact k0 _ same_refl (by rw [step, if_neg (fun z => h1 (decide_eq_true z.1)), List.append_nil])
        · rintro G5 ns s8 gD2 prN
          have eN : bs.take (rs.map V.ref).length = bs := by rw [List.length_map, Paired.length pr, List.take_length]
          rw [eN] at prN
          refine k D2 G5 _ (sH.trans s8) ⟨ns, gD2, pairs_lst2 prN⟩ fun S => ?_
          exact supp_slide h1 bs lb tw S
    · have h1 : ¬ absI (b.1 - a.1) + absI (b.2 - a.2) = 1 := fun z => h1 (decide_eq_true (congrArg V.int z))
      have no : ¬ (absI (b.1 - a.1) = 1 ∧ absI (b.2 - a.2) = 1) → ∀ l, H l = none → Q (.ref l) (upd H l (.lst [])) := fun z l hl => k l _ [] (same_new hl) ⟨[], upd_same, .nil⟩ fun S => ⟨fun h => absurd h (by simp), fun h => by
        rcases h with ⟨h, _⟩ | ⟨h, h', _⟩
        · exact absurd h h1
        · exact absurd ⟨h, h'⟩ z⟩
      refine ⟨_, rfl, _, rfl, rfl, _, rfl, ?_⟩
      refine ite2 (fun h2 => ?_) (fun h2 => ?_)
      · have h2 : absI (b.1 - a.1) = 1 := V.int.inj (of_decide_eq_true h2)
        refine ⟨_, rfl, _, rfl, rfl, _, rfl, ?_⟩
        refine ite2 (fun h3 => ?_) (fun h3 => ?_)
        · have h3 : absI (b.2 - a.2) = 1 := V.int.inj (of_decide_eq_true h3)
          refine ⟨_, rfl, _, _, _, _, rfl, rfl, SqT.of ap, at0, _, rfl, _, _, _, _, rfl, rfl, SqT.of aq, at1, two_le, fun t1 ht1 => ?_⟩
          have s1 := same_new (o := .tup [.int a.1, .int b.2]) ht1
          refine ⟨_, rfl, _, _, _, _, rfl, rfl, SqT.of (s1 _ _ aq), at0, _, rfl, _, _, _, _, rfl, rfl, SqT.of (s1 _ _ ap), at1, two_le, fun t2 ht2 => ⟨two_le, fun t3 ht3 => ?_⟩⟩
          have s2 := same_new (o := .tup [.int b.1, .int a.2]) ht2
          have s3 := same_new (o := .tup [.ref t1, .ref t2]) ht3
          have s13 := (s1.trans s2).trans s3
          have e3 := upd_same (H := upd (upd H t1 (.tup [.int a.1, .int b.2])) t2 (.tup [.int b.1, .int a.2])) (a := t3) (o := .tup [.ref t1, .ref t2])
          have e1 := (s2.trans s3) _ _ (upd_same (H := H) (a := t1) (o := .tup [.int a.1, .int b.2]))
          have e2 := s3 _ _ (upd_same (H := upd H t1 (.tup [.int a.1, .int b.2])) (a := t2) (o := .tup [.int b.1, .int a.2]))
          generalize upd (upd (upd H t1 (.tup [.int a.1, .int b.2])) t2 (.tup [.int b.1, .int a.2])) t3 (.tup [.ref t1, .ref t2]) = G3 at s13 e3 e1 e2
          have prT : Paired (fun r c => At G3 r c) [t1, t2] [(a.1, b.2), (b.1, a.2)] := .cons e1 (.cons e2 .nil)
          refine ⟨t3, rfl, ⟨_, SqT.of e3⟩, fun D hD => ?_⟩
          refine lc_cells (walk_tup (K := K) (a := t3) (xs := [t1, t2].map V.ref)) hD (fun j => ([(a.1, b.2), (b.1, a.2)].take j).filter fun c => decide (c ∈ L)) rfl (by show 2 ≤ 1000000; decide) (fun j G5 _ s => SqT.of (s _ _ e3)) ?_ ?_
          · rintro j x G5 G' Kk1 Kk0 hj s8 ⟨rfl, hx⟩ k1 k0
            rw [List.getElem?_map] at hx
            obtain ⟨u, hu2, rfl⟩ := Option.map_eq_some_iff.mp hx
            obtain ⟨c, hc, ac⟩ := paired_get prT hu2
            refine ⟨rfl, _, rfl, _, rfl, d, _, rfl, dget_lot (s8 _ _ (s13 _ _ ed)) (s8 _ _ ac), _, rfl, ?_⟩
            rw [lot_is]
            refine ite2 (fun h1 => ?_) (fun h1 => ?_)
            · exact ⟨_, rfl, k1 u c _ same_refl (s8 _ _ ac) (by rw [take_snoc hc, List.filter_append]; simp [of_decide_eq_true h1])⟩
            · exact k0 _ same_refl (by
                have hn : c ∉ L := fun z => h1 (decide_eq_true z)
                rw [take_snoc hc, List.filter_append]
                simp [hn])
          · rintro G5 ns s8 gD2 prN
            have turnS : ∀ S, SuppOf L a b S ↔ ∃ c : Cell, (((a.1, b.2) ∈ L ∧ (b.1, a.2) ∉ L ∧ c = (a.1, b.2)) ∨ ((b.1, a.2) ∈ L ∧ (a.1, b.2) ∉ L ∧ c = (b.1, a.2))) ∧ S = [c] := fun S => by
              unfold SuppOf
              constructor
              · rintro (⟨h, _⟩ | ⟨_, _, h⟩)
                · exact absurd h h1
                · exact h
              · exact fun h => .inr ⟨h2, h3, h⟩
            have sH5 := s13.trans s8
            refine ⟨_, rfl, D, _, rfl, .inl (SqL.of gD2), rfl, _, rfl, ?_⟩
            have prN : Paired (fun q c => At G5 q c) ns ([(a.1, b.2), (b.1, a.2)].filter fun c => decide (c ∈ L)) := prN
            refine ite2 (fun h4 => ?_) (fun h4 => ?_)
            · have h4 : ((ns.map V.ref).length : Int) = 1 := V.int.inj (of_decide_eq_true h4)
              have l1 : ns.length = 1 := by rw [List.length_map] at h4; exact_mod_cast h4
              obtain ⟨c, tt, e⟩ : ∃ c : Cell, (((a.1, b.2) ∈ L ∧ (b.1, a.2) ∉ L ∧ c = (a.1, b.2)) ∨ ((b.1, a.2) ∈ L ∧ (a.1, b.2) ∉ L ∧ c = (b.1, a.2))) ∧ ([(a.1, b.2), (b.1, a.2)].filter fun c => decide (c ∈ L)) = [c] := by
                have ll := Paired.length prN
                rw [l1] at ll
                by_cases x : (a.1, b.2) ∈ L
                · by_cases y : (b.1, a.2) ∈ L
                  · simp [x, y] at ll
                  · exact ⟨_, .inl ⟨x, y, rfl⟩, by simp [x, y]⟩
                · by_cases y : (b.1, a.2) ∈ L
                  · exact ⟨_, .inr ⟨y, x, rfl⟩, by simp [x, y]⟩
                  · simp [x, y] at ll
              rw [e] at prN
              obtain ⟨n, rfl⟩ : ∃ n, ns = [n] := by
                match ns, l1 with
                | [n], _ => exact ⟨n, rfl⟩
              cases prN with
              | cons an _ =>
                refine ⟨_, rfl, _, _, _, _, rfl, rfl, SqL.of gD2, at0, (by show 1 ≤ sizeLine; rw [sizeLine_eq]; decide), fun tp htp => ⟨(by show 1 ≤ sizeLine; rw [sizeLine_eq]; decide), fun l hl => ?_⟩⟩
                have s9 := same_new (o := .tup [.ref n]) htp
                have s10 := same_new (o := .lst [.ref tp]) hl
                refine k l _ [[c]] ((sH5.trans s9).trans s10) ⟨[tp], upd_same, .cons ⟨[n], s10 _ _ upd_same, .cons (s10 _ _ (s9 _ _ an)) .nil⟩ .nil⟩ fun S => ?_
                rw [turnS S, List.mem_singleton]
                constructor
                · exact fun e => ⟨c, tt, e⟩
                · rintro ⟨d, hd, e⟩
                  rw [e]
                  congr 1
                  rcases tt with ⟨x1, x2, e1⟩ | ⟨x1, x2, e1⟩ <;> rcases hd with ⟨y1, y2, e2⟩ | ⟨y1, y2, e2⟩
                  · rw [e1, e2]
                  · exact absurd y1 x2
                  · exact absurd y1 x2
                  · rw [e1, e2]
            · have h4 : ¬ ((ns.map V.ref).length : Int) = 1 := fun z => h4 (decide_eq_true (congrArg V.int z))
              refine ⟨Nat.zero_le _, fun l hl => k l _ [] (sH5.trans (same_new hl)) ⟨[], upd_same, .nil⟩ fun S => ⟨fun h => absurd h (by simp), fun h => ?_⟩⟩
              obtain ⟨c, tt, _⟩ := (turnS S).mp h
              refine absurd ?_ h4
              rw [List.length_map, Paired.length prN]
              rcases tt with ⟨x1, x2, e1⟩ | ⟨x1, x2, e1⟩ <;> simp [x1, x2]
        · exact ⟨Nat.zero_le _, no (fun z => h3 (decide_eq_true (congrArg V.int z.2)))⟩
      · exact ⟨Nat.zero_le _, no (fun z => h2 (decide_eq_true (congrArg V.int z.1)))⟩
end
end Sq

set_option Elab.async false
set_option linter.all false
set_option maxRecDepth 100000
set_option maxHeartbeats 8000000
/-! Step; is_witness_in. -/
namespace Sq
open PySem PySem.Spec PyProof.Rows L2
/-- what the class Step must have -/
structure StepF (K : PySem.W.Frag) (C : Addr) : Prop where
  cls : Cls K C
  s : NoAttr K C "start"
  e : NoAttr K C "end"
  u : NoAttr K C "support"
  w : NoAttr K C "witness"
/-- an instance with four attributes -/
def StepV (C : Addr) (H : Hp) (t : Addr) (v1 v2 v3 v4 : V) : Prop := ∃ dx fs, H t = some (.ins C dx fs) ∧ fs.lookup ("start" : Str) = some v1 ∧ fs.lookup ("end" : Str) = some v2 ∧ fs.lookup ("support" : Str) = some v3 ∧ fs.lookup ("witness" : Str) = some v4
theorem StepV.same {C : Addr} {H H' : Hp} {t : Addr} {v1 v2 v3 v4 : V} (h : StepV C H t v1 v2 v3 v4) (k : Same H H') : StepV C H' t v1 v2 v3 v4 := by
  obtain ⟨dx, fs, e, r⟩ := h
  exact ⟨dx, fs, k _ _ e, r⟩
theorem StepV.kt {C : Addr} {Ts : List Addr} {H H' : Hp} {t : Addr} {v1 v2 v3 v4 : V} (h : StepV C H t v1 v2 v3 v4) (k : KT Ts H H') : StepV C H' t v1 v2 v3 v4 := by
  obtain ⟨dx, fs, e, r⟩ := h
  exact ⟨dx, fs, k.get e (fun _ z => nomatch z), r⟩
/-- a step: two cells, two tuples of cells -/
def StepO (C : Addr) (H : Hp) (t : Addr) (s e : Cell) (S W : List Cell) : Prop := ∃ p q r u : Addr, StepV C H t (.ref p) (.ref q) (.ref r) (.ref u) ∧ At H p s ∧ At H q e ∧ CellsT H r S ∧ CellsT H u W
theorem StepO.same {C : Addr} {H H' : Hp} {t : Addr} {s e : Cell} {S W : List Cell} (h : StepO C H t s e S W) (k : Same H H') : StepO C H' t s e S W := by
  obtain ⟨p, q, r, u, h, a1, a2, c1, c2⟩ := h
  exact ⟨p, q, r, u, h.same k, k _ _ a1, k _ _ a2, c1.ek (.of k), c2.ek (.of k)⟩
theorem cellsT_kt {Ts : List Addr} {H H' : Hp} {r : Addr} {S : List Cell} (h : CellsT H r S) (k : KT Ts H H') : CellsT H' r S := by
  obtain ⟨qs, e, pr⟩ := h
  exact ⟨qs, k.tup e, paired_imp (fun _ _ h => k.at h) pr⟩
theorem cellsL_kt {Ts : List Addr} {H H' : Hp} {r : Addr} {S : List Cell} (h : CellsL H r S) (k : KT Ts H H') : CellsL H' r S := by
  obtain ⟨qs, e, pr⟩ := h
  exact ⟨qs, k.lst e, paired_imp (fun _ _ h => k.at h) pr⟩
theorem StepO.kt {C : Addr} {Ts : List Addr} {H H' : Hp} {t : Addr} {s e : Cell} {S W : List Cell} (h : StepO C H t s e S W) (k : KT Ts H H') : StepO C H' t s e S W := by
  obtain ⟨p, q, r, u, h, a1, a2, c1, c2⟩ := h
  exact ⟨p, q, r, u, h.kt k, k.at a1, k.at a2, cellsT_kt c1 k, cellsT_kt c2 k⟩
/-- a locked dict is put back -/
theorem kt_unlock {Ts : List Addr} {H G : Hp} {d : Addr} {u : HO} {od : Obj} (tg : TabsG Ts H) (e : H d = some u) (hu : ∀ ps, u ≠ .tbl ps) (k : KT Ts (upd H d (.frz od u)) G) : KT Ts H (upd G d u) := by
  have nd : ∀ T ∈ Ts, T ≠ d := fun T m z => by
    obtain ⟨ps, e2, _⟩ := tg T m
    rw [z, e] at e2
    exact hu ps (Option.some.inj e2)
  refine ⟨fun b o n eb => ?_, tg, fun T m => ?_⟩
  · by_cases z : b = d
    · rw [z, upd_same, ← e, ← eb, z]
    · rw [upd_ne z]
      exact k.kp b o n (by rw [upd_ne z]; exact eb)
  · obtain ⟨ps, e2, t⟩ := k.tb' T m
    exact ⟨ps, by rw [upd_ne (nd T m)]; exact e2, t⟩
theorem tabs_lock {Ts : List Addr} {H : Hp} {d : Addr} {u o : HO} (tg : TabsG Ts H) (e : H d = some u) (hu : ∀ ps, u ≠ .tbl ps) : TabsG Ts (upd H d o) := fun T m => by
  obtain ⟨ps, e2, t⟩ := tg T m
  refine ⟨ps, ?_, t⟩
  rw [upd_ne]
  · exact e2
  · intro z
    rw [z, e] at e2
    exact hu ps (Option.some.inj e2)
noncomputable def witB (L : List Cell) (s : Cell) (W : List Cell) : Bool := !decide (s ∈ W) && (decide (∀ x ∈ W, x ∈ L) && (hangsB W && decide (∀ x ∈ nearC L s, x ∈ W)))
def spIsWit (C : Addr) (Ts : List Addr) : Sp := fun vs H Q _ => ∃ (d t : Addr) (L : List Cell) (s e : Cell) (S W : List Cell), vs = [.ref d, .ref t] ∧ H d = some (.dT (lotK L)) ∧ StepO C H t s e S W ∧ W.Nodup ∧ W.length ≤ 1000 ∧ TabsG Ts H ∧ ∀ H', KT Ts H H' → Q (.bl (witB L s W)) H'
abbrev iwN : List Str := ["lot", "step", "witness", "square", "near"]
section
variable {P : Program} {w : World} {K : PySem.W.Frag} {mg : Str → Option Value} {base : Heap}
theorem scIW : FnScope iwN ["lot", "step"] (defScope gIsWitnessIn) := ⟨rfl, rfl, rfl, by decide +kernel, rfl, by decide +kernel, by decide +kernel⟩
theorem ok_isWit {f c T C : Addr} {Ts : List Addr} {fd : FuncData} (F : FunC K "is_witness_in" "is_witness_in" (defArgs gIsWitnessIn) (defBody gIsWitnessIn) (defScope gIsWitnessIn) c f fd) (TB : GxR.TabB base mg c T) (mT : T ∈ Ts) (B : Bl mg) (gA : mg "all" = none) (SF : StepF K C)
    (DL : Df P w K mg base CX0 2 "lot_of" ["cells"] spLot) (DH : Df P w K mg base CX0 4 "lot_hangs" ["lot"] spHangs) (DN : Df P w K mg base CX0 2 "near_in" ["lot", "cell"] spNear) :
    FnOk P w K mg base CX0 5 f fd ["lot", "step"] (spIsWit C Ts) := by
  refine F.ok scIW (fun vs H Q E h => ?_) (fun A outer s H vs Q E hr h => ?_)
  · obtain ⟨d, t, L, a, b, S, W, rfl, _⟩ := h
    rfl
  · obtain ⟨d, t, L, a, b, S, W, rfl, ed, st, nW, lW, tg, k⟩ := h
    have hu := hu_of hr
    refine ⟨_, PSs.nox (pss_cons (ps_set (i := 2) scIW.nd rfl (.inr rfl) (pe_df DL hr (by rfl) pass0 (pa_cons (pe_fld (pv 1) rfl) pa_nil)))
      (pss_cons (ps_if (PW.pt (pw_or (pt_cmp (pc_din hu (pe_fld (pv 1) rfl) (pv 2))) (pw_or1 (pt_not (pt_val (pe_lock (pe_allG (X := (cxOf CX0 P w K mg base iwN "is_witness_in" (defScope gIsWitnessIn) f (.ref c) A outer s H E).nox) (own := [("square", 3)]) (g := gName 3) (tt := tYes) (k := 1) rfl (hr.mono (by decide)) scIW.nd TB rfl ⟨blkOk_by (N := iwN) (sc := defScope gIsWitnessIn) (by decide +kernel), rfl, by decide +kernel, by decide +kernel⟩ (pi_keys (pv 2))
        (fun _ _ _ _ _ _ _ => pg_name (i := 3) scIW.nd rfl (Or.inl rfl)) (fun _ _ _ _ _ _ _ _ => pts_nil)
        (fun _ _ _ _ _ _ _ hr1 => pe_cmp (pc_din (hu_of hr1) (pv 3) (pv 0)) rfl)
        (fun _ => rfl) (by rfl) gA)))))))
      (pss_one (ps_ret pe_bl))
      pss_nil)
      (pss_one (ps_ret (pe_and (pe_df DH hr (by rfl) pass0 (pa_cons (pv 2) pa_nil)) (pe_one (pe_allG (X := (cxOf CX0 P w K mg base iwN "is_witness_in" (defScope gIsWitnessIn) f (.ref c) A outer s H E).nox) (own := [("near", 4)]) (g := gName 4) (tt := tYes) (k := 1) rfl (hr.mono (by decide)) scIW.nd TB rfl ⟨blkOk_by (N := iwN) (sc := defScope gIsWitnessIn) (by decide +kernel), rfl, by decide +kernel, by decide +kernel⟩ (pi_list (pe_df DN hr (by rfl) pass0 (pa_cons (pv 0) (pa_cons (pe_fld (pv 1) rfl) pa_nil))))
        (fun _ _ _ _ _ _ _ => pg_name (i := 4) scIW.nd rfl (Or.inl rfl)) (fun _ _ _ _ _ _ _ _ => pts_nil)
        (fun _ _ _ _ _ _ _ hr1 => pe_cmp (pc_din (hu_of hr1) (pv 4) (pv 2)) rfl)
        (fun _ => rfl) (by rfl) gA))))))), ?_⟩
    obtain ⟨p, q, r, u, ⟨dx, fs, et, l1, l2, l3, l4⟩, ap, aq, cS, cW⟩ := st
    refine ⟨_, rfl, t, C, dx, fs, _, rfl, et, SF.cls, SF.w, l4, u, W, rfl, cW, nW, lW, fun dw H1 s1 hdw edw => ?_⟩
    have kt1 := KT.of tg s1
    have ndd : dw ≠ d := fun z => by rw [z, ed] at hdw; cases hdw
    refine ⟨_, rfl, t, C, dx, fs, _, rfl, s1 _ _ et, SF.cls, SF.s, l1, _, rfl, dw, _, rfl, dget_lot edw (s1 _ _ ap), _, rfl, ?_⟩
    rw [lot_is]
    refine ite2 (fun h1 => ?_) (fun h1 => ?_)
    · have e : witB L a W = false := by unfold witB; rw [h1]; rfl
      have := k H1 kt1
      rw [e] at this
      exact this
    have h1 : decide (a ∈ W) = false := by simpa using h1
    refine ⟨dw, _, edw, trivial, fun od => ⟨_, rfl, dw, od, rfl, .inr ⟨_, upd_same, ?_⟩⟩⟩
    have tg2 := tabs_lock (o := .frz od (.dT (lotK W))) kt1.tb' edw (fun _ z => nomatch z)
    refine ⟨tg2 T mT, fun H2 tb => ?_⟩
    refine gen_it walk_keysT (fun i G => KT Ts (upd H1 dw (.frz od (.dT (lotK W)))) G ∧ ∀ x ∈ W.take i, x ∈ L) ⟨.tabbed tg2 mT tb, by simp⟩ (fun i G _ p => p.1.get upd_same (fun _ z => nomatch z)) ?_ ?_
    · rintro i x G G' hi ⟨kp, al⟩ ⟨rfl, ky, v, px, hk, rfl, hp⟩
      obtain ⟨x, hx, ek⟩ : ∃ e, W[i]? = some e ∧ (cK e, V.bl true) = (ky, v) := by
        unfold lotK at hk
        rw [List.getElem?_map] at hk
        exact Option.map_eq_some_iff.mp hk
      cases ek
      have ax : At G' px x := hp
      have edG : G' d = some (.dT (lotK L)) := kp.get (by rw [upd_ne (Ne.symm ndd)]; exact s1 _ _ ed) (fun _ z => nomatch z)
      refine ⟨rfl, yesT ⟨_, rfl, _, rfl, d, _, rfl, dget_lot edG ax, _, rfl, ?_⟩⟩
      rw [lot_is]
      refine ite2 (fun h2 => ?_) (fun h2 => ?_)
      · have n2 : x ∉ L := of_decide_eq_false h2
        have kt2 := kt_unlock kt1.tb' edw (fun _ z => nomatch z) kp
        refine ⟨kp.get upd_same (fun _ z => nomatch z), _, rfl, ?_⟩
        have e : witB L a W = false := by
          unfold witB
          rw [decide_eq_false (p := ∀ x ∈ W, x ∈ L) (fun z => n2 (z x (List.mem_of_getElem? hx))), Bool.false_and, Bool.and_false]
        have := k _ (kt1.trans kt2)
        rw [e] at this
        exact this
      · have y2 : x ∈ L := by simpa using h2
        refine ⟨kp, fun z hz => ?_⟩
        rw [take_snoc hx] at hz
        exact (List.mem_append.mp hz).elim (al z) fun m => by rw [List.mem_singleton.mp m]; exact y2
    · rintro G ⟨kp, al⟩
      have al : ∀ x ∈ W, x ∈ L := fun x hx => al x (by rw [show (lotK W).length = W.length from List.length_map .., List.take_length]; exact hx)
      have kt2 := kt1.trans (kt_unlock kt1.tb' edw (fun _ z => nomatch z) kp)
      refine ⟨kp.get upd_same (fun _ z => nomatch z), _, rfl, ?_⟩
      have edw2 : upd G dw (.dT (lotK W)) dw = some (.dT (lotK W)) := upd_same
      generalize upd G dw (.dT (lotK W)) = G2 at kt2 edw2 ⊢
      refine ⟨_, rfl, dw, W, rfl, edw2, nW, lW, fun G3 s3 => ?_⟩
      have kt3 := kt2.same s3
      have edw3 := s3 _ _ edw2
      refine ⟨_, rfl, ?_⟩
      refine ite2 (fun h3 => ?_) (fun h3 => ?_)
      · refine ⟨_, rfl, _, rfl, t, C, dx, fs, _, rfl, kt3.get et (fun _ z => nomatch z), SF.cls, SF.s, l1, d, p, L, a, rfl, kt3.lot ed, kt3.at ap, fun nl G4 s4 hnl cn => ?_⟩
        have kt4 := kt3.same s4
        have edw4 := s4 _ _ edw3
        obtain ⟨ns, en, pn⟩ := cn
        refine ⟨nl, rfl, ⟨_, SqL.of en⟩, kt4.tb' T mT, fun G5 tb5 => ?_⟩
        refine gen_it (walk_list (K := K) (a := nl) (xs := ns.map V.ref)) (fun i G => KT Ts G4 G ∧ ∀ x ∈ (nearC L a).take i, x ∈ W) ⟨.tabbed kt4.tb' mT tb5, by simp⟩ (fun i G _ p => SqL.of (p.1.lst en)) ?_ ?_
        · rintro i x G G' hi ⟨kp, al2⟩ ⟨rfl, hx⟩
          rw [List.getElem?_map] at hx
          obtain ⟨px, hpx, rfl⟩ := Option.map_eq_some_iff.mp hx
          obtain ⟨x, hx, ax⟩ := paired_get pn hpx
          refine ⟨rfl, yesT ⟨_, rfl, _, rfl, dw, _, rfl, dget_lot (kp.lot edw4) (kp.at ax), _, rfl, ?_⟩⟩
          rw [lot_is]
          refine ite2 (fun h2 => ?_) (fun h2 => ?_)
          · have n2 : x ∉ W := of_decide_eq_false h2
            have e : witB L a W = false := by
              unfold witB
              rw [decide_eq_false (p := ∀ x ∈ nearC L a, x ∈ W) (fun z => n2 (z x (List.mem_of_getElem? hx))), Bool.and_false, Bool.and_false, Bool.and_false]
            have := k _ (kt4.trans kp)
            rw [e] at this
            exact this
          · have y2 : x ∈ W := by simpa using h2
            refine ⟨kp, fun z hz => ?_⟩
            rw [take_snoc hx] at hz
            exact (List.mem_append.mp hz).elim (al2 z) fun m => by rw [List.mem_singleton.mp m]; exact y2
        · rintro G ⟨kp, al2⟩
          have al2 : ∀ x ∈ nearC L a, x ∈ W := fun x hx => al2 x (by rw [show (ns.map V.ref).length = (nearC L a).length from by rw [List.length_map, Paired.length pn], List.take_length]; exact hx)
          have e : witB L a W = true := by
            unfold witB
            rw [h1, h3, decide_eq_true al, decide_eq_true al2]
            rfl
          have := k _ (kt4.trans kp)
          rw [e] at this
          exact this
      · have h3 : hangsB W = false := by simpa using h3
        have e : witB L a W = false := by
          unfold witB
          rw [h3, Bool.false_and, Bool.and_false, Bool.and_false]
        have := k _ kt3
        rw [e] at this
        exact this
end
end Sq

set_option Elab.async false
set_option linter.all false
set_option maxRecDepth 100000
set_option maxHeartbeats 8000000
/-! Step made; holds_in, holds, first_loose. -/
namespace Sq
open PySem PySem.Spec PyProof.Rows L2
abbrev gStepI : Stmt := inClass (top 10) 0
abbrev stN : List Str := ["self", "start", "end", "support", "witness"]
def spStepI (C : Addr) : Sp := fun vs H Q _ => ∃ (x dx : Addr) (v1 v2 v3 v4 : V), vs = [.ref x, v1, v2, v3, v4] ∧ H x = some (.ins C dx []) ∧
  ∀ fs, fs.lookup ("start" : Str) = some v1 → fs.lookup ("end" : Str) = some v2 → fs.lookup ("support" : Str) = some v3 → fs.lookup ("witness" : Str) = some v4 → Q .non (upd H x (.ins C dx fs))
/-- Step may be made by its name -/
structure MkS (P : Program) (w : World) (K : PySem.W.Frag) (mg : Str → Option Value) (base : Heap) (C : Addr) : Prop where
  ex : ∃ (f : Addr) (fd : FuncData), Mk K C f ∧ FnOk P w K mg base CX0 1 f fd stN (spStepI C) ∧ mg "Step" = some (.ref C) ∧ Binds K fd stN []
theorem upd_twice {H : Hp} {x : Addr} {o o' : HO} : upd (upd H x o) x o' = upd H x o' := by
  funext b
  by_cases h : b = x
  · subst h
    rw [upd_same, upd_same]
  · rw [upd_ne h, upd_ne h, upd_ne h]
section
variable {P : Program} {w : World} {K : PySem.W.Frag} {mg : Str → Option Value} {base : Heap}
theorem scSI2 : FnScope stN stN (defScope gStepI) := ⟨rfl, rfl, rfl, by decide +kernel, rfl, by decide +kernel, by decide +kernel⟩
theorem ok_stepI {f C : Addr} {fd : FuncData} (F : FunD K "__init__" "Step.__init__" (defArgs gStepI) (defBody gStepI) (defScope gStepI) [] [] f fd) (SF : StepF K C) : FnOk P w K mg base CX0 1 f fd stN (spStepI C) := by
  refine F.ok scSI2 (fun vs H Q E h => ?_) (fun cdv A outer s H vs Q E hr h => ?_)
  · obtain ⟨x, dx, v1, v2, v3, v4, rfl, _⟩ := h
    rfl
  · obtain ⟨x, dx, v1, v2, v3, v4, rfl, e, k⟩ := h
    refine ⟨_, PSs.nox (pss_cons (ps_fld (pv 0) (pv 1) (by rfl)) (pss_cons (ps_fld (pv 0) (pv 2) (by rfl)) (pss_cons (ps_fld (pv 0) (pv 3) (by rfl)) (pss_one (ps_fld (pv 0) (pv 4) (by rfl)))))), ?_⟩
    refine ⟨_, rfl, _, rfl, x, C, dx, [], rfl, e, SF.cls, SF.s, by decide, ?_⟩
    refine ⟨_, rfl, _, rfl, x, C, dx, _, rfl, upd_same, SF.cls, SF.e, (by have a1 := length_putF "start" v1 []; simp only [List.length_nil] at a1; omega), ?_⟩
    refine ⟨_, rfl, _, rfl, x, C, dx, _, rfl, upd_same, SF.cls, SF.u, (by have a1 := length_putF "start" v1 []; have a2 := length_putF "end" v2 (putF "start" v1 []); simp only [List.length_nil] at a1; omega), ?_⟩
    refine ⟨_, rfl, _, rfl, x, C, dx, _, rfl, upd_same, SF.cls, SF.w, (by have a1 := length_putF "start" v1 []; have a2 := length_putF "end" v2 (putF "start" v1 []); have a3 := length_putF "support" v3 (putF "end" v2 (putF "start" v1 [])); simp only [List.length_nil] at a1; omega), ?_⟩
    rw [upd_twice, upd_twice, upd_twice]
    refine k _ ?_ ?_ ?_ ?_
    · simp only [lookup_putF]
      rw [if_neg (by decide), if_neg (by decide), if_neg (by decide)]
      exact if_pos trivial
    · simp only [lookup_putF]
      rw [if_neg (by decide), if_neg (by decide)]
      exact if_pos trivial
    · simp only [lookup_putF]
      rw [if_neg (by decide)]
      exact if_pos trivial
    · simp only [lookup_putF]
      exact if_pos trivial
end
/-- Step(..), its reading -/
theorem step_make {C : Addr} {H : Hp} {Q : VK} {E : XK} {v1 v2 v3 v4 : V} (k : ∀ t H', Same H H' → H t = none → StepV C H' t v1 v2 v3 v4 → Q (.ref t) H') : ∀ x dx, H x = none → H dx = none → dx ≠ x →
    spStepI C (.ref x :: ([v1, v2, v3, v4] ++ [])) (upd (upd H dx (.own x)) x (.ins C dx [])) (fun v H2 => v = .non ∧ Q (.ref x) H2) E := fun x dx hx hdx ne => by
  refine ⟨x, dx, v1, v2, v3, v4, rfl, upd_same, fun fs l1 l2 l3 l4 => ⟨rfl, ?_⟩⟩
  rw [upd_twice]
  refine k x _ (same_put (same_new hdx) hx) hx ⟨dx, fs, upd_same, l1, l2, l3, l4⟩
theorem step_one {C : Addr} {H : Hp} {QQ : VK} {E : XK} {v1 v2 v3 v4 : V} {x dx : Addr} (hx : H x = none) (hdx : H dx = none) (k : ∀ H', Same H H' → H x = none → StepV C H' x v1 v2 v3 v4 → QQ .non H') :
    spStepI C (.ref x :: ([v1, v2, v3, v4] ++ [])) (upd (upd H dx (.own x)) x (.ins C dx [])) QQ E := by
  refine ⟨x, dx, v1, v2, v3, v4, rfl, upd_same, fun fs l1 l2 l3 l4 => ?_⟩
  rw [upd_twice]
  exact k _ (same_put (same_new hdx) hx) hx ⟨dx, fs, upd_same, l1, l2, l3, l4⟩
section
variable {X : Cx} {j : Nat} {C : Addr} {p pos : Pos} {e : Expr} {es : List Expr} {t : TA}
theorem pe_step (M : MkS X.prog X.w X.K X.mg X.base C) (hr : Room j X.A) (hg : Gl X "Step") (ha : PA X (e :: es) t) (hj : 2 ≤ j := by decide)
    (he : starEach (e :: es) X.env = (false, eval e X.env) :: starEach es X.env := by rfl) (hpl : (backTo pos (starEach es X.env)).any (·.1) = false := by rfl) :
    PE X (.Call (.Name "Step" p) (e :: es) [] pos) (tMake C (spStepI C) [] E0 t) := by
  obtain ⟨f, fd, mk, F, hm, b⟩ := M.ex
  exact pe_make (E := E0) mk F (hr.mono hj) hg hm b .nil pass0 ha (by decide) he hpl
end
noncomputable def suppB (L : List Cell) (s e : Cell) (S : List Cell) : Bool := @decide (SuppOf L s e S) (Classical.propDecidable _)
noncomputable def holdsB (L : List Cell) (s e : Cell) (S W : List Cell) : Bool := decide (s ∈ L) && (!decide (e ∈ L) && (suppB L s e S && witB L s W))
theorem suppB_of {L : List Cell} {s e : Cell} {S : List Cell} {Ss : List (List Cell)} (h : S ∈ Ss ↔ SuppOf L s e S) : decide (S ∈ Ss) = suppB L s e S := by
  unfold suppB
  by_cases z : S ∈ Ss
  · rw [decide_eq_true z]
    exact (@decide_eq_true _ (Classical.propDecidable _) (h.mp z)).symm
  · rw [decide_eq_false z]
    exact (@decide_eq_false _ (Classical.propDecidable _) (fun k => z (h.mpr k))).symm
def spHoldsIn (C : Addr) (Ts : List Addr) : Sp := fun vs H Q _ => ∃ (d t : Addr) (L : List Cell) (s e : Cell) (S W : List Cell), vs = [.ref d, .ref t] ∧ H d = some (.dT (lotK L)) ∧ StepO C H t s e S W ∧ W.Nodup ∧ W.length ≤ 1000 ∧ TabsG Ts H ∧ ∀ H', KT Ts H H' → Q (.bl (holdsB L s e S W)) H'
def spHolds (C : Addr) (Ts : List Addr) : Sp := fun vs H Q _ => ∃ (b t : Addr) (L : List Cell) (s e : Cell) (S W : List Cell), vs = [.ref b, .ref t] ∧ CellsT H b L ∧ L.Nodup ∧ L.length ≤ 1000 ∧ StepO C H t s e S W ∧ W.Nodup ∧ W.length ≤ 1000 ∧ TabsG Ts H ∧ ∀ H', KT Ts H H' → Q (.bl (holdsB L s e S W)) H'
section
variable {P : Program} {w : World} {K : PySem.W.Frag} {mg : Str → Option Value} {base : Heap} {Ts : List Addr} {C : Addr}
theorem scHI : FnScope ["lot", "step"] ["lot", "step"] (defScope gHoldsIn) := ⟨rfl, rfl, rfl, by decide +kernel, rfl, by decide +kernel, by decide +kernel⟩
theorem ok_holdsIn {f : Addr} {fd : FuncData} (F : FnP K "holds_in" gHoldsIn f fd) (SF : StepF K C) (DS : Df P w K mg base CX0 2 "supports_in" ["lot", "start", "end"] spSuppIn) (DW : Df P w K mg base CX0 5 "is_witness_in" ["lot", "step"] (spIsWit C Ts)) :
    FnOk P w K mg base CX0 6 f fd ["lot", "step"] (spHoldsIn C Ts) := by
  refine F.ok scHI (fun vs H Q E h => ?_) (fun cdv A outer s H vs Q E hr h => ?_)
  · obtain ⟨d, t, L, a, b, S, W, rfl, _⟩ := h
    rfl
  · obtain ⟨d, t, L, a, b, S, W, rfl, ed, st, nW, lW, tg, k⟩ := h
    have hu := hu_of hr
    have h64 := room64 hr
    refine ⟨_, PSs.nox (pss_cons (ps_if (PW.pt (pw_or (pt_cmp (pc_dnotin hu (pe_fld (pv 1) rfl) (pv 0))) (pw_or1 (pt_cmp (pc_din hu (pe_fld (pv 1) rfl) (pv 0))))))
      (pss_one (ps_ret pe_bl))
      pss_nil)
      (pss_one (ps_ret (pe_and (pe_cmpR (op_inLL h64) (pe_fld (pv 1) rfl) (pe_df DS hr (by rfl) pass0 (pa_cons (pv 0) (pa_cons (pe_fld (pv 1) rfl) (pa_cons (pe_fld (pv 1) rfl) pa_nil)))) (by rfl)) (pe_one (pe_df DW hr (by rfl) pass0 (pa_cons (pv 0) (pa_cons (pv 1) pa_nil)))))))), ?_⟩
    obtain ⟨p, q, r, u, ⟨dx, fs, et, l1, l2, l3, l4⟩, ap, aq, cS, cW⟩ := id st
    have no : holdsB L a b S W = false → Q (.bl false) H := fun e => by
      have := k H (KT.refl tg)
      rw [e] at this
      exact this
    refine ⟨_, rfl, t, C, dx, fs, _, rfl, et, SF.cls, SF.s, l1, _, rfl, d, _, rfl, dget_lot ed ap, _, rfl, ?_⟩
    rw [lot_is]
    refine ite2 (fun h1 => ?_) (fun h1 => ?_)
    · have h1 : decide (a ∈ L) = false := by simpa using h1
      exact no (by unfold holdsB; rw [h1, Bool.false_and])
    have h1 : decide (a ∈ L) = true := by simpa using h1
    refine ⟨_, rfl, t, C, dx, fs, _, rfl, et, SF.cls, SF.e, l2, _, rfl, d, _, rfl, dget_lot ed aq, _, rfl, ?_⟩
    rw [lot_is]
    refine ite2 (fun h2 => ?_) (fun h2 => ?_)
    · exact no (by unfold holdsB; rw [h2]; simp)
    have h2 : decide (b ∈ L) = false := by simpa using h2
    refine ⟨_, rfl, t, C, dx, fs, _, rfl, et, SF.cls, SF.u, l3, _, rfl, _, rfl, t, C, dx, fs, _, rfl, et, SF.cls, SF.s, l1, _, rfl, t, C, dx, fs, _, rfl, et, SF.cls, SF.e, l2, d, p, q, L, a, b, rfl, ed, ap, aq, fun l G Ss sG cl hS => ?_⟩
    refine ⟨r, l, S, Ss, rfl, rfl, cS.ek (.of sG), cl, _, rfl, ?_⟩
    rw [suppB_of (hS S)]
    have ktG := KT.of tg sG
    refine ite2 (fun h3 => ?_) (fun h3 => ?_)
    · refine ⟨_, rfl, _, rfl, d, t, L, a, b, S, W, rfl, sG _ _ ed, st.same sG, nW, lW, ktG.tb', fun G2 k2 => ?_⟩
      have := k G2 (ktG.trans k2)
      unfold holdsB at this
      rw [h1, h2, h3] at this
      exact this
    · have h3 : suppB L a b S = false := by simpa using h3
      have := k G ktG
      unfold holdsB at this
      rw [h3, Bool.false_and, Bool.and_false, Bool.and_false] at this
      exact this
theorem scHo : FnScope ["body", "step"] ["body", "step"] (defScope gHolds) := ⟨rfl, rfl, rfl, by decide +kernel, rfl, by decide +kernel, by decide +kernel⟩
theorem ok_holds {f : Addr} {fd : FuncData} (F : FnP K "holds" gHolds f fd) (DL : Df P w K mg base CX0 2 "lot_of" ["cells"] spLot) (DH : Df P w K mg base CX0 6 "holds_in" ["lot", "step"] (spHoldsIn C Ts)) :
    FnOk P w K mg base CX0 7 f fd ["body", "step"] (spHolds C Ts) := by
  refine F.ok scHo (fun vs H Q E h => ?_) (fun cdv A outer s H vs Q E hr h => ?_)
  · obtain ⟨d, t, L, a, b, S, W, rfl, _⟩ := h
    rfl
  · obtain ⟨bd, t, L, a, b, S, W, rfl, cb, nL, lL, st, nW, lW, tg, k⟩ := h
    refine ⟨_, PSs.nox (pss_one (ps_ret (pe_df DH hr (by rfl) pass0 (pa_cons (pe_df DL hr (by rfl) pass0 (pa_cons (pv 0) pa_nil)) (pa_cons (pv 1) pa_nil))))), ?_⟩
    refine ⟨_, rfl, bd, L, rfl, cb, nL, lL, fun d H1 s1 hd ed => ⟨_, rfl, d, t, L, a, b, S, W, rfl, ed, st.same s1, nW, lW, tg.same s1, fun H' k' => k H' ((KT.of tg s1).trans k')⟩⟩
end
end Sq

set_option Elab.async false
set_option linter.all false
set_option maxRecDepth 100000
set_option maxHeartbeats 8000000
/-! first_loose. -/
namespace Sq
open PySem PySem.Spec PyProof.Rows L2
/-- a paper: from, to, support, witness -/
abbrev Pap : Type := Cell × Cell × List Cell × List Cell
def PapOk (p : Pap) : Prop := p.2.2.2.Nodup ∧ p.2.2.2.length ≤ 1000
noncomputable def holdsP (L : List Cell) (p : Pap) : Bool := holdsB L p.1 p.2.1 p.2.2.1 p.2.2.2
def stepP (L : List Cell) (p : Pap) : List Cell := without L p.1 ++ [p.2.1]
def lotP (L : List Cell) (ps : List Pap) (i : Nat) : List Cell := (ps.take i).foldl stepP L
theorem lotP_succ {L : List Cell} {ps : List Pap} {i : Nat} {p : Pap} (h : ps[i]? = some p) : lotP L ps (i + 1) = stepP (lotP L ps i) p := by
  unfold lotP
  rw [take_snoc h, List.foldl_append]
  rfl
def FirmTo (L : List Cell) (ps : List Pap) (n : Nat) : Prop := ∀ j p, j < n → ps[j]? = some p → holdsP (lotP L ps j) p = true
def LooseIs (L : List Cell) (ps : List Pap) : Option Nat → Prop
  | none => FirmTo L ps ps.length
  | some i => FirmTo L ps i ∧ ∃ p, ps[i]? = some p ∧ holdsP (lotP L ps i) p = false
theorem holdsB_in {L : List Cell} {s e : Cell} {S W : List Cell} (h : holdsB L s e S W = true) : s ∈ L ∧ e ∉ L ∧ SuppOf L s e S ∧ witB L s W = true := by
  unfold holdsB at h
  rw [Bool.and_eq_true, Bool.and_eq_true, Bool.and_eq_true] at h
  obtain ⟨h1, h2, h3, h4⟩ := h
  exact ⟨of_decide_eq_true h1, by simpa using h2, @of_decide_eq_true _ (Classical.propDecidable _) h3, h4⟩
theorem stepP_ok {L : List Cell} {s e : Cell} (nL : L.Nodup) (sL : s ∈ L) (eL : e ∉ L) : (without L s ++ [e]).Nodup ∧ (without L s ++ [e]).length = L.length := by
  refine ⟨List.nodup_append.mpr ⟨nL.filter _, by simp, fun x hx y hy z => ?_⟩, ?_⟩
  · rw [List.mem_singleton.mp hy] at z
    exact eL (z ▸ (List.mem_filter.mp hx).1)
  · rw [List.length_append, List.length_singleton]
    unfold without
    have e2 : (L.filter fun d => decide (d ≠ s)) = L.erase s := by
      rw [nL.erase_eq_filter]
      congr 1
      funext d
      by_cases z : d = s <;> simp [z, bne]
    have pos : 0 < L.length := List.length_pos_of_mem sL
    rw [e2, List.length_erase_of_mem sL]
    omega
theorem firm_lot {L : List Cell} {ps : List Pap} (nL : L.Nodup) : ∀ {n : Nat}, n ≤ ps.length → FirmTo L ps n → (lotP L ps n).Nodup ∧ (lotP L ps n).length = L.length
  | 0, _, _ => ⟨nL, rfl⟩
  | n + 1, hn, g => by
    obtain ⟨h2, h3⟩ := firm_lot nL (n := n) (by omega) fun j m hj hm => g j m (by omega) hm
    have hm : ps[n]? = some ps[n] := List.getElem?_eq_getElem (by omega)
    obtain ⟨a1, a2, _⟩ := holdsB_in (g n _ (Nat.lt_succ_self n) hm)
    obtain ⟨q1, q2⟩ := stepP_ok h2 a1 a2
    rw [lotP_succ hm]
    exact ⟨q1, q2.trans h3⟩
theorem loose_uniq {L : List Cell} {ps : List Pap} {o o' : Option Nat} (h : LooseIs L ps o) (k : LooseIs L ps o') : o = o' := by
  have one : ∀ {i : Nat}, LooseIs L ps (some i) → i < ps.length := fun {i} ⟨_, p, hp, _⟩ => (List.getElem?_eq_some_iff.mp hp).1
  have hit : ∀ {i n : Nat}, LooseIs L ps (some i) → FirmTo L ps n → n ≤ i := fun {i n} ⟨_, p, hp, e⟩ f => Classical.byContradiction fun z => by
    have := f i p (by omega) hp
    rw [e] at this
    cases this
  cases o with
  | none =>
    cases o' with
    | none => rfl
    | some i => exact absurd (hit k h) (by have := one k; omega)
  | some j =>
    cases o' with
    | none => exact absurd (hit h k) (by have := one h; omega)
    | some i => rw [Nat.le_antisymm (hit k h.1) (hit h k.1)]
/-- steps in a list or a tuple -/
def StepsAt (C : Addr) (H : Hp) (a : Addr) (ps : List Pap) : Prop := ∃ ts : List Addr, (H a = some (.lst (ts.map V.ref)) ∨ H a = some (.tup (ts.map V.ref))) ∧ Paired (fun t p => StepO C H t p.1 p.2.1 p.2.2.1 p.2.2.2) ts ps
def spFirstLoose (C : Addr) (Ts : List Addr) : Sp := fun vs H Q _ => ∃ (b a : Addr) (L : List Cell) (ps : List Pap), vs = [.ref b, .ref a] ∧ CellsT H b L ∧ L.Nodup ∧ L.length ≤ 1000 ∧ StepsAt C H a ps ∧ ps.length ≤ 100000 ∧ (∀ p ∈ ps, PapOk p) ∧ TabsG Ts H ∧
  ∀ H' o, KT Ts H H' → LooseIs L ps o → Q (oV o) H'
section
variable {P : Program} {w : World} {K : PySem.W.Frag} {mg : Str → Option Value} {base : Heap} {Ts : List Addr} {C : Addr}
theorem scFL : FnScope ["body", "steps", "lot", "index", "step"] ["body", "steps"] (defScope gFirstLoose) := ⟨rfl, rfl, rfl, by decide +kernel, rfl, by decide +kernel, by decide +kernel⟩
theorem ok_firstLoose {f : Addr} {fd : FuncData} (F : FnP K "first_loose" gFirstLoose f fd) (gE : mg "enumerate" = none) (SF : StepF K C) (DL : Df P w K mg base CX0 2 "lot_of" ["cells"] spLot) (DM : Df P w K mg base CX0 6 "holds_in" ["lot", "step"] (spHoldsIn C Ts)) (DPl : Df P w K mg base CX0 1 "plain_cell" ["cell"] spPlain) (Dp : Df P w K mg base CX0 1 "put" ["lot", "start", "end"] spPut) :
    FnOk P w K mg base CX0 7 f fd ["body", "steps"] (spFirstLoose C Ts) := by
  refine F.ok scFL (fun vs H Q E h => ?_) (fun cdv A outer s H vs Q E hr h => ?_)
  · obtain ⟨t, pl, L, ms, rfl, _⟩ := h
    rfl
  · obtain ⟨t, pl, L, ms, rfl, ct, nL, lL, ⟨qs, epl, prm⟩, lms, okP, tg, k⟩ := h
    have lq : qs.length = ms.length := Paired.length prm
    refine ⟨_, PSs.nox (pss_cons (ps_set (i := 2) scFL.nd rfl (.inl rfl) (pe_df DL hr (by rfl) pass0 (pa_cons (pv 0) pa_nil)))
      (pss_cons (ps_for PassesOwn.never rfl (PI.or (pi_enum (by rfl) gE (pa_cons (pv 1) pa_nil)) (pi_enumU (by rfl) gE (pa_cons (pv 1) pa_nil))) (pg_tup (by rfl) (pgs_cons (pg_name (i := 3) scFL.nd rfl (.inl rfl)) (pgs_cons (pg_name (i := 4) scFL.nd rfl (.inl rfl)) pgs_nil)))
      (pss_cons (ps_if (pt_not (pt_val (pe_df DM hr (by rfl) pass0 (pa_cons (pv 2) (pa_cons (pv 4) pa_nil)))))
      (pss_one (ps_ret (pv 3)))
      pss_nil)
      (pss_one (ps_expr (pe_df Dp hr (by rfl) pass0 (pa_cons (pv 2) (pa_cons (pe_df DPl hr (by rfl) pass0 (pa_cons (pe_fld (pv 4) rfl) pa_nil)) (pa_cons (pe_df DPl hr (by rfl) pass0 (pa_cons (pe_fld (pv 4) rfl) pa_nil)) pa_nil))))))))
      (pss_one (ps_ret pe_non)))), ?_⟩
    refine ⟨_, rfl, t, L, rfl, ct, nL, lL, fun d H1 s1 hd ed => ?_⟩
    have k1 := KT.of tg s1
    have h0 : ∃ v3 v4 : Option V, ([some (.ref t), some (.ref pl), some (.ref d), none, none] : L2.St) = [some (.ref t), some (.ref pl), some (.ref d), v3, v4] ∧ KT Ts H H1 ∧ H1 d = some (.dT (lotK (lotP L ms 0))) ∧ FirmTo L ms 0 := ⟨_, _, rfl, k1, ed, fun j m hj => absurd hj (Nat.not_lt_zero _)⟩
    refine epl.elim (fun e => .inl ⟨_, rfl, pl, _, rfl, SqL.of (s1 _ _ e), for_it walk_enumL (fun i σ G => ∃ v3 v4 : Option V, σ = [some (.ref t), some (.ref pl), some (.ref d), v3, v4] ∧ KT Ts H G ∧ G d = some (.dT (lotK (lotP L ms i))) ∧ FirmTo L ms i) h0 (fun i σ G _ ⟨_, _, _, kt, _⟩ => SqL.of (kt.lst e)) ?_ ?_⟩)
      (fun e => .inr ⟨_, rfl, pl, _, rfl, s1 _ _ e, for_it walk_enumU (fun i σ G => ∃ v3 v4 : Option V, σ = [some (.ref t), some (.ref pl), some (.ref d), v3, v4] ∧ KT Ts H G ∧ G d = some (.dT (lotK (lotP L ms i))) ∧ FirmTo L ms i) h0 (fun i σ G _ ⟨_, _, _, kt, _⟩ => kt.tup e) ?_ ?_⟩)
    iterate 2
      · rintro i x σ G G' hi ⟨v3, v4, rfl, kt, gd, good⟩ ⟨u, y, hy, rfl, hu, rfl⟩
        rw [List.length_map, lq] at hi
        rw [List.getElem?_map] at hy
        obtain ⟨q, hq, rfl⟩ := Option.map_eq_some_iff.mp hy
        obtain ⟨m, hm, am⟩ := paired_get prm hq
        obtain ⟨ndM, lM⟩ := firm_lot nL (Nat.le_of_lt hi) good
        obtain ⟨ok1, ok2⟩ := okP m (List.mem_of_getElem? hm)
        have s2 := same_new (o := .tup [.int ((i : Nat) : Int), .ref q]) hu
        have kt2 := kt.same s2
        have gd2 := s2 _ _ gd
        refine ⟨u, _, rfl, SqT.of upd_same, rfl, _, _, rfl, _, _, rfl, rfl, ?_⟩
        refine ⟨_, rfl, _, rfl, d, q, _, m.1, m.2.1, m.2.2.1, m.2.2.2, rfl, gd2, am.kt kt2, ok1, ok2, kt2.tb', fun G3 k3 => ⟨_, rfl, ?_⟩⟩
        have kt3 := kt2.trans k3
        have gd3 := k3.lot gd2
        refine ite2 (fun h1 => ?_) (fun h1 => ?_)
        · have h1 : holdsB (lotP L ms i) m.1 m.2.1 m.2.2.1 m.2.2.2 = false := by simpa using h1
          exact ⟨_, rfl, k G3 (some i) kt3 ⟨good, m, hm, h1⟩⟩
        · have h1 : holdsB (lotP L ms i) m.1 m.2.1 m.2.2.1 m.2.2.2 = true := by simpa using h1
          obtain ⟨sL, eL, _⟩ := holdsB_in h1
          obtain ⟨p1, p2, p3, p4, ⟨dx, fs, et, l1, l2, l3, l4⟩, a1, a2, _, _⟩ := am.kt kt3
          refine ⟨_, rfl, _, rfl, q, C, dx, fs, _, rfl, et, SF.cls, SF.s, l1, p1, m.1, rfl, a1, fun r1 hr1 => ?_⟩
          have u1 := same_new (o := .tup (cV m.1)) hr1
          refine ⟨_, rfl, q, C, dx, fs, _, rfl, u1 _ _ et, SF.cls, SF.e, l2, p2, m.2.1, rfl, u1 _ _ a2, fun r2 hr2 => ?_⟩
          have u2 := same_new (o := .tup (cV m.2.1)) hr2
          have u12 := u1.trans u2
          have kt4 := kt3.same u12
          have gd4 := u12 _ _ gd3
          refine ⟨d, r1, r2, _, m.1, m.2.1, rfl, gd4, ndM, by rw [lM]; exact lL, sL, eL, u2 _ _ upd_same, upd_same, ?_⟩
          refine ⟨_, _, rfl, ?_, ?_, ?_⟩
          · refine ⟨kt4.kp.put hd, kt4.tb, fun T mT => ?_⟩
            obtain ⟨ps, e, tt⟩ := kt4.tb' T mT
            refine ⟨ps, ?_, tt⟩
            rw [upd_ne (fun z => by rw [z, gd4] at e; cases e)]
            exact e
          · rw [upd_same, lotP_succ hm]
            rfl
          · intro j m' hj hm'
            rcases Nat.lt_succ_iff_lt_or_eq.mp hj with h | h
            · exact good j m' h hm'
            · subst h
              rw [hm] at hm'
              have := Option.some.inj hm'
              subst this
              exact h1
      · rintro σ G ⟨v3, v4, rfl, kt, gd, good⟩
        rw [List.length_map, lq] at good
        exact k G none kt good
end
end Sq

set_option Elab.async false
set_option linter.all false
set_option maxRecDepth 100000
set_option maxHeartbeats 8000000
/-! The law's holds, steps, first_loose. -/
namespace Sq
open PySem PySem.Spec PyProof.Rows L2
def rInCT : R2 := fun x y H Q => ∃ (p t : Addr) (c : Cell) (L : List Cell), x = .ref p ∧ y = .ref t ∧ At H p c ∧ CellsT H t L ∧ Q (.bl (decide (c ∈ L))) H
def rOutCT : R2 := fun x y H Q => ∃ (p t : Addr) (c : Cell) (L : List Cell), x = .ref p ∧ y = .ref t ∧ At H p c ∧ CellsT H t L ∧ Q (.bl (!decide (c ∈ L))) H
theorem any_cellT (c : Cell) : ∀ L : List Cell, (L.map cD).any (fun z => PyData.eqv z (cD c)) = decide (c ∈ L)
  | [] => by simp
  | d :: L => by
    rw [List.map_cons, List.any_cons, any_cellT c L, cD_eqv]
    by_cases h : d = c
    · subst h
      simp
    · have h' : ¬ c = d := fun z => h z.symm
      simp [h, h']
theorem cells_canT (L : List Cell) : PyData.canLayAll0 (L.map cD) = true := (lay_all (n := 1) fun d hd => by
  obtain ⟨c, _, rfl⟩ := List.mem_map.mp hd
  exact lay_cell c).1
theorem op_inCT {X : Cx} (hu : X.A.units + 64 < cLine) : OpR X (compareOp .In) rInCT := by
  rintro pins s σ H x y v u Q I rx ry ⟨p, t, c, L, rfl, rfl, ap, ct, q⟩
  obtain ⟨as, r1⟩ := Dp.reads I (cD c) _ v ap.dp rx
  obtain ⟨bs, r2⟩ := Dp.reads I (.tuple (L.map cD)) _ u ct.dp ry
  have l1 := lay_cell c
  refine SeqAt.in_tuple_reads r2 r1 (cells_canT L) l1.1 ?_ ⟨.bl _, H, I, rfl, ?_⟩
  · have m : min (PyData.depthAll (L.map cD)) (cD c).depth ≤ 1 := Nat.le_trans (Nat.min_le_right _ _) l1.2
    omega
  · rw [any_cellT]
    exact q
theorem op_outCT {X : Cx} (hu : X.A.units + 64 < cLine) : OpR X (compareOp .NotIn) rOutCT := by
  rintro pins s σ H x y v u Q I rx ry ⟨p, t, c, L, rfl, rfl, ap, ct, q⟩
  obtain ⟨as, r1⟩ := Dp.reads I (cD c) _ v ap.dp rx
  obtain ⟨bs, r2⟩ := Dp.reads I (.tuple (L.map cD)) _ u ct.dp ry
  have l1 := lay_cell c
  refine SeqAt.notIn_tuple_reads r2 r1 (cells_canT L) l1.1 ?_ ⟨.bl _, H, I, rfl, ?_⟩
  · have m : min (PyData.depthAll (L.map cD)) (cD c).depth ≤ 1 := Nat.le_trans (Nat.min_le_right _ _) l1.2
    omega
  · rw [any_cellT]
    exact q
theorem near_cong {L M : List Cell} (h : ∀ x, x ∈ L ↔ x ∈ M) (s : Cell) : nearC L s = nearC M s := by
  unfold nearC
  congr 1
  funext d
  exact decide_eq_decide.mpr (h d)
theorem holdsB_cong {L M : List Cell} (h : ∀ x, x ∈ L ↔ x ∈ M) (s e : Cell) (S W : List Cell) : holdsB L s e S W = holdsB M s e S W := by
  have h1 : suppB L s e S = suppB M s e S := by
    unfold suppB
    have : SuppOf L s e S ↔ SuppOf M s e S := by
      unfold SuppOf
      simp only [h]
    cases q : @decide (SuppOf M s e S) (Classical.propDecidable _) with
    | true => exact @decide_eq_true _ (Classical.propDecidable _) (this.mpr (@of_decide_eq_true _ (Classical.propDecidable _) q))
    | false => exact @decide_eq_false _ (Classical.propDecidable _) (fun k => (@of_decide_eq_false _ (Classical.propDecidable _) q) (this.mp k))
  unfold holdsB witB
  rw [h1, near_cong h s]
  simp only [h]
def PapAt (H : Hp) (r : Addr) (p : Pap) : Prop := ∃ a b u v : Addr, H r = some (.tup [.ref a, .ref b, .ref u, .ref v]) ∧ At H a p.1 ∧ At H b p.2.1 ∧ CellsT H u p.2.2.1 ∧ CellsT H v p.2.2.2
theorem PapAt.same {H G : Hp} {r : Addr} {p : Pap} (h : PapAt H r p) (k : Same H G) : PapAt G r p := by
  obtain ⟨a, b, u, v, e, a1, a2, c1, c2⟩ := h
  exact ⟨a, b, u, v, k _ _ e, k _ _ a1, k _ _ a2, c1.ek (.of k), c2.ek (.of k)⟩
def PapsL (H : Hp) (a : Addr) (ps : List Pap) : Prop := ∃ rs : List Addr, H a = some (.lst (rs.map V.ref)) ∧ Paired (fun r p => PapAt H r p) rs ps
theorem PapsL.same {H G : Hp} {r : Addr} {p : List Pap} (h : PapsL H r p) (k : Same H G) : PapsL G r p := by
  obtain ⟨rs, e, pr⟩ := h
  exact ⟨rs, k _ _ e, paired_imp (fun _ _ h => h.same k) pr⟩
def spLHoldsP : Sp := fun vs H Q _ => ∃ (t r : Addr) (L : List Cell) (p : Pap), vs = [.ref t, .ref r] ∧ CellsT H t L ∧ L.Nodup ∧ L.length ≤ 1000 ∧ PapAt H r p ∧ PapOk p ∧ ∀ H', Same H H' → Q (.bl (holdsP L p)) H'
def spLSteps (C : Addr) : Sp := fun vs H Q _ => ∃ (a : Addr) (ps : List Pap), vs = [.ref a] ∧ PapsL H a ps ∧ ps.length ≤ 100000 ∧
  ∀ l H' ts, Same H H' → H' l = some (.lst (ts.map V.ref)) → Paired (fun t p => StepO C H' t p.1 p.2.1 p.2.2.1 p.2.2.2) ts ps → Q (.ref l) H'
def spLLoose : Sp := fun vs H Q _ => ∃ (t a : Addr) (L : List Cell) (ps : List Pap), vs = [.ref t, .ref a] ∧ CellsT H t L ∧ L.Nodup ∧ L.length ≤ 1000 ∧ PapsL H a ps ∧ ps.length ≤ 100000 ∧ (∀ p ∈ ps, PapOk p) ∧ ∀ H' o, Same H H' → LooseIs L ps o → Q (oV o) H'
abbrev lhN : List Str := ["_law_body", "_law_paper", "_law_start", "_law_end", "_law_support", "_law_witness", "_law_squares", "_law_cell"]
section
variable {P : Program} {w : World} {K : PySem.W.Frag} {mg : Str → Option Value} {base : Heap} {C : Addr}
theorem scLHo : FnScope lhN ["_law_body", "_law_paper"] (defScope lHolds) := ⟨rfl, rfl, rfl, by decide +kernel, rfl, by decide +kernel, by decide +kernel⟩
theorem ok_lHolds {f : Addr} {fd : FuncData} (F : FnP K "_law_t2_holds" lHolds f fd) (DQ : Df P w K mg base CX0 1 "_law_t2_squares" ["_law_body"] spSquares) (DS : Df P w K mg base CX0 1 "_law_t2_supports" ["_law_squares", "_law_start", "_law_end"] (spSuppX K)) (DH : Df P w K mg base CX0 3 "_law_t2_hangs" ["_law_cells"] spLHangs) (DB : Df P w K mg base CX0 1 "_law_t2_beside" ["_law_cell"] spLBeside) :
    FnOk P w K mg base CX0 4 f fd ["_law_body", "_law_paper"] spLHoldsP := by
  refine F.ok scLHo (fun vs H Q E h => ?_) (fun cdv A outer s H vs Q E hr h => ?_)
  · obtain ⟨t, r, L, p, rfl, _⟩ := h
    rfl
  · obtain ⟨t, r, L, ⟨a, b, S, W⟩, rfl, ct, nL, lL, ⟨pa, pb, pu, pv', er, aa, ab, cS, cW⟩, ⟨nW, lW⟩, k⟩ := h
    have nW : W.Nodup := nW
    have lW : W.length ≤ 1000 := lW
    have hu := hu_of hr
    have h64 := room64 hr
    refine ⟨_, PSs.nox (pss_cons (ps_asg (pv 1) (pg_tup (by rfl) (pgs_cons (pg_name (i := 2) scLHo.nd rfl (.inl rfl)) (pgs_cons (pg_name (i := 3) scLHo.nd rfl (.inl rfl)) (pgs_cons (pg_name (i := 4) scLHo.nd rfl (.inl rfl)) (pgs_cons (pg_name (i := 5) scLHo.nd rfl (.inr rfl)) pgs_nil))))))
      (pss_cons (ps_set (i := 6) scLHo.nd rfl (.inr rfl) (pe_df DQ hr (by rfl) pass0 (pa_cons (pv 0) pa_nil)))
      (pss_cons (ps_if (PW.pt (pw_or (pt_cmpR (op_outLL h64) (pv 4) (pe_df DS hr (by rfl) pass0 (pa_cons (pv 6) (pa_cons (pv 2) (pa_cons (pv 3) pa_nil)))) (by rfl)) (pw_or (pt_cmpR (op_inCT h64) (pv 2) (pv 5) (by rfl)) (pw_or1 (pt_not (pt_val (pe_df DH hr (by rfl) pass0 (pa_cons (pv 5) pa_nil))))))))
      (pss_one (ps_ret pe_bl))
      pss_nil)
      (pss_cons (ps_if (pt_cmpR (op_neK (K := K) rfl h64) (pe_lc (own := [("_law_cell", 7)]) (g := gName 7) rfl scLHo.nd (pi_tup (pv 5)) (blkOk_by (N := lhN) (sc := defScope lHolds) (by decide +kernel)) (fun _ _ _ _ _ => pg_name (i := 7) scLHo.nd rfl (Or.inl rfl)) (fun _ _ _ _ _ => (pts_one (pt_cmp (pc_dnotin hu (pv 7) (pv 6))))) (fun _ _ _ _ _ => (pv 7))) (pe_lst pa_nil) (nomark _))
      (pss_one (ps_ret pe_bl))
      pss_nil)
      (pss_one (ps_ret (pe_cmpR (op_eqK (K := K) rfl h64) (pe_lc (own := [("_law_cell", 7)]) (g := gName 7) rfl scLHo.nd (pi_list (pe_df DB hr (by rfl) pass0 (pa_cons (pv 2) pa_nil))) (blkOk_by (N := lhN) (sc := defScope lHolds) (by decide +kernel)) (fun _ _ _ _ _ => pg_name (i := 7) scLHo.nd rfl (Or.inl rfl)) (fun _ _ _ _ _ => (pts_one (PW.pt (pw_and (pt_cmp (pc_din hu (pv 7) (pv 6))) (pw_and1 (pt_cmpR (op_outCT h64) (pv 7) (pv 5) (by rfl))))))) (fun _ _ _ _ _ => (pv 7))) (pe_lst pa_nil) (nomark _)))))))), ?_⟩
    refine ⟨_, rfl, r, _, rfl, SqT.of er, rfl, _, _, rfl, _, _, rfl, _, _, rfl, _, _, rfl, rfl, ?_⟩
    refine ⟨_, rfl, t, L, rfl, ct, nL, lL, fun d H1 s1 hd ed => ?_⟩
    refine ⟨_, rfl, _, rfl, _, rfl, _, rfl, d, pa, pb, L, a, b, rfl, ed, s1 _ _ aa, s1 _ _ ab, fun l H2 Ss s2 cl ls hS => ?_⟩
    have s12 := s1.trans s2
    refine ⟨pu, l, S, Ss, rfl, rfl, cS.ek (.of s12), cl, _, rfl, ?_⟩
    have eqH : holdsP L (a, b, S, W) = (decide (S ∈ Ss) && witB L a W) := by
      show holdsB L a b S W = _
      unfold holdsB
      by_cases z : S ∈ Ss
      · obtain ⟨z1, z2, z3⟩ := (hS S).mp z
        rw [decide_eq_true z1, decide_eq_false z2, decide_eq_true z, show suppB L a b S = true from @decide_eq_true _ (Classical.propDecidable _) z3]
        rfl
      · rw [decide_eq_false z, Bool.false_and]
        by_cases z1 : a ∈ L
        · by_cases z2 : b ∈ L
          · rw [decide_eq_true z2]
            simp
          · rw [show suppB L a b S = false from @decide_eq_false _ (Classical.propDecidable _) (fun q => z ((hS S).mpr ⟨z1, z2, q⟩))]
            simp
        · rw [decide_eq_false z1, Bool.false_and]
    refine ite2 (fun h1 => ?_) (fun h1 => ?_)
    · have h1 : decide (S ∈ Ss) = false := by simpa using h1
      have := k H2 s12
      rw [eqH, h1, Bool.false_and] at this
      exact this
    have h1 : decide (S ∈ Ss) = true := by simpa using h1
    rw [h1, Bool.true_and] at eqH
    refine ⟨_, rfl, _, rfl, pa, pv', a, W, rfl, rfl, s12 _ _ aa, cW.ek (.of s12), _, rfl, ?_⟩
    refine ite2 (fun h2 => ?_) (fun h2 => ?_)
    · have := k H2 s12
      rw [eqH] at this
      unfold witB at this
      rw [h2, Bool.not_true, Bool.false_and] at this
      exact this
    have h2 : decide (a ∈ W) = false := by simpa using h2
    refine ⟨_, rfl, pv', W, rfl, .inr (cW.ek (.of s12)), lW, fun H3 s3 => ⟨_, rfl, ?_⟩⟩
    have s13 := s12.trans s3
    refine ite2 (fun h3 => ?_) (fun h3 => ?_)
    · have h3 : hangsB W = false := by simpa using h3
      have := k H3 s13
      rw [eqH] at this
      unfold witB at this
      rw [h3, Bool.false_and, Bool.and_false, Bool.and_false] at this
      exact this
    have h3 : hangsB W = true := by simpa using h3
    obtain ⟨ws, ew, pw⟩ := cW.ek (.of s13)
    have ed3 := s3 _ _ (s2 _ _ ed)
    have lws : ws.length ≤ 1000 := by rw [Paired.length pw]; exact lW
    refine ⟨_, rfl, pv', rfl, ⟨_, SqT.of ew⟩, fun D hD => ?_⟩
    refine lc_cells (walk_tup (K := K) (a := pv') (xs := ws.map V.ref)) hD (fun j => (W.take j).filter fun x => !decide (x ∈ L)) rfl (by rw [List.length_map]; omega) (fun j G2 _ s => SqT.of (s _ _ ew)) ?_ ?_
    · rintro j x G2 G' Kk1 Kk0 hj s5 ⟨rfl, hx⟩ k1 k0
      rw [List.getElem?_map] at hx
      obtain ⟨u, hu2, rfl⟩ := Option.map_eq_some_iff.mp hx
      obtain ⟨e, he, ae⟩ := paired_get pw hu2
      refine ⟨rfl, _, rfl, _, rfl, d, _, rfl, dget_lot (s5 _ _ ed3) (s5 _ _ ae), _, rfl, ?_⟩
      rw [lot_is]
      refine ite2 (fun h4 => ?_) (fun h4 => ?_)
      · exact ⟨_, rfl, k1 u e _ same_refl (s5 _ _ ae) (filt_snoc he h4)⟩
      · exact k0 _ same_refl (filt_skip he h4)
    rintro G2 rs s5 gD prD
    have eW : W.take (ws.map V.ref).length = W := by rw [List.length_map, Paired.length pw, List.take_length]
    rw [eW] at prD
    have s15 := s13.trans s5
    refine ⟨Nat.zero_le _, fun l2 hl2 => ?_⟩
    have s6 := same_new (o := .lst []) hl2
    have cD2 : CellsL (upd G2 l2 (.lst [])) D (W.filter fun x => !decide (x ∈ L)) := ⟨rs, s6 _ _ gD, paired_imp (fun _ _ h => s6 _ _ h) prD⟩
    refine ⟨_, _, cD2.dp, .lst (SqL.of upd_same) .nil, lay_cells.shaped (by decide), (lay_list (n := 0) (ds := []) (by simp)).shaped (by decide), _, rfl, ?_⟩
    rw [eqv_nilD]
    have s16 := s15.trans s6
    have all1 : ((W.filter fun x => !decide (x ∈ L)).map cD = []) ↔ ∀ x ∈ W, x ∈ L := by
      rw [List.map_eq_nil_iff, List.filter_eq_nil_iff]
      simp
    refine ite2 (fun h4 => ?_) (fun h4 => ?_)
    · have h4 : ¬ ∀ x ∈ W, x ∈ L := fun z => by
        rw [decide_eq_true (all1.mpr z)] at h4
        cases h4
      have := k _ s16
      rw [eqH] at this
      unfold witB at this
      rw [decide_eq_false h4, Bool.false_and, Bool.and_false] at this
      exact this
    have h4 : ∀ x ∈ W, x ∈ L := all1.mp (by
      refine Classical.byContradiction fun z => ?_
      rw [decide_eq_false z] at h4
      exact h4 rfl)
    generalize upd G2 l2 (.lst []) = G3 at s16 s6
    have ed4 := s6 _ _ (s5 _ _ ed3)
    obtain ⟨ws2, ew2, pw2⟩ : CellsT G3 pv' W := cW.ek (.of s16)
    refine ⟨_, rfl, pa, a, rfl, s16 _ _ aa, fun nl G4 s7 hnl cn => ?_⟩
    obtain ⟨ns, en, pn⟩ := cn
    have lns : ns.length = 4 := Paired.length pn
    refine ⟨nl, rfl, ⟨_, SqL.of en⟩, fun D2 hD2 => ?_⟩
    refine lc_cells (walk_list (K := K) (a := nl) (xs := ns.map V.ref)) hD2 (fun j => ((besideC a).take j).filter fun x => decide (x ∈ L) && !decide (x ∈ W)) rfl (by rw [List.length_map]; omega) (fun j G2 _ s => SqL.of (s _ _ en)) ?_ ?_
    · rintro j x G5 G' Kk1 Kk0 hj s8 ⟨rfl, hx⟩ k1 k0
      rw [List.getElem?_map] at hx
      obtain ⟨u, hu2, rfl⟩ := Option.map_eq_some_iff.mp hx
      obtain ⟨e, he, ae⟩ := paired_get pn hu2
      refine ⟨rfl, _, rfl, _, rfl, d, _, rfl, dget_lot (s8 _ _ (s7 _ _ ed4)) (s8 _ _ ae), _, rfl, ?_⟩
      rw [lot_is]
      refine ite2 (fun h5 => ?_) (fun h5 => ?_)
      · refine ⟨_, rfl, _, rfl, u, pv', e, W, rfl, rfl, s8 _ _ ae, cW.ek (.of ((s16.trans s7).trans s8)), _, rfl, ?_⟩
        refine ite2 (fun h6 => ?_) (fun h6 => ?_)
        · exact ⟨_, rfl, k1 u e _ same_refl (s8 _ _ ae) (filt_snoc he (by rw [h5, h6]; rfl))⟩
        · exact k0 _ same_refl (filt_skip he (by rw [h5, Bool.true_and]; exact h6))
      · exact k0 _ same_refl (filt_skip he (by rw [Bool.eq_false_iff.mpr h5, Bool.false_and]; simp))
    rintro G5 rs2 s8 gD2 prD2
    have e4 : (besideC a).take (ns.map V.ref).length = besideC a := by rw [List.length_map, lns]; rfl
    rw [e4] at prD2
    refine ⟨Nat.zero_le _, fun l3 hl3 => ?_⟩
    have s9 := same_new (o := .lst []) hl3
    have cD3 : CellsL (upd G5 l3 (.lst [])) D2 ((besideC a).filter fun x => decide (x ∈ L) && !decide (x ∈ W)) := ⟨rs2, s9 _ _ gD2, paired_imp (fun _ _ h => s9 _ _ h) prD2⟩
    refine ⟨_, _, cD3.dp, .lst (SqL.of upd_same) .nil, lay_cells.shaped (by decide), (lay_list (n := 0) (ds := []) (by simp)).shaped (by decide), ?_⟩
    rw [eqv_nilD]
    have := k _ (((s16.trans s7).trans s8).trans s9)
    rw [eqH] at this
    have e9 : witB L a W = decide (((besideC a).filter fun x => decide (x ∈ L) && !decide (x ∈ W)).map cD = []) := by
      unfold witB
      rw [h2, h3, decide_eq_true h4]
      show decide _ = decide _
      refine decide_eq_decide.mpr ?_
      rw [List.map_eq_nil_iff, List.filter_eq_nil_iff]
      unfold nearC
      simp only [List.mem_filter, Bool.and_eq_true, Bool.not_eq_true', decide_eq_true_eq, decide_eq_false_iff_not, and_imp]
      constructor
      · exact fun q x hx ⟨y1, y2⟩ => y2 (q x hx y1)
      · exact fun q x hx y1 => Classical.byContradiction fun y2 => q x hx ⟨y1, y2⟩
    rw [e9] at this
    exact this
end
end Sq

set_option Elab.async false
set_option linter.all false
set_option maxRecDepth 100000
set_option maxHeartbeats 8000000
/-! The law's steps and first_loose. -/
namespace Sq
open PySem PySem.Spec PyProof.Rows L2
section
variable {P : Program} {w : World} {K : PySem.W.Frag} {mg : Str → Option Value} {base : Heap} {C : Addr}
theorem StepO.off {H : Hp} {D t : Addr} {xs : List V} {o : HO} {s e : Cell} {S W : List Cell} (hD : H D = some (.lst xs)) (h : StepO C H t s e S W) : StepO C (upd H D o) t s e S W := by
  have ne : ∀ {b : Addr} {u : HO}, H b = some u → (∀ ys, u ≠ .lst ys) → upd H D o b = some u := fun {b u} hb n => by
    rw [upd_ne (fun z => by rw [z, hD] at hb; exact n xs (Option.some.inj hb).symm)]
    exact hb
  obtain ⟨p, q, r, u, ⟨dx, fs, et, l⟩, a1, a2, ⟨qs, e1, p1⟩, ⟨us, e2, p2⟩⟩ := h
  exact ⟨p, q, r, u, ⟨dx, fs, ne et (by intro ys z; cases z), l⟩, ne a1 (by intro ys z; cases z), ne a2 (by intro ys z; cases z), ⟨qs, ne e1 (by intro ys z; cases z), paired_imp (fun _ _ h => ne h (by intro ys z; cases z)) p1⟩, ⟨us, ne e2 (by intro ys z; cases z), paired_imp (fun _ _ h => ne h (by intro ys z; cases z)) p2⟩⟩
theorem paired_getR {α β : Type} {F : α → β → Prop} {i : Nat} {y : β} : ∀ {xs : List α} {ys : List β}, Paired F xs ys → ys[i]? = some y → ∃ x, xs[i]? = some x ∧ F x y
  | _, _, .nil, e => by simp at e
  | _ :: _, _ :: _, .cons h t, e => by
    cases i with
    | zero =>
      obtain rfl := Option.some.inj e
      exact ⟨_, rfl, h⟩
    | succ i =>
      obtain ⟨x, hx, f⟩ := paired_getR (i := i) t (by simpa using e)
      exact ⟨x, by simpa using hx, f⟩
theorem at2 {x y z : V} {xs : List V} : atI (x :: y :: z :: xs) 2 = some z := atI_nat (j := 2) rfl
theorem at3 {x y z u : V} {xs : List V} : atI (x :: y :: z :: u :: xs) 3 = some u := atI_nat (j := 3) rfl
theorem scLSt : FnScope ["_law_papers", "_law_paper"] ["_law_papers"] (defScope lSteps) := ⟨rfl, rfl, rfl, by decide +kernel, rfl, by decide +kernel, by decide +kernel⟩
theorem ok_lSteps {f : Addr} {fd : FuncData} (F : FnP K "_law_t2_steps" lSteps f fd) (M : MkS P w K mg base C) : FnOk P w K mg base CX0 3 f fd ["_law_papers"] (spLSteps C) := by
  refine F.ok scLSt (fun vs H Q E h => ?_) (fun cdv A outer s H vs Q E hr h => ?_)
  · obtain ⟨a, ps, rfl, _⟩ := h
    rfl
  · obtain ⟨a, ps, rfl, ⟨rs, er, pr⟩, lps, k⟩ := h
    have lr : rs.length = ps.length := Paired.length pr
    refine ⟨_, PSs.nox (pss_one (ps_ret (pe_lc (own := [("_law_paper", 1)]) (g := gName 1) (tt := tYes) rfl scLSt.nd (pi_list (pv 0)) (blkOk_by (N := ["_law_papers", "_law_paper"]) (sc := defScope lSteps) (by decide +kernel)) (fun _ _ _ _ _ => pg_name (i := 1) scLSt.nd rfl (Or.inl rfl)) (fun _ _ _ _ _ => pts_nil) (fun _ _ _ _ _ => (pe_step M hr (by rfl) (pa_cons (pe_ix (ix_tupK (K := K) rfl) (pv 1) pe_int (fun _ _ => rfl)) (pa_cons (pe_ix (ix_tupK (K := K) rfl) (pv 1) pe_int (fun _ _ => rfl)) (pa_cons (pe_ix (ix_tupK (K := K) rfl) (pv 1) pe_int (fun _ _ => rfl)) (pa_cons (pe_ix (ix_tupK (K := K) rfl) (pv 1) pe_int (fun _ _ => rfl)) pa_nil))))))))), ?_⟩
    refine ⟨_, rfl, a, rfl, ⟨_, SqL.of er⟩, fun D hD => ?_⟩
    refine lc_it (walk_list (K := K) (a := a) (xs := rs.map V.ref)) (fun i G => Same H G ∧ ∃ ts : List Addr, G D = some (.lst (ts.map V.ref)) ∧ ts.length = i ∧ Paired (fun t p => StepO C G t p.1 p.2.1 p.2.2.1 p.2.2.2) ts (ps.take i))
      ⟨same_new hD, [], upd_same, rfl, .nil⟩ (fun i G _ q => SqL.of (q.1 _ _ er)) ?_ ?_
    · rintro i x G G' hi ⟨sm, ts, gD, ln, prT⟩ ⟨rfl, hx⟩
      rw [List.length_map, lr] at hi
      rw [List.getElem?_map] at hx
      obtain ⟨r, hr2, rfl⟩ := Option.map_eq_some_iff.mp hx
      obtain ⟨p, hp, ap⟩ := paired_get pr hr2
      obtain ⟨a1, a2, a3, a4, e, b1, b2, b3, b4⟩ := ap.same sm
      refine ⟨rfl, yesT ?_⟩
      refine ⟨_, rfl, _, _, _, _, rfl, rfl, SqT.of e, at0, _, rfl, _, _, _, _, rfl, rfl, SqT.of e, at1, _, rfl, _, _, _, _, rfl, rfl, SqT.of e, at2, _, rfl, _, _, _, _, rfl, rfl, SqT.of e, at3, fun x dx hx hdx ne => ?_⟩
      refine step_one hx hdx (fun H' st ht sv => ⟨rfl, ?_⟩)
      have sm2 := sm.trans st
      have gD2 := st _ _ gD
      refine ⟨_, gD2, by rw [List.length_map, sizeLine_eq]; omega, same_put sm2 hD, ts ++ [x], by rw [upd_same, List.map_append]; rfl, by rw [List.length_append, ln]; rfl, ?_⟩
      rw [take_snoc hp]
      exact (paired_imp (fun _ _ h => (h.same st).off gD2) prT).snoc (StepO.off gD2 ⟨a1, a2, a3, a4, sv, st _ _ b1, st _ _ b2, b3.ek (.of st), b4.ek (.of st)⟩)
    · rintro G ⟨sm, ts, gD, ln, prT⟩
      rw [List.length_map, lr, List.take_length] at prT
      exact k D G ts sm gD prT
theorem scLFl : FnScope ["_law_body", "_law_papers", "_law_here", "_law_at"] ["_law_body", "_law_papers"] (defScope lFirstLoose) := ⟨rfl, rfl, rfl, by decide +kernel, rfl, by decide +kernel, by decide +kernel⟩
theorem ok_lLoose {f : Addr} {fd : FuncData} (F : FnP K "_law_t2_first_loose" lFirstLoose f fd) (B : Bl mg) (DH : Df P w K mg base CX0 4 "_law_t2_holds" ["_law_body", "_law_paper"] spLHoldsP) (DD : Df P w K mg base CX0 1 "_law_t2_done" ["_law_body", "_law_start", "_law_end"] spLDone) : FnOk P w K mg base CX0 5 f fd ["_law_body", "_law_papers"] spLLoose := by
  refine F.ok scLFl (fun vs H Q E h => ?_) (fun cdv A outer s H vs Q E hr h => ?_)
  · obtain ⟨t, a, L, ps, rfl, _⟩ := h
    rfl
  · obtain ⟨t, a, L, ps, rfl, ct, nL, lL, ⟨rs, er, pr⟩, lps, okP, k⟩ := h
    have lr : rs.length = ps.length := Paired.length pr
    refine ⟨_, PSs.nox (pss_cons (ps_set (i := 2) scLFl.nd rfl (.inl rfl) (pv 0))
      (pss_cons (ps_for PassesOwn.never rfl (pi_range1 (by rfl) B.range (pa_cons (pe_callB call_len_seq (by rfl) B.len PySem.boot_len (pa_cons (pv 1) pa_nil)) pa_nil)) (pg_name (i := 3) scLFl.nd rfl (.inl rfl))
      (pss_cons (ps_if (pt_not (pt_val (pe_df DH hr (by rfl) pass0 (pa_cons (pv 2) (pa_cons (pe_ix (ix_listK (K := K) rfl) (pv 1) (pv 3) (fun _ _ => rfl)) pa_nil)))))
        (pss_one (ps_ret (pv 3)))
        pss_nil)
        (pss_one (ps_set (i := 2) scLFl.nd rfl (.inl rfl) (pe_df DD hr (by rfl) pass0 (pa_cons (pv 2) (pa_cons (pe_ix (ix_tupK (K := K) rfl) (pe_ix (ix_listK (K := K) rfl) (pv 1) (pv 3) (fun _ _ => rfl)) pe_int (fun _ _ => rfl)) (pa_cons (pe_ix (ix_tupK (K := K) rfl) (pe_ix (ix_listK (K := K) rfl) (pv 1) (pv 3) (fun _ _ => rfl)) pe_int (fun _ _ => rfl)) pa_nil))))))))
      (pss_one (ps_ret pe_non)))), ?_⟩
    refine ⟨_, rfl, ?_⟩
    have ln : (((rs.map V.ref).length : Nat) : Int).toNat = ps.length := by rw [List.length_map, lr]; rfl
    refine ⟨_, rfl, a, _, rfl, .inl (SqL.of er), _, rfl, by rw [List.length_map]; omega, by rw [List.length_map]; omega, ?_⟩
    rw [ln]
    refine for_range (lo := 0) (n := ps.length) (fun i σ G => ∃ (h : Addr) (M : List Cell) (v3 : Option V), σ = [some (.ref t), some (.ref a), some (.ref h), v3] ∧ Same H G ∧ CellsT G h M ∧ M.Nodup ∧ M.length = L.length ∧ (∀ x, x ∈ M ↔ x ∈ lotP L ps i) ∧ FirmTo L ps i)
      ⟨t, L, none, rfl, same_refl, ct, nL, rfl, fun _ => .rfl, fun j p hj => absurd hj (Nat.not_lt_zero _)⟩ ?_ ?_
    · rintro i σ G hi ⟨h, M, v3, rfl, sm, cM, nM, lM, eM, firm⟩
      rw [Int.zero_add]
      have hp : ps[i]? = some ps[i] := List.getElem?_eq_getElem hi
      generalize ps[i] = p at hp
      obtain ⟨r, hr2, ap⟩ := paired_getR pr hp
      have hx : (rs.map V.ref)[i]? = some (.ref r) := by rw [List.getElem?_map, hr2]; rfl
      have erG := SqL.of (K := K) (sm _ _ er)
      refine ⟨_, rfl, _, rfl, _, rfl, _, _, _, _, rfl, rfl, erG, atI_nat hx, h, r, M, p, rfl, cM, nM, by rw [lM]; exact lL, ap.same sm, okP p (List.mem_of_getElem? hp), fun G2 s2 => ⟨_, rfl, ?_⟩⟩
      have s02 := sm.trans s2
      have eH : holdsP M p = holdsP (lotP L ps i) p := holdsB_cong eM _ _ _ _
      rw [eH]
      refine ite2 (fun h1 => ?_) (fun h1 => ?_)
      · have h1 : holdsP (lotP L ps i) p = false := by simpa using h1
        exact ⟨_, rfl, k G2 (some i) s02 ⟨firm, p, hp, h1⟩⟩
      · have h1 : holdsP (lotP L ps i) p = true := by simpa using h1
        obtain ⟨sL, eL, _⟩ := holdsB_in h1
        obtain ⟨a1, a2, a3, a4, e, b1, b2, b3, b4⟩ := ap.same s02
        have erG2 := SqL.of (K := K) (s02 _ _ er)
        refine ⟨_, rfl, _, rfl, _, rfl, _, _, _, _, rfl, rfl, erG2, atI_nat hx, _, _, _, _, rfl, rfl, SqT.of e, at0, _, rfl, _, rfl, _, _, _, _, rfl, rfl, erG2, atI_nat hx, _, _, _, _, rfl, rfl, SqT.of e, at1, h, a1, a2, M, p.1, p.2.1, rfl, cM.ek (.of s2), by rw [lM]; exact lL, b1, b2, fun h2 G3 cs s3 c3 pm asc => ?_⟩
        have sM := (eM p.1).mpr sL
        have eM2 : p.2.1 ∉ M := fun z => eL ((eM _).mp z)
        obtain ⟨q1, q2⟩ := stepP_ok nM sM eM2
        refine ⟨h2, cs, _, rfl, s02.trans s3, c3, pm.nodup_iff.mpr q1, by rw [pm.length_eq, q2, lM], fun x => ?_, fun j p' hj hp' => ?_⟩
        · rw [pm.mem_iff, lotP_succ hp]
          unfold stepP without
          rw [List.mem_append, List.mem_append, List.mem_filter, List.mem_filter, eM x]
        · rcases Nat.lt_succ_iff_lt_or_eq.mp hj with z | z
          · exact firm j p' z hp'
          · subst z
            rw [hp] at hp'
            have := Option.some.inj hp'
            subst this
            exact h1
    · rintro σ G ⟨h, M, v3, rfl, sm, cM, nM, lM, eM, firm⟩
      exact k G none sm firm
end
end Sq

set_option Elab.async false
set_option linter.all false
set_option maxRecDepth 100000
set_option maxHeartbeats 8000000
/-! The law's other_cells. -/
namespace Sq
open PySem PySem.Spec PyProof.Rows L2
/-- a row of cells -/
def RowC (H : Hp) (xs : List V) : Prop := ∀ x ∈ xs, ∃ q c, x = V.ref q ∧ At H q c
theorem RowC.ek {H G : Hp} {xs : List V} (h : RowC H xs) (k : Ek H G) : RowC G xs := fun x hx => by
  obtain ⟨q, c, e, a⟩ := h x hx
  exact ⟨q, c, e, k.at a⟩
theorem RowC.of {H : Hp} {qs : List Addr} {cs : List Cell} (pr : Paired (fun q c => At H q c) qs cs) : RowC H (qs.map V.ref) := fun x hx => by
  obtain ⟨q, hq, rfl⟩ := List.mem_map.mp hx
  obtain ⟨i, hi⟩ := List.mem_iff_getElem?.mp hq
  obtain ⟨c, _, a⟩ := paired_get pr hi
  exact ⟨q, c, rfl, a⟩
theorem RowC.take {H : Hp} {xs : List V} (h : RowC H xs) (k : Nat) : RowC H (xs.take k) := fun x hx => h x (List.mem_of_mem_take hx)
theorem RowC.drop {H : Hp} {xs : List V} (h : RowC H xs) (k : Nat) : RowC H (xs.drop k) := fun x hx => h x (List.mem_of_mem_drop hx)
theorem RowC.app {H : Hp} {xs ys : List V} (h : RowC H xs) (k : RowC H ys) : RowC H (xs ++ ys) := fun x hx => (List.mem_append.mp hx).elim (h x) (k x)
theorem RowC.one {H : Hp} {q : Addr} {c : Cell} (h : At H q c) : RowC H [.ref q] := fun y hy => ⟨q, c, List.mem_singleton.mp hy, h⟩
theorem RowC.cells {H : Hp} : ∀ {xs : List V}, RowC H xs → ∃ qs cs, xs = qs.map V.ref ∧ Paired (fun q c => At H q c) qs cs
  | [], _ => ⟨[], [], rfl, .nil⟩
  | x :: xs, h => by
    obtain ⟨q, c, rfl, a⟩ := h x (List.mem_cons_self ..)
    obtain ⟨qs, cs, rfl, pr⟩ := RowC.cells (xs := xs) fun y hy => h y (List.mem_cons_of_mem _ hy)
    exact ⟨q :: qs, c :: cs, rfl, .cons a pr⟩
def spOther : Sp := fun vs H Q _ => ∃ (p t c : Addr) (n : Nat) (L S : List Cell), vs = [.ref p, .ref t, .ref c] ∧ PenAt H p n ∧ n ≤ 900000 ∧ CellsT H t L ∧ L ≠ [] ∧ L.length ≤ 30 ∧ CellsT H c S ∧ S.length ≤ 30 ∧
  ∀ r H' T n', PenAt H' p n' → n' ≤ n + 5 → Kp [p] H H' → CellsT H' r T → T.Nodup → Asc T → T.length ≤ 60 → Q (.ref r) H'
abbrev ocN : List Str := ["_law_pen_here", "_law_body", "_law_cells", "_law_way", "_law_row", "_law_k"]
section
variable {P : Program} {w : World} {K : PySem.W.Frag} {mg : Str → Option Value} {base : Heap}
theorem scOC : FnScope ocN ["_law_pen_here", "_law_body", "_law_cells"] (defScope lOtherCells) := ⟨rfl, rfl, rfl, by decide +kernel, rfl, by decide +kernel, by decide +kernel⟩
theorem ok_lOther {f : Addr} {fd : FuncData} (F : FnP K "_law_t2_other_cells" lOtherCells f fd) (B : Bl mg) (DW : Df P w K mg base CX0 1 "_law_draw" ["_law_pen_here", "_law_many"] spDraw) (DP : Df P w K mg base CX0 2 "_law_pick" ["_law_pen_here", "_law_some"] (spPick K)) (DA : Df P w K mg base CX0 1 "_law_t2_around" ["_law_cell"] spAround) :
    FnOk P w K mg base CX0 3 f fd ["_law_pen_here", "_law_body", "_law_cells"] spOther := by
  refine F.ok scOC (fun vs H Q E h => ?_) (fun cdv A outer s H vs Q E hr h => ?_)
  · obtain ⟨p, t, c, n, L, S, rfl, _⟩ := h
    rfl
  · obtain ⟨p, t, c, n, L, S, rfl, hp, hn, cL, neL, lL, cS, lS, k⟩ := h
    have h64 := room64 hr
    obtain ⟨tt, htt, key⟩ : ∃ t, PSs (cxOf CX0 P w K mg base ocN "_law_t2_other_cells" (defScope lOtherCells) f cdv A outer s H E).nox ((defBody lOtherCells).drop 3) t ∧
        ∀ (D : Ends) (v0 v1 v2 v3 v5 : Option V) (rl : Addr) (xs : List V) (G : Hp) (m : Nat), PenAt G p m → m ≤ n + 5 → Kp [p] H G → G rl = some (.lst xs) → RowC G xs → xs.length ≤ 60 →
          (∀ r H' T n', PenAt H' p n' → n' ≤ n + 5 → Kp [p] H H' → CellsT H' r T → T.Nodup → Asc T → T.length ≤ 60 → D.rt (.ref r) H') → t D [v0, v1, v2, v3, some (.ref rl), v5] G := by
      refine ⟨_, (pss_one (ps_ret (pe_tupleOf (by rfl) B.tuple (pe_callB (cr_sortedS rfl) (by rfl) B.sorted (by decide +kernel) (pa_cons (pe_callTy (cr_setOfT rfl h64) (by rfl) B.set (by decide +kernel) (pa_cons (pv 4) pa_nil)) pa_nil))))), ?_⟩
      intro D v0 v1 v2 v3 v5 rl xs G m hpG hm kpG er rowc lx kD
      obtain ⟨qs, C, rfl, pq⟩ := rowc.cells
      obtain ⟨ks, ek, k1, k2⟩ := ks_of pq
      have lq : qs.length = C.length := Paired.length pq
      have lks : ks.length = qs.length := by rw [← ek, List.length_map]
      rw [List.length_map] at lx
      refine ⟨_, rfl, rl, ks, rfl, SqL.of (by rw [er, ← ek, List.map_map]; rfl), fun q hq => ?_, by omega, fun sa L0 hsa subL allL => ?_⟩
      · obtain ⟨c, _, ac, e⟩ := k1 q hq
        rw [e]
        exact SqT.of ac
      have u1 := same_new (o := SetTO P w sa L0) hsa
      obtain ⟨cs, pcs⟩ := cs_of (H := upd G sa (SetTO P w sa L0)) (L := L0) fun q hq => by
        obtain ⟨c, _, ac, e⟩ := k1 q (subL q hq)
        exact ⟨c, u1 _ _ ac, e⟩
      have mem : ∀ c, c ∈ cs → c ∈ C := fun c hc => by
        obtain ⟨q, hq, aq, e⟩ := paired_memR pcs c hc
        obtain ⟨d, hd, ad, e2⟩ := k1 q (subL q hq)
        rw [e] at e2
        rw [pair_inj e2]
        exact hd
      refine ⟨sa, L0, cs, rfl, upd_same, pcs, fun nd so qs' cs' prq pm asc hso => .inl ⟨so, _, rfl, SqL.of upd_same, fun tp htp => ?_⟩⟩
      have u2 := same_new (o := .lst (qs'.map V.ref)) hso
      have u3 := same_new (o := .tup (qs'.map V.ref)) htp
      have u := (u1.trans u2).trans u3
      have nd' : cs'.Nodup := pm.nodup_iff.mpr nd
      refine kD tp _ cs' m (hpG.same u) hm (kpG.trans (Kp.of u)) ⟨qs', upd_same, paired_imp (fun x y (h : At _ x y) => u3 _ _ (u2 _ _ h)) prq⟩ nd' asc ?_
      have := len_le nd' (ys := C) fun x hx => mem x (pm.mem_iff.mp hx)
      omega
    refine ⟨_, PSs.nox (pss_cons (ps_par (i := 3) (j := 4) (by rfl) scOC.nd rfl rfl (by decide) rfl rfl (pa_cons (pe_df DW hr (by rfl) pass0 (pa_cons (pv 0) (pa_cons pe_int pa_nil))) (pa_cons (pe_callTy call_list_of (by rfl) B.list PyProof.Rows.boot_list (pa_cons (pv 2) pa_nil)) pa_nil)) (by rfl))
      (pss_cons (ps_set (i := 5) scOC.nd rfl (.inl rfl) (pe_df DW hr (by rfl) pass0 (pa_cons (pv 0) (pa_cons (pe_callB (call_max2 rfl) (by rfl) B.max (by decide +kernel) (pa_cons pe_int (pa_cons (pe_callB call_len_seq (by rfl) B.len PySem.boot_len (pa_cons (pv 4) pa_nil)) pa_nil))) pa_nil))))
      (pss_cons (ps_if (pt_cmpR op_eq (pv 3) pe_int (nomark _))
      (pss_one (ps_set (i := 4) scOC.nd rfl (.inl rfl) (pe_op op_cat (pe_slice sl_list (pv 4) po_none (po_some (pv 5))) (pe_slice sl_list (pv 4) (po_some (pe_op op_add (pv 5) pe_int)) po_none))))
      (pss_one (ps_if (pt_cmpR op_eq (pv 3) pe_int (nomark _))
        (pss_one (ps_set (i := 4) scOC.nd rfl (.inl rfl) (pe_op op_cat (pv 4) (pe_lst (pa_cons (pe_df DP hr (by rfl) pass0 (pa_cons (pv 0) (pa_cons (pv 1) pa_nil))) pa_nil)))))
        (pss_one (ps_if (pt_cmpR op_eq (pv 3) pe_int (nomark _))
          (pss_one (ps_set (i := 4) scOC.nd rfl (.inl rfl) (pe_op op_cat (pv 4) (pe_lst (pa_cons (pe_df DP hr (by rfl) pass0 (pa_cons (pv 0) (pa_cons (pe_df DA hr (by rfl) pass0 (pa_cons (pe_df DP hr (by rfl) pass0 (pa_cons (pv 0) (pa_cons (pv 1) pa_nil))) pa_nil)) pa_nil))) pa_nil)))))
          (pss_one (ps_if (pt_cmpR op_eq (pv 3) pe_int (nomark _))
            (pss_one (ps_set (i := 4) scOC.nd rfl (.inl rfl) (pe_df DP hr (by rfl) pass0 (pa_cons (pv 0) (pa_cons (pe_lst (pa_cons (pe_lst pa_nil) (pa_cons (pe_callTy call_list_of (by rfl) B.list PyProof.Rows.boot_list (pa_cons (pv 1) pa_nil)) (pa_cons (pe_slice sl_list (pe_callTy call_list_of (by rfl) B.list PyProof.Rows.boot_list (pa_cons (pv 1) pa_nil)) (po_some pe_int) po_none) (pa_cons (pe_slice sl_list (pe_callTy call_list_of (by rfl) B.list PyProof.Rows.boot_list (pa_cons (pv 1) pa_nil)) po_none (po_some pe_int)) pa_nil))))) pa_nil)))))
            pss_nil)))))))
      htt))), ?_⟩
    obtain ⟨cq, ec, pc⟩ := id cS
    have lcq : (cq.map V.ref).length = S.length := by rw [List.length_map]; exact Paired.length pc
    refine ⟨_, rfl, p, n, 5, rfl, hp, by decide, by decide, by omega, fun r1 H1 u0 u1 hp1 hb1 => ?_⟩
    have kp1 := kp_pick hb1
    have ek1 := pen_ek hp kp1
    refine ⟨_, rfl, c, _, rfl, .inr (SqT.of (ek1.tup ec)), fun rl hrl => ⟨_, _, rfl, ?_⟩⟩
    have s2 := same_new (o := .lst (cq.map V.ref)) hrl
    have hp2 := hp1.same s2
    have kp2 := kp1.trans (Kp.of s2)
    have er2 : upd H1 rl (.lst (cq.map V.ref)) rl = some (.lst (cq.map V.ref)) := upd_same
    have ro2 : RowC (upd H1 rl (.lst (cq.map V.ref))) (cq.map V.ref) := (RowC.of pc).ek (ek1.trans (.of s2))
    generalize upd H1 rl (.lst (cq.map V.ref)) = G2 at hp2 kp2 er2 ro2 ⊢
    generalize cq.map V.ref = zs at lcq er2 ro2
    refine ⟨_, rfl, _, rfl, rl, _, rfl, .inl (SqL.of er2), ?_⟩
    refine ⟨_, _, rfl, ?_⟩
    refine ⟨p, n + 1, _, rfl, hp2, by split <;> omega, by split <;> omega, by omega, fun r3 H3 v0 v1 hp3 hb3 => ?_⟩
    have kp3' := kp_pick hb3
    have kp3 := kp2.trans kp3'
    have ek3 := pen_ek hp2 kp3'
    have er3 := ek3.lst er2
    have ro3 := ro2.ek ek3
    obtain ⟨kk, rfl⟩ := Int.eq_ofNat_of_zero_le v0
    have cL3 := cL.ek (pen_ek hp kp3)
    obtain ⟨bs, et, pb⟩ := id cL3
    have lb : (bs.map V.ref).length = L.length := by rw [List.length_map]; exact Paired.length pb
    have l1 : 1 ≤ L.length := by
      cases L with
      | nil => exact absurd rfl neL
      | cons x M => exact Nat.succ_le_succ (Nat.zero_le _)
    -- the four ways
    refine ⟨_, rfl, rfl, _, rfl, ?_⟩
    refine ite2 (fun _ => ?_) (fun h3 => ?_)
    · refine ⟨_, rfl, _, rfl, _, rfl, rl, zs, rfl, SqL.of er3, fun l1 h1 => ?_⟩
      rw [cut_take]
      have t1 := same_new (o := .lst (zs.take kk)) h1
      refine ⟨_, rfl, _, rfl, _, _, rfl, rfl, ((kk + 1 : Nat) : Int), congrArg V.int (by omega), rl, zs, rfl, SqL.of (t1 _ _ er3), fun l2 h2 => ?_⟩
      rw [cut_drop]
      have t2 := same_new (o := .lst (zs.drop (kk + 1))) h2
      refine ⟨l1, l2, _, _, rfl, rfl, t2 _ _ upd_same, upd_same, by rw [List.length_take, List.length_drop, sizeLine_eq]; omega, fun l3 h3 => ?_⟩
      have sm := (t1.trans t2).trans (same_new (o := .lst (zs.take kk ++ zs.drop (kk + 1))) h3)
      have ek := Ek.of sm
      exact key _ _ _ _ _ _ l3 _ _ (n + 2) (hp3.same sm) (by omega) (kp3.trans (Kp.of sm)) upd_same (((ro3.ek ek).take kk).app ((ro3.ek ek).drop (kk + 1))) (by rw [List.length_append, List.length_take, List.length_drop]; omega) k
    refine ⟨_, rfl, rfl, _, rfl, ?_⟩
    refine ite2 (fun _ => ?_) (fun h4 => ?_)
    · refine ⟨_, rfl, _, rfl, _, rfl, p, t, n + 2, _, rfl, hp3, by omega, .inr (SqT.of et), by omega, by omega, fun i4 x4 G4 hx4 hp4 hb4 => ?_⟩
      have kp4 := kp_pick hb4
      have ek4 := pen_ek hp3 kp4
      rw [List.getElem?_map] at hx4
      obtain ⟨b4, hq4, rfl⟩ := Option.map_eq_some_iff.mp hx4
      obtain ⟨c4, _, a4⟩ := paired_get pb hq4
      refine ⟨one_le, fun l2 h2 => ?_⟩
      have t2 := same_new (o := .lst [.ref b4]) h2
      refine ⟨rl, l2, _, _, rfl, rfl, t2 _ _ (ek4.lst er3), upd_same, by rw [sizeLine_eq]; simp; omega, fun l3 h3 => ?_⟩
      have sm := t2.trans (same_new (o := .lst (zs ++ [.ref b4])) h3)
      have ek := ek4.trans (Ek.of sm)
      exact key _ _ _ _ _ _ l3 _ _ (n + 3) (hp4.same sm) (by omega) ((kp3.trans kp4).trans (Kp.of sm)) upd_same ((ro3.ek ek).app (.one (ek.at a4))) (by rw [List.length_append]; simp; omega) k
    refine ⟨_, rfl, rfl, _, rfl, ?_⟩
    refine ite2 (fun _ => ?_) (fun h5 => ?_)
    · refine ⟨_, rfl, _, rfl, _, rfl, _, rfl, p, t, n + 2, _, rfl, hp3, by omega, .inr (SqT.of et), by omega, by omega, fun i4 x4 G4 hx4 hp4 hb4 => ?_⟩
      have kp4 := kp_pick hb4
      have ek4 := pen_ek hp3 kp4
      rw [List.getElem?_map] at hx4
      obtain ⟨b4, hq4, rfl⟩ := Option.map_eq_some_iff.mp hx4
      obtain ⟨c4, _, a4⟩ := paired_get pb hq4
      refine ⟨b4, c4, rfl, ek4.at a4, fun al G6 s6 hal ⟨as, ea, pas⟩ => ?_⟩
      have las : (as.map V.ref).length = 8 := by rw [List.length_map]; exact Paired.length pas
      have hp6 := hp4.same s6
      refine ⟨p, al, n + 3, _, rfl, hp6, by omega, .inl (SqL.of ea), by omega, by omega, fun i7 x7 G7 hx7 hp7 hb7 => ?_⟩
      have kp7 := kp_pick hb7
      have ek7 := pen_ek hp6 kp7
      rw [List.getElem?_map] at hx7
      obtain ⟨b7, hq7, rfl⟩ := Option.map_eq_some_iff.mp hx7
      obtain ⟨c7, _, a7⟩ := paired_get pas hq7
      have ek37 := (ek4.trans (.of s6)).trans ek7
      refine ⟨one_le, fun l2 h2 => ?_⟩
      have t2 := same_new (o := .lst [.ref b7]) h2
      refine ⟨rl, l2, _, _, rfl, rfl, t2 _ _ (ek37.lst er3), upd_same, by rw [sizeLine_eq]; simp; omega, fun l3 h3 => ?_⟩
      have sm := t2.trans (same_new (o := .lst (zs ++ [.ref b7])) h3)
      exact key _ _ _ _ _ _ l3 _ _ (n + 4) (hp7.same sm) (by omega) ((((kp3.trans kp4).trans (Kp.of s6)).trans kp7).trans (Kp.of sm)) upd_same ((ro3.ek (ek37.trans (.of sm))).app (.one ((Ek.of sm).at (ek7.at a7)))) (by rw [List.length_append]; simp; omega) k
    refine ⟨_, rfl, rfl, _, rfl, ?_⟩
    refine ite2 (fun _ => ?_) (fun h6 => ?_)
    · refine ⟨_, rfl, Nat.zero_le _, fun m1 hm1 => ?_⟩
      have t1 := same_new (o := .lst []) hm1
      refine ⟨_, rfl, t, _, rfl, .inr (SqT.of (t1 _ _ et)), fun m2 hm2 => ?_⟩
      have t2 := same_new (o := .lst (bs.map V.ref)) hm2
      refine ⟨_, rfl, t, _, rfl, .inr (SqT.of (t2 _ _ (t1 _ _ et))), fun m3 hm3 => ?_⟩
      have t3 := same_new (o := .lst (bs.map V.ref)) hm3
      refine ⟨_, rfl, m3, bs.map V.ref, rfl, SqL.of upd_same, fun m4 hm4 => ?_⟩
      rw [show (1 : Int) = ((1 : Nat) : Int) from rfl, cut_drop]
      have t4 := same_new (o := .lst ((bs.map V.ref).drop 1)) hm4
      refine ⟨_, rfl, t, _, rfl, .inr (SqT.of (t4 _ _ (t3 _ _ (t2 _ _ (t1 _ _ et))))), fun m5 hm5 => ?_⟩
      have t5 := same_new (o := .lst (bs.map V.ref)) hm5
      refine ⟨_, rfl, m5, bs.map V.ref, rfl, SqL.of upd_same, fun m6 hm6 => ?_⟩
      rw [show (2 : Int) = ((2 : Nat) : Int) from rfl, cut_take]
      have t6 := same_new (o := .lst ((bs.map V.ref).take 2)) hm6
      refine ⟨four_le, fun m7 hm7 => ?_⟩
      have t7 := same_new (o := .lst [.ref m1, .ref m2, .ref m4, .ref m6]) hm7
      have t57 := (t5.trans t6).trans t7
      have t37 := (t3.trans t4).trans t57
      have e1 := ((t2.trans t37)) _ _ (upd_same (H := H3) (a := m1) (o := .lst []))
      have e2 := t37 _ _ (upd_same (H := upd H3 m1 (.lst [])) (a := m2) (o := .lst (bs.map V.ref)))
      have e4 := t57 _ _ (upd_same (H := upd (upd (upd H3 m1 (.lst [])) m2 (.lst (bs.map V.ref))) m3 (.lst (bs.map V.ref))) (a := m4) (o := .lst ((bs.map V.ref).drop 1)))
      have e6 := t7 _ _ (upd_same (H := upd (upd (upd (upd (upd H3 m1 (.lst [])) m2 (.lst (bs.map V.ref))) m3 (.lst (bs.map V.ref))) m4 (.lst ((bs.map V.ref).drop 1))) m5 (.lst (bs.map V.ref))) (a := m6) (o := .lst ((bs.map V.ref).take 2)))
      have sm := (t1.trans t2).trans t37
      have ro := (RowC.of pb).ek (Ek.of sm)
      have em := upd_same (H := upd (upd (upd (upd (upd (upd H3 m1 (.lst [])) m2 (.lst (bs.map V.ref))) m3 (.lst (bs.map V.ref))) m4 (.lst ((bs.map V.ref).drop 1))) m5 (.lst (bs.map V.ref))) m6 (.lst ((bs.map V.ref).take 2))) (a := m7) (o := .lst [.ref m1, .ref m2, .ref m4, .ref m6])
      generalize upd (upd (upd (upd (upd (upd (upd H3 m1 (.lst [])) m2 (.lst (bs.map V.ref))) m3 (.lst (bs.map V.ref))) m4 (.lst ((bs.map V.ref).drop 1))) m5 (.lst (bs.map V.ref))) m6 (.lst ((bs.map V.ref).take 2))) m7 (.lst [.ref m1, .ref m2, .ref m4, .ref m6]) = G7 at sm ro em e1 e2 e4 e6
      have hp7 := hp3.same sm
      refine ⟨p, m7, n + 2, _, rfl, hp7, by omega, .inl (SqL.of em), (by show 1 ≤ 4; decide), (by show 4 < 1073741824; decide), fun i8 x8 G8 hx8 hp8 hb8 => ?_⟩
      have kp8 := kp_pick hb8
      have ek8 := pen_ek hp7 kp8
      obtain ⟨q, xs, rfl, e9, r9, l9⟩ : ∃ q xs, x8 = V.ref q ∧ G7 q = some (.lst xs) ∧ RowC G7 xs ∧ xs.length ≤ 60 := by
        have m := List.mem_of_getElem? hx8
        simp only [List.mem_cons, List.not_mem_nil, or_false] at m
        rcases m with z | z | z | z
        · exact ⟨m1, _, z, e1, fun x hx => (nomatch hx), Nat.zero_le _⟩
        · exact ⟨m2, _, z, e2, ro, by omega⟩
        · exact ⟨m4, _, z, e4, ro.drop 1, by rw [List.length_drop]; omega⟩
        · exact ⟨m6, _, z, e6, ro.take 2, by rw [List.length_take]; omega⟩
      exact key _ _ _ _ _ _ q _ _ (n + 3) hp8 (by omega) ((kp3.trans (Kp.of sm)).trans kp8) (ek8.lst e9) (r9.ek ek8) l9 k
    · exact key _ _ _ _ _ _ rl _ _ (n + 2) hp3 (by omega) kp3 er3 ro3 (by omega) k
end
end Sq

set_option Elab.async false
set_option linter.all false
set_option maxRecDepth 100000
set_option maxHeartbeats 8000000
/-! The law's changed papers. -/
namespace Sq
open PySem PySem.Spec PyProof.Rows L2
theorem PapAt.ek {H G : Hp} {r : Addr} {p : Pap} (h : PapAt H r p) (k : Ek H G) : PapAt G r p := by
  obtain ⟨a, b, u, v, e, a1, a2, c1, c2⟩ := h
  exact ⟨a, b, u, v, k.tup e, k.at a1, k.at a2, c1.ek k, c2.ek k⟩
theorem PapsL.ek {H G : Hp} {r : Addr} {p : List Pap} (h : PapsL H r p) (k : Ek H G) : PapsL G r p := by
  obtain ⟨rs, e, pr⟩ := h
  exact ⟨rs, k.lst e, paired_imp (fun _ _ h => h.ek k) pr⟩
/-- small papers -/
def PapSm (p : Pap) : Prop := PapOk p ∧ p.2.2.1.length ≤ 30 ∧ p.2.2.2.length ≤ 60
def spLCh (K : PySem.W.Frag) : Sp := fun vs H Q _ => ∃ (p t r : Addr) (n : Nat) (L : List Cell) (a : Pap), vs = [.ref p, .ref t, .ref r] ∧ PenAt H p n ∧ n ≤ 800000 ∧ CellsT H t L ∧ L ≠ [] ∧ L.Nodup ∧ L.length ≤ 30 ∧ PapAt H r a ∧ PapOk a ∧ a.2.2.1.length ≤ 30 ∧ a.2.2.2.length ≤ 30 ∧
  ∀ q H' b n', PenAt H' p n' → n' ≤ n + 10 → Kp [p] H H' → PapAt H' q b → PapOk b → Q (.ref q) H'
abbrev chN : List Str := ["_law_pen_here", "_law_body", "_law_paper", "_law_start", "_law_end", "_law_support", "_law_witness", "_law_way", "_law_sides"]
section
variable {P : Program} {w : World} {K : PySem.W.Frag} {mg : Str → Option Value} {base : Heap}
theorem scCh : FnScope chN ["_law_pen_here", "_law_body", "_law_paper"] (defScope lChanged) := ⟨rfl, rfl, rfl, by decide +kernel, rfl, by decide +kernel, by decide +kernel⟩
theorem ok_lCh {f : Addr} {fd : FuncData} (F : FnP K "_law_t2_changed" lChanged f fd) (B : Bl mg) (DW : Df P w K mg base CX0 1 "_law_draw" ["_law_pen_here", "_law_many"] spDraw) (DP : Df P w K mg base CX0 2 "_law_pick" ["_law_pen_here", "_law_some"] (spPick K)) (DA : Df P w K mg base CX0 1 "_law_t2_around" ["_law_cell"] spAround)
    (DO : Df P w K mg base CX0 3 "_law_t2_other_cells" ["_law_pen_here", "_law_body", "_law_cells"] spOther) (DQ : Df P w K mg base CX0 1 "_law_t2_squares" ["_law_body"] spSquares) (DS : Df P w K mg base CX0 1 "_law_t2_supports" ["_law_squares", "_law_start", "_law_end"] (spSuppX K)) :
    FnOk P w K mg base CX0 4 f fd ["_law_pen_here", "_law_body", "_law_paper"] (spLCh K) := by
  refine F.ok scCh (fun vs H Q E h => ?_) (fun cdv A outer s H vs Q E hr h => ?_)
  · obtain ⟨p, t, r, n, L, a, rfl, _⟩ := h
    rfl
  · obtain ⟨p, t, r, n, L, ⟨a, b, S, W⟩, rfl, hp, hn, cL, neL, nL, lL, ⟨pa, pbb, pu, pv', er, aa, ab, cS, cW⟩, ⟨nW, lW⟩, lS, lW3, k⟩ := h
    have nW : W.Nodup := nW
    have lS : S.length ≤ 30 := lS
    have lW3 : W.length ≤ 30 := lW3
    have h64 := room64 hr
    obtain ⟨tt, htt, key⟩ : ∃ t, PSs (cxOf CX0 P w K mg base chN "_law_t2_changed" (defScope lChanged) f cdv A outer s H E).nox ((defBody lChanged).drop 3) t ∧
        ∀ (D : Ends) (v0 v1 v2 v7 v8 : Option V) (x1 x2 x3 x4 : Addr) (b : Pap) (G : Hp) (m : Nat), PenAt G p m → m ≤ n + 10 → Kp [p] H G → At G x1 b.1 → At G x2 b.2.1 → CellsT G x3 b.2.2.1 → CellsT G x4 b.2.2.2 → PapOk b →
          (∀ q H' b n', PenAt H' p n' → n' ≤ n + 10 → Kp [p] H H' → PapAt H' q b → PapOk b → D.rt (.ref q) H') → t D [v0, v1, v2, some (.ref x1), some (.ref x2), some (.ref x3), some (.ref x4), v7, v8] G := by
      refine ⟨_, (pss_one (ps_ret (pe_tup (pa_cons (pv 3) (pa_cons (pv 4) (pa_cons (pv 5) (pa_cons (pv 6) pa_nil))))))), ?_⟩
      intro D v0 v1 v2 v7 v8 x1 x2 x3 x4 b G m hpG hm kpG a1 a2 c3 c4 ok kD
      refine ⟨_, rfl, _, rfl, _, rfl, _, rfl, four_le, fun q hq => ?_⟩
      have s1 := same_new (o := .tup [.ref x1, .ref x2, .ref x3, .ref x4]) hq
      exact kD q _ b m (hpG.same s1) hm (kpG.trans (Kp.of s1)) ⟨x1, x2, x3, x4, upd_same, s1 _ _ a1, s1 _ _ a2, c3.ek (.of s1), c4.ek (.of s1)⟩ ok
    refine ⟨_, PSs.nox (pss_cons (ps_asg (pv 2) (pg_tup (by rfl) (pgs_cons (pg_name (i := 3) scCh.nd rfl (.inl rfl)) (pgs_cons (pg_name (i := 4) scCh.nd rfl (.inl rfl)) (pgs_cons (pg_name (i := 5) scCh.nd rfl (.inl rfl)) (pgs_cons (pg_name (i := 6) scCh.nd rfl (.inl rfl)) pgs_nil))))))
      (pss_cons (ps_set (i := 7) scCh.nd rfl (.inl rfl) (pe_df DW hr (by rfl) pass0 (pa_cons (pv 0) (pa_cons pe_int pa_nil))))
      (pss_cons (ps_if (pt_cmpR op_eq (pv 7) pe_int (nomark _))
      (pss_one (ps_set (i := 3) scCh.nd rfl (.inl rfl) (pe_df DP hr (by rfl) pass0 (pa_cons (pv 0) (pa_cons (pe_op op_cat (pe_callTy call_list_of (by rfl) B.list PyProof.Rows.boot_list (pa_cons (pv 1) pa_nil)) (pe_df DA hr (by rfl) pass0 (pa_cons (pv 3) pa_nil))) pa_nil)))))
      (pss_one (ps_if (pt_cmpR op_eq (pv 7) pe_int (nomark _))
        (pss_one (ps_set (i := 4) scCh.nd rfl (.inl rfl) (pe_df DP hr (by rfl) pass0 (pa_cons (pv 0) (pa_cons (pe_op op_cat (pe_df DA hr (by rfl) pass0 (pa_cons (pv 3) pa_nil)) (pe_lst (pa_cons (pv 3) pa_nil))) pa_nil)))))
        (pss_one (ps_if (pt_cmpR op_eq (pv 7) pe_int (nomark _))
          (pss_one (ps_set (i := 5) scCh.nd rfl (.inl rfl) (pe_df DO hr (by rfl) pass0 (pa_cons (pv 0) (pa_cons (pv 1) (pa_cons (pv 5) pa_nil))))))
          (pss_one (ps_if (pt_cmpR op_eq (pv 7) pe_int (nomark _))
            (pss_cons (ps_set (i := 8) scCh.nd rfl (.inl rfl) (pe_df DS hr (by rfl) pass0 (pa_cons (pe_df DQ hr (by rfl) pass0 (pa_cons (pv 1) pa_nil)) (pa_cons (pv 3) (pa_cons (pv 4) pa_nil)))))
              (pss_one (ps_set (i := 5) scCh.nd rfl (.inl rfl) (pe_ifExp (pt_cmpR (op_neK (K := K) rfl h64) (pv 8) (pe_lst pa_nil) (nomark _)) (pe_ix (ix_listK (K := K) rfl) (pv 8) (pe_un un_neg pe_int) (fun _ _ => rfl)) (pv 5)))))
            (pss_one (ps_if (pt_cmpR op_lt (pv 7) pe_int (nomark _))
              (pss_one (ps_set (i := 6) scCh.nd rfl (.inl rfl) (pe_df DO hr (by rfl) pass0 (pa_cons (pv 0) (pa_cons (pv 1) (pa_cons (pv 6) pa_nil))))))
              pss_nil)))))))))
      htt))), ?_⟩
    refine ⟨_, rfl, r, _, rfl, SqT.of er, rfl, _, _, rfl, _, _, rfl, _, _, rfl, _, _, rfl, rfl, ?_⟩
    refine ⟨_, rfl, p, n, 8, rfl, hp, by decide, by decide, by omega, fun r1 H1 u0 u1 hp1 hb1 => ?_⟩
    have kp1 := kp_pick hb1
    have ek1 := pen_ek hp kp1
    have aa := ek1.at aa
    have ab := ek1.at ab
    have cS := cS.ek ek1
    have cW := cW.ek ek1
    have cL := cL.ek ek1
    obtain ⟨bs, et, pb⟩ := id cL
    have lb : (bs.map V.ref).length = L.length := by rw [List.length_map]; exact Paired.length pb
    have l1 : 1 ≤ L.length := by
      cases L with
      | nil => exact absurd rfl neL
      | cons x M => exact Nat.succ_le_succ (Nat.zero_le _)
    refine ⟨_, rfl, rfl, _, rfl, ?_⟩
    refine ite2 (fun _ => ?_) (fun h3 => ?_)
    · refine ⟨_, rfl, _, rfl, t, _, rfl, .inr (SqT.of et), fun l1 hl1 => ?_⟩
      have t1 := same_new (o := .lst (bs.map V.ref)) hl1
      refine ⟨_, rfl, pa, a, rfl, t1 _ _ aa, fun al G6 s6 hal ⟨as, ea, pas⟩ => ?_⟩
      have las : (as.map V.ref).length = 8 := by rw [List.length_map]; exact Paired.length pas
      refine ⟨l1, al, _, _, rfl, rfl, s6 _ _ upd_same, ea, by rw [sizeLine_eq]; omega, fun l3 h3 => ?_⟩
      have sm := (t1.trans s6).trans (same_new (o := .lst (bs.map V.ref ++ as.map V.ref)) h3)
      have ro : RowC (upd G6 l3 (.lst (bs.map V.ref ++ as.map V.ref))) (bs.map V.ref ++ as.map V.ref) := ((RowC.of pb).ek (.of sm)).app ((RowC.of pas).ek (.of (same_new h3)))
      have hp3 := hp1.same sm
      refine ⟨p, l3, n + 1, _, rfl, hp3, by omega, .inl (SqL.of upd_same), by rw [List.length_append]; omega, by rw [List.length_append]; omega, fun i8 x8 G8 hx8 hp8 hb8 => ?_⟩
      have kp8 := kp_pick hb8
      have ek8 := (Ek.of sm).trans (pen_ek hp3 kp8)
      obtain ⟨q, c, rfl, aq⟩ := ro x8 (List.mem_of_getElem? hx8)
      exact key _ _ _ _ _ _ q pbb pu pv' (c, b, S, W) G8 (n + 2) hp8 (by omega) ((kp1.trans (Kp.of sm)).trans kp8) ((pen_ek hp3 kp8).at aq) (ek8.at ab) (cS.ek ek8) (cW.ek ek8) ⟨nW, lW⟩ k
    refine ⟨_, rfl, rfl, _, rfl, ?_⟩
    refine ite2 (fun _ => ?_) (fun h4 => ?_)
    · refine ⟨_, rfl, _, rfl, pa, a, rfl, aa, fun al G6 s6 hal ⟨as, ea, pas⟩ => ?_⟩
      have las : (as.map V.ref).length = 8 := by rw [List.length_map]; exact Paired.length pas
      refine ⟨_, rfl, one_le, fun l2 h2 => ?_⟩
      have t2 := same_new (o := .lst [.ref pa]) h2
      refine ⟨al, l2, _, _, rfl, rfl, t2 _ _ ea, upd_same, by rw [sizeLine_eq]; simp only [List.length_singleton]; omega, fun l3 h3 => ?_⟩
      have t3 := same_new (o := .lst (as.map V.ref ++ [.ref pa])) h3
      have sm := (s6.trans t2).trans t3
      have ro : RowC (upd (upd G6 l2 (.lst [.ref pa])) l3 (.lst (as.map V.ref ++ [.ref pa]))) (as.map V.ref ++ [.ref pa]) := ((RowC.of pas).ek (.of (t2.trans t3))).app (.one (sm _ _ aa))
      have hp3 := hp1.same sm
      refine ⟨p, l3, n + 1, _, rfl, hp3, by omega, .inl (SqL.of upd_same), by rw [List.length_append]; simp only [List.length_singleton]; omega, by rw [List.length_append]; simp only [List.length_singleton]; omega, fun i8 x8 G8 hx8 hp8 hb8 => ?_⟩
      have kp8 := kp_pick hb8
      have ek8 := (Ek.of sm).trans (pen_ek hp3 kp8)
      obtain ⟨q, c, rfl, aq⟩ := ro x8 (List.mem_of_getElem? hx8)
      exact key _ _ _ _ _ _ pa q pu pv' (a, c, S, W) G8 (n + 2) hp8 (by omega) ((kp1.trans (Kp.of sm)).trans kp8) (ek8.at aa) ((pen_ek hp3 kp8).at aq) (cS.ek ek8) (cW.ek ek8) ⟨nW, lW⟩ k
    refine ⟨_, rfl, rfl, _, rfl, ?_⟩
    refine ite2 (fun _ => ?_) (fun h5 => ?_)
    · refine ⟨_, rfl, _, rfl, _, rfl, p, t, pu, n + 1, L, S, rfl, hp1, by omega, cL, neL, lL, cS, lS, fun q G8 T m hp8 hm kp8 cT nT aT lT => ?_⟩
      have ek8 := pen_ek hp1 kp8
      exact key _ _ _ _ _ _ pa pbb q pv' (a, b, T, W) G8 m hp8 (by omega) (kp1.trans kp8) (ek8.at aa) (ek8.at ab) cT (cW.ek ek8) ⟨nW, lW⟩ k
    refine ⟨_, rfl, rfl, _, rfl, ?_⟩
    refine ite2 (fun _ => ?_) (fun h6 => ?_)
    · refine ⟨_, rfl, t, L, rfl, cL, nL, by omega, fun d G2 s2 hd ed => ?_⟩
      refine ⟨_, rfl, _, rfl, d, pa, pbb, L, a, b, rfl, ed, s2 _ _ aa, s2 _ _ ab, fun l G3 Ss s3 cl ll hS => ?_⟩
      refine ⟨_, rfl, Nat.zero_le _, fun l4 hl4 => ?_⟩
      have s4 := same_new (o := .lst []) hl4
      have cl4 := cellsLL_ek cl (.of s4)
      refine ⟨_, _, cellsLL_dp cl4, .lst (SqL.of upd_same) .nil, lay_bodsL.shaped (by decide), (lay_list (n := 0) (ds := []) (by simp)).shaped (by decide), _, rfl, ?_⟩
      rw [eqv_nilD]
      have sm := (s2.trans s3).trans s4
      generalize upd G3 l4 (.lst []) = G4 at s4 cl4 sm
      have ek4 := Ek.of sm
      refine ite2 (fun h7 => ?_) (fun h7 => ?_)
      · obtain ⟨ts, e4, pr4⟩ := cl4
        rcases List.eq_nil_or_concat ts with z | ⟨ys, y, z⟩
        · subst z
          cases pr4
          exact absurd h7 (by simp)
        · rw [List.concat_eq_append] at z
          subst z
          obtain ⟨T, _, cT⟩ := paired_memL pr4 y (by simp)
          rw [List.map_append] at e4
          refine ⟨_, rfl, _, rfl, _, _, _, _, rfl, rfl, SqL.of e4, atI_last _ _, ?_⟩
          exact key _ _ _ _ _ _ pa pbb y pv' (a, b, T, W) G4 (n + 1) (hp1.same sm) (by omega) (kp1.trans (Kp.of sm)) (ek4.at aa) (ek4.at ab) cT (cW.ek ek4) ⟨nW, lW⟩ k
      · exact ⟨_, rfl, key _ _ _ _ _ _ pa pbb pu pv' (a, b, S, W) G4 (n + 1) (hp1.same sm) (by omega) (kp1.trans (Kp.of sm)) (ek4.at aa) (ek4.at ab) (cS.ek ek4) (cW.ek ek4) ⟨nW, lW⟩ k⟩
    refine ⟨_, rfl, _, _, rfl, rfl, _, rfl, ?_⟩
    refine ite2 (fun _ => ?_) (fun h7 => ?_)
    · refine ⟨_, rfl, _, rfl, _, rfl, p, t, pv', n + 1, L, W, rfl, hp1, by omega, cL, neL, lL, cW, lW3, fun q G8 T m hp8 hm kp8 cT nT aT lT => ?_⟩
      have ek8 := pen_ek hp1 kp8
      exact key _ _ _ _ _ _ pa pbb pu q (a, b, S, T) G8 m hp8 (by omega) (kp1.trans kp8) (ek8.at aa) (ek8.at ab) (cS.ek ek8) cT ⟨nT, Nat.le_trans lT (by decide)⟩ k
    · exact key _ _ _ _ _ _ pa pbb pu pv' (a, b, S, W) _ (n + 1) hp1 (by omega) kp1 aa ab cS cW ⟨nW, lW⟩ k
end
end Sq

set_option Elab.async false
set_option linter.all false
set_option maxRecDepth 100000
set_option maxHeartbeats 8000000
/-! The law's shuffled and is. -/
namespace Sq
open PySem PySem.Spec PyProof.Rows L2
def spShuf : Sp := fun vs H Q _ => ∃ (p a : Addr) (n : Nat) (xs : List V), vs = [.ref p, .ref a] ∧ PenAt H p n ∧ n ≤ 800000 ∧ H a = some (.lst xs) ∧ xs.length ≤ 100 ∧
  ∀ l H' ys n', PenAt H' p n' → n' ≤ n + 100 → Kp [p] H H' → H' l = some (.lst ys) → (∀ y ∈ ys, y ∈ xs) → ys.length = xs.length → Q (.ref l) H'
def spIs : Sp := fun vs H Q _ => ∃ (a b : Bool), vs = [.bl a, .bl b] ∧ Q (.bl (a == b)) H
abbrev shN : List Str := ["_law_pen_here", "_law_some", "_law_left", "_law_found", "_law_lap", "_law_k"]
section
variable {P : Program} {w : World} {K : PySem.W.Frag} {mg : Str → Option Value} {base : Heap}
theorem scIs : FnScope ["_law_told", "_law_due"] ["_law_told", "_law_due"] (defScope lIs) := ⟨rfl, rfl, rfl, by decide +kernel, rfl, by decide +kernel, by decide +kernel⟩
theorem ok_lIs {f : Addr} {fd : FuncData} (F : FnP K "_law_t2_is" lIs f fd) (B : Bl mg) : FnOk P w K mg base CX0 1 f fd ["_law_told", "_law_due"] spIs := by
  refine F.ok scIs (fun vs H Q E h => ?_) (fun cdv A outer s H vs Q E hr h => ?_)
  · obtain ⟨a, b, rfl, _⟩ := h
    rfl
  · obtain ⟨a, b, rfl, k⟩ := h
    refine ⟨_, PSs.nox (pss_one (ps_ret (pe_and (pe_callB call_isi (by rfl) B.isinstance PyProof.Rows.boot_isinstance (pa_cons (pv 0) (pa_cons (pe_bltn (v := .ty "bool") (by rfl) B.bool PyProof.Rows.boot_bool rfl) pa_nil))) (pe_one (pe_cmpR op_eq (pv 0) (pv 1) (nomark _)))))), ?_⟩
    refine ⟨_, rfl, _, _, _, _, _, rfl, .ty "bool", (.base (.bl a)), kd_isi (T := "bool") (by decide) (by decide), _, rfl, ?_⟩
    rw [if_pos (by decide)]
    refine ⟨_, rfl, _, rfl, rfl, ?_⟩
    have e : decide (V.bl a = V.bl b) = (a == b) := by cases a <;> cases b <;> decide
    rw [e]
    exact k
theorem scShuf : FnScope shN ["_law_pen_here", "_law_some"] (defScope lShuffled) := ⟨rfl, rfl, rfl, by decide +kernel, rfl, by decide +kernel, by decide +kernel⟩
theorem ok_lShuf {f : Addr} {fd : FuncData} (F : FnP K "_law_shuffled" lShuffled f fd) (B : Bl mg) (DW : Df P w K mg base CX0 1 "_law_draw" ["_law_pen_here", "_law_many"] spDrawC) : FnOk P w K mg base CX0 2 f fd ["_law_pen_here", "_law_some"] spShuf := by
  refine F.ok scShuf (fun vs H Q E h => ?_) (fun cdv A outer s H vs Q E hr h => ?_)
  · obtain ⟨p, a, n, xs, rfl, _⟩ := h
    rfl
  · obtain ⟨p, a, n, xs, rfl, hp, hn, ea, lx, k⟩ := h
    refine ⟨_, PSs.nox (pss_cons (ps_par (i := 2) (j := 3) (by rfl) scShuf.nd rfl rfl (by decide) rfl rfl (pa_cons (pe_callTy call_list_of (by rfl) B.list PyProof.Rows.boot_list (pa_cons (pv 1) pa_nil)) (pa_cons (pe_lst pa_nil) pa_nil)) (by rfl))
      (pss_cons (ps_for PassesOwn.never rfl (pi_range1 (by rfl) B.range (pa_cons (pe_callB call_len_seq (by rfl) B.len PySem.boot_len (pa_cons (pv 1) pa_nil)) pa_nil)) (pg_name (i := 4) scShuf.nd rfl (.inl rfl))
      (pss_cons (ps_set (i := 5) scShuf.nd rfl (.inl rfl) (pe_df DW hr (by rfl) pass0 (pa_cons (pv 0) (pa_cons (pe_callB call_len_seq (by rfl) B.len PySem.boot_len (pa_cons (pv 2) pa_nil)) pa_nil))))
        (pss_cons (ps_expr (pe_bm PySem.F.plainAttrs_list PySem.F.slot_list_append PySem.F.type_list_append mt_append (pv 3) (pa_cons (pe_ix (ix_listK (K := K) rfl) (pv 2) (pv 5) (fun _ _ => rfl)) pa_nil)))
        (pss_one (ps_set (i := 2) scShuf.nd rfl (.inl rfl) (pe_op op_cat (pe_slice sl_list (pv 2) po_none (po_some (pv 5))) (pe_slice sl_list (pv 2) (po_some (pe_op op_add (pv 5) pe_int)) po_none)))))))
      (pss_one (ps_ret (pv 3))))), ?_⟩
    obtain ⟨c, hc⟩ := hp.c
    refine ⟨_, rfl, a, _, rfl, .inl (SqL.of ea), fun l1 hl1 => ⟨Nat.zero_le _, fun fo hfo => ⟨_, _, rfl, ?_⟩⟩⟩
    have t1 := same_new (o := .lst xs) hl1
    have t2 := same_new (o := .lst []) hfo
    have t12 := t1.trans t2
    have hfo0 : H fo = none := by
      cases q : H fo with
      | none => rfl
      | some o => rw [t1 _ _ q] at hfo; cases hfo
    have nl1 : l1 ≠ fo := fun z => by rw [← z, upd_same] at hfo; cases hfo
    have e1 := t2 _ _ (upd_same (H := H) (a := l1) (o := .lst xs))
    have ef := upd_same (H := upd H l1 (.lst xs)) (a := fo) (o := .lst [])
    generalize upd (upd H l1 (.lst xs)) fo (.lst []) = G0 at t12 e1 ef
    have hc0 := hc.same t12
    have np := hc.ne hfo0
    refine ⟨_, rfl, a, _, rfl, .inl (SqL.of (t12 _ _ ea)), _, rfl, by omega, by omega, ?_⟩
    refine for_range (lo := 0) (n := ((xs.length : Nat) : Int).toNat) (fun i σ G => ∃ (l : Addr) (ls fs : List V) (v4 v5 : Option V), σ = [some (.ref p), some (.ref a), some (.ref l), some (.ref fo), v4, v5] ∧ PenC G p c (n + i) ∧ Kp [p] H G ∧ l ≠ fo ∧ G l = some (.lst ls) ∧ G fo = some (.lst fs) ∧
      ls.length + i = xs.length ∧ fs.length = i ∧ (∀ y ∈ ls, y ∈ xs) ∧ ∀ y ∈ fs, y ∈ xs) ⟨l1, xs, [], none, none, rfl, hc0, Kp.of t12, nl1, e1, ef, rfl, rfl, fun _ h => h, fun _ h => (nomatch h)⟩ ?_ ?_
    · rintro i σ G hi ⟨l, ls, fs, v4, v5, rfl, hG, kp, nl, el, ef, len, lf, mem, memf⟩
      have hi : i < xs.length := hi
      rw [Int.zero_add]
      refine ⟨_, rfl, _, rfl, l, _, rfl, .inl (SqL.of el), p, c, n + i, _, rfl, hG, by omega, by omega, by omega, fun r1 G1 u0 u1 hp1 hb1 => ?_⟩
      have kp1 := kp_pick hb1
      have ek1 := pen_ek hG.at kp1
      obtain ⟨kk, rfl⟩ := Int.eq_ofNat_of_zero_le u0
      have hk : kk < ls.length := by omega
      have hx : ls[kk]? = some ls[kk] := List.getElem?_eq_getElem hk
      have el1 := ek1.lst el
      have ef1 := ek1.lst ef
      refine ⟨_, rfl, .inl ⟨rfl, _, SqL.of ef1⟩, _, rfl, _, rfl, _, _, _, _, rfl, rfl, SqL.of el1, atI_nat hx, fo, _, _, rfl, rfl, ef1, by rw [sizeLine_eq]; omega, ?_⟩
      have hp2 : PenC (upd G1 fo (.lst (fs ++ [ls[kk]]))) p c (n + i + 1) := hp1.off np.1 np.2
      have kp2 : Kp [p] H (upd G1 fo (.lst (fs ++ [ls[kk]]))) := (kp.trans kp1).put hfo0
      have el2 : upd G1 fo (.lst (fs ++ [ls[kk]])) l = some (.lst ls) := by rw [upd_ne nl]; exact el1
      have ef2 := upd_same (H := G1) (a := fo) (o := .lst (fs ++ [ls[kk]]))
      generalize upd G1 fo (.lst (fs ++ [ls[kk]])) = G2 at hp2 kp2 el2 ef2
      refine ⟨_, rfl, _, rfl, _, rfl, l, ls, rfl, SqL.of el2, fun m1 h1 => ?_⟩
      rw [cut_take]
      have t1 := same_new (o := .lst (ls.take kk)) h1
      refine ⟨_, rfl, _, rfl, _, _, rfl, rfl, ((kk + 1 : Nat) : Int), congrArg V.int (by omega), l, ls, rfl, SqL.of (t1 _ _ el2), fun m2 h2 => ?_⟩
      rw [cut_drop]
      have t2 := same_new (o := .lst (ls.drop (kk + 1))) h2
      refine ⟨m1, m2, _, _, rfl, rfl, t2 _ _ upd_same, upd_same, by rw [List.length_take, List.length_drop, sizeLine_eq]; omega, fun m3 h3 => ?_⟩
      have sm := (t1.trans t2).trans (same_new (o := .lst (ls.take kk ++ ls.drop (kk + 1))) h3)
      have n3 : m3 ≠ fo := fun z => by
        have := (t1.trans t2) _ _ ef2
        rw [z, this] at h3
        cases h3
      refine ⟨m3, _, fs ++ [ls[kk]], _, _, rfl, hp2.same sm, kp2.trans (Kp.of sm), n3, upd_same, sm _ _ ef2, ?_, by rw [List.length_append, lf]; rfl, fun y hy => ?_, fun y hy => ?_⟩
      · rw [List.length_append, List.length_take, List.length_drop]
        omega
      · rcases List.mem_append.mp hy with h | h
        · exact mem y (List.mem_of_mem_take h)
        · exact mem y (List.mem_of_mem_drop h)
      · rcases List.mem_append.mp hy with h | h
        · exact memf y h
        · rw [List.mem_singleton.mp h]
          exact mem _ (List.getElem_mem hk)
    · rintro σ G ⟨l, ls, fs, v4, v5, rfl, hG, kp, nl, el, ef, len, lf, mem, memf⟩
      exact ⟨_, rfl, k fo G fs _ hG.at (by have : ((xs.length : Nat) : Int).toNat = xs.length := rfl; omega) kp ef memf lf⟩
end
end Sq

set_option Elab.async false
set_option linter.all false
set_option maxRecDepth 100000
set_option maxHeartbeats 4000000
/-! Distances and ways: the mathematics of a witness. -/
namespace Sq
open PySem PySem.Spec PyProof.Rows L2
abbrev Far : Type := List (Cell × Nat)
def keysF (f : Far) : List Cell := f.map (·.1)
structure FarOk (R : List Cell) (m : Cell) (f : Far) : Prop where
  nd : (keysF f).Nodup
  sub : ∀ p ∈ f, p.1 ∈ R
  m0 : (m, 0) ∈ f
  zero : ∀ c, (c, 0) ∈ f → c = m
  back : ∀ c n, (c, n + 1) ∈ f → ∃ d, d ∈ besideC c ∧ (d, n) ∈ f
/-- the neighbours of what lies nearer than k are met -/
def FarTo (R : List Cell) (f : Far) (k : Nat) : Prop := (∀ c n, (c, n) ∈ f → n < k → ∀ d ∈ besideC c, d ∈ R → d ∈ keysF f) ∧ ∀ p ∈ f, p.2 ≤ k
theorem mem_keysF {f : Far} {c : Cell} : c ∈ keysF f ↔ ∃ n, (c, n) ∈ f := by
  unfold keysF
  rw [List.mem_map]
  exact ⟨fun ⟨p, h, e⟩ => ⟨p.2, by rw [← e]; exact h⟩, fun ⟨n, h⟩ => ⟨_, h, rfl⟩⟩
theorem far_one {f : Far} : (keysF f).Nodup → ∀ {c : Cell} {a b : Nat}, (c, a) ∈ f → (c, b) ∈ f → a = b := by
  induction f with
  | nil => intro _ c a b h; cases h
  | cons p f ih =>
    intro nd c a b ha hb
    have nd : (p.1 :: keysF f).Nodup := nd
    obtain ⟨n1, n2⟩ := List.nodup_cons.mp nd
    rcases List.mem_cons.mp ha with e1 | h1 <;> rcases List.mem_cons.mp hb with e2 | h2
    · rw [← e2] at e1
      exact congrArg Prod.snd e1
    · exact absurd (mem_keysF.mpr ⟨b, h2⟩) (by rw [← e1] at n1; exact n1)
    · exact absurd (mem_keysF.mpr ⟨a, h1⟩) (by rw [← e2] at n1; exact n1)
    · exact ih n2 h1 h2
theorem far_chain {R : List Cell} {m : Cell} {f : Far} (ok : FarOk R m f) : ∀ (n : Nat) (c : Cell), (c, n) ∈ f → ∃ l : List Cell, l.Nodup ∧ l.length = n + 1 ∧ ∀ x ∈ l, ∃ v, v ≤ n ∧ (x, v) ∈ f
  | 0, c, h => ⟨[c], by simp, rfl, fun x hx => ⟨0, Nat.le_refl _, (List.mem_singleton.mp hx) ▸ h⟩⟩
  | n + 1, c, h => by
    obtain ⟨d, _, hd⟩ := ok.back c n h
    obtain ⟨l, nd, ln, all⟩ := far_chain ok n d hd
    refine ⟨c :: l, List.nodup_cons.mpr ⟨fun z => ?_, nd⟩, by rw [List.length_cons, ln], fun x hx => ?_⟩
    · obtain ⟨v, hv, hc⟩ := all c z
      have := far_one ok.nd h hc
      omega
    · rcases List.mem_cons.mp hx with e | e
      · exact ⟨n + 1, Nat.le_refl _, e ▸ h⟩
      · obtain ⟨v, hv, hc⟩ := all x e
        exact ⟨v, by omega, hc⟩
theorem far_all {R : List Cell} {m : Cell} {f : Far} (ok : FarOk R m f) (to : FarTo R f R.length) (hR : Hangs R) : ∀ x ∈ R, x ∈ keysF f := by
  have lt : ∀ p ∈ f, p.2 < R.length := fun p hp => by
    have le := to.2 p hp
    refine Classical.byContradiction fun z => ?_
    obtain ⟨l, nd, ln, all⟩ := far_chain ok p.2 p.1 hp
    have := len_le nd (ys := R) fun x hx => by
      obtain ⟨v, _, h⟩ := all x hx
      exact ok.sub _ h
    omega
  have mR : m ∈ R := ok.sub _ ok.m0
  intro x hx
  have r := hR.2 m mR x hx
  induction r with
  | refl => exact mem_keysF.mpr ⟨0, ok.m0⟩
  | @step b c hab hb hc ih =>
    obtain ⟨n, hn⟩ := mem_keysF.mp (ih (hab.mem mR))
    exact to.1 b n hn (lt _ hn) c hb hc
/-- what a lap adds -/
structure LapOk (R : List Cell) (f : Far) (line lat : List Cell) (k : Nat) (cov : Cell → Prop) : Prop where
  nd : lat.Nodup
  new : ∀ c ∈ lat, c ∈ R ∧ c ∉ keysF f ∧ ∃ d, d ∈ besideC c ∧ (d, k) ∈ f
  cov : ∀ d, cov d → d ∈ R → d ∈ keysF f ∨ d ∈ lat
def lapF (f : Far) (lat : List Cell) (k : Nat) : Far := f ++ lat.map fun c => (c, k + 1)
theorem keys_lap {f : Far} {lat : List Cell} {k : Nat} : keysF (lapF f lat k) = keysF f ++ lat := by
  unfold keysF lapF
  rw [List.map_append, List.map_map]
  congr 1
  exact List.map_id _
theorem lap_mem {f : Far} {lat : List Cell} {k n : Nat} {c : Cell} : (c, n) ∈ lapF f lat k ↔ (c, n) ∈ f ∨ (c ∈ lat ∧ n = k + 1) := by
  unfold lapF
  rw [List.mem_append, List.mem_map]
  constructor
  · rintro (h | ⟨d, hd, e⟩)
    · exact .inl h
    · obtain ⟨e1, e2⟩ := Prod.mk.inj e
      exact .inr ⟨e1 ▸ hd, e2.symm⟩
  · rintro (h | ⟨h, e⟩)
    · exact .inl h
    · exact .inr ⟨c, h, by rw [e]⟩
theorem far_lap {R : List Cell} {m : Cell} {f : Far} {line lat : List Cell} {k : Nat} (ok : FarOk R m f) (to : FarTo R f k) (hl : ∀ c, c ∈ line ↔ (c, k) ∈ f) (lp : LapOk R f line lat k fun d => ∃ c ∈ line, d ∈ besideC c) :
    FarOk R m (lapF f lat k) ∧ FarTo R (lapF f lat k) (k + 1) ∧ ∀ c, c ∈ lat ↔ (c, k + 1) ∈ lapF f lat k := by
  refine ⟨⟨?_, fun p hp => ?_, lap_mem.mpr (.inl ok.m0), fun c h => ?_, fun c n h => ?_⟩, ⟨fun c n h hn d hd dR => ?_, fun p hp => ?_⟩, fun c => ?_⟩
  · rw [keys_lap]
    exact List.nodup_append.mpr ⟨ok.nd, lp.nd, fun x hx y hy e => (lp.new y hy).2.1 (e ▸ hx)⟩
  · obtain ⟨c, n⟩ := p
    rcases lap_mem.mp hp with h | ⟨h, _⟩
    · exact ok.sub _ h
    · exact (lp.new c h).1
  · rcases lap_mem.mp h with h | ⟨_, h⟩
    · exact ok.zero c h
    · omega
  · rcases lap_mem.mp h with h | ⟨h, e⟩
    · obtain ⟨d, d1, d2⟩ := ok.back c n h
      exact ⟨d, d1, lap_mem.mpr (.inl d2)⟩
    · obtain ⟨_, _, d, d1, d2⟩ := lp.new c h
      have : n = k := by omega
      subst this
      exact ⟨d, d1, lap_mem.mpr (.inl d2)⟩
  · rw [keys_lap, List.mem_append]
    rcases lap_mem.mp h with h1 | ⟨_, e⟩
    · by_cases z : n < k
      · exact .inl (to.1 c n h1 z d hd dR)
      · have e : n = k := by omega
        rw [e] at h1
        exact lp.cov d ⟨c, (hl c).mpr h1, hd⟩ dR
    · omega
  · obtain ⟨c, n⟩ := p
    rcases lap_mem.mp hp with h | ⟨_, h⟩
    · exact Nat.le_succ_of_le (to.2 _ h)
    · exact Nat.le_of_eq h
  · rw [lap_mem]
    constructor
    · exact fun h => .inr ⟨h, rfl⟩
    · rintro (h | ⟨h, _⟩)
      · have := to.2 _ h
        simp only at this
        omega
      · exact h
theorem reach_incl {L M : List Cell} (h : ∀ x ∈ L, x ∈ M) {a b : Cell} (r : Reach L a b) : Reach M a b := by
  induction r with
  | refl => exact .refl
  | step _ hb hc ih => exact ih.step hb (h _ hc)
/-- the cells of F, and the one that is stood at: each leads to m or to there -/
structure WayOk (R : List Cell) (m : Cell) (F : List Cell) (here : Cell) : Prop where
  nd : F.Nodup
  sub : ∀ x ∈ F, x ∈ R
  con : ∀ x ∈ F, Reach (F ++ [here]) x m ∨ Reach (F ++ [here]) x here
/-- one more key, if it is new -/
def addF (F : List Cell) (c : Cell) : List Cell := if c ∈ F then F else F ++ [c]
theorem mem_addF {F : List Cell} {c x : Cell} : x ∈ addF F c ↔ x ∈ F ∨ x = c := by
  unfold addF
  split
  · rename_i h
    exact ⟨.inl, fun z => z.elim id fun e => e ▸ h⟩
  · rw [List.mem_append, List.mem_singleton]
theorem way_add {R : List Cell} {m : Cell} {F : List Cell} {here : Cell} (w : WayOk R m F here) (hR : here ∈ R) : (addF F here).Nodup ∧ (∀ x ∈ addF F here, x ∈ R) ∧ ∀ x ∈ addF F here, Reach (addF F here) x m ∨ Reach (addF F here) x here := by
  refine ⟨?_, fun x hx => ?_, fun x hx => ?_⟩
  · unfold addF
    split
    · exact w.nd
    · rename_i h
      exact List.nodup_append.mpr ⟨w.nd, by simp, fun a ha b hb e => h (by rw [List.mem_singleton.mp hb] at e; exact e ▸ ha)⟩
  · rcases mem_addF.mp hx with h | h
    · exact w.sub x h
    · exact h ▸ hR
  · have inc : ∀ y ∈ F ++ [here], y ∈ addF F here := fun y hy => mem_addF.mpr ((List.mem_append.mp hy).imp id List.mem_singleton.mp)
    rcases mem_addF.mp hx with h | h
    · exact (w.con x h).imp (reach_incl inc) (reach_incl inc)
    · subst h
      exact .inr .refl
/-- on to a neighbour -/
theorem way_step {R : List Cell} {m : Cell} {F : List Cell} {here next : Cell} (w : WayOk R m F here) (hR : here ∈ R) (nb : next ∈ besideC here) : WayOk R m (addF F here) next := by
  obtain ⟨h1, h2, h3⟩ := way_add w hR
  refine ⟨h1, h2, fun x hx => ?_⟩
  have inc : ∀ y ∈ addF F here, y ∈ addF F here ++ [next] := fun y hy => List.mem_append_left _ hy
  rcases h3 x hx with h | h
  · exact .inl (reach_incl inc h)
  · exact .inr ((reach_incl inc h).step nb (by simp))
/-- there -/
theorem way_end {R : List Cell} {m : Cell} {F : List Cell} (w : WayOk R m F m) (hR : m ∈ R) : WayOk R m (addF F m) m := by
  obtain ⟨h1, h2, h3⟩ := way_add w hR
  refine ⟨h1, h2, fun x hx => .inl ?_⟩
  exact reach_incl (fun y hy => List.mem_append_left _ hy) ((h3 x hx).elim id id)
/-- all ways walked: they hang together -/
theorem ways_hang {R : List Cell} {m : Cell} {F : List Cell} (w : WayOk R m F m) (mF : m ∈ F) : Hangs F := by
  have inc : ∀ y ∈ F ++ [m], y ∈ F := fun y hy => (List.mem_append.mp hy).elim id fun e => (List.mem_singleton.mp e) ▸ mF
  rw [hangs_from mF]
  intro x hx
  have r := reach_incl inc ((w.con x hx).elim id id)
  exact r.symm hx
end Sq

set_option Elab.async false
set_option linter.all false
set_option maxRecDepth 100000
set_option maxHeartbeats 8000000
/-! The law's witness: the rules it wants. -/
namespace Sq
open PySem PySem.Spec PyProof.Rows L2
section
variable {X : Cx}
theorem reads_cells {pins : List (Addr × Obj)} {σ : L2.St} {H : Hp} {s : Shared} (I : Inv X pins σ H s) {qs : List Addr} {cs : List Cell} (pr : Paired (fun q c => At H q c) qs cs) : ∀ {us : List Value}, Vals (qs.map V.ref) us → ∃ as, ReadsAll s.heap us (cs.map cD) as := by
  induction pr with
  | nil =>
    intro us r
    cases r
    exact ⟨_, .nil⟩
  | cons a _ ih =>
    intro us r
    cases r with
    | cons r t =>
      obtain ⟨as, h⟩ := ih t
      obtain ⟨bs, h1⟩ := Dp.reads I (cD _) _ _ (At.dp (K := X.K) a) r
      exact ⟨_, .cons h1 h⟩
/-- min of a list of cells: one of them -/
def rMinLC (K : PySem.W.Frag) : List V → Hp → VK → Prop := fun vs H Q => ∃ (a : Addr) (qs : List Addr) (cs : List Cell), vs = [V.ref a] ∧ SqL K H a (qs.map V.ref) ∧ Paired (fun q c => At H q c) qs cs ∧ cs ≠ [] ∧ ∀ q c, c ∈ cs → At H q c → Q (.ref q) H
theorem cr_minLC (hc : X.calm = true) (hu : X.A.units + 64 < cLine) : CallR X (.builtin "min") (rMinLC X.K) := by
  intro pins s σ H vs us Q I r h
  obtain ⟨a, qs, cs, rfl, hs, pr, ne, q⟩ := h
  obtain ⟨its, rv, hl, _⟩ := I.list hs
  rw [Vals.ref1 r]
  obtain ⟨as, ra⟩ := reads_cells I pr rv
  cases cs with
  | nil => exact absurd rfl ne
  | cons c cs =>
    refine PySem.W.min_list_data (I.ok.hd hc) hl.isList (x := cD c) (xs := cs.map cD) (as := as) (by simpa using ra) ⟨fun x hx y hy => ?_, fun x hx => ?_⟩ ?_ fun i v h' tk bs hi _ hk => ?_
    · obtain ⟨d, _, rfl⟩ := List.mem_map.mp (show x ∈ (c :: cs).map cD from hx)
      obtain ⟨e, _, rfl⟩ := List.mem_map.mp (show y ∈ (c :: cs).map cD from hy)
      exact alike_cD d e
    · obtain ⟨d, _, rfl⟩ := List.mem_map.mp (show x ∈ (c :: cs).map cD from hx)
      simp [cD]
    · have ds : PyData.depthAll (cD c :: cs.map cD) ≤ 1 := (lay_all (n := 1) (ds := (c :: cs).map cD) fun d hd => by
        obtain ⟨c, _, rfl⟩ := List.mem_map.mp hd
        exact lay_cell c).2
      show X.A.units + 1 + _ < cLine
      omega
    · have hv : its[i]? = some v := by simpa using hi
      obtain ⟨y, hy, ry⟩ := paired_getR rv hv
      rw [List.getElem?_map] at hy
      obtain ⟨b, hb, rfl⟩ := Option.map_eq_some_iff.mp hy
      obtain ⟨d, hd, ad⟩ := paired_get pr hb
      exact ⟨.ref b, H, I.kept hk, ry, q b d (List.mem_of_getElem? hd) ad⟩
end
def farK (f : Far) : List (List Key × V) := f.map fun p => (cK p.1, V.int (p.2 : Int))
theorem far_len {f : Far} : (farK f).length = f.length := List.length_map ..
theorem far_no {c : Cell} : ∀ {f : Far}, c ∉ keysF f → valV (farK f) (cK c) = none
  | [], _ => rfl
  | p :: f, h => by
    have h1 : p.1 ≠ c := fun e => h (by rw [← e]; exact List.mem_cons_self ..)
    show valV ((cK p.1, V.int (p.2 : Int)) :: farK f) (cK c) = none
    rw [valV_neg (fun e => h1 (cK_inj e))]
    exact far_no fun z => h (List.mem_cons_of_mem _ z)
theorem far_yes {c : Cell} {n : Nat} : ∀ {f : Far}, (keysF f).Nodup → (c, n) ∈ f → valV (farK f) (cK c) = some (.int (n : Int))
  | [], _, h => by cases h
  | p :: f, nd, h => by
    have nd : (p.1 :: keysF f).Nodup := nd
    obtain ⟨n1, n2⟩ := List.nodup_cons.mp nd
    show valV ((cK p.1, V.int (p.2 : Int)) :: farK f) (cK c) = _
    rcases List.mem_cons.mp h with e | e
    · rw [← e, valV_pos rfl]
    · have h1 : p.1 ≠ c := fun z => n1 (by rw [z]; exact mem_keysF.mpr ⟨n, e⟩)
      rw [valV_neg (fun z => h1 (cK_inj z))]
      exact far_yes n2 e
theorem far_is {c : Cell} {f : Far} (nd : (keysF f).Nodup) : (valV (farK f) (cK c)).isSome = decide (c ∈ keysF f) := by
  by_cases h : c ∈ keysF f
  · obtain ⟨n, hn⟩ := mem_keysF.mp h
    rw [far_yes nd hn, decide_eq_true h]
    rfl
  · rw [far_no h, decide_eq_false h]
    rfl
theorem far_put {c : Cell} {n : Nat} {f : Far} (h : c ∉ keysF f) : putK (farK f) (cK c) (.int (n : Int)) = farK (f ++ [(c, n)]) := by
  rw [putK_new _ (far_no h)]
  unfold farK
  rw [List.map_append]
  rfl
theorem dget_far {H : Hp} {d q : Addr} {f : Far} {c : Cell} (hd : H d = some (.dT (farK f))) (hq : At H q c) : DGet H d (.ref q) (valV (farK f) (cK c)) := DGet.t hd hq
theorem dput_far {H : Hp} {d q : Addr} {f : Far} {c : Cell} {n : Nat} (hd : H d = some (.dT (farK f))) (hq : At H q c) (h : c ∉ keysF f) (hl : f.length < sizeLine) : DPut H d (.ref q) (.int (n : Int)) (upd H d (.dT (farK (f ++ [(c, n)])))) := far_put h ▸ DPut.t hd hq (by rw [far_len]; exact hl)
theorem add_put (c : Cell) (F : List Cell) : putK (lotK F) (cK c) (.bl true) = lotK (addF F c) := by
  rw [lot_put']
  congr 1
theorem dput_add {H : Hp} {d q : Addr} {F : List Cell} {c : Cell} (hd : H d = some (.dT (lotK F))) (hq : At H q c) (hl : F.length < sizeLine) : DPut H d (.ref q) (.bl true) (upd H d (.dT (lotK (addF F c)))) := add_put c F ▸ DPut.t hd hq (by rw [lot_len]; exact hl)
def spSquaresL : Sp := fun vs H Q _ => ∃ (t : Addr) (cs : List Cell), vs = [.ref t] ∧ CellsL H t cs ∧ cs.Nodup ∧ cs.length ≤ 1000 ∧ ∀ d H', Same H H' → H d = none → H' d = some (.dT (lotK cs)) → Q (.ref d) H'
section
variable {P : Program} {w : World} {K : PySem.W.Frag} {mg : Str → Option Value} {base : Heap}
theorem ok_lSquaresL {f : Addr} {fd : FuncData} (F : FnP K "_law_t2_squares" lSquares f fd) : FnOk P w K mg base CX0 1 f fd ["_law_body"] spSquaresL := by
  refine F.ok scLS (fun vs H Q E h => ?_) (fun cdv A outer s H vs Q E hr h => ?_)
  · obtain ⟨t, cs, rfl, _⟩ := h
    rfl
  · obtain ⟨t, cs, rfl, ⟨qs, et, pr⟩, nd, big, k⟩ := h
    have hu := hu_of hr
    refine ⟨_, PSs.nox (pss_cons (ps_set (i := 1) scLS.nd rfl (.inl rfl) pe_dnewT)
      (pss_cons (ps_for PassesOwn.never rfl (pi_list (pv 0)) (pg_name (i := 2) scLS.nd rfl (.inl rfl))
      (pss_one (ps_dput hu (pv 1) (pv 2) pe_bl rfl)))
      (pss_one (ps_ret (pv 1))))), ?_⟩
    intro d hd
    have s0 := same_new (o := .dT []) hd
    refine ⟨_, rfl, t, rfl, ⟨_, SqL.of (s0 _ _ et)⟩, ?_⟩
    refine for_list (K := K) (a := t) (xs := qs.map V.ref) (fun i σ G => ∃ v, σ = [some (.ref t), some (.ref d), v] ∧ Same H G ∧ G d = some (.dT (lotK (cs.take i)))) ⟨_, rfl, s0, upd_same⟩ (fun i σ G _ ⟨_, _, sm, _⟩ => SqL.of (sm _ _ et)) ?_ ?_
    · rintro i x σ G hi ⟨v, rfl, sm, gd⟩
      rw [List.getElem?_map] at hi
      obtain ⟨q, hq, rfl⟩ := Option.map_eq_some_iff.mp hi
      obtain ⟨c, hc, ac⟩ := paired_get pr hq
      refine ⟨_, rfl, _, rfl, d, _, rfl, dput_lot gd (ac.same sm) (nodup_take nd hc) (by rw [List.length_take, sizeLine_eq]; omega), ?_⟩
      exact ⟨_, rfl, same_put sm hd, by rw [upd_same, take_snoc hc]⟩
    · rintro σ G ⟨v, rfl, sm, gd⟩
      have el : (qs.map V.ref).length = cs.length := by rw [List.length_map]; exact Paired.length pr
      rw [el, List.take_length] at gd
      exact ⟨_, rfl, k d G sm hd gd⟩
end
end Sq

set_option Elab.async false
set_option linter.all false
set_option maxRecDepth 100000
set_option maxHeartbeats 8000000
/-! The law's witness: the ways. -/
namespace Sq
open PySem PySem.Spec PyProof.Rows L2
abbrev wiN : List Str := ["_law_body", "_law_start", "_law_rest", "_law_cell", "_law_near", "_law_far", "_law_line", "_law_lap", "_law_later", "_law_one", "_law_found", "_law_here", "_law_nearer"]
theorem val_scal {f : Far} (nd : (keysF f).Nodup) (d : Cell) (i : Int) : scal ((valV (farK f) (cK d)).getD .non) (.int i) = true := by
  by_cases h : d ∈ keysF f
  · obtain ⟨n, hn⟩ := mem_keysF.mp h
    rw [far_yes nd hn]
    rfl
  · rw [far_no h]
    rfl
/-- who of the neighbours lies nearer -/
def nearP (f : Far) (i : Int) (d : Cell) : Bool := decide ((valV (farK f) (cK d)).getD .non = .int i)
theorem near_of {f : Far} (nd : (keysF f).Nodup) {d : Cell} {i : Int} (h : nearP f i d = true) : ∃ n : Nat, (n : Int) = i ∧ (d, n) ∈ f := by
  have h := of_decide_eq_true h
  by_cases k : d ∈ keysF f
  · obtain ⟨n, hn⟩ := mem_keysF.mp k
    rw [far_yes nd hn] at h
    exact ⟨n, V.int.inj h, hn⟩
  · rw [far_no k] at h
    cases h
theorem near_mk {f : Far} (nd : (keysF f).Nodup) {d : Cell} {n : Nat} (h : (d, n) ∈ f) : nearP f (n : Int) d = true := by
  unfold nearP
  rw [far_yes nd h]
  exact decide_eq_true rfl
section
variable {P : Program} {w : World} {K : PySem.W.Frag} {mg : Str → Option Value} {base : Heap}
theorem scWi : FnScope wiN ["_law_body", "_law_start"] (defScope lWitness) := ⟨rfl, rfl, rfl, by decide +kernel, rfl, by decide +kernel, by decide +kernel⟩
theorem wit_end {fa : Addr} {cdv : Value} {A : Around} {outer : List Env} {s : Shared} {H0 : Hp} {E : XK} (hr : Room 2 (cxOf CX0 P w K mg base wiN "_law_t2_witness" (defScope lWitness) fa cdv A outer s H0 E).nox.A) (B : Bl mg) (DB : Df P w K mg base CX0 1 "_law_t2_beside" ["_law_cell"] spLBeside) :
    ∃ t, PSs (cxOf CX0 P w K mg base wiN "_law_t2_witness" (defScope lWitness) fa cdv A outer s H0 E).nox ((defBody lWitness).drop 5) t ∧
      ∀ (D : Ends) (G : Hp) (v0 v1 v2 v3 v6 v7 v8 v9 v10 v11 v12 : Option V) (nr fr : Addr) (ns : List Addr) (N R : List Cell) (f : Far) (m : Cell), G nr = some (.lst (ns.map V.ref)) → Paired (fun q c => At G q c) ns N → G fr = some (.dT (farK f)) → FarOk R m f → (∀ x ∈ R, x ∈ keysF f) → (∀ x ∈ N, x ∈ R) → R.length ≤ 1000 → N ≠ [] →
        (∀ r G' W, Same G G' → CellsT G' r W → W.Nodup → Asc W → (∀ x ∈ W, x ∈ R) → Hangs W → (∀ x ∈ N, x ∈ W) → D.rt (.ref r) G') →
        t D [v0, v1, v2, v3, some (.ref nr), some (.ref fr), v6, v7, v8, v9, v10, v11, v12] G := by
  have hu := hu_of hr
  have h64 := room64 hr
  refine ⟨_, (pss_cons (ps_set (i := 10) scWi.nd rfl (.inl rfl) pe_dnewT)
      (pss_cons (ps_for PassesOwn.never rfl (pi_list (pv 4)) (pg_name (i := 3) scWi.nd rfl (.inl rfl))
      (pss_cons (ps_set (i := 11) scWi.nd rfl (.inr rfl) (pv 3))
        (pss_one (ps_for PassesOwn.never rfl (pi_range1 (by rfl) B.range (pa_cons (pe_op op_add (pe_dget hu (pv 5) (pv 3) (fun _ _ => rfl)) pe_int) pa_nil)) (pg_name (i := 7) scWi.nd rfl (.inl rfl))
        (pss_cons (ps_dput hu (pv 10) (pv 11) pe_bl rfl)
          (pss_cons (ps_setLc (i := 12) (own := [("_law_one", 9)]) (g := gName 9) (by rfl) scWi.nd rfl rfl (sw_true rfl rfl rfl (by decide +kernel)) (pi_list (pe_df DB hr (by rfl) pass0 (pa_cons (pv 11) pa_nil))) (blkOk_by (N := wiN) (sc := defScope lWitness) (by decide +kernel)) (fun _ _ _ _ _ => pg_name (i := 9) scWi.nd rfl (Or.inl rfl)) (fun _ _ _ _ _ => (pts_one (pt_cmpR op_eq (pe_dget1 hu (pv 5) (pv 9) ⟨rfl, rfl, rfl, rfl⟩) (pe_op op_sub (pe_dget hu (pv 5) (pv 11) (fun _ _ => rfl)) pe_int) (nomark _)))) (fun _ _ _ _ _ => (pv 9)))
          (pss_one (ps_if (pt_cmpR (op_neK (K := K) rfl h64) (pv 12) (pe_lst pa_nil) (nomark _))
          (pss_one (ps_set (i := 11) scWi.nd rfl (.inr rfl) (pe_callB (cr_minLC (by rfl) h64) (by rfl) B.min (by decide +kernel) (pa_cons (pv 12) pa_nil))))
          pss_nil))))))))
      (pss_one (ps_ret (pe_tupleOf (by rfl) B.tuple (pe_callB cr_sortedC (by rfl) B.sorted (by decide +kernel) (pa_cons (pe_callTy (call_list_dT rfl) (by rfl) B.list PyProof.Rows.boot_list (pa_cons (pv 10) pa_nil)) pa_nil))))))), ?_⟩
  intro D G v0 v1 v2 v3 v6 v7 v8 v9 v10 v11 v12 nr fr ns N R f m en pn ef ok span subN lR neN kD
  have lf : f.length ≤ R.length := by
    have := len_le ok.nd (ys := R) fun x hx => by
      obtain ⟨n, hn⟩ := mem_keysF.mp hx
      exact ok.sub _ hn
    rw [show (keysF f).length = f.length from List.length_map ..] at this
    exact this
  have mR : m ∈ R := ok.sub _ ok.m0
  have lns : ns.length = N.length := Paired.length pn
  intro fo hfo
  have s0 := same_new (o := .dT []) hfo
  refine ⟨_, rfl, nr, rfl, ⟨_, SqL.of (s0 _ _ en)⟩, ?_⟩
  refine for_list (K := K) (a := nr) (xs := ns.map V.ref) (fun i σ G1 => ∃ (F : List Cell) (v3 v7 v9 v11 v12 : Option V), σ = [v0, v1, v2, v3, some (.ref nr), some (.ref fr), v6, v7, v8, v9, some (.ref fo), v11, v12] ∧ Same G G1 ∧ G1 fo = some (.dT (lotK F)) ∧ F.Nodup ∧ (∀ x ∈ F, x ∈ R) ∧ (∀ x ∈ F, Reach F x m) ∧ (∀ x ∈ N.take i, x ∈ F) ∧ (0 < i → m ∈ F))
    ⟨[], v3, v7, v9, v11, v12, rfl, s0, upd_same, by simp, by simp, by simp, by simp, fun h => absurd h (Nat.lt_irrefl 0)⟩ (fun i σ G1 _ ⟨_, _, _, _, _, _, _, sm, _⟩ => SqL.of (sm _ _ en)) ?_ ?_
  · rintro i x σ G1 hi ⟨F0, v3, v7, v9, v11, v12, rfl, sm, gf, nF, sF, rF, tF, mF⟩
    rw [List.getElem?_map] at hi
    obtain ⟨q, hq, rfl⟩ := Option.map_eq_some_iff.mp hi
    obtain ⟨c, hc, ac⟩ := paired_get pn hq
    have cR := subN c (List.mem_of_getElem? hc)
    obtain ⟨v, hv⟩ := mem_keysF.mp (span c cR)
    have ac1 : At G1 q c := sm _ _ ac
    have dg : DGet G1 fr (.ref q) (some (.int (v : Int))) := far_yes ok.nd hv ▸ dget_far (sm _ _ ef) ac1
    have vl : v ≤ R.length := by
      obtain ⟨l, nd, ln, all⟩ := far_chain ok v c hv
      have := len_le nd (ys := R) fun x hx => by
        obtain ⟨u, _, h⟩ := all x hx
        exact ok.sub _ h
      omega
    refine ⟨_, rfl, ?_⟩
    refine ⟨_, rfl, _, rfl, fr, _, rfl, dg, _, _, rfl, rfl, _, rfl, by omega, by omega, ?_⟩
    have en1 : ((v : Int) + 1).toNat = v + 1 := by omega
    rw [en1]
    refine for_range (lo := 0) (n := v + 1) (fun j σ G2 => ∃ (F : List Cell) (here : Cell) (hq : Addr) (v7 v9 v12 : Option V), σ = [v0, v1, v2, some (.ref q), some (.ref nr), some (.ref fr), v6, v7, v8, v9, some (.ref fo), some (.ref hq), v12] ∧ Same G G2 ∧ G2 fo = some (.dT (lotK F)) ∧ At G2 hq here ∧ WayOk R m F here ∧ here ∈ R ∧ (∀ x ∈ N.take i, x ∈ F) ∧ (j = 0 → here = c) ∧ (0 < j → c ∈ F) ∧ (j ≤ v → (here, v - j) ∈ f) ∧ (j = v + 1 → here = m ∧ m ∈ F))
      ⟨F0, c, q, v7, v9, v12, rfl, sm, gf, ac1, ⟨nF, sF, fun x hx => .inl (reach_incl (fun y hy => List.mem_append_left _ hy) (rF x hx))⟩, cR, tF, fun _ => rfl, fun h => absurd h (Nat.lt_irrefl 0), fun _ => hv, fun h => by omega⟩ ?_ ?_
    · rintro j σ G2 hj ⟨F, here, hq, v7, v9, v12, rfl, sm2, gf2, ah, way, hR, tF2, h0, hc2, hval, _⟩
      rw [Int.zero_add]
      have hval := hval (by omega)
      obtain ⟨b1, b2, _⟩ := way_add way hR
      have lF : F.length ≤ R.length := len_le way.nd way.sub
      refine ⟨_, rfl, _, rfl, fo, _, rfl, dput_add gf2 ah (by rw [sizeLine_eq]; omega), ?_⟩
      have sm3 : Same G (upd G2 fo (.dT (lotK (addF F here)))) := same_put sm2 hfo
      have gf3 := upd_same (H := G2) (a := fo) (o := .dT (lotK (addF F here)))
      have ah3 : At (upd G2 fo (.dT (lotK (addF F here)))) hq here := ah.off gf2 (by intro xs z; cases z)
      generalize upd G2 fo (.dT (lotK (addF F here))) = G3 at sm3 gf3 ah3
      have ef3 := sm3 _ _ ef
      refine ⟨_, rfl, hq, here, rfl, ah3, fun bl G4 s4 hbl ⟨bs, eb, pb⟩ => ⟨bl, rfl, ⟨_, SqL.of eb⟩, fun Dl hDl => ?_⟩⟩
      have lbs : bs.length = 4 := Paired.length pb
      refine lc_cells (walk_list (K := K) (a := bl) (xs := bs.map V.ref)) hDl (fun k => ((besideC here).take k).filter (nearP f (((v - j : Nat) : Int) - 1))) rfl (by rw [List.length_map]; omega) (fun k G5 _ s => SqL.of (s _ _ eb)) ?_ ?_
      · rintro k x G5 G' K1 K0 hk s5 ⟨rfl, hx⟩ k1 k0
        rw [List.getElem?_map] at hx
        obtain ⟨u, hu2, rfl⟩ := Option.map_eq_some_iff.mp hx
        obtain ⟨d, hd, ad⟩ := paired_get pb hu2
        have ef5 := s5 _ _ (s4 _ _ ef3)
        have ad5 : At G' u d := s5 _ _ ad
        have dh : DGet G' fr (.ref hq) (some (.int ((v - j : Nat) : Int))) := far_yes ok.nd hval ▸ dget_far ef5 (s5 _ _ (s4 _ _ ah3))
        refine ⟨rfl, _, rfl, fr, rfl, .inr ⟨_, .inl ef5⟩, _, rfl, _, dget_far ef5 ad5, _, rfl, _, rfl, fr, _, rfl, dh, _, _, rfl, rfl, val_scal ok.nd d _, _, rfl, ?_⟩
        refine ite2 (fun h1 => ?_) (fun h1 => ?_)
        · exact ⟨_, rfl, k1 u d _ same_refl ad5 (filt_snoc hd h1)⟩
        · exact k0 _ same_refl (filt_skip hd h1)
      rintro G5 rs s5 gD prD
      have e4 : (besideC here).take (bs.map V.ref).length = besideC here := by rw [List.length_map, lbs]; rfl
      rw [e4] at prD
      have sm5 := (sm3.trans s4).trans s5
      refine ⟨_, rfl, Nat.zero_le _, fun l2 hl2 => ?_⟩
      have s6 := same_new (o := .lst []) hl2
      have gD6 := s6 _ _ gD
      have pr6 : Paired (fun q c => At (upd G5 l2 (.lst [])) q c) rs ((besideC here).filter (nearP f (((v - j : Nat) : Int) - 1))) := paired_imp (fun _ _ h => s6 _ _ h) prD
      refine ⟨_, _, CellsL.dp ⟨rs, gD6, pr6⟩, .lst (SqL.of upd_same) .nil, lay_cells.shaped (by decide), (lay_list (n := 0) (ds := []) (by simp)).shaped (by decide), _, rfl, ?_⟩
      rw [eqv_nilD]
      have sm6 := sm5.trans s6
      have gf6 := s6 _ _ (s5 _ _ (s4 _ _ gf3))
      have ah6 := s6 _ _ (s5 _ _ (s4 _ _ ah3))
      generalize upd G5 l2 (.lst []) = G6 at sm6 gf6 ah6 pr6 gD6
      have tF3 : ∀ x ∈ N.take i, x ∈ addF F here := fun x hx => mem_addF.mpr (.inl (tF2 x hx))
      have cF3 : c ∈ addF F here := mem_addF.mpr (by
        by_cases z : j = 0
        · exact .inr (h0 z).symm
        · exact .inl (hc2 (by omega)))
      refine ite2 (fun h1 => ?_) (fun h1 => ?_)
      · have ne : (besideC here).filter (nearP f (((v - j : Nat) : Int) - 1)) ≠ [] := fun z => by
          rw [z] at h1
          simp at h1
        refine ⟨_, rfl, Dl, rs, _, rfl, SqL.of gD6, pr6, ne, fun q2 d hd ad => ?_⟩
        obtain ⟨d1, d2⟩ := List.mem_filter.mp hd
        obtain ⟨n, n1, n2⟩ := near_of ok.nd d2
        have hn : n = v - (j + 1) := by omega
        refine ⟨addF F here, d, q2, _, _, _, rfl, sm6, gf6, ad, way_step way hR d1, ok.sub _ n2, tF3, fun z => absurd z (Nat.succ_ne_zero j), fun _ => cF3, fun _ => hn ▸ n2, fun z => by omega⟩
      · have em : (besideC here).filter (nearP f (((v - j : Nat) : Int) - 1)) = [] := by
          refine Classical.byContradiction fun z => h1 ?_
          simpa using z
        have z0 : v - j = 0 := by
          refine Classical.byContradiction fun z => ?_
          obtain ⟨n, hn⟩ : ∃ n, v - j = n + 1 := ⟨v - j - 1, by omega⟩
          rw [hn] at hval
          obtain ⟨d, d1, d2⟩ := ok.back here n hval
          have : d ∈ (besideC here).filter (nearP f (((v - j : Nat) : Int) - 1)) := List.mem_filter.mpr ⟨d1, by
            rw [show ((v - j : Nat) : Int) - 1 = (n : Int) from by omega]
            exact near_mk ok.nd d2⟩
          rw [em] at this
          cases this
        rw [z0] at hval
        have hm := ok.zero here hval
        subst hm
        exact ⟨addF F here, here, hq, _, _, _, rfl, sm6, gf6, ah6, way_end way hR, hR, tF3, fun z => absurd z (Nat.succ_ne_zero j), fun _ => cF3, fun z => by omega, fun _ => ⟨rfl, mem_addF.mpr (.inr rfl)⟩⟩
    · rintro σ G2 ⟨F, here, hq, v7, v9, v12, rfl, sm2, gf2, ah, way, hR, tF2, _, hc2, _, hend⟩
      obtain ⟨hm, mF2⟩ := hend rfl
      subst hm
      have inc : ∀ y ∈ F ++ [here], y ∈ F := fun y hy => (List.mem_append.mp hy).elim id fun e => (List.mem_singleton.mp e) ▸ mF2
      refine ⟨F, _, _, _, _, _, rfl, sm2, gf2, way.nd, way.sub, fun x hx => reach_incl inc ((way.con x hx).elim id id), fun x hx => ?_, fun _ => mF2⟩
      rw [take_snoc hc] at hx
      exact (List.mem_append.mp hx).elim (tF2 x) fun z => (List.mem_singleton.mp z) ▸ hc2 (Nat.succ_pos v)
  · rintro σ G1 ⟨F, v3, v7, v9, v11, v12, rfl, sm, gf, nF, sF, rF, tF, mF⟩
    have e1 : N.take (ns.map V.ref).length = N := by rw [List.length_map, lns, List.take_length]
    rw [e1] at tF
    have mF := mF (by rw [List.length_map, lns]; exact List.length_pos_iff.mpr neN)
    refine ⟨_, rfl, fo, _, rfl, .inl gf, fun p0 bs hp0 ik => ?_⟩
    have t0 := same_new (o := .lst (bs.map V.ref)) hp0
    refine ⟨p0, bs, F, rfl, SqL.of upd_same, paired_imp (fun _ _ h => t0 _ _ h) (keys_cells ik), fun so ss S prS pmS asc hso => .inl ⟨so, _, rfl, SqL.of upd_same, fun tp htp => ?_⟩⟩
    have t1 := same_new (o := .lst (ss.map V.ref)) hso
    have t2 := same_new (o := .tup (ss.map V.ref)) htp
    have hF : Hangs F := (hangs_from mF).mpr fun x hx => (rF x hx).symm hx
    exact kD tp _ S (((sm.trans t0).trans t1).trans t2) ⟨ss, upd_same, paired_imp (fun _ _ h => t2 _ _ (t1 _ _ h)) prS⟩ (pmS.nodup_iff.mpr nF) asc (fun x hx => sF x (pmS.mem_iff.mp hx)) ((hangs_perm fun x => pmS.mem_iff).mpr hF) fun x hx => pmS.mem_iff.mpr (tF x hx)
end
end Sq

set_option Elab.async false
set_option linter.all false
set_option maxRecDepth 100000
set_option maxHeartbeats 8000000
/-! The law's witness: the distances; the whole. -/
namespace Sq
open PySem PySem.Spec PyProof.Rows L2
theorem lapF_snoc {f : Far} {lat : List Cell} {k : Nat} {d : Cell} : lapF f lat k ++ [(d, k + 1)] = lapF f (lat ++ [d]) k := by
  unfold lapF
  rw [List.map_append, List.append_assoc]
  rfl
theorem lap_len {R : List Cell} {m : Cell} {f : Far} {line lat : List Cell} {k : Nat} {cov : Cell → Prop} (ok : FarOk R m f) (lp : LapOk R f line lat k cov) : f.length + lat.length ≤ R.length := by
  have nd : (keysF f ++ lat).Nodup := List.nodup_append.mpr ⟨ok.nd, lp.nd, fun x hx y hy e => (lp.new y hy).2.1 (e ▸ hx)⟩
  have := len_le nd (ys := R) fun x hx => (List.mem_append.mp hx).elim (fun h => by
    obtain ⟨n, hn⟩ := mem_keysF.mp h
    exact ok.sub _ hn) fun h => (lp.new x h).1
  rw [List.length_append, show (keysF f).length = f.length from List.length_map ..] at this
  exact this
def spWit : Sp := fun vs H Q _ => ∃ (t q : Addr) (L : List Cell) (s : Cell), vs = [.ref t, .ref q] ∧ CellsT H t L ∧ L.Nodup ∧ L.length ≤ 1000 ∧ At H q s ∧ s ∈ L ∧ Hangs L ∧ Hangs (without L s) ∧
  ∀ r H' W, Same H H' → CellsT H' r W → W.Nodup → Asc W → W.length ≤ L.length → witB L s W = true → Q (.ref r) H'
section
variable {P : Program} {w : World} {K : PySem.W.Frag} {mg : Str → Option Value} {base : Heap}
theorem wit_bfs {fa : Addr} {cdv : Value} {A : Around} {outer : List Env} {s : Shared} {H0 : Hp} {E : XK} (hr : Room 2 (cxOf CX0 P w K mg base wiN "_law_t2_witness" (defScope lWitness) fa cdv A outer s H0 E).nox.A) (B : Bl mg) (DB : Df P w K mg base CX0 1 "_law_t2_beside" ["_law_cell"] spLBeside) :
    ∃ t, PSs (cxOf CX0 P w K mg base wiN "_law_t2_witness" (defScope lWitness) fa cdv A outer s H0 E).nox ((defBody lWitness).drop 4) t ∧
      ∀ (D : Ends) (Hb G : Hp) (v0 v1 v3 v7 v8 v9 v10 v11 v12 : Option V) (rd nr fr ln q0 : Addr) (ns : List Addr) (N R : List Cell) (m : Cell), Same Hb G → Hb fr = none → G rd = some (.dT (lotK R)) → G nr = some (.lst (ns.map V.ref)) → Paired (fun q c => At G q c) ns N → G fr = some (.dT (farK [(m, 0)])) → G ln = some (.lst [.ref q0]) → At G q0 m →
        R.Nodup → m ∈ R → Hangs R → (∀ x ∈ N, x ∈ R) → R.length ≤ 1000 → N ≠ [] → rd ≠ fr →
        (∀ r G' W, Same Hb G' → CellsT G' r W → W.Nodup → Asc W → (∀ x ∈ W, x ∈ R) → Hangs W → (∀ x ∈ N, x ∈ W) → D.rt (.ref r) G') →
        t D [v0, v1, some (.ref rd), v3, some (.ref nr), some (.ref fr), some (.ref ln), v7, v8, v9, v10, v11, v12] G := by
  have hu := hu_of hr
  have h64 := room64 hr
  obtain ⟨t2, ht2, key2⟩ := wit_end (fa := fa) (cdv := cdv) (A := A) (outer := outer) (s := s) (H0 := H0) (E := E) hr B DB
  refine ⟨_, (pss_cons (ps_for PassesOwn.never rfl (pi_range1 (by rfl) B.range (pa_cons (pe_callB call_len_dT (by rfl) B.len PySem.boot_len (pa_cons (pv 2) pa_nil)) pa_nil)) (pg_name (i := 7) scWi.nd rfl (.inl rfl))
      (pss_cons (ps_set (i := 8) scWi.nd rfl (.inl rfl) (pe_lst pa_nil))
        (pss_cons (ps_for PassesOwn.never rfl (pi_list (pv 6)) (pg_name (i := 3) scWi.nd rfl (.inl rfl))
        (pss_one (ps_for PassesOwn.never rfl (pi_list (pe_df DB hr (by rfl) pass0 (pa_cons (pv 3) pa_nil))) (pg_name (i := 9) scWi.nd rfl (.inl rfl))
          (pss_one (ps_if (PW.pt (pw_and (pt_cmp (pc_din hu (pv 9) (pv 2))) (pw_and1 (pt_cmp (pc_dnotin hu (pv 9) (pv 5))))))
            (pss_cons (ps_dput hu (pv 5) (pv 9) (pe_op op_add (pv 7) pe_int) rfl)
              (pss_one (ps_expr (pe_bm PySem.F.plainAttrs_list PySem.F.slot_list_append PySem.F.type_list_append mt_append (pv 8) (pa_cons (pv 9) pa_nil)))))
            pss_nil)))))
        (pss_one (ps_set (i := 6) scWi.nd rfl (.inl rfl) (pv 8)))))) ht2), ?_⟩
  intro D Hb G v0 v1 v3 v7 v8 v9 v10 v11 v12 rd nr fr ln q0 ns N R m sm0 hfr erd en pn ef eln aq0 nR mR hR subN lR neN nrf kD
  have lt : (((lotK R).length : Nat) : Int).toNat = R.length := by rw [lot_len]; rfl
  refine ⟨_, rfl, rd, _, rfl, erd, _, rfl, by rw [lot_len]; omega, by rw [lot_len]; omega, ?_⟩
  rw [lt]
  have offT : ∀ {H : Hp} {b : Addr} {xs : List V} {o : HO} {kv : List (List Key × V)}, H fr = some (.dT kv) → H b = some (.tup xs) → upd H fr o b = some (.tup xs) := fun h e => by
    rw [upd_ne (ne_of e h (by intro z; cases z))]
    exact e
  refine for_range (lo := 0) (n := R.length) (fun k σ G1 => ∃ (f : Far) (l : Addr) (ls : List Addr) (line : List Cell) (v3 v7 v8 v9 : Option V), σ = [v0, v1, some (.ref rd), v3, some (.ref nr), some (.ref fr), some (.ref l), v7, v8, v9, v10, v11, v12] ∧ Same Hb G1 ∧ (∀ b o, b ≠ fr → G b = some o → G1 b = some o) ∧ G1 fr = some (.dT (farK f)) ∧ FarOk R m f ∧ FarTo R f k ∧
      G1 l = some (.lst (ls.map V.ref)) ∧ Paired (fun q c => At G1 q c) ls line ∧ (∀ c, c ∈ line ↔ (c, k) ∈ f))
    ⟨[(m, 0)], ln, [q0], [m], v3, v7, v8, v9, rfl, sm0, fun _ _ _ e => e, ef, ⟨by simp [keysF], fun p hp => by rw [List.mem_singleton.mp hp]; exact mR, by simp, fun c h => by simpa using h, fun c n h => by simp at h⟩, ⟨fun c n _ h => absurd h (Nat.not_lt_zero n), fun p hp => by rw [List.mem_singleton.mp hp]; exact Nat.le_refl _⟩, eln, .cons aq0 .nil, fun c => by simp⟩ ?_ ?_
  · rintro k σ G1 hk ⟨f, l, ls, line, v3, v7, v8, v9, rfl, sm1, kp1, ef1, ok, to, el, pl, hl⟩
    rw [Int.zero_add]
    refine ⟨Nat.zero_le _, fun la hla => ?_⟩
    have t1 := same_new (o := .lst []) hla
    have hlaB : Hb la = none := sm1.free hla
    have nfl : fr ≠ la := fun z => by rw [← z, ef1] at hla; cases hla
    have nll : l ≠ la := fun z => by rw [← z, el] at hla; cases hla
    refine ⟨_, rfl, l, rfl, ⟨_, SqL.of (t1 _ _ el)⟩, ?_⟩
    refine for_list (K := K) (a := l) (xs := ls.map V.ref) (fun i σ G2 => ∃ (lat : List Cell) (las : List Addr) (v3 v9 : Option V), σ = [v0, v1, some (.ref rd), v3, some (.ref nr), some (.ref fr), some (.ref l), some (.int (k : Int)), some (.ref la), v9, v10, v11, v12] ∧ Same Hb G2 ∧ (∀ b o, b ≠ fr → G1 b = some o → G2 b = some o) ∧ G2 fr = some (.dT (farK (lapF f lat k))) ∧
        G2 la = some (.lst (las.map V.ref)) ∧ Paired (fun q c => At G2 q c) las lat ∧ LapOk R f line lat k fun d => ∃ c ∈ line.take i, d ∈ besideC c)
      ⟨[], [], v3, v9, rfl, sm1.trans t1, fun b o _ e => t1 _ _ e, by rw [upd_ne nfl]; simpa [lapF] using ef1, upd_same, .nil, ⟨by simp, by simp, fun d h => by obtain ⟨c, h, _⟩ := h; simp at h⟩⟩ (fun i σ G2 _ ⟨_, _, _, _, _, _, kp, _⟩ => SqL.of (kp _ _ (ne_of el ef1 (by intro z; cases z)) el)) ?_ ?_
    · rintro i x σ G2 hi ⟨lat, las, v3, v9, rfl, sm2, kp2, ef2, ela, pla, lp⟩
      rw [List.getElem?_map] at hi
      obtain ⟨q, hq, rfl⟩ := Option.map_eq_some_iff.mp hi
      obtain ⟨c, hc, ac⟩ := paired_get pl hq
      have ne1 : ∀ {b : Addr} {d : Cell}, At G1 b d → b ≠ fr := fun {b d} h => ne_of h ef1 (by intro z; cases z)
      have ac2 : At G2 q c := kp2 _ _ (ne1 ac) ac
      refine ⟨_, rfl, q, c, rfl, ac2, fun bl G3 s3 hbl ⟨bs, eb, pb⟩ => ⟨bl, rfl, ⟨_, SqL.of eb⟩, ?_⟩⟩
      have hblB : G2 bl = none := hbl
      have nbf : bl ≠ fr := fun z => by rw [z, ef2] at hbl; cases hbl
      have nbl : bl ≠ la := fun z => by rw [z, ela] at hbl; cases hbl
      have lbs : bs.length = 4 := Paired.length pb
      refine for_list (K := K) (a := bl) (xs := bs.map V.ref) (fun j σ G4 => ∃ (lat : List Cell) (las : List Addr) (v9 : Option V), σ = [v0, v1, some (.ref rd), some (.ref q), some (.ref nr), some (.ref fr), some (.ref l), some (.int (k : Int)), some (.ref la), v9, v10, v11, v12] ∧ Same Hb G4 ∧ (∀ b o, b ≠ fr → b ≠ la → G3 b = some o → G4 b = some o) ∧ G4 fr = some (.dT (farK (lapF f lat k))) ∧
          G4 la = some (.lst (las.map V.ref)) ∧ Paired (fun q c => At G4 q c) las lat ∧ LapOk R f line lat k fun d => (∃ c ∈ line.take i, d ∈ besideC c) ∨ d ∈ (besideC c).take j)
        ⟨lat, las, v9, rfl, sm2.trans s3, fun _ _ _ _ e => e, s3 _ _ ef2, s3 _ _ ela, paired_imp (fun _ _ h => s3 _ _ h) pla, ⟨lp.nd, lp.new, fun d h => h.elim (lp.cov d) fun z => by simp at z⟩⟩ (fun j σ G4 _ ⟨_, _, _, _, _, kp, _⟩ => SqL.of (kp _ _ nbf nbl eb)) ?_ ?_
      · rintro j x σ G4 hj ⟨lat, las, v9, rfl, sm4, kp4, ef4, ela4, pla4, lp4⟩
        rw [List.getElem?_map] at hj
        obtain ⟨u, hu2, rfl⟩ := Option.map_eq_some_iff.mp hj
        obtain ⟨d, hd, ad⟩ := paired_get pb hu2
        have nu : u ≠ fr := ne_of ad (s3 _ _ ef2) (by intro z; cases z)
        have nul : u ≠ la := ne_of ad (s3 _ _ ela) (by intro z; cases z)
        have ad4 : At G4 u d := kp4 _ _ nu nul ad
        have dB : d ∈ besideC c := List.mem_of_getElem? hd
        have nrl : rd ≠ la := fun z => by
          have := kp1 _ _ nrf erd
          rw [z, hla] at this
          cases this
        have erd4 : G4 rd = some (.dT (lotK R)) := kp4 _ _ nrf nrl (s3 _ _ (kp2 _ _ nrf (kp1 _ _ nrf erd)))
        have ndL : (keysF (lapF f lat k)).Nodup := by
          rw [keys_lap]
          exact List.nodup_append.mpr ⟨ok.nd, lp4.nd, fun x hx y hy e => (lp4.new y hy).2.1 (e ▸ hx)⟩
        have cov : ((d ∈ R → d ∈ keysF f ∨ d ∈ lat)) → LapOk R f line lat k fun d => (∃ c ∈ line.take i, d ∈ besideC c) ∨ d ∈ (besideC c).take (j + 1) := fun h => ⟨lp4.nd, lp4.new, fun y hy yR => by
          rcases hy with hy | hy
          · exact lp4.cov y (.inl hy) yR
          · rw [take_snoc hd] at hy
            rcases List.mem_append.mp hy with hy | hy
            · exact lp4.cov y (.inr hy) yR
            · rw [List.mem_singleton.mp hy] at yR ⊢
              exact h yR⟩
        refine ⟨_, rfl, _, rfl, rd, _, rfl, dget_lot erd4 ad4, _, rfl, ?_⟩
        rw [lot_is]
        refine ite2 (fun h1 => ?_) (fun h1 => ?_)
        · have dR := of_decide_eq_true h1
          refine ⟨_, rfl, _, rfl, fr, _, rfl, dget_far ef4 ad4, _, rfl, ?_⟩
          rw [far_is ndL]
          refine ite2 (fun h2 => ?_) (fun h2 => ?_)
          · have h2 : d ∉ keysF (lapF f lat k) := by simpa using h2
            have h3 : d ∉ keysF f ∧ d ∉ lat := by
              rw [keys_lap, List.mem_append] at h2
              exact ⟨fun z => h2 (.inl z), fun z => h2 (.inr z)⟩
            have ll := lap_len ok lp4
            have llF : (lapF f lat k).length = f.length + lat.length := by
              unfold lapF
              rw [List.length_append, List.length_map]
            have lla : las.length = lat.length := Paired.length pla4
            refine ⟨_, rfl, _, _, rfl, rfl, _, rfl, _, rfl, fr, _, rfl, (show DPut G4 fr (.ref u) (.int ((k : Int) + 1)) _ from dput_far (n := k + 1) ef4 ad4 h2 (by rw [llF, sizeLine_eq]; omega)), ?_⟩
            rw [lapF_snoc]
            have nfl2 : la ≠ fr := Ne.symm nfl
            have ela5 : upd G4 fr (.dT (farK (lapF f (lat ++ [d]) k))) la = some (.lst (las.map V.ref)) := by rw [upd_ne nfl2]; exact ela4
            have ad5 : At (upd G4 fr (.dT (farK (lapF f (lat ++ [d]) k)))) u d := offT ef4 ad4
            have pla5 : Paired (fun q c => At (upd G4 fr (.dT (farK (lapF f (lat ++ [d]) k)))) q c) las lat := paired_imp (fun _ _ h => offT ef4 h) pla4
            have ef5 := upd_same (H := G4) (a := fr) (o := .dT (farK (lapF f (lat ++ [d]) k)))
            have sm5 : Same Hb (upd G4 fr (.dT (farK (lapF f (lat ++ [d]) k)))) := same_put sm4 hfr
            have kp5 : ∀ b o, b ≠ fr → b ≠ la → G3 b = some o → upd G4 fr (.dT (farK (lapF f (lat ++ [d]) k))) b = some o := fun b o n1 n2 e => by rw [upd_ne n1]; exact kp4 b o n1 n2 e
            generalize upd G4 fr (.dT (farK (lapF f (lat ++ [d]) k))) = G5 at ela5 ad5 pla5 ef5 sm5 kp5
            refine ⟨_, rfl, .inl ⟨rfl, _, SqL.of ela5⟩, _, rfl, la, _, _, rfl, rfl, ela5, by rw [List.length_map, sizeLine_eq]; omega, ?_⟩
            have off : ∀ {q : Addr} {c : Cell}, At G5 q c → At (upd G5 la (.lst (las.map V.ref ++ [V.ref u]))) q c := fun h => h.off ela5 (by intro xs z; cases z)
            refine ⟨lat ++ [d], las ++ [u], _, rfl, same_put sm5 hlaB, fun b o n1 n2 e => by rw [upd_ne n2]; exact kp5 b o n1 n2 e, by rw [upd_ne nfl]; exact ef5, by rw [upd_same, List.map_append]; rfl, (paired_imp (fun _ _ h => off h) pla5).snoc (off ad5), ⟨List.nodup_append.mpr ⟨lp4.nd, by simp, fun a ha b hb e => h3.2 (by rw [List.mem_singleton.mp hb] at e; exact e ▸ ha)⟩, fun y hy => ?_, fun y hy yR => ?_⟩⟩
            · rcases List.mem_append.mp hy with hy | hy
              · exact lp4.new y hy
              · rw [List.mem_singleton.mp hy]
                exact ⟨dR, h3.1, c, beside_symm dB, (hl c).mp (List.mem_of_getElem? hc)⟩
            · rcases hy with hy | hy
              · exact (lp4.cov y (.inl hy) yR).imp id fun z => List.mem_append_left _ z
              · rw [take_snoc hd] at hy
                rcases List.mem_append.mp hy with hy | hy
                · exact (lp4.cov y (.inr hy) yR).imp id fun z => List.mem_append_left _ z
                · exact .inr (List.mem_append_right _ hy)
          · have h2 : d ∈ keysF (lapF f lat k) := by simpa using h2
            rw [keys_lap, List.mem_append] at h2
            exact ⟨lat, las, _, rfl, sm4, kp4, ef4, ela4, pla4, cov fun _ => h2⟩
        · exact ⟨lat, las, _, rfl, sm4, kp4, ef4, ela4, pla4, cov fun z => absurd (decide_eq_true z) h1⟩
      · rintro σ G4 ⟨lat, las, v9, rfl, sm4, kp4, ef4, ela4, pla4, lp4⟩
        refine ⟨lat, las, _, _, rfl, sm4, fun b o n1 e => ?_, ef4, ela4, pla4, ⟨lp4.nd, lp4.new, fun d hd dR => ?_⟩⟩
        · exact kp4 b o n1 (fun z => by rw [z, hla] at e; cases e) (s3 _ _ (kp2 b o n1 e))
        · obtain ⟨y, hy, yd⟩ := hd
          rw [take_snoc hc] at hy
          rcases List.mem_append.mp hy with hy | hy
          · exact lp4.cov d (.inl ⟨y, hy, yd⟩) dR
          · rw [List.mem_singleton.mp hy] at yd
            refine lp4.cov d (.inr ?_) dR
            rw [show (bs.map V.ref).length = (besideC c).length from by rw [List.length_map, lbs]; rfl, List.take_length]
            exact yd
    · rintro σ G2 ⟨lat, las, v3, v9, rfl, sm2, kp2, ef2, ela, pla, lp⟩
      have el0 : line.take (ls.map V.ref).length = line := by rw [List.length_map, Paired.length pl, List.take_length]
      rw [el0] at lp
      obtain ⟨ok2, to2, hl2⟩ := far_lap ok to hl lp
      exact ⟨_, rfl, lapF f lat k, la, las, lat, _, _, _, _, rfl, sm2, fun b o n1 e => kp2 b o n1 (kp1 b o n1 e), ef2, ok2, to2, ela, pla, hl2⟩
  · rintro σ G1 ⟨f, l, ls, line, v3, v7, v8, v9, rfl, sm1, kp1, ef1, ok, to, el, pl, hl⟩
    have nn : ∀ {b : Addr} {xs : List V}, G b = some (.lst xs) → b ≠ fr := fun h => ne_of h ef (by intro z; cases z)
    have nt : ∀ {b : Addr} {c : Cell}, At G b c → b ≠ fr := fun h => ne_of h ef (by intro z; cases z)
    exact key2 D G1 _ _ _ _ _ _ _ _ _ _ _ nr fr ns N R f m (kp1 _ _ (nn en) en) (paired_imp (fun _ _ h => kp1 _ _ (nt h) h) pn) ef1 ok (far_all ok to hR) subN lR neN fun r G' W s => kD r G' W (sm1.trans s)
end
end Sq

set_option Elab.async false
set_option linter.all false
set_option maxRecDepth 100000
set_option maxHeartbeats 8000000
/-! The law's witness, whole. -/
namespace Sq
open PySem PySem.Spec PyProof.Rows L2
section
variable {P : Program} {w : World} {K : PySem.W.Frag} {mg : Str → Option Value} {base : Heap}
theorem ok_lWit {f : Addr} {fd : FuncData} (F : FnP K "_law_t2_witness" lWitness f fd) (B : Bl mg) (DB : Df P w K mg base CX0 1 "_law_t2_beside" ["_law_cell"] spLBeside) (DQ : Df P w K mg base CX0 1 "_law_t2_squares" ["_law_body"] spSquaresL) : FnOk P w K mg base CX0 3 f fd ["_law_body", "_law_start"] spWit := by
  refine F.ok scWi (fun vs H Q E h => ?_) (fun cdv A outer s H vs Q E hr h => ?_)
  · obtain ⟨t, q, L, s, rfl, _⟩ := h
    rfl
  · obtain ⟨t, q, L, c, rfl, ct, nL, lL, aq, cL, hL, hR, k⟩ := h
    have hu := hu_of hr
    have h64 := room64 hr
    obtain ⟨t2, ht2, key2⟩ := wit_bfs (P := P) (w := w) (K := K) (mg := mg) (base := base) (fa := f) (cdv := cdv) (A := A) (outer := outer) (s := s) (H0 := H) (E := E) hr B DB
    refine ⟨_, PSs.nox (pss_cons (ps_set (i := 2) scWi.nd rfl (.inr rfl) (pe_df DQ hr (by rfl) pass0 (pa_cons (pe_lc (own := [("_law_cell", 3)]) (g := gName 3) rfl scWi.nd (pi_tup (pv 0)) (blkOk_by (N := wiN) (sc := defScope lWitness) (by decide +kernel)) (fun _ _ _ _ _ => pg_name (i := 3) scWi.nd rfl (Or.inl rfl)) (fun _ _ _ _ _ => (pts_one (pt_cmpR (op_neK (K := K) rfl h64) (pv 3) (pv 1) (nomark _)))) (fun _ _ _ _ _ => (pv 3))) pa_nil)))
      (pss_cons (ps_set (i := 4) scWi.nd rfl (.inl rfl) (pe_callB cr_sortedC (by rfl) B.sorted (by decide +kernel) (pa_cons (pe_lc (own := [("_law_cell", 3)]) (g := gName 3) rfl scWi.nd (pi_list (pe_df DB hr (by rfl) pass0 (pa_cons (pv 1) pa_nil))) (blkOk_by (N := wiN) (sc := defScope lWitness) (by decide +kernel)) (fun _ _ _ _ _ => pg_name (i := 3) scWi.nd rfl (Or.inl rfl)) (fun _ _ _ _ _ => (pts_one (pt_cmp (pc_din hu (pv 3) (pv 2))))) (fun _ _ _ _ _ => (pv 3))) pa_nil)))
      (pss_cons (ps_asg (pe_tup (pa_cons pe_dnewT (pa_cons (pe_lst (pa_cons (pe_ix (ix_listK (K := K) rfl) (pv 4) pe_int (fun _ _ => rfl)) pa_nil)) pa_nil))) (pg_tup (by rfl) (pgs_cons (pg_name (i := 5) scWi.nd rfl (.inr rfl)) (pgs_cons (pg_name (i := 6) scWi.nd rfl (.inl rfl)) pgs_nil))))
      (pss_cons (ps_dput hu (pv 5) (pe_ix (ix_listK (K := K) rfl) (pv 4) pe_int (fun _ _ => rfl)) pe_int rfl)
      ht2)))), ?_⟩
    obtain ⟨qs, et, pt⟩ := id ct
    have lq : qs.length = L.length := Paired.length pt
    refine ⟨_, rfl, t, rfl, ⟨_, SqT.of et⟩, fun Dl hDl => ?_⟩
    refine lc_cells (walk_tup (K := K) (a := t) (xs := qs.map V.ref)) hDl (fun j => without (L.take j) c) rfl (by rw [List.length_map]; omega) (fun j G _ s => SqT.of (s _ _ et)) ?_ ?_
    · rintro j x G G' K1 K0 hj s1 ⟨rfl, hx⟩ k1 k0
      rw [List.getElem?_map] at hx
      obtain ⟨u, hu2, rfl⟩ := Option.map_eq_some_iff.mp hx
      obtain ⟨d, hd, ad⟩ := paired_get pt hu2
      have ad1 : At G' u d := s1 _ _ ad
      refine ⟨rfl, _, rfl, _, rfl, cD d, cD c, ad1.dp, (show At G' q c from s1 _ _ aq).dp, cD_shaped d, cD_shaped c, _, rfl, ?_⟩
      rw [cD_eqv]
      refine ite2 (fun h1 => ?_) (fun h1 => ?_)
      · have ne : d ≠ c := by simpa using h1
        exact ⟨_, rfl, k1 u d _ same_refl ad1 (by rw [take_snoc hd, without_snoc, if_neg ne])⟩
      · have e : d = c := by simpa using h1
        exact k0 _ same_refl (by rw [take_snoc hd, without_snoc, if_pos e])
    rintro G rs s1 gD prD
    have e1 : L.take (qs.map V.ref).length = L := by rw [List.length_map, lq, List.take_length]
    rw [e1] at prD
    have lR : (without L c).length ≤ L.length := List.length_filter_le _ _
    have nR : (without L c).Nodup := nL.filter _
    have memR : ∀ x, x ∈ without L c ↔ x ∈ L ∧ x ≠ c := fun x => by
      unfold without
      rw [List.mem_filter, decide_eq_true_iff]
    refine ⟨Dl, without L c, rfl, ⟨rs, gD, prD⟩, nR, by omega, fun rd G1 s2 hrd erd => ?_⟩
    have s12 := s1.trans s2
    refine ⟨_, rfl, q, c, rfl, s12 _ _ aq, fun bl G2 s3 hbl ⟨bs, eb, pb⟩ => ⟨bl, rfl, ⟨_, SqL.of eb⟩, fun D2 hD2 => ?_⟩⟩
    have lbs : bs.length = 4 := Paired.length pb
    refine lc_cells (walk_list (K := K) (a := bl) (xs := bs.map V.ref)) hD2 (fun j => ((besideC c).take j).filter fun d => decide (d ∈ without L c)) rfl (by rw [List.length_map]; omega) (fun j G _ s => SqL.of (s _ _ eb)) ?_ ?_
    · rintro j x G5 G' K1 K0 hj s5 ⟨rfl, hx⟩ k1 k0
      rw [List.getElem?_map] at hx
      obtain ⟨u, hu2, rfl⟩ := Option.map_eq_some_iff.mp hx
      obtain ⟨d, hd, ad⟩ := paired_get pb hu2
      have ad1 : At G' u d := s5 _ _ ad
      refine ⟨rfl, _, rfl, _, rfl, rd, _, rfl, dget_lot (s5 _ _ (s3 _ _ erd)) ad1, _, rfl, ?_⟩
      rw [lot_is]
      refine ite2 (fun h1 => ?_) (fun h1 => ?_)
      · exact ⟨_, rfl, k1 u d _ same_refl ad1 (filt_snoc hd h1)⟩
      · exact k0 _ same_refl (filt_skip hd h1)
    rintro G3 rs2 s4 gD2 prD2
    have e4 : (besideC c).take (bs.map V.ref).length = besideC c := by rw [List.length_map, lbs]; rfl
    rw [e4] at prD2
    refine ⟨D2, rs2, _, rfl, SqL.of gD2, prD2, fun nr ns N prN pmN ascN hnr => ?_⟩
    have s5 := same_new (o := .lst (ns.map V.ref)) hnr
    have enr := upd_same (H := G3) (a := nr) (o := .lst (ns.map V.ref))
    have prN5 : Paired (fun q c => At (upd G3 nr (.lst (ns.map V.ref))) q c) ns N := paired_imp (fun _ _ h => s5 _ _ h) prN
    have erd5 := s5 _ _ (s4 _ _ (s3 _ _ erd))
    have sm5 := ((s12.trans s3).trans s4).trans s5
    generalize upd G3 nr (.lst (ns.map V.ref)) = G5 at enr prN5 erd5 sm5
    -- one neighbour at least
    have memN : ∀ x, x ∈ N ↔ x ∈ besideC c ∧ x ∈ without L c := fun x => by
      rw [pmN.mem_iff, List.mem_filter, decide_eq_true_iff]
    have neN : N ≠ [] := by
      obtain ⟨d, hd⟩ := List.exists_mem_of_ne_nil _ hR.1
      obtain ⟨dL, dc⟩ := (memR d).mp hd
      obtain ⟨a, aL, ac⟩ := near_ex hL cL dL dc
      intro z
      have := (memN a).mpr ⟨ac, (memR a).mpr ⟨aL, beside_ne ac⟩⟩
      rw [z] at this
      cases this
    obtain ⟨m, N', rfl⟩ : ∃ m N', N = m :: N' := by
      cases N with
      | nil => exact absurd rfl neN
      | cons m N' => exact ⟨m, N', rfl⟩
    obtain ⟨q0, ns', rfl, a0⟩ : ∃ q0 ns', ns = q0 :: ns' ∧ At G5 q0 m := by
      cases prN5 with
      | cons a _ => exact ⟨_, _, rfl, a⟩
    intro fr hfr
    have s6 := same_new (o := .dT []) hfr
    have enr6 := s6 _ _ enr
    refine ⟨_, rfl, _, _, _, _, rfl, rfl, SqL.of enr6, at0, one_le, fun ln hln => ⟨two_le, fun tp htp => ⟨tp, _, rfl, SqT.of upd_same, rfl, _, _, rfl, _, _, rfl, rfl, ?_⟩⟩⟩
    have s7 := (same_new (o := .lst [.ref q0]) hln).trans (same_new (o := .tup [.ref fr, .ref ln]) htp)
    have enr7 := s7 _ _ enr6
    have efr7 := s7 _ _ (upd_same (H := G5) (a := fr) (o := .dT []))
    have eln7 := (same_new (o := .tup [.ref fr, .ref ln]) htp) _ _ (upd_same (H := upd G5 fr (.dT [])) (a := ln) (o := .lst [.ref q0]))
    have sm57 := s6.trans s7
    have hfrB : H fr = none := sm5.free hfr
    have nrf : rd ≠ fr := fun z => by rw [← z, erd5] at hfr; cases hfr
    generalize upd (upd (upd G5 fr (.dT [])) ln (.lst [.ref q0])) tp (.tup [.ref fr, .ref ln]) = G7 at enr7 efr7 eln7 sm57
    have a07 : At G7 q0 m := sm57 _ _ a0
    refine ⟨_, rfl, _, rfl, _, _, _, _, rfl, rfl, SqL.of enr7, at0, fr, _, rfl, (show DPut G7 fr (.ref q0) (.int 0) _ from dput_far (f := []) (n := 0) efr7 a07 (by simp [keysF]) (by rw [sizeLine_eq]; decide)), ?_⟩
    have ne : ∀ {b : Addr} {o : HO}, G7 b = some o → (∀ kv, o ≠ .dT kv) → upd G7 fr (.dT (farK ([] ++ [(m, 0)]))) b = some o := fun {b o} e n => by
      rw [upd_ne (fun z => by rw [z, efr7] at e; exact n _ (Option.some.inj e).symm)]
      exact e
    have mR : m ∈ without L c := ((memN m).mp (List.mem_cons_self ..)).2
    refine key2 _ H _ _ _ _ _ _ _ _ _ _ rd nr fr ln q0 (q0 :: ns') (m :: N') (without L c) m (same_put (sm5.trans sm57) hfrB) hfrB (by rw [upd_ne nrf]; exact sm57 _ _ erd5) (ne enr7 (by intro kv z; cases z)) (paired_imp (fun _ _ h => ne (sm57 _ _ h) (by intro kv z; cases z)) prN5) upd_same (ne eln7 (by intro kv z; cases z)) (ne a07 (by intro kv z; cases z)) nR mR hR (fun x hx => ((memN x).mp hx).2) (by omega) neN nrf
      fun r G' W sm cW nW aW sW hW tW => k r G' W sm cW nW aW (Nat.le_trans (len_le nW sW) lR) ?_
    unfold witB
    rw [decide_eq_false (p := c ∈ W) (fun z => ((memR c).mp (sW c z)).2 rfl), decide_eq_true (p := ∀ x ∈ W, x ∈ L) (fun x hx => ((memR x).mp (sW x hx)).1), hangsB_iff.mpr hW, decide_eq_true (p := ∀ x ∈ nearC L c, x ∈ W) (fun x hx => by
      obtain ⟨x1, x2⟩ := List.mem_filter.mp hx
      exact tW x ((memN x).mpr ⟨x1, (memR x).mpr ⟨of_decide_eq_true x2, beside_ne x1⟩⟩))]
    rfl
end
end Sq

set_option Elab.async false
set_option linter.all false
set_option maxRecDepth 100000
set_option maxHeartbeats 8000000
/-! The law's papers. -/
namespace Sq
open PySem PySem.Spec PyProof.Rows L2
def goP (p : Pap) : CellP := (p.1, p.2.1)
theorem lots_eq {L : List Cell} {ps : List CellP} {as : List Pap} {i : Nat} (h : as.map goP = ps.take i) {j : Nat} (hj : j ≤ i) : lotP L as j = lotAt L (ps.map mvO) j := by
  unfold lotP lotAt
  have e1 : ∀ (xs : List Pap) (L : List Cell), xs.foldl stepP L = ((xs.map goP).map mvO).foldl stepC L := by
    intro xs
    induction xs with
    | nil => intro L; rfl
    | cons x xs ih => intro L; exact ih _
  rw [e1, List.map_take, h, List.take_take, Nat.min_eq_left hj, List.map_take]
def spPapers : Sp := fun vs H Q _ => ∃ (t pl : Addr) (L : List Cell) (ps : List CellP), vs = [.ref t, .ref pl] ∧ CellsT H t L ∧ L.Nodup ∧ L.length ≤ 30 ∧ Hangs L ∧ PairsL H pl ps ∧ ps.length ≤ 100 ∧ GoodTo L (ps.map mvO) (ps.map mvO).length ∧
  ∀ l H' as, Same H H' → PapsL H' l as → as.map goP = ps → FirmTo L as as.length → (∀ p ∈ as, PapOk p ∧ p.2.2.1.length ≤ 30 ∧ p.2.2.2.length ≤ 30) → Q (.ref l) H'
abbrev ppN : List Str := ["_law_body", "_law_plan", "_law_found", "_law_here", "_law_start", "_law_end", "_law_support"]
section
variable {P : Program} {w : World} {K : PySem.W.Frag} {mg : Str → Option Value} {base : Heap}
theorem scPp : FnScope ppN ["_law_body", "_law_plan"] (defScope lPapers) := ⟨rfl, rfl, rfl, by decide +kernel, rfl, by decide +kernel, by decide +kernel⟩
theorem ok_lPapers {f : Addr} {fd : FuncData} (F : FnP K "_law_t2_papers" lPapers f fd) (B : Bl mg) (DQ : Df P w K mg base CX0 1 "_law_t2_squares" ["_law_body"] spSquares) (DS : Df P w K mg base CX0 1 "_law_t2_supports" ["_law_squares", "_law_start", "_law_end"] (spSuppX K)) (DW : Df P w K mg base CX0 3 "_law_t2_witness" ["_law_body", "_law_start"] spWit) (DD : Df P w K mg base CX0 1 "_law_t2_done" ["_law_body", "_law_start", "_law_end"] spLDone) :
    FnOk P w K mg base CX0 4 f fd ["_law_body", "_law_plan"] spPapers := by
  refine F.ok scPp (fun vs H Q E h => ?_) (fun cdv A outer s H vs Q E hr h => ?_)
  · obtain ⟨t, pl, L, ps, rfl, _⟩ := h
    rfl
  · obtain ⟨t, pl, L, ps, rfl, ct, nL, lL, hL, ⟨qs, ep, pp⟩, lps, good, k⟩ := h
    have lq : qs.length = ps.length := Paired.length pp
    refine ⟨_, PSs.nox (pss_cons (ps_par (i := 2) (j := 3) (by rfl) scPp.nd rfl rfl (by decide) rfl rfl (pa_cons (pe_lst pa_nil) (pa_cons (pv 0) pa_nil)) (by rfl))
      (pss_cons (ps_for PassesOwn.never rfl (pi_list (pv 1)) (pg_tup (by rfl) (pgs_cons (pg_name (i := 4) scPp.nd rfl (.inl rfl)) (pgs_cons (pg_name (i := 5) scPp.nd rfl (.inl rfl)) pgs_nil)))
      (pss_cons (ps_set (i := 6) scPp.nd rfl (.inl rfl) (pe_ix (ix_listK (K := K) rfl) (pe_df DS hr (by rfl) pass0 (pa_cons (pe_df DQ hr (by rfl) pass0 (pa_cons (pv 3) pa_nil)) (pa_cons (pv 4) (pa_cons (pv 5) pa_nil)))) pe_int (fun _ _ => rfl)))
        (pss_cons (ps_expr (pe_bm PySem.F.plainAttrs_list PySem.F.slot_list_append PySem.F.type_list_append mt_append (pv 2) (pa_cons (pe_tup (pa_cons (pv 4) (pa_cons (pv 5) (pa_cons (pv 6) (pa_cons (pe_df DW hr (by rfl) pass0 (pa_cons (pv 3) (pa_cons (pv 4) pa_nil))) pa_nil))))) pa_nil)))
        (pss_one (ps_set (i := 3) scPp.nd rfl (.inl rfl) (pe_df DD hr (by rfl) pass0 (pa_cons (pv 3) (pa_cons (pv 4) (pa_cons (pv 5) pa_nil)))))))))
      (pss_one (ps_ret (pv 2))))), ?_⟩
    refine ⟨Nat.zero_le _, fun fo hfo => ⟨_, rfl, _, _, rfl, ?_⟩⟩
    have s0 := same_new (o := .lst []) hfo
    refine ⟨_, rfl, pl, rfl, ⟨_, SqL.of (s0 _ _ ep)⟩, ?_⟩
    refine for_list (K := K) (a := pl) (xs := qs.map V.ref) (fun i σ G => ∃ (h : Addr) (M : List Cell) (as : List Pap) (rs : List Addr) (v4 v5 v6 : Option V), σ = [some (.ref t), some (.ref pl), some (.ref fo), some (.ref h), v4, v5, v6] ∧ Same H G ∧ CellsT G h M ∧ M.Perm (lotAt L (ps.map mvO) i) ∧ M.Nodup ∧ M.length = L.length ∧ Hangs M ∧
        G fo = some (.lst (rs.map V.ref)) ∧ Paired (fun r p => PapAt G r p) rs as ∧ as.length = i ∧ as.map goP = ps.take i ∧ (∀ j p, as[j]? = some p → holdsP (lotAt L (ps.map mvO) j) p = true) ∧ (∀ p ∈ as, PapOk p ∧ p.2.2.1.length ≤ 30 ∧ p.2.2.2.length ≤ 30))
      ⟨t, L, [], [], none, none, none, rfl, s0, ct.ek (.of s0), .refl _, nL, rfl, hL, upd_same, .nil, rfl, rfl, by simp, by simp⟩ (fun i σ G _ ⟨_, _, _, _, _, _, _, _, sm, _⟩ => SqL.of (sm _ _ ep)) ?_ ?_
    · rintro i x σ G hi ⟨h, M, as, rs, v4, v5, v6, rfl, sm, cM, pM, nM, lM, hM, gf, pr, las, goA, firm, small⟩
      rw [List.getElem?_map] at hi
      obtain ⟨q, hq, rfl⟩ := Option.map_eq_some_iff.mp hi
      obtain ⟨⟨a, b⟩, hab, qa, qb, eq, aa, ab⟩ := paired_get pp hq
      have aa : At H qa a := aa
      have ab : At H qb b := ab
      have iL : i < ps.length := (List.getElem?_eq_some_iff.mp hab).1
      have mem : ∀ x, x ∈ M ↔ x ∈ lotAt L (ps.map mvO) i := fun x => pM.mem_iff
      have hm : (ps.map mvO)[i]? = some (some a, some b) := by rw [List.getElem?_map, hab]; rfl
      have mv := good i _ (by rw [List.length_map]; exact iL) hm
      have kn : kindV (lotAt L (ps.map mvO) i) a b ≠ .non := by simpa [moveB] using mv
      have knM : kindV M a b ≠ .non := by rw [kindV_cong mem]; exact kn
      obtain ⟨bp, hg⟩ := kind_ne.mp knM
      have ip := byPlace_is bp
      have hR : Hangs (without M a) := hangsB_iff.mp hg
      have neab : a ≠ b := fun z => ip.eL (z ▸ ip.sL)
      refine ⟨q, _, rfl, SqT.of (sm _ _ eq), rfl, _, _, rfl, _, _, rfl, rfl, ?_⟩
      refine ⟨_, rfl, h, M, rfl, cM, nM, by omega, fun d G1 s1 hd ed => ?_⟩
      have sm1 := sm.trans s1
      refine ⟨_, rfl, _, rfl, d, qa, qb, M, a, b, rfl, ed, sm1 _ _ aa, sm1 _ _ ab, fun l G2 Ss s2 cl ll hS => ?_⟩
      have sm2 := sm1.trans s2
      obtain ⟨S0, hS0⟩ := (supp_place ip.sL ip.eL).mpr bp
      have inS : S0 ∈ Ss := (hS S0).mpr ⟨ip.sL, ip.eL, hS0⟩
      obtain ⟨ts, el, prS⟩ := cl
      obtain ⟨S, Ss', rfl⟩ : ∃ S Ss', Ss = S :: Ss' := by
        cases Ss with
        | nil => cases inS
        | cons S Ss' => exact ⟨S, Ss', rfl⟩
      obtain ⟨t0, ts', rfl, cS⟩ : ∃ t0 ts', ts = t0 :: ts' ∧ CellsT G2 t0 S := by
        cases prS with
        | cons c _ => exact ⟨_, _, rfl, c⟩
      obtain ⟨_, _, supS⟩ := (hS S).mp (List.mem_cons_self ..)
      refine ⟨_, _, _, _, rfl, rfl, SqL.of el, at0, ?_⟩
      have s12 := s1.trans s2
      have gf2 := s12 _ _ gf
      have cM2 := cM.ek (.of s12)
      refine ⟨_, rfl, .inl ⟨rfl, _, SqL.of gf2⟩, _, rfl, _, rfl, _, rfl, _, rfl, _, rfl, h, qa, M, a, rfl, cM2, nM, by omega, sm2 _ _ aa, ip.sL, hM, hR, fun r G3 W s3 cW nW aW lW wit => ⟨four_le, fun tp htp => ?_⟩⟩
      have s4 := same_new (o := .tup [.ref qa, .ref qb, .ref t0, .ref r]) htp
      have s34 := s3.trans s4
      have sm4 := sm2.trans s34
      have gf4 := s34 _ _ gf2
      have pap : PapAt (upd G3 tp (.tup [.ref qa, .ref qb, .ref t0, .ref r])) tp (a, b, S, W) := ⟨qa, qb, t0, r, upd_same, sm4 _ _ aa, sm4 _ _ ab, cS.ek (.of s34), cW.ek (.of s4)⟩
      have pr4 := paired_imp (fun _ _ h => PapAt.same h (s12.trans s34)) pr
      have cM4 := cM2.ek (.of s34)
      generalize upd G3 tp (.tup [.ref qa, .ref qb, .ref t0, .ref r]) = G4 at sm4 gf4 pap pr4 cM4
      have lrs : rs.length = as.length := Paired.length pr
      refine ⟨fo, _, _, rfl, rfl, gf4, by rw [List.length_map, sizeLine_eq]; omega, ?_⟩
      have ne : ∀ {b : Addr} {xs : List V}, G4 b = some (.tup xs) → upd G4 fo (.lst (rs.map V.ref ++ [V.ref tp])) b = some (.tup xs) := fun e => by
        rw [upd_ne (ne_of e gf4 (by intro z; cases z))]
        exact e
      have neC : ∀ {c : Addr} {S : List Cell}, CellsT G4 c S → CellsT (upd G4 fo (.lst (rs.map V.ref ++ [V.ref tp]))) c S := fun ⟨qs, e, p⟩ => ⟨qs, ne e, paired_imp (fun _ _ h => ne h) p⟩
      have neP : ∀ {r : Addr} {p : Pap}, PapAt G4 r p → PapAt (upd G4 fo (.lst (rs.map V.ref ++ [V.ref tp]))) r p := fun ⟨a, b, u, v, e, a1, a2, c1, c2⟩ => ⟨a, b, u, v, ne e, ne a1, ne a2, neC c1, neC c2⟩
      have sm5 : Same H (upd G4 fo (.lst (rs.map V.ref ++ [V.ref tp]))) := same_put sm4 hfo
      have pr5 := (paired_imp (fun _ _ h => neP h) pr4).snoc (neP pap)
      have cM5 := neC cM4
      have gf5 := upd_same (H := G4) (a := fo) (o := .lst (rs.map V.ref ++ [V.ref tp]))
      generalize upd G4 fo (.lst (rs.map V.ref ++ [V.ref tp])) = G5 at sm5 pr5 cM5 gf5
      refine ⟨_, rfl, _, rfl, _, rfl, h, qa, qb, M, a, b, rfl, cM5, by omega, sm5 _ _ aa, sm5 _ _ ab, fun h2 G6 cs s6 c6 pm asc => ?_⟩
      have hd : holdsB M a b S W = true := by
        unfold holdsB
        rw [decide_eq_true ip.sL, decide_eq_false ip.eL, show suppB M a b S = true from @decide_eq_true _ (Classical.propDecidable _) supS, wit]
        rfl
      obtain ⟨b1, b2, b3⟩ := behind nM knM pm
      have lS := (supp_good supS neab).2.2.1
      refine ⟨h2, cs, as ++ [(a, b, S, W)], rs ++ [tp], _, _, _, rfl, sm5.trans s6, c6, ?_, b2, b3.trans lM, b1, by rw [List.map_append]; exact s6 _ _ gf5, paired_imp (fun _ _ h => PapAt.same h s6) pr5, by rw [List.length_append, las]; rfl, ?_, fun j p hj => ?_, fun p hp => ?_⟩
      · rw [lotAt_succ hm]
        exact pm.trans ((without_perm pM a).append_right [b])
      · rw [List.map_append, goA, take_snoc hab]
        rfl
      · by_cases z : j < as.length
        · rw [List.getElem?_append_left z] at hj
          exact firm j p hj
        · rw [List.getElem?_append_right (by omega)] at hj
          have e : j - as.length = 0 := by
            have := (List.getElem?_eq_some_iff.mp hj).1
            simp at this
            omega
          rw [e] at hj
          obtain rfl := Option.some.inj hj
          have : j = i := by omega
          subst this
          show holdsB _ _ _ _ _ = true
          rw [← holdsB_cong mem]
          exact hd
      · rcases List.mem_append.mp hp with hp | hp
        · exact small p hp
        · rw [List.mem_singleton.mp hp]
          exact ⟨⟨nW, by show W.length ≤ 1000; omega⟩, by show S.length ≤ 30; omega, by show W.length ≤ 30; omega⟩
    · rintro σ G ⟨h, M, as, rs, v4, v5, v6, rfl, sm, cM, pM, nM, lM, hM, gf, pr, las, goA, firm, small⟩
      have e1 : ps.take (qs.map V.ref).length = ps := by rw [List.length_map, lq, List.take_length]
      refine ⟨_, rfl, k fo G as sm ⟨rs, gf, pr⟩ (goA.trans e1) (fun j p hj hp => ?_) small⟩
      rw [lots_eq (ps := ps) (i := as.length) (by rw [las]; exact goA) (Nat.le_of_lt hj)]
      exact firm j p hp
end
end Sq

set_option Elab.async false
set_option linter.all false
set_option maxRecDepth 100000
set_option maxHeartbeats 8000000
/-! The law k45: a turn. -/
namespace Sq
open PySem PySem.Spec PyProof.Rows L2
abbrev l45N : List Str := ["_law_script", "_law_pen_here", "_law_lap", "_law_body", "_law_plan", "_law_bodies", "_law_papers", "_law_turn", "_law_k", "_law_other", "_law_due", "_law_step", "_law_row"]
abbrev at45 (l : List Stmt) (i : Nat) : Stmt := l.getD i (.Pass ⟨0, 0, 0, 0⟩)
def ifThen : Stmt → List Stmt
  | .If _ b _ _ => b
  | _ => []
def turn45 : List Stmt := ifThen (at45 (forBody (at45 (forBody (at45 (defBody sLaw) 1)) 3)) 0)
/-- a step that holds is a move -/
theorem due_kind {L : List Cell} {s e : Cell} {S W : List Cell} (hL : Hangs L) (h : holdsB L s e S W = true) : kindV L s e ≠ .non := by
  obtain ⟨sL, eL, su, wit⟩ := holdsB_in h
  unfold witB at wit
  rw [Bool.and_eq_true, Bool.and_eq_true, Bool.and_eq_true] at wit
  obtain ⟨w1, w2, w3, w4⟩ := wit
  have w1 : s ∉ W := by simpa using w1
  have w2 : ∀ x ∈ W, x ∈ L := of_decide_eq_true w2
  have w3 : Hangs W := hangsB_iff.mp w3
  have w4 : ∀ x ∈ nearC L s, x ∈ W := of_decide_eq_true w4
  have near : ∀ x ∈ L, x ∈ besideC s → x ∈ W := fun x hx hb => w4 x (List.mem_filter.mpr ⟨hb, decide_eq_true hx⟩)
  refine kind_ne.mpr ⟨(supp_place sL eL).mp ⟨S, su⟩, hangsB_iff.mpr ?_⟩
  obtain ⟨d, hd⟩ := List.exists_mem_of_ne_nil _ w3.1
  obtain ⟨a, aL, ac⟩ := near_ex hL sL (w2 d hd) (fun z => w1 (z ▸ hd))
  have inc : ∀ x ∈ W, x ∈ without L s := fun x hx => by
    unfold without
    rw [List.mem_filter, decide_eq_true_iff]
    exact ⟨w2 x hx, fun z => w1 (z ▸ hx)⟩
  exact (rest_hangs hL sL aL ac).mpr fun x hx hb => reach_incl inc (w3.2 a (near a aL ac) x (near x hx hb))
/-- a row of papers -/
def RowA (H : Hp) (xs : List V) : Prop := ∀ x ∈ xs, ∃ r p, x = V.ref r ∧ PapAt H r p ∧ PapOk p
theorem RowA.ek {H G : Hp} {xs : List V} (h : RowA H xs) (k : Ek H G) : RowA G xs := fun x hx => by
  obtain ⟨r, p, e, a, o⟩ := h x hx
  exact ⟨r, p, e, a.ek k, o⟩
theorem RowA.of {H : Hp} {rs : List Addr} {ps : List Pap} (pr : Paired (fun r p => PapAt H r p) rs ps) (ok : ∀ p ∈ ps, PapOk p) : RowA H (rs.map V.ref) := fun x hx => by
  obtain ⟨r, hr, rfl⟩ := List.mem_map.mp hx
  obtain ⟨i, hi⟩ := List.mem_iff_getElem?.mp hr
  obtain ⟨p, hp, a⟩ := paired_get pr hi
  exact ⟨r, p, rfl, a, ok p (List.mem_of_getElem? hp)⟩
theorem RowA.take {H : Hp} {xs : List V} (h : RowA H xs) (k : Nat) : RowA H (xs.take k) := fun x hx => h x (List.mem_of_mem_take hx)
theorem RowA.drop {H : Hp} {xs : List V} (h : RowA H xs) (k : Nat) : RowA H (xs.drop k) := fun x hx => h x (List.mem_of_mem_drop hx)
theorem RowA.app {H : Hp} {xs ys : List V} (h : RowA H xs) (k : RowA H ys) : RowA H (xs ++ ys) := fun x hx => (List.mem_append.mp hx).elim (h x) (k x)
theorem RowA.one {H : Hp} {r : Addr} {p : Pap} (h : PapAt H r p) (o : PapOk p) : RowA H [.ref r] := fun y hy => ⟨r, p, List.mem_singleton.mp hy, h, o⟩
theorem RowA.paps {H : Hp} : ∀ {xs : List V}, RowA H xs → ∃ rs ps, xs = rs.map V.ref ∧ Paired (fun r p => PapAt H r p) rs ps ∧ ∀ p ∈ ps, PapOk p
  | [], _ => ⟨[], [], rfl, .nil, by simp⟩
  | x :: xs, h => by
    obtain ⟨r, p, rfl, a, o⟩ := h x (List.mem_cons_self ..)
    obtain ⟨rs, ps, rfl, pr, ok⟩ := RowA.paps (xs := xs) fun y hy => h y (List.mem_cons_of_mem _ hy)
    exact ⟨r :: rs, p :: ps, rfl, .cons a pr, fun q hq => (List.mem_cons.mp hq).elim (fun e => e ▸ o) (ok q)⟩
section
variable {P : Program} {w : World} {K : PySem.W.Frag} {mg : Str → Option Value} {base : Heap} {Ts : List Addr} {C : Addr}
theorem scL45 : FnScope l45N ["_law_script"] (defScope sLaw) := ⟨rfl, rfl, rfl, by decide +kernel, rfl, by decide +kernel, by decide +kernel⟩
/-- both told the same -/
theorem turn_row {f : Addr} {cdv : Value} {A : Around} {outer : List Env} {s : Shared} {H0 : Hp} {E : XK} (hr : Room 8 (cxOf CX0 P w K mg base l45N "law" (defScope sLaw) f cdv A outer s H0 E).nox.A)
    (DF : Df P w K mg base CX0 7 "first_loose" ["body", "steps"] (spFirstLoose C Ts)) (DS : Df P w K mg base CX0 3 "_law_t2_steps" ["_law_papers"] (spLSteps C)) (DL : Df P w K mg base CX0 5 "_law_t2_first_loose" ["_law_body", "_law_papers"] spLLoose) :
    ∃ t, PSs (cxOf CX0 P w K mg base l45N "law" (defScope sLaw) f cdv A outer s H0 E).nox (turn45.drop 7) t ∧
      ∀ (D : Ends) (G : Hp) (v0 v1 v2 v4 v5 v6 v7 v8 v9 v10 v11 : Option V) (tp rl : Addr) (L : List Cell) (xs : List V), CellsT G tp L → L.Nodup → L.length ≤ 1000 → G rl = some (.lst xs) → RowA G xs → xs.length ≤ 1000 → TabsG Ts G →
        (∀ G', KT Ts G G' → D.nx [v0, v1, v2, some (.ref tp), v4, v5, v6, v7, v8, v9, v10, v11, some (.ref rl)] G') →
        t D [v0, v1, v2, some (.ref tp), v4, v5, v6, v7, v8, v9, v10, v11, some (.ref rl)] G := by
  refine ⟨_, (pss_one (ps_if (pt_cmpR op_ne (pe_df DF hr (by rfl) pass0 (pa_cons (pv 3) (pa_cons (pe_df DS hr (by rfl) pass0 (pa_cons (pv 12) pa_nil)) pa_nil))) (pe_df DL hr (by rfl) pass0 (pa_cons (pv 3) (pa_cons (pv 12) pa_nil))) (nomark _))
            (pss_one (ps_ret pe_bl))
            pss_nil)), ?_⟩
  intro D G v0 v1 v2 v4 v5 v6 v7 v8 v9 v10 v11 tp rl L xs ct nL lL er ro lx tg nx
  obtain ⟨rs, ps, rfl, pr, ok⟩ := ro.paps
  have lp : ps.length = rs.length := (Paired.length pr).symm
  rw [List.length_map] at lx
  refine ⟨_, rfl, _, rfl, rl, ps, rfl, ⟨rs, er, pr⟩, by omega, fun l G1 ts s1 el prT => ?_⟩
  have k1 := KT.of tg s1
  refine ⟨tp, l, L, ps, rfl, ct.ek (.of s1), nL, lL, ⟨ts, .inl el, prT⟩, by omega, ok, k1.tb', fun G2 o k2 w1 => ?_⟩
  have k12 := k1.trans k2
  have pl2 : PapsL G2 rl ps := PapsL.ek ⟨rs, er, pr⟩ k12.ek
  refine ⟨_, rfl, _, rfl, tp, rl, L, ps, rfl, ct.ek k12.ek, nL, lL, pl2, by omega, ok, fun G3 o' s3 w2 => ?_⟩
  have e := loose_uniq w1 w2
  subst e
  refine ⟨by cases o <;> rfl, _, rfl, iteN (by simp) ?_⟩
  exact nx G3 (k12.trans (KT.of k12.tb' s3))
end
end Sq

set_option Elab.async false
set_option linter.all false
set_option maxRecDepth 100000
set_option maxHeartbeats 8000000
/-! The law k45: a turn, whole. -/
namespace Sq
open PySem PySem.Spec PyProof.Rows L2
theorem kt_penP {Ts : List Addr} {H G : Hp} {p : Addr} {n : Nat} (k : KT Ts H G) (h : PenAt H p n) : PenAt G p n := by
  obtain ⟨c, zs, i, dg, fo, e1, e2, r⟩ := h.ex
  exact ⟨⟨c, zs, i, dg, fo, k.get e1 (fun _ z => nomatch z), k.get e2 (fun _ z => nomatch z), r⟩⟩
section
variable {P : Program} {w : World} {K : PySem.W.Frag} {mg : Str → Option Value} {base : Heap} {Ts : List Addr} {C : Addr}
/-- the row that is asked -/
theorem turn_rows {f : Addr} {cdv : Value} {A : Around} {outer : List Env} {s : Shared} {H0 : Hp} {E : XK} (hr : Room 8 (cxOf CX0 P w K mg base l45N "law" (defScope sLaw) f cdv A outer s H0 E).nox.A)
    (DF : Df P w K mg base CX0 7 "first_loose" ["body", "steps"] (spFirstLoose C Ts)) (DS : Df P w K mg base CX0 3 "_law_t2_steps" ["_law_papers"] (spLSteps C)) (DL : Df P w K mg base CX0 5 "_law_t2_first_loose" ["_law_body", "_law_papers"] spLLoose) (DH : Df P w K mg base CX0 2 "_law_shuffled" ["_law_pen_here", "_law_some"] spShuf) :
    ∃ t, PSs (cxOf CX0 P w K mg base l45N "law" (defScope sLaw) f cdv A outer s H0 E).nox (turn45.drop 5) t ∧
      ∀ (D : Ends) (G : Hp) (v0 v2 v4 v5 v10 v11 v12 : Option V) (p tp pa ot : Addr) (n kk : Nat) (turn : Int) (L : List Cell) (zs : List V) (b : Pap), PenAt G p n → n ≤ 800000 → CellsT G tp L → L.Nodup → L.length ≤ 1000 → G pa = some (.lst zs) → RowA G zs → zs.length ≤ 100 → kk < zs.length → PapAt G ot b → PapOk b → TabsG Ts G →
        (∀ v12 G' n', Ek G G' → PenAt G' p n' → n' ≤ n + 100 → TabsG Ts G' → D.nx [v0, some (.ref p), v2, some (.ref tp), v4, v5, some (.ref pa), some (.int turn), some (.int (kk : Int)), some (.ref ot), v10, v11, v12] G') →
        t D [v0, some (.ref p), v2, some (.ref tp), v4, v5, some (.ref pa), some (.int turn), some (.int (kk : Int)), some (.ref ot), v10, v11, v12] G := by
  obtain ⟨t2, ht2, key2⟩ := turn_row (f := f) (cdv := cdv) (A := A) (outer := outer) (s := s) (H0 := H0) (E := E) hr DF DS DL
  refine ⟨_, (pss_cons (ps_set (i := 12) scL45.nd rfl (.inl rfl) (pe_op op_cat (pe_op op_cat (pe_slice sl_list (pv 6) po_none (po_some (pv 8))) (pe_lst (pa_cons (pv 9) pa_nil))) (pe_slice sl_list (pv 6) (po_some (pe_op op_add (pv 8) pe_int)) po_none)))
            (pss_cons (ps_if (pt_cmpR op_eq (pv 7) pe_int (nomark _))
            (pss_one (ps_set (i := 12) scL45.nd rfl (.inl rfl) (pe_op op_cat (pe_slice sl_list (pv 6) po_none (po_some (pv 8))) (pe_slice sl_list (pv 6) (po_some (pe_op op_add (pv 8) pe_int)) po_none))))
            (pss_one (ps_if (pt_cmpR op_eq (pv 7) pe_int (nomark _))
              (pss_one (ps_set (i := 12) scL45.nd rfl (.inl rfl) (pe_df DH hr (by rfl) pass0 (pa_cons (pv 1) (pa_cons (pv 6) pa_nil)))))
              pss_nil)))
            ht2)), ?_⟩
  intro D G v0 v2 v4 v5 v10 v11 v12 p tp pa ot n kk turn L zs b hp hn ct nL lL er ro lz hk ao oo tg nx
  have go : ∀ {rl : Addr} {xs : List V} {G2 : Hp} {m : Nat}, Ek G G2 → PenAt G2 p m → m ≤ n + 100 → TabsG Ts G2 → G2 rl = some (.lst xs) → RowA G2 xs → xs.length ≤ 1000 → t2 D [v0, some (.ref p), v2, some (.ref tp), v4, v5, some (.ref pa), some (.int turn), some (.int (kk : Int)), some (.ref ot), v10, v11, some (.ref rl)] G2 := fun {rl xs G2 m} ek hp2 hm tg2 e r l =>
    key2 D G2 _ _ _ _ _ _ _ _ _ _ _ tp rl L xs (ct.ek ek) nL lL e r l tg2 fun G' k' => nx _ G' m (ek.trans k'.ek) (kt_penP k' hp2) hm k'.tb'
  refine ⟨_, rfl, _, rfl, _, rfl, pa, zs, rfl, SqL.of er, fun l1 h1 => ?_⟩
  rw [cut_take]
  have t1 := same_new (o := .lst (zs.take kk)) h1
  refine ⟨_, rfl, one_le, fun l2 h2 => ?_⟩
  have t2' := same_new (o := .lst [.ref ot]) h2
  refine ⟨l1, l2, _, _, rfl, rfl, t2' _ _ upd_same, upd_same, by rw [List.length_take, sizeLine_eq]; simp only [List.length_singleton]; omega, fun l3 h3 => ?_⟩
  have t3 := same_new (o := .lst (zs.take kk ++ [.ref ot])) h3
  have t13 := (t1.trans t2').trans t3
  refine ⟨_, rfl, _, rfl, _, _, rfl, rfl, ((kk + 1 : Nat) : Int), congrArg V.int (by omega), pa, zs, rfl, SqL.of (t13 _ _ er), fun l4 h4 => ?_⟩
  rw [cut_drop]
  have t4 := same_new (o := .lst (zs.drop (kk + 1))) h4
  refine ⟨l3, l4, _, _, rfl, rfl, t4 _ _ upd_same, upd_same, by rw [List.length_append, List.length_take, List.length_drop, sizeLine_eq]; simp only [List.length_singleton]; omega, fun l5 h5 => ?_⟩
  have sm := (t13.trans t4).trans (same_new (o := .lst (zs.take kk ++ [.ref ot] ++ zs.drop (kk + 1))) h5)
  have e5 := upd_same (H := upd (upd (upd (upd G l1 (.lst (zs.take kk))) l2 (.lst [.ref ot])) l3 (.lst (zs.take kk ++ [.ref ot]))) l4 (.lst (zs.drop (kk + 1)))) (a := l5) (o := .lst (zs.take kk ++ [.ref ot] ++ zs.drop (kk + 1)))
  generalize upd (upd (upd (upd (upd G l1 (.lst (zs.take kk))) l2 (.lst [.ref ot])) l3 (.lst (zs.take kk ++ [.ref ot]))) l4 (.lst (zs.drop (kk + 1)))) l5 (.lst (zs.take kk ++ [.ref ot] ++ zs.drop (kk + 1))) = G5 at sm e5
  have ek5 := Ek.of sm
  have ro5 := ro.ek ek5
  have hp5 := hp.same sm
  have tg5 := tg.same sm
  have er5 := sm _ _ er
  refine ⟨_, rfl, rfl, _, rfl, ?_⟩
  refine ite2 (fun _ => ?_) (fun h6 => ?_)
  · refine ⟨_, rfl, _, rfl, _, rfl, pa, zs, rfl, SqL.of er5, fun m1 h1 => ?_⟩
    rw [cut_take]
    have u1 := same_new (o := .lst (zs.take kk)) h1
    refine ⟨_, rfl, _, rfl, _, _, rfl, rfl, ((kk + 1 : Nat) : Int), congrArg V.int (by omega), pa, zs, rfl, SqL.of (u1 _ _ er5), fun m2 h2 => ?_⟩
    rw [cut_drop]
    have u2 := same_new (o := .lst (zs.drop (kk + 1))) h2
    refine ⟨m1, m2, _, _, rfl, rfl, u2 _ _ upd_same, upd_same, by rw [List.length_take, List.length_drop, sizeLine_eq]; omega, fun m3 h3 => ?_⟩
    have su := (u1.trans u2).trans (same_new (o := .lst (zs.take kk ++ zs.drop (kk + 1))) h3)
    have ek6 := Ek.of su
    exact go (ek5.trans ek6) (hp5.same su) (by omega) (tg5.same su) upd_same (((ro5.ek ek6).take kk).app ((ro5.ek ek6).drop (kk + 1))) (by rw [List.length_append, List.length_take, List.length_drop]; omega)
  refine ⟨_, rfl, rfl, _, rfl, ?_⟩
  refine ite2 (fun _ => ?_) (fun h7 => ?_)
  · refine ⟨_, rfl, _, rfl, p, pa, n, zs, rfl, hp5, hn, er5, lz, fun l G6 ys n6 hp6 hn6 kp6 el mem len => ?_⟩
    have ek6 := pen_ek hp5 kp6
    exact go (ek5.trans ek6) hp6 hn6 (pen_tabs hp5 kp6 tg5) el (fun y hy => (ro5.ek ek6) y (mem y hy)) (by omega)
  · refine go ek5 hp5 (by omega) tg5 e5 (((ro5.take kk).app (.one (ao.ek ek5) oo)).app (ro5.drop (kk + 1))) ?_
    rw [List.length_append, List.length_append, List.length_take, List.length_drop]
    simp only [List.length_singleton]
    omega
/-- a turn -/
theorem turn_all {f : Addr} {cdv : Value} {A : Around} {outer : List Env} {s : Shared} {H0 : Hp} {E : XK} (hr : Room 8 (cxOf CX0 P w K mg base l45N "law" (defScope sLaw) f cdv A outer s H0 E).nox.A) (B : Bl mg) (M : MkS P w K mg base C)
    (DF : Df P w K mg base CX0 7 "first_loose" ["body", "steps"] (spFirstLoose C Ts)) (DS : Df P w K mg base CX0 3 "_law_t2_steps" ["_law_papers"] (spLSteps C)) (DL : Df P w K mg base CX0 5 "_law_t2_first_loose" ["_law_body", "_law_papers"] spLLoose) (DH : Df P w K mg base CX0 2 "_law_shuffled" ["_law_pen_here", "_law_some"] spShuf)
    (DW : Df P w K mg base CX0 1 "_law_draw" ["_law_pen_here", "_law_many"] spDraw) (DC : Df P w K mg base CX0 4 "_law_t2_changed" ["_law_pen_here", "_law_body", "_law_paper"] (spLCh K)) (DO : Df P w K mg base CX0 4 "_law_t2_holds" ["_law_body", "_law_paper"] spLHoldsP) (DI : Df P w K mg base CX0 1 "_law_t2_is" ["_law_told", "_law_due"] spIs)
    (DP : Df P w K mg base CX0 7 "holds" ["body", "step"] (spHolds C Ts)) (DK : Df P w K mg base CX0 5 "_law_t2_kind" ["_law_body", "_law_start", "_law_end"] spLKind) :
    ∃ t, PSs (cxOf CX0 P w K mg base l45N "law" (defScope sLaw) f cdv A outer s H0 E).nox turn45 t ∧
      ∀ (D : Ends) (G : Hp) (v0 v2 v4 v8 v9 v10 v11 v12 : Option V) (p tp bl pa : Addr) (n : Nat) (turn : Int) (L : List Cell) (ps : List CellP) (Bs : List (List Cell)) (as : List Pap), PenAt G p n → n ≤ 700000 → CellsT G tp L → L.Nodup → L.length ≤ 30 → Hangs L → GoodTo L (ps.map mvO) (ps.map mvO).length → BsOk L (ps.map mvO) (ps.map mvO).length Bs → CellsLL G bl Bs →
        PapsL G pa as → as.length = ps.length → ps.length ≤ 100 → 0 < as.length → (∀ p ∈ as, PapOk p ∧ p.2.2.1.length ≤ 30 ∧ p.2.2.2.length ≤ 30) → TabsG Ts G →
        (∀ v8 v9 v10 v11 v12 G' n', Ek G G' → PenAt G' p n' → n' ≤ n + 200 → TabsG Ts G' → D.nx [v0, some (.ref p), v2, some (.ref tp), v4, some (.ref bl), some (.ref pa), some (.int turn), v8, v9, v10, v11, v12] G') →
        t D [v0, some (.ref p), v2, some (.ref tp), v4, some (.ref bl), some (.ref pa), some (.int turn), v8, v9, v10, v11, v12] G := by
  obtain ⟨t2, ht2, key2⟩ := turn_rows (f := f) (cdv := cdv) (A := A) (outer := outer) (s := s) (H0 := H0) (E := E) hr DF DS DL DH
  refine ⟨_, (pss_cons (ps_set (i := 8) scL45.nd rfl (.inl rfl) (pe_df DW hr (by rfl) pass0 (pa_cons (pv 1) (pa_cons (pe_callB call_len_seq (by rfl) B.len PySem.boot_len (pa_cons (pv 6) pa_nil)) pa_nil))))
            (pss_cons (ps_set (i := 9) scL45.nd rfl (.inl rfl) (pe_df DC hr (by rfl) pass0 (pa_cons (pv 1) (pa_cons (pe_ix (ix_listK (K := K) rfl) (pv 5) (pv 8) (fun _ _ => rfl)) (pa_cons (pe_ix (ix_listK (K := K) rfl) (pv 6) (pv 8) (fun _ _ => rfl)) pa_nil)))))
            (pss_cons (ps_par (i := 10) (j := 11) (by rfl) scL45.nd rfl rfl (by decide) rfl rfl (pa_cons (pe_df DO hr (by rfl) pass0 (pa_cons (pe_ix (ix_listK (K := K) rfl) (pv 5) (pv 8) (fun _ _ => rfl)) (pa_cons (pv 9) pa_nil))) (pa_cons (pe_step M hr (by rfl) (pa_cons (pe_ix (ix_tupK (K := K) rfl) (pv 9) pe_int (fun _ _ => rfl)) (pa_cons (pe_ix (ix_tupK (K := K) rfl) (pv 9) pe_int (fun _ _ => rfl)) (pa_cons (pe_ix (ix_tupK (K := K) rfl) (pv 9) pe_int (fun _ _ => rfl)) (pa_cons (pe_ix (ix_tupK (K := K) rfl) (pv 9) pe_int (fun _ _ => rfl)) pa_nil))))) pa_nil)) (by rfl))
            (pss_cons (ps_if (pt_not (pt_val (pe_df DI hr (by rfl) pass0 (pa_cons (pe_df DP hr (by rfl) pass0 (pa_cons (pe_ix (ix_listK (K := K) rfl) (pv 5) (pv 8) (fun _ _ => rfl)) (pa_cons (pv 11) pa_nil))) (pa_cons (pv 10) pa_nil)))))
            (pss_one (ps_ret pe_bl))
            pss_nil)
            (pss_cons (ps_if (PW.pt (pw_and (pt_truth (pv 10) (by intro _; rfl)) (pw_and1 (pt_cmpR op_isN (pe_df DK hr (by rfl) pass0 (pa_cons (pe_ix (ix_listK (K := K) rfl) (pv 5) (pv 8) (fun _ _ => rfl)) (pa_cons (pe_ix (ix_tupK (K := K) rfl) (pv 9) pe_int (fun _ _ => rfl)) (pa_cons (pe_ix (ix_tupK (K := K) rfl) (pv 9) pe_int (fun _ _ => rfl)) pa_nil)))) pe_non (nomark _)))))
            (pss_one (ps_ret pe_bl))
            pss_nil)
            ht2))))), ?_⟩
  intro D G v0 v2 v4 v8 v9 v10 v11 v12 p tp bl pa n turn L ps Bs as hp hn ct nL lL hang good bs cbl cpa las lps pos small tg nx
  obtain ⟨rs, er, pr⟩ := id cpa
  have lr : rs.length = as.length := Paired.length pr
  refine ⟨_, rfl, _, rfl, pa, _, rfl, .inl (SqL.of er), p, n, _, rfl, hp, by rw [List.length_map]; omega, by rw [List.length_map]; omega, by omega, fun r1 G1 u0 u1 hp1 hb1 => ?_⟩
  have kp1 := kp_pick hb1
  have ek1 := pen_ek hp kp1
  have tg1 := pen_tabs hp kp1 tg
  obtain ⟨kk, rfl⟩ := Int.eq_ofNat_of_zero_le u0
  rw [List.length_map] at u1
  have hk : kk < as.length := by omega
  have hpk : as[kk]? = some as[kk] := List.getElem?_eq_getElem hk
  generalize as[kk] = a at hpk
  obtain ⟨rk, hrk, ak⟩ := paired_getR pr hpk
  have hxr : (rs.map V.ref)[kk]? = some (.ref rk) := by rw [List.getElem?_map, hrk]; rfl
  obtain ⟨smA, smS, smW⟩ := small a (List.mem_of_getElem? hpk)
  -- the body ahead of it
  obtain ⟨ts, ebl, pbl⟩ := cellsLL_ek cbl ek1
  have lB : Bs.length = ps.length + 1 := by rw [bs.1, List.length_map]
  obtain ⟨X, hX⟩ : ∃ X, Bs[kk]? = some X := ⟨_, List.getElem?_eq_getElem (by omega)⟩
  obtain ⟨pX, aX⟩ := bs.2 kk X hX
  obtain ⟨tk, htk, cX⟩ := paired_getR pbl hX
  have hxt : (ts.map V.ref)[kk]? = some (.ref tk) := by rw [List.getElem?_map, htk]; rfl
  obtain ⟨hgK, ndK, lnK⟩ := good_lot (n := kk) nL hang (by rw [List.length_map]; omega) fun j m hj hm => good j m (by rw [List.length_map]; omega) hm
  have nX : X.Nodup := pX.nodup_iff.mpr ndK
  have lX : X.length ≤ 30 := by rw [pX.length_eq, lnK]; exact lL
  have hX2 : Hangs X := (hangs_perm fun x => pX.mem_iff).mpr hgK
  have er1 := ek1.lst er
  refine ⟨_, rfl, _, rfl, _, rfl, _, _, _, _, rfl, rfl, SqL.of ebl, atI_nat hxt, _, rfl, _, rfl, _, _, _, _, rfl, rfl, SqL.of er1, atI_nat hxr, p, tk, rk, n + 1, X, a, rfl, hp1, by omega, cX, hX2.1, nX, lX, ak.ek ek1, smA, smS, smW, fun ot G2 b n2 hp2 hn2 kp2 ab okb => ?_⟩
  have ek2 := pen_ek hp1 kp2
  have tg2 := pen_tabs hp1 kp2 tg1
  have cX2 := cX.ek ek2
  have ebl2 := ek2.lst ebl
  refine ⟨_, rfl, _, rfl, _, _, _, _, rfl, rfl, SqL.of ebl2, atI_nat hxt, _, rfl, tk, ot, X, b, rfl, cX2, nX, by omega, ab, okb, fun G3 s3 => ?_⟩
  obtain ⟨a1, a2, a3, a4, e, b1, b2, b3, b4⟩ := ab.same s3
  refine ⟨_, rfl, _, _, _, _, rfl, rfl, SqT.of e, at0, _, rfl, _, _, _, _, rfl, rfl, SqT.of e, at1, _, rfl, _, _, _, _, rfl, rfl, SqT.of e, at2, _, rfl, _, _, _, _, rfl, rfl, SqT.of e, at3, fun x dx hx hdx ne => ?_⟩
  refine step_one hx hdx (fun G4 s4 ht sv => ⟨rfl, _, _, rfl, ?_⟩)
  have s34 := s3.trans s4
  have ebl4 := s34 _ _ ebl2
  have cX4 := cX2.ek (.of s34)
  have st4 : StepO C G4 x b.1 b.2.1 b.2.2.1 b.2.2.2 := ⟨a1, a2, a3, a4, sv, s4 _ _ b1, s4 _ _ b2, b3.ek (.of s4), b4.ek (.of s4)⟩
  refine ⟨_, rfl, _, rfl, _, _, _, _, rfl, rfl, SqL.of ebl4, atI_nat hxt, _, rfl, tk, x, X, b.1, b.2.1, b.2.2.1, b.2.2.2, rfl, cX4, nX, by omega, st4, okb.1, okb.2, tg2.same s34, fun G5 k5 => ?_⟩
  refine ⟨_, rfl, _, _, rfl, _, rfl, ?_⟩
  have k25 := (KT.of tg2 s34).trans k5
  have ek05 := (ek1.trans ek2).trans k25.ek
  have hp5 := kt_penP k25 hp2
  have eb : (holdsB X b.1 b.2.1 b.2.2.1 b.2.2.2 == holdsP X b) = true := beq_self_eq_true _
  generalize (holdsB X b.1 b.2.1 b.2.2.1 b.2.2.2 == holdsP X b) = c at eb
  subst eb
  refine iteN (by simp) ?_
  have ab5 : PapAt G5 ot b := ab.ek k25.ek
  have go : ∀ {G6 : Hp}, Same G5 G6 → t2 D [v0, some (.ref p), v2, some (.ref tp), v4, some (.ref bl), some (.ref pa), some (.int turn), some (.int (kk : Int)), some (.ref ot), some (.bl (holdsP X b)), some (.ref x), v12] G6 := fun {G6} s6 => by
    have ek6 := ek05.trans (.of s6)
    refine key2 D G6 v0 v2 v4 _ _ _ v12 p tp pa ot n2 kk turn L (rs.map V.ref) b (hp5.same s6) (by omega) (ct.ek ek6) nL (by omega) (ek6.lst er) ((RowA.of pr fun p hp => (small p hp).1).ek ek6) (by rw [List.length_map]; omega) (by rw [List.length_map]; omega) (ab5.same s6) okb (k25.tb'.same s6) fun v12 G' n' e' h' hn' t' => nx _ _ _ _ _ G' n' (ek6.trans e') h' (by omega) t'
  refine ⟨_, rfl, holdsP X b, rfl, ?_⟩
  refine ite2 (fun hd => ?_) (fun hd => go same_refl)
  obtain ⟨c1, c2, c3, c4, e5, d1, d2, d3, d4⟩ := id ab5
  have ebl5 := k25.lst ebl2
  refine ⟨_, rfl, _, rfl, _, _, _, _, rfl, rfl, SqL.of ebl5, atI_nat hxt, _, rfl, _, _, _, _, rfl, rfl, SqT.of e5, at0, _, rfl, _, _, _, _, rfl, rfl, SqT.of e5, at1, tk, c1, c2, X, b.1, b.2.1, rfl, cX2.ek k25.ek, nX, by omega, d1, d2, fun G6 s6 => ⟨rfl, _, rfl, ?_⟩⟩
  refine iteN ?_ (go s6)
  have := due_kind hX2 (show holdsB X b.1 b.2.1 b.2.2.1 b.2.2.2 = true from hd)
  simpa using this
end
end Sq

set_option Elab.async false
set_option linter.all false
set_option maxRecDepth 100000
set_option maxHeartbeats 8000000
/-! The law k45. -/
namespace Sq
open PySem PySem.Spec PyProof.Rows L2
def papD (p : Pap) : PyData := .tuple [cD p.1, cD p.2.1, .tuple (p.2.2.1.map cD), .tuple (p.2.2.2.map cD)]
theorem lay_papD (p : Pap) : Lay 3 (papD p) := lay_tuple fun d hd => by
  simp only [List.mem_cons, List.not_mem_nil, or_false] at hd
  rcases hd with z | z | z | z
  · exact z ▸ (lay_cell _).mono (by decide)
  · exact z ▸ (lay_cell _).mono (by decide)
  · exact z ▸ lay_cellsT8
  · exact z ▸ lay_cellsT8
theorem pap_dp {K : PySem.W.Frag} {H : Hp} {r : Addr} {p : Pap} (h : PapAt H r p) : Dp K H (.ref r) (papD p) := by
  obtain ⟨a, b, u, v, e, a1, a2, c1, c2⟩ := h
  exact .tup (SqT.of e) (.cons a1.dp (.cons a2.dp (.cons c1.dp (.cons c2.dp .nil))))
theorem paps_dps {K : PySem.W.Frag} {H : Hp} : ∀ {rs : List Addr} {ps : List Pap}, Paired (fun r p => PapAt H r p) rs ps → DpAll K H (rs.map V.ref) (ps.map papD)
  | _, _, .nil => .nil
  | _, _, .cons h t => .cons (pap_dp h) (paps_dps t)
def spLaw (K : PySem.W.Frag) (Ts : List Addr) : Sp := fun vs H Q _ => ∃ (a : Addr) (zs : List Int), vs = [.ref a] ∧ SqL K H a (zs.map V.int) ∧ zs.length ≤ 63 ∧ TabsG Ts H ∧ ∀ H', Q (.bl true) H'
section
variable {P : Program} {w : World} {K : PySem.W.Frag} {mg : Str → Option Value} {base : Heap} {Ts : List Addr} {C : Addr}
theorem ok_law {f : Addr} {fd : FuncData} (F : FnP K "law" sLaw f fd) (B : Bl mg) (M : MkS P w K mg base C) (D0 : Df P w K mg base CX0 1 "_law_pen" ["_law_script"] (spPen K)) (DW : Df P w K mg base CX0 1 "_law_draw" ["_law_pen_here", "_law_many"] spDraw) (DB : Df P w K mg base CX0 5 "_law_t2_body" ["_law_pen_here", "_law_most"] spBody) (DP : Df P w K mg base CX0 6 "_law_t2_plan" ["_law_pen_here", "_law_body", "_law_many"] spLPlan)
    (DA : Df P w K mg base CX0 4 "_law_t2_papers" ["_law_body", "_law_plan"] spPapers) (DF : Df P w K mg base CX0 7 "first_loose" ["body", "steps"] (spFirstLoose C Ts)) (DS : Df P w K mg base CX0 3 "_law_t2_steps" ["_law_papers"] (spLSteps C)) (DL : Df P w K mg base CX0 5 "_law_t2_first_loose" ["_law_body", "_law_papers"] spLLoose) (DH : Df P w K mg base CX0 2 "_law_shuffled" ["_law_pen_here", "_law_some"] spShuf)
    (DC : Df P w K mg base CX0 4 "_law_t2_changed" ["_law_pen_here", "_law_body", "_law_paper"] (spLCh K)) (DO : Df P w K mg base CX0 4 "_law_t2_holds" ["_law_body", "_law_paper"] spLHoldsP) (DI : Df P w K mg base CX0 1 "_law_t2_is" ["_law_told", "_law_due"] spIs) (DH2 : Df P w K mg base CX0 7 "holds" ["body", "step"] (spHolds C Ts)) (DK : Df P w K mg base CX0 5 "_law_t2_kind" ["_law_body", "_law_start", "_law_end"] spLKind) :
    FnOk P w K mg base CX0 9 f fd ["_law_script"] (spLaw K Ts) := by
  refine F.ok scL45 (fun vs H Q E h => ?_) (fun cdv A outer s H vs Q E hr h => ?_)
  · obtain ⟨a, zs, rfl, _⟩ := h
    rfl
  · obtain ⟨a, zs, rfl, hS, hl, tg, k⟩ := h
    have h64 := room64 hr
    obtain ⟨t2, ht2, key2⟩ := turn_all (P := P) (w := w) (K := K) (mg := mg) (base := base) (f := f) (cdv := cdv) (A := A) (outer := outer) (s := s) (H0 := H) (E := E) hr B M DF DS DL DH DW DC DO DI DH2 DK
    refine ⟨_, PSs.nox (pss_cons (ps_set (i := 1) scL45.nd rfl (.inl rfl) (pe_df D0 hr (by rfl) pass0 (pa_cons (pv 0) pa_nil)))
      (pss_cons (ps_for PassesOwn.never rfl (pi_range1 (by rfl) B.range (pa_cons pe_int pa_nil)) (pg_name (i := 2) scL45.nd rfl (.inl rfl))
      (pss_cons (ps_set (i := 3) scL45.nd rfl (.inl rfl) (pe_df DB hr (by rfl) pass0 (pa_cons (pv 1) (pa_cons pe_int pa_nil))))
        (pss_cons (ps_asg (pe_df DP hr (by rfl) pass0 (pa_cons (pv 1) (pa_cons (pv 3) (pa_cons (pe_op op_add pe_int (pe_df DW hr (by rfl) pass0 (pa_cons (pv 1) (pa_cons pe_int pa_nil)))) pa_nil)))) (pg_tup (by rfl) (pgs_cons (pg_name (i := 4) scL45.nd rfl (.inl rfl)) (pgs_cons (pg_name (i := 5) scL45.nd rfl (.inl rfl)) pgs_nil))))
        (pss_cons (ps_set (i := 6) scL45.nd rfl (.inl rfl) (pe_df DA hr (by rfl) pass0 (pa_cons (pv 3) (pa_cons (pv 4) pa_nil))))
        (pss_cons (ps_for PassesOwn.never rfl (pi_range1 (by rfl) B.range (pa_cons pe_int pa_nil)) (pg_name (i := 7) scL45.nd rfl (.inl rfl))
        (pss_one (ps_if (pt_cmpR (op_neK (K := K) rfl h64) (pv 6) (pe_lst pa_nil) (nomark _))
          ht2
          pss_nil)))
        (pss_one (ps_if (PW.pt (pw_or (pt_cmpR op_notN (pe_df DF hr (by rfl) pass0 (pa_cons (pv 3) (pa_cons (pe_tupleOf (by rfl) B.tuple (pe_df DS hr (by rfl) pass0 (pa_cons (pv 6) pa_nil))) pa_nil))) pe_non (nomark _)) (pw_or1 (pt_cmpR op_notN (pe_df DF hr (by rfl) pass0 (pa_cons (pv 3) (pa_cons (pe_lst pa_nil) pa_nil))) pe_non (nomark _)))))
        (pss_one (ps_ret pe_bl))
        pss_nil)))))))
      (pss_one (ps_ret pe_bl)))), ?_⟩
    refine ⟨_, rfl, a, zs, rfl, hS, hl, fun p H1 hp1 s1 np => ?_⟩
    have tg1 := tg.same s1
    refine ⟨2, rfl, by decide, by decide, ?_⟩
    refine for_range (lo := 0) (n := 2) (fun i σ G => ∃ (n : Nat) (v2 v3 v4 v5 v6 v7 v8 v9 v10 v11 v12 : Option V), σ = [some (.ref a), some (.ref p), v2, v3, v4, v5, v6, v7, v8, v9, v10, v11, v12] ∧ PenAt G p n ∧ n ≤ 3000 * i ∧ TabsG Ts G) ⟨0, none, none, none, none, none, none, none, none, none, none, none, rfl, hp1, Nat.zero_le _, tg1⟩ ?_ ?_
    · rintro i σ G0 hi ⟨n0, v2, v3, v4, v5, v6, v7, v8, v9, v10, v11, v12, rfl, hp0, hn0, tg0⟩
      rw [Int.zero_add]
      refine ⟨_, rfl, p, n0, 14, rfl, hp0, by decide, by decide, by omega, fun tp G1 L n1 hp1 hn1 kp1 ct nL aL neL lL hang _ => ?_⟩
      have tg1 := pen_tabs hp0 kp1 tg0
      refine ⟨_, rfl, _, rfl, _, rfl, p, n1, 10, rfl, hp1, by decide, by decide, by omega, fun r2 G2 u0 u1 hp2 hb2 => ⟨_, _, rfl, rfl, ?_⟩⟩
      have kp2 := kp_pick hb2
      have ek2 := pen_ek hp1 kp2
      have tg2 := pen_tabs hp1 kp2 tg1
      obtain ⟨many, rfl⟩ := Int.eq_ofNat_of_zero_le u0
      refine ⟨p, tp, n1 + 1, 1 + many, L, (by rw [show (((1 + many : Nat)) : Int) = 1 + (many : Int) from by omega]; rfl), hp2, by omega, by omega, ct.ek ek2, nL, aL, by omega, hang, fun u G3 pl bl ps Bs n3 hp3 hn3 kp3 eu cpl lps cbl good ok => ?_⟩
      have ek3 := pen_ek hp2 kp3
      have tg3 := pen_tabs hp2 kp3 tg2
      have ct3 := ct.ek (ek2.trans ek3)
      refine ⟨u, _, rfl, SqT.of eu, rfl, _, _, rfl, _, _, rfl, rfl, ?_⟩
      refine ⟨_, rfl, _, rfl, tp, pl, L, ps, rfl, ct3, nL, by omega, hang, cpl, by omega, good, fun pa G4 as s4 cpa goA firm small => ?_⟩
      have las : as.length = ps.length := by rw [← goA, List.length_map]
      have ct4 := ct3.ek (.of s4)
      have cbl4 := cellsLL_ek cbl (.of s4)
      have okA : ∀ p ∈ as, PapOk p := fun p hp => (small p hp).1
      refine ⟨4, rfl, by decide, by decide, ?_⟩
      refine for_range (lo := 0) (n := 4) (fun j σ G => ∃ (n : Nat) (v7 v8 v9 v10 v11 v12 : Option V), σ = [some (.ref a), some (.ref p), some (.int (i : Int)), some (.ref tp), some (.ref pl), some (.ref bl), some (.ref pa), v7, v8, v9, v10, v11, v12] ∧ PenAt G p n ∧ n ≤ n3 + 200 * j ∧ TabsG Ts G ∧ Ek G4 G) ⟨n3, _, _, _, _, _, _, rfl, hp3.same s4, by omega, tg3.same s4, .refl⟩ ?_ ?_
      · rintro j σ G hj ⟨n, w7, w8, w9, w10, w11, w12, rfl, hp, hn, tg, ek⟩
        rw [Int.zero_add]
        obtain ⟨rs, er, pr⟩ := cpa.ek ek
        refine ⟨_, rfl, Nat.zero_le _, fun l2 hl2 => ?_⟩
        have s6 := same_new (o := .lst []) hl2
        have ek6 := ek.trans (.of s6)
        refine ⟨_, _, .lst (SqL.of (s6 _ _ er)) ((Ek.of s6).dps _ _ (paps_dps pr)), .lst (SqL.of upd_same) .nil, (lay_list (n := 3) fun d hd => by
          obtain ⟨q, _, rfl⟩ := List.mem_map.mp hd
          exact lay_papD q).shaped (by decide), (lay_list (n := 0) (ds := []) (by simp)).shaped (by decide), _, rfl, ?_⟩
        rw [eqv_nilD]
        refine ite2 (fun h1 => ?_) (fun h1 => ?_)
        · have pos : 0 < as.length := by
            cases as with
            | nil => simp at h1
            | cons x xs => exact Nat.succ_pos _
          exact key2 _ _ _ _ _ _ _ _ _ _ p tp bl pa n (j : Int) L ps Bs as (hp.same s6) (by omega) (ct4.ek ek6) nL (by omega) hang good ok (cellsLL_ek cbl4 ek6) (cpa.ek ek6) las (by omega) pos small (tg.same s6) fun v8 v9 v10 v11 v12 G' n' e' h' hn' t' => ⟨n', _, _, _, _, _, _, rfl, h', by omega, t', ek6.trans e'⟩
        · exact ⟨n, _, _, _, _, _, _, rfl, hp.same s6, by omega, tg.same s6, ek6⟩
      · rintro σ G ⟨n, w7, w8, w9, w10, w11, w12, rfl, hp, hn, tg, ek⟩
        refine ⟨_, rfl, _, rfl, pa, as, rfl, cpa.ek ek, by omega, fun l G5 ts s5 el prT => .inl ⟨l, _, rfl, SqL.of el, fun tu htu => ?_⟩⟩
        have s6 := same_new (o := .tup (ts.map V.ref)) htu
        have s56 := s5.trans s6
        have k6 := KT.of tg s56
        refine ⟨tp, tu, L, as, rfl, (ct4.ek ek).ek (.of s56), nL, by omega, ⟨ts, .inr upd_same, paired_imp (fun _ _ h => h.same s6) prT⟩, by omega, okA, k6.tb', fun G7 o k7 w1 => ?_⟩
        have e := loose_uniq w1 (show LooseIs L as none from firm)
        subst e
        have k67 := k6.trans k7
        refine ⟨rfl, _, rfl, iteN (by simp [oV]) ?_⟩
        refine ⟨_, rfl, Nat.zero_le _, fun l8 hl8 => ?_⟩
        have s8 := same_new (o := .lst []) hl8
        have k8 := k67.same s8
        refine ⟨tp, l8, L, [], rfl, (ct4.ek ek).ek k8.ek, nL, by omega, ⟨[], .inl upd_same, .nil⟩, Nat.zero_le _, by simp, k8.tb', fun G9 o k9 w2 => ?_⟩
        have e := loose_uniq w2 (show LooseIs L [] none from fun j p hj => absurd hj (Nat.not_lt_zero _))
        subst e
        refine ⟨rfl, _, rfl, iteN (by simp [oV]) ?_⟩
        have k89 := k8.trans k9
        exact ⟨n, _, _, _, _, _, _, _, _, _, _, _, rfl, kt_penP k89 hp, by omega, k89.tb'⟩
    · rintro σ G ⟨n, v2, v3, v4, v5, v6, v7, v8, v9, v10, v11, v12, rfl, hp, hn, tg⟩
      exact k G
end
end Sq

set_option Elab.async false
set_option linter.all false
set_option maxRecDepth 100000
set_option maxHeartbeats 4000000
/-! What the head must tell of the errors' classes, as a Bool and a datum. -/
namespace Sq
open PySem PySem.Spec PyProof.Rows L2
/-! ### the text of an __init__ -/
structure ITxt (st : Stmt) (ns : List Str) : Prop where
  ex : ∃ (msg : Str) (j : Nat) (p0 p1 p2 p3 p4 p5 : Pos) (ps : List Ps) (ar : Arg), defBody st = supS msg j p0 p1 p2 p3 p4 p5 :: (ns.zip ps).map (fun z => keepS z.1 z.2) ∧ ns.length ≤ ps.length ∧ ((defArgs st).posonlyargs ++ (defArgs st).args).head? = some ar ∧
    ar.arg = "self" ∧ (p2.endLine == p4.line) = true
  bind : ∀ (name qual : Str) (kV doc pm cdv ct : Value) (an : Option Addr) (cc : Addr) (s : Shared) (us : List Value), us.length = ns.length + 1 →
    BindsTo s (PySem.W.ksFn name qual (defArgs st) (defBody st) (defScope st) .none kV doc pm an cdv ct cc) ⟨us, []⟩ ((("self" : Str) :: ns).zip us)
  sup : (defScope st).names.lookup ("super" : Str) = some .globalImplicit
  cls : (defScope st).names.lookup ("__class__" : Str) = some .free
  loc : ∀ x ∈ (("self" : Str) :: ns), (defScope st).names.lookup x = some .local
  dbg : ∀ x ∈ ns, (x == ("__debug__" : Str)) = false
  cell : ∀ x ∈ (defScope st).names, x.2 ≠ .cell
  co : (defScope st).isCoroutine = false
  gen : (defScope st).isGenerator = false
  kind : (defScope st).kind = .function
  nd : ns.Nodup
  noSelf : ("self" : Str) ∉ ns
  len : ns.length ≤ 900
abbrev sI (j : Nat) : Stmt := inClass (top j) 0
/-! ### what is looked at -/
abbrev FnI : Type := Option (Str × Str × Arguments × FuncBody × Scope × Addr × List Str × Addr)
def obsI (K : PySem.W.Frag) (x : Str) : FnI := match K.lookup (He.ma K (He.ga K x) "__init__") with
  | some ⟨_, _, .func fd, _⟩ => some (fd.name, fd.qualname, fd.params, fd.body, fd.scope, fd.globals, fd.closure.map (·.1), fd.builtins)
  | _ => none
def valI (x : Str) (st : Stmt) : FnI := some ("__init__", x ++ ".__init__", defArgs st, .stmts (defBody st), defScope st, mainGlobals, ["__class__"], builtinsNs)
/-- the __init__'s function: no defaults, its code of this file, its cell the class -/
def fnB (file : Str) (K : PySem.W.Frag) (C fI : Addr) (qual : Str) : Bool := match K.lookup fI with
  | some ⟨_, _, .func fd, _⟩ => (match fd.defaults with
      | .none => true
      | _ => false) && (match fd.code with
      | .ref c => PySem.W.codeIn K (.ref c) qual && (match K.lookup c with
        | some ⟨_, _, .fields vs, _⟩ => (match (vs[2]? : Option Value) with
          | some (.str z _) => decide (z = file)
          | _ => false)
        | _ => false)
      | _ => false) && (match fd.closure with
      | [(_, cc)] => (match K.lookup cc with
        | some ⟨_, _, .cell (some (.ref D)), _⟩ => Nat.beq D C
        | _ => false)
      | _ => false)
  | _ => false
/-- the class's object -/
def clB (K : PySem.W.Frag) (C : Addr) : Bool := match K.lookup C with
  | some ⟨.type T, _, .cls cd, sl⟩ => decide (T = "type") && (match cd.mro, sl.toList with
      | .ref C0 :: tl, [_, _, _, _, some (.builtin nw), _] => Nat.beq C0 C && (decide (nw = "ValueError.__new__") && (!cd.hasDel && (cd.hasDict && (PySem.HandSPX.refsVE tl && He.eqO (PySem.W.alongIn K "__init__" tl) (some (some (.builtin "ValueError.__init__")))))))
      | _, _ => false)
  | _ => false
def obB (a b : Option Bool) : Bool := decide (a = b)
def errB (file : Str) (K : PySem.W.Frag) (x : Str) (ns : List Str) : Bool :=
  clB K (He.ga K x) && (fnB file K (He.ga K x) (He.ma K (He.ga K x) "__init__") (x ++ ".__init__") && (He.eqO (PySem.W.findIn K (.ref (He.ga K x)) "__setattr__") (some (some (.builtin "object.__setattr__"))) &&
  (He.eqO (PySem.W.findIn K (.ref (He.ga K x)) "__init__") (some (some (.ref (He.ma K (He.ga K x) "__init__")))) && (decide (PySem.W.typeIn K (.ref (He.ma K (He.ga K x) "__init__")) = some (.type "function")) && (PySem.W.keepIn K (.ref (He.ga K x)) &&
  (obB (PySem.W.subIn K (.ref (He.ga K x)) (.type "ValueError")) (some true) && (obB (PySem.W.mroIn K (He.ga K x) (.ref (He.ga K x))) (some true) && (ns.all fun f => He.eqO (PySem.W.findIn K (.ref (He.ga K x)) f) (some none)) &&
  (He.eqO (PySem.W.findIn K (.ref (He.ga K x)) "__getattribute__") (some (some (.builtin "BaseException.__getattribute__"))) && (He.eqO (PySem.W.findIn K (.ref (He.ga K x)) "__getattr__") (some none) &&
  (obB (PySem.W.subIn K (.ref (He.ga K x)) (.type "BaseException")) (some true) && (PySem.W.hasDictIn K (He.ga K x) && (He.eqO (PySem.W.findIn K (.ref (He.ga K x)) "__class__") (some (some (.builtin "object.__class__"))) &&
  (obB (PySem.W.mroIn K (He.ga K x) (.type "object")) (some true) && He.eqO (PySem.W.nsIn K mainGlobals x) (some (some (.ref (He.ga K x)))))))))))))))))
/-- what is common to all -/
def comB (K : PySem.W.Frag) : Bool := He.eqO (PySem.W.nsIn K PySem.cStatics "thirdparty.any") (some none) && (He.eqO (PySem.W.nsIn K mainGlobals "super") (some none) &&
  (He.eqO (PySem.W.specialIn K (.builtin "object.__class__") "__get__") (some (some (.builtin "getset_descriptor.__get__"))) && obB (PySem.W.takesIn K (.builtin "object.__class__")) (some true)))
theorem ba {a b : Bool} (h : (a && b) = true) : a = true ∧ b = true := Bool.and_eq_true_iff.mp h
theorem clB_ok {K : PySem.W.Frag} {C : Addr} (h : clB K C = true) : ∃ nm q N bs bm sn sub ab col dd k0 k1 k2 k3 k5, K.lookup C = some (excClassObj nm q C N bs bm true sn sub ab col dd k0 k1 k2 k3 k5 "ValueError.__new__") ∧ PySem.HandSPX.refsVE bm = true ∧
    PySem.W.alongIn K "__init__" bm = some (some (.builtin "ValueError.__init__")) := by
  unfold clB at h
  split at h
  · rename_i T dd cd sl ho
    obtain ⟨hT, h⟩ := ba h
    split at h
    · rename_i C0 tl k0 k1 k2 k3 nw k5 hm hs
      obtain ⟨g1, h⟩ := ba h
      obtain ⟨g2, h⟩ := ba h
      obtain ⟨g3, h⟩ := ba h
      obtain ⟨g4, h⟩ := ba h
      obtain ⟨g5, g6⟩ := ba h
      have e1 : C0 = C := Nat.eq_of_beq_eq_true g1
      have e2 : nw = "ValueError.__new__" := of_decide_eq_true g2
      have e0 : T = "type" := of_decide_eq_true hT
      subst e1 e2 e0
      obtain ⟨nm, bs, mro, nsp, qn, hd, sn, sub, ab, col, del⟩ := cd
      dsimp only at hm g3 g4
      have e3 : del = false := by simpa using g3
      subst hm e3 g4
      have hsl : sl = #[k0, k1, k2, k3, some (.builtin "ValueError.__new__"), k5] := by
        obtain ⟨l⟩ := sl
        exact congrArg Array.mk hs
      subst hsl
      exact ⟨nm, qn, nsp, bs, tl, sn, sub, ab, col, dd, k0, k1, k2, k3, k5, ho, g5, He.eqO_ok g6⟩
    · cases h
  · cases h
theorem fnB_ok {file : Str} {K : PySem.W.Frag} {C fI : Addr} {qual : Str} {fd : FuncData} {oc : Value} {od : Option Addr} {osl : Array (Option Value)} (lk : K.lookup fI = some ⟨oc, od, .func fd, osl⟩) (h : fnB file K C fI qual = true) :
    fd.defaults = .none ∧ ∃ (cda : Addr) (n : Str) (cc : Addr) (ccl cl : Value) (cdd cld : Option Addr) (ccs csl : Array (Option Value)) (vs : Array Value) (tf : Tok), fd.code = .ref cda ∧ PySem.W.codeIn K (.ref cda) qual = true ∧ fd.closure = [(n, cc)] ∧
      K.lookup cda = some ⟨ccl, cdd, .fields vs, ccs⟩ ∧ vs[2]? = some (.str file tf) ∧ K.lookup cc = some ⟨cl, cld, .cell (some (.ref C)), csl⟩ := by
  unfold fnB at h
  rw [lk] at h
  obtain ⟨h, h3⟩ := ba h
  obtain ⟨h1, h2⟩ := ba h
  have g1 : fd.defaults = .none := by
    split at h1
    · assumption
    · cases h1
  refine ⟨g1, ?_⟩
  split at h2
  · rename_i c hc
    obtain ⟨g2, h2⟩ := ba h2
    split at h2
    · rename_i ccl cdd vs ccs hcl
      split at h2
      · rename_i z tf hz
        have e := of_decide_eq_true h2
        subst e
        split at h3
        · rename_i n cc hcc
          split at h3
          · rename_i cl cld D csl hD
            have e := Nat.eq_of_beq_eq_true h3
            subst e
            exact ⟨c, n, cc, ccl, cl, cdd, cld, ccs, csl, vs, tf, hc, g2, hcc, hcl, hz, hD⟩
          · cases h3
        · cases h3
      · cases h2
    · cases h2
  · cases h2
/-- all that is told of one class -/
structure ErrOk (P : Program) (K : PySem.W.Frag) (x : Str) (ns : List Str) : Prop where
  s : SErr P K (He.ga K x) (He.ma K (He.ga K x) "__init__") ns
  xf : XfC K (He.ga K x)
  ce : ClsE K (He.ga K x)
  gl : PySem.W.nsIn K mainGlobals x = some (some (.ref (He.ga K x)))
theorem errB_ok {P : Program} {K : PySem.W.Frag} {x : Str} {st : Stmt} {ns : List Str} (htop : (P.main.scope.names.lookup ("super" : Str)).isSome = false) (I : ITxt st ns) (ho : obsI K x = valI x st) (h : errB P.main.file K x ns = true) (hc : comB K = true) : ErrOk P K x ns := by
  unfold errB at h
  obtain ⟨a1, h⟩ := ba h
  obtain ⟨a2, h⟩ := ba h
  obtain ⟨a3, h⟩ := ba h
  obtain ⟨a4, h⟩ := ba h
  obtain ⟨a5, h⟩ := ba h
  obtain ⟨a6, h⟩ := ba h
  obtain ⟨a7, h⟩ := ba h
  obtain ⟨a89, h⟩ := ba h
  obtain ⟨a8, a9⟩ := ba a89
  obtain ⟨b1, h⟩ := ba h
  obtain ⟨b2, h⟩ := ba h
  obtain ⟨b3, h⟩ := ba h
  obtain ⟨b4, h⟩ := ba h
  obtain ⟨b5, h⟩ := ba h
  obtain ⟨b6, b7⟩ := ba h
  unfold comB at hc
  obtain ⟨c1, hc⟩ := ba hc
  obtain ⟨c2, hc⟩ := ba hc
  obtain ⟨c3, c4⟩ := ba hc
  have ob : ∀ {a b : Option Bool}, obB a b = true → a = b := fun q => of_decide_eq_true q
  refine ⟨⟨clB_ok a1, He.eqO_ok a3, He.eqO_ok a4, of_decide_eq_true a5, a6, ob a7, ob a8, He.eqO_ok c1, He.eqO_ok c2, fun f hf => He.eqO_ok (List.all_eq_true.mp a9 f hf), I.nd, I.len, I.noSelf, htop, ?_⟩, ⟨He.eqO_ok b1, He.eqO_ok b2, ob b3, b4⟩,
    ⟨He.eqO_ok b1, He.eqO_ok b2, ob b3, b4, He.eqO_ok b5, He.eqO_ok c3, ob c4, ob b6⟩, He.eqO_ok b7⟩
  unfold obsI at ho
  split at ho
  · rename_i oc od fd osl lk
    obtain ⟨q1, cda, n, cc, ccl, cl, cdd, cld, ccs, csl, vs, tf, q2, q3, q4, q5, q6, q7⟩ := fnB_ok lk a2
    obtain ⟨n1, n2, n3, n4, n5, n6, n7, n8, n9, n10, n11, n12, n13, n14, n15⟩ := fd
    dsimp only at q1 q2 q4
    unfold valI at ho
    simp only [Option.some.injEq, Prod.mk.injEq] at ho
    obtain ⟨r1, r2, r3, r4, r5, r6, r7, r8⟩ := ho
    rw [q4] at r7
    have en : n = "__class__" := by simpa using r7
    subst r1 r2 r3 r4 r5 r6 r8 q1 q2 q4 en
    obtain ⟨msg, j, p0, p1, p2, p3, p4, p5, ps, ar, e1, e2, e3, e4, e5⟩ := I.ex
    have bb := I.bind
    rw [e1] at lk bb
    exact ⟨oc, od, osl, _, _, _, _, _, _, _, _, _, cda, cc, ar, msg, j, p0, p1, p2, p3, p4, p5, ps, ccl, cl, cdd, cld, ccs, csl, vs, tf, lk, e2, e3, e4, q3, q5, q6, q7, fun s us hu => bb _ _ _ _ _ _ _ _ _ s us hu, I.sup, I.cls, I.loc, e5, I.dbg, I.cell, I.co, I.gen, I.kind⟩
  · cases ho
end Sq

set_option Elab.async false
set_option linter.all false
set_option maxRecDepth 100000
set_option maxHeartbeats 0
/-! The head. -/
namespace Sq
open PySem PySem.Spec PyProof.Rows L2
def dd (x : Str) (st : Stmt) : He.DefD := ⟨(x, none), x, x, defArgs st, defBody st, defScope st, [], []⟩
def fn0 : List He.DefD := [dd "plain_cell" gPlain, dd "shifted" gShifted, dd "four_beside" gFour, dd "lot_of" gLot, dd "put" gPut, dd "near_in" gNear, dd "flood" gFlood, dd "lot_hangs" gHangs, dd "holds" gHolds, dd "first_loose" gFirstLoose, dd "holds_in" gHoldsIn, dd "supports_in" gSupportsIn, dd "is_witness_in" gIsWitnessIn, dd "_law_pen" sPen, dd "_law_draw" sDraw, dd "_law_pick" sPick, dd "_law_shuffled" lShuffled, dd "_law_t2_is" lIs, dd "_law_t2_beside" lBeside, dd "_law_t2_parts" lParts, dd "_law_t2_blob" lBlob, dd "_law_t2_way" lWay, dd "_law_t2_cells" lCells, dd "_law_t2_body" lBody, dd "_law_t2_squares" lSquares, dd "_law_t2_hangs" lHangs, dd "_law_t2_free" lFree, dd "_law_t2_supports" lSupports, dd "_law_t2_kind" lKind, dd "_law_t2_around" lAround, dd "_law_t2_moves" lMoves, dd "_law_t2_done" lDone, dd "_law_t2_plan" lPlan, dd "_law_t2_witness" lWitness, dd "_law_t2_papers" lPapers, dd "_law_t2_holds" lHolds, dd "_law_t2_steps" lSteps, dd "_law_t2_other_cells" lOtherCells, dd "_law_t2_changed" lChanged, dd "_law_t2_first_loose" lFirstLoose, dd "law" sLaw]
def md (x : Str) (st : Stmt) : He.DefD := ⟨(x, some "__init__"), "__init__", x ++ ".__init__", defArgs st, defBody st, defScope st, [], []⟩
def fn : List He.DefD := fn0 ++ [md "Step" (sI 10)]
def clsF : List He.Fa := [.glo "Step", .cls "Step", .noat "Step" "start", .noat "Step" "end", .noat "Step" "support", .noat "Step" "witness", .mkr "Step"]
def frees : List Str := ["int", "len", "list", "tuple", "bool", "isinstance", "range", "sorted", "abs", "min", "max", "set", "any", "enumerate", "all"]
def errN : List (Str × List Str) := []
def exms : List He.Fa := []
def glos : List He.Fa := []
def fa : List He.Fa := fn0.map (fun d => .glo d.name) ++ (frees.map .free ++ (exms ++ (glos ++ clsF)))
abbrev R : PySem.W.OpenRow := PySem.W.OpenLaw.row PySem.Challenge.rw_slideinto_k45_whole_steps_judged
abbrev fileS : Str := PySem.Challenge.pw_slideinto_k45_whole_steps_judged.main.file
def initSt : List (Str × Stmt) := []
def tyB (K : PySem.W.Frag) (x : Str) : Bool := decide (PySem.W.typeIn K (.ref (He.ga K x)) = some (.type "type"))
/-- a tuple of cells at module level -/
def eachC (K : PySem.W.Frag) : List Value → List Cell → Bool
  | [], [] => true
  | .ref r :: vs, d :: ds => (match K.lookup r with
    | some ⟨.type T, _, .seq its _, _⟩ => decide (T = "tuple") && (decide (its.size ≤ sizeLine) && (match its.toList with
      | [.int i _, .int j _] => decide (i = d.1) && decide (j = d.2)
      | _ => false))
    | _ => false) && eachC K vs ds
  | _, _ => false
def tupC (K : PySem.W.Frag) (x : Str) (ds : List Cell) : Bool := match K.lookup (He.ga K x) with
  | some ⟨.type T, _, .seq its _, _⟩ => decide (T = "tuple") && (decide (its.size ≤ sizeLine) && eachC K its.toList ds)
  | _ => false
def conB (K : PySem.W.Frag) : Bool := true
def allB (K : PySem.W.Frag) : Bool := true && ((errN.all fun p => errB fileS K p.1 p.2 && tyB K p.1) && conB K)
def tabDs : List He.Defn := [("is_witness_in", none)]
abbrev AlS : Type := He.AlD × (List FnI × Bool)
def obsS (K : PySem.W.Frag) : AlS := (He.obsD fa fn K, initSt.map (fun p => obsI K p.1), allB K)
def valS : AlS := (He.valD fn, initSt.map (fun p => valI p.1 p.2), true)
def kOf (g : Addr → Option Obj) : PySem.W.Frag := He.frT g (PySem.cStatics :: He.asD g 5)
abbrev AlK : Type := AlS × Bool
def obsK (g : Addr → Option Obj) : AlK := (obsS (kOf g), He.tabsB g tabDs (kOf g))
/-- what is told -/
structure SaysK (h : Heap) (K : PySem.W.Frag) : Prop where
  s : obsS K = valS
  t : ∀ t ∈ tabDs, PySem.W.codeHdIn K (He.cT K t).1 (He.cT K t).2 = true ∧ K.lookup (He.cT K t).2 = none ∧ h.get? (He.cT K t).2 = some { cls := .none, data := .fields #[] }
theorem says_of {h : Heap} (e : obsK h.get? = (valS, true)) : SaysK h (kOf h.get?) := by
  have e1 : obsS (kOf h.get?) = valS := congrArg (fun z : AlK => z.1) e
  have e2 : He.tabsB h.get? tabDs (kOf h.get?) = true := congrArg (fun z : AlK => z.2) e
  refine ⟨e1, fun t ht => ?_⟩
  obtain ⟨h3, h4⟩ := ba (List.all_eq_true.mp e2 t ht)
  cases q : h.get? (He.cT (kOf h.get?) t).2 with
  | none =>
    rw [q] at h4
    cases h4
  | some o =>
    rw [q] at h4
    exact ⟨h3, He.frT_none q h4, by rw [He.emptyTab_eq h4]⟩
def hk : PySem.W.Hook where
  α := AlK
  obs := fun s => obsK s.heap.get?
  val := fun _ => (valS, true)
  says := fun _ h => ∃ K : PySem.W.Frag, K.In h ∧ SaysK h K
  of := fun _ _ e => ⟨_, He.frT_in, says_of e⟩
  keeps := fun _ _ _ ⟨K, hK, c⟩ k => ⟨K, PySem.W.Frag.In.keeps hK k, ⟨c.s, fun t ht => ⟨(c.t t ht).1, (c.t t ht).2.1, k _ _ (c.t t ht).2.2⟩⟩⟩
def ob (s : PySem.W.SharedT) : AlK := obsK (HandSHeadRun.getT s)
theorem ob_eq (s : PySem.W.SharedT) : ob s = hk.obs s.abs := by
  have e : HandSHeadRun.getT s = s.abs.heap.get? := funext (HandSHeadRun.getT_eq s)
  show obsK _ = obsK _
  rw [e]
def loose1 : List Str := ["plain_cell", "shifted", "four_beside", "lot_of", "put", "near_in", "flood", "lot_hangs", "Step", "holds", "first_loose", "holds_in", "supports_in", "is_witness_in", "_law_pen", "_law_draw", "_law_pick", "_law_shuffled", "_law_t2_is", "_law_t2_beside"]
def loose2 : List Str := ["_law_t2_parts", "_law_t2_blob", "_law_t2_way", "_law_t2_cells", "_law_t2_body", "_law_t2_squares", "_law_t2_hangs", "_law_t2_free", "_law_t2_supports", "_law_t2_kind", "_law_t2_around", "_law_t2_moves", "_law_t2_done", "_law_t2_plan", "_law_t2_witness", "_law_t2_papers", "_law_t2_holds", "_law_t2_steps", "_law_t2_other_cells", "_law_t2_changed", "_law_t2_first_loose"]
def loose : List Str := loose1 ++ loose2
theorem run (w : World) : HandSHeadRun.RunEq R (PySem.W.view R.prog [44]) hk ob 9000 loose w := by
  intro os
  kernel_rfl
end Sq

set_option Elab.async false
set_option linter.all false
set_option maxRecDepth 100000
set_option maxHeartbeats 4000000
/-! All facts together. -/
namespace Sq
open PySem PySem.Spec PyProof.Rows L2
theorem Df.mk' {P : Program} {w : World} {K : PySem.W.Frag} {mg : Str → Option Value} {base : Heap} {CX : CXT} {k : Nat} {x : Str} {st : Stmt} {f : Addr} {fd : FuncData} {ps : List Str} {sp : Sp} (F : FnP K x st f fd) (g : mg x = some (.ref f)) (b : Binds K fd ps []) (o : FnOk P w K mg base CX k f fd ps sp) : Df P w K mg base CX k x ps sp := ⟨f, fd, g, F.kp, b, o⟩
theorem err_c {P : Program} {K : PySem.W.Frag} {h : Heap} {mg : Str → Option Value} {x : Str} {ns : List Str} (X : K.In h) (G : h.Ns mainGlobals mg) (E : ErrOk P K x ns) (t : tyB K x = true) : ErrC P K mg x (He.ga K x) (He.ma K (He.ga K x) "__init__") ns :=
  ⟨E.s, PySem.W.mg_of X G E.gl, E.xf.exC, of_decide_eq_true t⟩
theorem eachC_ok {K : PySem.W.Frag} : ∀ {vs : List Value} {ds : List Cell}, eachC K vs ds = true → ∃ rs : List Addr, vs = rs.map Value.ref ∧ Paired (fun r d => ∀ H, SqT K H r (cV d)) rs ds
  | [], [], _ => ⟨[], rfl, .nil⟩
  | .ref r :: vs, d :: ds, h => by
    unfold eachC at h
    obtain ⟨h1, h2⟩ := ba h
    obtain ⟨rs, rfl, pr⟩ := eachC_ok h2
    refine ⟨r :: rs, rfl, .cons (fun H => ?_) pr⟩
    split at h1
    · rename_i T dd its n sl q
      obtain ⟨e1, h1⟩ := ba h1
      obtain ⟨e2, h1⟩ := ba h1
      split at h1
      · rename_i i t j u e
        obtain ⟨e3, e4⟩ := ba h1
        refine .inr ⟨_, its, n, q, congrArg Value.type (of_decide_eq_true e1), rfl, of_decide_eq_true e2, ?_⟩
        obtain ⟨d1, d2⟩ := d
        have k1 : i = d1 := of_decide_eq_true e3
        have k2 : j = d2 := of_decide_eq_true e4
        subst k1 k2
        rw [e]
        exact .cons ⟨t, rfl⟩ (.cons ⟨u, rfl⟩ .nil)
      · cases h1
    · cases h1
theorem vals_refs : ∀ rs : List Addr, Vals (rs.map V.ref) (rs.map Value.ref)
  | [] => .nil
  | _ :: rs => .cons rfl (vals_refs rs)
theorem tupC_ok {K : PySem.W.Frag} {x : Str} {ds : List Cell} (h : tupC K x ds = true) : ∃ rs : List Addr, (∀ H, SqT K H (He.ga K x) (rs.map V.ref)) ∧ Paired (fun r d => ∀ H, SqT K H r (cV d)) rs ds := by
  unfold tupC at h
  split at h
  · rename_i T dd its n sl q
    obtain ⟨e1, h⟩ := ba h
    obtain ⟨e2, h⟩ := ba h
    obtain ⟨rs, e, pr⟩ := eachC_ok h
    refine ⟨rs, fun H => .inr ⟨_, its, n, q, congrArg Value.type (of_decide_eq_true e1), rfl, of_decide_eq_true e2, ?_⟩, pr⟩
    rw [e]
    exact vals_refs rs
  · cases h
theorem fun_c {K : PySem.W.Frag} {x q : Str} {params : Arguments} {body : List Stmt} {scope : Scope} {fd : FuncData} (F : FunD K x q params body scope [] [] (He.fAd K (x, none)) fd) : FunC K x q params body scope (He.codeOf K (x, none)) (He.fAd K (x, none)) fd := by
  obtain ⟨⟨oc, od, dV, kV, doc, pm, an, cdv, ct, osl, e, lk, hc, h1, h2⟩, kp⟩ := F
  obtain ⟨c, rfl⟩ := He.codeIn_ref hc
  have ec : He.codeOf K (x, none) = c := He.codeOf_eq lk (by rw [e])
  rw [ec]
  exact ⟨⟨oc, od, dV, kV, doc, pm, an, ct, osl, e, lk, hc, h1, h2⟩, kp⟩
def TsOf (K : PySem.W.Frag) : List Addr := tabDs.map fun t => (He.cT K t).2
theorem facts {P : Program} {w : World} {K : PySem.W.Frag} {h : Heap} {mg : Str → Option Value} {f : Addr} (X : K.In h) (G : h.Ns mainGlobals mg) (hfa : mg ("law" : Str) = some (.ref f)) (htop : (P.main.scope.names.lookup ("super" : Str)).isSome = false) (hfile : P.main.file = fileS) (c : obsS K = valS) :
    ∃ fd : FuncData, (∀ (s : Shared) (v : Value), BindsTo s fd ⟨[v], []⟩ [("_law_script", v)]) ∧ ∀ base : Heap, K.In base → base.Ns mainGlobals mg → (∀ t ∈ tabDs, LamX.TabB base mg (He.cT K t).1 (He.cT K t).2) → FnOk P w K mg base CX0 9 f fd ["_law_script"] (spLaw K (TsOf K)) := by
  have c1 : He.SaysD fa fn K := congrArg (fun z : AlS => z.1) c
  have c2 : initSt.map (fun p => obsI K p.1) = initSt.map (fun p => valI p.1 p.2) := congrArg (fun z : AlS => z.2.1) c
  have c3 : allB K = true := congrArg (fun z : AlS => z.2.2) c
  unfold allB at c3
  obtain ⟨d1, d2⟩ := ba c3
  obtain ⟨d2, d3⟩ := ba d2
  have o : ∀ (i : Nat) (x : Str) (st : Stmt), initSt[i]? = some (x, st) → obsI K x = valI x st := fun i x st h => by
    have y := congrArg (fun l => l[i]?) c2
    simp only [List.getElem?_map, h, Option.map_some, Option.some.injEq] at y
    exact y
  have ge : ∀ (i : Nat) (x : Str) (ns : List Str), errN[i]? = some (x, ns) → errB P.main.file K x ns = true ∧ tyB K x = true := fun i x ns h => by
    rw [hfile]
    exact ba (List.all_eq_true.mp d2 (x, ns) (List.mem_of_getElem? h))
  have exm : ∀ (i : Nat) (x y : Str) (b : Bool), fa[i]? = some (.exm x y b) → PySem.W.exmOne K (.ref (He.ga K x)) (.ref (He.ga K y)) = some b := fun i x y b h => of_decide_eq_true (c1.fact i h)
  obtain ⟨d0, E0⟩ := c1.def_ 0 (d := dd "plain_cell" gPlain) rfl
  have F0 : FnP K "plain_cell" gPlain (He.ga K "plain_cell") d0 := E0
  have g0 := He.glo_ok X G (c1.fact 0 (f := .glo "plain_cell") rfl)
  have b0 : Binds K d0 ["cell"] [] := FunD.bindsN F0 fun _ _ _ _ _ _ us hl => match us, hl with | [_], _ => rfl
  obtain ⟨d1, E1⟩ := c1.def_ 1 (d := dd "shifted" gShifted) rfl
  have F1 : FnP K "shifted" gShifted (He.ga K "shifted") d1 := E1
  have g1 := He.glo_ok X G (c1.fact 1 (f := .glo "shifted") rfl)
  have b1 : Binds K d1 ["cell", "by"] [] := FunD.bindsN F1 fun _ _ _ _ _ _ us hl => match us, hl with | [_, _], _ => rfl
  obtain ⟨d2, E2⟩ := c1.def_ 2 (d := dd "four_beside" gFour) rfl
  have F2 : FnP K "four_beside" gFour (He.ga K "four_beside") d2 := E2
  have g2 := He.glo_ok X G (c1.fact 2 (f := .glo "four_beside") rfl)
  have b2 : Binds K d2 ["cell"] [] := FunD.bindsN F2 fun _ _ _ _ _ _ us hl => match us, hl with | [_], _ => rfl
  obtain ⟨d3, E3⟩ := c1.def_ 3 (d := dd "lot_of" gLot) rfl
  have F3 : FnP K "lot_of" gLot (He.ga K "lot_of") d3 := E3
  have g3 := He.glo_ok X G (c1.fact 3 (f := .glo "lot_of") rfl)
  have b3 : Binds K d3 ["cells"] [] := FunD.bindsN F3 fun _ _ _ _ _ _ us hl => match us, hl with | [_], _ => rfl
  obtain ⟨d4, E4⟩ := c1.def_ 4 (d := dd "put" gPut) rfl
  have F4 : FnP K "put" gPut (He.ga K "put") d4 := E4
  have g4 := He.glo_ok X G (c1.fact 4 (f := .glo "put") rfl)
  have b4 : Binds K d4 ["lot", "start", "end"] [] := FunD.bindsN F4 fun _ _ _ _ _ _ us hl => match us, hl with | [_, _, _], _ => rfl
  obtain ⟨d5, E5⟩ := c1.def_ 5 (d := dd "near_in" gNear) rfl
  have F5 : FnP K "near_in" gNear (He.ga K "near_in") d5 := E5
  have g5 := He.glo_ok X G (c1.fact 5 (f := .glo "near_in") rfl)
  have b5 : Binds K d5 ["lot", "cell"] [] := FunD.bindsN F5 fun _ _ _ _ _ _ us hl => match us, hl with | [_, _], _ => rfl
  obtain ⟨d6, E6⟩ := c1.def_ 6 (d := dd "flood" gFlood) rfl
  have F6 : FnP K "flood" gFlood (He.ga K "flood") d6 := E6
  have g6 := He.glo_ok X G (c1.fact 6 (f := .glo "flood") rfl)
  have b6 : Binds K d6 ["lot", "first"] [] := FunD.bindsN F6 fun _ _ _ _ _ _ us hl => match us, hl with | [_, _], _ => rfl
  obtain ⟨d7, E7⟩ := c1.def_ 7 (d := dd "lot_hangs" gHangs) rfl
  have F7 : FnP K "lot_hangs" gHangs (He.ga K "lot_hangs") d7 := E7
  have g7 := He.glo_ok X G (c1.fact 7 (f := .glo "lot_hangs") rfl)
  have b7 : Binds K d7 ["lot"] [] := FunD.bindsN F7 fun _ _ _ _ _ _ us hl => match us, hl with | [_], _ => rfl
  obtain ⟨d8, E8⟩ := c1.def_ 8 (d := dd "holds" gHolds) rfl
  have F8 : FnP K "holds" gHolds (He.ga K "holds") d8 := E8
  have g8 := He.glo_ok X G (c1.fact 8 (f := .glo "holds") rfl)
  have b8 : Binds K d8 ["body", "step"] [] := FunD.bindsN F8 fun _ _ _ _ _ _ us hl => match us, hl with | [_, _], _ => rfl
  obtain ⟨d9, E9⟩ := c1.def_ 9 (d := dd "first_loose" gFirstLoose) rfl
  have F9 : FnP K "first_loose" gFirstLoose (He.ga K "first_loose") d9 := E9
  have g9 := He.glo_ok X G (c1.fact 9 (f := .glo "first_loose") rfl)
  have b9 : Binds K d9 ["body", "steps"] [] := FunD.bindsN F9 fun _ _ _ _ _ _ us hl => match us, hl with | [_, _], _ => rfl
  obtain ⟨d10, E10⟩ := c1.def_ 10 (d := dd "holds_in" gHoldsIn) rfl
  have F10 : FnP K "holds_in" gHoldsIn (He.ga K "holds_in") d10 := E10
  have g10 := He.glo_ok X G (c1.fact 10 (f := .glo "holds_in") rfl)
  have b10 : Binds K d10 ["lot", "step"] [] := FunD.bindsN F10 fun _ _ _ _ _ _ us hl => match us, hl with | [_, _], _ => rfl
  obtain ⟨d11, E11⟩ := c1.def_ 11 (d := dd "supports_in" gSupportsIn) rfl
  have F11 : FnP K "supports_in" gSupportsIn (He.ga K "supports_in") d11 := E11
  have g11 := He.glo_ok X G (c1.fact 11 (f := .glo "supports_in") rfl)
  have b11 : Binds K d11 ["lot", "start", "end"] [] := FunD.bindsN F11 fun _ _ _ _ _ _ us hl => match us, hl with | [_, _, _], _ => rfl
  obtain ⟨d12, E12⟩ := c1.def_ 12 (d := dd "is_witness_in" gIsWitnessIn) rfl
  have F12 : FnP K "is_witness_in" gIsWitnessIn (He.ga K "is_witness_in") d12 := E12
  have g12 := He.glo_ok X G (c1.fact 12 (f := .glo "is_witness_in") rfl)
  have b12 : Binds K d12 ["lot", "step"] [] := FunD.bindsN F12 fun _ _ _ _ _ _ us hl => match us, hl with | [_, _], _ => rfl
  obtain ⟨d13, E13⟩ := c1.def_ 13 (d := dd "_law_pen" sPen) rfl
  have F13 : FnP K "_law_pen" sPen (He.ga K "_law_pen") d13 := E13
  have g13 := He.glo_ok X G (c1.fact 13 (f := .glo "_law_pen") rfl)
  have b13 : Binds K d13 ["_law_script"] [] := FunD.bindsN F13 fun _ _ _ _ _ _ us hl => match us, hl with | [_], _ => rfl
  obtain ⟨d14, E14⟩ := c1.def_ 14 (d := dd "_law_draw" sDraw) rfl
  have F14 : FnP K "_law_draw" sDraw (He.ga K "_law_draw") d14 := E14
  have g14 := He.glo_ok X G (c1.fact 14 (f := .glo "_law_draw") rfl)
  have b14 : Binds K d14 ["_law_pen_here", "_law_many"] [] := FunD.bindsN F14 fun _ _ _ _ _ _ us hl => match us, hl with | [_, _], _ => rfl
  obtain ⟨d15, E15⟩ := c1.def_ 15 (d := dd "_law_pick" sPick) rfl
  have F15 : FnP K "_law_pick" sPick (He.ga K "_law_pick") d15 := E15
  have g15 := He.glo_ok X G (c1.fact 15 (f := .glo "_law_pick") rfl)
  have b15 : Binds K d15 ["_law_pen_here", "_law_some"] [] := FunD.bindsN F15 fun _ _ _ _ _ _ us hl => match us, hl with | [_, _], _ => rfl
  obtain ⟨d16, E16⟩ := c1.def_ 16 (d := dd "_law_shuffled" lShuffled) rfl
  have F16 : FnP K "_law_shuffled" lShuffled (He.ga K "_law_shuffled") d16 := E16
  have g16 := He.glo_ok X G (c1.fact 16 (f := .glo "_law_shuffled") rfl)
  have b16 : Binds K d16 ["_law_pen_here", "_law_some"] [] := FunD.bindsN F16 fun _ _ _ _ _ _ us hl => match us, hl with | [_, _], _ => rfl
  obtain ⟨d17, E17⟩ := c1.def_ 17 (d := dd "_law_t2_is" lIs) rfl
  have F17 : FnP K "_law_t2_is" lIs (He.ga K "_law_t2_is") d17 := E17
  have g17 := He.glo_ok X G (c1.fact 17 (f := .glo "_law_t2_is") rfl)
  have b17 : Binds K d17 ["_law_told", "_law_due"] [] := FunD.bindsN F17 fun _ _ _ _ _ _ us hl => match us, hl with | [_, _], _ => rfl
  obtain ⟨d18, E18⟩ := c1.def_ 18 (d := dd "_law_t2_beside" lBeside) rfl
  have F18 : FnP K "_law_t2_beside" lBeside (He.ga K "_law_t2_beside") d18 := E18
  have g18 := He.glo_ok X G (c1.fact 18 (f := .glo "_law_t2_beside") rfl)
  have b18 : Binds K d18 ["_law_cell"] [] := FunD.bindsN F18 fun _ _ _ _ _ _ us hl => match us, hl with | [_], _ => rfl
  obtain ⟨d19, E19⟩ := c1.def_ 19 (d := dd "_law_t2_parts" lParts) rfl
  have F19 : FnP K "_law_t2_parts" lParts (He.ga K "_law_t2_parts") d19 := E19
  have g19 := He.glo_ok X G (c1.fact 19 (f := .glo "_law_t2_parts") rfl)
  have b19 : Binds K d19 ["_law_cells"] [] := FunD.bindsN F19 fun _ _ _ _ _ _ us hl => match us, hl with | [_], _ => rfl
  obtain ⟨d20, E20⟩ := c1.def_ 20 (d := dd "_law_t2_blob" lBlob) rfl
  have F20 : FnP K "_law_t2_blob" lBlob (He.ga K "_law_t2_blob") d20 := E20
  have g20 := He.glo_ok X G (c1.fact 20 (f := .glo "_law_t2_blob") rfl)
  have b20 : Binds K d20 ["_law_pen_here", "_law_many", "_law_taste"] [] := FunD.bindsN F20 fun _ _ _ _ _ _ us hl => match us, hl with | [_, _, _], _ => rfl
  obtain ⟨d21, E21⟩ := c1.def_ 21 (d := dd "_law_t2_way" lWay) rfl
  have F21 : FnP K "_law_t2_way" lWay (He.ga K "_law_t2_way") d21 := E21
  have g21 := He.glo_ok X G (c1.fact 21 (f := .glo "_law_t2_way") rfl)
  have b21 : Binds K d21 ["_law_steps", "_law_turns"] [] := FunD.bindsN F21 fun _ _ _ _ _ _ us hl => match us, hl with | [_, _], _ => rfl
  obtain ⟨d22, E22⟩ := c1.def_ 22 (d := dd "_law_t2_cells" lCells) rfl
  have F22 : FnP K "_law_t2_cells" lCells (He.ga K "_law_t2_cells") d22 := E22
  have g22 := He.glo_ok X G (c1.fact 22 (f := .glo "_law_t2_cells") rfl)
  have b22 : Binds K d22 ["_law_pen_here", "_law_most"] [] := FunD.bindsN F22 fun _ _ _ _ _ _ us hl => match us, hl with | [_, _], _ => rfl
  obtain ⟨d23, E23⟩ := c1.def_ 23 (d := dd "_law_t2_body" lBody) rfl
  have F23 : FnP K "_law_t2_body" lBody (He.ga K "_law_t2_body") d23 := E23
  have g23 := He.glo_ok X G (c1.fact 23 (f := .glo "_law_t2_body") rfl)
  have b23 : Binds K d23 ["_law_pen_here", "_law_most"] [] := FunD.bindsN F23 fun _ _ _ _ _ _ us hl => match us, hl with | [_, _], _ => rfl
  obtain ⟨d24, E24⟩ := c1.def_ 24 (d := dd "_law_t2_squares" lSquares) rfl
  have F24 : FnP K "_law_t2_squares" lSquares (He.ga K "_law_t2_squares") d24 := E24
  have g24 := He.glo_ok X G (c1.fact 24 (f := .glo "_law_t2_squares") rfl)
  have b24 : Binds K d24 ["_law_body"] [] := FunD.bindsN F24 fun _ _ _ _ _ _ us hl => match us, hl with | [_], _ => rfl
  obtain ⟨d25, E25⟩ := c1.def_ 25 (d := dd "_law_t2_hangs" lHangs) rfl
  have F25 : FnP K "_law_t2_hangs" lHangs (He.ga K "_law_t2_hangs") d25 := E25
  have g25 := He.glo_ok X G (c1.fact 25 (f := .glo "_law_t2_hangs") rfl)
  have b25 : Binds K d25 ["_law_cells"] [] := FunD.bindsN F25 fun _ _ _ _ _ _ us hl => match us, hl with | [_], _ => rfl
  obtain ⟨d26, E26⟩ := c1.def_ 26 (d := dd "_law_t2_free" lFree) rfl
  have F26 : FnP K "_law_t2_free" lFree (He.ga K "_law_t2_free") d26 := E26
  have g26 := He.glo_ok X G (c1.fact 26 (f := .glo "_law_t2_free") rfl)
  have b26 : Binds K d26 ["_law_body", "_law_cell"] [] := FunD.bindsN F26 fun _ _ _ _ _ _ us hl => match us, hl with | [_, _], _ => rfl
  obtain ⟨d27, E27⟩ := c1.def_ 27 (d := dd "_law_t2_supports" lSupports) rfl
  have F27 : FnP K "_law_t2_supports" lSupports (He.ga K "_law_t2_supports") d27 := E27
  have g27 := He.glo_ok X G (c1.fact 27 (f := .glo "_law_t2_supports") rfl)
  have b27 : Binds K d27 ["_law_squares", "_law_start", "_law_end"] [] := FunD.bindsN F27 fun _ _ _ _ _ _ us hl => match us, hl with | [_, _, _], _ => rfl
  obtain ⟨d28, E28⟩ := c1.def_ 28 (d := dd "_law_t2_kind" lKind) rfl
  have F28 : FnP K "_law_t2_kind" lKind (He.ga K "_law_t2_kind") d28 := E28
  have g28 := He.glo_ok X G (c1.fact 28 (f := .glo "_law_t2_kind") rfl)
  have b28 : Binds K d28 ["_law_body", "_law_start", "_law_end"] [] := FunD.bindsN F28 fun _ _ _ _ _ _ us hl => match us, hl with | [_, _, _], _ => rfl
  obtain ⟨d29, E29⟩ := c1.def_ 29 (d := dd "_law_t2_around" lAround) rfl
  have F29 : FnP K "_law_t2_around" lAround (He.ga K "_law_t2_around") d29 := E29
  have g29 := He.glo_ok X G (c1.fact 29 (f := .glo "_law_t2_around") rfl)
  have b29 : Binds K d29 ["_law_cell"] [] := FunD.bindsN F29 fun _ _ _ _ _ _ us hl => match us, hl with | [_], _ => rfl
  obtain ⟨d30, E30⟩ := c1.def_ 30 (d := dd "_law_t2_moves" lMoves) rfl
  have F30 : FnP K "_law_t2_moves" lMoves (He.ga K "_law_t2_moves") d30 := E30
  have g30 := He.glo_ok X G (c1.fact 30 (f := .glo "_law_t2_moves") rfl)
  have b30 : Binds K d30 ["_law_body"] [] := FunD.bindsN F30 fun _ _ _ _ _ _ us hl => match us, hl with | [_], _ => rfl
  obtain ⟨d31, E31⟩ := c1.def_ 31 (d := dd "_law_t2_done" lDone) rfl
  have F31 : FnP K "_law_t2_done" lDone (He.ga K "_law_t2_done") d31 := E31
  have g31 := He.glo_ok X G (c1.fact 31 (f := .glo "_law_t2_done") rfl)
  have b31 : Binds K d31 ["_law_body", "_law_start", "_law_end"] [] := FunD.bindsN F31 fun _ _ _ _ _ _ us hl => match us, hl with | [_, _, _], _ => rfl
  obtain ⟨d32, E32⟩ := c1.def_ 32 (d := dd "_law_t2_plan" lPlan) rfl
  have F32 : FnP K "_law_t2_plan" lPlan (He.ga K "_law_t2_plan") d32 := E32
  have g32 := He.glo_ok X G (c1.fact 32 (f := .glo "_law_t2_plan") rfl)
  have b32 : Binds K d32 ["_law_pen_here", "_law_body", "_law_many"] [] := FunD.bindsN F32 fun _ _ _ _ _ _ us hl => match us, hl with | [_, _, _], _ => rfl
  obtain ⟨d33, E33⟩ := c1.def_ 33 (d := dd "_law_t2_witness" lWitness) rfl
  have F33 : FnP K "_law_t2_witness" lWitness (He.ga K "_law_t2_witness") d33 := E33
  have g33 := He.glo_ok X G (c1.fact 33 (f := .glo "_law_t2_witness") rfl)
  have b33 : Binds K d33 ["_law_body", "_law_start"] [] := FunD.bindsN F33 fun _ _ _ _ _ _ us hl => match us, hl with | [_, _], _ => rfl
  obtain ⟨d34, E34⟩ := c1.def_ 34 (d := dd "_law_t2_papers" lPapers) rfl
  have F34 : FnP K "_law_t2_papers" lPapers (He.ga K "_law_t2_papers") d34 := E34
  have g34 := He.glo_ok X G (c1.fact 34 (f := .glo "_law_t2_papers") rfl)
  have b34 : Binds K d34 ["_law_body", "_law_plan"] [] := FunD.bindsN F34 fun _ _ _ _ _ _ us hl => match us, hl with | [_, _], _ => rfl
  obtain ⟨d35, E35⟩ := c1.def_ 35 (d := dd "_law_t2_holds" lHolds) rfl
  have F35 : FnP K "_law_t2_holds" lHolds (He.ga K "_law_t2_holds") d35 := E35
  have g35 := He.glo_ok X G (c1.fact 35 (f := .glo "_law_t2_holds") rfl)
  have b35 : Binds K d35 ["_law_body", "_law_paper"] [] := FunD.bindsN F35 fun _ _ _ _ _ _ us hl => match us, hl with | [_, _], _ => rfl
  obtain ⟨d36, E36⟩ := c1.def_ 36 (d := dd "_law_t2_steps" lSteps) rfl
  have F36 : FnP K "_law_t2_steps" lSteps (He.ga K "_law_t2_steps") d36 := E36
  have g36 := He.glo_ok X G (c1.fact 36 (f := .glo "_law_t2_steps") rfl)
  have b36 : Binds K d36 ["_law_papers"] [] := FunD.bindsN F36 fun _ _ _ _ _ _ us hl => match us, hl with | [_], _ => rfl
  obtain ⟨d37, E37⟩ := c1.def_ 37 (d := dd "_law_t2_other_cells" lOtherCells) rfl
  have F37 : FnP K "_law_t2_other_cells" lOtherCells (He.ga K "_law_t2_other_cells") d37 := E37
  have g37 := He.glo_ok X G (c1.fact 37 (f := .glo "_law_t2_other_cells") rfl)
  have b37 : Binds K d37 ["_law_pen_here", "_law_body", "_law_cells"] [] := FunD.bindsN F37 fun _ _ _ _ _ _ us hl => match us, hl with | [_, _, _], _ => rfl
  obtain ⟨d38, E38⟩ := c1.def_ 38 (d := dd "_law_t2_changed" lChanged) rfl
  have F38 : FnP K "_law_t2_changed" lChanged (He.ga K "_law_t2_changed") d38 := E38
  have g38 := He.glo_ok X G (c1.fact 38 (f := .glo "_law_t2_changed") rfl)
  have b38 : Binds K d38 ["_law_pen_here", "_law_body", "_law_paper"] [] := FunD.bindsN F38 fun _ _ _ _ _ _ us hl => match us, hl with | [_, _, _], _ => rfl
  obtain ⟨d39, E39⟩ := c1.def_ 39 (d := dd "_law_t2_first_loose" lFirstLoose) rfl
  have F39 : FnP K "_law_t2_first_loose" lFirstLoose (He.ga K "_law_t2_first_loose") d39 := E39
  have g39 := He.glo_ok X G (c1.fact 39 (f := .glo "_law_t2_first_loose") rfl)
  have b39 : Binds K d39 ["_law_body", "_law_papers"] [] := FunD.bindsN F39 fun _ _ _ _ _ _ us hl => match us, hl with | [_, _], _ => rfl
  obtain ⟨d40, E40⟩ := c1.def_ 40 (d := dd "law" sLaw) rfl
  have F40 : FnP K "law" sLaw (He.ga K "law") d40 := E40
  have g40 := He.glo_ok X G (c1.fact 40 (f := .glo "law") rfl)
  obtain ⟨dS0, ES0⟩ := c1.def_ 41 (d := md "Step" (sI 10)) rfl
  have FS0 : FunD K "__init__" "Step.__init__" (defArgs (sI 10)) (defBody (sI 10)) (defScope (sI 10)) [] [] (He.ma K (He.ga K "Step") "__init__") dS0 := ES0
  have gS0 := He.glo_ok X G (c1.fact 56 (f := .glo "Step") rfl)
  have cS0 := He.cls_ok (c1.fact 57 (f := .cls "Step") rfl)
  have nS0_0 := He.noat_ok (c1.fact 58 (f := .noat "Step" "start") rfl)
  have nS0_1 := He.noat_ok (c1.fact 59 (f := .noat "Step" "end") rfl)
  have nS0_2 := He.noat_ok (c1.fact 60 (f := .noat "Step" "support") rfl)
  have nS0_3 := He.noat_ok (c1.fact 61 (f := .noat "Step" "witness") rfl)
  have mS0 := He.mkr_ok (c1.fact 62 (f := .mkr "Step") rfl)
  have bS0 : Binds K dS0 ["self", "start", "end", "support", "witness"] [] := FunD.bindsN FS0 fun _ _ _ _ _ _ us hl => match us, hl with | [_, _, _, _, _], _ => rfl
  have SF : StepF K (He.ga K "Step") := ⟨cS0, nS0_0, nS0_1, nS0_2, nS0_3⟩
  have f_int := He.free_ok X G (c1.fact 41 (f := .free "int") rfl)
  have f_len := He.free_ok X G (c1.fact 42 (f := .free "len") rfl)
  have f_list := He.free_ok X G (c1.fact 43 (f := .free "list") rfl)
  have f_tuple := He.free_ok X G (c1.fact 44 (f := .free "tuple") rfl)
  have f_bool := He.free_ok X G (c1.fact 45 (f := .free "bool") rfl)
  have f_isinstance := He.free_ok X G (c1.fact 46 (f := .free "isinstance") rfl)
  have f_range := He.free_ok X G (c1.fact 47 (f := .free "range") rfl)
  have f_sorted := He.free_ok X G (c1.fact 48 (f := .free "sorted") rfl)
  have f_abs := He.free_ok X G (c1.fact 49 (f := .free "abs") rfl)
  have f_min := He.free_ok X G (c1.fact 50 (f := .free "min") rfl)
  have f_max := He.free_ok X G (c1.fact 51 (f := .free "max") rfl)
  have f_set := He.free_ok X G (c1.fact 52 (f := .free "set") rfl)
  have f_any := He.free_ok X G (c1.fact 53 (f := .free "any") rfl)
  have f_enumerate := He.free_ok X G (c1.fact 54 (f := .free "enumerate") rfl)
  have f_all := He.free_ok X G (c1.fact 55 (f := .free "all") rfl)
  have B : Bl mg := ⟨f_int, f_len, f_list, f_tuple, f_bool, f_isinstance, f_range, f_sorted, f_abs, f_min, f_max, f_set, f_any⟩
  have e := hfa.symm.trans g40
  cases e
  have b40 := FunD.bindsA (ps := ["_law_script"]) F40 fun _ _ _ _ _ _ us hl => match us, hl with | [_], _ => rfl
  refine ⟨d40, fun s v => b40 s [v] rfl, fun base _ _ tbs => ?_⟩
  have tbis_witness_in := tbs ("is_witness_in", none) (by simp [tabDs])
  have TBis_witness_in : GxR.TabB base mg (He.codeOf K ("is_witness_in", none)) (He.cT K ("is_witness_in", none)).2 := ⟨tbis_witness_in.code, tbis_witness_in.bm, tbis_witness_in.gP⟩
  have mTis_witness_in : (He.cT K ("is_witness_in", none)).2 ∈ TsOf K := List.mem_map_of_mem (f := fun t => (He.cT K t).2) (by simp [tabDs])
  have M : MkS P w K mg base (He.ga K "Step") := ⟨_, dS0, mS0, ok_stepI FS0 SF, gS0, bS0⟩
  have D0 := Df.mk' (P := P) (w := w) (base := base) F0 g0 b0 (ok_plain F0 B.int)
  have D1 := Df.mk' (P := P) (w := w) (base := base) F1 g1 b1 (ok_shifted F1)
  have D3 := Df.mk' (P := P) (w := w) (base := base) F3 g3 b3 (ok_lot F3 F0 g0 B.int)
  have D5 := Df.mk' (P := P) (w := w) (base := base) F5 g5 b5 (ok_near F5 F2 g2)
  have D4 := Df.mk' (P := P) (w := w) (base := base) F4 g4 b4 (ok_put F4)
  have D6 := Df.mk' (P := P) (w := w) (base := base) F6 g6 b6 (ok_flood F6 D5)
  have D7 := Df.mk' (P := P) (w := w) (base := base) F7 g7 b7 (ok_hangs F7 B D6)
  have D11 := Df.mk' (P := P) (w := w) (base := base) F11 g11 b11 (ok_suppIn F11 B D1)
  have D12 := Df.mk' (P := P) (w := w) (base := base) F12 g12 b12 (ok_isWit (fun_c (x := "is_witness_in") F12) TBis_witness_in mTis_witness_in B f_all SF D3 D7 D5)
  have D10 := Df.mk' (P := P) (w := w) (base := base) F10 g10 b10 (ok_holdsIn F10 SF D11 D12)
  have D8 := Df.mk' (P := P) (w := w) (base := base) F8 g8 b8 (ok_holds F8 D3 D10)
  have D9 := Df.mk' (P := P) (w := w) (base := base) F9 g9 b9 (ok_firstLoose F9 f_enumerate SF D3 D10 D0 D4)
  have D13 := Df.mk' (P := P) (w := w) (base := base) F13 g13 b13 (ok_pen F13 B.int B.list)
  have D14 := Df.mk' (P := P) (w := w) (base := base) F14 g14 b14 (ok_draw F14 B.int B.len)
  have D15 := Df.mk' (P := P) (w := w) (base := base) F15 g15 b15 (ok_pick F15 D14 B.len)
  have D14C := Df.mk' (P := P) (w := w) (base := base) F14 g14 b14 (ok_drawC F14 B.int B.len)
  have D15C := Df.mk' (P := P) (w := w) (base := base) F15 g15 b15 (ok_pickC F15 D14C B.len)
  have D18 := Df.mk' (P := P) (w := w) (base := base) F18 g18 b18 (ok_lBeside F18)
  have D19 := Df.mk' (P := P) (w := w) (base := base) F19 g19 b19 (ok_parts F19 B D18)
  have D20 := Df.mk' (P := P) (w := w) (base := base) F20 g20 b20 (ok_blob F20 B D18 D14 D15)
  have D21 := Df.mk' (P := P) (w := w) (base := base) F21 g21 b21 (ok_way F21 B)
  have D22 := Df.mk' (P := P) (w := w) (base := base) F22 g22 b22 (ok_cells F22 B D14 D20 D21)
  have D23 := Df.mk' (P := P) (w := w) (base := base) F23 g23 b23 (ok_body F23 B D14 D15 D22)
  have D24 := Df.mk' (P := P) (w := w) (base := base) F24 g24 b24 (ok_lSquares F24)
  have D25 := Df.mk' (P := P) (w := w) (base := base) F25 g25 b25 (ok_lHangs F25 B D19)
  have D26 := Df.mk' (P := P) (w := w) (base := base) F26 g26 b26 (ok_lFree F26 D25)
  have D27 := Df.mk' (P := P) (w := w) (base := base) F27 g27 b27 ((ok_lSupports F27 B).mono (by decide : 1 ≤ 2))
  have D28 := Df.mk' (P := P) (w := w) (base := base) F28 g28 b28 (ok_lKind F28 D27 D24 D26)
  have D29 := Df.mk' (P := P) (w := w) (base := base) F29 g29 b29 (ok_lAround F29)
  have D30 := Df.mk' (P := P) (w := w) (base := base) F30 g30 b30 (ok_lMoves F30 B D24 D29 D27 D26)
  have D31 := Df.mk' (P := P) (w := w) (base := base) F31 g31 b31 (ok_lDone F31 B)
  have D32 := Df.mk' (P := P) (w := w) (base := base) F32 g32 b32 (ok_lPlan F32 B D14C D15C D30 D31)
  have D27X := Df.mk' (P := P) (w := w) (base := base) F27 g27 b27 (ok_lSuppX F27 B)
  have D24L := Df.mk' (P := P) (w := w) (base := base) F24 g24 b24 (ok_lSquaresL F24)
  have D33 := Df.mk' (P := P) (w := w) (base := base) F33 g33 b33 (ok_lWit F33 B D18 D24L)
  have D34 := Df.mk' (P := P) (w := w) (base := base) F34 g34 b34 (ok_lPapers F34 B D24 D27X D33 D31)
  have D36 := Df.mk' (P := P) (w := w) (base := base) F36 g36 b36 (ok_lSteps F36 M)
  have D16 := Df.mk' (P := P) (w := w) (base := base) F16 g16 b16 (ok_lShuf F16 B D14C)
  have D17 := Df.mk' (P := P) (w := w) (base := base) F17 g17 b17 (ok_lIs F17 B)
  have D35 := Df.mk' (P := P) (w := w) (base := base) F35 g35 b35 (ok_lHolds F35 D24 D27X D25 D18)
  have D37 := Df.mk' (P := P) (w := w) (base := base) F37 g37 b37 (ok_lOther F37 B D14 D15 D29)
  have D38 := Df.mk' (P := P) (w := w) (base := base) F38 g38 b38 (ok_lCh F38 B D14 D15 D29 D37 D24 D27X)
  have D39 := Df.mk' (P := P) (w := w) (base := base) F39 g39 b39 (ok_lLoose F39 B D35 D31)
  exact ok_law F40 B M D13 D14 D23 D32 D34 D9 D36 D39 D16 D38 D35 D17 D8 D28
end Sq

set_option Elab.async false
set_option linter.all false
set_option maxRecDepth 100000
set_option maxHeartbeats 4000000
open PySem PySem.W PySem.Calls PyProof.Rows
set_option maxRecDepth 100000 in
set_option maxHeartbeats 8000000 in
theorem PySem.Challenge.cw_slideinto_k45_whole_steps_judged_holds : PySem.Challenge.rw_slideinto_k45_whole_steps_judged.Holds := by
  w_on; o_law
  refine HandSHeadRun.head_any (r := OpenLaw.row PySem.Challenge.rw_slideinto_k45_whole_steps_judged) (q := view (OpenLaw.row PySem.Challenge.rw_slideinto_k45_whole_steps_judged).prog [44]) (H := Sq.hk) (ob := Sq.ob) (M := 9000) (loose := Sq.loose) (d := HandSHeadRun.topDef (OpenLaw.row PySem.Challenge.rw_slideinto_k45_whole_steps_judged).prog 44) (kwd := []) Sq.ob_eq
    (by kernel_rfl) (fun s => by kernel_rfl) Sq.run (by kernel_rfl) (by kernel_rfl) (by kernel_rfl) (by rfl) (by first | assumption | decide +kernel) (by decide +kernel) ⟨rfl, rfl, rfl, rfl, rfl, by decide +kernel⟩ ?hw ?hc
  case hw => w_witness2
  case hc =>
    refine LamX.walk_ofTsE (l := PySem.Challenge.rw_slideinto_k45_whole_steps_judged) (n := 63) (k := 9) (x := "_law_script") (CX := fun _ => L2.CX0) rfl (by decide) (by kernel_rfl) ⟨rfl, by decide, by decide⟩ ?F (fun _ _ _ _ _ z => z)
    intro w mg fa h Y G hmg0
    obtain ⟨K, KX, c⟩ := Y
    have hmg : mg ("law" : PySem.Str) = some (.ref fa) := by
      have e : (HandSHeadRun.topDef (OpenLaw.row PySem.Challenge.rw_slideinto_k45_whole_steps_judged).prog 44).name = ("law" : PySem.Str) := by kernel_rfl
      rw [← e]
      exact hmg0
    obtain ⟨fd, hb, hF⟩ := Sq.facts (P := (PySem.Challenge.rw_slideinto_k45_whole_steps_judged).prog) (w := w) KX G hmg (by decide +kernel) rfl c.s
    have inT : ∀ p ∈ Sq.tabDs.map (He.cT K), ∃ t ∈ Sq.tabDs, p = He.cT K t := fun p hp => by
      obtain ⟨t, ht, e⟩ := List.mem_map.mp hp
      exact ⟨t, ht, e.symm⟩
    refine ⟨K, KX, fd, Sq.tabDs.map (He.cT K), Sq.spLaw K (Sq.TsOf K), fun p hp => ?_, fun p hp => ?_, fun p hp => ?_, hb, fun H a zs hl _ hT hS => ?_, fun base hK hG tb => hF base hK hG fun t ht => tb _ (List.mem_map_of_mem ht)⟩
    · obtain ⟨t, ht, rfl⟩ := inT p hp
      exact (c.t t ht).2.2
    · obtain ⟨t, ht, rfl⟩ := inT p hp
      exact (c.t t ht).2.1
    · obtain ⟨t, ht, rfl⟩ := inT p hp
      exact PySem.W.codeHd_of_K KX (c.t t ht).1
    · refine ⟨a, zs, rfl, hS, hl, fun T hm => ?_, fun _ => rfl⟩
      obtain ⟨t, ht, rfl⟩ := List.mem_map.mp hm
      exact ⟨#[], hT _ (List.mem_map_of_mem ht), by first | trivial | simp [TriplesOk] | exact List.forall_mem_nil _⟩
