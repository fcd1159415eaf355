import PyProof.Rows.All
import Wide.All
import OpenK.AllK
import Wide.FinOn
import KE.KExcSuper
import HandS.ForMost
import HandS.ExcInit
import HandS.HeadWalk
import HandS.ExcField
import HandS.ExcIs
import HandS.ExcValue
import HandS.IsInst
import HandS.EndBits
import HandS.Defaults
import HandS.Iter
import HandS.DictComp
import HandS.Conv
import HandS.AnyAll
import HandS.GenOver
import HandS.GenList
import HandS.Walk
import KE.DataMinMax
import HandS.DictTup
import HandS.Star
import PyProof.DictMoreH
import HandS.TryMany
import PyProof.Rows.TupDisplay
import HandS.SortRule
import HandS.TupSets
import HandS.TupLen
import KE.SortData
import KE.KDictWalk
import KE.GoesEnum
import HandS.SortKw
import HandS.EndTab
import PyProof.ReprLen
import KE.KDictKeyed
import KE.KDictCopyH
import KE.KEqDict
import HandS.Style
import HandS.RaiseMore
import PySem.Challenge.RW_slideinto_k32_whole_no_returns
import HandS.Deep
import HandS.Rev
import HandS.WordsExc
import HandS.TupAny
import HandS.Words
import HandS.HeadHook1
import HandS.HeadHook2
import HandS.HeadHook3
import HandS.HeadHook4
import KE.KStateDown
import Lean
import HandS.Head0
import HandS.Head1
import HandS.Head2
import HandS.HeadEnd
import HandS.NestedK
set_option Elab.async false
set_option linter.all false
set_option maxRecDepth 100000
set_option maxHeartbeats 4000000
/-! Errors of one's own whose __init__ begins with super().__init__(text) and then keeps its parameters. -/
namespace Sq
open PySem PySem.W PySem.Calls PyProof.Rows PySem.HandSPX
/-! ### the statements of such an __init__ -/
def supS (msg : Str) (j : Nat) (p0 p1 p2 p3 p4 p5 : Pos) : Stmt :=
  .Expr (.Call (.Attribute (.Call (.Name "super" p0) [] [] p1) "__init__" p2) [.Constant (.str msg) j p3] [] p4) p5
structure Ps where
  a : Pos
  b : Pos
  c : Pos
  d : Pos
def keepS (f : Str) (p : Ps) : Stmt := .Assign [.Attribute (.Name "self" p.a) f p.b] (.Name f p.c) p.d
section
variable {prog : Program} {w : World} {A : Around} {E : Value → Shared → Prop} {h : Heap} {g : Array GenState} {d : Drawn} {t : Nat} {os : OsState}
variable {nm q : Str} {C N : Addr} {bs bm : List Value} {sn : List Str} {sub : List Value} {ab : Bool} {col : Option Bool} {dd : Option Addr} {k0 k1 k2 k3 k5 : Option Value}
/-- the bound ValueError.__init__ is called -/
theorem bw_call {u x t0 : Addr} {rest : List Value} {Q : Value → Shared → Prop}
    (hC : h.get? C = some (excClassObj nm q C N bs bm true sn sub ab col dd k0 k1 k2 k3 k5 "ValueError.__new__"))
    (he : h.get? x = some (excO C t0)) (hu : h.get? u = some (kxs_mw "ValueError.__init__" x)) (hz : rest.length ≤ sizeLine)
    (hq : ∀ h' t1, (∀ b o, b ≠ x → h.get? b = some o → h'.get? b = some o) → h'.get? x = some (excO C t1) → Q .none ⟨h', g, d, t, os⟩) :
    wpAny (model prog w) A (call (.ref u) rest) Q E ⟨h, g, d, t, os⟩ := by
  refine wpAny_call (codeAny_of_tree ?_)
  show wpAny _ A.in1 (callAny (.ref u) { pos := rest, kw := [] }) _ _ _
  simp only [callAny]
  refine wpAny_bind (wpAny_load hu ?_)
  have hm : (Value.type "method-wrapper" == Value.type "method" || Value.type "method-wrapper" == Value.type "builtin_function_or_method" || Value.type "method-wrapper" == Value.type "method-wrapper") = true := by decide
  simp only [kxs_mw, hm, if_true]
  refine KFB.if_so (by decide) ?_
  refine wpAny_bind (check_bound_init F.excBase_ValueError.toExcCallFacts hC he rfl ?_)
  refine wpAny_bind (wpAny_pure (wpAny_pure ?_))
  refine ⟨plainId_quiet F.excBase_ValueError.init.plain _, codeAny_builtin F.excBase_ValueError.initEntry ?_⟩
  exact exc_init_tree (cls := .ref C) (t0 := t0) (dv := none) (c2 := .none) (c3 := .none) (b4 := .bool false) he hz fun h' k e' _ => hq h' _ k e'
end
/-- what the written part says of such a class C and of its __init__ at fI; ns: its parameters behind self, kept as fields -/
structure SErr (prog : Program) (K : Frag) (C fI : Addr) (ns : List Str) : Prop where
  cls : ∃ nm q N bs bm sn sub ab col dd k0 k1 k2 k3 k5, K.lookup C = some (excClassObj nm q C N bs bm true sn sub ab col dd k0 k1 k2 k3 k5 "ValueError.__new__") ∧ refsVE bm = true ∧
    alongIn K "__init__" bm = some (some (.builtin "ValueError.__init__"))
  sa : findIn K (.ref C) "__setattr__" = some (some (.builtin "object.__setattr__"))
  iC : findIn K (.ref C) "__init__" = some (some (.ref fI))
  tI : typeIn K (.ref fI) = some (.type "function")
  kC : keepIn K (.ref C) = true
  veC : subIn K (.ref C) (.type "ValueError") = some true
  self : mroIn K C (.ref C) = some true
  opq : nsIn K cStatics "thirdparty.any" = some none
  sup : nsIn K mainGlobals "super" = some none
  no : ∀ f ∈ ns, findIn K (.ref C) f = some none
  nd : ns.Nodup
  len : ns.length ≤ 900
  noSelf : ("self" : Str) ∉ ns
  top : (prog.main.scope.names.lookup ("super" : Str)).isSome = false
  fn : ∃ (oc : Value) (od : Option Addr) (osl : Array (Option Value)) (name qual : Str) (params : Arguments) (scope : Scope) (kV doc pm ct : Value) (an : Option Addr) (cda cc : Addr) (ar : Arg)
      (msg : Str) (j : Nat) (p0 p1 p2 p3 p4 p5 : Pos) (ps : List Ps) (ccl cl : Value) (cdd cld : Option Addr) (ccs csl : Array (Option Value)) (vs : Array Value) (tf : Tok),
    K.lookup fI = some ⟨oc, od, .func (ksFn name qual params (supS msg j p0 p1 p2 p3 p4 p5 :: (ns.zip ps).map fun z => keepS z.1 z.2) scope .none kV doc pm an (.ref cda) ct cc), osl⟩ ∧
    ns.length ≤ ps.length ∧ (params.posonlyargs ++ params.args).head? = some ar ∧ ar.arg = "self" ∧ codeIn K (.ref cda) qual = true ∧
    K.lookup cda = some ⟨ccl, cdd, .fields vs, ccs⟩ ∧ vs[2]? = some (.str prog.main.file tf) ∧ K.lookup cc = some ⟨cl, cld, .cell (some (.ref C)), csl⟩ ∧
    (∀ (s : Shared) (us : List Value), us.length = ns.length + 1 → BindsTo s (ksFn name qual params (supS msg j p0 p1 p2 p3 p4 p5 :: (ns.zip ps).map fun z => keepS z.1 z.2) scope .none kV doc pm an (.ref cda) ct cc) ⟨us, []⟩ ((("self" : Str) :: ns).zip us)) ∧
    scope.names.lookup ("super" : Str) = some .globalImplicit ∧ scope.names.lookup ("__class__" : Str) = some .free ∧ (∀ x ∈ (("self" : Str) :: ns), scope.names.lookup x = some .local) ∧
    (p2.endLine == p4.line) = true ∧ (∀ x ∈ ns, (x == ("__debug__" : Str)) = false) ∧ (∀ x ∈ scope.names, x.2 ≠ .cell) ∧ scope.isCoroutine = false ∧ scope.isGenerator = false ∧ scope.kind = .function
end Sq

set_option Elab.async false
set_option linter.all false
set_option maxRecDepth 100000
set_option maxHeartbeats 4000000
namespace Sq
open PySem PySem.W PySem.Calls PyProof.Rows PySem.HandSPX
/-- what such an __init__ leaves of a fresh error at x; fs: its fields, the last one first -/
structure InitE (h h' : Heap) (x C : Addr) (fs : List (Str × Value)) : Prop where
  keep : ∀ b o, b ≠ x → h.get? b = some o → h'.get? b = some o
  obj : ∃ t1 : Addr, (fs = [] ∧ h'.get? x = some (excO C t1)) ∨ ∃ dx : Addr, fs ≠ [] ∧ h.objs.size ≤ dx ∧ dx ≠ x ∧ h'.get? x = some ({ cls := .ref C, dict := some dx, data := .fields #[.ref t1, .none, .none, .none, .bool false, .none] } : Obj) ∧
    h'.Ns1 dx fun f => fs.lookup f
theorem lookup_one {κ : Type} [BEq κ] [LawfulBEq κ] [DecidableEq κ] {α : Type} (f g : κ) (y : α) (fs : List (κ × α)) : ((f, y) :: fs).lookup g = if g = f then some y else fs.lookup g := by
  by_cases z : g = f
  · subst z
    simp [List.lookup]
  · have e : (g == f) = false := by simpa using z
    rw [if_neg z]
    simp [List.lookup, e]
theorem lookup_within {fs : List (Str × Value)} : Within (fun f => fs.lookup f) (fs.map (·.1)) := by
  intro y hy
  induction fs with
  | nil => exact absurd rfl hy
  | cons p l ih =>
    obtain ⟨f, z⟩ := p
    by_cases e : y = f
    · rw [e]
      exact List.mem_cons_self ..
    · refine List.mem_cons_of_mem _ (ih fun q => hy ?_)
      show ((f, z) :: l).lookup y = none
      rw [lookup_one, if_neg e]
      exact q
section
variable {prog : Program} {w : World} {A : Around} {E : Value → Shared → Prop} {s : Shared} {K : Frag} {C fI : Addr} {ns : List Str} {R : Result → Shared → Prop}
/-- the rows self.f = f, one after the other -/
theorem keeps_run (T : SErr prog K C fI ns) {env : Env} {L x : Addr} {m : Str → Option Value} {h0 : Heap} (X0 : K.In h0) (hKx : K.lookup x = none) (hk : env.scope.kind = .function) (hL : env.locals = L) (hself : env.kindOf "self" = some .local)
    (mx : m "self" = some (.ref x)) (hLx : L ≠ x) :
    ∀ (zs : List (Str × Ps)) (fs : List (Str × Value)) (us : List Value) (h : Heap) (tk : Nat) (t1 : Addr) (Q : Flow → Shared → Prop), zs.length = us.length → h.Ns L m →
      (∀ (i : Nat) (z : Str × Ps), zs[i]? = some z → z.1 ∈ ns ∧ env.kindOf z.1 = some .local ∧ (z.1 == ("__debug__" : Str)) = false ∧ m z.1 = us[i]?) → fs.length + zs.length ≤ 900 →
      (∀ b o, b ≠ x → h0.get? b = some o → h.get? b = some o) →
      ((fs = [] ∧ h0.objs.size ≤ h.objs.size ∧ h.get? x = some (excO C t1)) ∨ ∃ dx : Addr, fs ≠ [] ∧ h0.objs.size ≤ dx ∧ dx ≠ x ∧ dx ≠ L ∧ h.get? x = some ({ cls := .ref C, dict := some dx, data := .fields #[.ref t1, .none, .none, .none, .bool false, .none] } : Obj) ∧ h.Ns1 dx fun f => fs.lookup f) →
      (∀ h' tk', InitE h0 h' x C (((zs.map (·.1)).zip us).reverse ++ fs) → Q .next { s with heap := h', toks := tk' }) →
      wpAny (model prog w) A (execs (zs.map fun z => keepS z.1 z.2) env) Q E { s with heap := h, toks := tk }
  | [], fs, us, h, tk, t1, Q, hl, hn, hz, h9, kp, ho, hq => by
    have e : us = [] := List.length_eq_zero_iff.mp hl.symm
    subst e
    refine wpAny_execs_nil (hq h tk ⟨kp, t1, ?_⟩)
    rcases ho with ⟨ho, _, hx⟩ | ⟨dx, d0, d1, d2, _, d4, d5⟩
    · exact .inl ⟨ho, hx⟩
    · exact .inr ⟨dx, d0, d1, d2, d4, d5⟩
  | (f, p) :: zs, fs, [], h, tk, t1, Q, hl, hn, hz, h9, kp, ho, hq => by cases hl
  | (f, p) :: zs, fs, u :: us, h, tk, t1, Q, hl, hn, hz, h9, kp, ho, hq => by
    obtain ⟨nm, q, N, bs, bm, sn, sub, ab, col, dd, k0, k1, k2, k3, k5, hC, hbm, _⟩ := T.cls
    have hcl : clsIn K C = some { name := nm, bases := bs, mro := .ref C :: bm, ns := N, qualname := q, hasDict := true, slotNames := sn, subclasses := sub, abstract := ab, collection := col, hasDel := false } := by
      unfold clsIn
      rw [hC] <;> rfl
    have X : K.In h := fun b o e => kp b o (fun z => by rw [z, hKx] at e; cases e) (X0 b o e)
    obtain ⟨hf, hloc, hdb, hm⟩ := hz 0 (f, p) rfl
    have hm' : m f = some u := hm
    have hno := T.no f hf
    have hnL : h.Ns env.locals m := by rw [hL]; exact hn
    have hz' : ∀ (i : Nat) (z : Str × Ps), zs[i]? = some z → z.1 ∈ ns ∧ env.kindOf z.1 = some .local ∧ (z.1 == ("__debug__" : Str)) = false ∧ m z.1 = us[i]? := fun i z hi => by
      have y := hz (i + 1) z (by simpa using hi)
      simpa using y
    have hl' : zs.length = us.length := by simpa using hl
    have h9' : ((f, u) :: fs).length + zs.length ≤ 900 := by
      have y : fs.length + (zs.length + 1) ≤ 900 := by simpa using h9
      show fs.length + 1 + zs.length ≤ 900
      omega
    have eqf : (((zs.map (·.1)).zip us).reverse ++ (f, u) :: fs) = (((((f, p) :: zs).map (·.1)).zip (u :: us)).reverse ++ fs) := by simp
    have efs : ∀ y, (if y = f then some u else fs.lookup y) = ((f, u) :: fs).lookup y := fun y => (lookup_one f y u fs).symm
    obtain ⟨oL, es, ep, hoL, hrL⟩ := id hn
    show wpAny _ _ (execs (keepS f p :: zs.map fun z => keepS z.1 z.2) env) _ _ _
    refine wpAny_execs_cons (plainObj_wpAny_Assign_Attribute ?_)
    refine wpAny_Name (wpAny_loadName_local hk hloc hnL hm' ?_) hdb
    refine wpAny_Name (wpAny_loadName_local hk hself hnL mx ?_) (by decide)
    rcases ho with ⟨e0, hsz, ho⟩ | ⟨dx, d0, d1, d2, d3, d4, d5⟩
    · subst e0
      refine set_plain X (ox := excO C t1) (od := none) ⟨ho, rfl, rfl, trivial⟩ T.sa ?_
      refine exc_osa X ho hcl (show refsVE (.ref C :: bm) = true from hbm) rfl hno (fun h' tk' dx k dn dne hx hns => ?_)
      show wpAny _ _ (execs _ _) _ _ _
      have hdL : dx ≠ L := fun z => by
        rw [z] at dn
        exact absurd (Heap.lt_size hoL) (Nat.not_lt_of_le dn)
      refine keeps_run T X0 hKx hk hL hself mx hLx zs [(f, u)] us h' tk' t1 Q hl' ⟨oL, es, ep, k _ _ hLx hoL, hrL⟩ hz' h9' (fun b o hb e => k b o hb (kp b o hb e)) (.inr ⟨dx, List.cons_ne_nil _ _, Nat.le_trans hsz dn, dne, hdL, hx, ?_⟩) fun h2 tk2 Z => hq h2 tk2 (eqf ▸ Z)
      have ee : (fun y => if y = f then some u else none) = fun y => List.lookup y [(f, u)] := funext fun y => by
        rw [lookup_one]
        rfl
      rw [← ee]
      exact hns
    · obtain ⟨oD, _, _, hoD, _, _⟩ := d5.count lookup_within
      refine set_plain X (ox := { cls := .ref C, dict := some dx, data := .fields #[.ref t1, .none, .none, .none, .bool false, .none] }) (od := some oD) ⟨d4, rfl, rfl, hoD⟩ T.sa ?_
      refine PySem.OEX.osa_old X d4 d5 lookup_within (by rw [List.length_map]; have y : fs.length + (zs.length + 1) ≤ 900 := (by simpa using h9); omega) hcl (show refsVE (.ref C :: bm) = true from hbm) rfl hno (fun h' tk' k hns => ?_)
      show wpAny _ _ (execs _ _) _ _ _
      refine keeps_run T X0 hKx hk hL hself mx hLx zs ((f, u) :: fs) us h' tk' t1 Q hl' ⟨oL, es, ep, k _ _ (Ne.symm d3) hoL, hrL⟩ hz' h9' (fun b o hb e => k b o (fun z => ?_) (kp b o hb e)) (.inr ⟨dx, List.cons_ne_nil _ _, d1, d2, d3, k _ _ (Ne.symm d2) d4, ?_⟩) fun h2 tk2 Z => hq h2 tk2 (eqf ▸ Z)
      · rw [z] at e
        exact absurd (Heap.lt_size e) (Nat.not_lt_of_le d1)
      · have ee : (fun y => if y = f then some u else fs.lookup y) = fun y => List.lookup y ((f, u) :: fs) := funext efs
        rw [← ee]
        exact hns
end
end Sq

set_option Elab.async false
set_option linter.all false
set_option maxRecDepth 100000
set_option maxHeartbeats 4000000
namespace Sq
open PySem PySem.W PySem.Calls PyProof.Rows PySem.HandSPX
section
variable {prog : Program} {w : World} {A : Around} {E : Value → Shared → Prop} {s : Shared} {K : Frag} {C fI : Addr} {ns : List Str} {R : Result → Shared → Prop} {mg mb : Str → Option Value}
theorem look_rev {α : Type} : ∀ (xs : List Str) (us : List α) (i : Nat) (f : Str), xs.Nodup → xs.length ≤ us.length → xs[i]? = some f → (xs.zip us).reverse.lookup f = us[i]?
  | [], us, i, f, _, _, h => by simp at h
  | x :: xs, [], i, f, _, h, _ => by simp at h
  | x :: xs, u :: us, i, f, nd, hl, h => by
    have nd1 := List.nodup_cons.mp nd
    have ez : ((x :: xs).zip (u :: us)).reverse = (xs.zip us).reverse ++ [(x, u)] := by simp
    rw [ez, List.lookup_append]
    cases i with
    | zero =>
      have e : x = f := by simpa using h
      subst e
      have e0 : (xs.zip us).reverse.lookup x = none := by
        rw [List.lookup_eq_none_iff]
        intro p hp
        have y := List.of_mem_zip (List.mem_reverse.mp hp)
        simp only [bne_iff_ne, ne_eq]
        rintro rfl
        exact nd1.1 y.1
      rw [e0]
      simp
    | succ i =>
      have h' : xs[i]? = some f := by simpa using h
      have hl' : xs.length ≤ us.length := by simpa using hl
      have y := look_rev xs us i f nd1.2 hl' h'
      rw [y]
      have hi := (List.getElem?_eq_some_iff.mp h').1
      have e1 : us[i]? = some (us[i]'(by omega)) := List.getElem?_eq_getElem (by omega)
      simp [e1]
theorem init_run (T : SErr prog K C fI ns) {x t0 : Addr} {us : List Value} (X : K.In s.heap) (hKx : K.lookup x = none) (hG : s.heap.Ns mainGlobals mg) (hB : s.heap.Ns builtinsNs mb) (hbs : mb "super" = some (.type "super")) (hlim : s.heap.NoLimit)
    (hx : s.heap.get? x = some (excO C t0)) (hus : us.length = ns.length) (hroom : A.depth < recursionLimit)
    (hq : ∀ h' tk, InitE s.heap h' x C ((ns.zip us).reverse) → R (.ok (.ret .none)) { s with heap := h', toks := tk }) :
    codeAny (model prog w) A (.call (.ref fI) ⟨.ref x :: us, []⟩) R s := by
  obtain ⟨nm, q, N, bs, bm, sn, sub, ab, col, dd, k0, k1', k2, k3, k5, hC, hbm, hal⟩ := T.cls
  have hcl : clsIn K C = some { name := nm, bases := bs, mro := .ref C :: bm, ns := N, qualname := q, hasDict := true, slotNames := sn, subclasses := sub, abstract := ab, collection := col, hasDel := false } := by
    unfold clsIn
    rw [hC] <;> rfl
  obtain ⟨oc, od, osl, name, qual, params, scope, kV, doc, pm, ct, an, cda, cc, ar, msg, j, p0, p1, p2, p3, p4, p5, ps, ccl, cl, cdd, cld, ccs, csl, vs, tf, lk, hps, har, hars, hcd, hcda, hvs, hcc, hbind, ksup, kcls, kloc, hpl, kdb, hcell, hco, hgen, hkind⟩ := T.fn
  have hlen : (Value.ref x :: us).length = ns.length + 1 := by simp [hus]
  have hne : ∀ b o, K.lookup b = some o → b ≠ x := fun b o e z => by
    rw [z, hKx] at e
    cases e
  refine ks_codeAny_call_defAt (fd := ksFn name qual params (supS msg j p0 p1 p2 p3 p4 p5 :: (ns.zip ps).map fun z => keepS z.1 z.2) scope .none kV doc pm an (.ref cda) ct cc) (binds := (("self" : Str) :: ns).zip (.ref x :: us)) hroom (X _ _ lk) rfl hlim (codeRec_of X hcd) rfl (hbind s (.ref x :: us) hlen) hcell (fun y hy => kloc _ (List.of_mem_zip hy).1) (fun h0 hns hk0 => ?_) hco hgen hkind
  show PySem.wpAt (model prog w) (A.deeper (ksEnv qual scope s.heap.objs.size fI (.ref cda) cc)) (.func (supS msg j p0 p1 p2 p3 p4 p5 :: (ns.zip ps).map fun z => keepS z.1 z.2) (ksEnv qual scope s.heap.objs.size fI (.ref cda) cc))
    (execs (supS msg j p0 p1 p2 p3 p4 p5 :: (ns.zip ps).map fun z => keepS z.1 z.2) (ksEnv qual scope s.heap.objs.size fI (.ref cda) cc)) _ _ _
  have hxL : s.heap.objs.size ≠ x := Nat.ne_of_gt (Heap.lt_size hx)
  have hx0 := hk0 _ _ hx
  have mself : ((("self" : Str) :: ns).zip (Value.ref x :: us)).reverse.lookup ("self" : Str) = some (.ref x) :=
    look_rev (("self" : Str) :: ns) (Value.ref x :: us) 0 "self" (List.nodup_cons.mpr ⟨T.noSelf, T.nd⟩) (by simp [hus]) rfl
  have mns : ∀ (i : Nat) (f : Str), ns[i]? = some f → ((("self" : Str) :: ns).zip (Value.ref x :: us)).reverse.lookup f = us[i]? := fun i f hf =>
    look_rev (("self" : Str) :: ns) (Value.ref x :: us) (i + 1) f (List.nodup_cons.mpr ⟨T.noSelf, T.nd⟩) (by simp [hus]) (by simpa using hf)
  refine ks_wpAt_execs_cons ?_
  show PySem.wpAt _ _ _ (exec (.Expr (.Call (.Attribute (.Call (.Name "super" p0) [] [] p1) "__init__" p2) [.Constant (.str msg) j p3] [] p4) p5) (ksEnv qual scope s.heap.objs.size fI (.ref cda) cc)) _ _ _
  have hint : interactive (ksEnv qual scope s.heap.objs.size fI (.ref cda) cc) = false := by
    show (scope.kind == .module && _) = false
    rw [hkind]
    rfl
  refine ks_wpAt_Expr_any ?_ hint
  have he : eval (.Call (.Attribute (.Call (.Name "super" p0) [] [] p1) "__init__" p2) [.Constant (.str msg) j p3] [] p4) (ksEnv qual scope s.heap.objs.size fI (.ref cda) cc) = (do
      let ov ← attributeBase (.Call (.Name "super" p0) [] [] p1) "__init__" (ksEnv qual scope s.heap.objs.size fI (.ref cda) cc) (eval (.Call (.Name "super" p0) [] [] p1) (ksEnv qual scope s.heap.objs.size fI (.ref cda) cc))
      standAt p2.atName
      let (f, first) ← holding [ov] (getMethod ov "__init__" (L2.plainOf (.Call (.Name "super" p0) [] [] p1) (ksEnv qual scope s.heap.objs.size fI (.ref cda) cc)))
      callWith p4 f first (backTo p4 (starEach [.Constant (.str msg) j p3] (ksEnv qual scope s.heap.objs.size fI (.ref cda) cc))) []) := by
    rw [arm_eval_Call]
    refine congrArg (fun k => attributeBase (.Call (.Name "super" p0) [] [] p1) "__init__" (ksEnv qual scope s.heap.objs.size fI (.ref cda) cc) (eval (.Call (.Name "super" p0) [] [] p1) (ksEnv qual scope s.heap.objs.size fI (.ref cda) cc)) >>= k) (funext fun ov => ?_)
    exact congrArg (fun k => standAt p2.atName >>= fun _ => k) (L2.mcall_line (by rfl) hpl)
  refine ks_wpAt_MethodCall ?_ he
  obtain ⟨oC, hoC, hdC⟩ : ∃ oC, s.heap.get? C = some oC ∧ oC.data = .cls { name := nm, bases := bs, mro := .ref C :: bm, ns := N, qualname := q, hasDict := true, slotNames := sn, subclasses := sub, abstract := ab, collection := col, hasDel := false } := ⟨_, X _ _ hC, rfl⟩
  have X0 : K.In h0 := fun b o e => hk0 b o (X b o e)
  have I0 : InstAt h0 x (excO C t0) C none := ⟨hx0, rfl, rfl, trivial⟩
  refine ks_wpAt_super_base (env := ksEnv qual scope s.heap.objs.size fI (.ref cda) cc) ksup kcls (by decide) rfl (X0 _ _ lk) rfl har rfl (X0 _ _ hcda) rfl hvs (by simp) T.top ?_
  refine ks_loadName_global hkind ksup (loadGlobal_builtin (env := ksEnv qual scope s.heap.objs.size fI (.ref cda) cc) (hG.keeps hk0) (mg_none_of X hG T.sup) (hB.keeps hk0) hbs ⟨rfl, ?_⟩)
  refine wpAny_loadName_free (env := ksEnv qual scope s.heap.objs.size fI (.ref cda) cc) hkind kcls rfl ⟨_, X0 _ _ hcc, rfl⟩ ?_
  rw [hars]
  refine wpAny_loadName_local (env := ksEnv qual scope s.heap.objs.size fI (.ref cda) cc) hkind (kloc _ (List.mem_cons_self ..)) hns mself ?_
  refine ks_wpAny_isType_cls (hk0 _ _ hoC) hdC ⟨rfl, ?_⟩
  refine ks_wpAny_call_super (hk0 _ _ hoC) hdC hx0 rfl (fun c z => by cases z) (looks_mroIn X0 T.self) (fun h1 e1 k1 => ?_)
  have X1 : K.In h1 := fun b o e => k1 b o (X0 b o e)
  have hx1 := k1 _ _ hx0
  have I1 : InstAt h1 x (excO C t0) C none := ⟨hx1, rfl, rfl, trivial⟩
  have hI : Looks (model prog w) h1 (isInstance (.ref x) (.type "ValueError")) true := I1.type.andThen (looks_subIn X1 T.veC)
  have hmro : Looks (model prog w) h1 (mroOf (.ref C)) (.ref C :: bm) := (looks_clsIn X1 hcl).andThen .now
  have hdrop : ((Value.ref C :: bm).dropWhile (· != .ref C)).drop 1 = bm := by simp [List.dropWhile_cons]
  refine kxs_getMethod (D := C) kxs_ValueError e1 (looks_opaque X1 T.opq) hmro hdrop X1 hal hI (ks_ne X1 I1 hcl) (by decide) ?_
  have kk : ∀ b o, h0.get? b = some o → (h1.push (kxs_mw "ValueError.__init__" x)).get? b = some o := fun b o e => Heap.get?_push_of_some _ (k1 b o e)
  have hu : (h1.push (kxs_mw "ValueError.__init__" x)).get? h1.objs.size = some (kxs_mw "ValueError.__init__" x) := Heap.get?_push_at rfl rfl
  refine kxs_callWith (i := "ValueError.__init__") (x := x) (by rfl) ?_
  refine evalArgs_plain (spliced_cons ?_)
  show wpAny _ _ (eval (.Constant (.str msg) j p3) (ksEnv qual scope s.heap.objs.size fI (.ref cda) cc)) _ _ _
  refine Constant_str ?_
  refine spliced_nil ⟨hu, ?_⟩
  have hC2 : (h1.push (kxs_mw "ValueError.__init__" x)).get? C = some (excClassObj nm q C N bs bm true sn sub ab col dd k0 k1' k2 k3 k5 "ValueError.__new__") := kk _ _ (hk0 _ _ (X _ _ hC))
  refine bw_call hC2 (kk _ _ hx0) hu (by rw [sizeLine_eq]; exact (by decide : 1 ≤ 16777216)) (fun h2 t1 k2' e2 => ?_)
  refine wpAt_of_wpAny ?_
  have hlz : (ns.zip ps).length = us.length := by rw [List.length_zip, hus]; omega
  obtain ⟨oL, es, ep, hoL, hrL⟩ := id hns
  have hsz : s.heap.objs.size < h0.objs.size := Heap.lt_size hoL
  refine keeps_run (s := s) (x := x) (L := s.heap.objs.size) (h0 := s.heap) T X hKx (env := ksEnv qual scope s.heap.objs.size fI (.ref cda) cc) hkind rfl (kloc _ (List.mem_cons_self ..)) mself hxL (ns.zip ps) [] us h2 _ t1 _ hlz ⟨oL, es, ep, k2' _ _ hxL (kk _ _ hoL), hrL⟩ (fun i z hz => ?_) ?_ (fun b o hb e => k2' b o hb (kk b o (hk0 b o e))) (.inl ⟨rfl, ?_, e2⟩) fun h' tk' Z => ?_
  · have z1 : ns[i]? = some z.1 := by
      have y := congrArg (Option.map Prod.fst) hz
      rw [List.getElem?_zip_eq_some.mp hz |>.1]
    have hm := List.mem_of_getElem? z1
    exact ⟨hm, kloc _ (List.mem_cons_of_mem _ hm), kdb _ hm, mns i z.1 z1⟩
  · have := T.len
    rw [hlz, hus]
    show 0 + ns.length ≤ 900
    omega
  · exact Nat.le_of_lt (Heap.lt_size (k2' _ _ hxL (kk _ _ hoL)))
  · have ez : ((ns.zip ps).map (·.1)) = ns := by
      rw [List.map_fst_zip]
      omega
    rw [ez, List.append_nil] at Z
    exact hq h' tk' Z
end
end Sq

set_option Elab.async false
set_option linter.all false
set_option maxRecDepth 100000
set_option maxHeartbeats 4000000
/-! Such errors as values: made, their fields read, isinstance of them. -/
namespace Sq
open PySem PySem.Spec PyProof.Rows L2
section
variable {fs ex : List Addr} {H : Hp} {h h' : Heap} {a b : Addr} {o u : HO}
end
theorem rev_rel : ∀ (ns : List Str) {vs : List V} {us : List Value}, Vals vs us → ∀ f, RelO ((ns.zip vs).reverse.lookup f) ((ns.zip us).reverse.lookup f)
  | [], _, _, _, _ => True.intro
  | n :: ns, _, _, .nil, _ => True.intro
  | n :: ns, _ :: vs, _ :: us, .cons (a := x) (b := y) r t, f => by
    rw [List.zip_cons_cons, List.zip_cons_cons, List.reverse_cons, List.reverse_cons, List.lookup_append, List.lookup_append]
    have q := rev_rel ns t f
    cases e1 : (ns.zip vs).reverse.lookup f with
    | some v =>
      rw [e1] at q
      cases e2 : (ns.zip us).reverse.lookup f with
      | some v' =>
        rw [e2] at q
        exact q
      | none =>
        rw [e2] at q
        exact q.elim
    | none =>
      rw [e1] at q
      cases e2 : (ns.zip us).reverse.lookup f with
      | some v' =>
        rw [e2] at q
        exact q.elim
      | none =>
        rw [Option.none_or, Option.none_or, lookup_one, lookup_one]
        by_cases e : f = n
        · rw [if_pos e, if_pos e]
          exact r
        · rw [if_neg e, if_neg e]
          exact True.intro
section
variable {X : Cx} {pins : List (Addr × Obj)} {σ : L2.St} {H : Hp} {s : Shared} {C fI : Addr} {ns : List Str}
/-! ### a field of such an error -/
end
end Sq

set_option Elab.async false
set_option linter.all false
set_option maxRecDepth 100000
set_option maxHeartbeats 4000000
/-! isinstance of such errors, whether they have a dict or not. -/
namespace Sq
open PySem PySem.W PySem.Spec PySem.Calls PyProof.Rows
section
variable {prog : Program} {w : World} {A : Around} {E : Value → Shared → Prop} {s : Shared} {K : Frag} {y D : Addr} {oy : Obj} {od : Option Obj}
/-- what the class says of __class__ -/
structure ClsE (K : Frag) (D : Addr) : Prop where
  ga : findIn K (.ref D) "__getattribute__" = some (some (.builtin "BaseException.__getattribute__"))
  gt : findIn K (.ref D) "__getattr__" = some none
  be : subIn K (.ref D) (.type "BaseException") = some true
  hd : hasDictIn K D = true
  ca : findIn K (.ref D) "__class__" = some (some (.builtin "object.__class__"))
  cg : specialIn K (.builtin "object.__class__") "__get__" = some (some (.builtin "getset_descriptor.__get__"))
  ct : takesIn K (.builtin "object.__class__") = some true
  mo : mroIn K D (.type "object") = some true
end
end Sq
namespace Sq
open PySem PySem.Spec PyProof.Rows L2
end Sq

set_option Elab.async false
set_option linter.all false
set_option maxRecDepth 100000
set_option maxHeartbeats 4000000
/-! A def that is run while no guard stands (so that repr is not under way), the end of such a law, repr of data. -/
namespace Sq
open PySem PySem.Spec PyProof.Rows L2
section
variable {P : Program} {w : World} {K : PySem.W.Frag} {mg : Str → Option Value} {base : Heap} {x qual : Str} {params : Arguments} {body : List Stmt} {scope : Scope} {dvs : List V} {kws : List (Str × V)} {f : Addr} {fd : FuncData}
end
/-! ### repr of data -/
end Sq

set_option Elab.async false
set_option linter.all false
set_option maxRecDepth 100000
set_option maxHeartbeats 4000000
/-! Dict comprehensions whose keys may be tuples, and may be made by calls. -/
namespace Sq
open PySem PySem.Spec PyProof.Rows L2
/-- the store of a comprehension, by either kind of keys -/
theorem dc_put {X : Cx} {ps : List (Addr × Obj)} {τ : L2.St} {G G' : Hp} {z : Shared} {Er : Value → Shared → Prop} {a : Addr} {y v : V} {u r : Value} {Qp : Unit → Shared → Prop} (hu : X.A.units + 1 < cLine) (J : Inv X ps τ G z)
    (g : DPut G a y v G') (ru : RelV y u) (rr : RelV v r) (q : ∀ z', Inv X ps τ G' z' → Qp () z') : wpAny (model X.prog X.w) X.A (dictSet a u r) Qp Er z := by
  rcases g with ⟨kvs, k, ea, rfl, hl, rfl⟩ | ⟨kvs, k, b, ea, rfl, eb, hl, rfl⟩
  · exact d_dictSet J ea hl ru rr q
  · obtain rfl : u = Value.ref b := ru
    obtain ⟨hz, hsys, xs, kt, dd⟩ := dt_of J.hok ea
    have hxs : xs.length ≤ sizeLine := by rw [← Paired.length kt]; exact hz
    have hnew : (putK kvs k v).length ≤ sizeLine := Nat.le_trans (length_putK kvs k v) hl
    refine wpAny_dictSet_heap (hsz := hxs) (show (tupleKind (mixKind X.prog X.w)).room X.A from Nat.lt_of_succ_lt hu) (key_of J.hok eb) dd fun h2 dd2 same => q _ ?_
    obtain ⟨o2, en, ep, eo, c2, c3, c4, _, c5⟩ := dd2
    refine d_write J (by rw [ea]; exact True.intro) same ⟨o2, eo⟩ ⟨hnew, hsys, _, (kt.put k eb rr).keeps fun c ys ec => ?_, o2, en, ep, eo, c2, c3, c4, c5⟩
    rw [upd_ne (ne_of ec ea (fun t => nomatch t))]
    exact ec
/-- {k: v for target in walked if ..}; o0: the empty dict of either kind -/
def tDct (o0 : HO) (wi : TI) (g : TG) (tt : TT) (tk tv : TE) (vs : List Nat) : TE := fun σ H Q => wi σ H fun J H1 => ∀ D, H1 D = none → ∃ W : Nat → Nat → Hp → Prop, (∃ m, W 0 m (upd H1 D o0)) ∧ ∀ i m H, W i m H →
  (J.stop i H ∧ Q (.ref D) H) ∨ (J.go i H ∧ ∃ Nx : Hp → Prop, (∀ H', Nx H' → ∃ m', m' < m ∧ W (i + 1) m' H') ∧ ∀ x H', J.yld i H x H' → g x (wipe σ vs) H' fun σ2 H2 => wipe σ2 vs = wipe σ vs ∧ tt σ2 H2 fun b H3 =>
    if b = true then tk σ2 H3 fun y H4 => tv σ2 H4 fun z H5 => ∃ H6, DPut H5 D y z H6 ∧ Nx H6 else Nx H3)
section
variable {X : Cx}
theorem pe_dct {o0 : HO} {kx vx tg it0 : Expr} {ifs : List Expr} {sc : Scope} {own : List (Str × Nat)} {pos : Pos} {wi : TI} {g : TG} {tt : TT} {tk tv : TE} (ho : o0 = .dK [] ∨ o0 = .dT []) (calm : X.calm = true) (hu : X.A.units + 1 < cLine) (nd : X.N.Nodup) (hi : PI X tg it0 wi)
    (bo : BlkOk X.N X.env.scope sc own)
    (hg : ∀ (s : Shared) (H : Hp) (C : Addr) (cl : List (Str × Addr)) (fp : List Addr), PG (X.blk s H sc (compEnvC sc cl C X.env) fp) tg g)
    (ht : ∀ (s : Shared) (H : Hp) (C : Addr) (cl : List (Str × Addr)) (fp : List Addr), PTs (X.blk s H sc (compEnvC sc cl C X.env) fp) ifs tt)
    (hk : ∀ (s : Shared) (H : Hp) (C : Addr) (cl : List (Str × Addr)) (fp : List Addr), PE (X.blk s H sc (compEnvC sc cl C X.env) fp) kx tk)
    (hv : ∀ (s : Shared) (H : Hp) (C : Addr) (cl : List (Str × Addr)) (fp : List Addr), PE (X.blk s H sc (compEnvC sc cl C X.env) fp) vx tv)
    (hf : ∀ x, foldedSetIterable it0 X.env x = pure x := by intro _; rfl) : PE X (.DictComp kx vx [⟨tg, it0, ifs, 0⟩] sc pos) (tDct o0 wi g tt tk tv (own.map (·.2))) := by
  refine ⟨fun pins z0 σ H Q I0 asked => ?_⟩
  rw [arm_eval_DictComp]
  have caught : ∀ y ∈ sc.names, y.2 = .free → ∃ c, X.env.cells.lookup y.1 = some c := fun y hy e => I0.ok.has _ (bo.free y hy e)
  refine wpAny_comprehension_free (use := none) rfl hf (closure_ok caught) bo.kind (fun y hy e => by rw [bo.uniq y hy, e]) (thn (hi.run pins z0 σ H _ I0 asked) fun xv z1 hx => thn hx fun iv z2 made => ?_)
  obtain ⟨wk, fp, tn, J, H2, rfl, I2, T, at2, fp2, want⟩ := made
  refine wpAny_newObj_type (newEnv_comp ?_)
  obtain ⟨D, eD⟩ : ∃ D, D = z2.heap.objs.size := ⟨_, rfl⟩
  have freeD : H2 D = none := I2.hok.fresh (Nat.le_of_eq eD.symm)
  obtain ⟨W, ⟨m0, first⟩, each⟩ := want D freeD
  obtain ⟨z3, e3⟩ : ∃ z3 : Shared, z3 = { z2 with heap := z2.heap.push { cls := .type "dict", data := .dict #[] } } := ⟨_, rfl⟩
  have heap3 : z3.heap = z2.heap.push { cls := .type "dict", data := .dict #[] } := by rw [e3]
  have I3 : Inv X pins σ (upd H2 D o0) z3 := by
    rw [e3]
    refine I2.laid (t' := z2.toks) (fun b o e => Heap.get?_push_of_some _ e) (Nat.le_of_eq eD.symm) ?_
    rw [eD]
    rcases ho with rfl | rfl
    · exact dk_empty z2.heap I2.big
    · exact dt_empty z2.heap I2.big
  have old : ∀ b ∈ fp, b < z2.heap.objs.size := fun b hb => (T.obj _ _ at2 b hb).elim fun o r => Heap.lt_size r.1
  have fp3 : ∀ b ∈ fp, FpOk X pins (upd H2 D o0) b ∧ b < z3.heap.objs.size := fun b hb => by
    have lt := old b hb
    have ne : b ≠ D := by rw [eD]; exact Nat.ne_of_lt lt
    exact ⟨⟨by rw [upd_ne ne]; exact (fp2 b hb).1, (fp2 b hb).2⟩, by rw [heap3, Heap.size_push]; exact Nat.lt_succ_of_lt lt⟩
  have at3 : tn 0 z3.heap := T.keep _ _ _ at2 fun b _ o e => by rw [heap3]; exact Heap.get?_push_of_some _ e
  have I4 := block_start I3 bo nd fp3
  have PG4 := hg z3 (upd H2 D o0) z3.heap.objs.size (cellsFrom (z3.heap.objs.size + 1) sc.names (cloFrom X.env.cells sc.names [])) fp
  have PT4 := ht z3 (upd H2 D o0) z3.heap.objs.size (cellsFrom (z3.heap.objs.size + 1) sc.names (cloFrom X.env.cells sc.names [])) fp
  have PK4 := hk z3 (upd H2 D o0) z3.heap.objs.size (cellsFrom (z3.heap.objs.size + 1) sc.names (cloFrom X.env.cells sc.names [])) fp
  have PV4 := hv z3 (upd H2 D o0) z3.heap.objs.size (cellsFrom (z3.heap.objs.size + 1) sc.names (cloFrom X.env.cells sc.names [])) fp
  rw [← e3, ← eD]
  show codeAny _ _ (.compStart (.DictComp kx vx [⟨tg, it0, ifs, 0⟩] sc pos) 0 (.ref wk) (.ref D) (compEnvC sc (cellsFrom (z3.heap.objs.size + 1) sc.names (cloFrom X.env.cells sc.names [])) z3.heap.objs.size X.env))
    (compPost (model X.prog X.w) X.A X.xe none _ (.ref D) z3.heap.objs.size) { z3 with heap := pushCells (z3.heap.push { cls := .type "dict", data := .dict #[] }) sc.names }
  have none3 : ∀ b ∈ fp, upd H2 D o0 b = none := fun b hb => (fp3 b hb).1.1
  generalize ec : compEnvC sc (cellsFrom (z3.heap.objs.size + 1) sc.names (cloFrom X.env.cells sc.names [])) z3.heap.objs.size X.env = ce at I4 PG4 PT4 PK4 PV4 ⊢
  have locs : ce.locals = z3.heap.objs.size := by rw [← ec]; rfl
  generalize eG : upd H2 D o0 = G3 at I3 I4 PG4 PT4 PK4 PV4 first none3 fp3
  generalize e4 : ({ z3 with heap := pushCells (z3.heap.push { cls := .type "dict", data := .dict #[] }) sc.names } : Shared) = z4 at I4 ⊢
  have at4 : tn 0 z4.heap := T.keep _ _ _ at3 fun b _ o e => by rw [← e4]; exact pushCells_keeps _ _ _ _ (Heap.get?_push_of_some _ e)
  have still : ∀ {τ : L2.St} {G : Hp} {z : Shared}, Inv (X.blk z3 G3 sc ce fp) [] τ G z → (∀ b ∈ fp, G b = none) → ∀ b ∈ fp, FpOk (X.blk z3 G3 sc ce fp) [] G b := fun {τ G z} J1 n1 b hb =>
    ⟨n1 b hb, (J1.ok.exf b hb).1, J1.ok.exfs b hb, .inl hb, fun x c e => (J1.ok.exf b hb).2 x c e, fun p hp => absurd (show p ∈ ([] : List (Addr × Obj)) ++ [] from hp) (by simp)⟩
  have turns : codeAny (model X.prog X.w) X.A (.compLoop (.DictComp kx vx [⟨tg, it0, ifs, 0⟩] sc pos) 0 (.ref wk) (.ref D) ce) (compPost (model X.prog X.w) X.A X.xe none (fun v z' => ∃ x H', Inv X pins σ H' z' ∧ RelV x v ∧ Q x H') (.ref D) z3.heap.objs.size) z4 := by
    refine compLoop_anyD (fun n z => ∃ i G, Inv (X.blk z3 G3 sc ce fp) [] (wipe σ (own.map (·.2))) G z ∧ tn i z.heap ∧ (∀ b ∈ fp, G b = none) ∧ W i n G) ?_ m0 ⟨0, G3, I4, at4, none3, first⟩
    rintro n z5 ⟨i, G5, I5, at5, n5, w5⟩
    rcases each i n G5 w5 with ⟨stops, goal⟩ | ⟨goes, Nx, less, turn⟩
    · refine thnF (T.done (X.blk z3 G3 sc ce fp) rfl rfl rfl calm i [] z5 _ G5 (fun _ _ => False) I5 (still I5 n5) at5 stops) fun r z6 ⟨er, I6⟩ => ?_
      subst er
      have I7 : Inv X pins σ G5 z6 := I3.call' (ch := fp) I6.os I6.base I6.hok I6.bare fun b hb => ⟨(fp3 b hb).1.2.2.2.1, (fp3 b hb).1.2.1, (fp3 b hb).1.2.2.2.2.1, (fp3 b hb).1.2.2.2.2.2⟩
      have n6 : G5 z3.heap.objs.size = none := by
        have q : G5 ce.locals = none := I6.free
        rwa [locs] at q
      obtain ⟨mm, hm, _⟩ := I6.loc
      have hm' : z6.heap.Ns ce.locals mm := hm
      rw [locs] at hm'
      obtain ⟨g0, g1, g2, g3, g4, g5⟩ := I3.fpOk (Nat.le_refl _) n6
      exact ⟨mm, hm', fun h9 sb => ⟨.ref D, G5, I7.turned (t' := z6.toks) (fun b o hb e => (sb.2 b hb).trans e) g0 g1 g3 g4 g5, rfl, goal⟩⟩
    · refine thnF (T.item (X.blk z3 G3 sc ce fp) rfl rfl rfl calm i [] z5 _ G5 (fun _ _ => False) I5 (still I5 n5) at5 goes) fun r z6 ⟨u, er, h6⟩ => ?_
      subst er
      refine thnF h6 fun _ z7 ⟨x, G7, I7, rx, hy, at7, n7⟩ => ?_
      refine thnF (PG4.run _ z7 _ G7 x u _ (I7.pinned (still I7 n7) (T.obj _ _ at7)) rx (turn x G7 hy)) fun _ z8 ⟨τ8, G8, I8, same8, q8⟩ => ?_
      refine thnF (PT4.run _ z8 τ8 G8 _ I8 q8) fun b z9 ⟨G9, I9, q9⟩ => ?_
      have close : ∀ {z : Shared} {G : Hp}, Inv (X.blk z3 G3 sc ce fp) ([] ++ pinsAt fp z7.heap) τ8 G z → Nx G → ∃ m, m < n ∧ ∃ i G, Inv (X.blk z3 G3 sc ce fp) [] (wipe σ (own.map (·.2))) G z ∧ tn i z.heap ∧ (∀ b ∈ fp, G b = none) ∧ W i m G := fun {z G} J1 nx => by
        obtain ⟨m1, lt1, w1⟩ := less G nx
        have kept : ∀ b ∈ fp, ∀ o, z7.heap.get? b = some o → z.heap.get? b = some o ∧ G b = none := fun b hb o e => by
          have t := J1.pin (b, o) (List.mem_append_right _ (List.mem_append_right _ (mem_pinsAt hb e)))
          exact ⟨t.1, t.2.1⟩
        refine ⟨m1, lt1, i + 1, G, (J1.unpinned (pins := [])).weak (by rw [← same8, wipe_length]) (fun j v e => by rw [← same8] at e; exact (wipe_some e).1), T.keep _ _ _ at7 fun b hb o e => (kept b hb o e).1, fun b hb => ?_, w1⟩
        obtain ⟨o, e, _⟩ := T.obj _ _ at7 b hb
        exact (kept b hb o e).2
      cases b with
      | false =>
        simp only [Bool.false_eq_true, if_false] at q9 ⊢
        exact close I9 q9
      | true =>
        simp only [if_true] at q9 ⊢
        refine thnF (PK4.run _ z9 τ8 G9 _ I9 q9) fun k1 z10 ⟨yk, G10, I10, rk, q10⟩ => ?_
        refine thnF (PV4.run _ z10 τ8 G10 _ I10 q10) fun v1 z11 ⟨yv, G11, I11, rv, G12, put, nx⟩ => ?_
        exact dc_put (X := X.blk z3 G3 sc ce fp) hu I11 put rk rv fun z12 I12 => close I12 nx
  exact codeAny_compStart_dict turns (T.self X.A 0 _ _ _ at4 turns)
end
end Sq

set_option Elab.async false
set_option linter.all false
set_option maxRecDepth 100000
set_option maxHeartbeats 4000000
/-! any and all of a generator expression whose element is any expression of the hand layer. -/
namespace Sq
open PySem PySem.Spec PyProof.Rows L2
/-- a generator expression's scope within a def's -/
structure GenB (N : List Str) (sc scope : Scope) (own : List (Str × Nat)) : Prop where
  blk : BlkOk N sc scope own
  co : scope.isCoroutine = false
  cell : ∀ y ∈ scope.names, y.2 ≠ .cell
  dot : scope.names.lookup (".0" : Str) = some NameKind.local
/-- the context of the generator's frame: made at z, H -/
def genX (X : Cx) (Ag : Around) (z : Shared) (H : Hp) (ge : Env) (fp : List Addr) : Cx :=
  { X with A := Ag, s_0 := z, H_0 := H, env := ge, outer := X.stack, stack := ge :: X.stack, ex := fp, fn := fun _ => false, calm := true, pn := [], xe := fun _ _ => False }
section
variable {X : Cx} {pins : List (Addr × Obj)} {σ : L2.St} {H : Hp} {z : Shared}
theorem gen_start {Ag : Around} {sc : Scope} {own : List (Str × Nat)} {fp : List Addr} {code it : Value} {h' : Heap} {go : Obj} {gs : GenState} {tk : Nat} (I : Inv X pins σ H z) (ok : GenB X.N X.env.scope sc own) (nd : X.N.Nodup)
    (hA : Ag.handled = none) (hF : Ag.frames = some (genEnv sc (cloFrom X.env.cells sc.names []) z.heap.objs.size code builtinsNs X.env :: X.stack))
    (hfp : ∀ b ∈ fp, FpOk X pins H b ∧ b < z.heap.objs.size) (hgs : gs.bare = true) (hgo : ∀ v, go.data ≠ .cell v)
    (hn : h'.Ns z.heap.objs.size (fun y => if y = ".0" then some it else none)) (hs : Heap.SameBut z.heap.objs.size (z.heap.push { cls := .type "frame", data := .dict #[] }) h') (hfr : ¬ go.isFreed = true) :
    Inv (genX X Ag z H (genEnv sc (cloFrom X.env.cells sc.names []) z.heap.objs.size code builtinsNs X.env) fp) [(h'.objs.size, go)] (wipe σ (own.map (·.2))) H { z with gens := z.gens.push gs, toks := tk, heap := h'.push go } := by
  have size' : h'.objs.size = z.heap.objs.size + 1 := by rw [hs.1, Heap.size_push]
  have old : ∀ b o, z.heap.get? b = some o → (h'.push go).get? b = some o := fun b o e => Heap.get?_push_of_some _ (hs.extBut b o (Nat.ne_of_lt (Heap.lt_size e)) (Heap.get?_push_of_some _ e))
  have cm : ∀ {y c}, (cloFrom X.env.cells sc.names []).lookup y = some c → X.env.cells.lookup y = some c ∧ (y, NameKind.free) ∈ sc.names := fun {y c} e => by
    rcases cloFrom_mem (PySem.mem_of_lookup e) with hm | ⟨h1, rfl⟩
    · cases hm
    · obtain ⟨c, hc⟩ := I.ok.has _ (ok.blk.free _ h1 rfl)
      rw [hc]
      exact ⟨rfl, h1⟩
  have has : ∀ {y}, sc.names.lookup y = some .free → ∃ c, (cloFrom X.env.cells sc.names []).lookup y = some c := fun {y} e => mem_lookup (cloFrom_has (cells := X.env.cells) (acc := []) (PySem.mem_of_lookup e))
  generalize he : genEnv sc (cloFrom X.env.cells sc.names []) z.heap.objs.size code builtinsNs X.env = ge at hF ⊢
  have ec : ge.cells = cloFrom X.env.cells sc.names [] := by rw [← he]; rfl
  have el : ge.locals = z.heap.objs.size := by rw [← he]; rfl
  have es : ge.scope = sc := by rw [← he]; rfl
  have noCell : ∀ y, sc.names.lookup y ≠ some .cell := fun y e => ok.cell _ (PySem.mem_of_lookup e) rfl
  have okG : (genX X Ag z H ge fp).Ok := by
    refine ⟨I.ok.mod, by show ge.scope.kind = _; rw [es]; exact ok.blk.kind, by show ge.globals = _; rw [← he]; exact I.ok.glob, by show ge.builtins = _; rw [← he]; rfl, by show z.heap.objs.size ≤ ge.locals; rw [el]; exact Nat.le_refl _,
      fun y x c e1 e2 => ?_, fun y hy => ?_, fun y c w _ => (nomatch w), fun _ => hA, hF, .inr ⟨rfl, by show ge.frame = some ge.locals; rw [← he]; rfl⟩, fun b hb => ⟨?_, fun y c e w => ?_⟩, I.bs, Nat.le_trans I.ok.bsz I.sz, fun b o e hb => ?_, fun b hb w => ?_, I.stack, I.stkFree⟩
    · have e1 : ge.cells.lookup y = some c := e1
      have e2 : ge.cells.lookup x = some c := e2
      rw [ec] at e1 e2
      exact I.ok.inj y x c (cm e1).1 (cm e2).1
    · show ∃ c, ge.cells.lookup y = some c
      rw [ec]
      have hy' : sc.names.lookup y = some .cell ∨ sc.names.lookup y = some .free := by rw [← es]; exact hy
      rcases hy' with hy' | hy'
      · exact absurd hy' (noCell y)
      · exact has hy'
    · show b ≠ ge.locals
      rw [el]
      exact Nat.ne_of_lt (hfp b hb).2
    · have e : ge.cells.lookup y = some c := e
      rw [ec] at e
      exact (hfp b hb).1.2.2.2.2.1 y c (cm e).1 w
    · rcases (hfp b hb).1.2.2.2.1 with w | w
      · exact I.ok.noex b o e w
      · exact absurd (Nat.lt_of_lt_of_le (Heap.lt_size e) (Nat.le_trans I.ok.bsz w)) (Nat.lt_irrefl _)
    · rcases List.mem_cons.mp (I.stkSub b w) with w | w
      · exact (hfp b hb).1.2.1 w
      · exact (hfp b hb).1.2.2.1 w
  have notStk : h'.objs.size ∉ frs X.stack := fun hb => by
    obtain ⟨_, o, ho, _⟩ := I.stack.mem hb
    have lt : h'.objs.size < z.heap.objs.size := Heap.lt_size ho
    rw [size'] at lt
    exact absurd lt (Nat.not_lt_of_le (Nat.le_succ _))
  refine ⟨okG, rfl, I.bare.push hgs, Un.kept old, ⟨_, by show (h'.push go).Ns ge.locals _; rw [el]; exact hn.push _, fun i y v e1 e2 e3 => ?_⟩, fun y c e => ?_, ?_, fun y c e => ?_, fun p hp => ?_, I.hok.kept old, by rw [wipe_length]; exact I.len⟩
  · obtain ⟨e2, out⟩ := wipe_some e2
    have e3 : sc.names.lookup y = some .local ∨ sc.names.lookup y = some .cell ∨ sc.names.lookup y = some .free := by rw [← es]; exact e3
    have nloc : sc.names.lookup y ≠ some .local := fun w => by
      rcases ok.blk.own _ (PySem.mem_of_lookup w) (.inl rfl) with q | q
      · obtain ⟨p, hp, hpy⟩ := List.mem_map.mp q
        have hpy : p.1 = y := hpy
        have q2 := ok.blk.ix p hp
        rw [hpy] at q2
        have hi : p.2 = i := (List.getElem?_inj (List.getElem?_eq_some_iff.mp q2).1 nd).mp (q2.trans e1.symm)
        exact out (List.mem_map.mpr ⟨p, hp, hi⟩)
      · exact q (List.mem_of_getElem? e1)
    have fr : sc.names.lookup y = some .free := by
      rcases e3 with w | w | w
      · exact absurd w nloc
      · exact absurd w (noCell y)
      · exact w
    obtain ⟨c, hc⟩ := has fr
    have k := ok.blk.free _ (PySem.mem_of_lookup fr) rfl
    obtain ⟨m, hm, all⟩ := I.loc
    obtain ⟨u, r, l⟩ := all i y v e1 e2 (.inr k)
    refine ⟨u, r, .inr ⟨.inr (by show ge.scope.names.lookup y = _; rw [es]; exact fr), c, by show ge.cells.lookup y = _; rw [ec]; exact hc, ?_⟩⟩
    rcases l with ⟨w, _⟩ | ⟨_, c2, l2, cell⟩
    · have w : X.env.scope.names.lookup y = some .local := w
      rcases k with k | k <;> exact nomatch k.symm.trans w
    · have q := (cm hc).1
      rw [l2] at q
      cases q
      obtain ⟨o, ho, hd⟩ := cell
      exact ⟨o, old _ _ ho, hd⟩
  · have e : ge.cells.lookup y = some c := e
    rw [ec] at e
    obtain ⟨v, o, ho, hd⟩ := I.cell y c (cm e).1
    exact ⟨v, o, old _ _ ho, hd⟩
  · show H ge.locals = none
    rw [el]
    exact I.hok.fresh (Nat.le_refl _)
  · have e : ge.cells.lookup y = some c := e
    rw [ec] at e
    exact I.freeC y c (cm e).1
  · have hp : p ∈ [(h'.objs.size, go)] := hp
    rw [List.mem_singleton] at hp
    subst hp
    refine ⟨Heap.get?_push_size _ (by simpa using hfr), I.hok.fresh (by show _ ≤ h'.objs.size; omega), ?_, notStk, hgo⟩
    show h'.objs.size ≠ ge.locals
    rw [el]
    omega
end
end Sq

set_option Elab.async false
set_option linter.all false
set_option maxRecDepth 100000
set_option maxHeartbeats 4000000
/-! The generator's own turns. -/
namespace Sq
open PySem PySem.Spec PyProof.Rows L2
/-- the turns' reading: at stop Qs, at the walk's end Qe -/
def genTurns (J : It) (g : TG) (tt : TT) (te : TE) (vs : List Nat) (σ : L2.St) (stop : Bool) (Qs Qe : Hp → Prop) (W : Nat → Nat → Hp → Prop) : Prop := ∀ i m H, W i m H →
  (J.stop i H ∧ Qe H) ∨ (J.go i H ∧ ∃ Nx : Hp → Prop, (∀ H', Nx H' → ∃ m', m' < m ∧ W (i + 1) m' H') ∧ ∀ x H', J.yld i H x H' → g x (wipe σ vs) H' fun σ2 H2 => wipe σ2 vs = wipe σ vs ∧ tt σ2 H2 fun b H3 =>
    if b = true then te σ2 H3 fun y H4 => ∃ c, y = .bl c ∧ if c = stop then Qs H4 else Nx H4 else Nx H3)
/-- a generator of tests hands out: one that stops, or one behind which it may be woken -/
def gY (X : Cx) (pl : List (Addr × Obj)) (stop : Bool) (Qs : Hp → Prop) : Protocol := fun n s₀ v s kap => ∃ c τ G, v = .bool c ∧ Inv X pl τ G s ∧ if c = stop then Qs G else ∀ B, AllBare B → kap (.send .none) { s with gens := B }
def gF (X : Cx) (pl : List (Addr × Obj)) (Qe : Hp → Prop) : Nat → Shared → Shared → Prop := fun _ _ s => ∃ τ G, Inv X pl τ G s ∧ Qe G
def gR (X : Cx) (pl : List (Addr × Obj)) (Qe : Hp → Prop) : GenEnd := fun n s₀ r s => ((r = .ok (.ret .none) ∨ r = .ok .next) ∧ gF X pl Qe n s₀ s) ∨ ∃ e, r = .error e ∧ False
theorem Inv.bared {X : Cx} {pl : List (Addr × Obj)} {σ : L2.St} {H : Hp} {s : Shared} (I : Inv X pl σ H s) {B : Array GenState} (h : AllBare B) : Inv X pl σ H { s with gens := B } :=
  ⟨I.ok, I.os, h, I.base, I.loc, I.cell, I.free, I.freeC, I.pin, I.hok, I.len⟩
section
variable {Xg : Cx} {elt tg iter : Expr} {ifs : List Expr} {scope : Scope} {pos : Pos} {g : TG} {tt : TT} {te : TE} {J : It} {fp : List Addr} {it : Addr} {tn : Nat → Heap → Prop} {Ax : Around} {vs : List Nat} {σ : L2.St} {stop : Bool} {Qs Qe : Hp → Prop}
  {W : Nat → Nat → Hp → Prop} {pl : List (Addr × Obj)}
theorem seg_turns (calm : Xg.calm = true) (co : Xg.env.scope.isCoroutine = false) (over : Ax.over (.compLoop (.GeneratorExp elt [⟨tg, iter, ifs, 0⟩] scope pos) 0 (.ref it) .none Xg.env) [] = Xg.A) (T : Turn Xg.prog Xg.w Xg.K tg J fp it tn)
    (hg : PG Xg tg g) (ht : PTs Xg ifs tt) (he : PE Xg elt te) (quiet : ∀ e s, Xg.xe e s → False) (hfp : ∀ b ∈ fp, b ∈ Xg.ex ∧ ∀ p ∈ Xg.pn ++ pl, p.1 ≠ b) (all : genTurns J g tt te vs σ stop Qs Qe W) :
    ∀ (m n i : Nat) (G : Hp) (s s₀ : Shared), m < n → Inv Xg pl (wipe σ vs) G s → tn i s.heap → (∀ b ∈ fp, G b = none) → W i m G →
      Seg (model Xg.prog Xg.w) Ax (gR Xg pl Qe) (gY Xg pl stop Qs) n s₀ (.compLoop (.GeneratorExp elt [⟨tg, iter, ifs, 0⟩] scope pos) 0 (.ref it) .none Xg.env)
        ((model Xg.prog Xg.w).den (.compLoop (.GeneratorExp elt [⟨tg, iter, ifs, 0⟩] scope pos) 0 (.ref it) .none Xg.env)) [] s := by
  intro m
  induction m using Nat.strongRecOn with
  | _ m ih =>
    intro n i G s s₀ hmn I at0 n0 w0
    have still : ∀ {τ : L2.St} {G : Hp} {z : Shared}, Inv Xg pl τ G z → (∀ b ∈ fp, G b = none) → ∀ b ∈ fp, FpOk Xg pl G b := fun {τ G z} J1 n1 b hb =>
      ⟨n1 b hb, (J1.ok.exf b (hfp b hb).1).1, J1.ok.exfs b (hfp b hb).1, .inl (hfp b hb).1, fun x c e => (J1.ok.exf b (hfp b hb).1).2 x c e, (hfp b hb).2⟩
    show Seg _ Ax _ _ _ s₀ _ ((compTurn (.GeneratorExp elt [⟨tg, iter, ifs, 0⟩] scope pos) 0 (.ref it) .none Xg.env).onRaise (leaving Xg.env)) [] s
    rw [compTurn_gen, Sem.onRaise_eq_wrap]
    refine seg_bind_wrap (wpAny_standAt ?_)
    rcases all i m G w0 with ⟨stops, goal⟩ | ⟨goes, Nx, less, turn⟩
    · refine seg_bind_wrap ?_
      rw [over]
      refine thnF (T.done Xg rfl rfl rfl calm i pl s _ G (fun _ _ => False) I (still I n0) at0 stops) fun r z ⟨er, I1⟩ => ?_
      subst er
      exact seg_end (.ok .next) (.inl ⟨.inr rfl, _, _, I1, goal⟩)
    · refine seg_bind_wrap ?_
      rw [over]
      refine thnF (T.item Xg rfl rfl rfl calm i pl s _ G (fun _ _ => False) I (still I n0) at0 goes) fun r z1 ⟨u, er, h1⟩ => ?_
      subst er
      refine seg_bind_wrap ?_
      rw [over]
      refine thnF h1 fun _ z2 ⟨x, G2, I2, rx, hy, at2, n2⟩ => ?_
      refine seg_bind_wrap ?_
      rw [over]
      refine wpAny_mono (hg.run _ z2 _ G2 x u _ (I2.pinned (still I2 n2) (T.obj _ _ at2)) rx (turn x G2 hy)) (fun _ z3 ⟨τ3, G3, I3, same3, q3⟩ => ?_) fun _ _ w => (quiet _ _ w).elim
      refine seg_bind_wrap ?_
      rw [over]
      refine wpAny_mono (ht.run _ z3 τ3 G3 _ I3 q3) (fun b z4 ⟨G4, I4, q4⟩ => ?_) fun _ _ w => (quiet _ _ w).elim
      have next : ∀ {z : Shared} {G : Hp} {k : Nat} (s1 : Shared), Inv Xg (pl ++ pinsAt fp z2.heap) τ3 G z → Nx G → m ≤ k → Seg (model Xg.prog Xg.w) Ax (gR Xg pl Qe) (gY Xg pl stop Qs) k s1 (.compLoop (.GeneratorExp elt [⟨tg, iter, ifs, 0⟩] scope pos) 0 (.ref it) .none Xg.env)
          ((model Xg.prog Xg.w).den (.compLoop (.GeneratorExp elt [⟨tg, iter, ifs, 0⟩] scope pos) 0 (.ref it) .none Xg.env)) [] z := fun {z G k} s1 J1 nx mk => by
        obtain ⟨m1, lt1, w1⟩ := less G nx
        have kept : ∀ b ∈ fp, ∀ o, z2.heap.get? b = some o → z.heap.get? b = some o ∧ G b = none := fun b hb o e => by
          have t := J1.pin (b, o) (List.mem_append_right _ (List.mem_append_right _ (mem_pinsAt hb e)))
          exact ⟨t.1, t.2.1⟩
        refine ih m1 lt1 k (i + 1) G z s1 (by omega) ((J1.unpinned (pins := pl)).weak (by rw [← same3, wipe_length]) fun j v e => by rw [← same3] at e; exact (wipe_some e).1) (T.keep _ _ _ at2 fun b hb o e => (kept b hb o e).1) (fun b hb => ?_) w1
        obtain ⟨o, e, _⟩ := T.obj _ _ at2 b hb
        exact (kept b hb o e).2
      cases b with
      | false =>
        simp only [Bool.false_eq_true, if_false] at q4 ⊢
        exact seg_again rfl (next _ I4 q4 (Nat.le_of_lt hmn))
      | true =>
        simp only [if_true] at q4 ⊢
        have hy : ∀ v, yieldOut Xg.env v = yieldValue v := fun v => by simp only [yieldOut, co, Bool.false_eq_true, if_false]
        simp only [hy]
        rw [Sem.bind_eq_wrap', Sem.bind_eq_wrap', Sem.wrap_wrap, Sem.wrap_wrap]
        refine seg_wrap ?_
        rw [over]
        refine wpAny_mono (he.run _ z4 τ3 G4 _ I4 q4) (fun y z5 ⟨v, G5, I5, rv, c, ec, q5⟩ => ?_) fun _ _ w => (quiet _ _ w).elim
        subst ec
        obtain rfl : y = Value.bool c := rv
        obtain ⟨k, rfl⟩ : ∃ k, n = k + 1 := ⟨n - 1, by omega⟩
        refine seg_at (seg_yield rfl rfl rfl ⟨c, τ3, G5, rfl, I5.unpinned, ?_⟩)
        by_cases hc : c = stop
        · rw [if_pos hc] at q5 ⊢
          exact q5
        · rw [if_neg hc] at q5 ⊢
          exact fun B hB => seg_again rfl (next _ (Inv.bared I5 hB) q5 (by omega))
end
end Sq

set_option Elab.async false
set_option linter.all false
set_option maxRecDepth 100000
set_option maxHeartbeats 4000000
/-! any and all draw from such a generator. -/
namespace Sq
open PySem PySem.Spec PyProof.Rows L2
section
variable {Xg : Cx} {stop : Bool} {Qs Qe : Hp → Prop} {a : Addr} {go : Obj} {g : Nat} {A : Around} {R : Result → Shared → Prop}
/-- between two turns -/
def Sleeps (Xg : Cx) (Ax : Around) (pl : List (Addr × Obj)) (stop : Bool) (Qs Qe : Hp → Prop) (g n : Nat) (s : Shared) : Prop :=
  (∃ τ G, Inv Xg pl τ G s) ∧ ∃ gs, s.gens[g]? = some gs ∧ gs.Goes (model Xg.prog Xg.w) Ax (gR Xg pl Qe) (gY Xg pl stop Qs) n (.send .none) (s.setGen g .running)
/-- one draw -/
theorem draw_one (hh : A.handled = none) (hd : A.depth < recursionLimit) (isg : ∀ s : Shared, s.heap.get? a = some go → s.heap.IsGen a g) {n : Nat} {s : Shared} {Q : Option Value → Shared → Prop} {E : Value → Shared → Prop}
    (h : Sleeps Xg A.in1 [(a, go)] stop Qs Qe g n s)
    (hs : ∀ s' τ G, Inv Xg [(a, go)] τ G s' → Qs G → Q (some (.bool stop)) s')
    (hn : ∀ m s', n = m + 1 → Sleeps Xg A.in1 [(a, go)] stop Qs Qe g m s' → Q (some (.bool (!stop))) s')
    (he : ∀ s' τ G, Inv Xg [(a, go)] τ G s' → Qe G → Q none s') : wpAny (model Xg.prog Xg.w) A (pyNext (.ref a)) Q E s := by
  obtain ⟨⟨τ, G, I⟩, gs, hgs, hgo⟩ := h
  have pin : ∀ {τ G s}, Inv Xg [(a, go)] τ G s → s.heap.get? a = some go := fun I => (I.pin (a, go) (List.mem_append_right _ (List.mem_singleton.mpr rfl))).1
  have hgl : g < s.gens.size := (Array.getElem?_eq_some_iff.mp hgs).1
  refine GenW.wpAny_gsz (n := g + 1) hgl (next_genG (Er := fun _ _ => False) (F := gF Xg [(a, go)] Qe) (Y := gY Xg [(a, go)] stop Qs) hh I.nolimit hd (isg _ (pin I)) hgs hgo (fun v s₁ gs' hb hv => ?_) (fun s₁ hp h' hk => ?_) fun e s₁ w => w.elim)
  · obtain ⟨c, τ1, G1, rfl, I1, q⟩ := hv
    intro big
    have big1 : g < s₁.gens.size := by
      have e : (s₁.setGen g gs').gens.size = s₁.gens.size := GenW.setGen_size _ _ _
      have b2 : g + 1 ≤ (s₁.setGen g gs').gens.size := big
      omega
    have I2 : Inv Xg [(a, go)] τ1 G1 (s₁.setGen g gs') := Inv.bared I1 (allBare_setGen I1.bare hb)
    by_cases hc : c = stop
    · rw [if_pos hc] at q
      subst hc
      exact hs _ τ1 G1 I2 q
    · rw [if_neg hc] at q
      have ec : c = !stop := by cases c <;> cases stop <;> simp_all
      subst ec
      have q2 := q ((s₁.setGen g gs').setGen g .running).gens (allBare_setGen I2.bare rfl)
      cases n with
      | zero => exact q2.elim
      | succ m => exact hn m _ rfl ⟨⟨τ1, G1, I2⟩, gs', setGen_at big1, q2⟩
  · obtain ⟨τ1, G1, I1, q⟩ := hp
    intro _
    exact he _ τ1 G1 ((Inv.bared I1 (allBare_setGen I1.bare rfl)).kept (t' := s₁.toks) hk) q
variable (hh : A.handled = none) (hd : A.depth < recursionLimit) (isg : ∀ s : Shared, s.heap.get? a = some go → s.heap.IsGen a g) (fin : ∀ c τ G s, Inv Xg [(a, go)] τ G s → (if c = stop then Qs G else Qe G) → R (.ok (.ret (.bool c))) s)
include hh hd isg fin
theorem any_turns (hstop : stop = true) : ∀ (n : Nat) (s : Shared), Sleeps Xg A.in1.in1 [(a, go)] stop Qs Qe g n s → codeAny (model Xg.prog Xg.w) A (.builtin "any.loop" ⟨[.ref a], []⟩) R s := by
  subst hstop
  intro n
  induction n with
  | zero =>
    intro s hs
    refine codeAny_builtin F.entry_any_loop ?_
    rw [Around.under_plainId F.plain_any_loop _]
    show wpAny _ A.in1 (pyNext (.ref a) >>= _) _ _ s
    refine wpAny_bind (draw_one (A := A.in1) hh hd isg hs (fun s' τ G I q => ?_) (fun m s' em _ => nomatch em) fun s' τ G I q => ?_)
    · refine wpAny_bind (wpAny_holding (wpAny_truthy_bool ?_))
      refine wpAny_bind (wpAny_letGo ?_)
      simp only [if_true]
      exact wpAny_bind (wpAny_rule (wpAny_pure (fin true τ G s' I (by rw [if_pos rfl]; exact q))))
    · exact wpAny_bind (wpAny_rule (wpAny_pure (fin false τ G s' I (by rw [if_neg Bool.false_ne_true]; exact q))))
  | succ n ih =>
    intro s hs
    refine codeAny_builtin F.entry_any_loop ?_
    rw [Around.under_plainId F.plain_any_loop _]
    show wpAny _ A.in1 (pyNext (.ref a) >>= _) _ _ s
    refine wpAny_bind (draw_one (A := A.in1) hh hd isg hs (fun s' τ G I q => ?_) (fun m s' em w => ?_) fun s' τ G I q => ?_)
    · refine wpAny_bind (wpAny_holding (wpAny_truthy_bool ?_))
      refine wpAny_bind (wpAny_letGo ?_)
      simp only [if_true]
      exact wpAny_bind (wpAny_rule (wpAny_pure (fin true τ G s' I (by rw [if_pos rfl]; exact q))))
    · obtain rfl : n = m := Nat.succ.inj em
      refine wpAny_bind (wpAny_holding (wpAny_truthy_bool ?_))
      refine wpAny_bind (wpAny_letGo ?_)
      simp only [Bool.not_true, Bool.false_eq_true, if_false]
      exact wpAny_pure ⟨plainId_quiet F.plain_any_loop _, ih s' w⟩
    · exact wpAny_bind (wpAny_rule (wpAny_pure (fin false τ G s' I (by rw [if_neg Bool.false_ne_true]; exact q))))
theorem all_turns (hstop : stop = false) : ∀ (n : Nat) (s : Shared), Sleeps Xg A.in1.in1 [(a, go)] stop Qs Qe g n s → codeAny (model Xg.prog Xg.w) A (.builtin "all.loop" ⟨[.ref a], []⟩) R s := by
  subst hstop
  intro n
  induction n with
  | zero =>
    intro s hs
    refine codeAny_builtin F.entry_all_loop ?_
    rw [Around.under_plainId F.plain_all_loop _]
    show wpAny _ A.in1 (pyNext (.ref a) >>= _) _ _ s
    refine wpAny_bind (draw_one (A := A.in1) hh hd isg hs (fun s' τ G I q => ?_) (fun m s' em _ => nomatch em) fun s' τ G I q => ?_)
    · refine wpAny_bind (wpAny_holding (wpAny_truthy_bool ?_))
      refine wpAny_bind (wpAny_letGo ?_)
      simp only [Bool.false_eq_true, if_false]
      exact wpAny_bind (wpAny_rule (wpAny_pure (fin false τ G s' I (by rw [if_pos rfl]; exact q))))
    · exact wpAny_bind (wpAny_rule (wpAny_pure (fin true τ G s' I (by rw [if_neg Bool.noConfusion]; exact q))))
  | succ n ih =>
    intro s hs
    refine codeAny_builtin F.entry_all_loop ?_
    rw [Around.under_plainId F.plain_all_loop _]
    show wpAny _ A.in1 (pyNext (.ref a) >>= _) _ _ s
    refine wpAny_bind (draw_one (A := A.in1) hh hd isg hs (fun s' τ G I q => ?_) (fun m s' em w => ?_) fun s' τ G I q => ?_)
    · refine wpAny_bind (wpAny_holding (wpAny_truthy_bool ?_))
      refine wpAny_bind (wpAny_letGo ?_)
      simp only [Bool.false_eq_true, if_false]
      exact wpAny_bind (wpAny_rule (wpAny_pure (fin false τ G s' I (by rw [if_pos rfl]; exact q))))
    · obtain rfl : n = m := Nat.succ.inj em
      refine wpAny_bind (wpAny_holding (wpAny_truthy_bool ?_))
      refine wpAny_bind (wpAny_letGo ?_)
      simp only [Bool.not_false, if_true]
      exact wpAny_pure ⟨plainId_quiet F.plain_all_loop _, ih s' w⟩
    · exact wpAny_bind (wpAny_rule (wpAny_pure (fin true τ G s' I (by rw [if_neg Bool.noConfusion]; exact q))))
end
end Sq

set_option Elab.async false
set_option linter.all false
set_option maxRecDepth 100000
set_option maxHeartbeats 4000000
/-! any(test for target in walked if ..), all(..). -/
namespace Sq
open PySem PySem.Spec PyProof.Rows L2
def tGen (P : Addr) (stop : Bool) (wi : TI) (g : TG) (tt : TT) (te : TE) (vs : List Nat) : TE := fun σ H Q => wi σ H fun J H1 => GxR.TabG H1 P ∧ ∀ H2, GxR.Tabbed P H1 H2 → ∃ W : Nat → Nat → Hp → Prop, (∃ m, W 0 m H2) ∧
  genTurns J g tt te vs σ stop (Q (.bl stop)) (Q (.bl !stop)) W
section
variable {X : Cx} {elt tg iter : Expr} {ifs : List Expr} {scope : Scope} {gpos : Pos} {g : TG} {tt : TT} {te : TE} {own : List (Str × Nat)} {wi : TI} {k : Nat} {c P : Addr} {stop : Bool}
abbrev genC (elt tg iter : Expr) (ifs : List Expr) (scope : Scope) (gpos : Pos) : Expr := .GeneratorExp elt [⟨tg, iter, ifs, 0⟩] scope gpos
theorem seg_first {Xg : Cx} {J : It} {fp : List Addr} {it : Addr} {tn : Nat → Heap → Prop} {Ax : Around} {vs : List Nat} {σ : L2.St} {Qs Qe : Hp → Prop} {W : Nat → Nat → Hp → Prop} {pl : List (Addr × Obj)}
    (calm : Xg.calm = true) (co : Xg.env.scope.isCoroutine = false) (over : Ax.over (.compLoop (genC elt tg iter ifs scope gpos) 0 (.ref it) .none Xg.env) [] = Xg.A) (T : Turn Xg.prog Xg.w Xg.K tg J fp it tn)
    (hg : PG Xg tg g) (ht : PTs Xg ifs tt) (he : PE Xg elt te) (quiet : ∀ e s, Xg.xe e s → False) (hfp : ∀ b ∈ fp, b ∈ Xg.ex ∧ ∀ p ∈ Xg.pn ++ pl, p.1 ≠ b) (all : genTurns J g tt te vs σ stop Qs Qe W)
    (m n : Nat) (G : Hp) (s s₀ : Shared) (hmn : m < n) (I : Inv Xg pl (wipe σ vs) G s) (at0 : tn 0 s.heap) (n0 : ∀ b ∈ fp, G b = none) (w0 : W 0 m G) :
    Seg (model Xg.prog Xg.w) Ax (gR Xg pl Qe) (gY Xg pl stop Qs) n s₀ (.compStart (genC elt tg iter ifs scope gpos) 0 (.ref it) .none Xg.env)
        ((model Xg.prog Xg.w).den (.compStart (genC elt tg iter ifs scope gpos) 0 (.ref it) .none Xg.env)) [] s := by
  have loop := seg_turns calm co over T hg ht he quiet hfp all m n 0 G s s₀ hmn I at0 n0 w0
  show Seg _ Ax _ _ _ s₀ _ ((compStart (genC elt tg iter ifs scope gpos) 0 (.ref it) .none Xg.env).onRaise (leaving Xg.env)) [] s
  unfold compStart
  rw [Sem.onRaise_eq_wrap]
  show Seg _ Ax _ _ _ s₀ _ ((ask >>= _).wrap _ _ _ _) [] s
  refine seg_bind_wrap (wpAny_askSetting ?_)
  split
  · exact seg_again rfl loop
  · refine seg_bind_wrap (wpAny_rule ?_)
    first
      | exact seg_bind_wrap (wpAny_standAt (seg_bind_wrap (T.self _ 0 s _ _ at0 (seg_again rfl loop))))
      | (show Seg _ Ax _ _ _ s₀ _ ((standAt iter.pos >>= _).wrap _ _ _ _) [] s
         exact seg_bind_wrap (wpAny_standAt (seg_bind_wrap (T.self _ 0 s _ _ at0 (seg_again rfl loop)))))
theorem in1_frames' (A : Around) : A.in1.frames = A.frames := rfl
theorem boot_all : bootBuiltins "all" = some (.builtin "all") := by decide +kernel
/-- the generator is made: it sleeps ahead of its first turn -/
theorem gen_made {pins : List (Addr × Obj)} {σ : L2.St} {H : Hp} {s : Shared} {Q : VK} {Q' : Value → Shared → Prop} (calm : X.calm = true) (hr : Room (k + 1) X.A) (nd : X.N.Nodup) (TB : GxR.TabB X.base X.mg c P) (hcode : X.env.code = .ref c) (ok : GenB X.N X.env.scope scope own) (hi : PI X tg iter wi)
    (hg : ∀ (A : Around) (z : Shared) (G : Hp) (cl : List (Str × Addr)) (C : Addr) (cd : Value) (fp : List Addr), PG (genX X A z G (genEnv scope cl C cd builtinsNs X.env) fp) tg g)
    (ht : ∀ (A : Around) (z : Shared) (G : Hp) (cl : List (Str × Addr)) (C : Addr) (cd : Value) (fp : List Addr), Room k A → PTs (genX X A z G (genEnv scope cl C cd builtinsNs X.env) fp) ifs tt)
    (he : ∀ (A : Around) (z : Shared) (G : Hp) (cl : List (Str × Addr)) (C : Addr) (cd : Value) (fp : List Addr), Room k A → PE (genX X A z G (genEnv scope cl C cd builtinsNs X.env) fp) elt te)
    (hs : ∀ v, genFold iter X.env v = pure v) (I : Inv X pins σ H s) (h : tGen P stop wi g tt te (own.map (·.2)) σ H Q)
    (hQ : ∀ (Xg : Cx) (a : Addr) (go : Obj) (gn n : Nat) (s' : Shared), Xg.prog = X.prog → Xg.w = X.w → (∀ s : Shared, s.heap.get? a = some go → s.heap.IsGen a gn) → Sleeps Xg X.A.in1.in1 [(a, go)] stop (Q (.bl stop)) (Q (.bl !stop)) gn n s' →
      (∀ τ G s1, Inv Xg [(a, go)] τ G s1 → Inv X pins σ G s1) → s'.heap.get? a = some go → Q' (.ref a) s') :
    wpAny (model X.prog X.w) X.A (eval (genC elt tg iter ifs scope gpos) X.env) Q' X.xe s := by
  refine wpAny_GeneratorExp_make ok.co (closure_ok fun y hy e => I.ok.has _ (ok.blk.free y hy e)) ok.cell ok.dot ok.blk.kind (by have := hr.dp; omega) ?_ hs
  refine thn (hi.run pins s σ H _ I h) fun xv s1 hx => thn hx fun iv s2 made => ?_
  obtain ⟨it, fp, tn, J, H2, rfl, I2, T, at2, fp2, ⟨ps, hP, htr⟩, want⟩ := made
  have hPs : s2.heap.get? P = some { cls := .none, data := .fields ps } := I2.hok P _ hP
  have cd : PySem.W.CodeHd s2.heap c P := TB.code.keeps fun b u e => I2.bk b u e
  refine ⟨I2.nolimit, ?_⟩
  have cont : ∀ (code : Value) (h3 : Heap) (tk : Nat) (more : Array Value), Heap.ExtBut P s2.heap h3 → s2.heap.objs.size ≤ h3.objs.size → h3.get? P = some { cls := .none, data := .fields (ps ++ more) } → TriplesOk (ps ++ more).toList →
      wpAny (model X.prog X.w) X.A (builtinsFor X.env.globals X.env.builtins) (fun bi s₄ =>
        ∀ h', h'.Ns s₄.heap.objs.size (fun y => if y = ".0" then some (.ref it) else none) → Heap.SameBut s₄.heap.objs.size (s₄.heap.push { cls := .type "frame", data := .dict #[] }) h' →
          Q' (.ref h'.objs.size) { s₄ with
            gens := s₄.gens.push (.fresh (.compStart (genC elt tg iter ifs scope gpos) 0 (.ref it) .none (genEnv scope (cloFrom X.env.cells scope.names []) s₄.heap.objs.size code bi X.env))),
            toks := s₄.toks + 1 + 1 + 1,
            heap := h'.push { cls := .type "generator", data := .fields #[.int s₄.gens.size 0, .str "<genexpr>" (s₄.toks + 1), .str (X.env.qual ++ "<genexpr>") (s₄.toks + 1 + 1)] } }) X.xe { s2 with heap := h3, toks := tk } := by
    intro code h3 tk more hx hsz hP3 htr3
    obtain ⟨bm, ob, e1, e2, e3, e4, e5, e6, e7, e8⟩ := TB.bm
    refine wpAny_builtinsFor (m := X.mg) (by rw [I2.ok.glob]; exact (I2.mod.glob.keeps I2.bk).extBut hx TB.gP) e1 e2 (hx _ _ e4 (I2.bk _ _ e5)) e6 e7 e8 ?_
    intro h' hn hsb
    have J3 := GxR.inv_tab (more := more) (h' := h3) (g' := s2.gens) (d' := s2.drawn) (t' := tk) I2 hP (fun b u hb e => hx b u hb e) hP3 I2.bare
    generalize eG : upd H2 P (.tbl (ps ++ more)) = G3 at J3
    have off : ∀ b, b ≠ P → G3 b = H2 b := fun b hb => by rw [← eG]; exact upd_ne hb
    have tabbed : GxR.Tabbed P H2 G3 := ⟨⟨ps ++ more, by rw [← eG]; exact upd_same, htr3⟩, off⟩
    have fpP : ∀ b ∈ fp, b ≠ P := fun b hb w => by
      have q := (fp2 b hb).1
      rw [w, hP] at q
      cases q
    have at3 : tn 0 h3 := T.keep _ _ _ at2 fun b hb o e => hx b o (fpP b hb) e
    have fp3 : ∀ b ∈ fp, FpOk X pins G3 b ∧ b < h3.objs.size := fun b hb => by
      obtain ⟨o, e, _⟩ := T.obj _ _ at2 b hb
      exact ⟨⟨by rw [off b (fpP b hb)]; exact (fp2 b hb).1, (fp2 b hb).2⟩, Nat.lt_of_lt_of_le (Heap.lt_size e) hsz⟩
    obtain ⟨W, ⟨m0, w0⟩, turns⟩ := want G3 tabbed
    generalize ez : ({ s2 with heap := h3, toks := tk } : Shared) = z3 at J3 hn hsb ⊢
    have ezh : z3.heap = h3 := by rw [← ez]
    have J3' : Inv X pins σ G3 z3 := J3
    have fp3' : ∀ b ∈ fp, FpOk X pins G3 b ∧ b < z3.heap.objs.size := by rw [ezh]; exact fp3
    have ov : (X.A.in1.in1.over (.compLoop (genC elt tg iter ifs scope gpos) 0 (.ref it) .none (genEnv scope (cloFrom X.env.cells scope.names []) z3.heap.objs.size code builtinsNs X.env)) []).frames = some (genEnv scope (cloFrom X.env.cells scope.names []) z3.heap.objs.size code builtinsNs X.env :: X.stack) := by
      simp only [Around.over, in1_frames', I.ok.frames]
      rfl
    have oh : (X.A.in1.in1.over (.compLoop (genC elt tg iter ifs scope gpos) 0 (.ref it) .none (genEnv scope (cloFrom X.env.cells scope.names []) z3.heap.objs.size code builtinsNs X.env)) []).handled = none := hr.hd
    have orm : Room k (X.A.in1.in1.over (.compLoop (genC elt tg iter ifs scope gpos) 0 (.ref it) .none (genEnv scope (cloFrom X.env.cells scope.names []) z3.heap.objs.size code builtinsNs X.env)) []) := by
      refine ⟨hr.hd, ?_, ?_⟩
      · have := hr.dp
        show X.A.depth + 0 + 1 + 3 * k + 5 < recursionLimit
        omega
      · have := hr.un
        show X.A.units + 1 + 1 + 0 + 3 + 16 * k + 200 < cLine
        omega
    generalize eA : X.A.in1.in1.over (.compLoop (genC elt tg iter ifs scope gpos) 0 (.ref it) .none (genEnv scope (cloFrom X.env.cells scope.names []) z3.heap.objs.size code builtinsNs X.env)) [] = Ag at ov oh orm
    have I4 := gen_start (go := { cls := .type "generator", data := .fields #[.int z3.gens.size 0, .str "<genexpr>" (z3.toks + 1), .str (X.env.qual ++ "<genexpr>") (z3.toks + 1 + 1)] })
      (gs := .fresh (.compStart (genC elt tg iter ifs scope gpos) 0 (.ref it) .none (genEnv scope (cloFrom X.env.cells scope.names []) z3.heap.objs.size code builtinsNs X.env))) (tk := z3.toks + 1 + 1 + 1) J3' ok nd oh ov fp3' rfl (fun v w => nomatch w) hn hsb Bool.false_ne_true
    have kept : ∀ b o, z3.heap.get? b = some o → (h'.push { cls := .type "generator", data := .fields #[.int z3.gens.size 0, .str "<genexpr>" (z3.toks + 1), .str (X.env.qual ++ "<genexpr>") (z3.toks + 1 + 1)] }).get? b = some o :=
      fun b o e => Heap.get?_push_of_some _ (hsb.extBut b o (Nat.ne_of_lt (Heap.lt_size e)) (Heap.get?_push_of_some _ e))
    have n3 : ∀ b ∈ fp, G3 b = none := fun b hb => (fp3' b hb).1.1
    have ha : (h'.push { cls := .type "generator", data := .fields #[.int z3.gens.size 0, .str "<genexpr>" (z3.toks + 1), .str (X.env.qual ++ "<genexpr>") (z3.toks + 1 + 1)] }).get? h'.objs.size = some { cls := .type "generator", data := .fields #[.int z3.gens.size 0, .str "<genexpr>" (z3.toks + 1), .str (X.env.qual ++ "<genexpr>") (z3.toks + 1 + 1)] } := Heap.get?_push_size _ rfl
    refine hQ (genX X Ag z3 G3 (genEnv scope (cloFrom X.env.cells scope.names []) z3.heap.objs.size code builtinsNs X.env) fp) h'.objs.size _ z3.gens.size (m0 + 1) _ rfl rfl (fun s e => ⟨_, _, _, e, rfl, rfl, rfl⟩)
      ⟨⟨_, _, I4⟩, _, Array.getElem?_push_size .., rfl, seg_first (Xg := genX X Ag z3 G3 (genEnv scope (cloFrom X.env.cells scope.names []) z3.heap.objs.size code builtinsNs X.env) fp) rfl ok.co eA T (hg ..) (ht _ _ _ _ _ _ _ orm) (he _ _ _ _ _ _ _ orm) (fun _ _ w => w) (fun b hb => ⟨hb, fun p hp w => ?_⟩) turns m0 (m0 + 1) G3 _ _ (Nat.lt_succ_self _) (Inv.bared I4 (allBare_setGen I4.bare rfl)) (T.keep _ _ _ at3 fun b hb o e => kept b o (by rw [ezh]; exact e)) n3 w0⟩
      (fun τ G s1 J => J3'.call' (ch := fp) J.os J.base J.hok J.bare fun b hb => ⟨(fp3' b hb).1.2.2.2.1, (fp3' b hb).1.2.1, (fp3' b hb).1.2.2.2.2.1, (fp3' b hb).1.2.2.2.2.2⟩) ha
    have hp : p ∈ [(h'.objs.size, _)] := hp
    rw [List.mem_singleton] at hp
    subst hp
    have w : h'.objs.size = b := w
    have lt := (fp3' b hb).2
    have sz : h'.objs.size = z3.heap.objs.size + 1 := by rw [hsb.1, Heap.size_push]
    rw [← w, sz] at lt
    exact absurd lt (Nat.not_lt_of_le (Nat.le_succ _))
  cases hf : codeAmong gpos ps.toList with
  | none =>
    refine wpAny_genexprCodeX hcode (cd.code hPs htr) (cd.tab hPs) hf fun c' h' tk hx hge hlt hco' _ htab' _ => ?_
    obtain ⟨o1, vs, f1, tf, fl, tg, inF, tx, tt, op, _, _, _, _, _, _, _, _, _, ht2, _⟩ := hco'
    exact cont _ h' tk _ hx (Nat.le_trans hge (Nat.le_of_lt hlt)) htab'.2 ht2
  | some cv =>
    refine wpAny_genexprCode_hit hcode (cd.code hPs htr) hf ?_
    exact cont cv s2.heap s2.toks #[] (Heap.ExtBut.refl _ _) (Nat.le_refl _) (by simpa using hPs) (by simpa using htr)

section
variable (calm : X.calm = true) (hr : Room (k + 1) X.A) (nd : X.N.Nodup) (TB : GxR.TabB X.base X.mg c P) (hcode : X.env.code = .ref c) (ok : GenB X.N X.env.scope scope own) (hi : PI X tg iter wi)
  (hg : ∀ (A : Around) (z : Shared) (G : Hp) (cl : List (Str × Addr)) (C : Addr) (cd : Value) (fp : List Addr), PG (genX X A z G (genEnv scope cl C cd builtinsNs X.env) fp) tg g)
  (ht : ∀ (A : Around) (z : Shared) (G : Hp) (cl : List (Str × Addr)) (C : Addr) (cd : Value) (fp : List Addr), Room k A → PTs (genX X A z G (genEnv scope cl C cd builtinsNs X.env) fp) ifs tt)
  (he : ∀ (A : Around) (z : Shared) (G : Hp) (cl : List (Str × Addr)) (C : Addr) (cd : Value) (fp : List Addr), Room k A → PE (genX X A z G (genEnv scope cl C cd builtinsNs X.env) fp) elt te)
  (hs : ∀ v, genFold iter X.env v = pure v)
include calm hr nd TB hcode ok hi hg ht he hs
theorem pe_anyG {p pos : Pos} (gl : Gl X "any") (hm : X.mg "any" = none) (hst : starEach [genC elt tg iter ifs scope gpos] X.env = (false, eval (genC elt tg iter ifs scope gpos) X.env) :: starEach [] X.env := by rfl) :
    PE X (.Call (.Name "any" p) [genC elt tg iter ifs scope gpos] [] pos) (tGen P true wi g tt te (own.map (·.2))) := by
  refine ⟨fun pins s σ H Q I h => wpAny_Call_Name_kw (ld_blt I gl hm boot_any ?_)⟩
  refine PyProof.Rows.callWith_builtin1 ?_ hst (by rfl)
  rw [hst]
  show wpAny _ _ (spliced ((false, eval (genC elt tg iter ifs scope gpos) X.env) :: backTo pos (starEach [] X.env))) _ _ s
  refine Calls.spliced_cons (gen_made calm hr nd TB hcode ok hi hg ht he hs I h fun Xg a go gn n s' e1 e2 isg sl back ha => Calls.spliced_nil ?_)
  refine call_function_tree F.kind_any F.plain_any F.entry_any (F.args_any1 _) ?_
  unfold Builtin.«any»
  refine wpAny_bind (m := oneArg "any" _) (wpAny_pure (wpAny_bind (wpAny_pyIter_gen (isg _ ha) (wpAny_pure ⟨plainId_quiet F.plain_any_loop _, ?_⟩))))
  have run := any_turns (R := fun r s' => match r with | .ok (.ret v) => (∃ x H', Inv X pins σ H' s' ∧ RelV x v ∧ Q x H') | .ok _ => False | .error e => X.xe e s') hr.hd (by have := hr.dp; omega) isg (fun b τ G s1 J q => ⟨.bl b, G, back τ G s1 J, rfl, ?_⟩) rfl n s' sl
  · rw [e1, e2] at run
    exact run
  · cases b
    · rwa [if_neg Bool.false_ne_true] at q
    · rwa [if_pos rfl] at q
theorem pe_allG {p pos : Pos} (gl : Gl X "all") (hm : X.mg "all" = none) (hst : starEach [genC elt tg iter ifs scope gpos] X.env = (false, eval (genC elt tg iter ifs scope gpos) X.env) :: starEach [] X.env := by rfl) :
    PE X (.Call (.Name "all" p) [genC elt tg iter ifs scope gpos] [] pos) (tGen P false wi g tt te (own.map (·.2))) := by
  refine ⟨fun pins s σ H Q I h => wpAny_Call_Name_kw (ld_blt I gl hm boot_all ?_)⟩
  refine PyProof.Rows.callWith_builtin1 ?_ hst (by rfl)
  rw [hst]
  show wpAny _ _ (spliced ((false, eval (genC elt tg iter ifs scope gpos) X.env) :: backTo pos (starEach [] X.env))) _ _ s
  refine Calls.spliced_cons (gen_made calm hr nd TB hcode ok hi hg ht he hs I h fun Xg a go gn n s' e1 e2 isg sl back ha => Calls.spliced_nil ?_)
  refine call_function_tree F.kind_all F.plain_all F.entry_all (F.args_all1 _) ?_
  unfold Builtin.«all»
  refine wpAny_bind (m := oneArg "all" _) (wpAny_pure (wpAny_bind (wpAny_pyIter_gen (isg _ ha) (wpAny_pure ⟨plainId_quiet F.plain_all_loop _, ?_⟩))))
  have run := all_turns (R := fun r s' => match r with | .ok (.ret v) => (∃ x H', Inv X pins σ H' s' ∧ RelV x v ∧ Q x H') | .ok _ => False | .error e => X.xe e s') hr.hd (by have := hr.dp; omega) isg (fun b τ G s1 J q => ⟨.bl b, G, back τ G s1 J, rfl, ?_⟩) rfl n s' sl
  · rw [e1, e2] at run
    exact run
  · cases b
    · rwa [if_pos rfl] at q
    · rwa [if_neg Bool.noConfusion] at q
end
end
end Sq

set_option Elab.async false
set_option linter.all false
set_option maxRecDepth 100000
set_option maxHeartbeats 4000000
/-! Walks under any, all and dict comprehensions. -/
namespace Sq
open PySem PySem.Spec PyProof.Rows L2
section
variable {J : It} {n : Nat} {Gd : Hp → Prop} {Y : Nat → Hp → V → Hp → Prop} {g : TG} {tt : TT} {vs : List Nat} {σ : L2.St}
theorem gen_it (w : Walk J n Gd Y) {te : TE} {stop : Bool} {Qs Qe : Hp → Prop} {H2 : Hp} (Pv : Nat → Hp → Prop) (h0 : Pv 0 H2) (hG : ∀ i H, i ≤ n → Pv i H → Gd H)
    (hs : ∀ i x H H', i < n → Pv i H → Y i H x H' → g x (wipe σ vs) H' fun σ2 H2 => wipe σ2 vs = wipe σ vs ∧ tt σ2 H2 fun b H3 => if b = true then te σ2 H3 fun y H4 => ∃ c, y = .bl c ∧ if c = stop then Qs H4 else Pv (i + 1) H4 else Pv (i + 1) H3)
    (hd : ∀ H, Pv n H → Qe H) : ∃ W : Nat → Nat → Hp → Prop, (∃ m, W 0 m H2) ∧ genTurns J g tt te vs σ stop Qs Qe W := by
  refine ⟨fun i m H => m = n - i ∧ i ≤ n ∧ Pv i H, ⟨n, rfl, Nat.zero_le _, h0⟩, ?_⟩
  rintro i m H ⟨rfl, hi, p⟩
  by_cases lt : i < n
  · exact .inr ⟨w.goes i H lt (hG i H hi p), Pv (i + 1), fun H' p' => ⟨n - (i + 1), by omega, rfl, lt, p'⟩, fun x H' y => hs i x H H' lt p (w.yields i H x H' lt (hG i H hi p) y)⟩
  · obtain rfl : i = n := Nat.le_antisymm hi (Nat.le_of_not_lt lt)
    exact .inl ⟨w.stops H (hG i H hi p), hd H p⟩
theorem dct_it (w : Walk J n Gd Y) {o0 : HO} {tk tv : TE} {H1 : Hp} {D : Addr} {Qd : Hp → Prop} (Pv : Nat → Hp → Prop) (h0 : Pv 0 (upd H1 D o0)) (hG : ∀ i H, i ≤ n → Pv i H → Gd H)
    (hs : ∀ i x H H', i < n → Pv i H → Y i H x H' → g x (wipe σ vs) H' fun σ2 H2 => wipe σ2 vs = wipe σ vs ∧ tt σ2 H2 fun b H3 => if b = true then tk σ2 H3 fun y H4 => tv σ2 H4 fun z H5 => ∃ H6, DPut H5 D y z H6 ∧ Pv (i + 1) H6 else Pv (i + 1) H3)
    (hd : ∀ H, Pv n H → Qd H) : ∃ W : Nat → Nat → Hp → Prop, (∃ m, W 0 m (upd H1 D o0)) ∧ ∀ i m H, W i m H →
      (J.stop i H ∧ Qd H) ∨ (J.go i H ∧ ∃ Nx : Hp → Prop, (∀ H', Nx H' → ∃ m', m' < m ∧ W (i + 1) m' H') ∧ ∀ x H', J.yld i H x H' → g x (wipe σ vs) H' fun σ2 H2 => wipe σ2 vs = wipe σ vs ∧ tt σ2 H2 fun b H3 =>
        if b = true then tk σ2 H3 fun y H4 => tv σ2 H4 fun z H5 => ∃ H6, DPut H5 D y z H6 ∧ Nx H6 else Nx H3) := by
  refine ⟨fun i m H => m = n - i ∧ i ≤ n ∧ Pv i H, ⟨n, rfl, Nat.zero_le _, h0⟩, ?_⟩
  rintro i m H ⟨rfl, hi, p⟩
  by_cases lt : i < n
  · exact .inr ⟨w.goes i H lt (hG i H hi p), Pv (i + 1), fun H' p' => ⟨n - (i + 1), by omega, rfl, lt, p'⟩, fun x H' y => hs i x H H' lt p (w.yields i H x H' lt (hG i H hi p) y)⟩
  · obtain rfl : i = n := Nat.le_antisymm hi (Nat.le_of_not_lt lt)
    exact .inl ⟨w.stops H (hG i H hi p), hd H p⟩
end
end Sq

set_option Elab.async false
set_option linter.all false
set_option maxRecDepth 100000
set_option maxHeartbeats 4000000
/-! Cells: pairs of whole numbers as tuples, as keys; their order; min of a dict of cells. -/
namespace Sq
open PySem PySem.Spec PyProof.Rows L2
abbrev Cell := Int × Int
def cV (c : Cell) : List V := [.int c.1, .int c.2]
def cK (c : Cell) : List Key := [.inl c.1, .inl c.2]
theorem cK_V (c : Cell) : (cK c).map kV = cV c := rfl
theorem cK_inj {c d : Cell} (h : cK c = cK d) : c = d := by
  obtain ⟨c1, c2⟩ := c
  obtain ⟨d1, d2⟩ := d
  have h : ([.inl c1, .inl c2] : List Key) = [.inl d1, .inl d2] := h
  simp only [List.cons.injEq, Sum.inl.injEq, and_true] at h
  rw [h.1, h.2]
/-- the cell c stands at q -/
def At (H : Hp) (q : Addr) (c : Cell) : Prop := H q = some (.tup (cV c))
theorem At.new {H : Hp} {q p : Addr} {c : Cell} {o : HO} (h : At H q c) (hp : H p = none) : At (upd H p o) q c := by
  unfold At
  rw [upd_ne (ne_of_none h hp)]
  exact h
theorem At.off {H : Hp} {q p : Addr} {c : Cell} {o u : HO} (h : At H q c) (hp : H p = some u) (hu : ∀ xs, u ≠ .tup xs) : At (upd H p o) q c := by
  unfold At
  rw [upd_ne (ne_of h hp (fun e => hu _ e.symm))]
  exact h
theorem At.sqT {K : PySem.W.Frag} {H : Hp} {q : Addr} {c : Cell} (h : At H q c) : SqT K H q (cV c) := SqT.of h
/-- the cells' order -/
def cLt (a b : Cell) : Bool := decide (a.1 < b.1 ∨ (a.1 = b.1 ∧ a.2 < b.2))
theorem cLt_lex (a b : Cell) : HT.lexLt [a.1, a.2] [b.1, b.2] = cLt a b := by
  unfold cLt
  rw [HT.lexLt_cons, HT.lexLt_cons, HT.lexLt_nil_nil]
  by_cases h1 : a.1 = b.1
  · rw [if_pos h1]
    by_cases h2 : a.2 = b.2
    · rw [if_pos h2]
      exact (decide_eq_false (by omega)).symm
    · rw [if_neg h2]
      exact decide_eq_decide.mpr (by omega)
  · rw [if_neg h1]
    exact decide_eq_decide.mpr (by omega)
theorem cLt_irr (a : Cell) : cLt a a = false := decide_eq_false (by omega)
theorem cLt_trans {a b c : Cell} (h1 : cLt a b = true) (h2 : cLt b c = true) : cLt a c = true := by
  have h1 := of_decide_eq_true h1
  have h2 := of_decide_eq_true h2
  exact decide_eq_true (by omega)
theorem cLt_tri {a b : Cell} (h1 : cLt a b = false) (h2 : cLt b a = false) : a = b := by
  have h1 := of_decide_eq_false h1
  have h2 := of_decide_eq_false h2
  exact Prod.ext (by omega) (by omega)
/-- the best by a relation that is not reflexive and carries over -/
theorem best_of {bt : Nat → Nat → Bool} (irr : ∀ i, bt i i = false) (tr : ∀ i j k, bt i j = true → bt j k = true → bt i k = true) : ∀ k, argBest bt k ≤ k ∧ ∀ i, i ≤ k → bt i (argBest bt k) = false
  | 0 => ⟨Nat.le_refl _, fun i hi => by
    obtain rfl : i = 0 := by omega
    exact irr 0⟩
  | k + 1 => by
    obtain ⟨h1, h2⟩ := best_of irr tr k
    unfold argBest
    by_cases hb : bt (k + 1) (argBest bt k) = true
    · rw [if_pos hb]
      refine ⟨Nat.le_refl _, fun i hi => ?_⟩
      rcases Nat.lt_or_ge k i with q | q
      · obtain rfl : i = k + 1 := by omega
        exact irr _
      · cases e : bt i (k + 1) with
        | false => rfl
        | true => exact absurd (tr _ _ _ e hb) (by rw [h2 i q]; exact Bool.false_ne_true)
    · rw [if_neg hb]
      refine ⟨Nat.le_succ_of_le h1, fun i hi => ?_⟩
      rcases Nat.lt_or_ge k i with q | q
      · obtain rfl : i = k + 1 := by omega
        exact Bool.eq_false_iff.mpr hb
      · exact h2 i q
section
variable {X : Cx}
/-- min(d), d a dict whose keys are cells, not empty -/
def rMinC : List V → Hp → VK → Prop := fun vs H Q => ∃ (a : Addr) (kvs : List (List Key × V)) (cs : List Cell), vs = [V.ref a] ∧ H a = some (.dT kvs) ∧ kvs.map (·.1) = cs.map cK ∧ cs ≠ [] ∧ ∀ c q, c ∈ cs → (∀ d ∈ cs, cLt d c = false) → At H q c → Q (.ref q) H
theorem cr_minC (calm : X.calm = true) (hu : X.A.units + 2 < cLine) : CallR X (.builtin "min") rMinC := by
  intro pins s σ H vs us Q I r h
  obtain ⟨a, kvs, cs, rfl, ha, hk, hne, q⟩ := h
  rw [Vals.ref1 r]
  obtain ⟨_, hsys, xs, rel, o, es, ep, ho, hx, hdat, hes, his, hn⟩ := dt_of I.hok ha
  have hlt : a < s.heap.objs.size := Heap.lt_size ho
  have lk : kvs.length = cs.length := by
    have e := congrArg List.length hk
    rwa [List.length_map, List.length_map] at e
  have lx : kvs.length = xs.length := Paired.length rel
  have le : es.size = xs.length := size_of_entries hes
  have pos : 0 < cs.length := List.length_pos_iff.mpr hne
  have item : ∀ (i : Nat) (v : Value), (∃ en : DictEntry, es[i]? = some en ∧ v = en.key) → ∃ (c : Cell) (b : Addr), cs[i]? = some c ∧ v = .ref b ∧ At H b c := by
    rintro i v ⟨en, hen, rfl⟩
    have e1 := entry_at hes i
    rw [hen] at e1
    cases hxi : xs[i]? with
    | none =>
      rw [hxi] at e1
      exact nomatch (show some en = none from e1)
    | some x =>
      rw [hxi] at e1
      have e2 : en = entryOfKey (tupleKind (mixKind X.prog X.w)) x := Option.some.inj e1
      obtain ⟨kv, hkv, r1, r2, _⟩ := DX.pget rel hxi
      have e3 : (kvs.map (·.1))[i]? = some kv.1 := by rw [List.getElem?_map, hkv]; rfl
      rw [hk, List.getElem?_map] at e3
      obtain ⟨c, hc, ec⟩ := Option.map_eq_some_iff.mp e3
      refine ⟨c, x.2.1, hc, by rw [e2]; rfl, ?_⟩
      have r2 : H x.2.1 = some (.tup (kv.1.map kV)) := r2
      unfold At
      rw [r2, ← ec, cK_V]
  have cmp : CmpIn X.prog X.w X.A.in1 .Lt s.heap (fun i v => ∃ en : DictEntry, es[i]? = some en ∧ v = en.key) (fun i j => cLt (cs.getD i (0, 0)) (cs.getD j (0, 0))) := by
    intro i j vi vj z Qz Ez keep hi hj hq
    obtain ⟨c, b, hc, rfl, hb⟩ := item i vi hi
    obtain ⟨d, b2, hd, rfl, hb2⟩ := item j vj hj
    have g1 : cs.getD i (0, 0) = c := by rw [List.getD_eq_getElem?_getD, hc]; rfl
    have g2 : cs.getD j (0, 0) = d := by rw [List.getD_eq_getElem?_getD, hd]; rfl
    have hq : Qz (Value.bool (cLt (cs.getD i (0, 0)) (cs.getD j (0, 0)))) z := hq
    rw [g1, g2, ← cLt_lex] at hq
    obtain ⟨its, rv, t1, _⟩ := I.tuple (At.sqT hb)
    obtain ⟨its2, rv2, t2, _⟩ := I.tuple (At.sqT hb2)
    have i1 : IntsAre its.toArray.toList [c.1, c.2] := L2.intsAre_of (by simpa [cV] using rv)
    have i2 : IntsAre its2.toArray.toList [d.1, d.2] := L2.intsAre_of (by simpa [cV] using rv2)
    exact HT.lt_tupInts (t1.keeps keep) (t2.keeps keep) i1 i2 (by show X.A.units + 1 < cLine; omega) hq
  refine call_min_walkH (iter_keys hsys ho hx hdat ?_)
  have W := walks_raw (prog := X.prog) (w := X.w) (A := X.A.in1) (I.ok.hd calm) s.heap.objs.size a (Nat.ne_of_lt hlt) hdat
  refine ⟨s.heap.objs.size, _, _, _, _, _, _, s.heap, _, rfl, W.toS, ⟨⟨_, Heap.get?_push_size _ rfl, rfl, rfl⟩, Heap.get?_push_of_some _ ho⟩, fun b hb => ?_, by rw [le, ← lx, lk]; exact pos, fun b u e hb => ?_, fun b u e => Heap.get?_push_of_some _ e, cmp, fun v s' hP mv => ?_⟩
  · show b < (s.heap.push _).objs.size
    rw [Heap.size_push]
    rcases List.mem_cons.mp hb with e | hb
    · rw [e]; exact Nat.lt_succ_self _
    · rw [List.mem_singleton.mp hb]; exact Nat.lt_succ_of_lt hlt
  · have e1 : b = s.heap.objs.size := List.mem_singleton.mp hb
    have e2 := Heap.lt_size e
    rw [e1] at e2
    exact absurd e2 (Nat.lt_irrefl _)
  · obtain ⟨c, b, hc, rfl, hb⟩ := item _ v hP
    obtain ⟨b1, b2⟩ := best_of (bt := fun i j => cLt (cs.getD i (0, 0)) (cs.getD j (0, 0))) (fun i => cLt_irr _) (fun i j k => cLt_trans) (es.size - 1)
    have gc : cs.getD (argBest (fun i j => cLt (cs.getD i (0, 0)) (cs.getD j (0, 0))) (es.size - 1)) (0, 0) = c := by rw [List.getD_eq_getElem?_getD, hc]; rfl
    have I2 : Inv X pins σ H s' := by
      obtain ⟨h', g', d', t', o'⟩ := s'
      obtain ⟨mh, mg, md, mo, _⟩ := mv
      have mo : o' = s.os := mo
      have md : d' = s.drawn := md
      have mg : g' = s.gens := mg
      subst mo md mg
      refine I.kept (t' := t') fun b u e => mh b u (fun hm => ?_) (Heap.get?_push_of_some _ e)
      have e1 : b = s.heap.objs.size := List.mem_singleton.mp hm
      have e2 := Heap.lt_size e
      rw [e1] at e2
      exact absurd e2 (Nat.lt_irrefl _)
    refine ⟨.ref b, H, I2, rfl, q c b (List.mem_of_getElem? hc) (fun d hd => ?_) hb⟩
    obtain ⟨i, hi⟩ := List.mem_iff_getElem?.mp hd
    have il : i < cs.length := (List.getElem?_eq_some_iff.mp hi).1
    have w := b2 i (by omega)
    have w : cLt (cs.getD i (0, 0)) (cs.getD (argBest (fun i j => cLt (cs.getD i (0, 0)) (cs.getD j (0, 0))) (es.size - 1)) (0, 0)) = false := w
    rw [gc, List.getD_eq_getElem?_getD, hi] at w
    exact w
end
end Sq

set_option Elab.async false
set_option linter.all false
set_option maxRecDepth 100000
set_option maxHeartbeats 4000000
/-! *d in a list display, d a dict whose keys are tuples. -/
namespace Sq
open PySem PySem.Spec PyProof.Rows L2
theorem collect_src {prog : Program} {w : World} {A : Around} {E : Value → Shared → Prop} {s : Shared} {T : String} {r d : Addr} {n : Nat} {P : Nat → Value → Prop} {OK : Heap → Prop} {Q : List Value → Shared → Prop}
    (K : PySem.W.KdlSrc prog w T r d n P OK) (calm : A.handled = none) (ok : OK s.heap) (hn : n ≤ sizeLine)
    (q : ∀ (h' : Heap) (tk : Nat) (acc : Array Value), (∀ b o, s.heap.get? b = some o → h'.get? b = some o) → ItemsOf P acc n → Q acc.toList { s with heap := h', toks := tk }) : wpAny (model prog w) A (collect (.ref r)) Q E s := by
  unfold collect
  refine wpAny_bind (wpAny_runValue (codeAny_builtin F.entry_proto_collect ?_))
  rw [Around.under_plainId F.plain_proto_collect _]
  show wpAny _ A.in1 (newList [] >>= fun l => again (.builtin "list.__iadd__" ⟨[l, .ref r], []⟩)) _ _ s
  refine wpAny_bind (wpAny_newObj_type (wpAny_pure ⟨plainId_quiet F.plain_list_iadd _, codeAny_builtin F.entry_list_iadd ?_⟩))
  rw [Around.under_plainId F.plain_list_iadd _]
  have at0 : (s.heap.push { cls := .type "list", data := .seq ([] : List Value).toArray }).get? s.heap.objs.size = some { cls := .type "list", data := .seq #[] 0 } := Heap.get?_push_size _ rfl
  have lt := K.there _ ok
  have grow : ∀ b o, s.heap.get? b = some o → (s.heap.push { cls := .type "list", data := .seq ([] : List Value).toArray }).get? b = some o := fun b o e => Heap.get?_push_of_some _ e
  show wpAny _ A.in1 (Builtin.List.listExtendWith (.ref s.heap.objs.size) (.ref r) (.ref s.heap.objs.size)) _ _ _
  refine wpAny_mono (PySem.W.kdl_extend (A := A) (R := fun rr z => rr = .ok (.ret (.ref s.heap.objs.size)) ∧ ∃ (h' : Heap) (tk : Nat) (acc : Array Value) (c' : Nat), z = { s with heap := h', toks := tk } ∧
      (∀ b o, s.heap.get? b = some o → h'.get? b = some o) ∧ h'.get? s.heap.objs.size = some { cls := .type "list", dict := none, data := .seq acc c', slots := #[] } ∧ ItemsOf P acc n)
    (s := { s with heap := s.heap.push { cls := .type "list", data := .seq ([] : List Value).toArray } }) K calm (K.keep _ _ ok fun b _ o e => grow b o e) s.heap.objs.size (Nat.ne_of_gt lt.1) (Nat.ne_of_gt lt.2) _ 0 at0
    (fun h' tk acc c' hk e hi => ⟨rfl, h', tk, acc, c', rfl, fun b o z => hk b o (Nat.ne_of_lt (Heap.lt_size z)) (grow b o z), e, hi⟩) hn) (fun fin z h => ?_) fun e z h => absurd h.1 (by simp)
  cases fin with
  | done f =>
    obtain ⟨ef, h', tk, acc, c', rfl, hk, hS, hi⟩ := h
    cases ef
    show wpAny _ A (load s.heap.objs.size >>= _) _ _ _
    exact wpAny_bind (wpAny_load hS (wpAny_pure (q h' tk acc hk hi)))
  | again c' =>
    refine ⟨h.1, codeAny_mono h.2 fun rr z' hr' => ?_⟩
    obtain ⟨rfl, h', tk, acc, c', rfl, hk, hS, hi⟩ := hr'
    show wpAny _ A (load s.heap.objs.size >>= _) _ _ _
    exact wpAny_bind (wpAny_load hS (wpAny_pure (q h' tk acc hk hi)))
section
variable {X : Cx} {pins : List (Addr × Obj)} {σ : L2.St} {H : Hp} {s : Shared}
end
end Sq

set_option Elab.async false
set_option linter.all false
set_option maxRecDepth 100000
set_option maxHeartbeats 4000000
/-! d.pop(k), the key a tuple that is there. -/
namespace Sq
open PySem PySem.Spec PyProof.Rows L2
end Sq

set_option Elab.async false
set_option linter.all false
set_option maxRecDepth 100000
set_option maxHeartbeats 4000000
/-! raise C(e, ..), C an error that keeps its parameters. -/
namespace Sq
open PySem PySem.Spec PyProof.Rows L2
def tRz (C : Addr) (ns : List Str) (ta : TA) : L2.St → Hp → XK → Prop := fun σ H Q => ta σ H fun vs H1 => vs.length = ns.length ∧ ns ≠ [] ∧ ∀ d, H1 d = none → Q (.ref C) (some d) (upd H1 d (.xd (ns.zip vs).reverse))
section
variable {X : Cx} {C fI : Addr} {ns : List Str}
theorem mk_err {pins : List (Addr × Obj)} {σ : L2.St} {H : Hp} {s : Shared} {us : List Value} {vs : List V} {Q : XK} (T : SErr X.prog X.K C fI ns) (rz : Raises X (.ref C)) (hr : Room 1 X.A) (I : Inv X pins σ H s) (r : Vals vs us) (hl : vs.length = ns.length) (ne : ns ≠ [])
    (q : ∀ d, H d = none → Q (.ref C) (some d) (upd H d (.xd (ns.zip vs).reverse))) : wpAny (model X.prog X.w) X.A (call (.ref C) us) (MkP X pins σ Q) X.xe s := by
  obtain ⟨nm, q0, N, bs, bm, sn, sub, ab, col, dd, k0, k1, k2, k3, k5, hC, hbm, _⟩ := T.cls
  obtain ⟨mb, hmb, hbb⟩ := I.mod.blt
  have hlim := I.nolimit
  have hul : us.length = ns.length := by rw [← r.length]; exact hl
  have hdp := hr.dp
  obtain ⟨hp, g, dr, tk, os⟩ := s
  generalize e2 : (hp.push (PySem.W.kdv_tup us)).push (PySem.HandSPX.excO C hp.objs.size) = hp2
  have kk : ∀ b o, hp.get? b = some o → hp2.get? b = some o := fun b o e => by rw [← e2]; exact Heap.get?_push_of_some _ (Heap.get?_push_of_some _ e)
  have hget : hp2.get? (hp.objs.size + 1) = some (PySem.HandSPX.excO C hp.objs.size) := by rw [← e2]; heap_get
  have sz2 : hp2.objs.size = hp.objs.size + 2 := by rw [← e2, Heap.size_push, Heap.size_push]
  have KX : X.K.In hp := I.kIn
  have hKx : X.K.lookup (hp.objs.size + 1) = none := by
    cases e : X.K.lookup (hp.objs.size + 1) with
    | none => rfl
    | some o => exact absurd (Nat.lt_of_succ_lt (Heap.lt_size (KX _ _ e))) (Nat.lt_irrefl _)
  have hus : us.length ≤ sizeLine := by
    have := T.len
    rw [hul, sizeLine_eq]
    omega
  refine wpAny_call (PySem.HandSPX.call_own F.excBase_ValueError (fun Y => PySem.HandSPX.refsVE_contains Y bm hbm) (KX _ _ hC) (PySem.W.looks_findIn KX T.iC) (fun self => PySem.W.bind_fn KX self T.tI) hus ?_)
  rw [e2]
  refine init_run (s := ⟨hp2, g, dr, tk, os⟩) (mg := X.mg) (mb := mb) T (PySem.W.Frag.In.keeps KX kk) hKx (I.mod.glob.keeps fun b o e => kk b o (I.bk b o e)) (hmb.keeps fun b o e => kk b o (I.bk b o e))
    ((hbb _ (by decide +kernel)).trans (by first | boot_by_name | kernel_rfl)) (hlim.keeps kk) hget hul (by show X.A.depth + 1 < recursionLimit; omega) (fun h' tk' Z => ⟨rfl, ?_⟩)
  have na : H (hp.objs.size + 1) = none := I.hok.fresh (Nat.le_succ _)
  obtain ⟨t1, ⟨e, _⟩ | ⟨dx, _, d1, d2, d3, d4⟩⟩ := Z.obj
  · have z := congrArg List.length e
    rw [List.length_reverse, List.length_zip, hul, Nat.min_self] at z
    exact absurd (List.length_eq_zero_iff.mp z) ne
  have d1 : hp2.objs.size ≤ dx := d1
  have d1' : hp.objs.size ≤ dx := by
    rw [sz2] at d1
    exact Nat.le_trans (Nat.le_add_right _ 2) d1
  have nd : H dx = none := I.hok.fresh d1'
  have old : ∀ b o, hp.get? b = some o → h'.get? b = some o := fun b o e => Z.keep b o (Nat.ne_of_lt (Nat.lt_succ_of_lt (Heap.lt_size e))) (kk b o e)
  have ob1 : HOk X.prog X.w (upd H dx (exd dx (ns.zip vs).reverse)) h' := I.hok.laid old d1' (exd_ok d4 (rev_rel ns r))
  have na' : upd H dx (exd dx (ns.zip vs).reverse) (hp.objs.size + 1) = none := by
    rw [upd_ne (Ne.symm d2)]
    exact na
  have ob2 : HOk X.prog X.w (upd (upd H dx (exd dx (ns.zip vs).reverse)) (hp.objs.size + 1) (exo (hp.objs.size + 1) C (some dx))) h' := ob1.laidN (fun _ _ q => q) na' (exo_ok d3)
  have nedx : ∀ b o, hp2.get? b = some o → b ≠ dx := fun b o e z => by
    rw [z] at e
    exact absurd (Heap.lt_size e) (Nat.not_lt_of_le d1)
  have same : ∀ b, b ≠ hp.objs.size + 1 → b ≠ dx → upd (upd H dx (exd dx (ns.zip vs).reverse)) (hp.objs.size + 1) (exo (hp.objs.size + 1) C (some dx)) b = H b := fun b h1 h2 => by rw [upd_ne h1, upd_ne h2]
  have was : ∀ b u, upd H (hp.objs.size + 1) (exo (hp.objs.size + 1) C none) b = some u → (∀ dd, u ≠ exo (hp.objs.size + 1) C dd) → b ≠ hp.objs.size + 1 ∧ b ≠ dx ∧ H b = some u := fun b u e hu => by
    have h1 : b ≠ hp.objs.size + 1 := fun z => by
      rw [z, upd_same] at e
      exact hu _ (Option.some.inj e).symm
    rw [upd_ne h1] at e
    exact ⟨h1, fun z => (by rw [z, nd] at e; cases e), e⟩
  have un : Un (frs X.stack) [] (upd H (hp.objs.size + 1) (exo (hp.objs.size + 1) C none)) (upd (upd H dx (exd dx (ns.zip vs).reverse)) (hp.objs.size + 1) (exo (hp.objs.size + 1) C (some dx))) hp2 h' := by
    have neA : ∀ b, upd H (hp.objs.size + 1) (exo (hp.objs.size + 1) C none) b = none → b ≠ hp.objs.size + 1 := fun b n z => by
      rw [z, upd_same] at n
      cases n
    refine ⟨fun b o e n _ _ => Z.keep b o (neA b n) e, fun b o e n _ _ => ⟨o.slots, Z.keep b o (neA b n) e⟩, fun b o e n _ => ?_, fun b o e _ => ?_, fun b xs e => ?_, fun b o u e => ?_, fun b ps e => ?_⟩
    · rw [same b (neA b n) (nedx b o e), ← n, upd_ne (neA b n)]
    · by_cases hb : b = hp.objs.size + 1
      · rw [hb]
        exact ⟨_, d3⟩
      · exact ⟨o, Z.keep b o hb e⟩
    · obtain ⟨h1, h2, h3⟩ := was b _ e fun dd z => exo_tup z.symm
      rw [same b h1 h2, h3]
    · obtain ⟨h1, h2, h3⟩ := was b _ e fun dd z => exo_frz z.symm
      rw [same b h1 h2, h3]
    · obtain ⟨h1, h2, h3⟩ := was b _ e fun dd z => exo_tbl z.symm
      exact ⟨#[], by rw [same b h1 h2, h3]; simp⟩
  refine mk_end rz I (Nat.le_succ _) kk un ob2 rfl I.bare upd_same (by rw [upd_ne d2]; exact upd_same) nd ?_
  have eH : upd (del (upd (upd H dx (exd dx (ns.zip vs).reverse)) (hp.objs.size + 1) (exo (hp.objs.size + 1) C (some dx))) (hp.objs.size + 1)) dx (.xd (ns.zip vs).reverse) = upd H dx (.xd (ns.zip vs).reverse) := by
    funext b
    by_cases hb : b = dx
    · rw [hb, upd_same, upd_same]
    · rw [upd_ne hb, upd_ne hb]
      by_cases ha : b = hp.objs.size + 1
      · rw [ha, del_same, na]
      · rw [del_ne ha, same b ha hb]
  rw [eH]
  exact q dx nd
theorem pmk_err {x : Str} {e : Expr} {es : List Expr} {ta : TA} {p pos : Pos} (T : SErr X.prog X.K C fI ns) (rz : Raises X (.ref C)) (hr : Room 1 X.A) (hm : X.mg x = some (.ref C)) (ha : PA X (e :: es) ta) (hg : Gl X x := by rfl)
    (hdb : (x == ("__debug__" : Str)) = false := by decide) (he : starEach (e :: es) X.env = (false, eval e X.env) :: starEach es X.env := by rfl) (hpl : (backTo pos (starEach es X.env)).any (·.1) = false := by rfl) :
    PMk X (.Call (.Name x p) (e :: es) [] pos) (tRz C ns ta) := by
  intro pins s σ H Q I h
  refine wpAny_Call_Name_kw (ld_glob I hg hm ?_ hdb)
  exact PySem.W.callWith_K (h₀ := X.base) I.ok.mod.kin T.kC (thn (ha.run pos pins s σ H _ I h) fun us s1 ⟨vs, H1, I1, r1, hl, ne, q1⟩ => ⟨I1.kIn, mk_err T rz hr I1 r1 hl ne q1⟩) he hpl
end
end Sq

set_option Elab.async false
set_option linter.all false
set_option maxRecDepth 100000
set_option maxHeartbeats 4000000
/-! {k: v}, one pair, the key of any kind. -/
namespace Sq
open PySem PySem.Spec PyProof.Rows L2
def tDisp1 (o0 : HO) (tk tv : TE) : TE := fun σ H Q => ∀ p, H p = none → tk σ (upd H p o0) fun x H1 => tv σ H1 fun y H2 => ∃ H3, DPut H2 p x y H3 ∧ Q (.ref p) H3
def onePair (q : V → V → Hp → Prop) : List (V × V) → Hp → Prop
  | [p], H => q p.1 p.2 H
  | _, _ => False
theorem onePair_of {q : V → V → Hp → Prop} {H : Hp} : ∀ {ps : List (V × V)}, onePair q ps H → ∃ x y, ps = [(x, y)] ∧ q x y H
  | [p], h => ⟨p.1, p.2, rfl, h⟩
theorem pe_disp1 {X : Cx} {o0 : HO} {k v : Expr} {pos : Pos} {tk tv : TE} (ho : o0 = .dK [] ∨ o0 = .dT []) (hu : X.A.units + 1 < cLine) (hk : PE X k tk) (hv : PE X v tv) : PE X (.Dict [some k] [v] pos) (tDisp1 o0 tk tv) := by
  refine ⟨fun pins s σ H Q I h => ?_⟩
  have fresh := I.hok.fresh (Nat.le_refl s.heap.objs.size)
  have I1 : Inv X pins σ (upd H s.heap.objs.size o0) { s with heap := s.heap.push { cls := .type "dict", data := .dict #[] } } := by
    refine I.laid (t' := s.toks) (fun _ _ q => Heap.get?_push_of_some _ q) (Nat.le_refl _) ?_
    rcases ho with rfl | rfl
    · exact dk_empty s.heap I.big
    · exact dt_empty s.heap I.big
  refine wpAny_Dict_any rfl rfl (List.cons_ne_nil _ _) (by show 1 ≤ 15; decide) ?_
  refine thn ((pps_cons hk hv pps_nil).run pins _ σ _ (onePair fun x y H2 => ∃ H3, DPut H2 s.heap.objs.size x y H3 ∧ Q (.ref s.heap.objs.size) H3) I1 (h _ fresh)) fun vs z hz => ?_
  obtain ⟨ps, H2, I2, rel, q⟩ := hz
  obtain ⟨x, y, rfl, H3, put, q⟩ := onePair_of q
  cases rel with
  | cons rr r0 =>
    cases r0
    unfold storeAll
    rw [List.forIn_cons]
    refine wpAny_bind (wpAny_bind (dc_put hu I2 put rr.1 rr.2 fun z' I3 => wpAny_pure ?_))
    show wpAny _ _ (forIn ([] : List (Value × Value)) PUnit.unit _) _ _ _
    rw [List.forIn_nil]
    exact wpAny_pure ⟨.ref s.heap.objs.size, H3, I3, rfl, q⟩
end Sq

set_option Elab.async false
set_option linter.all false
set_option maxRecDepth 100000
set_option maxHeartbeats 4000000
/-! The mathematics of hanging together. -/
namespace Sq
/-- the four beside a cell -/
def besideC (c : Cell) : List Cell := [(c.1 - 1, c.2), (c.1, c.2 - 1), (c.1 + 1, c.2), (c.1, c.2 + 1)]
theorem beside_iff {c d : Cell} : d ∈ besideC c ↔ (d.1 = c.1 - 1 ∧ d.2 = c.2) ∨ (d.1 = c.1 ∧ d.2 = c.2 - 1) ∨ (d.1 = c.1 + 1 ∧ d.2 = c.2) ∨ (d.1 = c.1 ∧ d.2 = c.2 + 1) := by
  obtain ⟨c1, c2⟩ := c
  obtain ⟨d1, d2⟩ := d
  simp [besideC]
theorem beside_symm {c d : Cell} (h : d ∈ besideC c) : c ∈ besideC d := by
  rw [beside_iff] at h ⊢
  omega
theorem beside_ne {c d : Cell} (h : d ∈ besideC c) : d ≠ c := fun e => by
  subst e
  rw [beside_iff] at h
  omega
/-- what is reached from a within L -/
inductive Reach (L : List Cell) (a : Cell) : Cell → Prop where
  | refl : Reach L a a
  | step {b c : Cell} : Reach L a b → c ∈ besideC b → c ∈ L → Reach L a c
theorem Reach.trans {L : List Cell} {a b c : Cell} (h : Reach L a b) (k : Reach L b c) : Reach L a c := by
  induction k with
  | refl => exact h
  | step _ hb hc ih => exact .step ih hb hc
theorem Reach.mem {L : List Cell} {a b : Cell} (h : Reach L a b) (ha : a ∈ L) : b ∈ L := by
  cases h with
  | refl => exact ha
  | step _ _ hc => exact hc
theorem Reach.symm {L : List Cell} {a b : Cell} (h : Reach L a b) (ha : a ∈ L) : Reach L b a := by
  induction h with
  | refl => exact .refl
  | @step b c hab hb hc ih => exact (Reach.step .refl (beside_symm hb) (hab.mem ha)).trans ih
/-- the cells hang together -/
def Hangs (L : List Cell) : Prop := L ≠ [] ∧ ∀ a ∈ L, ∀ b ∈ L, Reach L a b
theorem hangs_from {L : List Cell} {m : Cell} (hm : m ∈ L) : Hangs L ↔ ∀ b ∈ L, Reach L m b :=
  ⟨fun h b hb => h.2 m hm b hb, fun h => ⟨List.ne_nil_of_mem hm, fun a ha b hb => ((h a ha).symm hm).trans (h b hb)⟩⟩
theorem len_le {α : Type} [DecidableEq α] : ∀ {xs ys : List α}, xs.Nodup → (∀ x ∈ xs, x ∈ ys) → xs.length ≤ ys.length
  | [], _, _, _ => Nat.zero_le _
  | x :: xs, ys, nd, h => by
    have nd1 := List.nodup_cons.mp nd
    have m := h x (List.mem_cons_self ..)
    have k := len_le (ys := ys.erase x) nd1.2 fun y hy => (List.mem_erase_of_ne (fun e => nd1.1 (by rw [← e]; exact hy))).mpr (h y (List.mem_cons_of_mem _ hy))
    rw [List.length_erase_of_mem m] at k
    have p : 0 < ys.length := List.length_pos_of_mem m
    show xs.length + 1 ≤ _
    omega
/-- as many, and within: the same -/
theorem all_of_len {α : Type} [DecidableEq α] {xs ys : List α} (nd : xs.Nodup) (h : ∀ x ∈ xs, x ∈ ys) (ny : ys.Nodup) (l : xs.length = ys.length) : ∀ y ∈ ys, y ∈ xs := fun y hy => by
  by_cases m : y ∈ xs
  · exact m
  · have k := len_le (xs := y :: xs) (ys := ys) (List.nodup_cons.mpr ⟨m, nd⟩) fun z hz => (List.mem_cons.mp hz).elim (fun e => e ▸ hy) (h z)
    have k : xs.length + 1 ≤ ys.length := k
    omega
theorem hangs_len {L F : List Cell} {m : Cell} (hm : m ∈ L) (nL : L.Nodup) (nF : F.Nodup) (hF : ∀ x, x ∈ F ↔ Reach L m x) : F.length = L.length ↔ Hangs L := by
  rw [hangs_from hm]
  have sub : ∀ x ∈ F, x ∈ L := fun x hx => ((hF x).mp hx).mem hm
  constructor
  · exact fun l b hb => (hF b).mp (all_of_len nF sub nL l b hb)
  · exact fun h => Nat.le_antisymm (len_le nF sub) (len_le nL fun x hx => (hF x).mpr (h x hx))
theorem hangs_perm {L M : List Cell} (h : ∀ x, x ∈ L ↔ x ∈ M) : Hangs L ↔ Hangs M := by
  have r : ∀ {L M : List Cell}, (∀ x, x ∈ L ↔ x ∈ M) → ∀ {a b}, Reach L a b → Reach M a b := fun {L M} h {a b} k => by
    induction k with
    | refl => exact .refl
    | step _ hb hc ih => exact .step ih hb ((h _).mp hc)
  have one : ∀ {L M : List Cell}, (∀ x, x ∈ L ↔ x ∈ M) → Hangs L → Hangs M := fun {L M} h k => by
    refine ⟨fun e => ?_, fun a ha b hb => r h (k.2 a ((h a).mpr ha) b ((h b).mpr hb))⟩
    obtain ⟨x, hx⟩ := List.exists_mem_of_ne_nil _ k.1
    have q := (h x).mp hx
    rw [e] at q
    cases q
  exact ⟨one h, one fun x => (h x).symm⟩
end Sq

set_option Elab.async false
set_option linter.all false
set_option maxRecDepth 100000
set_option maxHeartbeats 4000000
/-! Bundles: a def of the module with its promise; the built-ins' names; a while by what may be hidden. -/
namespace Sq
open PySem PySem.Spec PyProof.Rows L2
/-- the built-ins' names are the module's own nowhere -/
structure Bl (mg : Str → Option Value) : Prop where
  int : mg "int" = none
  len : mg "len" = none
  list : mg "list" = none
  tuple : mg "tuple" = none
  bool : mg "bool" = none
  isinstance : mg "isinstance" = none
  range : mg "range" = none
  sorted : mg "sorted" = none
  abs : mg "abs" = none
  min : mg "min" = none
  max : mg "max" = none
  set : mg "set" = none
  any : mg "any" = none
/-- the module's def x keeps the promise sp -/
structure Df (P : Program) (w : World) (K : PySem.W.Frag) (mg : Str → Option Value) (base : Heap) (CX : CXT) (k : Nat) (x : Str) (ps : List Str) (sp : Sp) : Prop where
  ex : ∃ f fd, mg x = some (.ref f) ∧ PySem.W.keepIn K (.ref f) = true ∧ Binds K fd ps [] ∧ FnOk P w K mg base CX k f fd ps sp
section
variable {X : Cx} {CX : CXT} {j k : Nat} {x : Str} {ps : List Str} {sp : Sp} {E : XK} {p pos : Pos} {e : Expr} {es : List Expr} {t : TA}
theorem pe_df (D : Df X.prog X.w X.K X.mg X.base CX k x ps sp) (hr : Room j X.A) (hg : Gl X x) (hx : Passes CX X E) (ha : PA X (e :: es) t) (hkj : k ≤ j := by decide) (hdb : (x == ("__debug__" : Str)) = false := by decide)
    (he : starEach (e :: es) X.env = (false, eval e X.env) :: starEach es X.env := by rfl) (hpl : (backTo pos (starEach es X.env)).any (·.1) = false := by rfl) : PE X (.Call (.Name x p) (e :: es) [] pos) (tCall sp [] E t) := by
  obtain ⟨f, fd, g, kp, b, F⟩ := D.ex
  exact pe_call F (hr.mono hkj) hg g kp b .nil hx ha hdb he hpl
end
/-- all but what stands at S stays -/
def Kp (S : List Addr) (H H' : Hp) : Prop := ∀ b o, b ∉ S → H b = some o → H' b = some o
theorem Kp.refl {S : List Addr} {H : Hp} : Kp S H H := fun _ _ _ e => e
theorem Kp.trans {S : List Addr} {H H1 H2 : Hp} (h : Kp S H H1) (k : Kp S H1 H2) : Kp S H H2 := fun b o n e => k b o n (h b o n e)
theorem Kp.mono {S T : List Addr} {H H' : Hp} (h : Kp S H H') (k : ∀ b ∈ S, b ∈ T) : Kp T H H' := fun b o n e => h b o (fun m => n (k b m)) e
theorem Kp.of {S : List Addr} {H H' : Hp} (h : Same H H') : Kp S H H' := fun b o _ e => h b o e
theorem Kp.but {S : List Addr} {H H' : Hp} {p : Addr} (hp : p ∈ S) (h : ∀ b, b ≠ p → H' b = H b) : Kp S H H' := fun b o n e => by
  rw [h b (fun z => n (z ▸ hp))]
  exact e
/-- what is new in H is put on -/
theorem Kp.put {S : List Addr} {H0 H : Hp} {p : Addr} {o : HO} (h : Kp S H0 H) (hp : H0 p = none) : Kp S H0 (upd H p o) := fun b u n e => by
  rw [upd_ne (ne_of_none e hp)]
  exact h b u n e
theorem same_put {H0 H : Hp} {p : Addr} {o : HO} (h : Same H0 H) (hp : H0 p = none) : Same H0 (upd H p o) := fun b u e => by
  rw [upd_ne (ne_of_none e hp)]
  exact h b u e
theorem same_refl {H : Hp} : Same H H := fun _ _ e => e
end Sq
namespace Sq
open PySem PySem.Spec PyProof.Rows L2
/-- a def of the text whose code object is known -/
structure FunC (K : PySem.W.Frag) (x qual : Str) (params : Arguments) (body : List Stmt) (scope : Scope) (c f : Addr) (fd : FuncData) : Prop where
  ex : ∃ (oc : Value) (od : Option Addr) (dV kV doc pm : Value) (an : Option Addr) (ct : Value) (osl : Array (Option Value)),
    fd = PySem.W.fnOf x qual params body scope dV kV doc pm an (.ref c) ct ∧ K.lookup f = some ⟨oc, od, .func fd, osl⟩ ∧ PySem.W.codeIn K (.ref c) qual = true ∧ DflV K dV [] ∧ KwdV K kV []
  kp : PySem.W.keepIn K (.ref f) = true
section
variable {P : Program} {w : World} {K : PySem.W.Frag} {mg : Str → Option Value} {base : Heap} {x qual : Str} {params : Arguments} {body : List Stmt} {scope : Scope} {c f : Addr} {fd : FuncData}
theorem FunC.d (F : FunC K x qual params body scope c f fd) : FunD K x qual params body scope [] [] f fd := by
  obtain ⟨oc, od, dV, kV, doc, pm, an, ct, osl, r⟩ := F.ex
  exact ⟨⟨oc, od, dV, kV, doc, pm, an, _, ct, osl, r⟩, F.kp⟩
theorem FunC.ok {CX : CXT} {N ps : List Str} {k : Nat} {sp : Sp} (F : FunC K x qual params body scope c f fd) (S : FnScope N ps scope) (len : ∀ vs H Q E, sp vs H Q E → vs.length = ps.length)
    (run : ∀ (A : Around) (outer : List Env) (s : Shared) (H : Hp) (vs : List V) (Q : VK) (E : XK), Room k (A.deeper (envOfC qual scope s.heap.objs.size f (.ref c))) → sp vs H Q E →
      ∃ t, PSs (cxOf CX P w K mg base N qual scope f (.ref c) A outer s H E) body t ∧ t { nx := fun _ H' => Q .non H', rt := Q } (L2.start N vs) H) : FnOk P w K mg base CX (k + 1) f fd ps sp := by
  obtain ⟨oc, od, dV, kV, doc, pm, an, ct, osl, rfl, lk, hcd, _, _⟩ := F.ex
  exact fn_of lk hcd S len fun A outer s H vs Q E hr hsp => run A outer s H vs Q E hr hsp
end
/-- tables stand at all of Ts -/
def TabsG (Ts : List Addr) (H : Hp) : Prop := ∀ T ∈ Ts, GxR.TabG H T
/-- all but the tables stays, and these are tables still -/
structure KT (Ts : List Addr) (H G : Hp) : Prop where
  kp : Kp Ts H G
  tb : TabsG Ts H
  tb' : TabsG Ts G
theorem KT.get {Ts : List Addr} {H G : Hp} {b : Addr} {o : HO} (h : KT Ts H G) (e : H b = some o) (ho : ∀ ps, o ≠ .tbl ps) : G b = some o := by
  refine h.kp b o (fun m => ?_) e
  obtain ⟨ps, e2, _⟩ := h.tb b m
  rw [e2] at e
  exact ho ps (Option.some.inj e).symm
theorem KT.at {Ts : List Addr} {H G : Hp} {q : Addr} {c : Cell} (h : KT Ts H G) (e : At H q c) : At G q c := h.get e (fun _ z => nomatch z)
theorem KT.lot {Ts : List Addr} {H G : Hp} {d : Addr} {L : List (List Key × V)} (h : KT Ts H G) (e : H d = some (.dT L)) : G d = some (.dT L) := h.get e (fun _ z => nomatch z)
theorem KT.tup {Ts : List Addr} {H G : Hp} {d : Addr} {L : List V} (h : KT Ts H G) (e : H d = some (.tup L)) : G d = some (.tup L) := h.get e (fun _ z => nomatch z)
theorem KT.lst {Ts : List Addr} {H G : Hp} {d : Addr} {L : List V} (h : KT Ts H G) (e : H d = some (.lst L)) : G d = some (.lst L) := h.get e (fun _ z => nomatch z)
theorem tabG_same {H G : Hp} {P : Addr} (hP : GxR.TabG H P) (h : Same H G) : GxR.TabG G P := by
  obtain ⟨ps, e, t⟩ := hP
  exact ⟨ps, h _ _ e, t⟩
theorem TabsG.same {Ts : List Addr} {H G : Hp} (hT : TabsG Ts H) (h : Same H G) : TabsG Ts G := fun T m => tabG_same (hT T m) h
theorem KT.of {Ts : List Addr} {H G : Hp} (hT : TabsG Ts H) (h : Same H G) : KT Ts H G := ⟨Kp.of h, hT, hT.same h⟩
theorem KT.refl {Ts : List Addr} {H : Hp} (hT : TabsG Ts H) : KT Ts H H := ⟨Kp.refl, hT, hT⟩
theorem KT.trans {Ts : List Addr} {H G I : Hp} (h : KT Ts H G) (k : KT Ts G I) : KT Ts H I := ⟨h.kp.trans k.kp, h.tb, k.tb'⟩
theorem KT.same {Ts : List Addr} {H G I : Hp} (h : KT Ts H G) (k : Same G I) : KT Ts H I := h.trans (.of h.tb' k)
theorem KT.free {Ts : List Addr} {H G : Hp} {a : Addr} (h : KT Ts H G) (e : G a = none) : H a = none := by
  cases q : H a with
  | none => rfl
  | some o =>
    by_cases m : a ∈ Ts
    · obtain ⟨ps, e2, _⟩ := h.tb' a m
      rw [e] at e2
      cases e2
    · rw [h.kp a o m q] at e
      cases e
theorem KT.tabbed {Ts : List Addr} {P : Addr} {H G : Hp} (hT : TabsG Ts H) (m : P ∈ Ts) (h : GxR.Tabbed P H G) : KT Ts H G := by
  refine ⟨fun b o n e => ?_, hT, fun T mT => ?_⟩
  · rw [h.2 b (fun z => n (by rw [z]; exact m))]
    exact e
  · by_cases e : T = P
    · rw [e]
      exact h.1
    · obtain ⟨ps, e2, t⟩ := hT T mT
      exact ⟨ps, (h.2 T e).trans e2, t⟩
noncomputable def hangsB (L : List Cell) : Bool := @decide (Hangs L) (Classical.propDecidable _)
theorem hangsB_iff {L : List Cell} : hangsB L = true ↔ Hangs L := by
  unfold hangsB
  exact @decide_eq_true_iff (Hangs L) (Classical.propDecidable _)
theorem hangsB_of {L : List Cell} {b : Bool} (h : b = true ↔ Hangs L) : b = hangsB L := by
  cases e : hangsB L with
  | true => exact h.mpr (hangsB_iff.mp e)
  | false =>
    cases b with
    | false => rfl
    | true => exact absurd (hangsB_iff.mpr (h.mp rfl)) (by rw [e]; simp)
end Sq
namespace Sq
open PySem PySem.Spec PyProof.Rows L2
theorem ix_tupK {X : Cx} {K : PySem.W.Frag} (h : X.K = K) : IxR X (rIxT K) := h ▸ ix_tup
theorem ix_listK {X : Cx} {K : PySem.W.Frag} (h : X.K = K) : IxR X (rIxL K) := h ▸ ix_list
end Sq

set_option Elab.async false
set_option linter.all false
set_option maxRecDepth 100000
set_option maxHeartbeats 4000000
/-! sorted of cells: out of a list, a dict's keys, a set. -/
namespace Sq
open PySem PySem.Spec PyProof.Rows L2
/-- the cell that stands at q, if one does -/
def cellAt (H : Hp) (q : Addr) : Cell := match H q with
  | some (.tup [.int i, .int j]) => (i, j)
  | _ => (0, 0)
theorem At.cell {H : Hp} {q : Addr} {c : Cell} (h : At H q c) : cellAt H q = c := by
  unfold cellAt
  rw [show H q = some (.tup [.int c.1, .int c.2]) from h]
theorem paired_cells {H : Hp} : ∀ {qs : List Addr} {cs : List Cell}, Paired (fun q c => At H q c) qs cs → cs = qs.map (cellAt H)
  | _, _, .nil => rfl
  | _, _, .cons h t => by rw [List.map_cons, h.cell, ← paired_cells t]
theorem paired_of {H : Hp} : ∀ {qs : List Addr}, (∀ q ∈ qs, At H q (cellAt H q)) → Paired (fun q c => At H q c) qs (qs.map (cellAt H))
  | [], _ => .nil
  | q :: qs, h => .cons (h q (List.mem_cons_self ..)) (paired_of fun r hr => h r (List.mem_cons_of_mem _ hr))
theorem paired_at {H : Hp} {qs : List Addr} {cs : List Cell} (h : Paired (fun q c => At H q c) qs cs) : ∀ q ∈ qs, At H q (cellAt H q) := by
  induction h with
  | nil => intro q hq; cases hq
  | cons a _ ih =>
    intro q hq
    rcases List.mem_cons.mp hq with e | e
    · rw [e, a.cell]
      exact a
    · exact ih q e
/-- what stands at refs, as pairs -/
def kC (H : Hp) : V → Int × Int
  | .ref q => cellAt H q
  | _ => (0, 0)
theorem lexB_cLt (a b : Cell) : SrtO.lexB a b = cLt a b := by
  cases h : cLt a b with
  | true => exact SrtO.lexB_iff.mpr (of_decide_eq_true h)
  | false => exact SrtO.lexB_no.mpr (of_decide_eq_false h)
/-- cells in their order -/
def Asc (cs : List Cell) : Prop := cs.Pairwise fun x y => cLt y x = false
/-- what a sorting of cells hands back -/
def sortedK (H : Hp) (cs : List Cell) (Q : VK) : Prop := ∀ (p : Addr) (qs' : List Addr) (cs' : List Cell), Paired (fun q c => At H q c) qs' cs' → cs'.Perm cs → Asc cs' → H p = none → Q (.ref p) (upd H p (.lst (qs'.map V.ref)))
theorem refs_perm {ys : List V} {qs : List Addr} (h : ys.Perm (qs.map V.ref)) : ∃ qs' : List Addr, ys = qs'.map V.ref ∧ qs'.Perm qs := by
  let un : V → Addr := fun v => match v with | .ref a => a | _ => 0
  have e0 : (qs.map V.ref).map un = qs := by
    rw [List.map_map]
    exact List.map_id' _
  refine ⟨ys.map un, ?_, ?_⟩
  · rw [List.map_map]
    have all : ∀ y ∈ ys, (V.ref ∘ un) y = y := fun y hy => by
      obtain ⟨q, _, rfl⟩ := List.mem_map.mp (h.mem_iff.mp hy)
      rfl
    rw [List.map_congr_left all]
    exact (List.map_id' _).symm
  · have := h.map un
    rwa [e0] at this
section
variable {X : Cx}
def rSortC (K : PySem.W.Frag) : List V → Hp → VK → Prop := fun vs H Q => ∃ (a : Addr) (qs : List Addr) (cs : List Cell), vs = [V.ref a] ∧ SqL K H a (qs.map V.ref) ∧ Paired (fun q c => At H q c) qs cs ∧ sortedK H cs Q
theorem sorted_end {H : Hp} {qs : List Addr} {cs : List Cell} {Q : VK} (pr : Paired (fun q c => At H q c) qs cs) (k : sortedK H cs Q) {ys : List V} {p : Addr} (hs : SrtO.Srtd (ltP (kC H)) ys) (hp : ys.Perm (qs.map V.ref)) (hn : H p = none) : Q (.ref p) (upd H p (.lst ys)) := by
  obtain ⟨qs', rfl, pm⟩ := refs_perm hp
  have al := paired_at pr
  refine k p qs' (qs'.map (cellAt H)) (paired_of fun q hq => al q (pm.mem_iff.mp hq)) ?_ ?_ hn
  · rw [paired_cells pr]
    exact pm.map _
  · unfold Asc
    rw [List.pairwise_map]
    refine (List.pairwise_map.mp hs).imp fun {a b} h => ?_
    rw [← lexB_cLt]
    exact h
theorem cr_sortedC : CallR X (.builtin "sorted") (rSortC X.K) := by
  intro pins s σ H vs us Q I r h
  obtain ⟨a, qs, cs, rfl, hs, pr, k⟩ := h
  refine cr_sortedPO pins s σ H _ us Q I r ⟨a, _, kC H, rfl, hs, fun x hx => ?_, fun ys p h1 h2 hn => sorted_end pr k h1 h2.perm hn⟩
  obtain ⟨q, hq, rfl⟩ := List.mem_map.mp hx
  exact ⟨q, rfl, paired_at pr q hq⟩
end
/-- sorted of whatever is collected to references of cells -/
theorem sorted_src {prog : Program} {w : World} {A : Around} {E : Value → Shared → Prop} {Q : Value → Shared → Prop} {s : Shared} {a : Addr} {k : Value → Int × Int}
    (hc : wpAny (model prog w) A.in1 (collect (.ref a)) (fun vs s1 => vs.length ≤ sizeLine ∧ (∀ v ∈ vs, Srt.IsPair s1.heap v (k v).1 (k v).2) ∧
      ∀ (h2 : Heap) (d : Addr) (out : List Value), SrtO.Srtd (fun v u => SrtO.lexB (k v) (k u)) out → out.Perm vs → (∀ b o, s1.heap.get? b = some o → h2.get? b = some o) → s1.heap.objs.size ≤ d → (∃ n, h2.get? d = some (seqObj "list" out.toArray n)) → Q (.ref d) { s1 with heap := h2 }) E s) :
    wpAny (model prog w) A (call (.builtin "sorted") [.ref a]) Q E s := by
  refine Calls.call_function_entry kind_sorted plain_sorted entry_sorted (args_sorted1 _) ?_
  unfold Builtin.«sorted»
  refine wpAny_bind (m := checkCount "sorted" 1 1 _) (wpAny_pure (wpAny_bind (wpAny_mono hc (fun vs s1 got => ?_) fun _ _ z => z)))
  obtain ⟨sz, ip, fin⟩ := got
  obtain ⟨hL, eL⟩ : ∃ hL : Heap, hL = s1.heap.push (seqObj "list" vs.toArray 0) := ⟨_, rfl⟩
  have at0 : hL.get? s1.heap.objs.size = some (seqObj "list" vs.toArray 0) := by rw [eL]; exact Heap.get?_push_size _ rfl
  have kp : ∀ b o, s1.heap.get? b = some o → hL.get? b = some o := fun b o e => by rw [eL]; exact Heap.get?_push_of_some _ e
  refine wpAny_bind (wpAny_newList ?_ sz)
  rw [← eL]
  refine wpAny_bind (wpAny_holding (wpAny_call_entry slot_list_sort ⟨_, at0, rfl⟩ entry_list_sort (SrtO.list_sort_ord (s := { s1 with heap := hL }) (SrtO.swo_lex k) at0 sz (fun two => ?_) fun out o1 o2 => ⟨_, rfl, ?_⟩) (args_list_sort _)))
  · refine SrtO.pairs_sortableO (by omega) (fun v hv => (ip v hv).keeps fun b o e _ => kp b o e) fun o e c => ?_
    have e2 : some o = some (seqObj "list" vs.toArray 0) := e.symm.trans at0
    cases e2
    exact absurd (Value.type.inj c) (by decide)
  · refine wpAny_pure ⟨_, rfl, fin _ _ out o1 o2.perm (fun b o e => ?_) (Nat.le_refl _) (sortedHeap_at at0)⟩
    have lt := Heap.lt_size e
    show (sortedHeap hL s1.heap.objs.size vs out.toArray).get? b = some o
    rw [sortedHeap_old (Nat.ne_of_lt lt) (by rw [eL, Heap.size_push]; exact Nat.lt_succ_of_lt lt)]
    exact kp b o e
end Sq

set_option Elab.async false
set_option linter.all false
set_option maxRecDepth 100000
set_option maxHeartbeats 4000000
/-! sorted of a set of cells, of a dict whose keys are cells. -/
namespace Sq
open PySem PySem.Spec PyProof.Rows L2
section
variable {X : Cx} {pins : List (Addr × Obj)} {σ : L2.St} {H : Hp} {s s1 : Shared}
/-- a new list of such values is laid behind a state that keeps all -/
theorem laid_list (I : Inv X pins σ H s) {h2 : Heap} {d : Addr} {out : List Value} {ys : List V} (k1 : ∀ b o, s.heap.get? b = some o → s1.heap.get? b = some o) (sz : s.heap.objs.size ≤ s1.heap.objs.size) (g : s1.gens = s.gens) (os : s1.os = s.os)
    (k2 : ∀ b o, s1.heap.get? b = some o → h2.get? b = some o) (hd : s1.heap.objs.size ≤ d) (hn : ∃ n, h2.get? d = some (seqObj "list" out.toArray n)) (rv : Vals ys out) (len : ys.length ≤ sizeLine) : Inv X pins σ (upd H d (.lst ys)) { s1 with heap := h2 } := by
  obtain ⟨c, hc⟩ := hn
  have kk : ∀ b o, s.heap.get? b = some o → h2.get? b = some o := fun b o e => k2 b o (k1 b o e)
  have hp : s.heap.objs.size ≤ d := Nat.le_trans sz hd
  exact I.call' (s' := { s1 with heap := h2 }) (ch := []) os (Un.laid kk hp (I.hok.fresh hp)) (I.hok.laid kk hp ⟨len, out, c, rv, hc⟩) (by show AllBare s1.gens; rw [g]; exact I.bare) (fun _ z => nomatch z)
/-- a cell's object in the true heap -/
theorem At.pair (I : Inv X pins σ H s) {q : Addr} {c : Cell} (h : At H q c) : Srt.IsPair s.heap (.ref q) c.1 c.2 := by
  obtain ⟨_, its2, r2, o, ho, hc, n, hd⟩ := I.hok _ _ h
  obtain ⟨u1, u2, rfl, ri, rj⟩ := vals2 r2
  obtain ⟨t1, rfl⟩ := ri
  obtain ⟨t2, rfl⟩ := rj
  exact ⟨q, o, t1, t2, n, rfl, ho, hc, hd⟩
/-- values that are refs, back -/
def kVal (H : Hp) : Value → Int × Int
  | .ref q => cellAt H q
  | _ => (0, 0)
theorem vals_perm {out : List Value} {qs : List Addr} (h : out.Perm (qs.map Value.ref)) : ∃ qs' : List Addr, out = qs'.map Value.ref ∧ qs'.Perm qs := by
  let un : Value → Addr := fun v => match v with | .ref a => a | _ => 0
  have e0 : (qs.map Value.ref).map un = qs := by
    rw [List.map_map]
    exact List.map_id' _
  refine ⟨out.map un, ?_, ?_⟩
  · rw [List.map_map]
    have all : ∀ y ∈ out, (Value.ref ∘ un) y = y := fun y hy => by
      obtain ⟨q, _, rfl⟩ := List.mem_map.mp (h.mem_iff.mp hy)
      rfl
    rw [List.map_congr_left all]
    exact (List.map_id' _).symm
  · have := h.map un
    rwa [e0] at this
/-- the end of a sorting of refs -/
theorem sort_fin (I : Inv X pins σ H s) {vs : List Value} {qs : List Addr} {cs : List Cell} {Q : VK} (pm : vs.Perm (qs.map Value.ref)) (pr : Paired (fun q c => At H q c) qs cs) (few : qs.length ≤ sizeLine) (k1 : ∀ b o, s.heap.get? b = some o → s1.heap.get? b = some o)
    (sz : s.heap.objs.size ≤ s1.heap.objs.size) (g : s1.gens = s.gens) (os : s1.os = s.os) (k : sortedK H cs Q) :
    vs.length ≤ sizeLine ∧ (∀ v ∈ vs, Srt.IsPair s1.heap v (kVal H v).1 (kVal H v).2) ∧
      ∀ (h2 : Heap) (d : Addr) (out : List Value), SrtO.Srtd (fun v u => SrtO.lexB (kVal H v) (kVal H u)) out → out.Perm vs → (∀ b o, s1.heap.get? b = some o → h2.get? b = some o) → s1.heap.objs.size ≤ d → (∃ n, h2.get? d = some (seqObj "list" out.toArray n)) →
        ∃ x H', Inv X pins σ H' { s1 with heap := h2 } ∧ RelV x (.ref d) ∧ Q x H' := by
  have al := paired_at pr
  refine ⟨by rw [pm.length_eq, List.length_map]; exact few, fun v hv => ?_, fun h2 d out o1 o2 k2 hd hn => ?_⟩
  · obtain ⟨q, hq, rfl⟩ := List.mem_map.mp (pm.mem_iff.mp hv)
    exact ((al q hq).pair I).keeps fun b o e _ => k1 b o e
  · obtain ⟨qs', rfl, pm'⟩ := vals_perm (o2.trans pm)
    have asc : Asc (qs'.map (cellAt H)) := by
      unfold Asc
      rw [List.pairwise_map]
      refine (List.pairwise_map.mp o1).imp fun {a b} h => ?_
      rw [← lexB_cLt]
      exact h
    refine ⟨.ref d, upd H d (.lst (qs'.map V.ref)), laid_list I k1 sz g os k2 hd hn (vals_refs qs') (by rw [List.length_map, pm'.length_eq]; exact few), rfl, ?_⟩
    refine k d qs' (qs'.map (cellAt H)) (paired_of fun q hq => al q (pm'.mem_iff.mp hq)) ?_ asc (I.hok.fresh (Nat.le_trans sz hd))
    rw [paired_cells pr]
    exact pm'.map _
theorem paired_imp0 {α β : Type} {F G : α → β → Prop} (k : ∀ a b, F a b → G a b) : ∀ {xs : List α} {ys : List β}, Paired F xs ys → Paired G xs ys
  | _, _, .nil => .nil
  | _, _, .cons h t => .cons (k _ _ h) (paired_imp0 k t)
end
end Sq

set_option Elab.async false
set_option linter.all false
set_option maxRecDepth 100000
set_option maxHeartbeats 4000000
/-! sorted of a list of data of any depth. -/
namespace Sq
open PySem PySem.Spec PyProof.Rows L2
section
variable {X : Cx}
end
end Sq

set_option Elab.async false
set_option linter.all false
set_option maxRecDepth 100000
set_option maxHeartbeats 4000000
/-! Comprehensions that make lists of cells. -/
namespace Sq
open PySem PySem.Spec PyProof.Rows L2
theorem filter_snoc {α : Type} (p : α → Bool) (xs : List α) (x : α) : (xs ++ [x]).filter p = xs.filter p ++ (if p x = true then [x] else []) := by
  rw [List.filter_append]
  by_cases h : p x = true
  · rw [if_pos h, List.filter_cons_of_pos h]
    rfl
  · rw [if_neg h, List.filter_cons_of_neg h]
    rfl
theorem paired_app {α β : Type} {F : α → β → Prop} {xs xs' : List α} {ys ys' : List β} (h : Paired F xs ys) (k : Paired F xs' ys') : Paired F (xs ++ xs') (ys ++ ys') := by
  induction h with
  | nil => exact k
  | cons a _ ih => exact .cons a ih
theorem lc_cells {J : It} {n : Nat} {Gd : Hp → Prop} {Y : Nat → Hp → V → Hp → Prop} (w : Walk J n Gd Y) {g : TG} {tt : TT} {te : TE} {vs : List Nat} {σ : L2.St} {H1 : Hp} {D : Addr} {Qd : Hp → Prop} (hD : H1 D = none) (res : Nat → List Cell) (r0 : res 0 = []) (hn : n ≤ 1000000)
    (hG : ∀ i G, i ≤ n → Same H1 G → Gd G)
    (hs : ∀ i x G G' (K1 : V → Hp → Prop) (K0 : Hp → Prop), i < n → Same H1 G → Y i G x G' → (∀ r c H4, Same G H4 → At H4 r c → res (i + 1) = res i ++ [c] → K1 (.ref r) H4) → (∀ H3, Same G H3 → res (i + 1) = res i → K0 H3) →
      g x (wipe σ vs) G' fun σ2 H2 => wipe σ2 vs = wipe σ vs ∧ tt σ2 H2 fun b H3 => if b = true then te σ2 H3 K1 else K0 H3)
    (hd : ∀ G rs, Same H1 G → G D = some (.lst (rs.map V.ref)) → Paired (fun q c => At G q c) rs (res n) → Qd G) :
    ∃ W : Nat → Nat → Hp → Prop, (∃ m, W 0 m (upd H1 D (.lst []))) ∧ ∀ i m H, W i m H →
      (J.stop i H ∧ Qd H) ∨ (J.go i H ∧ ∃ Nx : Hp → Prop, (∀ H', Nx H' → ∃ m', m' < m ∧ W (i + 1) m' H') ∧ ∀ x H', J.yld i H x H' → g x (wipe σ vs) H' fun σ2 H2 => wipe σ2 vs = wipe σ vs ∧ tt σ2 H2 fun b H3 =>
        if b = true then te σ2 H3 fun y H4 => ∃ acc, H4 D = some (.lst acc) ∧ acc.length < sizeLine ∧ Nx (upd H4 D (.lst (acc ++ [y]))) else Nx H3) := by
  refine lc_it w (fun i G => Same H1 G ∧ ∃ rs : List Addr, G D = some (.lst (rs.map V.ref)) ∧ rs.length ≤ i ∧ Paired (fun q c => At G q c) rs (res i)) ⟨?_, [], upd_same, Nat.le_refl _, by rw [r0]; exact .nil⟩ (fun i G hi p => hG i G hi p.1) ?_ ?_
  · exact same_put same_refl hD
  · rintro i x G G' hi ⟨sm, rs, gD, ln, pr⟩ y
    refine hs i x G G' _ _ hi sm y (fun r c H4 s4 a4 e => ?_) (fun H3 s3 e => ?_)
    · refine ⟨_, s4 _ _ gD, by rw [List.length_map, sizeLine_eq]; omega, same_put (sm.trans s4) hD, rs ++ [r], by rw [upd_same, List.map_append]; rfl, by rw [List.length_append]; exact Nat.succ_le_succ ln, ?_⟩
      have off : ∀ {q : Addr} {c : Cell}, At H4 q c → At (upd H4 D (.lst (rs.map V.ref ++ [V.ref r]))) q c := fun h => h.off (s4 _ _ gD) (by intro xs z; cases z)
      rw [e]
      exact (paired_imp0 (fun _ _ h => off (s4 _ _ h)) pr).snoc (off a4)
    · refine ⟨sm.trans s3, rs, s3 _ _ gD, Nat.le_succ_of_le ln, ?_⟩
      rw [e]
      exact paired_imp0 (fun _ _ h => s3 _ _ h) pr
  · rintro G ⟨sm, rs, gD, _, pr⟩
    exact hd G rs sm gD pr
end Sq

set_option Elab.async false
set_option linter.all false
set_option maxRecDepth 100000
set_option maxHeartbeats 4000000
/-! Data that can be compared: lists and tuples of such. -/
namespace Sq
open PySem PySem.Spec PyProof.Rows L2
/-- d can be laid, n deep at most -/
def Lay (n : Nat) (d : PyData) : Prop := d.canLay0 = true ∧ d.depth ≤ n
theorem lay_all {n : Nat} : ∀ {ds : List PyData}, (∀ d ∈ ds, Lay n d) → PyData.canLayAll0 ds = true ∧ PyData.depthAll ds ≤ n
  | [], _ => ⟨by first | rfl | simp [PyData.canLayAll0], Nat.zero_le _⟩
  | d :: ds, h => by
    obtain ⟨h1, h2⟩ := lay_all (ds := ds) fun e he => h e (List.mem_cons_of_mem _ he)
    obtain ⟨k1, k2⟩ := h d (List.mem_cons_self ..)
    refine ⟨?_, ?_⟩
    · rw [PyData.canLayAll0, k1, h1]
      rfl
    · rw [PyData.depthAll]
      exact Nat.max_le.mpr ⟨k2, h2⟩
theorem lay_list {n : Nat} {ds : List PyData} (h : ∀ d ∈ ds, Lay n d) : Lay (n + 1) (.list ds) := by
  obtain ⟨h1, h2⟩ := lay_all h
  refine ⟨by rw [PyData.canLay0]; exact h1, ?_⟩
  rw [PyData.depth]
  exact Nat.succ_le_succ h2
theorem lay_tuple {n : Nat} {ds : List PyData} (h : ∀ d ∈ ds, Lay n d) : Lay (n + 1) (.tuple ds) := by
  obtain ⟨h1, h2⟩ := lay_all h
  refine ⟨by rw [PyData.canLay0]; exact h1, ?_⟩
  rw [PyData.depth]
  exact Nat.succ_le_succ h2
theorem Lay.mono {n m : Nat} {d : PyData} (h : Lay n d) (k : n ≤ m) : Lay m d := ⟨h.1, Nat.le_trans h.2 k⟩
theorem Lay.shaped {n : Nat} {d : PyData} (h : Lay n d) (k : n ≤ 64) : SeqAt.shaped d = true := by
  unfold SeqAt.shaped
  rw [h.1, decide_eq_true (Nat.le_trans h.2 k)]
  rfl
theorem lay_int (i : Int) : Lay 0 (.int i) := ⟨by first | rfl | simp [PyData.canLay0], Nat.le_refl _⟩
end Sq

set_option Elab.async false
set_option linter.all false
set_option maxRecDepth 100000
set_option maxHeartbeats 4000000
/-! Several except clauses that all bind one name. -/
namespace Sq
open PySem PySem.Spec PyProof.Rows L2
abbrev Su := Addr → Value → Option Addr → TS
/-- the ends of a suite behind which the name at i goes -/
def gone (i : Nat) (D : Ends) : Ends := { nx := fun σ H => D.nx (σ.set i none) H, rt := D.rt, bk := fun σ H => D.bk (σ.set i none) H, ct := fun σ H => D.ct (σ.set i none) H }
section
variable {X : Cx} {body : List Stmt} {h0 : ExceptHandler} {hs : List ExceptHandler} {l : List (Value × Su)} {pos : Pos} {tb : WX → TS} {Wo : WX} {n : Str} {i : Nat}
end
end Sq

set_option Elab.async false
set_option linter.all false
set_option maxRecDepth 100000
set_option maxHeartbeats 4000000
/-! {k: v, l: u}, the keys of any kind; del d[k], the key a tuple that is there. -/
namespace Sq
open PySem PySem.Spec PyProof.Rows L2
def tDisp2 (o0 : HO) (tk tv tl tu : TE) : TE := fun σ H Q => ∀ p, H p = none → tk σ (upd H p o0) fun x H1 => tv σ H1 fun y H2 => tl σ H2 fun x' H3 => tu σ H3 fun y' H4 => ∃ H5 H6, DPut H4 p x y H5 ∧ DPut H5 p x' y' H6 ∧ Q (.ref p) H6
def twoPairs (q : V → V → V → V → Hp → Prop) : List (V × V) → Hp → Prop
  | [p, r], H => q p.1 p.2 r.1 r.2 H
  | _, _ => False
theorem twoPairs_of {q : V → V → V → V → Hp → Prop} {H : Hp} : ∀ {ps : List (V × V)}, twoPairs q ps H → ∃ x y x' y', ps = [(x, y), (x', y')] ∧ q x y x' y' H
  | [p, r], h => ⟨p.1, p.2, r.1, r.2, rfl, h⟩
theorem pe_disp2 {X : Cx} {o0 : HO} {k v l u : Expr} {pos : Pos} {tk tv tl tu : TE} (ho : o0 = .dK [] ∨ o0 = .dT []) (hu : X.A.units + 1 < cLine) (hk : PE X k tk) (hv : PE X v tv) (hl : PE X l tl) (hw : PE X u tu) : PE X (.Dict [some k, some l] [v, u] pos) (tDisp2 o0 tk tv tl tu) := by
  refine ⟨fun pins s σ H Q I h => ?_⟩
  have fresh := I.hok.fresh (Nat.le_refl s.heap.objs.size)
  have I1 : Inv X pins σ (upd H s.heap.objs.size o0) { s with heap := s.heap.push { cls := .type "dict", data := .dict #[] } } := by
    refine I.laid (t' := s.toks) (fun _ _ q => Heap.get?_push_of_some _ q) (Nat.le_refl _) ?_
    rcases ho with rfl | rfl
    · exact dk_empty s.heap I.big
    · exact dt_empty s.heap I.big
  refine wpAny_Dict_any rfl rfl (List.cons_ne_nil _ _) (by show 2 ≤ 15; decide) ?_
  refine thn ((pps_cons hk hv (pps_cons hl hw pps_nil)).run pins _ σ _ (twoPairs fun x y x' y' H4 => ∃ H5 H6, DPut H4 s.heap.objs.size x y H5 ∧ DPut H5 s.heap.objs.size x' y' H6 ∧ Q (.ref s.heap.objs.size) H6) I1 (h _ fresh)) fun vs z hz => ?_
  obtain ⟨ps, H2, I2, rel, q⟩ := hz
  obtain ⟨x, y, x', y', rfl, H5, H6, put, put', q⟩ := twoPairs_of q
  cases rel with
  | cons rr r0 =>
    cases r0 with
    | cons rs r1 =>
      cases r1
      unfold storeAll
      rw [List.forIn_cons]
      refine wpAny_bind (wpAny_bind (dc_put hu I2 put rr.1 rr.2 fun z' I3 => wpAny_pure ?_))
      show wpAny _ _ (forIn (_ :: _ : List (Value × Value)) PUnit.unit _) _ _ _
      rw [List.forIn_cons]
      refine wpAny_bind (wpAny_bind (dc_put hu I3 put' rs.1 rs.2 fun z' I4 => wpAny_pure ?_))
      show wpAny _ _ (forIn ([] : List (Value × Value)) PUnit.unit _) _ _ _
      rw [List.forIn_nil]
      exact wpAny_pure ⟨.ref s.heap.objs.size, H6, I4, rfl, q⟩
/-- del d[y] -/
def sDelT (td ty : TE) : TS := fun D σ H => td σ H fun x H1 => ty σ H1 fun y H2 => ∃ (a : Addr) (kvs : List (List Key × V)) (k : List Key) (b : Addr), x = .ref a ∧ y = .ref b ∧ H2 a = some (.dT kvs) ∧ H2 b = some (.tup (k.map kV)) ∧ (valV kvs k).isSome = true ∧ D.nx σ (upd H2 a (.dT (dropK kvs k)))
theorem ps_ddelT {X : Cx} {o i : Expr} {td ty : TE} {pos tpos : Pos} (hu : X.A.units + 1 < cLine) (ho : PE X o td) (hi : PE X i ty) : PS X (.Delete [.Subscript o i tpos] pos) (sDelT td ty) := by
  refine ⟨fun pins s σ H D I h => ?_⟩
  refine wpAny_Delete (wpAny_deleteEach_cons (wpAny_delete_Subscript (thn (ho.run pins s σ H _ I h) fun u s1 ⟨x, H1, I1, rx, q1⟩ => thn (hi.run pins s1 σ H1 _ I1 q1) fun iv s2 ⟨y, H2, I2, ry, a, kvs, k, b, ex, ey, e, eb, l, q2⟩ => ?_)))
  subst ex ey
  obtain rfl : u = Value.ref a := rx
  obtain rfl : iv = Value.ref b := ry
  obtain ⟨z, hsys, ys, rel, dd⟩ := dt_of I2.hok e
  have hz : ys.length ≤ sizeLine := by rw [← Paired.length rel]; exact z
  have r := rel.val k
  cases ep : atKey ys k with
  | none =>
    rw [ep] at r
    cases hv : valV kvs k with
    | none => rw [hv] at l; cases l
    | some v => rw [hv] at r; exact r.elim
  | some p =>
    refine wpAny_delItem_heap (hsz := hz) (tupleKind_room_in1 hu) (key_of I2.hok eb) hsys dd ep fun h' dd' same => ?_
    obtain ⟨o2, en, e0, eo, c2, c3, c4, c5, c6⟩ := dd'
    refine wpAny_deleteEach_nil ⟨σ, _, d_write (ob := .dT (dropK kvs k)) I2 (by rw [e]; exact True.intro) same ⟨o2, eo⟩ ⟨Nat.le_trans (dropK_le kvs k) z, hsys, _, (DX.KT_drop k rel).keeps fun c ws ec => ?_, o2, en, e0, eo, c2, c3, c4, c6⟩, q2⟩
    rw [upd_ne (ne_of ec e (fun t => nomatch t))]
    exact ec
end Sq

set_option Elab.async false
set_option linter.all false
set_option maxRecDepth 100000
set_option maxHeartbeats 4000000
/-! The parts of a lot: what they are. -/
namespace Sq
/-- cells, each once, as a dict keeps them -/
def addC (L : List Cell) (c : Cell) : List Cell := if c ∈ L then L else L ++ [c]
def uniq (cs : List Cell) : List Cell := cs.foldl addC []
/-- the parts of cells, in their order -/
structure IsParts (cs : List Cell) (ps : List (List Cell)) : Prop where
  asc : ∀ p ∈ ps, Asc p ∧ p.Nodup ∧ p ≠ []
  cls : ∀ p ∈ ps, ∀ x ∈ p, x ∈ cs ∧ ∀ y, y ∈ p ↔ Reach cs x y
  cov : ∀ x ∈ cs, ∃ p ∈ ps, x ∈ p
  ord : ps.Pairwise fun p q => ∃ a b, p.head? = some a ∧ q.head? = some b ∧ cLt a b = true
end Sq

set_option Elab.async false
set_option linter.all false
set_option maxRecDepth 100000
set_option maxHeartbeats 4000000
/-! Growing blobs; dicts from cells to numbers. -/
namespace Sq
open PySem PySem.Spec PyProof.Rows L2
theorem east_most : ∀ {A : List Cell}, A ≠ [] → ∃ a ∈ A, ∀ b ∈ A, b.1 ≤ a.1
  | [c], _ => ⟨c, by simp, fun b hb => by rw [List.mem_singleton.mp hb]; exact Int.le_refl _⟩
  | c :: d :: A, _ => by
    obtain ⟨a, ha, h⟩ := east_most (A := d :: A) (by simp)
    by_cases e : a.1 ≤ c.1
    · exact ⟨c, by simp, fun b hb => (List.mem_cons.mp hb).elim (fun z => z ▸ Int.le_refl _) fun m => Int.le_trans (h b m) e⟩
    · exact ⟨a, List.mem_cons_of_mem _ ha, fun b hb => (List.mem_cons.mp hb).elim (fun z => by rw [z]; omega) (h b)⟩
theorem Reach.mono {L M : List Cell} (h : ∀ x ∈ L, x ∈ M) {a b : Cell} (k : Reach L a b) : Reach M a b := by
  induction k with
  | refl => exact .refl
  | step _ hb hc ih => exact ih.step hb (h _ hc)
theorem hangs_snoc {A : List Cell} {a x : Cell} (h : Hangs A) (ha : a ∈ A) (hx : x ∈ besideC a) : Hangs (A ++ [x]) := by
  have m : a ∈ A ++ [x] := List.mem_append_left _ ha
  refine (hangs_from m).mpr fun b hb => ?_
  rcases List.mem_append.mp hb with k | k
  · exact (h.2 a ha b k).mono fun y hy => List.mem_append_left _ hy
  · rw [List.mem_singleton.mp k]
    exact Reach.refl.step hx (by simp)
theorem hangs_one (c : Cell) : Hangs [c] := ⟨by simp, fun a ha b hb => by rw [List.mem_singleton.mp ha, List.mem_singleton.mp hb]; exact .refl⟩
/-- a dict from these cells to numbers -/
structure IntD (kvs : List (List Key × V)) (Cs : List Cell) : Prop where
  keys : kvs.map (·.1) = Cs.map cK
  nums : ∀ kv ∈ kvs, ∃ i : Int, kv.2 = .int i
theorem IntD.get {kvs : List (List Key × V)} {Cs : List Cell} (h : IntD kvs Cs) (c : Cell) : (c ∈ Cs ∧ ∃ i : Int, valV kvs (cK c) = some (.int i)) ∨ (c ∉ Cs ∧ valV kvs (cK c) = none) := by
  obtain ⟨hk, hi⟩ := h
  induction kvs generalizing Cs with
  | nil =>
    cases Cs with
    | nil => exact .inr ⟨by simp, rfl⟩
    | cons d Cs => cases hk
  | cons kv kvs ih =>
    cases Cs with
    | nil => cases hk
    | cons d Cs =>
      rw [List.map_cons, List.map_cons] at hk
      injection hk with h1 h2
      by_cases e : d = c
      · subst e
        obtain ⟨i, ei⟩ := hi kv (List.mem_cons_self ..)
        refine .inl ⟨List.mem_cons_self .., i, ?_⟩
        rw [valV_pos h1, ei]
      · rw [valV_neg (by rw [h1]; exact fun z => e (cK_inj z))]
        rcases ih h2 (fun kv hkv => hi kv (List.mem_cons_of_mem _ hkv)) with ⟨m, r⟩ | ⟨m, r⟩
        · exact .inl ⟨List.mem_cons_of_mem _ m, r⟩
        · exact .inr ⟨fun z => (List.mem_cons.mp z).elim (fun q => e q.symm) m, r⟩
theorem IntD.put {kvs : List (List Key × V)} {Cs : List Cell} (h : IntD kvs Cs) (c : Cell) (j : Int) : IntD (putK kvs (cK c) (.int j)) (addC Cs c) := by
  have keyc : ∀ kv ∈ kvs, ∃ d ∈ Cs, kv.1 = cK d := fun kv hkv => by
    have : kv.1 ∈ Cs.map cK := by rw [← h.keys]; exact List.mem_map.mpr ⟨kv, hkv, rfl⟩
    obtain ⟨d, hd, e⟩ := List.mem_map.mp this
    exact ⟨d, hd, e.symm⟩
  unfold putK addC
  by_cases m : c ∈ Cs
  · have an : (kvs.any fun kv => decide (kv.1 = cK c)) = true := by
      have : cK c ∈ kvs.map (·.1) := by rw [h.keys]; exact List.mem_map.mpr ⟨c, m, rfl⟩
      obtain ⟨kv, hkv, e⟩ := List.mem_map.mp this
      exact List.any_eq_true.mpr ⟨kv, hkv, decide_eq_true e⟩
    rw [if_pos an, if_pos m]
    refine ⟨?_, fun kv hkv => ?_⟩
    · rw [List.map_map, ← h.keys]
      refine List.map_congr_left fun kv _ => ?_
      show (if kv.1 = cK c then (kv.1, V.int j) else kv).1 = kv.1
      split <;> rfl
    · obtain ⟨kv0, h0, e⟩ := List.mem_map.mp hkv
      rw [← e]
      by_cases q : kv0.1 = cK c
      · rw [if_pos q]
        exact ⟨j, rfl⟩
      · rw [if_neg q]
        exact h.nums kv0 h0
  · have an : ¬ (kvs.any fun kv => decide (kv.1 = cK c)) = true := fun z => by
      obtain ⟨kv, hkv, e⟩ := List.any_eq_true.mp z
      obtain ⟨d, hd, e2⟩ := keyc kv hkv
      rw [of_decide_eq_true e] at e2
      rw [cK_inj e2] at m
      exact m hd
    rw [if_neg an, if_neg m]
    refine ⟨by rw [List.map_append, List.map_append, h.keys]; rfl, fun kv hkv => ?_⟩
    rcases List.mem_append.mp hkv with q | q
    · exact h.nums kv q
    · rw [List.mem_singleton.mp q]
      exact ⟨j, rfl⟩
theorem IntD.len {kvs : List (List Key × V)} {Cs : List Cell} (h : IntD kvs Cs) : kvs.length = Cs.length := by
  have := congrArg List.length h.keys
  rwa [List.length_map, List.length_map] at this
end Sq

set_option Elab.async false
set_option linter.all false
set_option maxRecDepth 100000
set_option maxHeartbeats 4000000
/-! The mathematics of a search in depth: which cells can be taken away. -/
namespace Sq
abbrev TwigC : Type := Cell × Option Cell
/-- a is v, or lies on the way that led to v -/
inductive Anc (T : List TwigC) (a : Cell) : Cell → Prop where
  | refl : Anc T a a
  | step {y v : Cell} : Anc T a y → (v, some y) ∈ T → Anc T a v
theorem Anc.mono {T U : List TwigC} {a v : Cell} (h : Anc T a v) (k : ∀ x ∈ T, x ∈ U) : Anc U a v := by
  induction h with
  | refl => exact .refl
  | step _ m ih => exact ih.step (k _ m)
theorem Anc.trans {T : List TwigC} {a b c : Cell} (h : Anc T a b) (k : Anc T b c) : Anc T a c := by
  induction k with
  | refl => exact h
  | step _ m ih => exact ih.step m
abbrev keysT (T : List TwigC) : List Cell := T.map (·.1)
/-- what a search in depth leaves: each cell with the one that led to it; a cell's neighbours that were met ahead of it lie on its way -/
inductive DTree (L : List Cell) : List TwigC → Prop where
  | root {r : Cell} (h : r ∈ L) : DTree L [(r, none)]
  | snoc {T : List TwigC} {v y : Cell} (t : DTree L T) (hy : y ∈ keysT T) (hv : v ∈ L) (nv : v ∉ keysT T) (b : v ∈ besideC y) (anc : ∀ u ∈ keysT T, v ∈ besideC u → Anc T u y) : DTree L (T ++ [(v, some y)])
section
variable {L : List Cell} {T : List TwigC}
theorem keys_snoc {T : List TwigC} {v : Cell} {o : Option Cell} : keysT (T ++ [(v, o)]) = keysT T ++ [v] := by simp [keysT]
theorem DTree.nodup (h : DTree L T) : (keysT T).Nodup := by
  induction h with
  | root => simp [keysT]
  | snoc _ _ _ nv _ _ ih =>
    rw [keys_snoc, List.nodup_append]
    refine ⟨ih, by simp, fun a ha b hb e => ?_⟩
    rw [List.mem_singleton.mp hb] at e
    exact nv (e ▸ ha)
theorem DTree.sub (h : DTree L T) : ∀ v ∈ keysT T, v ∈ L := by
  induction h with
  | root h =>
    intro v hv
    simp [keysT] at hv
    exact hv ▸ h
  | snoc _ _ hv _ _ _ ih =>
    intro u hu
    rw [keys_snoc] at hu
    rcases List.mem_append.mp hu with m | m
    · exact ih u m
    · rw [List.mem_singleton.mp m]; exact hv
/-- the place of a cell -/
def numT (T : List TwigC) (v : Cell) : Nat := (keysT T).idxOf v
theorem num_lt {v : Cell} : numT T v < (keysT T).length ↔ v ∈ keysT T := List.idxOf_lt_length_iff
theorem num_inj {v u : Cell} (hv : v ∈ keysT T) (hu : u ∈ keysT T) (h : numT T v = numT T u) : v = u := by
  have e1 := List.getElem_idxOf (num_lt.mpr hv)
  have e2 := List.getElem_idxOf (num_lt.mpr hu)
  unfold numT at h
  rw [← e1, ← e2]
  congr 1
theorem num_old {v w : Cell} {o : Option Cell} (hv : v ∈ keysT T) : numT (T ++ [(w, o)]) v = numT T v := by
  unfold numT
  rw [keys_snoc, List.idxOf_append, if_pos hv]
theorem num_new {w : Cell} {o : Option Cell} (hw : w ∉ keysT T) : numT (T ++ [(w, o)]) w = (keysT T).length := by
  unfold numT
  rw [keys_snoc, List.idxOf_append, if_neg hw]
  simp
/-- a twig's cells -/
theorem DTree.twig (h : DTree L T) {v y : Cell} (m : (v, some y) ∈ T) : v ∈ keysT T ∧ y ∈ keysT T ∧ v ∈ besideC y ∧ numT T y < numT T v := by
  induction h with
  | root => simp at m
  | @snoc T v' y' t hy hv nv b anc ih =>
    rw [keys_snoc]
    rcases List.mem_append.mp m with m | m
    · obtain ⟨h1, h2, h3, h4⟩ := ih m
      exact ⟨List.mem_append_left _ h1, List.mem_append_left _ h2, h3, by rw [num_old h1, num_old h2]; exact h4⟩
    · have e := List.mem_singleton.mp m
      obtain ⟨rfl, e2⟩ := Prod.mk.inj e
      have e2 := Option.some.inj e2
      subst e2
      exact ⟨by simp, List.mem_append_left _ hy, b, by rw [num_old hy, num_new nv]; exact num_lt.mpr hy⟩
theorem DTree.uniq (h : DTree L T) {v : Cell} {o o' : Option Cell} (m : (v, o) ∈ T) (m' : (v, o') ∈ T) : o = o' := by
  have nd := h.nodup
  obtain ⟨i, hi, e1⟩ := List.mem_iff_getElem.mp m
  obtain ⟨j, hj, e2⟩ := List.mem_iff_getElem.mp m'
  have k1 : (keysT T)[i]'(by simpa [keysT] using hi) = v := by simp [keysT, e1]
  have k2 : (keysT T)[j]'(by simpa [keysT] using hj) = v := by simp [keysT, e2]
  have ij : i = j := (List.getElem_inj nd).mp (k1.trans k2.symm)
  subst ij
  rw [e1] at e2
  exact (Prod.mk.inj e2).2
theorem DTree.anc_num (h : DTree L T) {a v : Cell} (k : Anc T a v) : numT T a ≤ numT T v := by
  induction k with
  | refl => exact Nat.le_refl _
  | step _ m ih => exact Nat.le_trans ih (Nat.le_of_lt (h.twig m).2.2.2)
/-- the ways to one cell: one lies on the other -/
theorem DTree.chain (h : DTree L T) {a b v : Cell} (k : Anc T a v) (l : Anc T b v) : Anc T a b ∨ Anc T b a := by
  induction k with
  | refl => exact .inr l
  | @step y v k m ih =>
    cases l with
    | refl => exact .inl (k.step m)
    | @step y' _ l m' =>
      have e := Option.some.inj (h.uniq m m')
      subst e
      exact ih l
/-- the root -/
theorem DTree.root_ex (h : DTree L T) : ∃ r T', T = (r, none) :: T' ∧ r ∈ L := by
  induction h with
  | @root r hr => exact ⟨r, [], rfl, hr⟩
  | snoc _ _ _ _ _ _ ih =>
    obtain ⟨r, T', rfl, hr⟩ := ih
    exact ⟨r, T' ++ _, rfl, hr⟩
theorem DTree.other (h : DTree L T) {r : Cell} (hr : (r, none) ∈ T) : ∀ v ∈ keysT T, v = r ∨ ∃ y, (v, some y) ∈ T := by
  induction h with
  | root =>
    intro v hv
    simp [keysT] at hv hr
    exact .inl (hv.trans hr.symm)
  | @snoc T w y t hy hw nw b anc ih =>
    have hr : (r, none) ∈ T := by
      rcases List.mem_append.mp hr with m | m
      · exact m
      · simp at m
    intro v hv
    rw [keys_snoc] at hv
    rcases List.mem_append.mp hv with m | m
    · rcases ih hr v m with e | ⟨z, hz⟩
      · exact .inl e
      · exact .inr ⟨z, List.mem_append_left _ hz⟩
    · exact .inr ⟨y, by rw [List.mem_singleton.mp m]; simp⟩
end
end Sq

set_option Elab.async false
set_option linter.all false
set_option maxRecDepth 100000
set_option maxHeartbeats 4000000
/-! A search in depth tells which cells can be taken away: the least numbers that are met. -/
namespace Sq
/-- what low tells -/
structure LowOk (L : List Cell) (T : List TwigC) (low : Cell → Nat) : Prop where
  le : ∀ v ∈ keysT T, ∀ w ∈ L, w ∈ besideC v → low v ≤ if (w, some v) ∈ T then low w else numT T w
  at_ : ∀ v ∈ keysT T, low v = numT T v ∨ ∃ w ∈ L, w ∈ besideC v ∧ low v = if (w, some v) ∈ T then low w else numT T w
section
variable {L : List Cell} {T : List TwigC} {low : Cell → Nat}
theorem LowOk.anc (lo : LowOk L T low) (h : DTree L T) {a v : Cell} (k : Anc T a v) : low a ≤ low v := by
  induction k with
  | refl => exact Nat.le_refl _
  | @step y v k m ih =>
    have t := h.twig m
    have := lo.le y t.2.1 v (h.sub v t.1) t.2.2.1
    rw [if_pos m] at this
    exact Nat.le_trans ih this
theorem LowOk.all (lo : LowOk L T low) (h : DTree L T) {c d w : Cell} (k : Anc T c d) (hd : d ∈ keysT T) (hw : w ∈ L) (b : w ∈ besideC d) (n : (w, some d) ∉ T) : low c ≤ numT T w := by
  have := lo.le d hd w hw b
  rw [if_neg n] at this
  exact Nat.le_trans (lo.anc h k) this
theorem LowOk.met (lo : LowOk L T low) (h : DTree L T) : ∀ c ∈ keysT T, low c = numT T c ∨ ∃ d w, Anc T c d ∧ d ∈ keysT T ∧ w ∈ L ∧ w ∈ besideC d ∧ low c = numT T w := by
  have key : ∀ n c, (keysT T).length - numT T c ≤ n → c ∈ keysT T → low c = numT T c ∨ ∃ d w, Anc T c d ∧ d ∈ keysT T ∧ w ∈ L ∧ w ∈ besideC d ∧ low c = numT T w := by
    intro n
    induction n with
    | zero =>
      intro c hn hc
      have := num_lt.mpr hc
      omega
    | succ n ih =>
      intro c hn hc
      rcases lo.at_ c hc with e | ⟨w, hw, b, e⟩
      · exact .inl e
      · by_cases m : (w, some c) ∈ T
        · rw [if_pos m] at e
          have t := h.twig m
          have l1 := num_lt.mpr hc
          have l2 := num_lt.mpr t.1
          rcases ih w (by omega) t.1 with e2 | ⟨d, z, k, hd, hz, bz, e2⟩
          · exact .inr ⟨c, w, .refl, hc, hw, b, e.trans e2⟩
          · exact .inr ⟨d, z, (Anc.refl.step m).trans k, hd, hz, bz, e.trans e2⟩
        · rw [if_neg m] at e
          exact .inr ⟨c, w, .refl, hc, hw, b, e⟩
  exact fun c hc => key _ c (Nat.le_refl _) hc
/-- all but v -/
abbrev but (L : List Cell) (v : Cell) : List Cell := L.filter fun d => decide (d ≠ v)
theorem mem_but {L : List Cell} {v x : Cell} : x ∈ but L v ↔ x ∈ L ∧ x ≠ v := by simp [but]
theorem DTree.down (h : DTree L T) {c v : Cell} (m : (c, some v) ∈ T) {d : Cell} (k : Anc T c d) : Reach (but L v) c d := by
  induction k with
  | refl => exact .refl
  | @step y x k mx ih =>
    have t := h.twig mx
    have n1 := h.anc_num k
    have n2 := (h.twig m).2.2.2
    exact ih.step t.2.2.1 (mem_but.mpr ⟨h.sub x t.1, fun e => by rw [e] at t; omega⟩)
theorem DTree.out (h : DTree L T) {r v x : Cell} (k : Anc T r x) (n : ¬ Anc T v x) : Reach (but L v) r x := by
  induction k with
  | refl => exact .refl
  | @step y x k m ih =>
    have t := h.twig m
    exact (ih fun z => n (z.step m)).step t.2.2.1 (mem_but.mpr ⟨h.sub x t.1, fun e => n (by rw [e]; exact .refl)⟩)
end
end Sq

set_option Elab.async false
set_option linter.all false
set_option maxRecDepth 100000
set_option maxHeartbeats 4000000
/-! The steps of a search in depth. -/
namespace Sq
/-- what lies ahead: neighbours of cells that were met, each on the way of the ones above it -/
inductive StkOk (L : List Cell) : List TwigC → List TwigC → Prop where
  | start {m : Cell} (h : m ∈ L) : StkOk L [] [(m, none)]
  | go {T S : List TwigC} (t : DTree L T) (ent : ∀ a ∈ S, ∃ y, a.2 = some y ∧ y ∈ keysT T ∧ a.1 ∈ L ∧ a.1 ∈ besideC y) (ch : S.Pairwise fun a b => ∀ y z, a.2 = some y → b.2 = some z → Anc T y z)
      (all : ∀ u ∈ keysT T, ∀ w ∈ L, w ∈ besideC u → w ∉ keysT T → (w, some u) ∈ S) : StkOk L T S
section
variable {L : List Cell} {T S : List TwigC} {x : Cell} {o : Option Cell}
theorem StkOk.fin (h : StkOk L T []) (hL : Hangs L) : DTree L T ∧ ∀ x ∈ L, x ∈ keysT T := by
  cases h with
  | go t ent ch all =>
    refine ⟨t, fun x hx => ?_⟩
    obtain ⟨r, T', e, rL⟩ := t.root_ex
    have rk : r ∈ keysT T := by rw [e]; simp [keysT]
    have k := hL.2 r rL x hx
    induction k with
    | refl => exact rk
    | @step b c k hb hc ih =>
      have bk := ih (by
        cases k with
        | refl => exact rL
        | step _ _ z => exact z)
      by_cases z : c ∈ keysT T
      · exact z
      · exact absurd (all b bk c hc hb z) (by simp)
theorem StkOk.keys (h : StkOk L T S) : (keysT T).Nodup ∧ ∀ v ∈ keysT T, v ∈ L := by
  cases h with
  | start => exact ⟨List.nodup_nil, fun v hv => nomatch hv⟩
  | go t _ _ _ => exact ⟨t.nodup, t.sub⟩
end
end Sq

set_option Elab.async false
set_option linter.all false
set_option maxRecDepth 100000
set_option maxHeartbeats 4000000
/-! Two squares or more: two free ones. -/
namespace Sq
section
variable {L : List Cell} {T : List TwigC}
end
end Sq

set_option Elab.async false
set_option linter.all false
set_option maxRecDepth 100000
set_option maxHeartbeats 4000000
/-! Hanging together without a square, by its neighbours. -/
namespace Sq
open PySem PySem.Spec PyProof.Rows L2
/-- the others hang together just if all neighbours come to one of them -/
theorem rest_hangs {L : List Cell} (hL : Hangs L) {c a : Cell} (hc : c ∈ L) (ha : a ∈ L) (ac : a ∈ besideC c) : Hangs (but L c) ↔ ∀ x ∈ L, x ∈ besideC c → Reach (but L c) a x := by
  have am : a ∈ but L c := mem_but.mpr ⟨ha, beside_ne ac⟩
  constructor
  · intro h x hx hb
    exact h.2 a am x (mem_but.mpr ⟨hx, beside_ne hb⟩)
  · intro h
    refine (hangs_from am).mpr fun b hb => ?_
    obtain ⟨bL, bc⟩ := mem_but.mp hb
    have key : ∀ b, Reach L c b → b = c ∨ Reach (but L c) a b := fun b r => by
      induction r with
      | refl => exact .inl rfl
      | @step b x _ hx xL ih =>
        by_cases e : x = c
        · exact .inl e
        · rcases ih with rfl | ih
          · exact .inr (h x xL hx)
          · exact .inr (ih.step hx (mem_but.mpr ⟨xL, e⟩))
    rcases key b (hL.2 c hc b bL) with e | r
    · exact absurd e bc
    · exact r
/-- a square of more has a neighbour -/
theorem near_ex {L : List Cell} (hL : Hangs L) {c d : Cell} (hc : c ∈ L) (hd : d ∈ L) (ne : d ≠ c) : ∃ a ∈ L, a ∈ besideC c := by
  have r := hL.2 d hd c hc
  cases r with
  | refl => exact absurd rfl ne
  | @step b x h hx _ => exact ⟨b, h.mem hd, beside_symm hx⟩
theorem bes {a b c d : Int} (h : (a = c - 1 ∧ b = d) ∨ (a = c ∧ b = d - 1) ∨ (a = c + 1 ∧ b = d) ∨ (a = c ∧ b = d + 1)) : (a, b) ∈ besideC (c, d) := beside_iff.mpr h
def crossL : List Cell := [(-1, -1), (1, -1), (1, 1), (-1, 1)]
/-- the cell crosswise from c lies in L between two neighbours of c -/
def linkB (L : List Cell) (c d : Cell) : Bool := decide ((c.1 + d.1, c.2 + d.2) ∈ L) && (decide ((c.1 + d.1, c.2) ∈ L) && decide ((c.1, c.2 + d.2) ∈ L))
def linksN (L : List Cell) (c : Cell) : Nat := (crossL.filter (linkB L c)).length
def b2n (b : Bool) : Nat := if b = true then 1 else 0
theorem ring4 : ∀ p0 p1 p2 p3 l0 l1 l2 l3 : Bool, (!l0 || (p0 && p1)) && (!l1 || (p1 && p2)) && (!l2 || (p2 && p3)) && (!l3 || (p3 && p0)) = true → 2 ≤ b2n p0 + b2n p1 + b2n p2 + b2n p3 → b2n p0 + b2n p1 + b2n p2 + b2n p3 ≤ b2n l0 + b2n l1 + b2n l2 + b2n l3 + 1 →
    ((p0 && p1) = true → (l0 || (l1 && l2 && l3)) = true) ∧ ((p1 && p2) = true → (l1 || (l2 && l3 && l0)) = true) ∧ ((p2 && p3) = true → (l2 || (l3 && l0 && l1)) = true) ∧ ((p3 && p0) = true → (l3 || (l0 && l1 && l2)) = true) ∧ ((p0 && p2) = true → ((l0 && l1) || (l2 && l3)) = true) ∧ ((p1 && p3) = true → ((l1 && l2) || (l3 && l0)) = true) := by decide +kernel
theorem filt4 {p : Cell → Bool} {a b c d : Cell} : ([a, b, c, d].filter p).length = b2n (p a) + b2n (p b) + b2n (p c) + b2n (p d) := by
  simp only [List.filter_cons, List.filter_nil, b2n]
  cases p a <;> cases p b <;> cases p c <;> cases p d <;> rfl
theorem links_reach {L : List Cell} {c : Cell} (h2 : 2 ≤ ((besideC c).filter fun d => decide (d ∈ L)).length) (hl : ((besideC c).filter fun d => decide (d ∈ L)).length ≤ linksN L c + 1) :
    ∀ x ∈ L, x ∈ besideC c → ∀ y ∈ L, y ∈ besideC c → Reach (but L c) x y := by
  obtain ⟨c1, c2⟩ := c
  have W : ∀ {x y : Cell}, x ∈ L → x ≠ (c1, c2) → y ∈ L → y ≠ (c1, c2) → ∀ z ∈ L, z ≠ (c1, c2) → z ∈ besideC x → y ∈ besideC z → Reach (but L (c1, c2)) x y := fun {x y} _ _ yL yn z zL zn h k => (Reach.step .refl h (mem_but.mpr ⟨zL, zn⟩)).step k (mem_but.mpr ⟨yL, yn⟩)
  have neq : ∀ {a b : Int}, (a, b) ≠ (c1, c2) ↔ a ≠ c1 ∨ b ≠ c2 := fun {a b} => by rw [Ne, Prod.mk.injEq]; omega
  have L0 : linkB L (c1, c2) (-1, -1) = true → Reach (but L (c1, c2)) (c1 - 1, c2) (c1, c2 - 1) := fun h => by
    simp only [linkB, Bool.and_eq_true, decide_eq_true_eq] at h
    obtain ⟨h1, h2, h3⟩ := h
    refine W h2 (neq.mpr (by omega)) h3 (neq.mpr (by omega)) _ h1 (neq.mpr (by omega)) (bes (by omega)) (bes (by omega))
  have L1 : linkB L (c1, c2) (1, -1) = true → Reach (but L (c1, c2)) (c1, c2 - 1) (c1 + 1, c2) := fun h => by
    simp only [linkB, Bool.and_eq_true, decide_eq_true_eq] at h
    obtain ⟨h1, h2, h3⟩ := h
    refine W h3 (neq.mpr (by omega)) h2 (neq.mpr (by omega)) _ h1 (neq.mpr (by omega)) (bes (by omega)) (bes (by omega))
  have L2 : linkB L (c1, c2) (1, 1) = true → Reach (but L (c1, c2)) (c1 + 1, c2) (c1, c2 + 1) := fun h => by
    simp only [linkB, Bool.and_eq_true, decide_eq_true_eq] at h
    obtain ⟨h1, h2, h3⟩ := h
    refine W h2 (neq.mpr (by omega)) h3 (neq.mpr (by omega)) _ h1 (neq.mpr (by omega)) (bes (by omega)) (bes (by omega))
  have L3 : linkB L (c1, c2) (-1, 1) = true → Reach (but L (c1, c2)) (c1, c2 + 1) (c1 - 1, c2) := fun h => by
    simp only [linkB, Bool.and_eq_true, decide_eq_true_eq] at h
    obtain ⟨h1, h2, h3⟩ := h
    refine W h3 (neq.mpr (by omega)) h2 (neq.mpr (by omega)) _ h1 (neq.mpr (by omega)) (bes (by omega)) (bes (by omega))
  have sy : ∀ {x y : Cell}, x ∈ L → x ∈ besideC (c1, c2) → Reach (but L (c1, c2)) x y → Reach (but L (c1, c2)) y x := fun {x y} xL hb r => r.symm (mem_but.mpr ⟨xL, beside_ne hb⟩)
  unfold besideC at h2 hl
  unfold linksN crossL at hl
  rw [filt4] at h2 hl
  rw [filt4] at hl
  have q := ring4 (decide ((c1 - 1, c2) ∈ L)) (decide ((c1, c2 - 1) ∈ L)) (decide ((c1 + 1, c2) ∈ L)) (decide ((c1, c2 + 1) ∈ L)) (linkB L (c1, c2) (-1, -1)) (linkB L (c1, c2) (1, -1)) (linkB L (c1, c2) (1, 1)) (linkB L (c1, c2) (-1, 1)) ?_ h2 hl
  · obtain ⟨q01, q12, q23, q30, q02, q13⟩ := q
    simp only [Bool.and_eq_true, Bool.or_eq_true, decide_eq_true_eq] at q01 q12 q23 q30 q02 q13
    have b0 : (c1 - 1, c2) ∈ besideC (c1, c2) := by simp [besideC]
    have b1 : (c1, c2 - 1) ∈ besideC (c1, c2) := by simp [besideC]
    have b2 : (c1 + 1, c2) ∈ besideC (c1, c2) := by simp [besideC]
    have b3 : (c1, c2 + 1) ∈ besideC (c1, c2) := by simp [besideC]
    have r01 : (c1 - 1, c2) ∈ L → (c1, c2 - 1) ∈ L → Reach (but L (c1, c2)) (c1 - 1, c2) (c1, c2 - 1) := fun m0 m1 => (q01 ⟨m0, m1⟩).elim L0 fun ⟨⟨h1, h2⟩, h3⟩ => sy m1 b1 (((L1 h1).trans (L2 h2)).trans (L3 h3))
    have r12 : (c1, c2 - 1) ∈ L → (c1 + 1, c2) ∈ L → Reach (but L (c1, c2)) (c1, c2 - 1) (c1 + 1, c2) := fun m0 m1 => (q12 ⟨m0, m1⟩).elim L1 fun ⟨⟨h1, h2⟩, h3⟩ => sy m1 b2 (((L2 h1).trans (L3 h2)).trans (L0 h3))
    have r23 : (c1 + 1, c2) ∈ L → (c1, c2 + 1) ∈ L → Reach (but L (c1, c2)) (c1 + 1, c2) (c1, c2 + 1) := fun m0 m1 => (q23 ⟨m0, m1⟩).elim L2 fun ⟨⟨h1, h2⟩, h3⟩ => sy m1 b3 (((L3 h1).trans (L0 h2)).trans (L1 h3))
    have r30 : (c1, c2 + 1) ∈ L → (c1 - 1, c2) ∈ L → Reach (but L (c1, c2)) (c1, c2 + 1) (c1 - 1, c2) := fun m0 m1 => (q30 ⟨m0, m1⟩).elim L3 fun ⟨⟨h1, h2⟩, h3⟩ => sy m1 b0 (((L0 h1).trans (L1 h2)).trans (L2 h3))
    have r02 : (c1 - 1, c2) ∈ L → (c1 + 1, c2) ∈ L → Reach (but L (c1, c2)) (c1 - 1, c2) (c1 + 1, c2) := fun m0 m1 => (q02 ⟨m0, m1⟩).elim (fun ⟨h1, h2⟩ => (L0 h1).trans (L1 h2)) fun ⟨h1, h2⟩ => sy m1 b2 ((L2 h1).trans (L3 h2))
    have r13 : (c1, c2 - 1) ∈ L → (c1, c2 + 1) ∈ L → Reach (but L (c1, c2)) (c1, c2 - 1) (c1, c2 + 1) := fun m0 m1 => (q13 ⟨m0, m1⟩).elim (fun ⟨h1, h2⟩ => (L1 h1).trans (L2 h2)) fun ⟨h1, h2⟩ => sy m1 b3 ((L3 h1).trans (L0 h2))
    intro x xL xb y yL yb
    simp only [besideC, List.mem_cons, List.not_mem_nil, or_false] at xb yb
    rcases xb with rfl | rfl | rfl | rfl <;> rcases yb with rfl | rfl | rfl | rfl
    · exact .refl
    · exact r01 xL yL
    · exact r02 xL yL
    · exact sy yL b3 (r30 yL xL)
    · exact sy yL b0 (r01 yL xL)
    · exact .refl
    · exact r12 xL yL
    · exact r13 xL yL
    · exact sy yL b0 (r02 yL xL)
    · exact sy yL b1 (r12 yL xL)
    · exact .refl
    · exact r23 xL yL
    · exact r30 xL yL
    · exact sy yL b1 (r13 yL xL)
    · exact sy yL b2 (r23 yL xL)
    · exact .refl
  · have e1 : ∀ x : Int, x + -1 = x - 1 := fun x => rfl
    simp only [linkB, e1]
    cases decide ((c1 - 1, c2) ∈ L) <;> cases decide ((c1, c2 - 1) ∈ L) <;> cases decide ((c1 + 1, c2) ∈ L) <;> cases decide ((c1, c2 + 1) ∈ L) <;> simp
/-- a square with one neighbour alone -/
theorem one_hangs {L : List Cell} (hL : Hangs L) {c a : Cell} (hc : c ∈ L) (h : ((besideC c).filter fun d => decide (d ∈ L)) = [a]) : Hangs (but L c) := by
  have m : ∀ x, x ∈ besideC c → x ∈ L → x = a := fun x hx hxL => List.mem_singleton.mp (h ▸ List.mem_filter.mpr ⟨hx, decide_eq_true hxL⟩)
  have am : a ∈ (besideC c).filter fun d => decide (d ∈ L) := by rw [h]; exact List.mem_singleton.mpr rfl
  obtain ⟨ab, al⟩ := List.mem_filter.mp am
  refine (rest_hangs hL hc (of_decide_eq_true al) ab).mpr fun x hx hb => ?_
  rw [m x hb hx]
  exact .refl
theorem none_hangs {L : List Cell} (hL : Hangs L) {c : Cell} (hc : c ∈ L) (h : ((besideC c).filter fun d => decide (d ∈ L)) = []) : ¬ Hangs (but L c) := fun k => by
  obtain ⟨d, hd⟩ := List.exists_mem_of_ne_nil _ k.1
  obtain ⟨dL, dc⟩ := mem_but.mp hd
  obtain ⟨a, aL, ab⟩ := near_ex hL hc dL dc
  have : a ∈ (besideC c).filter fun d => decide (d ∈ L) := List.mem_filter.mpr ⟨ab, decide_eq_true aL⟩
  rw [h] at this
  cases this
/-- by links enough -/
theorem links_hangs {L : List Cell} (hL : Hangs L) {c : Cell} (hc : c ∈ L) (h2 : 2 ≤ ((besideC c).filter fun d => decide (d ∈ L)).length) (hl : ((besideC c).filter fun d => decide (d ∈ L)).length ≤ linksN L c + 1) : Hangs (but L c) := by
  cases e : (besideC c).filter fun d => decide (d ∈ L) with
  | nil => rw [e] at h2; simp at h2
  | cons a t =>
    have am : a ∈ (besideC c).filter fun d => decide (d ∈ L) := by rw [e]; exact List.mem_cons_self ..
    obtain ⟨ab, al⟩ := List.mem_filter.mp am
    exact (rest_hangs hL hc (of_decide_eq_true al) ab).mpr fun x hx hb => links_reach h2 hl a (of_decide_eq_true al) ab x hx hb
/-- a flood without c that has all there is -/
theorem flood_rest {L F : List Cell} {c a : Cell} (hF : ∀ x ∈ F, x = c ∨ Reach (but L c) a x) (aF : a ∈ F) (ac : a ≠ c) (cl : ∀ x ∈ F, x ≠ c → ∀ y ∈ besideC x, y ∈ L → y ∈ F) : ∀ x, x ≠ c → (x ∈ F ↔ Reach (but L c) a x) := fun x nx => by
  constructor
  · exact fun h => (hF x h).elim (fun e => absurd e nx) id
  · intro r
    clear nx
    induction r with
    | refl => exact aF
    | @step b y hb h hy ih =>
      refine cl b ih ?_ y h (mem_but.mp hy).1
      cases hb with
      | refl => exact ac
      | step _ _ hm => exact (mem_but.mp hm).2
end Sq

set_option Elab.async false
set_option linter.all false
set_option maxRecDepth 100000
set_option maxHeartbeats 4000000
/-! The pairs of a dict whose keys are tuples, gone through. -/
namespace Sq
open PySem PySem.Spec PyProof.Rows L2
section
variable {X : Cx} {pins : List (Addr × Obj)} {σ : L2.St} {H : Hp} {s : Shared} {d : Addr} {o : Obj}
end
end Sq

set_option Elab.async false
set_option linter.all false
set_option maxRecDepth 100000
set_option maxHeartbeats 4000000
/-! enumerate over a dict whose keys are tuples. -/
namespace Sq
open PySem PySem.Spec PyProof.Rows L2
section
variable {prog : Program} {w : World} {A : Around} {E : Value → Shared → Prop} {s : Shared} {it d : Addr} {i ep : Nat} {es : Array DictEntry}
end
set_option maxHeartbeats 8000000 in
theorem enum_new {v : Value} {o : Obj} {Hh : Heap → Prop} (B : Begins v o Hh) :
    Meets (Builtin.«enumerate.__new__» ⟨[.type "enumerate", v], []⟩) (fun _ R s => Hh s.heap ∧ R (.ok (.ret (.ref (s.heap.push o).objs.size))) { s with heap := (s.heap.push o).push { cls := .type "enumerate", data := .fields #[.none, .bool false, .ref s.heap.objs.size, rawInt 0, .none, .none] } }) :=
  .of_wp fun prog w A R s hh => by
    obtain ⟨hp, g, d, tk, os⟩ := s
    obtain ⟨h1, q0⟩ := hh
    have subE := sub_enumerate
    have go : ∀ {A' : Around} {E : Value → Shared → Prop} {Q : Value → Shared → Prop}, Q (.ref hp.objs.size) ⟨hp.push o, g, d, tk, os⟩ → wpAny (model prog w) A' (pyIter v) Q E ⟨hp, g, d, tk, os⟩ := fun {A' E Q} q => B.iter prog w A' E ⟨hp, g, d, tk, os⟩ Q h1 q
    wp_walk using go
    refine wpAny_stack_any fun st => wpAny_pure ?_
    split
    · rename_i c _ _ _ _ _
      cases (c == Value.type "enumerate") <;> (wp_walk using go; exact ⟨_, rfl, q0⟩)
    · wp_walk using go; exact ⟨_, rfl, q0⟩
theorem call_enumD {prog : Program} {w : World} {A : Around} {E : Value → Shared → Prop} {s : Shared} {v : Value} {o : Obj} {Hh : Heap → Prop} {Q : Value → Shared → Prop} (B : Begins v o Hh) (h1 : Hh s.heap)
    (q : ∀ h', IsEnum h' (s.heap.objs.size + 1) s.heap.objs.size 0 .none → h'.get? s.heap.objs.size = some o → (∀ b u, s.heap.get? b = some u → h'.get? b = some u) → Q (.ref (s.heap.objs.size + 1)) { s with heap := h' }) :
    wpAny (model prog w) A (call (.type "enumerate") [v]) Q E s := by
  refine callType_new PySem.F.called_enumerate (by decide) (PySem.F.typeCall_enumerate_1 _) (PySem.F.newCall_enumerate_1 _) (fun obj => PySem.F.args_object_init_2 obj _) PySem.F.entry_enumerate_new (enum_new B) ⟨h1, ?_⟩
  have sz : (s.heap.push o).objs.size = s.heap.objs.size + 1 := Heap.size_push ..
  show _ ∧ _
  rw [sz]
  have he : IsEnum ((s.heap.push o).push { cls := .type "enumerate", data := .fields #[.none, .bool false, .ref s.heap.objs.size, rawInt 0, .none, .none] }) (s.heap.objs.size + 1) s.heap.objs.size 0 .none := by
    have z := Heap.get?_push_size (s.heap.push o) (o := { cls := .type "enumerate", data := .fields #[.none, .bool false, .ref s.heap.objs.size, rawInt 0, .none, .none] }) rfl
    rwa [sz] at z
  exact ⟨⟨_, he, rfl⟩, q _ he (Heap.get?_push_of_some _ (Heap.get?_push_size _ B.free)) fun b u x => Heap.get?_push_of_some _ (Heap.get?_push_of_some _ x)⟩
end Sq

set_option Elab.async false
set_option linter.all false
set_option maxRecDepth 100000
set_option maxHeartbeats 4000000
/-! min(xs, default=d), xs a list of ints. -/
namespace Sq
open PySem PySem.Spec PyProof.Rows L2
section
variable {prog : Program} {w : World} {A : Around} {R : Result → Shared → Prop} {it : Addr} {fp wr : List Addr} {n : Nat} {P : Nat → Value → Prop} {St : Nat → Heap → Prop} {d : Value}
end
section
variable {prog : Program} {w : World} {A : Around} {E : Value → Shared → Prop} {s : Shared}
end
end Sq

set_option Elab.async false
set_option linter.all false
set_option maxRecDepth 100000
set_option maxHeartbeats 4000000
/-! name = {k: v for ..}, the name a local. -/
namespace Sq
open PySem PySem.Spec PyProof.Rows L2
section
variable {X : Cx}
end
theorem sw_dict {kx vx : Expr} {gs : List Comprehension} {scope : Scope} {pos py : Pos} {y : Str} {l : Nat} {env : Env} (hk : env.scope.kind = .function) (hy : env.scope.names.lookup y = some .local) (hl : (py.line == pos.line) = true)
    (out : (scope.names.any fun (n, k) => n == y && (k == .local || k == .cell)) = false) : swapsWith (.DictComp kx vx gs scope pos) (some (.Name y py)) l env = pure true := by
  have e1 : env.kindOf y = some .local := hy
  have e2 : env.blockKind = .function := by
    unfold Env.blockKind
    rw [hk] <;> rfl
  unfold swapsWith
  simp only [e2, e1, out, Expr.pos, hl] <;> rfl
end Sq

set_option Elab.async false
set_option linter.all false
set_option maxRecDepth 100000
set_option maxHeartbeats 4000000
/-! A lot that hangs together is no wider than it has cells. -/
namespace Sq
open PySem PySem.Spec PyProof.Rows L2
end Sq

set_option Elab.async false
set_option linter.all false
set_option maxRecDepth 100000
set_option maxHeartbeats 4000000
/-! A call of a def that is run while no guard stands; the end of a law whose def is told so, with tables. -/
namespace Sq
open PySem PySem.Spec PyProof.Rows L2
section
variable {X : Cx} {CX : CXT} {j k : Nat} {f : Addr} {fd : FuncData} {ps : List Str} {sp : Sp} {E : XK}
end
/-- where a law begins: its script and its tables stand apart -/
structure Beg (P : Program) (w : World) (K : PySem.W.Frag) (ts : List Addr) (z : Shared) (a : Addr) (H : Hp) : Prop where
  tb : ∀ t ∈ ts, H t = some (.tbl #[])
  kinds : ∀ b, H b = none ∨ b ∈ ts ∨ ∃ o xs, H b = some (.frz o (.lst xs))
  ok : HOk P w H z.heap
  sup : ∀ b, H b ≠ none → b = a ∨ b ∈ ts
  ka : H a ≠ none → K.lookup a = none
/-- what of the heap is not tracked -/
theorem Beg.free {P : Program} {w : World} {K : PySem.W.Frag} {ts : List Addr} {z : Shared} {a : Addr} {H : Hp} {vs : List Value} (B : Beg P w K ts z a H) (ha : z.heap.get? a = some { cls := .type "list", data := .seq vs.toArray }) (ht : ∀ t ∈ ts, z.heap.get? t = some { cls := .none, data := .fields #[] })
    {b : Addr} {o : Obj} (e : z.heap.get? b = some o) (n1 : ∀ us m, o.data ≠ .seq us m) (n2 : o.data ≠ .fields #[]) : H b = none := by
  refine Classical.byContradiction fun n => ?_
  rcases B.sup b n with rfl | m
  · have y := Option.some.inj (ha.symm.trans e)
    subst y
    exact n1 _ _ rfl
  · have y := Option.some.inj ((ht b m).symm.trans e)
    subst y
    exact n2 rfl
end Sq

set_option Elab.async false
set_option linter.all false
set_option maxRecDepth 100000
set_option maxHeartbeats 4000000
/-! What repr shows, in few signs. -/
namespace Sq
open PySem PySem.Spec PyProof.Rows L2
/-- d is shown in n signs at most, nested m deep at most -/
structure Sh (m n : Nat) (d : PyData) : Prop where
  sh : d.showable = true
  nd : d.hasDict = false
  dp : d.depth ≤ m
  ln : d.shown.length ≤ n
theorem Sh.mono {m n m' n' : Nat} {d : PyData} (h : Sh m n d) (hm : m ≤ m') (hn : n ≤ n') : Sh m' n' d := ⟨h.sh, h.nd, Nat.le_trans h.dp hm, Nat.le_trans h.ln hn⟩
theorem Sh.fits {m n : Nat} {d : PyData} (s : Sh m n d) (hn : n ≤ 16777216 := by decide) : d.shown.length ≤ sizeLine := by
  rw [sizeLine_eq]
  exact Nat.le_trans s.ln hn
end Sq

set_option Elab.async false
set_option linter.all false
set_option maxRecDepth 100000
set_option maxHeartbeats 4000000
/-! enumerate over a tuple. -/
namespace Sq
open PySem PySem.Spec PyProof.Rows L2
/-- the items of the tuple at a with their numbers, in new pairs -/
def ItU (a : Addr) (xs : List V) : It :=
  ⟨fun i H => H a = some (.tup xs) ∧ i < xs.length, fun i H v H' => ∃ (t : Addr) (x : V), xs[i]? = some x ∧ v = .ref t ∧ H t = none ∧ H' = upd H t (.tup [.int (i : Nat), x]), fun i H => H a = some (.tup xs) ∧ xs.length ≤ i⟩
theorem turn_enumU {P : Program} {w : World} {K : PySem.W.Frag} {a e it : Addr} {xs : List V} {elts : List Expr} {kk : Nat} {tpos : Pos} :
    Turn P w K (.Tuple elts kk tpos) (ItU a xs) [e, it] e (fun i h => (∃ old, IsEnum h e it ((i : Nat) : Int) old) ∧ h.IsTupleIter it a i ∧ e ≠ it ∧ i ≤ xs.length) where
  mem := List.mem_cons_self ..
  obj := fun i h st b hb => by
    obtain ⟨⟨old, he⟩, ⟨oi, ei, ci, di⟩, _⟩ := st
    rcases List.mem_cons.mp hb with z | z
    · exact z ▸ ⟨_, he, fun v q => nomatch q⟩
    · refine List.mem_singleton.mp z ▸ ⟨oi, ei, fun v q => ?_⟩
      rw [di] at q
      cases q
  keep := fun i h h' st k => by
    obtain ⟨⟨old, he⟩, hi, ne, le⟩ := st
    exact ⟨⟨old, k e (List.mem_cons_self ..) _ he⟩, hi.at fun u q => k it (List.mem_cons_of_mem _ (List.mem_cons_self ..)) u q, ne, le⟩
  item := by
    intro X eP ew eK calm i pins s σ H E I free st go
    subst eP ew eK
    obtain ⟨hd, hi⟩ := go
    obtain ⟨its, rv, p, hz⟩ := I.tuple (SqT.of hd)
    have raw : s.heap.IsTuple a its.toArray := p
    obtain ⟨x, hx⟩ : ∃ x, xs[i]? = some x := ⟨_, List.getElem?_eq_getElem hi⟩
    obtain ⟨u, hu, ru⟩ := rv.get hx
    have hl := rv.length
    obtain ⟨⟨old, he⟩, here, ne, _⟩ := st
    have out : ∀ b ∈ [e, it], b ≠ a := fun b hb z => by
      have n := (free b hb).1
      rw [z, hd] at n
      cases n
    have ned : e ≠ a := out e (List.mem_cons_self ..)
    have nid : it ≠ a := out it (List.mem_cons_of_mem _ (List.mem_cons_self ..))
    have le : e < s.heap.objs.size := Heap.lt_size he
    have li : it < s.heap.objs.size := by
      obtain ⟨_, z, _⟩ := here
      exact Heap.lt_size z
    refine wpAny_pyNext_enum_itemC (Draws.tuple (A := X.A.in1) (I.ok.hd calm) it a (Ne.symm nid) its.toArray) he ⟨here, raw⟩ (by simp; omega) ne (by simp [ne, ned]) fun y h1 tk hP eo st1 tup _ old1 => ?_
    have ey : y = u := by
      have z : its.toArray[i]? = some u := by simpa using hu
      exact Option.some.inj (hP.symm.trans z)
    subst ey
    refine ⟨_, rfl, wpAny_letOwnedTupleGo_enum (s := { s with heap := h1, toks := tk + 1 }) eo fun h2 en sb => ?_⟩
    have tup2 : h2.get? s.heap.objs.size = some { cls := .type "tuple", data := .seq #[.int (i : Nat) tk, y] } := (sb.2 _ (Nat.ne_of_gt le)).trans tup
    have fresh : ObjOk X.prog X.w (upd H s.heap.objs.size (.tup [.int (i : Nat), x])) h2 s.heap.objs.size (.tup [.int (i : Nat), x]) :=
      ⟨by show 2 ≤ sizeLine; decide, [.int (i : Nat) tk, y], .cons ⟨_, rfl⟩ (.cons ru .nil), ⟨_, tup2, rfl, _, rfl⟩⟩
    have nb : ∀ {b : Addr}, b ∉ [e, it] → b ≠ e ∧ b ≠ it := fun {b} h => ⟨fun z => h (z ▸ List.mem_cons_self ..), fun z => h (z ▸ List.mem_cons_of_mem _ (List.mem_cons_self ..))⟩
    have J : Inv X pins σ (upd H s.heap.objs.size (.tup [.int (i : Nat), x])) { s with heap := h2, toks := tk + 1 } :=
      I.turnedNew (t' := tk + 1) (ch := [e, it]) (fun b u hb x => (sb.2 b (nb hb).1).trans (old1 b u (nb hb).1 (nb hb).2 x)) free (Nat.le_refl _) fresh
    have e1 : ((i + 1 : Nat) : Int) = (i : Int) + 1 := by omega
    refine ⟨.ref s.heap.objs.size, _, J, rfl, ⟨_, x, hx, rfl, I.hok.fresh (Nat.le_refl _), rfl⟩, ⟨⟨y, ?_⟩, st1.1.at fun u z => (sb.2 it (Ne.symm ne)).trans z, ne, hi⟩, fun b hb => ?_⟩
    · rw [e1]
      exact en
    · have lb : b < s.heap.objs.size := by
        rcases List.mem_cons.mp hb with z | z
        · rw [z]; exact le
        · rw [List.mem_singleton.mp z]; exact li
      rw [upd_ne (Nat.ne_of_lt lb)]
      exact (free b hb).1
  done := by
    intro X eP ew eK calm i pins s σ H E I free st stop
    subst eP ew eK
    obtain ⟨hd, hi⟩ := stop
    obtain ⟨its, rv, p, hz⟩ := I.tuple (SqT.of hd)
    have raw : s.heap.IsTuple a its.toArray := p
    have hl := rv.length
    obtain ⟨⟨old, he⟩, here, ne, le⟩ := st
    obtain ⟨f0, f1, f2, f3, f4, f5⟩ := free it (List.mem_cons_of_mem _ (List.mem_cons_self ..))
    have nid : it ≠ a := fun z => by
      rw [z, hd] at f0
      cases f0
    have ei : i = its.toArray.size := by
      rw [List.size_toArray]
      omega
    subst ei
    exact wpAny_pyNext_enum_endD (Draws.tuple (A := X.A.in1) (I.ok.hd calm) it a (Ne.symm nid) its.toArray) he ⟨here, raw⟩ fun h2 eb => ⟨rfl, I.turned (t' := s.toks) (fun b u hb z => eb b u hb z) f0 f1 f3 f4 f5⟩
  self := fun A i s Q E st h => by
    obtain ⟨⟨_, he⟩, _⟩ := st
    exact wpAny_pyIter_enum he h
/-- enumerate(t), t a tuple of the run -/
def iEnumU (ta : TA) : TI := fun σ H R => ta σ H fun vs H1 => ∃ a xs, vs = [.ref a] ∧ H1 a = some (.tup xs) ∧ R (ItU a xs) H1
theorem pi_enumU {X : Cx} {e : Expr} {ta : TA} {p pos tpos : Pos} {elts : List Expr} {kk : Nat} (hg : Gl X "enumerate") (hm : X.mg "enumerate" = none) (ha : PA X [e] ta) (hs : starEach [e] X.env = [(false, eval e X.env)] := by rfl) :
    PI X (.Tuple elts kk tpos) (.Call (.Name "enumerate" p) [e] [] pos) (iEnumU ta) := by
  refine ⟨fun pins s σ H R I asked => ?_⟩
  refine Call_ (ld_blt I hg hm boot_enumerate (PyProof.Rows.callWith_type1 (thn (ha.run pos pins s σ H _ I asked) fun us s1 ⟨vs, H1, I1, r1, a, xs, ex, hd, q⟩ => ?_) hs rfl))
  subst ex
  cases r1 with
  | cons r rr =>
    cases rr
    cases r
    obtain ⟨its, rv, p, hz⟩ := I1.tuple (SqT.of hd)
    have raw : s1.heap.IsTuple a its.toArray := p
    refine call_enumD (begins_tuple a its.toArray) raw fun h' he hit old => wpAny_pyIter_enum he ?_
    have I2 : Inv X pins σ H1 { s1 with heap := h' } := I1.kept (t' := s1.toks) old
    refine ⟨s1.heap.objs.size + 1, [s1.heap.objs.size + 1, s1.heap.objs.size], _, _, H1, rfl, I2, turn_enumU, ⟨⟨.none, he⟩, ⟨_, hit, rfl, rfl⟩, Nat.succ_ne_self _, Nat.zero_le _⟩, fun b hb => ?_, q⟩
    have le : s1.heap.objs.size ≤ b := by
      rcases List.mem_cons.mp hb with z | z
      · rw [z]; exact Nat.le_add_right _ _
      · rw [List.mem_singleton.mp z]; exact Nat.le_refl _
    exact I1.fpOk le (I1.hok.fresh le)
/-- a new pair of i and the i-th of xs -/
def YEn (xs : List V) : Nat → Hp → V → Hp → Prop := fun i H v H' => ∃ (t : Addr) (x : V), xs[i]? = some x ∧ v = .ref t ∧ H t = none ∧ H' = upd H t (.tup [.int (i : Nat), x])
theorem walk_enumU {a : Addr} {xs : List V} : Walk (ItU a xs) xs.length (fun H => H a = some (.tup xs)) (YEn xs) :=
  ⟨fun i H hi h => ⟨h, hi⟩, fun H h => ⟨h, Nat.le_refl _⟩, fun i H x H' hi h y => y⟩
theorem walk_enumL {K : PySem.W.Frag} {a : Addr} {xs : List V} : Walk (Ite K a) xs.length (fun H => SqL K H a xs) (YEn xs) :=
  ⟨fun i H hi h => ⟨xs, xs[i], h, List.getElem?_eq_getElem hi⟩, fun H h => ⟨xs, h, Nat.le_refl _⟩, fun i H v H' hi h y => by
    obtain ⟨t, x, e1, e2, e3, e4⟩ := y
    exact ⟨t, x, e4 xs h, e1, e2, e3⟩⟩
end Sq

set_option Elab.async false
set_option linter.all false
set_option maxRecDepth 100000
set_option maxHeartbeats 4000000
/-! The parts are told by the cells alone. -/
namespace Sq
open PySem PySem.Spec PyProof.Rows L2
theorem asc_memU {A M : List Cell} (nA : A.Nodup) (nM : M.Nodup) (sa : Asc A) (sm : Asc M) (mem : ∀ x, x ∈ A ↔ x ∈ M) : A = M :=
  List.Perm.eq_of_pairwise (le := fun x y => cLt y x = false) (fun x y _ _ h k => cLt_tri k h) sa sm ((List.perm_ext_iff_of_nodup nA nM).mpr mem)
theorem IsParts.sub {cs : List Cell} {ps qs : List (List Cell)} (h : IsParts cs ps) (k : IsParts cs qs) : ∀ p ∈ ps, p ∈ qs := fun p hp => by
  obtain ⟨ap, np, ne⟩ := h.asc p hp
  obtain ⟨x, hx⟩ := List.exists_mem_of_ne_nil _ ne
  obtain ⟨xc, cp⟩ := h.cls p hp x hx
  obtain ⟨q, hq, xq⟩ := k.cov x xc
  obtain ⟨aq, nq, _⟩ := k.asc q hq
  have e : p = q := asc_memU np nq ap aq fun y => by rw [cp y, (k.cls q hq x xq).2 y]
  exact e ▸ hq
theorem IsParts.nodup {cs : List Cell} {ps : List (List Cell)} (h : IsParts cs ps) : ps.Nodup := h.ord.imp fun {p q} ⟨a, b, ha, hb, lt⟩ e => by
  subst e
  rw [ha] at hb
  have := Option.some.inj hb
  subst this
  rw [cLt_irr] at lt
  cases lt
end Sq

set_option Elab.async false
set_option linter.all false
set_option maxRecDepth 100000
set_option maxHeartbeats 4000000
/-! A value that is locked for good behind its making; in, for a text and a list of texts. -/
namespace Sq
open PySem PySem.Spec PyProof.Rows L2
end Sq

set_option Elab.async false
set_option linter.all false
set_option maxRecDepth 100000
set_option maxHeartbeats 4000000
/-! dict(pairs) of a list of pairs of unlike tuples and values. -/
namespace Sq
open PySem PySem.Spec PyProof PyProof.Rows L2
/-- a walk as the comprehensions ask for it -/
theorem w_ofR {J : It} {n : Nat} {Gd : Hp → Prop} {Y : Nat → Hp → V → Hp → Prop} (w : Walk J n Gd Y) {H1 : Hp} {Qd : Hp → Prop} {St : V → Hp → (Hp → Prop) → Prop} (Pv : Nat → Hp → Prop) (h0 : Pv 0 H1) (hG : ∀ i G, i ≤ n → Pv i G → Gd G)
    (hs : ∀ i x G G', i < n → Pv i G → Y i G x G' → St x G' (Pv (i + 1))) (hd : ∀ G, Pv n G → Qd G) : ∃ W : Nat → Nat → Hp → Prop, (∃ m, W 0 m H1) ∧ ∀ i m H, W i m H →
      (J.stop i H ∧ Qd H) ∨ (J.go i H ∧ ∃ Nx : Hp → Prop, (∀ H', Nx H' → ∃ m', m' < m ∧ W (i + 1) m' H') ∧ ∀ x H', J.yld i H x H' → St x H' Nx) := by
  refine ⟨fun i m H => m = n - i ∧ i ≤ n ∧ Pv i H, ⟨n, rfl, Nat.zero_le _, h0⟩, ?_⟩
  rintro i m H ⟨rfl, hi, p⟩
  by_cases lt : i < n
  · exact .inr ⟨w.goes i H lt (hG i H hi p), Pv (i + 1), fun H' p' => ⟨n - (i + 1), by omega, rfl, lt, p'⟩, fun x H' y => hs i x H H' lt p (w.yields i H x H' lt (hG i H hi p) y)⟩
  · obtain rfl : i = n := Nat.le_antisymm hi (Nat.le_of_not_lt lt)
    exact .inl ⟨w.stops H (hG i H hi p), hd H p⟩
theorem storedAll_new {xs : List (List Key × Addr × Value)} : ∀ {ps acc : List (List Key × Addr × Value)}, ((acc ++ ps).map (·.1)).Nodup → PySem.storedAllH acc ps = acc ++ ps
  | [], acc, _ => (List.append_nil acc).symm
  | p :: ps, acc, nd => by
    have n1 : p.1 ∉ acc.map (·.1) := fun m => by
      rw [List.map_append, List.map_cons] at nd
      exact (List.nodup_append.mp nd).2.2 _ m _ (List.mem_cons_self ..) rfl
    have e : PySem.atKey acc p.1 = none := by
      unfold PySem.atKey
      rw [Option.map_eq_none_iff, List.find?_eq_none]
      intro x hx q
      exact n1 (List.mem_map.mpr ⟨x, hx, of_decide_eq_true q⟩)
    have e2 : acc ++ p :: ps = (acc ++ [p]) ++ ps := by rw [List.append_assoc]; rfl
    rw [e2]
    refine Eq.trans ?_ (storedAll_new (xs := xs) (ps := ps) (acc := acc ++ [p]) (by rw [← e2]; exact nd))
    show PySem.storedAllH (PySem.storedH acc p.1 p.2.1 p.2.2) ps = _
    rw [PySem.storedH_new e]
/-- a new pair of a tuple of keys and a value -/
def PrAt (H : Hp) (p : Addr) (kv : List Key × V) : Prop := ∃ q : Addr, H p = some (.tup [.ref q, kv.2]) ∧ H q = some (.tup (kv.1.map kV))
/-- dict(l) -/
def rDictT (K : PySem.W.Frag) : List V → Hp → VK → Prop := fun vs H Q => ∃ (a : Addr) (ps : List Addr) (kvs : List (List Key × V)), vs = [V.ref a] ∧ SqL K H a (ps.map V.ref) ∧ Paired (fun p kv => PrAt H p kv) ps kvs ∧ (kvs.map Prod.fst).Nodup ∧
  ∀ p, H p = none → Q (.ref p) (upd H p (.dT kvs))
section
variable {X : Cx}
theorem vals_two {x y : V} {us : List Value} (h : Vals [x, y] us) : ∃ u v, us = [u, v] ∧ RelV x u ∧ RelV y v := by
  cases h with
  | cons a t =>
    cases t with
    | cons b t2 =>
      cases t2
      exact ⟨_, _, rfl, a, b⟩
theorem vals_ref : ∀ {ps : List Addr} {us : List Value}, Vals (ps.map V.ref) us → us = ps.map Value.ref
  | [], us, h => by
    cases h
    rfl
  | p :: ps, us, h => by
    cases h with
    | cons r t => rw [show _ = Value.ref p from r, vals_ref t]; rfl
theorem pairs_at {pins : List (Addr × Obj)} {s : Shared} {σ : L2.St} {H : Hp} (I : Inv X pins σ H s) : ∀ {ps : List Addr} {kvs : List (List Key × V)}, Paired (fun p kv => PrAt H p kv) ps kvs →
    ∃ xs : List (List Key × Addr × Value), L2.KT H kvs xs ∧ xs.length = ps.length ∧ ∀ (j : Nat) (x : List Key × Addr × Value), xs[j]? = some x → ∃ p : Addr, ps[j]? = some p ∧ PySem.PairAt s.heap p (.ref x.2.1) x.2.2
  | [], [], .nil => ⟨[], .nil, rfl, by simp⟩
  | p :: ps, kv :: kvs, .cons h t => by
    obtain ⟨xs, kt, l, at_⟩ := pairs_at I t
    obtain ⟨q, e1, e2⟩ := h
    obtain ⟨its, rv, pl, hz⟩ := I.tuple (SqT.of e1)
    obtain ⟨u1, u, rfl, r1, r2⟩ := vals_two rv
    obtain rfl : u1 = Value.ref q := r1
    refine ⟨(kv.1, q, u) :: xs, .cons ⟨rfl, e2, r2⟩ kt, by rw [List.length_cons, l, List.length_cons], fun j x hj => ?_⟩
    cases j with
    | zero =>
      obtain rfl : (kv.1, q, u) = x := by simpa using hj
      exact ⟨p, rfl, .inl pl⟩
    | succ j =>
      obtain ⟨p', hp', e'⟩ := at_ j x (by simpa using hj)
      exact ⟨p', by simpa using hp', e'⟩
theorem kt_keys {H : Hp} : ∀ {kvs : List (List Key × V)} {xs : List (List Key × Addr × Value)}, L2.KT H kvs xs → kvs.map Prod.fst = xs.map (·.1)
  | [], [], .nil => rfl
  | _ :: _, _ :: _, .cons h t => by rw [List.map_cons, List.map_cons, kt_keys t, h.1]
theorem kt_mem {H : Hp} : ∀ {kvs : List (List Key × V)} {xs : List (List Key × Addr × Value)}, L2.KT H kvs xs → ∀ x ∈ xs, ∃ kv : List Key × V, kv.1 = x.1 ∧ H x.2.1 = some (.tup (kv.1.map kV))
  | [], [], .nil, x, m => by cases m
  | p :: _, q :: _, .cons h t, x, m => by
    rcases List.mem_cons.mp m with rfl | m
    · exact ⟨p, h.1, h.2.1⟩
    · exact kt_mem t x m
theorem call_dictT (calm : X.calm = true) (hu : X.A.units + 64 < cLine) : CallR X (.type "dict") (rDictT X.K) := by
  intro pins s σ H vs us Q I r h
  obtain ⟨a, ps, kvs, rfl, hs, pr, nd, q⟩ := h
  rw [Vals.ref1 r]
  obtain ⟨its, rv, pl, hz⟩ := I.list hs
  have ei := vals_ref rv
  subst ei
  rw [List.length_map] at hz
  obtain ⟨xs, kt, lx, at_⟩ := pairs_at I pr
  obtain ⟨o, n, ho, hc, hd, hdat⟩ := pl
  have ndx : (xs.map (·.1)).Nodup := by
    rw [← kt_keys kt]
    exact nd
  have hx : ∀ x ∈ xs, (tupleKind (mixKind X.prog X.w)).is s.heap x.1 x.2.1 := fun x hx => by
    obtain ⟨kv, e1, e2⟩ := kt_mem kt x hx
    exact key_of I.hok (by rw [← e1]; exact e2)
  have lk : kvs.length = xs.length := by
    have := congrArg List.length (kt_keys kt)
    rwa [List.length_map, List.length_map] at this
  have room : (tupleKind (mixKind X.prog X.w)).room X.A.in1.in1 := tupleKind_room_in1 (A := X.A.in1) (by
    have e : X.A.in1.units = X.A.units + 1 := rfl
    omega)
  let Ts : Nat → Addr := fun j => ps.getD j 0
  have items : PySem.PairItems s.heap (ps.map Value.ref).toArray Ts (xs.map fun x => (Value.ref x.2.1, x.2.2)) := by
    refine ⟨by simp [lx], fun j k v hj => ?_⟩
    rw [List.getElem?_map] at hj
    obtain ⟨x, hx, e⟩ := Option.map_eq_some_iff.mp hj
    obtain ⟨p, hp, pa⟩ := at_ j x hx
    have e1 : Ts j = p := by
      show ps.getD j 0 = p
      rw [List.getD_eq_getElem?_getD, hp]
      rfl
    obtain ⟨rfl, rfl⟩ := Prod.mk.inj e
    rw [e1]
    exact ⟨by simp [hp], pa⟩
  refine PySem.call_dict_pairsH (knd := tupleKind (mixKind X.prog X.w)) (ps := xs) (PySem.PairArg.list a _ Ts _) (I.ok.hd calm) room ⟨⟨o, n, ho, hc, hd, hdat⟩, items⟩ ⟨by rw [List.length_map], fun i key v hr => ?_⟩ (fun h' hk x hm => ?_) (by rw [List.length_map, lx]; exact hz) fun h' tk hd' hk => ?_
  · have hr : (xs.map fun x => (Value.ref x.2.1, x.2.2))[i]? = some (key, v) := hr
    rw [List.getElem?_map] at hr
    obtain ⟨x, hx, e⟩ := Option.map_eq_some_iff.mp hr
    obtain ⟨rfl, rfl⟩ := Prod.mk.inj e
    exact ⟨x.1, x.2.1, hx, rfl⟩
  · exact (PySem.tupleKind_stays (knd := mixKind X.prog X.w)).stays (fun b o vs n e _ => hk b o (Nat.ne_of_lt (Heap.lt_size e)) (by simp) e) (hx x hm)
  · rw [storedAll_new (xs := []) (by simpa using ndx)] at hd'
    obtain ⟨o', es, ep, e1, e2, e3, e4, _, _⟩ := hd'
    have hm : (s.heap.objs.size == sysModules) = false := beq_eq_false_iff_ne.mpr (Nat.ne_of_gt I.big)
    have kt' : L2.KT (upd H s.heap.objs.size (.dT kvs)) kvs xs := L2.Paired.mapP kt fun a b h => ⟨h.1, by
      rw [upd_ne (fun z => by
        have := I.hok.fresh (a := s.heap.objs.size) (Nat.le_refl _)
        rw [← z, h.2.1] at this
        cases this)]
      exact h.2.1, h.2.2⟩
    exact ⟨.ref s.heap.objs.size, upd H s.heap.objs.size (.dT kvs), I.laid (t' := tk) (fun b o e => hk b o (by simp) e) (Nat.le_refl _) (show ObjOk X.prog X.w _ _ _ (.dT kvs) from ⟨by omega, hm, xs, kt', o', es, ep, e1, e2, e3, e4, ndx⟩), rfl, q _ (I.hok.fresh (Nat.le_refl _))⟩
end
end Sq

set_option Elab.async false
set_option linter.all false
set_option maxRecDepth 100000
set_option maxHeartbeats 4000000
/-! list(d.keys()), d a dict with tuples as keys. -/
namespace Sq
open PySem PySem.Spec PySem.Calls PyProof PyProof.Rows L2
/-- the keys of the dict at d, seen by the object at v -/
def KeysO (v d : Addr) : HO := .ext fun h => PySem.W.KdlKeysView h v d
section
variable {X : Cx} {e : Expr} {td : TE} {apos cpos : Pos}
def tKeysV (td : TE) : TE := fun σ H Q => td σ H fun x H1 => ∃ (d : Addr) (kvs : List (List Key × V)), x = .ref d ∧ H1 d = some (.dT kvs) ∧ ∀ v, H1 v = none → Q (.ref v) (upd H1 v (KeysO v d))
theorem pe_keysV (he : PE X e td) (hbase : attributeBase e "keys" X.env (eval e X.env) = eval e X.env := by rfl) (hline : (apos.endLine == cpos.line) = true := by rfl) : PE X (.Call (.Attribute e "keys" apos) [] [] cpos) (tKeysV td) := by
  refine ⟨fun pins s σ H Q I h => ?_⟩
  refine wpAny_Call_method (T := "dict") (id := "dict.keys") hbase rfl hline F.plainAttrs_dict F.slot_dict_keys F.type_dict_keys (thn (he.run pins s σ H _ I h) fun u s1 ⟨x, H1, I1, rx, d, kvs, ex, hd, q⟩ => ?_)
  subst ex
  obtain rfl : u = Value.ref d := rx
  obtain ⟨z, hs, ks, pr, o, es, ep, ho, hx, hdt, he2, hn⟩ := (show ObjOk X.prog X.w H1 s1.heap d (.dT kvs) from I1.hok d _ hd)
  have hm : s1.heap.DictRaw d es ep := ⟨o, ho, hx, hdt⟩
  refine ⟨hm.typeIs, fun a ea => ⟨o, by cases ea; exact ho, hx.2.1⟩, ?_⟩
  show wpAny _ _ (callWith cpos (.builtin "dict.keys") [.ref d] [] []) _ X.xe s1
  refine method_meetsIn F.slot_dict_keys F.entry_dict_keys rfl (PySem.evalArgs_none ⟨rfl, hm.typeIs, F.args_dict_keys_1 _, _, PySem.meets_dict_keys_raw d hs, ⟨es, ep, hm⟩, ?_⟩)
  have hnone := I1.hok.fresh (a := s1.heap.objs.size) (Nat.le_refl _)
  refine ⟨.ref s1.heap.objs.size, upd H1 s1.heap.objs.size (KeysO s1.heap.objs.size d), I1.laid (t' := s1.toks) (fun b o e => Heap.get?_push_of_some _ e) (Nat.le_refl _) ?_, rfl, q _ hnone⟩
  refine ⟨⟨_, Heap.get?_push_size _ rfl, rfl, rfl⟩, ⟨_, Heap.get?_push_size _ rfl⟩, fun h1 h2 ⟨o, e, r⟩ k => ⟨o, k _ e, r⟩⟩
theorem call_list_keys (hc : X.calm = true) : CallR X (.type "list") (fun xs H Q => ∃ (v d : Addr) (kvs : List (List Key × V)), xs = [V.ref v] ∧ H v = some (KeysO v d) ∧ H d = some (.dT kvs) ∧ ∀ p bs, H p = none → IsKeys H kvs bs → Q (.ref p) (upd H p (.lst (bs.map V.ref)))) := by
  intro pins s σ H xs us Q I r h
  obtain ⟨v, d, kvs, rfl, hv, hd, q⟩ := h
  obtain ⟨u, rfl, rx⟩ := r.one
  cases rx
  obtain ⟨hvw, _, _⟩ := (show ObjOk X.prog X.w H s.heap v (KeysO v d) from I.hok v _ hv)
  obtain ⟨z, hs, ks, pr, o, es, ep, ho, hx, hdt, he, hn⟩ := (show ObjOk X.prog X.w H s.heap d (.dT kvs) from I.hok d _ hd)
  have hm : s.heap.DictRaw d es ep := ⟨o, ho, hx, hdt⟩
  have l1 : es.size = ks.length := by
    have := congrArg List.length he
    simpa using this
  have l2 : kvs.length = ks.length := Paired.length pr
  refine PySem.W.kdl_call (PySem.KdlSrc.rawKeys) (I.ok.hd hc) ⟨hvw, hm⟩ (by omega) fun h' tk acc' c' kp e it => ?_
  have ea : acc'.toList = ks.map fun x => Value.ref x.2.1 := by
    have hl : acc'.toList.length = ks.length := by rw [Array.length_toList, it.1]; exact l1
    apply List.ext_getElem?
    intro j
    rw [List.getElem?_map]
    cases hj : acc'.toList[j]? with
    | none =>
      have h1 := List.getElem?_eq_none_iff.mp hj
      rw [List.getElem?_eq_none (by omega)]
      all_goals rfl
    | some v =>
      obtain ⟨hi, hv⟩ := it.2 j v (by rw [← Array.getElem?_toList]; exact hj)
      have qe := entry_at he j
      rw [Array.getElem?_eq_getElem hi] at qe
      cases hb : ks[j]? with
      | none =>
        rw [hb] at qe
        exact nomatch qe
      | some b =>
        rw [hb] at qe
        have e2 : es[j] = entryOfKey (tupleKind (mixKind X.prog X.w)) b := Option.some.inj qe
        rw [hv, e2]
        all_goals rfl
  have eb : acc'.toList = (ks.map fun x => x.2.1).map Value.ref := by rw [ea, List.map_map]; all_goals rfl
  have rv : Vals ((ks.map fun x => x.2.1).map V.ref) acc'.toList := by rw [eb]; exact L2.vals_refs _
  have hz : ((ks.map fun x => x.2.1).map V.ref).length ≤ sizeLine := by rw [List.length_map, List.length_map]; omega
  refine ⟨.ref s.heap.objs.size, _, I.laid (t' := tk) (o := .lst ((ks.map fun x => x.2.1).map V.ref)) kp (Nat.le_refl _) ?_, rfl, q _ _ (I.hok.fresh (Nat.le_refl _)) (isKeys_of pr)⟩
  exact ⟨hz, acc'.toList, c', rv, by rw [Array.toArray_toList]; exact e⟩
end
end Sq

set_option Elab.async false
set_option linter.all false
set_option maxRecDepth 100000
set_option maxHeartbeats 4000000
/-! d == {}, d a dict with tuples as keys. -/
namespace Sq
open PySem PySem.Spec PySem.Calls PyProof PyProof.Rows L2
section
variable {prog : Program} {w : World} {A : Around} {E : Value → Shared → Prop} {s : Shared}
/-- the entries of a dict, raw -/
def RawD (h : Heap) (a : Addr) (n : Nat) : Prop := ∃ (o : Obj) (es : Array DictEntry) (ep : Nat), h.get? a = some o ∧ o.ExactDict ∧ o.data = .dict es ep ∧ es.size = n
theorem RawD.typeIs {a : Addr} {n : Nat} (h : RawD s.heap a n) : s.TypeIs (.ref a) "dict" := by
  obtain ⟨o, es, ep, ho, hx, _⟩ := h
  exact ⟨o, ho, hx.1⟩
theorem pairs_empty {nm : String} {a b : Addr} {n : Nat} {Q : Bool → Shared → Prop} (ha : (a == sysModules) = false) (hb : (b == sysModules) = false) (da : RawD s.heap a n) (db : RawD s.heap b 0) (h : Q (decide (n = 0)) s) :
    wpAny (model prog w) A (Builtin.Dict.samePairs nm a b) Q E s := by
  obtain ⟨oa, es, ep, hoa, _, hda, rfl⟩ := da
  obtain ⟨ob, es', ep', hob, _, hdb, hz⟩ := db
  unfold Builtin.Dict.samePairs Builtin.Dict.showsAll
  rw [if_neg (show ¬ (a == sysModules) = true by rw [ha]; exact Bool.false_ne_true), if_neg (show ¬ (b == sysModules) = true by rw [hb]; exact Bool.false_ne_true)]
  refine wpAny_bind (wpAny_pure (wpAny_bind (wpAny_pure ?_)))
  refine wpAny_bind (wpAny_dictEntries hoa hda ?_)
  dsimp only
  refine wpAny_bind (wpAny_dictEntries hob hdb ?_)
  rw [hz]
  by_cases hsz : es.size = 0
  case neg =>
    rw [if_pos (by simpa using hsz)]
    rw [decide_eq_false hsz] at h
    exact wpAny_bind (wpAny_rule (wpAny_pure h))
  case pos =>
    rw [decide_eq_true hsz] at h
    rw [if_neg (by rw [hsz]; simp)]
    refine wpAny_bind (wpAny_dictEpoch hoa hda ?_)
    refine wpAny_bind ?_
    rw [Std.Legacy.Range.forIn_eq_forIn_range']
    simp only [Std.Legacy.Range.size, Nat.sub_zero, Nat.add_sub_cancel, Nat.div_one, hsz]
    exact wpAny_pure (wpAny_pure h)
end
section
variable {X : Cx}
def rEqE : R2 := fun x y H Q => ∃ (a b : Addr) (kvs : List (List Key × V)), x = .ref a ∧ y = .ref b ∧ H a = some (.dT kvs) ∧ H b = some (.dT []) ∧ Q (.bl (decide (kvs = []))) H
theorem raw_dT {pins : List (Addr × Obj)} {s : Shared} {σ : L2.St} {H : Hp} {a : Addr} {kvs : List (List Key × V)} (I : Inv X pins σ H s) (e : H a = some (.dT kvs)) : (a == sysModules) = false ∧ RawD s.heap a kvs.length := by
  obtain ⟨_, y, xs, r, o, es, ep, h1, h2, h3, h4, _⟩ := (show ObjOk X.prog X.w H s.heap a (.dT kvs) from I.hok a _ e)
  refine ⟨y, o, es, ep, h1, h2, h3, ?_⟩
  have l1 := congrArg List.length h4
  rw [List.length_map] at l1
  have l2 := Paired.length r
  simpa [l2] using l1
theorem op_eqE (hu : X.A.units + 64 < cLine) : OpR X (compareOp .Eq) rEqE := by
  intro pins s σ H x y v u Q I rx ry h
  obtain ⟨a, b, kvs, rfl, rfl, ea, eb, q⟩ := h
  obtain rfl : v = Value.ref a := rx
  obtain rfl : u = Value.ref b := ry
  obtain ⟨ya, da⟩ := raw_dT I ea
  obtain ⟨yb, db⟩ := raw_dT I eb
  have hu2 : X.A.units < cLine := by omega
  refine wpAny_richCompare_same_room (op := .Eq) da.typeIs db.typeIs PySem.F.slot_dict_eq (wpAny_call_entry PySem.F.slot_dict_eq da.typeIs PySem.F.entry_dict_eq ?_ (PySem.F.args_dict_eq_2 _ _)) hu2
  show wpAny _ _ (Builtin.Dict.dictSlotArgs "__eq__" ⟨[.ref a, .ref b], []⟩ >>= _) _ _ s
  refine wpAny_bind ?_
  unfold Builtin.Dict.dictSlotArgs
  refine wpAny_bind (wpAny_notOrdered_dict da.typeIs ?_)
  show wpAny _ _ (pure (Value.ref a, Value.ref b)) _ _ s
  refine wpAny_pure ?_
  refine wpAny_bind (wpAny_isInstance (T := "dict") db.typeIs PySem.F.sub_dict_dict ?_)
  simp only [Bool.not_true, Bool.false_eq_true, if_false]
  refine wpAny_bind (wpAny_pure (wpAny_bind (wpAny_pure ?_)))
  refine wpAny_bind (pairs_empty ya yb da db ?_)
  refine wpAny_pure ⟨_, rfl, ?_, ?_⟩
  · exact fun x => nomatch x
  · exact fin_bl I q (by simp)
end
end Sq

set_option Elab.async false
set_option linter.all false
set_option maxRecDepth 100000
set_option maxHeartbeats 4000000
/-! Dicts whose keys are nested tuples. -/
namespace Sq
open PySem PySem.Spec PyProof.Rows L2
abbrev NK := NestedKey
mutual
/-- the key that a datum is -/
def nkD : PyData → NK
  | .none => .none
  | .bool b => .num (if b = true then 1 else 0)
  | .int i => .num i
  | .str x => .text x
  | .tuple ds => .tup (nkAll ds)
  | .list _ => .none
  | .dict _ => .none
def nkAll : List PyData → List NK
  | [] => []
  | d :: ds => nkD d :: nkAll ds
end
mutual
def keyD : PyData → Bool
  | .list _ => false
  | .dict _ => false
  | .tuple ds => keyAll ds
  | _ => true
def keyAll : List PyData → Bool
  | [] => true
  | d :: ds => keyD d && keyAll ds
end
mutual
theorem reads_nk {h : Heap} : ∀ (d : PyData) (v : Value) (as : List Addr), keyD d = true → Reads h v d as → NestedIs h (nkD d) v
  | .none, _, _, _, r => by cases r; exact .none
  | .bool b, _, _, _, r => by cases r; exact .bool rfl
  | .int i, _, _, _, r => by cases r; exact .int ..
  | .str x, _, _, _, r => by cases r; exact .text ..
  | .tuple ds, _, _, k, r => by
    cases r with
    | tuple ho hc hd hr => exact .tup ho hc hd (reads_nkAll ds _ _ (by simpa [keyD] using k) hr)
  | .list _, _, _, k, _ => by simp [keyD] at k
  | .dict _, _, _, k, _ => by simp [keyD] at k
theorem reads_nkAll {h : Heap} : ∀ (ds : List PyData) (vs : List Value) (as : List Addr), keyAll ds = true → ReadsAll h vs ds as → NestedAll h (nkAll ds) vs
  | [], _, _, _, r => by cases r; exact .nil
  | d :: ds, _, _, k, r => by
    cases r with
    | cons r1 r2 =>
      rw [keyAll, Bool.and_eq_true] at k
      exact .cons (reads_nk d _ _ k.1 r1) (reads_nkAll ds _ _ k.2 r2)
end
/-- the tuple at b is the key k -/
structure NAt (K : PySem.W.Frag) (H : Hp) (b : Addr) (k : NK) : Prop where
  ex : ∃ d, Dp K H (.ref b) d ∧ keyD d = true ∧ nkD d = k
  dep : k.depth ≤ 8
abbrev NEnt := Addr × NK × V
def ofN (P : Program) (w : World) (l : NEnt) (x : NK × Addr × Value) : Prop := x.1 = l.2.1 ∧ x.2.1 = l.1 ∧ RelV l.2.2 x.2.2
/-- a dict with these entries stands at a -/
def DNO (P : Program) (w : World) (a : Addr) (L : List NEnt) : HO := .ext fun h => L.length ≤ sizeLine ∧ (a == sysModules) = false ∧ ∃ (xs : List (NK × Addr × Value)) (o : Obj) (es : Array DictEntry) (ep : Nat), Paired (ofN P w) L xs ∧ h.get? a = some o ∧ o.ExactDict ∧ o.data = .dict es ep ∧ es.toList = xs.map (entryOfKey (nestedKind P w)) ∧ (xs.map (·.1)).Nodup
def DN (P : Program) (w : World) (H : Hp) (a : Addr) (L : List NEnt) : Prop := H a = some (DNO P w a L) ∨ (L = [] ∧ H a = some (.dT []))
def valN (L : List NEnt) (k : NK) : Option V := (L.find? fun l => decide (l.2.1 = k)).map (·.2.2)
def putN (L : List NEnt) (b : Addr) (k : NK) (v : V) : List NEnt := if (L.any fun l => decide (l.2.1 = k)) = true then L.map fun l => if l.2.1 = k then (l.1, l.2.1, v) else l else L ++ [(b, k, v)]
theorem dno_stab {P : Program} {w : World} {a : Addr} {L : List NEnt} {h1 h2 : Heap} (x : ∃ (xs : List (NK × Addr × Value)) (o : Obj) (es : Array DictEntry) (ep : Nat), Paired (ofN P w) L xs ∧ h1.get? a = some o ∧ o.ExactDict ∧ o.data = .dict es ep ∧ es.toList = xs.map (entryOfKey (nestedKind P w)) ∧ (xs.map (·.1)).Nodup) (k : ∀ o, h1.get? a = some o → h2.get? a = some o) :
    ∃ (xs : List (NK × Addr × Value)) (o : Obj) (es : Array DictEntry) (ep : Nat), Paired (ofN P w) L xs ∧ h2.get? a = some o ∧ o.ExactDict ∧ o.data = .dict es ep ∧ es.toList = xs.map (entryOfKey (nestedKind P w)) ∧ (xs.map (·.1)).Nodup := by
  obtain ⟨xs, o, es, ep, p, e, r⟩ := x
  exact ⟨xs, o, es, ep, p, k o e, r⟩
theorem ofN_mem {P : Program} {w : World} {L : List NEnt} {xs : List (NK × Addr × Value)} (pr : Paired (ofN P w) L xs) : ∀ x ∈ xs, ∃ l ∈ L, ofN P w l x := by
  induction pr with
  | nil => intro x hx; cases hx
  | cons r _ ih =>
    intro x hx
    rcases List.mem_cons.mp hx with z | z
    · exact ⟨_, List.mem_cons_self .., z ▸ r⟩
    · obtain ⟨l, hl, q⟩ := ih x z
      exact ⟨l, List.mem_cons_of_mem _ hl, q⟩
theorem ofN_val {P : Program} {w : World} {k : NK} {L : List NEnt} {xs : List (NK × Addr × Value)} (pr : Paired (ofN P w) L xs) : (valN L k = none ∧ atKey xs k = none) ∨ ∃ v p, valN L k = some v ∧ atKey xs k = some p ∧ RelV v p.2 := by
  induction pr with
  | nil => exact .inl ⟨rfl, rfl⟩
  | @cons l x L xs r _ ih =>
    obtain ⟨e1, e2, e3⟩ := r
    unfold valN atKey at ih ⊢
    rw [List.find?_cons, List.find?_cons, e1]
    by_cases h : l.2.1 = k
    · rw [decide_eq_true h]
      exact .inr ⟨_, _, rfl, rfl, e3⟩
    · rw [decide_eq_false h]
      exact ih
theorem valN_any {L : List NEnt} {k : NK} : (L.any fun l => decide (l.2.1 = k)) = (valN L k).isSome := by
  unfold valN
  rw [Option.isSome_map]
  induction L with
  | nil => rfl
  | cons l L ih =>
    rw [List.any_cons, List.find?_cons]
    by_cases h : l.2.1 = k
    · rw [decide_eq_true h]
      rfl
    · rw [decide_eq_false h, Bool.false_or]
      exact ih
theorem ofN_put {P : Program} {w : World} {k : NK} {b : Addr} {v : V} {r : Value} {L : List NEnt} {xs : List (NK × Addr × Value)} (pr : Paired (ofN P w) L xs) (rv : RelV v r) : Paired (ofN P w) (putN L b k v) (storedH xs k b r) := by
  unfold putN storedH
  rw [valN_any]
  rcases ofN_val (k := k) pr with ⟨h1, h2⟩ | ⟨v', p, h1, h2, _⟩
  · rw [h1, h2]
    exact pr.snoc ⟨rfl, rfl, rv⟩
  · rw [h1, h2]
    show Paired _ (L.map _) (xs.map _)
    clear h1 h2
    induction pr with
    | nil => exact .nil
    | @cons l x L xs q _ ih =>
      refine .cons ?_ ih
      obtain ⟨e1, e2, e3⟩ := q
      unfold putAt
      dsimp only
      by_cases h : l.2.1 = k
      · rw [if_pos h, if_pos (e1.trans h)]
        exact ⟨e1, e2, rv⟩
      · rw [if_neg h, if_neg (fun z => h (e1 ▸ z))]
        exact ⟨e1, e2, e3⟩
theorem putN_len {L : List NEnt} {b : Addr} {k : NK} {v : V} : (putN L b k v).length ≤ L.length + 1 := by
  unfold putN
  split
  · rw [List.length_map]
    exact Nat.le_succ _
  · rw [List.length_append]
    exact Nat.le_refl _
section
variable {X : Cx} {pins : List (Addr × Obj)} {σ : L2.St} {H : Hp} {s : Shared} {a b : Addr} {k : NK} {L : List NEnt}
theorem nat_is (I : Inv X pins σ H s) (h : NAt X.K H b k) : (nestedKind X.prog X.w).is s.heap k b := by
  obtain ⟨d, dp, kd, e⟩ := h.ex
  obtain ⟨as, r⟩ := Dp.reads I d _ (.ref b) dp rfl
  exact ⟨e ▸ reads_nk d _ as kd r, h.dep⟩
theorem dn_of (I : Inv X pins σ H s) (h : DN X.prog X.w H a L) (hk : ∀ l ∈ L, NAt X.K H l.1 l.2.1) : L.length ≤ sizeLine ∧ (a == sysModules) = false ∧ ∃ xs, Paired (ofN X.prog X.w) L xs ∧ s.heap.DictOfH (nestedKind X.prog X.w) a xs := by
  rcases h with e | ⟨rfl, e⟩
  · obtain ⟨⟨z, hs, xs, o, es, ep, pr, ho, hx, hd, he, hn⟩, _, _⟩ := I.hok a _ e
    refine ⟨z, hs, xs, pr, o, es, ep, ho, hx, hd, he, fun x hx => ?_, hn⟩
    obtain ⟨l, hl, e1, e2, _⟩ := ofN_mem pr x hx
    rw [e1, e2]
    exact nat_is I (hk l hl)
  · obtain ⟨z, hs, xs, rel, o, es, ep, ho, hx, hd, he, his, hn⟩ := dt_of I.hok e
    cases rel
    exact ⟨Nat.zero_le _, hs, [], .nil, o, es, ep, ho, hx, hd, he, by simp, List.nodup_nil⟩
theorem dno_ok {P : Program} {w : World} {H' : Hp} {h' : Heap} {L : List NEnt} {xs : List (NK × Addr × Value)} {a : Addr} (z : L.length ≤ sizeLine) (hs : (a == sysModules) = false) (pr : Paired (ofN P w) L xs) (dd : h'.DictOfH (nestedKind P w) a xs) : ObjOk P w H' h' a (DNO P w a L) := by
  obtain ⟨o, es, ep, ho, hx, hd, he, _, hn⟩ := dd
  exact ⟨⟨z, hs, xs, o, es, ep, pr, ho, hx, hd, he, hn⟩, ⟨o, ho⟩, fun h1 h2 q k => ⟨q.1, q.2.1, dno_stab q.2.2 k⟩⟩
theorem dn_mut (h : DN X.prog X.w H a L) : Mut (H a) := by
  rcases h with e | ⟨_, e⟩ <;> rw [e] <;> exact True.intro
/-- d[key] -/
def tDGetN (P : Program) (w : World) (K : PySem.W.Frag) (td ty : TE) : TE := fun σ H Q => td σ H fun x H1 => ty σ H1 fun y H2 => ∃ (a b : Addr) (k : NK) (L : List NEnt) (v : V), x = .ref a ∧ y = .ref b ∧ DN P w H2 a L ∧ (∀ l ∈ L, NAt K H2 l.1 l.2.1) ∧ NAt K H2 b k ∧ valN L k = some v ∧ Q v H2
theorem pe_dgetN {o i : Expr} {pos : Pos} {td ty : TE} (hu : X.A.units + 64 < cLine) (ho : PE X o td) (hi : PE X i ty) (hs : NoSl i) : PE X (.Subscript o i pos) (tDGetN X.prog X.w X.K td ty) := by
  refine ⟨fun pins s σ H Q I h => ?_⟩
  refine subD_of PySem.F.slot_dict_getitem.lookup hs (thn (ho.run pins s σ H _ I h) fun u s1 ⟨x, H1, I1, rx, q1⟩ => thn (hi.run pins s1 σ H1 _ I1 q1) fun iv s2 ⟨y, H2, I2, ry, a, b, k, L, v, ex, ey, h2, hk, kb, l, q2⟩ => ?_)
  subst ex ey
  obtain rfl : u = Value.ref a := rx
  obtain rfl : iv = Value.ref b := ry
  obtain ⟨z, hsy, xs, pr, dd⟩ := dn_of I2 h2 hk
  refine ⟨dd.typeIs, ?_⟩
  rcases ofN_val (k := k) pr with ⟨h1, _⟩ | ⟨v', p, h1, h3, rv⟩
  · rw [h1] at l
    cases l
  · rw [h1] at l
    obtain rfl := Option.some.inj l
    exact wpAny_getItem_heap (show (nestedKind X.prog X.w).room X.A.in1 from by show X.A.units + 1 + 8 < cLine; omega) (nat_is I2 kb) dd h3 ⟨v', H2, I2.tok _, rv, q2⟩
end
end Sq

set_option Elab.async false
set_option linter.all false
set_option maxRecDepth 100000
set_option maxHeartbeats 4000000
/-! xs[a:c] = t, t a list or a tuple. -/
namespace Sq
open PySem PySem.Spec PyProof.Rows L2
section
variable {prog : Program} {w : World} {A : Around} {E : Value → Shared → Prop} {s : Shared}
end
section
variable {X : Cx}
end
end Sq

set_option Elab.async false
set_option linter.all false
set_option maxRecDepth 100000
set_option maxHeartbeats 4000000
/-! A body of two squares or more has a free square with an empty cell at one of its sides. -/
namespace Sq
open PySem PySem.Spec PyProof.Rows L2
theorem west_most : ∀ {A : List Cell}, A ≠ [] → ∃ a ∈ A, ∀ b ∈ A, a.1 ≤ b.1
  | [c], _ => ⟨c, by simp, fun b hb => by rw [List.mem_singleton.mp hb]; exact Int.le_refl _⟩
  | c :: d :: L, _ => by
    obtain ⟨m, hm, h⟩ := west_most (A := d :: L) (by simp)
    by_cases e : c.1 ≤ m.1
    · refine ⟨c, List.mem_cons_self .., fun b hb => ?_⟩
      rcases List.mem_cons.mp hb with rfl | z
      · exact Int.le_refl _
      · have := h b z
        omega
    · refine ⟨m, List.mem_cons_of_mem _ hm, fun b hb => ?_⟩
      rcases List.mem_cons.mp hb with rfl | z
      · omega
      · exact h b z
/-- not r, and an empty cell beside it -/
theorem side_ex {L : List Cell} (nL : L.Nodup) (l : 1 < L.length) (r : Cell) : ∃ z ∈ L, z ≠ r ∧ ∃ g ∈ besideC z, g ∉ L := by
  have ne : L ≠ [] := fun z => by rw [z] at l; cases l
  obtain ⟨a, aL, ha⟩ := east_most ne
  obtain ⟨b, bL, hb⟩ := west_most ne
  have ea : (a.1 + 1, a.2) ∉ L := fun m => by
    have := ha _ m
    simp only at this
    omega
  have wb : (b.1 - 1, b.2) ∉ L := fun m => by
    have := hb _ m
    simp only at this
    omega
  by_cases h1 : a = r
  · by_cases h2 : b = r
    · -- one column
      obtain ⟨z, zL, zr⟩ : ∃ z ∈ L, z ≠ r := by
        refine Classical.byContradiction fun n => ?_
        have all : ∀ x ∈ L, x ∈ [r] := fun x hx => Classical.byContradiction fun m => n ⟨x, hx, fun e => m (by rw [e]; exact List.mem_singleton.mpr rfl)⟩
        have := len_le nL all
        simp at this
        omega
      refine ⟨z, zL, zr, (z.1 + 1, z.2), by simp [besideC], fun m => ?_⟩
      have x1 := ha _ m
      have x2 := hb _ zL
      rw [h1] at x1
      rw [h2] at x2
      simp only at x1
      omega
    · exact ⟨b, bL, h2, (b.1 - 1, b.2), by simp [besideC], wb⟩
  · exact ⟨a, aL, h1, (a.1 + 1, a.2), by simp [besideC], ea⟩
theorem free_side : ∀ (n : Nat) {L : List Cell}, L.length ≤ n → L.Nodup → Hangs L → 1 < L.length → ∀ r ∈ L, ∃ f ∈ L, f ≠ r ∧ Hangs (but L f) ∧ ∃ g ∈ besideC f, g ∉ L
  | 0, L, hn, _, _, l, _, _ => by omega
  | n + 1, L, hn, nL, hL, l, r, rL => by
    obtain ⟨z, zL, zr, g, gz, gL⟩ := side_ex nL l r
    by_cases hz : Hangs (but L z)
    · exact ⟨z, zL, zr, hz, g, gz, gL⟩
    have rb : r ∈ but L z := mem_but.mpr ⟨rL, Ne.symm zr⟩
    obtain ⟨b, bb, nr⟩ : ∃ b ∈ but L z, ¬ Reach (but L z) r b := by
      refine Classical.byContradiction fun m => hz ((hangs_from rb).mpr fun b hb => Classical.byContradiction fun k => m ⟨b, hb, k⟩)
    have dec : DecidablePred fun x => Reach (but L z) b x := fun _ => Classical.propDecidable _
    let B : List Cell := L.filter fun x => decide (Reach (but L z) b x)
    have memB : ∀ {x}, x ∈ B ↔ x ∈ L ∧ Reach (but L z) b x := fun {x} => by simp [B]
    have Bb : ∀ {x}, x ∈ B → x ∈ but L z := fun h => (memB.mp h).2.mem bb
    have bB : b ∈ B := memB.mpr ⟨(mem_but.mp bb).1, .refl⟩
    have zB : z ∉ B := fun h => (mem_but.mp (Bb h)).2 rfl
    have rB : r ∉ B := fun h => nr ((memB.mp h).2.symm bb)
    have clB : ∀ {x y}, x ∈ B → y ∈ L → y ≠ z → y ∈ besideC x → y ∈ B := fun hx yL yz hy => memB.mpr ⟨yL, (memB.mp hx).2.step hy (mem_but.mpr ⟨yL, yz⟩)⟩
    have subB : ∀ x ∈ z :: B, x ∈ L := fun x hx => (List.mem_cons.mp hx).elim (fun e => e ▸ zL) fun h => (memB.mp h).1
    have ndB : (z :: B).Nodup := List.nodup_cons.mpr ⟨zB, nL.sublist List.filter_sublist⟩
    -- from b within B
    have rBb : ∀ {x}, Reach (but L z) b x → Reach (z :: B) b x := fun h => by
      induction h with
      | refl => exact .refl
      | @step u v hu hv vm ih =>
        have uB : u ∈ B := memB.mpr ⟨(mem_but.mp (hu.mem bb)).1, hu⟩
        exact ih.step hv (List.mem_cons_of_mem _ (clB uB (mem_but.mp vm).1 (mem_but.mp vm).2 hv))
    -- z is beside one of B
    obtain ⟨y, yB, yz⟩ : ∃ y ∈ B, y ∈ besideC z := by
      have key : ∀ x, Reach L b x → x ∈ B ∨ ∃ y ∈ B, y ∈ besideC z := fun x h => by
        induction h with
        | refl => exact .inl bB
        | @step u v hu hv vL ih =>
          rcases ih with uB | k
          · by_cases e : v = z
            · exact .inr ⟨u, uB, beside_symm (e ▸ hv)⟩
            · exact .inl (clB uB vL e hv)
          · exact .inr k
      rcases key z (hL.2 b (mem_but.mp bb).1 z zL) with h | h
      · exact absurd h zB
      · exact h
    have hB' : Hangs (z :: B) := by
      refine (hangs_from (List.mem_cons_of_mem _ bB)).mpr fun x hx => ?_
      rcases List.mem_cons.mp hx with rfl | h
      · exact (rBb (memB.mp yB).2).step (beside_symm yz) (List.mem_cons_self ..)
      · exact rBb (memB.mp h).2
    have lB : (z :: B).length ≤ n := by
      have l1 := len_le (xs := r :: z :: B) (ys := L) (List.nodup_cons.mpr ⟨fun m => (List.mem_cons.mp m).elim (fun e => zr e.symm) rB, ndB⟩) fun x hx => (List.mem_cons.mp hx).elim (fun e => e ▸ rL) (subB x)
      simp only [List.length_cons] at l1 ⊢
      omega
    have l2 : 1 < (z :: B).length := by
      have := List.length_pos_of_mem bB
      simp only [List.length_cons]
      omega
    obtain ⟨f, fB', fz, hf, e, ef, eB⟩ := free_side n lB ndB hB' l2 z (List.mem_cons_self ..)
    have fB : f ∈ B := (List.mem_cons.mp fB').elim (fun h => absurd h fz) id
    have fL := (memB.mp fB).1
    refine ⟨f, fL, fun h => rB (h ▸ fB), ?_, e, ef, fun eL => ?_⟩
    · have zf : z ∈ but L f := mem_but.mpr ⟨zL, Ne.symm fz⟩
      refine (hangs_from zf).mpr fun x hx => ?_
      obtain ⟨xL, xf⟩ := mem_but.mp hx
      by_cases xB : x ∈ B
      · have zb : z ∈ but (z :: B) f := mem_but.mpr ⟨List.mem_cons_self .., Ne.symm fz⟩
        have q := hf.2 z zb x (mem_but.mpr ⟨List.mem_cons_of_mem _ xB, xf⟩)
        exact Reach.mono (fun u hu => mem_but.mpr ⟨subB u (mem_but.mp hu).1, (mem_but.mp hu).2⟩) q
      · have key : ∀ x, Reach L z x → x ∉ B → Reach (but L f) z x := fun x h => by
          induction h with
          | refl => exact fun _ => .refl
          | @step u v hu hv vL ih =>
            intro vB
            by_cases ez : v = z
            · rw [ez]
              exact .refl
            · by_cases uB : u ∈ B
              · exact absurd (clB uB vL ez hv) vB
              · exact (ih uB).step hv (mem_but.mpr ⟨vL, fun q => vB (q ▸ fB)⟩)
        exact key x (hL.2 z zL x xL) xB
    · have ez : e ≠ z := fun q => eB (q ▸ List.mem_cons_self ..)
      exact eB (List.mem_cons_of_mem _ (clB fB eL ez ef))
end Sq

set_option Elab.async false
set_option linter.all false
set_option maxRecDepth 100000
set_option maxHeartbeats 4000000
/-! Dicts whose keys are nested tuples: gone through, made, sorted. -/
namespace Sq
open PySem PySem.Spec PyProof.Rows L2
section
variable {X : Cx} {pins : List (Addr × Obj)} {σ : L2.St} {H : Hp} {s : Shared} {d : Addr} {o : Obj}
end
/-! ### sorted -/
section
variable {X : Cx}
end
end Sq

set_option Elab.async false
set_option linter.all false
set_option maxRecDepth 100000
set_option maxHeartbeats 8000000
/-! name = {k: v for .. for ..}, the name a local. -/
namespace Sq
open PySem PySem.Spec PyProof.Rows L2
section
variable {prog : Program} {w : World} {A : Around} {R : Result → Shared → Prop} {kx vx t0 i0 t1 i1 : Expr} {c0 c1 : List Expr} {sc : Scope} {pos : Pos} {wk acc : Value} {env : Env}
end
section
variable {X : Cx}
end
end Sq

set_option Elab.async false
set_option linter.all false
set_option maxRecDepth 100000
set_option maxHeartbeats 4000000
/-! {k: v for .. for ..}, the keys tuples of tuples. -/
namespace Sq
open PySem PySem.Spec PyProof.Rows L2
def DPutN (P : Program) (w : World) (K : PySem.W.Frag) (G : Hp) (a : Addr) (y v : V) (G' : Hp) : Prop := ∃ (b : Addr) (k : NK) (L : List NEnt), y = .ref b ∧ DN P w G a L ∧ (∀ l ∈ L, NAt K G l.1 l.2.1) ∧ NAt K G b k ∧ (putN L b k v).length ≤ sizeLine ∧ G' = upd G a (DNO P w a (putN L b k v))
theorem dcn_put {X : Cx} {ps : List (Addr × Obj)} {τ : L2.St} {G G' : Hp} {z : Shared} {Er : Value → Shared → Prop} {a : Addr} {y v : V} {u r : Value} {Qp : Unit → Shared → Prop} (hu : X.A.units + 64 < cLine) (J : Inv X ps τ G z)
    (g : DPutN X.prog X.w X.K G a y v G') (ru : RelV y u) (rr : RelV v r) (q : ∀ z', Inv X ps τ G' z' → Qp () z') : wpAny (model X.prog X.w) X.A (dictSet a u r) Qp Er z := by
  obtain ⟨b, k, L, rfl, h, hk, kb, big, rfl⟩ := g
  obtain rfl : u = Value.ref b := ru
  obtain ⟨zl, hs, xs, pr, dd⟩ := dn_of J h hk
  refine wpAny_dictSet_heap (hsz := by rw [← Paired.length pr]; exact zl) (show (nestedKind X.prog X.w).room X.A from by show X.A.units + 8 < cLine; omega) (nat_is J kb) dd fun h' dd' same => q _ ?_
  obtain ⟨o2, es, ep, ho, _⟩ := id dd'
  exact d_write J (dn_mut h) same ⟨o2, ho⟩ (dno_ok big hs (ofN_put pr rr) dd')
section
variable {X : Cx}
end
end Sq

set_option Elab.async false
set_option linter.all false
set_option maxRecDepth 100000
set_option maxHeartbeats 4000000
/-! Sets of tuples of tuples of ints (bodies), none twice: what a search among them meets. -/
namespace Sq
open PySem PySem.Spec PyProof.Rows L2
/-- a tuple of tuples of ints -/
def N2 (k : NK) : Prop := ∃ cs : List (List Int), k = .tup (cs.map fun c => .tup (c.map .num))
theorem all_mem {h : Heap} : ∀ {ks : List NK} {vs : List Value}, NestedAll h ks vs → ∀ v ∈ vs, ∃ k ∈ ks, NestedIs h k v
  | [], _, r, v, hv => by cases r; cases hv
  | k :: ks, _, r, v, hv => by
    cases r with
    | cons r1 r2 =>
      rcases List.mem_cons.mp hv with e | hv
      · exact ⟨k, by simp, e ▸ r1⟩
      · obtain ⟨j, hj, e⟩ := all_mem r2 v hv
        exact ⟨j, by simp [hj], e⟩
section
variable {P : Program} {w : World}
/-- of no class statement, n levels down -/
def NoCls (P : Program) (w : World) (n : Nat) (s : Shared) (v : Value) : Prop := ∀ (A : Around) (E : Value → Shared → Prop) (Q : Bool → Shared → Prop), Q false s → wpAny (model P w) A (ofAClassStatement n v) Q E s
/-- its hash is by value, n levels down -/
def ByVal (P : Program) (w : World) (n : Nat) (s : Shared) (v : Value) : Prop := ∀ (A : Around) (E : Value → Shared → Prop) (Q : Bool → Shared → Prop), Q true s → wpAny (model P w) A (hashByValue n v) Q E s
theorem noCls_num {n : Nat} {s : Shared} {i : Int} {v : Value} (h : NestedIs s.heap (.num i) v) : NoCls P w n s v := by
  intro A E Q q
  cases h <;> (cases n <;> exact wpAny_pure q)
theorem byVal_num {n : Nat} {s : Shared} {i : Int} {v : Value} (h : NestedIs s.heap (.num i) v) : ByVal P w n s v := by
  intro A E Q q
  cases h <;> (cases n <;> exact wpAny_pure q)
theorem noCls_tup {n : Nat} {s : Shared} {ks : List NK} {v : Value} (h : NestedIs s.heap (.tup ks) v) (hi : ∀ u k, k ∈ ks → NestedIs s.heap k u → NoCls P w n s u) : NoCls P w (n + 1) s v := by
  intro A E Q q
  cases h with
  | @tup a o vs m _ ho hc hd hall =>
    have hT : s.TypeIs (.ref a) "tuple" := ⟨o, ho, hc⟩
    have each := all_mem hall
    unfold ofAClassStatement
    refine wpAny_bind (wpAny_typeOf hT ?_)
    have e : (("tuple" : String) == "tuple") = true := by decide
    dsimp only
    simp only [e, if_true, Bool.not_true, Bool.false_eq_true, if_false]
    try refine wpAny_bind (wpAny_pure ?_)
    try simp only [Bool.not_true, Bool.false_eq_true, if_false]
    show wpAny _ _ (seqItems? (.ref a) >>= _) _ _ s
    refine wpAny_bind (wpAny_seqItems ho hd ?_)
    dsimp only
    refine wpAny_bind ?_
    show wpAny _ _ (forIn vs _ _) _ _ s
    rw [← Array.forIn_toList]
    refine wpAny_forIn_list _ (fun left r z => r.1 = none ∧ z = s ∧ ∀ u ∈ left, NoCls P w n s u) _ ?_ ?_ _ _ ⟨rfl, rfl, fun u hu => ?_⟩
    · rintro u left r z ⟨_, rfl, all⟩
      refine wpAny_bind (all u List.mem_cons_self _ _ _ ?_)
      simp only [Bool.false_eq_true, if_false]
      exact wpAny_pure ⟨rfl, rfl, fun u' hu' => all u' (List.mem_cons_of_mem _ hu')⟩
    · rintro ⟨r1, r2⟩ z ⟨e1, rfl, _⟩
      simp only at e1
      subst e1
      exact wpAny_pure q
    · obtain ⟨k, hk, hku⟩ := each u hu
      exact hi u k hk hku
theorem byVal_tup {n : Nat} {s : Shared} {ks : List NK} {v : Value} (h : NestedIs s.heap (.tup ks) v) (hi : ∀ u k, k ∈ ks → NestedIs s.heap k u → ByVal P w n s u) : ByVal P w (n + 1) s v := by
  intro A E Q q
  cases h with
  | @tup a o vs m _ ho hc hd hall =>
    have hT : s.TypeIs (.ref a) "tuple" := ⟨o, ho, hc⟩
    have each := all_mem hall
    unfold hashByValue
    refine wpAny_bind (wpAny_specialOf hT F.slot_tuple_hash.lookup ?_)
    show wpAny _ _ (seqItems? (.ref a) >>= _) _ _ s
    refine wpAny_bind (wpAny_seqItems ho hd ?_)
    refine wpAny_bind ?_
    show wpAny _ _ (forIn vs _ _) _ _ s
    rw [← Array.forIn_toList]
    refine wpAny_forIn_list _ (fun left r z => r.1 = none ∧ z = s ∧ ∀ u ∈ left, ByVal P w n s u) _ ?_ ?_ _ _ ⟨rfl, rfl, fun u hu => ?_⟩
    · rintro u left r z ⟨_, rfl, all⟩
      refine wpAny_bind (all u List.mem_cons_self _ _ _ ?_)
      simp only [Bool.not_true, Bool.false_eq_true, if_false]
      exact wpAny_pure ⟨rfl, rfl, fun u' hu' => all u' (List.mem_cons_of_mem _ hu')⟩
    · rintro ⟨r1, r2⟩ z ⟨e1, rfl, _⟩
      simp only at e1
      subst e1
      exact wpAny_pure q
    · obtain ⟨k, hk, hku⟩ := each u hu
      exact hi u k hk hku
/-- the tuple at b is the body k -/
def IsN (P : Program) (w : World) (h : Heap) (k : NK) (b : Addr) : Prop := (nestedKind P w).is h k b ∧ N2 k
variable {s : Shared} {k : NK} {b : Addr}
theorem isN_cls (x : IsN P w s.heap k b) : NoCls P w 8 s (.ref b) := by
  obtain ⟨⟨x, _⟩, cs, rfl⟩ := x
  refine noCls_tup (n := 7) x fun u k' hk' hu => ?_
  obtain ⟨c, _, rfl⟩ := List.mem_map.mp hk'
  refine noCls_tup (n := 6) hu fun u2 k2 hk2 hu2 => ?_
  obtain ⟨i, _, rfl⟩ := List.mem_map.mp hk2
  exact noCls_num hu2
theorem isN_val (x : IsN P w s.heap k b) : ByVal P w 8 s (.ref b) := by
  obtain ⟨⟨x, _⟩, cs, rfl⟩ := x
  refine byVal_tup (n := 7) x fun u k' hk' hu => ?_
  obtain ⟨c, _, rfl⟩ := List.mem_map.mp hk'
  refine byVal_tup (n := 6) hu fun u2 k2 hk2 hu2 => ?_
  obtain ⟨i, _, rfl⟩ := List.mem_map.mp hk2
  exact byVal_num hu2
/-- it stays while all but what isn't a sequence stays -/
theorem isN_stay {h h' : Heap} (x : IsN P w h k b) (hk : ∀ c o vs n, h.get? c = some o → o.data = .seq vs n → h'.get? c = some o) : IsN P w h' k b := ⟨nestedKind_stays.stays hk x.1, x.2⟩
/-- a search among bodies shows nothing -/
theorem seen_n {A : Around} {E : Value → Shared → Prop} {Q : Bool → Shared → Prop} (x : IsN P w s.heap k b) {ys : List Value} (hy : ∀ y ∈ ys, ∃ k' c, y = Value.ref c ∧ IsN P w s.heap k' c) (q : Q false s) :
    wpAny (model P w) A (searchCouldBeSeen (.ref b) ys) Q E s := by
  unfold searchCouldBeSeen
  refine wpAny_bind ?_
  refine wpAny_forIn_list _ (fun left r z => r.1 = none ∧ z = s ∧ ∀ y ∈ left, ∃ k' c, y = Value.ref c ∧ IsN P w s.heap k' c) _ ?_ ?_ _ _ ⟨rfl, rfl, hy⟩
  · rintro y left r z ⟨_, rfl, all⟩
    obtain ⟨k', c, rfl, hc⟩ := all _ List.mem_cons_self
    have more : ∀ y ∈ left, ∃ k' c, y = Value.ref c ∧ IsN P w z.heap k' c := fun y' h' => all y' (List.mem_cons_of_mem _ h')
    dsimp only
    by_cases hv : (b == c || (carriedByValue (.ref b) && carriedByValue (.ref c))) = true
    · exact wp_if_pos hv (wpAny_pure ⟨rfl, rfl, more⟩)
    · refine wp_if_neg hv ?_
      refine wpAny_bind ((nestedKind P w).quiet x.1 ?_)
      simp only [Bool.not_true, Bool.false_eq_true, if_false]
      refine wpAny_bind ((nestedKind P w).quiet hc.1 ?_)
      simp only [Bool.not_true, Bool.false_eq_true, if_false]
      refine wpAny_bind (isN_cls x _ _ _ ?_)
      simp only [Bool.false_eq_true, if_false]
      refine wpAny_bind (isN_cls hc _ _ _ ?_)
      simp only [Bool.false_eq_true, if_false]
      exact wpAny_pure ⟨rfl, rfl, more⟩
  · rintro ⟨r1, r2⟩ z ⟨e1, rfl, _⟩
    simp only at e1
    subst e1
    exact wpAny_pure q
/-- a row of the set's table -/
abbrev rowN (w : World) (p : Addr × NK) : Int × Value := (p.2.hash w, .ref p.1)
/-- the set at a has the bodies of L -/
structure SN (P : Program) (w : World) (h : Heap) (a : Addr) (L : List (Addr × NK)) (es : Array (Int × Value)) (ep : Nat) (t : SetTable) : Prop where
  here : ∃ o, h.get? a = some o ∧ o.ExactSet ∧ o.data = .set es ep t
  row : es.toList = L.map (rowN w)
  tab : TabOk t (L.map fun p => p.2.hash w)
  mem : ∀ p ∈ L, IsN P w h p.2 p.1
  pl : t.plain = true
  led : w.params.followText "set-order" = true ∨ t.led = true
  room : L.length * 5 < t.mask * 3
  few : L.length < 64
variable {A : Around} {E : Value → Shared → Prop} {a x : Addr} {L : List (Addr × NK)} {es : Array (Int × Value)} {ep : Nat} {t : SetTable}
theorem SN.size {h : Heap} (R : SN P w h a L es ep t) : es.size = L.length := by
  have e := congrArg List.length R.row
  simpa using e
theorem SN.fits {h : Heap} (R : SN P w h a L es ep t) : t.fits es.size = true := by
  have h1 := R.tab.sz
  have h2 := R.size
  have h3 := R.room
  rw [List.length_map] at h1
  simp only [SetTable.fits, SetTable.fill, R.tab.dm, Bool.and_eq_true, beq_iff_eq, decide_eq_true_eq]
  refine ⟨by omega, ?_⟩
  show t.place.size + 0 ≤ t.mask
  omega
theorem SN.at {h : Heap} (R : SN P w h a L es ep t) {i : Nat} {p : Addr × NK} (e : L[i]? = some p) : es[i]? = some (rowN w p) := by
  rw [← Array.getElem?_toList, R.row, List.getElem?_map, e]
  rfl
theorem nth_dummy (m : Nat) : ∀ (n : Nat) (p : SetTable.Probe), p.dummy = none → (nth m p n).dummy = none
  | 0, _, h => h
  | n + 1, p, h => nth_dummy m n (adv m p) (by unfold adv; split <;> exact h)
/-- a search for a body that isn't in the set ends at the first empty slot of its way -/
theorem sn_search (R : SN P w s.heap a L es ep t) (hx : IsN P w s.heap k x) (hu : A.units + 8 < cLine) (nk : ∀ p ∈ L, p.2 ≠ k) {K : Nat} (hK : way t.mask (k.hash w) K ∉ t.place.toList)
    (hb : ∀ c, c < K → way t.mask (k.hash w) c ∈ t.place.toList) (hl : K < 10 * SetTable.turns t.mask) {Q : SetFound → Shared → Prop} (q : Q (.free (way t.mask (k.hash w) K) false) s) :
    ∀ (f c : Nat) (stand : Option SetTable.Probe), K - c < f → c ≤ K → stand.getD (t.probeStart (k.hash w)) = nth t.mask (t.probeStart (k.hash w)) c →
      wpAny (model P w) A (setSearchFrom a (.ref x) (k.hash w) true f stand) Q E s := by
  intro f
  induction f with
  | zero => intro c _ h; exact absurd h (Nat.not_lt_zero _)
  | succ f ih =>
    intro c stand hf hc hst
    obtain ⟨o, ho, _, hd⟩ := R.here
    have wj : ∀ j, (nth t.mask (nth t.mask (t.probeStart (k.hash w)) c) j).j = way t.mask (k.hash w) (c + j) := fun j => by
      rw [← nth_add]
      rfl
    rw [setSearchFrom_succ]
    refine wpAny_bind (wpAny_setState_of ho hd R.fits ?_)
    dsimp only
    refine wp_if_neg (by unfold SetTable.gaveWay; rw [mask_odd R.tab.mok]; decide) ?_
    try refine wpAny_bind (wpAny_pure ?_)
    have g := go_spec t R.tab.ris R.tab.dm (fun i => (es[i]?.map (·.1)).getD 0) (k.hash w) (10 * SetTable.turns t.mask) (K - c) (nth t.mask (t.probeStart (k.hash w)) c) (nth_dummy _ c _ rfl) (by omega)
      (fun j hj => by rw [wj]; exact hb _ (by omega)) (by rw [wj, Nat.add_sub_cancel' hc]; exact hK)
    rcases g with ⟨j, i, hj, hi, _, _, hp⟩ | ⟨_, hp⟩
    · have hp' : t.probe (fun i => (es[i]?.map (·.1)).getD 0) (k.hash w) (stand.getD (t.probeStart (k.hash w))) = some (.candidate (way t.mask (k.hash w) (c + j)) i (nth t.mask (t.probeStart (k.hash w)) (c + (j + 1)))) := by
        rw [hst, ← wj, nth_add]
        exact hp
      rw [hp']
      dsimp only
      rw [wj] at hi
      have il : i < L.length := by
        have h1 := (List.getElem?_eq_some_iff.mp hi).1
        have h2 := R.tab.sz
        rw [List.length_map] at h2
        rw [Array.length_toList] at h1
        omega
      obtain ⟨p, hpi⟩ : ∃ p, L[i]? = some p := ⟨_, List.getElem?_eq_getElem il⟩
      have pm : p ∈ L := List.mem_of_getElem? hpi
      have ne : decide (p.2 = k) = false := decide_eq_false (nk p pm)
      have go : wpAny (model P w) A (searchRest a (.ref x) (k.hash w) true f es t (way t.mask (k.hash w) (c + j)) i (nth t.mask (t.probeStart (k.hash w)) (c + (j + 1)))) Q E s := by
        have sl : t.slot (way t.mask (k.hash w) (c + j)) = .live i := slot_live R.tab.ris hi
        unfold searchRest
        rw [R.at hpi]
        dsimp only
        refine wpAny_bind (wpAny_holding ((nestedKind P w).eqBool (A := A) (show A.units + 8 < cLine from hu) (R.mem p pm).1 hx.1 ?_))
        rw [ne]
        refine wpAny_bind (wpAny_setState_of ho hd R.fits ?_)
        dsimp only
        refine wp_if_neg (by decide) ?_
        try refine wpAny_bind (wpAny_pure ?_)
        rw [sameMem]
        dsimp only
        simp only [if_true, sl, R.at hpi]
        refine wpAny_bind (wpAny_isSame_ref_self (wpAny_bind (wpAny_pure ?_)))
        simp only [if_true]
        refine wp_if_neg (by decide) ?_
        exact ih (c + (j + 1)) _ (by omega) (by omega) rfl
      by_cases ld : t.led = true
      · refine wp_if_neg (by simp [ld]) ?_
        try refine wpAny_bind (wpAny_pure ?_)
        exact go
      · refine wp_if_pos (by simp [ld]) ?_
        refine wpAny_bind (seen_n hx (fun y hy => ?_) ?_)
        · obtain ⟨e, he, rfl⟩ := List.mem_map.mp hy
          have he2 : e ∈ es.toList := by
            have z : e ∈ es ∧ e.1 = k.hash w := by simpa using he
            simpa using z.1
          rw [R.row] at he2
          obtain ⟨p2, hp2, rfl⟩ := List.mem_map.mp he2
          exact ⟨p2.2, p2.1, rfl, R.mem p2 hp2⟩
        · refine wp_if_neg (by decide) ?_
          try refine wpAny_bind (wpAny_pure ?_)
          exact go
    · have hp' : t.probe (fun i => (es[i]?.map (·.1)).getD 0) (k.hash w) (stand.getD (t.probeStart (k.hash w))) = some (.empty (way t.mask (k.hash w) K) none) := by
        have e := wj (K - c)
        rw [Nat.add_sub_cancel' hc] at e
        rw [hst, ← e]
        exact hp
      rw [hp']
      exact wpAny_pure q
end
end Sq

set_option Elab.async false
set_option linter.all false
set_option maxRecDepth 100000
set_option maxHeartbeats 4000000
/-! Sets of bodies: one put in, the table laid anew. -/
namespace Sq
open PySem PySem.Spec PyProof.Rows L2
section
variable {P : Program} {w : World} {s : Shared} {k : NK} {b : Addr}
/-- what a set's table holds is no sequence -/
theorem isN_other {h h' : Heap} {a : Addr} {o : Obj} {es : Array (Int × Value)} {ep : Nat} {t : SetTable} (x : IsN P w h k b) (ho : h.get? a = some o) (hd : o.data = .set es ep t) (sb : Heap.SameBut a h h') : IsN P w h' k b :=
  isN_stay x fun c oc vs n hc hs => (sb.2 c (by rintro rfl; rw [ho] at hc; cases hc; rw [hd] at hs; cases hs)).trans hc
/-- rows taken in another order -/
theorem rows_order {L : List (Addr × NK)} {es : Array (Int × Value)} {order : Array Nat} (hr : es.toList = L.map (rowN w)) (hp : order.toList.Perm (List.range L.length)) :
    ∃ M : List (Addr × NK), M.Perm L ∧ (order.filterMap (es[·]?)).toList = M.map (rowN w) ∧ (M.map fun p => p.2.hash w) = order.toList.map fun i => (es.map (·.1)).getD i 0 := by
  have ei : ∀ i : Nat, es[i]? = (L[i]?).map (rowN w) := fun i => by rw [← Array.getElem?_toList, hr, List.getElem?_map]
  refine ⟨order.toList.filterMap fun i => L[i]?, ?_, ?_, ?_⟩
  · have h1 := hp.filterMap fun i => L[i]?
    rwa [List.filterMap_getElem?_range_length] at h1
  · rw [Array.toList_filterMap, List.map_filterMap]
    exact congrArg (fun f => List.filterMap f order.toList) (funext ei)
  · have go : ∀ l : List Nat, (∀ i ∈ l, i < L.length) → ((l.filterMap fun i => L[i]?).map fun p => p.2.hash w) = l.map fun i => (es.map (·.1)).getD i 0 := by
      intro l
      induction l with
      | nil => intro _; rfl
      | cons i l ih =>
        intro hl
        have hi : i < L.length := hl i (by simp)
        have e1 : (es.map (·.1))[i]? = some (L[i].2.hash w) := by
          rw [Array.getElem?_map, ei, List.getElem?_eq_getElem hi]
          rfl
        rw [List.filterMap_cons_some (List.getElem?_eq_getElem hi), List.map_cons, List.map_cons, ih fun j hj => hl j (by simp [hj])]
        congr 1
        simp [Array.getD_eq_getD_getElem?, e1]
    exact go _ fun i hi => List.mem_range.mp (hp.mem_iff.mp hi)
variable {A : Around} {E : Value → Shared → Prop} {a x : Addr} {L : List (Addr × NK)} {es : Array (Int × Value)} {ep : Nat} {t : SetTable}
/-- the table grows -/
theorem sn_relay {o : Obj} (ho : s.heap.get? a = some o) (hex : o.ExactSet) (hd : o.data = .set es ep t) (hrow : es.toList = L.map (rowN w)) (tb : TabOk t (L.map fun p => p.2.hash w)) (hm : L.length ≤ t.mask)
    (mem : ∀ p ∈ L, IsN P w s.heap p.2 p.1) (pl : t.plain = true) (ld : w.params.followText "set-order" = true ∨ t.led = true) (few : L.length < 64) {wanted M : Nat} (hw : SetTable.sizeAbove wanted = M + 1) (hM : MaskOk M) (hL : L.length * 5 < M * 3)
    {Q : Unit → Shared → Prop} (q : ∀ h' L' es' ep' t', Heap.SameBut a s.heap h' → SN P w h' a L' es' ep' t' → L'.Perm L → Q () { s with heap := h' }) : wpAny (model P w) A (setRelay a wanted) Q E s := by
  have hsz : es.size = L.length := by simpa using congrArg List.length hrow
  have ps : t.place.size = L.length := by simpa using tb.sz
  have fits : t.fits es.size = true := by
    simp only [SetTable.fits, SetTable.fill, tb.dm, Bool.and_eq_true, beq_iff_eq, decide_eq_true_eq]
    refine ⟨by omega, ?_⟩
    show t.place.size + 0 ≤ t.mask
    omega
  have M127 : M ≤ 127 := by rcases hM with e | e | e <;> omega
  obtain ⟨t', order, e, hp, T, em, el, epl, _⟩ := relaid_ok t (hs := es.map (·.1)) (wanted := wanted) (M := M) (by omega) hM (by rw [Array.size_map]; omega)
  rw [Array.size_map, hsz] at hp
  obtain ⟨L', pm, e1, e2⟩ := rows_order hrow hp
  have hs' : (order.filterMap (es[·]?)).size = es.size := by
    have z := congrArg List.length e1
    rw [Array.length_toList, List.length_map, pm.length_eq] at z
    omega
  rw [setRelay_eq]
  refine wpAny_bind (wpAny_setState_of ho hd fits ?_)
  dsimp only
  refine wp_if_neg (by rw [sizeLine_eq]; omega) ?_
  try refine wpAny_bind (wpAny_pure ?_)
  rw [e]
  dsimp only
  refine wpAny_bind ?_
  refine wp_if_neg (by rw [hs']; simp) ?_
  try refine wpAny_bind (wpAny_pure ?_)
  refine wpAny_pure ?_
  dsimp only
  refine wpAny_storeSet_of ho hd ?_ (by rw [hs', sizeLine_eq]; omega)
  have sb : Heap.SameBut a s.heap (s.heap.update a (Obj.putSet (order.filterMap (es[·]?)) t')) := Heap.SameBut.update ..
  refine q _ L' _ (ep + 1) t' sb ⟨⟨_, store_at ho hd, ⟨hex.1, hex.2.1, hex.2.2⟩, rfl⟩, e1, e2 ▸ T, fun p hpm => isN_other (mem p (pm.mem_iff.mp hpm)) ho hd sb, epl.trans pl, by rw [el]; exact ld, by rw [pm.length_eq, em]; exact hL, by rw [pm.length_eq]; exact few⟩ pm
/-- a body is put in that isn't there yet -/
theorem sn_add (R : SN P w s.heap a L es ep t) (hx : IsN P w s.heap k x) (hu : A.units + 8 < cLine) (nk : ∀ p ∈ L, p.2 ≠ k) (few : L.length + 1 < 64) {Q : Bool → Shared → Prop}
    (q : ∀ h' L' es' ep' t', Heap.SameBut a s.heap h' → SN P w h' a L' es' ep' t' → L'.Perm ((x, k) :: L) → Q true { s with heap := h' }) : wpAny (model P w) A (setAddHashed a (.ref x) (k.hash w)) Q E s := by
  obtain ⟨o, ho, hex, hd⟩ := R.here
  have hsz := R.size
  have room := R.room
  have lh : (L.map fun p => p.2.hash w).length = L.length := List.length_map ..
  obtain ⟨K, hK10, hK, hb⟩ := R.tab.first (by rw [lh]; omega) (k.hash w)
  have K5 : K < 100000 := by
    have z : SetTable.turns t.mask ≤ 142 := by
      unfold SetTable.turns
      rcases R.tab.mok with e | e | e <;> omega
    omega
  obtain ⟨q1, q2, q3, q4, q5, q6, _, _, q9⟩ := R.tab.put hK hb
  generalize hj : way t.mask (k.hash w) K = j at *
  unfold setAddHashed
  refine wpAny_holding ?_
  rw [show (100000 : Nat) = 99999 + 1 from rfl, setAddHashedIn_succ]
  refine wpAny_bind (wpAny_setState_of ho hd R.fits ?_)
  dsimp only
  refine wp_if_neg (by simp [byScan, Value.scannable]) ?_
  try refine wpAny_bind (wpAny_pure ?_)
  unfold setSearch
  refine wpAny_bind (sn_search R hx hu nk (by rw [hj]; exact hK) hb hK10 ?_ 100000 0 none (by omega) (Nat.zero_le _) rfl)
  dsimp only
  rw [hj]
  refine wpAny_bind (wpAny_setState_of ho hd R.fits ?_)
  dsimp only
  have pl1 : (t.put j).1.plain = true := q6.trans R.pl
  have fill1 : (t.put j).1.fill = L.length + 1 := by rw [q9, lh]
  generalize t.put j = tp at q1 q3 q4 q5 pl1 fill1 ⊢
  obtain ⟨t1, p⟩ := tp
  dsimp only at q1 q3 q4 q5 pl1 fill1 ⊢
  subst q1
  first
    | (refine wpAny_bind ?_; refine wp_if_pos pl1 ?_; refine isN_val hx _ _ _ ?_)
    | refine wp_if_pos pl1 (wpAny_bind (isN_val hx _ _ _ ?_))
  simp only [if_true]
  generalize SetTable.below t.place j = p at q2 q3 ⊢
  obtain ⟨N, hN⟩ : ∃ N, N = L.take p ++ (x, k) :: L.drop p := ⟨_, rfl⟩
  have pm : N.Perm ((x, k) :: L) := by
    have z : (L.take p ++ (x, k) :: L.drop p).Perm ((x, k) :: (L.take p ++ L.drop p)) := List.perm_middle
    rwa [List.take_append_drop, ← hN] at z
  have hl : N.length = L.length + 1 := pm.length_eq
  have r1 : (SetTable.insertAt es p (k.hash w, Value.ref x)).toList = N.map (rowN w) := by
    rw [SetTable.toList_insertAt, R.row, hN]
    simp [List.map_take, List.map_drop]
  have t1ok : TabOk t1 (N.map fun p => p.2.hash w) := by
    have z : N.map (fun p => p.2.hash w) = (L.map fun p => p.2.hash w).take p ++ k.hash w :: (L.map fun p => p.2.hash w).drop p := by
      rw [hN]
      simp [List.map_take, List.map_drop]
    rw [z]
    exact q3
  have sz1 : (SetTable.insertAt es p (k.hash w, Value.ref x)).size = L.length + 1 := by
    have z := congrArg List.length r1
    rw [Array.length_toList, List.length_map, hl] at z
    exact z
  generalize SetTable.insertAt es p (k.hash w, Value.ref x) = es1 at r1 sz1 ⊢
  refine wpAny_bind (wpAny_storeSet_of ho hd ?_ (by rw [sz1, sizeLine_eq]; omega))
  have sb : Heap.SameBut a s.heap (s.heap.update a (Obj.putSet es1 t1)) := Heap.SameBut.update ..
  have ho1 := store_at (es' := es1) (t' := t1) ho hd
  generalize s.heap.update a (Obj.putSet es1 t1) = h1 at sb ho1 ⊢
  have mem1 : ∀ p ∈ N, IsN P w h1 p.2 p.1 := fun p hp => by
    rcases List.mem_cons.mp (pm.mem_iff.mp hp) with e | hp
    · rw [e]; exact isN_other hx ho hd sb
    · exact isN_other (R.mem p hp) ho hd sb
  have ld1 : w.params.followText "set-order" = true ∨ t1.led = true := by rw [q5]; exact R.led
  by_cases hf : t1.tooFull = true
  · first
      | (refine wpAny_bind ?_; refine wp_if_pos (by simp [hf]) ?_)
      | (refine wp_if_pos (by simp [hf]) ?_; refine wpAny_bind ?_)
    have full : (L.length + 1) * 5 ≥ t.mask * 3 := by
      have z := hf
      unfold SetTable.tooFull at z
      rw [decide_eq_true_eq, fill1, q4] at z
      exact z
    rw [hsz]
    have two : (L.length = 4 ∧ t.mask = 7) ∨ (L.length = 18 ∧ t.mask = 31) := by
      rcases R.tab.mok with e | e | e <;> rw [e] at full room <;> omega
    have nexts : ∃ M, SetTable.sizeAbove (SetTable.grown (L.length + 1)) = M + 1 ∧ MaskOk M ∧ N.length * 5 < M * 3 := by
      rcases two with ⟨e, _⟩ | ⟨e, _⟩
      · exact ⟨31, by rw [e, size_20], .inr (.inl rfl), by omega⟩
      · exact ⟨127, by rw [e, size_76], .inr (.inr rfl), by omega⟩
    obtain ⟨M, m1, m2, m3⟩ := nexts
    refine sn_relay (s := { s with heap := h1 }) ho1 ⟨hex.1, hex.2.1, hex.2.2⟩ rfl r1 t1ok (by rw [q4, hl]; omega) mem1 pl1 ld1 (by omega) m1 m2 m3 fun h2 L2 es2 ep2 t2 sb2 R2 pm2 => ?_
    exact wpAny_pure (q h2 L2 es2 ep2 t2 (sb.trans sb2) R2 (pm2.trans pm))
  · first
      | refine wp_if_neg (by simp [hf]) ?_
      | (refine wpAny_bind ?_; refine wp_if_neg (by simp [hf]) ?_; refine wpAny_pure ?_)
    refine wpAny_pure (q h1 N es1 (ep + 1) t1 sb ⟨⟨_, ho1, ⟨hex.1, hex.2.1, hex.2.2⟩, rfl⟩, r1, t1ok, mem1, pl1, ld1, ?_, by omega⟩ pm)
    have z := hf
    unfold SetTable.tooFull at z
    rw [decide_eq_true_eq, fill1] at z
    rw [hl]
    omega
end
end Sq

set_option Elab.async false
set_option linter.all false
set_option maxRecDepth 100000
set_option maxHeartbeats 4000000
/-! len(set(xs)), xs a list of unlike bodies. -/
namespace Sq
open PySem PySem.Spec PyProof.Rows L2
section
variable {P : Program} {w : World} {A : Around} {E : Value → Shared → Prop} {s : Shared}
/-- an empty set's object -/
abbrev newSetO (w : World) : Obj := { cls := .type "set", dict := none, data := .set #[] 0 (.fresh 0 0 (!w.params.followText "set-order")) }
theorem sn_new {h : Heap} {a : Addr} (ho : h.get? a = some (newSetO w)) : SN P w h a [] #[] 0 (.fresh 0 0 (!w.params.followText "set-order")) where
  here := ⟨_, ho, ⟨rfl, rfl, rfl⟩, rfl⟩
  row := rfl
  tab := ⟨List.Pairwise.nil, rfl, rfl, .inl rfl, (fun x hx => nomatch hx), fun i h j hi _ => by simp at hi⟩
  mem := fun p hp => nomatch hp
  pl := rfl
  led := by
    cases e : w.params.followText "set-order"
    · exact .inr rfl
    · exact .inl rfl
  room := by show 0 * 5 < 7 * 3; decide
  few := by show 0 < 64; decide
/-- the heap keeps what stood in h0 -/
abbrev Keeps0 (h0 h : Heap) : Prop := ∀ b o, h0.get? b = some o → h.get? b = some o
/-- the loop of set.update, over unlike bodies -/
theorem sn_update {I S : Addr} {fp wr : List Addr} {G : Array GenState → Array GenState → Prop} {Pv : Nat → Value → Prop} {St : Nat → Shared → Prop} {R : Result → Shared → Prop} {ks : List (Addr × NK)}
    (W : WalksS P w A.in1 I fp wr G ks.length Pv St) (hS : S ∉ fp) (few : ks.length < 64) (nd : (ks.map (·.2)).Nodup) (val : ∀ i v, Pv i v → ∃ p, ks[i]? = some p ∧ v = .ref p.1)
    (h0 : Heap) (isk : ∀ p ∈ ks, IsN P w h0 p.2 p.1) (S0 : h0.get? S = none) (w0 : ∀ b ∈ wr, h0.get? b = none) (hu : A.in1.units + 8 < cLine) :
    ∀ (m i : Nat) (s : Shared), i + m = ks.length → St i s → Keeps0 h0 s.heap → (∃ L es ep t, SN P w s.heap S L es ep t ∧ L.Perm (ks.take i)) →
      (∀ s' L es ep t, Moved (S :: wr) G s s' → SN P w s'.heap S L es ep t → L.Perm ks → Keeps0 h0 s'.heap → R (.ok (.ret .none)) s') →
      codeAny (model P w) A (.builtin "set.update.loop" ⟨[.ref S, .ref I], []⟩) R s := by
  have Sw : S ∉ wr := fun h => hS (W.sub _ h)
  have wS : ∀ b ∈ wr, b ∈ S :: wr := fun b hb => .tail _ hb
  have kp : ∀ {s s' : Shared}, Moved wr G s s' → Keeps0 h0 s.heap → Keeps0 h0 s'.heap := fun hm k b o e => hm.heap b o (fun z => by rw [w0 b z] at e; cases e) (k b o e)
  have stays : ∀ {h h' : Heap} {k : NK} {b : Addr}, IsN P w h k b → Keeps0 h h' → IsN P w h' k b := fun x k => isN_stay x fun c o _ _ e _ => k c o e
  have kept : ∀ {s s' : Shared} {L es ep t}, SN P w s.heap S L es ep t → Moved wr G s s' → (∀ p ∈ L, IsN P w s'.heap p.2 p.1) → SN P w s'.heap S L es ep t := fun x hm hi => by
    obtain ⟨o, ho, r⟩ := x.here
    exact ⟨⟨o, hm.heap S o Sw ho, r⟩, x.row, x.tab, hi, x.pl, x.led, x.room, x.few⟩
  intro m
  induction m with
  | zero =>
    rintro i s hi hst k ⟨L, es, ep, t, hs, pm⟩ fin
    have e : i = ks.length := by omega
    subst e
    rw [List.take_length] at pm
    refine codeAny_builtin F.entry_set_update_loop ?_
    rw [Around.under_plainId F.plain_set_update_loop _]
    show wpAny _ A.in1 (pyNext (.ref I) >>= _) _ _ s
    refine wpAny_bind (W.done s _ _ hst fun s' hm => ?_)
    show wpAny _ A.in1 (ret Value.none) _ _ s'
    have k' := kp hm k
    exact wpAny_pure (fin s' L es ep t (hm.mono wS) (kept hs hm fun p hp => stays (isk p (pm.mem_iff.mp hp)) k') pm k')
  | succ m ih =>
    rintro i s hi hst k ⟨L, es, ep, t, hs, pm⟩ fin
    refine codeAny_builtin F.entry_set_update_loop ?_
    rw [Around.under_plainId F.plain_set_update_loop _]
    show wpAny _ A.in1 (pyNext (.ref I) >>= _) _ _ s
    refine wpAny_bind (W.item i s _ _ (by omega) hst fun v s' hv hst' hm => ?_)
    obtain ⟨p, hp, rfl⟩ := val i v hv
    have k' := kp hm k
    have hs' := kept hs hm fun p hp => stays (isk p (List.mem_of_mem_take (pm.mem_iff.mp hp))) k'
    have hx : IsN P w s'.heap p.2 p.1 := stays (isk p (List.mem_of_getElem? hp)) k'
    have tk : ks.take (i + 1) = ks.take i ++ [p] := by rw [List.take_add_one, hp]; rfl
    have fresh : ∀ r ∈ L, r.2 ≠ p.2 := by
      intro r hr e
      have nd2 : ((ks.take (i + 1)).map (·.2)).Nodup := by
        rw [List.map_take]
        exact nd.sublist (List.take_sublist ..)
      rw [tk, List.map_append, List.nodup_append] at nd2
      exact nd2.2.2 r.2 (List.mem_map_of_mem (pm.mem_iff.mp hr)) p.2 (by simp) e
    have ll : L.length = i := by rw [pm.length_eq, List.length_take]; omega
    show wpAny _ A.in1 (holding [Value.ref p.1] (setAdd S (.ref p.1)) >>= _) _ _ s'
    refine wpAny_bind (wpAny_holding ?_)
    unfold setAdd
    refine wpAny_holding ?_
    refine wpAny_bind ((nestedKind P w).pyHash (show A.in1.units + 8 < cLine from hu) hx.1 ?_)
    refine sn_add (s := { s' with toks := s'.toks + (nestedKind P w).draws p.2 }) hs' hx hu fresh (by omega) fun h' L' es' ep' t' sb hs2 pm2 => ?_
    have k2 : Keeps0 h0 h' := fun b o e => (sb.2 b (fun z => by rw [z, S0] at e; cases e)).trans (k' b o e)
    have pm3 : L'.Perm (ks.take (i + 1)) := by
      rw [tk]
      exact pm2.trans ((pm.cons p).trans (List.perm_append_singleton p _).symm)
    refine wpAny_pure ⟨plainId_quiet F.plain_set_update_loop _, ih (i + 1) _ (by omega) (W.frame _ s' _ _ hst' (Nat.le_add_right _ _) fun b hb o e => ?_) k2 ⟨L', es', ep', t', hs2, pm3⟩ fun s3 L3 es3 ep3 t3 m3 hs3 pm4 k3 => ?_⟩
    · rw [sb.2 b (by rintro rfl; exact hS hb)]
      exact e
    · refine fin s3 L3 es3 ep3 t3 (Moved.trans W.gtrans ((hm.mono wS).then_heap (Nat.le_add_right _ _) fun b o hb e => ?_) m3) hs3 pm4 k3
      rw [sb.2 b (by rintro rfl; exact hb List.mem_cons_self)]
      exact e
set_option maxHeartbeats 3200000 in
/-- set(xs) -/
theorem call_setN {l : Addr} {items : Array Value} (ks : List (Addr × NK)) {Q : Value → Shared → Prop} (hh : A.handled = none) (hl : s.heap.IsList l items) (hit : items.toList = ks.map fun p => Value.ref p.1)
    (isk : ∀ p ∈ ks, IsN P w s.heap p.2 p.1) (few : ks.length < 64) (nd : (ks.map (·.2)).Nodup) (hu : A.units + 16 < cLine)
    (q : ∀ (h' : Heap) (tk : Nat) L es ep t, SN P w h' s.heap.objs.size L es ep t → L.Perm ks → Keeps0 s.heap h' → Q (.ref s.heap.objs.size) { s with heap := h', toks := tk }) :
    wpAny (model P w) A (call (.type "set") [.ref l]) Q E s := by
  have isz : items.size = ks.length := by
    have z := congrArg List.length hit
    rwa [Array.length_toList, List.length_map] at z
  have fresh : ∀ b, s.heap.objs.size ≤ b → s.heap.get? b = none := fun b hb => by
    cases e : s.heap.get? b with
    | none => rfl
    | some o => exact absurd (Heap.lt_size e) (Nat.not_lt.mpr hb)
  obtain ⟨c, tl, hmro⟩ := F.called_set.mro
  have hmade := F.called_set.made
  have hsub := F.called_set.sub
  have h1 := F.called_set.notType
  have h2 := F.called_set.canCreate
  have hct := F.typeCall_set_1 (.ref l)
  refine wpAny_call (codeAny_of_tree ?_)
  show wpAny _ _ (callAny (.type "set") _) _ _ _
  refine wpAny_pure ⟨Code.quiet_builtin _ (by decide +kernel), codeAny_builtin F.entry_type_call ?_⟩
  rw [Around.under_plain (weight_type_call_type "set" [.ref l] []) rfl]
  repeat (any_goals (first | assumption | wp_step))
  refine codeAny_mono (code_set_led1 (.ref l) (E := E) (Q₁ := fun obj s₁ => obj = .ref s.heap.objs.size ∧ s₁ = { s with heap := s.heap.push (newSetO w) }) ⟨rfl, rfl⟩) fun r s₁ hr => ?_
  rcases r with e | fl
  · exact hr
  rcases fl with _ | _ | _ | obj
  all_goals try exact hr.elim
  obtain ⟨rfl, rfl⟩ := hr
  have hS : (s.heap.push (newSetO w)).get? s.heap.objs.size = some (newSetO w) := Heap.get?_push_size _ rfl
  have hT : Shared.TypeIs { s with heap := s.heap.push (newSetO w) } (.ref s.heap.objs.size) "set" := ⟨_, hS, rfl⟩
  have hli := F.called_set.init.lookup
  have hbi := F.called_set.init.bind (.ref s.heap.objs.size)
  repeat (any_goals (first | assumption | wp_step))
  refine codeAny_mono (codeAny_call_builtin (R := wants (fun r s₂ => r = .none ∧ ∃ h' tk L es ep t, s₂ = { s with heap := h', toks := tk } ∧ SN P w h' s.heap.objs.size L es ep t ∧ L.Perm ks ∧ Keeps0 s.heap h') E)
    F.called_set.init.plain F.entry_set_init (check_set_init_1 hT ?_)) fun r₂ s₂ hr₂ => ?_
  · obtain ⟨ol, hol, hcl, nl, hdl⟩ := hl
    have hol1 : (s.heap.push (newSetO w)).get? l = some ol := Heap.get?_push_of_some _ hol
    have hl1 : (s.heap.push (newSetO w)).IsList l items := ⟨ol, hol1, hcl, nl, hdl⟩
    obtain ⟨ocls, odict, odata, oslots⟩ := ol
    simp only at hcl hdl
    subst hcl; subst hdl
    have hsls := F.sub_list_set
    have hslf := F.sub_list_frozenset
    have hne : (Value.type "list" == Value.type "dict") = false := by decide
    unfold Builtin.«set.__init__» noKeywords Builtin.Frozenset.updateFrom
    generalize hPI : pyIter = PI
    wp_walk
    subst hPI
    refine wpAny_pyIter_list hl1 ?_
    refine wpAny_bind (wpAny_runValue ?_)
    have lS : l < s.heap.objs.size := Heap.lt_size hol
    have sz1 : (s.heap.push (newSetO w)).objs.size = s.heap.objs.size + 1 := Heap.size_push ..
    have hh3 : A.in1.in1.in1.handled = none := by simp [hh]
    have W0 := (Walks.list (prog := P) (w := w) hh3 (s.heap.push (newSetO w)).objs.size l (by rw [sz1]; exact Nat.ne_of_lt (Nat.lt_succ_of_lt lS)) items).toS
    rw [isz] at W0
    refine sn_update W0 (S := s.heap.objs.size) (by rw [sz1]; simp only [List.mem_cons, List.not_mem_nil, or_false, not_or]; exact ⟨Nat.ne_of_lt (Nat.lt_succ_self _), Nat.ne_of_gt lS⟩) few nd (fun i v hv => ?_) s.heap isk (fresh _ (Nat.le_refl _))
      (fun b hb => fresh b (by rw [List.mem_singleton.mp hb, sz1]; exact Nat.le_succ _)) (by simp only [Around.in1_units]; omega) ks.length 0 _ (by omega)
      ⟨⟨_, Heap.get?_push_size _ rfl, rfl, rfl⟩, hl1.push _⟩ (fun b o e => Heap.get?_push_of_some _ (Heap.get?_push_of_some _ e))
      ⟨[], #[], 0, _, sn_new (Heap.get?_push_of_some _ hS), by simp⟩ fun s' L es ep t hm hs pm k => ?_
    · have z : items.toList[i]? = some v := by rw [Array.getElem?_toList]; exact hv
      rw [hit, List.getElem?_map] at z
      cases e : ks[i]? with
      | none => rw [e] at z; cases z
      | some p => rw [e] at z; exact ⟨p, rfl, (Option.some.inj z).symm⟩
    · obtain ⟨h', g', d', tk', os'⟩ := s'
      have e1 : g' = s.gens := hm.gens
      have e2 : d' = s.drawn := hm.drawn
      have e3 : os' = s.os := hm.os
      subst e1 e2 e3
      show wpAny _ _ _ _ _ _
      refine wpAny_pure ?_
      show wpAny _ _ (ret Value.none) _ _ _
      exact wpAny_pure ⟨rfl, h', tk', L, es, ep, t, rfl, hs, pm, k⟩
  · rcases r₂ with e | fl₂
    · exact hr₂
    rcases fl₂ with _ | _ | _ | r
    all_goals try exact hr₂.elim
    obtain ⟨rfl, h', tk, L, es, ep, t, rfl, hs, pm, k⟩ := hr₂
    repeat (any_goals (first | assumption | wp_step))
    exact q _ _ _ _ _ _ hs pm k
end
section
variable {X : Cx}
/-- len(set(xs)) for a list of unlike bodies -/
def tLenSetN (K : PySem.W.Frag) (ta : TE) : TE := fun σ H Q => ta σ H fun x H1 => ∃ (l : Addr) (ks : List (Addr × NK)), x = V.ref l ∧ SqL K H1 l (ks.map fun p => V.ref p.1) ∧ (∀ p ∈ ks, NAt K H1 p.1 p.2 ∧ N2 p.2) ∧
  ks.length < 64 ∧ (ks.map (·.2)).Nodup ∧ Q (.int ks.length) H1
theorem vals_refsN : ∀ {ks : List (Addr × NK)} {us : List Value}, Vals (ks.map fun p => V.ref p.1) us → us = ks.map fun p => Value.ref p.1
  | [], _, .nil => rfl
  | p :: ks, _, .cons r t => by
    cases r
    rw [vals_refsN t]
    rfl
theorem pe_lenSetN {a : Expr} {ta : TE} {p p2 q pos : Pos} (calm : X.calm = true) (hu : X.A.units + 64 < cLine) (hg : Gl X "len") (hm : X.mg "len" = none) (hg2 : Gl X "set") (hm2 : X.mg "set" = none) (ha : PE X a ta)
    (na : starEach [a] X.env = (false, eval a X.env) :: starEach [] X.env := by rfl) : PE X (.Call (.Name "len" p) [.Call (.Name "set" p2) [a] [] q] [] pos) (tLenSetN X.K ta) := by
  refine ⟨fun pins s σ H Q I h => ?_⟩
  refine Call_ (ld_blt I hg hm PySem.boot_len ?_)
  refine PyProof.Rows.callWith_builtin1 (PyProof.Rows.args_cons ?_ rfl) rfl rfl
  refine Call_ (ld_blt I hg2 hm2 PyProof.Rows.boot_set ?_)
  refine PyProof.Rows.callWith_type1 (PyProof.Rows.args_cons (thn (ha.run pins s σ H _ I h) fun v s1 ⟨x, H1, I1, r1, q1⟩ => PyProof.Rows.args_nil ?_) na) na rfl
  obtain ⟨l, ks, rfl, hq, hk, few, nd, q1⟩ := q1
  cases r1
  obtain ⟨its, rv, pl, hz⟩ := I1.list hq
  refine call_setN ks (I1.ok.hd calm) pl.isList (by simpa using vals_refsN rv) (fun p hp => ⟨nat_is I1 (hk p hp).1, (hk p hp).2⟩) few nd (by omega) fun h' tk L es ep t R pm k => ?_
  refine PyProof.Rows.args_nil ?_
  obtain ⟨o, ho, hex, hd⟩ := R.here
  have I2 : Inv X pins σ H1 { s1 with heap := h', toks := tk } := I1.kept fun b o e => k b o e
  have sz : es.size = ks.length := by rw [R.size, pm.length_eq]
  exact call_len_set ho hex hd R.fits (by rw [sz]; omega) ⟨.int ks.length, H1, I2.tok _, ⟨_, by rw [sz]⟩, q1⟩
end
end Sq

set_option Elab.async false
set_option linter.all false
set_option maxRecDepth 100000
set_option maxHeartbeats 4000000
/-! name = {k: v for ..}, the keys tuples of tuples. -/
namespace Sq
open PySem PySem.Spec PyProof.Rows L2
def tDctN (P : Program) (w : World) (K : PySem.W.Frag) (wi : TI) (g : TG) (tt : TT) (tk tv : TE) (vs : List Nat) : TE := fun σ H Q => wi σ H fun J H1 => ∀ D, H1 D = none → ∃ W : Nat → Nat → Hp → Prop, (∃ m, W 0 m (upd H1 D (.dT []))) ∧ ∀ i m H, W i m H →
  (J.stop i H ∧ Q (.ref D) H) ∨ (J.go i H ∧ ∃ Nx : Hp → Prop, (∀ H', Nx H' → ∃ m', m' < m ∧ W (i + 1) m' H') ∧ ∀ x H', J.yld i H x H' → g x (wipe σ vs) H' fun σ2 H2 => wipe σ2 vs = wipe σ vs ∧ tt σ2 H2 fun b H3 =>
    if b = true then tk σ2 H3 fun y H4 => tv σ2 H4 fun z H5 => ∃ H6, DPutN P w K H5 D y z H6 ∧ Nx H6 else Nx H3)
section
variable {X : Cx}
theorem ps_setDctN {y : Str} {py spos : Pos} {ix : Nat} {kx vx tg it0 : Expr} {ifs : List Expr} {sc : Scope} {own : List (Str × Nat)} {pos : Pos} {wi : TI} {g : TG} {tt : TT} {tk tv : TE} (calm : X.calm = true) (hu : X.A.units + 64 < cLine) (nd : X.N.Nodup) (hi : PI X tg it0 wi)
    (hy : X.N[ix]? = some y) (hyl : X.env.scope.names.lookup y = some .local) (hsw : swapsWith (.DictComp kx vx [⟨tg, it0, ifs, 0⟩] sc pos) (some (.Name y py)) spos.line X.env = pure true) (bo : BlkOk X.N X.env.scope sc own)
    (hg : ∀ (s : Shared) (H : Hp) (C : Addr) (cl : List (Str × Addr)) (fp : List Addr), PG (X.blk s H sc (compEnvC sc cl C X.env) fp) tg g)
    (ht : ∀ (s : Shared) (H : Hp) (C : Addr) (cl : List (Str × Addr)) (fp : List Addr), PTs (X.blk s H sc (compEnvC sc cl C X.env) fp) ifs tt)
    (hk : ∀ (s : Shared) (H : Hp) (C : Addr) (cl : List (Str × Addr)) (fp : List Addr), PE (X.blk s H sc (compEnvC sc cl C X.env) fp) kx tk)
    (hv : ∀ (s : Shared) (H : Hp) (C : Addr) (cl : List (Str × Addr)) (fp : List Addr), PE (X.blk s H sc (compEnvC sc cl C X.env) fp) vx tv)
    (hf : ∀ x, foldedSetIterable it0 X.env x = pure x := by intro _; rfl) : PS X (.Assign [.Name y py] (.DictComp kx vx [⟨tg, it0, ifs, 0⟩] sc pos) spos) (tAsg (tDctN X.prog X.w X.K wi g tt tk tv (own.map (·.2))) (gName ix)) := by
  refine ⟨fun pins z0 σ H Dd I0 asked => ?_⟩
  have asked : tDctN X.prog X.w X.K wi g tt tk tv (own.map (·.2)) σ H (fun x H1 => gName ix x σ H1 Dd.nx) := asked
  rw [exec_Assign_Name_used _ _ _ _ hsw]
  refine wpAny_bind (wpAny_standAt (wpAny_bind ?_))
  show wpAny (model X.prog X.w) X.A (do let _ ← comprehension (.DictComp kx vx [⟨tg, it0, ifs, 0⟩] sc pos) sc X.env (firstIterPos [⟨tg, it0, ifs, 0⟩] pos) newDict false (eval it0 X.env) (some (assign (.Name y py) X.env))) _ _ z0
  refine wpAny_bind (thn (Q := fun _ s' => SP X pins Dd .next s') ?_ fun _ s' hq => wpAny_pure (wpAny_pure hq))
  have caught : ∀ y ∈ sc.names, y.2 = .free → ∃ c, X.env.cells.lookup y.1 = some c := fun y hy e => I0.ok.has _ (bo.free y hy e)
  refine wpAny_comprehension_free (use := some (assign (.Name y py) X.env)) rfl hf (closure_ok caught) bo.kind (fun y hy e => by rw [bo.uniq y hy, e]) (thn (hi.run pins z0 σ H _ I0 asked) fun xv z1 hx => thn hx fun iv z2 made => ?_)
  obtain ⟨wk, fp, tn, J, H2, rfl, I2, T, at2, fp2, want⟩ := made
  refine wpAny_newObj_type (newEnv_comp ?_)
  obtain ⟨D, eD⟩ : ∃ D, D = z2.heap.objs.size := ⟨_, rfl⟩
  have freeD : H2 D = none := I2.hok.fresh (Nat.le_of_eq eD.symm)
  obtain ⟨o0, eo0⟩ : ∃ o0 : HO, o0 = .dT [] := ⟨_, rfl⟩
  obtain ⟨W, ⟨m0, first⟩, each⟩ := want D freeD
  rw [← eo0] at first
  obtain ⟨z3, e3⟩ : ∃ z3 : Shared, z3 = { z2 with heap := z2.heap.push { cls := .type "dict", data := .dict #[] } } := ⟨_, rfl⟩
  have heap3 : z3.heap = z2.heap.push { cls := .type "dict", data := .dict #[] } := by rw [e3]
  have I3 : Inv X pins σ (upd H2 D o0) z3 := by
    rw [e3]
    refine I2.laid (t' := z2.toks) (fun b o e => Heap.get?_push_of_some _ e) (Nat.le_of_eq eD.symm) ?_
    rw [eD]
    rw [eo0]
    exact dt_empty z2.heap I2.big
  have old : ∀ b ∈ fp, b < z2.heap.objs.size := fun b hb => (T.obj _ _ at2 b hb).elim fun o r => Heap.lt_size r.1
  have fp3 : ∀ b ∈ fp, FpOk X pins (upd H2 D o0) b ∧ b < z3.heap.objs.size := fun b hb => by
    have lt := old b hb
    have ne : b ≠ D := by rw [eD]; exact Nat.ne_of_lt lt
    exact ⟨⟨by rw [upd_ne ne]; exact (fp2 b hb).1, (fp2 b hb).2⟩, by rw [heap3, Heap.size_push]; exact Nat.lt_succ_of_lt lt⟩
  have at3 : tn 0 z3.heap := T.keep _ _ _ at2 fun b _ o e => by rw [heap3]; exact Heap.get?_push_of_some _ e
  have I4 := block_start I3 bo nd fp3
  have PG4 := hg z3 (upd H2 D o0) z3.heap.objs.size (cellsFrom (z3.heap.objs.size + 1) sc.names (cloFrom X.env.cells sc.names [])) fp
  have PT4 := ht z3 (upd H2 D o0) z3.heap.objs.size (cellsFrom (z3.heap.objs.size + 1) sc.names (cloFrom X.env.cells sc.names [])) fp
  have PK4 := hk z3 (upd H2 D o0) z3.heap.objs.size (cellsFrom (z3.heap.objs.size + 1) sc.names (cloFrom X.env.cells sc.names [])) fp
  have PV4 := hv z3 (upd H2 D o0) z3.heap.objs.size (cellsFrom (z3.heap.objs.size + 1) sc.names (cloFrom X.env.cells sc.names [])) fp
  rw [← e3, ← eD]
  show codeAny _ _ (.compStart (.DictComp kx vx [⟨tg, it0, ifs, 0⟩] sc pos) 0 (.ref wk) (.ref D) (compEnvC sc (cellsFrom (z3.heap.objs.size + 1) sc.names (cloFrom X.env.cells sc.names [])) z3.heap.objs.size X.env))
    (compPost (model X.prog X.w) X.A X.xe (some (assign (.Name y py) X.env)) (fun _ s' => SP X pins Dd .next s') (.ref D) z3.heap.objs.size) { z3 with heap := pushCells (z3.heap.push { cls := .type "dict", data := .dict #[] }) sc.names }
  have none3 : ∀ b ∈ fp, upd H2 D o0 b = none := fun b hb => (fp3 b hb).1.1
  generalize ec : compEnvC sc (cellsFrom (z3.heap.objs.size + 1) sc.names (cloFrom X.env.cells sc.names [])) z3.heap.objs.size X.env = ce at I4 PG4 PT4 PK4 PV4 ⊢
  have locs : ce.locals = z3.heap.objs.size := by rw [← ec]; rfl
  generalize eG : upd H2 D o0 = G3 at I3 I4 PG4 PT4 PK4 PV4 first none3 fp3
  generalize e4 : ({ z3 with heap := pushCells (z3.heap.push { cls := .type "dict", data := .dict #[] }) sc.names } : Shared) = z4 at I4 ⊢
  have at4 : tn 0 z4.heap := T.keep _ _ _ at3 fun b _ o e => by rw [← e4]; exact pushCells_keeps _ _ _ _ (Heap.get?_push_of_some _ e)
  have still : ∀ {τ : L2.St} {G : Hp} {z : Shared}, Inv (X.blk z3 G3 sc ce fp) [] τ G z → (∀ b ∈ fp, G b = none) → ∀ b ∈ fp, FpOk (X.blk z3 G3 sc ce fp) [] G b := fun {τ G z} J1 n1 b hb =>
    ⟨n1 b hb, (J1.ok.exf b hb).1, J1.ok.exfs b hb, .inl hb, fun x c e => (J1.ok.exf b hb).2 x c e, fun p hp => absurd (show p ∈ ([] : List (Addr × Obj)) ++ [] from hp) (by simp)⟩
  have turns : codeAny (model X.prog X.w) X.A (.compLoop (.DictComp kx vx [⟨tg, it0, ifs, 0⟩] sc pos) 0 (.ref wk) (.ref D) ce) (compPost (model X.prog X.w) X.A X.xe (some (assign (.Name y py) X.env)) (fun _ s' => SP X pins Dd .next s') (.ref D) z3.heap.objs.size) z4 := by
    refine compLoop_anyD (fun n z => ∃ i G, Inv (X.blk z3 G3 sc ce fp) [] (wipe σ (own.map (·.2))) G z ∧ tn i z.heap ∧ (∀ b ∈ fp, G b = none) ∧ W i n G) ?_ m0 ⟨0, G3, I4, at4, none3, first⟩
    rintro n z5 ⟨i, G5, I5, at5, n5, w5⟩
    rcases each i n G5 w5 with ⟨stops, goal⟩ | ⟨goes, Nx, less, turn⟩
    · refine thnF (T.done (X.blk z3 G3 sc ce fp) rfl rfl rfl calm i [] z5 _ G5 (fun _ _ => False) I5 (still I5 n5) at5 stops) fun r z6 ⟨er, I6⟩ => ?_
      subst er
      have I7 : Inv X pins σ G5 z6 := I3.call' (ch := fp) I6.os I6.base I6.hok I6.bare fun b hb => ⟨(fp3 b hb).1.2.2.2.1, (fp3 b hb).1.2.1, (fp3 b hb).1.2.2.2.2.1, (fp3 b hb).1.2.2.2.2.2⟩
      have n6 : G5 z3.heap.objs.size = none := by
        have q : G5 ce.locals = none := I6.free
        rwa [locs] at q
      obtain ⟨mm, hm, _⟩ := I6.loc
      have hm' : z6.heap.Ns ce.locals mm := hm
      rw [locs] at hm'
      obtain ⟨g0, g1, g2, g3, g4, g5⟩ := I3.fpOk (Nat.le_refl _) n6
      show wpAny (model X.prog X.w) X.A (assign (.Name y py) X.env (.ref D)) _ _ _
      refine wpAny_assign_Name (store_ok2 (v := V.ref D) I7 nd hy (.inl hyl) rfl (fun s2 I8 ⟨a, sb, ha⟩ => ?_) (.inr hyl))
      have off : z3.heap.objs.size ≠ a := by
        rcases ha with z | z
        · rw [z]; exact g1
        · exact fun e => g4 y a z e.symm
      exact ⟨mm, hm'.sameBut sb off, fun h9 sb9 => ⟨_, G5, I8.turned (t' := s2.toks) (fun b o hb e => (sb9.2 b hb).trans e) g0 g1 g3 g4 g5, goal⟩⟩
    · refine thnF (T.item (X.blk z3 G3 sc ce fp) rfl rfl rfl calm i [] z5 _ G5 (fun _ _ => False) I5 (still I5 n5) at5 goes) fun r z6 ⟨u, er, h6⟩ => ?_
      subst er
      refine thnF h6 fun _ z7 ⟨x, G7, I7, rx, hy, at7, n7⟩ => ?_
      refine thnF (PG4.run _ z7 _ G7 x u _ (I7.pinned (still I7 n7) (T.obj _ _ at7)) rx (turn x G7 hy)) fun _ z8 ⟨τ8, G8, I8, same8, q8⟩ => ?_
      refine thnF (PT4.run _ z8 τ8 G8 _ I8 q8) fun b z9 ⟨G9, I9, q9⟩ => ?_
      have close : ∀ {z : Shared} {G : Hp}, Inv (X.blk z3 G3 sc ce fp) ([] ++ pinsAt fp z7.heap) τ8 G z → Nx G → ∃ m, m < n ∧ ∃ i G, Inv (X.blk z3 G3 sc ce fp) [] (wipe σ (own.map (·.2))) G z ∧ tn i z.heap ∧ (∀ b ∈ fp, G b = none) ∧ W i m G := fun {z G} J1 nx => by
        obtain ⟨m1, lt1, w1⟩ := less G nx
        have kept : ∀ b ∈ fp, ∀ o, z7.heap.get? b = some o → z.heap.get? b = some o ∧ G b = none := fun b hb o e => by
          have t := J1.pin (b, o) (List.mem_append_right _ (List.mem_append_right _ (mem_pinsAt hb e)))
          exact ⟨t.1, t.2.1⟩
        refine ⟨m1, lt1, i + 1, G, (J1.unpinned (pins := [])).weak (by rw [← same8, wipe_length]) (fun j v e => by rw [← same8] at e; exact (wipe_some e).1), T.keep _ _ _ at7 fun b hb o e => (kept b hb o e).1, fun b hb => ?_, w1⟩
        obtain ⟨o, e, _⟩ := T.obj _ _ at7 b hb
        exact (kept b hb o e).2
      cases b with
      | false =>
        simp only [Bool.false_eq_true, if_false] at q9 ⊢
        exact close I9 q9
      | true =>
        simp only [if_true] at q9 ⊢
        refine thnF (PK4.run _ z9 τ8 G9 _ I9 q9) fun k1 z10 ⟨yk, G10, I10, rk, q10⟩ => ?_
        refine thnF (PV4.run _ z10 τ8 G10 _ I10 q10) fun v1 z11 ⟨yv, G11, I11, rv, G12, put, nx⟩ => ?_
        exact dcn_put (X := X.blk z3 G3 sc ce fp) hu I11 put rk rv fun z12 I12 => close I12 nx
  exact codeAny_compStart_dict turns (T.self X.A 0 _ _ _ at4 turns)
end
end Sq

set_option Elab.async false
set_option linter.all false
set_option maxRecDepth 100000
set_option maxHeartbeats 4000000
/-! The places of the program's and the law's defs. -/
namespace Sq
open PySem PySem.Spec PyProof.Rows L2
def top (i : Nat) : Stmt := PySem.Challenge.pw_slideinto_k32_whole_no_returns.main.body.getD i (.Pass ⟨0, 0, 0, 0⟩)
abbrev gWhole : Stmt := top 6
abbrev gIsCell : Stmt := top 7
abbrev gPlain : Stmt := top 8
abbrev gShifted : Stmt := top 9
abbrev gFour : Stmt := top 10
abbrev gLot : Stmt := top 11
abbrev gPut : Stmt := top 12
abbrev gBodyIn : Stmt := top 13
abbrev gNear : Stmt := top 14
abbrev gFlood : Stmt := top 15
abbrev gHangs : Stmt := top 16
abbrev gHangsW : Stmt := top 17
abbrev gLinks : Stmt := top 18
abbrev gIsBody : Stmt := top 20
abbrev gLotB : Stmt := top 21
abbrev gKindIn : Stmt := top 23
abbrev gByPlace : Stmt := top 24
abbrev gSlides : Stmt := top 25
abbrev gTurns : Stmt := top 26
abbrev gFirstWrong : Stmt := top 28
abbrev gIsMoveIn : Stmt := top 29
abbrev gCheckedMoves : Stmt := top 30
abbrev gBodiesBehind : Stmt := top 31
abbrev gWithoutReturns : Stmt := top 33
abbrev gDirect : Stmt := top 34
abbrev sPen : Stmt := top 36
abbrev sDraw : Stmt := top 37
abbrev sPick : Stmt := top 38
abbrev lWBeside : Stmt := top 39
abbrev lWHangs : Stmt := top 40
abbrev lWBody : Stmt := top 41
abbrev lWMay : Stmt := top 42
abbrev lWMoved : Stmt := top 43
abbrev lWMoves : Stmt := top 44
abbrev lT4goes : Stmt := top 45
abbrev lT4both : Stmt := top 46
abbrev lT4back : Stmt := top 47
abbrev lT4bodies : Stmt := top 48
abbrev lT4leads : Stmt := top 49
abbrev lT4free : Stmt := top 50
abbrev lT4plan : Stmt := top 51
abbrev lT4stroll : Stmt := top 52
abbrev lT4without : Stmt := top 53
abbrev sLaw : Stmt := top 54
abbrev FnP (K : PySem.W.Frag) (x : Str) (st : Stmt) (f : Addr) (fd : FuncData) : Prop := FunD K x x (defArgs st) (defBody st) (defScope st) [] [] f fd
end Sq

set_option Elab.async false
set_option linter.all false
set_option maxRecDepth 100000
set_option maxHeartbeats 4000000
/-! What is a cell; cells made plain, shifted; the four beside. -/
namespace Sq
open PySem PySem.Spec PyProof.Rows L2
def kinds : List String := ["NoneType", "bool", "int", "str", "tuple", "list"]
/-- x is of the built-in kind T -/
structure Kd (K : PySem.W.Frag) (H : Hp) (x : V) (T : String) : Prop where
  ty : TyX K H x (.type T)
  mem : T ∈ kinds
theorem kd_isi {K : PySem.W.Frag} {T U : String} (h : T ∈ kinds) (hU : U ∈ ["int", "bool", "tuple"]) : PySem.W.kitOne K (.type T) (.type U) = some (T == U || (T == "bool" && U == "int")) := by
  refine kit_ty ?_
  simp only [kinds, List.mem_cons, List.not_mem_nil, or_false] at h hU
  rcases h with rfl | rfl | rfl | rfl | rfl | rfl <;> rcases hU with rfl | rfl | rfl <;> decide +kernel
/-- whether x is a cell -/
inductive CellQ (K : PySem.W.Frag) (H : Hp) : V → Bool → Prop where
  | other {x : V} {T : String} (k : Kd K H x T) (n : T ≠ "tuple") : CellQ K H x false
  | len {p : Addr} {xs : List V} (e : H p = some (.tup xs)) (n : xs.length ≠ 2) : CellQ K H (.ref p) false
  | two {p : Addr} {y z : V} {T U : String} (e : H p = some (.tup [y, z])) (ky : Kd K H y T) (kz : Kd K H z U) (n : T ≠ "int" ∨ U ≠ "int") : CellQ K H (.ref p) false
  | cell {p : Addr} {c : Cell} (e : At H p c) : CellQ K H (.ref p) true
theorem Kd.tup {K : PySem.W.Frag} {H : Hp} {p : Addr} {xs : List V} (e : H p = some (.tup xs)) : Kd K H (.ref p) "tuple" := ⟨.base (.tup e), by decide⟩
theorem Kd.int {K : PySem.W.Frag} {H : Hp} {i : Int} : Kd K H (.int i) "int" := ⟨.base (.int i), by decide⟩
theorem at0 {x : V} {xs : List V} : atI (x :: xs) 0 = some x := atI_nat (j := 0) rfl
theorem at1 {x y : V} {xs : List V} : atI (x :: y :: xs) 1 = some y := atI_nat (j := 1) rfl
section
variable {P : Program} {w : World} {K : PySem.W.Frag} {mg : Str → Option Value} {base : Heap}
def spWhole (K : PySem.W.Frag) : Sp := fun vs H Q _ => ∃ (x : V) (T : String), vs = [x] ∧ Kd K H x T ∧ Q (.bl (T == "int")) H
theorem scW : FnScope ["value"] ["value"] (defScope gWhole) := ⟨rfl, rfl, rfl, by decide +kernel, rfl, by decide +kernel, by decide +kernel⟩
theorem ok_whole {f : Addr} {fd : FuncData} (F : FnP K "is_whole" gWhole f fd) (gIs : mg "isinstance" = none) (gI : mg "int" = none) (gB : mg "bool" = none) : FnOk P w K mg base CX0 1 f fd ["value"] (spWhole K) := by
  refine F.ok scW (fun vs H Q E h => ?_) (fun cdv A outer s H vs Q E hr h => ?_)
  · obtain ⟨x, T, rfl, _⟩ := h
    rfl
  · obtain ⟨x, T, rfl, k, q⟩ := h
    refine ⟨_, PSs.nox (pss_one (ps_ret (pe_and (pe_callB call_isi (by rfl) gIs PyProof.Rows.boot_isinstance (pa_cons (pv 0) (pa_cons (pe_bltn (v := .ty "int") (by rfl) gI PyProof.Rows.boot_int rfl) pa_nil)))
      (pe_one (pe_not (pe_callB call_isi (by rfl) gIs PyProof.Rows.boot_isinstance (pa_cons (pv 0) (pa_cons (pe_bltn (v := .ty "bool") (by rfl) gB PyProof.Rows.boot_bool rfl) pa_nil)))))))), ?_⟩
    refine ⟨_, rfl, _, _, _, _, _, rfl, .ty "int", k.ty, kd_isi k.mem (by decide), _, rfl, ?_⟩
    have m := k.mem
    refine ite2 (fun hc => ⟨_, rfl, _, _, _, _, _, rfl, .ty "bool", k.ty, kd_isi k.mem (by decide), _, rfl, ?_⟩) (fun hc => ?_)
    · simp only [kinds, List.mem_cons, List.not_mem_nil, or_false] at m
      rcases m with rfl | rfl | rfl | rfl | rfl | rfl <;> first | exact absurd hc (by decide) | exact q
    · simp only [kinds, List.mem_cons, List.not_mem_nil, or_false] at m
      rcases m with rfl | rfl | rfl | rfl | rfl | rfl <;> first | exact absurd rfl hc | exact q
def spIsCell (K : PySem.W.Frag) : Sp := fun vs H Q _ => ∃ (x : V) (b : Bool), vs = [x] ∧ CellQ K H x b ∧ Q (.bl b) H
theorem scIC : FnScope ["value"] ["value"] (defScope gIsCell) := ⟨rfl, rfl, rfl, by decide +kernel, rfl, by decide +kernel, by decide +kernel⟩
theorem ok_isCell {f fW : Addr} {fd fdW : FuncData} (F : FnP K "is_cell" gIsCell f fd) (FW : FnP K "is_whole" gWhole fW fdW) (gW : mg "is_whole" = some (.ref fW)) (gIs : mg "isinstance" = none) (gI : mg "int" = none) (gB : mg "bool" = none) (gT : mg "tuple" = none) (gL : mg "len" = none) :
    FnOk P w K mg base CX0 2 f fd ["value"] (spIsCell K) := by
  have GW : FnOk P w K mg base CX0 1 fW fdW ["value"] (spWhole K) := ok_whole FW gIs gI gB
  have bW : Binds K fdW ["value"] [] := FW.bindsN fun _ _ _ _ _ _ us hl => match us, hl with | [_], _ => rfl
  refine F.ok scIC (fun vs H Q E h => ?_) (fun cdv A outer s H vs Q E hr h => ?_)
  · obtain ⟨x, b, rfl, _⟩ := h
    rfl
  · obtain ⟨x, b, rfl, k, q⟩ := h
    refine ⟨_, PSs.nox (pss_cons (ps_if (PW.pt (pw_or (pt_not (pt_val (pe_callB call_isi (by rfl) gIs PyProof.Rows.boot_isinstance (pa_cons (pv 0) (pa_cons (pe_bltn (v := .ty "tuple") (by rfl) gT PyProof.Rows.boot_tuple rfl) pa_nil)))))
        (pw_or1 (pt_cmpR op_ne (pe_callB call_len_seq (by rfl) gL PySem.boot_len (pa_cons (pv 0) pa_nil)) pe_int (nomark _)))))
        (pss_one (ps_ret pe_bl)) pss_nil)
      (pss_one (ps_ret (pe_and (pe_call GW hr rfl gW FW.kp bW .nil pass0 (pa_cons (pe_ix ix_tup (pv 0) pe_int (fun _ _ => rfl)) pa_nil)) (pe_one (pe_call GW hr rfl gW FW.kp bW .nil pass0 (pa_cons (pe_ix ix_tup (pv 0) pe_int (fun _ _ => rfl)) pa_nil))))))), ?_⟩
    cases k with
    | other k n =>
      refine ⟨_, rfl, _, _, _, _, _, rfl, .ty "tuple", k.ty, kd_isi k.mem (by decide), _, rfl, ?_⟩
      have m := k.mem
      simp only [kinds, List.mem_cons, List.not_mem_nil, or_false] at m
      rcases m with rfl | rfl | rfl | rfl | rfl | rfl <;> first | exact absurd rfl n | exact q
    | @len p xs e n =>
      refine ⟨_, rfl, _, _, _, _, _, rfl, .ty "tuple", (Kd.tup (K := K) e).ty, kd_isi (T := "tuple") (by decide) (by decide), _, rfl, ?_⟩
      refine ⟨_, rfl, _, _, rfl, .inr (SqT.of e), ?_⟩
      refine ⟨rfl, _, rfl, ite2 (fun _ => q) fun hc => ?_⟩
      have hc : (xs.length : Int) = 2 := by simpa using hc
      exact absurd (by omega) n
    | two e ky kz n =>
      refine ⟨_, rfl, _, _, _, _, _, rfl, .ty "tuple", (Kd.tup (K := K) e).ty, kd_isi (T := "tuple") (by decide) (by decide), _, rfl, ?_⟩
      refine ⟨_, rfl, _, _, rfl, .inr (SqT.of e), ?_⟩
      refine ⟨rfl, _, rfl, ite2 (fun hc => absurd hc (by simp)) fun _ => ?_⟩
      refine ⟨_, rfl, _, _, _, _, rfl, rfl, SqT.of e, at0, _, _, rfl, ky, _, rfl, ite2 (fun h1 => ?_) fun _ => q⟩
      refine ⟨_, rfl, _, _, _, _, rfl, rfl, SqT.of e, at1, _, _, rfl, kz, ?_⟩
      have e1 := eq_of_beq h1
      rcases n with n | n
      · exact absurd e1 n
      · rw [beq_false_of_ne n]
        exact q
    | cell e =>
      refine ⟨_, rfl, _, _, _, _, _, rfl, .ty "tuple", (Kd.tup (K := K) e).ty, kd_isi (T := "tuple") (by decide) (by decide), _, rfl, ?_⟩
      refine ⟨_, rfl, _, _, rfl, .inr (SqT.of e), ?_⟩
      refine ⟨rfl, _, rfl, ite2 (fun hc => absurd hc (by simp [cV])) fun _ => ?_⟩
      refine ⟨_, rfl, _, _, _, _, rfl, rfl, SqT.of e, at0, _, _, rfl, Kd.int, _, rfl, ite2 (fun h1 => ?_) fun h1 => absurd rfl h1⟩
      exact ⟨_, rfl, _, _, _, _, rfl, rfl, SqT.of e, at1, _, _, rfl, Kd.int, q⟩
/-- plain_cell(cell) -/
def spPlain : Sp := fun vs H Q _ => ∃ (p : Addr) (c : Cell), vs = [.ref p] ∧ At H p c ∧ ∀ q, H q = none → Q (.ref q) (upd H q (.tup (cV c)))
theorem scPl : FnScope ["cell"] ["cell"] (defScope gPlain) := ⟨rfl, rfl, rfl, by decide +kernel, rfl, by decide +kernel, by decide +kernel⟩
theorem two_le : (2 : Nat) ≤ sizeLine := by rw [sizeLine_eq]; decide
theorem four_le : (4 : Nat) ≤ sizeLine := by rw [sizeLine_eq]; decide
theorem ok_plain {f : Addr} {fd : FuncData} (F : FnP K "plain_cell" gPlain f fd) (gI : mg "int" = none) : FnOk P w K mg base CX0 1 f fd ["cell"] spPlain := by
  refine F.ok scPl (fun vs H Q E h => ?_) (fun cdv A outer s H vs Q E hr h => ?_)
  · obtain ⟨p, c, rfl, _⟩ := h
    rfl
  · obtain ⟨p, c, rfl, e, k⟩ := h
    refine ⟨_, PSs.nox (pss_one (ps_ret (pe_tup (pa_cons (pe_callTy call_int1 (by rfl) gI PyProof.Rows.boot_int (pa_cons (pe_ix ix_tup (pv 0) pe_int (fun _ _ => rfl)) pa_nil)) (pa_cons (pe_callTy call_int1 (by rfl) gI PyProof.Rows.boot_int (pa_cons (pe_ix ix_tup (pv 0) pe_int (fun _ _ => rfl)) pa_nil)) pa_nil))))), ?_⟩
    exact ⟨_, rfl, _, _, _, _, rfl, rfl, SqT.of e, at0, .inl ⟨_, rfl, _, rfl, _, _, _, _, rfl, rfl, SqT.of e, at1, .inl ⟨_, rfl, two_le, fun q hq => k q hq⟩⟩⟩
/-- shifted(cell, by) -/
def spShifted : Sp := fun vs H Q _ => ∃ (p r : Addr) (c d : Cell), vs = [.ref p, .ref r] ∧ At H p c ∧ At H r d ∧ ∀ q, H q = none → Q (.ref q) (upd H q (.tup (cV (c.1 + d.1, c.2 + d.2))))
theorem scSh : FnScope ["cell", "by"] ["cell", "by"] (defScope gShifted) := ⟨rfl, rfl, rfl, by decide +kernel, rfl, by decide +kernel, by decide +kernel⟩
theorem ok_shifted {f : Addr} {fd : FuncData} (F : FnP K "shifted" gShifted f fd) : FnOk P w K mg base CX0 1 f fd ["cell", "by"] spShifted := by
  refine F.ok scSh (fun vs H Q E h => ?_) (fun cdv A outer s H vs Q E hr h => ?_)
  · obtain ⟨p, r, c, d, rfl, _⟩ := h
    rfl
  · obtain ⟨p, r, c, d, rfl, e1, e2, k⟩ := h
    refine ⟨_, PSs.nox (pss_one (ps_ret (pe_tup (pa_cons (pe_op op_add (pe_ix ix_tup (pv 0) pe_int (fun _ _ => rfl)) (pe_ix ix_tup (pv 1) pe_int (fun _ _ => rfl))) (pa_cons (pe_op op_add (pe_ix ix_tup (pv 0) pe_int (fun _ _ => rfl)) (pe_ix ix_tup (pv 1) pe_int (fun _ _ => rfl))) pa_nil))))), ?_⟩
    exact ⟨_, rfl, _, _, _, _, rfl, rfl, SqT.of e1, at0, _, rfl, _, _, _, _, rfl, rfl, SqT.of e2, at0, _, _, rfl, rfl, _, rfl, _, _, _, _, rfl, rfl, SqT.of e1, at1, _, rfl, _, _, _, _, rfl, rfl, SqT.of e2, at1, _, _, rfl, rfl, two_le, fun q hq => k q hq⟩
/-- what is known of an error class of the program -/
structure ErrC (P : Program) (K : PySem.W.Frag) (mg : Str → Option Value) (x : Str) (C fI : Addr) (ns : List Str) : Prop where
  s : SErr P K C fI ns
  g : mg x = some (.ref C)
  ex : PySem.W.subIn K (.ref C) (.type "BaseException") = some true
  ty : PySem.W.typeIn K (.ref C) = some (.type "type")
/-- t holds a tuple of these cells -/
def CellsT (H : Hp) (t : Addr) (cs : List Cell) : Prop := ∃ qs : List Addr, H t = some (.tup (qs.map V.ref)) ∧ Paired (fun q c => At H q c) qs cs
def spFour : Sp := fun vs H Q _ => ∃ (p : Addr) (c : Cell), vs = [.ref p] ∧ At H p c ∧ ∀ t H', Same H H' → H t = none → CellsT H' t (besideC c) → Q (.ref t) H'
theorem scFo : FnScope ["cell", "column", "row"] ["cell"] (defScope gFour) := ⟨rfl, rfl, rfl, by decide +kernel, rfl, by decide +kernel, by decide +kernel⟩
end
end Sq

set_option Elab.async false
set_option linter.all false
set_option maxRecDepth 100000
set_option maxHeartbeats 4000000
/-! The four beside a cell; a lot of cells, without one, near ones. -/
namespace Sq
open PySem PySem.Spec PyProof.Rows L2
theorem same_new {H : Hp} {p : Addr} {o : HO} (h : H p = none) : Same H (upd H p o) := fun b u e => by
  rw [upd_ne (ne_of_none e h)]
  exact e
theorem At.same {H H' : Hp} {q : Addr} {c : Cell} (h : At H q c) (k : Same H H') : At H' q c := k _ _ h
theorem paired_imp {α β : Type} {F G : α → β → Prop} (k : ∀ a b, F a b → G a b) : ∀ {xs : List α} {ys : List β}, Paired F xs ys → Paired G xs ys
  | _, _, .nil => .nil
  | _, _, .cons h t => .cons (k _ _ h) (paired_imp k t)
theorem CellsT.same {H H' : Hp} {t : Addr} {cs : List Cell} (h : CellsT H t cs) (k : Same H H') : CellsT H' t cs := by
  obtain ⟨qs, e, r⟩ := h
  exact ⟨qs, k _ _ e, paired_imp (fun _ _ a => At.same a k) r⟩
section
variable {P : Program} {w : World} {K : PySem.W.Frag} {mg : Str → Option Value} {base : Heap}
theorem ok_four {f : Addr} {fd : FuncData} (F : FnP K "four_beside" gFour f fd) : FnOk P w K mg base CX0 1 f fd ["cell"] spFour := by
  refine F.ok scFo (fun vs H Q E h => ?_) (fun cdv A outer s H vs Q E hr h => ?_)
  · obtain ⟨p, c, rfl, _⟩ := h
    rfl
  · obtain ⟨p, c, rfl, e, k⟩ := h
    refine ⟨_, PSs.nox (pss_cons (ps_asg (pv 0) (pg_tup (by rfl) (pgs_cons (pg_name (i := 1) scFo.nd rfl (.inl rfl)) (pgs_cons (pg_name (i := 2) scFo.nd rfl (.inl rfl)) pgs_nil))))
      (pss_one (ps_ret (pe_tup (pa_cons (pe_tup (pa_cons (pe_op op_sub (pv 1) pe_int) (pa_cons (pv 2) pa_nil))) (pa_cons (pe_tup (pa_cons (pv 1) (pa_cons (pe_op op_sub (pv 2) pe_int) pa_nil)))
        (pa_cons (pe_tup (pa_cons (pe_op op_add (pv 1) pe_int) (pa_cons (pv 2) pa_nil))) (pa_cons (pe_tup (pa_cons (pv 1) (pa_cons (pe_op op_add (pv 2) pe_int) pa_nil))) pa_nil)))))))), ?_⟩
    refine ⟨_, rfl, p, _, rfl, SqT.of e, rfl, _, _, rfl, _, _, rfl, rfl, ?_⟩
    refine ⟨_, rfl, _, _, rfl, rfl, _, rfl, two_le, fun t1 h1 => ?_⟩
    refine ⟨_, rfl, _, rfl, _, _, rfl, rfl, two_le, fun t2 h2 => ?_⟩
    refine ⟨_, rfl, _, _, rfl, rfl, _, rfl, two_le, fun t3 h3 => ?_⟩
    refine ⟨_, rfl, _, rfl, _, _, rfl, rfl, two_le, fun t4 h4 => ?_⟩
    refine ⟨four_le, fun t5 h5 => ?_⟩
    have s1 := same_new (o := .tup [.int (c.1 - 1), .int c.2]) h1
    have s2 := same_new (o := .tup [.int c.1, .int (c.2 - 1)]) h2
    have s3 := same_new (o := .tup [.int (c.1 + 1), .int c.2]) h3
    have s4 := same_new (o := .tup [.int c.1, .int (c.2 + 1)]) h4
    have s5 := same_new (o := .tup [.ref t1, .ref t2, .ref t3, .ref t4]) h5
    refine k t5 _ (((s1.trans s2).trans s3).trans s4 |>.trans s5) (s1.free (s2.free (s3.free (s4.free h5)))) ⟨[t1, t2, t3, t4], upd_same, ?_⟩
    refine .cons ?_ (.cons ?_ (.cons ?_ (.cons ?_ .nil)))
    · exact s5 _ _ (s4 _ _ (s3 _ _ (s2 _ _ upd_same)))
    · exact s5 _ _ (s4 _ _ (s3 _ _ upd_same))
    · exact s5 _ _ (s4 _ _ upd_same)
    · exact s5 _ _ upd_same
end
/-- a lot of cells as a dict's pairs -/
def lotK (L : List Cell) : List (List Key × V) := L.map fun c => (cK c, .bl true)
theorem lot_val (c : Cell) : ∀ L : List Cell, valV (lotK L) (cK c) = if c ∈ L then some (.bl true) else none
  | [] => by rw [if_neg (by simp)]; rfl
  | d :: L => by
    show valV ((cK d, V.bl true) :: lotK L) (cK c) = _
    by_cases h : d = c
    · subst h
      rw [valV_pos rfl, if_pos (List.mem_cons_self ..)]
    · rw [valV_neg (fun e => h (cK_inj e)), lot_val c L]
      by_cases m : c ∈ L
      · rw [if_pos m, if_pos (List.mem_cons_of_mem _ m)]
      · rw [if_neg m, if_neg (fun w => (List.mem_cons.mp w).elim (fun e => h e.symm) m)]
theorem lot_is (c : Cell) (L : List Cell) : (valV (lotK L) (cK c)).isSome = decide (c ∈ L) := by
  rw [lot_val]
  by_cases m : c ∈ L
  · rw [if_pos m, decide_eq_true m]
    rfl
  · rw [if_neg m, decide_eq_false m]
    rfl
theorem lot_put {c : Cell} {L : List Cell} (n : c ∉ L) : putK (lotK L) (cK c) (.bl true) = lotK (L ++ [c]) := by
  rw [putK_new _ (by rw [lot_val, if_neg n])]
  simp [lotK]
theorem lot_keys (L : List Cell) : (lotK L).map (·.1) = L.map cK := by simp [lotK]
theorem lot_len (L : List Cell) : (lotK L).length = L.length := by simp [lotK]
/-- in, for a cell and a lot -/
theorem dget_lot {H : Hp} {d q : Addr} {L : List Cell} {c : Cell} (hd : H d = some (.dT (lotK L))) (hq : At H q c) : DGet H d (.ref q) (valV (lotK L) (cK c)) := DGet.t hd hq
theorem dput_lot {H : Hp} {d q : Addr} {L : List Cell} {c : Cell} (hd : H d = some (.dT (lotK L))) (hq : At H q c) (n : c ∉ L) (hl : L.length < sizeLine) : DPut H d (.ref q) (.bl true) (upd H d (.dT (lotK (L ++ [c])))) := lot_put n ▸ DPut.t hd hq (by rw [lot_len]; exact hl)
theorem paired_get {α β : Type} {F : α → β → Prop} {i : Nat} {x : α} : ∀ {xs : List α} {ys : List β}, Paired F xs ys → xs[i]? = some x → ∃ y, ys[i]? = some y ∧ F x y
  | _, _, .nil, e => by simp at e
  | _ :: _, _ :: _, .cons h t, e => by
    cases i with
    | zero =>
      simp only [List.getElem?_cons_zero, Option.some.injEq] at e
      exact ⟨_, rfl, e ▸ h⟩
    | succ i =>
      simp only [List.getElem?_cons_succ] at e ⊢
      exact paired_get t e
theorem yesT {σ : L2.St} {H : Hp} {A B : Hp → Prop} (h : A H) : tYes σ H fun b H3 => if b = true then A H3 else B H3 := by
  show if true = true then A H else B H
  rw [if_pos rfl]
  exact h
theorem nodup_take {α : Type} {xs : List α} {i : Nat} {x : α} (nd : xs.Nodup) (h : xs[i]? = some x) : x ∉ xs.take i := fun m => by
  obtain ⟨j, hj⟩ := List.mem_iff_getElem?.mp m
  have hl := (List.getElem?_eq_some_iff.mp hj).1
  rw [List.length_take] at hl
  have hji : j < i := by omega
  rw [List.getElem?_take_of_lt hji] at hj
  have e : j = i := (List.getElem?_inj (List.getElem?_eq_some_iff.mp hj).1 nd).mp (hj.trans h.symm)
  omega
def spLot : Sp := fun vs H Q _ => ∃ (t : Addr) (cs : List Cell), vs = [.ref t] ∧ CellsT H t cs ∧ cs.Nodup ∧ cs.length ≤ 1000 ∧ ∀ d H', Same H H' → H d = none → H' d = some (.dT (lotK cs)) → Q (.ref d) H'
theorem take_snoc {α : Type} {xs : List α} {i : Nat} {x : α} (h : xs[i]? = some x) : xs.take (i + 1) = xs.take i ++ [x] := by
  rw [List.take_succ, h]
  rfl
section
variable {P : Program} {w : World} {K : PySem.W.Frag} {mg : Str → Option Value} {base : Heap}
theorem scLo : FnScope ["cells", "cell"] ["cells"] (defScope gLot) := ⟨rfl, rfl, rfl, by decide +kernel, rfl, by decide +kernel, by decide +kernel⟩
theorem ok_lot {f fP : Addr} {fd fdP : FuncData} (F : FnP K "lot_of" gLot f fd) (FP : FnP K "plain_cell" gPlain fP fdP) (gP : mg "plain_cell" = some (.ref fP)) (gI : mg "int" = none) : FnOk P w K mg base CX0 2 f fd ["cells"] spLot := by
  have GP : FnOk P w K mg base CX0 1 fP fdP ["cell"] spPlain := ok_plain FP gI
  have bP : Binds K fdP ["cell"] [] := FP.bindsN fun _ _ _ _ _ _ us hl => match us, hl with | [_], _ => rfl
  refine F.ok scLo (fun vs H Q E h => ?_) (fun cdv A outer s H vs Q E hr h => ?_)
  · obtain ⟨t, cs, rfl, _⟩ := h
    rfl
  · obtain ⟨t, cs, rfl, ⟨qs, et, pr⟩, nd, big, k⟩ := h
    refine ⟨_, PSs.nox (pss_one (ps_ret (pe_dct (o0 := .dT []) (own := [("cell", 1)]) (g := gName 1) (tt := tYes) (.inr rfl) rfl (hu_of hr) scLo.nd (pi_tup (pv 0)) (blkOk_by (N := ["cells", "cell"]) (sc := defScope gLot) (by decide +kernel)) (fun _ _ _ _ _ => pg_name (i := 1) scLo.nd rfl (Or.inl rfl)) (fun _ _ _ _ _ => pts_nil)
      (fun _ _ _ _ _ => pe_call GP hr rfl gP FP.kp bP .nil pass0 (pa_cons (pv 1) pa_nil)) (fun _ _ _ _ _ => pe_bl)))), ?_⟩
    refine ⟨_, rfl, t, rfl, ⟨_, SqT.of et⟩, fun D hD => dct_it (walk_tup (K := K) (a := t) (xs := qs.map V.ref)) (fun i G => Same H G ∧ G D = some (.dT (lotK (cs.take i)))) ⟨same_new hD, upd_same⟩ (fun i G _ p => SqT.of (p.1 _ _ et)) ?_ ?_⟩
    · rintro i x G G' hi ⟨sm, gd⟩ ⟨rfl, hx⟩
      rw [List.getElem?_map] at hx
      obtain ⟨q, hq, rfl⟩ := Option.map_eq_some_iff.mp hx
      obtain ⟨c, hc, ac⟩ := paired_get pr hq
      refine ⟨rfl, yesT ⟨_, rfl, q, c, rfl, ac.same sm, fun p hp => ?_⟩⟩
      have hne : D ≠ p := ne_of_none gd hp
      have gd' : upd G' p (.tup (cV c)) D = some (.dT (lotK (cs.take i))) := by rw [upd_ne hne]; exact gd
      have out : c ∉ cs.take i := nodup_take nd hc
      refine ⟨_, dput_lot gd' upd_same out (by rw [List.length_take, sizeLine_eq]; omega), fun b u e => ?_, ?_⟩
      · have hb : b ≠ D := fun z => by rw [z, hD] at e; cases e
        rw [upd_ne hb]
        exact (sm.trans (same_new hp)) b u e
      · rw [upd_same, take_snoc hc]
    · rintro G ⟨sm, gd⟩
      have el : (qs.map V.ref).length = cs.length := by rw [List.length_map]; exact Paired.length pr
      rw [el, List.take_length] at gd
      exact k D G sm hD gd
end
end Sq

set_option Elab.async false
set_option linter.all false
set_option maxRecDepth 100000
set_option maxHeartbeats 4000000
/-! A lot without a cell; the near ones in a lot. -/
namespace Sq
open PySem PySem.Spec PyProof.Rows L2
theorem room64 {k : Nat} {A : Around} (hr : Room k A) : A.units + 64 < cLine := by have := hr.un; omega
theorem room2 {k : Nat} {A : Around} (hr : Room k A) : A.units + 2 < cLine := by have := hr.un; omega
theorem op_neK {X : Cx} {K : PySem.W.Frag} (hK : X.K = K) (hu : X.A.units + 64 < cLine) : OpR X (compareOp .NotEq) (rNeD K) := hK ▸ op_neD hu
theorem op_eqK {X : Cx} {K : PySem.W.Frag} (hK : X.K = K) (hu : X.A.units + 64 < cLine) : OpR X (compareOp .Eq) (rEqD K) := hK ▸ op_eqD hu
/-- a cell as data -/
def cD (c : Cell) : PyData := .tuple [.int c.1, .int c.2]
theorem At.dp {K : PySem.W.Frag} {H : Hp} {q : Addr} {c : Cell} (h : At H q c) : Dp K H (.ref q) (cD c) := .tup (SqT.of h) (.cons (.int _) (.cons (.int _) .nil))
theorem cD_eqv (c d : Cell) : PyData.eqv (cD c) (cD d) = decide (c = d) := by
  obtain ⟨c1, c2⟩ := c
  obtain ⟨d1, d2⟩ := d
  simp only [cD, PyData.eqv, PyData.eqvAll, Bool.and_true, Prod.mk.injEq, Bool.decide_and]
  rw [show (c1 == d1) = decide (c1 = d1) from rfl, show (c2 == d2) = decide (c2 = d2) from rfl]
theorem cD_shaped (c : Cell) : SeqAt.shaped (cD c) = true := by
  obtain ⟨c1, c2⟩ := c
  rfl
def without (L : List Cell) (c : Cell) : List Cell := L.filter fun d => decide (d ≠ c)
theorem without_snoc (L : List Cell) (c d : Cell) : without (L ++ [d]) c = if d = c then without L c else without L c ++ [d] := by
  unfold without
  rw [List.filter_append]
  by_cases h : d = c
  · simp [h]
  · simp [h]
section
variable {P : Program} {w : World} {K : PySem.W.Frag} {mg : Str → Option Value} {base : Heap}
end
end Sq

set_option Elab.async false
set_option linter.all false
set_option maxRecDepth 100000
set_option maxHeartbeats 4000000
/-! The near ones; the flood; hanging together. -/
namespace Sq
open PySem PySem.Spec PyProof.Rows L2
/-- l holds a list of these cells -/
def CellsL (H : Hp) (l : Addr) (cs : List Cell) : Prop := ∃ qs : List Addr, H l = some (.lst (qs.map V.ref)) ∧ Paired (fun q c => At H q c) qs cs
def nearC (L : List Cell) (c : Cell) : List Cell := (besideC c).filter fun d => decide (d ∈ L)
def spNear : Sp := fun vs H Q _ => ∃ (d q : Addr) (L : List Cell) (c : Cell), vs = [.ref d, .ref q] ∧ H d = some (.dT (lotK L)) ∧ At H q c ∧ ∀ l H', Same H H' → H l = none → CellsL H' l (nearC L c) → Q (.ref l) H'
section
variable {P : Program} {w : World} {K : PySem.W.Frag} {mg : Str → Option Value} {base : Heap}
theorem scNe : FnScope ["lot", "cell", "near"] ["lot", "cell"] (defScope gNear) := ⟨rfl, rfl, rfl, by decide +kernel, rfl, by decide +kernel, by decide +kernel⟩
theorem ok_near {f fF : Addr} {fd fdF : FuncData} (F : FnP K "near_in" gNear f fd) (FF : FnP K "four_beside" gFour fF fdF) (gF : mg "four_beside" = some (.ref fF)) : FnOk P w K mg base CX0 2 f fd ["lot", "cell"] spNear := by
  have GF : FnOk P w K mg base CX0 1 fF fdF ["cell"] spFour := ok_four FF
  have bF : Binds K fdF ["cell"] [] := FF.bindsN fun _ _ _ _ _ _ us hl => match us, hl with | [_], _ => rfl
  refine F.ok scNe (fun vs H Q E h => ?_) (fun cdv A outer s H vs Q E hr h => ?_)
  · obtain ⟨d, q, L, c, rfl, _⟩ := h
    rfl
  · obtain ⟨d, q, L, c, rfl, ed, aq, k⟩ := h
    have hu := hu_of hr
    refine ⟨_, PSs.nox (pss_one (ps_ret (pe_lc (own := [("near", 2)]) (g := gName 2) rfl scNe.nd (pi_tup (pe_call GF hr rfl gF FF.kp bF .nil pass0 (pa_cons (pv 1) pa_nil))) (blkOk_by (N := ["lot", "cell", "near"]) (sc := defScope gNear) (by decide +kernel)) (fun _ _ _ _ _ => pg_name (i := 2) scNe.nd rfl (Or.inl rfl))
      (fun _ _ _ _ _ => pts_one (pt_cmp (pc_din hu (pv 2) (pv 0)))) (fun _ _ _ _ _ => pv 2)))), ?_⟩
    refine ⟨_, rfl, q, c, rfl, aq, fun t H1 s1 ht ⟨qs, et, pr⟩ => ⟨t, rfl, ⟨_, SqT.of et⟩, fun D hD => ?_⟩⟩
    refine lc_it (walk_tup (K := K) (a := t) (xs := qs.map V.ref)) (fun i G => Same H1 G ∧ ∃ rs : List Addr, G D = some (.lst (rs.map V.ref)) ∧ rs.length ≤ i ∧ Paired (fun r e => At H1 r e) rs (((besideC c).take i).filter fun e => decide (e ∈ L))) ⟨same_new hD, [], upd_same, Nat.le_refl _, .nil⟩ (fun i G _ p => SqT.of (p.1 _ _ et)) ?_ ?_
    · rintro i x G G' hi ⟨sm, rs, gD, ln, pp⟩ ⟨rfl, hx⟩
      rw [List.getElem?_map] at hx
      obtain ⟨p, hp, rfl⟩ := Option.map_eq_some_iff.mp hx
      obtain ⟨e, he, ae⟩ := paired_get pr hp
      have le : (qs.map V.ref).length = 4 := by rw [List.length_map]; exact Paired.length pr
      refine ⟨rfl, _, rfl, _, rfl, d, _, rfl, dget_lot (sm _ _ (s1 _ _ ed)) (ae.same sm), _, rfl, ?_⟩
      rw [lot_is]
      refine ite2 (fun hc => ?_) (fun hc => ?_)
      · refine ⟨_, rfl, _, gD, by rw [List.length_map, sizeLine_eq]; omega, fun b o e2 => ?_, rs ++ [p], by rw [upd_same]; simp, by rw [List.length_append]; exact Nat.succ_le_succ ln, ?_⟩
        · rw [upd_ne (fun z => by rw [z, hD] at e2; cases e2)]
          exact sm b o e2
        · rw [take_snoc he, List.filter_append]
          simp only [List.filter_cons, hc, if_true, List.filter_nil]
          exact pp.snoc ae
      · refine ⟨sm, rs, gD, Nat.le_succ_of_le ln, ?_⟩
        rw [take_snoc he, List.filter_append]
        have hc' : decide (e ∈ L) = false := Bool.eq_false_iff.mpr hc
        simp only [List.filter_cons, hc', Bool.false_eq_true, if_false, List.filter_nil, List.append_nil]
        exact pp
    · rintro G ⟨sm, rs, gD, _, pp⟩
      have le : (qs.map V.ref).length = (besideC c).length := by rw [List.length_map]; exact Paired.length pr
      rw [le, List.take_length] at pp
      exact k D G (s1.trans sm) (s1.free hD) ⟨rs, gD, paired_imp (fun _ _ a => a.same sm) pp⟩
end
end Sq

set_option Elab.async false
set_option linter.all false
set_option maxRecDepth 100000
set_option maxHeartbeats 4000000
/-! The flood. -/
namespace Sq
open PySem PySem.Spec PyProof.Rows L2
structure Fl (H : Hp) (L : List Cell) (c0 : Cell) (fo ah : Addr) (F A : List Cell) (G : Hp) : Prop where
  same : Same H G
  gf : G fo = some (.dT (lotK F))
  ga : CellsL G ah A
  nd : F.Nodup
  cF : c0 ∈ F
  re : ∀ x ∈ F, Reach L c0 x
  sub : ∀ x ∈ A, x ∈ F
  len : A.length ≤ F.length
theorem snoc_inv {α : Type} {xs : List α} (h : xs ≠ []) : ∃ ys y, xs = ys ++ [y] := ⟨xs.dropLast, xs.getLast h, (List.dropLast_concat_getLast h).symm⟩
theorem paired_unsnoc {α β : Type} {F : α → β → Prop} {xs : List α} {x : α} {ys : List β} {y : β} (h : Paired F (xs ++ [x]) (ys ++ [y])) : Paired F xs ys ∧ F x y := by
  induction xs generalizing ys with
  | nil =>
    cases ys with
    | nil =>
      cases h with
      | cons a _ => exact ⟨.nil, a⟩
    | cons z zs =>
      have l := Paired.length h
      simp at l
  | cons a xs ih =>
    cases ys with
    | nil =>
      have l := Paired.length h
      simp at l
    | cons z zs =>
      cases h with
      | cons p t =>
        obtain ⟨h1, h2⟩ := ih t
        exact ⟨.cons p h1, h2⟩
def FlW (H : Hp) (L : List Cell) (c0 : Cell) (d q fo ah : Addr) (m : Nat) (σ : L2.St) (G : Hp) : Prop := ∃ (F A : List Cell) (v4 v5 : Option V), m = 2 * (L.length - F.length) + A.length ∧ σ = [some (.ref d), some (.ref q), some (.ref fo), some (.ref ah), v4, v5] ∧ Fl H L c0 fo ah F A G ∧
      ∀ x ∈ F, x ∉ A → ∀ y ∈ besideC x, y ∈ L → y ∈ F
def spFlood : Sp := fun vs H Q _ => ∃ (d q : Addr) (L : List Cell) (c : Cell), vs = [.ref d, .ref q] ∧ H d = some (.dT (lotK L)) ∧ L.Nodup ∧ L.length ≤ 1000 ∧ At H q c ∧ c ∈ L ∧
  ∀ e H' F, Same H H' → H e = none → H' e = some (.dT (lotK F)) → F.Nodup → (∀ x, x ∈ F ↔ Reach L c x) → Q (.ref e) H'
section
variable {P : Program} {w : World} {K : PySem.W.Frag} {mg : Str → Option Value} {base : Heap}
theorem scFl : FnScope ["lot", "first", "found", "ahead", "cell", "near"] ["lot", "first"] (defScope gFlood) := ⟨rfl, rfl, rfl, by decide +kernel, rfl, by decide +kernel, by decide +kernel⟩
theorem ok_flood {f : Addr} {fd : FuncData} (F : FnP K "flood" gFlood f fd) (DN : Df P w K mg base CX0 2 "near_in" ["lot", "cell"] spNear) : FnOk P w K mg base CX0 3 f fd ["lot", "first"] spFlood := by
  refine F.ok scFl (fun vs H Q E h => ?_) (fun cdv A outer s H vs Q E hr h => ?_)
  · obtain ⟨d, q, L, c, rfl, _⟩ := h
    rfl
  · obtain ⟨d, q, L, c0, rfl, ed, nL, lL, aq, cL, k⟩ := h
    have hu := hu_of hr
    refine ⟨_, PSs.nox (pss_cons (ps_set (i := 2) scFl.nd rfl (.inl rfl) (pe_disp1 (.inr rfl) hu (pv 1) pe_bl))
      (pss_cons (ps_set (i := 3) scFl.nd rfl (.inl rfl) (pe_lst (pa_cons (pv 1) pa_nil)))
      (pss_cons (ps_while PassesOwn.never (pt_truth (pv 3) (by intro _; rfl))
      (pss_cons (ps_set (i := 4) scFl.nd rfl (.inl rfl) (pe_bm0 PySem.F.plainAttrs_list PySem.F.slot_list_pop PySem.F.type_list_pop mt_pop (pv 3)))
        (pss_one (ps_for PassesOwn.never rfl (pi_list (pe_df DN hr (by rfl) pass0 (pa_cons (pv 0) (pa_cons (pv 4) pa_nil)))) (pg_name (i := 5) scFl.nd rfl (.inl rfl))
        (pss_one (ps_if (pt_cmp (pc_dnotin hu (pv 5) (pv 2)))
          (pss_cons (ps_dput hu (pv 2) (pv 5) pe_bl rfl)
            (pss_one (ps_expr (pe_bm PySem.F.plainAttrs_list PySem.F.slot_list_append PySem.F.type_list_append mt_append (pv 3) (pa_cons (pv 5) pa_nil)))))
          pss_nil))))))
      (pss_one (ps_ret (pv 2)))))), ?_⟩
    intro fo hfo
    refine ⟨_, rfl, _, dput_lot (L := []) upd_same (aq.new hfo) (by simp) (by rw [sizeLine_eq]; decide), ?_⟩
    rw [upd_upd]
    refine ⟨_, rfl, (by show 1 ≤ sizeLine; rw [sizeLine_eq]; decide), fun ah hah => ?_⟩
    have nah : ah ≠ fo := fun z => by rw [z, upd_same] at hah; cases hah
    have hah0 : H ah = none := by rw [upd_ne nah] at hah; exact hah
    refine ⟨FlW H L c0 d q fo ah, ⟨_, [c0], [c0], none, none, rfl, rfl, ⟨?_, ?_, ?_, by simp, by simp, ?_, fun _ h => h, Nat.le_refl _⟩, ?_⟩, ?_⟩
    · exact same_put (same_put same_refl hfo) hah0
    · rw [upd_ne (Ne.symm nah)]
      exact upd_same
    · exact ⟨[q], upd_same, .cons ((aq.new hfo).new hah) .nil⟩
    · intro x hx
      rw [List.mem_singleton.mp hx]
      exact .refl
    · intro x hx nx
      exact absurd hx nx
    · rintro m σ G ⟨F, A, v4, v5, rfl, rfl, I, cl⟩
      obtain ⟨qs, ea, pa⟩ := I.ga
      refine ⟨_, rfl, _, .inl ⟨_, SqL.of ea, rfl⟩, ?_⟩
      by_cases hA : A = []
      · subst hA
        cases pa
        have all : ∀ x, x ∈ F ↔ Reach L c0 x := fun x => ⟨I.re x, fun r => by
          induction r with
          | refl => exact I.cF
          | step _ hb hc ih => exact cl _ ih (by simp) _ hb hc⟩
        refine ⟨_, rfl, k fo G F I.same hfo I.gf I.nd all⟩
      · obtain ⟨A', c, eA⟩ := snoc_inv (xs := A) hA
        have ne : qs ≠ [] := fun z => by rw [z, eA] at pa; have l := Paired.length pa; simp at l
        obtain ⟨qs', qc, eq⟩ := snoc_inv ne
        subst eA eq
        obtain ⟨pa', ac⟩ := paired_unsnoc pa
        have isE : (List.map V.ref (qs' ++ [qc])).isEmpty = false := by simp
        rw [isE]
        refine ⟨fun σ' G' => ∃ m', m' < 2 * (L.length - F.length) + (A' ++ [c]).length ∧ FlW H L c0 d q fo ah m' σ' G', fun _ _ h => h, ?_⟩
        have cF : c ∈ F := I.sub c (by simp)
        have cLm : c ∈ L := (I.re c cF).mem cL
        have lenF : F.length ≤ L.length := len_le I.nd fun x hx => (I.re x hx).mem cL
        refine ⟨_, rfl, .inl ⟨rfl, _, SqL.of ea⟩, ah, _, .ref qc, rfl, rfl, ea, by simp, ?_⟩
        have drop : (List.map V.ref (qs' ++ [qc])).dropLast = qs'.map V.ref := by simp
        rw [drop]
        have nfo : fo ≠ ah := Ne.symm nah
        have s1 : Same H (upd G ah (.lst (qs'.map V.ref))) := same_put I.same hah0
        have offA : ∀ {b : Addr} {x : Cell}, At G b x → At (upd G ah (.lst (qs'.map V.ref))) b x := fun h => h.off ea (by intro xs z; cases z)
        refine ⟨_, rfl, _, rfl, d, qc, L, c, rfl, s1 _ _ ed, offA ac, fun l G2 s2 hl ⟨ns, el, pn⟩ => ?_⟩
        refine ⟨l, rfl, ⟨_, SqL.of el⟩, ?_⟩
        have lah : l ≠ ah := fun z => by rw [z, upd_same] at hl; cases hl
        have lfo : l ≠ fo := fun z => by rw [z, upd_ne nfo, I.gf] at hl; cases hl
        refine for_list (K := K) (a := l) (xs := ns.map V.ref) (fun i σ G => ∃ (F2 A2 : List Cell) (v5 : Option V), 2 * (L.length - F2.length) + A2.length < 2 * (L.length - F.length) + (A' ++ [c]).length ∧ σ = [some (.ref d), some (.ref q), some (.ref fo), some (.ref ah), some (.ref qc), v5] ∧
          Fl H L c0 fo ah F2 A2 G ∧ c ∈ F2 ∧ G l = some (.lst (ns.map V.ref)) ∧ Paired (fun b x => At G b x) ns (nearC L c) ∧ (∀ x ∈ F2, x ∉ A2 → x ≠ c → ∀ y ∈ besideC x, y ∈ L → y ∈ F2) ∧ ∀ y ∈ (nearC L c).take i, y ∈ F2) ?_ ?_ ?_ ?_
        · refine ⟨F, A', v5, ?_, rfl, ⟨s1.trans s2, ?_, ⟨qs', ?_, ?_⟩, I.nd, I.cF, I.re, fun x hx => I.sub x (List.mem_append_left _ hx), ?_⟩, cF, el, pn, ?_, by simp⟩
          · rw [List.length_append]
            show _ < _ + (_ + 1)
            omega
          · refine s2 _ _ ?_
            rw [upd_ne nfo]
            exact I.gf
          · exact s2 _ _ upd_same
          · exact paired_imp (fun _ _ h => (offA h).same s2) pa'
          · have := I.len
            rw [List.length_append] at this
            omega
          · intro x hx nx nc
            refine cl x hx fun m => ?_
            rcases List.mem_append.mp m with m | m
            · exact nx m
            · exact nc (List.mem_singleton.mp m)
        · rintro i σ G hi ⟨F2, A2, v, _, _, _, _, e, _⟩
          exact SqL.of e
        · rintro i x σ G hi ⟨F2, A2, v, lt, rfl, J, c2, gl, pn2, cl2, tk⟩
          rw [List.getElem?_map] at hi
          obtain ⟨b, hb, rfl⟩ := Option.map_eq_some_iff.mp hi
          obtain ⟨y, hy, ay⟩ := paired_get pn2 hb
          have lF2 : F2.length ≤ L.length := len_le J.nd fun x hx => (J.re x hx).mem cL
          have yN : y ∈ nearC L c := List.mem_of_getElem? hy
          have yL : y ∈ L := of_decide_eq_true (List.mem_filter.mp yN).2
          have yB : y ∈ besideC c := (List.mem_filter.mp yN).1
          refine ⟨_, rfl, _, rfl, fo, _, rfl, dget_lot J.gf ay, _, rfl, ?_⟩
          rw [lot_is]
          refine ite2 (fun hc => ?_) (fun hc => ?_)
          · have nF : y ∉ F2 := by simpa using hc
            have lt2 : F2.length + 1 ≤ L.length := len_le (xs := y :: F2) (List.nodup_cons.mpr ⟨nF, J.nd⟩) fun x hx => (List.mem_cons.mp hx).elim (fun e => e ▸ yL) (fun h => (J.re x h).mem cL)
            obtain ⟨qs2, ea2, pa2⟩ := J.ga
            have lq : qs2.length = A2.length := Paired.length pa2
            refine ⟨_, rfl, _, rfl, fo, _, rfl, dput_lot J.gf ay nF (by rw [sizeLine_eq]; omega), ?_⟩
            have ea3 : upd G fo (.dT (lotK (F2 ++ [y]))) ah = some (.lst (qs2.map V.ref)) := by rw [upd_ne nah]; exact ea2
            have offF : ∀ {b : Addr} {x : Cell}, At G b x → At (upd G fo (.dT (lotK (F2 ++ [y])))) b x := fun h => h.off J.gf (by intro xs z; cases z)
            have offB : ∀ {b : Addr} {x : Cell}, At G b x → At (upd (upd G fo (.dT (lotK (F2 ++ [y])))) ah (.lst (qs2.map V.ref ++ [V.ref b]))) b x := fun h => (offF h).off ea3 (by intro xs z; cases z)
            refine ⟨_, rfl, .inl ⟨rfl, _, SqL.of ea3⟩, _, rfl, ah, _, _, rfl, rfl, ea3, by rw [List.length_map, sizeLine_eq]; have := J.len; omega, ?_⟩
            refine ⟨F2 ++ [y], A2 ++ [y], _, ?_, rfl, ⟨same_put (same_put J.same hfo) hah0, ?_, ⟨qs2 ++ [b], ?_, ?_⟩, ?_, List.mem_append_left _ J.cF, ?_, ?_, ?_⟩, List.mem_append_left _ c2, ?_, ?_, ?_, ?_⟩
            · rw [List.length_append, List.length_append]
              show 2 * (L.length - (F2.length + 1)) + (A2.length + 1) < _
              omega
            · rw [upd_ne nfo]
              exact upd_same
            · rw [upd_same, List.map_append]
              rfl
            · exact (paired_imp (fun _ _ h => (offF h).off ea3 (by intro xs z; cases z)) pa2).snoc (offB ay)
            · exact List.nodup_append.mpr ⟨J.nd, by simp, fun a ha b hb => by rw [List.mem_singleton.mp hb]; exact fun z => nF (z ▸ ha)⟩
            · intro x hx
              rcases List.mem_append.mp hx with h | h
              · exact J.re x h
              · rw [List.mem_singleton.mp h]
                exact (J.re c c2).step yB yL
            · intro x hx
              rcases List.mem_append.mp hx with h | h
              · exact List.mem_append_left _ (J.sub x h)
              · exact List.mem_append_right _ h
            · rw [List.length_append, List.length_append]
              exact Nat.succ_le_succ J.len
            · rw [upd_ne lah, upd_ne lfo]
              exact gl
            · exact paired_imp (fun _ _ h => (offF h).off ea3 (by intro xs z; cases z)) pn2
            · intro x hx nx nc z hz zL
              rcases List.mem_append.mp hx with h | h
              · exact List.mem_append_left _ (cl2 x h (fun m => nx (List.mem_append_left _ m)) nc z hz zL)
              · exact absurd (List.mem_append_right _ h) nx
            · intro z hz
              rw [take_snoc hy] at hz
              rcases List.mem_append.mp hz with h | h
              · exact List.mem_append_left _ (tk z h)
              · exact List.mem_append_right _ h
          · have yF : y ∈ F2 := by simpa using hc
            refine ⟨F2, A2, _, lt, rfl, J, c2, gl, pn2, cl2, fun z hz => ?_⟩
            rw [take_snoc hy] at hz
            rcases List.mem_append.mp hz with h | h
            · exact tk z h
            · rw [List.mem_singleton.mp h]
              exact yF
        · rintro σ G ⟨F2, A2, v, lt, rfl, J, c2, gl, pn2, cl2, tk⟩
          refine ⟨_, lt, F2, A2, _, _, rfl, rfl, J, fun x hx nx y hy yL => ?_⟩
          by_cases hxc : x = c
          · subst hxc
            refine tk y ?_
            have e : (ns.map V.ref).length = (nearC L x).length := by rw [List.length_map]; exact Paired.length pn2
            rw [e, List.take_length]
            exact List.mem_filter.mpr ⟨hy, decide_eq_true yL⟩
          · exact cl2 x hx nx hxc y hy yL
end
end Sq

set_option Elab.async false
set_option linter.all false
set_option maxRecDepth 100000
set_option maxHeartbeats 4000000
/-! Hanging together; what is near a move. -/
namespace Sq
open PySem PySem.Spec PyProof.Rows L2
def spHangs : Sp := fun vs H Q _ => ∃ (d : Addr) (L : List Cell), vs = [.ref d] ∧ H d = some (.dT (lotK L)) ∧ L.Nodup ∧ L.length ≤ 1000 ∧ ∀ H', Same H H' → Q (.bl (hangsB L)) H'
def turnsB (L : List Cell) (s e : Cell) : Bool := decide ((s.1, e.2) ∈ L) != decide ((e.1, s.2) ∈ L)
def sideB (L : List Cell) (s e d : Cell) : Bool := decide ((s.1 + d.1, s.2 + d.2) ∈ L) && decide ((e.1 + d.1, e.2 + d.2) ∈ L)
def slidesB (L : List Cell) (s e : Cell) : Bool := sideB L s e (e.2 - s.2, e.1 - s.1) || sideB L s e (-(e.2 - s.2), -(e.1 - s.1))
def spTurns : Sp := fun vs H Q _ => ∃ (d p q : Addr) (L : List Cell) (s e : Cell), vs = [.ref d, .ref p, .ref q] ∧ H d = some (.dT (lotK L)) ∧ At H p s ∧ At H q e ∧ ∀ H', Same H H' → Q (.bl (turnsB L s e)) H'
def spSlides (Ts : List Addr) : Sp := fun vs H Q _ => ∃ (d p q : Addr) (L : List Cell) (s e : Cell), vs = [.ref d, .ref p, .ref q] ∧ H d = some (.dT (lotK L)) ∧ At H p s ∧ At H q e ∧ TabsG Ts H ∧ ∀ H', KT Ts H H' → Q (.bl (slidesB L s e)) H'
section
variable {P : Program} {w : World} {K : PySem.W.Frag} {mg : Str → Option Value} {base : Heap}
theorem scHa : FnScope ["lot"] ["lot"] (defScope gHangs) := ⟨rfl, rfl, rfl, by decide +kernel, rfl, by decide +kernel, by decide +kernel⟩
theorem ok_hangs {f : Addr} {fd : FuncData} (F : FnP K "lot_hangs" gHangs f fd) (B : Bl mg) (DF : Df P w K mg base CX0 3 "flood" ["lot", "first"] spFlood) : FnOk P w K mg base CX0 4 f fd ["lot"] spHangs := by
  refine F.ok scHa (fun vs H Q E h => ?_) (fun cdv A outer s H vs Q E hr h => ?_)
  · obtain ⟨d, L, rfl, _⟩ := h
    rfl
  · obtain ⟨d, L, rfl, ed, nL, lL, k⟩ := h
    refine ⟨_, PSs.nox (pss_one (ps_ret (pe_and (pe_cmpR op_gt (pe_callB call_len_dT (by rfl) B.len PySem.boot_len (pa_cons (pv 0) pa_nil)) pe_int (nomark _)) (pe_one (pe_cmpR op_eq (pe_callB call_len_dT (by rfl) B.len PySem.boot_len (pa_cons (pe_df DF hr (by rfl) pass0 (pa_cons (pv 0) (pa_cons (pe_callB (cr_minC rfl (room2 hr)) (by rfl) B.min (by decide +kernel) (pa_cons (pv 0) pa_nil)) pa_nil))) pa_nil)) (pe_callB call_len_dT (by rfl) B.len PySem.boot_len (pa_cons (pv 0) pa_nil)) (nomark _)))))), ?_⟩
    refine ⟨_, rfl, d, _, rfl, ed, _, _, rfl, rfl, _, rfl, ?_⟩
    rw [lot_len]
    refine ite2 (fun hc => ?_) (fun hc => ?_)
    · have pos : 0 < L.length := by
        have := of_decide_eq_true hc
        omega
      have ne : L ≠ [] := fun z => by rw [z] at pos; exact absurd pos (by simp)
      refine ⟨_, rfl, _, rfl, d, _, L, rfl, ed, lot_keys L, ne, fun c q hc hmin aq => ?_⟩
      refine ⟨d, q, L, c, rfl, ed, nL, lL, aq, hc, fun e H' F s1 he eF nF hF => ?_⟩
      refine ⟨e, _, rfl, eF, _, rfl, d, _, rfl, s1 _ _ ed, rfl, ?_⟩
      have eq : decide ((V.int ((lotK F).length : Int)) = V.int ((lotK L).length : Int)) = hangsB L := hangsB_of (by
        rw [decide_eq_true_iff, lot_len, lot_len, V.int.injEq, ← hangs_len hc nL nF hF]
        omega)
      show Q (.bl (decide _)) H'
      rw [eq]
      exact k H' s1
    · have z : L = [] := by
        have := fun h => hc (decide_eq_true h)
        cases L with
        | nil => rfl
        | cons a l => exact absurd (by show ((a :: l).length : Int) > 0; simp <;> omega) this
      have e : false = hangsB L := hangsB_of ⟨fun h => absurd h (by simp), fun h => absurd z h.1⟩
      rw [e]
      exact k H same_refl
theorem scTu : FnScope ["lot", "start", "end"] ["lot", "start", "end"] (defScope gTurns) := ⟨rfl, rfl, rfl, by decide +kernel, rfl, by decide +kernel, by decide +kernel⟩
theorem ok_turns {f : Addr} {fd : FuncData} (F : FnP K "turns" gTurns f fd) : FnOk P w K mg base CX0 1 f fd ["lot", "start", "end"] spTurns := by
  refine F.ok scTu (fun vs H Q E h => ?_) (fun cdv A outer s H vs Q E hr h => ?_)
  · obtain ⟨d, p, q, L, a, b, rfl, _⟩ := h
    rfl
  · obtain ⟨d, p, q, L, a, b, rfl, ed, ap, aq, k⟩ := h
    have hu := hu_of hr
    refine ⟨_, PSs.nox (pss_one (ps_ret (pe_cmpR op_ne (pe_cmp (pc_din hu (pe_tup (pa_cons (pe_ix ix_tup (pv 1) pe_int (fun _ _ => rfl)) (pa_cons (pe_ix ix_tup (pv 2) pe_int (fun _ _ => rfl)) pa_nil))) (pv 0)) rfl) (pe_cmp (pc_din hu (pe_tup (pa_cons (pe_ix ix_tup (pv 2) pe_int (fun _ _ => rfl)) (pa_cons (pe_ix ix_tup (pv 1) pe_int (fun _ _ => rfl)) pa_nil))) (pv 0)) rfl) (nomark _)))), ?_⟩
    refine ⟨_, rfl, _, _, _, _, rfl, rfl, SqT.of ap, at0, _, rfl, _, _, _, _, rfl, rfl, SqT.of aq, at1, two_le, fun t1 h1 => ?_⟩
    have s1 := same_new (o := .tup [.int a.1, .int b.2]) h1
    refine ⟨_, rfl, d, _, rfl, dget_lot (c := (a.1, b.2)) (s1 _ _ ed) upd_same, ?_⟩
    refine ⟨_, rfl, _, _, _, _, rfl, rfl, SqT.of (s1 _ _ aq), at0, _, rfl, _, _, _, _, rfl, rfl, SqT.of (s1 _ _ ap), at1, two_le, fun t2 h2 => ?_⟩
    have s2 := same_new (o := .tup [.int b.1, .int a.2]) h2
    refine ⟨_, rfl, d, _, rfl, dget_lot (c := (b.1, a.2)) (s2 _ _ (s1 _ _ ed)) upd_same, rfl, ?_⟩
    have e := k _ (s1.trans s2)
    unfold turnsB at e
    rw [lot_is, lot_is]
    cases x : decide ((a.1, b.2) ∈ L) <;> cases y : decide ((b.1, a.2) ∈ L) <;> rw [x, y] at e <;> exact e
end
end Sq

set_option Elab.async false
set_option linter.all false
set_option maxRecDepth 100000
set_option maxHeartbeats 4000000
/-! slides: any of a generator expression. -/
namespace Sq
open PySem PySem.Spec PyProof.Rows L2
section
variable {P : Program} {w : World} {K : PySem.W.Frag} {mg : Str → Option Value} {base : Heap}
theorem scSl : FnScope ["lot", "start", "end", "across", "up", "sides", "side"] ["lot", "start", "end"] (defScope gSlides) := ⟨rfl, rfl, rfl, by decide +kernel, rfl, by decide +kernel, by decide +kernel⟩
theorem ok_slides {f c T : Addr} {Ts : List Addr} {fd : FuncData} (F : FunC K "slides" "slides" (defArgs gSlides) (defBody gSlides) (defScope gSlides) c f fd) (TB : GxR.TabB base mg c T) (mT : T ∈ Ts) (B : Bl mg) (DS : Df P w K mg base CX0 1 "shifted" ["cell", "by"] spShifted) :
    FnOk P w K mg base CX0 3 f fd ["lot", "start", "end"] (spSlides Ts) := by
  refine F.ok scSl (fun vs H Q E h => ?_) (fun A outer s H vs Q E hr h => ?_)
  · obtain ⟨d, p, q, L, a, b, rfl, _⟩ := h
    rfl
  · obtain ⟨d, p, q, L, a, b, rfl, ed, ap, aq, tg, k⟩ := h
    have hu := hu_of hr
    refine ⟨_, PSs.nox (pss_cons (ps_set (i := 3) scSl.nd rfl (.inl rfl) (pe_op op_sub (pe_ix ix_tup (pv 2) pe_int (fun _ _ => rfl)) (pe_ix ix_tup (pv 1) pe_int (fun _ _ => rfl))))
      (pss_cons (ps_set (i := 4) scSl.nd rfl (.inl rfl) (pe_op op_sub (pe_ix ix_tup (pv 2) pe_int (fun _ _ => rfl)) (pe_ix ix_tup (pv 1) pe_int (fun _ _ => rfl))))
      (pss_cons (ps_set (i := 5) scSl.nd rfl (.inl rfl) (pe_tup (pa_cons (pe_tup (pa_cons (pv 4) (pa_cons (pv 3) pa_nil))) (pa_cons (pe_tup (pa_cons (pe_un un_neg (pv 4)) (pa_cons (pe_un un_neg (pv 3)) pa_nil))) pa_nil))))
      (pss_one (ps_ret (pe_anyG (X := (cxOf CX0 P w K mg base ["lot", "start", "end", "across", "up", "sides", "side"] "slides" (defScope gSlides) f (.ref c) A outer s H E).nox) (own := [("side", 6)]) (g := gName 6) (tt := tYes) (k := 1) rfl hr scSl.nd TB rfl ⟨blkOk_by (N := ["lot", "start", "end", "across", "up", "sides", "side"]) (sc := defScope gSlides) (by decide +kernel), rfl, by decide +kernel, by decide +kernel⟩ (pi_tup (pv 5))
        (fun _ _ _ _ _ _ _ => pg_name (i := 6) scSl.nd rfl (Or.inl rfl)) (fun _ _ _ _ _ _ _ _ => pts_nil)
        (fun _ _ _ _ _ _ _ hr1 => pe_and (pe_cmp (pc_din (hu_of hr1) (pe_df DS hr1 (by rfl) pass0 (pa_cons (pv 1) (pa_cons (pv 6) pa_nil))) (pv 0)) rfl) (pe_one (pe_cmp (pc_din (hu_of hr1) (pe_df DS hr1 (by rfl) pass0 (pa_cons (pv 2) (pa_cons (pv 6) pa_nil))) (pv 0)) rfl)))
        (fun _ => rfl) (by rfl) B.any)))))), ?_⟩
    refine ⟨_, rfl, _, _, _, _, rfl, rfl, SqT.of aq, at0, _, rfl, _, _, _, _, rfl, rfl, SqT.of ap, at0, _, _, rfl, rfl, ?_⟩
    refine ⟨_, rfl, _, _, _, _, rfl, rfl, SqT.of aq, at1, _, rfl, _, _, _, _, rfl, rfl, SqT.of ap, at1, _, _, rfl, rfl, ?_⟩
    refine ⟨_, rfl, _, rfl, two_le, fun t1 h1 => ?_⟩
    refine ⟨_, rfl, _, rfl, _, rfl, _, rfl, two_le, fun t2 h2 => ?_⟩
    refine ⟨two_le, fun t3 h3 => ?_⟩
    have s1 := same_new (o := .tup [.int (b.2 - a.2), .int (b.1 - a.1)]) h1
    have s2 := same_new (o := .tup [.int (-(b.2 - a.2)), .int (-(b.1 - a.1))]) h2
    have s3 := same_new (o := .tup [.ref t1, .ref t2]) h3
    have sH := (s1.trans s2).trans s3
    have e3 := upd_same (H := upd (upd H t1 (.tup [.int (b.2 - a.2), .int (b.1 - a.1)])) t2 (.tup [.int (-(b.2 - a.2)), .int (-(b.1 - a.1))])) (a := t3) (o := .tup [.ref t1, .ref t2])
    have a1 : At (upd (upd (upd H t1 (.tup [.int (b.2 - a.2), .int (b.1 - a.1)])) t2 (.tup [.int (-(b.2 - a.2)), .int (-(b.1 - a.1))])) t3 (.tup [.ref t1, .ref t2])) t1 (b.2 - a.2, b.1 - a.1) := s3 _ _ (s2 _ _ upd_same)
    have a2 : At (upd (upd (upd H t1 (.tup [.int (b.2 - a.2), .int (b.1 - a.1)])) t2 (.tup [.int (-(b.2 - a.2)), .int (-(b.1 - a.1))])) t3 (.tup [.ref t1, .ref t2])) t2 (-(b.2 - a.2), -(b.1 - a.1)) := s3 _ _ upd_same
    have kH := KT.of tg sH
    generalize upd (upd (upd H t1 (.tup [.int (b.2 - a.2), .int (b.1 - a.1)])) t2 (.tup [.int (-(b.2 - a.2)), .int (-(b.1 - a.1))])) t3 (.tup [.ref t1, .ref t2]) = H1 at e3 a1 a2 kH sH ⊢
    refine ⟨_, rfl, t3, rfl, ⟨_, SqT.of e3⟩, kH.tb' T mT, fun H2 tb => ?_⟩
    have ds : ∃ dd : Nat → Cell, dd 0 = (b.2 - a.2, b.1 - a.1) ∧ dd 1 = (-(b.2 - a.2), -(b.1 - a.1)) ∧ ∀ i x, [V.ref t1, V.ref t2][i]? = some x → ∃ q, x = .ref q ∧ At H1 q (dd i) ∧ i < 2 := by
      refine ⟨fun i => if i = 0 then (b.2 - a.2, b.1 - a.1) else (-(b.2 - a.2), -(b.1 - a.1)), rfl, rfl, fun i x hx => ?_⟩
      match i, hx with
      | 0, hx => exact ⟨t1, (Option.some.inj hx).symm, a1, by decide⟩
      | 1, hx => exact ⟨t2, (Option.some.inj hx).symm, a2, by decide⟩
    obtain ⟨dd, d0, d1, dx⟩ := ds
    refine gen_it (walk_tup (K := K) (a := t3) (xs := [.ref t1, .ref t2])) (fun i G => KT Ts H1 G ∧ ∀ j, j < i → sideB L a b (dd j) = false) ⟨.tabbed kH.tb' mT tb, fun j h => absurd h (Nat.not_lt_zero j)⟩ (fun i G _ p => SqT.of (p.1.tup e3)) ?_ ?_
    · rintro i x G G' hi ⟨kp, no⟩ ⟨rfl, hx⟩
      obtain ⟨q2, rfl, aq2, lt⟩ := dx i x hx
      have get : ∀ {b : Addr} {o : HO}, H b = some o → (∀ ps, o ≠ .tbl ps) → G' b = some o := fun {b o} e n => kp.get (sH _ _ e) n
      refine ⟨rfl, yesT ⟨_, rfl, _, rfl, p, q2, a, dd i, rfl, get ap (fun _ z => nomatch z), kp.at aq2, fun n1 hn1 => ?_⟩⟩
      have sn1 := same_new (o := .tup (cV (a.1 + (dd i).1, a.2 + (dd i).2))) hn1
      refine ⟨_, rfl, d, _, rfl, dget_lot (c := (a.1 + (dd i).1, a.2 + (dd i).2)) (sn1 _ _ (get ed (fun _ z => nomatch z))) upd_same, _, rfl, ?_⟩
      rw [lot_is]
      have kpT := kp.same sn1
      refine ite2 (fun hc => ?_) (fun hc => ?_)
      · refine ⟨_, rfl, _, rfl, q, q2, b, dd i, rfl, sn1 _ _ (get aq (fun _ z => nomatch z)), sn1 _ _ (kp.at aq2), fun n2 hn2 => ?_⟩
        have sn2 := same_new (o := .tup (cV (b.1 + (dd i).1, b.2 + (dd i).2))) hn2
        refine ⟨_, rfl, d, _, rfl, dget_lot (c := (b.1 + (dd i).1, b.2 + (dd i).2)) (sn2 _ _ (sn1 _ _ (get ed (fun _ z => nomatch z)))) upd_same, _, rfl, ?_⟩
        rw [lot_is]
        have kp2 := kpT.same sn2
        refine ite2 (fun hc2 => ?_) (fun hc2 => ?_)
        · have e : sideB L a b (dd i) = true := by unfold sideB; rw [hc, hc2]; rfl
          have e2 : slidesB L a b = true := by
            unfold slidesB
            rw [← d0, ← d1]
            have : i = 0 ∨ i = 1 := by omega
            rcases this with rfl | rfl
            · rw [e]; rfl
            · rw [e, Bool.or_true]
          have fin := k _ (kH.trans kp2)
          rw [e2] at fin
          exact fin
        · refine ⟨kp2, fun j hj => ?_⟩
          rcases Nat.lt_succ_iff_lt_or_eq.mp hj with h | rfl
          · exact no j h
          · unfold sideB
            rw [Bool.eq_false_iff.mpr hc2, Bool.and_false]
      · refine ⟨_, rfl, ?_⟩
        refine ⟨kpT, fun j hj => ?_⟩
        rcases Nat.lt_succ_iff_lt_or_eq.mp hj with h | rfl
        · exact no j h
        · unfold sideB
          rw [Bool.eq_false_iff.mpr hc, Bool.false_and]
    · rintro G ⟨kp, no⟩
      have e2 : slidesB L a b = false := by
        unfold slidesB
        rw [← d0, ← d1, no 0 (Nat.zero_lt_succ _), no 1 (Nat.lt_succ_self 1)]
        rfl
      have fin := k _ (kH.trans kp)
      rw [e2] at fin
      exact fin
end
end Sq

set_option Elab.async false
set_option linter.all false
set_option maxRecDepth 100000
set_option maxHeartbeats 4000000
/-! What stays of values; the kind of a move. -/
namespace Sq
open PySem PySem.Spec PyProof.Rows L2
/-- all but tables and the dicts with plain keys (the pen) stays -/
def Ek (H H' : Hp) : Prop := ∀ b o, (∀ ps, o ≠ HO.tbl ps) → (∀ kvs, o ≠ HO.dK kvs) → H b = some o → H' b = some o
theorem Ek.refl {H : Hp} : Ek H H := fun _ _ _ _ e => e
theorem Ek.trans {H G I : Hp} (h : Ek H G) (k : Ek G I) : Ek H I := fun b o n m e => k b o n m (h b o n m e)
theorem Ek.of {H G : Hp} (h : Same H G) : Ek H G := fun b o _ _ e => h b o e
theorem KT.ek {Ts : List Addr} {H G : Hp} (h : KT Ts H G) : Ek H G := fun _ _ n _ e => h.get e n
theorem Ek.at {H G : Hp} {q : Addr} {c : Cell} (h : Ek H G) (e : At H q c) : At G q c := h _ _ (fun _ z => nomatch z) (fun _ z => nomatch z) e
theorem Ek.tup {H G : Hp} {q : Addr} {xs : List V} (h : Ek H G) (e : H q = some (.tup xs)) : G q = some (.tup xs) := h _ _ (fun _ z => nomatch z) (fun _ z => nomatch z) e
theorem Ek.lst {H G : Hp} {q : Addr} {xs : List V} (h : Ek H G) (e : H q = some (.lst xs)) : G q = some (.lst xs) := h _ _ (fun _ z => nomatch z) (fun _ z => nomatch z) e
theorem Ek.dT {H G : Hp} {q : Addr} {xs : List (List Key × V)} (h : Ek H G) (e : H q = some (.dT xs)) : G q = some (.dT xs) := h _ _ (fun _ z => nomatch z) (fun _ z => nomatch z) e
theorem Ek.cells {H G : Hp} {qs : List Addr} {cs : List Cell} (h : Ek H G) (e : Paired (fun q c => At H q c) qs cs) : Paired (fun q c => At G q c) qs cs := paired_imp (fun _ _ a => h.at a) e
theorem CellsT.ek {H G : Hp} {t : Addr} {cs : List Cell} (h : CellsT H t cs) (k : Ek H G) : CellsT G t cs := by
  obtain ⟨qs, e, r⟩ := h
  exact ⟨qs, k.tup e, k.cells r⟩
theorem CellsL.ek {H G : Hp} {t : Addr} {cs : List Cell} (h : CellsL H t cs) (k : Ek H G) : CellsL G t cs := by
  obtain ⟨qs, e, r⟩ := h
  exact ⟨qs, k.lst e, k.cells r⟩
theorem Kd.ek {K : PySem.W.Frag} {H G : Hp} {x : V} {T : String} (h : Kd K H x T) (k : Ek H G) : Kd K G x T := by
  have m := h.mem
  have t := h.ty
  refine ⟨?_, m⟩
  have nd : T ≠ "dict" := fun z => by rw [z] at m; exact absurd m (by decide)
  have ns : T ≠ "set" := fun z => by rw [z] at m; exact absurd m (by decide)
  generalize e : (Value.type T) = u at t
  cases t with
  | base b =>
    cases b with
    | non => exact .base .non
    | bl y => exact .base (.bl y)
    | int i => exact .base (.int i)
    | str y => exact .base (.str y)
    | flt y => exact .base (.flt y)
    | lst ea => exact .base (.lst (k.lst ea))
    | frz ea => exact .base (.frz (k _ _ (fun _ z => nomatch z) (fun _ z => nomatch z) ea))
    | tup ea => exact .base (.tup (k.tup ea))
    | dK ea => exact absurd (Value.type.inj e) nd
    | dT ea => exact absurd (Value.type.inj e) nd
    | ins _ _ _ _ _ _ => cases e
  | byt b => exact .byt b
  | set ea => exact absurd (Value.type.inj e) ns
  | kList ea c => exact .kList ea c
  | kTuple ea c => exact .kTuple ea c
  | kDict ea c => exact .kDict ea c
  | fTuple ea => exact .fTuple (k _ _ (fun _ z => nomatch z) (fun _ z => nomatch z) ea)
  | fDict ea => exact absurd (Value.type.inj e) nd
theorem CellQ.ek {K : PySem.W.Frag} {H G : Hp} {x : V} {b : Bool} (h : CellQ K H x b) (k : Ek H G) : CellQ K G x b := by
  cases h with
  | other kd n => exact .other (kd.ek k) n
  | len e n => exact .len (k.tup e) n
  | two e ky kz n => exact .two (k.tup e) (ky.ek k) (kz.ek k) n
  | cell e => exact .cell (k.at e)
/-- as call_abs says it -/
def absI (i : Int) : Int := if i < 0 then -i else i
/-- the kind by the cells around -/
def byPlace (L : List Cell) (s e : Cell) : V :=
  if decide (s ∈ L) = false ∨ decide (e ∈ L) = true then .non
  else if absI (e.1 - s.1) + absI (e.2 - s.2) = 1 then (if slidesB L s e = true then .str "slide" else .non)
  else if absI (e.1 - s.1) = 1 ∧ absI (e.2 - s.2) = 1 then (if turnsB L s e = true then .str "turn" else .non) else .non
noncomputable def kindV (L : List Cell) (s e : Cell) : V := if byPlace L s e = .non ∨ hangsB (without L s) = false then .non else byPlace L s e
def spByPlace (Ts : List Addr) : Sp := fun vs H Q _ => ∃ (d p q : Addr) (L : List Cell) (s e : Cell), vs = [.ref d, .ref p, .ref q] ∧ H d = some (.dT (lotK L)) ∧ At H p s ∧ At H q e ∧ TabsG Ts H ∧ ∀ H', KT Ts H H' → Q (byPlace L s e) H'
def spKindIn (Ts : List Addr) : Sp := fun vs H Q _ => ∃ (d p q : Addr) (L : List Cell) (s e : Cell), vs = [.ref d, .ref p, .ref q] ∧ H d = some (.dT (lotK L)) ∧ L.Nodup ∧ L.length ≤ 1000 ∧ Hangs L ∧ At H p s ∧ At H q e ∧ TabsG Ts H ∧ ∀ H', KT Ts H H' → Q (kindV L s e) H'
section
variable {P : Program} {w : World} {K : PySem.W.Frag} {mg : Str → Option Value} {base : Heap} {Ts : List Addr}
theorem scBy : FnScope ["lot", "start", "end", "across", "up"] ["lot", "start", "end"] (defScope gByPlace) := ⟨rfl, rfl, rfl, by decide +kernel, rfl, by decide +kernel, by decide +kernel⟩
theorem ok_byPlace {f : Addr} {fd : FuncData} (F : FnP K "kind_by_place" gByPlace f fd) (B : Bl mg) (Ds : Df P w K mg base CX0 3 "slides" ["lot", "start", "end"] (spSlides Ts)) (Dt : Df P w K mg base CX0 1 "turns" ["lot", "start", "end"] spTurns) : FnOk P w K mg base CX0 4 f fd ["lot", "start", "end"] (spByPlace Ts) := by
  refine F.ok scBy (fun vs H Q E h => ?_) (fun cdv A outer s H vs Q E hr h => ?_)
  · obtain ⟨d, p, q, L, a, b, rfl, _⟩ := h
    rfl
  · obtain ⟨d, p, q, L, a, b, rfl, ed, ap, aq, tg, k⟩ := h
    have hu := hu_of hr
    refine ⟨_, PSs.nox (pss_cons (ps_if (PW.pt (pw_or (pt_cmp (pc_dnotin hu (pv 1) (pv 0))) (pw_or1 (pt_cmp (pc_din hu (pv 2) (pv 0))))))
      (pss_one (ps_ret pe_non))
      pss_nil)
      (pss_cons (ps_set (i := 3) scBy.nd rfl (.inl rfl) (pe_callB call_abs (by rfl) B.abs (by decide +kernel) (pa_cons (pe_op op_sub (pe_ix ix_tup (pv 2) pe_int (fun _ _ => rfl)) (pe_ix ix_tup (pv 1) pe_int (fun _ _ => rfl))) pa_nil)))
      (pss_cons (ps_set (i := 4) scBy.nd rfl (.inl rfl) (pe_callB call_abs (by rfl) B.abs (by decide +kernel) (pa_cons (pe_op op_sub (pe_ix ix_tup (pv 2) pe_int (fun _ _ => rfl)) (pe_ix ix_tup (pv 1) pe_int (fun _ _ => rfl))) pa_nil)))
      (pss_cons (ps_if (pt_cmpR op_eq (pe_op op_add (pv 3) (pv 4)) pe_int (nomark _))
      (pss_one (ps_ret (pe_ifExp (pt_val (pe_df Ds hr (by rfl) pass0 (pa_cons (pv 0) (pa_cons (pv 1) (pa_cons (pv 2) pa_nil))))) pe_str pe_non)))
      pss_nil)
      (pss_cons (ps_if (PW.pt (pw_and (pt_cmpR op_eq (pv 3) pe_int (nomark _)) (pw_and1 (pt_cmpR op_eq (pv 4) pe_int (nomark _)))))
      (pss_one (ps_ret (pe_ifExp (pt_val (pe_df Dt hr (by rfl) pass0 (pa_cons (pv 0) (pa_cons (pv 1) (pa_cons (pv 2) pa_nil))))) pe_str pe_non)))
      pss_nil)
      (pss_one (ps_ret pe_non))))))), ?_⟩
    refine ⟨_, rfl, _, rfl, d, _, rfl, dget_lot ed ap, _, rfl, ?_⟩
    rw [lot_is]
    refine ite2 (fun hc => ?_) (fun hc => ?_)
    · have hc : decide (a ∈ L) = false := by simpa using hc
      have fin := k H (.refl tg)
      unfold byPlace at fin
      rw [if_pos (.inl hc)] at fin
      exact fin
    · have hc : decide (a ∈ L) = true := by simpa using hc
      refine ⟨_, rfl, _, rfl, d, _, rfl, dget_lot ed aq, _, rfl, ?_⟩
      rw [lot_is]
      refine ite2 (fun hc2 => ?_) (fun hc2 => ?_)
      · have fin := k H (.refl tg)
        unfold byPlace at fin
        rw [if_pos (.inr hc2)] at fin
        exact fin
      · have hno : ¬ (decide (a ∈ L) = false ∨ decide (b ∈ L) = true) := fun z => z.elim (fun y => by rw [hc] at y; cases y) hc2
        unfold byPlace at k
        rw [if_neg hno] at k
        refine ⟨_, rfl, _, _, _, _, rfl, rfl, SqT.of aq, at0, _, rfl, _, _, _, _, rfl, rfl, SqT.of ap, at0, _, _, rfl, rfl, _, rfl, ?_⟩
        refine ⟨_, rfl, _, _, _, _, rfl, rfl, SqT.of aq, at1, _, rfl, _, _, _, _, rfl, rfl, SqT.of ap, at1, _, _, rfl, rfl, _, rfl, ?_⟩
        refine ⟨_, rfl, _, rfl, _, _, rfl, rfl, rfl, _, rfl, ?_⟩
        refine ite2 (fun h1 => ?_) (fun h1 => ?_)
        · have h1 : absI (b.1 - a.1) + absI (b.2 - a.2) = 1 := V.int.inj (of_decide_eq_true h1)
          rw [if_pos h1] at k
          refine ⟨_, rfl, _, rfl, _, rfl, d, p, q, L, a, b, rfl, ed, ap, aq, tg, fun H' kt => ?_⟩
          have fin := k H' kt
          refine ⟨_, rfl, ite2 (fun hs => ?_) (fun hs => ?_)⟩
          · rw [if_pos hs] at fin
            exact fin
          · rw [if_neg hs] at fin
            exact fin
        · have h1 : ¬ absI (b.1 - a.1) + absI (b.2 - a.2) = 1 := fun z => h1 (decide_eq_true (congrArg V.int z))
          rw [if_neg h1] at k
          refine ⟨_, rfl, rfl, _, rfl, ?_⟩
          refine ite2 (fun h2 => ?_) (fun h2 => ?_)
          · have h2 : absI (b.1 - a.1) = 1 := V.int.inj (of_decide_eq_true h2)
            refine ⟨_, rfl, rfl, _, rfl, ?_⟩
            refine ite2 (fun h3 => ?_) (fun h3 => ?_)
            · have h3 : absI (b.2 - a.2) = 1 := V.int.inj (of_decide_eq_true h3)
              rw [if_pos ⟨h2, h3⟩] at k
              refine ⟨_, rfl, _, rfl, _, rfl, d, p, q, L, a, b, rfl, ed, ap, aq, fun H' s1 => ?_⟩
              have fin := k H' (.of tg s1)
              refine ⟨_, rfl, ite2 (fun hs => ?_) (fun hs => ?_)⟩
              · rw [if_pos hs] at fin
                exact fin
              · rw [if_neg hs] at fin
                exact fin
            · have h3 : ¬ (absI (b.1 - a.1) = 1 ∧ absI (b.2 - a.2) = 1) := fun z => h3 (decide_eq_true (congrArg V.int z.2))
              rw [if_neg h3] at k
              exact k H (.refl tg)
          · have h3 : ¬ (absI (b.1 - a.1) = 1 ∧ absI (b.2 - a.2) = 1) := fun z => h2 (decide_eq_true (congrArg V.int z.1))
            rw [if_neg h3] at k
            exact k H (.refl tg)
end
end Sq

set_option Elab.async false
set_option linter.all false
set_option maxRecDepth 100000
set_option maxHeartbeats 4000000
/-! Data stay where all but tables and the pen stays. -/
namespace Sq
open PySem PySem.Spec PyProof.Rows L2
section
variable {K : PySem.W.Frag} {H H' : Hp}
theorem Ek.rd (k : Ek H H') {l : Addr} {u : HO} (h1 : ∀ ps, u ≠ .tbl ps) (h2 : ∀ kvs, u ≠ .dK kvs) (h : Rd H l u) : Rd H' l u := by
  rcases h with h | ⟨o, h⟩
  · exact .inl (k l _ h1 h2 h)
  · exact .inr ⟨o, k l _ (fun _ z => nomatch z) (fun _ z => nomatch z) h⟩
theorem Ek.sqL (k : Ek H H') {l : Addr} {xs : List V} (h : SqL K H l xs) : SqL K H' l xs := h.elim (fun z => .inl (k.rd (fun _ q => nomatch q) (fun _ q => nomatch q) z)) .inr
theorem Ek.sqT (k : Ek H H') {l : Addr} {xs : List V} (h : SqT K H l xs) : SqT K H' l xs := h.elim (fun z => .inl (k.rd (fun _ q => nomatch q) (fun _ q => nomatch q) z)) .inr
mutual
theorem Ek.dp (k : Ek H H') : ∀ (d : PyData) (x : V), Dp K H x d → Dp K H' x d
  | .none, _, h => by
    cases h
    exact .non
  | .bool b, _, h => by
    cases h
    exact .bl b
  | .int i, _, h => by
    cases h
    exact .int i
  | .str s, _, h => by
    cases h
    exact .str s
  | .list ds, _, h => by
    cases h with
    | lst h1 h2 => exact .lst (k.sqL h1) (k.dps ds _ h2)
  | .tuple ds, _, h => by
    cases h with
    | tup h1 h2 => exact .tup (k.sqT h1) (k.dps ds _ h2)
  | .dict _, _, h => by cases h
theorem Ek.dps (k : Ek H H') : ∀ (ds : List PyData) (xs : List V), DpAll K H xs ds → DpAll K H' xs ds
  | [], _, h => by
    cases h
    exact .nil
  | d :: ds, _, h => by
    cases h with
    | cons h1 h2 => exact .cons (k.dp d _ h1) (k.dps ds _ h2)
end
/-- cells as data -/
theorem cells_dps : ∀ {qs : List Addr} {cs : List Cell}, Paired (fun q c => At H q c) qs cs → DpAll K H (qs.map V.ref) (cs.map cD)
  | _, _, .nil => .nil
  | _, _, .cons h t => .cons h.dp (cells_dps t)
theorem CellsT.dp {t : Addr} {cs : List Cell} (h : CellsT H t cs) : Dp K H (.ref t) (.tuple (cs.map cD)) := by
  obtain ⟨qs, e, pr⟩ := h
  exact .tup (SqT.of e) (cells_dps pr)
theorem CellsL.dp {t : Addr} {cs : List Cell} (h : CellsL H t cs) : Dp K H (.ref t) (.list (cs.map cD)) := by
  obtain ⟨qs, e, pr⟩ := h
  exact .lst (SqL.of e) (cells_dps pr)
end
end Sq

set_option Elab.async false
set_option linter.all false
set_option maxRecDepth 100000
set_option maxHeartbeats 4000000
/-! The links around a cell. -/
namespace Sq
open PySem PySem.Spec PyProof.Rows L2
structure CrossC (K : PySem.W.Frag) (mg : Str → Option Value) (a : Addr) (rs : List Addr) : Prop where
  g : mg "CROSSWISE" = some (.ref a)
  t : ∀ H, SqT K H a (rs.map V.ref)
  e : Paired (fun r d => ∀ H, SqT K H r (cV d)) rs crossL
def spLinks : Sp := fun vs H Q _ => ∃ (d q : Addr) (L : List Cell) (c : Cell), vs = [.ref d, .ref q] ∧ H d = some (.dT (lotK L)) ∧ At H q c ∧ ∀ H', Same H H' → Q (.int (linksN L c : Int)) H'
theorem links_snoc {L : List Cell} {c d : Cell} {i : Nat} (h : crossL[i]? = some d) : (((crossL.take (i + 1)).filter (linkB L c)).length : Int) = ((crossL.take i).filter (linkB L c)).length + (if linkB L c d = true then 1 else 0) := by
  rw [take_snoc h, List.filter_append, List.length_append]
  by_cases e : linkB L c d = true
  · rw [if_pos e]
    simp [List.filter_cons, e]
  · rw [if_neg e]
    simp [List.filter_cons, e]
section
variable {P : Program} {w : World} {K : PySem.W.Frag} {mg : Str → Option Value} {base : Heap}
theorem scLi : FnScope ["lot", "cell", "column", "row", "links", "across", "up", "crosswise"] ["lot", "cell"] (defScope gLinks) := ⟨rfl, rfl, rfl, by decide +kernel, rfl, by decide +kernel, by decide +kernel⟩
theorem ok_links {f sa : Addr} {srs : List Addr} {fd : FuncData} (F : FnP K "links_around" gLinks f fd) (ST : CrossC K mg sa srs) : FnOk P w K mg base CX0 1 f fd ["lot", "cell"] spLinks := by
  refine F.ok scLi (fun vs H Q E h => ?_) (fun cdv A outer s H vs Q E hr h => ?_)
  · obtain ⟨d, q, L, c, rfl, _⟩ := h
    rfl
  · obtain ⟨d, q, L, c, rfl, ed, aq, k⟩ := h
    have hu := hu_of hr
    refine ⟨_, PSs.nox (pss_cons (ps_asg (pv 1) (pg_tup (by rfl) (pgs_cons (pg_name (i := 2) scLi.nd rfl (.inl rfl)) (pgs_cons (pg_name (i := 3) scLi.nd rfl (.inl rfl)) pgs_nil))))
      (pss_cons (ps_set (i := 4) scLi.nd rfl (.inl rfl) pe_int)
      (pss_cons (ps_for PassesOwn.never rfl (pi_tup (pe_glob (v := .ref sa) (by rfl) ST.g rfl)) (pg_tup (by rfl) (pgs_cons (pg_name (i := 5) scLi.nd rfl (.inl rfl)) (pgs_cons (pg_name (i := 6) scLi.nd rfl (.inl rfl)) pgs_nil)))
      (pss_cons (ps_set (i := 7) scLi.nd rfl (.inl rfl) (pe_tup (pa_cons (pe_op op_add (pv 2) (pv 5)) (pa_cons (pe_op op_add (pv 3) (pv 6)) pa_nil))))
        (pss_one (ps_if (PW.pt (pw_and (pt_cmp (pc_din hu (pv 7) (pv 0))) (pw_and (pt_cmp (pc_din hu (pe_tup (pa_cons (pe_ix (ix_tupK (K := K) rfl) (pv 7) pe_int (fun _ _ => rfl)) (pa_cons (pv 3) pa_nil))) (pv 0))) (pw_and1 (pt_cmp (pc_din hu (pe_tup (pa_cons (pv 2) (pa_cons (pe_ix (ix_tupK (K := K) rfl) (pv 7) pe_int (fun _ _ => rfl)) pa_nil))) (pv 0)))))))
        (pss_one (ps_aug (i := 4) scLi.nd rfl (.inl rfl) pe_int ip_add))
        pss_nil))))
      (pss_one (ps_ret (pv 4)))))), ?_⟩
    refine ⟨_, rfl, q, _, rfl, SqT.of aq, rfl, _, _, rfl, _, _, rfl, rfl, ?_⟩
    refine ⟨sa, rfl, ⟨_, ST.t _⟩, ?_⟩
    refine for_tup (K := K) (a := sa) (xs := srs.map V.ref) (fun i σ G => ∃ (v5 v6 v7 : Option V), σ = [some (.ref d), some (.ref q), some (.int c.1), some (.int c.2), some (.int (((crossL.take i).filter (linkB L c)).length : Int)), v5, v6, v7] ∧ Same H G)
      ⟨none, none, none, rfl, same_refl⟩ (fun _ _ _ _ _ => ST.t _) ?_ ?_
    · rintro i x σ G hi ⟨v5, v6, v7, rfl, sm⟩
      rw [List.getElem?_map] at hi
      obtain ⟨r, hr2, rfl⟩ := Option.map_eq_some_iff.mp hi
      obtain ⟨e, he, ae⟩ := paired_get ST.e hr2
      refine ⟨r, _, rfl, ae _, rfl, _, _, rfl, _, _, rfl, rfl, ?_⟩
      refine ⟨_, rfl, _, rfl, _, _, rfl, rfl, _, rfl, _, rfl, _, _, rfl, rfl, two_le, fun t1 h1 => ?_⟩
      have s1 := same_new (o := .tup [.int (c.1 + e.1), .int (c.2 + e.2)]) h1
      have a1 : At (upd G t1 (.tup [.int (c.1 + e.1), .int (c.2 + e.2)])) t1 (c.1 + e.1, c.2 + e.2) := upd_same
      refine ⟨_, rfl, _, rfl, d, _, rfl, dget_lot (c := (c.1 + e.1, c.2 + e.2)) (s1 _ _ (sm _ _ ed)) a1, _, rfl, ?_⟩
      rw [lot_is]
      have sm1 := sm.trans s1
      have done : ∀ {G' : Hp}, Same H G' → linkB L c e = false → ∃ v5 v6 v7, [some (V.ref d), some (.ref q), some (.int c.1), some (.int c.2), some (.int (((crossL.take i).filter (linkB L c)).length : Int)), some (.int e.1), some (.int e.2), some (.ref t1)] = [some (.ref d), some (.ref q), some (.int c.1), some (.int c.2), some (.int (((crossL.take (i + 1)).filter (linkB L c)).length : Int)), v5, v6, v7] ∧ Same H G' := fun s l => by
        rw [links_snoc he, if_neg (by rw [l]; exact Bool.false_ne_true), Int.add_zero]
        exact ⟨_, _, _, rfl, s⟩
      refine ite2 (fun hc => ?_) (fun hc => ?_)
      · refine ⟨_, rfl, _, _, _, _, rfl, rfl, SqT.of a1, at0, _, rfl, two_le, fun t2 h2 => ?_⟩
        have s2 := same_new (o := .tup [.int (c.1 + e.1), .int c.2]) h2
        refine ⟨_, rfl, d, _, rfl, dget_lot (c := (c.1 + e.1, c.2)) (s2 _ _ (sm1 _ _ ed)) upd_same, _, rfl, ?_⟩
        rw [lot_is]
        have sm2 := sm1.trans s2
        refine ite2 (fun hc2 => ?_) (fun hc2 => ?_)
        · refine ⟨_, rfl, _, rfl, _, _, _, _, rfl, rfl, SqT.of (s2 _ _ a1), at1, two_le, fun t3 h3 => ?_⟩
          have s3 := same_new (o := .tup [.int c.1, .int (c.2 + e.2)]) h3
          refine ⟨_, rfl, d, _, rfl, dget_lot (c := (c.1, c.2 + e.2)) (s3 _ _ (sm2 _ _ ed)) upd_same, _, rfl, ?_⟩
          rw [lot_is]
          refine ite2 (fun hc3 => ?_) (fun hc3 => ?_)
          · refine ⟨_, rfl, _, _, rfl, rfl, ?_⟩
            have l : linkB L c e = true := by simp only [linkB, hc, hc2, hc3, Bool.and_self]
            refine ⟨some (.int e.1), some (.int e.2), some (.ref t1), ?_, sm2.trans s3⟩
            rw [links_snoc he, if_pos l]
            rfl
          · exact done (sm2.trans s3) (by simp only [linkB, Bool.eq_false_iff.mpr hc3, Bool.and_false])
        · exact done sm2 (by simp only [linkB, Bool.eq_false_iff.mpr hc2, Bool.and_false, Bool.false_and])
      · exact done sm1 (by simp only [linkB, Bool.eq_false_iff.mpr hc, Bool.false_and])
    · rintro σ G ⟨v5, v6, v7, rfl, sm⟩
      have ls : (srs.map V.ref).length = 4 := by rw [List.length_map, Paired.length ST.e]; rfl
      rw [ls]
      exact ⟨_, rfl, k G sm⟩
end
end Sq

set_option Elab.async false
set_option linter.all false
set_option maxRecDepth 100000
set_option maxHeartbeats 4000000
/-! Hanging together without a cell. -/
namespace Sq
open PySem PySem.Spec PyProof.Rows L2
/-- in, for a cell and a list of cells -/
def rInH : R2 := fun x y H Q => ∃ (p t : Addr) (c : Cell) (L : List Cell), x = .ref p ∧ y = .ref t ∧ At H p c ∧ CellsL H t L ∧ Q (.bl (decide (c ∈ L))) H
theorem any_cellH (c : Cell) : ∀ L : List Cell, (L.map cD).any (fun z => PyData.eqv z (cD c)) = decide (c ∈ L)
  | [] => by simp
  | d :: L => by
    rw [List.map_cons, List.any_cons, any_cellH c L, cD_eqv]
    by_cases h : d = c
    · subst h
      simp
    · have h' : ¬ c = d := fun z => h z.symm
      simp [h, h']
theorem lay_cellH (c : Cell) : Lay 1 (cD c) := lay_tuple fun d hd => by
  simp only [List.mem_cons, List.not_mem_nil, or_false] at hd
  rcases hd with rfl | rfl
  · exact lay_int _
  · exact lay_int _
theorem cells_canH (L : List Cell) : PyData.canLayAll0 (L.map cD) = true := (lay_all (n := 1) fun d hd => by
  obtain ⟨c, _, rfl⟩ := List.mem_map.mp hd
  exact lay_cellH c).1
theorem op_inH {X : Cx} (hu : X.A.units + 64 < cLine) : OpR X (compareOp .In) rInH := by
  rintro pins s σ H x y v u Q I rx ry ⟨p, t, c, L, rfl, rfl, ap, ct, q⟩
  obtain ⟨as, r1⟩ := Dp.reads I (cD c) _ v ap.dp rx
  obtain ⟨bs, r2⟩ := Dp.reads I (.list (L.map cD)) _ u ct.dp ry
  have l1 := lay_cellH c
  refine SeqAt.in_list_reads r2 r1 (cells_canH L) l1.1 ?_ ⟨.bl _, H, I, rfl, ?_⟩
  · have m : min (PyData.depthAll (L.map cD)) (cD c).depth ≤ 1 := Nat.le_trans (Nat.min_le_right _ _) l1.2
    omega
  · rw [any_cellH]
    exact q
/-- how many of N are not met -/
def missN (N F : List Cell) : Nat := (N.filter fun x => !decide (x ∈ F)).length
theorem miss_put {F : List Cell} {y : Cell} (h : y ∉ F) : ∀ {N : List Cell}, N.Nodup → missN N (F ++ [y]) + (if y ∈ N then 1 else 0) = missN N F
  | [], _ => rfl
  | x :: N, nN => by
    obtain ⟨nx, nN⟩ := List.nodup_cons.mp nN
    have ih := miss_put h nN
    unfold missN at ih ⊢
    rw [List.filter_cons, List.filter_cons]
    by_cases e : x = y
    · subst e
      rw [if_neg nx] at ih
      have a : (!decide (x ∈ F ++ [x])) = false := by simp
      have b : (!decide (x ∈ F)) = true := by simp [h]
      rw [a, b, if_pos (List.mem_cons_self ..), if_pos rfl, if_neg (by simp), List.length_cons]
      omega
    · have a : decide (x ∈ F ++ [y]) = decide (x ∈ F) := by simp [e]
      have b : (y ∈ x :: N) ↔ y ∈ N := by simp [Ne.symm e]
      rw [a]
      have c : (if y ∈ x :: N then 1 else 0) = (if y ∈ N then 1 else 0 : Nat) := by simp only [b]
      rw [c]
      by_cases g : x ∈ F
      · simpa [g] using ih
      · simp only [g, decide_false, Bool.not_false, if_true, List.length_cons]
        omega
theorem miss_zero {N F : List Cell} : missN N F = 0 ↔ ∀ x ∈ N, x ∈ F := by
  unfold missN
  rw [List.length_eq_zero_iff, List.filter_eq_nil_iff]
  simp
theorem beside_nodup (c : Cell) : (besideC c).Nodup := by
  obtain ⟨a, b⟩ := c
  simp [besideC]
  omega
theorem near_nodup {L : List Cell} (c : Cell) : (nearC L c).Nodup := (beside_nodup c).sublist List.filter_sublist
structure Hw (H : Hp) (L : List Cell) (c a : Cell) (fo ah : Addr) (F A : List Cell) (G : Hp) : Prop where
  same : Same H G
  gf : G fo = some (.dT (lotK F))
  ga : CellsL G ah A
  nd : F.Nodup
  cF : c ∈ F
  aF : a ∈ F
  re : ∀ x ∈ F, x = c ∨ Reach (but L c) a x
  sub : ∀ x ∈ A, x ∈ F ∧ x ≠ c
  len : A.length ≤ F.length
def HwW (H : Hp) (L : List Cell) (c a : Cell) (d q ar fo ah : Addr) (m : Nat) (σ : L2.St) (G : Hp) : Prop := ∃ (F A : List Cell) (v6 v7 : Option V), m = 2 * (L.length - F.length) + A.length ∧ σ = [some (.ref d), some (.ref q), some (.ref ar), some (.ref fo), some (.ref ah), some (.int (missN (nearC L c) F : Int)), v6, v7] ∧ Hw H L c a fo ah F A G ∧
      ∀ x ∈ F, x ∉ A → x ≠ c → ∀ y ∈ besideC x, y ∈ L → y ∈ F
theorem one_lt : (1 : Nat) < sizeLine := by rw [sizeLine_eq]; decide
theorem one_le : (1 : Nat) ≤ sizeLine := by rw [sizeLine_eq]; decide
def spHangsW : Sp := fun vs H Q _ => ∃ (d q : Addr) (L : List Cell) (c : Cell), vs = [.ref d, .ref q] ∧ H d = some (.dT (lotK L)) ∧ L.Nodup ∧ L.length ≤ 1000 ∧ Hangs L ∧ c ∈ L ∧ At H q c ∧ ∀ H', Same H H' → Q (.bl (hangsB (without L c))) H'
theorem hangs_decide {L : List Cell} {p : Prop} [Decidable p] (h : p ↔ Hangs L) : (decide p) = hangsB L := hangsB_of (by rw [decide_eq_true_iff]; exact h)
section
variable {P : Program} {w : World} {K : PySem.W.Frag} {mg : Str → Option Value} {base : Heap}
theorem scHw : FnScope ["lot", "cell", "around", "found", "ahead", "missing", "place", "near"] ["lot", "cell"] (defScope gHangsW) := ⟨rfl, rfl, rfl, by decide +kernel, rfl, by decide +kernel, by decide +kernel⟩
theorem ok_hangsW {f : Addr} {fd : FuncData} (F : FnP K "hangs_without" gHangsW f fd) (B : Bl mg) (DN : Df P w K mg base CX0 2 "near_in" ["lot", "cell"] spNear) (DL : Df P w K mg base CX0 1 "links_around" ["lot", "cell"] spLinks) : FnOk P w K mg base CX0 3 f fd ["lot", "cell"] spHangsW := by
  refine F.ok scHw (fun vs H Q E h => ?_) (fun cdv A outer s H vs Q E hr h => ?_)
  · obtain ⟨d, q, L, c, rfl, _⟩ := h
    rfl
  · obtain ⟨d, q, L, c, rfl, ed, nL, lL, hang, cL, aq, k⟩ := h
    have hu := hu_of hr
    have h64 := room64 hr
    refine ⟨_, PSs.nox (pss_cons (ps_set (i := 2) scHw.nd rfl (.inl rfl) (pe_df DN hr (by rfl) pass0 (pa_cons (pv 0) (pa_cons (pv 1) pa_nil))))
      (pss_cons (ps_if (PW.pt (pw_or (pt_cmpR op_lt (pe_callB call_len_seq (by rfl) B.len PySem.boot_len (pa_cons (pv 2) pa_nil)) pe_int (nomark _)) (pw_or1 (pt_cmpR op_ge (pe_df DL hr (by rfl) pass0 (pa_cons (pv 0) (pa_cons (pv 1) pa_nil))) (pe_op op_sub (pe_callB call_len_seq (by rfl) B.len PySem.boot_len (pa_cons (pv 2) pa_nil)) pe_int) (nomark _)))))
      (pss_one (ps_ret (pe_cmpR op_gt (pe_callB call_len_seq (by rfl) B.len PySem.boot_len (pa_cons (pv 2) pa_nil)) pe_int (nomark _))))
      pss_nil)
      (pss_cons (ps_set (i := 3) scHw.nd rfl (.inl rfl) (pe_disp2 (.inr rfl) hu (pv 1) pe_bl (pe_ix (ix_listK (K := K) rfl) (pv 2) pe_int (fun _ _ => rfl)) pe_bl))
      (pss_cons (ps_set (i := 4) scHw.nd rfl (.inl rfl) (pe_lst (pa_cons (pe_ix (ix_listK (K := K) rfl) (pv 2) pe_int (fun _ _ => rfl)) pa_nil)))
      (pss_cons (ps_set (i := 5) scHw.nd rfl (.inl rfl) (pe_op op_sub (pe_callB call_len_seq (by rfl) B.len PySem.boot_len (pa_cons (pv 2) pa_nil)) pe_int))
      (pss_cons (ps_while PassesOwn.never (PW.pt (pw_and (pt_truth (pv 4) (by intro _; rfl)) (pw_and1 (pt_cmpR op_gt (pv 5) pe_int (nomark _)))))
      (pss_cons (ps_set (i := 6) scHw.nd rfl (.inl rfl) (pe_bm0 PySem.F.plainAttrs_list PySem.F.slot_list_pop PySem.F.type_list_pop mt_pop (pv 4)))
        (pss_one (ps_for PassesOwn.never rfl (pi_list (pe_df DN hr (by rfl) pass0 (pa_cons (pv 0) (pa_cons (pv 6) pa_nil)))) (pg_name (i := 7) scHw.nd rfl (.inl rfl))
        (pss_one (ps_if (pt_cmp (pc_dnotin hu (pv 7) (pv 3)))
          (pss_cons (ps_dput hu (pv 3) (pv 7) pe_bl rfl)
            (pss_cons (ps_expr (pe_bm PySem.F.plainAttrs_list PySem.F.slot_list_append PySem.F.type_list_append mt_append (pv 4) (pa_cons (pv 7) pa_nil)))
            (pss_one (ps_if (pt_cmpR (op_inH h64) (pv 7) (pv 2) (by rfl))
            (pss_one (ps_aug (i := 5) scHw.nd rfl (.inl rfl) pe_int ip_sub))
            pss_nil))))
          pss_nil))))))
      (pss_one (ps_ret (pe_cmpR op_eq (pv 5) pe_int (nomark _)))))))))), ?_⟩
    refine ⟨_, rfl, _, rfl, d, q, L, c, rfl, ed, aq, fun ar H1 s1 har clr => ?_⟩
    obtain ⟨ns0, ear, prr⟩ := id clr
    have lns : ns0.length = (nearC L c).length := Paired.length prr
    have l4 : (nearC L c).length ≤ 4 := Nat.le_trans (List.length_filter_le ..) (Nat.le_refl 4)
    have mem2 : ∀ {x : Cell}, x ∈ nearC L c → x ∈ besideC c ∧ x ∈ L := fun h => ⟨(List.mem_filter.mp h).1, of_decide_eq_true (List.mem_filter.mp h).2⟩
    refine ⟨_, rfl, ar, _, rfl, .inl (SqL.of ear), _, _, rfl, rfl, _, rfl, ?_⟩
    rw [List.length_map, lns]
    -- both returns that come early
    have early : ∀ G, Same H G → (nearC L c).length < 2 ∨ (nearC L c).length ≤ linksN L c + 1 → Q (.bl (decide ((0 : Int) < ((nearC L c).length : Int)))) G := fun G sm h => by
      have e : decide ((0 : Int) < ((nearC L c).length : Int)) = hangsB (without L c) := hangs_decide (by
        by_cases z : nearC L c = []
        · exact ⟨fun h => absurd h (by rw [z]; simp), fun h => absurd h (none_hangs hang cL z)⟩
        · have pos : 0 < (nearC L c).length := List.length_pos_iff.mpr z
          refine ⟨fun _ => ?_, fun _ => by omega⟩
          by_cases one : (nearC L c).length = 1
          · obtain ⟨x, hx⟩ := List.length_eq_one_iff.mp one
            exact one_hangs hang cL hx
          · exact links_hangs hang cL (by show 2 ≤ (nearC L c).length; omega) (by show (nearC L c).length ≤ _; omega))
      rw [e]
      exact k G sm
    refine ite2 (fun hc => ?_) (fun hc => ?_)
    · have hc : ((nearC L c).length : Int) < 2 := of_decide_eq_true hc
      refine ⟨_, rfl, ar, _, rfl, .inl (SqL.of ear), _, _, rfl, rfl, ?_⟩
      rw [List.length_map, lns]
      exact early H1 s1 (.inl (by omega))
    have hc : ¬ (((nearC L c).length : Int) < 2) := fun h => hc (decide_eq_true h)
    refine ⟨_, rfl, _, rfl, d, q, L, c, rfl, s1 _ _ ed, s1 _ _ aq, fun H2 s2 => ?_⟩
    have ear2 := s2 _ _ ear
    refine ⟨_, rfl, ar, _, rfl, .inl (SqL.of ear2), _, _, rfl, rfl, _, _, rfl, rfl, _, rfl, ?_⟩
    rw [List.length_map, lns]
    have s12 := s1.trans s2
    refine ite2 (fun hc2 => ?_) (fun hc2 => ?_)
    · have hc2 : ((nearC L c).length : Int) - 1 ≤ (linksN L c : Int) := of_decide_eq_true hc2
      refine ⟨_, rfl, ar, _, rfl, .inl (SqL.of ear2), _, _, rfl, rfl, ?_⟩
      rw [List.length_map, lns]
      exact early H2 s12 (.inr (by omega))
    clear hc2 early
    obtain ⟨a, N', eN⟩ : ∃ a N', nearC L c = a :: N' := by
      cases e : nearC L c with
      | nil => rw [e] at hc; exact absurd (by decide) hc
      | cons a t => exact ⟨a, t, rfl⟩
    obtain ⟨qa, ns', ens⟩ : ∃ qa ns', ns0 = qa :: ns' := by
      cases e : ns0 with
      | nil => rw [e, eN] at lns; simp at lns
      | cons a t => exact ⟨a, t, rfl⟩
    have aN : a ∈ nearC L c := by rw [eN]; exact List.mem_cons_self ..
    obtain ⟨aB, aL⟩ := mem2 aN
    have ac : a ≠ c := beside_ne aB
    have aa : At H1 qa a := by
      rw [ens, eN] at prr
      cases prr with
      | cons h _ => exact h
    intro fo hfo
    have s3 := same_new (o := .dT []) hfo
    have aq3 := s3 _ _ (s12 _ _ aq)
    have aa3 : At (upd H2 fo (.dT [])) qa a := s3 _ _ (s2 _ _ aa)
    subst ens
    have e5 : (upd H2 fo (.dT [])) fo = some (.dT (lotK [])) := upd_same
    refine ⟨_, rfl, _, rfl, _, _, _, _, rfl, rfl, SqL.of (s3 _ _ ear2), at0, _, _, dput_lot (L := []) e5 aq3 (by simp) (by rw [sizeLine_eq]; decide), dput_lot (L := [c]) (c := a) upd_same ?_ (by simp [ac]) one_lt, ?_⟩
    · exact aa3.off upd_same (by intro xs z; cases z)
    rw [upd_upd, upd_upd]
    have s4 := same_new (o := .dT (lotK ([c] ++ [a]))) hfo
    have ear4 := s4 _ _ ear2
    refine ⟨_, rfl, _, _, _, _, rfl, rfl, SqL.of ear4, at0, one_le, fun ah hah => ?_⟩
    have nah : ah ≠ fo := fun z => by rw [z, upd_same] at hah; cases hah
    have hah2 : H2 ah = none := by rw [upd_ne nah] at hah; exact hah
    have s5 := same_new (o := .lst [.ref qa]) hah
    have ear5 := s5 _ _ ear4
    refine ⟨_, rfl, ar, _, rfl, .inl (SqL.of ear5), _, _, rfl, rfl, ?_⟩
    have m0 : ((((qa :: ns').map V.ref).length : Int) - 1) = (missN (nearC L c) ([c] ++ [a]) : Int) := by
      have e1 := miss_put (F := [c]) (y := a) (by simp [ac]) (near_nodup (L := L) c)
      have e0 : missN (nearC L c) [c] = (nearC L c).length := by
        unfold missN
        rw [List.filter_eq_self.mpr]
        intro x hx
        simp [beside_ne (mem2 hx).1]
      rw [if_pos aN, e0] at e1
      rw [List.length_map, lns]
      omega
    have k2 : ∀ H', Same H2 H' → Q (.bl (hangsB (without L c))) H' := fun H' s => k H' (s12.trans s)
    have ed2 := s12 _ _ ed
    have prr2 : Paired (fun q c => At H2 q c) (qa :: ns') (nearC L c) := paired_imp (fun _ _ h => At.same h s2) prr
    have clr2 : CellsL H2 ar (nearC L c) := ⟨_, ear2, prr2⟩
    refine ⟨HwW H2 L c a d q ar fo ah, ⟨_, [c] ++ [a], [a], none, none, rfl, congrArg (fun z : Int => [some (V.ref d), some (V.ref q), some (V.ref ar), some (V.ref fo), some (V.ref ah), some (V.int z), none, none]) m0, ⟨?_, ?_, ?_, ?_, by simp, by simp, ?_, ?_, by simp⟩, ?_⟩, ?_⟩
    · exact s4.trans s5
    · rw [upd_ne (Ne.symm nah)]
      exact upd_same
    · exact ⟨[qa], upd_same, .cons (s5 _ _ (s4 _ _ (s2 _ _ aa))) .nil⟩
    · simp [Ne.symm ac]
    · intro x hx
      simp only [List.cons_append, List.nil_append, List.mem_cons, List.not_mem_nil, or_false] at hx
      rcases hx with rfl | rfl
      · exact .inl rfl
      · exact .inr .refl
    · intro x hx
      rw [List.mem_singleton.mp hx]
      exact ⟨by simp, ac⟩
    · intro x hx nx xc
      simp only [List.cons_append, List.nil_append, List.mem_cons, List.not_mem_nil, or_false] at hx
      rcases hx with rfl | rfl
      · exact absurd rfl xc
      · exact absurd (List.mem_singleton.mpr rfl) nx
    · rintro m σ G ⟨F, A, v6, v7, rfl, rfl, I, cl⟩
      obtain ⟨qs, ea, pa⟩ := I.ga
      -- the end
      have fin : (A = [] ∨ missN (nearC L c) F = 0) → Q (.bl (decide (V.int (missN (nearC L c) F : Int) = V.int 0))) G := fun h => by
        have e : decide (V.int (missN (nearC L c) F : Int) = V.int 0) = hangsB (without L c) := hangs_decide (by
          have e1 : (V.int (missN (nearC L c) F : Int) = V.int 0) ↔ ∀ x ∈ nearC L c, x ∈ F := by
            rw [V.int.injEq, ← miss_zero]
            omega
          rw [e1]
          show _ ↔ Hangs (but L c)
          rw [rest_hangs hang cL aL aB]
          constructor
          · intro h x xL xb
            have xF := h x (List.mem_filter.mpr ⟨xb, decide_eq_true xL⟩)
            exact (I.re x xF).elim (fun e => absurd e (beside_ne xb)) id
          · intro h2 x xN
            rcases h with rfl | h
            · have fr := flood_rest I.re I.aF ac (fun x hx xc => cl x hx (by simp) xc)
              exact (fr x (beside_ne (mem2 xN).1)).mpr (h2 x (mem2 xN).2 (mem2 xN).1)
            · exact miss_zero.mp h x xN)
        rw [e]
        exact k2 G I.same
      refine ⟨_, rfl, _, .inl ⟨_, SqL.of ea, rfl⟩, ?_⟩
      by_cases hA : A = []
      · subst hA
        cases pa
        exact ⟨_, rfl, rfl, fin (.inl rfl)⟩
      obtain ⟨A', p, eA⟩ := snoc_inv (xs := A) hA
      have ne : qs ≠ [] := fun z => by rw [z, eA] at pa; have l := Paired.length pa; simp at l
      obtain ⟨qs', qc, eq⟩ := snoc_inv ne
      subst eA eq
      obtain ⟨pa', ap⟩ := paired_unsnoc pa
      have isE : (List.map V.ref (qs' ++ [qc])).isEmpty = false := by simp
      rw [isE]
      refine ⟨_, rfl, _, _, rfl, rfl, _, rfl, ?_⟩
      refine ite2 (fun hm => ?_) (fun hm => ?_)
      rotate_left
      · have hm : ¬ ((0 : Int) < (missN (nearC L c) F : Int)) := fun z => hm (decide_eq_true z)
        exact ⟨_, rfl, rfl, fin (.inr (by omega))⟩
      clear hm fin
      refine ⟨fun σ' G' => ∃ m', m' < 2 * (L.length - F.length) + (A' ++ [p]).length ∧ HwW H2 L c a d q ar fo ah m' σ' G', fun _ _ h => h, ?_⟩
      obtain ⟨pF, pc⟩ := I.sub p (by simp)
      have FL : ∀ {F2 : List Cell}, (∀ x ∈ F2, x = c ∨ Reach (but L c) a x) → ∀ x ∈ F2, x ∈ L := fun h x hx => (h x hx).elim (fun e => e ▸ cL) fun r => (mem_but.mp (r.mem (mem_but.mpr ⟨aL, ac⟩))).1
      have pLm : p ∈ L := FL I.re p pF
      have lenF : F.length ≤ L.length := len_le I.nd (FL I.re)
      refine ⟨_, rfl, .inl ⟨rfl, _, SqL.of ea⟩, ah, _, .ref qc, rfl, rfl, ea, by simp, ?_⟩
      have drop : (List.map V.ref (qs' ++ [qc])).dropLast = qs'.map V.ref := by simp
      rw [drop]
      have nfo : fo ≠ ah := Ne.symm nah
      have s6 : Same H2 (upd G ah (.lst (qs'.map V.ref))) := same_put I.same hah2
      have offA : ∀ {b : Addr} {x : Cell}, At G b x → At (upd G ah (.lst (qs'.map V.ref))) b x := fun h => h.off ea (by intro xs z; cases z)
      refine ⟨_, rfl, _, rfl, d, qc, L, p, rfl, s6 _ _ ed2, offA ap, fun l G2 s7 hl ⟨ns, el, pn⟩ => ?_⟩
      refine ⟨l, rfl, ⟨_, SqL.of el⟩, ?_⟩
      have lah : l ≠ ah := fun z => by rw [z, upd_same] at hl; cases hl
      have lfo : l ≠ fo := fun z => by rw [z, upd_ne nfo, I.gf] at hl; cases hl
      refine for_list (K := K) (a := l) (xs := ns.map V.ref) (fun i σ G => ∃ (F2 A2 : List Cell) (v7 : Option V), 2 * (L.length - F2.length) + A2.length < 2 * (L.length - F.length) + (A' ++ [p]).length ∧ σ = [some (.ref d), some (.ref q), some (.ref ar), some (.ref fo), some (.ref ah), some (.int (missN (nearC L c) F2 : Int)), some (.ref qc), v7] ∧
        Hw H2 L c a fo ah F2 A2 G ∧ p ∈ F2 ∧ G l = some (.lst (ns.map V.ref)) ∧ Paired (fun b x => At G b x) ns (nearC L p) ∧ (∀ x ∈ F2, x ∉ A2 → x ≠ c → x ≠ p → ∀ y ∈ besideC x, y ∈ L → y ∈ F2) ∧ ∀ y ∈ (nearC L p).take i, y ∈ F2) ?_ ?_ ?_ ?_
      · refine ⟨F, A', v7, ?_, rfl, ⟨s6.trans s7, ?_, ⟨qs', ?_, ?_⟩, I.nd, I.cF, I.aF, I.re, fun x hx => I.sub x (List.mem_append_left _ hx), ?_⟩, pF, el, pn, ?_, by simp⟩
        · rw [List.length_append]
          show _ < _ + (_ + 1)
          omega
        · refine s7 _ _ ?_
          rw [upd_ne nfo]
          exact I.gf
        · exact s7 _ _ upd_same
        · exact paired_imp (fun _ _ h => (offA h).same s7) pa'
        · have := I.len
          rw [List.length_append] at this
          omega
        · intro x hx nx xc np
          refine cl x hx (fun m => ?_) xc
          rcases List.mem_append.mp m with m | m
          · exact nx m
          · exact np (List.mem_singleton.mp m)
      · rintro i σ G hi ⟨F2, A2, v, _, _, _, _, e, _⟩
        exact SqL.of e
      · rintro i x σ G hi ⟨F2, A2, v, lt, rfl, J, p2, gl, pn2, cl2, tk⟩
        rw [List.getElem?_map] at hi
        obtain ⟨b, hb, rfl⟩ := Option.map_eq_some_iff.mp hi
        obtain ⟨y, hy, ay⟩ := paired_get pn2 hb
        have lF2 : F2.length ≤ L.length := len_le J.nd (FL J.re)
        have yN : y ∈ nearC L p := List.mem_of_getElem? hy
        have yL : y ∈ L := of_decide_eq_true (List.mem_filter.mp yN).2
        have yB : y ∈ besideC p := (List.mem_filter.mp yN).1
        refine ⟨_, rfl, _, rfl, fo, _, rfl, dget_lot J.gf ay, _, rfl, ?_⟩
        rw [lot_is]
        refine ite2 (fun hc => ?_) (fun hc => ?_)
        · have nF : y ∉ F2 := by simpa using hc
          have yc : y ≠ c := fun z => nF (z ▸ J.cF)
          have lt2 : F2.length + 1 ≤ L.length := len_le (xs := y :: F2) (List.nodup_cons.mpr ⟨nF, J.nd⟩) fun x hx => (List.mem_cons.mp hx).elim (fun e => e ▸ yL) (FL J.re x)
          obtain ⟨qs2, ea2, pa2⟩ := J.ga
          have lq : qs2.length = A2.length := Paired.length pa2
          refine ⟨_, rfl, _, rfl, fo, _, rfl, dput_lot J.gf ay nF (by rw [sizeLine_eq]; omega), ?_⟩
          have ea3 : upd G fo (.dT (lotK (F2 ++ [y]))) ah = some (.lst (qs2.map V.ref)) := by rw [upd_ne nah]; exact ea2
          have offF : ∀ {b : Addr} {x : Cell}, At G b x → At (upd G fo (.dT (lotK (F2 ++ [y])))) b x := fun h => h.off J.gf (by intro xs z; cases z)
          have offB : ∀ {b : Addr} {x : Cell}, At G b x → At (upd (upd G fo (.dT (lotK (F2 ++ [y])))) ah (.lst (qs2.map V.ref ++ [V.ref b]))) b x := fun h => (offF h).off ea3 (by intro xs z; cases z)
          refine ⟨_, rfl, .inl ⟨rfl, _, SqL.of ea3⟩, _, rfl, ah, _, _, rfl, rfl, ea3, by rw [List.length_map, sizeLine_eq]; have := J.len; omega, ?_⟩
          have sJ : Same H2 (upd (upd G fo (.dT (lotK (F2 ++ [y])))) ah (.lst (qs2.map V.ref ++ [V.ref b]))) := same_put (same_put J.same hfo) hah2
          refine ⟨_, rfl, _, rfl, b, ar, y, nearC L c, rfl, rfl, offB ay, clr2.ek (.of sJ), _, rfl, ?_⟩
          have rest : ∃ (F3 A3 : List Cell), 2 * (L.length - F3.length) + A3.length < 2 * (L.length - F.length) + (A' ++ [p]).length ∧ F3 = F2 ++ [y] ∧ Hw H2 L c a fo ah F3 A3 (upd (upd G fo (.dT (lotK (F2 ++ [y])))) ah (.lst (qs2.map V.ref ++ [V.ref b]))) ∧ p ∈ F3 ∧ upd (upd G fo (.dT (lotK (F2 ++ [y])))) ah (.lst (qs2.map V.ref ++ [V.ref b])) l = some (.lst (ns.map V.ref)) ∧
              Paired (fun b' x => At (upd (upd G fo (.dT (lotK (F2 ++ [y])))) ah (.lst (qs2.map V.ref ++ [V.ref b]))) b' x) ns (nearC L p) ∧ (∀ x ∈ F3, x ∉ A3 → x ≠ c → x ≠ p → ∀ y ∈ besideC x, y ∈ L → y ∈ F3) ∧ ∀ z ∈ (nearC L p).take (i + 1), z ∈ F3 := by
            refine ⟨F2 ++ [y], A2 ++ [y], ?_, rfl, ⟨sJ, ?_, ⟨qs2 ++ [b], ?_, ?_⟩, ?_, List.mem_append_left _ J.cF, List.mem_append_left _ J.aF, ?_, ?_, ?_⟩, List.mem_append_left _ p2, ?_, ?_, ?_, ?_⟩
            · rw [List.length_append, List.length_append]
              show 2 * (L.length - (F2.length + 1)) + (A2.length + 1) < _
              omega
            · rw [upd_ne nfo]
              exact upd_same
            · rw [upd_same, List.map_append]
              rfl
            · exact (paired_imp (fun _ _ h => (offF h).off ea3 (by intro xs z; cases z)) pa2).snoc (offB ay)
            · exact List.nodup_append.mpr ⟨J.nd, by simp, fun a ha b hb => by rw [List.mem_singleton.mp hb]; exact fun z => nF (z ▸ ha)⟩
            · intro x hx
              rcases List.mem_append.mp hx with h | h
              · exact J.re x h
              · rw [List.mem_singleton.mp h]
                refine .inr ?_
                rcases J.re p p2 with e | r
                · exact absurd e pc
                · exact r.step yB (mem_but.mpr ⟨yL, yc⟩)
            · intro x hx
              rcases List.mem_append.mp hx with h | h
              · exact ⟨List.mem_append_left _ (J.sub x h).1, (J.sub x h).2⟩
              · rw [List.mem_singleton.mp h]
                exact ⟨by simp, yc⟩
            · rw [List.length_append, List.length_append]
              exact Nat.succ_le_succ J.len
            · rw [upd_ne lah, upd_ne lfo]
              exact gl
            · exact paired_imp (fun _ _ h => (offF h).off ea3 (by intro xs z; cases z)) pn2
            · intro x hx nx xc np z hz zL
              rcases List.mem_append.mp hx with h | h
              · exact List.mem_append_left _ (cl2 x h (fun m => nx (List.mem_append_left _ m)) xc np z hz zL)
              · exact absurd (List.mem_append_right _ h) nx
            · intro z hz
              rw [take_snoc hy] at hz
              rcases List.mem_append.mp hz with h | h
              · exact List.mem_append_left _ (tk z h)
              · exact List.mem_append_right _ h
          obtain ⟨F3, A3, r1, rfl, r3, r4, r5, r6, r7, r8⟩ := rest
          have mp := miss_put nF (near_nodup (L := L) c)
          refine ite2 (fun hy2 => ?_) (fun hy2 => ?_)
          · have hy2 : y ∈ nearC L c := of_decide_eq_true hy2
            rw [if_pos hy2] at mp
            have e9 : (missN (nearC L c) F2 : Int) - 1 = (missN (nearC L c) (F2 ++ [y]) : Int) := by omega
            refine ⟨_, rfl, _, _, rfl, rfl, F2 ++ [y], A3, some (.ref b), r1, ?_, r3, r4, r5, r6, r7, r8⟩
            exact congrArg (fun z : Int => [some (V.ref d), some (V.ref q), some (V.ref ar), some (V.ref fo), some (V.ref ah), some (V.int z), some (.ref qc), some (.ref b)]) e9
          · have hy2 : y ∉ nearC L c := fun z => hy2 (decide_eq_true z)
            rw [if_neg hy2, Nat.add_zero] at mp
            refine ⟨F2 ++ [y], A3, some (.ref b), r1, ?_, r3, r4, r5, r6, r7, r8⟩
            rw [mp]
            rfl
        · have yF : y ∈ F2 := by simpa using hc
          refine ⟨F2, A2, _, lt, rfl, J, p2, gl, pn2, cl2, fun z hz => ?_⟩
          rw [take_snoc hy] at hz
          rcases List.mem_append.mp hz with h | h
          · exact tk z h
          · rw [List.mem_singleton.mp h]
            exact yF
      · rintro σ G ⟨F2, A2, v, lt, rfl, J, p2, gl, pn2, cl2, tk⟩
        refine ⟨_, lt, F2, A2, _, _, rfl, rfl, J, fun x hx nx xc y hy yL => ?_⟩
        by_cases hxc : x = p
        · subst hxc
          refine tk y ?_
          have e : (ns.map V.ref).length = (nearC L x).length := by rw [List.length_map]; exact Paired.length pn2
          rw [e, List.take_length]
          exact List.mem_filter.mpr ⟨hy, decide_eq_true yL⟩
        · exact cl2 x hx nx xc hxc y hy yL
end
end Sq

set_option Elab.async false
set_option linter.all false
set_option maxRecDepth 100000
set_option maxHeartbeats 4000000
/-! sorted of a lot of cells. -/
namespace Sq
open PySem PySem.Spec PyProof.Rows L2
theorem keys_cells {H : Hp} : ∀ {L : List Cell} {bs : List Addr}, IsKeys H (lotK L) bs → Paired (fun q c => At H q c) bs L
  | [], _, .nil => .nil
  | _ :: _, _, .cons h t => .cons h (keys_cells t)
section
variable {X : Cx}
def rSortDct : List V → Hp → VK → Prop := fun vs H Q => ∃ (a : Addr) (L : List Cell), vs = [V.ref a] ∧ H a = some (.dT (lotK L)) ∧ sortedK H L Q
theorem cr_sortedDct (calm : X.calm = true) : CallR X (.builtin "sorted") rSortDct := by
  intro pins s σ H vs us Q I r h
  obtain ⟨a, L, rfl, ha, k⟩ := h
  rw [Vals.ref1 r]
  obtain ⟨z, hs, ks, pr, o, es, ep, ho, hx, hdt, he, hn⟩ := (show ObjOk X.prog X.w H s.heap a (.dT (lotK L)) from I.hok a _ ha)
  have l1 : es.size = ks.length := size_of_entries he
  have l2 : (lotK L).length = ks.length := Paired.length pr
  refine sorted_src (k := kVal H) (collect_src (kdl_raw hs hx hdt) (I.ok.hd calm) ho (by omega) fun h' tk acc hk it => ?_)
  have ea : acc.toList = (ks.map fun x => x.2.1).map Value.ref := by
    rw [List.map_map]
    refine List.ext_getElem? fun j => ?_
    rw [List.getElem?_map]
    have hl : acc.toList.length = ks.length := by rw [Array.length_toList, it.1, l1]
    cases hj : acc.toList[j]? with
    | none =>
      rw [List.getElem?_eq_none (by have := List.getElem?_eq_none_iff.mp hj; omega)]
      rfl
    | some v =>
      obtain ⟨en, hen, hv⟩ := it.2 j v (by rw [← Array.getElem?_toList]; exact hj)
      have e1 := entry_at he j
      rw [hen] at e1
      cases hb : ks[j]? with
      | none =>
        rw [hb] at e1
        exact nomatch (show some en = none from e1)
      | some b =>
        rw [hb] at e1
        have e2 : en = entryOfKey (tupleKind (mixKind X.prog X.w)) b := Option.some.inj e1
        rw [hv, e2]
        rfl
  rw [ea]
  refine sort_fin (I.kept (t' := tk) hk) (List.Perm.refl _) (keys_cells (isKeys_of pr)) (by rw [List.length_map]; omega) (fun _ _ e => e) (Nat.le_refl _) rfl rfl k
end
end Sq

set_option Elab.async false
set_option linter.all false
set_option maxRecDepth 100000
set_option maxHeartbeats 4000000
/-! A square put elsewhere; the body of a lot; the kind of a move. -/
namespace Sq
open PySem PySem.Spec PyProof.Rows L2
theorem lot_dropW (c : Cell) (L : List Cell) : dropK (lotK L) (cK c) = lotK (without L c) := by
  unfold dropK lotK without
  rw [List.filter_map]
  congr 1
  refine List.filter_congr fun x _ => ?_
  show decide (cK x ≠ cK c) = decide (x ≠ c)
  by_cases h : x = c
  · simp [h]
  · have ne : ¬ cK x = cK c := fun z => h (cK_inj z)
    simp [h, ne]
theorem without_len (L : List Cell) (c : Cell) : (without L c).length ≤ L.length := List.length_filter_le _ _
theorem mem_without {L : List Cell} {c x : Cell} : x ∈ without L c ↔ x ∈ L ∧ x ≠ c := mem_but
/-- put(lot, start, end) -/
def spPut : Sp := fun vs H Q _ => ∃ (d p q : Addr) (L : List Cell) (s e : Cell), vs = [.ref d, .ref p, .ref q] ∧ H d = some (.dT (lotK L)) ∧ L.Nodup ∧ L.length ≤ 1000 ∧ s ∈ L ∧ e ∉ L ∧ At H p s ∧ At H q e ∧ Q .non (upd H d (.dT (lotK (without L s ++ [e]))))
/-- body_in(lot) -/
def spBodyIn : Sp := fun vs H Q _ => ∃ (d : Addr) (L : List Cell), vs = [.ref d] ∧ H d = some (.dT (lotK L)) ∧ ∀ r H' cs, Same H H' → H r = none → CellsT H' r cs → cs.Perm L → Asc cs → Q (.ref r) H'
section
variable {P : Program} {w : World} {K : PySem.W.Frag} {mg : Str → Option Value} {base : Heap} {Ts : List Addr}
theorem scPu : FnScope ["lot", "start", "end"] ["lot", "start", "end"] (defScope gPut) := ⟨rfl, rfl, rfl, by decide +kernel, rfl, by decide +kernel, by decide +kernel⟩
theorem ok_put {f : Addr} {fd : FuncData} (F : FnP K "put" gPut f fd) : FnOk P w K mg base CX0 1 f fd ["lot", "start", "end"] spPut := by
  refine F.ok scPu (fun vs H Q E h => ?_) (fun cdv A outer s H vs Q E hr h => ?_)
  · obtain ⟨d, p, q, L, s, e, rfl, _⟩ := h
    rfl
  · obtain ⟨d, p, q, L, a, b, rfl, ed, nL, lL, aL, bL, ap, aq, k⟩ := h
    have hu := hu_of hr
    refine ⟨_, PSs.nox (pss_cons (ps_ddelT hu (pv 0) (pv 1))
      (pss_one (ps_dput hu (pv 0) (pv 2) pe_bl rfl))), ?_⟩
    refine ⟨_, rfl, _, rfl, d, _, cK a, p, rfl, rfl, ed, ap, by rw [lot_is]; exact decide_eq_true aL, ?_⟩
    rw [lot_dropW a L]
    have e1 : (upd H d (.dT (lotK (without L a)))) d = some (.dT (lotK (without L a))) := upd_same
    have aq1 : At (upd H d (.dT (lotK (without L a)))) q b := aq.off ed (by intro xs z; cases z)
    refine ⟨_, rfl, _, rfl, d, _, rfl, dput_lot e1 aq1 (fun m => bL (mem_without.mp m).1) (by have := without_len L a; rw [sizeLine_eq]; omega), ?_⟩
    rw [upd_upd]
    exact k
theorem scBi : FnScope ["lot"] ["lot"] (defScope gBodyIn) := ⟨rfl, rfl, rfl, by decide +kernel, rfl, by decide +kernel, by decide +kernel⟩
theorem ok_bodyIn {f : Addr} {fd : FuncData} (F : FnP K "body_in" gBodyIn f fd) (B : Bl mg) : FnOk P w K mg base CX0 1 f fd ["lot"] spBodyIn := by
  refine F.ok scBi (fun vs H Q E h => ?_) (fun cdv A outer s H vs Q E hr h => ?_)
  · obtain ⟨d, L, rfl, _⟩ := h
    rfl
  · obtain ⟨d, L, rfl, ed, k⟩ := h
    refine ⟨_, PSs.nox (pss_one (ps_ret (pe_tupleOf (by rfl) B.tuple (pe_callB (cr_sortedDct rfl) (by rfl) B.sorted (by decide +kernel) (pa_cons (pv 0) pa_nil))))), ?_⟩
    refine ⟨_, rfl, d, L, rfl, ed, fun r qs' cs' pr' pm asc hr' => ?_⟩
    have s7 := same_new (o := .lst (qs'.map V.ref)) hr'
    refine .inl ⟨r, _, rfl, SqL.of upd_same, fun u hu' => ?_⟩
    have s8 := same_new (o := .tup (qs'.map V.ref)) hu'
    exact k u _ cs' (s7.trans s8) (s7.free hu') ⟨qs', upd_same, paired_imp (fun _ _ h => s8 _ _ (s7 _ _ h)) pr'⟩ pm asc
theorem scKi : FnScope ["lot", "start", "end", "kind"] ["lot", "start", "end"] (defScope gKindIn) := ⟨rfl, rfl, rfl, by decide +kernel, rfl, by decide +kernel, by decide +kernel⟩
theorem byPlace_mem {L : List Cell} {s e : Cell} (h : byPlace L s e ≠ .non) : s ∈ L ∧ e ∉ L := by
  unfold byPlace at h
  by_cases c : decide (s ∈ L) = false ∨ decide (e ∈ L) = true
  · rw [if_pos c] at h
    exact absurd rfl h
  · constructor
    · exact Classical.byContradiction fun n => c (.inl (decide_eq_false n))
    · exact fun n => c (.inr (decide_eq_true n))
theorem ok_kindIn {f : Addr} {fd : FuncData} (F : FnP K "kind_in" gKindIn f fd) (Db : Df P w K mg base CX0 4 "kind_by_place" ["lot", "start", "end"] (spByPlace Ts)) (Dh : Df P w K mg base CX0 3 "hangs_without" ["lot", "cell"] spHangsW) :
    FnOk P w K mg base CX0 5 f fd ["lot", "start", "end"] (spKindIn Ts) := by
  refine F.ok scKi (fun vs H Q E h => ?_) (fun cdv A outer s H vs Q E hr h => ?_)
  · obtain ⟨d, p, q, L, a, b, rfl, _⟩ := h
    rfl
  · obtain ⟨d, p, q, L, a, b, rfl, ed, nL, lL, hang, ap, aq, tg, k⟩ := h
    refine ⟨_, PSs.nox (pss_cons (ps_set (i := 3) scKi.nd rfl (.inl rfl) (pe_df Db hr (by rfl) pass0 (pa_cons (pv 0) (pa_cons (pv 1) (pa_cons (pv 2) pa_nil)))))
      (pss_cons (ps_if (PW.pt (pw_or (pt_cmpR op_isN (pv 3) pe_non (nomark _)) (pw_or1 (pt_not (pt_val (pe_df Dh hr (by rfl) pass0 (pa_cons (pv 0) (pa_cons (pv 1) pa_nil))))))))
      (pss_one (ps_ret pe_non))
      pss_nil)
      (pss_one (ps_ret (pv 3))))), ?_⟩
    refine ⟨_, rfl, _, rfl, _, rfl, d, p, q, L, a, b, rfl, ed, ap, aq, tg, fun H1 k1 => ?_⟩
    refine ⟨_, rfl, rfl, _, rfl, ?_⟩
    refine ite2 (fun h1 => ?_) (fun h1 => ?_)
    · have h1 : byPlace L a b = .non := of_decide_eq_true h1
      have fin := k H1 k1
      unfold kindV at fin
      rw [if_pos (.inl h1)] at fin
      exact fin
    · have h1 : byPlace L a b ≠ .non := fun z => h1 (decide_eq_true z)
      refine ⟨_, rfl, _, rfl, d, p, L, a, rfl, k1.lot ed, nL, lL, hang, (byPlace_mem h1).1, k1.at ap, fun H3 s3 => ?_⟩
      refine ⟨_, rfl, ite2 (fun h2 => ?_) (fun h2 => ?_)⟩
      · have h2 : hangsB (without L a) = false := by simpa using h2
        have fin := k H3 (k1.same s3)
        unfold kindV at fin
        rw [if_pos (.inr h2)] at fin
        exact fin
      · have h2 : hangsB (without L a) = true := by simpa using h2
        have fin := k H3 (k1.same s3)
        unfold kindV at fin
        rw [if_neg (fun z => z.elim h1 fun y => by rw [h2] at y; cases y)] at fin
        exact ⟨_, rfl, fin⟩
end
end Sq

set_option Elab.async false
set_option linter.all false
set_option maxRecDepth 100000
set_option maxHeartbeats 4000000
/-! kind_of and done, with their errors. -/
namespace Sq
open PySem PySem.Spec PyProof.Rows L2
/-- an own error of the class at C is on its way, with these fields; all but tables stays -/
def Way (Ts : List Addr) (H : Hp) (C : Addr) (fs : List (Str × V)) (E : XK) : Prop := ∀ (dd : Addr) (H' : Hp), KT Ts H H' → H dd = none → H' dd = some (.xd fs) → E (.ref C) (some dd) H'
theorem Way.from {Ts : List Addr} {H G : Hp} {C : Addr} {fs : List (Str × V)} {E : XK} (h : Way Ts H C fs E) (k : KT Ts H G) : ∀ d, G d = none → E (.ref C) (some d) (upd G d (.xd fs)) := fun d hd =>
  h d _ (k.same (same_new hd)) (k.free hd) upd_same
section
variable {P : Program} {w : World} {K : PySem.W.Frag} {mg : Str → Option Value} {base : Heap} {Ts : List Addr}
end
end Sq

set_option Elab.async false
set_option linter.all false
set_option maxRecDepth 100000
set_option maxHeartbeats 4000000
/-! The pen: made, drawn from; a pick. -/
namespace Sq
open PySem PySem.Spec PyProof.Rows L2
abbrev kCells : Key := .inr "cells"
abbrev kAt : Key := .inr "at"
abbrev kDig : Key := .inr "digits"
abbrev kCnt : Key := .inr "count"
abbrev kFold : Key := .inr "fold"
/-- the pen's pairs -/
def penK (c : Addr) (i dg n fo : Int) : List (Key × V) := [(kCells, .ref c), (kAt, .int i), (kDig, .int dg), (kCnt, .int n), (kFold, .int fo)]
theorem pen_cells {c : Addr} {i dg n fo : Int} : valV (penK c i dg n fo) kCells = some (.ref c) := by kernel_rfl
theorem pen_at {c : Addr} {i dg n fo : Int} : valV (penK c i dg n fo) kAt = some (.int i) := by kernel_rfl
theorem pen_dig {c : Addr} {i dg n fo : Int} : valV (penK c i dg n fo) kDig = some (.int dg) := by kernel_rfl
theorem pen_cnt {c : Addr} {i dg n fo : Int} : valV (penK c i dg n fo) kCnt = some (.int n) := by kernel_rfl
theorem pen_fold {c : Addr} {i dg n fo : Int} : valV (penK c i dg n fo) kFold = some (.int fo) := by kernel_rfl
theorem put_at {c : Addr} {i dg n fo z : Int} : putK (penK c i dg n fo) kAt (.int z) = penK c z dg n fo := by kernel_rfl
theorem put_dig {c : Addr} {i dg n fo z : Int} : putK (penK c i dg n fo) kDig (.int z) = penK c i z n fo := by kernel_rfl
theorem put_cnt {c : Addr} {i dg n fo z : Int} : putK (penK c i dg n fo) kCnt (.int z) = penK c i dg z fo := by kernel_rfl
theorem put_fold {c : Addr} {i dg n fo z : Int} : putK (penK c i dg n fo) kFold (.int z) = penK c i dg n z := by kernel_rfl
theorem pen_disp {c : Addr} {fo : Int} : mergeK [] (penK c 0 0 0 fo) = penK c 0 0 0 fo := by kernel_rfl
theorem pen_len {c : Addr} {i dg n fo : Int} : (penK c i dg n fo).length < sizeLine := Nat.lt_of_le_of_lt (Nat.le_refl 5) (by rw [sizeLine_eq]; decide)
theorem dget_of {H : Hp} {p : Addr} {kvs : List (Key × V)} {k : Key} {v : V} (e : H p = some (.dK kvs)) (hv : valV kvs k = some v) : DGet H p (kV k) (some v) := hv ▸ DGet.k (k := k) e
theorem dput_of {H : Hp} {p c : Addr} {i dg n fo : Int} {kvs' : List (Key × V)} {k : Key} {v : V} (e : H p = some (.dK (penK c i dg n fo))) (hk : putK (penK c i dg n fo) k v = kvs') : DPut H p (kV k) v (upd H p (.dK kvs')) := hk ▸ DPut.k e pen_len
/-- a pen stands at p, n numbers were drawn -/
structure PenAt (H : Hp) (p : Addr) (n : Nat) : Prop where
  ex : ∃ (c : Addr) (zs : List Int) (i : Nat) (dg fo : Int), H p = some (.dK (penK c i dg n fo)) ∧ H c = some (.lst (zs.map V.int)) ∧ i ≤ zs.length ∧ zs.length ≤ 63 ∧ 0 ≤ dg ∧ 0 ≤ fo ∧ fo < 2147483648
/-- _law_pen(script): a new pen -/
def spPen (K : PySem.W.Frag) : Sp := fun vs H Q _ => ∃ (a : Addr) (zs : List Int), vs = [.ref a] ∧ SqL K H a (zs.map V.int) ∧ zs.length ≤ 63 ∧ ∀ (p : Addr) (H' : Hp), PenAt H' p 0 → Same H H' → H p = none → Q (.ref p) H'
/-- _law_draw(pen, many): a number below many; the pen alone changes -/
def spDraw : Sp := fun vs H Q _ => ∃ (p : Addr) (n : Nat) (m : Int), vs = [.ref p, .int m] ∧ PenAt H p n ∧ 1 ≤ m ∧ m < 1073741824 ∧ n < 1000000 ∧
  ∀ (r : Int) (H' : Hp), 0 ≤ r → r < m → PenAt H' p (n + 1) → (∀ b, b ≠ p → H' b = H b) → Q (.int r) H'
section
variable {P : Program} {w : World} {K : PySem.W.Frag} {mg : Str → Option Value} {base : Heap}
theorem scP : FnScope ["_law_script", "_law_fold", "_law_cell"] ["_law_script"] (defScope sPen) := ⟨rfl, rfl, rfl, by decide +kernel, rfl, by decide +kernel, by decide +kernel⟩
theorem ok_pen {f : Addr} {fd : FuncData} (F : FnP K "_law_pen" sPen f fd) (gI : mg "int" = none) (gL : mg "list" = none) : FnOk P w K mg base CX0 1 f fd ["_law_script"] (spPen K) := by
  refine F.ok scP (fun vs H Q E h => ?_) (fun cdv A outer s H vs Q E hr h => ?_)
  · obtain ⟨a, zs, rfl, _⟩ := h
    rfl
  · obtain ⟨a, zs, rfl, hS, hl, k⟩ := h
    refine ⟨_, PSs.nox (pss_cons (ps_set (i := 1) scP.nd rfl (.inl rfl) pe_int)
      (pss_cons (ps_for PassesOwn.never rfl (pi_list (pv 0)) (pg_name (i := 2) scP.nd rfl (.inl rfl))
        (pss_one (ps_set (i := 1) scP.nd rfl (.inl rfl) (pe_op op_mod (pe_callTy call_int1 (by rfl) gI PyProof.Rows.boot_int (pa_cons (pe_op op_add (pe_op op_mul (pv 1) pe_int) (pv 2)) pa_nil)) pe_int))))
      (pss_one (ps_ret (pe_disp (pps_cons pe_str (pe_callTy call_list_of (by rfl) gL PyProof.Rows.boot_list (pa_cons (pv 0) pa_nil)) (pps_cons pe_str pe_int (pps_cons pe_str pe_int (pps_cons pe_str pe_int (pps_cons pe_str (pv 1) pps_nil))))) rfl rfl (by simp) (by decide)))))), ?_⟩
    -- the loop
    refine ⟨_, rfl, a, rfl, ⟨_, hS⟩, for_list (K := K) (a := a) (xs := zs.map V.int) (fun i σ H2 => ∃ (fo : Int) (v : Option V), σ = [some (.ref a), some (.int fo), v] ∧ H2 = H ∧ 0 ≤ fo ∧ fo < 1000000007)
      ⟨0, none, rfl, rfl, by decide, by decide⟩ (fun i σ H2 _ ⟨_, _, _, e, _⟩ => by rw [e]; exact hS) ?_ ?_⟩
    · rintro i y σ H2 hi ⟨fo, v, rfl, rfl, h0, h1⟩
      obtain ⟨z, rfl⟩ : ∃ z, y = V.int z := by
        rw [List.getElem?_map] at hi
        cases e : zs[i]? with
        | none =>
          rw [e] at hi
          cases hi
        | some z =>
          rw [e] at hi
          exact ⟨z, (Option.some.inj hi).symm⟩
      refine ⟨_, rfl, _, _, rfl, rfl, .inl ⟨by omega, by omega⟩, _, rfl, _, _, rfl, rfl, .inl ⟨_, rfl, ?_⟩⟩
      refine ⟨_, _, rfl, rfl, (by show (0 : Int) < 1000000007; decide), _, _, rfl, rfl, ?_, ?_⟩
      · exact Int.emod_nonneg _ (by decide)
      · exact Int.emod_lt_of_pos _ (by decide)
    · rintro σ H2 ⟨fo, v, rfl, rfl, h0, h1⟩
      intro p hp
      refine ⟨_, rfl, a, zs.map V.int, rfl, .inl ?_, fun c hc => ?_⟩
      · exact (same_new hp).seq hS
      · have np : c ≠ p := fun z => by
          rw [z, upd_same] at hc
          cases hc
        have nc : H2 c = none := by
          rw [upd_ne np] at hc
          exact hc
        refine ⟨_, rfl, ?_, [(kCells, .ref c), (kAt, .int 0), (kDig, .int 0), (kCnt, .int 0), (kFold, .int fo)], rfl, by simp, ?_⟩
        · rw [upd_ne (Ne.symm np), upd_same]
        · refine k p _ ⟨⟨c, zs, 0, 0, fo, ?_, ?_, Nat.zero_le _, hl, by decide, h0, by omega⟩⟩ ?_ hp
          · rw [upd_same]
            exact congrArg (fun z => some (HO.dK z)) pen_disp
          · rw [upd_ne np, upd_same]
          · intro b u e
            rw [upd_ne (ne_of_none e hp), upd_ne (ne_of_none e nc), upd_ne (ne_of_none e hp)]
            exact e
theorem scD : FnScope ["_law_pen_here", "_law_many", "_law_cell", "_law_digit", "_law_blend"] ["_law_pen_here", "_law_many"] (defScope sDraw) := ⟨rfl, rfl, rfl, by decide +kernel, rfl, by decide +kernel, by decide +kernel⟩
theorem ok_draw {f : Addr} {fd : FuncData} (F : FnP K "_law_draw" sDraw f fd) (gI : mg "int" = none) (gL : mg "len" = none) : FnOk P w K mg base CX0 1 f fd ["_law_pen_here", "_law_many"] spDraw := by
  refine F.ok scD (fun vs H Q E h => ?_) (fun cdv A outer s H vs Q E hr h => ?_)
  · obtain ⟨p, n, m, rfl, _⟩ := h
    rfl
  · obtain ⟨p, n, m, rfl, ⟨c, zs, i, dg, fo, hp, hc, hi, hl, hd, f0, f1⟩, m1, m2, hn, k⟩ := h
    have hu := hu_of hr
    have cp : c ≠ p := ne_of hc hp (by intro z; cases z)
    -- what stands behind the first if
    obtain ⟨tt, htt, key⟩ : ∃ t, PSs (cxOf CX0 P w K mg base ["_law_pen_here", "_law_many", "_law_cell", "_law_digit", "_law_blend"] "_law_draw" (defScope sDraw) f cdv A outer s H E).nox ((defBody sDraw).drop 2) t ∧
        ∀ (D : Ends) (v : Option V) (i' : Nat) (dg' fo' : Int) (H1 : Hp), H1 p = some (.dK (penK c i' dg' ((n : Int) + 1) fo')) → H1 c = some (.lst (zs.map V.int)) → (∀ b, b ≠ p → H1 b = H b) → i' ≤ zs.length → 0 ≤ dg' → 0 ≤ fo' → fo' < 2147483648 →
          (∀ (r : Int) (H' : Hp), 0 ≤ r → r < m → PenAt H' p (n + 1) → (∀ b, b ≠ p → H' b = H b) → D.rt (.int r) H') → t D [some (.ref p), some (.int m), v, none, none] H1 := by
      refine ⟨_, pss_cons (ps_if (pt_cmpR op_gt (pe_dget hu (pv 0) pe_str (fun _ _ => rfl)) pe_int (nomark _))
        (pss_cons (ps_set (i := 3) scD.nd rfl (.inl rfl) (pe_op op_mod (pe_callTy call_int1 (by rfl) gI PyProof.Rows.boot_int (pa_cons (pe_dget hu (pv 0) pe_str (fun _ _ => rfl)) pa_nil)) (pv 1)))
        (pss_cons (ps_dput hu (pv 0) pe_str (pe_op op_fdiv (pe_dget hu (pv 0) pe_str (fun _ _ => rfl)) (pv 1)) rfl)
        (pss_one (ps_ret (pv 3)))))
        pss_nil)
        (pss_cons (ps_set (i := 4) scD.nd rfl (.inl rfl) (pe_op op_add (pe_op op_add (pe_dget hu (pv 0) pe_str (fun _ _ => rfl)) (pe_op op_mul (pe_dget hu (pv 0) pe_str (fun _ _ => rfl)) pe_int)) pe_int))
        (pss_one (ps_ret (pe_op op_mod (pe_op op_fdiv (pe_callTy call_int1 (by rfl) gI PyProof.Rows.boot_int (pa_cons (pe_op op_mod (pe_op op_pow (pv 4) pe_int) pe_int) pa_nil)) pe_int) (pv 1))))), ?_⟩
      intro D v i' dg' fo' H1 e1 e2 e3 h1 h2 h3 h4 kD
      refine ⟨_, rfl, p, _, rfl, dget_of e1 pen_dig, _, _, rfl, rfl, _, rfl, ?_⟩
      refine ite2 (fun hd => ?_) (fun hd => ?_)
      · refine ⟨_, rfl, p, _, rfl, dget_of e1 pen_dig, .inl ⟨_, rfl, _, rfl, _, _, rfl, rfl, (by show 0 < m; omega), ?_⟩⟩
        refine ⟨_, rfl, p, _, rfl, dget_of e1 pen_dig, _, rfl, _, _, rfl, rfl, ⟨by omega, m2⟩, _, rfl, p, _, rfl, dput_of e1 put_dig, ?_⟩
        refine ⟨_, rfl, ?_⟩
        refine kD _ _ (Int.emod_nonneg _ (by omega)) (Int.emod_lt_of_pos _ (by omega)) ⟨⟨c, zs, i', dg' / m, fo', ?_, ?_, h1, hl, Int.ediv_nonneg h2 (by omega), h3, h4⟩⟩ fun b hb => ?_
        · rw [upd_same]
          rfl
        · rw [upd_ne cp]
          exact e2
        · rw [upd_ne hb]
          exact e3 b hb
      · refine ⟨_, rfl, p, _, rfl, dget_of e1 pen_fold, _, rfl, p, _, rfl, dget_of e1 pen_cnt, _, _, rfl, rfl, .inr ⟨by decide, by decide⟩, _, _, rfl, rfl, _, _, rfl, rfl, ?_⟩
        refine ⟨_, rfl, _, _, rfl, rfl, ⟨by decide, by decide, ?_⟩, _, _, rfl, rfl, (by show (0 : Int) < 2305843009213693951; decide), .inl ⟨_, rfl, _, _, rfl, rfl, ⟨by decide, by decide⟩, _, rfl, _, _, rfl, rfl, (by show 0 < m; omega), ?_⟩⟩
        · show (fo' + ((n : Int) + 1) * 7907 + 37).natAbs < 18446744073709551616
          omega
        · exact kD _ _ (Int.emod_nonneg _ (by omega)) (Int.emod_lt_of_pos _ (by omega)) ⟨⟨c, zs, i', dg', fo', e1, e2, h1, hl, h2, h3, h4⟩⟩ e3
    refine ⟨_, PSs.nox (pss_cons (ps_dput hu (pv 0) pe_str (pe_op op_add (pe_dget hu (pv 0) pe_str (fun _ _ => rfl)) pe_int) rfl)
      (pss_cons (ps_if (PW.pt (pw_and (pt_cmpR op_eq (pe_dget hu (pv 0) pe_str (fun _ _ => rfl)) pe_int (nomark _)) (pw_and1 (pt_cmpR op_lt (pe_dget hu (pv 0) pe_str (fun _ _ => rfl)) (pe_callB call_len_seq (by rfl) gL PySem.boot_len (pa_cons (pe_dget hu (pv 0) pe_str (fun _ _ => rfl)) pa_nil)) (nomark _)))))
        (pss_cons (ps_set (i := 2) scD.nd rfl (.inl rfl) (pe_ix ix_list (pe_dget hu (pv 0) pe_str (fun _ _ => rfl)) (pe_dget hu (pv 0) pe_str (fun _ _ => rfl)) (fun _ _ => rfl)))
        (pss_cons (ps_dput hu (pv 0) pe_str (pe_op op_add (pe_dget hu (pv 0) pe_str (fun _ _ => rfl)) pe_int) rfl)
        (pss_one (ps_if (pt_cmpR op_ge (pv 2) (pe_op op_pow pe_int pe_int) (nomark _))
          (pss_one (ps_dput hu (pv 0) pe_str (pe_op op_sub (pv 2) (pe_op op_pow pe_int pe_int)) rfl))
          (pss_one (ps_dput hu (pv 0) pe_str (pe_op op_mod (pe_callTy call_int1 (by rfl) gI PyProof.Rows.boot_int (pa_cons (pe_op op_add (pe_op op_mul (pe_dget hu (pv 0) pe_str (fun _ _ => rfl)) pe_int) (pv 2)) pa_nil)) pe_int) rfl))))))
        pss_nil)
      htt)), ?_⟩
    refine ⟨_, rfl, p, _, rfl, dget_of hp pen_cnt, _, _, rfl, rfl, _, rfl, p, _, rfl, dput_of hp put_cnt, ?_⟩
    have hc1 : ∀ o, upd H p o c = some (.lst (zs.map V.int)) := fun o => by
      rw [upd_ne cp]
      exact hc
    have far : ∀ (o : HO) (b : Addr), b ≠ p → upd H p o b = H b := fun o b hb => upd_ne hb
    refine ⟨_, rfl, p, _, rfl, dget_of upd_same pen_dig, rfl, _, rfl, ?_⟩
    refine ite2 (fun _ => ?_) (fun _ => ?_)
    · refine ⟨_, rfl, p, _, rfl, dget_of upd_same pen_at, _, rfl, p, _, rfl, dget_of upd_same pen_cells, c, _, rfl, .inl (SqL.of (hc1 _)), _, _, rfl, rfl, _, rfl, ?_⟩
      refine ite2 (fun hlt => ?_) (fun _ => ?_)
      · have hlt' : (i : Int) < ((zs.map V.int).length : Int) := of_decide_eq_true hlt
        rw [List.length_map] at hlt'
        have hiz : i < zs.length := by omega
        have hat : atI (zs.map V.int) (i : Int) = some (.int zs[i]) := atI_nat (by rw [List.getElem?_map, List.getElem?_eq_getElem hiz]; rfl)
        refine ⟨_, rfl, p, _, rfl, dget_of upd_same pen_cells, _, rfl, p, _, rfl, dget_of upd_same pen_at, c, _, _, _, rfl, rfl, SqL.of (hc1 _), hat, ?_⟩
        refine ⟨_, rfl, p, _, rfl, dget_of upd_same pen_at, _, _, rfl, rfl, _, rfl, p, _, rfl, dput_of upd_same put_at, ?_⟩
        rw [upd_upd]
        refine ⟨_, rfl, _, _, rfl, rfl, ⟨by decide, by decide, by decide⟩, _, _, rfl, rfl, _, rfl, ?_⟩
        refine ite2 (fun hbig => ?_) (fun _ => ?_)
        · have hbig' : (10 : Int) ^ 18 ≤ zs[i] := of_decide_eq_true hbig
          refine ⟨_, rfl, _, _, rfl, rfl, ⟨by decide, by decide, by decide⟩, _, _, rfl, rfl, _, rfl, p, _, rfl, dput_of upd_same put_dig, ?_⟩
          rw [upd_upd]
          have e10 : (10 : Int) ^ 18 = 1000000000000000000 := by decide
          refine key _ _ (i + 1) _ fo _ upd_same (hc1 _) (far _) (by omega) ?_ f0 f1 k
          show 0 ≤ zs[i] - (10 : Int) ^ 18
          omega
        · refine ⟨_, rfl, p, _, rfl, dget_of upd_same pen_fold, _, _, rfl, rfl, .inr ⟨by decide, by decide⟩, _, rfl, _, _, rfl, rfl, .inl ⟨_, rfl, _, _, rfl, rfl, (by show (0 : Int) < 2147483587; decide), _, rfl, p, _, rfl, dput_of upd_same put_fold, ?_⟩⟩
          rw [upd_upd]
          refine key _ _ (i + 1) dg _ _ upd_same (hc1 _) (far _) (by omega) hd ?_ ?_ k
          · exact Int.emod_nonneg _ (by decide)
          · exact Int.lt_trans (Int.emod_lt_of_pos _ (by decide)) (by decide)
      · exact key _ _ i dg fo _ upd_same (hc1 _) (far _) hi hd f0 f1 k
    · exact key _ _ i dg fo _ upd_same (hc1 _) (far _) hi hd f0 f1 k
end
theorem rd_but {H H' : Hp} {p l : Addr} {kvs : List (Key × V)} {u : HO} (hp : H p = some (.dK kvs)) (k : ∀ b, b ≠ p → H' b = H b) (hu : ∀ kvs, u ≠ .dK kvs) (h : Rd H l u) : Rd H' l u := by
  rcases h with h | ⟨o, h⟩
  · exact .inl ((k l (ne_of h hp (hu _))).trans h)
  · exact .inr ⟨o, (k l (ne_of h hp (by intro z; cases z))).trans h⟩
theorem sqL_but {K : PySem.W.Frag} {H H' : Hp} {p l : Addr} {kvs : List (Key × V)} {xs : List V} (hp : H p = some (.dK kvs)) (k : ∀ b, b ≠ p → H' b = H b) (h : SqL K H l xs) : SqL K H' l xs := by
  rcases h with h | h
  · exact .inl (rd_but hp k (fun _ z => by cases z) h)
  · exact .inr h
theorem sqT_but {K : PySem.W.Frag} {H H' : Hp} {p l : Addr} {kvs : List (Key × V)} {xs : List V} (hp : H p = some (.dK kvs)) (k : ∀ b, b ≠ p → H' b = H b) (h : SqT K H l xs) : SqT K H' l xs := by
  rcases h with h | h
  · exact .inl (rd_but hp k (fun _ z => by cases z) h)
  · exact .inr h
theorem PenAt.same {H H' : Hp} {p : Addr} {n : Nat} (h : PenAt H p n) (k : Same H H') : PenAt H' p n := by
  obtain ⟨c, zs, i, dg, fo, e1, e2, r⟩ := h.ex
  exact ⟨⟨c, zs, i, dg, fo, k _ _ e1, k _ _ e2, r⟩⟩
/-- _law_pick(pen, some): one of them; the pen alone changes -/
def spPick (K : PySem.W.Frag) : Sp := fun vs H Q _ => ∃ (p l : Addr) (n : Nat) (xs : List V), vs = [.ref p, .ref l] ∧ PenAt H p n ∧ n < 1000000 ∧ (SqL K H l xs ∨ SqT K H l xs) ∧ 1 ≤ xs.length ∧ xs.length < 1073741824 ∧
  ∀ (i : Nat) (x : V) (H' : Hp), xs[i]? = some x → PenAt H' p (n + 1) → (∀ b, b ≠ p → H' b = H b) → Q x H'
section
variable {P : Program} {w : World} {K : PySem.W.Frag} {mg : Str → Option Value} {base : Heap}
theorem scK : FnScope ["_law_pen_here", "_law_some"] ["_law_pen_here", "_law_some"] (defScope sPick) := ⟨rfl, rfl, rfl, by decide +kernel, rfl, by decide +kernel, by decide +kernel⟩
theorem ok_pick {f : Addr} {fd : FuncData} (F : FnP K "_law_pick" sPick f fd) (DD : Df P w K mg base CX0 1 "_law_draw" ["_law_pen_here", "_law_many"] spDraw) (gL : mg "len" = none) : FnOk P w K mg base CX0 2 f fd ["_law_pen_here", "_law_some"] (spPick K) := by
  refine F.ok scK (fun vs H Q E h => ?_) (fun cdv A outer s H vs Q E hr h => ?_)
  · obtain ⟨p, l, n, xs, rfl, _⟩ := h
    rfl
  · obtain ⟨p, l, n, xs, rfl, hp, hn, hS, h1, h2, k⟩ := h
    obtain ⟨c, zs, i0, dg, fo, ep, _⟩ := hp.ex
    refine ⟨_, PSs.nox (pss_one (ps_ret (pe_ix (IxR.or ix_list ix_tup) (pv 1) (pe_df DD hr (by rfl) pass0 (pa_cons (pv 0) (pa_cons (pe_callB call_len_seq (by rfl) gL PySem.boot_len (pa_cons (pv 1) pa_nil)) pa_nil))) (fun _ _ => rfl)))), ?_⟩
    refine ⟨_, rfl, _, rfl, _, rfl, l, xs, rfl, hS, p, n, (xs.length : Int), rfl, hp, by omega, by omega, hn, fun r H' r0 r1 hp' hb => ?_⟩
    obtain ⟨j, rfl⟩ := Int.eq_ofNat_of_zero_le r0
    have hj : j < xs.length := by omega
    have hat : atI xs (j : Int) = some xs[j] := atI_nat (List.getElem?_eq_getElem hj)
    rcases hS with hS | hS
    · exact .inl ⟨l, xs, _, _, rfl, rfl, sqL_but ep hb hS, hat, k j _ H' (List.getElem?_eq_getElem hj) hp' hb⟩
    · exact .inr ⟨l, xs, _, _, rfl, rfl, sqT_but ep hb hS, hat, k j _ H' (List.getElem?_eq_getElem hj) hp' hb⟩
end
end Sq

set_option Elab.async false
set_option linter.all false
set_option maxRecDepth 100000
set_option maxHeartbeats 4000000
/-! The law's small defs: cells, beside, around, squares. -/
namespace Sq
open PySem PySem.Spec PyProof.Rows L2
def spLBeside : Sp := fun vs H Q _ => ∃ (p : Addr) (c : Cell), vs = [.ref p] ∧ At H p c ∧ ∀ l H', Same H H' → H l = none → CellsL H' l (besideC c) → Q (.ref l) H'
/-- the eight around -/
def aroundC (c : Cell) : List Cell := [(c.1 - 1, c.2 - 1), (c.1 - 1, c.2), (c.1 - 1, c.2 + 1), (c.1, c.2 - 1), (c.1, c.2 + 1), (c.1 + 1, c.2 - 1), (c.1 + 1, c.2), (c.1 + 1, c.2 + 1)]
section
variable {P : Program} {w : World} {K : PySem.W.Frag} {mg : Str → Option Value} {base : Heap}
end
end Sq

set_option Elab.async false
set_option linter.all false
set_option maxRecDepth 100000
set_option maxHeartbeats 4000000
/-! The law's around, free's rest, done. -/
namespace Sq
open PySem PySem.Spec PyProof.Rows L2
theorem three_le : (3 : Nat) ≤ sizeLine := by rw [sizeLine_eq]; decide
section
variable {P : Program} {w : World} {K : PySem.W.Frag} {mg : Str → Option Value} {base : Heap}
end
end Sq

set_option Elab.async false
set_option linter.all false
set_option maxRecDepth 100000
set_option maxHeartbeats 4000000
/-! The law's parts. -/
namespace Sq
open PySem PySem.Spec PyProof.Rows L2
theorem for_range_fin {lo : Int} {n : Nat} {g : TG} {tb : TS} {D : Ends} {σ : L2.St} {H : Hp} (Pv : Nat → L2.St → Hp → Prop) (Fin : L2.St → Hp → Prop) (fin : ∀ σ H, Fin σ H → D.nx σ H) (h0 : Pv 0 σ H)
    (hs : ∀ (i : Nat) (σ : L2.St) (H : Hp) (Bk : L2.St → Hp → Prop), i < n → Pv i σ H → (∀ σ H, Fin σ H → Bk σ H) → g (.int (lo + i)) σ H fun σ2 H2 => tb { D with nx := Pv (i + 1), ct := Pv (i + 1), bk := Bk } σ2 H2) (hd : ∀ σ H, Pv n σ H → Fin σ H) :
    ∃ W : Nat → Nat → L2.St → Hp → Prop, (∃ m, W 0 m σ H) ∧ ∀ i m σ H, W i m σ H →
      ((Itr lo n).stop i H ∧ D.nx σ H) ∨ ((Itr lo n).go i H ∧ ∃ N : L2.St → Hp → Prop, (∀ σ' H', N σ' H' → ∃ m', m' < m ∧ W (i + 1) m' σ' H') ∧ ∀ x H', (Itr lo n).yld i H x H' → g x σ H' fun σ2 H2 => tb { D with nx := N, ct := N, bk := D.nx } σ2 H2) :=
  for_range Pv h0 (fun i σ H hi p => hs i σ H D.nx hi p fin) fun σ H p => fin σ H (hd σ H p)
section
variable {P : Program} {w : World} {K : PySem.W.Frag} {mg : Str → Option Value} {base : Heap}
theorem PI.or {X : Cx} {tg e : Expr} {w1 w2 : TI} (h1 : PI X tg e w1) (h2 : PI X tg e w2) : PI X tg e (fun σ H R => w1 σ H R ∨ w2 σ H R) := ⟨fun pins s σ H R I h => h.elim (h1.run pins s σ H R I) (h2.run pins s σ H R I)⟩
end
end Sq

set_option Elab.async false
set_option linter.all false
set_option maxRecDepth 100000
set_option maxHeartbeats 4000000
/-! The law's hangs, free, supports, kind. -/
namespace Sq
open PySem PySem.Spec PyProof.Rows L2
theorem lay_cell (c : Cell) : Lay 1 (cD c) := lay_tuple fun d hd => by
  rcases List.mem_cons.mp hd with e | e
  · rw [e]; exact lay_int _
  · rw [List.mem_singleton.mp e]; exact lay_int _
section
variable {P : Program} {w : World} {K : PySem.W.Frag} {mg : Str → Option Value} {base : Heap}
end
end Sq

set_option Elab.async false
set_option linter.all false
set_option maxRecDepth 100000
set_option maxHeartbeats 4000000
/-! The law's supports. -/
namespace Sq
open PySem PySem.Spec PyProof.Rows L2
abbrev CellP := Cell × Cell
def pD (p : CellP) : PyData := .tuple [cD p.1, cD p.2]
theorem alike_cD (c d : Cell) : PySem.W.alike (cD c) (cD d) = true := by
  simp only [cD, PySem.W.alike, PySem.W.alikeAll, Bool.and_true]
theorem lay_pD (p : CellP) : Lay 2 (pD p) := lay_tuple fun d hd => by
  rcases List.mem_cons.mp hd with e | e
  · rw [e]; exact lay_cell _
  · rw [List.mem_singleton.mp e]; exact lay_cell _
/-- a pair of cells stands at r -/
def PairAt (H : Hp) (r : Addr) (b : CellP) : Prop := ∃ q1 q2 : Addr, H r = some (.tup [.ref q1, .ref q2]) ∧ At H q1 b.1 ∧ At H q2 b.2
theorem PairAt.same {H G : Hp} {r : Addr} {b : CellP} (h : PairAt H r b) (k : Same H G) : PairAt G r b := by
  obtain ⟨q1, q2, e, a1, a2⟩ := h
  exact ⟨q1, q2, k _ _ e, k _ _ a1, k _ _ a2⟩
theorem PairAt.off {H : Hp} {r p : Addr} {b : CellP} {o u : HO} (h : PairAt H r b) (hp : H p = some u) (hu : ∀ xs, u ≠ .tup xs) : PairAt (upd H p o) r b := by
  obtain ⟨q1, q2, e, a1, a2⟩ := h
  exact ⟨q1, q2, by rw [upd_ne (ne_of e hp (fun z => hu _ z.symm))]; exact e, a1.off hp hu, a2.off hp hu⟩
theorem PairAt.dp {K : PySem.W.Frag} {H : Hp} {r : Addr} {b : CellP} (h : PairAt H r b) : Dp K H (.ref r) (pD b) := by
  obtain ⟨q1, q2, e, a1, a2⟩ := h
  exact .tup (SqT.of e) (.cons a1.dp (.cons a2.dp .nil))
theorem nb {p : Prop} [Decidable p] : (!decide p) = true ↔ ¬ p := by simp
section
variable {P : Program} {w : World} {K : PySem.W.Frag} {mg : Str → Option Value} {base : Heap}
end
end Sq

set_option Elab.async false
set_option linter.all false
set_option maxRecDepth 100000
set_option maxHeartbeats 4000000
/-! The law's done; odd cells. -/
namespace Sq
open PySem PySem.Spec PyProof.Rows L2
def spLDone : Sp := fun vs H Q _ => ∃ (t p q : Addr) (L : List Cell) (s e : Cell), vs = [.ref t, .ref p, .ref q] ∧ CellsT H t L ∧ L.length ≤ 1000 ∧ At H p s ∧ At H q e ∧ ∀ r H' cs, Same H H' → CellsT H' r cs → cs.Perm (without L s ++ [e]) → Asc cs → Q (.ref r) H'
/-- x is no cell, and can be compared -/
structure OddQ (K : PySem.W.Frag) (H : Hp) (x : V) (d : PyData) : Prop where
  cq : CellQ K H x false
  dp : Dp K H x d
  ly : Lay 3 d
theorem OddQ.ek {K : PySem.W.Frag} {H G : Hp} {x : V} {d : PyData} (h : OddQ K H x d) (k : Ek H G) : OddQ K G x d := ⟨h.cq.ek k, k.dp _ _ h.dp, h.ly⟩
theorem pen_ek {H H' : Hp} {p : Addr} {n : Nat} (hp : PenAt H p n) (h : Kp [p] H H') : Ek H H' := fun b o _ n2 e => h b o (fun m => by
  obtain ⟨c, zs, i, dg, fo, e2, _⟩ := hp.ex
  rw [List.mem_singleton.mp m, e2] at e
  exact n2 _ (Option.some.inj e).symm) e
theorem pen_tabs {Ts : List Addr} {H H' : Hp} {p : Addr} {n : Nat} (hp : PenAt H p n) (h : Kp [p] H H') (tb : TabsG Ts H) : TabsG Ts H' := fun T m => by
  obtain ⟨ps, e, t⟩ := tb T m
  refine ⟨ps, h T _ (fun mm => ?_) e, t⟩
  obtain ⟨c, zs, i, dg, fo, e2, _⟩ := hp.ex
  rw [List.mem_singleton.mp mm, e2] at e
  cases e
/-- what a pen's def does -/
theorem kp_pick {H H' : Hp} {p : Addr} (h : ∀ b, b ≠ p → H' b = H b) : Kp [p] H H' := Kp.but (List.mem_singleton.mpr rfl) h
def AllOdd (K : PySem.W.Frag) (H : Hp) (xs : List V) : Prop := ∀ x ∈ xs, ∃ d, OddQ K H x d
theorem AllOdd.more {K : PySem.W.Frag} {H G : Hp} {xs : List V} {x : V} {d : PyData} (h : AllOdd K H xs) (k : Same H G) (o : OddQ K G x d) : AllOdd K G (x :: xs) := fun y hy => (List.mem_cons.mp hy).elim (fun e => ⟨d, e ▸ o⟩) fun m => by
  obtain ⟨d, z⟩ := h y m
  exact ⟨d, z.ek (.of k)⟩
theorem AllOdd.same {K : PySem.W.Frag} {H G : Hp} {xs : List V} (h : AllOdd K H xs) (k : Same H G) : AllOdd K G xs := fun y m => by
  obtain ⟨d, z⟩ := h y m
  exact ⟨d, z.ek (.of k)⟩
section
variable {P : Program} {w : World} {K : PySem.W.Frag} {mg : Str → Option Value} {base : Heap}
end
end Sq

set_option Elab.async false
set_option linter.all false
set_option maxRecDepth 100000
set_option maxHeartbeats 4000000
/-! The law's blobs. -/
namespace Sq
open PySem PySem.Spec PyProof.Rows L2
/-- the state of a blob that grows: known and counts, and so on -/
structure Bb (H : Hp) (p ce kn co : Addr) (i : Nat) (A Cs : List Cell) (n : Nat) (G : Hp) : Prop where
  pen : PenAt G p n
  kp : Kp [p] H G
  gc : CellsL G ce A
  gk : G kn = some (.dT (lotK A))
  go : ∃ kvs, G co = some (.dT kvs) ∧ IntD kvs Cs
  nd : A.Nodup
  hangs : Hangs A
  ndC : Cs.Nodup
  len : A.length = i + 1
  sub : ∀ x ∈ Cs, ∃ a ∈ A, x ∈ besideC a
  hd : A.head? = some (0, 0)
theorem Bb.ek {H : Hp} {p ce kn co : Addr} {i n n' : Nat} {A Cs : List Cell} {G G1 : Hp} (I : Bb H p ce kn co i A Cs n G) (k : Kp [p] G G1) (hp : PenAt G1 p n') : Bb H p ce kn co i A Cs n' G1 := by
  have ek := pen_ek I.pen k
  obtain ⟨kvs, e, d⟩ := I.go
  exact ⟨hp, I.kp.trans k, I.gc.ek ek, ek.dT I.gk, ⟨kvs, ek.dT e, d⟩, I.nd, I.hangs, I.ndC, I.len, I.sub, I.hd⟩
theorem eqv_nil (F : List Cell) : PyData.eqv (.list (F.map cD)) (.list []) = decide (F = []) := by
  cases F with
  | nil => rfl
  | cons x xs => rw [decide_eq_false (by simp)]; rfl
theorem lay_cells {F : List Cell} : Lay 2 (.list (F.map cD)) := lay_list fun d hd => by
  obtain ⟨c, _, rfl⟩ := List.mem_map.mp hd
  exact lay_cell c
section
variable {P : Program} {w : World} {K : PySem.W.Frag} {mg : Str → Option Value} {base : Heap}
end
end Sq

set_option Elab.async false
set_option linter.all false
set_option maxRecDepth 100000
set_option maxHeartbeats 4000000
/-! The law's ways. -/
namespace Sq
open PySem PySem.Spec PyProof.Rows L2
/-- each cell lies beside the one ahead of it -/
def Path (A : List Cell) : Prop := ∀ i a b, A[i]? = some a → A[i + 1]? = some b → b ∈ besideC a
theorem Path.take {A : List Cell} (h : Path A) (n : Nat) : Path (A.take n) := fun i a b ha hb => by
  have l1 := (List.getElem?_eq_some_iff.mp hb).1
  rw [List.length_take] at l1
  rw [List.getElem?_take_of_lt (by omega)] at ha hb
  exact h i a b ha hb
theorem Path.snoc {A : List Cell} {c x : Cell} (h : Path (A ++ [c])) (hx : x ∈ besideC c) : Path (A ++ [c] ++ [x]) := fun i a b ha hb => by
  have l1 := (List.getElem?_eq_some_iff.mp hb).1
  rw [List.length_append] at l1
  have l1 : i + 1 < (A ++ [c]).length + 1 := l1
  by_cases e : i + 1 < (A ++ [c]).length
  · rw [List.getElem?_append_left e] at hb
    rw [List.getElem?_append_left (by omega)] at ha
    exact h i a b ha hb
  · have e1 : i + 1 = (A ++ [c]).length := by omega
    rw [List.getElem?_append_left (by omega)] at ha
    rw [e1] at hb
    have e2 : ((A ++ [c]) ++ [x])[(A ++ [c]).length]? = some x := by simp
    rw [e2] at hb
    have e3 : i = A.length := by rw [List.length_append] at e1; simp at e1; exact e1
    rw [e3] at ha
    have e4 : (A ++ [c])[A.length]? = some c := by simp
    rw [e4] at ha
    rw [← Option.some.inj ha, ← Option.some.inj hb]
    exact hx
theorem path_hangs : ∀ (n : Nat) {A : List Cell}, A.length = n + 1 → Path A → Hangs A
  | 0, A, l, _ => by
    match A, l with
    | [c], _ => exact hangs_one c
  | n + 1, A, l, p => by
    obtain ⟨B, x, rfl⟩ := snoc_inv (xs := A) (fun z => by rw [z] at l; cases l)
    have lB : B.length = n + 1 := by rw [List.length_append] at l; simp at l; exact l
    obtain ⟨C, c, rfl⟩ := snoc_inv (xs := B) (fun z => by rw [z] at lB; cases lB)
    have pB : Path (C ++ [c]) := by
      have := p.take (C ++ [c]).length
      rwa [List.take_left] at this
    refine hangs_snoc (path_hangs n lB pB) (a := c) (by simp) (p C.length c x ?_ ?_)
    · rw [List.getElem?_append_left (by simp)]
      simp
    · have e : C.length + 1 = (C ++ [c]).length := by simp
      rw [e]
      simp
theorem Path.hangs {A : List Cell} (p : Path A) (ne : A ≠ []) : Hangs A := by
  cases A with
  | nil => exact absurd rfl ne
  | cons c A => exact path_hangs A.length rfl p
section
variable {P : Program} {w : World} {K : PySem.W.Frag} {mg : Str → Option Value} {base : Heap}
end
end Sq

set_option Elab.async false
set_option linter.all false
set_option maxRecDepth 100000
set_option maxHeartbeats 4000000
/-! Lists of cells each of which lies beside one ahead of it. -/
namespace Sq
open PySem PySem.Spec PyProof.Rows L2
def Grown (A : List Cell) : Prop := ∀ i b, A[i + 1]? = some b → ∃ j a, j ≤ i ∧ A[j]? = some a ∧ b ∈ besideC a
theorem Path.grown {A : List Cell} (h : Path A) : Grown A := fun i b hb => by
  have l := (List.getElem?_eq_some_iff.mp hb).1
  exact ⟨i, A[i], Nat.le_refl _, List.getElem?_eq_getElem (by omega), h i _ b (List.getElem?_eq_getElem (by omega)) hb⟩
theorem Grown.take {A : List Cell} (h : Grown A) (n : Nat) : Grown (A.take n) := fun i b hb => by
  have l := (List.getElem?_eq_some_iff.mp hb).1
  rw [List.length_take] at l
  rw [List.getElem?_take_of_lt (by omega)] at hb
  obtain ⟨j, a, hj, ha, hb⟩ := h i b hb
  exact ⟨j, a, hj, by rw [List.getElem?_take_of_lt (by omega)]; exact ha, hb⟩
theorem Grown.snoc {A : List Cell} {a x : Cell} (h : Grown A) (ha : a ∈ A) (hx : x ∈ besideC a) : Grown (A ++ [x]) := fun i b hb => by
  have l := (List.getElem?_eq_some_iff.mp hb).1
  rw [List.length_append] at l
  have l : i + 1 < A.length + 1 := l
  by_cases e : i + 1 < A.length
  · rw [List.getElem?_append_left e] at hb
    obtain ⟨j, c, hj, hc, hb⟩ := h i b hb
    exact ⟨j, c, hj, by rw [List.getElem?_append_left (by omega)]; exact hc, hb⟩
  · have e1 : i + 1 = A.length := by omega
    rw [e1] at hb
    have e2 : (A ++ [x])[A.length]? = some x := by simp
    rw [e2] at hb
    obtain ⟨j, hj⟩ := List.mem_iff_getElem?.mp ha
    have lj := (List.getElem?_eq_some_iff.mp hj).1
    exact ⟨j, a, by omega, by rw [List.getElem?_append_left lj]; exact hj, by rw [← Option.some.inj hb]; exact hx⟩
theorem grown_hangs : ∀ (n : Nat) {A : List Cell}, A.length = n + 1 → Grown A → Hangs A
  | 0, A, l, _ => by
    match A, l with
    | [c], _ => exact hangs_one c
  | n + 1, A, l, g => by
    obtain ⟨B, x, rfl⟩ := snoc_inv (xs := A) (fun z => by rw [z] at l; cases l)
    have lB : B.length = n + 1 := by rw [List.length_append] at l; simp at l; exact l
    have gB : Grown B := by
      have := g.take B.length
      rwa [List.take_left] at this
    have hx : (B ++ [x])[n + 1]? = some x := by rw [← lB]; simp
    obtain ⟨j, a, hj, ha, hb⟩ := g n x hx
    rw [List.getElem?_append_left (by omega)] at ha
    exact hangs_snoc (grown_hangs n lB gB) (List.mem_of_getElem? ha) hb
theorem Grown.hangs {A : List Cell} (p : Grown A) (ne : A ≠ []) : Hangs A := by
  cases A with
  | nil => exact absurd rfl ne
  | cons c A => exact grown_hangs A.length rfl p
theorem cut_take (xs : List V) (k : Nat) : cutV xs none (some (k : Int)) = xs.take k := by
  unfold cutV
  rw [HT.sIx_none, HT.sIx_nat, List.drop_zero, Nat.sub_zero]
  by_cases h : k ≤ xs.length
  · rw [Nat.min_eq_left h]
  · rw [Nat.min_eq_right (by omega), List.take_length, List.take_of_length_le (by omega)]
theorem CellsL.cut {H : Hp} {qs : List Addr} {cs : List Cell} (pr : Paired (fun q c => At H q c) qs cs) (k : Nat) : Paired (fun q c => At H q c) (qs.take k) (cs.take k) := by
  induction pr generalizing k with
  | nil =>
    rw [List.take_nil, List.take_nil]
    exact .nil
  | cons h _ ih =>
    cases k with
    | zero => exact .nil
    | succ k => exact .cons h (ih k)
end Sq

set_option Elab.async false
set_option linter.all false
set_option maxRecDepth 100000
set_option maxHeartbeats 4000000
/-! The law's lists of cells. -/
namespace Sq
open PySem PySem.Spec PyProof.Rows L2
section
variable {P : Program} {w : World} {K : PySem.W.Frag} {mg : Str → Option Value} {base : Heap}
end
end Sq

set_option Elab.async false
set_option linter.all false
set_option maxRecDepth 100000
set_option maxHeartbeats 4000000
/-! The law's bodies. -/
namespace Sq
open PySem PySem.Spec PyProof.Rows L2
theorem hangs_map {A : List Cell} {g : Cell → Cell} (k : ∀ a b, b ∈ besideC a → g b ∈ besideC (g a)) (h : Hangs A) : Hangs (A.map g) := by
  have r : ∀ {a b : Cell}, Reach A a b → Reach (A.map g) (g a) (g b) := fun {a b} z => by
    induction z with
    | refl => exact .refl
    | step _ hb hc ih => exact ih.step (k _ _ hb) (List.mem_map.mpr ⟨_, hc, rfl⟩)
  refine ⟨fun z => h.1 (List.map_eq_nil_iff.mp z), fun x hx y hy => ?_⟩
  obtain ⟨a, ha, rfl⟩ := List.mem_map.mp hx
  obtain ⟨b, hb, rfl⟩ := List.mem_map.mp hy
  exact r (h.2 a ha b hb)
theorem paired_memL {α β : Type} {F : α → β → Prop} {xs : List α} {ys : List β} (h : Paired F xs ys) : ∀ x ∈ xs, ∃ y ∈ ys, F x y := by
  induction h with
  | nil => intro y hy; cases hy
  | cons a _ ih =>
    intro y hy
    rcases List.mem_cons.mp hy with z | z
    · exact ⟨_, List.mem_cons_self .., z ▸ a⟩
    · obtain ⟨x, hx, f⟩ := ih y z
      exact ⟨x, List.mem_cons_of_mem _ hx, f⟩
section
variable {P : Program} {w : World} {K : PySem.W.Frag} {mg : Str → Option Value} {base : Heap}
end
end Sq

set_option Elab.async false
set_option linter.all false
set_option maxRecDepth 100000
set_option maxHeartbeats 4000000
/-! The search in depth, as it runs. -/
namespace Sq
open PySem PySem.Spec PyProof.Rows L2
/-- all tuples stay -/
def Tk (H G : Hp) : Prop := ∀ b xs, H b = some (.tup xs) → G b = some (.tup xs)
theorem Tk.of {H G : Hp} (h : Same H G) : Tk H G := fun b xs e => h b _ e
theorem Tk.trans {H G I : Hp} (h : Tk H G) (k : Tk G I) : Tk H I := fun b xs e => k b xs (h b xs e)
theorem Tk.refl {H : Hp} : Tk H H := fun _ _ e => e
theorem tk_upd {H : Hp} {a : Addr} {o o' : HO} (e : H a = some o) (n : ∀ xs, o ≠ .tup xs) : Tk H (upd H a o') := fun b xs q => by
  rw [upd_ne (fun z => by rw [z, e] at q; exact n xs (Option.some.inj q))]
  exact q
theorem At.tk {H G : Hp} {q : Addr} {c : Cell} (h : At H q c) (k : Tk H G) : At G q c := k _ _ h
/-- the value that stands for what led to a cell -/
def TwV (H : Hp) (v : V) : Option Cell → Prop
  | none => v = .non
  | some y => ∃ q, v = .ref q ∧ At H q y
theorem TwV.tk {H G : Hp} {v : V} {o : Option Cell} (h : TwV H v o) (k : Tk H G) : TwV G v o := by
  cases o with
  | none => exact h
  | some y =>
    obtain ⟨q, e, a⟩ := h
    exact ⟨q, e, a.tk k⟩
def TwL (H : Hp) (kvs : List (List Key × V)) (T : List TwigC) : Prop := Paired (fun p t => p.1 = cK t.1 ∧ TwV H p.2 t.2) kvs T
theorem TwL.tk {H G : Hp} {kvs : List (List Key × V)} {T : List TwigC} (h : TwL H kvs T) (k : Tk H G) : TwL G kvs T := paired_imp (fun _ _ z => ⟨z.1, z.2.tk k⟩) h
def EntA (H : Hp) (q : Addr) (t : TwigC) : Prop := ∃ b v, H q = some (.tup [.ref b, v]) ∧ At H b t.1 ∧ TwV H v t.2
theorem EntA.tk {H G : Hp} {q : Addr} {t : TwigC} (h : EntA H q t) (k : Tk H G) : EntA G q t := by
  obtain ⟨b, v, e, a, w⟩ := h
  exact ⟨b, v, k _ _ e, a.tk k, w.tk k⟩
section
variable {P : Program} {w : World} {K : PySem.W.Frag} {mg : Str → Option Value} {base : Heap}
end
end Sq

set_option Elab.async false
set_option linter.all false
set_option maxRecDepth 100000
set_option maxHeartbeats 4000000
/-! The least numbers that are met, as they are told. -/
namespace Sq
open PySem PySem.Spec PyProof.Rows L2
def lowV (T : List TwigC) (low : Cell → Nat) (v w : Cell) : Nat := if (w, some v) ∈ T then low w else numT T w
def LowAt (L : List Cell) (T : List TwigC) (low : Cell → Nat) (v : Cell) : Prop := (∀ w ∈ L, w ∈ besideC v → low v ≤ lowV T low v w) ∧ (low v = numT T v ∨ ∃ w ∈ L, w ∈ besideC v ∧ low v = lowV T low v w)
def putL (low : Cell → Nat) (c : Cell) (m : Nat) : Cell → Nat := fun x => if x = c then m else low x
theorem putL_same {low : Cell → Nat} {c : Cell} {m : Nat} : putL low c m c = m := if_pos rfl
theorem putL_other {low : Cell → Nat} {c x : Cell} {m : Nat} (h : x ≠ c) : putL low c m x = low x := if_neg h
/-- told for the last i cells -/
structure LmI (L : List Cell) (T : List TwigC) (i : Nat) (lk : List (List Key × V)) (low : Cell → Nat) : Prop where
  val : ∀ v ∈ keysT T, (keysT T).length ≤ numT T v + i → valV lk (cK v) = some (.int (low v : Int))
  ok : ∀ v ∈ keysT T, (keysT T).length ≤ numT T v + i → LowAt L T low v
  len : lk.length ≤ i
theorem LmI.next {L : List Cell} {T : List TwigC} {i m : Nat} {lk : List (List Key × V)} {low : Cell → Nat} {c : Cell} (h : DTree L T) (I : LmI L T i lk low) (hc : c ∈ keysT T) (nc : numT T c + (i + 1) = (keysT T).length)
    (le : ∀ w ∈ L, w ∈ besideC c → m ≤ lowV T low c w) (at_ : m = numT T c ∨ ∃ w ∈ L, w ∈ besideC c ∧ m = lowV T low c w) : LmI L T (i + 1) (putK lk (cK c) (.int (m : Int))) (putL low c m) := by
  have cases1 : ∀ v ∈ keysT T, (keysT T).length ≤ numT T v + (i + 1) → v = c ∨ (v ≠ c ∧ (keysT T).length ≤ numT T v + i) := fun v hv l => by
    by_cases e : v = c
    · exact .inl e
    · refine .inr ⟨e, ?_⟩
      have : numT T v ≠ numT T c := fun z => e (num_inj hv hc z)
      omega
  have same : ∀ v ∈ keysT T, numT T c ≤ numT T v → ∀ w, lowV T (putL low c m) v w = lowV T low v w := fun v hv l w => by
    unfold lowV
    by_cases z : (w, some v) ∈ T
    · rw [if_pos z, if_pos z]
      have t := (h.twig z).2.2.2
      have ne : w ≠ c := fun e => by rw [e] at t; omega
      exact putL_other ne
    · rw [if_neg z, if_neg z]
  refine ⟨fun v hv l => ?_, fun v hv l => ?_, ?_⟩
  · rcases cases1 v hv l with rfl | ⟨ne, l⟩
    · rw [putL_same, valV_put, if_pos rfl]
    · rw [putL_other ne, valV_put, if_neg (fun e => ne (cK_inj e))]
      exact I.val v hv l
  · rcases cases1 v hv l with rfl | ⟨ne, l⟩
    · refine ⟨fun w hw b => ?_, ?_⟩
      · rw [same v hv (Nat.le_refl _), putL_same]
        exact le w hw b
      · rw [putL_same]
        rcases at_ with e | ⟨w, hw, b, e⟩
        · exact .inl e
        · exact .inr ⟨w, hw, b, by rw [same v hv (Nat.le_refl _)]; exact e⟩
    · have l2 : numT T c ≤ numT T v := by omega
      obtain ⟨a1, a2⟩ := I.ok v hv l
      refine ⟨fun w hw b => ?_, ?_⟩
      · rw [same v hv l2, putL_other ne]
        exact a1 w hw b
      · rw [putL_other ne]
        rcases a2 with e | ⟨w, hw, b, e⟩
        · exact .inl e
        · exact .inr ⟨w, hw, b, by rw [same v hv l2]; exact e⟩
  · exact Nat.le_trans (length_putK _ _ _) (Nat.succ_le_succ I.len)
theorem LmI.all {L : List Cell} {T : List TwigC} {lk : List (List Key × V)} {low : Cell → Nat} (I : LmI L T (keysT T).length lk low) : LowOk L T low :=
  ⟨fun v hv => (I.ok v hv (Nat.le_add_left _ _)).1, fun v hv => (I.ok v hv (Nat.le_add_left _ _)).2⟩
section
variable {P : Program} {w : World} {K : PySem.W.Frag} {mg : Str → Option Value} {base : Heap}
end
end Sq

set_option Elab.async false
set_option linter.all false
set_option maxRecDepth 100000
set_option maxHeartbeats 4000000
/-! Into how many parts the rest falls, as it is told. -/
namespace Sq
open PySem PySem.Spec PyProof.Rows L2
theorem for_w {J : It} {n : Nat} {Gd : Hp → Prop} {Y : Nat → Hp → V → Hp → Prop} (wk : Walk J n Gd Y) {g : TG} {tb : TS} {D : Ends} {σ : L2.St} {H : Hp} (Pv : Nat → L2.St → Hp → Prop) (h0 : Pv 0 σ H) (hG : ∀ i σ H, i ≤ n → Pv i σ H → Gd H)
    (hs : ∀ i x σ H H', i < n → Pv i σ H → Y i H x H' → g x σ H' fun σ2 H2 => tb { D with nx := Pv (i + 1), ct := Pv (i + 1), bk := D.nx } σ2 H2) (hd : ∀ σ H, Pv n σ H → D.nx σ H) :
    ∃ W : Nat → Nat → L2.St → Hp → Prop, (∃ m, W 0 m σ H) ∧ ∀ i m σ H, W i m σ H →
      (J.stop i H ∧ D.nx σ H) ∨ (J.go i H ∧ ∃ N : L2.St → Hp → Prop, (∀ σ' H', N σ' H' → ∃ m', m' < m ∧ W (i + 1) m' σ' H') ∧ ∀ v H', J.yld i H v H' → g v σ H' fun σ2 H2 => tb { D with nx := N, ct := N, bk := D.nx } σ2 H2) := by
  refine ⟨fun i m σ H => m = n - i ∧ i ≤ n ∧ Pv i σ H, ⟨n, rfl, Nat.zero_le _, h0⟩, ?_⟩
  rintro i m σ H ⟨rfl, hi, p⟩
  by_cases lt : i < n
  · exact .inr ⟨wk.goes i H lt (hG i σ H hi p), Pv (i + 1), fun σ' H' p' => ⟨n - (i + 1), by omega, rfl, lt, p'⟩, fun x H' y => hs i x σ H H' lt p (wk.yields i H x H' lt (hG i σ H hi p) y)⟩
  · have e : i = n := by omega
    subst e
    exact .inl ⟨wk.stops H (hG i σ H hi p), hd σ H p⟩
/-- all but what stands at d stays -/
def KpD (d : Addr) (H G : Hp) : Prop := ∀ b o, b ≠ d → H b = some o → G b = some o
theorem KpD.at {d : Addr} {H G : Hp} (k : KpD d H G) {u : HO} (hd : H d = some u) (nu : ∀ xs, u ≠ .tup xs) : Tk H G := fun b xs e => k b _ (fun z => by rw [z, hd] at e; exact nu xs (Option.some.inj e)) e
theorem KpD.put {d D : Addr} {H G : Hp} {o : HO} (k : KpD d H G) (h : H D = none) : KpD d H (upd G D o) := fun b u nb e => by
  rw [upd_ne (ne_of_none e h)]
  exact k b u nb e
theorem KpD.new {d t : Addr} {H G : Hp} {o : HO} (k : KpD d H G) (h : G t = none) : KpD d H (upd G t o) := fun b u nb e => by
  have := k b u nb e
  rw [upd_ne (ne_of_none this h)]
  exact this
theorem KpD.back {d : Addr} {H G : Hp} {u : HO} (k : KpD d H G) (hd : H d = some u) : Same H (upd G d u) := fun b o e => by
  by_cases z : b = d
  · subst z
    rw [upd_same]
    exact hd.symm.trans e
  · rw [upd_ne z]
    exact k b o z e
section
variable {P : Program} {w : World} {K : PySem.W.Frag} {mg : Str → Option Value} {base : Heap}
end
end Sq

set_option Elab.async false
set_option linter.all false
set_option maxRecDepth 100000
set_option maxHeartbeats 4000000
/-! Free squares, cut squares, neighbours. -/
namespace Sq
open PySem PySem.Spec PyProof.Rows L2
section
variable {P : Program} {w : World} {K : PySem.W.Frag} {mg : Str → Option Value} {base : Heap}
end
end Sq

set_option Elab.async false
set_option linter.all false
set_option maxRecDepth 100000
set_option maxHeartbeats 4000000
/-! moves_of. -/
namespace Sq
open PySem PySem.Spec PyProof.Rows L2
/-- the module's eight steps -/
def stepL : List Cell := [(-1, -1), (-1, 0), (-1, 1), (0, -1), (0, 1), (1, -1), (1, 0), (1, 1)]
theorem around_steps (c : Cell) : aroundC c = stepL.map fun d => (c.1 + d.1, c.2 + d.2) := by
  simp [aroundC, stepL, Int.sub_eq_add_neg]
theorem asc_same {A M : List Cell} (nA : A.Nodup) (nM : M.Nodup) (sa : Asc A) (sm : Asc M) (mem : ∀ x, x ∈ A ↔ x ∈ M) : A = M :=
  List.Perm.eq_of_pairwise (le := fun x y => cLt y x = false) (fun x y _ _ h k => cLt_tri k h) sa sm ((List.perm_ext_iff_of_nodup nA nM).mpr mem)
def endsC (L : List Cell) (s : Cell) : List Cell := (aroundC s).filter fun e => !decide (byPlace L s e = .non)
def movesC (L F : List Cell) : List (Cell × Cell) := F.flatMap fun s => (endsC L s).map fun e => (s, e)
theorem PairAt.keep {H G : Hp} {p : Addr} {m : Cell × Cell} (h : PairAt H p m) (k : Tk H G) : PairAt G p m := by
  obtain ⟨x, y, e, ax, ay⟩ := h
  exact ⟨x, y, k _ _ e, k _ _ ax, k _ _ ay⟩
def PairsT (H : Hp) (t : Addr) (ms : List (Cell × Cell)) : Prop := ∃ ps : List Addr, H t = some (.tup (ps.map V.ref)) ∧ Paired (fun p m => PairAt H p m) ps ms
theorem KT.put {Ts : List Addr} {H G : Hp} {D : Addr} {xs : List V} {o : HO} (k : KT Ts H G) (hD : H D = none) (gD : G D = some (.lst xs)) : KT Ts H (upd G D o) := by
  refine ⟨fun b u n e => ?_, k.tb, fun T m => ?_⟩
  · by_cases z : b = D
    · rw [z, hD] at e
      cases e
    · rw [upd_ne z]
      exact k.kp b u n e
  · obtain ⟨ps, e, t⟩ := k.tb' T m
    refine ⟨ps, ?_, t⟩
    by_cases z : T = D
    · rw [z, gD] at e
      cases e
    · rw [upd_ne z]
      exact e
section
variable {P : Program} {w : World} {K : PySem.W.Frag} {mg : Str → Option Value} {base : Heap} {Ts : List Addr}
end
end Sq

set_option Elab.async false
set_option linter.all false
set_option maxRecDepth 100000
set_option maxHeartbeats 4000000
/-! The law's moves. -/
namespace Sq
open PySem PySem.Spec PyProof.Rows L2
section
variable {X : Cx}
end
/-- a comprehension whose items are pairs of cells -/
theorem lc_pairs {J : It} {n : Nat} {Gd : Hp → Prop} {Y : Nat → Hp → V → Hp → Prop} (w : Walk J n Gd Y) {g : TG} {tt : TT} {te : TE} {vs : List Nat} {σ : L2.St} {H1 : Hp} {D : Addr} {Qd : Hp → Prop} (hD : H1 D = none) (res : Nat → List CellP) (r0 : res 0 = []) (hn : n ≤ 1000000)
    (hG : ∀ i G, i ≤ n → Same H1 G → Gd G)
    (hs : ∀ i x G G' (K1 : V → Hp → Prop) (K0 : Hp → Prop), i < n → Same H1 G → Y i G x G' → (∀ r c H4, Same G H4 → PairAt H4 r c → res (i + 1) = res i ++ [c] → K1 (.ref r) H4) → (∀ H3, Same G H3 → res (i + 1) = res i → K0 H3) →
      g x (wipe σ vs) G' fun σ2 H2 => wipe σ2 vs = wipe σ vs ∧ tt σ2 H2 fun b H3 => if b = true then te σ2 H3 K1 else K0 H3)
    (hd : ∀ G rs, Same H1 G → G D = some (.lst (rs.map V.ref)) → Paired (fun q c => PairAt G q c) rs (res n) → Qd G) :
    ∃ W : Nat → Nat → Hp → Prop, (∃ m, W 0 m (upd H1 D (.lst []))) ∧ ∀ i m H, W i m H →
      (J.stop i H ∧ Qd H) ∨ (J.go i H ∧ ∃ Nx : Hp → Prop, (∀ H', Nx H' → ∃ m', m' < m ∧ W (i + 1) m' H') ∧ ∀ x H', J.yld i H x H' → g x (wipe σ vs) H' fun σ2 H2 => wipe σ2 vs = wipe σ vs ∧ tt σ2 H2 fun b H3 =>
        if b = true then te σ2 H3 fun y H4 => ∃ acc, H4 D = some (.lst acc) ∧ acc.length < sizeLine ∧ Nx (upd H4 D (.lst (acc ++ [y]))) else Nx H3) := by
  refine lc_it w (fun i G => Same H1 G ∧ ∃ rs : List Addr, G D = some (.lst (rs.map V.ref)) ∧ rs.length ≤ i ∧ Paired (fun q c => PairAt G q c) rs (res i)) ⟨?_, [], upd_same, Nat.le_refl _, by rw [r0]; exact .nil⟩ (fun i G hi p => hG i G hi p.1) ?_ ?_
  · exact same_put same_refl hD
  · rintro i x G G' hi ⟨sm, rs, gD, ln, pr⟩ y
    refine hs i x G G' _ _ hi sm y (fun r c H4 s4 a4 e => ?_) (fun H3 s3 e => ?_)
    · refine ⟨_, s4 _ _ gD, by rw [List.length_map, sizeLine_eq]; omega, same_put (sm.trans s4) hD, rs ++ [r], by rw [upd_same, List.map_append]; rfl, by rw [List.length_append]; exact Nat.succ_le_succ ln, ?_⟩
      have off : ∀ {q : Addr} {c : CellP}, PairAt H4 q c → PairAt (upd H4 D (.lst (rs.map V.ref ++ [V.ref r]))) q c := fun h => h.off (s4 _ _ gD) (by intro xs z; cases z)
      rw [e]
      exact (paired_imp (fun _ _ h => off (h.same s4)) pr).snoc (off a4)
    · refine ⟨sm.trans s3, rs, s3 _ _ gD, Nat.le_succ_of_le ln, ?_⟩
      rw [e]
      exact paired_imp (fun _ _ h => h.same s3) pr
  · rintro G ⟨sm, rs, gD, _, pr⟩
    exact hd G rs sm gD pr
theorem filt_snoc {L : List Cell} {p : Cell → Bool} {i : Nat} {c : Cell} (h : L[i]? = some c) (hp : p c = true) : (L.take (i + 1)).filter p = (L.take i).filter p ++ [c] := by
  rw [take_snoc h, List.filter_append]
  simp only [List.filter_cons, hp, if_true, List.filter_nil]
theorem filt_skip {L : List Cell} {p : Cell → Bool} {i : Nat} {c : Cell} (h : L[i]? = some c) (hp : p c ≠ true) : (L.take (i + 1)).filter p = (L.take i).filter p := by
  rw [take_snoc h, List.filter_append]
  simp only [List.filter_cons, hp, if_false, List.filter_nil, List.append_nil]
  simp
theorem eqv_nilD (ds : List PyData) : PyData.eqv (.list ds) (.list []) = decide (ds = []) := by
  cases ds with
  | nil => rfl
  | cons x xs => rw [decide_eq_false (by simp)]; rfl
def PairsL (H : Hp) (t : Addr) (ms : List CellP) : Prop := ∃ ps : List Addr, H t = some (.lst (ps.map V.ref)) ∧ Paired (fun p m => PairAt H p m) ps ms
/-- one start after the other -/
theorem moves_step {L : List Cell} {i : Nat} {s : Cell} (h : L[i]? = some s) : movesC L ((L.take (i + 1)).filter fun c => hangsB (without L c)) = movesC L ((L.take i).filter fun c => hangsB (without L c)) ++ (if hangsB (without L s) = true then (endsC L s).map fun e => (s, e) else []) := by
  rw [take_snoc h, List.filter_append]
  unfold movesC
  rw [List.flatMap_append]
  by_cases c : hangsB (without L s) = true
  · rw [if_pos c]
    simp [List.filter_cons, c]
  · rw [if_neg c]
    simp [List.filter_cons, c]
section
variable {P : Program} {w : World} {K : PySem.W.Frag} {mg : Str → Option Value} {base : Heap}
end
end Sq

set_option Elab.async false
set_option linter.all false
set_option maxRecDepth 100000
set_option maxHeartbeats 4000000
/-! sorted of a lot of cells; is_body. -/
namespace Sq
open PySem PySem.Spec PyProof.Rows L2
theorem iteN {c : Prop} [Decidable c] {p q : Prop} (h : ¬c) (k : q) : if c then p else q := by
  rw [if_neg h]
  exact k
theorem asc_one {A M : List Cell} (h : A.Perm M) (sa : Asc A) (sm : Asc M) : A = M :=
  List.Perm.eq_of_pairwise (le := fun x y => cLt y x = false) (fun x y _ _ h k => cLt_tri k h) sa sm h
/-- is_body of an ascending tuple of cells, none twice -/
def spIsBody (Ts : List Addr) : Sp := fun vs H Q _ => ∃ (t : Addr) (L : List Cell), vs = [.ref t] ∧ CellsT H t L ∧ L.Nodup ∧ Asc L ∧ L.length ≤ 1000 ∧ TabsG Ts H ∧ ∀ H', KT Ts H H' → Q (.bl (hangsB L)) H'
section
variable {P : Program} {w : World} {K : PySem.W.Frag} {mg : Str → Option Value} {base : Heap}
theorem scIB : FnScope ["value", "item", "lot"] ["value"] (defScope gIsBody) := ⟨rfl, rfl, rfl, by decide +kernel, rfl, by decide +kernel, by decide +kernel⟩
theorem ok_isBody {f c T : Addr} {Ts : List Addr} {fd : FuncData} (F : FunC K "is_body" "is_body" (defArgs gIsBody) (defBody gIsBody) (defScope gIsBody) c f fd) (TB : GxR.TabB base mg c T) (mT : T ∈ Ts) (B : Bl mg) (gA : mg "all" = none) (DI : Df P w K mg base CX0 2 "is_cell" ["value"] (spIsCell K)) (DL : Df P w K mg base CX0 2 "lot_of" ["cells"] spLot) (DH : Df P w K mg base CX0 4 "lot_hangs" ["lot"] spHangs) :
    FnOk P w K mg base CX0 5 f fd ["value"] (spIsBody Ts) := by
  refine F.ok scIB (fun vs H Q E h => ?_) (fun A outer s H vs Q E hr h => ?_)
  · obtain ⟨t, L, rfl, _⟩ := h
    rfl
  · obtain ⟨t, L, rfl, ct, nL, asc, lL, tg, k⟩ := h
    have h64 := room64 hr
    have hu := hu_of hr
    refine ⟨_, PSs.nox (pss_cons (ps_if (PW.pt (pw_or (pt_not (pt_val (pe_callB call_isi (by rfl) B.isinstance PyProof.Rows.boot_isinstance (pa_cons (pv 0) (pa_cons (pe_bltn (v := .ty "tuple") (by rfl) B.tuple PyProof.Rows.boot_tuple rfl) pa_nil)))))
        (pw_or1 (pt_not (pt_val (pe_allG (X := (cxOf CX0 P w K mg base ["value", "item", "lot"] "is_body" (defScope gIsBody) f (.ref c) A outer s H E).nox) (own := [("item", 1)]) (g := gName 1) (tt := tYes) (k := 2) rfl (hr.mono (by decide)) scIB.nd TB rfl ⟨blkOk_by (N := ["value", "item", "lot"]) (sc := defScope gIsBody) (by decide +kernel), rfl, by decide +kernel, by decide +kernel⟩ (pi_tup (pv 0))
        (fun _ _ _ _ _ _ _ => pg_name (i := 1) scIB.nd rfl (Or.inl rfl)) (fun _ _ _ _ _ _ _ _ => pts_nil)
        (fun _ _ _ _ _ _ _ hr1 => pe_df DI hr1 (by rfl) pass0 (pa_cons (pv 1) pa_nil))
        (fun _ => rfl) (by rfl) gA))))))
      (pss_one (ps_ret pe_bl))
      pss_nil)
      (pss_cons (ps_set (i := 2) scIB.nd rfl (.inl rfl) (pe_df DL hr (by rfl) pass0 (pa_cons (pv 0) pa_nil)))
      (pss_one (ps_ret (pe_and (pe_cmpR (op_eqK (K := K) rfl h64) (pe_callTy call_list_of (by rfl) B.list PyProof.Rows.boot_list (pa_cons (pv 0) pa_nil)) (pe_callB (cr_sortedDct rfl) (by rfl) B.sorted (by decide +kernel) (pa_cons (pv 2) pa_nil)) (nomark _)) (pe_one (pe_df DH hr (by rfl) pass0 (pa_cons (pv 2) pa_nil)))))))), ?_⟩
    obtain ⟨qs, et, pr⟩ := id ct
    have lq : qs.length = L.length := Paired.length pr
    refine ⟨_, rfl, _, _, _, _, _, rfl, .ty "tuple", (Kd.tup (K := K) et).ty, kd_isi (T := "tuple") (by decide) (by decide), _, rfl, ?_⟩
    refine ⟨_, rfl, t, rfl, ⟨_, SqT.of et⟩, tg T mT, fun H2 tb => ?_⟩
    refine gen_it (walk_tup (K := K) (a := t) (xs := qs.map V.ref)) (fun i G => KT Ts H G) (.tabbed tg mT tb) (fun i G _ p => SqT.of (p.tup et)) ?_ ?_
    · rintro i x G G' hi kp ⟨rfl, hx⟩
      rw [List.getElem?_map] at hx
      obtain ⟨q, hq, rfl⟩ := Option.map_eq_some_iff.mp hx
      obtain ⟨e, he, ae⟩ := paired_get pr hq
      exact ⟨rfl, yesT ⟨_, rfl, .ref q, true, rfl, .cell (kp.at ae), ⟨true, rfl, iteN (by simp) kp⟩⟩⟩
    · rintro G kp
      have ctG : CellsT G t L := ⟨qs, kp.tup et, paired_imp (fun _ _ h => kp.at h) pr⟩
      refine ⟨_, rfl, ?_⟩
      refine ⟨_, rfl, t, L, rfl, ctG, nL, lL, fun d H1 s1 hd ed => ?_⟩
      have kp1 := kp.same s1
      have ct1 := ctG.ek (.of s1)
      refine ⟨_, rfl, t, _, rfl, .inr (SqT.of (kp1.tup et)), fun l hl => ?_⟩
      have s2 := same_new (o := .lst (qs.map V.ref)) hl
      refine ⟨_, rfl, d, L, rfl, s2 _ _ ed, fun p qs' cs' pr' pm asc' hp => ?_⟩
      have s3 := same_new (o := .lst (qs'.map V.ref)) hp
      have e1 : cs' = L := asc_one pm asc' asc
      subst e1
      have pl1 : Paired (fun q c => At (upd (upd H1 l (.lst (qs.map V.ref))) p (.lst (qs'.map V.ref))) q c) qs cs' := paired_imp (fun _ _ h => s3 _ _ (s2 _ _ (kp1.at h))) pr
      refine ⟨.list (cs'.map cD), .list (cs'.map cD), CellsL.dp ⟨qs, s3 _ _ upd_same, pl1⟩, CellsL.dp ⟨qs', upd_same, paired_imp (fun _ _ h => s3 _ _ h) pr'⟩, lay_cells.shaped (by decide), lay_cells.shaped (by decide), _, rfl, ?_⟩
      rw [SeqAt.eqv_refl _ (SeqAt.canLay_of_shaped (lay_cells.shaped (by decide)))]
      refine ite2 (fun _ => ?_) (fun h => absurd rfl h)
      exact ⟨_, rfl, d, cs', rfl, s3 _ _ (s2 _ _ ed), nL, lL, fun H9 s9 => k H9 (((kp1.same s2).same s3).same s9)⟩
end
end Sq

set_option Elab.async false
set_option linter.all false
set_option maxRecDepth 100000
set_option maxHeartbeats 4000000
/-! in, for a pair of cells and a tuple of such pairs. -/
namespace Sq
open PySem PySem.Spec PyProof.Rows L2
theorem pairs_dps {K : PySem.W.Frag} {H : Hp} : ∀ {ps : List Addr} {ms : List CellP}, Paired (fun p m => PairAt H p m) ps ms → DpAll K H (ps.map V.ref) (ms.map pD)
  | _, _, .nil => .nil
  | _, _, .cons h t => .cons h.dp (pairs_dps t)
theorem PairsT.dp {K : PySem.W.Frag} {H : Hp} {t : Addr} {ms : List CellP} (h : PairsT H t ms) : Dp K H (.ref t) (.tuple (ms.map pD)) := by
  obtain ⟨ps, e, pr⟩ := h
  exact .tup (SqT.of e) (pairs_dps pr)
theorem PairsL.dp {K : PySem.W.Frag} {H : Hp} {t : Addr} {ms : List CellP} (h : PairsL H t ms) : Dp K H (.ref t) (.list (ms.map pD)) := by
  obtain ⟨ps, e, pr⟩ := h
  exact .lst (SqL.of e) (pairs_dps pr)
/-- a pair is a move just if its square is free and its place tells a kind -/
theorem mem_moves {L : List Cell} {s e : Cell} : (s, e) ∈ movesC L (L.filter fun c => hangsB (without L c)) ↔ s ∈ L ∧ e ∈ aroundC s ∧ hangsB (without L s) = true ∧ byPlace L s e ≠ .non := by
  unfold movesC endsC
  simp only [List.mem_flatMap, List.mem_map, List.mem_filter, Prod.mk.injEq]
  constructor
  · rintro ⟨s', ⟨h1, h2⟩, e', ⟨h3, h4⟩, rfl, rfl⟩
    exact ⟨h1, h3, h2, by simpa using h4⟩
  · rintro ⟨h1, h3, h2, h4⟩
    exact ⟨s, ⟨h1, h2⟩, e, ⟨h3, by simpa using h4⟩, rfl, rfl⟩
end Sq

set_option Elab.async false
set_option linter.all false
set_option maxRecDepth 100000
set_option maxHeartbeats 4000000
/-! What a move is, as mathematics. -/
namespace Sq
open PySem PySem.Spec PyProof.Rows L2
theorem abs_one {i : Int} : absI i = 1 ↔ i = 1 ∨ i = -1 := by
  unfold absI
  split <;> omega
theorem abs_zero {i : Int} : absI i = 0 ↔ i = 0 := by
  unfold absI
  split <;> omega
theorem abs_nn (i : Int) : 0 ≤ absI i := by
  unfold absI
  split <;> omega
/-- what lies behind a kind -/
structure IsMv (L : List Cell) (s e : Cell) : Prop where
  sL : s ∈ L
  eL : e ∉ L
  ar : e ∈ aroundC s
  near : ∃ a ∈ without L s, e ∈ besideC a
theorem around_iff {s e : Cell} : e ∈ aroundC s ↔ (e.1 - s.1 = -1 ∨ e.1 - s.1 = 0 ∨ e.1 - s.1 = 1) ∧ (e.2 - s.2 = -1 ∨ e.2 - s.2 = 0 ∨ e.2 - s.2 = 1) ∧ ¬ (e.1 = s.1 ∧ e.2 = s.2) := by
  obtain ⟨e1, e2⟩ := e
  obtain ⟨s1, s2⟩ := s
  simp only [aroundC, List.mem_cons, List.not_mem_nil, or_false, Prod.mk.injEq]
  omega
theorem byPlace_is {L : List Cell} {s e : Cell} (h : byPlace L s e ≠ .non) : IsMv L s e := by
  obtain ⟨sL, eL⟩ := byPlace_mem h
  have key : e ∈ aroundC s ∧ ∃ a ∈ without L s, e ∈ besideC a := by
    unfold byPlace at h
    rw [if_neg (by simp [sL, eL])] at h
    obtain ⟨e1, e2⟩ := e
    obtain ⟨s1, s2⟩ := s
    by_cases c1 : absI (e1 - s1) + absI (e2 - s2) = 1
    · rw [if_pos c1] at h
      have hs : slidesB L (s1, s2) (e1, e2) = true := by
        refine Classical.byContradiction fun n => h ?_
        rw [if_neg n]
      have n1 := abs_nn (e1 - s1)
      have n2 := abs_nn (e2 - s2)
      have cs : (e1 - s1 = 0 ∧ (e2 - s2 = 1 ∨ e2 - s2 = -1)) ∨ ((e1 - s1 = 1 ∨ e1 - s1 = -1) ∧ e2 - s2 = 0) := by
        by_cases z : absI (e1 - s1) = 0
        · exact .inl ⟨abs_zero.mp z, abs_one.mp (by omega)⟩
        · exact .inr ⟨abs_one.mp (by omega), abs_zero.mp (by omega)⟩
      refine ⟨around_iff.mpr ⟨?_, ?_, ?_⟩, ?_⟩
      · simp only
        omega
      · simp only
        omega
      · simp only
        omega
      · unfold slidesB sideB at hs
        simp only [Bool.or_eq_true, Bool.and_eq_true, decide_eq_true_eq] at hs
        rcases hs with ⟨_, hm⟩ | ⟨_, hm⟩
        · refine ⟨_, mem_without.mpr ⟨hm, fun z => ?_⟩, bes (by omega)⟩
          obtain ⟨z1, z2⟩ := Prod.mk.inj z
          omega
        · refine ⟨_, mem_without.mpr ⟨hm, fun z => ?_⟩, bes (by omega)⟩
          obtain ⟨z1, z2⟩ := Prod.mk.inj z
          omega
    · rw [if_neg c1] at h
      by_cases c2 : absI (e1 - s1) = 1 ∧ absI (e2 - s2) = 1
      · rw [if_pos c2] at h
        have hs : turnsB L (s1, s2) (e1, e2) = true := by
          refine Classical.byContradiction fun n => h ?_
          rw [if_neg n]
        have d1 := abs_one.mp c2.1
        have d2 := abs_one.mp c2.2
        refine ⟨around_iff.mpr ⟨?_, ?_, ?_⟩, ?_⟩
        · simp only
          omega
        · simp only
          omega
        · simp only
          omega
        · have hm : (s1, e2) ∈ L ∨ (e1, s2) ∈ L := by
            unfold turnsB at hs
            by_cases m : (s1, e2) ∈ L
            · exact .inl m
            · by_cases m2 : (e1, s2) ∈ L
              · exact .inr m2
              · simp [m, m2] at hs
          rcases hm with hm | hm
          · refine ⟨_, mem_without.mpr ⟨hm, fun z => ?_⟩, bes (by omega)⟩
            obtain ⟨z1, z2⟩ := Prod.mk.inj z
            omega
          · refine ⟨_, mem_without.mpr ⟨hm, fun z => ?_⟩, bes (by omega)⟩
            obtain ⟨z1, z2⟩ := Prod.mk.inj z
            omega
      · rw [if_neg c2] at h
        exact absurd rfl h
  exact ⟨sL, eL, key.1, key.2⟩
theorem kind_ne {L : List Cell} {s e : Cell} : kindV L s e ≠ .non ↔ byPlace L s e ≠ .non ∧ hangsB (without L s) = true := by
  unfold kindV
  constructor
  · intro h
    refine ⟨fun z => h (by rw [if_pos (.inl z)]), ?_⟩
    refine Classical.byContradiction fun n => h ?_
    rw [if_pos (.inr (Bool.eq_false_iff.mpr n))]
  · rintro ⟨h1, h2⟩
    rw [if_neg (fun z => z.elim h1 fun y => by rw [h2] at y; cases y)]
    exact h1
/-- just the pairs with a kind are moves -/
theorem moves_kind {L : List Cell} {s e : Cell} : (s, e) ∈ movesC L (L.filter fun c => hangsB (without L c)) ↔ kindV L s e ≠ .non := by
  rw [mem_moves, kind_ne]
  constructor
  · exact fun h => ⟨h.2.2.2, h.2.2.1⟩
  · intro h
    have m := byPlace_is h.1
    exact ⟨m.sL, m.ar, h.2, h.1⟩
/-- behind a move the body hangs together, and has as many squares -/
theorem behind {L cs : List Cell} {s e : Cell} (nL : L.Nodup) (h : kindV L s e ≠ .non) (pm : cs.Perm (without L s ++ [e])) : Hangs cs ∧ cs.Nodup ∧ cs.length = L.length := by
  obtain ⟨h1, h2⟩ := kind_ne.mp h
  obtain ⟨sL, eL, ar, a, ha, hb⟩ := byPlace_is h1
  have hh : Hangs (without L s ++ [e]) := hangs_snoc (hangsB_iff.mp h2) ha hb
  have nd : (without L s ++ [e]).Nodup := List.nodup_append.mpr ⟨nL.sublist List.filter_sublist, by simp, fun a ha b hb => by
    rw [List.mem_singleton.mp hb]
    exact fun z => eL (z ▸ (mem_without.mp ha).1)⟩
  refine ⟨(hangs_perm fun x => pm.mem_iff).mpr hh, pm.nodup_iff.mpr nd, ?_⟩
  rw [pm.length_eq, List.length_append]
  have l1 : (without L s).length + 1 = L.length := by
    have p1 : L.Perm (s :: without L s) := by
      refine (List.perm_ext_iff_of_nodup nL (List.nodup_cons.mpr ⟨fun m => (mem_without.mp m).2 rfl, nL.sublist List.filter_sublist⟩)).mpr fun x => ?_
      rw [List.mem_cons, mem_without]
      by_cases z : x = s
      · subst z
        simp [sL]
      · simp [z]
    have := p1.length_eq
    rw [List.length_cons] at this
    omega
  exact l1
theorem KT.pen {Ts : List Addr} {H G : Hp} {p : Addr} {n : Nat} (k : KT Ts H G) (h : PenAt H p n) : PenAt G p n := by
  obtain ⟨c, zs, i, dg, fo, e1, e2, r⟩ := h.ex
  exact ⟨⟨c, zs, i, dg, fo, k.get e1 (fun _ z => nomatch z), k.get e2 (fun _ z => nomatch z), r⟩⟩
theorem moves_len (L : List Cell) : ∀ F : List Cell, (movesC L F).length ≤ 8 * F.length
  | [] => Nat.le_refl _
  | c :: F => by
    have ih := moves_len L F
    have e : movesC L (c :: F) = ((endsC L c).map fun e => (c, e)) ++ movesC L F := rfl
    have l8 : (endsC L c).length ≤ 8 := Nat.le_trans (List.length_filter_le ..) (Nat.le_refl 8)
    rw [e, List.length_append, List.length_map, List.length_cons]
    omega
theorem PairAt.ek {H G : Hp} {p : Addr} {m : CellP} (h : PairAt H p m) (k : Ek H G) : PairAt G p m := by
  obtain ⟨x, y, e, ax, ay⟩ := h
  exact ⟨x, y, k.tup e, k.at ax, k.at ay⟩
theorem PairsT.ek {H G : Hp} {t : Addr} {ms : List CellP} (h : PairsT H t ms) (k : Ek H G) : PairsT G t ms := by
  obtain ⟨ps, e, pr⟩ := h
  exact ⟨ps, k.tup e, paired_imp (fun _ _ a => PairAt.ek a k) pr⟩
theorem PairsL.ek {H G : Hp} {t : Addr} {ms : List CellP} (h : PairsL H t ms) (k : Ek H G) : PairsL G t ms := by
  obtain ⟨ps, e, pr⟩ := h
  exact ⟨ps, k.lst e, paired_imp (fun _ _ a => PairAt.ek a k) pr⟩
theorem ne_same {v : V} (h : scal v v = true) {H : Hp} {Q : VK} (q : Q (.bl false) H) : rNe v v H Q := ⟨h, by rw [decide_eq_true rfl]; exact q⟩
theorem ne_eq {i j : Int} (h : i = j) {H : Hp} {Q : VK} (q : Q (.bl false) H) : rNe (.int i) (.int j) H Q := by
  subst h
  exact ne_same rfl q
end Sq

set_option Elab.async false
set_option linter.all false
set_option maxRecDepth 100000
set_option maxHeartbeats 4000000
/-! is_move_in: whether a pair of a plan is a move. -/
namespace Sq
open PySem PySem.Spec PyProof.Rows L2
/-- a value: a cell, or none -/
def CellO (K : PySem.W.Frag) (H : Hp) (x : V) : Option Cell → Prop
  | none => CellQ K H x false
  | some c => ∃ p, x = .ref p ∧ At H p c
theorem CellO.ek {K : PySem.W.Frag} {H G : Hp} {x : V} {o : Option Cell} (h : CellO K H x o) (k : Ek H G) : CellO K G x o := by
  cases o with
  | none => exact CellQ.ek (show CellQ K H x false from h) k
  | some c =>
    obtain ⟨p, e, a⟩ := h
    exact ⟨p, e, k.at a⟩
/-- what is_cell says of it -/
theorem CellO.q {K : PySem.W.Frag} {H : Hp} {x : V} {o : Option Cell} (h : CellO K H x o) : CellQ K H x o.isSome := by
  cases o with
  | none => exact h
  | some c =>
    obtain ⟨p, rfl, a⟩ := h
    exact .cell a
abbrev MvO := Option Cell × Option Cell
/-- a pair of a plan -/
def MvAt (K : PySem.W.Frag) (H : Hp) (q : Addr) (m : MvO) : Prop := ∃ x y, H q = some (.tup [x, y]) ∧ CellO K H x m.1 ∧ CellO K H y m.2
theorem MvAt.ek {K : PySem.W.Frag} {H G : Hp} {q : Addr} {m : MvO} (h : MvAt K H q m) (k : Ek H G) : MvAt K G q m := by
  obtain ⟨x, y, e, a, b⟩ := h
  exact ⟨x, y, k.tup e, a.ek k, b.ek k⟩
/-- whether it is a move -/
noncomputable def moveB (L : List Cell) : MvO → Bool
  | (some a, some b) => !decide (kindV L a b = .non)
  | _ => false
def spMoveIn (K : PySem.W.Frag) (Ts : List Addr) : Sp := fun vs H Q _ => ∃ (d q : Addr) (L : List Cell) (m : MvO), vs = [.ref d, .ref q] ∧ H d = some (.dT (lotK L)) ∧ L.Nodup ∧ L.length ≤ 1000 ∧ Hangs L ∧ MvAt K H q m ∧ TabsG Ts H ∧ ∀ H', KT Ts H H' → Q (.bl (moveB L m)) H'
section
variable {P : Program} {w : World} {K : PySem.W.Frag} {mg : Str → Option Value} {base : Heap} {Ts : List Addr}
theorem scMi : FnScope ["lot", "pair"] ["lot", "pair"] (defScope gIsMoveIn) := ⟨rfl, rfl, rfl, by decide +kernel, rfl, by decide +kernel, by decide +kernel⟩
theorem ok_moveIn {f : Addr} {fd : FuncData} (F : FnP K "is_move_in" gIsMoveIn f fd) (B : Bl mg) (DI : Df P w K mg base CX0 2 "is_cell" ["value"] (spIsCell K)) (DPl : Df P w K mg base CX0 1 "plain_cell" ["cell"] spPlain) (Dk : Df P w K mg base CX0 5 "kind_in" ["lot", "start", "end"] (spKindIn Ts)) :
    FnOk P w K mg base CX0 6 f fd ["lot", "pair"] (spMoveIn K Ts) := by
  refine F.ok scMi (fun vs H Q E h => ?_) (fun cdv A outer s H vs Q E hr h => ?_)
  · obtain ⟨d, q, L, m, rfl, _⟩ := h
    rfl
  · obtain ⟨d, q, L, ⟨o1, o2⟩, rfl, ed, nL, lL, hang, ⟨x, y, eq, cx, cy⟩, tg, k⟩ := h
    have cx : CellO K H x o1 := cx
    have cy : CellO K H y o2 := cy
    refine ⟨_, PSs.nox (pss_cons (ps_if (PW.pt (pw_or (pt_not (pt_val (pe_callB call_isi (by rfl) B.isinstance PyProof.Rows.boot_isinstance (pa_cons (pv 1) (pa_cons (pe_bltn (v := .ty "tuple") (by rfl) B.tuple PyProof.Rows.boot_tuple rfl) pa_nil))))) (pw_or1 (pt_cmpR op_ne (pe_callB call_len_seq (by rfl) B.len PySem.boot_len (pa_cons (pv 1) pa_nil)) pe_int (nomark _)))))
      (pss_one (ps_ret pe_bl))
      pss_nil)
      (pss_cons (ps_if (PW.pt (pw_or (pt_not (pt_val (pe_df DI hr (by rfl) pass0 (pa_cons (pe_ix (ix_tupK (K := K) rfl) (pv 1) pe_int (fun _ _ => rfl)) pa_nil)))) (pw_or1 (pt_not (pt_val (pe_df DI hr (by rfl) pass0 (pa_cons (pe_ix (ix_tupK (K := K) rfl) (pv 1) pe_int (fun _ _ => rfl)) pa_nil)))))))
      (pss_one (ps_ret pe_bl))
      pss_nil)
      (pss_one (ps_ret (pe_cmpR op_notN (pe_df Dk hr (by rfl) pass0 (pa_cons (pv 0) (pa_cons (pe_df DPl hr (by rfl) pass0 (pa_cons (pe_ix (ix_tupK (K := K) rfl) (pv 1) pe_int (fun _ _ => rfl)) pa_nil)) (pa_cons (pe_df DPl hr (by rfl) pass0 (pa_cons (pe_ix (ix_tupK (K := K) rfl) (pv 1) pe_int (fun _ _ => rfl)) pa_nil)) pa_nil)))) pe_non (nomark _)))))), ?_⟩
    refine ⟨_, rfl, _, _, _, _, _, rfl, .ty "tuple", (Kd.tup (K := K) eq).ty, kd_isi (T := "tuple") (by decide) (by decide), _, rfl, iteF ?_⟩
    refine ⟨_, rfl, q, _, rfl, .inr (SqT.of eq), rfl, _, rfl, iteN (by simp) ?_⟩
    refine ⟨_, rfl, _, _, _, _, rfl, rfl, SqT.of eq, at0, x, o1.isSome, rfl, cx.q, _, rfl, ?_⟩
    cases o1 with
    | none => exact iteT (k H (.refl tg))
    | some a =>
      refine iteF ⟨_, rfl, _, _, _, _, rfl, rfl, SqT.of eq, at1, y, o2.isSome, rfl, cy.q, _, rfl, ?_⟩
      cases o2 with
      | none => exact iteT (k H (.refl tg))
      | some b =>
        refine iteF ?_
        obtain ⟨p1, rfl, a1⟩ := cx
        obtain ⟨p2, rfl, a2⟩ := cy
        refine ⟨_, rfl, _, rfl, _, _, _, _, rfl, rfl, SqT.of eq, at0, p1, a, rfl, a1, fun r1 hr1 => ?_⟩
        have s1 := same_new (o := .tup (cV a)) hr1
        refine ⟨_, rfl, _, _, _, _, rfl, rfl, SqT.of (s1 _ _ eq), at1, p2, b, rfl, s1 _ _ a2, fun r2 hr2 => ?_⟩
        have s2 := same_new (o := .tup (cV b)) hr2
        have s12 := s1.trans s2
        refine ⟨d, r1, r2, L, a, b, rfl, s12 _ _ ed, nL, lL, hang, s2 _ _ upd_same, upd_same, tg.same s12, fun H' k' => ⟨rfl, ?_⟩⟩
        exact k H' ((KT.of tg s12).trans k')
end
end Sq

set_option Elab.async false
set_option linter.all false
set_option maxRecDepth 100000
set_option maxHeartbeats 4000000
/-! first_wrong. -/
namespace Sq
open PySem PySem.Spec PyProof.Rows L2
/-- the lot behind a pair -/
def stepC (L : List Cell) : MvO → List Cell
  | (some a, some b) => without L a ++ [b]
  | _ => L
/-- the lot ahead of the pair at i -/
def lotAt (L : List Cell) (ms : List MvO) (i : Nat) : List Cell := (ms.take i).foldl stepC L
theorem lotAt_succ {L : List Cell} {ms : List MvO} {i : Nat} {m : MvO} (h : ms[i]? = some m) : lotAt L ms (i + 1) = stepC (lotAt L ms i) m := by
  unfold lotAt
  rw [take_snoc h, List.foldl_append]
  rfl
theorem step_ok {L : List Cell} {m : MvO} (nL : L.Nodup) (h : moveB L m = true) : ∃ a b, m = (some a, some b) ∧ kindV L a b ≠ .non ∧ Hangs (stepC L m) ∧ (stepC L m).Nodup ∧ (stepC L m).length = L.length := by
  obtain ⟨o1, o2⟩ := m
  cases o1 with
  | none => cases h
  | some a =>
    cases o2 with
    | none => cases h
    | some b =>
      have kn : kindV L a b ≠ .non := by simpa [moveB] using h
      exact ⟨a, b, rfl, kn, behind nL kn (.refl _)⟩
/-- none of the first n pairs is wrong -/
def GoodTo (L : List Cell) (ms : List MvO) (n : Nat) : Prop := ∀ j m, j < n → ms[j]? = some m → moveB (lotAt L ms j) m = true
def WrongIs (L : List Cell) (ms : List MvO) : Option Nat → Prop
  | none => GoodTo L ms ms.length
  | some i => GoodTo L ms i ∧ ∃ m, ms[i]? = some m ∧ moveB (lotAt L ms i) m = false
theorem good_lot {L : List Cell} {ms : List MvO} (nL : L.Nodup) (hL : Hangs L) : ∀ {n : Nat}, n ≤ ms.length → GoodTo L ms n → Hangs (lotAt L ms n) ∧ (lotAt L ms n).Nodup ∧ (lotAt L ms n).length = L.length
  | 0, _, _ => ⟨hL, nL, rfl⟩
  | n + 1, hn, g => by
    obtain ⟨h1, h2, h3⟩ := good_lot nL hL (n := n) (by omega) fun j m hj hm => g j m (by omega) hm
    have hm : ms[n]? = some ms[n] := List.getElem?_eq_getElem (by omega)
    obtain ⟨a, b, _, _, q1, q2, q3⟩ := step_ok h2 (g n _ (Nat.lt_succ_self n) hm)
    rw [lotAt_succ hm]
    exact ⟨q1, q2, by rw [q3, h3]⟩
def oV : Option Nat → V
  | none => .non
  | some i => .int (i : Int)
/-- a plan: a list or a tuple of pairs -/
def PlanAt (K : PySem.W.Frag) (H : Hp) (pl : Addr) (ms : List MvO) : Prop := ∃ qs : List Addr, (H pl = some (.lst (qs.map V.ref)) ∨ H pl = some (.tup (qs.map V.ref))) ∧ Paired (fun q m => MvAt K H q m) qs ms
theorem PlanAt.ek {K : PySem.W.Frag} {H G : Hp} {pl : Addr} {ms : List MvO} (h : PlanAt K H pl ms) (k : Ek H G) : PlanAt K G pl ms := by
  obtain ⟨qs, e, pr⟩ := h
  exact ⟨qs, e.elim (fun e => .inl (k.lst e)) fun e => .inr (k.tup e), paired_imp (fun _ _ h => h.ek k) pr⟩
def spFirstWrong (K : PySem.W.Frag) (Ts : List Addr) : Sp := fun vs H Q _ => ∃ (t pl : Addr) (L : List Cell) (ms : List MvO), vs = [.ref t, .ref pl] ∧ CellsT H t L ∧ L.Nodup ∧ L.length ≤ 1000 ∧ Hangs L ∧ PlanAt K H pl ms ∧ ms.length ≤ 100000 ∧ TabsG Ts H ∧ ∀ H' o, KT Ts H H' → WrongIs L ms o → Q (oV o) H'
section
variable {P : Program} {w : World} {K : PySem.W.Frag} {mg : Str → Option Value} {base : Heap} {Ts : List Addr}
theorem scFw : FnScope ["body", "plan", "lot", "index", "pair"] ["body", "plan"] (defScope gFirstWrong) := ⟨rfl, rfl, rfl, by decide +kernel, rfl, by decide +kernel, by decide +kernel⟩
theorem ok_firstWrong {f : Addr} {fd : FuncData} (F : FnP K "first_wrong" gFirstWrong f fd) (gE : mg "enumerate" = none) (DL : Df P w K mg base CX0 2 "lot_of" ["cells"] spLot) (DM : Df P w K mg base CX0 6 "is_move_in" ["lot", "pair"] (spMoveIn K Ts)) (DPl : Df P w K mg base CX0 1 "plain_cell" ["cell"] spPlain) (Dp : Df P w K mg base CX0 1 "put" ["lot", "start", "end"] spPut) :
    FnOk P w K mg base CX0 7 f fd ["body", "plan"] (spFirstWrong K Ts) := by
  refine F.ok scFw (fun vs H Q E h => ?_) (fun cdv A outer s H vs Q E hr h => ?_)
  · obtain ⟨t, pl, L, ms, rfl, _⟩ := h
    rfl
  · obtain ⟨t, pl, L, ms, rfl, ct, nL, lL, hang, ⟨qs, epl, prm⟩, lms, tg, k⟩ := h
    have lq : qs.length = ms.length := Paired.length prm
    refine ⟨_, PSs.nox (pss_cons (ps_set (i := 2) scFw.nd rfl (.inl rfl) (pe_df DL hr (by rfl) pass0 (pa_cons (pv 0) pa_nil)))
      (pss_cons (ps_for PassesOwn.never rfl (PI.or (pi_enum (by rfl) gE (pa_cons (pv 1) pa_nil)) (pi_enumU (by rfl) gE (pa_cons (pv 1) pa_nil))) (pg_tup (by rfl) (pgs_cons (pg_name (i := 3) scFw.nd rfl (.inl rfl)) (pgs_cons (pg_name (i := 4) scFw.nd rfl (.inl rfl)) pgs_nil)))
      (pss_cons (ps_if (pt_not (pt_val (pe_df DM hr (by rfl) pass0 (pa_cons (pv 2) (pa_cons (pv 4) pa_nil)))))
      (pss_one (ps_ret (pv 3)))
      pss_nil)
      (pss_one (ps_expr (pe_df Dp hr (by rfl) pass0 (pa_cons (pv 2) (pa_cons (pe_df DPl hr (by rfl) pass0 (pa_cons (pe_ix (ix_tupK (K := K) rfl) (pv 4) pe_int (fun _ _ => rfl)) pa_nil)) (pa_cons (pe_df DPl hr (by rfl) pass0 (pa_cons (pe_ix (ix_tupK (K := K) rfl) (pv 4) pe_int (fun _ _ => rfl)) pa_nil)) pa_nil))))))))
      (pss_one (ps_ret pe_non)))), ?_⟩
    refine ⟨_, rfl, t, L, rfl, ct, nL, lL, fun d H1 s1 hd ed => ?_⟩
    have k1 := KT.of tg s1
    have h0 : ∃ v3 v4 : Option V, ([some (.ref t), some (.ref pl), some (.ref d), none, none] : L2.St) = [some (.ref t), some (.ref pl), some (.ref d), v3, v4] ∧ KT Ts H H1 ∧ H1 d = some (.dT (lotK (lotAt L ms 0))) ∧ GoodTo L ms 0 := ⟨_, _, rfl, k1, ed, fun j m hj => absurd hj (Nat.not_lt_zero _)⟩
    refine epl.elim (fun e => .inl ⟨_, rfl, pl, _, rfl, SqL.of (s1 _ _ e), for_it walk_enumL (fun i σ G => ∃ v3 v4 : Option V, σ = [some (.ref t), some (.ref pl), some (.ref d), v3, v4] ∧ KT Ts H G ∧ G d = some (.dT (lotK (lotAt L ms i))) ∧ GoodTo L ms i) h0 (fun i σ G _ ⟨_, _, _, kt, _⟩ => SqL.of (kt.lst e)) ?_ ?_⟩)
      (fun e => .inr ⟨_, rfl, pl, _, rfl, s1 _ _ e, for_it walk_enumU (fun i σ G => ∃ v3 v4 : Option V, σ = [some (.ref t), some (.ref pl), some (.ref d), v3, v4] ∧ KT Ts H G ∧ G d = some (.dT (lotK (lotAt L ms i))) ∧ GoodTo L ms i) h0 (fun i σ G _ ⟨_, _, _, kt, _⟩ => kt.tup e) ?_ ?_⟩)
    iterate 2
      · rintro i x σ G G' hi ⟨v3, v4, rfl, kt, gd, good⟩ ⟨u, y, hy, rfl, hu, rfl⟩
        rw [List.length_map, lq] at hi
        rw [List.getElem?_map] at hy
        obtain ⟨q, hq, rfl⟩ := Option.map_eq_some_iff.mp hy
        obtain ⟨m, hm, am⟩ := paired_get prm hq
        obtain ⟨hgM, ndM, lM⟩ := good_lot nL hang (Nat.le_of_lt hi) good
        have s2 := same_new (o := .tup [.int ((i : Nat) : Int), .ref q]) hu
        have kt2 := kt.same s2
        have gd2 := s2 _ _ gd
        refine ⟨u, _, rfl, SqT.of upd_same, rfl, _, _, rfl, _, _, rfl, rfl, ?_⟩
        refine ⟨_, rfl, _, rfl, d, q, _, m, rfl, gd2, ndM, by rw [lM]; exact lL, hgM, am.ek kt2.ek, kt2.tb', fun G3 k3 => ⟨_, rfl, ?_⟩⟩
        have kt3 := kt2.trans k3
        have gd3 := k3.lot gd2
        refine ite2 (fun h1 => ?_) (fun h1 => ?_)
        · have h1 : moveB (lotAt L ms i) m = false := by simpa using h1
          exact ⟨_, rfl, k G3 (some i) kt3 ⟨good, m, hm, h1⟩⟩
        · have h1 : moveB (lotAt L ms i) m = true := by simpa using h1
          obtain ⟨a, b, rfl, kn, _, _, _⟩ := step_ok ndM h1
          obtain ⟨x1, x2, eq, ⟨p1, rfl, a1⟩, ⟨p2, rfl, a2⟩⟩ := am.ek kt3.ek
          have ip := byPlace_is (kind_ne.mp kn).1
          refine ⟨_, rfl, _, rfl, _, _, _, _, rfl, rfl, SqT.of eq, at0, p1, a, rfl, a1, fun r1 hr1 => ?_⟩
          have u1 := same_new (o := .tup (cV a)) hr1
          refine ⟨_, rfl, _, _, _, _, rfl, rfl, SqT.of (u1 _ _ eq), at1, p2, b, rfl, u1 _ _ a2, fun r2 hr2 => ?_⟩
          have u2 := same_new (o := .tup (cV b)) hr2
          have u12 := u1.trans u2
          have kt4 := kt3.same u12
          have gd4 := u12 _ _ gd3
          refine ⟨d, r1, r2, _, a, b, rfl, gd4, ndM, by rw [lM]; exact lL, ip.sL, ip.eL, u2 _ _ upd_same, upd_same, ?_⟩
          refine ⟨_, _, rfl, ?_, ?_, ?_⟩
          · refine ⟨kt4.kp.put hd, kt4.tb, fun T mT => ?_⟩
            obtain ⟨ps, e, tt⟩ := kt4.tb' T mT
            refine ⟨ps, ?_, tt⟩
            rw [upd_ne (fun z => by rw [z, gd4] at e; cases e)]
            exact e
          · rw [upd_same, lotAt_succ hm]
            rfl
          · intro j m' hj hm'
            rcases Nat.lt_succ_iff_lt_or_eq.mp hj with h | h
            · exact good j m' h hm'
            · subst h
              rw [hm] at hm'
              have := Option.some.inj hm'
              subst this
              exact h1
      · rintro σ G ⟨v3, v4, rfl, kt, gd, good⟩
        rw [List.length_map, lq] at good
        exact k G none kt good
end
end Sq

set_option Elab.async false
set_option linter.all false
set_option maxRecDepth 100000
set_option maxHeartbeats 4000000
/-! checked_moves. -/
namespace Sq
open PySem PySem.Spec PyProof.Rows L2
/-- the pairs of cells of a plan -/
def cellsOf (ms : List MvO) : List CellP := ms.filterMap fun m => match m with
  | (some a, some b) => some (a, b)
  | _ => none
theorem cellsOf_snoc {ms : List MvO} {i : Nat} {a b : Cell} (h : ms[i]? = some (some a, some b)) : cellsOf (ms.take (i + 1)) = cellsOf (ms.take i) ++ [(a, b)] := by
  unfold cellsOf
  rw [take_snoc h, List.filterMap_append]
  rfl
def spCheckedM (K : PySem.W.Frag) (Ts : List Addr) (CN : Addr) : Sp := fun vs H Q E => ∃ (t pl : Addr) (L : List Cell) (ms : List MvO), vs = [.ref t, .ref pl] ∧ CellsT H t L ∧ L.Nodup ∧ L.length ≤ 1000 ∧ Hangs L ∧ PlanAt K H pl ms ∧ ms.length ≤ 100000 ∧ TabsG Ts H ∧
  (∀ i, WrongIs L ms (some i) → Way Ts H CN [("witness", .int (i : Int)), ("promise", .str "plan")] E) ∧ (GoodTo L ms ms.length → ∀ l H', KT Ts H H' → H l = none → PairsL H' l (cellsOf ms) → Q (.ref l) H')
section
variable {P : Program} {w : World} {K : PySem.W.Frag} {mg : Str → Option Value} {base : Heap} {Ts : List Addr}
theorem scCm : FnScope ["body", "plan", "wrong", "start", "end"] ["body", "plan"] (defScope gCheckedMoves) := ⟨rfl, rfl, rfl, by decide +kernel, rfl, by decide +kernel, by decide +kernel⟩
theorem ok_checkedM {f CN fN : Addr} {fd : FuncData} (F : FnP K "checked_moves" gCheckedMoves f fd) (DF : Df P w K mg base CX0 7 "first_wrong" ["body", "plan"] (spFirstWrong K Ts)) (DPl : Df P w K mg base CX0 1 "plain_cell" ["cell"] spPlain) (BN : ErrC P K mg "NotKept" CN fN ["promise", "witness"]) :
    FnOk P w K mg base (L2.CX P w) 8 f fd ["body", "plan"] (spCheckedM K Ts CN) := by
  refine F.ok scCm (fun vs H Q E h => ?_) (fun cdv A outer s H vs Q E hr h => ?_)
  · obtain ⟨t, pl, L, ms, rfl, _⟩ := h
    rfl
  · obtain ⟨t, pl, L, ms, rfl, ct, nL, lL, hang, pa, lms, tg, bad, k⟩ := h
    have hr1 : Room 1 _ := hr.mono (by decide)
    refine ⟨_, pss_cons (ps_set (i := 2) scCm.nd rfl (.inl rfl) (pe_df DF hr (by rfl) pass0 (pa_cons (pv 0) (pa_cons (pv 1) pa_nil))))
      (pss_cons (ps_if (pt_cmpR op_notN (pv 2) pe_non (nomark _))
      (pss_one (ps_raise rfl (takes_of rfl rfl rfl rfl) (pmk_err BN.s (raises_own BN.ex BN.ty) hr1 BN.g (pa_cons pe_str (pa_cons (pv 2) pa_nil)))))
      pss_nil)
      (pss_one (ps_ret (pe_lc (own := [("start", 3), ("end", 4)]) (g := gTup K 2 (gCons (gName 3) (gCons (gName 4) gNil))) (tt := tYes) rfl scCm.nd (PI.or (pi_list (pv 1)) (pi_tup (pv 1))) (blkOk_by (N := ["body", "plan", "wrong", "start", "end"]) (sc := defScope gCheckedMoves) (by decide +kernel)) (fun _ _ _ _ _ => (pg_tup (by rfl) (pgs_cons (pg_name (i := 3) scCm.nd rfl (Or.inl rfl)) (pgs_cons (pg_name (i := 4) scCm.nd rfl (Or.inl rfl)) pgs_nil)))) (fun _ _ _ _ _ => pts_nil) (fun _ _ _ _ _ => (pe_tup (pa_cons (pe_df DPl hr (by rfl) pass0 (pa_cons (pv 3) pa_nil)) (pa_cons (pe_df DPl hr (by rfl) pass0 (pa_cons (pv 4) pa_nil)) pa_nil)))))))), ?_⟩
    refine ⟨_, rfl, _, rfl, t, pl, L, ms, rfl, ct, nL, lL, hang, pa, lms, tg, fun G o kt wr => ?_⟩
    cases o with
    | some i =>
      refine ⟨_, rfl, rfl, _, rfl, iteT ?_⟩
      exact ⟨_, rfl, rfl, List.cons_ne_nil _ _, (bad i wr).from kt⟩
    | none =>
      refine ⟨_, rfl, rfl, _, rfl, iteF ?_⟩
      have good : GoodTo L ms ms.length := wr
      obtain ⟨qs, epl, prm⟩ := pa.ek kt.ek
      have lq : qs.length = ms.length := Paired.length prm
      have dest : ∀ j q, qs[j]? = some q → ∃ a b x1 x2, ms[j]? = some (some a, some b) ∧ G q = some (.tup [.ref x1, .ref x2]) ∧ At G x1 a ∧ At G x2 b := fun j q hq => by
        obtain ⟨m, hm, am⟩ := paired_get prm hq
        have hj : j < ms.length := (List.getElem?_eq_some_iff.mp hm).1
        obtain ⟨h1, h2, h3⟩ := good_lot nL hang (Nat.le_of_lt hj) fun u v hu hv => good u v (Nat.lt_trans hu hj) hv
        obtain ⟨a, b, rfl, _⟩ := step_ok h2 (good j m hj hm)
        obtain ⟨x, y, eq, ⟨x1, rfl, a1⟩, ⟨x2, rfl, a2⟩⟩ := am
        exact ⟨a, b, x1, x2, hm, eq, a1, a2⟩
      have fin : ∀ D, G D = none → ∀ G5 rs, Same G G5 → G5 D = some (.lst (rs.map V.ref)) → Paired (fun q c => PairAt G5 q c) rs (cellsOf (ms.take ms.length)) → Q (.ref D) G5 := fun D hD G5 rs s5 gD pr => by
        rw [List.take_length] at pr
        exact k good D G5 (kt.same s5) (kt.free hD) ⟨rs, gD, pr⟩
      refine epl.elim (fun e => .inl ⟨_, rfl, pl, rfl, ⟨_, SqL.of e⟩, fun D hD => lc_pairs (walk_list (K := K) (a := pl) (xs := qs.map V.ref)) hD (fun j => cellsOf (ms.take j)) rfl (by rw [List.length_map]; omega) (fun j G _ sm => SqL.of (sm _ _ e)) ?_ (by rw [List.length_map, lq]; exact fin D hD)⟩)
        (fun e => .inr ⟨_, rfl, pl, rfl, ⟨_, SqT.of e⟩, fun D hD => lc_pairs (walk_tup (K := K) (a := pl) (xs := qs.map V.ref)) hD (fun j => cellsOf (ms.take j)) rfl (by rw [List.length_map]; omega) (fun j G _ sm => SqT.of (sm _ _ e)) ?_ (by rw [List.length_map, lq]; exact fin D hD)⟩)
      all_goals
        rintro j x G2 G' K1 K0 hj sm ⟨rfl, hx⟩ k1 k0
        rw [List.getElem?_map] at hx
        obtain ⟨q, hq, rfl⟩ := Option.map_eq_some_iff.mp hx
        obtain ⟨a, b, x1, x2, hm, eq, a1, a2⟩ := dest j q hq
        refine ⟨q, _, rfl, SqT.of (sm _ _ eq), rfl, _, _, rfl, _, _, rfl, rfl, rfl, yesT ?_⟩
        refine ⟨_, rfl, x1, a, rfl, sm _ _ a1, fun q1 hq1 => ?_⟩
        have u1 := same_new (o := .tup (cV a)) hq1
        refine ⟨_, rfl, x2, b, rfl, u1 _ _ (sm _ _ a2), fun q2 hq2 => ?_⟩
        have u2 := same_new (o := .tup (cV b)) hq2
        refine ⟨two_le, fun m hm' => ?_⟩
        have u3 := same_new (o := .tup [.ref q1, .ref q2]) hm'
        exact k1 m (a, b) _ ((u1.trans u2).trans u3) ⟨q1, q2, upd_same, u3 _ _ (u2 _ _ upd_same), u3 _ _ upd_same⟩ (cellsOf_snoc hm)
end
end Sq

set_option Elab.async false
set_option linter.all false
set_option maxRecDepth 100000
set_option maxHeartbeats 4000000
/-! bodies_behind, bodies_of, end_of. -/
namespace Sq
open PySem PySem.Spec PyProof.Rows L2
theorem cellsT_tu {H G : Hp} {t : Addr} {L : List Cell} (h : CellsT H t L) (k : ∀ b xs, H b = some (.tup xs) → G b = some (.tup xs)) : CellsT G t L := by
  obtain ⟨qs, e, pr⟩ := h
  exact ⟨qs, k _ _ e, paired_imp (fun _ _ a => k _ _ a) pr⟩
theorem upd_tu {G : Hp} {d : Addr} {o o' : HO} (hd : G d = some o) (n : ∀ xs, o ≠ .tup xs) : ∀ b xs, G b = some (.tup xs) → upd G d o' b = some (.tup xs) := fun b xs e => by
  rw [upd_ne (fun z => by rw [z, hd] at e; exact n xs (Option.some.inj e))]
  exact e
/-- the bodies of a plan, up to the n-th -/
def BsOk (L : List Cell) (ms : List MvO) (n : Nat) (Bs : List (List Cell)) : Prop := Bs.length = n + 1 ∧ ∀ j B, Bs[j]? = some B → B.Perm (lotAt L ms j) ∧ Asc B
theorem BsOk.snoc {L B : List Cell} {ms : List MvO} {n : Nat} {Bs : List (List Cell)} (h : BsOk L ms n Bs) (p : B.Perm (lotAt L ms (n + 1))) (a : Asc B) : BsOk L ms (n + 1) (Bs ++ [B]) := by
  refine ⟨by rw [List.length_append, h.1]; rfl, fun j X e => ?_⟩
  by_cases hj : j < Bs.length
  · rw [List.getElem?_append_left hj] at e
    exact h.2 j X e
  · have hj' : j = Bs.length := by
      have := (List.getElem?_eq_some_iff.mp e).1
      rw [List.length_append] at this
      have : j < Bs.length + 1 := this
      omega
    subst hj'
    rw [List.getElem?_append_right (Nat.le_refl _), Nat.sub_self] at e
    have := Option.some.inj e
    subst this
    rw [h.1]
    exact ⟨p, a⟩
section
variable {P : Program} {w : World} {K : PySem.W.Frag} {mg : Str → Option Value} {base : Heap} {Ts : List Addr}
end
end Sq

set_option Elab.async false
set_option linter.all false
set_option maxRecDepth 100000
set_option maxHeartbeats 4000000
/-! checked_lot of cells; parts_of. -/
namespace Sq
open PySem PySem.Spec PyProof.Rows L2
section
variable {P : Program} {w : World} {K : PySem.W.Frag} {mg : Str → Option Value} {base : Heap}
end
end Sq

set_option Elab.async false
set_option linter.all false
set_option maxRecDepth 100000
set_option maxHeartbeats 4000000
/-! bodies_of, end_of. -/
namespace Sq
open PySem PySem.Spec PyProof.Rows L2
section
variable {P : Program} {w : World} {K : PySem.W.Frag} {mg : Str → Option Value} {base : Heap} {Ts : List Addr}
end
end Sq

set_option Elab.async false
set_option linter.all false
set_option maxRecDepth 100000
set_option maxHeartbeats 4000000
/-! The law's first_wrong. -/
namespace Sq
open PySem PySem.Spec PyProof.Rows L2
theorem hangsB_cong {L M : List Cell} (h : ∀ x, x ∈ L ↔ x ∈ M) : hangsB L = hangsB M := by
  rw [Bool.eq_iff_iff, hangsB_iff, hangsB_iff]
  exact hangs_perm h
def byF (s e : Cell) (f : Cell → Bool) : V :=
  if f s = false ∨ f e = true then .non
  else if absI (e.1 - s.1) + absI (e.2 - s.2) = 1 then (if ((f (s.1 + (e.2 - s.2), s.2 + (e.1 - s.1)) && f (e.1 + (e.2 - s.2), e.2 + (e.1 - s.1))) || (f (s.1 + -(e.2 - s.2), s.2 + -(e.1 - s.1)) && f (e.1 + -(e.2 - s.2), e.2 + -(e.1 - s.1)))) = true then .str "slide" else .non)
  else if absI (e.1 - s.1) = 1 ∧ absI (e.2 - s.2) = 1 then (if (f (s.1, e.2) != f (e.1, s.2)) = true then .str "turn" else .non) else .non
theorem byPlace_cong {L M : List Cell} {s e : Cell} (h : ∀ x, x ∈ L ↔ x ∈ M) : byPlace L s e = byPlace M s e := by
  have hf : (fun c => decide (c ∈ L)) = (fun c => decide (c ∈ M)) := funext fun c => by
    rw [Bool.eq_iff_iff, decide_eq_true_iff, decide_eq_true_iff]
    exact h c
  have key : ∀ L, byPlace L s e = byF s e (fun c => decide (c ∈ L)) := fun _ => rfl
  rw [key L, key M, hf]
theorem kindV_cong {L M : List Cell} {s e : Cell} (h : ∀ x, x ∈ L ↔ x ∈ M) : kindV L s e = kindV M s e := by
  unfold kindV
  rw [byPlace_cong h, hangsB_cong (L := without L s) (M := without M s) fun x => by rw [mem_without, mem_without, h]]
section
variable {P : Program} {w : World} {K : PySem.W.Frag} {mg : Str → Option Value} {base : Heap} {Ts : List Addr}
end
end Sq

set_option Elab.async false
set_option linter.all false
set_option maxRecDepth 100000
set_option maxHeartbeats 4000000
/-! What the law asks of bodies_of and end_of. -/
namespace Sq
open PySem PySem.Spec PyProof.Rows L2
section
variable {P : Program} {w : World} {K : PySem.W.Frag} {mg : Str → Option Value} {base : Heap} {Ts : List Addr}
end
end Sq

set_option Elab.async false
set_option linter.all false
set_option maxRecDepth 100000
set_option maxHeartbeats 4000000
/-! draw and pick again: the pen's list stays where it is. -/
namespace Sq
open PySem PySem.Spec PyProof.Rows L2
/-- a pen stands at p, its list at c, n numbers were drawn -/
structure PenC (H : Hp) (p c : Addr) (n : Nat) : Prop where
  ex : ∃ (zs : List Int) (i : Nat) (dg fo : Int), H p = some (.dK (penK c i dg n fo)) ∧ H c = some (.lst (zs.map V.int)) ∧ i ≤ zs.length ∧ zs.length ≤ 63 ∧ 0 ≤ dg ∧ 0 ≤ fo ∧ fo < 2147483648
theorem PenC.at {H : Hp} {p c : Addr} {n : Nat} (h : PenC H p c n) : PenAt H p n := ⟨⟨c, h.ex⟩⟩
theorem PenAt.c {H : Hp} {p : Addr} {n : Nat} (h : PenAt H p n) : ∃ c, PenC H p c n := by
  obtain ⟨c, r⟩ := h.ex
  exact ⟨c, ⟨r⟩⟩
theorem PenC.same {H H' : Hp} {p c : Addr} {n : Nat} (h : PenC H p c n) (k : Same H H') : PenC H' p c n := by
  obtain ⟨zs, i, dg, fo, e1, e2, r⟩ := h.ex
  exact ⟨⟨zs, i, dg, fo, k _ _ e1, k _ _ e2, r⟩⟩
/-- what is put elsewhere -/
theorem PenC.off {H : Hp} {p c q : Addr} {n : Nat} {o : HO} (h : PenC H p c n) (np : p ≠ q) (nc : c ≠ q) : PenC (upd H q o) p c n := by
  obtain ⟨zs, i, dg, fo, e1, e2, r⟩ := h.ex
  exact ⟨⟨zs, i, dg, fo, by rw [upd_ne np]; exact e1, by rw [upd_ne nc]; exact e2, r⟩⟩
theorem PenC.ne {H : Hp} {p c q : Addr} {n : Nat} (h : PenC H p c n) (hq : H q = none) : p ≠ q ∧ c ≠ q := by
  obtain ⟨zs, i, dg, fo, e1, e2, r⟩ := h.ex
  exact ⟨ne_of_none e1 hq, ne_of_none e2 hq⟩
def spDrawC : Sp := fun vs H Q _ => ∃ (p c : Addr) (n : Nat) (m : Int), vs = [.ref p, .int m] ∧ PenC H p c n ∧ 1 ≤ m ∧ m < 1073741824 ∧ n < 1000000 ∧
  ∀ (r : Int) (H' : Hp), 0 ≤ r → r < m → PenC H' p c (n + 1) → (∀ b, b ≠ p → H' b = H b) → Q (.int r) H'
def spPickC (K : PySem.W.Frag) : Sp := fun vs H Q _ => ∃ (p c l : Addr) (n : Nat) (xs : List V), vs = [.ref p, .ref l] ∧ PenC H p c n ∧ n < 1000000 ∧ (SqL K H l xs ∨ SqT K H l xs) ∧ 1 ≤ xs.length ∧ xs.length < 1073741824 ∧
  ∀ (i : Nat) (x : V) (H' : Hp), xs[i]? = some x → PenC H' p c (n + 1) → (∀ b, b ≠ p → H' b = H b) → Q x H'
section
variable {P : Program} {w : World} {K : PySem.W.Frag} {mg : Str → Option Value} {base : Heap}
theorem ok_drawC {f : Addr} {fd : FuncData} (F : FnP K "_law_draw" sDraw f fd) (gI : mg "int" = none) (gL : mg "len" = none) : FnOk P w K mg base CX0 1 f fd ["_law_pen_here", "_law_many"] spDrawC := by
  refine F.ok scD (fun vs H Q E h => ?_) (fun cdv A outer s H vs Q E hr h => ?_)
  · obtain ⟨p, c, n, m, rfl, _⟩ := h
    rfl
  · obtain ⟨p, c, n, m, rfl, ⟨zs, i, dg, fo, hp, hc, hi, hl, hd, f0, f1⟩, m1, m2, hn, k⟩ := h
    have hu := hu_of hr
    have cp : c ≠ p := ne_of hc hp (by intro z; cases z)
    -- what stands behind the first if
    obtain ⟨tt, htt, key⟩ : ∃ t, PSs (cxOf CX0 P w K mg base ["_law_pen_here", "_law_many", "_law_cell", "_law_digit", "_law_blend"] "_law_draw" (defScope sDraw) f cdv A outer s H E).nox ((defBody sDraw).drop 2) t ∧
        ∀ (D : Ends) (v : Option V) (i' : Nat) (dg' fo' : Int) (H1 : Hp), H1 p = some (.dK (penK c i' dg' ((n : Int) + 1) fo')) → H1 c = some (.lst (zs.map V.int)) → (∀ b, b ≠ p → H1 b = H b) → i' ≤ zs.length → 0 ≤ dg' → 0 ≤ fo' → fo' < 2147483648 →
          (∀ (r : Int) (H' : Hp), 0 ≤ r → r < m → PenC H' p c (n + 1) → (∀ b, b ≠ p → H' b = H b) → D.rt (.int r) H') → t D [some (.ref p), some (.int m), v, none, none] H1 := by
      refine ⟨_, pss_cons (ps_if (pt_cmpR op_gt (pe_dget hu (pv 0) pe_str (fun _ _ => rfl)) pe_int (nomark _))
        (pss_cons (ps_set (i := 3) scD.nd rfl (.inl rfl) (pe_op op_mod (pe_callTy call_int1 (by rfl) gI PyProof.Rows.boot_int (pa_cons (pe_dget hu (pv 0) pe_str (fun _ _ => rfl)) pa_nil)) (pv 1)))
        (pss_cons (ps_dput hu (pv 0) pe_str (pe_op op_fdiv (pe_dget hu (pv 0) pe_str (fun _ _ => rfl)) (pv 1)) rfl)
        (pss_one (ps_ret (pv 3)))))
        pss_nil)
        (pss_cons (ps_set (i := 4) scD.nd rfl (.inl rfl) (pe_op op_add (pe_op op_add (pe_dget hu (pv 0) pe_str (fun _ _ => rfl)) (pe_op op_mul (pe_dget hu (pv 0) pe_str (fun _ _ => rfl)) pe_int)) pe_int))
        (pss_one (ps_ret (pe_op op_mod (pe_op op_fdiv (pe_callTy call_int1 (by rfl) gI PyProof.Rows.boot_int (pa_cons (pe_op op_mod (pe_op op_pow (pv 4) pe_int) pe_int) pa_nil)) pe_int) (pv 1))))), ?_⟩
      intro D v i' dg' fo' H1 e1 e2 e3 h1 h2 h3 h4 kD
      refine ⟨_, rfl, p, _, rfl, dget_of e1 pen_dig, _, _, rfl, rfl, _, rfl, ?_⟩
      refine ite2 (fun hd => ?_) (fun hd => ?_)
      · refine ⟨_, rfl, p, _, rfl, dget_of e1 pen_dig, .inl ⟨_, rfl, _, rfl, _, _, rfl, rfl, (by show 0 < m; omega), ?_⟩⟩
        refine ⟨_, rfl, p, _, rfl, dget_of e1 pen_dig, _, rfl, _, _, rfl, rfl, ⟨by omega, m2⟩, _, rfl, p, _, rfl, dput_of e1 put_dig, ?_⟩
        refine ⟨_, rfl, ?_⟩
        refine kD _ _ (Int.emod_nonneg _ (by omega)) (Int.emod_lt_of_pos _ (by omega)) ⟨⟨zs, i', dg' / m, fo', ?_, ?_, h1, hl, Int.ediv_nonneg h2 (by omega), h3, h4⟩⟩ fun b hb => ?_
        · rw [upd_same]
          rfl
        · rw [upd_ne cp]
          exact e2
        · rw [upd_ne hb]
          exact e3 b hb
      · refine ⟨_, rfl, p, _, rfl, dget_of e1 pen_fold, _, rfl, p, _, rfl, dget_of e1 pen_cnt, _, _, rfl, rfl, .inr ⟨by decide, by decide⟩, _, _, rfl, rfl, _, _, rfl, rfl, ?_⟩
        refine ⟨_, rfl, _, _, rfl, rfl, ⟨by decide, by decide, ?_⟩, _, _, rfl, rfl, (by show (0 : Int) < 2305843009213693951; decide), .inl ⟨_, rfl, _, _, rfl, rfl, ⟨by decide, by decide⟩, _, rfl, _, _, rfl, rfl, (by show 0 < m; omega), ?_⟩⟩
        · show (fo' + ((n : Int) + 1) * 7907 + 37).natAbs < 18446744073709551616
          omega
        · exact kD _ _ (Int.emod_nonneg _ (by omega)) (Int.emod_lt_of_pos _ (by omega)) ⟨⟨zs, i', dg', fo', e1, e2, h1, hl, h2, h3, h4⟩⟩ e3
    refine ⟨_, PSs.nox (pss_cons (ps_dput hu (pv 0) pe_str (pe_op op_add (pe_dget hu (pv 0) pe_str (fun _ _ => rfl)) pe_int) rfl)
      (pss_cons (ps_if (PW.pt (pw_and (pt_cmpR op_eq (pe_dget hu (pv 0) pe_str (fun _ _ => rfl)) pe_int (nomark _)) (pw_and1 (pt_cmpR op_lt (pe_dget hu (pv 0) pe_str (fun _ _ => rfl)) (pe_callB call_len_seq (by rfl) gL PySem.boot_len (pa_cons (pe_dget hu (pv 0) pe_str (fun _ _ => rfl)) pa_nil)) (nomark _)))))
        (pss_cons (ps_set (i := 2) scD.nd rfl (.inl rfl) (pe_ix ix_list (pe_dget hu (pv 0) pe_str (fun _ _ => rfl)) (pe_dget hu (pv 0) pe_str (fun _ _ => rfl)) (fun _ _ => rfl)))
        (pss_cons (ps_dput hu (pv 0) pe_str (pe_op op_add (pe_dget hu (pv 0) pe_str (fun _ _ => rfl)) pe_int) rfl)
        (pss_one (ps_if (pt_cmpR op_ge (pv 2) (pe_op op_pow pe_int pe_int) (nomark _))
          (pss_one (ps_dput hu (pv 0) pe_str (pe_op op_sub (pv 2) (pe_op op_pow pe_int pe_int)) rfl))
          (pss_one (ps_dput hu (pv 0) pe_str (pe_op op_mod (pe_callTy call_int1 (by rfl) gI PyProof.Rows.boot_int (pa_cons (pe_op op_add (pe_op op_mul (pe_dget hu (pv 0) pe_str (fun _ _ => rfl)) pe_int) (pv 2)) pa_nil)) pe_int) rfl))))))
        pss_nil)
      htt)), ?_⟩
    refine ⟨_, rfl, p, _, rfl, dget_of hp pen_cnt, _, _, rfl, rfl, _, rfl, p, _, rfl, dput_of hp put_cnt, ?_⟩
    have hc1 : ∀ o, upd H p o c = some (.lst (zs.map V.int)) := fun o => by
      rw [upd_ne cp]
      exact hc
    have far : ∀ (o : HO) (b : Addr), b ≠ p → upd H p o b = H b := fun o b hb => upd_ne hb
    refine ⟨_, rfl, p, _, rfl, dget_of upd_same pen_dig, rfl, _, rfl, ?_⟩
    refine ite2 (fun _ => ?_) (fun _ => ?_)
    · refine ⟨_, rfl, p, _, rfl, dget_of upd_same pen_at, _, rfl, p, _, rfl, dget_of upd_same pen_cells, c, _, rfl, .inl (SqL.of (hc1 _)), _, _, rfl, rfl, _, rfl, ?_⟩
      refine ite2 (fun hlt => ?_) (fun _ => ?_)
      · have hlt' : (i : Int) < ((zs.map V.int).length : Int) := of_decide_eq_true hlt
        rw [List.length_map] at hlt'
        have hiz : i < zs.length := by omega
        have hat : atI (zs.map V.int) (i : Int) = some (.int zs[i]) := atI_nat (by rw [List.getElem?_map, List.getElem?_eq_getElem hiz]; rfl)
        refine ⟨_, rfl, p, _, rfl, dget_of upd_same pen_cells, _, rfl, p, _, rfl, dget_of upd_same pen_at, c, _, _, _, rfl, rfl, SqL.of (hc1 _), hat, ?_⟩
        refine ⟨_, rfl, p, _, rfl, dget_of upd_same pen_at, _, _, rfl, rfl, _, rfl, p, _, rfl, dput_of upd_same put_at, ?_⟩
        rw [upd_upd]
        refine ⟨_, rfl, _, _, rfl, rfl, ⟨by decide, by decide, by decide⟩, _, _, rfl, rfl, _, rfl, ?_⟩
        refine ite2 (fun hbig => ?_) (fun _ => ?_)
        · have hbig' : (10 : Int) ^ 18 ≤ zs[i] := of_decide_eq_true hbig
          refine ⟨_, rfl, _, _, rfl, rfl, ⟨by decide, by decide, by decide⟩, _, _, rfl, rfl, _, rfl, p, _, rfl, dput_of upd_same put_dig, ?_⟩
          rw [upd_upd]
          have e10 : (10 : Int) ^ 18 = 1000000000000000000 := by decide
          refine key _ _ (i + 1) _ fo _ upd_same (hc1 _) (far _) (by omega) ?_ f0 f1 k
          show 0 ≤ zs[i] - (10 : Int) ^ 18
          omega
        · refine ⟨_, rfl, p, _, rfl, dget_of upd_same pen_fold, _, _, rfl, rfl, .inr ⟨by decide, by decide⟩, _, rfl, _, _, rfl, rfl, .inl ⟨_, rfl, _, _, rfl, rfl, (by show (0 : Int) < 2147483587; decide), _, rfl, p, _, rfl, dput_of upd_same put_fold, ?_⟩⟩
          rw [upd_upd]
          refine key _ _ (i + 1) dg _ _ upd_same (hc1 _) (far _) (by omega) hd ?_ ?_ k
          · exact Int.emod_nonneg _ (by decide)
          · exact Int.lt_trans (Int.emod_lt_of_pos _ (by decide)) (by decide)
      · exact key _ _ i dg fo _ upd_same (hc1 _) (far _) hi hd f0 f1 k
    · exact key _ _ i dg fo _ upd_same (hc1 _) (far _) hi hd f0 f1 k
theorem ok_pickC {f : Addr} {fd : FuncData} (F : FnP K "_law_pick" sPick f fd) (DD : Df P w K mg base CX0 1 "_law_draw" ["_law_pen_here", "_law_many"] spDrawC) (gL : mg "len" = none) : FnOk P w K mg base CX0 2 f fd ["_law_pen_here", "_law_some"] (spPickC K) := by
  refine F.ok scK (fun vs H Q E h => ?_) (fun cdv A outer s H vs Q E hr h => ?_)
  · obtain ⟨p, c, l, n, xs, rfl, _⟩ := h
    rfl
  · obtain ⟨p, c, l, n, xs, rfl, hp, hn, hS, h1, h2, k⟩ := h
    obtain ⟨zs, i0, dg, fo, ep, _⟩ := hp.ex
    refine ⟨_, PSs.nox (pss_one (ps_ret (pe_ix (IxR.or ix_list ix_tup) (pv 1) (pe_df DD hr (by rfl) pass0 (pa_cons (pv 0) (pa_cons (pe_callB call_len_seq (by rfl) gL PySem.boot_len (pa_cons (pv 1) pa_nil)) pa_nil))) (fun _ _ => rfl)))), ?_⟩
    refine ⟨_, rfl, _, rfl, _, rfl, l, xs, rfl, hS, p, c, n, (xs.length : Int), rfl, hp, by omega, by omega, hn, fun r H' r0 r1 hp' hb => ?_⟩
    obtain ⟨j, rfl⟩ := Int.eq_ofNat_of_zero_le r0
    have hj : j < xs.length := by omega
    have hat : atI xs (j : Int) = some xs[j] := atI_nat (List.getElem?_eq_getElem hj)
    rcases hS with hS | hS
    · exact .inl ⟨l, xs, _, _, rfl, rfl, sqL_but ep hb hS, hat, k j _ H' (List.getElem?_eq_getElem hj) hp' hb⟩
    · exact .inr ⟨l, xs, _, _, rfl, rfl, sqT_but ep hb hS, hat, k j _ H' (List.getElem?_eq_getElem hj) hp' hb⟩
end
end Sq

set_option Elab.async false
set_option linter.all false
set_option maxRecDepth 100000
set_option maxHeartbeats 4000000
/-! The law's plans. -/
namespace Sq
open PySem PySem.Spec PyProof.Rows L2
def mvO (c : CellP) : MvO := (some c.1, some c.2)
theorem lay_pairsL {ms : List CellP} : Lay 3 (.list (ms.map pD)) := lay_list fun d hd => by
  obtain ⟨m, _, rfl⟩ := List.mem_map.mp hd
  exact lay_pD m
end Sq

set_option Elab.async false
set_option linter.all false
set_option maxRecDepth 100000
set_option maxHeartbeats 8000000
/-! The law's beside, moved, hangs (the w-family). -/
namespace Sq
open PySem PySem.Spec PyProof.Rows L2
noncomputable def wHangs (cs : List Cell) : Bool := decide (cs = []) || hangsB cs
def spWHangs : Sp := fun vs H Q _ => ∃ (a : Addr) (cs : List Cell), vs = [.ref a] ∧ CellsL H a cs ∧ cs.Nodup ∧ cs.length ≤ 1000 ∧ ∀ H', Same H H' → Q (.bl (wHangs cs)) H'
abbrev whN : List Str := ["_law_cells", "_law_left", "_law_cell", "_law_seen", "_law_waiting", "_law_other"]
theorem keys_lot {H : Hp} : ∀ {L : List Cell} {bs : List Addr}, IsKeys H (lotK L) bs → Paired (fun b c => At H b c) bs L
  | [], [], .nil => .nil
  | c :: L, b :: bs, .cons h t => .cons h (keys_lot t)
theorem lotK_keys (L : List Cell) (nd : L.Nodup) : ((lotK L).map Prod.fst).Nodup := by
  have e : (lotK L).map Prod.fst = L.map cK := by
    unfold lotK
    rw [List.map_map]
    rfl
  rw [e]
  exact nd.map _ fun a b h k => h (cK_inj k)
theorem cut_lastW (xs : List V) : cutV xs none (some (-1)) = xs.take (xs.length - 1) := by
  unfold cutV
  have e : HT.sIx xs.length xs.length (some (-1)) = xs.length - 1 := by
    show (if (-1 : Int) < 0 then ((-1 : Int) + (xs.length : Int)).toNat else min (-1 : Int).toNat xs.length) = xs.length - 1
    rw [if_pos (by decide)]
    omega
  rw [HT.sIx_none, e, List.drop_zero, Nat.sub_zero]
section
variable {P : Program} {w : World} {K : PySem.W.Frag} {mg : Str → Option Value} {base : Heap} {Ts : List Addr}
theorem scWB : FnScope ["_law_cell"] ["_law_cell"] (defScope lWBeside) := ⟨rfl, rfl, rfl, by decide +kernel, rfl, by decide +kernel, by decide +kernel⟩
theorem ok_wBeside {f : Addr} {fd : FuncData} (F : FnP K "_law_w_beside" lWBeside f fd) : FnOk P w K mg base CX0 1 f fd ["_law_cell"] spLBeside := by
  refine F.ok scWB (fun vs H Q E h => ?_) (fun cdv A outer s H vs Q E hr h => ?_)
  · obtain ⟨p, c, rfl, _⟩ := h
    rfl
  · obtain ⟨p, c, rfl, e, k⟩ := h
    refine ⟨_, PSs.nox (pss_one (ps_ret (pe_lst (pa_cons (pe_tup (pa_cons (pe_op op_sub (pe_ix ix_tup (pv 0) pe_int (fun _ _ => rfl)) pe_int) (pa_cons (pe_ix ix_tup (pv 0) pe_int (fun _ _ => rfl)) pa_nil))) (pa_cons (pe_tup (pa_cons (pe_ix ix_tup (pv 0) pe_int (fun _ _ => rfl)) (pa_cons (pe_op op_sub (pe_ix ix_tup (pv 0) pe_int (fun _ _ => rfl)) pe_int) pa_nil))) (pa_cons (pe_tup (pa_cons (pe_op op_add (pe_ix ix_tup (pv 0) pe_int (fun _ _ => rfl)) pe_int) (pa_cons (pe_ix ix_tup (pv 0) pe_int (fun _ _ => rfl)) pa_nil))) (pa_cons (pe_tup (pa_cons (pe_ix ix_tup (pv 0) pe_int (fun _ _ => rfl)) (pa_cons (pe_op op_add (pe_ix ix_tup (pv 0) pe_int (fun _ _ => rfl)) pe_int) pa_nil))) pa_nil))))))), ?_⟩
    refine ⟨_, rfl, _, _, _, _, rfl, rfl, SqT.of e, at0, _, _, rfl, rfl, _, rfl, _, _, _, _, rfl, rfl, SqT.of e, at1, two_le, fun t1 h1 => ?_⟩
    have s1 := same_new (o := .tup [.int (c.1 - 1), .int c.2]) h1
    refine ⟨_, rfl, _, _, _, _, rfl, rfl, SqT.of (s1 _ _ e), at0, _, rfl, _, _, _, _, rfl, rfl, SqT.of (s1 _ _ e), at1, _, _, rfl, rfl, two_le, fun t2 h2 => ?_⟩
    have s2 := same_new (o := .tup [.int c.1, .int (c.2 - 1)]) h2
    have e2 := s2 _ _ (s1 _ _ e)
    refine ⟨_, rfl, _, _, _, _, rfl, rfl, SqT.of e2, at0, _, _, rfl, rfl, _, rfl, _, _, _, _, rfl, rfl, SqT.of e2, at1, two_le, fun t3 h3 => ?_⟩
    have s3 := same_new (o := .tup [.int (c.1 + 1), .int c.2]) h3
    have e3 := s3 _ _ e2
    refine ⟨_, rfl, _, _, _, _, rfl, rfl, SqT.of e3, at0, _, rfl, _, _, _, _, rfl, rfl, SqT.of e3, at1, _, _, rfl, rfl, two_le, fun t4 h4 => ?_⟩
    have s4 := same_new (o := .tup [.int c.1, .int (c.2 + 1)]) h4
    refine ⟨four_le, fun t5 h5 => ?_⟩
    have s5 := same_new (o := .lst [.ref t1, .ref t2, .ref t3, .ref t4]) h5
    refine k t5 _ (((s1.trans s2).trans s3).trans s4 |>.trans s5) (s1.free (s2.free (s3.free (s4.free h5)))) ⟨[t1, t2, t3, t4], upd_same, ?_⟩
    refine .cons ?_ (.cons ?_ (.cons ?_ (.cons ?_ .nil)))
    · exact s5 _ _ (s4 _ _ (s3 _ _ (s2 _ _ upd_same)))
    · exact s5 _ _ (s4 _ _ (s3 _ _ upd_same))
    · exact s5 _ _ (s4 _ _ upd_same)
    · exact s5 _ _ upd_same
theorem scWM : FnScope ["_law_cells", "_law_start", "_law_end", "_law_cell"] ["_law_cells", "_law_start", "_law_end"] (defScope lWMoved) := ⟨rfl, rfl, rfl, by decide +kernel, rfl, by decide +kernel, by decide +kernel⟩
theorem ok_wMoved {f : Addr} {fd : FuncData} (F : FnP K "_law_w_moved" lWMoved f fd) (B : Bl mg) : FnOk P w K mg base CX0 1 f fd ["_law_cells", "_law_start", "_law_end"] spLDone := by
  refine F.ok scWM (fun vs H Q E h => ?_) (fun cdv A outer s H vs Q E hr h => ?_)
  · obtain ⟨t, p, q, L, a, b, rfl, _⟩ := h
    rfl
  · obtain ⟨t, p, q, L, a, b, rfl, ⟨qs, et, pr⟩, lL, ap, aq, k⟩ := h
    have h64 := room64 hr
    refine ⟨_, PSs.nox (pss_one (ps_ret (pe_tupleOf (by rfl) B.tuple (pe_callB cr_sortedC (by rfl) B.sorted (by decide +kernel) (pa_cons (pe_op op_cat (pe_lc (own := [("_law_cell", 3)]) (g := gName 3) rfl scWM.nd (pi_tup (pv 0)) (blkOk_by (N := ["_law_cells", "_law_start", "_law_end", "_law_cell"]) (sc := defScope lWMoved) (by decide +kernel)) (fun _ _ _ _ _ => pg_name (i := 3) scWM.nd rfl (Or.inl rfl)) (fun _ _ _ _ _ => (pts_one (pt_cmpR (op_neK (K := K) rfl h64) (pv 3) (pv 1) (nomark _)))) (fun _ _ _ _ _ => (pv 3))) (pe_lst (pa_cons (pv 2) pa_nil))) pa_nil))))), ?_⟩
    refine ⟨_, rfl, t, rfl, ⟨_, SqT.of et⟩, fun D hD => ?_⟩
    refine lc_cells (walk_tup (K := K) (a := t) (xs := qs.map V.ref)) hD (fun i => without (L.take i) a) rfl (by rw [List.length_map, Paired.length pr]; omega) (fun i G _ sm => SqT.of (sm _ _ et)) ?_ ?_
    · rintro i x G G' K1 K0 hi sm ⟨rfl, hx⟩ k1 k0
      rw [List.getElem?_map] at hx
      obtain ⟨b, hb, rfl⟩ := Option.map_eq_some_iff.mp hx
      obtain ⟨e, he, ae⟩ := paired_get pr hb
      have ae' : At G' b e := sm _ _ ae
      have ap' : At G' p a := sm _ _ ap
      have st : without (L.take (i + 1)) a = if e = a then without (L.take i) a else without (L.take i) a ++ [e] := by rw [take_snoc he, without_snoc]
      refine ⟨rfl, _, rfl, _, rfl, cD e, cD a, ae'.dp, ap'.dp, cD_shaped e, cD_shaped a, _, rfl, ?_⟩
      rw [cD_eqv]
      refine ite2 (fun hc => ?_) (fun hc => ?_)
      · have ne : e ≠ a := by simpa using hc
        rw [if_neg ne] at st
        exact ⟨_, rfl, k1 b e _ same_refl ae' st⟩
      · have ec : e = a := by simpa using hc
        rw [if_pos ec] at st
        exact k0 _ same_refl st
    · rintro G rs sm gD pr2
      have e : L.take (qs.map V.ref).length = L := by rw [List.length_map, Paired.length pr, List.take_length]
      rw [e] at pr2
      have lw : (without L a).length ≤ 1000 := Nat.le_trans (List.length_filter_le _ _) lL
      have lr : rs.length = (without L a).length := Paired.length pr2
      refine ⟨_, rfl, (by show 1 ≤ sizeLine; rw [sizeLine_eq]; decide), fun l1 hl1 => ?_⟩
      have s1 := same_new (o := .lst [.ref q]) hl1
      refine ⟨D, l1, _, _, rfl, rfl, s1 _ _ gD, upd_same, by rw [List.length_map, sizeLine_eq]; show rs.length + 1 ≤ _; omega, fun l2 hl2 => ?_⟩
      have s2 := same_new (o := .lst (rs.map V.ref ++ [.ref q])) hl2
      have sA := s1.trans s2
      refine ⟨l2, rs ++ [q], without L a ++ [b], rfl, SqL.of (by rw [upd_same, List.map_append]; rfl), (paired_imp (fun _ _ h => sA _ _ h) pr2).snoc (sA _ _ (sm _ _ aq)), fun so qs' cs' prq pm asc hso => .inl ⟨so, _, rfl, SqL.of upd_same, fun tp htp => ?_⟩⟩
      have s3 := same_new (o := .lst (qs'.map V.ref)) hso
      have s4 := same_new (o := .tup (qs'.map V.ref)) htp
      exact k tp _ cs' (((sm.trans sA).trans s3).trans s4) ⟨qs', upd_same, paired_imp (fun q c (h : At _ q c) => s4 _ _ (s3 _ _ h)) prq⟩ pm asc
theorem scWHg : FnScope whN ["_law_cells"] (defScope lWHangs) := ⟨rfl, rfl, rfl, by decide +kernel, rfl, by decide +kernel, by decide +kernel⟩
/-- dict([(cell, True) for cell in cells]), told -/
theorem dict_true {H : Hp} {D : Addr} {rs : List Addr} {cs : List Cell} (pr : Paired (fun r c => ∃ q, H r = some (.tup [.ref q, .bl true]) ∧ At H q c) rs cs) : Paired (fun p kv => PrAt H p kv) rs (lotK cs) := by
  induction pr with
  | nil => exact .nil
  | cons h _ ih =>
    obtain ⟨q, e, a⟩ := h
    exact .cons ⟨q, e, a⟩ ih
theorem ok_wHangs {f : Addr} {fd : FuncData} (F : FnP K "_law_w_hangs" lWHangs f fd) (B : Bl mg) (gD : mg "dict" = none) (DB : Df P w K mg base CX0 1 "_law_w_beside" ["_law_cell"] spLBeside) : FnOk P w K mg base CX0 2 f fd ["_law_cells"] spWHangs := by
  refine F.ok scWHg (fun vs H Q E h => ?_) (fun cdv A outer s H vs Q E hr h => ?_)
  · obtain ⟨a, cs, rfl, _⟩ := h
    rfl
  · obtain ⟨a, cs, rfl, ca, nd, lcs, k⟩ := h
    have hu := hu_of hr
    have h64 := room64 hr
    refine ⟨_, PSs.nox (pss_cons (ps_set (i := 1) scWHg.nd rfl (.inr rfl) (pe_callTy (call_dictT rfl h64) (by rfl) gD (by decide +kernel) (pa_cons (pe_lc (own := [("_law_cell", 2)]) (g := gName 2) (tt := tYes) rfl scWHg.nd (pi_list (pv 0)) (blkOk_by (N := whN) (sc := defScope lWHangs) (by decide +kernel)) (fun _ _ _ _ _ => pg_name (i := 2) scWHg.nd rfl (Or.inl rfl)) (fun _ _ _ _ _ => pts_nil) (fun _ _ _ _ _ => (pe_tup (pa_cons (pv 2) (pa_cons pe_bl pa_nil))))) pa_nil)))
      (pss_cons (ps_if (pt_cmpR (op_eqE h64) (pv 1) pe_dnewT (nomark _))
      (pss_one (ps_ret pe_bl))
      pss_nil)
      (pss_cons (ps_set (i := 3) scWHg.nd rfl (.inr rfl) pe_dnewT)
      (pss_cons (ps_set (i := 4) scWHg.nd rfl (.inl rfl) (pe_lst (pa_cons (pe_ix (ix_listK (K := K) rfl) (pe_callB cr_sortedC (by rfl) B.sorted (by decide +kernel) (pa_cons (pe_callTy (call_list_keys rfl) (by rfl) B.list PyProof.Rows.boot_list (pa_cons (pe_keysV (pv 1)) pa_nil)) pa_nil)) pe_int (fun _ _ => rfl)) pa_nil)))
      (pss_cons (ps_while PassesOwn.never (pt_cmpR (op_neK (K := K) rfl h64) (pv 4) (pe_lst pa_nil) (nomark _))
      (pss_cons (ps_set (i := 2) scWHg.nd rfl (.inl rfl) (pe_ix (ix_listK (K := K) rfl) (pv 4) (pe_un un_neg pe_int) (fun _ _ => rfl)))
        (pss_cons (ps_set (i := 4) scWHg.nd rfl (.inl rfl) (pe_slice sl_list (pv 4) po_none (po_some (pe_un un_neg pe_int))))
        (pss_cons (ps_if (pt_cmp (pc_din hu (pv 2) (pv 3)))
        (pss_one ps_continue)
        pss_nil)
        (pss_cons (ps_dput hu (pv 3) (pv 2) pe_bl rfl)
        (pss_one (ps_set (i := 4) scWHg.nd rfl (.inl rfl) (pe_op op_cat (pv 4) (pe_lc (own := [("_law_other", 5)]) (g := gName 5) rfl scWHg.nd (pi_list (pe_df DB hr (by rfl) pass0 (pa_cons (pv 2) pa_nil))) (blkOk_by (N := whN) (sc := defScope lWHangs) (by decide +kernel)) (fun _ _ _ _ _ => pg_name (i := 5) scWHg.nd rfl (Or.inl rfl)) (fun _ _ _ _ _ => (pts_one (PW.pt (pw_and (pt_cmp (pc_din hu (pv 5) (pv 1))) (pw_and1 (pt_cmp (pc_dnotin hu (pv 5) (pv 3)))))))) (fun _ _ _ _ _ => (pv 5)))))))))))
      (pss_one (ps_ret (pe_cmpR op_eq (pe_callB call_len_dT (by rfl) B.len PySem.boot_len (pa_cons (pv 3) pa_nil)) (pe_callB call_len_dT (by rfl) B.len PySem.boot_len (pa_cons (pv 1) pa_nil)) (nomark _))))))))), ?_⟩
    obtain ⟨qs0, ea, pr0⟩ := ca
    have lqs0 : qs0.length = cs.length := Paired.length pr0
    refine ⟨_, rfl, a, rfl, ⟨_, SqL.of ea⟩, fun D hD => ?_⟩
    refine w_ofR (walk_list (K := K) (a := a) (xs := qs0.map V.ref)) (fun n G => Same H G ∧ ∃ rs : List Addr, G D = some (.lst (rs.map V.ref)) ∧ rs.length = n ∧ Paired (fun r c => ∃ q, G r = some (.tup [.ref q, .bl true]) ∧ At G q c) rs (cs.take n)) ⟨same_new hD, [], upd_same, rfl, .nil⟩ (fun n G _ p => SqL.of (p.1 _ _ ea)) ?_ ?_
    · rintro n x G G' hn ⟨sm, rs, gD, lrs, pr⟩ ⟨rfl, hx⟩
      rw [List.getElem?_map] at hx
      obtain ⟨q, hq, rfl⟩ := Option.map_eq_some_iff.mp hx
      obtain ⟨c, hc, ac⟩ := paired_get pr0 hq
      have hcl := (List.getElem?_eq_some_iff.mp hc).1
      refine ⟨rfl, yesT ⟨_, rfl, two_le, fun t ht => ?_⟩⟩
      have s1 := same_new (o := .tup [.ref q, .bl true]) ht
      have gD1 := s1 _ _ gD
      have tu := upd_tu (o' := .lst (rs.map V.ref ++ [V.ref t])) gD1 (by intro xs z; cases z)
      refine ⟨_, gD1, by rw [List.length_map, sizeLine_eq]; omega, same_put (sm.trans s1) hD, rs ++ [t], by rw [upd_same, List.map_append]; rfl, by rw [List.length_append, lrs]; rfl, ?_⟩
      rw [take_snoc hc]
      refine (paired_imp (fun r d h => ?_) pr).snoc ⟨q, tu _ _ upd_same, tu _ _ (s1 _ _ (sm _ _ ac))⟩
      obtain ⟨z, e1, e2⟩ := h
      exact ⟨z, tu _ _ (s1 _ _ e1), tu _ _ (s1 _ _ e2)⟩
    rintro G ⟨sm, rs, gD, lrs, pr⟩
    rw [List.length_map, lqs0, List.take_length] at pr
    refine ⟨D, rs, lotK cs, rfl, SqL.of gD, dict_true (D := D) pr, lotK_keys cs nd, fun ld hld => ?_⟩
    have s1 := same_new (o := .dT (lotK cs)) hld
    have sm1 := sm.trans s1
    have eld := upd_same (H := G) (a := ld) (o := .dT (lotK cs))
    generalize upd G ld (.dT (lotK cs)) = G1 at s1 sm1 eld
    refine ⟨_, rfl, fun e2 he2 => ?_⟩
    have s2 := same_new (o := .dT []) he2
    refine ⟨ld, e2, lotK cs, rfl, rfl, s2 _ _ eld, upd_same, _, rfl, ?_⟩
    have sm2 := sm1.trans s2
    have eld2 := s2 _ _ eld
    generalize upd G1 e2 (.dT []) = G2 at s2 sm2 eld2
    refine ite2 (fun h1 => ?_) (fun h1 => ?_)
    · have e : cs = [] := List.map_eq_nil_iff.mp (of_decide_eq_true h1)
      subst e
      exact k G2 sm2
    have ne : cs ≠ [] := fun z => h1 (decide_eq_true (by rw [z]; rfl))
    have eW : wHangs cs = hangsB cs := by
      unfold wHangs
      rw [decide_eq_false ne, Bool.false_or]
    rw [eW] at k
    intro sd hsd
    have s3 := same_new (o := .dT []) hsd
    have sm3 := sm2.trans s3
    have hsdH : H sd = none := sm2.free hsd
    have eld3 := s3 _ _ eld2
    have esd := upd_same (H := G2) (a := sd) (o := .dT [])
    have nls : ld ≠ sd := fun z => by rw [← z, eld2] at hsd; cases hsd
    generalize upd G2 sd (.dT []) = G3 at s3 sm3 eld3 esd
    refine ⟨_, rfl, ld, lotK cs, rfl, eld3, fun v hv => ?_⟩
    have s4 := same_new (o := KeysO v ld) hv
    refine ⟨v, ld, lotK cs, rfl, upd_same, s4 _ _ eld3, fun p bs hp keys => ?_⟩
    have s5 := same_new (o := .lst (bs.map V.ref)) hp
    have prk := keys_lot keys
    refine ⟨p, bs, cs, rfl, SqL.of upd_same, paired_imp (fun _ _ h => s5 _ _ h) prk, fun so qs' cs' prq pm asc hso => ?_⟩
    have s6 := same_new (o := .lst (qs'.map V.ref)) hso
    have s46 := (s4.trans s5).trans s6
    have eso := upd_same (H := upd (upd G3 v (KeysO v ld)) p (.lst (bs.map V.ref))) (a := so) (o := .lst (qs'.map V.ref))
    have prq := paired_imp (fun _ _ (h : At _ _ _) => s6 _ _ h) prq
    generalize upd (upd (upd G3 v (KeysO v ld)) p (.lst (bs.map V.ref))) so (.lst (qs'.map V.ref)) = G6 at s46 eso prq
    cases prq with
    | nil => exact absurd pm.length_eq (fun z => ne (List.length_eq_zero_iff.mp z.symm))
    | @cons q0 c0 qs'' cs'' a0 prt =>
      have a0 : At G6 q0 c0 := a0
      have c0m : c0 ∈ cs := pm.mem_iff.mp (List.mem_cons_self ..)
      refine ⟨_, _, _, _, rfl, rfl, SqL.of eso, at0, one_le, fun wa hwa => ?_⟩
      have s7 := same_new (o := .lst [.ref q0]) hwa
      have sm7 := (sm3.trans s46).trans s7
      refine ⟨fun m σ G => ∃ (v2 v5 : Option V) (wa : Addr) (F A : List Cell) (qs : List Addr), m = 5 * (cs.length - F.length) + A.length ∧ σ = [some (.ref a), some (.ref ld), v2, some (.ref sd), some (.ref wa), v5] ∧ Same H G ∧ G ld = some (.dT (lotK cs)) ∧ G sd = some (.dT (lotK F)) ∧ G wa = some (.lst (qs.map V.ref)) ∧ Paired (fun b x => At G b x) qs A ∧
        F.Nodup ∧ (∀ x ∈ F, Reach cs c0 x) ∧ (∀ x ∈ A, Reach cs c0 x) ∧ (c0 ∈ F ∨ c0 ∈ A) ∧ (∀ x ∈ F, ∀ y ∈ besideC x, y ∈ cs → y ∈ F ∨ y ∈ A) ∧ A.length ≤ 4 * F.length + 1, ⟨_, _, _, wa, [], [c0], [q0], rfl, rfl, sm7, (s46.trans s7) _ _ eld3, (s46.trans s7) _ _ esd, upd_same, .cons (s7 _ _ a0) .nil, .nil, by simp, fun x hx => by rw [List.mem_singleton.mp hx]; exact .refl, .inr (by simp), by simp, by simp⟩, ?_⟩
      rintro m σ G ⟨v2, v5, wa, F, A, qs, rfl, rfl, smG, eld, esd, ewa, prA, nF, rF, rA, c0in, cl, lA⟩
      have lF : F.length ≤ cs.length := len_le nF fun x hx => (rF x hx).mem c0m
      refine ⟨_, rfl, Nat.zero_le _, fun e8 he8 => ?_⟩
      have s8 := same_new (o := .lst []) he8
      refine ⟨.list (A.map cD), .list [], (CellsL.dp ⟨qs, s8 _ _ ewa, paired_imp (fun _ _ h => s8 _ _ h) prA⟩), .lst (SqL.of upd_same) .nil, lay_cells.shaped (by decide), (lay_list (n := 0) (ds := []) (by simp)).shaped (by decide), _, rfl, ?_⟩
      rw [eqv_nil]
      have smG8 := smG.trans s8
      have eld8 := s8 _ _ eld
      have esd8 := s8 _ _ esd
      have ewa8 := s8 _ _ ewa
      have prA8 := paired_imp (fun _ _ (h : At G _ _) => s8 _ _ h) prA
      generalize upd G e8 (.lst []) = G8 at smG8 eld8 esd8 ewa8 prA8
      by_cases hA : A = []
      · subst hA
        refine iteF ?_
        refine ⟨_, rfl, sd, _, rfl, esd8, _, rfl, ld, _, rfl, eld8, rfl, ?_⟩
        have hF : ∀ x, x ∈ F ↔ Reach cs c0 x := fun x => ⟨rF x, fun r => by
          induction r with
          | refl => exact c0in.resolve_right (by simp)
          | step _ hb hc ih => exact (cl _ ih _ hb hc).resolve_right (by simp)⟩
        have eq : decide ((V.int ((lotK F).length : Int)) = V.int ((lotK cs).length : Int)) = hangsB cs := hangsB_of (by
          rw [decide_eq_true_iff, lot_len, lot_len, V.int.injEq, ← hangs_len c0m nd nF hF]
          omega)
        show Q (.bl (decide _)) G8
        rw [eq]
        exact k G8 smG8
      · obtain ⟨A', c, eA⟩ := snoc_inv (xs := A) hA
        have neq : qs ≠ [] := fun z => by rw [z, eA] at prA8; have l := Paired.length prA8; simp at l
        obtain ⟨qs', qc, eq⟩ := snoc_inv neq
        subst eA eq
        obtain ⟨pa', ac⟩ := paired_unsnoc prA8
        have ac : At G8 qc c := ac
        rw [decide_eq_false hA]
        refine ⟨fun σ' G' => ∃ m', m' < 5 * (cs.length - F.length) + (A' ++ [c]).length ∧ _, fun _ _ h => h, ?_⟩
        have rc : Reach cs c0 c := rA c (by simp)
        have cin : c ∈ cs := rc.mem c0m
        have ewa9 : G8 wa = some (.lst (qs'.map V.ref ++ [V.ref qc])) := by rw [ewa8, List.map_append]; rfl
        refine ⟨_, rfl, _, rfl, _, _, _, _, rfl, rfl, SqL.of ewa9, atI_last _ _, ?_⟩
        refine ⟨_, rfl, _, rfl, (-1 : Int), rfl, wa, _, rfl, SqL.of ewa9, fun w9 hw9 => ?_⟩
        rw [cut_lastW, show (qs'.map V.ref ++ [V.ref qc]).take ((qs'.map V.ref ++ [V.ref qc]).length - 1) = qs'.map V.ref from by simp]
        have s9 := same_new (o := .lst (qs'.map V.ref)) hw9
        have smG9 := smG8.trans s9
        have eld9 := s9 _ _ eld8
        have esd9 := s9 _ _ esd8
        have ew9 := upd_same (H := G8) (a := w9) (o := .lst (qs'.map V.ref))
        have pa9 := paired_imp (fun _ _ (h : At G8 _ _) => s9 _ _ h) pa'
        have ac9 := s9 _ _ ac
        generalize upd G8 w9 (.lst (qs'.map V.ref)) = G9 at smG9 eld9 esd9 ew9 pa9 ac9
        refine ⟨_, rfl, _, rfl, sd, _, rfl, dget_lot esd9 ac9, _, rfl, ?_⟩
        rw [lot_is]
        refine ite2 (fun hc => ?_) (fun hc => ?_)
        · have cF : c ∈ F := of_decide_eq_true hc
          refine ⟨5 * (cs.length - F.length) + A'.length, by rw [List.length_append]; simp, _, v5, w9, F, A', qs', rfl, rfl, smG9, eld9, esd9, ew9, pa9, nF, rF, fun x hx => rA x (List.mem_append_left _ hx), ?_, fun x hx y hy hyc => ?_, by rw [List.length_append] at lA; omega⟩
          · rcases c0in with h | h
            · exact .inl h
            · rcases List.mem_append.mp h with h | h
              · exact .inr h
              · exact .inl (List.mem_singleton.mp h ▸ cF)
          · rcases cl x hx y hy hyc with h | h
            · exact .inl h
            · rcases List.mem_append.mp h with h | h
              · exact .inr h
              · exact .inl (List.mem_singleton.mp h ▸ cF)
        · have cF : c ∉ F := by simpa using hc
          have lF2 : F.length + 1 ≤ cs.length := len_le (xs := c :: F) (List.nodup_cons.mpr ⟨cF, nF⟩) fun x hx => (List.mem_cons.mp hx).elim (fun e => e ▸ cin) (fun h => (rF x h).mem c0m)
          refine ⟨_, rfl, _, rfl, sd, _, rfl, dput_lot esd9 ac9 cF (by rw [sizeLine_eq]; omega), ?_⟩
          have off : ∀ {b : Addr} {x : Cell}, At G9 b x → At (upd G9 sd (.dT (lotK (F ++ [c])))) b x := fun h => h.off esd9 (by intro xs z; cases z)
          have smX : Same H (upd G9 sd (.dT (lotK (F ++ [c])))) := same_put smG9 hsdH
          have eldX : upd G9 sd (.dT (lotK (F ++ [c]))) ld = some (.dT (lotK cs)) := by rw [upd_ne nls]; exact eld9
          have ewX : upd G9 sd (.dT (lotK (F ++ [c]))) w9 = some (.lst (qs'.map V.ref)) := by rw [upd_ne (fun z => by rw [z, esd9] at ew9; cases ew9)]; exact ew9
          have paX := paired_imp (fun _ _ (h : At G9 _ _) => off h) pa9
          have acX := off ac9
          have esX := upd_same (H := G9) (a := sd) (o := .dT (lotK (F ++ [c])))
          generalize upd G9 sd (.dT (lotK (F ++ [c]))) = GX at smX eldX ewX paX acX esX
          refine ⟨_, rfl, _, rfl, qc, c, rfl, acX, fun l GY sY hl ⟨ns, el, pn⟩ => ?_⟩
          refine ⟨l, rfl, ⟨_, SqL.of el⟩, fun DZ hDZ => ?_⟩
          refine lc_cells (walk_list (K := K) (a := l) (xs := ns.map V.ref)) hDZ (fun i => ((besideC c).take i).filter fun y => decide (y ∈ cs) && !decide (y ∈ F ++ [c])) rfl (by rw [List.length_map, Paired.length pn]; show 4 ≤ 1000000; decide) (fun i G _ s => SqL.of (s _ _ el)) ?_ ?_
          · rintro i x G10 G10' K1 K0 hi s10 ⟨rfl, hx⟩ k1 k0
            rw [List.getElem?_map] at hx
            obtain ⟨b, hb, rfl⟩ := Option.map_eq_some_iff.mp hx
            obtain ⟨y, hy, ay⟩ := paired_get pn hb
            have ay1 : At G10' b y := s10 _ _ ay
            have st : ((besideC c).take (i + 1)).filter (fun y => decide (y ∈ cs) && !decide (y ∈ F ++ [c])) = ((besideC c).take i).filter (fun y => decide (y ∈ cs) && !decide (y ∈ F ++ [c])) ++ if (decide (y ∈ cs) && !decide (y ∈ F ++ [c])) = true then [y] else [] := by
              rw [take_snoc hy, List.filter_append, List.filter_cons, List.filter_nil]
            refine ⟨rfl, _, rfl, _, rfl, ld, _, rfl, dget_lot (s10 _ _ (sY _ _ eldX)) ay1, _, rfl, ?_⟩
            rw [lot_is]
            refine ite2 (fun hy1 => ?_) (fun hy1 => ?_)
            · refine ⟨_, rfl, _, rfl, sd, _, rfl, dget_lot (s10 _ _ (sY _ _ esX)) ay1, _, rfl, ?_⟩
              rw [lot_is]
              refine ite2 (fun hy2 => ?_) (fun hy2 => ?_)
              · exact ⟨_, rfl, k1 b y _ same_refl ay1 (by rw [st, if_pos (by rw [hy1, hy2]; rfl)])⟩
              · exact k0 _ same_refl (by rw [st, if_neg (by rw [hy1]; simpa using hy2), List.append_nil])
            · exact k0 _ same_refl (by rw [st, if_neg (by simp at hy1; simp [hy1]), List.append_nil])
          rintro G11 bs2 s11 gDZ prZ
          rw [List.length_map, Paired.length pn, show (besideC c).take (besideC c).length = besideC c from List.take_length] at prZ
          have sX11 := sY.trans s11
          have lZ : ((besideC c).filter fun y => decide (y ∈ cs) && !decide (y ∈ F ++ [c])).length ≤ 4 := List.length_filter_le _ (besideC c)
          have lbs2 : bs2.length ≤ 4 := by rw [Paired.length prZ]; exact lZ
          have lqs' : qs'.length = A'.length := Paired.length paX
          rw [List.length_append, List.length_singleton] at lA
          refine ⟨w9, DZ, _, _, rfl, rfl, sX11 _ _ ewX, gDZ, by rw [List.length_map, List.length_map, sizeLine_eq]; omega, fun w12 hw12 => ?_⟩
          have s12 := same_new (o := .lst (qs'.map V.ref ++ bs2.map V.ref)) hw12
          have sX12 := sX11.trans s12
          refine ⟨5 * (cs.length - (F ++ [c]).length) + (A' ++ ((besideC c).filter fun y => decide (y ∈ cs) && !decide (y ∈ F ++ [c]))).length, ?_, _, v5, w12, F ++ [c], A' ++ (besideC c).filter (fun y => decide (y ∈ cs) && !decide (y ∈ F ++ [c])), qs' ++ bs2, rfl, rfl, smX.trans sX12, sX12 _ _ eldX, sX12 _ _ esX, by rw [upd_same, List.map_append], paired_app (paired_imp (fun _ _ h => sX12 _ _ h) paX) (paired_imp (fun _ _ h => s12 _ _ h) prZ), ?_, ?_, ?_, ?_, ?_, ?_⟩
          · rw [List.length_append, List.length_append, List.length_append]
            simp only [List.length_singleton]
            omega
          · exact List.nodup_append.mpr ⟨nF, by simp, fun a ha b hb => by rw [List.mem_singleton.mp hb]; exact fun z => cF (z ▸ ha)⟩
          · intro x hx
            rcases List.mem_append.mp hx with h | h
            · exact rF x h
            · exact List.mem_singleton.mp h ▸ rc
          · intro x hx
            rcases List.mem_append.mp hx with h | h
            · exact rA x (List.mem_append_left _ h)
            · obtain ⟨h1, h2⟩ := List.mem_filter.mp h
              have h3 : x ∈ cs := by simp at h2; exact h2.1
              exact rc.step h1 h3
          · rcases c0in with h | h
            · exact .inl (List.mem_append_left _ h)
            · rcases List.mem_append.mp h with h | h
              · exact .inr (List.mem_append_left _ h)
              · exact .inl (List.mem_append_right _ h)
          · intro x hx y hy hyc
            by_cases yF : y ∈ F ++ [c]
            · exact .inl yF
            · rcases List.mem_append.mp hx with h | h
              · rcases cl x h y hy hyc with h | h
                · exact absurd (List.mem_append_left _ h) yF
                · rcases List.mem_append.mp h with h | h
                  · exact .inr (List.mem_append_left _ h)
                  · exact absurd (List.mem_append_right _ h) yF
              · obtain rfl := List.mem_singleton.mp h
                exact .inr (List.mem_append_right _ (List.mem_filter.mpr ⟨hy, by rw [decide_eq_true hyc, decide_eq_false yF]; rfl⟩))
          · rw [List.length_append, List.length_append, List.length_singleton]
            omega
end
end Sq

set_option Elab.async false
set_option linter.all false
set_option maxRecDepth 100000
set_option maxHeartbeats 8000000
/-! The law's may (the w-family). -/
namespace Sq
open PySem PySem.Spec PyProof.Rows L2
noncomputable def mayW (L : List Cell) (s e : Cell) : Bool := !decide (kindV L s e = .non)
theorem fm_two {c d : CellP} {f : CellP → Bool} : (([c, d] : List CellP).filterMap (fun c => if f c = true then some c.1 else none) = []) ↔ (f c || f d) = false := by
  cases h1 : f c <;> cases h2 : f d <;> simp [List.filterMap_cons, h1, h2]
def spWMay : Sp := fun vs H Q _ => ∃ (t p q : Addr) (L : List Cell) (s e : Cell), vs = [.ref t, .ref p, .ref q] ∧ CellsT H t L ∧ L.Nodup ∧ L.length ≤ 1000 ∧ At H p s ∧ At H q e ∧ ∀ H', Same H H' → Q (.bl (mayW L s e)) H'
abbrev wyN : List Str := ["_law_cells", "_law_start", "_law_end", "_law_inside", "_law_cell", "_law_across", "_law_up", "_law_pairs", "_law_good", "_law_one", "_law_two"]
theorem place_rest {L : List Cell} {s e : Cell} (h : byPlace L s e ≠ .non) : without L s ≠ [] := fun z => by
  have all : ∀ x ∈ L, x = s := fun x hx => Classical.byContradiction fun n => by
    have := mem_without.mpr ⟨hx, n⟩
    rw [z] at this
    cases this
  have side : ∀ d : Cell, sideB L s e d = true → d.1 = 0 ∧ d.2 = 0 := fun d hd => by
    unfold sideB at hd
    rw [Bool.and_eq_true, decide_eq_true_iff, decide_eq_true_iff] at hd
    have := all _ hd.1
    obtain ⟨a, b⟩ := Prod.mk.inj this
    omega
  unfold byPlace at h
  split at h
  · exact h rfl
  · split at h
    · rename_i _ h1
      split at h
      · rename_i hs
        unfold slidesB at hs
        rw [Bool.or_eq_true] at hs
        have k : e.1 - s.1 = 0 ∧ e.2 - s.2 = 0 := by
          rcases hs with hs | hs
          · have := side _ hs
            exact ⟨this.2, this.1⟩
          · have := side _ hs
            dsimp only at this
            omega
        unfold absI at h1
        rw [k.1, k.2] at h1
        simp at h1
      · exact h rfl
    · split at h
      · rename_i _ h1
        split at h
        · rename_i ht
          unfold turnsB at ht
          have k : (s.1, e.2) ∈ L ∨ (e.1, s.2) ∈ L := by
            by_cases a : (s.1, e.2) ∈ L
            · exact .inl a
            · by_cases b : (e.1, s.2) ∈ L
              · exact .inr b
              · rw [decide_eq_false a, decide_eq_false b] at ht
                cases ht
          unfold absI at h1
          rcases k with k | k
          · have := congrArg Prod.snd (all _ k)
            dsimp only at this
            rw [this] at h1
            simp at h1
          · have := congrArg Prod.fst (all _ k)
            dsimp only at this
            rw [this] at h1
            simp at h1
        · exact h rfl
      · exact h rfl
theorem may_place {L : List Cell} {s e : Cell} : mayW L s e = (!decide (byPlace L s e = .non) && hangsB (without L s)) := by
  unfold mayW kindV
  by_cases h : byPlace L s e = .non
  · rw [if_pos (.inl h), decide_eq_true h]
    rfl
  · cases hh : hangsB (without L s) with
    | false =>
      rw [if_pos (.inr rfl)]
      simp
    | true =>
      rw [if_neg (fun z => z.elim h fun z => by cases z), decide_eq_false h]
      rfl
section
variable {P : Program} {w : World} {K : PySem.W.Frag} {mg : Str → Option Value} {base : Heap} {Ts : List Addr}
theorem scWY : FnScope wyN ["_law_cells", "_law_start", "_law_end"] (defScope lWMay) := ⟨rfl, rfl, rfl, by decide +kernel, rfl, by decide +kernel, by decide +kernel⟩
theorem may_tail {f : Addr} {cdv : Value} {A : Around} {outer : List Env} {s : Shared} {H0 : Hp} {E : XK} (hr : Room 2 (cxOf CX0 P w K mg base wyN "_law_w_may" (defScope lWMay) f cdv A outer s H0 E).nox.A) (DH : Df P w K mg base CX0 2 "_law_w_hangs" ["_law_cells"] spWHangs) :
    ∃ t, PSs (cxOf CX0 P w K mg base wyN "_law_w_may" (defScope lWMay) f cdv A outer s H0 E).nox ((defBody lWMay).drop 4) t ∧
      ∀ (D : Ends) (G : Hp) (v2 v3 v4 v5 v6 v7 v9 v10 : Option V) (t0 p : Addr) (L : List Cell) (a b : Cell), CellsT G t0 L → L.Nodup → L.length ≤ 1000 → At G p a → (∀ G', Same G G' → D.rt (.bl (mayW L a b)) G') →
        t D [some (.ref t0), some (.ref p), v2, v3, v4, v5, v6, v7, some (.bl (!decide (byPlace L a b = .non))), v9, v10] G := by
  have h64 := room64 hr
  refine ⟨_, (pss_one (ps_ret (pe_and (pv 8) (pe_one (pe_df DH hr (by rfl) pass0 (pa_cons (pe_lc (own := [("_law_cell", 4)]) (g := gName 4) rfl scWY.nd (pi_tup (pv 0)) (blkOk_by (N := wyN) (sc := defScope lWMay) (by decide +kernel)) (fun _ _ _ _ _ => pg_name (i := 4) scWY.nd rfl (Or.inl rfl)) (fun _ _ _ _ _ => (pts_one (pt_cmpR (op_neK (K := K) rfl h64) (pv 4) (pv 1) (nomark _)))) (fun _ _ _ _ _ => (pv 4))) pa_nil)))))), ?_⟩
  intro D G v2 v3 v4 v5 v6 v7 v9 v10 t0 p L a b ⟨qs, et, pr⟩ nL lL ap k
  refine ⟨_, rfl, _, rfl, ?_⟩
  rw [may_place] at k
  by_cases h : byPlace L a b = .non
  · rw [decide_eq_true h]
    refine iteF ?_
    have := k G same_refl
    rw [decide_eq_true h] at this
    exact this
  · rw [decide_eq_false h]
    refine iteT ?_
    refine ⟨_, rfl, t0, rfl, ⟨_, SqT.of et⟩, fun D0 hD => ?_⟩
    refine lc_cells (walk_tup (K := K) (a := t0) (xs := qs.map V.ref)) hD (fun i => without (L.take i) a) rfl (by rw [List.length_map, Paired.length pr]; omega) (fun i G _ sm => SqT.of (sm _ _ et)) ?_ ?_
    · rintro i x G G' K1 K0 hi sm ⟨rfl, hx⟩ k1 k0
      rw [List.getElem?_map] at hx
      obtain ⟨b, hb, rfl⟩ := Option.map_eq_some_iff.mp hx
      obtain ⟨e, he, ae⟩ := paired_get pr hb
      have ae' : At G' b e := sm _ _ ae
      have ap' : At G' p a := sm _ _ ap
      have st : without (L.take (i + 1)) a = if e = a then without (L.take i) a else without (L.take i) a ++ [e] := by rw [take_snoc he, without_snoc]
      refine ⟨rfl, _, rfl, _, rfl, cD e, cD a, ae'.dp, ap'.dp, cD_shaped e, cD_shaped a, _, rfl, ?_⟩
      rw [cD_eqv]
      refine ite2 (fun hc => ?_) (fun hc => ?_)
      · have ne : e ≠ a := by simpa using hc
        rw [if_neg ne] at st
        exact ⟨_, rfl, k1 b e _ same_refl ae' st⟩
      · have ec : e = a := by simpa using hc
        rw [if_pos ec] at st
        exact k0 _ same_refl st
    · rintro G1 rs sm gD pr2
      have e : L.take (qs.map V.ref).length = L := by rw [List.length_map, Paired.length pr, List.take_length]
      rw [e] at pr2
      have lw : (without L a).length ≤ 1000 := Nat.le_trans (List.length_filter_le _ _) lL
      refine ⟨D0, without L a, rfl, ⟨rs, gD, pr2⟩, nL.filter _, lw, fun G2 s2 => ?_⟩
      have ne := place_rest h
      have eW : wHangs (without L a) = hangsB (without L a) := by
        unfold wHangs
        rw [decide_eq_false ne, Bool.false_or]
      rw [eW]
      have := k G2 (sm.trans s2)
      rw [decide_eq_false h] at this
      exact this
theorem ok_wMay {f : Addr} {fd : FuncData} (F : FnP K "_law_w_may" lWMay f fd) (B : Bl mg) (gD : mg "dict" = none) (DH : Df P w K mg base CX0 2 "_law_w_hangs" ["_law_cells"] spWHangs) : FnOk P w K mg base CX0 3 f fd ["_law_cells", "_law_start", "_law_end"] spWMay := by
  refine F.ok scWY (fun vs H Q E h => ?_) (fun cdv A outer s H vs Q E hr h => ?_)
  · obtain ⟨t, p, q, L, a, b, rfl, _⟩ := h
    rfl
  · obtain ⟨t, p, q, L, a, b, rfl, ct, nL, lL, ap, aq, k⟩ := h
    have hu := hu_of hr
    have h64 := room64 hr
    obtain ⟨t2, ht2, key2⟩ := may_tail (P := P) (w := w) (K := K) (mg := mg) (base := base) (f := f) (cdv := cdv) (A := A) (outer := outer) (s := s) (H0 := H) (E := E) hr DH
    refine ⟨_, PSs.nox (pss_cons (ps_set (i := 3) scWY.nd rfl (.inr rfl) (pe_callTy (call_dictT rfl h64) (by rfl) gD (by decide +kernel) (pa_cons (pe_lc (own := [("_law_cell", 4)]) (g := gName 4) (tt := tYes) rfl scWY.nd (pi_tup (pv 0)) (blkOk_by (N := wyN) (sc := defScope lWMay) (by decide +kernel)) (fun _ _ _ _ _ => pg_name (i := 4) scWY.nd rfl (Or.inl rfl)) (fun _ _ _ _ _ => pts_nil) (fun _ _ _ _ _ => (pe_tup (pa_cons (pv 4) (pa_cons pe_bl pa_nil))))) pa_nil)))
      (pss_cons (ps_if (PW.pt (pw_or (pt_cmp (pc_dnotin hu (pv 1) (pv 3))) (pw_or1 (pt_cmp (pc_din hu (pv 2) (pv 3))))))
      (pss_one (ps_ret pe_bl))
      pss_nil)
      (pss_cons (ps_par (i := 5) (j := 6) (by rfl) scWY.nd rfl rfl (by decide) rfl rfl (pa_cons (pe_op op_sub (pe_ix (ix_tupK (K := K) rfl) (pv 2) pe_int (fun _ _ => rfl)) (pe_ix (ix_tupK (K := K) rfl) (pv 1) pe_int (fun _ _ => rfl))) (pa_cons (pe_op op_sub (pe_ix (ix_tupK (K := K) rfl) (pv 2) pe_int (fun _ _ => rfl)) (pe_ix (ix_tupK (K := K) rfl) (pv 1) pe_int (fun _ _ => rfl))) pa_nil)) (by rfl))
      (pss_cons (ps_if (pt_cmpR op_eq (pe_op op_add (pe_callB call_abs (by rfl) B.abs (by decide +kernel) (pa_cons (pv 5) pa_nil)) (pe_callB call_abs (by rfl) B.abs (by decide +kernel) (pa_cons (pv 6) pa_nil))) pe_int (nomark _))
      (pss_cons (ps_set (i := 7) scWY.nd rfl (.inl rfl) (pe_lst (pa_cons (pe_tup (pa_cons (pe_tup (pa_cons (pe_op op_add (pe_ix (ix_tupK (K := K) rfl) (pv 1) pe_int (fun _ _ => rfl)) (pv 6)) (pa_cons (pe_op op_add (pe_ix (ix_tupK (K := K) rfl) (pv 1) pe_int (fun _ _ => rfl)) (pv 5)) pa_nil))) (pa_cons (pe_tup (pa_cons (pe_op op_add (pe_ix (ix_tupK (K := K) rfl) (pv 2) pe_int (fun _ _ => rfl)) (pv 6)) (pa_cons (pe_op op_add (pe_ix (ix_tupK (K := K) rfl) (pv 2) pe_int (fun _ _ => rfl)) (pv 5)) pa_nil))) pa_nil))) pa_nil)))
        (pss_cons (ps_expr (pe_bm PySem.F.plainAttrs_list PySem.F.slot_list_append PySem.F.type_list_append mt_append (pv 7) (pa_cons (pe_tup (pa_cons (pe_tup (pa_cons (pe_op op_sub (pe_ix (ix_tupK (K := K) rfl) (pv 1) pe_int (fun _ _ => rfl)) (pv 6)) (pa_cons (pe_op op_sub (pe_ix (ix_tupK (K := K) rfl) (pv 1) pe_int (fun _ _ => rfl)) (pv 5)) pa_nil))) (pa_cons (pe_tup (pa_cons (pe_op op_sub (pe_ix (ix_tupK (K := K) rfl) (pv 2) pe_int (fun _ _ => rfl)) (pv 6)) (pa_cons (pe_op op_sub (pe_ix (ix_tupK (K := K) rfl) (pv 2) pe_int (fun _ _ => rfl)) (pv 5)) pa_nil))) pa_nil))) pa_nil)))
        (pss_one (ps_set (i := 8) scWY.nd rfl (.inl rfl) (pe_cmpR (op_neK (K := K) rfl h64) (pe_lc (own := [("_law_one", 9), ("_law_two", 10)]) (g := gTup K 2 (gCons (gName 9) (gCons (gName 10) gNil))) rfl scWY.nd (pi_list (pv 7)) (blkOk_by (N := wyN) (sc := defScope lWMay) (by decide +kernel)) (fun _ _ _ _ _ => (pg_tup (by rfl) (pgs_cons (pg_name (i := 9) scWY.nd rfl (.inl rfl)) (pgs_cons (pg_name (i := 10) scWY.nd rfl (.inl rfl)) pgs_nil)))) (fun _ _ _ _ _ => (pts_one (PW.pt (pw_and (pt_cmp (pc_din hu (pv 9) (pv 3))) (pw_and1 (pt_cmp (pc_din hu (pv 10) (pv 3)))))))) (fun _ _ _ _ _ => (pv 9))) (pe_lst pa_nil) (nomark _))))))
      (pss_one (ps_if (PW.pt (pw_and (pt_cmpR op_eq (pe_callB call_abs (by rfl) B.abs (by decide +kernel) (pa_cons (pv 5) pa_nil)) pe_int (nomark _)) (pw_and1 (pt_cmpR op_eq (pe_callB call_abs (by rfl) B.abs (by decide +kernel) (pa_cons (pv 6) pa_nil)) pe_int (nomark _)))))
        (pss_cons (ps_par (i := 9) (j := 10) (by rfl) scWY.nd rfl rfl (by decide) rfl rfl (pa_cons (pe_tup (pa_cons (pe_op op_add (pe_ix (ix_tupK (K := K) rfl) (pv 1) pe_int (fun _ _ => rfl)) (pv 5)) (pa_cons (pe_ix (ix_tupK (K := K) rfl) (pv 1) pe_int (fun _ _ => rfl)) pa_nil))) (pa_cons (pe_tup (pa_cons (pe_ix (ix_tupK (K := K) rfl) (pv 1) pe_int (fun _ _ => rfl)) (pa_cons (pe_op op_add (pe_ix (ix_tupK (K := K) rfl) (pv 1) pe_int (fun _ _ => rfl)) (pv 6)) pa_nil))) pa_nil)) (by rfl))
          (pss_one (ps_set (i := 8) scWY.nd rfl (.inl rfl) (pe_cmpR op_ne (pe_cmp (pc_din hu (pv 9) (pv 3)) rfl) (pe_cmp (pc_din hu (pv 10) (pv 3)) rfl) (nomark _)))))
        (pss_one (ps_set (i := 8) scWY.nd rfl (.inl rfl) pe_bl)))))
      ht2)))), ?_⟩
    obtain ⟨qs0, ea, pr0⟩ := id ct
    have lqs0 : qs0.length = L.length := Paired.length pr0
    refine ⟨_, rfl, t, rfl, ⟨_, SqT.of ea⟩, fun D hD => ?_⟩
    refine w_ofR (walk_tup (K := K) (a := t) (xs := qs0.map V.ref)) (fun n G => Same H G ∧ ∃ rs : List Addr, G D = some (.lst (rs.map V.ref)) ∧ rs.length = n ∧ Paired (fun r c => ∃ q, G r = some (.tup [.ref q, .bl true]) ∧ At G q c) rs (L.take n)) ⟨same_new hD, [], upd_same, rfl, .nil⟩ (fun n G _ p => SqT.of (p.1 _ _ ea)) ?_ ?_
    · rintro n x G G' hn ⟨sm, rs, gD, lrs, pr⟩ ⟨rfl, hx⟩
      rw [List.getElem?_map] at hx
      obtain ⟨q, hq, rfl⟩ := Option.map_eq_some_iff.mp hx
      obtain ⟨c, hc, ac⟩ := paired_get pr0 hq
      have hcl := (List.getElem?_eq_some_iff.mp hc).1
      refine ⟨rfl, yesT ⟨_, rfl, two_le, fun t ht => ?_⟩⟩
      have s1 := same_new (o := .tup [.ref q, .bl true]) ht
      have gD1 := s1 _ _ gD
      have tu := upd_tu (o' := .lst (rs.map V.ref ++ [V.ref t])) gD1 (by intro xs z; cases z)
      refine ⟨_, gD1, by rw [List.length_map, sizeLine_eq]; omega, same_put (sm.trans s1) hD, rs ++ [t], by rw [upd_same, List.map_append]; rfl, by rw [List.length_append, lrs]; rfl, ?_⟩
      rw [take_snoc hc]
      refine (paired_imp (fun r d h => ?_) pr).snoc ⟨q, tu _ _ upd_same, tu _ _ (s1 _ _ (sm _ _ ac))⟩
      obtain ⟨z, e1, e2⟩ := h
      exact ⟨z, tu _ _ (s1 _ _ e1), tu _ _ (s1 _ _ e2)⟩
    rintro G ⟨sm, rs, gD, lrs, pr⟩
    rw [List.length_map, lqs0, List.take_length] at pr
    refine ⟨D, rs, lotK L, rfl, SqL.of gD, dict_true (D := D) pr, lotK_keys L nL, fun ld hld => ?_⟩
    have s1 := same_new (o := .dT (lotK L)) hld
    have sm1 := sm.trans s1
    have eld := upd_same (H := G) (a := ld) (o := .dT (lotK L))
    generalize upd G ld (.dT (lotK L)) = G1 at s1 sm1 eld
    have ap1 : At G1 p a := sm1 _ _ ap
    have aq1 : At G1 q b := sm1 _ _ aq
    have no : ∀ {G' : Hp}, Same G1 G' → byPlace L a b = .non → Q (.bl false) G' := fun s h => by
      have := k _ (sm1.trans s)
      rw [may_place, decide_eq_true h] at this
      exact this
    refine ⟨_, rfl, _, rfl, ld, _, rfl, dget_lot eld ap1, _, rfl, ?_⟩
    rw [lot_is]
    refine ite2 (fun hc => ?_) (fun hc => ?_)
    · have hc : decide (a ∈ L) = false := by simpa using hc
      exact no same_refl (by unfold byPlace; rw [if_pos (.inl hc)])
    have hc : decide (a ∈ L) = true := by simpa using hc
    refine ⟨_, rfl, _, rfl, ld, _, rfl, dget_lot eld aq1, _, rfl, ?_⟩
    rw [lot_is]
    refine ite2 (fun hc2 => ?_) (fun hc2 => ?_)
    · exact no same_refl (by unfold byPlace; rw [if_pos (.inr hc2)])
    have hno : ¬ (decide (a ∈ L) = false ∨ decide (b ∈ L) = true) := fun z => z.elim (fun y => by rw [hc] at y; cases y) hc2
    refine ⟨_, rfl, _, _, _, _, rfl, rfl, SqT.of aq1, at0, _, rfl, _, _, _, _, rfl, rfl, SqT.of ap1, at0, _, _, rfl, rfl, _, rfl, _, _, _, _, rfl, rfl, SqT.of aq1, at1, _, rfl, _, _, _, _, rfl, rfl, SqT.of ap1, at1, _, _, rfl, rfl, _, _, rfl, ?_⟩
    refine ⟨_, rfl, _, rfl, _, rfl, _, rfl, _, _, rfl, rfl, rfl, _, rfl, ?_⟩
    refine ite2 (fun h1 => ?_) (fun h1 => ?_)
    · have h1 : absI (b.1 - a.1) + absI (b.2 - a.2) = 1 := V.int.inj (of_decide_eq_true h1)
      have eB : byPlace L a b = if slidesB L a b = true then .str "slide" else .non := by
        unfold byPlace
        rw [if_neg hno, if_pos h1]
      -- the pairs
      refine ⟨_, rfl, _, _, _, _, rfl, rfl, SqT.of ap1, at0, _, rfl, _, _, rfl, rfl, _, rfl, _, _, _, _, rfl, rfl, SqT.of ap1, at1, _, rfl, _, _, rfl, rfl, two_le, fun t1 ht1 => ?_⟩
      have u1 := same_new (o := .tup [.int (a.1 + (b.2 - a.2)), .int (a.2 + (b.1 - a.1))]) ht1
      have aq2 := aq1.same u1
      refine ⟨_, rfl, _, _, _, _, rfl, rfl, SqT.of aq2, at0, _, rfl, _, _, rfl, rfl, _, rfl, _, _, _, _, rfl, rfl, SqT.of aq2, at1, _, rfl, _, _, rfl, rfl, two_le, fun t2' ht2' => ?_⟩
      have u2 := same_new (o := .tup [.int (b.1 + (b.2 - a.2)), .int (b.2 + (b.1 - a.1))]) ht2'
      refine ⟨two_le, fun t3 ht3 => ⟨one_le, fun pl hpl => ?_⟩⟩
      have u3 := same_new (o := .tup [.ref t1, .ref t2']) ht3
      have u4 := same_new (o := .lst [.ref t3]) hpl
      have u14 := (u1.trans u2).trans (u3.trans u4)
      have at1' : At (upd (upd (upd (upd G1 t1 (.tup [.int (a.1 + (b.2 - a.2)), .int (a.2 + (b.1 - a.1))])) t2' (.tup [.int (b.1 + (b.2 - a.2)), .int (b.2 + (b.1 - a.1))])) t3 (.tup [.ref t1, .ref t2'])) pl (.lst [.ref t3])) t1 (a.1 + (b.2 - a.2), a.2 + (b.1 - a.1)) := u4 _ _ (u3 _ _ (u2 _ _ upd_same))
      have at2' : At (upd (upd (upd (upd G1 t1 (.tup [.int (a.1 + (b.2 - a.2)), .int (a.2 + (b.1 - a.1))])) t2' (.tup [.int (b.1 + (b.2 - a.2)), .int (b.2 + (b.1 - a.1))])) t3 (.tup [.ref t1, .ref t2'])) pl (.lst [.ref t3])) t2' (b.1 + (b.2 - a.2), b.2 + (b.1 - a.1)) := u4 _ _ (u3 _ _ upd_same)
      have et3 := u4 _ _ (upd_same (H := upd (upd G1 t1 (.tup [.int (a.1 + (b.2 - a.2)), .int (a.2 + (b.1 - a.1))])) t2' (.tup [.int (b.1 + (b.2 - a.2)), .int (b.2 + (b.1 - a.1))])) (a := t3) (o := .tup [.ref t1, .ref t2']))
      have epl := upd_same (H := upd (upd (upd G1 t1 (.tup [.int (a.1 + (b.2 - a.2)), .int (a.2 + (b.1 - a.1))])) t2' (.tup [.int (b.1 + (b.2 - a.2)), .int (b.2 + (b.1 - a.1))])) t3 (.tup [.ref t1, .ref t2'])) (a := pl) (o := .lst [.ref t3])
      have hplG : G1 pl = none := (u1.trans (u2.trans u3)).free hpl
      generalize upd (upd (upd (upd G1 t1 (.tup [.int (a.1 + (b.2 - a.2)), .int (a.2 + (b.1 - a.1))])) t2' (.tup [.int (b.1 + (b.2 - a.2)), .int (b.2 + (b.1 - a.1))])) t3 (.tup [.ref t1, .ref t2'])) pl (.lst [.ref t3]) = G2 at u14 at1' at2' et3 epl
      have ap2 := ap1.same u14
      have aq2 := aq1.same u14
      refine ⟨_, rfl, .inl ⟨rfl, _, SqL.of epl⟩, ?_⟩
      refine ⟨_, rfl, _, _, _, _, rfl, rfl, SqT.of ap2, at0, _, rfl, _, _, rfl, rfl, _, rfl, _, _, _, _, rfl, rfl, SqT.of ap2, at1, _, rfl, _, _, rfl, rfl, two_le, fun t5 ht5 => ?_⟩
      have u5 := same_new (o := .tup [.int (a.1 - (b.2 - a.2)), .int (a.2 - (b.1 - a.1))]) ht5
      have aq3 := aq2.same u5
      refine ⟨_, rfl, _, _, _, _, rfl, rfl, SqT.of aq3, at0, _, rfl, _, _, rfl, rfl, _, rfl, _, _, _, _, rfl, rfl, SqT.of aq3, at1, _, rfl, _, _, rfl, rfl, two_le, fun t6 ht6 => ?_⟩
      have u6 := same_new (o := .tup [.int (b.1 - (b.2 - a.2)), .int (b.2 - (b.1 - a.1))]) ht6
      refine ⟨two_le, fun t7 ht7 => ?_⟩
      have u7 := same_new (o := .tup [.ref t5, .ref t6]) ht7
      have u57 := (u5.trans u6).trans u7
      have at5' : At (upd (upd (upd G2 t5 (.tup [.int (a.1 - (b.2 - a.2)), .int (a.2 - (b.1 - a.1))])) t6 (.tup [.int (b.1 - (b.2 - a.2)), .int (b.2 - (b.1 - a.1))])) t7 (.tup [.ref t5, .ref t6])) t5 (a.1 - (b.2 - a.2), a.2 - (b.1 - a.1)) := u7 _ _ (u6 _ _ upd_same)
      have at6' : At (upd (upd (upd G2 t5 (.tup [.int (a.1 - (b.2 - a.2)), .int (a.2 - (b.1 - a.1))])) t6 (.tup [.int (b.1 - (b.2 - a.2)), .int (b.2 - (b.1 - a.1))])) t7 (.tup [.ref t5, .ref t6])) t6 (b.1 - (b.2 - a.2), b.2 - (b.1 - a.1)) := u7 _ _ upd_same
      have et7 := upd_same (H := upd (upd G2 t5 (.tup [.int (a.1 - (b.2 - a.2)), .int (a.2 - (b.1 - a.1))])) t6 (.tup [.int (b.1 - (b.2 - a.2)), .int (b.2 - (b.1 - a.1))])) (a := t7) (o := .tup [.ref t5, .ref t6])
      generalize upd (upd (upd G2 t5 (.tup [.int (a.1 - (b.2 - a.2)), .int (a.2 - (b.1 - a.1))])) t6 (.tup [.int (b.1 - (b.2 - a.2)), .int (b.2 - (b.1 - a.1))])) t7 (.tup [.ref t5, .ref t6]) = G3 at u57 at5' at6' et7
      have epl3 := u57 _ _ epl
      refine ⟨pl, _, _, rfl, rfl, epl3, (by rw [sizeLine_eq]; show 1 < _; decide), ?_⟩
      have tu := upd_tu (o' := .lst ([.ref t3] ++ [.ref t7])) epl3 (by intro xs z; cases z)
      have ppr : Paired (fun q c => PairAt (upd G3 pl (.lst ([.ref t3] ++ [.ref t7]))) q c) [t3, t7] [((a.1 + (b.2 - a.2), a.2 + (b.1 - a.1)), (b.1 + (b.2 - a.2), b.2 + (b.1 - a.1))), ((a.1 - (b.2 - a.2), a.2 - (b.1 - a.1)), (b.1 - (b.2 - a.2), b.2 - (b.1 - a.1)))] :=
        .cons ⟨t1, t2', tu _ _ (u57 _ _ et3), tu _ _ (u57 _ _ at1'), tu _ _ (u57 _ _ at2')⟩ (.cons ⟨t5, t6, tu _ _ et7, tu _ _ at5', tu _ _ at6'⟩ .nil)
      have smP : Same G1 (upd G3 pl (.lst ([.ref t3] ++ [.ref t7]))) := same_put (u14.trans u57) hplG
      have eplP : upd G3 pl (.lst ([.ref t3] ++ [.ref t7])) pl = some (.lst ([t3, t7].map V.ref)) := upd_same
      generalize upd G3 pl (.lst ([.ref t3] ++ [.ref t7])) = GP at ppr smP eplP
      have eldP := smP _ _ eld
      -- is there a pair
      refine ⟨_, rfl, pl, rfl, ⟨_, SqL.of eplP⟩, fun DC hDC => ?_⟩
      have side2 : ∀ (n : Nat) (c : CellP), [((a.1 + (b.2 - a.2), a.2 + (b.1 - a.1)), (b.1 + (b.2 - a.2), b.2 + (b.1 - a.1))), ((a.1 - (b.2 - a.2), a.2 - (b.1 - a.1)), (b.1 - (b.2 - a.2), b.2 - (b.1 - a.1)))][n]? = some c → n < 2 := fun n c h => (List.getElem?_eq_some_iff.mp h).1
      refine lc_cells (walk_list (K := K) (a := pl) (xs := [t3, t7].map V.ref)) hDC (fun n => (([((a.1 + (b.2 - a.2), a.2 + (b.1 - a.1)), (b.1 + (b.2 - a.2), b.2 + (b.1 - a.1))), ((a.1 - (b.2 - a.2), a.2 - (b.1 - a.1)), (b.1 - (b.2 - a.2), b.2 - (b.1 - a.1)))] : List CellP).take n).filterMap fun c => if (decide (c.1 ∈ L) && decide (c.2 ∈ L)) = true then some c.1 else none) rfl (by show 2 ≤ 1000000; decide) (fun i G _ s => SqL.of (s _ _ eplP)) ?_ ?_
      · rintro i x G G' K1 K0 hi s10 ⟨rfl, hx⟩ k1 k0
        rw [List.getElem?_map] at hx
        obtain ⟨r, hr2, rfl⟩ := Option.map_eq_some_iff.mp hx
        obtain ⟨c, hc3, x1, x2, e1, e2, e3⟩ := paired_get ppr hr2
        have e1' := s10 _ _ e1
        have e2' : At G' x1 c.1 := s10 _ _ e2
        have e3' : At G' x2 c.2 := s10 _ _ e3
        have eld' := s10 _ _ eldP
        have stp : ∀ f : CellP → Option Cell, (([((a.1 + (b.2 - a.2), a.2 + (b.1 - a.1)), (b.1 + (b.2 - a.2), b.2 + (b.1 - a.1))), ((a.1 - (b.2 - a.2), a.2 - (b.1 - a.1)), (b.1 - (b.2 - a.2), b.2 - (b.1 - a.1)))] : List CellP).take (i + 1)).filterMap f = (([((a.1 + (b.2 - a.2), a.2 + (b.1 - a.1)), (b.1 + (b.2 - a.2), b.2 + (b.1 - a.1))), ((a.1 - (b.2 - a.2), a.2 - (b.1 - a.1)), (b.1 - (b.2 - a.2), b.2 - (b.1 - a.1)))] : List CellP).take i).filterMap f ++ [c].filterMap f := fun f => by rw [take_snoc hc3, List.filterMap_append]
        refine ⟨r, _, rfl, SqT.of e1', rfl, _, _, rfl, _, _, rfl, rfl, rfl, ?_⟩
        refine ⟨_, rfl, _, rfl, ld, _, rfl, dget_lot eld' e2', _, rfl, ?_⟩
        rw [lot_is]
        refine ite2 (fun hy1 => ?_) (fun hy1 => ?_)
        · refine ⟨_, rfl, _, rfl, ld, _, rfl, dget_lot eld' e3', _, rfl, ?_⟩
          rw [lot_is]
          refine ite2 (fun hy2 => ?_) (fun hy2 => ?_)
          · exact ⟨_, rfl, k1 x1 c.1 _ same_refl e2' (by rw [stp, List.filterMap_cons, if_pos (by rw [hy1, hy2]; rfl)]; rfl)⟩
          · exact k0 _ same_refl (by rw [stp, List.filterMap_cons, if_neg (by rw [hy1]; simpa using hy2)]; simp)
        · exact k0 _ same_refl (by rw [stp, List.filterMap_cons, if_neg (by simp at hy1; simp [hy1])]; simp)
      rintro G4 zs s4 gDC prz
      refine ⟨Nat.zero_le _, fun e9 he9 => ?_⟩
      have s9 := same_new (o := .lst []) he9
      refine ⟨_, .list [], (CellsL.dp ⟨zs, s9 _ _ gDC, paired_imp (fun _ _ h => s9 _ _ h) prz⟩), .lst (SqL.of upd_same) .nil, lay_cells.shaped (by decide), (lay_list (n := 0) (ds := []) (by simp)).shaped (by decide), ?_⟩
      rw [eqv_nil]
      have smF := (sm1.trans smP).trans (s4.trans s9)
      have eG : (!decide ((([((a.1 + (b.2 - a.2), a.2 + (b.1 - a.1)), (b.1 + (b.2 - a.2), b.2 + (b.1 - a.1))), ((a.1 - (b.2 - a.2), a.2 - (b.1 - a.1)), (b.1 - (b.2 - a.2), b.2 - (b.1 - a.1)))] : List CellP).take ([t3, t7].map V.ref).length).filterMap (fun c => if (decide (c.1 ∈ L) && decide (c.2 ∈ L)) = true then some c.1 else none) = [])) = !decide (byPlace L a b = .non) := by
        rw [eB]
        show (!decide ((([((a.1 + (b.2 - a.2), a.2 + (b.1 - a.1)), (b.1 + (b.2 - a.2), b.2 + (b.1 - a.1))), ((a.1 - (b.2 - a.2), a.2 - (b.1 - a.1)), (b.1 - (b.2 - a.2), b.2 - (b.1 - a.1)))] : List CellP).filterMap (fun c => if (fun c : CellP => decide (c.1 ∈ L) && decide (c.2 ∈ L)) c = true then some c.1 else none)) = [])) = _
        have fm := fm_two (c := ((a.1 + (b.2 - a.2), a.2 + (b.1 - a.1)), (b.1 + (b.2 - a.2), b.2 + (b.1 - a.1)))) (d := ((a.1 - (b.2 - a.2), a.2 - (b.1 - a.1)), (b.1 - (b.2 - a.2), b.2 - (b.1 - a.1)))) (f := fun c : CellP => decide (c.1 ∈ L) && decide (c.2 ∈ L))
        have e : slidesB L a b = ((fun c : CellP => decide (c.1 ∈ L) && decide (c.2 ∈ L)) ((a.1 + (b.2 - a.2), a.2 + (b.1 - a.1)), (b.1 + (b.2 - a.2), b.2 + (b.1 - a.1))) || (fun c : CellP => decide (c.1 ∈ L) && decide (c.2 ∈ L)) ((a.1 - (b.2 - a.2), a.2 - (b.1 - a.1)), (b.1 - (b.2 - a.2), b.2 - (b.1 - a.1)))) := rfl
        rw [← e] at fm
        by_cases hs : slidesB L a b = true
        · rw [if_pos hs, decide_eq_false (fun z => by rw [fm.mp z] at hs; cases hs)]
          rfl
        · rw [if_neg hs, decide_eq_true (fm.mpr (by simpa using hs))]
          rfl
      rw [eG]
      exact key2 _ _ _ _ _ _ _ _ _ _ _ _ L a b (ct.ek (.of smF)) nL lL (ap.same smF) fun G' s' => k G' (smF.trans s')
    · have h1 : ¬ absI (b.1 - a.1) + absI (b.2 - a.2) = 1 := fun z => h1 (decide_eq_true (congrArg V.int z))
      have none_ : ¬ (absI (b.1 - a.1) = 1 ∧ absI (b.2 - a.2) = 1) → byPlace L a b = .non := fun h2 => by
        unfold byPlace
        rw [if_neg hno, if_neg h1, if_neg h2]
      have fin0 : ∀ (Dd : Ends) {v2 v3 v4 v5 v6 v7 v9 v10 : Option V}, (∀ v H', Q v H' → Dd.rt v H') → byPlace L a b = .non → t2 Dd [some (.ref t), some (.ref p), v2, v3, v4, v5, v6, v7, some (.bl false), v9, v10] G1 := fun Dd {v2 v3 v4 v5 v6 v7 v9 v10} hQ h => by
        have := key2 Dd G1 v2 v3 v4 v5 v6 v7 v9 v10 t p L a b (ct.ek (.of sm1)) nL lL ap1 fun G' s' => hQ _ _ (k G' (sm1.trans s'))
        rw [decide_eq_true h] at this
        exact this
      refine ⟨_, rfl, _, rfl, rfl, _, rfl, ?_⟩
      refine ite2 (fun h2 => ?_) (fun h2 => ?_)
      · have h2 : absI (b.1 - a.1) = 1 := V.int.inj (of_decide_eq_true h2)
        refine ⟨_, rfl, _, rfl, rfl, _, rfl, ?_⟩
        refine ite2 (fun h3 => ?_) (fun h3 => ?_)
        · have h3 : absI (b.2 - a.2) = 1 := V.int.inj (of_decide_eq_true h3)
          refine ⟨_, rfl, _, _, _, _, rfl, rfl, SqT.of ap1, at0, _, rfl, _, _, rfl, rfl, _, rfl, _, _, _, _, rfl, rfl, SqT.of ap1, at1, two_le, fun t1 ht1 => ?_⟩
          have u1 := same_new (o := .tup [.int (a.1 + (b.1 - a.1)), .int a.2]) ht1
          have ap2 := ap1.same u1
          refine ⟨_, rfl, _, _, _, _, rfl, rfl, SqT.of ap2, at0, _, rfl, _, _, _, _, rfl, rfl, SqT.of ap2, at1, _, rfl, _, _, rfl, rfl, two_le, fun t2' ht2' => ?_⟩
          have u2 := same_new (o := .tup [.int a.1, .int (a.2 + (b.2 - a.2))]) ht2'
          have u12 := u1.trans u2
          have e1 : a.1 + (b.1 - a.1) = b.1 := by omega
          have e2 : a.2 + (b.2 - a.2) = b.2 := by omega
          have at1' : At (upd (upd G1 t1 (.tup [.int (a.1 + (b.1 - a.1)), .int a.2])) t2' (.tup [.int a.1, .int (a.2 + (b.2 - a.2))])) t1 (b.1, a.2) := by
            have q : At (upd (upd G1 t1 (.tup [.int (a.1 + (b.1 - a.1)), .int a.2])) t2' (.tup [.int a.1, .int (a.2 + (b.2 - a.2))])) t1 (a.1 + (b.1 - a.1), a.2) := u2 _ _ upd_same
            rw [show ((b.1, a.2) : Cell) = (a.1 + (b.1 - a.1), a.2) from by rw [e1]]
            exact q
          have at2' : At (upd (upd G1 t1 (.tup [.int (a.1 + (b.1 - a.1)), .int a.2])) t2' (.tup [.int a.1, .int (a.2 + (b.2 - a.2))])) t2' (a.1, b.2) := by
            have q : At (upd (upd G1 t1 (.tup [.int (a.1 + (b.1 - a.1)), .int a.2])) t2' (.tup [.int a.1, .int (a.2 + (b.2 - a.2))])) t2' (a.1, a.2 + (b.2 - a.2)) := upd_same
            rw [show ((a.1, b.2) : Cell) = (a.1, a.2 + (b.2 - a.2)) from by rw [e2]]
            exact q
          refine ⟨_, _, rfl, ?_⟩
          generalize upd (upd G1 t1 (.tup [.int (a.1 + (b.1 - a.1)), .int a.2])) t2' (.tup [.int a.1, .int (a.2 + (b.2 - a.2))]) = G2 at u12 at1' at2'
          refine ⟨_, rfl, _, rfl, ld, _, rfl, dget_lot (u12 _ _ eld) at1', ?_⟩
          refine ⟨_, rfl, _, rfl, ld, _, rfl, dget_lot (u12 _ _ eld) at2', rfl, ?_⟩
          have smF := sm1.trans u12
          have fin : ∀ (Dd : Ends) {v2 v3 v4 v5 v6 v7 v9 v10 : Option V}, (∀ v H', Q v H' → Dd.rt v H') → t2 Dd [some (.ref t), some (.ref p), v2, v3, v4, v5, v6, v7, some (.bl (!decide (byPlace L a b = .non))), v9, v10] G2 := fun Dd {v2 v3 v4 v5 v6 v7 v9 v10} hQ => key2 Dd G2 v2 v3 v4 v5 v6 v7 v9 v10 t p L a b (ct.ek (.of smF)) nL lL (ap.same smF) fun G' s' => hQ _ _ (k G' (smF.trans s'))
          have eB : (!decide (byPlace L a b = .non)) = turnsB L a b := by
            unfold byPlace
            rw [if_neg hno, if_neg h1, if_pos ⟨h2, h3⟩]
            cases turnsB L a b <;> rfl
          rw [eB] at fin
          unfold turnsB at fin
          rw [lot_is, lot_is]
          cases x : decide ((a.1, b.2) ∈ L) <;> cases y : decide ((b.1, a.2) ∈ L) <;> rw [x, y] at fin <;> exact fin _ (fun _ _ h => h)
        · exact fin0 _ (fun _ _ h => h) (none_ fun z => h3 (decide_eq_true (congrArg V.int z.2)))
      · exact fin0 _ (fun _ _ h => h) (none_ fun z => h2 (decide_eq_true (congrArg V.int z.1)))
end
end Sq

set_option Elab.async false
set_option linter.all false
set_option maxRecDepth 100000
set_option maxHeartbeats 8000000
/-! The law's moves (the w-family). -/
namespace Sq
open PySem PySem.Spec PyProof.Rows L2
def spWMoves : Sp := fun vs H Q _ => ∃ (t : Addr) (L : List Cell), vs = [.ref t] ∧ CellsT H t L ∧ L.Nodup ∧ L.length ≤ 1000 ∧
  ∀ l H', Same H H' → PairsL H' l (movesC L (L.filter fun c => hangsB (without L c))) → Q (.ref l) H'
theorem may_ends {L : List Cell} {s : Cell} : ((aroundC s).filter (mayW L s)).map (fun e => (s, e)) = if hangsB (without L s) = true then (endsC L s).map fun e => (s, e) else [] := by
  by_cases h : hangsB (without L s) = true
  · rw [if_pos h]
    unfold endsC
    congr 1
    refine List.filter_congr fun e _ => ?_
    rw [may_place, h, Bool.and_true]
  · rw [if_neg h, List.map_eq_nil_iff, List.filter_eq_nil_iff]
    intro e _ z
    rw [may_place] at z
    simp [h] at z
theorem moves_snocW {L : List Cell} {i : Nat} {s : Cell} (h : L[i]? = some s) : movesC L ((L.take (i + 1)).filter fun c => hangsB (without L c)) = movesC L ((L.take i).filter fun c => hangsB (without L c)) ++ ((aroundC s).filter (mayW L s)).map fun e => (s, e) := by
  rw [moves_step h, may_ends]
theorem eight_le : (8 : Nat) ≤ sizeLine := by rw [sizeLine_eq]; decide
section
variable {P : Program} {w : World} {K : PySem.W.Frag} {mg : Str → Option Value} {base : Heap} {Ts : List Addr}
theorem scWX : FnScope ["_law_cells", "_law_found", "_law_start", "_law_across", "_law_up", "_law_end"] ["_law_cells"] (defScope lWMoves) := ⟨rfl, rfl, rfl, by decide +kernel, rfl, by decide +kernel, by decide +kernel⟩
theorem ok_wMoves {f : Addr} {fd : FuncData} (F : FnP K "_law_w_moves" lWMoves f fd) (B : Bl mg) (DM : Df P w K mg base CX0 3 "_law_w_may" ["_law_cells", "_law_start", "_law_end"] spWMay) : FnOk P w K mg base CX0 4 f fd ["_law_cells"] spWMoves := by
  refine F.ok scWX (fun vs H Q E h => ?_) (fun cdv A outer s H vs Q E hr h => ?_)
  · obtain ⟨t, L, rfl, _⟩ := h
    rfl
  · obtain ⟨t, L, rfl, ct, nL, lL, k⟩ := h
    refine ⟨_, PSs.nox (pss_cons (ps_set (i := 1) scWX.nd rfl (.inl rfl) (pe_lst pa_nil))
      (pss_cons (ps_for PassesOwn.never rfl (pi_tup (pv 0)) (pg_name (i := 2) scWX.nd rfl (.inl rfl))
      (pss_one (ps_for PassesOwn.never rfl (pi_list (pe_lst (pa_cons (pe_tup (pa_cons (pe_un un_neg pe_int) (pa_cons (pe_un un_neg pe_int) pa_nil))) (pa_cons (pe_tup (pa_cons (pe_un un_neg pe_int) (pa_cons pe_int pa_nil))) (pa_cons (pe_tup (pa_cons (pe_un un_neg pe_int) (pa_cons pe_int pa_nil))) (pa_cons (pe_tup (pa_cons pe_int (pa_cons (pe_un un_neg pe_int) pa_nil))) (pa_cons (pe_tup (pa_cons pe_int (pa_cons pe_int pa_nil))) (pa_cons (pe_tup (pa_cons pe_int (pa_cons (pe_un un_neg pe_int) pa_nil))) (pa_cons (pe_tup (pa_cons pe_int (pa_cons pe_int pa_nil))) (pa_cons (pe_tup (pa_cons pe_int (pa_cons pe_int pa_nil))) pa_nil)))))))))) (pg_tup (by rfl) (pgs_cons (pg_name (i := 3) scWX.nd rfl (.inl rfl)) (pgs_cons (pg_name (i := 4) scWX.nd rfl (.inl rfl)) pgs_nil)))
        (pss_cons (ps_set (i := 5) scWX.nd rfl (.inl rfl) (pe_tup (pa_cons (pe_op op_add (pe_ix (ix_tupK (K := K) rfl) (pv 2) pe_int (fun _ _ => rfl)) (pv 3)) (pa_cons (pe_op op_add (pe_ix (ix_tupK (K := K) rfl) (pv 2) pe_int (fun _ _ => rfl)) (pv 4)) pa_nil))))
          (pss_one (ps_if (pt_val (pe_df DM hr (by rfl) pass0 (pa_cons (pv 0) (pa_cons (pv 2) (pa_cons (pv 5) pa_nil)))))
          (pss_one (ps_expr (pe_bm PySem.F.plainAttrs_list PySem.F.slot_list_append PySem.F.type_list_append mt_append (pv 1) (pa_cons (pe_tup (pa_cons (pv 2) (pa_cons (pv 5) pa_nil))) pa_nil))))
          pss_nil))))))
      (pss_one (ps_ret (pv 1))))), ?_⟩
    obtain ⟨qs, et, pr0⟩ := id ct
    have lq : qs.length = L.length := Paired.length pr0
    refine ⟨Nat.zero_le _, fun D hD => ?_⟩
    refine ⟨_, rfl, t, rfl, ⟨_, SqT.of (same_new hD _ _ et)⟩, ?_⟩
    refine for_tup (K := K) (a := t) (xs := qs.map V.ref) (fun i σ G => ∃ (ps : List Addr) (v2 v3 v4 v5 : Option V), σ = [some (.ref t), some (.ref D), v2, v3, v4, v5] ∧ Same H G ∧ G D = some (.lst (ps.map V.ref)) ∧ ps.length ≤ 8 * i ∧ Paired (fun p m => PairAt G p m) ps (movesC L ((L.take i).filter fun c => hangsB (without L c))))
      ⟨[], none, none, none, none, rfl, same_new hD, upd_same, Nat.le_refl _, .nil⟩ (fun i σ G _ ⟨_, _, _, _, _, _, sm, _⟩ => SqT.of (sm _ _ et)) ?_ ?_
    · rintro i x σ G hi ⟨ps, v2, v3, v4, v5, rfl, sm, gD, ln, pr⟩
      rw [List.getElem?_map] at hi
      obtain ⟨q, hq, rfl⟩ := Option.map_eq_some_iff.mp hi
      obtain ⟨c, hc, ac⟩ := paired_get pr0 hq
      have iL : i < L.length := (List.getElem?_eq_some_iff.mp hc).1
      refine ⟨_, rfl, _, rfl, two_le, fun w1 h1 => ?_⟩
      have r1 := same_new (o := .tup [.int (-1), .int (-1)]) h1
      have x1 := upd_same (H := G) (a := w1) (o := .tup [.int (-1), .int (-1)])
      generalize upd G w1 (.tup [.int (-1), .int (-1)]) = W1 at r1 x1 ⊢
      refine ⟨_, rfl, two_le, fun w2 h2 => ?_⟩
      have r2 := same_new (o := .tup [.int (-1), .int 0]) h2
      have x2 := upd_same (H := W1) (a := w2) (o := .tup [.int (-1), .int 0])
      generalize upd W1 w2 (.tup [.int (-1), .int 0]) = W2 at r2 x2 ⊢
      refine ⟨_, rfl, two_le, fun w3 h3 => ?_⟩
      have r3 := same_new (o := .tup [.int (-1), .int 1]) h3
      have x3 := upd_same (H := W2) (a := w3) (o := .tup [.int (-1), .int 1])
      generalize upd W2 w3 (.tup [.int (-1), .int 1]) = W3 at r3 x3 ⊢
      refine ⟨_, rfl, two_le, fun w4 h4 => ?_⟩
      have r4 := same_new (o := .tup [.int 0, .int (-1)]) h4
      have x4 := upd_same (H := W3) (a := w4) (o := .tup [.int 0, .int (-1)])
      generalize upd W3 w4 (.tup [.int 0, .int (-1)]) = W4 at r4 x4 ⊢
      refine ⟨two_le, fun w5 h5 => ?_⟩
      have r5 := same_new (o := .tup [.int 0, .int 1]) h5
      have x5 := upd_same (H := W4) (a := w5) (o := .tup [.int 0, .int 1])
      generalize upd W4 w5 (.tup [.int 0, .int 1]) = W5 at r5 x5 ⊢
      refine ⟨_, rfl, two_le, fun w6 h6 => ?_⟩
      have r6 := same_new (o := .tup [.int 1, .int (-1)]) h6
      have x6 := upd_same (H := W5) (a := w6) (o := .tup [.int 1, .int (-1)])
      generalize upd W5 w6 (.tup [.int 1, .int (-1)]) = W6 at r6 x6 ⊢
      refine ⟨two_le, fun w7 h7 => ?_⟩
      have r7 := same_new (o := .tup [.int 1, .int 0]) h7
      have x7 := upd_same (H := W6) (a := w7) (o := .tup [.int 1, .int 0])
      generalize upd W6 w7 (.tup [.int 1, .int 0]) = W7 at r7 x7 ⊢
      refine ⟨two_le, fun w8 h8 => ?_⟩
      have r8 := same_new (o := .tup [.int 1, .int 1]) h8
      have x8 := upd_same (H := W7) (a := w8) (o := .tup [.int 1, .int 1])
      generalize upd W7 w8 (.tup [.int 1, .int 1]) = W8 at r8 x8 ⊢
      refine ⟨eight_le, fun lw hw0 => ?_⟩
      have r9 := same_new (o := .lst [.ref w1, .ref w2, .ref w3, .ref w4, .ref w5, .ref w6, .ref w7, .ref w8]) hw0
      have ew : upd W8 lw (.lst [.ref w1, .ref w2, .ref w3, .ref w4, .ref w5, .ref w6, .ref w7, .ref w8]) lw = some (.lst ([w1, w2, w3, w4, w5, w6, w7, w8].map V.ref)) := upd_same
      generalize upd W8 lw (.lst [.ref w1, .ref w2, .ref w3, .ref w4, .ref w5, .ref w6, .ref w7, .ref w8]) = GW at r9 ew ⊢
      have rG : Same G W8 := ((((((r1.trans r2).trans r3).trans r4).trans r5).trans r6).trans r7).trans r8
      have rw_ := rG.trans r9
      have hw := rG.free hw0
      have pw : Paired (fun u b => At GW u b) [w1, w2, w3, w4, w5, w6, w7, w8] stepL :=
        .cons (r9 _ _ (r8 _ _ (r7 _ _ (r6 _ _ (r5 _ _ (r4 _ _ (r3 _ _ (r2 _ _ x1)))))))) (.cons (r9 _ _ (r8 _ _ (r7 _ _ (r6 _ _ (r5 _ _ (r4 _ _ (r3 _ _ x2))))))) (.cons (r9 _ _ (r8 _ _ (r7 _ _ (r6 _ _ (r5 _ _ (r4 _ _ x3)))))) (.cons (r9 _ _ (r8 _ _ (r7 _ _ (r6 _ _ (r5 _ _ x4))))) (.cons (r9 _ _ (r8 _ _ (r7 _ _ (r6 _ _ x5)))) (.cons (r9 _ _ (r8 _ _ (r7 _ _ x6))) (.cons (r9 _ _ (r8 _ _ x7)) (.cons (r9 _ _ x8) .nil)))))))
      refine ⟨lw, rfl, ⟨_, SqL.of ew⟩, ?_⟩
      have gDw := rw_ _ _ gD
      have nDw : lw ≠ D := fun z => by rw [z, gD] at hw; cases hw
      refine for_list (K := K) (a := lw) (xs := [w1, w2, w3, w4, w5, w6, w7, w8].map V.ref) (fun j σ G' => ∃ (ps : List Addr) (v3 v4 v5 : Option V), σ = [some (.ref t), some (.ref D), some (.ref q), v3, v4, v5] ∧ Same H G' ∧ Tk GW G' ∧ G' lw = some (.lst ([w1, w2, w3, w4, w5, w6, w7, w8].map V.ref)) ∧ G' D = some (.lst (ps.map V.ref)) ∧ ps.length ≤ 8 * i + j ∧
        Paired (fun p m => PairAt G' p m) ps (movesC L ((L.take i).filter fun c => hangsB (without L c)) ++ (((aroundC c).take j).filter (mayW L c)).map fun e => (c, e)))
        ⟨ps, v3, v4, v5, rfl, sm.trans rw_, fun _ _ e => e, ew, gDw, ln, by rw [List.take_zero, List.filter_nil, List.map_nil, List.append_nil]; exact paired_imp (fun _ _ h => h.same rw_) pr⟩ (fun j σ G' _ ⟨_, _, _, _, _, _, _, e, _⟩ => SqL.of e) ?_ ?_
      · rintro j x σ G' hj ⟨ps, v3, v4, v5, rfl, smj, tuj, elj, gDj, lnj, prj⟩
        rw [List.getElem?_map] at hj
        obtain ⟨u, hu2, rfl⟩ := Option.map_eq_some_iff.mp hj
        obtain ⟨b, hb, ab⟩ := paired_get pw hu2
        have jl : j < 8 := (List.getElem?_eq_some_iff.mp hb).1
        have acj : At G' q c := smj _ _ ac
        have abj : At G' u b := tuj _ _ ab
        have hbA : (aroundC c)[j]? = some (c.1 + b.1, c.2 + b.2) := by rw [around_steps, List.getElem?_map, hb]; rfl
        refine ⟨u, _, rfl, SqT.of abj, rfl, _, _, rfl, _, _, rfl, rfl, ?_⟩
        refine ⟨_, rfl, _, _, _, _, rfl, rfl, SqT.of acj, at0, _, rfl, _, _, rfl, rfl, _, rfl, _, _, _, _, rfl, rfl, SqT.of acj, at1, _, rfl, _, _, rfl, rfl, two_le, fun e he => ?_⟩
        have s5 := same_new (o := .tup (cV (c.1 + b.1, c.2 + b.2))) he
        refine ⟨_, rfl, _, rfl, _, rfl, t, q, e, L, c, (c.1 + b.1, c.2 + b.2), rfl, ct.ek (.of (smj.trans s5)), nL, lL, s5 _ _ acj, upd_same, fun G6 s6 => ?_⟩
        have s56 := s5.trans s6
        have gD6 := s56 _ _ gDj
        have el6 := s56 _ _ elj
        have pr6 := paired_imp (fun _ _ (h : PairAt G' _ _) => h.same s56) prj
        have st : ((aroundC c).take (j + 1)).filter (mayW L c) = ((aroundC c).take j).filter (mayW L c) ++ (if mayW L c (c.1 + b.1, c.2 + b.2) = true then [(c.1 + b.1, c.2 + b.2)] else []) := by rw [take_snoc hbA, filter_snoc]
        refine ⟨_, rfl, ?_⟩
        refine ite2 (fun h1 => ?_) (fun h1 => ?_)
        · rw [if_pos h1] at st
          refine ⟨_, rfl, .inl ⟨rfl, _, SqL.of gD6⟩, _, rfl, _, rfl, two_le, fun m hm => ?_⟩
          have s7 := same_new (o := .tup [.ref q, .ref e]) hm
          refine ⟨D, _, _, rfl, rfl, s7 _ _ gD6, by rw [List.length_map, sizeLine_eq]; omega, ?_⟩
          have tu := upd_tu (o' := .lst (ps.map V.ref ++ [V.ref m])) (s7 _ _ gD6) (by intro xs z; cases z)
          refine ⟨ps ++ [m], _, _, _, rfl, same_put (smj.trans (s56.trans s7)) hD, fun b xs e => tu _ _ (s7 _ _ (s56 _ _ (tuj _ _ e))), by rw [upd_ne nDw]; exact s7 _ _ el6, by rw [upd_same, List.map_append]; rfl, by rw [List.length_append]; exact Nat.succ_le_succ lnj, ?_⟩
          rw [st, List.map_append, ← List.append_assoc]
          exact (paired_imp (fun _ _ h => (h.same s7).keep tu) pr6).snoc ⟨q, e, tu _ _ upd_same, tu _ _ (s7 _ _ (s56 _ _ acj)), tu _ _ (s7 _ _ (s6 _ _ upd_same))⟩
        · rw [if_neg h1, List.append_nil] at st
          refine ⟨ps, _, _, _, rfl, smj.trans s56, fun b xs e => s56 _ _ (tuj _ _ e), el6, gD6, Nat.le_succ_of_le lnj, ?_⟩
          rw [st]
          exact pr6
      · rintro σ G' ⟨ps, v3, v4, v5, rfl, smj, tuj, elj, gDj, lnj, prj⟩
        have prj : Paired (fun p m => PairAt G' p m) ps (movesC L ((L.take i).filter fun c => hangsB (without L c)) ++ ((aroundC c).filter (mayW L c)).map fun e => (c, e)) := prj
        have lnj : ps.length ≤ 8 * i + 8 := lnj
        refine ⟨ps, _, _, _, _, rfl, smj, gDj, by omega, ?_⟩
        rw [moves_snocW hc]
        exact prj
    · rintro σ G ⟨ps, v2, v3, v4, v5, rfl, sm, gD, ln, pr⟩
      rw [List.length_map, lq, List.take_length] at pr
      exact ⟨_, rfl, k D G sm ⟨ps, gD, pr⟩⟩
end
end Sq

set_option Elab.async false
set_option linter.all false
set_option maxRecDepth 100000
set_option maxHeartbeats 8000000
/-! The largest cell of a list. -/
namespace Sq
open PySem PySem.Spec PyProof.Rows L2
theorem lt_cD (a b : Cell) : PySem.W.dataLt (cD a) (cD b) = cLt a b := by
  show PyProof.Rows.lexLt PyProof.Rows.itemOrd (PySem.W.keyToks (cD a)) (PySem.W.keyToks (cD b)) = _
  have tk : ∀ c : Cell, PySem.W.keyToks (cD c) = [.inl 1, .inl c.1, .inl 1, .inl c.2, .inl 0] := fun c => by simp [cD, PySem.W.keyToks, PySem.W.keyToksAll]
  rw [tk, tk]
  obtain ⟨a1, a2⟩ := a
  obtain ⟨b1, b2⟩ := b
  have at1 : ∀ (x y : Int) (r t : List (Int ⊕ List Nat)), PyProof.Rows.lexLt PyProof.Rows.itemOrd (.inl x :: r) (.inl y :: t) = (decide (x < y) || (!decide (y < x) && PyProof.Rows.lexLt PyProof.Rows.itemOrd r t)) := fun x y r t => PyProof.Rows.lex_cons (O := PyProof.Rows.itemOrd) (.inl x) (.inl y) r t
  have nil : PyProof.Rows.lexLt PyProof.Rows.itemOrd ([] : List (Int ⊕ List Nat)) [] = false := rfl
  simp only [at1, nil, cLt]
  rw [Bool.eq_iff_iff]
  simp
  omega
theorem maxD_cells : ∀ (cs : List Cell) (c : Cell), ∃ m ∈ c :: cs, PySem.W.maxD (cD c) (cs.map cD) = cD m ∧ ∀ d ∈ c :: cs, cLt m d = false
  | [], c => ⟨c, List.mem_cons_self .., rfl, fun d hd => by
    rw [List.mem_singleton.mp hd]
    exact decide_eq_false (by omega)⟩
  | e :: cs, c => by
    have st : PySem.W.maxD (cD c) ((e :: cs).map cD) = PySem.W.maxD (cD (if cLt c e = true then e else c)) (cs.map cD) := by
      show List.foldl _ _ _ = List.foldl _ _ _
      rw [List.map_cons, List.foldl_cons, lt_cD]
      cases cLt c e <;> rfl
    obtain ⟨m, hm, em, le⟩ := maxD_cells cs (if cLt c e = true then e else c)
    have h0 := le _ (List.mem_cons_self ..)
    rw [st]
    refine ⟨m, ?_, em, fun d hd => ?_⟩
    · rcases List.mem_cons.mp hm with z | z
      · rw [z]
        by_cases h : cLt c e = true
        · rw [if_pos h]
          exact List.mem_cons_of_mem _ (List.mem_cons_self ..)
        · rw [if_neg h]
          exact List.mem_cons_self ..
      · exact List.mem_cons_of_mem _ (List.mem_cons_of_mem _ z)
    · by_cases h : cLt c e = true
      · rw [if_pos h] at h0
        rcases List.mem_cons.mp hd with z | z
        · rw [z]
          have h := of_decide_eq_true h
          have h0 := of_decide_eq_false h0
          exact decide_eq_false (by omega)
        · rcases List.mem_cons.mp z with z | z
          · rw [z]
            exact h0
          · exact le d (List.mem_cons_of_mem _ z)
      · rw [if_neg h] at h0
        rcases List.mem_cons.mp hd with z | z
        · rw [z]
          exact h0
        · rcases List.mem_cons.mp z with z | z
          · rw [z]
            have h : cLt c e = false := by simpa using h
            have h := of_decide_eq_false h
            have h0 := of_decide_eq_false h0
            exact decide_eq_false (by omega)
          · exact le d (List.mem_cons_of_mem _ z)
section
variable {X : Cx}
theorem paired_getRW {α β : Type} {F : α → β → Prop} {i : Nat} {y : β} : ∀ {xs : List α} {ys : List β}, Paired F xs ys → ys[i]? = some y → ∃ x, xs[i]? = some x ∧ F x y
  | _, _, .nil, e => by simp at e
  | _ :: _, _ :: _, .cons h t, e => by
    cases i with
    | zero =>
      obtain rfl := Option.some.inj e
      exact ⟨_, rfl, h⟩
    | succ i =>
      obtain ⟨x, hx, f⟩ := paired_getRW (i := i) t (by simpa using e)
      exact ⟨x, by simpa using hx, f⟩
theorem reads_cellsW {pins : List (Addr × Obj)} {σ : L2.St} {H : Hp} {s : Shared} (I : Inv X pins σ H s) {qs : List Addr} {cs : List Cell} (pr : Paired (fun q c => At H q c) qs cs) : ∀ {us : List Value}, Vals (qs.map V.ref) us → ∃ as, ReadsAll s.heap us (cs.map cD) as := by
  induction pr with
  | nil =>
    intro us r
    cases r
    exact ⟨_, .nil⟩
  | cons a _ ih =>
    intro us r
    cases r with
    | cons r t =>
      obtain ⟨as, h⟩ := ih t
      obtain ⟨bs, h1⟩ := Dp.reads I (cD _) _ _ (At.dp (K := X.K) a) r
      exact ⟨_, .cons h1 h⟩
/-- max of a list of cells: the largest -/
def rMaxLC (K : PySem.W.Frag) : List V → Hp → VK → Prop := fun vs H Q => ∃ (a : Addr) (qs : List Addr) (cs : List Cell), vs = [V.ref a] ∧ SqL K H a (qs.map V.ref) ∧ Paired (fun q c => At H q c) qs cs ∧ cs ≠ [] ∧ ∀ q c, c ∈ cs → (∀ d ∈ cs, cLt c d = false) → At H q c → Q (.ref q) H
theorem cr_maxLC (hc : X.calm = true) (hu : X.A.units + 64 < cLine) : CallR X (.builtin "max") (rMaxLC X.K) := by
  intro pins s σ H vs us Q I r h
  obtain ⟨a, qs, cs, rfl, hs, pr, ne, q⟩ := h
  obtain ⟨its, rv, hl, _⟩ := I.list hs
  rw [Vals.ref1 r]
  obtain ⟨as, ra⟩ := reads_cellsW I pr rv
  cases cs with
  | nil => exact absurd rfl ne
  | cons c cs =>
    obtain ⟨m, hm, em, le⟩ := maxD_cells cs c
    refine PySem.W.max_list_data (I.ok.hd hc) hl.isList (x := cD c) (xs := cs.map cD) (as := as) (by simpa using ra) ⟨fun x hx y hy => ?_, fun x hx => ?_⟩ ?_ fun i v h' tk bs hi rm hk => ?_
    · obtain ⟨d, _, rfl⟩ := List.mem_map.mp (show x ∈ (c :: cs).map cD from hx)
      obtain ⟨e, _, rfl⟩ := List.mem_map.mp (show y ∈ (c :: cs).map cD from hy)
      exact alike_cD d e
    · obtain ⟨d, _, rfl⟩ := List.mem_map.mp (show x ∈ (c :: cs).map cD from hx)
      simp [cD]
    · have ds : PyData.depthAll (cD c :: cs.map cD) ≤ 1 := (lay_all (n := 1) (ds := (c :: cs).map cD) fun d hd => by
        obtain ⟨c, _, rfl⟩ := List.mem_map.mp hd
        exact lay_cell c).2
      show X.A.units + 1 + _ < cLine
      omega
    · have hv : its[i]? = some v := by simpa using hi
      obtain ⟨y, hy, ry⟩ := paired_getRW rv hv
      rw [List.getElem?_map] at hy
      obtain ⟨b, hb, rfl⟩ := Option.map_eq_some_iff.mp hy
      obtain ⟨d, hd, ad⟩ := paired_get pr hb
      have I2 : Inv X pins σ H { s with heap := h', toks := tk } := I.kept hk
      obtain ⟨bs2, r2⟩ := Dp.reads I2 (cD d) _ _ (At.dp (K := X.K) ad) ry
      rw [em] at rm
      have e : cD m = cD d := (Reads.unique rm _ _ r2).1
      have e : m = d := by simpa using of_decide_eq_true (show decide (m = d) = true by rw [← cD_eqv m d, e]; rw [cD_eqv]; simp)
      exact ⟨.ref b, H, I2, ry, q b d (List.mem_of_getElem? hd) (e ▸ le) ad⟩
end
end Sq

set_option Elab.async false
set_option linter.all false
set_option maxRecDepth 100000
set_option maxHeartbeats 8000000
/-! The law's bodies: the state, a cell is put. -/
namespace Sq
open PySem PySem.Spec PyProof.Rows L2
abbrev wbN : List Str := ["_law_pen_here", "_law_many", "_law_way", "_law_found", "_law_last", "_law_side", "_law_lap", "_law_middle", "_law_cell", "_law_around", "_law_other", "_law_across", "_law_up"]
def forBodyW : Stmt → List Stmt
  | .For _ _ b _ _ => b
  | _ => []
def lapB : List Stmt := forBodyW ((defBody lWBody).getD 2 (.Pass ⟨0, 0, 0, 0⟩))
def ringL : List Cell := [(0, 0), (1, 0), (2, 0), (2, 1), (2, 2), (1, 2), (0, 2), (0, 1)]
theorem op_in_seqK {X : Cx} {K : PySem.W.Frag} (h : X.K = K) : OpR X (compareOp .In) (rIn K false) := h ▸ op_in_seq
/-- the state of a body that grows -/
structure WbI (H : Hp) (p c fl la : Addr) (way : Int) (m n : Nat) (qs : List Addr) (A : List Cell) (G : Hp) : Prop where
  pen : PenC G p c n
  kp : Kp [p] H G
  nf : H fl = none
  nc : c ≠ fl
  ef : G fl = some (.lst (qs.map V.ref))
  pr : Paired (fun q c => At G q c) qs A
  nd : A.Nodup
  gr : Grown A
  l1 : 1 ≤ A.length
  le : A.length ≤ m
  sm : ∀ x ∈ A, x.1.natAbs ≤ 2 * A.length ∧ x.2.natAbs ≤ 2 * A.length
  rg : way = 4 → A.length ≤ 8 → A = ringL.take A.length
  al : ∃ x ∈ A, At G la x
theorem WbI.ek {H : Hp} {p c fl la : Addr} {way : Int} {m n n' : Nat} {qs : List Addr} {A : List Cell} {G G' : Hp} (I : WbI H p c fl la way m n qs A G) (k : Kp [p] G G') (hp : PenC G' p c n') : WbI H p c fl la way m n' qs A G' := by
  have e := pen_ek I.pen.at k
  obtain ⟨x, hx, ax⟩ := I.al
  exact ⟨hp, I.kp.trans k, I.nf, I.nc, e.lst I.ef, paired_imp (fun _ _ h => e.at h) I.pr, I.nd, I.gr, I.l1, I.le, I.sm, I.rg, x, hx, e.at ax⟩
theorem WbI.same {H : Hp} {p c fl la : Addr} {way : Int} {m n : Nat} {qs : List Addr} {A : List Cell} {G G' : Hp} (I : WbI H p c fl la way m n qs A G) (k : Same G G') : WbI H p c fl la way m n qs A G' := I.ek (Kp.of k) (I.pen.same k)
theorem WbI.last {H : Hp} {p c fl la lb : Addr} {way : Int} {m n : Nat} {qs : List Addr} {A : List Cell} {G : Hp} (I : WbI H p c fl la way m n qs A G) (h : ∃ x ∈ A, At G lb x) : WbI H p c fl lb way m n qs A G := ⟨I.pen, I.kp, I.nf, I.nc, I.ef, I.pr, I.nd, I.gr, I.l1, I.le, I.sm, I.rg, h⟩
/-- one more cell -/
theorem WbI.grow {H : Hp} {p c fl la e : Addr} {way : Int} {m n : Nat} {qs : List Addr} {A : List Cell} {G : Hp} {x : Cell} (I : WbI H p c fl la way m n qs A G) (ae : At G e x) (nx : x ∉ A) (bs : ∃ y ∈ A, x ∈ besideC y) (lt : A.length < m) (rg : way = 4 → A.length < 8 → ringL[A.length]? = some x) :
    WbI H p c fl e way m n (qs ++ [e]) (A ++ [x]) (upd G fl (.lst (qs.map V.ref ++ [V.ref e]))) := by
  obtain ⟨y, hy, hb⟩ := bs
  have np : p ≠ fl := fun z => by
    obtain ⟨zs, i0, dg, fo, e1, _⟩ := I.pen.ex
    rw [z, I.ef] at e1
    cases e1
  have off : ∀ {q : Addr} {c : Cell}, At G q c → At (upd G fl (.lst (qs.map V.ref ++ [V.ref e]))) q c := fun h => h.off I.ef (by intro xs z; cases z)
  have ll : (A ++ [x]).length = A.length + 1 := by rw [List.length_append]; rfl
  refine ⟨I.pen.off np I.nc, I.kp.put I.nf, I.nf, I.nc, by rw [upd_same, List.map_append]; rfl, (paired_imp (fun _ _ h => off h) I.pr).snoc (off ae), (List.nodup_append.mpr ⟨I.nd, List.pairwise_singleton _ x, fun a ha b hb z => nx (List.mem_singleton.mp hb ▸ z ▸ ha)⟩), I.gr.snoc hy hb, by rw [ll]; omega, by rw [ll]; omega, fun z hz => ?_, fun w4 l8 => ?_, x, List.mem_append_right _ (List.mem_singleton.mpr rfl), off ae⟩
  · rw [ll]
    rcases List.mem_append.mp hz with h | h
    · have := I.sm z h
      omega
    · rw [List.mem_singleton.mp h]
      have := I.sm y hy
      rw [beside_iff] at hb
      omega
  · rw [ll] at l8 ⊢
    have e := I.rg w4 (by omega)
    have e2 := rg w4 (by omega)
    rw [take_snoc e2, ← e]
section
variable {P : Program} {w : World} {K : PySem.W.Frag} {mg : Str → Option Value} {base : Heap} {Ts : List Addr}
theorem scWbd : FnScope wbN ["_law_pen_here", "_law_many"] (defScope lWBody) := ⟨rfl, rfl, rfl, by decide +kernel, rfl, by decide +kernel, by decide +kernel⟩
variable {f : Addr} {cdv : Value} {A0 : Around} {outer : List Env} {s : Shared} {H0 : Hp} {E : XK}
/-- a cell is put -/
theorem wb_put (hr : Room 2 (cxOf CX0 P w K mg base wbN "_law_w_body" (defScope lWBody) f cdv A0 outer s H0 E).nox.A) :
    ∃ t, PSs (cxOf CX0 P w K mg base wbN "_law_w_body" (defScope lWBody) f cdv A0 outer s H0 E).nox (lapB.drop 7) t ∧
      ∀ (D : Ends) (H G : Hp) (p c fl la e : Addr) (way sd ar : Int) (m n : Nat) (v6 v7 v10 v11 v12 : Option V) (qs : List Addr) (A : List Cell) (x : Cell), WbI H p c fl la way m n qs A G → m ≤ 100 → n < 1000000 → At G e x → (∃ y ∈ A, x ∈ besideC y) → A.length < m → (way = 4 → A.length < 8 → ringL[A.length]? = some x) → x ∉ A → (∀ la' n' G' qs' A', n' ≤ n + 0 → WbI H p c fl la' way m n' qs' A' G' → D.nx [some (.ref p), some (.int (m : Int)), some (.int way), some (.ref fl), some (.ref la'), some (.int sd), v6, v7, some (.ref e), some (.int ar), v10, v11, v12] G' ∧ D.ct [some (.ref p), some (.int (m : Int)), some (.int way), some (.ref fl), some (.ref la'), some (.int sd), v6, v7, some (.ref e), some (.int ar), v10, v11, v12] G') →
        t D [some (.ref p), some (.int (m : Int)), some (.int way), some (.ref fl), some (.ref la), some (.int sd), v6, v7, some (.ref e), some (.int ar), v10, v11, v12] G := by
  refine ⟨_, (pss_cons (ps_expr (pe_bm PySem.F.plainAttrs_list PySem.F.slot_list_append PySem.F.type_list_append mt_append (pv 3) (pa_cons (pv 8) pa_nil)))
        (pss_one (ps_set (i := 4) scWbd.nd rfl (.inl rfl) (pv 8)))), ?_⟩
  intro D H G p c fl la e way sd ar m n v6 v7 v10 v11 v12 qs A x I m8 hn ae bs lt rg nx kD
  have lq : qs.length = A.length := Paired.length I.pr
  refine ⟨_, rfl, .inl ⟨rfl, _, SqL.of I.ef⟩, _, rfl, fl, _, _, rfl, rfl, I.ef, by rw [List.length_map, sizeLine_eq]; omega, ?_⟩
  exact ⟨_, rfl, (kD e n _ _ _ (Nat.le_refl _) (I.grow ae nx bs lt rg)).1⟩
/-- a cell is left out, or put -/
theorem wb_skip (hr : Room 2 (cxOf CX0 P w K mg base wbN "_law_w_body" (defScope lWBody) f cdv A0 outer s H0 E).nox.A) (DD : Df P w K mg base CX0 1 "_law_draw" ["_law_pen_here", "_law_many"] spDrawC) (DP : Df P w K mg base CX0 2 "_law_pick" ["_law_pen_here", "_law_some"] (spPickC K)) :
    ∃ t, PSs (cxOf CX0 P w K mg base wbN "_law_w_body" (defScope lWBody) f cdv A0 outer s H0 E).nox (lapB.drop 6) t ∧
      ∀ (D : Ends) (H G : Hp) (p c fl la e : Addr) (way sd ar : Int) (m n : Nat) (v6 v7 v10 v11 v12 : Option V) (qs : List Addr) (A : List Cell) (x : Cell), WbI H p c fl la way m n qs A G → m ≤ 100 → n < 900000 → At G e x → (∃ y ∈ A, x ∈ besideC y) → A.length < m → (way = 4 → A.length < 8 → ringL[A.length]? = some x) → (∀ la' n' G' qs' A', n' ≤ n + 2 → WbI H p c fl la' way m n' qs' A' G' → D.nx [some (.ref p), some (.int (m : Int)), some (.int way), some (.ref fl), some (.ref la'), some (.int sd), v6, v7, some (.ref e), some (.int ar), v10, v11, v12] G' ∧ D.ct [some (.ref p), some (.int (m : Int)), some (.int way), some (.ref fl), some (.ref la'), some (.int sd), v6, v7, some (.ref e), some (.int ar), v10, v11, v12] G') →
        t D [some (.ref p), some (.int (m : Int)), some (.int way), some (.ref fl), some (.ref la), some (.int sd), v6, v7, some (.ref e), some (.int ar), v10, v11, v12] G := by
  have h64 := room64 hr
  obtain ⟨t7, ht7, key7⟩ := wb_put (P := P) (w := w) (K := K) (mg := mg) (base := base) (f := f) (cdv := cdv) (A0 := A0) (outer := outer) (s := s) (H0 := H0) (E := E) hr
  refine ⟨_, (pss_cons (ps_if (PW.pt (pw_or (pt_cmpR (op_inH h64) (pv 8) (pv 3) (by rfl)) (pw_or1 (PW.pt (pw_and (pt_cmpR (op_in_seqK (K := K) rfl) (pv 2) (pe_lst (pa_cons pe_int (pa_cons pe_int (pa_cons pe_int pa_nil)))) (by rfl)) (pw_and (pt_cmpR op_gt (pv 9) pe_int (nomark _)) (pw_and1 (pt_cmpR op_gt (pe_df DD hr (by rfl) pass0 (pa_cons (pv 0) (pa_cons pe_int pa_nil))) pe_int (nomark _)))))))))
        (pss_cons (ps_set (i := 4) scWbd.nd rfl (.inl rfl) (pe_df DP hr (by rfl) pass0 (pa_cons (pv 0) (pa_cons (pv 3) pa_nil))))
          (pss_one ps_continue))
        pss_nil) ht7), ?_⟩
  intro D H G p c fl la e way sd ar m n v6 v7 v10 v11 v12 qs A x I m8 hn ae bs lt rg kD
  have lq : qs.length = A.length := Paired.length I.pr
  have l1 := I.l1
  refine ⟨_, rfl, _, rfl, e, fl, x, A, rfl, rfl, ae, ⟨qs, I.ef, I.pr⟩, _, rfl, ?_⟩
  refine ite2 (fun hx => ?_) (fun hx => ?_)
  · have I' := I
    obtain ⟨n', en⟩ : ∃ n', n' = n := ⟨_, rfl⟩
    rw [← en] at I'
    refine ⟨_, rfl, _, rfl, p, c, fl, n', qs.map V.ref, rfl, I'.pen, by omega, .inl (SqL.of I'.ef), by rw [List.length_map]; omega, by rw [List.length_map]; omega, fun j y G1 hy hp1 hb1 => ?_⟩
    rw [List.getElem?_map] at hy
    obtain ⟨b, hb, rfl⟩ := Option.map_eq_some_iff.mp hy
    obtain ⟨d, hd, ad⟩ := paired_get I'.pr hb
    have k1 := kp_pick hb1
    have I1 := I'.ek k1 hp1
    exact (kD b (n' + 1) G1 qs A (by omega) (I1.last ⟨d, List.mem_of_getElem? hd, (pen_ek I'.pen.at k1).at ad⟩)).2
  have hx : x ∉ A := by simpa using hx
  have put : ∀ G' n', n' ≤ n + 1 → WbI H p c fl la way m n' qs A G' → At G' e x → t7 D [some (.ref p), some (.int (m : Int)), some (.int way), some (.ref fl), some (.ref la), some (.int sd), v6, v7, some (.ref e), some (.int ar), v10, v11, v12] G' := fun G' n' hn' I' ae' => key7 D H G' p c fl la e way sd ar m n' v6 v7 v10 v11 v12 qs A x I' m8 (by omega) ae' bs lt rg hx fun la' n2 G2 qs2 A2 hn2 I2 => kD la' n2 G2 qs2 A2 (by omega) I2
  refine ⟨_, rfl, three_le, fun l0 hl0 => ?_⟩
  have s0 := same_new (o := .lst [.int 1, .int 2, .int 3]) hl0
  refine ⟨l0, _, rfl, .inl (SqL.of upd_same), rfl, rfl, _, rfl, ?_⟩
  have I0 := I.same s0
  have ae0 := ae.same s0
  generalize upd G l0 (.lst [.int 1, .int 2, .int 3]) = G0 at I0 ae0
  refine ite2 (fun h1 => ?_) (fun h1 => ?_)
  · refine ⟨_, rfl, _, _, rfl, rfl, _, rfl, ?_⟩
    refine ite2 (fun h2 => ?_) (fun h2 => ?_)
    · refine ⟨_, rfl, p, c, n, 4, rfl, I0.pen, by decide, by decide, by omega, fun r G1 r0 r1 hp1 hb1 => ?_⟩
      have k1 := kp_pick hb1
      have ae1 := (pen_ek I0.pen.at k1).at ae0
      have I' := I0.ek k1 hp1
      refine ⟨_, _, rfl, rfl, _, rfl, ?_⟩
      refine ite2 (fun h3 => ?_) (fun h3 => ?_)
      · obtain ⟨n', en⟩ : ∃ n', n' = n + 1 := ⟨_, rfl⟩
        rw [← en] at I'
        refine ⟨_, rfl, _, rfl, p, c, fl, n', qs.map V.ref, rfl, I'.pen, by omega, .inl (SqL.of I'.ef), by rw [List.length_map]; omega, by rw [List.length_map]; omega, fun j y G5 hy hp5 hb5 => ?_⟩
        rw [List.getElem?_map] at hy
        obtain ⟨b, hb, rfl⟩ := Option.map_eq_some_iff.mp hy
        obtain ⟨d, hd, ad⟩ := paired_get I'.pr hb
        have k1 := kp_pick hb5
        have I1 := I'.ek k1 hp5
        exact (kD b (n' + 1) G5 qs A (by omega) (I1.last ⟨d, List.mem_of_getElem? hd, (pen_ek I'.pen.at k1).at ad⟩)).2
      · exact put G1 (n + 1) (Nat.le_refl _) I' ae1
    · exact put G0 n (Nat.le_succ _) I0 ae0
  · exact put G0 n (Nat.le_succ _) I0 ae0
/-- how many are around -/
theorem wb_around (hr : Room 2 (cxOf CX0 P w K mg base wbN "_law_w_body" (defScope lWBody) f cdv A0 outer s H0 E).nox.A) (B : Bl mg) (DD : Df P w K mg base CX0 1 "_law_draw" ["_law_pen_here", "_law_many"] spDrawC) (DP : Df P w K mg base CX0 2 "_law_pick" ["_law_pen_here", "_law_some"] (spPickC K)) (DB : Df P w K mg base CX0 1 "_law_w_beside" ["_law_cell"] spLBeside) :
    ∃ t, PSs (cxOf CX0 P w K mg base wbN "_law_w_body" (defScope lWBody) f cdv A0 outer s H0 E).nox (lapB.drop 5) t ∧
      ∀ (D : Ends) (H G : Hp) (p c fl la e : Addr) (way sd : Int) (m n : Nat) (v6 v7 v9 v10 v11 v12 : Option V) (qs : List Addr) (A : List Cell) (x : Cell), WbI H p c fl la way m n qs A G → m ≤ 100 → n < 900000 → 0 ≤ sd → sd < 4 → At G e x → (∃ y ∈ A, x ∈ besideC y) → A.length < m → (way = 4 → A.length < 8 → ringL[A.length]? = some x) → (∀ (la2 : Addr) (sd2 : Int) (w7 w8 w9 w10 : Option V) (n2 : Nat) (G2 : Hp) (qs2 : List Addr) (A2 : List Cell), 0 ≤ sd2 → sd2 < 4 → n2 ≤ n + 2 → WbI H p c fl la2 way m n2 qs2 A2 G2 → D.nx [some (.ref p), some (.int (m : Int)), some (.int way), some (.ref fl), some (.ref la2), some (.int sd2), v6, w7, w8, w9, w10, v11, v12] G2 ∧ D.ct [some (.ref p), some (.int (m : Int)), some (.int way), some (.ref fl), some (.ref la2), some (.int sd2), v6, w7, w8, w9, w10, v11, v12] G2) →
        t D [some (.ref p), some (.int (m : Int)), some (.int way), some (.ref fl), some (.ref la), some (.int sd), v6, v7, some (.ref e), v9, v10, v11, v12] G := by
  have h64 := room64 hr
  obtain ⟨t6, ht6, key6⟩ := wb_skip (P := P) (w := w) (K := K) (mg := mg) (base := base) (f := f) (cdv := cdv) (A0 := A0) (outer := outer) (s := s) (H0 := H0) (E := E) hr DD DP
  refine ⟨_, (pss_cons (ps_set (i := 9) scWbd.nd rfl (.inl rfl) (pe_callB call_len_seq (by rfl) B.len PySem.boot_len (pa_cons (pe_lc (own := [("_law_other", 10)]) (g := gName 10) rfl scWbd.nd (pi_list (pe_df DB hr (by rfl) pass0 (pa_cons (pv 8) pa_nil))) (blkOk_by (N := wbN) (sc := defScope lWBody) (by decide +kernel)) (fun _ _ _ _ _ => pg_name (i := 10) scWbd.nd rfl (Or.inl rfl)) (fun _ _ _ _ _ => (pts_one (pt_cmpR (op_inH h64) (pv 10) (pv 3) (by rfl)))) (fun _ _ _ _ _ => (pv 10))) pa_nil))) ht6), ?_⟩
  intro D H G p c fl la e way sd m n v6 v7 v9 v10 v11 v12 qs A x I m8 hn sd0 sd4 ae bs lt rg kD
  refine ⟨_, rfl, e, x, rfl, ae, fun l G1 s1 hl ⟨us, el, pu⟩ => ?_⟩
  refine ⟨l, rfl, ⟨_, SqL.of el⟩, fun DZ hDZ => ?_⟩
  refine lc_cells (walk_list (K := K) (a := l) (xs := us.map V.ref)) hDZ (fun j => ((besideC x).take j).filter fun y => decide (y ∈ A)) rfl (by rw [List.length_map, Paired.length pu]; show 4 ≤ 1000000; decide) (fun j G2 _ s => SqL.of (s _ _ el)) ?_ ?_
  · rintro j y G2 G2' K1 K0 hj s2 ⟨rfl, hy⟩ k1 k0
    rw [List.getElem?_map] at hy
    obtain ⟨u, hu, rfl⟩ := Option.map_eq_some_iff.mp hy
    obtain ⟨z, hz, az⟩ := paired_get pu hu
    refine ⟨rfl, _, rfl, _, rfl, u, fl, z, A, rfl, rfl, s2 _ _ az, ⟨qs, s2 _ _ (s1 _ _ I.ef), paired_imp (fun _ _ h => s2 _ _ (s1 _ _ h)) I.pr⟩, _, rfl, ?_⟩
    exact ite2 (fun h1 => ⟨_, rfl, k1 u z _ same_refl (s2 _ _ az) (filt_snoc hz h1)⟩) (fun h1 => k0 _ same_refl (filt_skip hz h1))
  rintro G2 rs s2 gD pr2
  refine ⟨DZ, _, rfl, .inl (SqL.of gD), ?_⟩
  have s12 := s1.trans s2
  exact key6 D H G2 p c fl la e way sd _ m n v6 v7 v10 v11 v12 qs A x (I.same s12) m8 hn (ae.same s12) bs lt rg fun la2 n2 G3 qs2 A2 hn2 I2 => kD la2 sd v7 (some (.ref e)) _ v10 n2 G3 qs2 A2 sd0 sd4 hn2 I2
theorem ring_beside : ∀ i : Nat, i < 7 → ∀ x, ringL[i + 1]? = some x → ∃ y, ringL[i]? = some y ∧ x ∈ besideC y := by
  intro i hi x hx
  match i, hi with
  | 0, _ | 1, _ | 2, _ | 3, _ | 4, _ | 5, _ | 6, _ =>
    cases hx
    exact ⟨_, rfl, by decide⟩
/-- the ring comes first -/
theorem wb_ring (hr : Room 2 (cxOf CX0 P w K mg base wbN "_law_w_body" (defScope lWBody) f cdv A0 outer s H0 E).nox.A) (B : Bl mg) (DD : Df P w K mg base CX0 1 "_law_draw" ["_law_pen_here", "_law_many"] spDrawC) (DP : Df P w K mg base CX0 2 "_law_pick" ["_law_pen_here", "_law_some"] (spPickC K)) (DB : Df P w K mg base CX0 1 "_law_w_beside" ["_law_cell"] spLBeside) :
    ∃ t, PSs (cxOf CX0 P w K mg base wbN "_law_w_body" (defScope lWBody) f cdv A0 outer s H0 E).nox (lapB.drop 4) t ∧
      ∀ (D : Ends) (H G : Hp) (p c fl la e : Addr) (way sd : Int) (m n : Nat) (v6 v7 v9 v10 v11 v12 : Option V) (qs : List Addr) (A : List Cell) (x : Cell), WbI H p c fl la way m n qs A G → m ≤ 100 → n < 900000 → 0 ≤ sd → sd < 4 → At G e x → (∃ y ∈ A, x ∈ besideC y) → A.length < m → (∀ (la2 : Addr) (sd2 : Int) (w7 w8 w9 w10 : Option V) (n2 : Nat) (G2 : Hp) (qs2 : List Addr) (A2 : List Cell), 0 ≤ sd2 → sd2 < 4 → n2 ≤ n + 2 → WbI H p c fl la2 way m n2 qs2 A2 G2 → D.nx [some (.ref p), some (.int (m : Int)), some (.int way), some (.ref fl), some (.ref la2), some (.int sd2), v6, w7, w8, w9, w10, v11, v12] G2 ∧ D.ct [some (.ref p), some (.int (m : Int)), some (.int way), some (.ref fl), some (.ref la2), some (.int sd2), v6, w7, w8, w9, w10, v11, v12] G2) →
        t D [some (.ref p), some (.int (m : Int)), some (.int way), some (.ref fl), some (.ref la), some (.int sd), v6, v7, some (.ref e), v9, v10, v11, v12] G := by
  have h64 := room64 hr
  obtain ⟨t5, ht5, key5⟩ := wb_around (P := P) (w := w) (K := K) (mg := mg) (base := base) (f := f) (cdv := cdv) (A0 := A0) (outer := outer) (s := s) (H0 := H0) (E := E) hr B DD DP DB
  refine ⟨_, (pss_cons (ps_if (PW.pt (pw_and (pt_cmpR op_eq (pv 2) pe_int (nomark _)) (pw_and1 (pt_cmpR op_lt (pe_callB call_len_seq (by rfl) B.len PySem.boot_len (pa_cons (pv 3) pa_nil)) pe_int (nomark _)))))
        (pss_one (ps_set (i := 8) scWbd.nd rfl (.inl rfl) (pe_ix (ix_listK (K := K) rfl) (pe_lst (pa_cons (pe_tup (pa_cons pe_int (pa_cons pe_int pa_nil))) (pa_cons (pe_tup (pa_cons pe_int (pa_cons pe_int pa_nil))) (pa_cons (pe_tup (pa_cons pe_int (pa_cons pe_int pa_nil))) (pa_cons (pe_tup (pa_cons pe_int (pa_cons pe_int pa_nil))) (pa_cons (pe_tup (pa_cons pe_int (pa_cons pe_int pa_nil))) (pa_cons (pe_tup (pa_cons pe_int (pa_cons pe_int pa_nil))) (pa_cons (pe_tup (pa_cons pe_int (pa_cons pe_int pa_nil))) (pa_cons (pe_tup (pa_cons pe_int (pa_cons pe_int pa_nil))) pa_nil))))))))) (pe_callB call_len_seq (by rfl) B.len PySem.boot_len (pa_cons (pv 3) pa_nil)) (fun _ _ => rfl))))
        pss_nil) ht5), ?_⟩
  intro D H G p c fl la e way sd m n v6 v7 v9 v10 v11 v12 qs A x I m8 hn sd0 sd4 ae bs lt kD
  have lq : qs.length = A.length := Paired.length I.pr
  have l1 := I.l1
  have go : ¬ (way = 4 ∧ A.length < 8) → t5 D [some (.ref p), some (.int (m : Int)), some (.int way), some (.ref fl), some (.ref la), some (.int sd), v6, v7, some (.ref e), v9, v10, v11, v12] G := fun no => key5 D H G p c fl la e way sd m n v6 v7 v9 v10 v11 v12 qs A x I m8 hn sd0 sd4 ae bs lt (fun h1 h2 => absurd ⟨h1, h2⟩ no) kD
  refine ⟨_, rfl, rfl, _, rfl, ?_⟩
  refine ite2 (fun h1 => ?_) (fun h1 => ?_)
  · have way4 : way = 4 := V.int.inj (of_decide_eq_true h1)
    refine ⟨_, rfl, fl, _, rfl, .inl (SqL.of I.ef), _, _, rfl, rfl, _, rfl, ?_⟩
    refine ite2 (fun h2 => ?_) (fun h2 => ?_)
    · have l8 : A.length < 8 := by
        have := of_decide_eq_true h2
        rw [List.length_map] at this
        omega
      refine ⟨two_le, fun w1 h1 => ?_⟩
      have r1 := same_new (o := .tup [.int 0, .int 0]) h1
      have x1 := upd_same (H := G) (a := w1) (o := .tup [.int 0, .int 0])
      generalize upd G w1 (.tup [.int 0, .int 0]) = W1 at r1 x1 ⊢
      refine ⟨two_le, fun w2 h2 => ?_⟩
      have r2 := same_new (o := .tup [.int 1, .int 0]) h2
      have x2 := upd_same (H := W1) (a := w2) (o := .tup [.int 1, .int 0])
      generalize upd W1 w2 (.tup [.int 1, .int 0]) = W2 at r2 x2 ⊢
      refine ⟨two_le, fun w3 h3 => ?_⟩
      have r3 := same_new (o := .tup [.int 2, .int 0]) h3
      have x3 := upd_same (H := W2) (a := w3) (o := .tup [.int 2, .int 0])
      generalize upd W2 w3 (.tup [.int 2, .int 0]) = W3 at r3 x3 ⊢
      refine ⟨two_le, fun w4 h4 => ?_⟩
      have r4 := same_new (o := .tup [.int 2, .int 1]) h4
      have x4 := upd_same (H := W3) (a := w4) (o := .tup [.int 2, .int 1])
      generalize upd W3 w4 (.tup [.int 2, .int 1]) = W4 at r4 x4 ⊢
      refine ⟨two_le, fun w5 h5 => ?_⟩
      have r5 := same_new (o := .tup [.int 2, .int 2]) h5
      have x5 := upd_same (H := W4) (a := w5) (o := .tup [.int 2, .int 2])
      generalize upd W4 w5 (.tup [.int 2, .int 2]) = W5 at r5 x5 ⊢
      refine ⟨two_le, fun w6 h6 => ?_⟩
      have r6 := same_new (o := .tup [.int 1, .int 2]) h6
      have x6 := upd_same (H := W5) (a := w6) (o := .tup [.int 1, .int 2])
      generalize upd W5 w6 (.tup [.int 1, .int 2]) = W6 at r6 x6 ⊢
      refine ⟨two_le, fun w7 h7 => ?_⟩
      have r7 := same_new (o := .tup [.int 0, .int 2]) h7
      have x7 := upd_same (H := W6) (a := w7) (o := .tup [.int 0, .int 2])
      generalize upd W6 w7 (.tup [.int 0, .int 2]) = W7 at r7 x7 ⊢
      refine ⟨two_le, fun w8 h8 => ?_⟩
      have r8 := same_new (o := .tup [.int 0, .int 1]) h8
      have x8 := upd_same (H := W7) (a := w8) (o := .tup [.int 0, .int 1])
      generalize upd W7 w8 (.tup [.int 0, .int 1]) = W8 at r8 x8 ⊢
      refine ⟨eight_le, fun lw hw0 => ?_⟩
      have r9 := same_new (o := .lst [.ref w1, .ref w2, .ref w3, .ref w4, .ref w5, .ref w6, .ref w7, .ref w8]) hw0
      have ew : upd W8 lw (.lst [.ref w1, .ref w2, .ref w3, .ref w4, .ref w5, .ref w6, .ref w7, .ref w8]) lw = some (.lst ([w1, w2, w3, w4, w5, w6, w7, w8].map V.ref)) := upd_same
      generalize upd W8 lw (.lst [.ref w1, .ref w2, .ref w3, .ref w4, .ref w5, .ref w6, .ref w7, .ref w8]) = GW at r9 ew ⊢
      have rG : Same G W8 := ((((((r1.trans r2).trans r3).trans r4).trans r5).trans r6).trans r7).trans r8
      have rw_ := rG.trans r9
      have hw := rG.free hw0
      have pw : Paired (fun u b => At GW u b) [w1, w2, w3, w4, w5, w6, w7, w8] ringL :=
        .cons (r9 _ _ (r8 _ _ (r7 _ _ (r6 _ _ (r5 _ _ (r4 _ _ (r3 _ _ (r2 _ _ x1)))))))) (.cons (r9 _ _ (r8 _ _ (r7 _ _ (r6 _ _ (r5 _ _ (r4 _ _ (r3 _ _ x2))))))) (.cons (r9 _ _ (r8 _ _ (r7 _ _ (r6 _ _ (r5 _ _ (r4 _ _ x3)))))) (.cons (r9 _ _ (r8 _ _ (r7 _ _ (r6 _ _ (r5 _ _ x4))))) (.cons (r9 _ _ (r8 _ _ (r7 _ _ (r6 _ _ x5)))) (.cons (r9 _ _ (r8 _ _ (r7 _ _ x6))) (.cons (r9 _ _ (r8 _ _ x7)) (.cons (r9 _ _ x8) .nil)))))))

      refine ⟨_, rfl, fl, _, rfl, .inl (SqL.of (rw_ _ _ I.ef)), ?_⟩
      obtain ⟨z, hz⟩ : ∃ z, ringL[A.length]? = some z := ⟨_, List.getElem?_eq_getElem (by show A.length < 8; exact l8)⟩
      obtain ⟨u, hu, az⟩ := paired_getRW pw hz
      have az : At GW u z := az
      rw [List.length_map, lq]
      refine ⟨lw, _, _, .ref u, rfl, rfl, SqL.of ew, atI_nat (by rw [List.getElem?_map, hu]; rfl), ?_⟩
      have Iw := I.same rw_
      have eA := I.rg way4 (by omega)
      have bs2 : ∃ y ∈ A, z ∈ besideC y := by
        obtain ⟨k, hk⟩ : ∃ k, A.length = k + 1 := ⟨A.length - 1, by omega⟩
        obtain ⟨y, hy, hb⟩ := ring_beside k (by omega) z (by rw [← hk]; exact hz)
        refine ⟨y, ?_, hb⟩
        rw [eA, hk]
        exact List.mem_of_getElem? (i := k) (by rw [List.getElem?_take_of_lt (by omega)]; exact hy)
      exact key5 D H GW p c fl la u way sd m n v6 v7 v9 v10 v11 v12 qs A z Iw m8 hn sd0 sd4 az bs2 lt (fun _ _ => hz) kD
    · refine go fun h => h2 (decide_eq_true ?_)
      rw [List.length_map]
      omega
  · exact go fun h => h1 (decide_eq_true (congrArg V.int h.1))
end
end Sq

set_option Elab.async false
set_option linter.all false
set_option maxRecDepth 100000
set_option maxHeartbeats 8000000
/-! The law's bodies: a lap. -/
namespace Sq
open PySem PySem.Spec PyProof.Rows L2
section
variable {P : Program} {w : World} {K : PySem.W.Frag} {mg : Str → Option Value} {base : Heap} {Ts : List Addr}
variable {f : Addr} {cdv : Value} {A0 : Around} {outer : List Env} {s : Shared} {H0 : Hp} {E : XK}
/-- a cell beside the middle -/
theorem wb_cell (hr : Room 2 (cxOf CX0 P w K mg base wbN "_law_w_body" (defScope lWBody) f cdv A0 outer s H0 E).nox.A) (B : Bl mg) (DD : Df P w K mg base CX0 1 "_law_draw" ["_law_pen_here", "_law_many"] spDrawC) (DP : Df P w K mg base CX0 2 "_law_pick" ["_law_pen_here", "_law_some"] (spPickC K)) (DB : Df P w K mg base CX0 1 "_law_w_beside" ["_law_cell"] spLBeside) :
    ∃ t, PSs (cxOf CX0 P w K mg base wbN "_law_w_body" (defScope lWBody) f cdv A0 outer s H0 E).nox (lapB.drop 3) t ∧
      ∀ (D : Ends) (H G : Hp) (p c fl la md : Addr) (way sd : Int) (m n : Nat) (v6 v8 v9 v10 v11 v12 : Option V) (qs : List Addr) (A : List Cell) (y : Cell), WbI H p c fl la way m n qs A G → m ≤ 100 → n < 900000 → 0 ≤ sd → sd < 4 → At G md y → y ∈ A → A.length < m → (∀ (la2 : Addr) (sd2 : Int) (w7 w8 w9 w10 : Option V) (n2 : Nat) (G2 : Hp) (qs2 : List Addr) (A2 : List Cell), 0 ≤ sd2 → sd2 < 4 → n2 ≤ n + 2 → WbI H p c fl la2 way m n2 qs2 A2 G2 → D.nx [some (.ref p), some (.int (m : Int)), some (.int way), some (.ref fl), some (.ref la2), some (.int sd2), v6, w7, w8, w9, w10, v11, v12] G2 ∧ D.ct [some (.ref p), some (.int (m : Int)), some (.int way), some (.ref fl), some (.ref la2), some (.int sd2), v6, w7, w8, w9, w10, v11, v12] G2) →
        t D [some (.ref p), some (.int (m : Int)), some (.int way), some (.ref fl), some (.ref la), some (.int sd), v6, some (.ref md), v8, v9, v10, v11, v12] G := by
  obtain ⟨t4, ht4, key4⟩ := wb_ring (P := P) (w := w) (K := K) (mg := mg) (base := base) (f := f) (cdv := cdv) (A0 := A0) (outer := outer) (s := s) (H0 := H0) (E := E) hr B DD DP DB
  refine ⟨_, (pss_cons (ps_set (i := 8) scWbd.nd rfl (.inl rfl) (pe_ix (ix_listK (K := K) rfl) (pe_df DB hr (by rfl) pass0 (pa_cons (pv 7) pa_nil)) (pv 5) (fun _ _ => rfl))) ht4), ?_⟩
  intro D H G p c fl la md way sd m n v6 v8 v9 v10 v11 v12 qs A y I m8 hn sd0 sd4 am ym lt kD
  obtain ⟨j, rfl⟩ := Int.eq_ofNat_of_zero_le sd0
  have j4 : j < 4 := by omega
  refine ⟨_, rfl, md, y, rfl, am, fun l G1 s1 hl ⟨us, el, pu⟩ => ?_⟩
  obtain ⟨x, hx⟩ : ∃ x, (besideC y)[j]? = some x := ⟨_, List.getElem?_eq_getElem (by show j < 4; exact j4)⟩
  obtain ⟨u, hu, ax⟩ := paired_getRW pu hx
  have ax : At G1 u x := ax
  refine ⟨_, rfl, l, _, _, .ref u, rfl, rfl, SqL.of el, atI_nat (by rw [List.getElem?_map, hu]; rfl), ?_⟩
  exact key4 D H G1 p c fl la u way _ m n v6 (some (.ref md)) v9 v10 v11 v12 qs A x (I.same s1) m8 hn sd0 sd4 ax ⟨y, ym, List.mem_of_getElem? hx⟩ lt kD
/-- the side -/
theorem wb_side (hr : Room 2 (cxOf CX0 P w K mg base wbN "_law_w_body" (defScope lWBody) f cdv A0 outer s H0 E).nox.A) (B : Bl mg) (DD : Df P w K mg base CX0 1 "_law_draw" ["_law_pen_here", "_law_many"] spDrawC) (DP : Df P w K mg base CX0 2 "_law_pick" ["_law_pen_here", "_law_some"] (spPickC K)) (DB : Df P w K mg base CX0 1 "_law_w_beside" ["_law_cell"] spLBeside) :
    ∃ t, PSs (cxOf CX0 P w K mg base wbN "_law_w_body" (defScope lWBody) f cdv A0 outer s H0 E).nox (lapB.drop 2) t ∧
      ∀ (D : Ends) (H G : Hp) (p c fl la md : Addr) (way sd : Int) (m n : Nat) (v6 v8 v9 v10 v11 v12 : Option V) (qs : List Addr) (A : List Cell) (y : Cell), WbI H p c fl la way m n qs A G → m ≤ 100 → n < 800000 → 0 ≤ sd → sd < 4 → At G md y → y ∈ A → A.length < m → (∀ (la2 : Addr) (sd2 : Int) (w7 w8 w9 w10 : Option V) (n2 : Nat) (G2 : Hp) (qs2 : List Addr) (A2 : List Cell), 0 ≤ sd2 → sd2 < 4 → n2 ≤ n + 5 → WbI H p c fl la2 way m n2 qs2 A2 G2 → D.nx [some (.ref p), some (.int (m : Int)), some (.int way), some (.ref fl), some (.ref la2), some (.int sd2), v6, w7, w8, w9, w10, v11, v12] G2 ∧ D.ct [some (.ref p), some (.int (m : Int)), some (.int way), some (.ref fl), some (.ref la2), some (.int sd2), v6, w7, w8, w9, w10, v11, v12] G2) →
        t D [some (.ref p), some (.int (m : Int)), some (.int way), some (.ref fl), some (.ref la), some (.int sd), v6, some (.ref md), v8, v9, v10, v11, v12] G := by
  obtain ⟨t3, ht3, key3⟩ := wb_cell (P := P) (w := w) (K := K) (mg := mg) (base := base) (f := f) (cdv := cdv) (A0 := A0) (outer := outer) (s := s) (H0 := H0) (E := E) hr B DD DP DB
  refine ⟨_, (pss_cons (ps_set (i := 5) scWbd.nd rfl (.inl rfl) (pe_ifExp (PW.pt (pw_and (pt_cmpR (op_in_seqK (K := K) rfl) (pv 2) (pe_lst (pa_cons pe_int (pa_cons pe_int pa_nil))) (by rfl)) (pw_and1 (pt_cmpR op_gt (pe_df DD hr (by rfl) pass0 (pa_cons (pv 0) (pa_cons pe_int pa_nil))) pe_int (nomark _))))) (pv 5) (pe_df DD hr (by rfl) pass0 (pa_cons (pv 0) (pa_cons pe_int pa_nil))))) ht3), ?_⟩
  intro D H G p c fl la md way sd m n v6 v8 v9 v10 v11 v12 qs A y I m8 hn sd0 sd4 am ym lt kD
  refine ⟨_, rfl, two_le, fun l0 hl0 => ?_⟩
  have s0 := same_new (o := .lst [.int 2, .int 3]) hl0
  refine ⟨l0, _, rfl, .inl (SqL.of upd_same), rfl, rfl, _, rfl, ?_⟩
  have I0 := I.same s0
  have am0 := am.same s0
  generalize upd G l0 (.lst [.int 2, .int 3]) = G0 at I0 am0
  refine ite2 (fun h1 => ?_) (fun h1 => ?_)
  · refine ⟨_, rfl, p, c, n, 3, rfl, I0.pen, by decide, by decide, by omega, fun r G1 r0 r1 hp1 hb1 => ?_⟩
    have k1 := kp_pick hb1
    have am1 := (pen_ek I0.pen.at k1).at am0
    have I1 := I0.ek k1 hp1
    refine ⟨_, _, rfl, rfl, _, rfl, ?_⟩
    refine ite2 (fun h3 => ?_) (fun h3 => ?_)
    · exact ⟨_, rfl, key3 D H G1 p c fl la md way sd m (n + 1) v6 v8 v9 v10 v11 v12 qs A y I1 m8 (by omega) sd0 sd4 am1 ym lt fun la2 sd2 w7 w8 w9 w10 n2 G2 qs2 A2 z0 z4 hn2 I2 => kD la2 sd2 w7 w8 w9 w10 n2 G2 qs2 A2 z0 z4 (by omega) I2⟩
    · refine ⟨_, rfl, p, c, n + 1, 4, rfl, I1.pen, by decide, by decide, by omega, fun r2 G2 r20 r21 hp2 hb2 => ?_⟩
      have k2 := kp_pick hb2
      exact key3 D H G2 p c fl la md way r2 m (n + 1 + 1) v6 v8 v9 v10 v11 v12 qs A y (I1.ek k2 hp2) m8 (by omega) r20 r21 ((pen_ek I1.pen.at k2).at am1) ym lt fun la2 sd2 w7 w8 w9 w10 n2 G2 qs2 A2 z0 z4 hn2 I2 => kD la2 sd2 w7 w8 w9 w10 n2 G2 qs2 A2 z0 z4 (by omega) I2
  · refine ⟨_, rfl, p, c, n, 4, rfl, I0.pen, by decide, by decide, by omega, fun r2 G2 r20 r21 hp2 hb2 => ?_⟩
    have k2 := kp_pick hb2
    exact key3 D H G2 p c fl la md way r2 m (n + 1) v6 v8 v9 v10 v11 v12 qs A y (I0.ek k2 hp2) m8 (by omega) r20 r21 ((pen_ek I0.pen.at k2).at am0) ym lt fun la2 sd2 w7 w8 w9 w10 n2 G2 qs2 A2 z0 z4 hn2 I2 => kD la2 sd2 w7 w8 w9 w10 n2 G2 qs2 A2 z0 z4 (by omega) I2
/-- a lap -/
theorem wb_lap (hr : Room 2 (cxOf CX0 P w K mg base wbN "_law_w_body" (defScope lWBody) f cdv A0 outer s H0 E).nox.A) (B : Bl mg) (DD : Df P w K mg base CX0 1 "_law_draw" ["_law_pen_here", "_law_many"] spDrawC) (DP : Df P w K mg base CX0 2 "_law_pick" ["_law_pen_here", "_law_some"] (spPickC K)) (DB : Df P w K mg base CX0 1 "_law_w_beside" ["_law_cell"] spLBeside) :
    ∃ t, PSs (cxOf CX0 P w K mg base wbN "_law_w_body" (defScope lWBody) f cdv A0 outer s H0 E).nox lapB t ∧
      ∀ (D : Ends) (H G : Hp) (p c fl la : Addr) (way sd : Int) (m n : Nat) (v6 v7 v8 v9 v10 v11 v12 : Option V) (qs : List Addr) (A : List Cell), WbI H p c fl la way m n qs A G → m ≤ 100 → n < 700000 → 0 ≤ sd → sd < 4 → D.bk [some (.ref p), some (.int (m : Int)), some (.int way), some (.ref fl), some (.ref la), some (.int sd), v6, v7, v8, v9, v10, v11, v12] G → (∀ (la2 : Addr) (sd2 : Int) (w7 w8 w9 w10 : Option V) (n2 : Nat) (G2 : Hp) (qs2 : List Addr) (A2 : List Cell), 0 ≤ sd2 → sd2 < 4 → n2 ≤ n + 8 → WbI H p c fl la2 way m n2 qs2 A2 G2 → D.nx [some (.ref p), some (.int (m : Int)), some (.int way), some (.ref fl), some (.ref la2), some (.int sd2), v6, w7, w8, w9, w10, v11, v12] G2 ∧ D.ct [some (.ref p), some (.int (m : Int)), some (.int way), some (.ref fl), some (.ref la2), some (.int sd2), v6, w7, w8, w9, w10, v11, v12] G2) →
        t D [some (.ref p), some (.int (m : Int)), some (.int way), some (.ref fl), some (.ref la), some (.int sd), v6, v7, v8, v9, v10, v11, v12] G := by
  obtain ⟨t2, ht2, key2⟩ := wb_side (P := P) (w := w) (K := K) (mg := mg) (base := base) (f := f) (cdv := cdv) (A0 := A0) (outer := outer) (s := s) (H0 := H0) (E := E) hr B DD DP DB
  refine ⟨_, (pss_cons (ps_if (pt_cmpR op_ge (pe_callB call_len_seq (by rfl) B.len PySem.boot_len (pa_cons (pv 3) pa_nil)) (pv 1) (nomark _))
        (pss_one ps_break)
        pss_nil)
        (pss_cons (ps_if (pt_cmpR op_eq (pv 2) pe_int (nomark _))
        (pss_one (ps_set (i := 7) scWbd.nd rfl (.inl rfl) (pe_df DP hr (by rfl) pass0 (pa_cons (pv 0) (pa_cons (pv 3) pa_nil)))))
        (pss_one (ps_if (PW.pt (pw_and (pt_cmpR op_eq (pv 2) pe_int (nomark _)) (pw_and1 (pt_cmpR op_gt (pe_callB call_len_seq (by rfl) B.len PySem.boot_len (pa_cons (pv 3) pa_nil)) pe_int (nomark _)))))
          (pss_one (ps_set (i := 7) scWbd.nd rfl (.inl rfl) (pe_ix (ix_listK (K := K) rfl) (pv 3) (pe_df DD hr (by rfl) pass0 (pa_cons (pv 0) (pa_cons pe_int pa_nil))) (fun _ _ => rfl))))
          (pss_one (ps_set (i := 7) scWbd.nd rfl (.inl rfl) (pe_ifExp (pt_cmpR op_gt (pe_df DD hr (by rfl) pass0 (pa_cons (pv 0) (pa_cons pe_int pa_nil))) pe_int (nomark _)) (pv 4) (pe_df DP hr (by rfl) pass0 (pa_cons (pv 0) (pa_cons (pv 3) pa_nil)))))))))
        ht2)), ?_⟩
  intro D H G p c fl la way sd m n v6 v7 v8 v9 v10 v11 v12 qs A I m8 hn sd0 sd4 kB kD
  have lq : qs.length = A.length := Paired.length I.pr
  have l1 := I.l1
  refine ⟨_, rfl, fl, _, rfl, .inl (SqL.of I.ef), _, rfl, _, _, rfl, rfl, _, rfl, ?_⟩
  refine ite2 (fun h0 => kB) (fun h0 => ?_)
  have lt : A.length < m := by
    refine Nat.lt_of_not_le fun z => h0 (decide_eq_true ?_)
    rw [List.length_map]
    omega
  refine ⟨_, rfl, rfl, _, rfl, ?_⟩
  refine ite2 (fun h1 => ?_) (fun h1 => ?_)
  ·
    refine ⟨_, rfl, _, rfl, p, c, fl, n, qs.map V.ref, rfl, I.pen, by omega, .inl (SqL.of I.ef), by rw [List.length_map]; omega, by rw [List.length_map]; omega, fun j y G1 hy hp1 hb1 => ?_⟩
    rw [List.getElem?_map] at hy
    obtain ⟨b, hb, rfl⟩ := Option.map_eq_some_iff.mp hy
    obtain ⟨d, hd, ad⟩ := paired_get I.pr hb
    have k1 := kp_pick hb1
    exact key2 D H G1 p c fl la b way sd m (n + 1) v6 v8 v9 v10 v11 v12 qs A d (I.ek k1 hp1) m8 (by omega) sd0 sd4 ((pen_ek I.pen.at k1).at ad) (List.mem_of_getElem? hd) lt fun la2 sd2 w7 w8 w9 w10 n2 G2 qs2 A2 z0 z4 hn2 I2 => kD la2 sd2 w7 w8 w9 w10 n2 G2 qs2 A2 z0 z4 (by omega) I2

  have last : ∀ (G' : Hp) (n' : Nat), WbI H p c fl la way m n' qs A G' → n' ≤ n + 1 → t2 D [some (.ref p), some (.int (m : Int)), some (.int way), some (.ref fl), some (.ref la), some (.int sd), v6, some (.ref la), v8, v9, v10, v11, v12] G' := fun G' n' I' hn' => by
    obtain ⟨x, hx, ax⟩ := I'.al
    exact key2 D H G' p c fl la la way sd m n' v6 v8 v9 v10 v11 v12 qs A x I' m8 (by omega) sd0 sd4 ax hx lt fun la2 sd2 w7 w8 w9 w10 n2 G2 qs2 A2 z0 z4 hn2 I2 => kD la2 sd2 w7 w8 w9 w10 n2 G2 qs2 A2 z0 z4 (by omega) I2
  refine ⟨_, rfl, rfl, _, rfl, ?_⟩
  refine ite2 (fun h2 => ?_) (fun h2 => ?_)
  · refine ⟨_, rfl, fl, _, rfl, .inl (SqL.of I.ef), _, _, rfl, rfl, _, rfl, ?_⟩
    refine ite2 (fun h3 => ?_) (fun h3 => ?_)
    · have l8 : 8 < A.length := by
        have := of_decide_eq_true h3
        rw [List.length_map] at this
        omega
      refine ⟨_, rfl, _, rfl, p, c, n, 8, rfl, I.pen, by decide, by decide, by omega, fun r G1 r0 r1 hp1 hb1 => ?_⟩
      have k1 := kp_pick hb1
      have I1 := I.ek k1 hp1
      obtain ⟨j, rfl⟩ := Int.eq_ofNat_of_zero_le r0
      obtain ⟨b, hb⟩ : ∃ b, qs[j]? = some b := ⟨_, List.getElem?_eq_getElem (by omega)⟩
      obtain ⟨d, hd, ad⟩ := paired_get I1.pr hb
      refine ⟨fl, _, _, .ref b, rfl, rfl, SqL.of I1.ef, atI_nat (by rw [List.getElem?_map, hb]; rfl), ?_⟩
      exact key2 D H G1 p c fl la b way sd m (n + 1) v6 v8 v9 v10 v11 v12 qs A d I1 m8 (by omega) sd0 sd4 ad (List.mem_of_getElem? hd) lt fun la2 sd2 w7 w8 w9 w10 n2 G2 qs2 A2 z0 z4 hn2 I2 => kD la2 sd2 w7 w8 w9 w10 n2 G2 qs2 A2 z0 z4 (by omega) I2
    ·
      refine ⟨_, rfl, p, c, n, 6, rfl, I.pen, by decide, by decide, by omega, fun r5 G5 r05 r15 hp5 hb5 => ?_⟩
      have k5 := kp_pick hb5
      have I5 := I.ek k5 hp5
      refine ⟨_, _, rfl, rfl, _, rfl, ?_⟩
      refine ite2 (fun h9 => ?_) (fun h9 => ?_)
      · exact ⟨_, rfl, last G5 (n + 1) I5 (Nat.le_refl _)⟩
      ·
        refine ⟨_, rfl, _, rfl, p, c, fl, n + 1, qs.map V.ref, rfl, I5.pen, by omega, .inl (SqL.of I5.ef), by rw [List.length_map]; omega, by rw [List.length_map]; omega, fun j y G59 hy hp59 hb59 => ?_⟩
        rw [List.getElem?_map] at hy
        obtain ⟨b, hb, rfl⟩ := Option.map_eq_some_iff.mp hy
        obtain ⟨d, hd, ad⟩ := paired_get I5.pr hb
        have k59 := kp_pick hb59
        exact key2 D H G59 p c fl la b way sd m (n + 1 + 1) v6 v8 v9 v10 v11 v12 qs A d (I5.ek k59 hp59) m8 (by omega) sd0 sd4 ((pen_ek I5.pen.at k59).at ad) (List.mem_of_getElem? hd) lt fun la2 sd2 w7 w8 w9 w10 n2 G2 qs2 A2 z0 z4 hn2 I2 => kD la2 sd2 w7 w8 w9 w10 n2 G2 qs2 A2 z0 z4 (by omega) I2


  ·
    refine ⟨_, rfl, p, c, n, 6, rfl, I.pen, by decide, by decide, by omega, fun r6 G6 r06 r16 hp6 hb6 => ?_⟩
    have k6 := kp_pick hb6
    have I6 := I.ek k6 hp6
    refine ⟨_, _, rfl, rfl, _, rfl, ?_⟩
    refine ite2 (fun h9 => ?_) (fun h9 => ?_)
    · exact ⟨_, rfl, last G6 (n + 1) I6 (Nat.le_refl _)⟩
    ·
      refine ⟨_, rfl, _, rfl, p, c, fl, n + 1, qs.map V.ref, rfl, I6.pen, by omega, .inl (SqL.of I6.ef), by rw [List.length_map]; omega, by rw [List.length_map]; omega, fun j y G69 hy hp69 hb69 => ?_⟩
      rw [List.getElem?_map] at hy
      obtain ⟨b, hb, rfl⟩ := Option.map_eq_some_iff.mp hy
      obtain ⟨d, hd, ad⟩ := paired_get I6.pr hb
      have k69 := kp_pick hb69
      exact key2 D H G69 p c fl la b way sd m (n + 1 + 1) v6 v8 v9 v10 v11 v12 qs A d (I6.ek k69 hp69) m8 (by omega) sd0 sd4 ((pen_ek I6.pen.at k69).at ad) (List.mem_of_getElem? hd) lt fun la2 sd2 w7 w8 w9 w10 n2 G2 qs2 A2 z0 z4 hn2 I2 => kD la2 sd2 w7 w8 w9 w10 n2 G2 qs2 A2 z0 z4 (by omega) I2


end
end Sq

set_option Elab.async false
set_option linter.all false
set_option maxRecDepth 100000
set_option maxHeartbeats 8000000
/-! The law's bodies (the w-family). -/
namespace Sq
open PySem PySem.Spec PyProof.Rows L2
def spWBody : Sp := fun vs H Q _ => ∃ (p c : Addr) (n m : Nat), vs = [.ref p, .int (m : Int)] ∧ PenC H p c n ∧ 1 ≤ m ∧ m ≤ 100 ∧ n < 600000 ∧
  ∀ t H' L n', PenC H' p c n' → n' ≤ n + 160 * m + 3 → Kp [p] H H' → CellsT H' t L → L.Nodup → Asc L → L.length = m → Hangs L → (∀ x ∈ L, x.1.natAbs ≤ 2 * m + 4 ∧ x.2.natAbs ≤ 2 * m + 4) → Q (.ref t) H'
theorem WbI.free {H : Hp} {p c fl la : Addr} {way : Int} {m n : Nat} {qs : List Addr} {A : List Cell} {G : Hp} (I : WbI H p c fl la way m n qs A G) : WbI H p c fl la 0 m n qs A G := ⟨I.pen, I.kp, I.nf, I.nc, I.ef, I.pr, I.nd, I.gr, I.l1, I.le, I.sm, (fun z => by cases z), I.al⟩
section
variable {P : Program} {w : World} {K : PySem.W.Frag} {mg : Str → Option Value} {base : Heap} {Ts : List Addr}
theorem scWbe : FnScope wbN ["_law_pen_here", "_law_many"] (defScope lWBody) := ⟨rfl, rfl, rfl, by decide +kernel, rfl, by decide +kernel, by decide +kernel⟩
theorem ok_wBody {f : Addr} {fd : FuncData} (F : FnP K "_law_w_body" lWBody f fd) (B : Bl mg) (DD : Df P w K mg base CX0 1 "_law_draw" ["_law_pen_here", "_law_many"] spDrawC) (DP : Df P w K mg base CX0 2 "_law_pick" ["_law_pen_here", "_law_some"] (spPickC K)) (DB : Df P w K mg base CX0 1 "_law_w_beside" ["_law_cell"] spLBeside) :
    FnOk P w K mg base CX0 3 f fd ["_law_pen_here", "_law_many"] spWBody := by
  refine F.ok scWbe (fun vs H Q E h => ?_) (fun cdv A0 outer s H vs Q E hr h => ?_)
  · obtain ⟨p, c, n, m, rfl, _⟩ := h
    rfl
  · obtain ⟨p, c, n, m, rfl, hp, m1, m100, hn, k⟩ := h
    have h64 := room64 hr
    obtain ⟨tl, htl, keyl⟩ := wb_lap (P := P) (w := w) (K := K) (mg := mg) (base := base) (f := f) (cdv := cdv) (A0 := A0) (outer := outer) (s := s) (H0 := H) (E := E) hr B DD DP DB
    refine ⟨_, PSs.nox (pss_cons (ps_asg (pe_tup (pa_cons (pe_df DD hr (by rfl) pass0 (pa_cons (pv 0) (pa_cons pe_int pa_nil))) (pa_cons (pe_lst (pa_cons (pe_tup (pa_cons pe_int (pa_cons pe_int pa_nil))) pa_nil)) (pa_cons (pe_tup (pa_cons pe_int (pa_cons pe_int pa_nil))) pa_nil)))) (pg_tup (by rfl) (pgs_cons (pg_name (i := 2) scWbe.nd rfl (.inl rfl)) (pgs_cons (pg_name (i := 3) scWbe.nd rfl (.inr rfl)) (pgs_cons (pg_name (i := 4) scWbe.nd rfl (.inl rfl)) pgs_nil)))))
      (pss_cons (ps_set (i := 5) scWbe.nd rfl (.inl rfl) pe_int)
      (pss_cons (ps_for PassesOwn.never rfl (pi_range1 (by rfl) B.range (pa_cons (pe_op op_mul pe_int (pv 1)) pa_nil)) (pg_name (i := 6) scWbe.nd rfl (.inl rfl)) htl)
      (pss_cons (ps_while PassesOwn.never (pt_cmpR op_lt (pe_callB call_len_seq (by rfl) B.len PySem.boot_len (pa_cons (pv 3) pa_nil)) (pv 1) (nomark _))
      (pss_one (ps_expr (pe_bm PySem.F.plainAttrs_list PySem.F.slot_list_append PySem.F.type_list_append mt_append (pv 3) (pa_cons (pe_tup (pa_cons (pe_op op_add (pe_ix (ix_tupK (K := K) rfl) (pe_callB (cr_maxLC rfl h64) (by rfl) B.max (by decide +kernel) (pa_cons (pv 3) pa_nil)) pe_int (fun _ _ => rfl)) pe_int) (pa_cons (pe_ix (ix_tupK (K := K) rfl) (pe_callB (cr_maxLC rfl h64) (by rfl) B.max (by decide +kernel) (pa_cons (pv 3) pa_nil)) pe_int (fun _ _ => rfl)) pa_nil))) pa_nil)))))
      (pss_cons (ps_asg (pe_tup (pa_cons (pe_op op_sub (pe_df DD hr (by rfl) pass0 (pa_cons (pv 0) (pa_cons pe_int pa_nil))) pe_int) (pa_cons (pe_op op_sub (pe_df DD hr (by rfl) pass0 (pa_cons (pv 0) (pa_cons pe_int pa_nil))) pe_int) pa_nil))) (pg_tup (by rfl) (pgs_cons (pg_name (i := 11) scWbe.nd rfl (.inr rfl)) (pgs_cons (pg_name (i := 12) scWbe.nd rfl (.inr rfl)) pgs_nil))))
      (pss_one (ps_ret (pe_tupleOf (by rfl) B.tuple (pe_callB cr_sortedC (by rfl) B.sorted (by decide +kernel) (pa_cons (pe_lc (own := [("_law_cell", 8)]) (g := gName 8) (tt := tYes) rfl scWbe.nd (pi_list (pv 3)) (blkOk_by (N := wbN) (sc := defScope lWBody) (by decide +kernel)) (fun _ _ _ _ _ => pg_name (i := 8) scWbe.nd rfl (Or.inl rfl)) (fun _ _ _ _ _ => pts_nil) (fun _ _ _ _ _ => (pe_tup (pa_cons (pe_op op_add (pe_ix (ix_tupK (K := K) rfl) (pv 8) pe_int (fun _ _ => rfl)) (pv 11)) (pa_cons (pe_op op_add (pe_ix (ix_tupK (K := K) rfl) (pv 8) pe_int (fun _ _ => rfl)) (pv 12)) pa_nil))))) pa_nil)))))))))), ?_⟩
    refine ⟨_, rfl, p, c, n, 5, rfl, hp, by decide, by decide, by omega, fun way G1 r0 r1 hp1 hb1 => ?_⟩
    have k1 := kp_pick hb1
    refine ⟨two_le, fun q0 hq0 => ⟨one_le, fun fl hfl => ⟨two_le, fun q1 hq1 => ⟨three_le, fun tp htp => ?_⟩⟩⟩⟩
    have s0 := same_new (o := .tup [.int 0, .int 0]) hq0
    have s1 := same_new (o := .lst [.ref q0]) hfl
    have s2 := same_new (o := .tup [.int 0, .int 0]) hq1
    have s3 := same_new (o := .tup [.int way, .ref fl, .ref q1]) htp
    have sA := (s0.trans s1).trans (s2.trans s3)
    have etp := upd_same (H := upd (upd (upd G1 q0 (.tup [.int 0, .int 0])) fl (.lst [.ref q0])) q1 (.tup [.int 0, .int 0])) (a := tp) (o := .tup [.int way, .ref fl, .ref q1])
    have aq0 : At _ q0 (0, 0) := s3 _ _ (s2 _ _ (s1 _ _ (upd_same (H := G1) (a := q0) (o := .tup [.int 0, .int 0]))))
    have efl := s3 _ _ (s2 _ _ (upd_same (H := upd G1 q0 (.tup [.int 0, .int 0])) (a := fl) (o := .lst [.ref q0])))
    have aq1 : At _ q1 (0, 0) := s3 _ _ (upd_same (H := upd (upd G1 q0 (.tup [.int 0, .int 0])) fl (.lst [.ref q0])) (a := q1) (o := .tup [.int 0, .int 0]))
    have hflH : H fl = none := by
      have h2 : G1 fl = none := s0.free hfl
      by_cases z : fl = p
      · obtain ⟨zs, i0, dg, fo, e1, _⟩ := hp1.ex
        rw [z, e1] at h2
        cases h2
      · rw [← hb1 fl z]
        exact h2
    have nc : c ≠ fl := fun z => by
      obtain ⟨zs, i0, dg, fo, e1, e2, _⟩ := hp1.ex
      have h2 : G1 fl = none := s0.free hfl
      rw [← z, e2] at h2
      cases h2
    have hpA := hp1.same sA
    have kpA : Kp [p] H (upd (upd (upd (upd G1 q0 (.tup [.int 0, .int 0])) fl (.lst [.ref q0])) q1 (.tup [.int 0, .int 0])) tp (.tup [.int way, .ref fl, .ref q1])) := k1.trans (Kp.of sA)
    generalize upd (upd (upd (upd G1 q0 (.tup [.int 0, .int 0])) fl (.lst [.ref q0])) q1 (.tup [.int 0, .int 0])) tp (.tup [.int way, .ref fl, .ref q1]) = G4 at etp aq0 efl aq1 hpA kpA
    refine ⟨tp, _, rfl, SqT.of etp, rfl, _, _, rfl, _, _, rfl, _, _, rfl, rfl, ?_⟩
    have start : WbI H p c fl q1 way m (n + 1) [q0] [(0, 0)] G4 := ⟨hpA, kpA, hflH, nc, efl, .cons aq0 .nil, List.pairwise_singleton _ _, fun i b hb => by simp at hb, Nat.le_refl _, m1, fun x hx => by rw [List.mem_singleton.mp hx]; exact ⟨by decide, by decide⟩, fun _ _ => rfl, (0, 0), List.mem_singleton.mpr rfl, aq1⟩
    refine ⟨_, rfl, _, _, rfl, rfl, .inl ⟨by omega, by omega⟩, _, rfl, by omega, by omega, ?_⟩
    have e20 : (20 * (m : Int)).toNat = 20 * m := by omega
    refine for_range_fin (lo := 0) (n := (20 * (m : Int)).toNat) (fun i σ G => ∃ (la : Addr) (sd : Int) (v6 v7 v8 v9 v10 : Option V) (n' : Nat) (qs : List Addr) (A : List Cell), n' ≤ n + 1 + 8 * i ∧ 0 ≤ sd ∧ sd < 4 ∧ σ = [some (.ref p), some (.int (m : Int)), some (.int way), some (.ref fl), some (.ref la), some (.int sd), v6, v7, v8, v9, v10, none, none] ∧ WbI H p c fl la way m n' qs A G)
      (fun σ G => ∃ (la : Addr) (sd : Int) (v6 v7 v8 v9 v10 : Option V) (n' : Nat) (qs : List Addr) (A : List Cell), n' ≤ n + 1 + 160 * m ∧ σ = [some (.ref p), some (.int (m : Int)), some (.int way), some (.ref fl), some (.ref la), some (.int sd), v6, v7, v8, v9, v10, none, none] ∧ WbI H p c fl la way m n' qs A G) ?_
      ⟨q1, 0, none, none, none, none, none, n + 1, [q0], [(0, 0)], Nat.le_refl _, by decide, by decide, rfl, start⟩ ?_ ?_
    · -- the rest
      rintro σ G ⟨la, sd, v6, v7, v8, v9, v10, n', qs, A, hn', rfl, I⟩
      refine ⟨fun k σ G => ∃ (qs : List Addr) (A : List Cell) (lz : Addr), k = m - A.length ∧ σ = [some (.ref p), some (.int (m : Int)), some (.int way), some (.ref fl), some (.ref la), some (.int sd), v6, v7, v8, v9, v10, none, none] ∧ WbI H p c fl lz 0 m n' qs A G, ⟨_, qs, A, la, rfl, rfl, I.free⟩, ?_⟩
      rintro k0 σ G ⟨qs, A, lb, rfl, rfl, I⟩
      have lq : qs.length = A.length := Paired.length I.pr
      have l1 := I.l1
      have neA : A ≠ [] := fun z => by rw [z] at l1; cases l1
      refine ⟨_, rfl, fl, _, rfl, .inl (SqL.of I.ef), _, rfl, _, _, rfl, rfl, _, rfl, ?_⟩
      refine ite2 (fun h1 => ?_) (fun h1 => ?_)
      · have lt : A.length < m := by
          have := of_decide_eq_true h1
          rw [List.length_map] at this
          omega
        refine ⟨fun σ' G' => ∃ m', m' < m - A.length ∧ _, fun _ _ h => h, ?_⟩
        refine ⟨_, rfl, .inl ⟨rfl, _, SqL.of I.ef⟩, _, rfl, fl, qs, A, rfl, SqL.of I.ef, I.pr, neA, fun q x hx le aq => ?_⟩
        refine ⟨_, _, _, _, rfl, rfl, SqT.of aq, at0, _, _, rfl, rfl, _, rfl, fl, qs, A, rfl, SqL.of I.ef, I.pr, neA, fun q2 x2 hx2 le2 aq2 => ?_⟩
        have ex : x2 = x := cLt_tri (le2 _ hx) (le _ hx2)
        subst ex
        refine ⟨_, _, _, _, rfl, rfl, SqT.of aq2, at1, two_le, fun r hr' => ?_⟩
        have u1 := same_new (o := .tup [.int (x2.1 + 1), .int x2.2]) hr'
        have I1 := I.same u1
        have ar : At (upd G r (.tup [.int (x2.1 + 1), .int x2.2])) r (x2.1 + 1, x2.2) := upd_same
        have nx : (x2.1 + 1, x2.2) ∉ A := fun z => by
          have := of_decide_eq_false (le2 _ z)
          dsimp only at this
          omega
        have ll : (A ++ [(x2.1 + 1, x2.2)]).length = A.length + 1 := by rw [List.length_append]; rfl
        refine ⟨fl, _, _, rfl, rfl, I1.ef, by rw [List.length_map, sizeLine_eq]; omega, m - (A ++ [(x2.1 + 1, x2.2)]).length, by rw [ll]; omega, qs ++ [r], A ++ [(x2.1 + 1, x2.2)], r, rfl, rfl, ?_⟩
        exact I1.grow ar nx ⟨x2, hx2, by rw [beside_iff]; exact .inr (.inr (.inl ⟨rfl, rfl⟩))⟩ lt fun z => by cases z
      · have lA : A.length = m := by
          have := I.le
          refine Nat.le_antisymm this (Nat.le_of_not_lt fun z => h1 (decide_eq_true ?_))
          rw [List.length_map]
          omega
        refine ⟨_, rfl, p, c, n', 9, rfl, I.pen, by decide, by decide, by omega, fun r3 G3 a0 a9 hp3 hb3 => ⟨_, _, rfl, rfl, ?_⟩⟩
        have k3 := kp_pick hb3
        have I3 := I.ek k3 hp3
        refine ⟨_, rfl, p, c, n' + 1, 9, rfl, I3.pen, by decide, by decide, by omega, fun r5 G5 b0 b9 hp5 hb5 => ⟨_, _, rfl, rfl, two_le, fun tq htq => ?_⟩⟩
        have k5 := kp_pick hb5
        have s5 := same_new (o := .tup [.int (r3 - 4), .int (r5 - 4)]) htq
        have I5 := (I3.ek k5 hp5).same s5
        have etq := upd_same (H := G5) (a := tq) (o := .tup [.int (r3 - 4), .int (r5 - 4)])
        generalize upd G5 tq (.tup [.int (r3 - 4), .int (r5 - 4)]) = G6 at I5 etq
        refine ⟨tq, _, rfl, SqT.of etq, rfl, _, _, rfl, _, _, rfl, rfl, ?_⟩
        refine ⟨_, rfl, fl, rfl, ⟨_, SqL.of I5.ef⟩, fun D hD => ?_⟩
        refine lc_cells (walk_list (K := K) (a := fl) (xs := qs.map V.ref)) hD (fun i => (A.take i).map fun x => (x.1 + (r3 - 4), x.2 + (r5 - 4))) rfl (by rw [List.length_map]; omega) (fun i G2 _ s => SqL.of (s _ _ I5.ef)) ?_ ?_
        · rintro i y G2 G2' K1 K0 hi s2 ⟨rfl, hy⟩ k1 k0
          rw [List.getElem?_map] at hy
          obtain ⟨u, hu, rfl⟩ := Option.map_eq_some_iff.mp hy
          obtain ⟨z, hz, az⟩ := paired_get I5.pr hu
          have az : At G2' u z := s2 _ _ az
          refine ⟨rfl, yesT ⟨_, rfl, _, _, _, _, rfl, rfl, SqT.of az, at0, _, rfl, _, _, rfl, rfl, _, rfl, _, _, _, _, rfl, rfl, SqT.of az, at1, _, rfl, _, _, rfl, rfl, two_le, fun r hr' => ?_⟩⟩
          exact k1 r (z.1 + (r3 - 4), z.2 + (r5 - 4)) _ (same_new hr') upd_same (by rw [take_snoc hz, List.map_append]; rfl)
        rintro G2 rs s2 gD pr2
        rw [List.length_map, lq, List.take_length] at pr2
        refine ⟨D, rs, _, rfl, SqL.of gD, pr2, fun so qs' cs' prq pm asc hso => .inl ⟨so, _, rfl, SqL.of upd_same, fun tp htp => ?_⟩⟩
        have u3 := same_new (o := .lst (qs'.map V.ref)) hso
        have u4 := same_new (o := .tup (qs'.map V.ref)) htp
        have sF := (s2.trans u3).trans u4
        have inj : ∀ a b : Cell, ((a.1 + (r3 - 4), a.2 + (r5 - 4)) : Cell) = (b.1 + (r3 - 4), b.2 + (r5 - 4)) → a = b := fun a b z => by
          obtain ⟨z1, z2⟩ := Prod.mk.inj z
          exact Prod.ext (by omega) (by omega)
        have nM : (A.map fun x : Cell => ((x.1 + (r3 - 4), x.2 + (r5 - 4)) : Cell)).Nodup := I.nd.map _ fun a b h z => h (inj a b z)
        refine k tp _ cs' (n' + 1 + 1) (I5.pen.same sF) (by omega) (I5.kp.trans (Kp.of sF)) ⟨qs', upd_same, paired_imp (fun q c (h : At _ q c) => u4 _ _ (u3 _ _ h)) prq⟩ (pm.nodup_iff.mpr nM) asc (by rw [pm.length_eq, List.length_map]; exact lA) ?_ ?_
        · refine (hangs_perm fun x => pm.mem_iff).mpr (hangs_map (fun a b hb => ?_) (I.gr.hangs neA))
          rw [beside_iff] at hb ⊢
          dsimp only
          omega
        · intro x hx
          obtain ⟨y, hy, rfl⟩ := List.mem_map.mp (pm.mem_iff.mp hx)
          have := I.sm y hy
          dsimp only
          omega
    · rintro i σ G Bk hi ⟨la, sd, v6, v7, v8, v9, v10, n', qs, A, hn', sd0, sd4, rfl, I⟩ hB
      rw [e20] at hi
      exact keyl _ H G p c fl la way sd m n' (some (.int (0 + (i : Int)))) v7 v8 v9 v10 none none qs A I m100 (by omega) sd0 sd4 (hB _ _ ⟨la, sd, _, v7, v8, v9, v10, n', qs, A, by omega, rfl, I⟩) fun la2 sd2 w7 w8 w9 w10 n2 G2 qs2 A2 z0 z4 hn2 I2 => ⟨⟨la2, sd2, _, w7, w8, w9, w10, n2, qs2, A2, by omega, z0, z4, rfl, I2⟩, ⟨la2, sd2, _, w7, w8, w9, w10, n2, qs2, A2, by omega, z0, z4, rfl, I2⟩⟩
    · rintro σ G ⟨la, sd, v6, v7, v8, v9, v10, n', qs, A, hn', sd0, sd4, rfl, I⟩
      rw [e20] at hn'
      exact ⟨la, sd, v6, v7, v8, v9, v10, n', qs, A, by omega, rfl, I⟩
end
end Sq

set_option Elab.async false
set_option linter.all false
set_option maxRecDepth 100000
set_option maxHeartbeats 8000000
/-! The program: a body's lot, moves that are moves. -/
namespace Sq
open PySem PySem.Spec PyProof.Rows L2
/-- a move done -/
def stepM (L : List Cell) (m : CellP) : List Cell := without L m.1 ++ [m.2]
def goL (L : List Cell) (ms : List CellP) : List Cell := ms.foldl stepM L
noncomputable def goB : List Cell → List CellP → Bool
  | _, [] => true
  | L, m :: ms => mayW L m.1 m.2 && goB (stepM L m) ms
theorem goL_app (L : List Cell) (a b : List CellP) : goL L (a ++ b) = goL (goL L a) b := List.foldl_append ..
theorem goB_app : ∀ (L : List Cell) (a b : List CellP), goB L (a ++ b) = (goB L a && goB (goL L a) b)
  | L, [], b => by
    show _ = (true && _)
    rw [Bool.true_and]
    rfl
  | L, m :: a, b => by
    show (mayW L m.1 m.2 && goB (stepM L m) (a ++ b)) = ((mayW L m.1 m.2 && goB (stepM L m) a) && goB (goL (stepM L m) a) b)
    rw [goB_app (stepM L m) a b, Bool.and_assoc]
theorem may_kind {L : List Cell} {s e : Cell} : mayW L s e = true ↔ kindV L s e ≠ .non := by
  unfold mayW
  simp
theorem may_step {L : List Cell} {m : CellP} (nL : L.Nodup) (h : mayW L m.1 m.2 = true) : Hangs (stepM L m) ∧ (stepM L m).Nodup ∧ (stepM L m).length = L.length := behind nL (may_kind.mp h) (.refl _)
theorem go_ok : ∀ {ms : List CellP} {L : List Cell}, L.Nodup → Hangs L → goB L ms = true → Hangs (goL L ms) ∧ (goL L ms).Nodup ∧ (goL L ms).length = L.length
  | [], _, n, h, _ => ⟨h, n, rfl⟩
  | m :: ms, L, n, h, g => by
    have g : (mayW L m.1 m.2 && goB (stepM L m) ms) = true := g
    rw [Bool.and_eq_true] at g
    obtain ⟨a, b, c⟩ := may_step n g.1
    obtain ⟨a2, b2, c2⟩ := go_ok b a g.2
    exact ⟨a2, b2, c2.trans c⟩
theorem may_in {L : List Cell} {s e : Cell} (h : mayW L s e = true) : s ∈ L ∧ e ∉ L := by
  rw [may_place, Bool.and_eq_true] at h
  exact byPlace_mem fun z => by rw [decide_eq_true z] at h; cases h.1
def spLotB (Ts : List Addr) : Sp := fun vs H Q _ => ∃ (t : Addr) (L : List Cell), vs = [.ref t] ∧ CellsT H t L ∧ L.Nodup ∧ Asc L ∧ L.length ≤ 1000 ∧ Hangs L ∧ TabsG Ts H ∧ ∀ d H', KT Ts H H' → H d = none → H' d = some (.dT (lotK L)) → Q (.ref d) H'
section
variable {P : Program} {w : World} {K : PySem.W.Frag} {mg : Str → Option Value} {base : Heap} {Ts : List Addr}
theorem scLoB : FnScope ["value"] ["value"] (defScope gLotB) := ⟨rfl, rfl, rfl, by decide +kernel, rfl, by decide +kernel, by decide +kernel⟩
theorem ok_lotOfBody {f CB fB : Addr} {fd : FuncData} (F : FnP K "lot_of_body" gLotB f fd) (BB : ErrC P K mg "BadBody" CB fB ["cells"]) (DI : Df P w K mg base CX0 5 "is_body" ["value"] (spIsBody Ts)) (DL : Df P w K mg base CX0 2 "lot_of" ["cells"] spLot) :
    FnOk P w K mg base CX0 6 f fd ["value"] (spLotB Ts) := by
  refine F.ok scLoB (fun vs H Q E h => ?_) (fun cdv A outer s H vs Q E hr h => ?_)
  · obtain ⟨t, L, rfl, _⟩ := h
    rfl
  · obtain ⟨t, L, rfl, ct, nL, aL, lL, hang, tg, k⟩ := h
    have hr1 : Room 1 _ := hr.mono (by decide)
    refine ⟨_, PSs.nox (pss_cons (ps_if (pt_not (pt_val (pe_df DI hr (by rfl) pass0 (pa_cons (pv 0) pa_nil))))
      (pss_one (ps_raise (W := fun _ _ _ _ => False) rfl takes0 (pmk_err BB.s (raises_own BB.ex BB.ty) hr1 BB.g (pa_cons (pv 0) pa_nil))))
      pss_nil)
      (pss_one (ps_ret (pe_df DL hr (by rfl) pass0 (pa_cons (pv 0) pa_nil))))), ?_⟩
    refine ⟨_, rfl, t, L, rfl, ct, nL, aL, lL, tg, fun H1 k1 => ?_⟩
    rw [hangsB_iff.mpr hang]
    refine ⟨_, rfl, iteF ?_⟩
    exact ⟨_, rfl, t, L, rfl, ct.ek k1.ek, nL, lL, fun d H2 s2 hd ed => k d H2 (k1.same s2) (k1.free hd) ed⟩
end
end Sq

set_option Elab.async false
set_option linter.all false
set_option maxRecDepth 100000
set_option maxHeartbeats 8000000
/-! The program: pairs of moves by place. -/
namespace Sq
open PySem PySem.Spec PyProof.Rows L2
abbrev P2 := CellP × CellP
def P2At (H : Hp) (r : Addr) (m : P2) : Prop := ∃ a b : Addr, H r = some (.tup [.ref a, .ref b]) ∧ PairAt H a m.1 ∧ PairAt H b m.2
theorem P2At.keep {H G : Hp} {r : Addr} {m : P2} (h : P2At H r m) (k : Tk H G) : P2At G r m := by
  obtain ⟨a, b, e, h1, h2⟩ := h
  exact ⟨a, b, k _ _ e, h1.keep k, h2.keep k⟩
/-- both squares change places: the k-th to the m-th -/
def pr2 (gone come : List Cell) (k m : Nat) : P2 := ((gone.getD k (0, 0), come.getD m (0, 0)), (gone.getD (1 - k) (0, 0), come.getD (1 - m) (0, 0)))
theorem atI_nat' {xs : List V} {i : Int} {n : Nat} {v : V} (e : i = (n : Int)) (h : xs[n]? = some v) : atI xs i = some v := by
  rw [e]
  exact atI_nat h
section
variable {P : Program} {w : World} {K : PySem.W.Frag} {mg : Str → Option Value} {base : Heap} {Ts : List Addr}
end
end Sq

set_option Elab.async false
set_option linter.all false
set_option maxRecDepth 100000
set_option maxHeartbeats 8000000
/-! The program: few_between. -/
namespace Sq
open PySem PySem.Spec PyProof.Rows L2
def p2D (m : P2) : PyData := .tuple [pD m.1, pD m.2]
theorem P2At.dp {K : PySem.W.Frag} {H : Hp} {r : Addr} {m : P2} (h : P2At H r m) : Dp K H (.ref r) (p2D m) := by
  obtain ⟨a, b, e, a1, a2⟩ := h
  exact .tup (SqT.of e) (.cons a1.dp (.cons a2.dp .nil))
/-- m stands ahead of n, or is n -/
def p2Le (m n : P2) : Prop := PySem.W.dataLt (p2D n) (p2D m) = false
def OptAt (H : Hp) (v : V) : Option (List CellP) → Prop
  | none => v = .non
  | some ms => ∃ r, v = .ref r ∧ PairsT H r ms
section
variable {P : Program} {w : World} {K : PySem.W.Frag} {mg : Str → Option Value} {base : Heap} {Ts : List Addr}
end
end Sq

set_option Elab.async false
set_option linter.all false
set_option maxRecDepth 100000
set_option maxHeartbeats 8000000
/-! The least of the shortest plans; few_moves. -/
namespace Sq
open PySem PySem.Spec PyProof.Rows L2
def EqC (L G : List Cell) : Prop := ∀ x, x ∈ L ↔ x ∈ G
def OneM (L G : List Cell) (m : CellP) : Prop := mayW L m.1 m.2 = true ∧ EqC (stepM L m) G
def TwoM (L G : List Cell) (m : P2) : Prop := goB L [m.1, m.2] = true ∧ EqC (goL L [m.1, m.2]) G
/-- the least of the shortest plans of at most two moves -/
def FewIs (L G : List Cell) : Option (List CellP) → Prop
  | none => ¬ EqC L G ∧ (∀ m, ¬ OneM L G m) ∧ ∀ m, ¬ TwoM L G m
  | some [] => EqC L G
  | some [m] => ¬ EqC L G ∧ OneM L G m
  | some [a, b] => ¬ EqC L G ∧ (∀ m, ¬ OneM L G m) ∧ TwoM L G (a, b) ∧ ∀ n, TwoM L G n → p2Le (a, b) n
  | some _ => False
theorem mem_step {L : List Cell} {m : CellP} {x : Cell} : x ∈ stepM L m ↔ (x ∈ L ∧ x ≠ m.1) ∨ x = m.2 := by
  unfold stepM
  rw [List.mem_append, mem_without, List.mem_singleton]
theorem only_one {A : List Cell} {a : Cell} (nA : A.Nodup) (h : ∀ x, x ∈ A ↔ x = a) : A = [a] :=
  List.perm_singleton.mp ((List.perm_ext_iff_of_nodup nA (List.pairwise_singleton _ a)).mpr fun x => by rw [h, List.mem_singleton])
section
variable {P : Program} {w : World} {K : PySem.W.Frag} {mg : Str → Option Value} {base : Heap} {Ts : List Addr}
end
end Sq

set_option Elab.async false
set_option linter.all false
set_option maxRecDepth 100000
set_option maxHeartbeats 8000000
/-! The law's all_few. -/
namespace Sq
open PySem PySem.Spec PyProof.Rows L2
theorem cs_eqvW : ∀ S T : List Cell, PyData.eqv (.tuple (S.map cD)) (.tuple (T.map cD)) = decide (S = T) := by
  have all : ∀ S T : List Cell, PyData.eqvAll (S.map cD) (T.map cD) = decide (S = T) := by
    intro S
    induction S with
    | nil =>
      intro T
      cases T with
      | nil => simp [PyData.eqvAll]
      | cons y T => simp [PyData.eqvAll]
    | cons x S ih =>
      intro T
      cases T with
      | nil => simp [PyData.eqvAll]
      | cons y T =>
        show (PyData.eqv (cD x) (cD y) && PyData.eqvAll (S.map cD) (T.map cD)) = _
        rw [cD_eqv, ih, Bool.eq_iff_iff]
        simp
  intro S T
  have e : PyData.eqv (.tuple (S.map cD)) (.tuple (T.map cD)) = PyData.eqvAll (S.map cD) (T.map cD) := by simp [PyData.eqv]
  rw [e, all]
theorem lay_cellsTW {cs : List Cell} : Lay 2 (.tuple (cs.map cD)) := lay_tuple fun d hd => by
  obtain ⟨c, _, rfl⟩ := List.mem_map.mp hd
  exact lay_cell c
theorem asc_eq {M G : List Cell} (nM : M.Nodup) (nG : G.Nodup) (aM : Asc M) (aG : Asc G) : M = G ↔ EqC M G :=
  ⟨fun e x => by rw [e], fun h => asc_same nM nG aM aG h⟩
noncomputable def movesL (L : List Cell) : List CellP := movesC L (L.filter fun c => hangsB (without L c))
theorem mem_movesL {L : List Cell} {m : CellP} : m ∈ movesL L ↔ mayW L m.1 m.2 = true := by
  obtain ⟨s, e⟩ := m
  rw [may_kind]
  exact moves_kind
theorem may_cong {L M : List Cell} (h : EqC L M) {s e : Cell} : mayW L s e = mayW M s e := by
  unfold mayW
  rw [kindV_cong h]
theorem step_cong {L M : List Cell} (h : EqC L M) (m : CellP) : EqC (stepM L m) (stepM M m) := fun x => by rw [mem_step, mem_step, h x]
theorem eqC_trans {A B C : List Cell} (h : EqC A B) (k : EqC B C) : EqC A C := fun x => (h x).trans (k x)
theorem eqC_symm {A B : List Cell} (h : EqC A B) : EqC B A := fun x => (h x).symm
def bestV (H : Hp) (v : V) : Option P2 → Prop
  | none => v = .non
  | some b => ∃ r, v = .ref r ∧ PairsT H r [b.1, b.2]
theorem PairsT.same {H G : Hp} {r : Addr} {ms : List CellP} (h : PairsT H r ms) (k : Same H G) : PairsT G r ms := by
  obtain ⟨ps, e, pr⟩ := h
  exact ⟨ps, k _ _ e, paired_imp (fun _ _ h => h.same k) pr⟩
theorem bestV.same {H G : Hp} {v : V} {o : Option P2} (h : bestV H v o) (k : Same H G) : bestV G v o := by
  cases o with
  | none => exact h
  | some b =>
    obtain ⟨r, e, q⟩ := h
    exact ⟨r, e, q.same k⟩
theorem moves_few {L : List Cell} (l : L.length ≤ 100) : (movesL L).length ≤ 800 := by
  have := moves_len L (L.filter fun c => hangsB (without L c))
  have h2 : (L.filter fun c => hangsB (without L c)).length ≤ L.length := List.length_filter_le _ _
  unfold movesL
  omega
section
variable {P : Program} {w : World} {K : PySem.W.Frag} {mg : Str → Option Value} {base : Heap} {Ts : List Addr}
end
end Sq

set_option Elab.async false
set_option linter.all false
set_option maxRecDepth 100000
set_option maxHeartbeats 4000000
/-! A body of two squares or more has a move; moves back; moves of a moved body. -/
namespace Sq
open PySem PySem.Spec PyProof.Rows L2
def side4 (d : Cell) : Prop := (d.1 = 0 ∧ (d.2 = 1 ∨ d.2 = -1)) ∨ ((d.1 = 1 ∨ d.1 = -1) ∧ d.2 = 0)
theorem byPlace_slide {L : List Cell} {s e : Cell} (sL : s ∈ L) (eL : e ∉ L) (h : side4 (e.1 - s.1, e.2 - s.2)) (hs : slidesB L s e = true) : byPlace L s e = .str "slide" := by
  unfold byPlace
  rw [if_neg (by simp [sL, eL])]
  have h1 : absI (e.1 - s.1) + absI (e.2 - s.2) = 1 := by
    rcases h with ⟨h1, h2⟩ | ⟨h1, h2⟩
    · rw [abs_zero.mpr h1, abs_one.mpr h2]
      rfl
    · rw [abs_one.mpr h1, abs_zero.mpr h2]
      rfl
  rw [if_pos h1, if_pos hs]
theorem byPlace_turn {L : List Cell} {s e : Cell} (sL : s ∈ L) (eL : e ∉ L) (h1 : e.1 - s.1 = 1 ∨ e.1 - s.1 = -1) (h2 : e.2 - s.2 = 1 ∨ e.2 - s.2 = -1) (ht : turnsB L s e = true) : byPlace L s e = .str "turn" := by
  unfold byPlace
  rw [if_neg (by simp [sL, eL])]
  have a1 := abs_one.mpr h1
  have a2 := abs_one.mpr h2
  rw [if_neg (by omega), if_pos ⟨a1, a2⟩, if_pos ht]
/-! ### back -/
theorem abs_swap (a b : Int) : absI (a - b) = absI (b - a) := by
  unfold absI
  split <;> split <;> omega
theorem hangsB_mem {L M : List Cell} (h : ∀ x, x ∈ L ↔ x ∈ M) : hangsB L = hangsB M := by
  rw [Bool.eq_iff_iff, hangsB_iff, hangsB_iff]
  exact hangs_perm h
theorem kind_back {L M : List Cell} {s e : Cell} (k : kindV L s e ≠ .non) (hM : ∀ x, x ∈ M ↔ (x ∈ L ∧ x ≠ s) ∨ x = e) : kindV M e s = kindV L s e := by
  obtain ⟨k1, k2⟩ := kind_ne.mp k
  have I := byPlace_is k1
  have eM : e ∈ M := (hM e).mpr (.inr rfl)
  have se : s ≠ e := fun z => I.eL (z ▸ I.sL)
  have sM : s ∉ M := fun m => ((hM s).mp m).elim (fun h => h.2 rfl) se
  have mem : ∀ x, x ≠ s → x ≠ e → decide (x ∈ M) = decide (x ∈ L) := fun x h1 h2 => by
    rw [Bool.eq_iff_iff, decide_eq_true_iff, decide_eq_true_iff, hM]
    simp [h1, h2]
  have h2 : hangsB (without M e) = true := by
    rw [← k2]
    refine hangsB_mem fun x => ?_
    rw [mem_without, mem_without, hM]
    constructor
    · rintro ⟨h | h, ne⟩
      · exact h
      · exact absurd h ne
    · intro h
      exact ⟨.inl h, fun z => I.eL (z ▸ h.1)⟩
  have bp : byPlace M e s = byPlace L s e := by
    unfold byPlace
    have q1 : ¬ (decide (e ∈ M) = false ∨ decide (s ∈ M) = true) := by simp [eM, sM]
    have q2 : ¬ (decide (s ∈ L) = false ∨ decide (e ∈ L) = true) := by
      have := I.sL
      have := I.eL
      simp_all
    rw [if_neg q1, if_neg q2, abs_swap s.1 e.1, abs_swap s.2 e.2]
    have ar := around_iff.mp I.ar
    obtain ⟨s1, s2⟩ := s
    obtain ⟨e1, e2⟩ := e
    simp only at ar mem ⊢
    have prj : ∀ {a b c d : Int}, (a, b) ≠ ((c, d) : Cell) ↔ a ≠ c ∨ b ≠ d := fun {a b c d} => by rw [Ne, Prod.mk.injEq]; omega
    by_cases c1 : absI (e1 - s1) + absI (e2 - s2) = 1
    · rw [if_pos c1, if_pos c1]
      have n1 := abs_nn (e1 - s1)
      have n2 := abs_nn (e2 - s2)
      have cs : (e1 - s1 = 0 ∧ (e2 - s2 = 1 ∨ e2 - s2 = -1)) ∨ ((e1 - s1 = 1 ∨ e1 - s1 = -1) ∧ e2 - s2 = 0) := by
        by_cases z : absI (e1 - s1) = 0
        · exact .inl ⟨abs_zero.mp z, abs_one.mp (by omega)⟩
        · exact .inr ⟨abs_one.mp (by omega), abs_zero.mp (by omega)⟩
      have sl : slidesB M (e1, e2) (s1, s2) = slidesB L (s1, s2) (e1, e2) := by
        unfold slidesB sideB
        simp only
        have a1 : s2 - e2 = -(e2 - s2) := by omega
        have a2 : s1 - e1 = -(e1 - s1) := by omega
        rw [a1, a2, Int.neg_neg, Int.neg_neg]
        rw [mem (e1 + -(e2 - s2), e2 + -(e1 - s1)) (prj.mpr (by omega)) (prj.mpr (by omega)), mem (s1 + -(e2 - s2), s2 + -(e1 - s1)) (prj.mpr (by omega)) (prj.mpr (by omega)),
          mem (e1 + (e2 - s2), e2 + (e1 - s1)) (prj.mpr (by omega)) (prj.mpr (by omega)), mem (s1 + (e2 - s2), s2 + (e1 - s1)) (prj.mpr (by omega)) (prj.mpr (by omega))]
        cases decide ((e1 + -(e2 - s2), e2 + -(e1 - s1)) ∈ L) <;> cases decide ((s1 + -(e2 - s2), s2 + -(e1 - s1)) ∈ L) <;> cases decide ((e1 + (e2 - s2), e2 + (e1 - s1)) ∈ L) <;> cases decide ((s1 + (e2 - s2), s2 + (e1 - s1)) ∈ L) <;> rfl
      rw [sl]
    · rw [if_neg c1, if_neg c1]
      by_cases c2 : absI (e1 - s1) = 1 ∧ absI (e2 - s2) = 1
      · rw [if_pos c2, if_pos c2]
        have d1 := abs_one.mp c2.1
        have d2 := abs_one.mp c2.2
        have tu : turnsB M (e1, e2) (s1, s2) = turnsB L (s1, s2) (e1, e2) := by
          unfold turnsB
          simp only
          rw [mem (e1, s2) (prj.mpr (by omega)) (prj.mpr (by omega)), mem (s1, e2) (prj.mpr (by omega)) (prj.mpr (by omega))]
          cases decide ((e1, s2) ∈ L) <;> cases decide ((s1, e2) ∈ L) <;> rfl
        rw [tu]
      · rw [if_neg c2, if_neg c2]
  unfold kindV
  rw [bp, h2, k2]
/-! ### moved -/
end Sq

set_option Elab.async false
set_option linter.all false
set_option maxRecDepth 100000
set_option maxHeartbeats 4000000
/-! moved; what the laws ask of cells and moves. -/
namespace Sq
open PySem PySem.Spec PyProof.Rows L2
/-- an own error is on its way -/
def WayS (H : Hp) (C : Addr) (fs : List (Str × V)) (E : XK) : Prop := ∀ (dd : Addr) (H' : Hp), Same H H' → H dd = none → H' dd = some (.xd fs) → E (.ref C) (some dd) H'
theorem WayS.from {H G : Hp} {C : Addr} {fs : List (Str × V)} {E : XK} (h : WayS H C fs E) (k : Same H G) : ∀ d, G d = none → E (.ref C) (some d) (upd G d (.xd fs)) := fun d hd =>
  h d _ (k.trans (same_new hd)) (k.free hd) upd_same
section
variable {P : Program} {w : World} {K : PySem.W.Frag} {mg : Str → Option Value} {base : Heap}
end
theorem lay_pairsT {ms : List CellP} : Lay 3 (.tuple (ms.map pD)) := lay_tuple fun d hd => by
  obtain ⟨m, _, rfl⟩ := List.mem_map.mp hd
  exact lay_pD m
theorem lay_cellsT7 {cs : List Cell} : Lay 2 (.tuple (cs.map cD)) := lay_tuple fun d hd => by
  obtain ⟨c, _, rfl⟩ := List.mem_map.mp hd
  exact lay_cellH c
theorem eqv_self {n : Nat} {d : PyData} (h : Lay n d) (k : n ≤ 64 := by decide) : PyData.eqv d d = true := SeqAt.eqv_refl _ (SeqAt.canLay_of_shaped (h.shaped k))
end Sq

set_option Elab.async false
set_option linter.all false
set_option maxRecDepth 100000
set_option maxHeartbeats 8000000
/-! The law's apart, free. -/
namespace Sq
open PySem PySem.Spec PyProof.Rows L2
def spT4free : Sp := fun vs H Q _ => ∃ (t : Addr) (L : List Cell), vs = [.ref t] ∧ CellsT H t L ∧ L.Nodup ∧ L.length ≤ 1000 ∧ ∀ l H', Same H H' → CellsL H' l (L.filter fun c => wHangs (without L c)) → Q (.ref l) H'
def spT4bodies : Sp := fun vs H Q _ => ∃ (t pl : Addr) (L : List Cell) (ms : List CellP), vs = [.ref t, .ref pl] ∧ CellsT H t L ∧ L.Nodup ∧ Asc L ∧ Hangs L ∧ L.length ≤ 1000 ∧ PairsT H pl ms ∧ ms.length ≤ 1000 ∧ goB L ms = true ∧
  ∀ l H' ts r cs, Same H H' → H' l = some (.lst (ts ++ [V.ref r])) → CellsT H' r cs → cs.Nodup → Asc cs → EqC cs (goL L ms) → Q (.ref l) H'
def spT4leads : Sp := fun vs H Q _ => ∃ (t pl u : Addr) (L G : List Cell) (ms : List CellP), vs = [.ref t, .ref pl, .ref u] ∧ CellsT H t L ∧ L.Nodup ∧ Asc L ∧ Hangs L ∧ L.length ≤ 1000 ∧ CellsT H u G ∧ G.Nodup ∧ Asc G ∧ PairsT H pl ms ∧ ms.length ≤ 1000 ∧ goB L ms = true ∧ EqC (goL L ms) G ∧ ∀ H', Same H H' → Q (.bl true) H'
theorem pi_tupK {X : Cx} {K : PySem.W.Frag} {tg e : Expr} {t : TE} (h : X.K = K) (he : PE X e t) : PI X tg e (iTup K t) := h ▸ pi_tup he
theorem goL_snoc {L : List Cell} {ms : List CellP} {m : CellP} : goL L (ms ++ [m]) = stepM (goL L ms) m := by rw [goL_app]; rfl
section
variable {P : Program} {w : World} {K : PySem.W.Frag} {mg : Str → Option Value} {base : Heap} {Ts : List Addr}
theorem scTf : FnScope ["_law_cells", "_law_cell", "_law_other"] ["_law_cells"] (defScope lT4free) := ⟨rfl, rfl, rfl, by decide +kernel, rfl, by decide +kernel, by decide +kernel⟩
theorem ok_t4free {f : Addr} {fd : FuncData} (F : FnP K "_law_t4free" lT4free f fd) (DH : Df P w K mg base CX0 2 "_law_w_hangs" ["_law_cells"] spWHangs) : FnOk P w K mg base CX0 3 f fd ["_law_cells"] spT4free := by
  refine F.ok scTf (fun vs H Q E h => ?_) (fun cdv A outer s H vs Q E hr h => ?_)
  · obtain ⟨t, L, rfl, _⟩ := h
    rfl
  · obtain ⟨t, L, rfl, ct, nL, lL, k⟩ := h
    have h64 := room64 hr
    refine ⟨_, PSs.nox (pss_one (ps_ret (pe_lc (own := [("_law_cell", 1)]) (g := gName 1) rfl scTf.nd (pi_tup (pv 0)) (blkOk_by (N := ["_law_cells", "_law_cell", "_law_other"]) (sc := defScope lT4free) (by decide +kernel)) (fun _ _ _ _ _ => pg_name (i := 1) scTf.nd rfl (Or.inr rfl)) (fun _ _ _ _ _ => (pts_one (pt_val (pe_df DH hr (by rfl) pass0 (pa_cons (pe_lc (own := [("_law_other", 2)]) (g := gName 2) rfl scTf.nd (pi_tupK (K := K) rfl (pv 0)) (blkOk_by (N := ["_law_cells", "_law_cell", "_law_other"]) (sc := { kind := .function, names := [(".0", .local), ("_law_cell", .cell), ("_law_w_hangs", .globalImplicit), ("_law_cells", .cell)], isGenerator := false, isCoroutine := false }) (by decide +kernel)) (fun _ _ _ _ _ => pg_name (i := 2) scTf.nd rfl (Or.inl rfl)) (fun _ _ _ _ _ => (pts_one (pt_cmpR (op_neK (K := K) rfl h64) (pv 2) (pv 1) (nomark _)))) (fun _ _ _ _ _ => (pv 2))) pa_nil))))) (fun _ _ _ _ _ => (pv 1))))), ?_⟩
    obtain ⟨qs, et, pr⟩ := id ct
    refine ⟨_, rfl, t, rfl, ⟨_, SqT.of et⟩, fun D hD => ?_⟩
    refine lc_cells (walk_tup (K := K) (a := t) (xs := qs.map V.ref)) hD (fun i => (L.take i).filter fun c => wHangs (without L c)) rfl (by rw [List.length_map, Paired.length pr]; omega) (fun i G' _ sm => SqT.of (sm _ _ et)) ?_ ?_
    · rintro i x G1 G' K1 K0 hi sm ⟨rfl, hx⟩ k1 k0
      rw [List.getElem?_map] at hx
      obtain ⟨q, hq, rfl⟩ := Option.map_eq_some_iff.mp hx
      obtain ⟨c, hc, ac⟩ := paired_get pr hq
      have ac : At G' q c := sm _ _ ac
      refine ⟨rfl, _, rfl, t, rfl, ⟨_, SqT.of (sm _ _ et)⟩, fun D2 hD2 => ?_⟩
      refine lc_cells (walk_tup (K := K) (a := t) (xs := qs.map V.ref)) hD2 (fun i => without (L.take i) c) rfl (by rw [List.length_map, Paired.length pr]; omega) (fun i G2 _ sm2 => SqT.of (sm2 _ _ (sm _ _ et))) ?_ ?_
      · rintro j x G2 G2' K3 K2 hj sm2 ⟨rfl, hx2⟩ k3 k2
        rw [List.getElem?_map] at hx2
        obtain ⟨b, hb, rfl⟩ := Option.map_eq_some_iff.mp hx2
        obtain ⟨e, he, ae⟩ := paired_get pr hb
        have ae' : At G2' b e := sm2 _ _ (sm _ _ ae)
        have ac' : At G2' q c := sm2 _ _ ac
        have st : without (L.take (j + 1)) c = if e = c then without (L.take j) c else without (L.take j) c ++ [e] := by rw [take_snoc he, without_snoc]
        refine ⟨rfl, _, rfl, _, rfl, cD e, cD c, ae'.dp, ac'.dp, cD_shaped e, cD_shaped c, _, rfl, ?_⟩
        rw [cD_eqv]
        refine ite2 (fun hc => ?_) (fun hc => ?_)
        · have ne : e ≠ c := by simpa using hc
          rw [if_neg ne] at st
          exact ⟨_, rfl, k3 b e _ same_refl ae' st⟩
        · have ec : e = c := by simpa using hc
          rw [if_pos ec] at st
          exact k2 _ same_refl st
      rintro G2 rs sm2 gD2 pr2
      rw [List.length_map, Paired.length pr, List.take_length] at pr2
      refine ⟨D2, without L c, rfl, ⟨rs, gD2, pr2⟩, nL.filter _, Nat.le_trans (List.length_filter_le _ _) lL, fun G3 s3 => ⟨_, rfl, ?_⟩⟩
      have s23 := sm2.trans s3
      exact ite2 (fun h1 => ⟨_, rfl, k1 q c _ s23 (s23 _ _ ac) (filt_snoc hc h1)⟩) (fun h1 => k0 _ s23 (filt_skip hc h1))
    rintro G rs sm gD pr2
    rw [List.length_map, Paired.length pr, List.take_length] at pr2
    exact k D G sm ⟨rs, gD, pr2⟩
end
end Sq

set_option Elab.async false
set_option linter.all false
set_option maxRecDepth 100000
set_option maxHeartbeats 8000000
/-! The law's t4few. -/
namespace Sq
open PySem PySem.Spec PyProof.Rows L2
section
variable {P : Program} {w : World} {K : PySem.W.Frag} {mg : Str → Option Value} {base : Heap} {Ts : List Addr}
section
variable {f : Addr} {cdv : Value} {A : Around} {outer : List Env} {s : Shared} {H0 : Hp} {E : XK}
end
end
end Sq

set_option Elab.async false
set_option linter.all false
set_option maxRecDepth 100000
set_option maxHeartbeats 8000000
/-! The law's t4bodies, t4leads. -/
namespace Sq
open PySem PySem.Spec PyProof.Rows L2
abbrev tbNW : List Str := ["_law_cells", "_law_plan", "_law_found", "_law_start", "_law_end"]
theorem call_lenKW {X : Cx} {K : PySem.W.Frag} (h : X.K = K) : CallR X (.builtin "len") (fun xs H Q => ∃ p ys, xs = [V.ref p] ∧ (SqL K H p ys ∨ SqT K H p ys) ∧ Q (.int (ys.length : Int)) H) := h ▸ call_len_seq
theorem call_isiKW {X : Cx} {K : PySem.W.Frag} (h : X.K = K) : CallR X (.builtin "isinstance") (rIsi K) := h ▸ call_isi
abbrev tlN : List Str := ["_law_cells", "_law_plan", "_law_other", "_law_pair", "_law_bodies"]
section
variable {P : Program} {w : World} {K : PySem.W.Frag} {mg : Str → Option Value} {base : Heap} {Ts : List Addr}
theorem scT4b : FnScope tbNW ["_law_cells", "_law_plan"] (defScope lT4bodies) := ⟨rfl, rfl, rfl, by decide +kernel, rfl, by decide +kernel, by decide +kernel⟩
theorem ok_t4bodies {f : Addr} {fd : FuncData} (F : FnP K "_law_t4bodies" lT4bodies f fd) (B : Bl mg) (DD : Df P w K mg base CX0 1 "_law_w_moved" ["_law_cells", "_law_start", "_law_end"] spLDone) (DM : Df P w K mg base CX0 3 "_law_w_may" ["_law_cells", "_law_start", "_law_end"] spWMay) :
    FnOk P w K mg base CX0 4 f fd ["_law_cells", "_law_plan"] spT4bodies := by
  refine F.ok scT4b (fun vs H Q E h => ?_) (fun cdv A outer s H vs Q E hr h => ?_)
  · obtain ⟨t, pl, L, ms, rfl, _⟩ := h
    rfl
  · obtain ⟨t, pl, L, ms, rfl, ct, nL, aL, hL, lL, ⟨qs, epl, prm⟩, lms, gb, k⟩ := h
    refine ⟨_, PSs.nox (pss_cons (ps_set (i := 2) scT4b.nd rfl (.inl rfl) (pe_lst (pa_cons (pe_tupleOf (by rfl) B.tuple (pv 0)) pa_nil)))
      (pss_cons (ps_for PassesOwn.never rfl (pi_tup (pv 1)) (pg_tup (by rfl) (pgs_cons (pg_name (i := 3) scT4b.nd rfl (.inl rfl)) (pgs_cons (pg_name (i := 4) scT4b.nd rfl (.inl rfl)) pgs_nil)))
      (pss_cons (ps_if (pt_not (pt_val (pe_df DM hr (by rfl) pass0 (pa_cons (pe_ix (ix_listK (K := K) rfl) (pv 2) (pe_un un_neg pe_int) (fun _ _ => rfl)) (pa_cons (pv 3) (pa_cons (pv 4) pa_nil))))))
        (pss_one (ps_ret pe_non))
        pss_nil)
        (pss_one (ps_expr (pe_bm PySem.F.plainAttrs_list PySem.F.slot_list_append PySem.F.type_list_append mt_append (pv 2) (pa_cons (pe_df DD hr (by rfl) pass0 (pa_cons (pe_ix (ix_listK (K := K) rfl) (pv 2) (pe_un un_neg pe_int) (fun _ _ => rfl)) (pa_cons (pv 3) (pa_cons (pv 4) pa_nil)))) pa_nil))))))
      (pss_one (ps_ret (pv 2))))), ?_⟩
    have lq : qs.length = ms.length := Paired.length prm
    obtain ⟨tq, et, prt⟩ := id ct
    refine ⟨_, rfl, .inr ⟨t, _, rfl, SqT.of et, one_le, fun fl hfl => ?_⟩⟩
    have s0 := same_new (o := .lst [.ref t]) hfl
    have e0 : upd H fl (.lst [.ref t]) fl = some (.lst ([] ++ [V.ref t])) := upd_same
    generalize upd H fl (.lst [.ref t]) = H1 at s0 e0
    refine ⟨_, rfl, pl, rfl, ⟨_, SqT.of (s0 _ _ epl)⟩, ?_⟩
    refine for_tup (K := K) (a := pl) (xs := qs.map V.ref) (fun i σ G => ∃ (v3 v4 : Option V) (ts : List V) (r : Addr) (cs : List Cell), σ = [some (.ref t), some (.ref pl), some (.ref fl), v3, v4] ∧ Same H G ∧ G fl = some (.lst (ts ++ [V.ref r])) ∧ ts.length ≤ i ∧ CellsT G r cs ∧ cs.Nodup ∧ Asc cs ∧ EqC cs (goL L (ms.take i)) ∧ cs.length ≤ 1000)
      ⟨none, none, [], t, L, rfl, s0, e0, Nat.le_refl _, ct.ek (.of s0), nL, aL, fun x => Iff.rfl, lL⟩ (fun i σ G _ ⟨_, _, _, _, _, _, sm, _⟩ => SqT.of (sm _ _ epl)) ?_ ?_
    · rintro i x σ G hi ⟨v3, v4, ts, r, cs, rfl, sm, ef, lts, cc, nC, aC, eC, lC⟩
      rw [List.getElem?_map] at hi
      obtain ⟨q, hq, rfl⟩ := Option.map_eq_some_iff.mp hi
      obtain ⟨⟨a, b⟩, hm, q1, q2, e0, e1, e2⟩ := paired_get prm hq
      have im : i < ms.length := (List.getElem?_eq_some_iff.mp hm).1
      have e1 : At G q1 a := sm _ _ e1
      have e2 : At G q2 b := sm _ _ e2
      have st : ms.take (i + 1) = ms.take i ++ [(a, b)] := take_snoc hm
      have mvL : mayW (goL L (ms.take i)) a b = true := by
        rw [← List.take_append_drop (i + 1) ms, st, goB_app, goB_app] at gb
        simp only [Bool.and_eq_true] at gb
        have := gb.1.2
        have : (mayW (goL L (ms.take i)) a b && true) = true := this
        rwa [Bool.and_true] at this
      have mv : mayW cs a b = true := by rw [may_cong eC]; exact mvL
      refine ⟨q, _, rfl, SqT.of (sm _ _ e0), rfl, _, _, rfl, _, _, rfl, rfl, ?_⟩
      refine ⟨_, rfl, _, rfl, fl, _, _, _, rfl, rfl, SqL.of ef, atI_last _ _, _, rfl, _, rfl, r, q1, q2, cs, a, b, rfl, cc, nC, lC, e1, e2, fun G2 s2 => ?_⟩
      rw [mv]
      refine ⟨_, rfl, iteF ?_⟩
      have ef2 := s2 _ _ ef
      refine ⟨_, rfl, .inl ⟨rfl, _, SqL.of ef2⟩, _, rfl, _, rfl, fl, _, _, _, rfl, rfl, SqL.of ef2, atI_last _ _, _, rfl, _, rfl, r, q1, q2, cs, a, b, rfl, cc.ek (.of s2), lC, s2 _ _ e1, s2 _ _ e2, fun r3 G3 ds s3 cd pm asc => ?_⟩
      have ef3 := s3 _ _ ef2
      have sm3 := (sm.trans s2).trans s3
      obtain ⟨_, nS, lS⟩ := may_step (m := (a, b)) nC mv
      refine ⟨fl, _, _, rfl, rfl, ef3, by rw [List.length_append, sizeLine_eq]; show ts.length + 1 < _; omega, ?_⟩
      have tu : Tk G3 (upd G3 fl (.lst ((ts ++ [V.ref r]) ++ [V.ref r3]))) := upd_tu ef3 (by intro xs z; cases z)
      obtain ⟨dq, ed, prd⟩ := cd
      refine ⟨_, _, ts ++ [V.ref r], r3, ds, rfl, same_put sm3 hfl, upd_same, by rw [List.length_append]; exact Nat.succ_le_succ lts, ⟨dq, tu _ _ ed, paired_imp (fun _ _ h => At.tk h tu) prd⟩, pm.nodup_iff.mpr nS, asc, fun x => ?_, by rw [pm.length_eq]; exact lS ▸ lC⟩
      rw [st, goL_snoc, ← step_cong eC (a, b) x]
      exact pm.mem_iff
    · rintro σ G ⟨v3, v4, ts, r, cs, rfl, sm, ef, lts, cc, nC, aC, eC, lC⟩
      rw [List.length_map, lq, List.take_length] at eC
      exact ⟨_, rfl, k fl G ts r cs sm ef cc nC aC eC⟩
theorem scT4l : FnScope tlN ["_law_cells", "_law_plan", "_law_other"] (defScope lT4leads) := ⟨rfl, rfl, rfl, by decide +kernel, rfl, by decide +kernel, by decide +kernel⟩
theorem ok_t4leads {f : Addr} {fd : FuncData} (F : FnP K "_law_t4leads" lT4leads f fd) (B : Bl mg) (DB : Df P w K mg base CX0 4 "_law_t4bodies" ["_law_cells", "_law_plan"] spT4bodies) :
    FnOk P w K mg base CX0 5 f fd ["_law_cells", "_law_plan", "_law_other"] spT4leads := by
  refine F.ok scT4l (fun vs H Q E h => ?_) (fun cdv A outer s H vs Q E hr h => ?_)
  · obtain ⟨t, pl, u, L, G, ms, rfl, _⟩ := h
    rfl
  · obtain ⟨t, pl, u, L, G, ms, rfl, ct, nL, aL, hL, lL, cu, nG, aG, pp, lms, gb, eq, k⟩ := h
    have h64 := room64 hr
    refine ⟨_, PSs.nox (pss_cons (ps_if (PW.pt (pw_or (pt_not (pt_val (pe_callB call_isi (by rfl) B.isinstance PyProof.Rows.boot_isinstance (pa_cons (pv 1) (pa_cons (pe_bltn (v := .ty "tuple") (by rfl) B.tuple PyProof.Rows.boot_tuple rfl) pa_nil))))) (pw_or1 (pt_cmpR (op_neK (K := K) rfl h64) (pe_lc (own := [("_law_pair", 3)]) (g := gName 3) rfl scT4l.nd (pi_tup (pv 1)) (blkOk_by (N := tlN) (sc := defScope lT4leads) (by decide +kernel)) (fun _ _ _ _ _ => pg_name (i := 3) scT4l.nd rfl (Or.inl rfl)) (fun _ _ _ _ _ => (pts_one (PW.pt (pw_or (pt_not (pt_val (pe_callB (call_isiKW (K := K) rfl) (by rfl) B.isinstance PyProof.Rows.boot_isinstance (pa_cons (pv 3) (pa_cons (pe_bltn (v := .ty "tuple") (by rfl) B.tuple PyProof.Rows.boot_tuple rfl) pa_nil))))) (pw_or1 (pt_cmpR op_ne (pe_callB (call_lenKW (K := K) rfl) (by rfl) B.len PySem.boot_len (pa_cons (pv 3) pa_nil)) pe_int (nomark _))))))) (fun _ _ _ _ _ => (pv 3))) (pe_lst pa_nil) (nomark _)))))
      (pss_one (ps_ret pe_bl))
      pss_nil)
      (pss_cons (ps_set (i := 4) scT4l.nd rfl (.inl rfl) (pe_df DB hr (by rfl) pass0 (pa_cons (pv 0) (pa_cons (pv 1) pa_nil))))
      (pss_one (ps_ret (pe_and (pe_cmpR op_notN (pv 4) pe_non (nomark _)) (pe_one (pe_cmpR (op_eqK (K := K) rfl h64) (pe_ix (ix_listK (K := K) rfl) (pv 4) (pe_un un_neg pe_int) (fun _ _ => rfl)) (pe_tupleOf (by rfl) B.tuple (pv 2)) (nomark _)))))))), ?_⟩
    obtain ⟨qs, epl, prm⟩ := id pp
    have lq : qs.length = ms.length := Paired.length prm
    refine ⟨_, rfl, _, _, _, _, _, rfl, .ty "tuple", (Kd.tup (K := K) epl).ty, kd_isi (T := "tuple") (by decide) (by decide), _, rfl, ?_⟩
    refine ⟨_, rfl, pl, rfl, ⟨_, SqT.of epl⟩, fun D hD => ?_⟩
    refine lc_cells (walk_tup (K := K) (a := pl) (xs := qs.map V.ref)) hD (fun i => []) rfl (by rw [List.length_map]; omega) (fun i G' _ sm => SqT.of (sm _ _ epl)) ?_ ?_
    · rintro i x G1 G' K1 K0 hi sm ⟨rfl, hx⟩ k1 k0
      rw [List.getElem?_map] at hx
      obtain ⟨q, hq, rfl⟩ := Option.map_eq_some_iff.mp hx
      obtain ⟨m, hm, q1, q2, e0, e1, e2⟩ := paired_get prm hq
      have e0' := sm _ _ e0
      refine ⟨rfl, _, rfl, _, _, _, _, _, rfl, .ty "tuple", (Kd.tup (K := K) e0').ty, kd_isi (T := "tuple") (by decide) (by decide), _, rfl, ?_⟩
      refine ⟨_, rfl, q, _, rfl, .inr (SqT.of e0'), rfl, _, rfl, ?_⟩
      exact k0 _ same_refl rfl
    rintro G1 rs sm gD pr2
    have pr2 : Paired (fun q c => At G1 q c) rs ([] : List Cell) := pr2
    have ers : rs = [] := by
      have := Paired.length pr2
      exact List.length_eq_zero_iff.mp this
    refine ⟨Nat.zero_le _, fun e8 he8 => ?_⟩
    have s8 := same_new (o := .lst []) he8
    refine ⟨.list [], .list [], .lst (SqL.of (by rw [s8 _ _ gD, ers]; rfl)) .nil, .lst (SqL.of upd_same) .nil, (lay_list (n := 0) (ds := []) (by simp)).shaped (by decide), (lay_list (n := 0) (ds := []) (by simp)).shaped (by decide), _, rfl, ?_⟩
    have sm8 := sm.trans s8
    generalize upd G1 e8 (.lst []) = G8 at sm8
    refine iteF ?_
    refine ⟨_, rfl, _, rfl, t, pl, L, ms, rfl, ct.ek (.of sm8), nL, aL, hL, lL, pp.same sm8, lms, gb, fun l G2 ts r cs s2 el cc nC aC eC => ?_⟩
    have e : cs = G := (asc_eq nC nG aC aG).mpr (eqC_trans eC eq)
    subst e
    have sm2 := sm8.trans s2
    obtain ⟨uq, eu, pru⟩ := id cu
    refine ⟨_, rfl, rfl, _, rfl, iteT ?_⟩
    refine ⟨_, rfl, _, rfl, l, _, _, _, rfl, rfl, SqL.of el, atI_last _ _, _, rfl, .inr ⟨u, _, rfl, SqT.of (sm2 _ _ eu), ?_⟩⟩
    refine ⟨.tuple (cs.map cD), .tuple (cs.map cD), cc.dp, (cu.ek (.of sm2)).dp, lay_cellsTW.shaped (by decide), lay_cellsTW.shaped (by decide), ?_⟩
    rw [cs_eqvW, decide_eq_true rfl]
    exact k G2 sm2
end
end Sq

set_option Elab.async false
set_option linter.all false
set_option maxRecDepth 100000
set_option maxHeartbeats 8000000
/-! The law's t4few, exactly. -/
namespace Sq
open PySem PySem.Spec PyProof.Rows L2
section
variable {P : Program} {w : World} {K : PySem.W.Frag} {mg : Str → Option Value} {base : Heap} {Ts : List Addr}
section
variable {f : Addr} {cdv : Value} {A : Around} {outer : List Env} {s : Shared} {H0 : Hp} {E : XK}
end
end
end Sq

set_option Elab.async false
set_option linter.all false
set_option maxRecDepth 100000
set_option maxHeartbeats 8000000
/-! The program's bodies_behind of a list or a tuple. -/
namespace Sq
open PySem PySem.Spec PyProof.Rows L2
/-- the bodies of a plan -/
def BodsIs (L : List Cell) (ms : List CellP) (Bs : List (List Cell)) : Prop := Bs.length = ms.length + 1 ∧ ∀ j B, Bs[j]? = some B → B.Nodup ∧ Asc B ∧ EqC B (goL L (ms.take j))
def spBehindP : Sp := fun vs H Q _ => ∃ (t ml : Addr) (L : List Cell) (ms : List CellP) (qs : List Addr), vs = [.ref t, .ref ml] ∧ CellsT H t L ∧ L.Nodup ∧ L.length ≤ 1000 ∧ Hangs L ∧ (H ml = some (.lst (qs.map V.ref)) ∨ H ml = some (.tup (qs.map V.ref))) ∧ Paired (fun q m => PairAt H q m) qs ms ∧ ms.length ≤ 1000 ∧ goB L ms = true ∧
  ∀ l H' ts Bs, Same H H' → H l = none → H' l = some (.lst (ts.map V.ref)) → Paired (fun t B => CellsT H' t B) ts Bs → BodsIs L ms Bs → Q (.ref l) H'
theorem BodsIs.snoc {L B : List Cell} {ms : List CellP} {m : CellP} {Bs : List (List Cell)} (h : BodsIs L ms Bs) (n : B.Nodup) (a : Asc B) (e : EqC B (goL L (ms ++ [m]))) : BodsIs L (ms ++ [m]) (Bs ++ [B]) := by
  refine ⟨by rw [List.length_append, List.length_append, h.1]; rfl, fun j X hX => ?_⟩
  by_cases hj : j < Bs.length
  · rw [List.getElem?_append_left hj] at hX
    rw [List.take_append_of_le_length (by have := h.1; omega)]
    exact h.2 j X hX
  · have l := (List.getElem?_eq_some_iff.mp hX).1
    rw [List.length_append] at l
    have l : j < Bs.length + 1 := l
    have ej : j = Bs.length := by omega
    subst ej
    rw [List.getElem?_append_right (Nat.le_refl _), Nat.sub_self] at hX
    obtain rfl := Option.some.inj hX
    rw [List.take_of_length_le (by rw [List.length_append, h.1]; exact Nat.le_refl _)]
    exact ⟨n, a, e⟩
section
variable {P : Program} {w : World} {K : PySem.W.Frag} {mg : Str → Option Value} {base : Heap} {Ts : List Addr}
theorem scBhP : FnScope ["body", "moves", "lot", "bodies", "start", "end"] ["body", "moves"] (defScope gBodiesBehind) := ⟨rfl, rfl, rfl, by decide +kernel, rfl, by decide +kernel, by decide +kernel⟩
theorem ok_behindP {f : Addr} {fd : FuncData} (F : FnP K "bodies_behind" gBodiesBehind f fd) (DL : Df P w K mg base CX0 2 "lot_of" ["cells"] spLot) (Dp : Df P w K mg base CX0 1 "put" ["lot", "start", "end"] spPut) (Db : Df P w K mg base CX0 1 "body_in" ["lot"] spBodyIn) :
    FnOk P w K mg base CX0 3 f fd ["body", "moves"] spBehindP := by
  refine F.ok scBhP (fun vs H Q E h => ?_) (fun cdv A outer s H vs Q E hr h => ?_)
  · obtain ⟨t, ml, L, ms, qs, rfl, _⟩ := h
    rfl
  · obtain ⟨t, ml, L, ms, qs, rfl, ct, nL, lL, hang, em, prm, lms, gbo, k⟩ := h
    have lq : qs.length = ms.length := Paired.length prm
    refine ⟨_, PSs.nox (pss_cons (ps_set (i := 2) scBhP.nd rfl (.inl rfl) (pe_df DL hr (by rfl) pass0 (pa_cons (pv 0) pa_nil)))
      (pss_cons (ps_set (i := 3) scBhP.nd rfl (.inl rfl) (pe_lst (pa_cons (pe_df Db hr (by rfl) pass0 (pa_cons (pv 2) pa_nil)) pa_nil)))
      (pss_cons (ps_for PassesOwn.never rfl (PI.or (pi_list (pv 1)) (pi_tup (pv 1))) (pg_tup (by rfl) (pgs_cons (pg_name (i := 4) scBhP.nd rfl (.inl rfl)) (pgs_cons (pg_name (i := 5) scBhP.nd rfl (.inl rfl)) pgs_nil)))
      (pss_cons (ps_expr (pe_df Dp hr (by rfl) pass0 (pa_cons (pv 2) (pa_cons (pv 4) (pa_cons (pv 5) pa_nil)))))
      (pss_one (ps_expr (pe_bm PySem.F.plainAttrs_list PySem.F.slot_list_append PySem.F.type_list_append mt_append (pv 3) (pa_cons (pe_df Db hr (by rfl) pass0 (pa_cons (pv 2) pa_nil)) pa_nil))))))
      (pss_one (ps_ret (pv 3)))))), ?_⟩
    refine ⟨_, rfl, t, L, rfl, ct, nL, lL, fun d H1 s1 hd ed => ?_⟩
    refine ⟨_, rfl, d, L, rfl, ed, fun u H2 B0 s2 hu cB pB aB => ⟨one_le, fun bl hbl => ?_⟩⟩
    have s3 := same_new (o := .lst [.ref u]) hbl
    have s12 := s1.trans s2
    have hblH : H bl = none := s12.free hbl
    have ndb : d ≠ bl := fun z => by
      have := s2 _ _ ed
      rw [z, hbl] at this
      cases this
    have sm0 := s12.trans s3
    have ed0 : upd H2 bl (.lst [.ref u]) d = some (.dT (lotK (goL L (ms.take 0)))) := s3 _ _ (s2 _ _ ed)
    have ebl : upd H2 bl (.lst [.ref u]) bl = some (.lst ([u].map V.ref)) := upd_same
    have cB0 : CellsT (upd H2 bl (.lst [.ref u])) u B0 := cB.ek (.of s3)
    have start : BodsIs L (ms.take 0) [B0] := ⟨rfl, fun j B e => by
      cases j with
      | zero =>
        obtain rfl := Option.some.inj e
        exact ⟨pB.nodup_iff.mpr nL, aB, fun x => pB.mem_iff⟩
      | succ j => cases e⟩
    generalize upd H2 bl (.lst [.ref u]) = G0 at sm0 ed0 ebl cB0
    rcases em with em | em
    ·
      refine .inl ⟨_, rfl, ml, rfl, ⟨_, SqL.of (sm0 _ _ em)⟩, ?_⟩
      refine for_w (walk_list (K := K) (a := ml) (xs := qs.map V.ref)) (fun i σ G => ∃ (ts : List Addr) (Bs : List (List Cell)) (v4 v5 : Option V), σ = [some (.ref t), some (.ref ml), some (.ref d), some (.ref bl), v4, v5] ∧ Same H G ∧ G d = some (.dT (lotK (goL L (ms.take i)))) ∧ G bl = some (.lst (ts.map V.ref)) ∧ ts.length = i + 1 ∧ Paired (fun t p => CellsT G t p) ts Bs ∧ BodsIs L (ms.take i) Bs)
        ⟨[u], [B0], none, none, rfl, sm0, ed0, ebl, rfl, .cons cB0 .nil, start⟩ (fun i σ G _ ⟨_, _, _, _, _, sm, _⟩ => SqL.of (sm _ _ em)) ?_ ?_
      · rintro i x σ G G' hx ⟨ts, Bs, v4, v5, rfl, sm, gd, gb, lt, pr, ok⟩ ⟨rfl, hx⟩
        rw [List.getElem?_map] at hx
        obtain ⟨mp, hmp, rfl⟩ := Option.map_eq_some_iff.mp hx
        obtain ⟨⟨a, b⟩, hm, x1, x2, emp, y1, y2⟩ := paired_get prm hmp
        have hi : i < ms.length := (List.getElem?_eq_some_iff.mp hm).1
        have st : ms.take (i + 1) = ms.take i ++ [(a, b)] := take_snoc hm
        have gi : goB L (ms.take i) = true ∧ mayW (goL L (ms.take i)) a b = true := by
          rw [← List.take_append_drop (i + 1) ms, st, goB_app, goB_app] at gbo
          simp only [Bool.and_eq_true] at gbo
          have g2 : (mayW (goL L (ms.take i)) a b && true) = true := gbo.1.2
          exact ⟨gbo.1.1, by rwa [Bool.and_true] at g2⟩
        obtain ⟨hgM, ndM, lM⟩ := go_ok nL hang gi.1
        obtain ⟨aM, bM⟩ := may_in gi.2
        refine ⟨mp, _, rfl, SqT.of (sm _ _ emp), rfl, _, _, rfl, _, _, rfl, rfl, ?_⟩
        refine ⟨_, rfl, _, rfl, _, rfl, d, x1, x2, _, a, b, rfl, gd, ndM, by rw [lM]; exact lL, aM, bM, sm _ _ y1, sm _ _ y2, ?_⟩
        have sm4 : Same H (upd G' d (.dT (lotK (without (goL L (ms.take i)) a ++ [b])))) := same_put sm hd
        have tu4 := upd_tu (o' := .dT (lotK (without (goL L (ms.take i)) a ++ [b]))) gd (by intro xs z; cases z)
        have gb4 : upd G' d (.dT (lotK (without (goL L (ms.take i)) a ++ [b]))) bl = some (.lst (ts.map V.ref)) := by rw [upd_ne (Ne.symm ndb)]; exact gb
        refine ⟨_, rfl, .inl ⟨rfl, _, SqL.of gb4⟩, _, rfl, d, _, rfl, upd_same, fun r G5 B s5 hr5 cB pm asc => ?_⟩
        have gb5 := s5 _ _ gb4
        have tu5 := upd_tu (o' := .lst (ts.map V.ref ++ [V.ref r])) gb5 (by intro xs z; cases z)
        obtain ⟨_, nS, _⟩ := may_step (m := (a, b)) ndM gi.2
        refine ⟨bl, _, _, rfl, rfl, gb5, by rw [List.length_map, sizeLine_eq]; omega, ts ++ [r], Bs ++ [B], _, _, rfl, same_put (sm4.trans s5) hblH, ?_, by rw [upd_same, List.map_append]; rfl, by rw [List.length_append, lt]; rfl, ?_, ?_⟩
        · rw [upd_ne ndb, s5 _ _ upd_same, st, goL_snoc]
          rfl
        · exact (paired_imp (fun _ _ h => cellsT_tu h fun b xs e => tu5 _ _ (s5 _ _ (tu4 _ _ e))) pr).snoc (cellsT_tu cB tu5)
        · rw [st]
          exact ok.snoc (pm.nodup_iff.mpr nS) asc fun x => by rw [goL_snoc]; exact pm.mem_iff
      · rintro σ G ⟨ts, Bs, v4, v5, rfl, sm, gd, gb, lt, pr, ok⟩
        rw [List.length_map, lq, List.take_length] at ok
        exact ⟨_, rfl, k bl G ts Bs sm hblH gb pr ok⟩

    ·
      refine .inr ⟨_, rfl, ml, rfl, ⟨_, SqT.of (sm0 _ _ em)⟩, ?_⟩
      refine for_w (walk_tup (K := K) (a := ml) (xs := qs.map V.ref)) (fun i σ G => ∃ (ts : List Addr) (Bs : List (List Cell)) (v4 v5 : Option V), σ = [some (.ref t), some (.ref ml), some (.ref d), some (.ref bl), v4, v5] ∧ Same H G ∧ G d = some (.dT (lotK (goL L (ms.take i)))) ∧ G bl = some (.lst (ts.map V.ref)) ∧ ts.length = i + 1 ∧ Paired (fun t p => CellsT G t p) ts Bs ∧ BodsIs L (ms.take i) Bs)
        ⟨[u], [B0], none, none, rfl, sm0, ed0, ebl, rfl, .cons cB0 .nil, start⟩ (fun i σ G _ ⟨_, _, _, _, _, sm, _⟩ => SqT.of (sm _ _ em)) ?_ ?_
      · rintro i x σ G G' hx ⟨ts, Bs, v4, v5, rfl, sm, gd, gb, lt, pr, ok⟩ ⟨rfl, hx⟩
        rw [List.getElem?_map] at hx
        obtain ⟨mp, hmp, rfl⟩ := Option.map_eq_some_iff.mp hx
        obtain ⟨⟨a, b⟩, hm, x1, x2, emp, y1, y2⟩ := paired_get prm hmp
        have hi : i < ms.length := (List.getElem?_eq_some_iff.mp hm).1
        have st : ms.take (i + 1) = ms.take i ++ [(a, b)] := take_snoc hm
        have gi : goB L (ms.take i) = true ∧ mayW (goL L (ms.take i)) a b = true := by
          rw [← List.take_append_drop (i + 1) ms, st, goB_app, goB_app] at gbo
          simp only [Bool.and_eq_true] at gbo
          have g2 : (mayW (goL L (ms.take i)) a b && true) = true := gbo.1.2
          exact ⟨gbo.1.1, by rwa [Bool.and_true] at g2⟩
        obtain ⟨hgM, ndM, lM⟩ := go_ok nL hang gi.1
        obtain ⟨aM, bM⟩ := may_in gi.2
        refine ⟨mp, _, rfl, SqT.of (sm _ _ emp), rfl, _, _, rfl, _, _, rfl, rfl, ?_⟩
        refine ⟨_, rfl, _, rfl, _, rfl, d, x1, x2, _, a, b, rfl, gd, ndM, by rw [lM]; exact lL, aM, bM, sm _ _ y1, sm _ _ y2, ?_⟩
        have sm4 : Same H (upd G' d (.dT (lotK (without (goL L (ms.take i)) a ++ [b])))) := same_put sm hd
        have tu4 := upd_tu (o' := .dT (lotK (without (goL L (ms.take i)) a ++ [b]))) gd (by intro xs z; cases z)
        have gb4 : upd G' d (.dT (lotK (without (goL L (ms.take i)) a ++ [b]))) bl = some (.lst (ts.map V.ref)) := by rw [upd_ne (Ne.symm ndb)]; exact gb
        refine ⟨_, rfl, .inl ⟨rfl, _, SqL.of gb4⟩, _, rfl, d, _, rfl, upd_same, fun r G5 B s5 hr5 cB pm asc => ?_⟩
        have gb5 := s5 _ _ gb4
        have tu5 := upd_tu (o' := .lst (ts.map V.ref ++ [V.ref r])) gb5 (by intro xs z; cases z)
        obtain ⟨_, nS, _⟩ := may_step (m := (a, b)) ndM gi.2
        refine ⟨bl, _, _, rfl, rfl, gb5, by rw [List.length_map, sizeLine_eq]; omega, ts ++ [r], Bs ++ [B], _, _, rfl, same_put (sm4.trans s5) hblH, ?_, by rw [upd_same, List.map_append]; rfl, by rw [List.length_append, lt]; rfl, ?_, ?_⟩
        · rw [upd_ne ndb, s5 _ _ upd_same, st, goL_snoc]
          rfl
        · exact (paired_imp (fun _ _ h => cellsT_tu h fun b xs e => tu5 _ _ (s5 _ _ (tu4 _ _ e))) pr).snoc (cellsT_tu cB tu5)
        · rw [st]
          exact ok.snoc (pm.nodup_iff.mpr nS) asc fun x => by rw [goL_snoc]; exact pm.mem_iff
      · rintro σ G ⟨ts, Bs, v4, v5, rfl, sm, gd, gb, lt, pr, ok⟩
        rw [List.length_map, lq, List.take_length] at ok
        exact ⟨_, rfl, k bl G ts Bs sm hblH gb pr ok⟩

end
end Sq

set_option Elab.async false
set_option linter.all false
set_option maxRecDepth 100000
set_option maxHeartbeats 8000000
/-! The mathematics of tightened plans. -/
namespace Sq
open PySem PySem.Spec PyProof.Rows L2
theorem bods_one {L : List Cell} {p : List CellP} {Bs Cs : List (List Cell)} (h : BodsIs L p Bs) (k : BodsIs L p Cs) : Bs = Cs := by
  refine List.ext_getElem? fun j => ?_
  cases hb : Bs[j]? with
  | none =>
    have := List.getElem?_eq_none_iff.mp hb
    exact (List.getElem?_eq_none_iff.mpr (by rw [k.1, ← h.1]; exact this)).symm
  | some B =>
    have lj := (List.getElem?_eq_some_iff.mp hb).1
    have hc : Cs[j]? = some (Cs[j]'(by rw [k.1, ← h.1]; exact lj)) := List.getElem?_eq_getElem _
    obtain ⟨n1, a1, e1⟩ := h.2 j B hb
    obtain ⟨n2, a2, e2⟩ := k.2 j _ hc
    rw [hc, (asc_eq n1 n2 a1 a2).mpr (eqC_trans e1 (eqC_symm e2))]
theorem goL_cong {L M : List Cell} (h : EqC L M) : ∀ ms : List CellP, EqC (goL L ms) (goL M ms)
  | [] => h
  | m :: ms => goL_cong (step_cong h m) ms
theorem goB_cong : ∀ (ms : List CellP) {L M : List Cell}, EqC L M → goB L ms = goB M ms
  | [], _, _, _ => rfl
  | m :: ms, L, M, h => by
    show (mayW L m.1 m.2 && goB (stepM L m) ms) = (mayW M m.1 m.2 && goB (stepM M m) ms)
    rw [may_cong h, goB_cong ms (step_cong h m)]
theorem goB_split {L : List Cell} {p : List CellP} (g : goB L p = true) (k : Nat) : goB L (p.take k) = true ∧ goB (goL L (p.take k)) (p.drop k) = true := by
  rw [← List.take_append_drop k p, goB_app, Bool.and_eq_true] at g
  exact g
theorem goL_split (L : List Cell) (p : List CellP) (k : Nat) : goL L p = goL (goL L (p.take k)) (p.drop k) := by
  rw [← goL_app, List.take_append_drop]
end Sq

set_option Elab.async false
set_option linter.all false
set_option maxRecDepth 100000
set_option maxHeartbeats 8000000
/-! The program's fewer_at. -/
namespace Sq
open PySem PySem.Spec PyProof.Rows L2
/-- bodies at bl, each as long as the next -/
structure BdsAt (H : Hp) (bl : Addr) (n : Nat) (Bs : List (List Cell)) : Prop where
  ex : ∃ ts : List Addr, H bl = some (.lst (ts.map V.ref)) ∧ Paired (fun t B => CellsT H t B) ts Bs
  ok : ∀ B ∈ Bs, B.Nodup ∧ Asc B ∧ Hangs B ∧ B.length = n
theorem BdsAt.ek {H G : Hp} {bl : Addr} {n : Nat} {Bs : List (List Cell)} (h : BdsAt H bl n Bs) (k : Ek H G) : BdsAt G bl n Bs := by
  obtain ⟨ts, e, pr⟩ := h.ex
  exact ⟨⟨ts, k.lst e, paired_imp (fun _ _ h => h.ek k) pr⟩, h.ok⟩
section
variable {P : Program} {w : World} {K : PySem.W.Frag} {mg : Str → Option Value} {base : Heap} {Ts : List Addr}
end
end Sq

set_option Elab.async false
set_option linter.all false
set_option maxRecDepth 100000
set_option maxHeartbeats 8000000
/-! The program's tight. -/
namespace Sq
open PySem PySem.Spec PyProof.Rows L2
theorem bods_ok {L : List Cell} {p : List CellP} {Bs : List (List Cell)} (nL : L.Nodup) (hL : Hangs L) (g : goB L p = true) (b : BodsIs L p Bs) : ∀ B ∈ Bs, B.Nodup ∧ Asc B ∧ Hangs B ∧ B.length = L.length := fun B hB => by
  obtain ⟨j, hj⟩ := List.mem_iff_getElem?.mp hB
  obtain ⟨n, a, e⟩ := b.2 j B hj
  obtain ⟨h1, h2, h3⟩ := go_ok nL hL (goB_split g j).1
  exact ⟨n, a, (hangs_perm e).mpr h1, by rw [← h3]; exact ((List.perm_ext_iff_of_nodup n h2).mpr e).length_eq⟩
theorem paired_take {α β : Type} {F : α → β → Prop} {xs : List α} {ys : List β} (h : Paired F xs ys) : ∀ n, Paired F (xs.take n) (ys.take n) := by
  induction h with
  | nil => intro n; rw [List.take_nil, List.take_nil]; exact .nil
  | cons a _ ih =>
    intro n
    cases n with
    | zero => exact .nil
    | succ n => exact .cons a (ih n)
theorem paired_dropW {α β : Type} {F : α → β → Prop} {xs : List α} {ys : List β} (h : Paired F xs ys) : ∀ n, Paired F (xs.drop n) (ys.drop n) := by
  induction h with
  | nil => intro n; rw [List.drop_nil, List.drop_nil]; exact .nil
  | cons a t ih =>
    intro n
    cases n with
    | zero => exact .cons a t
    | succ n => exact ih n
section
variable {P : Program} {w : World} {K : PySem.W.Frag} {mg : Str → Option Value} {base : Heap} {Ts : List Addr}
end
end Sq

set_option Elab.async false
set_option linter.all false
set_option maxRecDepth 100000
set_option maxHeartbeats 8000000
/-! The program's tightened. -/
namespace Sq
open PySem PySem.Spec PyProof.Rows L2
theorem cellsOf_mv : ∀ p : List CellP, cellsOf (p.map mvO) = p
  | [] => rfl
  | m :: p => by
    have ih := cellsOf_mv p
    show _ :: cellsOf (p.map mvO) = _
    rw [ih]
theorem lotAt_mv (L : List Cell) (p : List CellP) (i : Nat) : lotAt L (p.map mvO) i = goL L (p.take i) := by
  unfold lotAt goL
  rw [← List.map_take, List.foldl_map]
  rfl
theorem good_mv {L : List Cell} {p : List CellP} (g : goB L p = true) : GoodTo L (p.map mvO) (p.map mvO).length := fun j m _ hm => by
  rw [List.getElem?_map] at hm
  obtain ⟨c, hc, rfl⟩ := Option.map_eq_some_iff.mp hm
  rw [lotAt_mv]
  have g2 := (goB_split g (j + 1)).1
  rw [take_snoc hc, goB_app, Bool.and_eq_true] at g2
  have g3 : (mayW (goL L (p.take j)) c.1 c.2 && true) = true := g2.2
  rw [Bool.and_true] at g3
  exact g3
theorem not_wrong {L : List Cell} {p : List CellP} (g : goB L p = true) (i : Nat) : ¬ WrongIs L (p.map mvO) (some i) := fun ⟨_, m, hm, hb⟩ => by
  rw [good_mv g i m (List.getElem?_eq_some_iff.mp hm).1 hm] at hb
  cases hb
theorem mv_of {K : PySem.W.Frag} {H : Hp} {qs : List Addr} {p : List CellP} (h : Paired (fun q m => PairAt H q m) qs p) : Paired (fun q m => MvAt K H q m) qs (p.map mvO) := by
  induction h with
  | nil => exact .nil
  | cons a _ ih =>
    obtain ⟨q1, q2, e, a1, a2⟩ := a
    exact .cons ⟨_, _, e, ⟨q1, rfl, a1⟩, ⟨q2, rfl, a2⟩⟩ ih
section
variable {P : Program} {w : World} {K : PySem.W.Frag} {mg : Str → Option Value} {base : Heap} {Ts : List Addr}
end
end Sq

set_option Elab.async false
set_option linter.all false
set_option maxRecDepth 100000
set_option maxHeartbeats 8000000
/-! The law's both; where a square goes. -/
namespace Sq
open PySem PySem.Spec PyProof.Rows L2
abbrev goN : List Str := ["_law_rest", "_law_cell", "_law_found", "_law_across", "_law_up", "_law_end", "_law_sides", "_law_n"]
def spT4both : Sp := fun vs H Q _ => ∃ (d p q r : Addr) (R : List Cell) (a b n : Cell), vs = [.ref d, .ref p, .ref q, .ref r] ∧ H d = some (.dT (lotK R)) ∧ At H p a ∧ At H q b ∧ At H r n ∧ ∀ H', Same H H' → Q (.bl (sideB R a b n)) H'
/-- a square in c may go by b beside R -/
def GoesBy (R : List Cell) (c b : Cell) : Prop := (c.1 + b.1, c.2 + b.2) ∉ R ∧ (((b.1 = 0 ∨ b.2 = 0) ∧ (sideB R c (c.1 + b.1, c.2 + b.2) (b.2, b.1) = true ∨ sideB R c (c.1 + b.1, c.2 + b.2) (-b.2, -b.1) = true)) ∨ (¬ (b.1 = 0 ∨ b.2 = 0) ∧ decide ((c.1 + b.1, c.2) ∈ R) ≠ decide ((c.1, c.2 + b.2) ∈ R)))
def spT4goes : Sp := fun vs H Q _ => ∃ (d q : Addr) (R : List Cell) (c : Cell), vs = [.ref d, .ref q] ∧ H d = some (.dT (lotK R)) ∧ At H q c ∧ ∀ l H' es, Same H H' → CellsL H' l es → es.length ≤ 8 → (∀ e ∈ es, ∃ b ∈ stepL, e = (c.1 + b.1, c.2 + b.2) ∧ GoesBy R c b) → Q (.ref l) H'
/-- where a square goes is a move -/
theorem goes_may {L : List Cell} {c b : Cell} (cL : c ∈ L) (hb : b ∈ stepL) (hg : hangsB (without L c) = true) (g : GoesBy (without L c) c b) : mayW L c (c.1 + b.1, c.2 + b.2) = true := by
  rw [may_place, hg, Bool.and_true]
  obtain ⟨eR, g⟩ := g
  obtain ⟨c1, c2⟩ := c
  obtain ⟨b1, b2⟩ := b
  dsimp only at eR g ⊢
  have b0 : ¬ (b1 = 0 ∧ b2 = 0) := by
    simp only [stepL, List.mem_cons, List.not_mem_nil, or_false, Prod.mk.injEq] at hb
    omega
  have bs : (b1 = -1 ∨ b1 = 0 ∨ b1 = 1) ∧ (b2 = -1 ∨ b2 = 0 ∨ b2 = 1) := by
    simp only [stepL, List.mem_cons, List.not_mem_nil, or_false, Prod.mk.injEq] at hb
    omega
  have eL : (c1 + b1, c2 + b2) ∉ L := fun m => eR (mem_without.mpr ⟨m, fun z => b0 (by have := Prod.mk.inj z; omega)⟩)
  have d1 : c1 + b1 - c1 = b1 := by omega
  have d2 : c2 + b2 - c2 = b2 := by omega
  have ne : byPlace L (c1, c2) (c1 + b1, c2 + b2) ≠ .non := by
    rcases g with ⟨h1, h2⟩ | ⟨h1, h2⟩
    · have s4 : side4 (b1, b2) := by
        unfold side4
        dsimp only
        omega
      rw [byPlace_slide cL eL (by dsimp only; rw [d1, d2]; exact s4) ?_]
      · simp
      · unfold slidesB
        dsimp only
        rw [d1, d2, Bool.or_eq_true]
        have up : ∀ n : Cell, sideB (without L (c1, c2)) (c1, c2) (c1 + b1, c2 + b2) n = true → sideB L (c1, c2) (c1 + b1, c2 + b2) n = true := fun n h => by
          unfold sideB at h ⊢
          rw [Bool.and_eq_true, decide_eq_true_iff, decide_eq_true_iff, mem_without, mem_without] at h
          rw [Bool.and_eq_true, decide_eq_true_iff, decide_eq_true_iff]
          exact ⟨h.1.1, h.2.1⟩
        exact h2.elim (fun h => .inl (up _ h)) fun h => .inr (up _ h)
    · rw [byPlace_turn cL eL (by dsimp only; omega) (by dsimp only; omega) ?_]
      · simp
      · unfold turnsB
        dsimp only
        have m1 : ((c1 + b1, c2) ∈ without L (c1, c2)) ↔ (c1 + b1, c2) ∈ L := by
          rw [mem_without]
          exact ⟨fun h => h.1, fun h => ⟨h, fun z => by have := Prod.mk.inj z; omega⟩⟩
        have m2 : ((c1, c2 + b2) ∈ without L (c1, c2)) ↔ (c1, c2 + b2) ∈ L := by
          rw [mem_without]
          exact ⟨fun h => h.1, fun h => ⟨h, fun z => by have := Prod.mk.inj z; omega⟩⟩
        have h3 : decide ((c1 + b1, c2) ∈ L) ≠ decide ((c1, c2 + b2) ∈ L) := fun z => h2 (by
          rw [decide_eq_decide] at z ⊢
          rw [m1, m2]
          exact z)
        exact bne_iff_ne.mpr (Ne.symm h3)
  rw [decide_eq_false ne]
  rfl
section
variable {P : Program} {w : World} {K : PySem.W.Frag} {mg : Str → Option Value} {base : Heap} {Ts : List Addr}
theorem scT4bo : FnScope ["_law_rest", "_law_one", "_law_two", "_law_n"] ["_law_rest", "_law_one", "_law_two", "_law_n"] (defScope lT4both) := ⟨rfl, rfl, rfl, by decide +kernel, rfl, by decide +kernel, by decide +kernel⟩
theorem ok_t4both {f : Addr} {fd : FuncData} (F : FnP K "_law_t4both" lT4both f fd) : FnOk P w K mg base CX0 1 f fd ["_law_rest", "_law_one", "_law_two", "_law_n"] spT4both := by
  refine F.ok scT4bo (fun vs H Q E h => ?_) (fun cdv A outer s H vs Q E hr h => ?_)
  · obtain ⟨d, p, q, r, R, a, b, n, rfl, _⟩ := h
    rfl
  · obtain ⟨d, p, q, r, R, a, b, n, rfl, ed, ap, aq, an, k⟩ := h
    have hu := hu_of hr
    refine ⟨_, PSs.nox (pss_one (ps_ret (pe_and (pe_cmp (pc_din hu (pe_tup (pa_cons (pe_op op_add (pe_ix (ix_tupK (K := K) rfl) (pv 1) pe_int (fun _ _ => rfl)) (pe_ix (ix_tupK (K := K) rfl) (pv 3) pe_int (fun _ _ => rfl))) (pa_cons (pe_op op_add (pe_ix (ix_tupK (K := K) rfl) (pv 1) pe_int (fun _ _ => rfl)) (pe_ix (ix_tupK (K := K) rfl) (pv 3) pe_int (fun _ _ => rfl))) pa_nil))) (pv 0)) rfl) (pe_one (pe_cmp (pc_din hu (pe_tup (pa_cons (pe_op op_add (pe_ix (ix_tupK (K := K) rfl) (pv 2) pe_int (fun _ _ => rfl)) (pe_ix (ix_tupK (K := K) rfl) (pv 3) pe_int (fun _ _ => rfl))) (pa_cons (pe_op op_add (pe_ix (ix_tupK (K := K) rfl) (pv 2) pe_int (fun _ _ => rfl)) (pe_ix (ix_tupK (K := K) rfl) (pv 3) pe_int (fun _ _ => rfl))) pa_nil))) (pv 0)) rfl))))), ?_⟩
    refine ⟨_, rfl, _, _, _, _, rfl, rfl, SqT.of ap, at0, _, rfl, _, _, _, _, rfl, rfl, SqT.of an, at0, _, _, rfl, rfl, _, rfl, _, _, _, _, rfl, rfl, SqT.of ap, at1, _, rfl, _, _, _, _, rfl, rfl, SqT.of an, at1, _, _, rfl, rfl, two_le, fun t1 ht1 => ?_⟩
    have u1 := same_new (o := .tup [.int (a.1 + n.1), .int (a.2 + n.2)]) ht1
    have at1' : At (upd H t1 (.tup [.int (a.1 + n.1), .int (a.2 + n.2)])) t1 (a.1 + n.1, a.2 + n.2) := upd_same
    generalize upd H t1 (.tup [.int (a.1 + n.1), .int (a.2 + n.2)]) = H1 at u1 at1'
    refine ⟨_, rfl, d, _, rfl, dget_lot (u1 _ _ ed) at1', _, rfl, ?_⟩
    rw [lot_is]
    by_cases h1 : (a.1 + n.1, a.2 + n.2) ∈ R
    · rw [decide_eq_true h1]
      refine iteT ?_
      have aq1 := aq.same u1
      have an1 := an.same u1
      refine ⟨_, rfl, _, _, _, _, rfl, rfl, SqT.of aq1, at0, _, rfl, _, _, _, _, rfl, rfl, SqT.of an1, at0, _, _, rfl, rfl, _, rfl, _, _, _, _, rfl, rfl, SqT.of aq1, at1, _, rfl, _, _, _, _, rfl, rfl, SqT.of an1, at1, _, _, rfl, rfl, two_le, fun t2 ht2 => ?_⟩
      have u2 := same_new (o := .tup [.int (b.1 + n.1), .int (b.2 + n.2)]) ht2
      have at2' : At (upd H1 t2 (.tup [.int (b.1 + n.1), .int (b.2 + n.2)])) t2 (b.1 + n.1, b.2 + n.2) := upd_same
      refine ⟨_, rfl, d, _, rfl, dget_lot (u2 _ _ (u1 _ _ ed)) at2', ?_⟩
      rw [lot_is]
      have e : sideB R a b n = decide ((b.1 + n.1, b.2 + n.2) ∈ R) := by
        unfold sideB
        rw [decide_eq_true h1, Bool.true_and]
      rw [e] at k
      exact k _ (u1.trans u2)
    · rw [decide_eq_false h1]
      refine iteF ?_
      have e : sideB R a b n = false := by
        unfold sideB
        rw [decide_eq_false h1, Bool.false_and]
      rw [e] at k
      exact k _ u1
theorem scT4go : FnScope goN ["_law_rest", "_law_cell"] (defScope lT4goes) := ⟨rfl, rfl, rfl, by decide +kernel, rfl, by decide +kernel, by decide +kernel⟩
theorem ok_t4goes {f : Addr} {fd : FuncData} (F : FnP K "_law_t4goes" lT4goes f fd) (B : Bl mg) (DO : Df P w K mg base CX0 1 "_law_t4both" ["_law_rest", "_law_one", "_law_two", "_law_n"] spT4both) : FnOk P w K mg base CX0 2 f fd ["_law_rest", "_law_cell"] spT4goes := by
  refine F.ok scT4go (fun vs H Q E h => ?_) (fun cdv A outer s H vs Q E hr h => ?_)
  · obtain ⟨d, q, R, c, rfl, _⟩ := h
    rfl
  · obtain ⟨d, q, R, c, rfl, ed, ac, k⟩ := h
    have hu := hu_of hr
    have h64 := room64 hr
    refine ⟨_, PSs.nox (pss_cons (ps_set (i := 2) scT4go.nd rfl (.inl rfl) (pe_lst pa_nil))
      (pss_cons (ps_for PassesOwn.never rfl (pi_list (pe_lst (pa_cons (pe_tup (pa_cons (pe_un un_neg pe_int) (pa_cons (pe_un un_neg pe_int) pa_nil))) (pa_cons (pe_tup (pa_cons (pe_un un_neg pe_int) (pa_cons pe_int pa_nil))) (pa_cons (pe_tup (pa_cons (pe_un un_neg pe_int) (pa_cons pe_int pa_nil))) (pa_cons (pe_tup (pa_cons pe_int (pa_cons (pe_un un_neg pe_int) pa_nil))) (pa_cons (pe_tup (pa_cons pe_int (pa_cons pe_int pa_nil))) (pa_cons (pe_tup (pa_cons pe_int (pa_cons (pe_un un_neg pe_int) pa_nil))) (pa_cons (pe_tup (pa_cons pe_int (pa_cons pe_int pa_nil))) (pa_cons (pe_tup (pa_cons pe_int (pa_cons pe_int pa_nil))) pa_nil)))))))))) (pg_tup (by rfl) (pgs_cons (pg_name (i := 3) scT4go.nd rfl (.inl rfl)) (pgs_cons (pg_name (i := 4) scT4go.nd rfl (.inl rfl)) pgs_nil)))
      (pss_cons (ps_set (i := 5) scT4go.nd rfl (.inr rfl) (pe_tup (pa_cons (pe_op op_add (pe_ix (ix_tupK (K := K) rfl) (pv 1) pe_int (fun _ _ => rfl)) (pv 3)) (pa_cons (pe_op op_add (pe_ix (ix_tupK (K := K) rfl) (pv 1) pe_int (fun _ _ => rfl)) (pv 4)) pa_nil))))
        (pss_cons (ps_if (pt_cmp (pc_din hu (pv 5) (pv 0)))
        (pss_one ps_continue)
        pss_nil)
        (pss_one (ps_if (PW.pt (pw_or (pt_cmpR op_eq (pv 3) pe_int (nomark _)) (pw_or1 (pt_cmpR op_eq (pv 4) pe_int (nomark _)))))
        (pss_cons (ps_set (i := 6) scT4go.nd rfl (.inl rfl) (pe_lst (pa_cons (pe_tup (pa_cons (pv 4) (pa_cons (pv 3) pa_nil))) (pa_cons (pe_tup (pa_cons (pe_un un_neg (pv 4)) (pa_cons (pe_un un_neg (pv 3)) pa_nil))) pa_nil))))
          (pss_one (ps_if (pt_cmpR (op_neK (K := K) rfl h64) (pe_lc (own := [("_law_n", 7)]) (g := gName 7) rfl scT4go.nd (pi_list (pv 6)) (blkOk_by (N := goN) (sc := defScope lT4goes) (by decide +kernel)) (fun _ _ _ _ _ => pg_name (i := 7) scT4go.nd rfl (Or.inl rfl)) (fun _ _ _ _ _ => (pts_one (pt_val (pe_df DO hr (by rfl) pass0 (pa_cons (pv 0) (pa_cons (pv 1) (pa_cons (pv 5) (pa_cons (pv 7) pa_nil)))))))) (fun _ _ _ _ _ => (pv 7))) (pe_lst pa_nil) (nomark _))
          (pss_one (ps_expr (pe_bm PySem.F.plainAttrs_list PySem.F.slot_list_append PySem.F.type_list_append mt_append (pv 2) (pa_cons (pv 5) pa_nil))))
          pss_nil)))
        (pss_one (ps_if (pt_cmpR op_ne (pe_cmp (pc_din hu (pe_tup (pa_cons (pe_op op_add (pe_ix (ix_tupK (K := K) rfl) (pv 1) pe_int (fun _ _ => rfl)) (pv 3)) (pa_cons (pe_ix (ix_tupK (K := K) rfl) (pv 1) pe_int (fun _ _ => rfl)) pa_nil))) (pv 0)) rfl) (pe_cmp (pc_din hu (pe_tup (pa_cons (pe_ix (ix_tupK (K := K) rfl) (pv 1) pe_int (fun _ _ => rfl)) (pa_cons (pe_op op_add (pe_ix (ix_tupK (K := K) rfl) (pv 1) pe_int (fun _ _ => rfl)) (pv 4)) pa_nil))) (pv 0)) rfl) (nomark _))
          (pss_one (ps_expr (pe_bm PySem.F.plainAttrs_list PySem.F.slot_list_append PySem.F.type_list_append mt_append (pv 2) (pa_cons (pv 5) pa_nil))))
          pss_nil)))))))
      (pss_one (ps_ret (pv 2))))), ?_⟩
    refine ⟨Nat.zero_le _, fun D hD => ?_⟩
    have sD := same_new (o := .lst []) hD
    have eD : upd H D (.lst []) D = some (.lst []) := upd_same
    generalize upd H D (.lst []) = G0 at sD eD ⊢
    refine ⟨_, rfl, _, rfl, two_le, fun w1 h1 => ?_⟩
    have r1 := same_new (o := .tup [.int (-1), .int (-1)]) h1
    have x1 := upd_same (H := G0) (a := w1) (o := .tup [.int (-1), .int (-1)])
    generalize upd G0 w1 (.tup [.int (-1), .int (-1)]) = W1 at r1 x1 ⊢
    refine ⟨_, rfl, two_le, fun w2 h2 => ?_⟩
    have r2 := same_new (o := .tup [.int (-1), .int 0]) h2
    have x2 := upd_same (H := W1) (a := w2) (o := .tup [.int (-1), .int 0])
    generalize upd W1 w2 (.tup [.int (-1), .int 0]) = W2 at r2 x2 ⊢
    refine ⟨_, rfl, two_le, fun w3 h3 => ?_⟩
    have r3 := same_new (o := .tup [.int (-1), .int 1]) h3
    have x3 := upd_same (H := W2) (a := w3) (o := .tup [.int (-1), .int 1])
    generalize upd W2 w3 (.tup [.int (-1), .int 1]) = W3 at r3 x3 ⊢
    refine ⟨_, rfl, two_le, fun w4 h4 => ?_⟩
    have r4 := same_new (o := .tup [.int 0, .int (-1)]) h4
    have x4 := upd_same (H := W3) (a := w4) (o := .tup [.int 0, .int (-1)])
    generalize upd W3 w4 (.tup [.int 0, .int (-1)]) = W4 at r4 x4 ⊢
    refine ⟨two_le, fun w5 h5 => ?_⟩
    have r5 := same_new (o := .tup [.int 0, .int 1]) h5
    have x5 := upd_same (H := W4) (a := w5) (o := .tup [.int 0, .int 1])
    generalize upd W4 w5 (.tup [.int 0, .int 1]) = W5 at r5 x5 ⊢
    refine ⟨_, rfl, two_le, fun w6 h6 => ?_⟩
    have r6 := same_new (o := .tup [.int 1, .int (-1)]) h6
    have x6 := upd_same (H := W5) (a := w6) (o := .tup [.int 1, .int (-1)])
    generalize upd W5 w6 (.tup [.int 1, .int (-1)]) = W6 at r6 x6 ⊢
    refine ⟨two_le, fun w7 h7 => ?_⟩
    have r7 := same_new (o := .tup [.int 1, .int 0]) h7
    have x7 := upd_same (H := W6) (a := w7) (o := .tup [.int 1, .int 0])
    generalize upd W6 w7 (.tup [.int 1, .int 0]) = W7 at r7 x7 ⊢
    refine ⟨two_le, fun w8 h8 => ?_⟩
    have r8 := same_new (o := .tup [.int 1, .int 1]) h8
    have x8 := upd_same (H := W7) (a := w8) (o := .tup [.int 1, .int 1])
    generalize upd W7 w8 (.tup [.int 1, .int 1]) = W8 at r8 x8 ⊢
    refine ⟨eight_le, fun lw hw0 => ?_⟩
    have r9 := same_new (o := .lst [.ref w1, .ref w2, .ref w3, .ref w4, .ref w5, .ref w6, .ref w7, .ref w8]) hw0
    have ew : upd W8 lw (.lst [.ref w1, .ref w2, .ref w3, .ref w4, .ref w5, .ref w6, .ref w7, .ref w8]) lw = some (.lst ([w1, w2, w3, w4, w5, w6, w7, w8].map V.ref)) := upd_same
    generalize upd W8 lw (.lst [.ref w1, .ref w2, .ref w3, .ref w4, .ref w5, .ref w6, .ref w7, .ref w8]) = GW at r9 ew ⊢
    have rG : Same G0 W8 := ((((((r1.trans r2).trans r3).trans r4).trans r5).trans r6).trans r7).trans r8
    have rw_ := rG.trans r9
    have hw := rG.free hw0
    have pw : Paired (fun u b => At GW u b) [w1, w2, w3, w4, w5, w6, w7, w8] stepL :=
      .cons (r9 _ _ (r8 _ _ (r7 _ _ (r6 _ _ (r5 _ _ (r4 _ _ (r3 _ _ (r2 _ _ x1)))))))) (.cons (r9 _ _ (r8 _ _ (r7 _ _ (r6 _ _ (r5 _ _ (r4 _ _ (r3 _ _ x2))))))) (.cons (r9 _ _ (r8 _ _ (r7 _ _ (r6 _ _ (r5 _ _ (r4 _ _ x3)))))) (.cons (r9 _ _ (r8 _ _ (r7 _ _ (r6 _ _ (r5 _ _ x4))))) (.cons (r9 _ _ (r8 _ _ (r7 _ _ (r6 _ _ x5)))) (.cons (r9 _ _ (r8 _ _ (r7 _ _ x6))) (.cons (r9 _ _ (r8 _ _ x7)) (.cons (r9 _ _ x8) .nil)))))))

    refine ⟨lw, rfl, ⟨_, SqL.of ew⟩, ?_⟩
    have gDw := rw_ _ _ eD
    have nDw : lw ≠ D := fun z => by rw [z, eD] at hw; cases hw
    have smw := sD.trans rw_
    refine for_list (K := K) (a := lw) (xs := [w1, w2, w3, w4, w5, w6, w7, w8].map V.ref) (fun j σ G' => ∃ (rs : List Addr) (es : List Cell) (v3 v4 v5 v6 v7 : Option V), σ = [some (.ref d), some (.ref q), some (.ref D), v3, v4, v5, v6, v7] ∧ Same H G' ∧ Tk GW G' ∧ G' lw = some (.lst ([w1, w2, w3, w4, w5, w6, w7, w8].map V.ref)) ∧ G' D = some (.lst (rs.map V.ref)) ∧ Paired (fun q e => At G' q e) rs es ∧ es.length ≤ j ∧ ∀ e ∈ es, ∃ b ∈ stepL, e = (c.1 + b.1, c.2 + b.2) ∧ GoesBy R c b)
      ⟨[], [], none, none, none, none, none, rfl, smw, fun _ _ e => e, ew, gDw, .nil, Nat.le_refl _, fun e he => by cases he⟩ (fun j σ G' _ ⟨_, _, _, _, _, _, _, _, _, _, e, _⟩ => SqL.of e) ?_ ?_
    · rintro j x σ G' hj ⟨rs, es, v3, v4, v5, v6, v7, rfl, smj, tuj, elj, gDj, prj, les, al⟩
      rw [List.getElem?_map] at hj
      obtain ⟨u, hu2, rfl⟩ := Option.map_eq_some_iff.mp hj
      obtain ⟨b, hb, ab⟩ := paired_get pw hu2
      have jl : j < 8 := (List.getElem?_eq_some_iff.mp hb).1
      have acj : At G' q c := smj _ _ ac
      have abj : At G' u b := tuj _ _ ab
      have bm := List.mem_of_getElem? hb
      have lrs : rs.length = es.length := Paired.length prj
      refine ⟨u, _, rfl, SqT.of abj, rfl, _, _, rfl, _, _, rfl, rfl, ?_⟩
      refine ⟨_, rfl, _, _, _, _, rfl, rfl, SqT.of acj, at0, _, rfl, _, _, rfl, rfl, _, rfl, _, _, _, _, rfl, rfl, SqT.of acj, at1, _, rfl, _, _, rfl, rfl, two_le, fun e he => ?_⟩
      have s5 := same_new (o := .tup [.int (c.1 + b.1), .int (c.2 + b.2)]) he
      have ae : At (upd G' e (.tup [.int (c.1 + b.1), .int (c.2 + b.2)])) e (c.1 + b.1, c.2 + b.2) := upd_same
      have sm5 := smj.trans s5
      have gD5 := s5 _ _ gDj
      have el5 := s5 _ _ elj
      have tu5 : Tk GW (upd G' e (.tup [.int (c.1 + b.1), .int (c.2 + b.2)])) := fun b xs h => s5 _ _ (tuj _ _ h)
      have pr5 := paired_imp (fun _ _ (h : At G' _ _) => s5 _ _ h) prj
      have ac5 := s5 _ _ acj
      generalize upd G' e (.tup [.int (c.1 + b.1), .int (c.2 + b.2)]) = G5 at ae sm5 gD5 el5 tu5 pr5 ac5
      have ed5 := sm5 _ _ ed
      have stay : ∀ {V1 : Hp} {v3 v4 v5 v6 v7 : Option V}, Same G5 V1 → ∃ (rs : List Addr) (es : List Cell) (y3 y4 y5 y6 y7 : Option V), [some (V.ref d), some (.ref q), some (.ref D), v3, v4, v5, v6, v7] = [some (V.ref d), some (.ref q), some (.ref D), y3, y4, y5, y6, y7] ∧ Same H V1 ∧ Tk GW V1 ∧ V1 lw = some (.lst ([w1, w2, w3, w4, w5, w6, w7, w8].map V.ref)) ∧ V1 D = some (.lst (rs.map V.ref)) ∧ Paired (fun q e => At V1 q e) rs es ∧ es.length ≤ j + 1 ∧ ∀ e ∈ es, ∃ b ∈ stepL, e = (c.1 + b.1, c.2 + b.2) ∧ GoesBy R c b :=
        fun s => ⟨rs, es, _, _, _, _, _, rfl, sm5.trans s, fun b xs h => s _ _ (tu5 _ _ h), s _ _ el5, s _ _ gD5, paired_imp (fun _ _ h => s _ _ h) pr5, Nat.le_succ_of_le les, al⟩
      have put : ∀ (V1 : Hp) {v3 v4 v6 v7 : Option V}, Same G5 V1 → GoesBy R c b → ∃ (rs' : List Addr) (es : List Cell) (y3 y4 y5 y6 y7 : Option V), [some (V.ref d), some (.ref q), some (.ref D), v3, v4, some (.ref e), v6, v7] = [some (V.ref d), some (.ref q), some (.ref D), y3, y4, y5, y6, y7] ∧ Same H (upd V1 D (.lst (rs.map V.ref ++ [V.ref e]))) ∧ Tk GW (upd V1 D (.lst (rs.map V.ref ++ [V.ref e]))) ∧ upd V1 D (.lst (rs.map V.ref ++ [V.ref e])) lw = some (.lst ([w1, w2, w3, w4, w5, w6, w7, w8].map V.ref)) ∧ upd V1 D (.lst (rs.map V.ref ++ [V.ref e])) D = some (.lst (rs'.map V.ref)) ∧ Paired (fun q e' => At (upd V1 D (.lst (rs.map V.ref ++ [V.ref e]))) q e') rs' es ∧ es.length ≤ j + 1 ∧ ∀ e ∈ es, ∃ b ∈ stepL, e = (c.1 + b.1, c.2 + b.2) ∧ GoesBy R c b :=
        fun V1 {v3 v4 v6 v7} s g => by
          have tu := upd_tu (o' := .lst (rs.map V.ref ++ [V.ref e])) (s _ _ gD5) (by intro xs z; cases z)
          refine ⟨rs ++ [e], es ++ [(c.1 + b.1, c.2 + b.2)], _, _, _, _, _, rfl, same_put (sm5.trans s) hD, fun b xs h => tu _ _ (s _ _ (tu5 _ _ h)), by rw [upd_ne nDw]; exact s _ _ el5, by rw [upd_same, List.map_append]; rfl, (paired_imp (fun _ _ h => tu _ _ (s _ _ h)) pr5).snoc (tu _ _ (s _ _ ae)), by rw [List.length_append]; exact Nat.succ_le_succ les, fun x hx => ?_⟩
          rcases List.mem_append.mp hx with z | z
          · exact al x z
          · rw [List.mem_singleton.mp z]
            exact ⟨b, bm, rfl, g⟩
      refine ⟨_, rfl, _, rfl, d, _, rfl, dget_lot ed5 ae, _, rfl, ?_⟩
      rw [lot_is]
      refine ite2 (fun h1 => stay same_refl) (fun h1 => ?_)
      have eR : (c.1 + b.1, c.2 + b.2) ∉ R := by simpa using h1
      refine ⟨_, rfl, rfl, _, rfl, ?_⟩
      refine ite2 (fun h2 => ?_) (fun h2 => ?_)
      · have b0 : b.1 = 0 ∨ b.2 = 0 := .inl (V.int.inj (of_decide_eq_true h2))
        refine ⟨_, rfl, _, rfl, two_le, fun y1 hy1 => ?_⟩
        have z1 := same_new (o := .tup [.int b.2, .int b.1]) hy1
        have a1 : At (upd G5 y1 (.tup [.int b.2, .int b.1])) y1 (b.2, b.1) := upd_same
        generalize upd G5 y1 (.tup [.int b.2, .int b.1]) = Y1 at z1 a1
        refine ⟨_, rfl, _, rfl, _, rfl, _, rfl, two_le, fun y2 hy2 => ?_⟩
        have z2 := same_new (o := .tup [.int (-b.2), .int (-b.1)]) hy2
        have a2 : At (upd Y1 y2 (.tup [.int (-b.2), .int (-b.1)])) y2 (-b.2, -b.1) := upd_same
        generalize upd Y1 y2 (.tup [.int (-b.2), .int (-b.1)]) = Y2 at z2 a2
        refine ⟨two_le, fun sl hsl => ?_⟩
        have z3 := same_new (o := .lst [.ref y1, .ref y2]) hsl
        have esl : upd Y2 sl (.lst [.ref y1, .ref y2]) sl = some (.lst ([y1, y2].map V.ref)) := upd_same
        have prs : Paired (fun q n => At (upd Y2 sl (.lst [.ref y1, .ref y2])) q n) [y1, y2] [((b.2, b.1) : Cell), (-b.2, -b.1)] := .cons (z3 _ _ (z2 _ _ a1)) (.cons (z3 _ _ a2) .nil)
        generalize upd Y2 sl (.lst [.ref y1, .ref y2]) = Y3 at z3 esl prs
        have z13 := (z1.trans z2).trans z3
        refine ⟨_, rfl, sl, rfl, ⟨_, SqL.of esl⟩, fun D5 hD5 => ?_⟩
        refine lc_cells (walk_list (K := K) (a := sl) (xs := [y1, y2].map V.ref)) hD5 (fun i => ([((b.2, b.1) : Cell), (-b.2, -b.1)].take i).filter fun n => sideB R c (c.1 + b.1, c.2 + b.2) n) rfl (by show 2 ≤ 1000000; decide) (fun i G _ s => SqL.of (s _ _ esl)) ?_ ?_
        · rintro i x X1 X1' K1 K0 hi s6 ⟨rfl, hx⟩ k1 k0
          rw [List.getElem?_map] at hx
          obtain ⟨v, hv, rfl⟩ := Option.map_eq_some_iff.mp hx
          obtain ⟨n, hn, an⟩ := paired_get prs hv
          have s16 := z13.trans s6
          refine ⟨rfl, _, rfl, _, rfl, _, rfl, _, rfl, d, q, e, v, R, c, (c.1 + b.1, c.2 + b.2), n, rfl, s16 _ _ ed5, s16 _ _ ac5, s16 _ _ ae, s6 _ _ an, fun X2 s7 => ⟨_, rfl, ?_⟩⟩
          exact ite2 (fun h => ⟨_, rfl, k1 v n _ s7 (s7 _ _ (s6 _ _ an)) (filt_snoc hn h)⟩) (fun h => k0 _ s7 (filt_skip hn h))
        rintro X1 rs6 s6 gD6 pr6
        refine ⟨Nat.zero_le _, fun e8 he8 => ?_⟩
        have s8 := same_new (o := .lst []) he8
        have c6 : CellsL X1 D5 ([((b.2, b.1) : Cell), (-b.2, -b.1)].filter fun n => sideB R c (c.1 + b.1, c.2 + b.2) n) := ⟨rs6, gD6, pr6⟩
        refine ⟨_, .list [], (c6.ek (.of s8)).dp, .lst (SqL.of upd_same) .nil, lay_cells.shaped (by decide), (lay_list (n := 0) (ds := []) (by simp)).shaped (by decide), _, rfl, ?_⟩
        rw [eqv_nil]
        have z68 := (z13.trans s6).trans s8
        generalize upd X1 e8 (.lst []) = X8 at z68
        refine ite2 (fun h4 => ?_) (fun h4 => stay z68)
        refine ⟨_, rfl, .inl ⟨rfl, _, SqL.of (z68 _ _ gD5)⟩, _, rfl, D, _, _, rfl, rfl, z68 _ _ gD5, by rw [List.length_map, sizeLine_eq]; omega, ?_⟩
        refine put _ z68 ⟨eR, .inl ⟨b0, ?_⟩⟩
        by_cases x1 : sideB R c (c.1 + b.1, c.2 + b.2) (b.2, b.1) = true
        · exact .inl x1
        · by_cases x2 : sideB R c (c.1 + b.1, c.2 + b.2) (-b.2, -b.1) = true
          · exact .inr x2
          · simp [List.filter_cons, x1, x2] at h4
      · refine ⟨_, rfl, rfl, _, rfl, ?_⟩
        refine ite2 (fun h3 => ?_) (fun h3 => ?_)
        · have b0 : b.1 = 0 ∨ b.2 = 0 := .inr (V.int.inj (of_decide_eq_true h3))
          refine ⟨_, rfl, _, rfl, two_le, fun y1 hy1 => ?_⟩
          have z1 := same_new (o := .tup [.int b.2, .int b.1]) hy1
          have a1 : At (upd G5 y1 (.tup [.int b.2, .int b.1])) y1 (b.2, b.1) := upd_same
          generalize upd G5 y1 (.tup [.int b.2, .int b.1]) = Y1 at z1 a1
          refine ⟨_, rfl, _, rfl, _, rfl, _, rfl, two_le, fun y2 hy2 => ?_⟩
          have z2 := same_new (o := .tup [.int (-b.2), .int (-b.1)]) hy2
          have a2 : At (upd Y1 y2 (.tup [.int (-b.2), .int (-b.1)])) y2 (-b.2, -b.1) := upd_same
          generalize upd Y1 y2 (.tup [.int (-b.2), .int (-b.1)]) = Y2 at z2 a2
          refine ⟨two_le, fun sl hsl => ?_⟩
          have z3 := same_new (o := .lst [.ref y1, .ref y2]) hsl
          have esl : upd Y2 sl (.lst [.ref y1, .ref y2]) sl = some (.lst ([y1, y2].map V.ref)) := upd_same
          have prs : Paired (fun q n => At (upd Y2 sl (.lst [.ref y1, .ref y2])) q n) [y1, y2] [((b.2, b.1) : Cell), (-b.2, -b.1)] := .cons (z3 _ _ (z2 _ _ a1)) (.cons (z3 _ _ a2) .nil)
          generalize upd Y2 sl (.lst [.ref y1, .ref y2]) = Y3 at z3 esl prs
          have z13 := (z1.trans z2).trans z3
          refine ⟨_, rfl, sl, rfl, ⟨_, SqL.of esl⟩, fun D5 hD5 => ?_⟩
          refine lc_cells (walk_list (K := K) (a := sl) (xs := [y1, y2].map V.ref)) hD5 (fun i => ([((b.2, b.1) : Cell), (-b.2, -b.1)].take i).filter fun n => sideB R c (c.1 + b.1, c.2 + b.2) n) rfl (by show 2 ≤ 1000000; decide) (fun i G _ s => SqL.of (s _ _ esl)) ?_ ?_
          · rintro i x X1 X1' K1 K0 hi s6 ⟨rfl, hx⟩ k1 k0
            rw [List.getElem?_map] at hx
            obtain ⟨v, hv, rfl⟩ := Option.map_eq_some_iff.mp hx
            obtain ⟨n, hn, an⟩ := paired_get prs hv
            have s16 := z13.trans s6
            refine ⟨rfl, _, rfl, _, rfl, _, rfl, _, rfl, d, q, e, v, R, c, (c.1 + b.1, c.2 + b.2), n, rfl, s16 _ _ ed5, s16 _ _ ac5, s16 _ _ ae, s6 _ _ an, fun X2 s7 => ⟨_, rfl, ?_⟩⟩
            exact ite2 (fun h => ⟨_, rfl, k1 v n _ s7 (s7 _ _ (s6 _ _ an)) (filt_snoc hn h)⟩) (fun h => k0 _ s7 (filt_skip hn h))
          rintro X1 rs6 s6 gD6 pr6
          refine ⟨Nat.zero_le _, fun e8 he8 => ?_⟩
          have s8 := same_new (o := .lst []) he8
          have c6 : CellsL X1 D5 ([((b.2, b.1) : Cell), (-b.2, -b.1)].filter fun n => sideB R c (c.1 + b.1, c.2 + b.2) n) := ⟨rs6, gD6, pr6⟩
          refine ⟨_, .list [], (c6.ek (.of s8)).dp, .lst (SqL.of upd_same) .nil, lay_cells.shaped (by decide), (lay_list (n := 0) (ds := []) (by simp)).shaped (by decide), _, rfl, ?_⟩
          rw [eqv_nil]
          have z68 := (z13.trans s6).trans s8
          generalize upd X1 e8 (.lst []) = X8 at z68
          refine ite2 (fun h4 => ?_) (fun h4 => stay z68)
          refine ⟨_, rfl, .inl ⟨rfl, _, SqL.of (z68 _ _ gD5)⟩, _, rfl, D, _, _, rfl, rfl, z68 _ _ gD5, by rw [List.length_map, sizeLine_eq]; omega, ?_⟩
          refine put _ z68 ⟨eR, .inl ⟨b0, ?_⟩⟩
          by_cases x1 : sideB R c (c.1 + b.1, c.2 + b.2) (b.2, b.1) = true
          · exact .inl x1
          · by_cases x2 : sideB R c (c.1 + b.1, c.2 + b.2) (-b.2, -b.1) = true
            · exact .inr x2
            · simp [List.filter_cons, x1, x2] at h4
        · -- a turn
          have nb : ¬ (b.1 = 0 ∨ b.2 = 0) := fun z => z.elim (fun z => h2 (decide_eq_true (congrArg V.int z))) fun z => h3 (decide_eq_true (congrArg V.int z))
          refine ⟨_, rfl, _, _, _, _, rfl, rfl, SqT.of ac5, at0, _, rfl, _, _, rfl, rfl, _, rfl, _, _, _, _, rfl, rfl, SqT.of ac5, at1, two_le, fun y1 hy1 => ?_⟩
          have z1 := same_new (o := .tup [.int (c.1 + b.1), .int c.2]) hy1
          have a1 : At (upd G5 y1 (.tup [.int (c.1 + b.1), .int c.2])) y1 (c.1 + b.1, c.2) := upd_same
          generalize upd G5 y1 (.tup [.int (c.1 + b.1), .int c.2]) = Y1 at z1 a1
          refine ⟨_, rfl, d, _, rfl, dget_lot (z1 _ _ ed5) a1, ?_⟩
          refine ⟨_, rfl, _, _, _, _, rfl, rfl, SqT.of (z1 _ _ ac5), at0, _, rfl, _, _, _, _, rfl, rfl, SqT.of (z1 _ _ ac5), at1, _, rfl, _, _, rfl, rfl, two_le, fun y2 hy2 => ?_⟩
          have z2 := same_new (o := .tup [.int c.1, .int (c.2 + b.2)]) hy2
          have a2 : At (upd Y1 y2 (.tup [.int c.1, .int (c.2 + b.2)])) y2 (c.1, c.2 + b.2) := upd_same
          generalize upd Y1 y2 (.tup [.int c.1, .int (c.2 + b.2)]) = Y2 at z2 a2
          have z12 := z1.trans z2
          refine ⟨_, rfl, d, _, rfl, dget_lot (z12 _ _ ed5) a2, rfl, _, rfl, ?_⟩
          rw [lot_is, lot_is]
          refine ite2 (fun h4 => ?_) (fun h4 => stay z12)
          refine ⟨_, rfl, .inl ⟨rfl, _, SqL.of (z12 _ _ gD5)⟩, _, rfl, D, _, _, rfl, rfl, z12 _ _ gD5, by rw [List.length_map, sizeLine_eq]; omega, ?_⟩
          refine put _ z12 ⟨eR, .inr ⟨nb, fun z => ?_⟩⟩
          rw [z] at h4
          simp at h4
    · rintro σ G' ⟨rs, es, v3, v4, v5, v6, v7, rfl, smj, tuj, elj, gDj, prj, les, al⟩
      exact ⟨_, rfl, k D G' es smj ⟨rs, gDj, prj⟩ les al⟩
end
end Sq

set_option Elab.async false
set_option linter.all false
set_option maxRecDepth 100000
set_option maxHeartbeats 8000000
/-! The law's strolls. -/
namespace Sq
open PySem PySem.Spec PyProof.Rows L2
abbrev stN : List Str := ["_law_pen_here", "_law_cells", "_law_free", "_law_cell", "_law_found", "_law_rest", "_law_other", "_law_lap", "_law_ends"]
def spStroll : Sp := fun vs H Q _ => ∃ (p c t : Addr) (n : Nat) (L : List Cell), vs = [.ref p, .ref t] ∧ PenC H p c n ∧ n < 900000 ∧ CellsT H t L ∧ L.Nodup ∧ Hangs L ∧ L.length ≤ 100 ∧
  ∀ l H' ms n', PenC H' p c n' → n' ≤ n + 6 → Kp [p] H H' → PairsL H' l ms → ms.length ≤ 4 → goB L ms = true → Q (.ref l) H'
theorem free_exW {L : List Cell} (nL : L.Nodup) (hL : Hangs L) (l : 1 < L.length) : ∃ x ∈ L, Hangs (without L x) := by
  cases L with
  | nil => cases l
  | cons r A =>
    obtain ⟨f, hf, _, hg, _⟩ := free_side _ (Nat.le_refl _) nL hL l r (List.mem_cons_self ..)
    exact ⟨f, hf, (hangs_perm fun x => by rw [mem_without, mem_but]).mpr hg⟩
/-- the state of a stroll: what was done leads to the rest and cur -/
structure StrI (H : Hp) (p c D rd : Addr) (L R : List Cell) (cur : Cell) (cq : Addr) (n : Nat) (qs : List Addr) (ms : List CellP) (G : Hp) : Prop where
  pen : PenC G p c n
  kp : Kp [p] H G
  er : G rd = some (.dT (lotK R))
  ac : At G cq cur
  ef : G D = some (.lst (qs.map V.ref))
  pr : Paired (fun q m => PairAt G q m) qs ms
  nR : cur ∉ R
  gb : goB L ms = true
  eq : EqC (goL L ms) (R ++ [cur])
theorem without_end {R : List Cell} {x : Cell} (h : x ∉ R) : without (R ++ [x]) x = R := by
  unfold without
  rw [List.filter_append]
  have e1 : R.filter (fun d => decide (d ≠ x)) = R := List.filter_eq_self.mpr fun a ha => by
    rw [decide_eq_true_iff]
    exact fun z => h (z ▸ ha)
  rw [e1]
  simp
section
variable {P : Program} {w : World} {K : PySem.W.Frag} {mg : Str → Option Value} {base : Heap} {Ts : List Addr}
theorem scStr : FnScope stN ["_law_pen_here", "_law_cells"] (defScope lT4stroll) := ⟨rfl, rfl, rfl, by decide +kernel, rfl, by decide +kernel, by decide +kernel⟩
theorem ok_stroll {f : Addr} {fd : FuncData} (F : FnP K "_law_t4stroll" lT4stroll f fd) (B : Bl mg) (gD : mg "dict" = none) (DR : Df P w K mg base CX0 1 "_law_draw" ["_law_pen_here", "_law_many"] spDrawC) (DP : Df P w K mg base CX0 2 "_law_pick" ["_law_pen_here", "_law_some"] (spPickC K)) (DF : Df P w K mg base CX0 3 "_law_t4free" ["_law_cells"] spT4free) (DG : Df P w K mg base CX0 2 "_law_t4goes" ["_law_rest", "_law_cell"] spT4goes) :
    FnOk P w K mg base CX0 4 f fd ["_law_pen_here", "_law_cells"] spStroll := by
  refine F.ok scStr (fun vs H Q E h => ?_) (fun cdv A outer s H vs Q E hr h => ?_)
  · obtain ⟨p, c, t, n, L, rfl, _⟩ := h
    rfl
  · obtain ⟨p, c, t, n, L, rfl, hp, hn, ct, nL, hL, lL, k⟩ := h
    have h64 := room64 hr
    refine ⟨_, PSs.nox (pss_cons (ps_set (i := 2) scStr.nd rfl (.inl rfl) (pe_df DF hr (by rfl) pass0 (pa_cons (pv 1) pa_nil)))
      (pss_cons (ps_if (pt_cmpR op_lt (pe_callB call_len_seq (by rfl) B.len PySem.boot_len (pa_cons (pv 1) pa_nil)) pe_int (nomark _))
      (pss_one (ps_ret (pe_lst pa_nil)))
      pss_nil)
      (pss_cons (ps_asg (pe_tup (pa_cons (pe_df DP hr (by rfl) pass0 (pa_cons (pv 0) (pa_cons (pv 2) pa_nil))) (pa_cons (pe_lst pa_nil) pa_nil))) (pg_tup (by rfl) (pgs_cons (pg_name (i := 3) scStr.nd rfl (.inr rfl)) (pgs_cons (pg_name (i := 4) scStr.nd rfl (.inl rfl)) pgs_nil))))
      (pss_cons (ps_set (i := 5) scStr.nd rfl (.inl rfl) (pe_callTy (call_dictT rfl h64) (by rfl) gD (by decide +kernel) (pa_cons (pe_lc (own := [("_law_other", 6)]) (g := gName 6) rfl scStr.nd (pi_tup (pv 1)) (blkOk_by (N := stN) (sc := defScope lT4stroll) (by decide +kernel)) (fun _ _ _ _ _ => pg_name (i := 6) scStr.nd rfl (Or.inl rfl)) (fun _ _ _ _ _ => (pts_one (pt_cmpR (op_neK (K := K) rfl h64) (pv 6) (pv 3) (nomark _)))) (fun _ _ _ _ _ => (pe_tup (pa_cons (pv 6) (pa_cons pe_bl pa_nil))))) pa_nil)))
      (pss_cons (ps_for PassesOwn.never rfl (pi_range1 (by rfl) B.range (pa_cons (pe_op op_add pe_int (pe_df DR hr (by rfl) pass0 (pa_cons (pv 0) (pa_cons pe_int pa_nil)))) pa_nil)) (pg_name (i := 7) scStr.nd rfl (.inl rfl))
      (pss_cons (ps_set (i := 8) scStr.nd rfl (.inl rfl) (pe_df DG hr (by rfl) pass0 (pa_cons (pv 5) (pa_cons (pv 3) pa_nil))))
        (pss_cons (ps_if (pt_cmpR (op_eqK (K := K) rfl h64) (pv 8) (pe_lst pa_nil) (nomark _))
        (pss_one ps_break)
        pss_nil)
        (pss_cons (ps_expr (pe_bm PySem.F.plainAttrs_list PySem.F.slot_list_append PySem.F.type_list_append mt_append (pv 4) (pa_cons (pe_tup (pa_cons (pv 3) (pa_cons (pe_df DP hr (by rfl) pass0 (pa_cons (pv 0) (pa_cons (pv 8) pa_nil))) pa_nil))) pa_nil)))
        (pss_one (ps_set (i := 3) scStr.nd rfl (.inr rfl) (pe_ix (ix_tupK (K := K) rfl) (pe_ix (ix_listK (K := K) rfl) (pv 4) (pe_un un_neg pe_int) (fun _ _ => rfl)) pe_int (fun _ _ => rfl))))))))
      (pss_one (ps_ret (pv 4)))))))), ?_⟩
    obtain ⟨tq, et, prt⟩ := id ct
    have ltq : tq.length = L.length := Paired.length prt
    refine ⟨_, rfl, t, L, rfl, ct, nL, by omega, fun fr G1 s1 cf => ?_⟩
    refine ⟨_, rfl, t, _, rfl, .inr (SqT.of (s1 _ _ et)), _, _, rfl, rfl, _, rfl, ?_⟩
    refine ite2 (fun h1 => ?_) (fun h1 => ?_)
    · refine ⟨Nat.zero_le _, fun l hl => ?_⟩
      have s2 := s1.trans (same_new (o := .lst []) hl)
      exact k l _ [] n (hp.same s2) (by omega) (Kp.of s2) ⟨[], upd_same, .nil⟩ (Nat.zero_le _) rfl
    have l2 : 1 < L.length := by
      have : ¬ ((tq.map V.ref).length : Int) < 2 := fun z => h1 (decide_eq_true z)
      rw [List.length_map, ltq] at this
      omega
    obtain ⟨x0, x0L, x0H⟩ := free_exW nL hL l2
    have wH : ∀ x ∈ L, wHangs (without L x) = true → hangsB (without L x) = true := fun x xL h => by
      have ne : without L x ≠ [] := fun z => by
        have all : ∀ y ∈ L, y = x := fun y hy => Classical.byContradiction fun n => by
          have := mem_without.mpr ⟨hy, n⟩
          rw [z] at this
          cases this
        have e := only_one nL (a := x) fun y => ⟨all y, fun h => h ▸ xL⟩
        rw [e] at l2
        simp at l2
      unfold wHangs at h
      rwa [decide_eq_false ne, Bool.false_or] at h
    obtain ⟨fq, ef, prf⟩ := cf
    have x0F : x0 ∈ L.filter fun c => wHangs (without L c) := List.mem_filter.mpr ⟨x0L, by
      show wHangs (without L x0) = true
      unfold wHangs
      rw [hangsB_iff.mpr x0H, Bool.or_true]⟩
    have lfq : fq.length = (L.filter fun c => wHangs (without L c)).length := Paired.length prf
    have lF1 : 1 ≤ (L.filter fun c => wHangs (without L c)).length := List.length_pos_iff.mpr fun z => by rw [z] at x0F; cases x0F
    have lF2 : (L.filter fun c => wHangs (without L c)).length ≤ 100 := Nat.le_trans (List.length_filter_le _ _) lL
    -- the square
    refine ⟨_, rfl, _, rfl, p, c, fr, n, fq.map V.ref, rfl, hp.same s1, by omega, .inl (SqL.of ef), by rw [List.length_map]; omega, by rw [List.length_map]; omega, fun i x G2 hx hp2 hb2 => ?_⟩
    rw [List.getElem?_map] at hx
    obtain ⟨cq, hcq, rfl⟩ := Option.map_eq_some_iff.mp hx
    obtain ⟨c0, hc0, ac0⟩ := paired_get prf hcq
    obtain ⟨c0L, c0W⟩ := List.mem_filter.mp (List.mem_of_getElem? hc0)
    have c0H := wH c0 c0L c0W
    have k2 := kp_pick hb2
    have kp2 : Kp [p] H G2 := (Kp.of s1).trans k2
    have ek2 := pen_ek (hp.same s1).at k2
    have ac2 : At G2 cq c0 := ek2.at ac0
    have et2 := (pen_ek hp.at kp2).tup et
    have prt2 := paired_imp (fun _ _ (h : At H _ _) => (pen_ek hp.at kp2).at h) prt
    refine ⟨Nat.zero_le _, fun D hD => ⟨two_le, fun tp htp => ?_⟩⟩
    have s3 := same_new (o := .lst []) hD
    have s4 := same_new (o := .tup [.ref cq, .ref D]) htp
    have eD := s4 _ _ (upd_same (H := G2) (a := D) (o := .lst []))
    have etp := upd_same (H := upd G2 D (.lst [])) (a := tp) (o := .tup [.ref cq, .ref D])
    have s34 := s3.trans s4
    have hDH : H D = none := by
      by_cases z : D = p
      · obtain ⟨zs, i0, dg, fo, e1, _⟩ := hp2.ex
        rw [z, e1] at hD
        cases hD
      · have h2 : G1 D = none := by rw [← hb2 D z]; exact hD
        exact s1.free h2
    have ncD : c ≠ D := fun z => by
      obtain ⟨zs, i0, dg, fo, e1, e2, _⟩ := hp2.ex
      rw [z, hD] at e2
      cases e2
    generalize upd (upd G2 D (.lst [])) tp (.tup [.ref cq, .ref D]) = G3 at eD etp s34
    refine ⟨tp, _, rfl, SqT.of etp, rfl, _, _, rfl, _, _, rfl, rfl, ?_⟩
    have hp3 := hp2.same s34
    have kp3 := kp2.trans (Kp.of s34)
    have ac3 := s34 _ _ ac2
    have et3 := s34 _ _ et2
    have prt3 := paired_imp (fun _ _ (h : At G2 _ _) => s34 _ _ h) prt2
    -- the rest
    refine ⟨_, rfl, t, rfl, ⟨_, SqT.of et3⟩, fun D5 hD5 => ?_⟩
    refine w_ofR (walk_tup (K := K) (a := t) (xs := tq.map V.ref)) (fun n G => Same G3 G ∧ ∃ rs : List Addr, G D5 = some (.lst (rs.map V.ref)) ∧ rs.length ≤ n ∧ Paired (fun r c => ∃ q, G r = some (.tup [.ref q, .bl true]) ∧ At G q c) rs (without (L.take n) c0)) ⟨same_new hD5, [], upd_same, Nat.le_refl _, .nil⟩ (fun n G _ p => SqT.of (p.1 _ _ et3)) ?_ ?_
    · rintro m x G G' hm ⟨sm, rs, gD5, lrs, pr⟩ ⟨rfl, hx⟩
      rw [List.length_map, ltq] at hm
      rw [List.getElem?_map] at hx
      obtain ⟨q, hq, rfl⟩ := Option.map_eq_some_iff.mp hx
      obtain ⟨e, he, ae⟩ := paired_get prt3 hq
      have ae' : At G' q e := sm _ _ ae
      have acc : At G' cq c0 := sm _ _ ac3
      have st : without (L.take (m + 1)) c0 = if e = c0 then without (L.take m) c0 else without (L.take m) c0 ++ [e] := by rw [take_snoc he, without_snoc]
      refine ⟨rfl, _, rfl, _, rfl, cD e, cD c0, ae'.dp, acc.dp, cD_shaped e, cD_shaped c0, _, rfl, ?_⟩
      rw [cD_eqv]
      refine ite2 (fun hc => ?_) (fun hc => ?_)
      · have ne : e ≠ c0 := by simpa using hc
        rw [if_neg ne] at st
        refine ⟨_, rfl, two_le, fun t5 ht5 => ?_⟩
        have u1 := same_new (o := .tup [.ref q, .bl true]) ht5
        have g1 := u1 _ _ gD5
        have tu := upd_tu (o' := .lst (rs.map V.ref ++ [V.ref t5])) g1 (by intro xs z; cases z)
        refine ⟨_, g1, by rw [List.length_map, sizeLine_eq]; omega, same_put (sm.trans u1) hD5, rs ++ [t5], by rw [upd_same, List.map_append]; rfl, by rw [List.length_append]; exact Nat.succ_le_succ lrs, ?_⟩
        rw [st]
        refine (paired_imp (fun r d h => ?_) pr).snoc ⟨q, tu _ _ upd_same, tu _ _ (u1 _ _ ae')⟩
        obtain ⟨z, e1, e2⟩ := h
        exact ⟨z, tu _ _ (u1 _ _ e1), tu _ _ (u1 _ _ e2)⟩
      · have ec : e = c0 := by simpa using hc
        rw [if_pos ec] at st
        refine ⟨sm, rs, gD5, by omega, ?_⟩
        rw [st]
        exact pr
    rintro G5 ⟨sm5, rs5, gD5, lrs5, pr5⟩
    rw [List.length_map, ltq, List.take_length] at pr5
    refine ⟨D5, rs5, lotK (without L c0), rfl, SqL.of gD5, dict_true (D := D5) pr5, lotK_keys _ (nL.filter _), fun rd hrd => ?_⟩
    have s6 := same_new (o := .dT (lotK (without L c0))) hrd
    have er6 := upd_same (H := G5) (a := rd) (o := .dT (lotK (without L c0)))
    have s56 := sm5.trans s6
    have hrdD : rd ≠ D := fun z => by
      have := sm5 _ _ eD
      rw [← z, hrd] at this
      cases this
    generalize upd G5 rd (.dT (lotK (without L c0))) = G6 at s6 er6 s56
    have hp6 := hp3.same s56
    have kp6 := kp3.trans (Kp.of s56)
    have c0n : c0 ∉ without L c0 := fun m => (mem_without.mp m).2 rfl
    have start : StrI H p c D rd L (without L c0) c0 cq (n + 1) [] [] G6 := ⟨hp6, kp6, er6, s56 _ _ ac3, s56 _ _ eD, .nil, c0n, rfl, fun x => by
      rw [List.mem_append, mem_without, List.mem_singleton]
      by_cases z : x = c0
      · simp [z, goL, c0L]
      · simp [z, goL]⟩
    -- the laps
    refine ⟨_, rfl, p, c, n + 1, 4, rfl, hp6, by decide, by decide, by omega, fun r G7 r0 r4 hp7 hb7 => ⟨_, _, rfl, rfl, _, rfl, by omega, by omega, ?_⟩⟩
    have k7 := kp_pick hb7
    have ek7 := pen_ek hp6.at k7
    have st7 : StrI H p c D rd L (without L c0) c0 cq (n + 2) [] [] G7 := ⟨hp7, kp6.trans k7, ek7.dT start.er, ek7.at start.ac, ek7.lst start.ef, .nil, c0n, rfl, start.eq⟩
    obtain ⟨m, hm⟩ : ∃ m : Nat, (1 + r).toNat = m := ⟨_, rfl⟩
    have m4 : m ≤ 4 := by omega
    have fin : ∀ {v2 v3 v5 v6 v7 v8 : Option V} {G : Hp} {cur : Cell} {cq : Addr} {n' : Nat} {qs : List Addr} {ms : List CellP}, StrI H p c D rd L (without L c0) cur cq n' qs ms G → n' ≤ n + 6 → ms.length ≤ 4 → Q (.ref D) G := fun {v2 v3 v5 v6 v7 v8 G cur cq n' qs ms} I hn' lm => k D G ms n' I.pen hn' I.kp ⟨qs, I.ef, I.pr⟩ lm I.gb
    refine for_range_fin (lo := 0) (n := (1 + r).toNat) (fun i σ G => ∃ (cur : Cell) (cq : Addr) (n' : Nat) (qs : List Addr) (ms : List CellP) (v7 v8 : Option V), σ = [some (.ref p), some (.ref t), some (.ref fr), some (.ref cq), some (.ref D), some (.ref rd), none, v7, v8] ∧ StrI H p c D rd L (without L c0) cur cq n' qs ms G ∧ n' ≤ n + 2 + i ∧ ms.length ≤ i)
      (fun σ G => ∃ (cur : Cell) (cq : Addr) (n' : Nat) (qs : List Addr) (ms : List CellP) (v7 v8 : Option V), σ = [some (.ref p), some (.ref t), some (.ref fr), some (.ref cq), some (.ref D), some (.ref rd), none, v7, v8] ∧ StrI H p c D rd L (without L c0) cur cq n' qs ms G ∧ n' ≤ n + 6 ∧ ms.length ≤ 4) ?_
      ⟨c0, cq, n + 2, [], [], none, none, rfl, st7, Nat.le_refl _, Nat.le_refl _⟩ ?_ ?_
    · rintro σ G ⟨cur, cq, n', qs, ms, v7, v8, rfl, I, hn', lm⟩
      exact ⟨_, rfl, k D G ms n' I.pen hn' I.kp ⟨qs, I.ef, I.pr⟩ lm I.gb⟩
    · rintro i σ G Bk hi ⟨cur, cq, n', qs, ms, v7, v8, rfl, I, hn', lm⟩ hB
      rw [hm] at hi
      refine ⟨_, rfl, _, rfl, rd, cq, without L c0, cur, rfl, I.er, I.ac, fun le G8 es s8 ce les al => ?_⟩
      refine ⟨_, rfl, Nat.zero_le _, fun e9 he9 => ?_⟩
      have s9 := same_new (o := .lst []) he9
      refine ⟨_, .list [], (ce.ek (.of s9)).dp, .lst (SqL.of upd_same) .nil, lay_cells.shaped (by decide), (lay_list (n := 0) (ds := []) (by simp)).shaped (by decide), _, rfl, ?_⟩
      rw [eqv_nil]
      have s89 := s8.trans s9
      have ce9 := ce.ek (.of s9)
      generalize upd G8 e9 (.lst []) = G9 at s89 ce9
      have hp9 := I.pen.same s89
      have I9 : StrI H p c D rd L (without L c0) cur cq n' qs ms G9 := ⟨hp9, I.kp.trans (Kp.of s89), s89 _ _ I.er, s89 _ _ I.ac, s89 _ _ I.ef, paired_imp (fun _ _ h => h.same s89) I.pr, I.nR, I.gb, I.eq⟩
      refine ite2 (fun h2 => ?_) (fun h2 => ?_)
      · exact hB _ _ ⟨cur, cq, n', qs, ms, _, _, rfl, I9, by omega, by omega⟩
      have neE : es ≠ [] := fun z => h2 (decide_eq_true z)
      obtain ⟨eq9, ee9, pe9⟩ := ce9
      have leq : eq9.length = es.length := Paired.length pe9
      have pos : 1 ≤ es.length := List.length_pos_iff.mpr neE
      refine ⟨_, rfl, .inl ⟨rfl, _, SqL.of I9.ef⟩, _, rfl, _, rfl, _, rfl, p, c, le, n', eq9.map V.ref, rfl, hp9, by omega, .inl (SqL.of ee9), by rw [List.length_map]; omega, by rw [List.length_map]; omega, fun i2 x2 G10 hx2 hp10 hb10 => ?_⟩
      rw [List.getElem?_map] at hx2
      obtain ⟨eq, heq, rfl⟩ := Option.map_eq_some_iff.mp hx2
      obtain ⟨e, he, ae⟩ := paired_get pe9 heq
      obtain ⟨b, bm, rfl, gby⟩ := al e (List.mem_of_getElem? he)
      have k10 := kp_pick hb10
      have ek10 := pen_ek hp9.at k10
      refine ⟨two_le, fun mp hmp => ?_⟩
      have s11 := same_new (o := .tup [.ref cq, .ref eq]) hmp
      have ef11 := s11 _ _ (ek10.lst I9.ef)
      have lqs : qs.length = ms.length := Paired.length I.pr
      refine ⟨D, _, _, rfl, rfl, ef11, by rw [List.length_map, sizeLine_eq]; omega, ?_⟩
      have tu := upd_tu (o' := .lst (qs.map V.ref ++ [V.ref mp])) ef11 (by intro xs z; cases z)
      have eLast : upd (upd G10 mp (.tup [.ref cq, .ref eq])) D (.lst (qs.map V.ref ++ [V.ref mp])) D = some (.lst (qs.map V.ref ++ [V.ref mp])) := upd_same
      have emp := tu _ _ (upd_same (H := G10) (a := mp) (o := .tup [.ref cq, .ref eq]))
      have acq : At (upd (upd G10 mp (.tup [.ref cq, .ref eq])) D (.lst (qs.map V.ref ++ [V.ref mp]))) cq cur := tu _ _ (s11 _ _ (ek10.at I9.ac))
      have aeq : At (upd (upd G10 mp (.tup [.ref cq, .ref eq])) D (.lst (qs.map V.ref ++ [V.ref mp]))) eq (cur.1 + b.1, cur.2 + b.2) := tu _ _ (s11 _ _ (ek10.at ae))
      have npD : p ≠ D := fun z => by
        obtain ⟨zs, i0, dg, fo, e1, _⟩ := hp10.ex
        have h5 := ek10.lst I9.ef
        rw [← z, e1] at h5
        cases h5
      have mvR : mayW (without L c0 ++ [cur]) cur (cur.1 + b.1, cur.2 + b.2) = true := goes_may (List.mem_append_right _ (List.mem_singleton.mpr rfl)) bm (by rw [without_end I.nR]; exact c0H) (by rw [without_end I.nR]; exact gby)
      have mv : mayW (goL L ms) cur (cur.1 + b.1, cur.2 + b.2) = true := by rw [may_cong I.eq]; exact mvR
      refine ⟨_, rfl, _, rfl, D, _, _, _, rfl, rfl, SqL.of eLast, atI_last _ _, _, _, _, _, rfl, rfl, SqT.of emp, at1, ?_⟩
      refine ⟨(cur.1 + b.1, cur.2 + b.2), eq, n' + 1, qs ++ [mp], ms ++ [(cur, (cur.1 + b.1, cur.2 + b.2))], _, _, rfl, ⟨(hp10.same s11).off npD ncD, ((I9.kp.trans k10).trans (Kp.of s11)).put hDH, ?_, aeq, by rw [eLast, List.map_append]; rfl, ?_, gby.1, ?_, ?_⟩, by omega, by rw [List.length_append]; exact Nat.succ_le_succ lm⟩
      · rw [upd_ne hrdD]
        exact s11 _ _ (ek10.dT I9.er)
      · exact (paired_imp (fun _ _ h => ((h.ek ek10).same s11).keep tu) I9.pr).snoc ⟨cq, eq, emp, acq, aeq⟩
      · rw [goB_app, I.gb]
        show (true && (mayW (goL L ms) cur (cur.1 + b.1, cur.2 + b.2) && true)) = true
        rw [mv]
        rfl
      · rw [goL_snoc]
        intro x
        rw [step_cong I.eq _ x, mem_step, List.mem_append, List.mem_singleton, List.mem_append, List.mem_singleton]
        have := I.nR
        constructor
        · rintro (⟨h | h, h3⟩ | h)
          · exact .inl h
          · exact absurd h h3
          · exact .inr h
        · rintro (h | h)
          · exact .inl ⟨.inl h, fun z => by
              have z : x = cur := z
              rw [z] at h
              exact this h⟩
          · exact .inr h
    · rintro σ G ⟨cur, cq, n', qs, ms, v7, v8, rfl, I, hn', lm⟩
      rw [hm] at hn' lm
      exact ⟨cur, cq, n', qs, ms, v7, v8, rfl, I, by omega, by omega⟩
end
end Sq

set_option Elab.async false
set_option linter.all false
set_option maxRecDepth 100000
set_option maxHeartbeats 8000000
/-! The law's way back. -/
namespace Sq
open PySem PySem.Spec PyProof.Rows L2
theorem few_revX {L : List Cell} {m : CellP} (h : mayW L m.1 m.2 = true) : mayW (stepM L m) m.2 m.1 = true ∧ EqC (stepM (stepM L m) (m.2, m.1)) L := by
  obtain ⟨a, b⟩ := may_in h
  refine ⟨?_, fun x => ?_⟩
  · have k := may_kind.mp h
    rw [may_kind, kind_back k fun x => mem_step]
    exact k
  · rw [mem_step, mem_step]
    dsimp only
    by_cases e : x = m.1
    · simp [e, a]
    · by_cases e2 : x = m.2
      · simp [e2, b]
        exact fun z => e (e2.trans z)
      · simp [e, e2]
def backM (ms : List CellP) : List CellP := ms.reverse.map fun m => (m.2, m.1)
theorem back_okX {L : List Cell} : ∀ (n : Nat) (ms : List CellP), ms.length = n → goB L ms = true → goB (goL L ms) (backM ms) = true
  | 0, ms, l, _ => by
    rw [List.length_eq_zero_iff.mp l]
    rfl
  | n + 1, ms, l, g => by
    obtain ⟨ns, m, rfl⟩ := snoc_inv (xs := ms) (fun z => by rw [z] at l; cases l)
    rw [List.length_append] at l
    have l : ns.length + 1 = n + 1 := l
    rw [goB_app, Bool.and_eq_true] at g
    have g2 : (mayW (goL L ns) m.1 m.2 && true) = true := g.2
    rw [Bool.and_true] at g2
    obtain ⟨r1, r2⟩ := few_revX g2
    have ih := back_okX n ns (Nat.succ.inj l) g.1
    have e : backM (ns ++ [m]) = (m.2, m.1) :: backM ns := by
      unfold backM
      rw [List.reverse_append]
      rfl
    rw [e, goL_snoc]
    show (mayW (stepM (goL L ns) m) m.2 m.1 && goB (stepM (stepM (goL L ns) m) (m.2, m.1)) (backM ns)) = true
    rw [r1, goB_cong _ r2, ih]
    rfl
/-- part of the way back -/
theorem back_part {L : List Cell} {ms : List CellP} (g : goB L ms = true) (k j : Nat) : goB (goL L ms) ((backM (ms.drop k)).take j) = true := by
  have h := back_okX _ (ms.drop k) rfl (goB_split g k).2
  rw [goL_split L ms k]
  exact (goB_split h j).1
def spT4back : Sp := fun vs H Q _ => ∃ (l : Addr) (ms : List CellP), vs = [.ref l] ∧ PairsL H l ms ∧ ms.length ≤ 1000 ∧ ∀ r H', Same H H' → PairsT H' r (backM ms) → Q (.ref r) H'
theorem rev_getR {α : Type} {xs : List α} {i : Nat} (h : i < xs.length) : xs[xs.length - 1 - i]? = xs.reverse[i]? := by
  rw [List.getElem?_reverse h]
section
variable {P : Program} {w : World} {K : PySem.W.Frag} {mg : Str → Option Value} {base : Heap} {Ts : List Addr}
theorem scT4bk : FnScope ["_law_plan", "_law_start", "_law_end"] ["_law_plan"] (defScope lT4back) := ⟨rfl, rfl, rfl, by decide +kernel, rfl, by decide +kernel, by decide +kernel⟩
theorem ok_t4back {f : Addr} {fd : FuncData} (F : FnP K "_law_t4back" lT4back f fd) (B : Bl mg) (gR : mg "reversed" = none) : FnOk P w K mg base CX0 1 f fd ["_law_plan"] spT4back := by
  refine F.ok scT4bk (fun vs H Q E h => ?_) (fun cdv A outer s H vs Q E hr h => ?_)
  · obtain ⟨l, ms, rfl, _⟩ := h
    rfl
  · obtain ⟨l, ms, rfl, ⟨qs, el, pr⟩, lms, k⟩ := h
    refine ⟨_, PSs.nox (pss_one (ps_ret (pe_tupleOf (by rfl) B.tuple (pe_lc (own := [("_law_start", 1), ("_law_end", 2)]) (g := gTup K 2 (gCons (gName 1) (gCons (gName 2) gNil))) (tt := tYes) rfl scT4bk.nd (pi_reversed (by rfl) gR (pa_cons (pe_callTy call_list_of (by rfl) B.list PyProof.Rows.boot_list (pa_cons (pv 0) pa_nil)) pa_nil)) (blkOk_by (N := ["_law_plan", "_law_start", "_law_end"]) (sc := defScope lT4back) (by decide +kernel)) (fun _ _ _ _ _ => (pg_tup (by rfl) (pgs_cons (pg_name (i := 1) scT4bk.nd rfl (.inl rfl)) (pgs_cons (pg_name (i := 2) scT4bk.nd rfl (.inl rfl)) pgs_nil)))) (fun _ _ _ _ _ => pts_nil) (fun _ _ _ _ _ => (pe_tup (pa_cons (pv 2) (pa_cons (pv 1) pa_nil)))))))), ?_⟩
    have lq : qs.length = ms.length := Paired.length pr
    refine ⟨_, rfl, l, _, rfl, .inl (SqL.of el), fun l2 hl2 => ?_⟩
    have s1 := same_new (o := .lst (qs.map V.ref)) hl2
    have e2 : upd H l2 (.lst (qs.map V.ref)) l2 = some (.lst (qs.map V.ref)) := upd_same
    have pr1 := paired_imp (fun _ _ (h : PairAt H _ _) => h.same s1) pr
    generalize upd H l2 (.lst (qs.map V.ref)) = H1 at s1 e2 pr1 ⊢
    refine ⟨l2, _, rfl, SqL.of e2, fun D hD => ?_⟩
    refine lc_pairs (walk_rev (K := K) (a := l2) (xs := qs.map V.ref)) hD (fun j => (ms.reverse.take j).map fun m => (m.2, m.1)) rfl (by rw [List.length_map]; omega) (fun j G _ s => SqL.of (s _ _ e2)) ?_ ?_
    · rintro j x G2 G' K1 K0 hj sm ⟨rfl, hx⟩ k1 k0
      have hj2 : j < (qs.map V.ref).length := hj
      rw [rev_getR hj2, ← List.map_reverse, List.getElem?_map] at hx
      obtain ⟨q, hq, rfl⟩ := Option.map_eq_some_iff.mp hx
      rw [List.length_map] at hj2
      rw [← rev_getR hj2] at hq
      obtain ⟨m, hm, q1, q2, e0, a1, a2⟩ := paired_get pr1 hq
      have hm2 : ms.reverse[j]? = some m := by
        rw [← rev_getR (by omega), ← lq]
        exact hm
      refine ⟨q, _, rfl, SqT.of (sm _ _ e0), rfl, _, _, rfl, _, _, rfl, rfl, rfl, yesT ?_⟩
      refine ⟨_, rfl, _, rfl, two_le, fun t ht => ?_⟩
      have s3 := same_new (o := .tup [.ref q2, .ref q1]) ht
      exact k1 t (m.2, m.1) _ s3 ⟨q2, q1, upd_same, s3 _ _ (sm _ _ a2), s3 _ _ (sm _ _ a1)⟩ (by rw [take_snoc hm2, List.map_append]; rfl)
    rintro G rs sm gD pr2
    have er : ms.reverse.take (qs.map V.ref).length = ms.reverse := by rw [List.length_map, lq, ← List.length_reverse, List.take_length]
    rw [er] at pr2
    refine .inl ⟨D, _, rfl, SqL.of gD, fun tp htp => ?_⟩
    have s4 := same_new (o := .tup (rs.map V.ref)) htp
    exact k tp _ ((s1.trans sm).trans s4) ⟨rs, upd_same, paired_imp (fun _ _ h => h.same s4) pr2⟩
end
end Sq

set_option Elab.async false
set_option linter.all false
set_option maxRecDepth 100000
set_option maxHeartbeats 8000000
/-! The law's plans. -/
namespace Sq
open PySem PySem.Spec PyProof.Rows L2
abbrev tpN : List Str := ["_law_pen_here", "_law_cells", "_law_laps", "_law_plan", "_law_here", "_law_lap", "_law_way", "_law_some", "_law_moves", "_law_start", "_law_end"]
def lapP : List Stmt := forBodyW ((defBody lT4plan).getD 1 (.Pass ⟨0, 0, 0, 0⟩))
theorem cut_neg (xs : List V) {d : Int} (h0 : 0 ≤ d) (h1 : d < xs.length) : cutV xs (some (-1 - d)) none = xs.drop (xs.length - 1 - d.toNat) := by
  unfold cutV
  have e : HT.sIx xs.length 0 (some (-1 - d)) = xs.length - 1 - d.toNat := by
    show (if (-1 - d : Int) < 0 then ((-1 - d : Int) + (xs.length : Int)).toNat else min (-1 - d : Int).toNat xs.length) = _
    rw [if_pos (by omega)]
    omega
  rw [HT.sIx_none, e]
  exact List.take_of_length_le (by rw [List.length_drop]; exact Nat.le_refl _)
/-- where a plan has led -/
structure Here (L : List Cell) (ms : List CellP) (cs : List Cell) : Prop where
  n : cs.Nodup
  a : Asc cs
  h : Hangs cs
  l : cs.length ≤ 100
  e : EqC cs (goL L ms)
  g : goB L ms = true
theorem Here.step {L : List Cell} {ms : List CellP} {cs ds : List Cell} {m : CellP} (y : Here L ms cs) (mv : mayW cs m.1 m.2 = true) (pm : ds.Perm (without cs m.1 ++ [m.2])) (asc : Asc ds) : Here L (ms ++ [m]) ds := by
  obtain ⟨hS, nS, lS⟩ := may_step y.n mv
  have eD : EqC ds (stepM cs m) := fun x => pm.mem_iff
  refine ⟨pm.nodup_iff.mpr nS, asc, (hangs_perm fun x => pm.mem_iff).mpr hS, by rw [pm.length_eq]; exact lS ▸ y.l, ?_, ?_⟩
  · rw [goL_snoc]
    exact eqC_trans eD (step_cong y.e m)
  · rw [goB_app, y.g]
    show (true && (mayW (goL L ms) m.1 m.2 && true)) = true
    rw [← may_cong y.e, mv]
    rfl
section
variable {P : Program} {w : World} {K : PySem.W.Frag} {mg : Str → Option Value} {base : Heap} {Ts : List Addr}
theorem scTP : FnScope tpN ["_law_pen_here", "_law_cells", "_law_laps"] (defScope lT4plan) := ⟨rfl, rfl, rfl, by decide +kernel, rfl, by decide +kernel, by decide +kernel⟩
theorem plan_tail {f : Addr} {cdv : Value} {A0 : Around} {outer : List Env} {s : Shared} {H0 : Hp} {E : XK} (hr : Room 4 (cxOf CX0 P w K mg base tpN "_law_t4plan" (defScope lT4plan) f cdv A0 outer s H0 E).nox.A) (DD : Df P w K mg base CX0 1 "_law_w_moved" ["_law_cells", "_law_start", "_law_end"] spLDone) :
    ∃ t', PSs (cxOf CX0 P w K mg base tpN "_law_t4plan" (defScope lT4plan) f cdv A0 outer s H0 E).nox (lapP.drop 2) t' ∧ ∀ (D : Ends) (U : Hp) (l1 r sl : Addr) (ms ss : List CellP) (L cs : List Cell) (v0 v1 v2 v5 v6 v8 v9 v10 : Option V), PairsL U l1 ms → PairsL U sl ss → CellsT U r cs → Here L ms cs → goB cs ss = true → ms.length + ss.length ≤ 1000 →
      (∀ U' l1' r' cs' v9 v10, Same U U' → PairsL U' l1' (ms ++ ss) → CellsT U' r' cs' → Here L (ms ++ ss) cs' → D.nx [v0, v1, v2, some (.ref l1'), some (.ref r'), v5, v6, some (.ref sl), v8, v9, v10] U') → t' D [v0, v1, v2, some (.ref l1), some (.ref r), v5, v6, some (.ref sl), v8, v9, v10] U := by
  refine ⟨_, (pss_cons (ps_for PassesOwn.never rfl (pi_list (pv 7)) (pg_tup (by rfl) (pgs_cons (pg_name (i := 9) scTP.nd rfl (.inl rfl)) (pgs_cons (pg_name (i := 10) scTP.nd rfl (.inl rfl)) pgs_nil)))
        (pss_one (ps_set (i := 4) scTP.nd rfl (.inl rfl) (pe_df DD hr (by rfl) pass0 (pa_cons (pv 4) (pa_cons (pv 9) (pa_cons (pv 10) pa_nil)))))))
        (pss_one (ps_set (i := 3) scTP.nd rfl (.inl rfl) (pe_op op_cat (pv 3) (pv 7))))), ?_⟩
  intro D U l1 r sl ms ss L cs v0 v1 v2 v5 v6 v8 v9 v10 ⟨qs1, e1, p1⟩ ⟨qs2, e2, p2⟩ cr y gs len k
  have lq1 : qs1.length = ms.length := Paired.length p1
  have lq2 : qs2.length = ss.length := Paired.length p2
  refine ⟨_, rfl, sl, rfl, ⟨_, SqL.of e2⟩, ?_⟩
  refine for_list (K := K) (a := sl) (xs := qs2.map V.ref) (fun i σ G => ∃ (r : Addr) (ds : List Cell) (v9 v10 : Option V), σ = [v0, v1, v2, some (.ref l1), some (.ref r), v5, v6, some (.ref sl), v8, v9, v10] ∧ Same U G ∧ CellsT G r ds ∧ Here L (ms ++ ss.take i) ds ∧ EqC ds (goL cs (ss.take i)))
    ⟨r, cs, v9, v10, rfl, same_refl, cr, by rw [List.take_zero, List.append_nil]; exact y, fun x => Iff.rfl⟩ (fun i σ G _ ⟨_, _, _, _, _, sm, _⟩ => SqL.of (sm _ _ e2)) ?_ ?_
  · rintro i x σ G hi ⟨r, ds, v9, v10, rfl, sm, cd, yd, ed⟩
    rw [List.getElem?_map] at hi
    obtain ⟨q, hq, rfl⟩ := Option.map_eq_some_iff.mp hi
    obtain ⟨⟨a, b⟩, hm, q1, q2, e0, a1, a2⟩ := paired_get p2 hq
    have st : ss.take (i + 1) = ss.take i ++ [(a, b)] := take_snoc hm
    have mv : mayW ds a b = true := by
      have g := (goB_split gs (i + 1)).1
      rw [st, goB_app, Bool.and_eq_true] at g
      have g2 : (mayW (goL cs (ss.take i)) a b && true) = true := g.2
      rw [Bool.and_true] at g2
      rw [may_cong ed]
      exact g2
    refine ⟨q, _, rfl, SqT.of (sm _ _ e0), rfl, _, _, rfl, _, _, rfl, rfl, ?_⟩
    refine ⟨_, rfl, _, rfl, _, rfl, r, q1, q2, ds, a, b, rfl, cd, by have := yd.l; omega, sm _ _ a1, sm _ _ a2, fun r3 G3 es s3 ce pm asc => ?_⟩
    refine ⟨r3, es, _, _, rfl, sm.trans s3, ce, ?_, ?_⟩
    · rw [st, ← List.append_assoc]
      exact yd.step (m := (a, b)) mv pm asc
    · rw [st, goL_snoc]
      exact eqC_trans (fun x => pm.mem_iff) (step_cong ed (a, b))
  · rintro σ G ⟨r, ds, v9, v10, rfl, sm, cd, yd, ed⟩
    rw [List.length_map, lq2, List.take_length] at yd
    refine ⟨_, rfl, _, rfl, l1, sl, _, _, rfl, rfl, sm _ _ e1, sm _ _ e2, by rw [List.length_map, List.length_map, sizeLine_eq]; omega, fun nl hnl => ?_⟩
    have s4 := same_new (o := .lst (qs1.map V.ref ++ qs2.map V.ref)) hnl
    have sm4 := sm.trans s4
    exact k _ nl r ds _ _ sm4 ⟨qs1 ++ qs2, by rw [upd_same, List.map_append], paired_app (paired_imp (fun _ _ h => h.same sm4) p1) (paired_imp (fun _ _ h => h.same sm4) p2)⟩ (cd.ek (.of s4)) yd
end
end Sq

set_option Elab.async false
set_option linter.all false
set_option maxRecDepth 100000
set_option maxHeartbeats 8000000
/-! The law's bodies, exactly. -/
namespace Sq
open PySem PySem.Spec PyProof.Rows L2
def spT4bodX : Sp := fun vs H Q _ => ∃ (t pl : Addr) (L : List Cell) (ms : List CellP), vs = [.ref t, .ref pl] ∧ CellsT H t L ∧ L.Nodup ∧ Asc L ∧ Hangs L ∧ L.length ≤ 1000 ∧ PairsT H pl ms ∧ ms.length ≤ 1000 ∧ goB L ms = true ∧
  ∀ l H' ts Bs, Same H H' → H l = none → H' l = some (.lst (ts.map V.ref)) → Paired (fun t B => CellsT H' t B) ts Bs → BodsIs L ms Bs → Q (.ref l) H'
abbrev tbNX : List Str := ["_law_cells", "_law_plan", "_law_found", "_law_start", "_law_end"]
theorem bods_last {L : List Cell} {ms : List CellP} {Bs : List (List Cell)} (b : BodsIs L ms Bs) : ∃ Cs B, Bs = Cs ++ [B] ∧ B.Nodup ∧ Asc B ∧ EqC B (goL L ms) := by
  obtain ⟨Cs, B, rfl⟩ := snoc_inv (xs := Bs) (fun z => by have := b.1; rw [z] at this; cases this)
  have l := b.1
  rw [List.length_append] at l
  have l : Cs.length + 1 = ms.length + 1 := l
  obtain ⟨n, a, e⟩ := b.2 Cs.length B (by simp)
  rw [List.take_of_length_le (by omega)] at e
  exact ⟨Cs, B, rfl, n, a, e⟩
section
variable {P : Program} {w : World} {K : PySem.W.Frag} {mg : Str → Option Value} {base : Heap} {Ts : List Addr}
theorem scT4bX : FnScope tbNX ["_law_cells", "_law_plan"] (defScope lT4bodies) := ⟨rfl, rfl, rfl, by decide +kernel, rfl, by decide +kernel, by decide +kernel⟩
theorem ok_t4bodX {f : Addr} {fd : FuncData} (F : FnP K "_law_t4bodies" lT4bodies f fd) (B : Bl mg) (DD : Df P w K mg base CX0 1 "_law_w_moved" ["_law_cells", "_law_start", "_law_end"] spLDone) (DM : Df P w K mg base CX0 3 "_law_w_may" ["_law_cells", "_law_start", "_law_end"] spWMay) :
    FnOk P w K mg base CX0 4 f fd ["_law_cells", "_law_plan"] spT4bodX := by
  refine F.ok scT4bX (fun vs H Q E h => ?_) (fun cdv A outer s H vs Q E hr h => ?_)
  · obtain ⟨t, pl, L, ms, rfl, _⟩ := h
    rfl
  · obtain ⟨t, pl, L, ms, rfl, ct, nL, aL, hL, lL, ⟨qs, epl, prm⟩, lms, gb, k⟩ := h
    refine ⟨_, PSs.nox (pss_cons (ps_set (i := 2) scT4bX.nd rfl (.inl rfl) (pe_lst (pa_cons (pe_tupleOf (by rfl) B.tuple (pv 0)) pa_nil)))
      (pss_cons (ps_for PassesOwn.never rfl (pi_tup (pv 1)) (pg_tup (by rfl) (pgs_cons (pg_name (i := 3) scT4bX.nd rfl (.inl rfl)) (pgs_cons (pg_name (i := 4) scT4bX.nd rfl (.inl rfl)) pgs_nil)))
      (pss_cons (ps_if (pt_not (pt_val (pe_df DM hr (by rfl) pass0 (pa_cons (pe_ix (ix_listK (K := K) rfl) (pv 2) (pe_un un_neg pe_int) (fun _ _ => rfl)) (pa_cons (pv 3) (pa_cons (pv 4) pa_nil))))))
        (pss_one (ps_ret pe_non))
        pss_nil)
        (pss_one (ps_expr (pe_bm PySem.F.plainAttrs_list PySem.F.slot_list_append PySem.F.type_list_append mt_append (pv 2) (pa_cons (pe_df DD hr (by rfl) pass0 (pa_cons (pe_ix (ix_listK (K := K) rfl) (pv 2) (pe_un un_neg pe_int) (fun _ _ => rfl)) (pa_cons (pv 3) (pa_cons (pv 4) pa_nil)))) pa_nil))))))
      (pss_one (ps_ret (pv 2))))), ?_⟩
    have lq : qs.length = ms.length := Paired.length prm
    obtain ⟨tq, et, prt⟩ := id ct
    refine ⟨_, rfl, .inr ⟨t, _, rfl, SqT.of et, one_le, fun fl hfl => ?_⟩⟩
    have s0 := same_new (o := .lst [.ref t]) hfl
    have e0 : upd H fl (.lst [.ref t]) fl = some (.lst ([t].map V.ref)) := upd_same
    generalize upd H fl (.lst [.ref t]) = H1 at s0 e0
    refine ⟨_, rfl, pl, rfl, ⟨_, SqT.of (s0 _ _ epl)⟩, ?_⟩
    refine for_tup (K := K) (a := pl) (xs := qs.map V.ref) (fun i σ G => ∃ (v3 v4 : Option V) (ts : List Addr) (Bs : List (List Cell)), σ = [some (.ref t), some (.ref pl), some (.ref fl), v3, v4] ∧ Same H G ∧ G fl = some (.lst (ts.map V.ref)) ∧ ts.length = i + 1 ∧ Paired (fun t B => CellsT G t B) ts Bs ∧ BodsIs L (ms.take i) Bs)
      ⟨none, none, [t], [L], rfl, s0, e0, rfl, .cons (ct.ek (.of s0)) .nil, ⟨rfl, fun j X e => by
        cases j with
        | zero => obtain rfl := Option.some.inj e; exact ⟨nL, aL, fun x => Iff.rfl⟩
        | succ j => cases e⟩⟩ (fun i σ G _ ⟨_, _, _, _, _, sm, _⟩ => SqT.of (sm _ _ epl)) ?_ ?_
    · rintro i x σ G hi ⟨v3, v4, ts, Bs, rfl, sm, ef, lts, prB, ok⟩
      rw [List.getElem?_map] at hi
      obtain ⟨q, hq, rfl⟩ := Option.map_eq_some_iff.mp hi
      obtain ⟨⟨a, b⟩, hm, q1, q2, e0, e1, e2⟩ := paired_get prm hq
      have im : i < ms.length := (List.getElem?_eq_some_iff.mp hm).1
      have e1 : At G q1 a := sm _ _ e1
      have e2 : At G q2 b := sm _ _ e2
      have st : ms.take (i + 1) = ms.take i ++ [(a, b)] := take_snoc hm
      have gi : goB L (ms.take i) = true ∧ mayW (goL L (ms.take i)) a b = true := by
        have g := (goB_split gb (i + 1)).1
        rw [st, goB_app, Bool.and_eq_true] at g
        have g2 : (mayW (goL L (ms.take i)) a b && true) = true := g.2
        rw [Bool.and_true] at g2
        exact ⟨g.1, g2⟩
      obtain ⟨Cs, cs, rfl, nC, aC, eC⟩ := bods_last ok
      have okB := bods_ok nL hL gi.1 ok cs (by simp)
      have nts : ts ≠ [] := fun z => by rw [z] at lts; cases lts
      obtain ⟨ts', r, rfl⟩ := snoc_inv nts
      obtain ⟨_, cc⟩ := paired_unsnoc prB
      have cc : CellsT G r cs := cc
      have ef' : G fl = some (.lst (ts'.map V.ref ++ [V.ref r])) := by rw [ef, List.map_append]; rfl
      have mv : mayW cs a b = true := by rw [may_cong eC]; exact gi.2
      refine ⟨q, _, rfl, SqT.of (sm _ _ e0), rfl, _, _, rfl, _, _, rfl, rfl, ?_⟩
      refine ⟨_, rfl, _, rfl, fl, _, _, _, rfl, rfl, SqL.of ef', atI_last _ _, _, rfl, _, rfl, r, q1, q2, cs, a, b, rfl, cc, nC, by omega, e1, e2, fun G2 s2 => ?_⟩
      rw [mv]
      refine ⟨_, rfl, iteF ?_⟩
      have ef2 := s2 _ _ ef'
      refine ⟨_, rfl, .inl ⟨rfl, _, SqL.of ef2⟩, _, rfl, _, rfl, fl, _, _, _, rfl, rfl, SqL.of ef2, atI_last _ _, _, rfl, _, rfl, r, q1, q2, cs, a, b, rfl, cc.ek (.of s2), by omega, s2 _ _ e1, s2 _ _ e2, fun r3 G3 ds s3 cd pm asc => ?_⟩
      have ef3 := s3 _ _ ef2
      have sm3 := (sm.trans s2).trans s3
      obtain ⟨_, nS, lS⟩ := may_step (m := (a, b)) nC mv
      have lts2 : ts'.length = i := by rw [List.length_append] at lts; exact Nat.succ.inj lts
      refine ⟨fl, _, _, rfl, rfl, ef3, by rw [List.length_append, List.length_map, sizeLine_eq]; show ts'.length + 1 < _; omega, ?_⟩
      have tu : Tk G3 (upd G3 fl (.lst ((ts'.map V.ref ++ [V.ref r]) ++ [V.ref r3]))) := upd_tu ef3 (by intro xs z; cases z)
      refine ⟨_, _, (ts' ++ [r]) ++ [r3], (Cs ++ [cs]) ++ [ds], rfl, same_put sm3 hfl, by rw [upd_same, List.map_append, List.map_append]; rfl, by rw [List.length_append, lts]; rfl, (paired_imp (fun _ _ h => cellsT_tu (CellsT.ek h (.of (s2.trans s3))) tu) prB).snoc (cellsT_tu cd tu), ?_⟩
      rw [st]
      refine ok.snoc (pm.nodup_iff.mpr nS) asc fun x => ?_
      rw [goL_snoc, ← step_cong eC (a, b) x]
      exact pm.mem_iff
    · rintro σ G ⟨v3, v4, ts, Bs, rfl, sm, ef, lts, prB, ok⟩
      rw [List.length_map, lq, List.take_length] at ok
      exact ⟨_, rfl, k fl G ts Bs sm hfl ef prB ok⟩
end
end Sq

set_option Elab.async false
set_option linter.all false
set_option maxRecDepth 100000
set_option maxHeartbeats 8000000
/-! What the law knows already. -/
namespace Sq
open PySem PySem.Spec PyProof.Rows L2
/-- the key of two bodies -/
def keyN (L G : List Cell) : NK := nkD (.tuple [.tuple (L.map cD), .tuple (G.map cD)])
theorem nkAll_cells : ∀ L : List Cell, keyAll (L.map cD) = true ∧ NestedKey.depthAll (nkAll (L.map cD)) ≤ 1
  | [] => ⟨rfl, Nat.zero_le _⟩
  | c :: L => by
    obtain ⟨h1, h2⟩ := nkAll_cells L
    refine ⟨?_, ?_⟩
    · show (keyD (cD c) && keyAll (L.map cD)) = true
      rw [h1]
      rfl
    · show max (NestedKey.depth (nkD (cD c))) (NestedKey.depthAll (nkAll (L.map cD))) ≤ 1
      exact Nat.max_le.mpr ⟨by show NestedKey.depthAll [.num c.1, .num c.2] + 1 ≤ 1; exact Nat.le_refl 1, h2⟩
theorem keyN_depth (L G : List Cell) : (keyN L G).depth ≤ 8 := by
  show max (NestedKey.depthAll (nkAll (L.map cD)) + 1) (max (NestedKey.depthAll (nkAll (G.map cD)) + 1) 0) + 1 ≤ 8
  have h1 := (nkAll_cells L).2
  have h2 := (nkAll_cells G).2
  omega
theorem PairsT.tk {H G : Hp} {t : Addr} {ms : List CellP} (h : PairsT H t ms) (k : Tk H G) : PairsT G t ms := by
  obtain ⟨ps, e, pr⟩ := h
  exact ⟨ps, k _ _ e, paired_imp (fun _ _ z => z.keep k) pr⟩
theorem OptAt.tk {H G : Hp} {v : V} {o : Option (List CellP)} (h : OptAt H v o) (k : Tk H G) : OptAt G v o := by
  cases o with
  | none => exact h
  | some ms =>
    obtain ⟨r, e, q⟩ := h
    exact ⟨r, e, q.tk k⟩
/-- the tuple b is the key of two bodies -/
def PairK (H : Hp) (b : Addr) (L G : List Cell) : Prop := ∃ t u : Addr, H b = some (.tup [.ref t, .ref u]) ∧ CellsT H t L ∧ CellsT H u G
theorem PairK.tk {H H' : Hp} {b : Addr} {L G : List Cell} (h : PairK H b L G) (k : Tk H H') : PairK H' b L G := by
  obtain ⟨t, u, e, c, d⟩ := h
  exact ⟨t, u, k _ _ e, cellsT_tu c k, cellsT_tu d k⟩
theorem PairK.nat {K : PySem.W.Frag} {H : Hp} {b : Addr} {L G : List Cell} (h : PairK H b L G) : NAt K H b (keyN L G) := by
  obtain ⟨t, u, e, c, d⟩ := h
  refine ⟨⟨_, .tup (xs := [.ref t, .ref u]) (SqT.of e) (.cons c.dp (.cons d.dp .nil)), ?_, rfl⟩, keyN_depth L G⟩
  show (keyAll (L.map cD) && (keyAll (G.map cD) && true)) = true
  rw [(nkAll_cells L).1, (nkAll_cells G).1]
  rfl
/-- what a memo knows is right -/
def MemoOk (P : Program) (w : World) (H : Hp) (a : Addr) (n : Nat) : Prop := ∃ E : List NEnt, DN P w H a E ∧ E.length ≤ n ∧ ∀ l ∈ E, ∃ L G o, PairK H l.1 L G ∧ l.2.1 = keyN L G ∧ OptAt H l.2.2 o ∧ FewIs L G o
theorem memo_mut {P : Program} {w : World} {H : Hp} {a : Addr} {E : List NEnt} (h : DN P w H a E) : ∃ u, H a = some u ∧ ∀ xs, u ≠ .tup xs := by
  rcases h with e | ⟨_, e⟩
  · exact ⟨_, e, by intro xs z; cases z⟩
  · exact ⟨_, e, by intro xs z; cases z⟩
theorem MemoOk.same {P : Program} {w : World} {H G : Hp} {a : Addr} {n : Nat} (h : MemoOk P w H a n) (k : Same H G) : MemoOk P w G a n := by
  obtain ⟨E, d, l, q⟩ := h
  refine ⟨E, ?_, l, fun x hx => ?_⟩
  · rcases d with e | ⟨z, e⟩
    · exact .inl (k _ _ e)
    · exact .inr ⟨z, k _ _ e⟩
  · obtain ⟨L, G, o, h1, h2, h3, h4⟩ := q x hx
    exact ⟨L, G, o, h1.tk (.of k), h2, h3.tk (.of k), h4⟩
theorem MemoOk.tk {P : Program} {w : World} {H G : Hp} {a : Addr} {n : Nat} (h : MemoOk P w H a n) (k : KpD a H G) : Tk H G := by
  obtain ⟨E, d, _⟩ := h
  obtain ⟨u, e, nu⟩ := memo_mut d
  exact k.at e nu
theorem MemoOk.mono {P : Program} {w : World} {H : Hp} {a : Addr} {m n : Nat} (h : MemoOk P w H a m) (k : m ≤ n) : MemoOk P w H a n := by
  obtain ⟨E, d, l, q⟩ := h
  exact ⟨E, d, Nat.le_trans l k, q⟩
section
variable {P : Program} {w : World} {K : PySem.W.Frag} {mg : Str → Option Value} {base : Heap} {Ts : List Addr}
end
end Sq

set_option Elab.async false
set_option linter.all false
set_option maxRecDepth 100000
set_option maxHeartbeats 8000000
/-! The law's loose moves. -/
namespace Sq
open PySem PySem.Spec PyProof.Rows L2
theorem MemoOk.ne {P : Program} {w : World} {H : Hp} {a b : Addr} {n : Nat} {xs : List V} (h : MemoOk P w H a n) (e : H b = some (.lst xs)) : b ≠ a := fun z => by
  obtain ⟨E, d, _⟩ := h
  rw [z] at e
  rcases d with q | ⟨_, q⟩ <;> rw [q] at e <;> cases e
section
variable {P : Program} {w : World} {K : PySem.W.Frag} {mg : Str → Option Value} {base : Heap} {Ts : List Addr}
end
end Sq

set_option Elab.async false
set_option linter.all false
set_option maxRecDepth 100000
set_option maxHeartbeats 8000000
/-! The law's tight plan. -/
namespace Sq
open PySem PySem.Spec PyProof.Rows L2
theorem paired_appN {α β : Type} {R : α → β → Prop} {xs : List α} {ys : List β} (h : Paired R xs ys) {us : List α} {vs : List β} (k : Paired R us vs) : Paired R (xs ++ us) (ys ++ vs) := by
  induction h with
  | nil => exact k
  | cons r _ ih => exact .cons r ih
theorem cat_pairs {K : PySem.W.Frag} {H : Hp} {a b : Addr} {ms ns : List CellP} {Q : VK} (h : PairsT H a ms) (k : PairsT H b ns) (l : ms.length + ns.length ≤ 1000000) (q : ∀ r G, Same H G → PairsT G r (ms ++ ns) → Q (.ref r) G) : rCatA K (.ref a) (.ref b) H Q := by
  obtain ⟨ps, ea, pr⟩ := id h
  obtain ⟨qs, eb, pq⟩ := id k
  have l1 : ps.length = ms.length := Paired.length pr
  have l2 : qs.length = ns.length := Paired.length pq
  refine ⟨a, b, _, _, rfl, rfl, SqT.of ea, SqT.of eb, by rw [List.length_map, List.length_map, sizeLine_eq]; omega, fun z => ?_, fun _ z => ?_, fun _ _ p hp => ?_⟩
  · have : ms = [] := List.eq_nil_of_length_eq_zero (by rw [← l1, List.map_eq_nil_iff.mp z]; rfl)
    subst this
    exact q b H same_refl k
  · have : ns = [] := List.eq_nil_of_length_eq_zero (by rw [← l2, List.map_eq_nil_iff.mp z]; rfl)
    subst this
    refine q a H same_refl ?_
    rw [List.append_nil]
    exact h
  · exact q p _ (same_new hp) ⟨ps ++ qs, by rw [upd_same, List.map_append], paired_imp (fun _ _ z => z.keep (.of (same_new hp))) (paired_appN pr pq)⟩
section
variable {P : Program} {w : World} {K : PySem.W.Frag} {mg : Str → Option Value} {base : Heap} {Ts : List Addr}
end
end Sq

set_option Elab.async false
set_option linter.all false
set_option maxRecDepth 100000
set_option maxHeartbeats 4000000
/-! Bodies as keys and as data; dicts of bodies. -/
namespace Sq
open PySem PySem.Spec PyProof.Rows L2
def bD (L : List Cell) : PyData := .tuple (L.map cD)
def keyB (L : List Cell) : NK := nkD (bD L)
theorem nkB_all : ∀ L : List Cell, keyAll (L.map cD) = true ∧ NestedKey.depthAll (nkAll (L.map cD)) ≤ 1
  | [] => ⟨rfl, Nat.zero_le _⟩
  | c :: L => by
    obtain ⟨h1, h2⟩ := nkB_all L
    refine ⟨?_, ?_⟩
    · show (keyD (cD c) && keyAll (L.map cD)) = true
      rw [h1]
      rfl
    · show max (NestedKey.depth (nkD (cD c))) (NestedKey.depthAll (nkAll (L.map cD))) ≤ 1
      exact Nat.max_le.mpr ⟨by show NestedKey.depthAll [.num c.1, .num c.2] + 1 ≤ 1; exact Nat.le_refl 1, h2⟩
theorem nkB_inj : ∀ {L M : List Cell}, nkAll (L.map cD) = nkAll (M.map cD) → L = M
  | [], [], _ => rfl
  | [], _ :: _, h => by
    have h : ([] : List NK) = nkD _ :: nkAll _ := h
    cases h
  | _ :: _, [], h => by
    have h : nkD _ :: nkAll _ = ([] : List NK) := h
    cases h
  | c :: L, d :: M, h => by
    have h : (NestedKey.tup [.num c.1, .num c.2]) :: nkAll (L.map cD) = (NestedKey.tup [.num d.1, .num d.2]) :: nkAll (M.map cD) := h
    obtain ⟨h1, h2⟩ := List.cons.inj h
    have h1 := NestedKey.tup.inj h1
    obtain ⟨e1, h1⟩ := List.cons.inj h1
    obtain ⟨e2, _⟩ := List.cons.inj h1
    rw [nkB_inj h2, show c = d from Prod.ext (NestedKey.num.inj e1) (NestedKey.num.inj e2)]
theorem keyB_inj {L M : List Cell} (h : keyB L = keyB M) : L = M := by
  have h : NestedKey.tup (nkAll (L.map cD)) = NestedKey.tup (nkAll (M.map cD)) := h
  exact nkB_inj (NestedKey.tup.inj h)
theorem keyB_depth (L : List Cell) : (keyB L).depth ≤ 8 := by
  show NestedKey.depthAll (nkAll (L.map cD)) + 1 ≤ 8
  have h1 := (nkB_all L).2
  omega
theorem CellsT.natB {K : PySem.W.Frag} {H : Hp} {t : Addr} {L : List Cell} (h : CellsT H t L) : NAt K H t (keyB L) := ⟨⟨_, h.dp, (nkB_all L).1, rfl⟩, keyB_depth L⟩
theorem lay_bD (L : List Cell) : Lay 2 (bD L) := lay_cellsT7
theorem eqv_bD (L M : List Cell) : PyData.eqv (bD L) (bD M) = decide (L = M) := by
  by_cases h : L = M
  · subst h
    rw [eqv_self (lay_bD L), decide_eq_true rfl]
  · rw [decide_eq_false h]
    refine Bool.eq_false_iff.mpr fun e => h ?_
    have key : ∀ L M : List Cell, PyData.eqvAll (L.map cD) (M.map cD) = true → L = M := by
      intro L
      induction L with
      | nil =>
        intro M e
        cases M with
        | nil => rfl
        | cons d M => exact absurd e (by simp [PyData.eqvAll])
      | cons c L ih =>
        intro M e
        cases M with
        | nil => exact absurd e (by simp [PyData.eqvAll])
        | cons d M =>
          have e : (PyData.eqv (cD c) (cD d) && PyData.eqvAll (L.map cD) (M.map cD)) = true := e
          rw [Bool.and_eq_true, cD_eqv, decide_eq_true_iff] at e
          rw [e.1, ih M e.2]
    have e : PyData.eqvAll (L.map cD) (M.map cD) = true := e
    exact key L M e
/-! ### their order -/
/-! ### dicts of bodies -/
/-- a dict whose keys are these bodies -/
def BDc (P : Program) (w : World) (H : Hp) (a : Addr) (E : List NEnt) (Bs : List (List Cell)) : Prop := DN P w H a E ∧ Paired (fun l B => CellsT H l.1 B ∧ l.2.1 = keyB B) E Bs
theorem BDc.nat {P : Program} {w : World} {K : PySem.W.Frag} {H : Hp} {a : Addr} {E : List NEnt} {Bs : List (List Cell)} (h : BDc P w H a E Bs) : ∀ l ∈ E, NAt K H l.1 l.2.1 := fun l hl => by
  obtain ⟨B, _, c, e⟩ := paired_memL h.2 l hl
  rw [e]
  exact c.natB
theorem DN.same {P : Program} {w : World} {H G : Hp} {a : Addr} {E : List NEnt} (h : DN P w H a E) (k : Same H G) : DN P w G a E := by
  rcases h with e | ⟨z, e⟩
  · exact .inl (k _ _ e)
  · exact .inr ⟨z, k _ _ e⟩
theorem BDc.same {P : Program} {w : World} {H G : Hp} {a : Addr} {E : List NEnt} {Bs : List (List Cell)} (h : BDc P w H a E Bs) (k : Same H G) : BDc P w G a E Bs :=
  ⟨h.1.same k, paired_imp (fun _ _ ⟨c, e⟩ => ⟨c.same k, e⟩) h.2⟩
theorem BDc.val {P : Program} {w : World} {H : Hp} {a : Addr} {E : List NEnt} {Bs : List (List Cell)} (h : BDc P w H a E Bs) (B : List Cell) : (valN E (keyB B)).isSome = decide (B ∈ Bs) := by
  have pr := h.2
  clear h
  unfold valN
  rw [Option.isSome_map]
  induction pr with
  | nil => rfl
  | @cons l M E Bs r _ ih =>
    rw [List.find?_cons]
    by_cases z : l.2.1 = keyB B
    · rw [decide_eq_true z]
      have : B = M := keyB_inj (z.symm.trans r.2)
      rw [this, decide_eq_true (List.mem_cons_self ..)]
      rfl
    · rw [decide_eq_false z]
      have ne : B ≠ M := fun q => z (by rw [r.2, q])
      dsimp only
      rw [ih, Bool.eq_iff_iff, decide_eq_true_iff, decide_eq_true_iff]
      simp [ne]
/-- one more body -/
def putB (Bs : List (List Cell)) (B : List Cell) : List (List Cell) := if B ∈ Bs then Bs else Bs ++ [B]
theorem BDc.put {P : Program} {w : World} {H : Hp} {a b : Addr} {E : List NEnt} {Bs : List (List Cell)} {B : List Cell} {v : V} (h : BDc P w H a E Bs) (cb : CellsT H b B) : BDc P w (upd H a (DNO P w a (putN E b (keyB B) v))) a (putN E b (keyB B) v) (putB Bs B) := by
  have tk : Tk H (upd H a (DNO P w a (putN E b (keyB B) v))) := by
    rcases h.1 with e | ⟨_, e⟩
    · exact tk_upd e fun xs z => nomatch z
    · exact tk_upd e fun xs z => nomatch z
  generalize eU : upd H a (DNO P w a (putN E b (keyB B) v)) = U at tk
  have pr : Paired (fun l B => CellsT U l.1 B ∧ l.2.1 = keyB B) E Bs := paired_imp (fun _ _ ⟨c, e⟩ => ⟨cellsT_tu c tk, e⟩) h.2
  refine ⟨.inl (by rw [← eU]; exact upd_same), ?_⟩
  have hv := h.val B
  unfold putN putB
  rw [valN_any, hv]
  by_cases m : B ∈ Bs
  · rw [decide_eq_true m, if_pos rfl, if_pos m]
    clear hv m h eU
    induction pr with
    | nil => exact .nil
    | @cons l M E Bs r _ ih =>
      refine .cons ?_ ih
      dsimp only
      split
      · exact r
      · exact r
  · rw [decide_eq_false m, if_neg (by simp), if_neg m]
    exact pr.snoc ⟨cellsT_tu cb tk, rfl⟩
theorem BDc.len {P : Program} {w : World} {H : Hp} {a : Addr} {E : List NEnt} {Bs : List (List Cell)} (h : BDc P w H a E Bs) : E.length = Bs.length := Paired.length h.2
theorem BDc.dps {P : Program} {w : World} {K : PySem.W.Frag} {H : Hp} {a : Addr} {E : List NEnt} {Bs : List (List Cell)} (h : BDc P w H a E Bs) : Paired (fun l b => CellsT H l.1 b ∧ Dp K H (.ref l.1) (bD b)) E Bs := paired_imp (fun _ _ ⟨c, _⟩ => ⟨c, c.dp⟩) h.2
end Sq

set_option Elab.async false
set_option linter.all false
set_option maxRecDepth 100000
set_option maxHeartbeats 8000000
/-! The mathematics of plans without returns. -/
namespace Sq
open PySem PySem.Spec PyProof.Rows L2
/-- j is the last place of the body at i -/
def LastIs (Bs : List (List Cell)) (i j : Nat) : Prop := i ≤ j ∧ j < Bs.length ∧ Bs[j]? = Bs[i]? ∧ ∀ k, j < k → Bs[k]? ≠ Bs[i]?
theorem last_one {Bs : List (List Cell)} {i j k : Nat} (h : LastIs Bs i j) (l : LastIs Bs i k) : j = k := by
  rcases Nat.lt_trichotomy j k with z | z | z
  · exact absurd l.2.2.1 (h.2.2.2 k z)
  · exact z
  · exact absurd h.2.2.1 (l.2.2.2 j z)
/-- the plan from the i-th body on without what lies between two places of one body -/
inductive Dir (Bs : List (List Cell)) (p : List CellP) : Nat → List CellP → Prop
  | stop {i j} : LastIs Bs i j → p.length ≤ j → Dir Bs p i []
  | more {i j m r} : LastIs Bs i j → p[j]? = some m → Dir Bs p (j + 1) r → Dir Bs p i (m :: r)
theorem dir_one {Bs : List (List Cell)} {p : List CellP} {i : Nat} {r : List CellP} (h : Dir Bs p i r) : ∀ {q : List CellP}, Dir Bs p i q → r = q := by
  induction h with
  | stop l e =>
    intro q k
    cases k with
    | stop _ _ => rfl
    | more l2 e2 _ =>
      rw [last_one l l2] at e
      have := (List.getElem?_eq_some_iff.mp e2).1
      omega
  | more l e _ ih =>
    intro q k
    cases k with
    | stop l2 e2 =>
      rw [← last_one l l2] at e2
      have := (List.getElem?_eq_some_iff.mp e).1
      omega
    | more l2 e2 d2 =>
      obtain rfl := last_one l l2
      rw [e] at e2
      obtain rfl := Option.some.inj e2
      rw [ih d2]
theorem dir_len {Bs : List (List Cell)} {p : List CellP} {i : Nat} {r : List CellP} (h : Dir Bs p i r) : r.length ≤ p.length - i := by
  induction h with
  | stop _ _ => exact Nat.zero_le _
  | @more i j m r l e _ ih =>
    have := (List.getElem?_eq_some_iff.mp e).1
    have := l.1
    rw [List.length_cons]
    omega
theorem take_lt {p : List CellP} {j : Nat} {m : CellP} (e : p[j]? = some m) : p.take (j + 1) = p.take j ++ [m] := take_snoc e
/-- where it leads, and its bodies -/
theorem dir_go {L : List Cell} {p : List CellP} {Bs : List (List Cell)} (b : BodsIs L p Bs) (g : goB L p = true) {i : Nat} {r : List CellP} (h : Dir Bs p i r) : i ≤ p.length →
    goB (goL L (p.take i)) r = true ∧ EqC (goL (goL L (p.take i)) r) (goL L p) ∧ ∃ Cs : List (List Cell), BodsIs (goL L (p.take i)) r Cs ∧ Cs.Nodup ∧ ∀ C ∈ Cs, ∃ k, i ≤ k ∧ Bs[k]? = some C := by
  induction h with
  | @stop i j l e =>
    intro hi
    have ej : j = p.length := by have := l.2.1; have := b.1; omega
    subst ej
    obtain ⟨B, hB⟩ : ∃ B, Bs[i]? = some B := ⟨_, List.getElem?_eq_getElem (by have := b.1; omega)⟩
    obtain ⟨n1, a1, e1⟩ := b.2 i B hB
    obtain ⟨n2, a2, e2⟩ := b.2 p.length B (l.2.2.1.trans hB)
    rw [List.take_length] at e2
    refine ⟨rfl, eqC_trans (eqC_symm e1) e2, [B], ⟨rfl, fun k X hX => ?_⟩, by simp, fun C hC => ⟨i, Nat.le_refl _, by rw [List.mem_singleton.mp hC]; exact hB⟩⟩
    cases k with
    | zero => obtain rfl := Option.some.inj hX; exact ⟨n1, a1, e1⟩
    | succ k => cases hX
  | @more i j m r l e d ih =>
    intro hi
    have jp : j < p.length := (List.getElem?_eq_some_iff.mp e).1
    obtain ⟨i1, i2, Cs, c1, c2, c3⟩ := ih jp
    obtain ⟨B, hB⟩ : ∃ B, Bs[i]? = some B := ⟨_, List.getElem?_eq_getElem (by have := b.1; omega)⟩
    obtain ⟨n1, a1, e1⟩ := b.2 i B hB
    obtain ⟨n2, a2, e2⟩ := b.2 j B (l.2.2.1.trans hB)
    have st := take_lt e
    have ee : EqC (goL L (p.take i)) (goL L (p.take j)) := eqC_trans (eqC_symm e1) e2
    have mv : mayW (goL L (p.take i)) m.1 m.2 = true := by
      have g1 := (goB_split g (j + 1)).1
      rw [st, goB_app, Bool.and_eq_true] at g1
      have g2 : (mayW (goL L (p.take j)) m.1 m.2 && true) = true := g1.2
      rw [Bool.and_true] at g2
      rw [may_cong ee]
      exact g2
    have e3 : EqC (stepM (goL L (p.take i)) m) (goL L (p.take (j + 1))) := by
      rw [st, goL_snoc]
      exact step_cong ee m
    refine ⟨?_, ?_, B :: Cs, ⟨by rw [List.length_cons, List.length_cons, c1.1], fun k X hX => ?_⟩, List.nodup_cons.mpr ⟨fun hB2 => ?_, c2⟩, fun C hC => ?_⟩
    · show (mayW (goL L (p.take i)) m.1 m.2 && goB (stepM (goL L (p.take i)) m) r) = true
      rw [mv, goB_cong r e3, i1]
      rfl
    · show EqC (goL (stepM (goL L (p.take i)) m) r) _
      exact eqC_trans (goL_cong e3 r) i2
    · cases k with
      | zero => obtain rfl := Option.some.inj hX; exact ⟨n1, a1, e1⟩
      | succ k =>
        obtain ⟨x1, x2, x3⟩ := c1.2 k X hX
        refine ⟨x1, x2, ?_⟩
        show EqC X (goL (stepM (goL L (p.take i)) m) (r.take k))
        exact eqC_trans x3 (eqC_symm (goL_cong e3 _))
    · obtain ⟨k, k1, k2⟩ := c3 B hB2
      exact l.2.2.2 k (by omega) (k2.trans hB.symm)
    · rcases List.mem_cons.mp hC with z | z
      · exact ⟨i, Nat.le_refl _, by rw [z]; exact hB⟩
      · obtain ⟨k, k1, k2⟩ := c3 C z
        exact ⟨k, by have := l.1; omega, k2⟩
/-- a plan whose bodies all are unlike stays -/
theorem dir_self {L : List Cell} {r : List CellP} {Cs : List (List Cell)} (c : BodsIs L r Cs) (nd : Cs.Nodup) : ∀ (n i : Nat), i + n = r.length → Dir Cs r i (r.drop i) := by
  have last : ∀ i, i ≤ r.length → LastIs Cs i i := fun i hi => by
    have li : i < Cs.length := by have := c.1; omega
    refine ⟨Nat.le_refl _, li, rfl, fun k hk e => ?_⟩
    have := (List.getElem?_inj li nd).mp e.symm
    omega
  intro n
  induction n with
  | zero =>
    intro i hi
    rw [List.drop_of_length_le (by omega)]
    exact .stop (last i (by omega)) (by omega)
  | succ n ih =>
    intro i hi
    have li : i < r.length := by omega
    rw [List.drop_eq_getElem_cons li]
    exact .more (last i (by omega)) (List.getElem?_eq_getElem li) (ih (i + 1) (by omega))
theorem dir_nil {Bs : List (List Cell)} {p r : List CellP} (l : Bs.length = p.length + 1) (h : Dir Bs p 0 r) : r = [] ↔ Bs[p.length]? = Bs[0]? := by
  cases h with
  | @stop _ j e z =>
    have := e.2.1
    have ej : j = p.length := by omega
    rw [ej] at e
    exact Iff.intro (fun _ => e.2.2.1) fun _ => rfl
  | @more _ j m r e z d =>
    have := (List.getElem?_eq_some_iff.mp z).1
    exact Iff.intro (fun q => nomatch q) fun q => absurd q (e.2.2.2 _ this)
/-! ### how many bodies -/
/-- all bodies on the way are among these -/
def Cov (L : List Cell) (p : List CellP) (D : List (List Cell)) : Prop := ∀ k, k ≤ p.length → ∃ B ∈ D, EqC B (goL L (p.take k))
theorem few_of_cov : ∀ (D Cs : List (List Cell)), Cs.Nodup → (∀ C ∈ Cs, C.Nodup ∧ Asc C ∧ ∃ B ∈ D, EqC B C) → Cs.length ≤ D.length
  | [], [], _, _ => Nat.le_refl _
  | [], C :: _, _, h => by
    obtain ⟨_, _, B, hB, _⟩ := h C (by simp)
    cases hB
  | d :: D, Cs, nd, h => by
    by_cases z : ∃ C ∈ Cs, EqC d C
    · obtain ⟨C, hC, eC⟩ := z
      obtain ⟨A, R, rfl⟩ := List.append_of_mem hC
      have pm : (A ++ C :: R).Perm (C :: (A ++ R)) := List.perm_middle
      obtain ⟨n1, n2⟩ := List.nodup_cons.mp (pm.nodup_iff.mp nd)
      have ih := few_of_cov D (A ++ R) n2 fun X hX => by
        obtain ⟨x1, x2, B, hB, eB⟩ := h X (pm.mem_iff.mpr (.tail _ hX))
        obtain ⟨c1, c2, _⟩ := h C hC
        refine ⟨x1, x2, ?_⟩
        rcases List.mem_cons.mp hB with y | y
        · subst y
          have : X = C := (asc_eq x1 c1 x2 c2).mpr (eqC_trans (eqC_symm eB) eC)
          exact absurd (this ▸ hX) n1
        · exact ⟨B, y, eB⟩
      rw [pm.length_eq, List.length_cons, List.length_cons]
      omega
    · have ih := few_of_cov D Cs nd fun X hX => by
        obtain ⟨x1, x2, B, hB, eB⟩ := h X hX
        refine ⟨x1, x2, ?_⟩
        rcases List.mem_cons.mp hB with y | y
        · subst y
          exact absurd ⟨X, hX, eB⟩ z
        · exact ⟨B, y, eB⟩
      rw [List.length_cons]
      omega
theorem cov_nil (L : List Cell) : Cov L [] [L] := fun k _ => ⟨L, by simp, by rw [List.take_nil]; exact fun _ => Iff.rfl⟩
/-- some moves more: as many bodies more at most -/
theorem cov_more {L : List Cell} {p : List CellP} {D : List (List Cell)} (c : Cov L p D) (s : List CellP) : ∃ D', D'.length ≤ D.length + s.length ∧ Cov L (p ++ s) D' := by
  refine ⟨D ++ (List.range s.length).map fun t => goL L (p ++ s.take (t + 1)), by simp, fun k hk => ?_⟩
  rw [List.length_append] at hk
  by_cases z : k ≤ p.length
  · obtain ⟨B, hB, e⟩ := c k z
    refine ⟨B, by simp [hB], ?_⟩
    rw [List.take_append_of_le_length z]
    exact e
  · refine ⟨goL L (p ++ s.take (k - p.length)), List.mem_append_right _ (List.mem_map.mpr ⟨k - p.length - 1, List.mem_range.mpr (by omega), by rw [show k - p.length - 1 + 1 = k - p.length by omega]⟩), ?_⟩
    rw [List.take_append, List.take_of_length_le (by omega : p.length ≤ k)]
    exact fun _ => Iff.rfl
theorem backM_cons2 (m : CellP) (r : List CellP) : backM (m :: r) = backM r ++ [(m.2, m.1)] := by
  unfold backM
  rw [List.reverse_cons, List.map_append]
  rfl
theorem back_go2 : ∀ {ms : List CellP} {L : List Cell}, goB L ms = true → EqC (goL (goL L ms) (backM ms)) L
  | [], L, _ => fun _ => Iff.rfl
  | m :: r, L, g => by
    have g' : (mayW L m.1 m.2 && goB (stepM L m) r) = true := g
    rw [Bool.and_eq_true] at g'
    have i1 := back_go2 g'.2
    show EqC (goL (goL (stepM L m) r) (backM (m :: r))) L
    rw [backM_cons2, goL_app]
    exact eqC_trans (step_cong i1 _) (few_revX g'.1).2
theorem backM_len (ms : List CellP) : (backM ms).length = ms.length := by
  unfold backM
  rw [List.length_map, List.length_reverse]
theorem backM_take (ms : List CellP) (t : Nat) : (backM ms).take t = backM (ms.drop (ms.length - t)) := by
  unfold backM
  rw [← List.map_take, List.take_reverse]
/-- a way back meets nothing new -/
theorem cov_back {L : List Cell} {p : List CellP} {D : List (List Cell)} (c : Cov L p D) (g : goB L p = true) (i j : Nat) : Cov L (p ++ (backM (p.drop i)).take j) D := by
  intro k hk
  by_cases z : k ≤ p.length
  · obtain ⟨B, hB, e⟩ := c k z
    refine ⟨B, hB, ?_⟩
    rw [List.take_append_of_le_length z]
    exact e
  · rw [List.length_append, List.length_take, backM_len, List.length_drop] at hk
    have hm : min (k - p.length) j ≤ p.length - i := by omega
    rw [List.take_append, List.take_of_length_le (by omega : p.length ≤ k), List.take_take, backM_take, List.length_drop, List.drop_drop]
    generalize ht : min (k - p.length) j = t at hm
    obtain ⟨B, hB, e⟩ := c (p.length - t) (by omega)
    refine ⟨B, hB, eqC_trans e ?_⟩
    have es : i + (p.length - i - t) = p.length - t := by omega
    rw [es, goL_app]
    have sp := goL_split L p (p.length - t)
    have gb := (goB_split g (p.length - t)).2
    rw [sp]
    exact eqC_symm (back_go2 gb)
/-- the bodies of a plan without returns are few -/
theorem dir_few {L : List Cell} {p r : List CellP} {Bs Cs : List (List Cell)} {D : List (List Cell)} (b : BodsIs L p Bs) (c : Cov L p D) (nd : Cs.Nodup) (sub : ∀ C ∈ Cs, ∃ k, 0 ≤ k ∧ Bs[k]? = some C) : Cs.length ≤ D.length :=
  few_of_cov D Cs nd fun C hC => by
    obtain ⟨k, _, e⟩ := sub C hC
    obtain ⟨n, a, q⟩ := b.2 k C e
    obtain ⟨B, hB, eB⟩ := c k (by have := (List.getElem?_eq_some_iff.mp e).1; have := b.1; omega)
    exact ⟨n, a, B, hB, eqC_trans eB (eqC_symm q)⟩
end Sq

set_option Elab.async false
set_option linter.all false
set_option maxRecDepth 100000
set_option maxHeartbeats 8000000
/-! The program's direct. -/
namespace Sq
open PySem PySem.Spec PyProof.Rows L2
theorem find_map {k k' : NK} {v : V} : ∀ F : List NEnt, ((F.map fun l => if l.2.1 = k then (l.1, l.2.1, v) else l).find? fun l => decide (l.2.1 = k')).map (·.2.2) = if k' = k then (if (F.any fun l => decide (l.2.1 = k)) = true then some v else none) else (F.find? fun l => decide (l.2.1 = k')).map (·.2.2)
  | [] => by simp
  | l :: F => by
    have ih := find_map (k := k) (k' := k') (v := v) F
    rw [List.map_cons, List.find?_cons, List.find?_cons, List.any_cons]
    by_cases z : l.2.1 = k
    · rw [if_pos z]
      by_cases y : k' = k
      · subst y
        rw [decide_eq_true z]
        simp
      · have x : ¬ l.2.1 = k' := fun q => y (q.symm.trans z)
        rw [decide_eq_false x]
        dsimp only
        rw [ih, if_neg y, if_neg y]
    · rw [if_neg z]
      by_cases y : k' = k
      · subst y
        rw [decide_eq_false z]
        dsimp only
        rw [ih, Bool.false_or, if_pos rfl]
      · by_cases x : l.2.1 = k'
        · rw [decide_eq_true x, if_neg y]
        · rw [decide_eq_false x]
          dsimp only
          rw [ih, if_neg y, if_neg y]
theorem valN_putN {E : List NEnt} {b : Addr} {k k' : NK} {v : V} : valN (putN E b k v) k' = if k' = k then some v else valN E k' := by
  unfold putN
  by_cases h : (E.any fun l => decide (l.2.1 = k)) = true
  · rw [if_pos h]
    unfold valN
    rw [find_map E, h]
    simp
  · rw [if_neg h]
    unfold valN
    rw [List.find?_append]
    by_cases y : k' = k
    · subst y
      have : (E.find? fun l => decide (l.2.1 = k')) = none := by
        rw [List.find?_eq_none]
        intro x hx
        simp only [List.any_eq_true, not_exists, not_and] at h
        exact h x hx
      rw [this]
      simp
    · have : ¬ k = k' := fun q => y q.symm
      simp [y, this]
theorem putN_sub {E : List NEnt} {b : Addr} {k : NK} {v : V} {l : NEnt} (h : l ∈ putN E b k v) : l = (b, k, v) ∨ ∃ m ∈ E, l.1 = m.1 ∧ l.2.1 = m.2.1 := by
  unfold putN at h
  split at h
  · obtain ⟨m, hm, rfl⟩ := List.mem_map.mp h
    refine .inr ⟨m, hm, ?_⟩
    split <;> exact ⟨rfl, rfl⟩
  · rcases List.mem_append.mp h with z | z
    · exact .inr ⟨l, z, rfl, rfl⟩
    · exact .inl (List.mem_singleton.mp z)
/-- the dict at D tells of each of the first i bodies its last place among them -/
def LastD (P : Program) (w : World) (H : Hp) (D : Addr) (Bs : List (List Cell)) (i : Nat) : Prop := ∃ E : List NEnt, DN P w H D E ∧ E.length ≤ i ∧ (∀ l ∈ E, ∃ B, CellsT H l.1 B ∧ l.2.1 = keyB B) ∧
  ∀ k B, k < i → Bs[k]? = some B → ∃ j, k ≤ j ∧ j < i ∧ valN E (keyB B) = some (.int (j : Int)) ∧ Bs[j]? = some B ∧ ∀ m, j < m → m < i → Bs[m]? ≠ some B
theorem LastD.same {P : Program} {w : World} {H G : Hp} {D : Addr} {Bs : List (List Cell)} {i : Nat} (h : LastD P w H D Bs i) (k : Same H G) : LastD P w G D Bs i := by
  obtain ⟨E, a, b, c, d⟩ := h
  exact ⟨E, a.same k, b, fun l hl => let ⟨B, x, y⟩ := c l hl; ⟨B, x.same k, y⟩, d⟩
theorem LastD.nat {P : Program} {w : World} {K : PySem.W.Frag} {H : Hp} {E : List NEnt} (c : ∀ l ∈ E, ∃ B, CellsT H l.1 B ∧ l.2.1 = keyB B) : ∀ l ∈ E, NAt K H l.1 l.2.1 := fun l hl => by
  obtain ⟨B, x, y⟩ := c l hl
  rw [y]
  exact x.natB
/-- what a whole dict tells -/
theorem LastD.get {P : Program} {w : World} {H : Hp} {D : Addr} {Bs : List (List Cell)} (h : LastD P w H D Bs Bs.length) {k : Nat} {B : List Cell} (e : Bs[k]? = some B) : ∃ (E : List NEnt) (j : Nat), DN P w H D E ∧ (∀ l ∈ E, ∃ B, CellsT H l.1 B ∧ l.2.1 = keyB B) ∧ valN E (keyB B) = some (.int (j : Int)) ∧ LastIs Bs k j := by
  obtain ⟨E, a, b, c, d⟩ := h
  obtain ⟨j, h1, h2, h3, h4, h5⟩ := d k B (List.getElem?_eq_some_iff.mp e).1 e
  refine ⟨E, j, a, c, h3, h1, h2, h4.trans e.symm, fun m hm z => ?_⟩
  rw [e] at z
  exact h5 m hm (List.getElem?_eq_some_iff.mp z).1 z
theorem LastD.put {P : Program} {w : World} {H : Hp} {D b : Addr} {Bs : List (List Cell)} {i : Nat} {E : List NEnt} {B : List Cell} (a : DN P w H D E) (le : E.length ≤ i) (c : ∀ l ∈ E, ∃ B, CellsT H l.1 B ∧ l.2.1 = keyB B)
    (d : ∀ k B, k < i → Bs[k]? = some B → ∃ j, k ≤ j ∧ j < i ∧ valN E (keyB B) = some (.int (j : Int)) ∧ Bs[j]? = some B ∧ ∀ m, j < m → m < i → Bs[m]? ≠ some B) (cb : CellsT H b B) (hB : Bs[i]? = some B) :
    LastD P w (upd H D (DNO P w D (putN E b (keyB B) (.int (i : Int))))) D Bs (i + 1) := by
  have tk : Tk H (upd H D (DNO P w D (putN E b (keyB B) (.int (i : Int))))) := by
    rcases a with e | ⟨_, e⟩
    · exact tk_upd e fun xs z => nomatch z
    · exact tk_upd e fun xs z => nomatch z
  refine ⟨putN E b (keyB B) (.int (i : Int)), .inl upd_same, ?_, fun l hl => ?_, fun k C hk hC => ?_⟩
  · have := putN_len (L := E) (b := b) (k := keyB B) (v := .int (i : Int))
    omega
  · rcases putN_sub hl with rfl | ⟨m, hm, e1, e2⟩
    · exact ⟨B, cellsT_tu cb tk, rfl⟩
    · obtain ⟨X, x, y⟩ := c m hm
      exact ⟨X, by rw [e1]; exact cellsT_tu x tk, by rw [e2]; exact y⟩
  · rw [valN_putN]
    by_cases z : C = B
    · subst z
      exact ⟨i, by omega, by omega, by rw [if_pos rfl], hB, fun m h1 h2 => by omega⟩
    · have ki : k < i := by
        rcases Nat.lt_or_ge k i with y | y
        · exact y
        · have : k = i := by omega
          rw [this, hB] at hC
          exact absurd (Option.some.inj hC).symm z
      obtain ⟨j, h1, h2, h3, h4, h5⟩ := d k C ki hC
      refine ⟨j, h1, by omega, by rw [if_neg (fun q => z (keyB_inj q))]; exact h3, h4, fun m q1 q2 => ?_⟩
      by_cases y : m < i
      · exact h5 m q1 y
      · have : m = i := by omega
        rw [this, hB]
        exact fun q => z (Option.some.inj q).symm
def spDirect : Sp := fun vs H Q _ => ∃ (t ml : Addr) (L : List Cell) (p : List CellP), vs = [.ref t, .ref ml] ∧ CellsT H t L ∧ L.Nodup ∧ Asc L ∧ Hangs L ∧ L.length ≤ 1000 ∧ PairsL H ml p ∧ p.length ≤ 1000 ∧ goB L p = true ∧
  ∀ r H' q Bs, Same H H' → PairsL H' r q → BodsIs L p Bs → Dir Bs p 0 q → Q (.ref r) H'
abbrev diN : List Str := ["body", "moves", "bodies", "last", "place", "index", "told"]
section
variable {P : Program} {w : World} {K : PySem.W.Frag} {mg : Str → Option Value} {base : Heap} {Ts : List Addr}
theorem scDi : FnScope diN ["body", "moves"] (defScope gDirect) := ⟨rfl, rfl, rfl, by decide +kernel, rfl, by decide +kernel, by decide +kernel⟩
theorem ok_direct {f : Addr} {fd : FuncData} (F : FnP K "direct" gDirect f fd) (B : Bl mg) (gE : mg "enumerate" = none) (DB : Df P w K mg base CX0 3 "bodies_behind" ["body", "moves"] spBehindP) :
    FnOk P w K mg base CX0 4 f fd ["body", "moves"] spDirect := by
  refine F.ok scDi (fun vs H Q E h => ?_) (fun cdv A outer s H vs Q E hr h => ?_)
  · obtain ⟨t, ml, L, p, rfl, _⟩ := h
    rfl
  · obtain ⟨t, ml, L, p, rfl, ct, nL, aL, hL, lL, ⟨qs, em, prm⟩, lp, gp, k⟩ := h
    have h64 := room64 hr
    refine ⟨_, PSs.nox (pss_cons (ps_set (i := 2) scDi.nd rfl (.inl rfl) (pe_df DB hr (by rfl) pass0 (pa_cons (pv 0) (pa_cons (pv 1) pa_nil))))
      (pss_cons (ps_setDctN (ix := 3) (own := [("index", 5), ("place", 4)]) (g := gTup K 2 (gCons (gName 5) (gCons (gName 4) gNil))) (tt := tYes) rfl h64 scDi.nd (pi_enum (by rfl) gE (pa_cons (pv 2) pa_nil)) rfl rfl (sw_dict rfl rfl rfl (by decide +kernel)) (blkOk_by (N := diN) (sc := defScope gDirect) (by decide +kernel))
          (fun _ _ _ _ _ => (pg_tup (by rfl) (pgs_cons (pg_name (i := 5) scDi.nd rfl (Or.inl rfl)) (pgs_cons (pg_name (i := 4) scDi.nd rfl (Or.inl rfl)) pgs_nil)))) (fun _ _ _ _ _ => pts_nil) (fun _ _ _ _ _ => (pv 4)) (fun _ _ _ _ _ => (pv 5)))
      (pss_cons (ps_set (i := 6) scDi.nd rfl (.inl rfl) (pe_lst pa_nil))
      (pss_cons (ps_set (i := 5) scDi.nd rfl (.inl rfl) (pe_dgetN h64 (pv 3) (pe_ix (ix_listK (K := K) rfl) (pv 2) pe_int (fun _ _ => rfl)) (fun _ _ => rfl)))
      (pss_cons (ps_while PassesOwn.never (pt_cmpR op_lt (pv 5) (pe_callB call_len_seq (by rfl) B.len PySem.boot_len (pa_cons (pv 1) pa_nil)) (nomark _))
        (pss_cons (ps_expr (pe_bm PySem.F.plainAttrs_list PySem.F.slot_list_append PySem.F.type_list_append mt_append (pv 6) (pa_cons (pe_ix (ix_listK (K := K) rfl) (pv 1) (pv 5) (fun _ _ => rfl)) pa_nil)))
        (pss_one (ps_set (i := 5) scDi.nd rfl (.inl rfl) (pe_dgetN h64 (pv 3) (pe_ix (ix_listK (K := K) rfl) (pv 2) (pe_op op_add (pv 5) pe_int) (fun _ _ => rfl)) (fun _ _ => rfl))))))
      (pss_one (ps_ret (pv 6)))))))), ?_⟩
    have lq : qs.length = p.length := Paired.length prm
    refine ⟨_, rfl, _, rfl, t, ml, L, p, qs, rfl, ct, nL, lL, hL, .inl em, prm, by omega, gp, fun bl H1 ts Bs s1 hbl ebl prB ok => ?_⟩
    have lts : ts.length = Bs.length := Paired.length prB
    have lBs := ok.1
    refine ⟨_, rfl, bl, _, rfl, SqL.of ebl, fun D hD => ?_⟩
    refine w_ofR (walk_enumL (K := K) (a := bl) (xs := ts.map V.ref)) (fun i G => Same H1 G ∧ LastD P w G D Bs i) ⟨same_new hD, [], .inr ⟨rfl, upd_same⟩, Nat.le_refl _, fun l hl => (nomatch hl), fun k C hk => absurd hk (Nat.not_lt_zero _)⟩ (fun i G _ p => SqL.of (p.1 _ _ ebl)) ?_ ?_
    · rintro i x G G' hi ⟨sm, ld⟩ ⟨u, y, hy, rfl, hu0, rfl⟩
      rw [List.getElem?_map] at hy
      obtain ⟨b, hb, rfl⟩ := Option.map_eq_some_iff.mp hy
      obtain ⟨C, hC, cC⟩ := paired_get prB hb
      have u1 := same_new (o := .tup [.int ((i : Nat) : Int), .ref b]) hu0
      have eu := upd_same (H := G) (a := u) (o := .tup [.int ((i : Nat) : Int), .ref b])
      have sm1 := sm.trans u1
      have ld1 := ld.same u1
      have cC : CellsT H1 b C := cC
      have cb := cC.ek (.of sm1)
      generalize upd G u (.tup [.int ((i : Nat) : Int), .ref b]) = G1 at u1 eu sm1 ld1 cb
      obtain ⟨E0, a0, b0, c0, d0⟩ := ld1
      have il : i < Bs.length := (List.getElem?_eq_some_iff.mp hC).1
      have pl := putN_len (L := E0) (b := b) (k := keyB C) (v := .int ((i : Nat) : Int))
      refine ⟨u, _, rfl, SqT.of eu, rfl, _, _, rfl, _, _, rfl, rfl, rfl, yesT ⟨_, rfl, _, rfl, _, ⟨b, keyB C, E0, rfl, a0, LastD.nat (P := P) (w := w) c0, cb.natB, by rw [sizeLine_eq]; omega, rfl⟩, ?_⟩⟩
      exact ⟨same_put sm1 hD, LastD.put a0 b0 c0 d0 cb hC⟩
    · rintro G ⟨sm, ld⟩
      rw [List.length_map, lts] at ld
      refine ⟨Nat.zero_le _, fun T hT => ?_⟩
      have s3 := same_new (o := .lst []) hT
      have e3 := upd_same (H := G) (a := T) (o := .lst [])
      have ld3 := ld.same s3
      have sm3 := sm.trans s3
      have ebl3 := sm3 _ _ ebl
      have em3 := sm3 _ _ (s1 _ _ em)
      have prm3 := paired_imp (fun _ _ (h : PairAt H _ _) => h.same (s1.trans sm3)) prm
      have prB3 := paired_imp (fun _ _ (h : CellsT H1 _ _) => CellsT.ek h (.of sm3)) prB
      obtain ⟨B0, hB0⟩ : ∃ B0, Bs[0]? = some B0 := ⟨_, List.getElem?_eq_getElem (by omega)⟩
      obtain ⟨u0, hu0, cu0⟩ := paired_getRW prB3 hB0
      obtain ⟨E0, j0, x1, x2, x3, x4⟩ := ld3.get hB0
      generalize upd G T (.lst []) = G3 at s3 e3 ld3 sm3 ebl3 em3 prm3 prB3 cu0 x1 x2
      have nt : ∀ {b : Addr} {o : HO}, G b = some o → b ≠ T := fun e z => by rw [z, hT] at e; cases e
      refine ⟨_, rfl, _, rfl, bl, _, _, .ref u0, rfl, rfl, SqL.of ebl3, atI_nat' (n := 0) rfl (by rw [List.getElem?_map, hu0]; rfl), D, u0, keyB B0, E0, .int (j0 : Int), rfl, rfl, x1, LastD.nat (P := P) (w := w) x2, cu0.natB, x3, ?_⟩
      refine ⟨fun m σ G4 => ∃ (q : List CellP) (us : List Addr) (i j : Nat), m = p.length + 1 - i ∧ σ = [some (.ref t), some (.ref ml), some (.ref bl), some (.ref D), none, some (.int (j : Int)), some (.ref T)] ∧ Same G G4 ∧ G4 T = some (.lst (us.map V.ref)) ∧ Paired (fun q m => PairAt G4 q m) us q ∧ q.length ≤ i ∧ i ≤ p.length ∧ LastIs Bs i j ∧ ∀ r, Dir Bs p i r → Dir Bs p 0 (q ++ r),
        ⟨_, [], [], 0, j0, rfl, rfl, s3, e3, .nil, Nat.le_refl _, Nat.zero_le _, x4, fun r h => h⟩, ?_⟩
      rintro m σ G4 ⟨q, us, i, j, rfl, rfl, sG, eT, pru, lqi, ip, lst, chain⟩
      have s14 := sm.trans sG
      have em4 := s14 _ _ (s1 _ _ em)
      have ebl4 := s14 _ _ ebl
      have ld4 := ld.same sG
      have prB4 := paired_imp (fun _ _ (h : CellsT H1 _ _) => CellsT.ek h (.of s14)) prB
      have prm4 := paired_imp (fun _ _ (h : PairAt H _ _) => h.same (s1.trans s14)) prm
      refine ⟨_, rfl, _, rfl, ml, _, rfl, .inl (SqL.of em4), _, _, rfl, rfl, _, rfl, ?_⟩
      refine ite2 (fun h1 => ?_) (fun h1 => ?_)
      · have jp : j < p.length := by
          have h1 := of_decide_eq_true h1
          rw [List.length_map, lq] at h1
          omega
        refine ⟨fun σ' G' => ∃ m', m' < p.length + 1 - i ∧ _, fun _ _ h => h, ?_⟩
        obtain ⟨mv, hmv⟩ : ∃ mv, p[j]? = some mv := ⟨_, List.getElem?_eq_getElem jp⟩
        obtain ⟨qa, hqa, pqa⟩ := paired_getRW prm4 hmv
        have lus : us.length = q.length := Paired.length pru
        refine ⟨_, rfl, .inl ⟨rfl, _, SqL.of eT⟩, _, rfl, _, rfl, ml, _, _, .ref qa, rfl, rfl, SqL.of em4, atI_nat (by rw [List.getElem?_map, hqa]; rfl), ?_⟩
        refine ⟨T, _, _, rfl, rfl, eT, by rw [List.length_map, sizeLine_eq]; omega, ?_⟩
        have tu : Tk G4 (upd G4 T (.lst (us.map V.ref ++ [V.ref qa]))) := upd_tu eT (by intro xs z; cases z)
        have sG5 := same_put (o := .lst (us.map V.ref ++ [V.ref qa])) sG hT
        have eT5 : upd G4 T (.lst (us.map V.ref ++ [V.ref qa])) T = some (.lst ((us ++ [qa]).map V.ref)) := by rw [upd_same, List.map_append]; rfl
        have pru5 := (paired_imp (fun _ _ (h : PairAt G4 _ _) => h.keep tu) pru).snoc (PairAt.keep pqa tu)
        generalize upd G4 T (.lst (us.map V.ref ++ [V.ref qa])) = G5 at tu sG5 eT5 pru5
        have s15 := sm.trans sG5
        have ebl5 := s15 _ _ ebl
        have ld5 := ld.same sG5
        have prB5 := paired_imp (fun _ _ (h : CellsT H1 _ _) => CellsT.ek h (.of s15)) prB
        obtain ⟨B1, hB1⟩ : ∃ B1, Bs[j + 1]? = some B1 := ⟨_, List.getElem?_eq_getElem (by omega)⟩
        obtain ⟨u1, hu1, cu1⟩ := paired_getRW prB5 hB1
        obtain ⟨E1, j1, y1, y2, y3, y4⟩ := ld5.get hB1
        refine ⟨_, rfl, _, rfl, _, rfl, _, _, rfl, rfl, bl, _, _, .ref u1, rfl, rfl, SqL.of ebl5, atI_nat' (n := j + 1) (by omega) (by rw [List.getElem?_map, hu1]; rfl), D, u1, keyB B1, E1, .int (j1 : Int), rfl, rfl, y1, LastD.nat (P := P) (w := w) y2, cu1.natB, y3, ?_⟩
        have ij := lst.1
        refine ⟨p.length + 1 - (j + 1), by omega, q ++ [mv], us ++ [qa], j + 1, j1, rfl, rfl, sG5, eT5, pru5, by rw [List.length_append, List.length_singleton]; omega, by omega, y4, fun r h => ?_⟩
        rw [List.append_assoc]
        exact chain _ (.more lst hmv h)
      · have ge : p.length ≤ j := by
          rcases Nat.lt_or_ge j p.length with z | z
          · exact absurd (decide_eq_true (by rw [List.length_map, lq]; omega)) h1
          · exact z
        have dd := chain [] (.stop lst ge)
        rw [List.append_nil] at dd
        exact ⟨_, rfl, k T G4 q Bs (s1.trans s14) ⟨us, eT, pru⟩ ok dd⟩
end
end Sq

set_option Elab.async false
set_option linter.all false
set_option maxRecDepth 100000
set_option maxHeartbeats 8000000
/-! The program's without_returns. -/
namespace Sq
open PySem PySem.Spec PyProof.Rows L2
def spWithoutR (Ts : List Addr) : Sp := fun vs H Q _ => ∃ (t pl : Addr) (L : List Cell) (p : List CellP) (qs : List Addr), vs = [.ref t, .ref pl] ∧ CellsT H t L ∧ L.Nodup ∧ Asc L ∧ Hangs L ∧ L.length ≤ 1000 ∧ (H pl = some (.lst (qs.map V.ref)) ∨ H pl = some (.tup (qs.map V.ref))) ∧ Paired (fun q m => PairAt H q m) qs p ∧ p.length ≤ 200 ∧ goB L p = true ∧ TabsG Ts H ∧
  ∀ r H' q Bs, KT Ts H H' → PairsT H' r q → BodsIs L p Bs → Dir Bs p 0 q → Q (.ref r) H'
section
variable {P : Program} {w : World} {K : PySem.W.Frag} {mg : Str → Option Value} {base : Heap} {Ts : List Addr}
theorem scWR : FnScope ["body", "plan"] ["body", "plan"] (defScope gWithoutReturns) := ⟨rfl, rfl, rfl, by decide +kernel, rfl, by decide +kernel, by decide +kernel⟩
theorem ok_withoutR {f CN : Addr} {fd : FuncData} (F : FnP K "without_returns" gWithoutReturns f fd) (B : Bl mg) (DL : Df P w K mg base CX0 6 "lot_of_body" ["value"] (spLotB Ts)) (DC : Df P w K mg base (L2.CX P w) 8 "checked_moves" ["body", "plan"] (spCheckedM K Ts CN)) (DT : Df P w K mg base CX0 4 "direct" ["body", "moves"] spDirect) :
    FnOk P w K mg base CX0 10 f fd ["body", "plan"] (spWithoutR Ts) := by
  refine F.ok scWR (fun vs H Q E h => ?_) (fun cdv A outer s H vs Q E hr h => ?_)
  · obtain ⟨t, pl, L, p, qs, rfl, _⟩ := h
    rfl
  · obtain ⟨t, pl, L, p, qs, rfl, ct, nL, aL, hL, lL, em, prm, lp, gp, tg, k⟩ := h
    have passN : Passes (L2.CX P w) (cxOf CX0 P w K mg base ["body", "plan"] "without_returns" (defScope gWithoutReturns) f cdv A outer s H E).nox (fun _ _ _ => False) := passes_call (W := fun _ _ _ _ => False) takes0 (fun _ _ _ _ h => h)
    refine ⟨_, PSs.nox (pss_cons (ps_expr (pe_df DL hr (by rfl) pass0 (pa_cons (pv 0) pa_nil)))
      (pss_one (ps_ret (pe_tupleOf (by rfl) B.tuple (pe_df DT hr (by rfl) pass0 (pa_cons (pv 0) (pa_cons (pe_df DC hr (by rfl) passN (pa_cons (pv 0) (pa_cons (pv 1) pa_nil))) pa_nil))))))), ?_⟩
    refine ⟨_, rfl, t, L, rfl, ct, nL, aL, lL, hL, tg, fun d H1 k1 hd ed => ?_⟩
    have em1 : H1 pl = some (.lst (qs.map V.ref)) ∨ H1 pl = some (.tup (qs.map V.ref)) := em.elim (fun e => .inl (k1.lst e)) fun e => .inr (k1.tup e)
    have prm1 := paired_imp (fun _ _ (h : PairAt H _ _) => h.ek k1.ek) prm
    have pa : PlanAt K H1 pl (p.map mvO) := ⟨qs, em1, mv_of prm1⟩
    refine ⟨_, rfl, _, rfl, _, rfl, t, pl, L, p.map mvO, rfl, ct.ek k1.ek, nL, lL, hL, pa, by rw [List.length_map]; omega, k1.tb', fun i wr => absurd wr (not_wrong gp i), fun good l H2 k2 hl pl2 => ?_⟩
    rw [cellsOf_mv] at pl2
    have k12 := k1.trans k2
    refine ⟨t, l, L, p, rfl, ct.ek k12.ek, nL, aL, hL, lL, pl2, by omega, gp, fun r H3 q Bs s3 pq bi dq => ?_⟩
    obtain ⟨rs, er, prr⟩ := pq
    refine .inl ⟨r, _, rfl, SqL.of er, fun tp htp => ?_⟩
    have s4 := same_new (o := .tup (rs.map V.ref)) htp
    exact k tp _ q Bs (k12.same (s3.trans s4)) ⟨rs, upd_same, paired_imp (fun _ _ h => h.same s4) prr⟩ bi dq
end
end Sq

set_option Elab.async false
set_option linter.all false
set_option maxRecDepth 100000
set_option maxHeartbeats 8000000
/-! The law's plan without returns. -/
namespace Sq
open PySem PySem.Spec PyProof.Rows L2
def spT4without : Sp := fun vs H Q _ => ∃ (t pl : Addr) (L : List Cell) (p : List CellP), vs = [.ref t, .ref pl] ∧ CellsT H t L ∧ L.Nodup ∧ Asc L ∧ Hangs L ∧ L.length ≤ 1000 ∧ PairsT H pl p ∧ p.length ≤ 1000 ∧ goB L p = true ∧
  ∀ r H' q Bs, Same H H' → PairsT H' r q → BodsIs L p Bs → Dir Bs p 0 q → Q (.ref r) H'
abbrev twN : List Str := ["_law_cells", "_law_plan", "_law_bodies", "_law_found", "_law_at", "_law_lap", "_law_k"]
abbrev nVw (n : Nat) : V := .int (n : Int)
/-- where the body at i stands among the first n -/
def whereB (Bs : List (List Cell)) (i n : Nat) : List Nat := (List.range n).filter fun k => decide (Bs[k]? = Bs[i]?)
section
variable {P : Program} {w : World} {K : PySem.W.Frag} {mg : Str → Option Value} {base : Heap} {Ts : List Addr}
theorem scTW : FnScope twN ["_law_cells", "_law_plan"] (defScope lT4without) := ⟨rfl, rfl, rfl, by decide +kernel, rfl, by decide +kernel, by decide +kernel⟩
theorem ok_t4without {f : Addr} {fd : FuncData} (F : FnP K "_law_t4without" lT4without f fd) (B : Bl mg) (DB : Df P w K mg base CX0 4 "_law_t4bodies" ["_law_cells", "_law_plan"] spT4bodX) :
    FnOk P w K mg base CX0 5 f fd ["_law_cells", "_law_plan"] spT4without := by
  refine F.ok scTW (fun vs H Q E h => ?_) (fun cdv A outer s H vs Q E hr h => ?_)
  · obtain ⟨t, pl, L, p, rfl, _⟩ := h
    rfl
  · obtain ⟨t, pl, L, p, rfl, ct, nL, aL, hL, lL, pp, lp, gp, k⟩ := h
    have h64 := room64 hr
    refine ⟨_, PSs.nox (pss_cons (ps_set (i := 2) scTW.nd rfl (.inr rfl) (pe_df DB hr (by rfl) pass0 (pa_cons (pv 0) (pa_cons (pv 1) pa_nil))))
      (pss_cons (ps_asg (pe_tup (pa_cons (pe_lst pa_nil) (pa_cons pe_int pa_nil))) (pg_tup (by rfl) (pgs_cons (pg_name (i := 3) scTW.nd rfl (.inl rfl)) (pgs_cons (pg_name (i := 4) scTW.nd rfl (.inr rfl)) pgs_nil))))
      (pss_cons (ps_for PassesOwn.never rfl (pi_range1 (by rfl) B.range (pa_cons (pe_op op_add (pe_callB call_len_seq (by rfl) B.len PySem.boot_len (pa_cons (pv 1) pa_nil)) pe_int) pa_nil)) (pg_name (i := 5) scTW.nd rfl (.inl rfl))
        (pss_cons (ps_set (i := 4) scTW.nd rfl (.inr rfl) (pe_callB (cr_max rfl) (by rfl) B.max (by decide +kernel) (pa_cons (pe_lc (own := [("_law_k", 6)]) (g := gName 6) rfl scTW.nd (pi_range1 (by rfl) B.range (pa_cons (pe_callB call_len_seq (by rfl) B.len PySem.boot_len (pa_cons (pv 2) pa_nil)) pa_nil)) (blkOk_by (N := twN) (sc := defScope lT4without) (by decide +kernel)) (fun _ _ _ _ _ => pg_name (i := 6) scTW.nd rfl (Or.inl rfl)) (fun _ _ _ _ _ => (pts_one (pt_cmpR (op_eqK (K := K) rfl h64) (pe_ix (ix_listK (K := K) rfl) (pv 2) (pv 6) (fun _ _ => rfl)) (pe_ix (ix_listK (K := K) rfl) (pv 2) (pv 4) (fun _ _ => rfl)) (nomark _)))) (fun _ _ _ _ _ => (pv 6))) pa_nil)))
        (pss_cons (ps_if (pt_cmpR op_eq (pv 4) (pe_callB call_len_seq (by rfl) B.len PySem.boot_len (pa_cons (pv 1) pa_nil)) (nomark _)) (pss_one ps_break) pss_nil)
        (pss_cons (ps_expr (pe_bm PySem.F.plainAttrs_list PySem.F.slot_list_append PySem.F.type_list_append mt_append (pv 3) (pa_cons (pe_ix (ix_tupK (K := K) rfl) (pv 1) (pv 4) (fun _ _ => rfl)) pa_nil)))
        (pss_one (ps_set (i := 4) scTW.nd rfl (.inr rfl) (pe_op op_add (pv 4) pe_int)))))))
      (pss_one (ps_ret (pe_tupleOf (by rfl) B.tuple (pv 3))))))), ?_⟩
    obtain ⟨ps, ep, pr⟩ := id pp
    have lps : ps.length = p.length := Paired.length pr
    have lmap : (ps.map V.ref).length = p.length := by rw [List.length_map, lps]
    refine ⟨_, rfl, _, rfl, t, pl, L, p, rfl, ct, nL, aL, hL, lL, pp, lp, gp, fun bl H1 ts Bs s1 hbl ebl prB ok => ?_⟩
    have lts : ts.length = Bs.length := Paired.length prB
    have lBs := ok.1
    have nm : (ts.map V.ref).length = Bs.length := by rw [List.length_map, lts]
    refine ⟨Nat.zero_le _, fun T hT => ?_⟩
    have s2 := same_new (o := .lst []) hT
    have e2 := upd_same (H := H1) (a := T) (o := .lst [])
    generalize upd H1 T (.lst []) = H2 at s2 e2 ⊢
    refine ⟨two_le, fun u hu => ?_⟩
    have s3 := same_new (o := .tup [.ref T, .int 0]) hu
    have e3 := upd_same (H := H2) (a := u) (o := .tup [.ref T, .int 0])
    have e23 := s3 _ _ e2
    have s23 := s2.trans s3
    clear s2 e2
    generalize upd H2 u (.tup [.ref T, .int 0]) = H3 at s3 e3 e23 s23
    refine ⟨u, _, rfl, SqT.of e3, rfl, _, _, rfl, _, _, rfl, rfl, ?_⟩
    have s2 := s23
    have e2 := e23
    refine ⟨_, rfl, pl, _, rfl, .inr (SqT.of (s2 _ _ (s1 _ _ ep))), _, _, rfl, rfl, _, rfl, by rw [lmap]; omega, by rw [lmap]; omega, ?_⟩
    have en : ((((ps.map V.ref).length : Nat) : Int) + 1).toNat = p.length + 1 := by rw [lmap]; omega
    refine for_range_fin (lo := 0) (n := ((((ps.map V.ref).length : Nat) : Int) + 1).toNat) (fun i σ G => ∃ (q : List CellP) (us : List Addr) (j : Nat) (v5 v6 : Option V), σ = [some (.ref t), some (.ref pl), some (.ref bl), some (.ref T), some (.int (j : Int)), v5, v6] ∧ Same H1 G ∧ G T = some (.lst (us.map V.ref)) ∧ Paired (fun q m => PairAt G q m) us q ∧ q.length ≤ j ∧ i ≤ j ∧ j ≤ p.length ∧ ∀ r, Dir Bs p j r → Dir Bs p 0 (q ++ r))
      (fun σ G => ∃ (q : List CellP) (us : List Addr) (v4 v5 v6 : Option V), σ = [some (.ref t), some (.ref pl), some (.ref bl), some (.ref T), v4, v5, v6] ∧ Same H1 G ∧ G T = some (.lst (us.map V.ref)) ∧ Paired (fun q m => PairAt G q m) us q ∧ Dir Bs p 0 q) ?_
      ⟨[], [], 0, none, none, rfl, s2, e2, .nil, Nat.le_refl _, Nat.le_refl _, Nat.zero_le _, fun r h => h⟩ ?_ ?_
    · rintro σ G ⟨q, us, v4, v5, v6, rfl, sG, eT, pru, dq⟩
      refine ⟨_, rfl, .inl ⟨T, _, rfl, SqL.of eT, fun tp htp => ?_⟩⟩
      have s4 := same_new (o := .tup (us.map V.ref)) htp
      exact k tp _ q Bs ((s1.trans sG).trans s4) ⟨us, upd_same, paired_imp (fun _ _ h => h.same s4) pru⟩ ok dq
    · rintro i σ G Bk hi ⟨q, us, j, v5, v6, rfl, sG, eT, pru, lqj, ij, jp, chain⟩ hB
      rw [en] at hi
      have ebl2 := sG _ _ ebl
      refine ⟨_, rfl, bl, _, rfl, .inl (SqL.of ebl2), _, rfl, by rw [nm]; omega, by rw [nm]; omega, fun D hD => ?_⟩
      refine lc_range (lo := 0) (n := (((ts.map V.ref).length : Nat) : Int).toNat) (fun i G4 => Same G G4 ∧ G4 D = some (.lst ((whereB Bs j i).map nVw))) ⟨same_new hD, upd_same⟩ (fun x G4 hx ⟨s4, eD⟩ => ?_) (fun G4 ⟨s4, eD⟩ => ?_)
      · rw [Int.toNat_natCast, nm] at hx
        have s14 := sG.trans s4
        have ebl4 := s14 _ _ ebl
        have prB4 := paired_imp (fun _ _ (h : CellsT H1 _ _) => CellsT.ek h (.of s14)) prB
        obtain ⟨B1, hB1⟩ : ∃ B, Bs[x]? = some B := ⟨_, List.getElem?_eq_getElem hx⟩
        obtain ⟨C1, hC1⟩ : ∃ B, Bs[j]? = some B := ⟨_, List.getElem?_eq_getElem (by omega)⟩
        obtain ⟨u1, hu1, cu1⟩ := paired_getRW prB4 hB1
        obtain ⟨u2, hu2, cu2⟩ := paired_getRW prB4 hC1
        refine ⟨rfl, _, rfl, _, rfl, bl, _, _, .ref u1, rfl, rfl, SqL.of ebl4, atI_nat' (n := x) (by omega) (by rw [List.getElem?_map, hu1]; rfl), ?_⟩
        refine ⟨_, rfl, _, rfl, bl, _, _, .ref u2, rfl, rfl, SqL.of ebl4, atI_nat (by rw [List.getElem?_map, hu2]; rfl), ?_⟩
        refine ⟨bD B1, bD C1, cu1.dp, cu2.dp, (lay_bD _).shaped (by decide), (lay_bD _).shaped (by decide), _, rfl, ?_⟩
        rw [eqv_bD]
        have wx : whereB Bs j (x + 1) = if B1 = C1 then whereB Bs j x ++ [x] else whereB Bs j x := by
          unfold whereB
          rw [List.range_succ, List.filter_append]
          by_cases z : B1 = C1
          · simp [hB1, hC1, z]
          · have : ¬ Bs[x]? = Bs[j]? := by rw [hB1, hC1]; exact fun q => z (Option.some.inj q)
            simp [this, z]
        refine ite2 (fun h1 => ?_) (fun h1 => ?_)
        · have h1 := of_decide_eq_true h1
          rw [if_pos h1] at wx
          refine ⟨_, rfl, _, eD, ?_, same_put s4 hD, ?_⟩
          · have l : (whereB Bs j x).length ≤ x := by
              have := List.length_filter_le (fun k => decide (Bs[k]? = Bs[j]?)) (List.range x)
              rw [List.length_range] at this
              exact this
            rw [List.length_map, sizeLine_eq]
            omega
          · rw [upd_same, wx, List.map_append, Int.zero_add]
            rfl
        · have h1 : ¬ B1 = C1 := fun z => h1 (decide_eq_true z)
          rw [if_neg h1] at wx
          exact ⟨s4, by rw [wx]; exact eD⟩
      · rw [Int.toNat_natCast, nm] at eD
        have sG4 := sG.trans s4
        obtain ⟨C1, hC1⟩ : ∃ B, Bs[j]? = some B := ⟨_, List.getElem?_eq_getElem (by omega)⟩
        have mj : j ∈ whereB Bs j Bs.length := List.mem_filter.mpr ⟨List.mem_range.mpr (by omega), by simp⟩
        have eD' : G4 D = some (.lst (((whereB Bs j Bs.length).map fun n : Nat => (n : Int)).map V.int)) := by
          rw [eD, List.map_map]
          rfl
        refine ⟨D, _, rfl, SqL.of eD', by rw [List.length_map]; exact List.length_pos_of_mem mj, fun m hm big => ?_⟩
        obtain ⟨jj, hjj, rfl⟩ := List.mem_map.mp hm
        obtain ⟨m1, m2⟩ := List.mem_filter.mp hjj
        have m1 := List.mem_range.mp m1
        have m2 : Bs[jj]? = Bs[j]? := of_decide_eq_true m2
        have lst : LastIs Bs j jj := by
          refine ⟨?_, m1, m2, fun x hx z => ?_⟩
          · have := big _ (List.mem_map.mpr ⟨j, mj, rfl⟩)
            omega
          · have xl : x < Bs.length := by
              rw [hC1] at z
              exact (List.getElem?_eq_some_iff.mp z).1
            have := big _ (List.mem_map.mpr ⟨x, List.mem_filter.mpr ⟨List.mem_range.mpr xl, decide_eq_true z⟩, rfl⟩)
            omega
        have eT4 := s4 _ _ eT
        have ep4 := sG4 _ _ (s1 _ _ ep)
        have pru4 := paired_imp (fun _ _ (h : PairAt G _ _) => h.same s4) pru
        have pr4 := paired_imp (fun _ _ (h : PairAt H _ _) => h.same (s1.trans sG4)) pr
        refine ⟨_, rfl, _, rfl, pl, _, rfl, .inr (SqT.of ep4), rfl, _, rfl, ?_⟩
        rw [lmap]
        refine ite2 (fun h1 => ?_) (fun h1 => ?_)
        · have z := V.int.inj (of_decide_eq_true h1)
          have dd := chain [] (.stop lst (by omega))
          rw [List.append_nil] at dd
          exact hB _ _ ⟨q, us, _, _, _, rfl, sG4, eT4, pru4, dd⟩
        · have ne : jj ≠ p.length := fun z => h1 (decide_eq_true (congrArg V.int (by omega)))
          have lj : jj < p.length := by omega
          obtain ⟨mv, hmv⟩ : ∃ mv, p[jj]? = some mv := ⟨_, List.getElem?_eq_getElem lj⟩
          obtain ⟨qa, hqa, pqa⟩ := paired_getRW pr4 hmv
          have lus : us.length = q.length := Paired.length pru
          refine ⟨_, rfl, .inl ⟨rfl, _, SqL.of eT4⟩, _, rfl, _, rfl, pl, _, _, .ref qa, rfl, rfl, SqT.of ep4, atI_nat (by rw [List.getElem?_map, hqa]; rfl), ?_⟩
          refine ⟨T, _, _, rfl, rfl, eT4, by rw [List.length_map, sizeLine_eq]; omega, ?_⟩
          have tu : Tk G4 (upd G4 T (.lst (us.map V.ref ++ [V.ref qa]))) := upd_tu eT4 (by intro xs z; cases z)
          have sG5 := same_put (o := .lst (us.map V.ref ++ [V.ref qa])) sG4 hT
          have eT5 : upd G4 T (.lst (us.map V.ref ++ [V.ref qa])) T = some (.lst ((us ++ [qa]).map V.ref)) := by rw [upd_same, List.map_append]; rfl
          have pru5 := (paired_imp (fun _ _ (h : PairAt G4 _ _) => h.keep tu) pru4).snoc (PairAt.keep pqa tu)
          have jjj := lst.1
          refine ⟨_, rfl, _, _, rfl, rfl, q ++ [mv], us ++ [qa], jj + 1, _, _, rfl, sG5, eT5, pru5, by rw [List.length_append, List.length_singleton]; omega, by omega, by omega, fun r h => ?_⟩
          rw [List.append_assoc]
          exact chain _ (.more lst hmv h)
    · rintro σ G ⟨q, us, j, v5, v6, rfl, sG, eT, pru, lqj, ij, jp, chain⟩
      rw [en] at ij
      exact absurd ij (by omega)
end
end Sq

set_option Elab.async false
set_option linter.all false
set_option maxRecDepth 100000
set_option maxHeartbeats 8000000
/-! The law's plans, and how few bodies they meet. -/
namespace Sq
open PySem PySem.Spec PyProof.Rows L2
def spT4planC : Sp := fun vs H Q _ => ∃ (p c t : Addr) (n laps : Nat) (L : List Cell), vs = [.ref p, .ref t, .int (laps : Int)] ∧ PenC H p c n ∧ n < 800000 ∧ laps ≤ 32 ∧ CellsT H t L ∧ L.Nodup ∧ Asc L ∧ Hangs L ∧ L.length ≤ 100 ∧
  ∀ r H' ms n', PenC H' p c n' → n' ≤ n + 10 * laps → Kp [p] H H' → PairsT H' r ms → ms.length ≤ 6 * laps → goB L ms = true → ∀ D : List (List Cell), D.length ≤ 1 + 4 * laps → Cov L ms D → Q (.ref r) H'
section
variable {P : Program} {w : World} {K : PySem.W.Frag} {mg : Str → Option Value} {base : Heap} {Ts : List Addr}
theorem ok_t4planC {f : Addr} {fd : FuncData} (F : FnP K "_law_t4plan" lT4plan f fd) (B : Bl mg) (DR : Df P w K mg base CX0 1 "_law_draw" ["_law_pen_here", "_law_many"] spDrawC) (DP : Df P w K mg base CX0 2 "_law_pick" ["_law_pen_here", "_law_some"] (spPickC K)) (DK : Df P w K mg base CX0 1 "_law_t4back" ["_law_plan"] spT4back) (DS : Df P w K mg base CX0 4 "_law_t4stroll" ["_law_pen_here", "_law_cells"] spStroll) (DV : Df P w K mg base CX0 4 "_law_w_moves" ["_law_cells"] spWMoves) (DD : Df P w K mg base CX0 1 "_law_w_moved" ["_law_cells", "_law_start", "_law_end"] spLDone) :
    FnOk P w K mg base CX0 5 f fd ["_law_pen_here", "_law_cells", "_law_laps"] spT4planC := by
  refine F.ok scTP (fun vs H Q E h => ?_) (fun cdv A0 outer s H vs Q E hr h => ?_)
  · obtain ⟨p, c, t, n, laps, L, rfl, _⟩ := h
    rfl
  · obtain ⟨p, c, t, n, laps, L, rfl, hp, hn, l32, ct, nL, aL, hL, lL, k⟩ := h
    have h64 := room64 hr
    obtain ⟨t2, ht2, key2⟩ := plan_tail (P := P) (w := w) (K := K) (mg := mg) (base := base) (f := f) (cdv := cdv) (A0 := A0) (outer := outer) (s := s) (H0 := H) (E := E) hr DD
    refine ⟨_, PSs.nox (pss_cons (ps_par (i := 3) (j := 4) (by rfl) scTP.nd rfl rfl (by decide) rfl rfl (pa_cons (pe_lst pa_nil) (pa_cons (pe_tupleOf (by rfl) B.tuple (pv 1)) pa_nil)) (by rfl))
      (pss_cons (ps_for PassesOwn.never rfl (pi_range1 (by rfl) B.range (pa_cons (pv 2) pa_nil)) (pg_name (i := 5) scTP.nd rfl (.inl rfl))
      (pss_cons (ps_set (i := 6) scTP.nd rfl (.inl rfl) (pe_df DR hr (by rfl) pass0 (pa_cons (pv 0) (pa_cons pe_int pa_nil))))
        (pss_cons (ps_if (PW.pt (pw_and (pt_cmpR op_eq (pv 6) pe_int (nomark _)) (pw_and1 (pt_cmpR (op_neK (K := K) rfl h64) (pv 3) (pe_lst pa_nil) (nomark _)))))
        (pss_one (ps_set (i := 7) scTP.nd rfl (.inl rfl) (pe_slice sl_list (pe_callTy call_list_of (by rfl) B.list PyProof.Rows.boot_list (pa_cons (pe_df DK hr (by rfl) pass0 (pa_cons (pe_slice sl_list (pv 3) (po_some (pe_op op_sub (pe_un un_neg pe_int) (pe_df DR hr (by rfl) pass0 (pa_cons (pv 0) (pa_cons (pe_callB call_len_seq (by rfl) B.len PySem.boot_len (pa_cons (pv 3) pa_nil)) pa_nil))))) po_none) pa_nil)) pa_nil)) po_none (po_some pe_int))))
        (pss_one (ps_if (pt_cmpR op_lt (pv 6) pe_int (nomark _))
          (pss_one (ps_set (i := 7) scTP.nd rfl (.inl rfl) (pe_df DS hr (by rfl) pass0 (pa_cons (pv 0) (pa_cons (pv 4) pa_nil)))))
          (pss_cons (ps_set (i := 8) scTP.nd rfl (.inl rfl) (pe_df DV hr (by rfl) pass0 (pa_cons (pv 4) pa_nil)))
            (pss_one (ps_set (i := 7) scTP.nd rfl (.inl rfl) (pe_ifExp (pt_cmpR (op_neK (K := K) rfl h64) (pv 8) (pe_lst pa_nil) (nomark _)) (pe_lst (pa_cons (pe_df DP hr (by rfl) pass0 (pa_cons (pv 0) (pa_cons (pv 8) pa_nil))) pa_nil)) (pe_lst pa_nil))))))))
        ht2)))
      (pss_one (ps_ret (pe_tupleOf (by rfl) B.tuple (pv 3)))))), ?_⟩
    obtain ⟨tq, et, prt⟩ := id ct
    refine ⟨Nat.zero_le _, fun l0 hl0 => ?_⟩
    have s0 := same_new (o := .lst []) hl0
    refine ⟨_, rfl, .inr ⟨t, _, rfl, SqT.of (s0 _ _ et), _, _, rfl, ?_⟩⟩
    have el0 : upd H l0 (.lst []) l0 = some (.lst (([] : List Addr).map V.ref)) := upd_same
    generalize upd H l0 (.lst []) = H1 at s0 el0 ⊢
    refine ⟨_, rfl, _, rfl, by omega, by omega, ?_⟩
    have en : ((laps : Int)).toNat = laps := Int.toNat_natCast laps
    refine for_range (lo := 0) (n := ((laps : Int)).toNat) (fun i σ G => ∃ (l1 r : Addr) (ms : List CellP) (cs : List Cell) (n' : Nat) (v5 v6 v7 v8 v9 v10 : Option V), σ = [some (.ref p), some (.ref t), some (.int (laps : Int)), some (.ref l1), some (.ref r), v5, v6, v7, v8, v9, v10] ∧ PenC G p c n' ∧ n' ≤ n + 10 * i ∧ Kp [p] H G ∧ PairsL G l1 ms ∧ CellsT G r cs ∧ Here L ms cs ∧ ms.length ≤ 6 * i ∧ ∃ D : List (List Cell), D.length ≤ 1 + 4 * i ∧ Cov L ms D)
      ⟨l0, t, [], L, n, none, none, none, none, none, none, rfl, hp.same s0, Nat.le_refl _, Kp.of s0, ⟨[], el0, .nil⟩, ct.ek (.of s0), ⟨nL, aL, hL, lL, fun x => Iff.rfl, rfl⟩, Nat.le_refl _, [L], Nat.le_refl _, cov_nil L⟩ ?_ ?_
    · rintro i σ G hi ⟨l1, r, ms, cs, n', v5, v6, v7, v8, v9, v10, rfl, hpG, hn', kp, pm, cc, y, lms, DD0, ld0, cv0⟩
      rw [en] at hi
      refine ⟨_, rfl, p, c, n', 6, rfl, hpG, by decide, by decide, by omega, fun way G1 w0 w6 hp1 hb1 => ?_⟩
      have k1 := kp_pick hb1
      have ek1 := pen_ek hpG.at k1
      have kp1 := kp.trans k1
      have pm1 := PairsL.ek pm ek1
      have cc1 := cc.ek ek1
      obtain ⟨qs, el, prm⟩ := id pm1
      have lqs : qs.length = ms.length := Paired.length prm
      -- the end of a lap
      have more : ∀ ss : List CellP, ss.length ≤ 4 → ∃ D : List (List Cell), D.length ≤ 1 + 4 * (i + 1) ∧ Cov L (ms ++ ss) D := fun ss l => by
        obtain ⟨D', a, b⟩ := cov_more cv0 ss
        exact ⟨D', by omega, b⟩
      have fin : ∀ (Dd : Ends), (∀ (σ : L2.St) (G : Hp), (∃ (l1 r : Addr) (ms : List CellP) (cs : List Cell) (n' : Nat) (v5 v6 v7 v8 v9 v10 : Option V), σ = [some (.ref p), some (.ref t), some (.int (laps : Int)), some (.ref l1), some (.ref r), v5, v6, v7, v8, v9, v10] ∧ PenC G p c n' ∧ n' ≤ n + 10 * (i + 1) ∧ Kp [p] H G ∧ PairsL G l1 ms ∧ CellsT G r cs ∧ Here L ms cs ∧ ms.length ≤ 6 * (i + 1) ∧ ∃ D : List (List Cell), D.length ≤ 1 + 4 * (i + 1) ∧ Cov L ms D) → Dd.nx σ G) → ∀ (U : Hp) (sl : Addr) (ss : List CellP) (n2 : Nat) (v8 : Option V), Kp [p] G1 U → PenC U p c n2 → n2 ≤ n + 10 * (i + 1) → PairsL U sl ss → goB cs ss = true → ss.length ≤ 6 → (∃ D : List (List Cell), D.length ≤ 1 + 4 * (i + 1) ∧ Cov L (ms ++ ss) D) → t2 Dd [some (.ref p), some (.ref t), some (.int (laps : Int)), some (.ref l1), some (.ref r), some (.int (0 + (i : Int))), some (.int way), some (.ref sl), v8, v9, v10] U := fun Dd hD U sl ss n2 v8 kU hpU hn2 ps gs l6 cvS =>
        key2 Dd U l1 r sl ms ss L cs _ _ _ _ _ _ _ _ (PairsL.ek pm1 (pen_ek hp1.at kU)) ps (cc1.ek (pen_ek hp1.at kU)) y gs (by omega) fun U' l1' r' cs' v9 v10 s3 p3 c3 y3 =>
          hD _ _ ⟨l1', r', ms ++ ss, cs', n2, _, _, _, _, _, _, rfl, hpU.same s3, hn2, (kp1.trans kU).trans (Kp.of s3), p3, c3, y3, by rw [List.length_append]; omega, cvS⟩
      refine ⟨_, rfl, rfl, _, rfl, ?_⟩
      refine ite2 (fun h1 => ?_) (fun h1 => ?_)
      · refine ⟨_, rfl, Nat.zero_le _, fun e7 he7 => ?_⟩
        have s7 := same_new (o := .lst []) he7
        refine ⟨_, _, (Ek.of s7).dp _ _ pm1.dp, .lst (SqL.of upd_same) .nil, lay_pairsL.shaped (by decide), (lay_list (n := 0) (ds := []) (by simp)).shaped (by decide), _, rfl, ?_⟩
        rw [eqv_nilD]
        have el7 := s7 _ _ el
        have pm7 := paired_imp (fun _ _ (h : PairAt G1 _ _) => h.same s7) prm
        have cc7 := cc1.ek (.of s7)
        have hp7 := hp1.same s7
        generalize upd G1 e7 (.lst []) = G7 at s7 el7 pm7 cc7 hp7
        refine ite2 (fun h2 => ?_) (fun h2 => ?_)
        · -- a way back
          have pos : 1 ≤ ms.length := List.length_pos_iff.mpr fun z => by
            rw [z] at h2
            simp at h2
          refine ⟨_, rfl, _, rfl, _, rfl, _, rfl, l1, _, rfl, .inl (SqL.of el7), p, c, n' + 1, ((qs.map V.ref).length : Int), rfl, hp7, by rw [List.length_map]; omega, by rw [List.length_map]; omega, by omega, fun dd G8 d0 d1 hp8 hb8 => ?_⟩
          have k8 := kp_pick hb8
          have ek8 := pen_ek hp7.at k8
          have el8 := ek8.lst el7
          refine ⟨_, _, rfl, rfl, _, rfl, l1, _, rfl, SqL.of el8, fun sl hsl => ?_⟩
          have s9 := same_new (o := .lst (cutV (qs.map V.ref) (some (-1 - dd)) none)) hsl
          rw [cut_neg _ d0 d1, ← List.map_drop] at s9
          rw [cut_neg _ d0 d1, ← List.map_drop]
          obtain ⟨kk, ekk⟩ : ∃ kk, (qs.map V.ref).length - 1 - dd.toNat = kk := ⟨_, rfl⟩
          rw [ekk] at s9 ⊢
          have esl : upd G8 sl (.lst ((qs.drop kk).map V.ref)) sl = some (.lst ((qs.drop kk).map V.ref)) := upd_same
          have psl := paired_imp (fun _ _ (h : PairAt G7 _ _) => (h.ek ek8).same s9) (paired_dropW pm7 kk)
          generalize upd G8 sl (.lst ((qs.drop kk).map V.ref)) = G9 at s9 esl psl
          refine ⟨sl, ms.drop kk, rfl, ⟨qs.drop kk, esl, psl⟩, by rw [List.length_drop]; omega, fun r3 G10 s10 pT => ?_⟩
          obtain ⟨rs, er, prr⟩ := pT
          refine ⟨r3, _, rfl, .inr (SqT.of er), fun l3 hl3 => ?_⟩
          have s11 := same_new (o := .lst (rs.map V.ref)) hl3
          have el3 : upd G10 l3 (.lst (rs.map V.ref)) l3 = some (.lst (rs.map V.ref)) := upd_same
          have prr3 := paired_imp (fun _ _ (h : PairAt G10 _ _) => h.same s11) prr
          generalize upd G10 l3 (.lst (rs.map V.ref)) = G11 at s11 el3 prr3
          refine ⟨(6 : Int), rfl, l3, _, rfl, SqL.of el3, fun l4 hl4 => ?_⟩
          have s12 := same_new (o := .lst (cutV (rs.map V.ref) none (some 6))) hl4
          have e12 : cutV (rs.map V.ref) none (some 6) = (rs.take 6).map V.ref := by
            rw [show (some (6 : Int)) = some ((6 : Nat) : Int) from rfl, cut_take, List.map_take]
          rw [e12] at s12 ⊢
          have sAll := ((s9.trans s10).trans s11).trans s12
          exact fin _ (fun _ _ h => h) _ l4 ((backM (ms.drop kk)).take 6) (n' + 1 + 1) _ (((Kp.of s7).trans k8).trans (Kp.of sAll)) (hp8.same sAll) (by omega) ⟨rs.take 6, upd_same, paired_imp (fun _ _ h => h.same s12) (paired_take prr3 6)⟩ (by rw [goB_cong _ y.e]; exact back_part y.g kk 6) (by rw [List.length_take]; omega) ⟨DD0, by omega, cov_back cv0 y.g kk 6⟩
        ·
          refine ⟨_, rfl, _, _, rfl, rfl, _, rfl, ?_⟩
          refine ite2 (fun h5 => ?_) (fun h5 => ?_)
          · refine ⟨_, rfl, _, rfl, p, c, r, n' + 1, cs, rfl, hp7, by omega, cc7, y.n, y.h, y.l, fun sl G2 ss n2 hp2 hn2 kp2 ps ls gs => ?_⟩
            exact fin _ (fun _ _ h => h) G2 sl ss n2 _ ((fun (h : Kp [p] G7 _) => (Kp.of s7).trans h) kp2) hp2 (by omega) ps gs (by omega) (more _ ls)
          · refine ⟨_, rfl, r, cs, rfl, cc7, y.n, by have := y.l; omega, fun ml G2 s2 cm => ?_⟩
            have cm : PairsL G2 ml (movesL cs) := cm
            refine ⟨_, rfl, Nat.zero_le _, fun e8 he8 => ?_⟩
            have s8 := same_new (o := .lst []) he8
            refine ⟨_, _, (Ek.of s8).dp _ _ cm.dp, .lst (SqL.of upd_same) .nil, lay_pairsL.shaped (by decide), (lay_list (n := 0) (ds := []) (by simp)).shaped (by decide), _, rfl, ?_⟩
            rw [eqv_nilD]
            have s28 := s2.trans s8
            have cm8 := cm.ek (.of s8)
            generalize upd G2 e8 (.lst []) = G8 at s28 cm8
            have hp8 := hp7.same s28
            refine ite2 (fun h6 => ?_) (fun h6 => ?_)
            · obtain ⟨us, eml, pru⟩ := cm8
              have lus : us.length = (movesL cs).length := Paired.length pru
              have few := moves_few (L := cs) y.l
              have pos : 1 ≤ (movesL cs).length := List.length_pos_iff.mpr fun z => by
                rw [z] at h6
                simp at h6
              refine ⟨_, rfl, _, rfl, p, c, ml, n' + 1, us.map V.ref, rfl, hp8, by omega, .inl (SqL.of eml), by rw [List.length_map]; omega, by rw [List.length_map]; omega, fun i5 x5 G9 hx5 hp9 hb9 => ?_⟩
              rw [List.getElem?_map] at hx5
              obtain ⟨u, hu, rfl⟩ := Option.map_eq_some_iff.mp hx5
              obtain ⟨m, hmv, pmv⟩ := paired_get pru hu
              have mv : mayW cs m.1 m.2 = true := mem_movesL.mp (List.mem_of_getElem? hmv)
              have k9 := kp_pick hb9
              refine ⟨one_le, fun sl hsl => ?_⟩
              have s10 := same_new (o := .lst [.ref u]) hsl
              exact fin _ (fun _ _ h => h) _ sl [m] (n' + 1 + 1) _ ((fun (h : Kp [p] G7 _) => (Kp.of s7).trans h) (((Kp.of s28).trans k9).trans (Kp.of s10))) (hp9.same s10) (by omega) ⟨[u], upd_same, .cons ((PairAt.ek pmv (pen_ek hp8.at k9)).same s10) .nil⟩ (by show (mayW cs m.1 m.2 && true) = true; rw [mv]; rfl) (by show 1 ≤ 6; decide) (more [m] (by show 1 ≤ 4; decide))
            · refine ⟨Nat.zero_le _, fun sl hsl => ?_⟩
              have s10 := same_new (o := .lst []) hsl
              exact fin _ (fun _ _ h => h) _ sl [] (n' + 1) _ ((fun (h : Kp [p] G7 _) => (Kp.of s7).trans h) ((Kp.of s28).trans (Kp.of s10))) (hp8.same s10) (by omega) ⟨[], upd_same, .nil⟩ rfl (Nat.zero_le _) (more [] (Nat.zero_le _))

      ·
        refine ⟨_, rfl, _, _, rfl, rfl, _, rfl, ?_⟩
        refine ite2 (fun h5 => ?_) (fun h5 => ?_)
        · refine ⟨_, rfl, _, rfl, p, c, r, n' + 1, cs, rfl, hp1, by omega, cc1, y.n, y.h, y.l, fun sl G2 ss n2 hp2 hn2 kp2 ps ls gs => ?_⟩
          exact fin _ (fun _ _ h => h) G2 sl ss n2 _ ( kp2) hp2 (by omega) ps gs (by omega) (more _ ls)
        · refine ⟨_, rfl, r, cs, rfl, cc1, y.n, by have := y.l; omega, fun ml G2 s2 cm => ?_⟩
          have cm : PairsL G2 ml (movesL cs) := cm
          refine ⟨_, rfl, Nat.zero_le _, fun e8 he8 => ?_⟩
          have s8 := same_new (o := .lst []) he8
          refine ⟨_, _, (Ek.of s8).dp _ _ cm.dp, .lst (SqL.of upd_same) .nil, lay_pairsL.shaped (by decide), (lay_list (n := 0) (ds := []) (by simp)).shaped (by decide), _, rfl, ?_⟩
          rw [eqv_nilD]
          have s28 := s2.trans s8
          have cm8 := cm.ek (.of s8)
          generalize upd G2 e8 (.lst []) = G8 at s28 cm8
          have hp8 := hp1.same s28
          refine ite2 (fun h6 => ?_) (fun h6 => ?_)
          · obtain ⟨us, eml, pru⟩ := cm8
            have lus : us.length = (movesL cs).length := Paired.length pru
            have few := moves_few (L := cs) y.l
            have pos : 1 ≤ (movesL cs).length := List.length_pos_iff.mpr fun z => by
              rw [z] at h6
              simp at h6
            refine ⟨_, rfl, _, rfl, p, c, ml, n' + 1, us.map V.ref, rfl, hp8, by omega, .inl (SqL.of eml), by rw [List.length_map]; omega, by rw [List.length_map]; omega, fun i5 x5 G9 hx5 hp9 hb9 => ?_⟩
            rw [List.getElem?_map] at hx5
            obtain ⟨u, hu, rfl⟩ := Option.map_eq_some_iff.mp hx5
            obtain ⟨m, hmv, pmv⟩ := paired_get pru hu
            have mv : mayW cs m.1 m.2 = true := mem_movesL.mp (List.mem_of_getElem? hmv)
            have k9 := kp_pick hb9
            refine ⟨one_le, fun sl hsl => ?_⟩
            have s10 := same_new (o := .lst [.ref u]) hsl
            exact fin _ (fun _ _ h => h) _ sl [m] (n' + 1 + 1) _ ( (((Kp.of s28).trans k9).trans (Kp.of s10))) (hp9.same s10) (by omega) ⟨[u], upd_same, .cons ((PairAt.ek pmv (pen_ek hp8.at k9)).same s10) .nil⟩ (by show (mayW cs m.1 m.2 && true) = true; rw [mv]; rfl) (by show 1 ≤ 6; decide) (more [m] (by show 1 ≤ 4; decide))
          · refine ⟨Nat.zero_le _, fun sl hsl => ?_⟩
            have s10 := same_new (o := .lst []) hsl
            exact fin _ (fun _ _ h => h) _ sl [] (n' + 1) _ ( ((Kp.of s28).trans (Kp.of s10))) (hp8.same s10) (by omega) ⟨[], upd_same, .nil⟩ rfl (Nat.zero_le _) (more [] (Nat.zero_le _))

    · rintro σ G ⟨l1, r, ms, cs, n', v5, v6, v7, v8, v9, v10, rfl, hpG, hn', kp, pm, cc, y, lms, DD0, ld0, cv0⟩
      rw [en] at hn' lms ld0
      obtain ⟨qs, el, prm⟩ := pm
      refine ⟨_, rfl, .inl ⟨l1, _, rfl, SqL.of el, fun tp htp => ?_⟩⟩
      have s4 := same_new (o := .tup (qs.map V.ref)) htp
      exact k tp _ ms n' (hpG.same s4) hn' (kp.trans (Kp.of s4)) ⟨qs, upd_same, paired_imp (fun _ _ h => h.same s4) prm⟩ lms y.g DD0 ld0 cv0
end
end Sq

set_option Elab.async false
set_option linter.all false
set_option maxRecDepth 100000
set_option maxHeartbeats 8000000
/-! A tuple backward; bodies as keys of a set; the law k32 in pieces. -/
namespace Sq
open PySem PySem.Spec PyProof.Rows L2
def spT4backT : Sp := fun vs H Q _ => ∃ (t : Addr) (ms : List CellP), vs = [.ref t] ∧ PairsT H t ms ∧ ms.length ≤ 100000 ∧ ∀ r G, Same H G → PairsT G r (backM ms) → Q (.ref r) G
theorem paired_revU {α β : Type} {R : α → β → Prop} : ∀ {xs : List α} {ys : List β}, Paired R xs ys → Paired R xs.reverse ys.reverse
  | _, _, .nil => .nil
  | _, _, .cons h t => by
    rw [List.reverse_cons, List.reverse_cons]
    exact (paired_revU t).snoc h
theorem eqv_planU (pl : List CellP) : PyData.eqv (.tuple (pl.map pD)) (.tuple (pl.map pD)) = true := eqv_self lay_pairsT
theorem eqv_nilU (pl : List CellP) : PyData.eqv (.tuple (pl.map pD)) (.tuple []) = decide (pl = []) := by
  cases pl with
  | nil => rfl
  | cons x xs => rw [decide_eq_false (by simp)]; rfl
theorem nkB_n2 : ∀ L : List Cell, nkAll (L.map cD) = ((L.map fun c => [c.1, c.2]).map fun c => NestedKey.tup (c.map .num))
  | [] => rfl
  | c :: L => by
    show nkD (cD c) :: nkAll (L.map cD) = _ :: _
    rw [nkB_n2 L]
    rfl
theorem keyB_n2 (L : List Cell) : N2 (keyB L) := ⟨L.map fun c => [c.1, c.2], congrArg NestedKey.tup (nkB_n2 L)⟩
theorem ksB_of {H : Hp} {ts : List Addr} {Bs : List (List Cell)} (pr : Paired (fun t B => CellsT H t B) ts Bs) : ∃ ks : List (Addr × NK), (ks.map fun p => V.ref p.1) = ts.map V.ref ∧ ks.map (·.2) = Bs.map keyB ∧ ∀ p ∈ ks, ∃ B, CellsT H p.1 B ∧ p.2 = keyB B := by
  induction pr with
  | nil => exact ⟨[], rfl, rfl, fun p hp => nomatch hp⟩
  | @cons t B ts Bs h _ ih =>
    obtain ⟨ks, e1, e2, e3⟩ := ih
    refine ⟨(t, keyB B) :: ks, by rw [List.map_cons, List.map_cons, e1], by rw [List.map_cons, List.map_cons, e2], fun p hp => ?_⟩
    rcases List.mem_cons.mp hp with z | z
    · rw [z]
      exact ⟨B, h, rfl⟩
    · exact e3 p z
theorem keys_nd {Cs : List (List Cell)} (h : Cs.Nodup) : (Cs.map keyB).Nodup := by
  refine List.pairwise_map.mpr (h.imp fun ne e => ne (keyB_inj e))
section
variable {P : Program} {w : World} {K : PySem.W.Frag} {mg : Str → Option Value} {base : Heap} {Ts : List Addr}
theorem ok_t4backR {f : Addr} {fd : FuncData} (F : FnP K "_law_t4back" lT4back f fd) (B : Bl mg) (gR : mg "reversed" = none) : FnOk P w K mg base CX0 1 f fd ["_law_plan"] spT4backT := by
  refine F.ok scT4bk (fun vs H Q E h => ?_) (fun cdv A outer s H vs Q E hr h => ?_)
  · obtain ⟨l, ms, rfl, _⟩ := h
    rfl
  · obtain ⟨l, ms, rfl, ⟨qs, el, pr⟩, lms, k⟩ := h
    refine ⟨_, PSs.nox (pss_one (ps_ret (pe_tupleOf (by rfl) B.tuple (pe_lc (own := [("_law_start", 1), ("_law_end", 2)]) (g := gTup K 2 (gCons (gName 1) (gCons (gName 2) gNil))) (tt := tYes) rfl scT4bk.nd (pi_reversed (by rfl) gR (pa_cons (pe_callTy call_list_of (by rfl) B.list PyProof.Rows.boot_list (pa_cons (pv 0) pa_nil)) pa_nil)) (blkOk_by (N := ["_law_plan", "_law_start", "_law_end"]) (sc := defScope lT4back) (by decide +kernel)) (fun _ _ _ _ _ => (pg_tup (by rfl) (pgs_cons (pg_name (i := 1) scT4bk.nd rfl (.inl rfl)) (pgs_cons (pg_name (i := 2) scT4bk.nd rfl (.inl rfl)) pgs_nil)))) (fun _ _ _ _ _ => pts_nil) (fun _ _ _ _ _ => (pe_tup (pa_cons (pv 2) (pa_cons (pv 1) pa_nil)))))))), ?_⟩
    have lq : qs.length = ms.length := Paired.length pr
    refine ⟨_, rfl, l, _, rfl, .inr (SqT.of el), fun l2 hl2 => ?_⟩
    have s1 := same_new (o := .lst (qs.map V.ref)) hl2
    have e2 : upd H l2 (.lst (qs.map V.ref)) l2 = some (.lst (qs.map V.ref)) := upd_same
    have pr1 := paired_imp (fun _ _ (h : PairAt H _ _) => h.same s1) pr
    generalize upd H l2 (.lst (qs.map V.ref)) = H1 at s1 e2 pr1 ⊢
    have lb : (backM ms).length = ms.length := by
      unfold backM
      rw [List.length_map, List.length_reverse]
    refine ⟨l2, _, rfl, SqL.of e2, fun D hD => ?_⟩
    refine lc_pairs (walk_rev (K := K) (a := l2) (xs := qs.map V.ref)) hD (fun j => (backM ms).take j) rfl (by rw [List.length_map]; omega) (fun j G _ s => SqL.of (s _ _ e2)) ?_ ?_
    · rintro j x G2 G' K1 K0 hj sm ⟨rfl, hx⟩ k1 k0
      have hj2 : j < (qs.map V.ref).length := hj
      rw [rev_getR hj2, ← List.map_reverse, List.getElem?_map] at hx
      obtain ⟨q, hq, rfl⟩ := Option.map_eq_some_iff.mp hx
      obtain ⟨m, hm, q1, q2, e0, a1, a2⟩ := paired_get (paired_revU pr1) hq
      have gb : (backM ms)[j]? = some (m.2, m.1) := by
        unfold backM
        rw [List.getElem?_map, hm]
        rfl
      refine ⟨q, _, rfl, SqT.of (sm _ _ e0), rfl, _, _, rfl, _, _, rfl, rfl, rfl, yesT ?_⟩
      refine ⟨_, rfl, _, rfl, two_le, fun t ht => ?_⟩
      have s3 := same_new (o := .tup [.ref q2, .ref q1]) ht
      exact k1 t (m.2, m.1) _ s3 ⟨q2, q1, upd_same, s3 _ _ (sm _ _ a2), s3 _ _ (sm _ _ a1)⟩ (take_snoc gb)
    rintro G rs sm gD pr2
    rw [List.length_map, lq, ← lb, List.take_length] at pr2
    refine .inl ⟨D, _, rfl, SqL.of gD, fun tp htp => ?_⟩
    have s4 := same_new (o := .tup (rs.map V.ref)) htp
    exact k tp _ ((s1.trans sm).trans s4) ⟨rs, upd_same, paired_imp (fun _ _ h => h.same s4) pr2⟩
abbrev l32N : List Str := ["_law_script", "_law_pen_here", "_law_body", "_law_plan", "_law_told", "_law_bodies"]
theorem scL32 : FnScope l32N ["_law_script"] (defScope sLaw) := ⟨rfl, rfl, rfl, by decide +kernel, rfl, by decide +kernel, by decide +kernel⟩
variable {f : Addr} {cdv : Value} {A : Around} {outer : List Env} {s : Shared} {H0 : Hp} {E : XK}
theorem p32_end (hr : Room 10 (cxOf CX0 P w K mg base l32N "law" (defScope sLaw) f cdv A outer s H0 E).nox.A) (B : Bl mg) (DW : Df P w K mg base CX0 10 "without_returns" ["body", "plan"] (spWithoutR Ts)) (DBo : Df P w K mg base CX0 4 "_law_t4bodies" ["_law_cells", "_law_plan"] spT4bodX) :
    ∃ t, PSs (cxOf CX0 P w K mg base l32N "law" (defScope sLaw) f cdv A outer s H0 E).nox ((defBody sLaw).drop 8) t ∧
      ∀ (D : Ends) (G : Hp) (t0 r bl : Addr) (L : List Cell) (ms q : List CellP) (ts : List Addr) (Bs Ws : List (List Cell)) (v0 v1 v3 : Option V), CellsT G t0 L → L.Nodup → Asc L → Hangs L → L.length ≤ 100 → ms.length ≤ 200 → PairsT G r q → goB L ms = true → G bl = some (.lst (ts.map V.ref)) → Paired (fun t B => CellsT G t B) ts Bs → BodsIs L ms Bs → Dir Bs ms 0 q → Cov L ms Ws → Ws.length ≤ 61 → TabsG Ts G →
        (∀ G', D.rt (.bl true) G') → t D [v0, v1, some (.ref t0), v3, some (.ref r), some (.ref bl)] G := by
  have h64 := room64 hr
  refine ⟨_, (pss_cons (ps_if (pt_cmpR op_ne (pe_lenSetN rfl h64 (by rfl) B.len (by rfl) B.set (pe_df DBo hr (by rfl) pass0 (pa_cons (pv 2) (pa_cons (pv 4) pa_nil)))) (pe_op op_add (pe_callB call_len_seq (by rfl) B.len PySem.boot_len (pa_cons (pv 4) pa_nil)) pe_int) (nomark _))
      (pss_one (ps_ret pe_bl))
      pss_nil)
      (pss_one (ps_ret (pe_and (pe_cmpR op_eq (pe_cmpR (op_eqK (K := K) rfl h64) (pv 4) (pe_tup pa_nil) (nomark _)) (pe_cmpR (op_eqK (K := K) rfl h64) (pe_ix (ix_listK (K := K) rfl) (pv 5) (pe_un un_neg pe_int) (fun _ _ => rfl)) (pv 2) (nomark _)) (nomark _)) (pe_one (pe_cmpR (op_eqK (K := K) rfl h64) (pe_df DW hr (by rfl) pass0 (pa_cons (pv 2) (pa_cons (pe_tup pa_nil) pa_nil))) (pe_tup pa_nil) (nomark _))))))), ?_⟩
  intro D G t0 r bl L ms q ts Bs Ws v0 v1 v3 ct nL aL hL lL lms pq gm ebl prB bi dq cov few tg k
  obtain ⟨gq, eq, Cs, bq, ndC, sub⟩ := dir_go bi gm dq (Nat.zero_le _)
  have lq := dir_len dq
  have lC := dir_few (r := q) bi cov ndC sub
  have lC1 := bq.1
  refine ⟨_, rfl, _, rfl, t0, r, L, q, rfl, ct, nL, aL, hL, by omega, pq, by omega, gq, fun hl G1 ts1 Cs1 s1 hhl ehl pr1 bi1 => ?_⟩
  obtain rfl := bods_one bq bi1
  obtain ⟨ks, k1, k2, k3⟩ := ksB_of pr1
  have lk : ks.length = q.length + 1 := by
    have z := congrArg List.length k2
    rw [List.length_map, List.length_map] at z
    omega
  have pq1 := PairsT.same pq s1
  obtain ⟨qs, eqs, prq⟩ := id pq1
  have lqs : qs.length = q.length := Paired.length prq
  refine ⟨hl, ks, rfl, by rw [k1]; exact SqL.of ehl, fun p hp => ?_, by omega, by rw [k2]; exact keys_nd ndC, ?_⟩
  · obtain ⟨X, c, e⟩ := k3 p hp
    rw [e]
    exact ⟨c.natB, keyB_n2 X⟩
  refine ⟨_, rfl, r, _, rfl, .inr (SqT.of eqs), _, _, rfl, rfl, rfl, _, rfl, ?_⟩
  rw [List.length_map, lqs, lk]
  refine iteN (by simp) ?_
  -- the end
  have lts : ts.length = Bs.length := Paired.length prB
  have lBs := bi.1
  obtain ⟨B0, hB0⟩ : ∃ X, Bs[0]? = some X := ⟨_, List.getElem?_eq_getElem (by omega)⟩
  obtain ⟨n0, a0, e0⟩ := bi.2 0 B0 hB0
  obtain rfl : B0 = L := (asc_eq n0 nL a0 aL).mpr e0
  have nil := dir_nil lBs dq
  obtain ⟨Xs, Be, rfl, nB, aB, eB⟩ := bods_last bi
  have lX : Xs.length = ms.length := by
    rw [List.length_append] at lBs
    exact Nat.succ.inj lBs
  have hEnd : (Xs ++ [Be])[ms.length]? = some Be := by rw [← lX]; simp
  rw [hEnd, hB0] at nil
  have nts : ts ≠ [] := fun z => by
    rw [z, List.length_append] at lts
    cases lts
  obtain ⟨ts', u, rfl⟩ := snoc_inv nts
  obtain ⟨_, cu⟩ := paired_unsnoc prB
  have cu : CellsT G u Be := cu
  have ebl' : G bl = some (.lst (ts'.map V.ref ++ [V.ref u])) := by rw [ebl, List.map_append]; rfl
  refine ⟨_, rfl, Nat.zero_le _, fun y1 hy1 => ?_⟩
  have s2 := same_new (o := .tup []) hy1
  have e2 := upd_same (H := G1) (a := y1) (o := .tup [])
  generalize upd G1 y1 (.tup []) = G2 at s2 e2
  have s12 := s1.trans s2
  refine ⟨.tuple (q.map pD), .tuple [], (PairsT.same pq1 s2).dp, .tup (SqT.of e2) .nil, lay_pairsT.shaped (by decide), (lay_tuple (n := 0) (ds := []) (by simp)).shaped (by decide), ?_⟩
  rw [eqv_nilU]
  refine ⟨_, rfl, _, rfl, bl, _, _, _, rfl, rfl, SqL.of (s12 _ _ ebl'), atI_last _ _, _, rfl, bD Be, bD B0, (cu.ek (.of s12)).dp, (ct.ek (.of s12)).dp, (lay_bD _).shaped (by decide), (lay_bD _).shaped (by decide), ?_⟩
  rw [eqv_bD]
  have eb : decide (q = []) = decide (Be = B0) := by
    rw [decide_eq_decide, nil]
    exact ⟨fun z => Option.some.inj z, fun z => congrArg some z⟩
  refine ⟨rfl, true, by rw [eb]; exact congrArg V.bl (decide_eq_true rfl), iteT ?_⟩
  refine ⟨_, rfl, Nat.zero_le _, fun y2 hy2 => ?_⟩
  have s3 := same_new (o := .tup []) hy2
  have e3 := upd_same (H := G2) (a := y2) (o := .tup [])
  generalize upd G2 y2 (.tup []) = G3 at s3 e3
  have s13 := s12.trans s3
  refine ⟨t0, y2, B0, [], [], rfl, ct.ek (.of s13), nL, aL, hL, by omega, .inr e3, .nil, Nat.zero_le _, rfl, tg.same s13, fun r9 G4 q9 Bs9 k4 pq9 bi9 d9 => ?_⟩
  obtain rfl : q9 = [] := List.eq_nil_of_length_eq_zero (Nat.le_zero.mp (dir_len d9))
  refine ⟨Nat.zero_le _, fun y3 hy3 => ?_⟩
  have s5 := same_new (o := .tup []) hy3
  refine ⟨.tuple ([].map pD), .tuple [], (PairsT.same pq9 s5).dp, .tup (SqT.of upd_same) .nil, lay_pairsT.shaped (by decide), (lay_tuple (n := 0) (ds := []) (by simp)).shaped (by decide), ?_⟩
  rw [eqv_nilU]
  exact k _
theorem p32_told (hr : Room 10 (cxOf CX0 P w K mg base l32N "law" (defScope sLaw) f cdv A outer s H0 E).nox.A) (B : Bl mg) (DW : Df P w K mg base CX0 10 "without_returns" ["body", "plan"] (spWithoutR Ts)) (DBo : Df P w K mg base CX0 4 "_law_t4bodies" ["_law_cells", "_law_plan"] spT4bodX)
    (DT : Df P w K mg base CX0 5 "_law_t4without" ["_law_cells", "_law_plan"] spT4without) (DLe : Df P w K mg base CX0 5 "_law_t4leads" ["_law_cells", "_law_plan", "_law_other"] spT4leads) :
    ∃ t, PSs (cxOf CX0 P w K mg base l32N "law" (defScope sLaw) f cdv A outer s H0 E).nox ((defBody sLaw).drop 4) t ∧
      ∀ (D : Ends) (G : Hp) (t0 pl : Addr) (L : List Cell) (ms : List CellP) (Ws : List (List Cell)) (v0 v1 v4 v5 : Option V), CellsT G t0 L → L.Nodup → Asc L → Hangs L → L.length ≤ 100 → PairsT G pl ms → ms.length ≤ 200 → goB L ms = true → Cov L ms Ws → Ws.length ≤ 61 → TabsG Ts G →
        (∀ G', D.rt (.bl true) G') → t D [v0, v1, some (.ref t0), some (.ref pl), v4, v5] G := by
  have h64 := room64 hr
  obtain ⟨tl, htl, key⟩ := p32_end (P := P) (w := w) (K := K) (mg := mg) (base := base) (Ts := Ts) (f := f) (cdv := cdv) (A := A) (outer := outer) (s := s) (H0 := H0) (E := E) hr B DW DBo
  refine ⟨_, (pss_cons (ps_set (i := 4) scL32.nd rfl (.inl rfl) (pe_df DW hr (by rfl) pass0 (pa_cons (pv 2) (pa_cons (pv 3) pa_nil))))
      (pss_cons (ps_if (PW.pt (pw_or (pt_cmpR (op_neK (K := K) rfl h64) (pv 4) (pe_df DT hr (by rfl) pass0 (pa_cons (pv 2) (pa_cons (pv 3) pa_nil))) (nomark _)) (pw_or1 (pt_cmpR (op_neK (K := K) rfl h64) (pe_df DW hr (by rfl) pass0 (pa_cons (pv 2) (pa_cons (pe_callTy call_list_of (by rfl) B.list PyProof.Rows.boot_list (pa_cons (pv 3) pa_nil)) pa_nil))) (pv 4) (nomark _)))))
      (pss_one (ps_ret pe_bl))
      pss_nil)
      (pss_cons (ps_set (i := 5) scL32.nd rfl (.inl rfl) (pe_df DBo hr (by rfl) pass0 (pa_cons (pv 2) (pa_cons (pv 3) pa_nil))))
      (pss_cons (ps_if (PW.pt (pw_or (pt_not (pt_val (pe_df DLe hr (by rfl) pass0 (pa_cons (pv 2) (pa_cons (pv 4) (pa_cons (pe_ix (ix_listK (K := K) rfl) (pv 5) (pe_un un_neg pe_int) (fun _ _ => rfl)) pa_nil)))))) (pw_or1 (pt_cmpR (op_neK (K := K) rfl h64) (pe_df DW hr (by rfl) pass0 (pa_cons (pv 2) (pa_cons (pv 4) pa_nil))) (pv 4) (nomark _)))))
      (pss_one (ps_ret pe_bl))
      pss_nil) htl)))), ?_⟩
  intro D G t0 pl L ms Ws v0 v1 v4 v5 ct nL aL hL lL pm lm gm cov few tg k
  obtain ⟨ps, epl, pps⟩ := id pm
  have lps : ps.length = ms.length := Paired.length pps
  refine ⟨_, rfl, _, rfl, t0, pl, L, ms, ps, rfl, ct, nL, aL, hL, by omega, .inr epl, pps, lm, gm, tg, fun r G1 q Bs k1 pq bi dq => ?_⟩
  obtain ⟨gq, eq, Cs, bq, ndC, sub⟩ := dir_go bi gm dq (Nat.zero_le _)
  have eq : EqC (goL L q) (goL L ms) := eq
  have lq := dir_len dq
  have ct1 := ct.ek k1.ek
  have pm1 : PairsT G1 pl ms := PairsT.ek pm k1.ek
  have tg1 := k1.tb'
  -- the law's own
  refine ⟨_, rfl, _, rfl, _, rfl, t0, pl, L, ms, rfl, ct1, nL, aL, hL, by omega, pm1, by omega, gm, fun r2 G2 q2 Bs2 s2 pq2 bi2 d2 => ?_⟩
  obtain rfl := bods_one bi bi2
  obtain rfl := dir_one dq d2
  have pqB := PairsT.same pq s2
  refine ⟨.tuple (q.map pD), .tuple (q.map pD), pqB.dp, pq2.dp, lay_pairsT.shaped (by decide), lay_pairsT.shaped (by decide), _, rfl, ?_⟩
  rw [eqv_planU]
  refine iteN (by simp) ?_
  have pm2 := PairsT.same pm1 s2
  obtain ⟨ps2, ep2, pp2⟩ := id pm2
  have ct2 := ct1.ek (.of s2)
  have tg2 := tg1.same s2
  -- the plan as a list
  refine ⟨_, rfl, _, rfl, pl, _, rfl, .inr (SqT.of ep2), fun l3 hl3 => ?_⟩
  have s3 := same_new (o := .lst (ps2.map V.ref)) hl3
  have e3 := upd_same (H := G2) (a := l3) (o := .lst (ps2.map V.ref))
  generalize upd G2 l3 (.lst (ps2.map V.ref)) = G3 at s3 e3
  have ct3 := ct2.ek (.of s3)
  have tg3 := tg2.same s3
  have pm3 := PairsT.same pm2 s3
  have pq3 := PairsT.same pqB s3
  refine ⟨t0, l3, L, ms, ps2, rfl, ct3, nL, aL, hL, by omega, .inl e3, paired_imp (fun _ _ (h : PairAt G2 _ _) => h.same s3) pp2, lm, gm, tg3, fun r4 G4 q4 Bs4 k4 pq4 bi4 d4 => ?_⟩
  obtain rfl := bods_one bi bi4
  obtain rfl := dir_one dq d4
  have pqD := PairsT.ek pq3 k4.ek
  refine ⟨_, rfl, .tuple (q.map pD), .tuple (q.map pD), pq4.dp, pqD.dp, lay_pairsT.shaped (by decide), lay_pairsT.shaped (by decide), _, rfl, ?_⟩
  rw [eqv_planU]
  refine iteN (by simp) ?_
  have ct4 := ct3.ek k4.ek
  have pm4 : PairsT G4 pl ms := PairsT.ek pm3 k4.ek
  have tg4 := k4.tb'
  refine ⟨_, rfl, _, rfl, t0, pl, L, ms, rfl, ct4, nL, aL, hL, by omega, pm4, by omega, gm, fun bl G5 ts Bs5 s5 hbl ebl prB bi5 => ?_⟩
  obtain rfl := bods_one bi bi5
  have ct5 := ct4.ek (.of s5)
  have pq5 := PairsT.same pqD s5
  have tg5 := tg4.same s5
  obtain ⟨Xs, Be, eXs, nB, aB, eB⟩ := bods_last bi
  have nts : ts ≠ [] := fun z => by
    have := Paired.length prB
    rw [z, eXs, List.length_append] at this
    cases this
  obtain ⟨ts', u, rfl⟩ := snoc_inv nts
  have prB2 := prB
  rw [eXs] at prB2
  obtain ⟨_, cu⟩ := paired_unsnoc prB2
  have cu : CellsT G5 u Be := cu
  have ebl' : G5 bl = some (.lst (ts'.map V.ref ++ [V.ref u])) := by rw [ebl, List.map_append]; rfl
  refine ⟨_, rfl, _, rfl, _, rfl, _, rfl, bl, _, _, .ref u, rfl, rfl, SqL.of ebl', atI_last _ _, ?_⟩
  refine ⟨t0, r, u, L, Be, q, rfl, ct5, nL, aL, hL, by omega, cu, nB, aB, pq5, by omega, gq, eqC_trans eq (eqC_symm eB), fun G6 s6 => ⟨_, rfl, iteN (by simp) ?_⟩⟩
  have ct6 := ct5.ek (.of s6)
  have pq6 := PairsT.same pq5 s6
  have tg6 := tg5.same s6
  obtain ⟨qs6, eq6, pr6⟩ := id pq6
  refine ⟨_, rfl, _, rfl, t0, r, L, q, qs6, rfl, ct6, nL, aL, hL, by omega, .inr eq6, pr6, by omega, gq, tg6, fun r7 G7 q7 Bs7 k7 pq7 bi7 d7 => ?_⟩
  obtain rfl := bods_one bq bi7
  obtain rfl : q = q7 := dir_one (dir_self bq ndC q.length 0 (Nat.zero_add _)) d7
  have pq8 := PairsT.ek pq6 k7.ek
  refine ⟨_, rfl, .tuple (q.map pD), .tuple (q.map pD), pq7.dp, pq8.dp, lay_pairsT.shaped (by decide), lay_pairsT.shaped (by decide), _, rfl, ?_⟩
  rw [eqv_planU]
  refine iteN (by simp) ?_
  have ebl7 := k7.lst (s6 _ _ ebl)
  exact key D G7 t0 r bl L ms q _ Bs Ws _ _ _ (ct6.ek k7.ek) nL aL hL lL lm pq8 gm ebl7 (paired_imp (fun _ _ (h : CellsT G5 _ _) => CellsT.ek (CellsT.ek h (.of s6)) k7.ek) prB) bi dq cov few k7.tb' k
end
end Sq

set_option Elab.async false
set_option linter.all false
set_option maxRecDepth 100000
set_option maxHeartbeats 8000000
/-! The law k32. -/
namespace Sq
open PySem PySem.Spec PyProof.Rows L2
def spLaw (K : PySem.W.Frag) (Ts : List Addr) : Sp := fun vs H Q _ => ∃ (a : Addr) (zs : List Int), vs = [.ref a] ∧ SqL K H a (zs.map V.int) ∧ zs.length ≤ 63 ∧ TabsG Ts H ∧ ∀ H', Q (.bl true) H'
section
variable {P : Program} {w : World} {K : PySem.W.Frag} {mg : Str → Option Value} {base : Heap} {Ts : List Addr}
theorem ok_law {f : Addr} {fd : FuncData} (F : FnP K "law" sLaw f fd) (B : Bl mg) (D0 : Df P w K mg base CX0 1 "_law_pen" ["_law_script"] (spPen K)) (DR : Df P w K mg base CX0 1 "_law_draw" ["_law_pen_here", "_law_many"] spDrawC) (DWb : Df P w K mg base CX0 3 "_law_w_body" ["_law_pen_here", "_law_many"] spWBody) (DPl : Df P w K mg base CX0 5 "_law_t4plan" ["_law_pen_here", "_law_cells", "_law_laps"] spT4planC) (DBk : Df P w K mg base CX0 1 "_law_t4back" ["_law_plan"] spT4backT)
    (DW : Df P w K mg base CX0 10 "without_returns" ["body", "plan"] (spWithoutR Ts)) (DBo : Df P w K mg base CX0 4 "_law_t4bodies" ["_law_cells", "_law_plan"] spT4bodX) (DT : Df P w K mg base CX0 5 "_law_t4without" ["_law_cells", "_law_plan"] spT4without) (DLe : Df P w K mg base CX0 5 "_law_t4leads" ["_law_cells", "_law_plan", "_law_other"] spT4leads) :
    FnOk P w K mg base CX0 11 f fd ["_law_script"] (spLaw K Ts) := by
  refine F.ok scL32 (fun vs H Q E h => ?_) (fun cdv A outer s H vs Q E hr h => ?_)
  · obtain ⟨a, zs, rfl, _⟩ := h
    rfl
  · obtain ⟨a, zs, rfl, hS, hl, tg, k⟩ := h
    obtain ⟨tl, htl, key⟩ := p32_told (P := P) (w := w) (K := K) (mg := mg) (base := base) (Ts := Ts) (f := f) (cdv := cdv) (A := A) (outer := outer) (s := s) (H0 := H) (E := E) hr B DW DBo DT DLe
    refine ⟨_, PSs.nox (pss_cons (ps_set (i := 1) scL32.nd rfl (.inl rfl) (pe_df D0 hr (by rfl) pass0 (pa_cons (pv 0) pa_nil)))
      (pss_cons (ps_set (i := 2) scL32.nd rfl (.inl rfl) (pe_df DWb hr (by rfl) pass0 (pa_cons (pv 1) (pa_cons (pe_op op_add pe_int (pe_df DR hr (by rfl) pass0 (pa_cons (pv 1) (pa_cons pe_int pa_nil)))) pa_nil))))
      (pss_cons (ps_set (i := 3) scL32.nd rfl (.inl rfl) (pe_df DPl hr (by rfl) pass0 (pa_cons (pv 1) (pa_cons (pv 2) (pa_cons (pe_df DR hr (by rfl) pass0 (pa_cons (pv 1) (pa_cons pe_int pa_nil))) pa_nil)))))
      (pss_cons (ps_if (pt_cmpR op_eq (pe_df DR hr (by rfl) pass0 (pa_cons (pv 1) (pa_cons pe_int pa_nil))) pe_int (nomark _))
      (pss_one (ps_set (i := 3) scL32.nd rfl (.inl rfl) (pe_op op_catA (pv 3) (pe_df DBk hr (by rfl) pass0 (pa_cons (pv 3) pa_nil)))))
      pss_nil)
      htl)))), ?_⟩
    refine ⟨_, rfl, a, zs, rfl, hS, hl, fun p H1 hp1 s1 np => ?_⟩
    obtain ⟨c, hp1⟩ := hp1.c
    have tg1 := tg.same s1
    refine ⟨_, rfl, _, rfl, p, c, 0, 6, rfl, hp1, by decide, by decide, by decide, fun r G1 r0 r1 hp2 hb1 => ?_⟩
    obtain ⟨j, rfl⟩ := Int.eq_ofNat_of_zero_le r0
    have k1 := kp_pick hb1
    have tg2 := pen_tabs hp1.at k1 tg1
    refine ⟨_, _, rfl, rfl, p, c, 0 + 1, 2 + j, rfl, hp2, by omega, by omega, by omega, fun t G2 L n2 hp3 hn2 k2 ct nL aL lL hL _ => ?_⟩
    have tg3 := pen_tabs hp2.at k2 tg2
    have l7 : L.length ≤ 7 := by omega
    refine ⟨_, rfl, _, rfl, _, rfl, p, c, n2, 16, rfl, hp3, by decide, by decide, by omega, fun l G4 l0 l1 hp4 hb4 => ?_⟩
    obtain ⟨laps, rfl⟩ := Int.eq_ofNat_of_zero_le l0
    have k4 := kp_pick hb4
    have ek4 := pen_ek hp3.at k4
    have tg4 := pen_tabs hp3.at k4 tg3
    have ct4 := ct.ek ek4
    refine ⟨p, c, t, n2 + 1, laps, L, rfl, hp4, by omega, by omega, ct4, nL, aL, hL, by omega, fun pl G5 ms n5 hp5 hn5 k5 pm lm gm Ws lw cov => ?_⟩
    have ek5 := pen_ek hp4.at k5
    have tg5 := pen_tabs hp4.at k5 tg4
    have ct5 := ct4.ek ek5
    refine ⟨_, rfl, p, c, n5, 4, rfl, hp5, by decide, by decide, by omega, fun e G6 e0 e1 hp6 hb6 => ⟨rfl, _, rfl, ?_⟩⟩
    have k6 := kp_pick hb6
    have ek6 := pen_ek hp5.at k6
    have tg6 := pen_tabs hp5.at k6 tg5
    have ct6 := ct5.ek ek6
    have pm6 := PairsT.ek pm ek6
    refine ite2 (fun h2 => ?_) (fun h2 => ?_)
    · refine ⟨_, rfl, _, rfl, pl, ms, rfl, pm6, by omega, fun r7 G7 s7 t7 => ?_⟩
      refine cat_pairs (PairsT.same pm6 s7) t7 (by rw [backM_len]; omega) fun r8 G8 s8 t8 => ?_
      have s78 := s7.trans s8
      have cv := cov_back cov gm 0 ms.length
      rw [List.drop_zero, List.take_of_length_le (by rw [backM_len]; exact Nat.le_refl _)] at cv
      exact key _ G8 t r8 L _ Ws _ _ _ _ (ct6.ek (.of s78)) nL aL hL (by omega) t8 (by rw [List.length_append, backM_len]; omega) (by rw [goB_app, gm, back_okX _ ms rfl gm]; rfl) cv (by omega) (tg6.same s78) k
    · exact key _ G6 t pl L ms Ws _ _ _ _ ct6 nL aL hL (by omega) pm6 (by omega) gm cov (by omega) tg6 k
end
end Sq

set_option Elab.async false
set_option linter.all false
set_option maxRecDepth 100000
set_option maxHeartbeats 4000000
/-! What the head must tell of the errors' classes, as a Bool and a datum. -/
namespace Sq
open PySem PySem.Spec PyProof.Rows L2
/-! ### the text of an __init__ -/
structure ITxt (st : Stmt) (ns : List Str) : Prop where
  ex : ∃ (msg : Str) (j : Nat) (p0 p1 p2 p3 p4 p5 : Pos) (ps : List Ps) (ar : Arg), defBody st = supS msg j p0 p1 p2 p3 p4 p5 :: (ns.zip ps).map (fun z => keepS z.1 z.2) ∧ ns.length ≤ ps.length ∧ ((defArgs st).posonlyargs ++ (defArgs st).args).head? = some ar ∧
    ar.arg = "self" ∧ (p2.endLine == p4.line) = true
  bind : ∀ (name qual : Str) (kV doc pm cdv ct : Value) (an : Option Addr) (cc : Addr) (s : Shared) (us : List Value), us.length = ns.length + 1 →
    BindsTo s (PySem.W.ksFn name qual (defArgs st) (defBody st) (defScope st) .none kV doc pm an cdv ct cc) ⟨us, []⟩ ((("self" : Str) :: ns).zip us)
  sup : (defScope st).names.lookup ("super" : Str) = some .globalImplicit
  cls : (defScope st).names.lookup ("__class__" : Str) = some .free
  loc : ∀ x ∈ (("self" : Str) :: ns), (defScope st).names.lookup x = some .local
  dbg : ∀ x ∈ ns, (x == ("__debug__" : Str)) = false
  cell : ∀ x ∈ (defScope st).names, x.2 ≠ .cell
  co : (defScope st).isCoroutine = false
  gen : (defScope st).isGenerator = false
  kind : (defScope st).kind = .function
  nd : ns.Nodup
  noSelf : ("self" : Str) ∉ ns
  len : ns.length ≤ 900
abbrev sI (j : Nat) : Stmt := inClass (top j) 0
theorem iBadBody : ITxt (sI 2) ["cells"] := ⟨⟨_, _, _, _, _, _, _, _, [⟨_, _, _, _⟩], _, rfl, by decide, rfl, rfl, rfl⟩, fun _ _ _ _ _ _ _ _ _ _ us hl => (match us, hl with | [_, _], _ => .of_eq rfl), rfl, rfl, by decide +kernel, by decide +kernel, by decide +kernel, rfl, rfl, rfl, by decide +kernel, by decide +kernel, by decide⟩
theorem iNotKept : ITxt (sI 3) ["promise", "witness"] := ⟨⟨_, _, _, _, _, _, _, _, [⟨_, _, _, _⟩, ⟨_, _, _, _⟩], _, rfl, by decide, rfl, rfl, rfl⟩, fun _ _ _ _ _ _ _ _ _ _ us hl => (match us, hl with | [_, _, _], _ => .of_eq rfl), rfl, rfl, by decide +kernel, by decide +kernel, by decide +kernel, rfl, rfl, rfl, by decide +kernel, by decide +kernel, by decide⟩
/-! ### what is looked at -/
abbrev FnI : Type := Option (Str × Str × Arguments × FuncBody × Scope × Addr × List Str × Addr)
def obsI (K : PySem.W.Frag) (x : Str) : FnI := match K.lookup (He.ma K (He.ga K x) "__init__") with
  | some ⟨_, _, .func fd, _⟩ => some (fd.name, fd.qualname, fd.params, fd.body, fd.scope, fd.globals, fd.closure.map (·.1), fd.builtins)
  | _ => none
def valI (x : Str) (st : Stmt) : FnI := some ("__init__", x ++ ".__init__", defArgs st, .stmts (defBody st), defScope st, mainGlobals, ["__class__"], builtinsNs)
/-- the __init__'s function: no defaults, its code of this file, its cell the class -/
def fnB (file : Str) (K : PySem.W.Frag) (C fI : Addr) (qual : Str) : Bool := match K.lookup fI with
  | some ⟨_, _, .func fd, _⟩ => (match fd.defaults with
      | .none => true
      | _ => false) && (match fd.code with
      | .ref c => PySem.W.codeIn K (.ref c) qual && (match K.lookup c with
        | some ⟨_, _, .fields vs, _⟩ => (match (vs[2]? : Option Value) with
          | some (.str z _) => decide (z = file)
          | _ => false)
        | _ => false)
      | _ => false) && (match fd.closure with
      | [(_, cc)] => (match K.lookup cc with
        | some ⟨_, _, .cell (some (.ref D)), _⟩ => Nat.beq D C
        | _ => false)
      | _ => false)
  | _ => false
/-- the class's object -/
def clB (K : PySem.W.Frag) (C : Addr) : Bool := match K.lookup C with
  | some ⟨.type T, _, .cls cd, sl⟩ => decide (T = "type") && (match cd.mro, sl.toList with
      | .ref C0 :: tl, [_, _, _, _, some (.builtin nw), _] => Nat.beq C0 C && (decide (nw = "ValueError.__new__") && (!cd.hasDel && (cd.hasDict && (PySem.HandSPX.refsVE tl && He.eqO (PySem.W.alongIn K "__init__" tl) (some (some (.builtin "ValueError.__init__")))))))
      | _, _ => false)
  | _ => false
def obB (a b : Option Bool) : Bool := decide (a = b)
def errB (file : Str) (K : PySem.W.Frag) (x : Str) (ns : List Str) : Bool :=
  clB K (He.ga K x) && (fnB file K (He.ga K x) (He.ma K (He.ga K x) "__init__") (x ++ ".__init__") && (He.eqO (PySem.W.findIn K (.ref (He.ga K x)) "__setattr__") (some (some (.builtin "object.__setattr__"))) &&
  (He.eqO (PySem.W.findIn K (.ref (He.ga K x)) "__init__") (some (some (.ref (He.ma K (He.ga K x) "__init__")))) && (decide (PySem.W.typeIn K (.ref (He.ma K (He.ga K x) "__init__")) = some (.type "function")) && (PySem.W.keepIn K (.ref (He.ga K x)) &&
  (obB (PySem.W.subIn K (.ref (He.ga K x)) (.type "ValueError")) (some true) && (obB (PySem.W.mroIn K (He.ga K x) (.ref (He.ga K x))) (some true) && (ns.all fun f => He.eqO (PySem.W.findIn K (.ref (He.ga K x)) f) (some none)) &&
  (He.eqO (PySem.W.findIn K (.ref (He.ga K x)) "__getattribute__") (some (some (.builtin "BaseException.__getattribute__"))) && (He.eqO (PySem.W.findIn K (.ref (He.ga K x)) "__getattr__") (some none) &&
  (obB (PySem.W.subIn K (.ref (He.ga K x)) (.type "BaseException")) (some true) && (PySem.W.hasDictIn K (He.ga K x) && (He.eqO (PySem.W.findIn K (.ref (He.ga K x)) "__class__") (some (some (.builtin "object.__class__"))) &&
  (obB (PySem.W.mroIn K (He.ga K x) (.type "object")) (some true) && He.eqO (PySem.W.nsIn K mainGlobals x) (some (some (.ref (He.ga K x)))))))))))))))))
/-- what is common to all -/
def comB (K : PySem.W.Frag) : Bool := He.eqO (PySem.W.nsIn K PySem.cStatics "thirdparty.any") (some none) && (He.eqO (PySem.W.nsIn K mainGlobals "super") (some none) &&
  (He.eqO (PySem.W.specialIn K (.builtin "object.__class__") "__get__") (some (some (.builtin "getset_descriptor.__get__"))) && obB (PySem.W.takesIn K (.builtin "object.__class__")) (some true)))
theorem ba {a b : Bool} (h : (a && b) = true) : a = true ∧ b = true := Bool.and_eq_true_iff.mp h
theorem clB_ok {K : PySem.W.Frag} {C : Addr} (h : clB K C = true) : ∃ nm q N bs bm sn sub ab col dd k0 k1 k2 k3 k5, K.lookup C = some (excClassObj nm q C N bs bm true sn sub ab col dd k0 k1 k2 k3 k5 "ValueError.__new__") ∧ PySem.HandSPX.refsVE bm = true ∧
    PySem.W.alongIn K "__init__" bm = some (some (.builtin "ValueError.__init__")) := by
  unfold clB at h
  split at h
  · rename_i T dd cd sl ho
    obtain ⟨hT, h⟩ := ba h
    split at h
    · rename_i C0 tl k0 k1 k2 k3 nw k5 hm hs
      obtain ⟨g1, h⟩ := ba h
      obtain ⟨g2, h⟩ := ba h
      obtain ⟨g3, h⟩ := ba h
      obtain ⟨g4, h⟩ := ba h
      obtain ⟨g5, g6⟩ := ba h
      have e1 : C0 = C := Nat.eq_of_beq_eq_true g1
      have e2 : nw = "ValueError.__new__" := of_decide_eq_true g2
      have e0 : T = "type" := of_decide_eq_true hT
      subst e1 e2 e0
      obtain ⟨nm, bs, mro, nsp, qn, hd, sn, sub, ab, col, del⟩ := cd
      dsimp only at hm g3 g4
      have e3 : del = false := by simpa using g3
      subst hm e3 g4
      have hsl : sl = #[k0, k1, k2, k3, some (.builtin "ValueError.__new__"), k5] := by
        obtain ⟨l⟩ := sl
        exact congrArg Array.mk hs
      subst hsl
      exact ⟨nm, qn, nsp, bs, tl, sn, sub, ab, col, dd, k0, k1, k2, k3, k5, ho, g5, He.eqO_ok g6⟩
    · cases h
  · cases h
theorem fnB_ok {file : Str} {K : PySem.W.Frag} {C fI : Addr} {qual : Str} {fd : FuncData} {oc : Value} {od : Option Addr} {osl : Array (Option Value)} (lk : K.lookup fI = some ⟨oc, od, .func fd, osl⟩) (h : fnB file K C fI qual = true) :
    fd.defaults = .none ∧ ∃ (cda : Addr) (n : Str) (cc : Addr) (ccl cl : Value) (cdd cld : Option Addr) (ccs csl : Array (Option Value)) (vs : Array Value) (tf : Tok), fd.code = .ref cda ∧ PySem.W.codeIn K (.ref cda) qual = true ∧ fd.closure = [(n, cc)] ∧
      K.lookup cda = some ⟨ccl, cdd, .fields vs, ccs⟩ ∧ vs[2]? = some (.str file tf) ∧ K.lookup cc = some ⟨cl, cld, .cell (some (.ref C)), csl⟩ := by
  unfold fnB at h
  rw [lk] at h
  obtain ⟨h, h3⟩ := ba h
  obtain ⟨h1, h2⟩ := ba h
  have g1 : fd.defaults = .none := by
    split at h1
    · assumption
    · cases h1
  refine ⟨g1, ?_⟩
  split at h2
  · rename_i c hc
    obtain ⟨g2, h2⟩ := ba h2
    split at h2
    · rename_i ccl cdd vs ccs hcl
      split at h2
      · rename_i z tf hz
        have e := of_decide_eq_true h2
        subst e
        split at h3
        · rename_i n cc hcc
          split at h3
          · rename_i cl cld D csl hD
            have e := Nat.eq_of_beq_eq_true h3
            subst e
            exact ⟨c, n, cc, ccl, cl, cdd, cld, ccs, csl, vs, tf, hc, g2, hcc, hcl, hz, hD⟩
          · cases h3
        · cases h3
      · cases h2
    · cases h2
  · cases h2
/-- all that is told of one class -/
structure ErrOk (P : Program) (K : PySem.W.Frag) (x : Str) (ns : List Str) : Prop where
  s : SErr P K (He.ga K x) (He.ma K (He.ga K x) "__init__") ns
  xf : XfC K (He.ga K x)
  ce : ClsE K (He.ga K x)
  gl : PySem.W.nsIn K mainGlobals x = some (some (.ref (He.ga K x)))
theorem errB_ok {P : Program} {K : PySem.W.Frag} {x : Str} {st : Stmt} {ns : List Str} (htop : (P.main.scope.names.lookup ("super" : Str)).isSome = false) (I : ITxt st ns) (ho : obsI K x = valI x st) (h : errB P.main.file K x ns = true) (hc : comB K = true) : ErrOk P K x ns := by
  unfold errB at h
  obtain ⟨a1, h⟩ := ba h
  obtain ⟨a2, h⟩ := ba h
  obtain ⟨a3, h⟩ := ba h
  obtain ⟨a4, h⟩ := ba h
  obtain ⟨a5, h⟩ := ba h
  obtain ⟨a6, h⟩ := ba h
  obtain ⟨a7, h⟩ := ba h
  obtain ⟨a89, h⟩ := ba h
  obtain ⟨a8, a9⟩ := ba a89
  obtain ⟨b1, h⟩ := ba h
  obtain ⟨b2, h⟩ := ba h
  obtain ⟨b3, h⟩ := ba h
  obtain ⟨b4, h⟩ := ba h
  obtain ⟨b5, h⟩ := ba h
  obtain ⟨b6, b7⟩ := ba h
  unfold comB at hc
  obtain ⟨c1, hc⟩ := ba hc
  obtain ⟨c2, hc⟩ := ba hc
  obtain ⟨c3, c4⟩ := ba hc
  have ob : ∀ {a b : Option Bool}, obB a b = true → a = b := fun q => of_decide_eq_true q
  refine ⟨⟨clB_ok a1, He.eqO_ok a3, He.eqO_ok a4, of_decide_eq_true a5, a6, ob a7, ob a8, He.eqO_ok c1, He.eqO_ok c2, fun f hf => He.eqO_ok (List.all_eq_true.mp a9 f hf), I.nd, I.len, I.noSelf, htop, ?_⟩, ⟨He.eqO_ok b1, He.eqO_ok b2, ob b3, b4⟩,
    ⟨He.eqO_ok b1, He.eqO_ok b2, ob b3, b4, He.eqO_ok b5, He.eqO_ok c3, ob c4, ob b6⟩, He.eqO_ok b7⟩
  unfold obsI at ho
  split at ho
  · rename_i oc od fd osl lk
    obtain ⟨q1, cda, n, cc, ccl, cl, cdd, cld, ccs, csl, vs, tf, q2, q3, q4, q5, q6, q7⟩ := fnB_ok lk a2
    obtain ⟨n1, n2, n3, n4, n5, n6, n7, n8, n9, n10, n11, n12, n13, n14, n15⟩ := fd
    dsimp only at q1 q2 q4
    unfold valI at ho
    simp only [Option.some.injEq, Prod.mk.injEq] at ho
    obtain ⟨r1, r2, r3, r4, r5, r6, r7, r8⟩ := ho
    rw [q4] at r7
    have en : n = "__class__" := by simpa using r7
    subst r1 r2 r3 r4 r5 r6 r8 q1 q2 q4 en
    obtain ⟨msg, j, p0, p1, p2, p3, p4, p5, ps, ar, e1, e2, e3, e4, e5⟩ := I.ex
    have bb := I.bind
    rw [e1] at lk bb
    exact ⟨oc, od, osl, _, _, _, _, _, _, _, _, _, cda, cc, ar, msg, j, p0, p1, p2, p3, p4, p5, ps, ccl, cl, cdd, cld, ccs, csl, vs, tf, lk, e2, e3, e4, q3, q5, q6, q7, fun s us hu => bb _ _ _ _ _ _ _ _ _ s us hu, I.sup, I.cls, I.loc, e5, I.dbg, I.cell, I.co, I.gen, I.kind⟩
  · cases ho
end Sq

set_option Elab.async false
set_option linter.all false
set_option maxRecDepth 100000
set_option maxHeartbeats 0
/-! The head. -/
namespace Sq
open PySem PySem.Spec PyProof.Rows L2
def dd (x : Str) (st : Stmt) : He.DefD := ⟨(x, none), x, x, defArgs st, defBody st, defScope st, [], []⟩
def fn0 : List He.DefD := [dd "is_whole" gWhole, dd "is_cell" gIsCell, dd "plain_cell" gPlain, dd "shifted" gShifted, dd "four_beside" gFour, dd "lot_of" gLot, dd "put" gPut, dd "body_in" gBodyIn, dd "near_in" gNear, dd "flood" gFlood, dd "lot_hangs" gHangs, dd "hangs_without" gHangsW, dd "links_around" gLinks, dd "is_body" gIsBody, dd "lot_of_body" gLotB, dd "kind_in" gKindIn, dd "kind_by_place" gByPlace, dd "slides" gSlides, dd "turns" gTurns, dd "first_wrong" gFirstWrong, dd "is_move_in" gIsMoveIn, dd "checked_moves" gCheckedMoves, dd "bodies_behind" gBodiesBehind, dd "without_returns" gWithoutReturns, dd "direct" gDirect, dd "_law_pen" sPen, dd "_law_draw" sDraw, dd "_law_pick" sPick, dd "_law_w_beside" lWBeside, dd "_law_w_hangs" lWHangs, dd "_law_w_body" lWBody, dd "_law_w_may" lWMay, dd "_law_w_moved" lWMoved, dd "_law_w_moves" lWMoves, dd "_law_t4goes" lT4goes, dd "_law_t4both" lT4both, dd "_law_t4back" lT4back, dd "_law_t4bodies" lT4bodies, dd "_law_t4leads" lT4leads, dd "_law_t4free" lT4free, dd "_law_t4plan" lT4plan, dd "_law_t4stroll" lT4stroll, dd "_law_t4without" lT4without, dd "law" sLaw]
def md (x : Str) (st : Stmt) : He.DefD := ⟨(x, some "__init__"), "__init__", x ++ ".__init__", defArgs st, defBody st, defScope st, [], []⟩
def fn : List He.DefD := fn0 ++ []
def clsF : List He.Fa := []
def frees : List Str := ["int", "len", "list", "tuple", "bool", "isinstance", "range", "sorted", "abs", "min", "max", "set", "any", "all", "dict", "enumerate", "reversed"]
def errN : List (Str × List Str) := [("BadBody", ["cells"]), ("NotKept", ["promise", "witness"])]
def exms : List He.Fa := []
def glos : List He.Fa := [.glo "CROSSWISE"]
def intF : List He.Fa := []
def fa : List He.Fa := fn0.map (fun d => .glo d.name) ++ (frees.map .free ++ (exms ++ (glos ++ (clsF ++ intF))))
abbrev R : PySem.W.OpenRow := PySem.W.OpenLaw.row PySem.Challenge.rw_slideinto_k32_whole_no_returns
abbrev fileS : Str := PySem.Challenge.pw_slideinto_k32_whole_no_returns.main.file
def initSt : List (Str × Stmt) := [("BadBody", sI 2), ("NotKept", sI 3)]
def tyB (K : PySem.W.Frag) (x : Str) : Bool := decide (PySem.W.typeIn K (.ref (He.ga K x)) = some (.type "type"))
/-- a tuple of cells at module level -/
def eachC (K : PySem.W.Frag) : List Value → List Cell → Bool
  | [], [] => true
  | .ref r :: vs, d :: ds => (match K.lookup r with
    | some ⟨.type T, _, .seq its _, _⟩ => decide (T = "tuple") && (decide (its.size ≤ sizeLine) && (match its.toList with
      | [.int i _, .int j _] => decide (i = d.1) && decide (j = d.2)
      | _ => false))
    | _ => false) && eachC K vs ds
  | _, _ => false
def tupC (K : PySem.W.Frag) (x : Str) (ds : List Cell) : Bool := match K.lookup (He.ga K x) with
  | some ⟨.type T, _, .seq its _, _⟩ => decide (T = "tuple") && (decide (its.size ≤ sizeLine) && eachC K its.toList ds)
  | _ => false
def conB (K : PySem.W.Frag) : Bool := (tupC K "CROSSWISE" crossL)
def allB (K : PySem.W.Frag) : Bool := comB K && ((errN.all fun p => errB fileS K p.1 p.2 && tyB K p.1) && conB K)
def tabDs : List He.Defn := [("slides", none), ("is_body", none)]
abbrev AlS : Type := He.AlD × (List FnI × Bool)
def obsS (K : PySem.W.Frag) : AlS := (He.obsD fa fn K, initSt.map (fun p => obsI K p.1), allB K)
def valS : AlS := (He.valD fn, initSt.map (fun p => valI p.1 p.2), true)
def kOf (g : Addr → Option Obj) : PySem.W.Frag := He.frT g (PySem.cStatics :: He.asD g 5)
abbrev AlK : Type := AlS × Bool
def obsK (g : Addr → Option Obj) : AlK := (obsS (kOf g), He.tabsB g tabDs (kOf g))
/-- what is told -/
structure SaysK (h : Heap) (K : PySem.W.Frag) : Prop where
  s : obsS K = valS
  t : ∀ t ∈ tabDs, PySem.W.codeHdIn K (He.cT K t).1 (He.cT K t).2 = true ∧ K.lookup (He.cT K t).2 = none ∧ h.get? (He.cT K t).2 = some { cls := .none, data := .fields #[] }
theorem says_of {h : Heap} (e : obsK h.get? = (valS, true)) : SaysK h (kOf h.get?) := by
  have e1 : obsS (kOf h.get?) = valS := congrArg (fun z : AlK => z.1) e
  have e2 : He.tabsB h.get? tabDs (kOf h.get?) = true := congrArg (fun z : AlK => z.2) e
  refine ⟨e1, fun t ht => ?_⟩
  obtain ⟨h3, h4⟩ := ba (List.all_eq_true.mp e2 t ht)
  cases q : h.get? (He.cT (kOf h.get?) t).2 with
  | none =>
    rw [q] at h4
    cases h4
  | some o =>
    rw [q] at h4
    exact ⟨h3, He.frT_none q h4, by rw [He.emptyTab_eq h4]⟩
def hk : PySem.W.Hook where
  α := AlK
  obs := fun s => obsK s.heap.get?
  val := fun _ => (valS, true)
  says := fun _ h => ∃ K : PySem.W.Frag, K.In h ∧ SaysK h K
  of := fun _ _ e => ⟨_, He.frT_in, says_of e⟩
  keeps := fun _ _ _ ⟨K, hK, c⟩ k => ⟨K, PySem.W.Frag.In.keeps hK k, ⟨c.s, fun t ht => ⟨(c.t t ht).1, (c.t t ht).2.1, k _ _ (c.t t ht).2.2⟩⟩⟩
def ob (s : PySem.W.SharedT) : AlK := obsK (HandSHeadRun.getT s)
theorem ob_eq (s : PySem.W.SharedT) : ob s = hk.obs s.abs := by
  have e : HandSHeadRun.getT s = s.abs.heap.get? := funext (HandSHeadRun.getT_eq s)
  show obsK _ = obsK _
  rw [e]
def loose1 : List Str := ["SlideError", "BadBody", "NotKept", "is_whole", "is_cell", "plain_cell", "shifted", "four_beside", "lot_of", "put", "body_in", "near_in", "flood", "lot_hangs", "hangs_without", "links_around", "is_body", "lot_of_body", "kind_in", "kind_by_place", "slides", "turns", "first_wrong"]
def loose2 : List Str := ["is_move_in", "checked_moves", "bodies_behind", "without_returns", "direct", "_law_pen", "_law_draw", "_law_pick", "_law_w_beside", "_law_w_hangs", "_law_w_body", "_law_w_may", "_law_w_moved", "_law_w_moves", "_law_t4goes", "_law_t4both", "_law_t4back", "_law_t4bodies", "_law_t4leads", "_law_t4free", "_law_t4plan", "_law_t4stroll", "_law_t4without", "CROSSWISE"]
def loose : List Str := loose1 ++ loose2
theorem run (w : World) : HandSHeadRun.RunEq R (PySem.W.view R.prog [54]) hk ob 9000 loose w := by
  intro os
  kernel_rfl
end Sq

set_option Elab.async false
set_option linter.all false
set_option maxRecDepth 100000
set_option maxHeartbeats 4000000
/-! All facts together. -/
namespace Sq
open PySem PySem.Spec PyProof.Rows L2
theorem Df.mk' {P : Program} {w : World} {K : PySem.W.Frag} {mg : Str → Option Value} {base : Heap} {CX : CXT} {k : Nat} {x : Str} {st : Stmt} {f : Addr} {fd : FuncData} {ps : List Str} {sp : Sp} (F : FnP K x st f fd) (g : mg x = some (.ref f)) (b : Binds K fd ps []) (o : FnOk P w K mg base CX k f fd ps sp) : Df P w K mg base CX k x ps sp := ⟨f, fd, g, F.kp, b, o⟩
theorem err_c {P : Program} {K : PySem.W.Frag} {h : Heap} {mg : Str → Option Value} {x : Str} {ns : List Str} (X : K.In h) (G : h.Ns mainGlobals mg) (E : ErrOk P K x ns) (t : tyB K x = true) : ErrC P K mg x (He.ga K x) (He.ma K (He.ga K x) "__init__") ns :=
  ⟨E.s, PySem.W.mg_of X G E.gl, E.xf.exC, of_decide_eq_true t⟩
theorem eachC_ok {K : PySem.W.Frag} : ∀ {vs : List Value} {ds : List Cell}, eachC K vs ds = true → ∃ rs : List Addr, vs = rs.map Value.ref ∧ Paired (fun r d => ∀ H, SqT K H r (cV d)) rs ds
  | [], [], _ => ⟨[], rfl, .nil⟩
  | .ref r :: vs, d :: ds, h => by
    unfold eachC at h
    obtain ⟨h1, h2⟩ := ba h
    obtain ⟨rs, rfl, pr⟩ := eachC_ok h2
    refine ⟨r :: rs, rfl, .cons (fun H => ?_) pr⟩
    split at h1
    · rename_i T dd its n sl q
      obtain ⟨e1, h1⟩ := ba h1
      obtain ⟨e2, h1⟩ := ba h1
      split at h1
      · rename_i i t j u e
        obtain ⟨e3, e4⟩ := ba h1
        refine .inr ⟨_, its, n, q, congrArg Value.type (of_decide_eq_true e1), rfl, of_decide_eq_true e2, ?_⟩
        obtain ⟨d1, d2⟩ := d
        have k1 : i = d1 := of_decide_eq_true e3
        have k2 : j = d2 := of_decide_eq_true e4
        subst k1 k2
        rw [e]
        exact .cons ⟨t, rfl⟩ (.cons ⟨u, rfl⟩ .nil)
      · cases h1
    · cases h1
theorem vals_refs : ∀ rs : List Addr, Vals (rs.map V.ref) (rs.map Value.ref)
  | [] => .nil
  | _ :: rs => .cons rfl (vals_refs rs)
theorem tupC_ok {K : PySem.W.Frag} {x : Str} {ds : List Cell} (h : tupC K x ds = true) : ∃ rs : List Addr, (∀ H, SqT K H (He.ga K x) (rs.map V.ref)) ∧ Paired (fun r d => ∀ H, SqT K H r (cV d)) rs ds := by
  unfold tupC at h
  split at h
  · rename_i T dd its n sl q
    obtain ⟨e1, h⟩ := ba h
    obtain ⟨e2, h⟩ := ba h
    obtain ⟨rs, e, pr⟩ := eachC_ok h
    refine ⟨rs, fun H => .inr ⟨_, its, n, q, congrArg Value.type (of_decide_eq_true e1), rfl, of_decide_eq_true e2, ?_⟩, pr⟩
    rw [e]
    exact vals_refs rs
  · cases h
theorem fun_c {K : PySem.W.Frag} {x q : Str} {params : Arguments} {body : List Stmt} {scope : Scope} {fd : FuncData} (F : FunD K x q params body scope [] [] (He.fAd K (x, none)) fd) : FunC K x q params body scope (He.codeOf K (x, none)) (He.fAd K (x, none)) fd := by
  obtain ⟨⟨oc, od, dV, kV, doc, pm, an, cdv, ct, osl, e, lk, hc, h1, h2⟩, kp⟩ := F
  obtain ⟨c, rfl⟩ := He.codeIn_ref hc
  have ec : He.codeOf K (x, none) = c := He.codeOf_eq lk (by rw [e])
  rw [ec]
  exact ⟨⟨oc, od, dV, kV, doc, pm, an, ct, osl, e, lk, hc, h1, h2⟩, kp⟩
def TsOf (K : PySem.W.Frag) : List Addr := tabDs.map fun t => (He.cT K t).2
theorem facts {P : Program} {w : World} {K : PySem.W.Frag} {h : Heap} {mg : Str → Option Value} {f : Addr} (X : K.In h) (G : h.Ns mainGlobals mg) (hfa : mg ("law" : Str) = some (.ref f)) (htop : (P.main.scope.names.lookup ("super" : Str)).isSome = false) (hfile : P.main.file = fileS) (c : obsS K = valS) :
    ∃ fd : FuncData, (∀ (s : Shared) (v : Value), BindsTo s fd ⟨[v], []⟩ [("_law_script", v)]) ∧ ∀ base : Heap, K.In base → base.Ns mainGlobals mg → (∀ t ∈ tabDs, LamX.TabB base mg (He.cT K t).1 (He.cT K t).2) → FnOk P w K mg base CX0 11 f fd ["_law_script"] (spLaw K (TsOf K)) := by
  have c1 : He.SaysD fa fn K := congrArg (fun z : AlS => z.1) c
  have c2 : initSt.map (fun p => obsI K p.1) = initSt.map (fun p => valI p.1 p.2) := congrArg (fun z : AlS => z.2.1) c
  have c3 : allB K = true := congrArg (fun z : AlS => z.2.2) c
  unfold allB at c3
  obtain ⟨d1, d2⟩ := ba c3
  obtain ⟨d2, d3⟩ := ba d2
  have o : ∀ (i : Nat) (x : Str) (st : Stmt), initSt[i]? = some (x, st) → obsI K x = valI x st := fun i x st h => by
    have y := congrArg (fun l => l[i]?) c2
    simp only [List.getElem?_map, h, Option.map_some, Option.some.injEq] at y
    exact y
  have ge : ∀ (i : Nat) (x : Str) (ns : List Str), errN[i]? = some (x, ns) → errB P.main.file K x ns = true ∧ tyB K x = true := fun i x ns h => by
    rw [hfile]
    exact ba (List.all_eq_true.mp d2 (x, ns) (List.mem_of_getElem? h))
  have exm : ∀ (i : Nat) (x y : Str) (b : Bool), fa[i]? = some (.exm x y b) → PySem.W.exmOne K (.ref (He.ga K x)) (.ref (He.ga K y)) = some b := fun i x y b h => of_decide_eq_true (c1.fact i h)
  have eBadBody := errB_ok htop iBadBody (o 0 _ _ rfl) (ge 0 _ _ rfl).1 d1
  have bBadBody := err_c X G eBadBody (ge 0 _ _ rfl).2
  have eNotKept := errB_ok htop iNotKept (o 1 _ _ rfl) (ge 1 _ _ rfl).1 d1
  have bNotKept := err_c X G eNotKept (ge 1 _ _ rfl).2
  unfold conB at d3
  obtain ⟨rsCROSSWISE, tCROSSWISE, pCROSSWISE⟩ := tupC_ok d3
  have CCROSSWISE : CrossC K mg (He.ga K "CROSSWISE") rsCROSSWISE := ⟨He.glo_ok X G (c1.fact 61 (f := .glo "CROSSWISE") rfl), tCROSSWISE, pCROSSWISE⟩
  obtain ⟨d0, E0⟩ := c1.def_ 0 (d := dd "is_whole" gWhole) rfl
  have F0 : FnP K "is_whole" gWhole (He.ga K "is_whole") d0 := E0
  have g0 := He.glo_ok X G (c1.fact 0 (f := .glo "is_whole") rfl)
  have b0 : Binds K d0 ["value"] [] := FunD.bindsN F0 fun _ _ _ _ _ _ us hl => match us, hl with | [_], _ => rfl
  obtain ⟨d1, E1⟩ := c1.def_ 1 (d := dd "is_cell" gIsCell) rfl
  have F1 : FnP K "is_cell" gIsCell (He.ga K "is_cell") d1 := E1
  have g1 := He.glo_ok X G (c1.fact 1 (f := .glo "is_cell") rfl)
  have b1 : Binds K d1 ["value"] [] := FunD.bindsN F1 fun _ _ _ _ _ _ us hl => match us, hl with | [_], _ => rfl
  obtain ⟨d2, E2⟩ := c1.def_ 2 (d := dd "plain_cell" gPlain) rfl
  have F2 : FnP K "plain_cell" gPlain (He.ga K "plain_cell") d2 := E2
  have g2 := He.glo_ok X G (c1.fact 2 (f := .glo "plain_cell") rfl)
  have b2 : Binds K d2 ["cell"] [] := FunD.bindsN F2 fun _ _ _ _ _ _ us hl => match us, hl with | [_], _ => rfl
  obtain ⟨d3, E3⟩ := c1.def_ 3 (d := dd "shifted" gShifted) rfl
  have F3 : FnP K "shifted" gShifted (He.ga K "shifted") d3 := E3
  have g3 := He.glo_ok X G (c1.fact 3 (f := .glo "shifted") rfl)
  have b3 : Binds K d3 ["cell", "by"] [] := FunD.bindsN F3 fun _ _ _ _ _ _ us hl => match us, hl with | [_, _], _ => rfl
  obtain ⟨d4, E4⟩ := c1.def_ 4 (d := dd "four_beside" gFour) rfl
  have F4 : FnP K "four_beside" gFour (He.ga K "four_beside") d4 := E4
  have g4 := He.glo_ok X G (c1.fact 4 (f := .glo "four_beside") rfl)
  have b4 : Binds K d4 ["cell"] [] := FunD.bindsN F4 fun _ _ _ _ _ _ us hl => match us, hl with | [_], _ => rfl
  obtain ⟨d5, E5⟩ := c1.def_ 5 (d := dd "lot_of" gLot) rfl
  have F5 : FnP K "lot_of" gLot (He.ga K "lot_of") d5 := E5
  have g5 := He.glo_ok X G (c1.fact 5 (f := .glo "lot_of") rfl)
  have b5 : Binds K d5 ["cells"] [] := FunD.bindsN F5 fun _ _ _ _ _ _ us hl => match us, hl with | [_], _ => rfl
  obtain ⟨d6, E6⟩ := c1.def_ 6 (d := dd "put" gPut) rfl
  have F6 : FnP K "put" gPut (He.ga K "put") d6 := E6
  have g6 := He.glo_ok X G (c1.fact 6 (f := .glo "put") rfl)
  have b6 : Binds K d6 ["lot", "start", "end"] [] := FunD.bindsN F6 fun _ _ _ _ _ _ us hl => match us, hl with | [_, _, _], _ => rfl
  obtain ⟨d7, E7⟩ := c1.def_ 7 (d := dd "body_in" gBodyIn) rfl
  have F7 : FnP K "body_in" gBodyIn (He.ga K "body_in") d7 := E7
  have g7 := He.glo_ok X G (c1.fact 7 (f := .glo "body_in") rfl)
  have b7 : Binds K d7 ["lot"] [] := FunD.bindsN F7 fun _ _ _ _ _ _ us hl => match us, hl with | [_], _ => rfl
  obtain ⟨d8, E8⟩ := c1.def_ 8 (d := dd "near_in" gNear) rfl
  have F8 : FnP K "near_in" gNear (He.ga K "near_in") d8 := E8
  have g8 := He.glo_ok X G (c1.fact 8 (f := .glo "near_in") rfl)
  have b8 : Binds K d8 ["lot", "cell"] [] := FunD.bindsN F8 fun _ _ _ _ _ _ us hl => match us, hl with | [_, _], _ => rfl
  obtain ⟨d9, E9⟩ := c1.def_ 9 (d := dd "flood" gFlood) rfl
  have F9 : FnP K "flood" gFlood (He.ga K "flood") d9 := E9
  have g9 := He.glo_ok X G (c1.fact 9 (f := .glo "flood") rfl)
  have b9 : Binds K d9 ["lot", "first"] [] := FunD.bindsN F9 fun _ _ _ _ _ _ us hl => match us, hl with | [_, _], _ => rfl
  obtain ⟨d10, E10⟩ := c1.def_ 10 (d := dd "lot_hangs" gHangs) rfl
  have F10 : FnP K "lot_hangs" gHangs (He.ga K "lot_hangs") d10 := E10
  have g10 := He.glo_ok X G (c1.fact 10 (f := .glo "lot_hangs") rfl)
  have b10 : Binds K d10 ["lot"] [] := FunD.bindsN F10 fun _ _ _ _ _ _ us hl => match us, hl with | [_], _ => rfl
  obtain ⟨d11, E11⟩ := c1.def_ 11 (d := dd "hangs_without" gHangsW) rfl
  have F11 : FnP K "hangs_without" gHangsW (He.ga K "hangs_without") d11 := E11
  have g11 := He.glo_ok X G (c1.fact 11 (f := .glo "hangs_without") rfl)
  have b11 : Binds K d11 ["lot", "cell"] [] := FunD.bindsN F11 fun _ _ _ _ _ _ us hl => match us, hl with | [_, _], _ => rfl
  obtain ⟨d12, E12⟩ := c1.def_ 12 (d := dd "links_around" gLinks) rfl
  have F12 : FnP K "links_around" gLinks (He.ga K "links_around") d12 := E12
  have g12 := He.glo_ok X G (c1.fact 12 (f := .glo "links_around") rfl)
  have b12 : Binds K d12 ["lot", "cell"] [] := FunD.bindsN F12 fun _ _ _ _ _ _ us hl => match us, hl with | [_, _], _ => rfl
  obtain ⟨d13, E13⟩ := c1.def_ 13 (d := dd "is_body" gIsBody) rfl
  have F13 : FnP K "is_body" gIsBody (He.ga K "is_body") d13 := E13
  have g13 := He.glo_ok X G (c1.fact 13 (f := .glo "is_body") rfl)
  have b13 : Binds K d13 ["value"] [] := FunD.bindsN F13 fun _ _ _ _ _ _ us hl => match us, hl with | [_], _ => rfl
  obtain ⟨d14, E14⟩ := c1.def_ 14 (d := dd "lot_of_body" gLotB) rfl
  have F14 : FnP K "lot_of_body" gLotB (He.ga K "lot_of_body") d14 := E14
  have g14 := He.glo_ok X G (c1.fact 14 (f := .glo "lot_of_body") rfl)
  have b14 : Binds K d14 ["value"] [] := FunD.bindsN F14 fun _ _ _ _ _ _ us hl => match us, hl with | [_], _ => rfl
  obtain ⟨d15, E15⟩ := c1.def_ 15 (d := dd "kind_in" gKindIn) rfl
  have F15 : FnP K "kind_in" gKindIn (He.ga K "kind_in") d15 := E15
  have g15 := He.glo_ok X G (c1.fact 15 (f := .glo "kind_in") rfl)
  have b15 : Binds K d15 ["lot", "start", "end"] [] := FunD.bindsN F15 fun _ _ _ _ _ _ us hl => match us, hl with | [_, _, _], _ => rfl
  obtain ⟨d16, E16⟩ := c1.def_ 16 (d := dd "kind_by_place" gByPlace) rfl
  have F16 : FnP K "kind_by_place" gByPlace (He.ga K "kind_by_place") d16 := E16
  have g16 := He.glo_ok X G (c1.fact 16 (f := .glo "kind_by_place") rfl)
  have b16 : Binds K d16 ["lot", "start", "end"] [] := FunD.bindsN F16 fun _ _ _ _ _ _ us hl => match us, hl with | [_, _, _], _ => rfl
  obtain ⟨d17, E17⟩ := c1.def_ 17 (d := dd "slides" gSlides) rfl
  have F17 : FnP K "slides" gSlides (He.ga K "slides") d17 := E17
  have g17 := He.glo_ok X G (c1.fact 17 (f := .glo "slides") rfl)
  have b17 : Binds K d17 ["lot", "start", "end"] [] := FunD.bindsN F17 fun _ _ _ _ _ _ us hl => match us, hl with | [_, _, _], _ => rfl
  obtain ⟨d18, E18⟩ := c1.def_ 18 (d := dd "turns" gTurns) rfl
  have F18 : FnP K "turns" gTurns (He.ga K "turns") d18 := E18
  have g18 := He.glo_ok X G (c1.fact 18 (f := .glo "turns") rfl)
  have b18 : Binds K d18 ["lot", "start", "end"] [] := FunD.bindsN F18 fun _ _ _ _ _ _ us hl => match us, hl with | [_, _, _], _ => rfl
  obtain ⟨d19, E19⟩ := c1.def_ 19 (d := dd "first_wrong" gFirstWrong) rfl
  have F19 : FnP K "first_wrong" gFirstWrong (He.ga K "first_wrong") d19 := E19
  have g19 := He.glo_ok X G (c1.fact 19 (f := .glo "first_wrong") rfl)
  have b19 : Binds K d19 ["body", "plan"] [] := FunD.bindsN F19 fun _ _ _ _ _ _ us hl => match us, hl with | [_, _], _ => rfl
  obtain ⟨d20, E20⟩ := c1.def_ 20 (d := dd "is_move_in" gIsMoveIn) rfl
  have F20 : FnP K "is_move_in" gIsMoveIn (He.ga K "is_move_in") d20 := E20
  have g20 := He.glo_ok X G (c1.fact 20 (f := .glo "is_move_in") rfl)
  have b20 : Binds K d20 ["lot", "pair"] [] := FunD.bindsN F20 fun _ _ _ _ _ _ us hl => match us, hl with | [_, _], _ => rfl
  obtain ⟨d21, E21⟩ := c1.def_ 21 (d := dd "checked_moves" gCheckedMoves) rfl
  have F21 : FnP K "checked_moves" gCheckedMoves (He.ga K "checked_moves") d21 := E21
  have g21 := He.glo_ok X G (c1.fact 21 (f := .glo "checked_moves") rfl)
  have b21 : Binds K d21 ["body", "plan"] [] := FunD.bindsN F21 fun _ _ _ _ _ _ us hl => match us, hl with | [_, _], _ => rfl
  obtain ⟨d22, E22⟩ := c1.def_ 22 (d := dd "bodies_behind" gBodiesBehind) rfl
  have F22 : FnP K "bodies_behind" gBodiesBehind (He.ga K "bodies_behind") d22 := E22
  have g22 := He.glo_ok X G (c1.fact 22 (f := .glo "bodies_behind") rfl)
  have b22 : Binds K d22 ["body", "moves"] [] := FunD.bindsN F22 fun _ _ _ _ _ _ us hl => match us, hl with | [_, _], _ => rfl
  obtain ⟨d23, E23⟩ := c1.def_ 23 (d := dd "without_returns" gWithoutReturns) rfl
  have F23 : FnP K "without_returns" gWithoutReturns (He.ga K "without_returns") d23 := E23
  have g23 := He.glo_ok X G (c1.fact 23 (f := .glo "without_returns") rfl)
  have b23 : Binds K d23 ["body", "plan"] [] := FunD.bindsN F23 fun _ _ _ _ _ _ us hl => match us, hl with | [_, _], _ => rfl
  obtain ⟨d24, E24⟩ := c1.def_ 24 (d := dd "direct" gDirect) rfl
  have F24 : FnP K "direct" gDirect (He.ga K "direct") d24 := E24
  have g24 := He.glo_ok X G (c1.fact 24 (f := .glo "direct") rfl)
  have b24 : Binds K d24 ["body", "moves"] [] := FunD.bindsN F24 fun _ _ _ _ _ _ us hl => match us, hl with | [_, _], _ => rfl
  obtain ⟨d25, E25⟩ := c1.def_ 25 (d := dd "_law_pen" sPen) rfl
  have F25 : FnP K "_law_pen" sPen (He.ga K "_law_pen") d25 := E25
  have g25 := He.glo_ok X G (c1.fact 25 (f := .glo "_law_pen") rfl)
  have b25 : Binds K d25 ["_law_script"] [] := FunD.bindsN F25 fun _ _ _ _ _ _ us hl => match us, hl with | [_], _ => rfl
  obtain ⟨d26, E26⟩ := c1.def_ 26 (d := dd "_law_draw" sDraw) rfl
  have F26 : FnP K "_law_draw" sDraw (He.ga K "_law_draw") d26 := E26
  have g26 := He.glo_ok X G (c1.fact 26 (f := .glo "_law_draw") rfl)
  have b26 : Binds K d26 ["_law_pen_here", "_law_many"] [] := FunD.bindsN F26 fun _ _ _ _ _ _ us hl => match us, hl with | [_, _], _ => rfl
  obtain ⟨d27, E27⟩ := c1.def_ 27 (d := dd "_law_pick" sPick) rfl
  have F27 : FnP K "_law_pick" sPick (He.ga K "_law_pick") d27 := E27
  have g27 := He.glo_ok X G (c1.fact 27 (f := .glo "_law_pick") rfl)
  have b27 : Binds K d27 ["_law_pen_here", "_law_some"] [] := FunD.bindsN F27 fun _ _ _ _ _ _ us hl => match us, hl with | [_, _], _ => rfl
  obtain ⟨d28, E28⟩ := c1.def_ 28 (d := dd "_law_w_beside" lWBeside) rfl
  have F28 : FnP K "_law_w_beside" lWBeside (He.ga K "_law_w_beside") d28 := E28
  have g28 := He.glo_ok X G (c1.fact 28 (f := .glo "_law_w_beside") rfl)
  have b28 : Binds K d28 ["_law_cell"] [] := FunD.bindsN F28 fun _ _ _ _ _ _ us hl => match us, hl with | [_], _ => rfl
  obtain ⟨d29, E29⟩ := c1.def_ 29 (d := dd "_law_w_hangs" lWHangs) rfl
  have F29 : FnP K "_law_w_hangs" lWHangs (He.ga K "_law_w_hangs") d29 := E29
  have g29 := He.glo_ok X G (c1.fact 29 (f := .glo "_law_w_hangs") rfl)
  have b29 : Binds K d29 ["_law_cells"] [] := FunD.bindsN F29 fun _ _ _ _ _ _ us hl => match us, hl with | [_], _ => rfl
  obtain ⟨d30, E30⟩ := c1.def_ 30 (d := dd "_law_w_body" lWBody) rfl
  have F30 : FnP K "_law_w_body" lWBody (He.ga K "_law_w_body") d30 := E30
  have g30 := He.glo_ok X G (c1.fact 30 (f := .glo "_law_w_body") rfl)
  have b30 : Binds K d30 ["_law_pen_here", "_law_many"] [] := FunD.bindsN F30 fun _ _ _ _ _ _ us hl => match us, hl with | [_, _], _ => rfl
  obtain ⟨d31, E31⟩ := c1.def_ 31 (d := dd "_law_w_may" lWMay) rfl
  have F31 : FnP K "_law_w_may" lWMay (He.ga K "_law_w_may") d31 := E31
  have g31 := He.glo_ok X G (c1.fact 31 (f := .glo "_law_w_may") rfl)
  have b31 : Binds K d31 ["_law_cells", "_law_start", "_law_end"] [] := FunD.bindsN F31 fun _ _ _ _ _ _ us hl => match us, hl with | [_, _, _], _ => rfl
  obtain ⟨d32, E32⟩ := c1.def_ 32 (d := dd "_law_w_moved" lWMoved) rfl
  have F32 : FnP K "_law_w_moved" lWMoved (He.ga K "_law_w_moved") d32 := E32
  have g32 := He.glo_ok X G (c1.fact 32 (f := .glo "_law_w_moved") rfl)
  have b32 : Binds K d32 ["_law_cells", "_law_start", "_law_end"] [] := FunD.bindsN F32 fun _ _ _ _ _ _ us hl => match us, hl with | [_, _, _], _ => rfl
  obtain ⟨d33, E33⟩ := c1.def_ 33 (d := dd "_law_w_moves" lWMoves) rfl
  have F33 : FnP K "_law_w_moves" lWMoves (He.ga K "_law_w_moves") d33 := E33
  have g33 := He.glo_ok X G (c1.fact 33 (f := .glo "_law_w_moves") rfl)
  have b33 : Binds K d33 ["_law_cells"] [] := FunD.bindsN F33 fun _ _ _ _ _ _ us hl => match us, hl with | [_], _ => rfl
  obtain ⟨d34, E34⟩ := c1.def_ 34 (d := dd "_law_t4goes" lT4goes) rfl
  have F34 : FnP K "_law_t4goes" lT4goes (He.ga K "_law_t4goes") d34 := E34
  have g34 := He.glo_ok X G (c1.fact 34 (f := .glo "_law_t4goes") rfl)
  have b34 : Binds K d34 ["_law_rest", "_law_cell"] [] := FunD.bindsN F34 fun _ _ _ _ _ _ us hl => match us, hl with | [_, _], _ => rfl
  obtain ⟨d35, E35⟩ := c1.def_ 35 (d := dd "_law_t4both" lT4both) rfl
  have F35 : FnP K "_law_t4both" lT4both (He.ga K "_law_t4both") d35 := E35
  have g35 := He.glo_ok X G (c1.fact 35 (f := .glo "_law_t4both") rfl)
  have b35 : Binds K d35 ["_law_rest", "_law_one", "_law_two", "_law_n"] [] := FunD.bindsN F35 fun _ _ _ _ _ _ us hl => match us, hl with | [_, _, _, _], _ => rfl
  obtain ⟨d36, E36⟩ := c1.def_ 36 (d := dd "_law_t4back" lT4back) rfl
  have F36 : FnP K "_law_t4back" lT4back (He.ga K "_law_t4back") d36 := E36
  have g36 := He.glo_ok X G (c1.fact 36 (f := .glo "_law_t4back") rfl)
  have b36 : Binds K d36 ["_law_plan"] [] := FunD.bindsN F36 fun _ _ _ _ _ _ us hl => match us, hl with | [_], _ => rfl
  obtain ⟨d37, E37⟩ := c1.def_ 37 (d := dd "_law_t4bodies" lT4bodies) rfl
  have F37 : FnP K "_law_t4bodies" lT4bodies (He.ga K "_law_t4bodies") d37 := E37
  have g37 := He.glo_ok X G (c1.fact 37 (f := .glo "_law_t4bodies") rfl)
  have b37 : Binds K d37 ["_law_cells", "_law_plan"] [] := FunD.bindsN F37 fun _ _ _ _ _ _ us hl => match us, hl with | [_, _], _ => rfl
  obtain ⟨d38, E38⟩ := c1.def_ 38 (d := dd "_law_t4leads" lT4leads) rfl
  have F38 : FnP K "_law_t4leads" lT4leads (He.ga K "_law_t4leads") d38 := E38
  have g38 := He.glo_ok X G (c1.fact 38 (f := .glo "_law_t4leads") rfl)
  have b38 : Binds K d38 ["_law_cells", "_law_plan", "_law_other"] [] := FunD.bindsN F38 fun _ _ _ _ _ _ us hl => match us, hl with | [_, _, _], _ => rfl
  obtain ⟨d39, E39⟩ := c1.def_ 39 (d := dd "_law_t4free" lT4free) rfl
  have F39 : FnP K "_law_t4free" lT4free (He.ga K "_law_t4free") d39 := E39
  have g39 := He.glo_ok X G (c1.fact 39 (f := .glo "_law_t4free") rfl)
  have b39 : Binds K d39 ["_law_cells"] [] := FunD.bindsN F39 fun _ _ _ _ _ _ us hl => match us, hl with | [_], _ => rfl
  obtain ⟨d40, E40⟩ := c1.def_ 40 (d := dd "_law_t4plan" lT4plan) rfl
  have F40 : FnP K "_law_t4plan" lT4plan (He.ga K "_law_t4plan") d40 := E40
  have g40 := He.glo_ok X G (c1.fact 40 (f := .glo "_law_t4plan") rfl)
  have b40 : Binds K d40 ["_law_pen_here", "_law_cells", "_law_laps"] [] := FunD.bindsN F40 fun _ _ _ _ _ _ us hl => match us, hl with | [_, _, _], _ => rfl
  obtain ⟨d41, E41⟩ := c1.def_ 41 (d := dd "_law_t4stroll" lT4stroll) rfl
  have F41 : FnP K "_law_t4stroll" lT4stroll (He.ga K "_law_t4stroll") d41 := E41
  have g41 := He.glo_ok X G (c1.fact 41 (f := .glo "_law_t4stroll") rfl)
  have b41 : Binds K d41 ["_law_pen_here", "_law_cells"] [] := FunD.bindsN F41 fun _ _ _ _ _ _ us hl => match us, hl with | [_, _], _ => rfl
  obtain ⟨d42, E42⟩ := c1.def_ 42 (d := dd "_law_t4without" lT4without) rfl
  have F42 : FnP K "_law_t4without" lT4without (He.ga K "_law_t4without") d42 := E42
  have g42 := He.glo_ok X G (c1.fact 42 (f := .glo "_law_t4without") rfl)
  have b42 : Binds K d42 ["_law_cells", "_law_plan"] [] := FunD.bindsN F42 fun _ _ _ _ _ _ us hl => match us, hl with | [_, _], _ => rfl
  obtain ⟨d43, E43⟩ := c1.def_ 43 (d := dd "law" sLaw) rfl
  have F43 : FnP K "law" sLaw (He.ga K "law") d43 := E43
  have g43 := He.glo_ok X G (c1.fact 43 (f := .glo "law") rfl)
  have f_int := He.free_ok X G (c1.fact 44 (f := .free "int") rfl)
  have f_len := He.free_ok X G (c1.fact 45 (f := .free "len") rfl)
  have f_list := He.free_ok X G (c1.fact 46 (f := .free "list") rfl)
  have f_tuple := He.free_ok X G (c1.fact 47 (f := .free "tuple") rfl)
  have f_bool := He.free_ok X G (c1.fact 48 (f := .free "bool") rfl)
  have f_isinstance := He.free_ok X G (c1.fact 49 (f := .free "isinstance") rfl)
  have f_range := He.free_ok X G (c1.fact 50 (f := .free "range") rfl)
  have f_sorted := He.free_ok X G (c1.fact 51 (f := .free "sorted") rfl)
  have f_abs := He.free_ok X G (c1.fact 52 (f := .free "abs") rfl)
  have f_min := He.free_ok X G (c1.fact 53 (f := .free "min") rfl)
  have f_max := He.free_ok X G (c1.fact 54 (f := .free "max") rfl)
  have f_set := He.free_ok X G (c1.fact 55 (f := .free "set") rfl)
  have f_any := He.free_ok X G (c1.fact 56 (f := .free "any") rfl)
  have f_all := He.free_ok X G (c1.fact 57 (f := .free "all") rfl)
  have f_dict := He.free_ok X G (c1.fact 58 (f := .free "dict") rfl)
  have f_enumerate := He.free_ok X G (c1.fact 59 (f := .free "enumerate") rfl)
  have f_reversed := He.free_ok X G (c1.fact 60 (f := .free "reversed") rfl)
  have B : Bl mg := ⟨f_int, f_len, f_list, f_tuple, f_bool, f_isinstance, f_range, f_sorted, f_abs, f_min, f_max, f_set, f_any⟩
  have e := hfa.symm.trans g43
  cases e
  have b43 := FunD.bindsA (ps := ["_law_script"]) F43 fun _ _ _ _ _ _ us hl => match us, hl with | [_], _ => rfl
  refine ⟨d43, fun s v => b43 s [v] rfl, fun base _ _ tbs => ?_⟩
  have tbslides := tbs ("slides", none) (by simp [tabDs])
  have TBslides : GxR.TabB base mg (He.codeOf K ("slides", none)) (He.cT K ("slides", none)).2 := ⟨tbslides.code, tbslides.bm, tbslides.gP⟩
  have mTslides : (He.cT K ("slides", none)).2 ∈ TsOf K := List.mem_map_of_mem (f := fun t => (He.cT K t).2) (by simp [tabDs])
  have tbis_body := tbs ("is_body", none) (by simp [tabDs])
  have TBis_body : GxR.TabB base mg (He.codeOf K ("is_body", none)) (He.cT K ("is_body", none)).2 := ⟨tbis_body.code, tbis_body.bm, tbis_body.gP⟩
  have mTis_body : (He.cT K ("is_body", none)).2 ∈ TsOf K := List.mem_map_of_mem (f := fun t => (He.cT K t).2) (by simp [tabDs])
  have D3 := Df.mk' (P := P) (w := w) (base := base) F3 g3 b3 (ok_shifted F3)
  have D5 := Df.mk' (P := P) (w := w) (base := base) F5 g5 b5 (ok_lot F5 F2 g2 B.int)
  have D8 := Df.mk' (P := P) (w := w) (base := base) F8 g8 b8 (ok_near F8 F4 g4)
  have D7 := Df.mk' (P := P) (w := w) (base := base) F7 g7 b7 (ok_bodyIn F7 B)
  have D1 := Df.mk' (P := P) (w := w) (base := base) F1 g1 b1 (ok_isCell F1 F0 g0 B.isinstance B.int B.bool B.tuple B.len)
  have D9 := Df.mk' (P := P) (w := w) (base := base) F9 g9 b9 (ok_flood F9 D8)
  have D10 := Df.mk' (P := P) (w := w) (base := base) F10 g10 b10 (ok_hangs F10 B D9)
  have D13 := Df.mk' (P := P) (w := w) (base := base) F13 g13 b13 (ok_isBody (fun_c (x := "is_body") F13) TBis_body mTis_body B f_all D1 D5 D10)
  have D12 := Df.mk' (P := P) (w := w) (base := base) F12 g12 b12 (ok_links F12 CCROSSWISE)
  have D11 := Df.mk' (P := P) (w := w) (base := base) F11 g11 b11 (ok_hangsW F11 B D8 D12)
  have D6 := Df.mk' (P := P) (w := w) (base := base) F6 g6 b6 (ok_put F6)
  have D17 := Df.mk' (P := P) (w := w) (base := base) F17 g17 b17 (ok_slides (fun_c (x := "slides") F17) TBslides mTslides B D3)
  have D18 := Df.mk' (P := P) (w := w) (base := base) F18 g18 b18 (ok_turns F18)
  have D16 := Df.mk' (P := P) (w := w) (base := base) F16 g16 b16 (ok_byPlace F16 B D17 D18)
  have D15 := Df.mk' (P := P) (w := w) (base := base) F15 g15 b15 (ok_kindIn F15 D16 D11)
  have D14 := Df.mk' (P := P) (w := w) (base := base) F14 g14 b14 (ok_lotOfBody F14 bBadBody D13 D5)
  have D2 := Df.mk' (P := P) (w := w) (base := base) F2 g2 b2 (ok_plain F2 B.int)
  have D20 := Df.mk' (P := P) (w := w) (base := base) F20 g20 b20 (ok_moveIn F20 B D1 D2 D15)
  have D19 := Df.mk' (P := P) (w := w) (base := base) F19 g19 b19 (ok_firstWrong F19 f_enumerate D5 D20 D2 D6)
  have D21 := Df.mk' (P := P) (w := w) (base := base) F21 g21 b21 (ok_checkedM F21 D19 D2 bNotKept)
  have D22 := Df.mk' (P := P) (w := w) (base := base) F22 g22 b22 (ok_behindP F22 D5 D6 D7)
  have D24 := Df.mk' (P := P) (w := w) (base := base) F24 g24 b24 (ok_direct F24 B f_enumerate D22)
  have D23 := Df.mk' (P := P) (w := w) (base := base) F23 g23 b23 (ok_withoutR F23 B D14 D21 D24)
  have D25 := Df.mk' (P := P) (w := w) (base := base) F25 g25 b25 (ok_pen F25 B.int B.list)
  have D26 := Df.mk' (P := P) (w := w) (base := base) F26 g26 b26 (ok_draw F26 B.int B.len)
  have D27 := Df.mk' (P := P) (w := w) (base := base) F27 g27 b27 (ok_pick F27 D26 B.len)
  have D26C := Df.mk' (P := P) (w := w) (base := base) F26 g26 b26 (ok_drawC F26 B.int B.len)
  have D27C := Df.mk' (P := P) (w := w) (base := base) F27 g27 b27 (ok_pickC F27 D26C B.len)
  have D28 := Df.mk' (P := P) (w := w) (base := base) F28 g28 b28 (ok_wBeside F28)
  have D29 := Df.mk' (P := P) (w := w) (base := base) F29 g29 b29 (ok_wHangs F29 B f_dict D28)
  have D30 := Df.mk' (P := P) (w := w) (base := base) F30 g30 b30 (ok_wBody F30 B D26C D27C D28)
  have D31 := Df.mk' (P := P) (w := w) (base := base) F31 g31 b31 (ok_wMay F31 B f_dict D29)
  have D32 := Df.mk' (P := P) (w := w) (base := base) F32 g32 b32 (ok_wMoved F32 B)
  have D33 := Df.mk' (P := P) (w := w) (base := base) F33 g33 b33 (ok_wMoves F33 B D31)
  have D37 := Df.mk' (P := P) (w := w) (base := base) F37 g37 b37 (ok_t4bodies F37 B D32 D31)
  have D38 := Df.mk' (P := P) (w := w) (base := base) F38 g38 b38 (ok_t4leads F38 B D37)
  have D39 := Df.mk' (P := P) (w := w) (base := base) F39 g39 b39 (ok_t4free F39 D29)
  have D37X := Df.mk' (P := P) (w := w) (base := base) F37 g37 b37 (ok_t4bodX F37 B D32 D31)
  have D35 := Df.mk' (P := P) (w := w) (base := base) F35 g35 b35 (ok_t4both F35)
  have D34 := Df.mk' (P := P) (w := w) (base := base) F34 g34 b34 (ok_t4goes F34 B D35)
  have D41 := Df.mk' (P := P) (w := w) (base := base) F41 g41 b41 (ok_stroll F41 B f_dict D26C D27C D39 D34)
  have D36 := Df.mk' (P := P) (w := w) (base := base) F36 g36 b36 (ok_t4back F36 B f_reversed)
  have D36T := Df.mk' (P := P) (w := w) (base := base) F36 g36 b36 (ok_t4backR F36 B f_reversed)
  have D40 := Df.mk' (P := P) (w := w) (base := base) F40 g40 b40 (ok_t4planC F40 B D26C D27C D36 D41 D33 D32)
  have D42 := Df.mk' (P := P) (w := w) (base := base) F42 g42 b42 (ok_t4without F42 B D37X)
  exact ok_law F43 B D25 D26C D30 D40 D36T D23 D37X D42 D38
end Sq

set_option Elab.async false
set_option linter.all false
set_option maxRecDepth 100000
set_option maxHeartbeats 4000000
open PySem PySem.W PySem.Calls PyProof.Rows
set_option maxRecDepth 100000 in
set_option maxHeartbeats 8000000 in
theorem PySem.Challenge.cw_slideinto_k32_whole_no_returns_holds : PySem.Challenge.rw_slideinto_k32_whole_no_returns.Holds := by
  w_on; o_law
  refine HandSHeadRun.head_any (r := OpenLaw.row PySem.Challenge.rw_slideinto_k32_whole_no_returns) (q := view (OpenLaw.row PySem.Challenge.rw_slideinto_k32_whole_no_returns).prog [54]) (H := Sq.hk) (ob := Sq.ob) (M := 9000) (loose := Sq.loose) (d := HandSHeadRun.topDef (OpenLaw.row PySem.Challenge.rw_slideinto_k32_whole_no_returns).prog 54) (kwd := []) Sq.ob_eq
    (by kernel_rfl) (fun s => by kernel_rfl) Sq.run (by kernel_rfl) (by kernel_rfl) (by kernel_rfl) (by rfl) (by first | assumption | decide +kernel) (by decide +kernel) ⟨rfl, rfl, rfl, rfl, rfl, by decide +kernel⟩ ?hw ?hc
  case hw => w_witness2
  case hc =>
    refine LamX.walk_ofTsE (l := PySem.Challenge.rw_slideinto_k32_whole_no_returns) (n := 63) (k := 11) (x := "_law_script") (CX := fun _ => L2.CX0) rfl (by decide) (by kernel_rfl) ⟨rfl, by decide, by decide⟩ ?F (fun _ _ _ _ _ z => z)
    intro w mg fa h Y G hmg0
    obtain ⟨K, KX, c⟩ := Y
    have hmg : mg ("law" : PySem.Str) = some (.ref fa) := by
      have e : (HandSHeadRun.topDef (OpenLaw.row PySem.Challenge.rw_slideinto_k32_whole_no_returns).prog 54).name = ("law" : PySem.Str) := by kernel_rfl
      rw [← e]
      exact hmg0
    obtain ⟨fd, hb, hF⟩ := Sq.facts (P := (PySem.Challenge.rw_slideinto_k32_whole_no_returns).prog) (w := w) KX G hmg (by decide +kernel) rfl c.s
    have inT : ∀ p ∈ Sq.tabDs.map (He.cT K), ∃ t ∈ Sq.tabDs, p = He.cT K t := fun p hp => by
      obtain ⟨t, ht, e⟩ := List.mem_map.mp hp
      exact ⟨t, ht, e.symm⟩
    refine ⟨K, KX, fd, Sq.tabDs.map (He.cT K), Sq.spLaw K (Sq.TsOf K), fun p hp => ?_, fun p hp => ?_, fun p hp => ?_, hb, fun H a zs hl _ hT hS => ?_, fun base hK hG tb => hF base hK hG fun t ht => tb _ (List.mem_map_of_mem ht)⟩
    · obtain ⟨t, ht, rfl⟩ := inT p hp
      exact (c.t t ht).2.2
    · obtain ⟨t, ht, rfl⟩ := inT p hp
      exact (c.t t ht).2.1
    · obtain ⟨t, ht, rfl⟩ := inT p hp
      exact PySem.W.codeHd_of_K KX (c.t t ht).1
    · refine ⟨a, zs, rfl, hS, hl, fun T hm => ?_, fun _ => rfl⟩
      obtain ⟨t, ht, rfl⟩ := List.mem_map.mp hm
      exact ⟨#[], hT _ (List.mem_map_of_mem ht), by first | trivial | simp [TriplesOk] | exact List.forall_mem_nil _⟩
