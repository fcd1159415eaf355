import PyProof.Rows.All
import Wide.All
import OpenK.AllK
import Wide.FinOn
import KE.KExcSuper
import HandS.ForMost
import HandS.ExcInit
import HandS.HeadWalk
import HandS.ExcField
import HandS.ExcIs
import HandS.ExcValue
import HandS.IsInst
import HandS.EndBits
import HandS.Defaults
import HandS.Iter
import HandS.DictComp
import HandS.Conv
import HandS.AnyAll
import HandS.GenOver
import HandS.GenList
import HandS.Walk
import KE.DataMinMax
import HandS.DictTup
import HandS.Star
import PyProof.DictMoreH
import HandS.TryMany
import PyProof.Rows.TupDisplay
import HandS.SortRule
import HandS.TupSets
import HandS.TupLen
import KE.SortData
import KE.KDictWalk
import KE.GoesEnum
import HandS.SortKw
import HandS.EndTab
import PyProof.ReprLen
import KE.KDictKeyed
import KE.KDictCopyH
import KE.KEqDict
import HandS.RaiseMore
import HandS.DeepEq
import HandS.Style
import PySem.Challenge.RW_slideinto_k38_whole_shapes
import HandS.Deep
import HandS.Rev
import HandS.WordsExc
import HandS.TupAny
import HandS.Words
import HandS.HeadHook1
import HandS.HeadHook2
import HandS.HeadHook3
import HandS.HeadHook4
import KE.KStateDown
import Lean
import HandS.Head0
import HandS.Head1
import HandS.Head2
import HandS.HeadEnd
import HandS.NestedK
set_option Elab.async false
set_option linter.all false
set_option maxRecDepth 100000
set_option maxHeartbeats 4000000
/-! Errors of one's own whose __init__ begins with super().__init__(text) and then keeps its parameters. -/
namespace Sq
open PySem PySem.W PySem.Calls PyProof.Rows PySem.HandSPX
/-! ### the statements of such an __init__ -/
def supS (msg : Str) (j : Nat) (p0 p1 p2 p3 p4 p5 : Pos) : Stmt :=
  .Expr (.Call (.Attribute (.Call (.Name "super" p0) [] [] p1) "__init__" p2) [.Constant (.str msg) j p3] [] p4) p5
structure Ps where
  a : Pos
  b : Pos
  c : Pos
  d : Pos
def keepS (f : Str) (p : Ps) : Stmt := .Assign [.Attribute (.Name "self" p.a) f p.b] (.Name f p.c) p.d
section
variable {prog : Program} {w : World} {A : Around} {E : Value → Shared → Prop} {h : Heap} {g : Array GenState} {d : Drawn} {t : Nat} {os : OsState}
variable {nm q : Str} {C N : Addr} {bs bm : List Value} {sn : List Str} {sub : List Value} {ab : Bool} {col : Option Bool} {dd : Option Addr} {k0 k1 k2 k3 k5 : Option Value}
/-- the bound ValueError.__init__ is called -/
theorem bw_call {u x t0 : Addr} {rest : List Value} {Q : Value → Shared → Prop}
    (hC : h.get? C = some (excClassObj nm q C N bs bm true sn sub ab col dd k0 k1 k2 k3 k5 "ValueError.__new__"))
    (he : h.get? x = some (excO C t0)) (hu : h.get? u = some (kxs_mw "ValueError.__init__" x)) (hz : rest.length ≤ sizeLine)
    (hq : ∀ h' t1, (∀ b o, b ≠ x → h.get? b = some o → h'.get? b = some o) → h'.get? x = some (excO C t1) → Q .none ⟨h', g, d, t, os⟩) :
    wpAny (model prog w) A (call (.ref u) rest) Q E ⟨h, g, d, t, os⟩ := by
  refine wpAny_call (codeAny_of_tree ?_)
  show wpAny _ A.in1 (callAny (.ref u) { pos := rest, kw := [] }) _ _ _
  simp only [callAny]
  refine wpAny_bind (wpAny_load hu ?_)
  have hm : (Value.type "method-wrapper" == Value.type "method" || Value.type "method-wrapper" == Value.type "builtin_function_or_method" || Value.type "method-wrapper" == Value.type "method-wrapper") = true := by decide
  simp only [kxs_mw, hm, if_true]
  refine KFB.if_so (by decide) ?_
  refine wpAny_bind (check_bound_init F.excBase_ValueError.toExcCallFacts hC he rfl ?_)
  refine wpAny_bind (wpAny_pure (wpAny_pure ?_))
  refine ⟨plainId_quiet F.excBase_ValueError.init.plain _, codeAny_builtin F.excBase_ValueError.initEntry ?_⟩
  exact exc_init_tree (cls := .ref C) (t0 := t0) (dv := none) (c2 := .none) (c3 := .none) (b4 := .bool false) he hz fun h' k e' _ => hq h' _ k e'
end
/-- what the written part says of such a class C and of its __init__ at fI; ns: its parameters behind self, kept as fields -/
structure SErr (prog : Program) (K : Frag) (C fI : Addr) (ns : List Str) : Prop where
  cls : ∃ nm q N bs bm sn sub ab col dd k0 k1 k2 k3 k5, K.lookup C = some (excClassObj nm q C N bs bm true sn sub ab col dd k0 k1 k2 k3 k5 "ValueError.__new__") ∧ refsVE bm = true ∧
    alongIn K "__init__" bm = some (some (.builtin "ValueError.__init__"))
  sa : findIn K (.ref C) "__setattr__" = some (some (.builtin "object.__setattr__"))
  iC : findIn K (.ref C) "__init__" = some (some (.ref fI))
  tI : typeIn K (.ref fI) = some (.type "function")
  kC : keepIn K (.ref C) = true
  veC : subIn K (.ref C) (.type "ValueError") = some true
  self : mroIn K C (.ref C) = some true
  opq : nsIn K cStatics "thirdparty.any" = some none
  sup : nsIn K mainGlobals "super" = some none
  no : ∀ f ∈ ns, findIn K (.ref C) f = some none
  nd : ns.Nodup
  len : ns.length ≤ 900
  noSelf : ("self" : Str) ∉ ns
  top : (prog.main.scope.names.lookup ("super" : Str)).isSome = false
  fn : ∃ (oc : Value) (od : Option Addr) (osl : Array (Option Value)) (name qual : Str) (params : Arguments) (scope : Scope) (kV doc pm ct : Value) (an : Option Addr) (cda cc : Addr) (ar : Arg)
      (msg : Str) (j : Nat) (p0 p1 p2 p3 p4 p5 : Pos) (ps : List Ps) (ccl cl : Value) (cdd cld : Option Addr) (ccs csl : Array (Option Value)) (vs : Array Value) (tf : Tok),
    K.lookup fI = some ⟨oc, od, .func (ksFn name qual params (supS msg j p0 p1 p2 p3 p4 p5 :: (ns.zip ps).map fun z => keepS z.1 z.2) scope .none kV doc pm an (.ref cda) ct cc), osl⟩ ∧
    ns.length ≤ ps.length ∧ (params.posonlyargs ++ params.args).head? = some ar ∧ ar.arg = "self" ∧ codeIn K (.ref cda) qual = true ∧
    K.lookup cda = some ⟨ccl, cdd, .fields vs, ccs⟩ ∧ vs[2]? = some (.str prog.main.file tf) ∧ K.lookup cc = some ⟨cl, cld, .cell (some (.ref C)), csl⟩ ∧
    (∀ (s : Shared) (us : List Value), us.length = ns.length + 1 → BindsTo s (ksFn name qual params (supS msg j p0 p1 p2 p3 p4 p5 :: (ns.zip ps).map fun z => keepS z.1 z.2) scope .none kV doc pm an (.ref cda) ct cc) ⟨us, []⟩ ((("self" : Str) :: ns).zip us)) ∧
    scope.names.lookup ("super" : Str) = some .globalImplicit ∧ scope.names.lookup ("__class__" : Str) = some .free ∧ (∀ x ∈ (("self" : Str) :: ns), scope.names.lookup x = some .local) ∧
    (p2.endLine == p4.line) = true ∧ (∀ x ∈ ns, (x == ("__debug__" : Str)) = false) ∧ (∀ x ∈ scope.names, x.2 ≠ .cell) ∧ scope.isCoroutine = false ∧ scope.isGenerator = false ∧ scope.kind = .function
end Sq

set_option Elab.async false
set_option linter.all false
set_option maxRecDepth 100000
set_option maxHeartbeats 4000000
namespace Sq
open PySem PySem.W PySem.Calls PyProof.Rows PySem.HandSPX
/-- what such an __init__ leaves of a fresh error at x; fs: its fields, the last one first -/
structure InitE (h h' : Heap) (x C : Addr) (fs : List (Str × Value)) : Prop where
  keep : ∀ b o, b ≠ x → h.get? b = some o → h'.get? b = some o
  obj : ∃ t1 : Addr, (fs = [] ∧ h'.get? x = some (excO C t1)) ∨ ∃ dx : Addr, fs ≠ [] ∧ h.objs.size ≤ dx ∧ dx ≠ x ∧ h'.get? x = some ({ cls := .ref C, dict := some dx, data := .fields #[.ref t1, .none, .none, .none, .bool false, .none] } : Obj) ∧
    h'.Ns1 dx fun f => fs.lookup f
theorem lookup_one {κ : Type} [BEq κ] [LawfulBEq κ] [DecidableEq κ] {α : Type} (f g : κ) (y : α) (fs : List (κ × α)) : ((f, y) :: fs).lookup g = if g = f then some y else fs.lookup g := by
  by_cases z : g = f
  · subst z
    simp [List.lookup]
  · have e : (g == f) = false := by simpa using z
    rw [if_neg z]
    simp [List.lookup, e]
theorem lookup_within {fs : List (Str × Value)} : Within (fun f => fs.lookup f) (fs.map (·.1)) := by
  intro y hy
  induction fs with
  | nil => exact absurd rfl hy
  | cons p l ih =>
    obtain ⟨f, z⟩ := p
    by_cases e : y = f
    · rw [e]
      exact List.mem_cons_self ..
    · refine List.mem_cons_of_mem _ (ih fun q => hy ?_)
      show ((f, z) :: l).lookup y = none
      rw [lookup_one, if_neg e]
      exact q
section
variable {prog : Program} {w : World} {A : Around} {E : Value → Shared → Prop} {s : Shared} {K : Frag} {C fI : Addr} {ns : List Str} {R : Result → Shared → Prop}
/-- the rows self.f = f, one after the other -/
theorem keeps_run (T : SErr prog K C fI ns) {env : Env} {L x : Addr} {m : Str → Option Value} {h0 : Heap} (X0 : K.In h0) (hKx : K.lookup x = none) (hk : env.scope.kind = .function) (hL : env.locals = L) (hself : env.kindOf "self" = some .local)
    (mx : m "self" = some (.ref x)) (hLx : L ≠ x) :
    ∀ (zs : List (Str × Ps)) (fs : List (Str × Value)) (us : List Value) (h : Heap) (tk : Nat) (t1 : Addr) (Q : Flow → Shared → Prop), zs.length = us.length → h.Ns L m →
      (∀ (i : Nat) (z : Str × Ps), zs[i]? = some z → z.1 ∈ ns ∧ env.kindOf z.1 = some .local ∧ (z.1 == ("__debug__" : Str)) = false ∧ m z.1 = us[i]?) → fs.length + zs.length ≤ 900 →
      (∀ b o, b ≠ x → h0.get? b = some o → h.get? b = some o) →
      ((fs = [] ∧ h0.objs.size ≤ h.objs.size ∧ h.get? x = some (excO C t1)) ∨ ∃ dx : Addr, fs ≠ [] ∧ h0.objs.size ≤ dx ∧ dx ≠ x ∧ dx ≠ L ∧ h.get? x = some ({ cls := .ref C, dict := some dx, data := .fields #[.ref t1, .none, .none, .none, .bool false, .none] } : Obj) ∧ h.Ns1 dx fun f => fs.lookup f) →
      (∀ h' tk', InitE h0 h' x C (((zs.map (·.1)).zip us).reverse ++ fs) → Q .next { s with heap := h', toks := tk' }) →
      wpAny (model prog w) A (execs (zs.map fun z => keepS z.1 z.2) env) Q E { s with heap := h, toks := tk }
  | [], fs, us, h, tk, t1, Q, hl, hn, hz, h9, kp, ho, hq => by
    have e : us = [] := List.length_eq_zero_iff.mp hl.symm
    subst e
    refine wpAny_execs_nil (hq h tk ⟨kp, t1, ?_⟩)
    rcases ho with ⟨ho, _, hx⟩ | ⟨dx, d0, d1, d2, _, d4, d5⟩
    · exact .inl ⟨ho, hx⟩
    · exact .inr ⟨dx, d0, d1, d2, d4, d5⟩
  | (f, p) :: zs, fs, [], h, tk, t1, Q, hl, hn, hz, h9, kp, ho, hq => by cases hl
  | (f, p) :: zs, fs, u :: us, h, tk, t1, Q, hl, hn, hz, h9, kp, ho, hq => by
    obtain ⟨nm, q, N, bs, bm, sn, sub, ab, col, dd, k0, k1, k2, k3, k5, hC, hbm, _⟩ := T.cls
    have hcl : clsIn K C = some { name := nm, bases := bs, mro := .ref C :: bm, ns := N, qualname := q, hasDict := true, slotNames := sn, subclasses := sub, abstract := ab, collection := col, hasDel := false } := by
      unfold clsIn
      rw [hC] <;> rfl
    have X : K.In h := fun b o e => kp b o (fun z => by rw [z, hKx] at e; cases e) (X0 b o e)
    obtain ⟨hf, hloc, hdb, hm⟩ := hz 0 (f, p) rfl
    have hm' : m f = some u := hm
    have hno := T.no f hf
    have hnL : h.Ns env.locals m := by rw [hL]; exact hn
    have hz' : ∀ (i : Nat) (z : Str × Ps), zs[i]? = some z → z.1 ∈ ns ∧ env.kindOf z.1 = some .local ∧ (z.1 == ("__debug__" : Str)) = false ∧ m z.1 = us[i]? := fun i z hi => by
      have y := hz (i + 1) z (by simpa using hi)
      simpa using y
    have hl' : zs.length = us.length := by simpa using hl
    have h9' : ((f, u) :: fs).length + zs.length ≤ 900 := by
      have y : fs.length + (zs.length + 1) ≤ 900 := by simpa using h9
      show fs.length + 1 + zs.length ≤ 900
      omega
    have eqf : (((zs.map (·.1)).zip us).reverse ++ (f, u) :: fs) = (((((f, p) :: zs).map (·.1)).zip (u :: us)).reverse ++ fs) := by simp
    have efs : ∀ y, (if y = f then some u else fs.lookup y) = ((f, u) :: fs).lookup y := fun y => (lookup_one f y u fs).symm
    obtain ⟨oL, es, ep, hoL, hrL⟩ := id hn
    show wpAny _ _ (execs (keepS f p :: zs.map fun z => keepS z.1 z.2) env) _ _ _
    refine wpAny_execs_cons (plainObj_wpAny_Assign_Attribute ?_)
    refine wpAny_Name (wpAny_loadName_local hk hloc hnL hm' ?_) hdb
    refine wpAny_Name (wpAny_loadName_local hk hself hnL mx ?_) (by decide)
    rcases ho with ⟨e0, hsz, ho⟩ | ⟨dx, d0, d1, d2, d3, d4, d5⟩
    · subst e0
      refine set_plain X (ox := excO C t1) (od := none) ⟨ho, rfl, rfl, trivial⟩ T.sa ?_
      refine exc_osa X ho hcl (show refsVE (.ref C :: bm) = true from hbm) rfl hno (fun h' tk' dx k dn dne hx hns => ?_)
      show wpAny _ _ (execs _ _) _ _ _
      have hdL : dx ≠ L := fun z => by
        rw [z] at dn
        exact absurd (Heap.lt_size hoL) (Nat.not_lt_of_le dn)
      refine keeps_run T X0 hKx hk hL hself mx hLx zs [(f, u)] us h' tk' t1 Q hl' ⟨oL, es, ep, k _ _ hLx hoL, hrL⟩ hz' h9' (fun b o hb e => k b o hb (kp b o hb e)) (.inr ⟨dx, List.cons_ne_nil _ _, Nat.le_trans hsz dn, dne, hdL, hx, ?_⟩) fun h2 tk2 Z => hq h2 tk2 (eqf ▸ Z)
      have ee : (fun y => if y = f then some u else none) = fun y => List.lookup y [(f, u)] := funext fun y => by
        rw [lookup_one]
        rfl
      rw [← ee]
      exact hns
    · obtain ⟨oD, _, _, hoD, _, _⟩ := d5.count lookup_within
      refine set_plain X (ox := { cls := .ref C, dict := some dx, data := .fields #[.ref t1, .none, .none, .none, .bool false, .none] }) (od := some oD) ⟨d4, rfl, rfl, hoD⟩ T.sa ?_
      refine PySem.OEX.osa_old X d4 d5 lookup_within (by rw [List.length_map]; have y : fs.length + (zs.length + 1) ≤ 900 := (by simpa using h9); omega) hcl (show refsVE (.ref C :: bm) = true from hbm) rfl hno (fun h' tk' k hns => ?_)
      show wpAny _ _ (execs _ _) _ _ _
      refine keeps_run T X0 hKx hk hL hself mx hLx zs ((f, u) :: fs) us h' tk' t1 Q hl' ⟨oL, es, ep, k _ _ (Ne.symm d3) hoL, hrL⟩ hz' h9' (fun b o hb e => k b o (fun z => ?_) (kp b o hb e)) (.inr ⟨dx, List.cons_ne_nil _ _, d1, d2, d3, k _ _ (Ne.symm d2) d4, ?_⟩) fun h2 tk2 Z => hq h2 tk2 (eqf ▸ Z)
      · rw [z] at e
        exact absurd (Heap.lt_size e) (Nat.not_lt_of_le d1)
      · have ee : (fun y => if y = f then some u else fs.lookup y) = fun y => List.lookup y ((f, u) :: fs) := funext efs
        rw [← ee]
        exact hns
end
end Sq

set_option Elab.async false
set_option linter.all false
set_option maxRecDepth 100000
set_option maxHeartbeats 4000000
namespace Sq
open PySem PySem.W PySem.Calls PyProof.Rows PySem.HandSPX
section
variable {prog : Program} {w : World} {A : Around} {E : Value → Shared → Prop} {s : Shared} {K : Frag} {C fI : Addr} {ns : List Str} {R : Result → Shared → Prop} {mg mb : Str → Option Value}
theorem look_rev {α : Type} : ∀ (xs : List Str) (us : List α) (i : Nat) (f : Str), xs.Nodup → xs.length ≤ us.length → xs[i]? = some f → (xs.zip us).reverse.lookup f = us[i]?
  | [], us, i, f, _, _, h => by simp at h
  | x :: xs, [], i, f, _, h, _ => by simp at h
  | x :: xs, u :: us, i, f, nd, hl, h => by
    have nd1 := List.nodup_cons.mp nd
    have ez : ((x :: xs).zip (u :: us)).reverse = (xs.zip us).reverse ++ [(x, u)] := by simp
    rw [ez, List.lookup_append]
    cases i with
    | zero =>
      have e : x = f := by simpa using h
      subst e
      have e0 : (xs.zip us).reverse.lookup x = none := by
        rw [List.lookup_eq_none_iff]
        intro p hp
        have y := List.of_mem_zip (List.mem_reverse.mp hp)
        simp only [bne_iff_ne, ne_eq]
        rintro rfl
        exact nd1.1 y.1
      rw [e0]
      simp
    | succ i =>
      have h' : xs[i]? = some f := by simpa using h
      have hl' : xs.length ≤ us.length := by simpa using hl
      have y := look_rev xs us i f nd1.2 hl' h'
      rw [y]
      have hi := (List.getElem?_eq_some_iff.mp h').1
      have e1 : us[i]? = some (us[i]'(by omega)) := List.getElem?_eq_getElem (by omega)
      simp [e1]
theorem init_run (T : SErr prog K C fI ns) {x t0 : Addr} {us : List Value} (X : K.In s.heap) (hKx : K.lookup x = none) (hG : s.heap.Ns mainGlobals mg) (hB : s.heap.Ns builtinsNs mb) (hbs : mb "super" = some (.type "super")) (hlim : s.heap.NoLimit)
    (hx : s.heap.get? x = some (excO C t0)) (hus : us.length = ns.length) (hroom : A.depth < recursionLimit)
    (hq : ∀ h' tk, InitE s.heap h' x C ((ns.zip us).reverse) → R (.ok (.ret .none)) { s with heap := h', toks := tk }) :
    codeAny (model prog w) A (.call (.ref fI) ⟨.ref x :: us, []⟩) R s := by
  obtain ⟨nm, q, N, bs, bm, sn, sub, ab, col, dd, k0, k1', k2, k3, k5, hC, hbm, hal⟩ := T.cls
  have hcl : clsIn K C = some { name := nm, bases := bs, mro := .ref C :: bm, ns := N, qualname := q, hasDict := true, slotNames := sn, subclasses := sub, abstract := ab, collection := col, hasDel := false } := by
    unfold clsIn
    rw [hC] <;> rfl
  obtain ⟨oc, od, osl, name, qual, params, scope, kV, doc, pm, ct, an, cda, cc, ar, msg, j, p0, p1, p2, p3, p4, p5, ps, ccl, cl, cdd, cld, ccs, csl, vs, tf, lk, hps, har, hars, hcd, hcda, hvs, hcc, hbind, ksup, kcls, kloc, hpl, kdb, hcell, hco, hgen, hkind⟩ := T.fn
  have hlen : (Value.ref x :: us).length = ns.length + 1 := by simp [hus]
  have hne : ∀ b o, K.lookup b = some o → b ≠ x := fun b o e z => by
    rw [z, hKx] at e
    cases e
  refine ks_codeAny_call_defAt (fd := ksFn name qual params (supS msg j p0 p1 p2 p3 p4 p5 :: (ns.zip ps).map fun z => keepS z.1 z.2) scope .none kV doc pm an (.ref cda) ct cc) (binds := (("self" : Str) :: ns).zip (.ref x :: us)) hroom (X _ _ lk) rfl hlim (codeRec_of X hcd) rfl (hbind s (.ref x :: us) hlen) hcell (fun y hy => kloc _ (List.of_mem_zip hy).1) (fun h0 hns hk0 => ?_) hco hgen hkind
  show PySem.wpAt (model prog w) (A.deeper (ksEnv qual scope s.heap.objs.size fI (.ref cda) cc)) (.func (supS msg j p0 p1 p2 p3 p4 p5 :: (ns.zip ps).map fun z => keepS z.1 z.2) (ksEnv qual scope s.heap.objs.size fI (.ref cda) cc))
    (execs (supS msg j p0 p1 p2 p3 p4 p5 :: (ns.zip ps).map fun z => keepS z.1 z.2) (ksEnv qual scope s.heap.objs.size fI (.ref cda) cc)) _ _ _
  have hxL : s.heap.objs.size ≠ x := Nat.ne_of_gt (Heap.lt_size hx)
  have hx0 := hk0 _ _ hx
  have mself : ((("self" : Str) :: ns).zip (Value.ref x :: us)).reverse.lookup ("self" : Str) = some (.ref x) :=
    look_rev (("self" : Str) :: ns) (Value.ref x :: us) 0 "self" (List.nodup_cons.mpr ⟨T.noSelf, T.nd⟩) (by simp [hus]) rfl
  have mns : ∀ (i : Nat) (f : Str), ns[i]? = some f → ((("self" : Str) :: ns).zip (Value.ref x :: us)).reverse.lookup f = us[i]? := fun i f hf =>
    look_rev (("self" : Str) :: ns) (Value.ref x :: us) (i + 1) f (List.nodup_cons.mpr ⟨T.noSelf, T.nd⟩) (by simp [hus]) (by simpa using hf)
  refine ks_wpAt_execs_cons ?_
  show PySem.wpAt _ _ _ (exec (.Expr (.Call (.Attribute (.Call (.Name "super" p0) [] [] p1) "__init__" p2) [.Constant (.str msg) j p3] [] p4) p5) (ksEnv qual scope s.heap.objs.size fI (.ref cda) cc)) _ _ _
  have hint : interactive (ksEnv qual scope s.heap.objs.size fI (.ref cda) cc) = false := by
    show (scope.kind == .module && _) = false
    rw [hkind]
    rfl
  refine ks_wpAt_Expr_any ?_ hint
  have he : eval (.Call (.Attribute (.Call (.Name "super" p0) [] [] p1) "__init__" p2) [.Constant (.str msg) j p3] [] p4) (ksEnv qual scope s.heap.objs.size fI (.ref cda) cc) = (do
      let ov ← attributeBase (.Call (.Name "super" p0) [] [] p1) "__init__" (ksEnv qual scope s.heap.objs.size fI (.ref cda) cc) (eval (.Call (.Name "super" p0) [] [] p1) (ksEnv qual scope s.heap.objs.size fI (.ref cda) cc))
      standAt p2.atName
      let (f, first) ← holding [ov] (getMethod ov "__init__" (L2.plainOf (.Call (.Name "super" p0) [] [] p1) (ksEnv qual scope s.heap.objs.size fI (.ref cda) cc)))
      callWith p4 f first (backTo p4 (starEach [.Constant (.str msg) j p3] (ksEnv qual scope s.heap.objs.size fI (.ref cda) cc))) []) := by
    rw [arm_eval_Call]
    refine congrArg (fun k => attributeBase (.Call (.Name "super" p0) [] [] p1) "__init__" (ksEnv qual scope s.heap.objs.size fI (.ref cda) cc) (eval (.Call (.Name "super" p0) [] [] p1) (ksEnv qual scope s.heap.objs.size fI (.ref cda) cc)) >>= k) (funext fun ov => ?_)
    exact congrArg (fun k => standAt p2.atName >>= fun _ => k) (L2.mcall_line (by rfl) hpl)
  refine ks_wpAt_MethodCall ?_ he
  obtain ⟨oC, hoC, hdC⟩ : ∃ oC, s.heap.get? C = some oC ∧ oC.data = .cls { name := nm, bases := bs, mro := .ref C :: bm, ns := N, qualname := q, hasDict := true, slotNames := sn, subclasses := sub, abstract := ab, collection := col, hasDel := false } := ⟨_, X _ _ hC, rfl⟩
  have X0 : K.In h0 := fun b o e => hk0 b o (X b o e)
  have I0 : InstAt h0 x (excO C t0) C none := ⟨hx0, rfl, rfl, trivial⟩
  refine ks_wpAt_super_base (env := ksEnv qual scope s.heap.objs.size fI (.ref cda) cc) ksup kcls (by decide) rfl (X0 _ _ lk) rfl har rfl (X0 _ _ hcda) rfl hvs (by simp) T.top ?_
  refine ks_loadName_global hkind ksup (loadGlobal_builtin (env := ksEnv qual scope s.heap.objs.size fI (.ref cda) cc) (hG.keeps hk0) (mg_none_of X hG T.sup) (hB.keeps hk0) hbs ⟨rfl, ?_⟩)
  refine wpAny_loadName_free (env := ksEnv qual scope s.heap.objs.size fI (.ref cda) cc) hkind kcls rfl ⟨_, X0 _ _ hcc, rfl⟩ ?_
  rw [hars]
  refine wpAny_loadName_local (env := ksEnv qual scope s.heap.objs.size fI (.ref cda) cc) hkind (kloc _ (List.mem_cons_self ..)) hns mself ?_
  refine ks_wpAny_isType_cls (hk0 _ _ hoC) hdC ⟨rfl, ?_⟩
  refine ks_wpAny_call_super (hk0 _ _ hoC) hdC hx0 rfl (fun c z => by cases z) (looks_mroIn X0 T.self) (fun h1 e1 k1 => ?_)
  have X1 : K.In h1 := fun b o e => k1 b o (X0 b o e)
  have hx1 := k1 _ _ hx0
  have I1 : InstAt h1 x (excO C t0) C none := ⟨hx1, rfl, rfl, trivial⟩
  have hI : Looks (model prog w) h1 (isInstance (.ref x) (.type "ValueError")) true := I1.type.andThen (looks_subIn X1 T.veC)
  have hmro : Looks (model prog w) h1 (mroOf (.ref C)) (.ref C :: bm) := (looks_clsIn X1 hcl).andThen .now
  have hdrop : ((Value.ref C :: bm).dropWhile (· != .ref C)).drop 1 = bm := by simp [List.dropWhile_cons]
  refine kxs_getMethod (D := C) kxs_ValueError e1 (looks_opaque X1 T.opq) hmro hdrop X1 hal hI (ks_ne X1 I1 hcl) (by decide) ?_
  have kk : ∀ b o, h0.get? b = some o → (h1.push (kxs_mw "ValueError.__init__" x)).get? b = some o := fun b o e => Heap.get?_push_of_some _ (k1 b o e)
  have hu : (h1.push (kxs_mw "ValueError.__init__" x)).get? h1.objs.size = some (kxs_mw "ValueError.__init__" x) := Heap.get?_push_at rfl rfl
  refine kxs_callWith (i := "ValueError.__init__") (x := x) (by rfl) ?_
  refine evalArgs_plain (spliced_cons ?_)
  show wpAny _ _ (eval (.Constant (.str msg) j p3) (ksEnv qual scope s.heap.objs.size fI (.ref cda) cc)) _ _ _
  refine Constant_str ?_
  refine spliced_nil ⟨hu, ?_⟩
  have hC2 : (h1.push (kxs_mw "ValueError.__init__" x)).get? C = some (excClassObj nm q C N bs bm true sn sub ab col dd k0 k1' k2 k3 k5 "ValueError.__new__") := kk _ _ (hk0 _ _ (X _ _ hC))
  refine bw_call hC2 (kk _ _ hx0) hu (by rw [sizeLine_eq]; exact (by decide : 1 ≤ 16777216)) (fun h2 t1 k2' e2 => ?_)
  refine wpAt_of_wpAny ?_
  have hlz : (ns.zip ps).length = us.length := by rw [List.length_zip, hus]; omega
  obtain ⟨oL, es, ep, hoL, hrL⟩ := id hns
  have hsz : s.heap.objs.size < h0.objs.size := Heap.lt_size hoL
  refine keeps_run (s := s) (x := x) (L := s.heap.objs.size) (h0 := s.heap) T X hKx (env := ksEnv qual scope s.heap.objs.size fI (.ref cda) cc) hkind rfl (kloc _ (List.mem_cons_self ..)) mself hxL (ns.zip ps) [] us h2 _ t1 _ hlz ⟨oL, es, ep, k2' _ _ hxL (kk _ _ hoL), hrL⟩ (fun i z hz => ?_) ?_ (fun b o hb e => k2' b o hb (kk b o (hk0 b o e))) (.inl ⟨rfl, ?_, e2⟩) fun h' tk' Z => ?_
  · have z1 : ns[i]? = some z.1 := by
      have y := congrArg (Option.map Prod.fst) hz
      rw [List.getElem?_zip_eq_some.mp hz |>.1]
    have hm := List.mem_of_getElem? z1
    exact ⟨hm, kloc _ (List.mem_cons_of_mem _ hm), kdb _ hm, mns i z.1 z1⟩
  · have := T.len
    rw [hlz, hus]
    show 0 + ns.length ≤ 900
    omega
  · exact Nat.le_of_lt (Heap.lt_size (k2' _ _ hxL (kk _ _ hoL)))
  · have ez : ((ns.zip ps).map (·.1)) = ns := by
      rw [List.map_fst_zip]
      omega
    rw [ez, List.append_nil] at Z
    exact hq h' tk' Z
end
end Sq

set_option Elab.async false
set_option linter.all false
set_option maxRecDepth 100000
set_option maxHeartbeats 4000000
/-! Such errors as values: made, their fields read, isinstance of them. -/
namespace Sq
open PySem PySem.Spec PyProof.Rows L2
section
variable {fs ex : List Addr} {H : Hp} {h h' : Heap} {a b : Addr} {o u : HO}
theorem un_two (k : ∀ c v, h.get? c = some v → h'.get? c = some v) (h1 : h.objs.size ≤ a) (h2 : h.objs.size ≤ b) (n1 : H a = none) (n2 : H b = none) : Un fs ex H (upd (upd H b u) a o) h h' where
  keep := fun c v q _ _ _ => k c v q
  slot := fun c v q _ _ _ => ⟨v.slots, k c v q⟩
  free := fun c v q n _ => by
    have l := Heap.lt_size q
    rw [upd_ne (Nat.ne_of_lt (Nat.lt_of_lt_of_le l h1)), upd_ne (Nat.ne_of_lt (Nat.lt_of_lt_of_le l h2))]
    exact n
  there := fun c v q _ => ⟨v, k c v q⟩
  tups := fun c xs q => by
    rw [upd_ne (ne_of_none q n1), upd_ne (ne_of_none q n2)]
    exact q
  frzs := fun c v xs q => by
    rw [upd_ne (ne_of_none q n1), upd_ne (ne_of_none q n2)]
    exact q
  tbls := fun c ps q => ⟨#[], by rw [upd_ne (ne_of_none q n1), upd_ne (ne_of_none q n2), q]; simp⟩
end
theorem zip_rel : ∀ (ns : List Str) {vs : List V} {us : List Value}, Vals vs us → ∀ f, RelO ((ns.zip vs).lookup f) ((ns.zip us).lookup f)
  | [], _, _, _, _ => True.intro
  | n :: ns, _, _, .nil, _ => True.intro
  | n :: ns, _, _, .cons r t, f => by
    rw [List.zip_cons_cons, List.zip_cons_cons, lookup_one, lookup_one]
    by_cases e : f = n
    · rw [if_pos e, if_pos e]
      exact r
    · rw [if_neg e, if_neg e]
      exact zip_rel ns t f
theorem rev_rel : ∀ (ns : List Str) {vs : List V} {us : List Value}, Vals vs us → ∀ f, RelO ((ns.zip vs).reverse.lookup f) ((ns.zip us).reverse.lookup f)
  | [], _, _, _, _ => True.intro
  | n :: ns, _, _, .nil, _ => True.intro
  | n :: ns, _ :: vs, _ :: us, .cons (a := x) (b := y) r t, f => by
    rw [List.zip_cons_cons, List.zip_cons_cons, List.reverse_cons, List.reverse_cons, List.lookup_append, List.lookup_append]
    have q := rev_rel ns t f
    cases e1 : (ns.zip vs).reverse.lookup f with
    | some v =>
      rw [e1] at q
      cases e2 : (ns.zip us).reverse.lookup f with
      | some v' =>
        rw [e2] at q
        exact q
      | none =>
        rw [e2] at q
        exact q.elim
    | none =>
      rw [e1] at q
      cases e2 : (ns.zip us).reverse.lookup f with
      | some v' =>
        rw [e2] at q
        exact q.elim
      | none =>
        rw [Option.none_or, Option.none_or, lookup_one, lookup_one]
        by_cases e : f = n
        · rw [if_pos e, if_pos e]
          exact r
        · rw [if_neg e, if_neg e]
          exact True.intro
/-- C(e, ..) as a value -/
structure errPost (C : Addr) (ns : List Str) (vs : List V) (H : Hp) (Q : VK) : Prop where
  len : vs.length = ns.length
  go : ∀ a, H a = none → (ns = [] → Q (.ref a) (upd H a (exo a C none))) ∧ (ns ≠ [] → ∀ d, H d = none → d ≠ a → Q (.ref a) (upd (upd H d (exd d (ns.zip vs).reverse)) a (exo a C (some d))))
def tErr (C : Addr) (ns : List Str) (ta : TA) : TE := fun σ H Q => ta σ H fun vs H1 => errPost C ns vs H1 Q
section
variable {X : Cx} {pins : List (Addr × Obj)} {σ : L2.St} {H : Hp} {s : Shared} {C fI : Addr} {ns : List Str}
theorem call_err (T : SErr X.prog X.K C fI ns) (hr : Room 1 X.A) {us : List Value} {vs : List V} {Q : VK} (I : Inv X pins σ H s) (r : Vals vs us) (h : errPost C ns vs H Q) :
    wpAny (model X.prog X.w) X.A (call (.ref C) us) (EP X pins σ Q) X.xe s := by
  obtain ⟨hl, h⟩ := h
  obtain ⟨nm, q, N, bs, bm, sn, sub, ab, col, dd, k0, k1, k2, k3, k5, hC, hbm, _⟩ := T.cls
  obtain ⟨mb, hmb, hbb⟩ := I.mod.blt
  have hlim := I.nolimit
  have hul : us.length = ns.length := by rw [← r.length]; exact hl
  have hdp := hr.dp
  obtain ⟨hp, g, dr, tk, os⟩ := s
  have kk : ∀ b o, hp.get? b = some o → ((hp.push (PySem.W.kdv_tup us)).push (PySem.HandSPX.excO C hp.objs.size)).get? b = some o := fun b o e => Heap.get?_push_of_some _ (Heap.get?_push_of_some _ e)
  have hget : ((hp.push (PySem.W.kdv_tup us)).push (PySem.HandSPX.excO C hp.objs.size)).get? (hp.objs.size + 1) = some (PySem.HandSPX.excO C hp.objs.size) := by heap_get
  have KX : X.K.In hp := I.kIn
  have hKx : X.K.lookup (hp.objs.size + 1) = none := by
    cases e : X.K.lookup (hp.objs.size + 1) with
    | none => rfl
    | some o => exact absurd (Nat.lt_of_succ_lt (Heap.lt_size (KX _ _ e))) (Nat.lt_irrefl _)
  have hus : us.length ≤ sizeLine := by
    have := T.len
    rw [hul, sizeLine_eq]
    omega
  refine wpAny_call (PySem.HandSPX.call_own F.excBase_ValueError (fun Y => PySem.HandSPX.refsVE_contains Y bm hbm) (KX _ _ hC) (PySem.W.looks_findIn KX T.iC) (fun self => PySem.W.bind_fn KX self T.tI) hus ?_)
  refine init_run (s := ⟨(hp.push (PySem.W.kdv_tup us)).push (PySem.HandSPX.excO C hp.objs.size), g, dr, tk, os⟩) (mg := X.mg) (mb := mb) T (PySem.W.Frag.In.keeps KX kk) hKx (I.mod.glob.keeps fun b o e => kk b o (I.bk b o e)) (hmb.keeps fun b o e => kk b o (I.bk b o e))
    ((hbb _ (by decide +kernel)).trans (by first | boot_by_name | kernel_rfl)) (hlim.keeps kk) hget hul ?_ (fun h' tk' Z => ?_)
  · show X.A.depth + 1 < recursionLimit
    omega
  · refine ⟨rfl, ?_⟩
    have old : ∀ b o, hp.get? b = some o → h'.get? b = some o := fun b o e => Z.keep b o (Nat.ne_of_lt (Nat.lt_succ_of_lt (Heap.lt_size e))) (kk b o e)
    have ha : hp.objs.size ≤ hp.objs.size + 1 := Nat.le_succ _
    have na : H (hp.objs.size + 1) = none := I.hok.fresh ha
    obtain ⟨q0, q1⟩ := h (hp.objs.size + 1) na
    obtain ⟨t1, ho | ⟨dx, d0, d1, d2, d3, d4⟩⟩ := Z.obj
    · obtain ⟨e, hx⟩ := ho
      have en : ns = [] := by
        have z := congrArg List.length e
        rw [List.length_reverse, List.length_zip, hul, Nat.min_self] at z
        exact List.length_eq_zero_iff.mp z
      exact ⟨.ref (hp.objs.size + 1), _, I.laid (t' := tk') (a := hp.objs.size + 1) (o := exo (hp.objs.size + 1) C none) (h' := h') old ha (exo_ok hx), rfl, q0 en⟩
    · have en : ns ≠ [] := fun e => by
        subst e
        exact d0 rfl
      have d1' : hp.objs.size ≤ dx := by
        have z : hp.objs.size + 1 + 1 ≤ dx := by simpa only [Heap.size_push] using d1
        exact Nat.le_trans (Nat.le_trans (Nat.le_succ _) (Nat.le_succ _)) z
      have nd : H dx = none := I.hok.fresh d1'
      have ob1 : HOk X.prog X.w (upd H dx (exd dx (ns.zip vs).reverse)) h' := I.hok.laid old d1' (exd_ok d4 (rev_rel ns r))
      have na' : upd H dx (exd dx (ns.zip vs).reverse) (hp.objs.size + 1) = none := by
        rw [upd_ne (Ne.symm d2)]
        exact na
      have ob2 : HOk X.prog X.w (upd (upd H dx (exd dx (ns.zip vs).reverse)) (hp.objs.size + 1) (exo (hp.objs.size + 1) C (some dx))) h' := ob1.laidN (fun _ _ q => q) na' (exo_ok d3)
      exact ⟨.ref (hp.objs.size + 1), _, I.un (t' := tk') (un_two old ha d1' na nd) ob2, rfl, q1 en dx nd d2⟩
theorem pe_err {x : Str} {e : Expr} {es : List Expr} {ta : TA} {p pos : Pos} (T : SErr X.prog X.K C fI ns) (hr : Room 1 X.A) (hm : X.mg x = some (.ref C)) (ha : PA X (e :: es) ta) (hg : Gl X x := by rfl)
    (hdb : (x == ("__debug__" : Str)) = false := by decide) (he : starEach (e :: es) X.env = (false, eval e X.env) :: starEach es X.env := by rfl) (hpl : (backTo pos (starEach es X.env)).any (·.1) = false := by rfl) :
    PE X (.Call (.Name x p) (e :: es) [] pos) (tErr C ns ta) := by
  refine ⟨fun pins s σ H Q I h => ?_⟩
  refine wpAny_Call_Name_kw (ld_glob I hg hm ?_ hdb)
  exact PySem.W.callWith_K (h₀ := X.base) I.ok.mod.kin T.kC (thn (ha.run pos pins s σ H _ I h) fun us s1 ⟨vs, H1, I1, r1, q1⟩ => ⟨I1.kIn, call_err T hr I1 r1 q1⟩) he hpl
theorem pe_err0 {x : Str} {p pos : Pos} (T : SErr X.prog X.K C fI ns) (hr : Room 1 X.A) (hm : X.mg x = some (.ref C)) (hg : Gl X x := by rfl)
    (hdb : (x == ("__debug__" : Str)) = false := by decide) : PE X (.Call (.Name x p) [] [] pos) (tErr C ns tNil) := by
  refine ⟨fun pins s σ H Q I h => ?_⟩
  refine wpAny_Call_Name_kw (ld_glob I hg hm ?_ hdb)
  exact PySem.W.callWith_K0 I.kIn T.kC (call_err T hr (us := []) (vs := []) I .nil h)
/-! ### a field of such an error -/
/-- o.f, o an error at a of the class at C -/
def tEf (K : PySem.W.Frag) (f : Str) (to : TE) : TE := fun σ H Q => to σ H fun x H1 => ∃ (a C d : Addr) (fs : List (Str × V)) (v : V), x = .ref a ∧ H1 a = some (exo a C (some d)) ∧ H1 d = some (exd d fs) ∧ XfC K C ∧ PySem.W.findIn K (.ref C) f = some none ∧
  fs.lookup f = some v ∧ Q v H1
theorem pe_ef {e : Expr} {te : TE} {n : Str} {pos : Pos} (he : PE X e te) (hb : attributeBase e n X.env (eval e X.env) = eval e X.env := by rfl) : PE X (.Attribute e n pos) (tEf X.K n te) := by
  refine ⟨fun pins s σ H Q I h => ?_⟩
  refine attr_of hb (thn (he.run pins s σ H _ I h) fun u s1 hh => ?_)
  obtain ⟨x, H1, I1, rx, a, C, d, fs, v, ex, ea, ed, T, hno, l, q⟩ := hh
  subst ex
  obtain rfl : u = Value.ref a := rx
  obtain ⟨t1, ho⟩ := exo_at I1.hok ea
  obtain ⟨mA, hns, hrl⟩ := exd_at I1.hok ed
  obtain ⟨od, hod, hl⟩ := lookIn_ns hns
  obtain ⟨u, hu, ru⟩ := RelO.some_of (v := v) (o := mA n) (by rw [← l]; exact hrl n)
  have J : PySem.W.InstAt s1.heap a _ C (some od) := ⟨ho, rfl, rfl, hod⟩
  exact HandSPX.exc_get I1.kIn J T.ga T.gg T.exC (PySem.W.findObj_own T.hdC hno rfl (by rw [hl, hu])) (handed_of ru) ⟨v, H1, I1.tok _, ru, q⟩
end
end Sq

set_option Elab.async false
set_option linter.all false
set_option maxRecDepth 100000
set_option maxHeartbeats 4000000
/-! isinstance of such errors, whether they have a dict or not. -/
namespace Sq
open PySem PySem.W PySem.Spec PySem.Calls PyProof.Rows
section
variable {prog : Program} {w : World} {A : Around} {E : Value → Shared → Prop} {s : Shared} {K : Frag} {y D : Addr} {oy : Obj} {od : Option Obj}
/-- what the class says of __class__ -/
structure ClsE (K : Frag) (D : Addr) : Prop where
  ga : findIn K (.ref D) "__getattribute__" = some (some (.builtin "BaseException.__getattribute__"))
  gt : findIn K (.ref D) "__getattr__" = some none
  be : subIn K (.ref D) (.type "BaseException") = some true
  hd : hasDictIn K D = true
  ca : findIn K (.ref D) "__class__" = some (some (.builtin "object.__class__"))
  cg : specialIn K (.builtin "object.__class__") "__get__" = some (some (.builtin "getset_descriptor.__get__"))
  ct : takesIn K (.builtin "object.__class__") = some true
  mo : mroIn K D (.type "object") = some true
theorem err_class {Q : Option Value → Shared → Prop} (T : ClsE K D) (X : K.In s.heap) (I : InstAt s.heap y oy D od) (h : Q (some (.ref D)) { s with toks := s.toks + 1 }) : wpAny (model prog w) A (getAttr? (.ref y) "__class__") Q E s := by
  have hcl : (clsIn K D).isSome = true := by
    obtain ⟨cd, hc, _⟩ := any_some T.hd
    rw [hc]
    rfl
  have hf : findObj K D od "__class__" = some (.bind (.builtin "getset_descriptor.__get__") (.builtin "object.__class__")) := by
    cases od with
    | none => exact findObj_dataN hcl T.ca T.cg T.ct
    | some o => exact findObj_data hcl T.ca T.cg T.ct
  obtain ⟨hh, gs, dn, tn, os⟩ := s
  have la := I.type (M := model prog w)
  have lb := looks_findIn (M := model prog w) X T.ga
  have lc := looks_findIn (M := model prog w) X T.gt
  have ld := looks_find (M := model prog w) X I hf
  have sub : Looks (model prog w) hh (isInstance (.ref y) (.type "BaseException")) true := la.andThen (looks_subIn X T.be)
  have n2 : (Value.builtin "BaseException.__getattribute__" == Value.builtin "object.__getattribute__") = false := by decide +kernel
  have n1 : (onTheHeap (Value.ref D) && Value.builtin "BaseException.__getattribute__" == Value.builtin "object.__getattribute__") = false := by rw [n2]; rfl
  have n0 : (false && onTheHeap (Value.builtin "BaseException.__getattribute__")) = false := rfl
  unfold getAttr? getAttrBy? getAttrBy
  refine wpAny_bind (wpAny_mkText (wpAny_bind (wpAny_attempt (wpAny_holding (wpAny_bind (la.at (wpAny_bind (lb.at ?_))))))))
  show wpAny (model prog w) A (if (onTheHeap (Value.ref D) && Value.builtin "BaseException.__getattribute__" == Value.builtin "object.__getattribute__") = true then _ else _) _ _ _
  rw [n1, if_neg Bool.false_ne_true]
  unfold getAttrByItsOwn hookBefore
  refine wpAny_bind (?_ : wpAny (model prog w) A _ _ _ _)
  rw [if_pos (show onTheHeap (Value.ref D) = true from rfl)]
  refine lc.at (wpAny_bind (wpAny_attempt (wpAny_holding ?_)))
  unfold callGetattribute
  rw [n0, if_neg Bool.false_ne_true]
  unfold boundAndCalled
  rw [PySem.F.excAttr_ValueError.ga.bind (.ref y)]
  refine wpAny_bind (wpAny_pure ?_)
  show wpAny (model prog w) A (call (.builtin "BaseException.__getattribute__") [.ref y, .str "__class__" tn]) _ _ _
  refine wpAny_call (codeAny_call_builtin PySem.F.excAttr_ValueError.ga.plain PySem.F.entry_bexc_ga ?_)
  refine @check_slot (model prog w) _ _ ⟨hh, gs, dn, tn + 1, os⟩ "BaseException.__getattribute__" "BaseException" "__getattribute__" (.ref y) [.str "__class__" tn] [] _ (by decide +kernel) (by decide +kernel) sub (PySem.F.args_bexc_ga (.ref y) (.str "__class__" tn)) ?_
  unfold Builtin.«object.__getattribute__»
  refine wpAny_bind (wpAny_of_eq (a := ((Value.ref y : Value), [Value.str "__class__" tn])) (by first | rfl | (simp only [slotArgs]; rfl)) ?_)
  refine wpAny_bind (wpAny_pure (wpAny_bind (la.at (wpAny_bind (ld.at ?_)))))
  show wpAny (model prog w) _ (holding [Value.builtin "object.__class__"] (call (.builtin "getset_descriptor.__get__") [.builtin "object.__class__", .ref y, .ref D]) >>= ret) _ _ _
  refine wpAny_bind (wpAny_holding (wpAny_call (class_get (s := ⟨hh, gs, dn, tn + 1, os⟩) (ox := oy) (od := od) X I T.mo ?_)))
  refine wpAny_pure (?_ : wpAny (model prog w) _ (handedOut (.ref D)) _ _ _)
  rw [handedOut_of (v := .ref D) rfl]
  first
    | exact wpAny_pure (wpAny_pure h)
    | exact wpAny_pure h
    | exact wpAny_pure (wpAny_bind (wpAny_pure (wpAny_pure h)))
theorem cls_obj {h : Heap} (hd : hasDictIn K D = true) (X : K.In h) : ∃ c' d' cd' sl', h.get? D = some ⟨c', d', .cls cd', sl'⟩ := by
  obtain ⟨cd, hc, _⟩ := any_some hd
  unfold clsIn at hc
  split at hc
  · rename_i c' d' cd' sl' ho
    exact ⟨c', d', cd', sl', X _ _ ho⟩
  · cases hc
theorem kit_err (T : ClsE K D) : KitX K (.ref y) (.ref D) (fun h => InstAt h y oy D od) where
  ty := fun _ _ _ I => I.type
  it := fun _ h X _ => by
    obtain ⟨c', d', cd', sl', ho⟩ := cls_obj T.hd X
    intro A' Q' E' s' k q
    unfold isType loadHead
    exact wpAny_bind (wpAny_loadPart (k _ _ ho) (wpAny_pure q))
  ne := fun h tp dd its n sl X htp => by
    obtain ⟨c', d', cd', sl', ho⟩ := cls_obj T.hd X
    refine Bool.eq_false_iff.mpr fun q => ?_
    have e : D = tp := Value.ref.inj (beq_iff_eq.mp q)
    rw [e, htp] at ho
    cases ho
  ca := fun X I k => err_class T X I k
end
end Sq
namespace Sq
open PySem PySem.Spec PyProof.Rows L2
/-- isinstance(e, c), e such an error -/
inductive rIsErr (K : PySem.W.Frag) (xs : List V) (H : Hp) (Q : VK) : Prop
  | mk (a D : Addr) (d : Option Addr) (c : V) (cv : Value) (b : Bool) (ex : xs = [.ref a, c]) (ea : H a = some (exo a D d)) (ed : ∀ dx, d = some dx → ∃ fs, H dx = some (exd dx fs)) (ec : ∀ u, RelV c u → u = cv)
      (ek : PySem.W.kitOne K (.ref D) cv = some b) (T : ClsE K D) (q : Q (.bl b) H) : rIsErr K xs H Q
theorem call_isErr {X : Cx} : CallR X (.builtin "isinstance") (rIsErr X.K) := by
  intro pins s σ H xs us Q I r h
  obtain ⟨a, D, d, c, cv, b, rfl, ha, hd, hcv, e, T, q⟩ := h
  cases r with
  | cons rx rr =>
    cases rr with
    | cons rt rr =>
      cases rr
      cases rx
      have ec := hcv _ rt
      subst ec
      obtain ⟨t1, ho⟩ := exo_at I.hok ha
      cases d with
      | none =>
        have J : PySem.W.InstAt s.heap a _ D none := ⟨ho, rfl, rfl, trivial⟩
        exact PySem.W.kia_one (kit_err T) I.kIn J e (fun z => nomatch z) fun tk => ⟨.bl b, H, I.kept (t' := tk) fun _ _ z => z, rfl, q⟩
      | some dx =>
        obtain ⟨fs, hf⟩ := hd dx rfl
        obtain ⟨mA, ⟨o, es, ep, hod, _⟩, _⟩ := exd_at I.hok hf
        have J : PySem.W.InstAt s.heap a _ D (some o) := ⟨ho, rfl, rfl, hod⟩
        exact PySem.W.kia_one (kit_err T) I.kIn J e (fun z => nomatch z) fun tk => ⟨.bl b, H, I.kept (t' := tk) fun _ _ z => z, rfl, q⟩
end Sq

set_option Elab.async false
set_option linter.all false
set_option maxRecDepth 100000
set_option maxHeartbeats 4000000
/-! A def that is run while no guard stands (so that repr is not under way), the end of such a law, repr of data. -/
namespace Sq
open PySem PySem.Spec PyProof.Rows L2
/-- as FnOk, where no guard stands around -/
def RunG (P : Program) (w : World) (K : PySem.W.Frag) (mg : Str → Option Value) (base : Heap) (CX : CXT) (k : Nat) (f : Addr) (fd : FuncData) (ps : List Str) (sp : Sp) : Prop :=
  ∀ (A : Around) (outer : List Env) (s : Shared) (H : Hp) (args : Args) (us : List Value) (vs : List V) (Q : VK) (E : XK), A.guards = some [] → Room k A → Env0 P w K mg base A outer s H → BindsTo s fd args (ps.zip us) →
    Vals vs us → sp vs H Q E → codeAny (model P w) A (.call (.ref f) args) (CR CX outer P w H s Q E) s
section
variable {P : Program} {w : World} {K : PySem.W.Frag} {mg : Str → Option Value} {base : Heap} {x qual : Str} {params : Arguments} {body : List Stmt} {scope : Scope} {dvs : List V} {kws : List (Str × V)} {f : Addr} {fd : FuncData}
theorem fund_runG {CX : CXT} {N ps : List Str} {k : Nat} {sp : Sp} (F : FunD K x qual params body scope dvs kws f fd) (S : FnScope N ps scope) (hlen : ∀ vs H Q E, sp vs H Q E → vs.length = ps.length)
    (hbody : ∀ (cdv : Value) (A : Around) (outer : List Env) (s : Shared) (H : Hp) (vs : List V) (Q : VK) (E : XK), A.guards = some [] → Room k (A.deeper (envOfC qual scope s.heap.objs.size f cdv)) → sp vs H Q E →
      ∃ t, PSs (cxOf CX P w K mg base N qual scope f cdv A outer s H E) body t ∧ t { nx := fun _ H' => Q .non H', rt := Q } (start N vs) H) : RunG P w K mg base CX (k + 1) f fd ps sp := by
  obtain ⟨oc, od, dV, kV, doc, pm, an, cdv, ct, osl, rfl, lk, hcd, _, _⟩ := F.ex
  intro A outer s H args us vs Q E hg hr e0 hb rv hsp
  have hvl := hlen _ _ _ _ hsp
  have kb : ∀ b o, base.get? b = some o → s.heap.get? b = some o := fun b o e => (e0.bs b o e).1
  have KX : K.In s.heap := PySem.W.Frag.In.keeps e0.mod.kin kb
  have lim : s.heap.NoLimit := e0.mod.nolimit.keeps kb
  have hki : ∀ y ∈ ps.zip us, scope.names.lookup y.1 = some .local ∨ (scope.names.lookup y.1 = some .cell ∧ ((cellsFrom (s.heap.objs.size + 1) scope.names []).lookup y.1).isSome = true) := by
    rintro ⟨n, v⟩ hy
    rcases S.par n (List.of_mem_zip hy).1 with q | q
    · exact .inl q
    · exact .inr ⟨q, PySem.W.cellsFrom_some _ _ _ (.inl q)⟩
  refine codeAny_call_function hr.depth (KX _ _ lk) rfl S.co S.gen rfl (PySem.W.codeRec_of KX hcd) (hb _ _ _ _ ?_)
  refine wpAny_newFunctionEnv_cells S.kind hki fun env he s1 z => ?_
  subst he
  refine ⟨lim.keeps z.toInCall.keep, codeAny_func ?_⟩
  obtain ⟨t, ht, hq⟩ := hbody cdv A outer s H vs Q E hg (hr.deeper _) hsp
  have I : Inv (cxOf CX P w K mg base N qual scope f cdv A outer s H E) [] (start N vs) H s1 := inv_start S hr.hd e0 hvl rv z
  refine wpAny_mono (ht.run [] s1 (start N vs) H _ I hq) (fun fl s' hs => ?_) fun _ _ hs => hs
  have fin : ∀ {σ' : L2.St} {H' : Hp} {v : V} {u : Value}, Inv (cxOf CX P w K mg base N qual scope f cdv A outer s H E) [] σ' H' s' → RelV v u → Q v H' → CE outer P w H s Q u s' := by
    intro σ' H' v u J rv q
    exact ⟨v, H', J.os, J.bare, J.base, J.hok, rv, q⟩
  cases fl with
  | ret u =>
    obtain ⟨v, σ', H', J, rv, q⟩ := hs
    exact fin J rv q
  | next =>
    obtain ⟨σ', H', J, q⟩ := hs
    exact fin (v := V.non) (u := Value.none) J rfl q
  | brk =>
    obtain ⟨_, _, _, z⟩ := hs
    exact False.elim z
  | cont =>
    obtain ⟨_, _, _, z⟩ := hs
    exact False.elim z
end
/-- a law's call, its def told by RunG -/
theorem law_callG {P : Program} {w : World} {K : PySem.W.Frag} {mg mb : Str → Option Value} {CX : CXT} {k : Nat} {fa a : Addr} {fd : FuncData} {x : Str} {sp : Sp} {s₁ : Shared} {vs : List Value} {zs : List Int}
    (KX : K.In s₁.heap) (hG : s₁.heap.Ns mainGlobals mg) (hB : s₁.heap.Ns builtinsNs mb) (hbb : ∀ x : Str, x ≠ "__name__" → mb x = bootBuiltins x) (hlim : s₁.heap.NoLimit) (hgn : s₁.gens = #[])
    (ha : s₁.heap.get? a = some { cls := .type "list", data := .seq vs.toArray }) (hi : IntsAre vs zs) (hl : zs.length ≤ sizeLine) (hr : Room k callerA)
    (F : ∀ base : Heap, K.In base → base.Ns mainGlobals mg → RunG P w K mg base CX k fa fd [x] sp) (hbind : ∀ (s : Shared) (u : Value), BindsTo s fd ⟨[u], []⟩ [(x, u)])
    (hsp : ∀ H : Hp, Only H → SqL K H a (zs.map V.int) → sp [.ref a] H (fun v _ => v = .bl true) fun _ _ _ => False)
    (hCX : ∀ H e s', CX [] H s₁ (fun _ _ _ => False) e s' → False) :
    codeAny (model P w) callerA (.call (.ref fa) ⟨[.ref a], []⟩) (fun r s' => r = .ok (.ret (.bool true)) ∧ OldK s₁.heap s'.heap ∧ s'.os = s₁.os ∧ AllBare s'.gens) s₁ := by
  have rv := vals_ints hi
  have core : ∀ H : Hp, Only H → SqL K H a (zs.map V.int) → HOk P w H s₁.heap → (∀ b, H b ≠ none → b = a) → (H a ≠ none → K.lookup a = none) →
      codeAny (model P w) callerA (.call (.ref fa) { pos := [.ref a], kw := [] }) (fun r s' => r = .ok (.ret (.bool true)) ∧ OldK s₁.heap s'.heap ∧ s'.os = s₁.os ∧ AllBare s'.gens) s₁ := by
    intro H hO hS hok hA hK
    have far : ∀ {b : Addr}, b ≠ a → H b = none := fun {b} n => by
      cases q : H b with
      | none => rfl
      | some u => exact absurd (hA b (by rw [q]; simp)) n
    have bs : ∀ {b : Addr} {o : Obj}, s₁.heap.get? b = some o → H b = none → (hidT s₁.heap H).get? b = some o := fun e n => hidT_get e n
    have nodict : ∀ {b : Addr} {o : Obj} {es : Array DictEntry} {ep : Nat}, s₁.heap.get? b = some o → o.data = .dict es ep → H b = none := by
      intro b o es ep e d
      refine far fun z => ?_
      subst z
      rw [ha] at e
      cases e
      have d' : Data.seq vs.toArray _ = Data.dict es ep := d
      cases d'
    have nsK : ∀ {b : Addr} {m : Str → Option Value}, s₁.heap.Ns b m → (hidT s₁.heap H).Ns b m := by
      rintro b m ⟨o, es, ep, e, d, r⟩
      exact ⟨o, es, ep, bs e (nodict e d), d, r⟩
    have hKb : K.In (hidT s₁.heap H) := by
      intro b o e
      refine bs (KX b o e) ?_
      cases q : H b with
      | none => rfl
      | some u =>
        obtain rfl : b = a := hA b (by rw [q]; simp)
        rw [hK (by rw [q]; simp)] at e
        cases e
    have hM : Mod K mg (hidT s₁.heap H) := ⟨hKb, nsK hG, ⟨mb, nsK hB, hbb⟩, by
      obtain ⟨mc, h1, h2⟩ := hlim
      exact ⟨mc, nsK h1, h2⟩⟩
    have e0 : Env0 P w K mg (hidT s₁.heap H) callerA [] s₁ H := ⟨rfl, hM, fun _ _ e => of_hidT e, Nat.le_of_eq (hidT_size _ _), trivial, fun b z => absurd (show b ∈ ([] : List Addr) from z) (by simp), hok, .of_eq hgn⟩
    refine codeAny_mono (F _ hKb (nsK hG) callerA [] s₁ H ⟨[.ref a], []⟩ [.ref a] [.ref a] _ _ rfl hr e0 (hbind s₁ (.ref a)) (.cons rfl .nil) (hsp H hO hS)) fun r s' h => ?_
    cases r with
    | error e => exact (hCX H e s' h).elim
    | ok fl =>
      cases fl with
      | ret u =>
        obtain ⟨v, H', os, bare, un, hok', r', q⟩ := h
        obtain rfl : v = .bl true := q
        obtain rfl : u = Value.bool true := r'
        refine ⟨rfl, OldK.of_keep fun b o e => ?_, os, bare⟩
        cases q : H b with
        | none => exact un.keep b o e q (fun z => absurd (show b ∈ ([] : List Addr) from z) (by simp)) (by simp)
        | some u =>
          rcases hO b with z | ⟨ob, xs, z⟩
          · rw [q] at z
            cases z
          · have e1 := (hok b _ z).1
            have e2 := (hok' b _ (un.frzs b ob _ z)).1
            rw [e] at e1
            cases e1
            exact e2
      | next => exact False.elim h
      | brk => exact False.elim h
      | cont => exact False.elim h
  have hsz : vs.length = zs.length := hi.length
  cases hk : K.lookup a with
  | some o =>
    have e := KX a o hk
    rw [ha] at e
    cases e
    have hS : SqL K (fun _ => none) a (zs.map V.int) := .inr ⟨_, vs.toArray, _, hk, rfl, rfl, rfl, by rw [List.size_toArray, hsz]; exact hl, by simpa using rv⟩
    exact core (fun _ => none) (fun _ => .inl rfl) hS (fun b u z => nomatch (show (none : Option HO) = some u from z)) (fun b z => absurd rfl z) fun z => absurd rfl z
  | none =>
    refine core (fun b => if b = a then some (.frz { cls := .type "list", data := .seq vs.toArray } (.lst (zs.map V.int))) else none) (fun b => ?_) (.inl (.inr ⟨{ cls := .type "list", data := .seq vs.toArray }, if_pos rfl⟩)) (fun b u z => ?_) (fun b z => ?_) fun _ => hk
    · by_cases hb : b = a
      · exact .inr ⟨_, _, if_pos hb⟩
      · exact .inl (if_neg hb)
    · by_cases hb : b = a
      · cases (if_pos hb).symm.trans z
        subst hb
        exact ⟨ha, by rw [List.length_map]; exact hl, vs, _, rv, ha⟩
      · cases (if_neg hb).symm.trans z
    · by_cases hb : b = a
      · exact hb
      · exact absurd (if_neg hb) z
theorem walk_ofG {l : PySem.W.OpenLaw} {n k : Nat} {q : Program} {loose : List Str} {XP : (Str → Option Value) → Heap → Prop} {YP : World → Heap → Prop} {d : DefRec} {CX : CXT} {x : Str}
    (hn : l.most = some n) (hn2 : n ≤ sizeLine) (hdf : d.params.defaults = []) (hr : Room k callerA)
    (F : ∀ (w : World) (mg : Str → Option Value) (fa : Addr) (h : Heap), YP w h → h.Ns mainGlobals mg → mg d.name = some (.ref fa) → ∃ (K : PySem.W.Frag) (fd : FuncData) (sp : Sp), K.In h ∧ (∀ (s : Shared) (u : Value), BindsTo s fd ⟨[u], []⟩ [(x, u)]) ∧
        (∀ (H : Hp) (a : Addr) (zs : List Int), zs.length ≤ n → (∀ z ∈ zs, Builtin.Int.intBits z ≤ 1048576) → Only H → SqL K H a (zs.map V.int) → sp [.ref a] H (fun v _ => v = .bl true) fun _ _ _ => False) ∧
        ∀ base : Heap, K.In base → base.Ns mainGlobals mg → RunG l.prog w K mg base CX k fa fd [x] sp)
    (hCX : ∀ (H : Hp) (s : Shared) (e : Value) (s' : Shared), CX [] H s (fun _ _ _ => False) e s' → False) :
    PySem.W.WalkO q loose XP YP l.row.toRowW d [] (fun f vs => PySem.call f vs) := by
  refine Att.attach_callB hn hdf fun w s₀ s₁ mg mb fa o pm cd doc a vs zs G Y ho hd hcd hmg hobj hints hlen hbits hgn => ?_
  obtain ⟨K, fd, sp, KX, hb, hsp, hF⟩ := F w mg fa _ Y G.T.g hmg
  refine law_callG KX G.T.g G.T.b G.T.builtins G.T.nolimit hgn hobj hints (Nat.le_trans hlen hn2) hr hF hb ?_ fun H e s' => hCX H s₁ e s'
  exact fun H hO hS => hsp H a zs hlen hbits hO hS
/-! ### repr of data -/
/-- repr(t), t a list or a tuple of data -/
def rReprD (K : PySem.W.Frag) : List V → Hp → VK → Prop := fun xs H Q => ∃ (a : Addr) (d : PyData), xs = [.ref a] ∧ Dp K H (.ref a) d ∧ d.showable = true ∧ d.hasDict = false ∧ d.depth ≤ 50 ∧ d.shown.length ≤ sizeLine ∧ Q (.str d.shown) H
theorem call_reprD {X : Cx} {k : Nat} (hg : X.A.guards = some []) (hr : Room k X.A) : CallR X (.builtin "repr") (rReprD X.K) := by
  intro pins s σ H xs us Q I r h
  obtain ⟨a, d, rfl, hd, h1, h2, h3, h4, q⟩ := h
  cases r with
  | cons rx rr =>
    cases rr
    have hu := hr.units
    obtain rfl := (show _ = Value.ref a from rx)
    obtain ⟨as, rd⟩ := Dp.reads I d (.ref a) (.ref a) hd rfl
    exact repr_of_reads' rd h1 (fun z => by rw [h2] at z; cases z) hg (by omega) (fun _ _ e => e) (fun h' u tk hk => ⟨.str d.shown, H, I.kept (t' := tk) hk, ⟨u, rfl⟩, q⟩) h4
end Sq

set_option Elab.async false
set_option linter.all false
set_option maxRecDepth 100000
set_option maxHeartbeats 4000000
/-! Dict comprehensions whose keys may be tuples, and may be made by calls. -/
namespace Sq
open PySem PySem.Spec PyProof.Rows L2
/-- the store of a comprehension, by either kind of keys -/
theorem dc_put {X : Cx} {ps : List (Addr × Obj)} {τ : L2.St} {G G' : Hp} {z : Shared} {Er : Value → Shared → Prop} {a : Addr} {y v : V} {u r : Value} {Qp : Unit → Shared → Prop} (hu : X.A.units + 1 < cLine) (J : Inv X ps τ G z)
    (g : DPut G a y v G') (ru : RelV y u) (rr : RelV v r) (q : ∀ z', Inv X ps τ G' z' → Qp () z') : wpAny (model X.prog X.w) X.A (dictSet a u r) Qp Er z := by
  rcases g with ⟨kvs, k, ea, rfl, hl, rfl⟩ | ⟨kvs, k, b, ea, rfl, eb, hl, rfl⟩
  · exact d_dictSet J ea hl ru rr q
  · obtain rfl : u = Value.ref b := ru
    obtain ⟨hz, hsys, xs, kt, dd⟩ := dt_of J.hok ea
    have hxs : xs.length ≤ sizeLine := by rw [← Paired.length kt]; exact hz
    have hnew : (putK kvs k v).length ≤ sizeLine := Nat.le_trans (length_putK kvs k v) hl
    refine wpAny_dictSet_heap (hsz := hxs) (show (tupleKind (mixKind X.prog X.w)).room X.A from Nat.lt_of_succ_lt hu) (key_of J.hok eb) dd fun h2 dd2 same => q _ ?_
    obtain ⟨o2, en, ep, eo, c2, c3, c4, _, c5⟩ := dd2
    refine d_write J (by rw [ea]; exact True.intro) same ⟨o2, eo⟩ ⟨hnew, hsys, _, (kt.put k eb rr).keeps fun c ys ec => ?_, o2, en, ep, eo, c2, c3, c4, c5⟩
    rw [upd_ne (ne_of ec ea (fun t => nomatch t))]
    exact ec
/-- {k: v for target in walked if ..}; o0: the empty dict of either kind -/
def tDct (o0 : HO) (wi : TI) (g : TG) (tt : TT) (tk tv : TE) (vs : List Nat) : TE := fun σ H Q => wi σ H fun J H1 => ∀ D, H1 D = none → ∃ W : Nat → Nat → Hp → Prop, (∃ m, W 0 m (upd H1 D o0)) ∧ ∀ i m H, W i m H →
  (J.stop i H ∧ Q (.ref D) H) ∨ (J.go i H ∧ ∃ Nx : Hp → Prop, (∀ H', Nx H' → ∃ m', m' < m ∧ W (i + 1) m' H') ∧ ∀ x H', J.yld i H x H' → g x (wipe σ vs) H' fun σ2 H2 => wipe σ2 vs = wipe σ vs ∧ tt σ2 H2 fun b H3 =>
    if b = true then tk σ2 H3 fun y H4 => tv σ2 H4 fun z H5 => ∃ H6, DPut H5 D y z H6 ∧ Nx H6 else Nx H3)
section
variable {X : Cx}
theorem pe_dct {o0 : HO} {kx vx tg it0 : Expr} {ifs : List Expr} {sc : Scope} {own : List (Str × Nat)} {pos : Pos} {wi : TI} {g : TG} {tt : TT} {tk tv : TE} (ho : o0 = .dK [] ∨ o0 = .dT []) (calm : X.calm = true) (hu : X.A.units + 1 < cLine) (nd : X.N.Nodup) (hi : PI X tg it0 wi)
    (bo : BlkOk X.N X.env.scope sc own)
    (hg : ∀ (s : Shared) (H : Hp) (C : Addr) (cl : List (Str × Addr)) (fp : List Addr), PG (X.blk s H sc (compEnvC sc cl C X.env) fp) tg g)
    (ht : ∀ (s : Shared) (H : Hp) (C : Addr) (cl : List (Str × Addr)) (fp : List Addr), PTs (X.blk s H sc (compEnvC sc cl C X.env) fp) ifs tt)
    (hk : ∀ (s : Shared) (H : Hp) (C : Addr) (cl : List (Str × Addr)) (fp : List Addr), PE (X.blk s H sc (compEnvC sc cl C X.env) fp) kx tk)
    (hv : ∀ (s : Shared) (H : Hp) (C : Addr) (cl : List (Str × Addr)) (fp : List Addr), PE (X.blk s H sc (compEnvC sc cl C X.env) fp) vx tv)
    (hf : ∀ x, foldedSetIterable it0 X.env x = pure x := by intro _; rfl) : PE X (.DictComp kx vx [⟨tg, it0, ifs, 0⟩] sc pos) (tDct o0 wi g tt tk tv (own.map (·.2))) := by
  refine ⟨fun pins z0 σ H Q I0 asked => ?_⟩
  rw [arm_eval_DictComp]
  have caught : ∀ y ∈ sc.names, y.2 = .free → ∃ c, X.env.cells.lookup y.1 = some c := fun y hy e => I0.ok.has _ (bo.free y hy e)
  refine wpAny_comprehension_free (use := none) rfl hf (closure_ok caught) bo.kind (fun y hy e => by rw [bo.uniq y hy, e]) (thn (hi.run pins z0 σ H _ I0 asked) fun xv z1 hx => thn hx fun iv z2 made => ?_)
  obtain ⟨wk, fp, tn, J, H2, rfl, I2, T, at2, fp2, want⟩ := made
  refine wpAny_newObj_type (newEnv_comp ?_)
  obtain ⟨D, eD⟩ : ∃ D, D = z2.heap.objs.size := ⟨_, rfl⟩
  have freeD : H2 D = none := I2.hok.fresh (Nat.le_of_eq eD.symm)
  obtain ⟨W, ⟨m0, first⟩, each⟩ := want D freeD
  obtain ⟨z3, e3⟩ : ∃ z3 : Shared, z3 = { z2 with heap := z2.heap.push { cls := .type "dict", data := .dict #[] } } := ⟨_, rfl⟩
  have heap3 : z3.heap = z2.heap.push { cls := .type "dict", data := .dict #[] } := by rw [e3]
  have I3 : Inv X pins σ (upd H2 D o0) z3 := by
    rw [e3]
    refine I2.laid (t' := z2.toks) (fun b o e => Heap.get?_push_of_some _ e) (Nat.le_of_eq eD.symm) ?_
    rw [eD]
    rcases ho with rfl | rfl
    · exact dk_empty z2.heap I2.big
    · exact dt_empty z2.heap I2.big
  have old : ∀ b ∈ fp, b < z2.heap.objs.size := fun b hb => (T.obj _ _ at2 b hb).elim fun o r => Heap.lt_size r.1
  have fp3 : ∀ b ∈ fp, FpOk X pins (upd H2 D o0) b ∧ b < z3.heap.objs.size := fun b hb => by
    have lt := old b hb
    have ne : b ≠ D := by rw [eD]; exact Nat.ne_of_lt lt
    exact ⟨⟨by rw [upd_ne ne]; exact (fp2 b hb).1, (fp2 b hb).2⟩, by rw [heap3, Heap.size_push]; exact Nat.lt_succ_of_lt lt⟩
  have at3 : tn 0 z3.heap := T.keep _ _ _ at2 fun b _ o e => by rw [heap3]; exact Heap.get?_push_of_some _ e
  have I4 := block_start I3 bo nd fp3
  have PG4 := hg z3 (upd H2 D o0) z3.heap.objs.size (cellsFrom (z3.heap.objs.size + 1) sc.names (cloFrom X.env.cells sc.names [])) fp
  have PT4 := ht z3 (upd H2 D o0) z3.heap.objs.size (cellsFrom (z3.heap.objs.size + 1) sc.names (cloFrom X.env.cells sc.names [])) fp
  have PK4 := hk z3 (upd H2 D o0) z3.heap.objs.size (cellsFrom (z3.heap.objs.size + 1) sc.names (cloFrom X.env.cells sc.names [])) fp
  have PV4 := hv z3 (upd H2 D o0) z3.heap.objs.size (cellsFrom (z3.heap.objs.size + 1) sc.names (cloFrom X.env.cells sc.names [])) fp
  rw [← e3, ← eD]
  show codeAny _ _ (.compStart (.DictComp kx vx [⟨tg, it0, ifs, 0⟩] sc pos) 0 (.ref wk) (.ref D) (compEnvC sc (cellsFrom (z3.heap.objs.size + 1) sc.names (cloFrom X.env.cells sc.names [])) z3.heap.objs.size X.env))
    (compPost (model X.prog X.w) X.A X.xe none _ (.ref D) z3.heap.objs.size) { z3 with heap := pushCells (z3.heap.push { cls := .type "dict", data := .dict #[] }) sc.names }
  have none3 : ∀ b ∈ fp, upd H2 D o0 b = none := fun b hb => (fp3 b hb).1.1
  generalize ec : compEnvC sc (cellsFrom (z3.heap.objs.size + 1) sc.names (cloFrom X.env.cells sc.names [])) z3.heap.objs.size X.env = ce at I4 PG4 PT4 PK4 PV4 ⊢
  have locs : ce.locals = z3.heap.objs.size := by rw [← ec]; rfl
  generalize eG : upd H2 D o0 = G3 at I3 I4 PG4 PT4 PK4 PV4 first none3 fp3
  generalize e4 : ({ z3 with heap := pushCells (z3.heap.push { cls := .type "dict", data := .dict #[] }) sc.names } : Shared) = z4 at I4 ⊢
  have at4 : tn 0 z4.heap := T.keep _ _ _ at3 fun b _ o e => by rw [← e4]; exact pushCells_keeps _ _ _ _ (Heap.get?_push_of_some _ e)
  have still : ∀ {τ : L2.St} {G : Hp} {z : Shared}, Inv (X.blk z3 G3 sc ce fp) [] τ G z → (∀ b ∈ fp, G b = none) → ∀ b ∈ fp, FpOk (X.blk z3 G3 sc ce fp) [] G b := fun {τ G z} J1 n1 b hb =>
    ⟨n1 b hb, (J1.ok.exf b hb).1, J1.ok.exfs b hb, .inl hb, fun x c e => (J1.ok.exf b hb).2 x c e, fun p hp => absurd (show p ∈ ([] : List (Addr × Obj)) ++ [] from hp) (by simp)⟩
  have turns : codeAny (model X.prog X.w) X.A (.compLoop (.DictComp kx vx [⟨tg, it0, ifs, 0⟩] sc pos) 0 (.ref wk) (.ref D) ce) (compPost (model X.prog X.w) X.A X.xe none (fun v z' => ∃ x H', Inv X pins σ H' z' ∧ RelV x v ∧ Q x H') (.ref D) z3.heap.objs.size) z4 := by
    refine compLoop_anyD (fun n z => ∃ i G, Inv (X.blk z3 G3 sc ce fp) [] (wipe σ (own.map (·.2))) G z ∧ tn i z.heap ∧ (∀ b ∈ fp, G b = none) ∧ W i n G) ?_ m0 ⟨0, G3, I4, at4, none3, first⟩
    rintro n z5 ⟨i, G5, I5, at5, n5, w5⟩
    rcases each i n G5 w5 with ⟨stops, goal⟩ | ⟨goes, Nx, less, turn⟩
    · refine thnF (T.done (X.blk z3 G3 sc ce fp) rfl rfl rfl calm i [] z5 _ G5 (fun _ _ => False) I5 (still I5 n5) at5 stops) fun r z6 ⟨er, I6⟩ => ?_
      subst er
      have I7 : Inv X pins σ G5 z6 := I3.call' (ch := fp) I6.os I6.base I6.hok I6.bare fun b hb => ⟨(fp3 b hb).1.2.2.2.1, (fp3 b hb).1.2.1, (fp3 b hb).1.2.2.2.2.1, (fp3 b hb).1.2.2.2.2.2⟩
      have n6 : G5 z3.heap.objs.size = none := by
        have q : G5 ce.locals = none := I6.free
        rwa [locs] at q
      obtain ⟨mm, hm, _⟩ := I6.loc
      have hm' : z6.heap.Ns ce.locals mm := hm
      rw [locs] at hm'
      obtain ⟨g0, g1, g2, g3, g4, g5⟩ := I3.fpOk (Nat.le_refl _) n6
      exact ⟨mm, hm', fun h9 sb => ⟨.ref D, G5, I7.turned (t' := z6.toks) (fun b o hb e => (sb.2 b hb).trans e) g0 g1 g3 g4 g5, rfl, goal⟩⟩
    · refine thnF (T.item (X.blk z3 G3 sc ce fp) rfl rfl rfl calm i [] z5 _ G5 (fun _ _ => False) I5 (still I5 n5) at5 goes) fun r z6 ⟨u, er, h6⟩ => ?_
      subst er
      refine thnF h6 fun _ z7 ⟨x, G7, I7, rx, hy, at7, n7⟩ => ?_
      refine thnF (PG4.run _ z7 _ G7 x u _ (I7.pinned (still I7 n7) (T.obj _ _ at7)) rx (turn x G7 hy)) fun _ z8 ⟨τ8, G8, I8, same8, q8⟩ => ?_
      refine thnF (PT4.run _ z8 τ8 G8 _ I8 q8) fun b z9 ⟨G9, I9, q9⟩ => ?_
      have close : ∀ {z : Shared} {G : Hp}, Inv (X.blk z3 G3 sc ce fp) ([] ++ pinsAt fp z7.heap) τ8 G z → Nx G → ∃ m, m < n ∧ ∃ i G, Inv (X.blk z3 G3 sc ce fp) [] (wipe σ (own.map (·.2))) G z ∧ tn i z.heap ∧ (∀ b ∈ fp, G b = none) ∧ W i m G := fun {z G} J1 nx => by
        obtain ⟨m1, lt1, w1⟩ := less G nx
        have kept : ∀ b ∈ fp, ∀ o, z7.heap.get? b = some o → z.heap.get? b = some o ∧ G b = none := fun b hb o e => by
          have t := J1.pin (b, o) (List.mem_append_right _ (List.mem_append_right _ (mem_pinsAt hb e)))
          exact ⟨t.1, t.2.1⟩
        refine ⟨m1, lt1, i + 1, G, (J1.unpinned (pins := [])).weak (by rw [← same8, wipe_length]) (fun j v e => by rw [← same8] at e; exact (wipe_some e).1), T.keep _ _ _ at7 fun b hb o e => (kept b hb o e).1, fun b hb => ?_, w1⟩
        obtain ⟨o, e, _⟩ := T.obj _ _ at7 b hb
        exact (kept b hb o e).2
      cases b with
      | false =>
        simp only [Bool.false_eq_true, if_false] at q9 ⊢
        exact close I9 q9
      | true =>
        simp only [if_true] at q9 ⊢
        refine thnF (PK4.run _ z9 τ8 G9 _ I9 q9) fun k1 z10 ⟨yk, G10, I10, rk, q10⟩ => ?_
        refine thnF (PV4.run _ z10 τ8 G10 _ I10 q10) fun v1 z11 ⟨yv, G11, I11, rv, G12, put, nx⟩ => ?_
        exact dc_put (X := X.blk z3 G3 sc ce fp) hu I11 put rk rv fun z12 I12 => close I12 nx
  exact codeAny_compStart_dict turns (T.self X.A 0 _ _ _ at4 turns)
end
end Sq

set_option Elab.async false
set_option linter.all false
set_option maxRecDepth 100000
set_option maxHeartbeats 4000000
/-! any and all of a generator expression whose element is any expression of the hand layer. -/
namespace Sq
open PySem PySem.Spec PyProof.Rows L2
/-- a generator expression's scope within a def's -/
structure GenB (N : List Str) (sc scope : Scope) (own : List (Str × Nat)) : Prop where
  blk : BlkOk N sc scope own
  co : scope.isCoroutine = false
  cell : ∀ y ∈ scope.names, y.2 ≠ .cell
  dot : scope.names.lookup (".0" : Str) = some NameKind.local
/-- the context of the generator's frame: made at z, H -/
def genX (X : Cx) (Ag : Around) (z : Shared) (H : Hp) (ge : Env) (fp : List Addr) : Cx :=
  { X with A := Ag, s_0 := z, H_0 := H, env := ge, outer := X.stack, stack := ge :: X.stack, ex := fp, fn := fun _ => false, calm := true, pn := [], xe := fun _ _ => False }
section
variable {X : Cx} {pins : List (Addr × Obj)} {σ : L2.St} {H : Hp} {z : Shared}
theorem gen_start {Ag : Around} {sc : Scope} {own : List (Str × Nat)} {fp : List Addr} {code it : Value} {h' : Heap} {go : Obj} {gs : GenState} {tk : Nat} (I : Inv X pins σ H z) (ok : GenB X.N X.env.scope sc own) (nd : X.N.Nodup)
    (hA : Ag.handled = none) (hF : Ag.frames = some (genEnv sc (cloFrom X.env.cells sc.names []) z.heap.objs.size code builtinsNs X.env :: X.stack))
    (hfp : ∀ b ∈ fp, FpOk X pins H b ∧ b < z.heap.objs.size) (hgs : gs.bare = true) (hgo : ∀ v, go.data ≠ .cell v)
    (hn : h'.Ns z.heap.objs.size (fun y => if y = ".0" then some it else none)) (hs : Heap.SameBut z.heap.objs.size (z.heap.push { cls := .type "frame", data := .dict #[] }) h') (hfr : ¬ go.isFreed = true) :
    Inv (genX X Ag z H (genEnv sc (cloFrom X.env.cells sc.names []) z.heap.objs.size code builtinsNs X.env) fp) [(h'.objs.size, go)] (wipe σ (own.map (·.2))) H { z with gens := z.gens.push gs, toks := tk, heap := h'.push go } := by
  have size' : h'.objs.size = z.heap.objs.size + 1 := by rw [hs.1, Heap.size_push]
  have old : ∀ b o, z.heap.get? b = some o → (h'.push go).get? b = some o := fun b o e => Heap.get?_push_of_some _ (hs.extBut b o (Nat.ne_of_lt (Heap.lt_size e)) (Heap.get?_push_of_some _ e))
  have cm : ∀ {y c}, (cloFrom X.env.cells sc.names []).lookup y = some c → X.env.cells.lookup y = some c ∧ (y, NameKind.free) ∈ sc.names := fun {y c} e => by
    rcases cloFrom_mem (PySem.mem_of_lookup e) with hm | ⟨h1, rfl⟩
    · cases hm
    · obtain ⟨c, hc⟩ := I.ok.has _ (ok.blk.free _ h1 rfl)
      rw [hc]
      exact ⟨rfl, h1⟩
  have has : ∀ {y}, sc.names.lookup y = some .free → ∃ c, (cloFrom X.env.cells sc.names []).lookup y = some c := fun {y} e => mem_lookup (cloFrom_has (cells := X.env.cells) (acc := []) (PySem.mem_of_lookup e))
  generalize he : genEnv sc (cloFrom X.env.cells sc.names []) z.heap.objs.size code builtinsNs X.env = ge at hF ⊢
  have ec : ge.cells = cloFrom X.env.cells sc.names [] := by rw [← he]; rfl
  have el : ge.locals = z.heap.objs.size := by rw [← he]; rfl
  have es : ge.scope = sc := by rw [← he]; rfl
  have noCell : ∀ y, sc.names.lookup y ≠ some .cell := fun y e => ok.cell _ (PySem.mem_of_lookup e) rfl
  have okG : (genX X Ag z H ge fp).Ok := by
    refine ⟨I.ok.mod, by show ge.scope.kind = _; rw [es]; exact ok.blk.kind, by show ge.globals = _; rw [← he]; exact I.ok.glob, by show ge.builtins = _; rw [← he]; rfl, by show z.heap.objs.size ≤ ge.locals; rw [el]; exact Nat.le_refl _,
      fun y x c e1 e2 => ?_, fun y hy => ?_, fun y c w _ => (nomatch w), fun _ => hA, hF, .inr ⟨rfl, by show ge.frame = some ge.locals; rw [← he]; rfl⟩, fun b hb => ⟨?_, fun y c e w => ?_⟩, I.bs, Nat.le_trans I.ok.bsz I.sz, fun b o e hb => ?_, fun b hb w => ?_, I.stack, I.stkFree⟩
    · have e1 : ge.cells.lookup y = some c := e1
      have e2 : ge.cells.lookup x = some c := e2
      rw [ec] at e1 e2
      exact I.ok.inj y x c (cm e1).1 (cm e2).1
    · show ∃ c, ge.cells.lookup y = some c
      rw [ec]
      have hy' : sc.names.lookup y = some .cell ∨ sc.names.lookup y = some .free := by rw [← es]; exact hy
      rcases hy' with hy' | hy'
      · exact absurd hy' (noCell y)
      · exact has hy'
    · show b ≠ ge.locals
      rw [el]
      exact Nat.ne_of_lt (hfp b hb).2
    · have e : ge.cells.lookup y = some c := e
      rw [ec] at e
      exact (hfp b hb).1.2.2.2.2.1 y c (cm e).1 w
    · rcases (hfp b hb).1.2.2.2.1 with w | w
      · exact I.ok.noex b o e w
      · exact absurd (Nat.lt_of_lt_of_le (Heap.lt_size e) (Nat.le_trans I.ok.bsz w)) (Nat.lt_irrefl _)
    · rcases List.mem_cons.mp (I.stkSub b w) with w | w
      · exact (hfp b hb).1.2.1 w
      · exact (hfp b hb).1.2.2.1 w
  have notStk : h'.objs.size ∉ frs X.stack := fun hb => by
    obtain ⟨_, o, ho, _⟩ := I.stack.mem hb
    have lt : h'.objs.size < z.heap.objs.size := Heap.lt_size ho
    rw [size'] at lt
    exact absurd lt (Nat.not_lt_of_le (Nat.le_succ _))
  refine ⟨okG, rfl, I.bare.push hgs, Un.kept old, ⟨_, by show (h'.push go).Ns ge.locals _; rw [el]; exact hn.push _, fun i y v e1 e2 e3 => ?_⟩, fun y c e => ?_, ?_, fun y c e => ?_, fun p hp => ?_, I.hok.kept old, by rw [wipe_length]; exact I.len⟩
  · obtain ⟨e2, out⟩ := wipe_some e2
    have e3 : sc.names.lookup y = some .local ∨ sc.names.lookup y = some .cell ∨ sc.names.lookup y = some .free := by rw [← es]; exact e3
    have nloc : sc.names.lookup y ≠ some .local := fun w => by
      rcases ok.blk.own _ (PySem.mem_of_lookup w) (.inl rfl) with q | q
      · obtain ⟨p, hp, hpy⟩ := List.mem_map.mp q
        have hpy : p.1 = y := hpy
        have q2 := ok.blk.ix p hp
        rw [hpy] at q2
        have hi : p.2 = i := (List.getElem?_inj (List.getElem?_eq_some_iff.mp q2).1 nd).mp (q2.trans e1.symm)
        exact out (List.mem_map.mpr ⟨p, hp, hi⟩)
      · exact q (List.mem_of_getElem? e1)
    have fr : sc.names.lookup y = some .free := by
      rcases e3 with w | w | w
      · exact absurd w nloc
      · exact absurd w (noCell y)
      · exact w
    obtain ⟨c, hc⟩ := has fr
    have k := ok.blk.free _ (PySem.mem_of_lookup fr) rfl
    obtain ⟨m, hm, all⟩ := I.loc
    obtain ⟨u, r, l⟩ := all i y v e1 e2 (.inr k)
    refine ⟨u, r, .inr ⟨.inr (by show ge.scope.names.lookup y = _; rw [es]; exact fr), c, by show ge.cells.lookup y = _; rw [ec]; exact hc, ?_⟩⟩
    rcases l with ⟨w, _⟩ | ⟨_, c2, l2, cell⟩
    · have w : X.env.scope.names.lookup y = some .local := w
      rcases k with k | k <;> exact nomatch k.symm.trans w
    · have q := (cm hc).1
      rw [l2] at q
      cases q
      obtain ⟨o, ho, hd⟩ := cell
      exact ⟨o, old _ _ ho, hd⟩
  · have e : ge.cells.lookup y = some c := e
    rw [ec] at e
    obtain ⟨v, o, ho, hd⟩ := I.cell y c (cm e).1
    exact ⟨v, o, old _ _ ho, hd⟩
  · show H ge.locals = none
    rw [el]
    exact I.hok.fresh (Nat.le_refl _)
  · have e : ge.cells.lookup y = some c := e
    rw [ec] at e
    exact I.freeC y c (cm e).1
  · have hp : p ∈ [(h'.objs.size, go)] := hp
    rw [List.mem_singleton] at hp
    subst hp
    refine ⟨Heap.get?_push_size _ (by simpa using hfr), I.hok.fresh (by show _ ≤ h'.objs.size; omega), ?_, notStk, hgo⟩
    show h'.objs.size ≠ ge.locals
    rw [el]
    omega
end
end Sq

set_option Elab.async false
set_option linter.all false
set_option maxRecDepth 100000
set_option maxHeartbeats 4000000
/-! The generator's own turns. -/
namespace Sq
open PySem PySem.Spec PyProof.Rows L2
/-- the turns' reading: at stop Qs, at the walk's end Qe -/
def genTurns (J : It) (g : TG) (tt : TT) (te : TE) (vs : List Nat) (σ : L2.St) (stop : Bool) (Qs Qe : Hp → Prop) (W : Nat → Nat → Hp → Prop) : Prop := ∀ i m H, W i m H →
  (J.stop i H ∧ Qe H) ∨ (J.go i H ∧ ∃ Nx : Hp → Prop, (∀ H', Nx H' → ∃ m', m' < m ∧ W (i + 1) m' H') ∧ ∀ x H', J.yld i H x H' → g x (wipe σ vs) H' fun σ2 H2 => wipe σ2 vs = wipe σ vs ∧ tt σ2 H2 fun b H3 =>
    if b = true then te σ2 H3 fun y H4 => ∃ c, y = .bl c ∧ if c = stop then Qs H4 else Nx H4 else Nx H3)
/-- a generator of tests hands out: one that stops, or one behind which it may be woken -/
def gY (X : Cx) (pl : List (Addr × Obj)) (stop : Bool) (Qs : Hp → Prop) : Protocol := fun n s₀ v s kap => ∃ c τ G, v = .bool c ∧ Inv X pl τ G s ∧ if c = stop then Qs G else ∀ B, AllBare B → kap (.send .none) { s with gens := B }
def gF (X : Cx) (pl : List (Addr × Obj)) (Qe : Hp → Prop) : Nat → Shared → Shared → Prop := fun _ _ s => ∃ τ G, Inv X pl τ G s ∧ Qe G
def gR (X : Cx) (pl : List (Addr × Obj)) (Qe : Hp → Prop) : GenEnd := fun n s₀ r s => ((r = .ok (.ret .none) ∨ r = .ok .next) ∧ gF X pl Qe n s₀ s) ∨ ∃ e, r = .error e ∧ False
theorem Inv.bared {X : Cx} {pl : List (Addr × Obj)} {σ : L2.St} {H : Hp} {s : Shared} (I : Inv X pl σ H s) {B : Array GenState} (h : AllBare B) : Inv X pl σ H { s with gens := B } :=
  ⟨I.ok, I.os, h, I.base, I.loc, I.cell, I.free, I.freeC, I.pin, I.hok, I.len⟩
section
variable {Xg : Cx} {elt tg iter : Expr} {ifs : List Expr} {scope : Scope} {pos : Pos} {g : TG} {tt : TT} {te : TE} {J : It} {fp : List Addr} {it : Addr} {tn : Nat → Heap → Prop} {Ax : Around} {vs : List Nat} {σ : L2.St} {stop : Bool} {Qs Qe : Hp → Prop}
  {W : Nat → Nat → Hp → Prop} {pl : List (Addr × Obj)}
theorem seg_turns (calm : Xg.calm = true) (co : Xg.env.scope.isCoroutine = false) (over : Ax.over (.compLoop (.GeneratorExp elt [⟨tg, iter, ifs, 0⟩] scope pos) 0 (.ref it) .none Xg.env) [] = Xg.A) (T : Turn Xg.prog Xg.w Xg.K tg J fp it tn)
    (hg : PG Xg tg g) (ht : PTs Xg ifs tt) (he : PE Xg elt te) (quiet : ∀ e s, Xg.xe e s → False) (hfp : ∀ b ∈ fp, b ∈ Xg.ex ∧ ∀ p ∈ Xg.pn ++ pl, p.1 ≠ b) (all : genTurns J g tt te vs σ stop Qs Qe W) :
    ∀ (m n i : Nat) (G : Hp) (s s₀ : Shared), m < n → Inv Xg pl (wipe σ vs) G s → tn i s.heap → (∀ b ∈ fp, G b = none) → W i m G →
      Seg (model Xg.prog Xg.w) Ax (gR Xg pl Qe) (gY Xg pl stop Qs) n s₀ (.compLoop (.GeneratorExp elt [⟨tg, iter, ifs, 0⟩] scope pos) 0 (.ref it) .none Xg.env)
        ((model Xg.prog Xg.w).den (.compLoop (.GeneratorExp elt [⟨tg, iter, ifs, 0⟩] scope pos) 0 (.ref it) .none Xg.env)) [] s := by
  intro m
  induction m using Nat.strongRecOn with
  | _ m ih =>
    intro n i G s s₀ hmn I at0 n0 w0
    have still : ∀ {τ : L2.St} {G : Hp} {z : Shared}, Inv Xg pl τ G z → (∀ b ∈ fp, G b = none) → ∀ b ∈ fp, FpOk Xg pl G b := fun {τ G z} J1 n1 b hb =>
      ⟨n1 b hb, (J1.ok.exf b (hfp b hb).1).1, J1.ok.exfs b (hfp b hb).1, .inl (hfp b hb).1, fun x c e => (J1.ok.exf b (hfp b hb).1).2 x c e, (hfp b hb).2⟩
    show Seg _ Ax _ _ _ s₀ _ ((compTurn (.GeneratorExp elt [⟨tg, iter, ifs, 0⟩] scope pos) 0 (.ref it) .none Xg.env).onRaise (leaving Xg.env)) [] s
    rw [compTurn_gen, Sem.onRaise_eq_wrap]
    refine seg_bind_wrap (wpAny_standAt ?_)
    rcases all i m G w0 with ⟨stops, goal⟩ | ⟨goes, Nx, less, turn⟩
    · refine seg_bind_wrap ?_
      rw [over]
      refine thnF (T.done Xg rfl rfl rfl calm i pl s _ G (fun _ _ => False) I (still I n0) at0 stops) fun r z ⟨er, I1⟩ => ?_
      subst er
      exact seg_end (.ok .next) (.inl ⟨.inr rfl, _, _, I1, goal⟩)
    · refine seg_bind_wrap ?_
      rw [over]
      refine thnF (T.item Xg rfl rfl rfl calm i pl s _ G (fun _ _ => False) I (still I n0) at0 goes) fun r z1 ⟨u, er, h1⟩ => ?_
      subst er
      refine seg_bind_wrap ?_
      rw [over]
      refine thnF h1 fun _ z2 ⟨x, G2, I2, rx, hy, at2, n2⟩ => ?_
      refine seg_bind_wrap ?_
      rw [over]
      refine wpAny_mono (hg.run _ z2 _ G2 x u _ (I2.pinned (still I2 n2) (T.obj _ _ at2)) rx (turn x G2 hy)) (fun _ z3 ⟨τ3, G3, I3, same3, q3⟩ => ?_) fun _ _ w => (quiet _ _ w).elim
      refine seg_bind_wrap ?_
      rw [over]
      refine wpAny_mono (ht.run _ z3 τ3 G3 _ I3 q3) (fun b z4 ⟨G4, I4, q4⟩ => ?_) fun _ _ w => (quiet _ _ w).elim
      have next : ∀ {z : Shared} {G : Hp} {k : Nat} (s1 : Shared), Inv Xg (pl ++ pinsAt fp z2.heap) τ3 G z → Nx G → m ≤ k → Seg (model Xg.prog Xg.w) Ax (gR Xg pl Qe) (gY Xg pl stop Qs) k s1 (.compLoop (.GeneratorExp elt [⟨tg, iter, ifs, 0⟩] scope pos) 0 (.ref it) .none Xg.env)
          ((model Xg.prog Xg.w).den (.compLoop (.GeneratorExp elt [⟨tg, iter, ifs, 0⟩] scope pos) 0 (.ref it) .none Xg.env)) [] z := fun {z G k} s1 J1 nx mk => by
        obtain ⟨m1, lt1, w1⟩ := less G nx
        have kept : ∀ b ∈ fp, ∀ o, z2.heap.get? b = some o → z.heap.get? b = some o ∧ G b = none := fun b hb o e => by
          have t := J1.pin (b, o) (List.mem_append_right _ (List.mem_append_right _ (mem_pinsAt hb e)))
          exact ⟨t.1, t.2.1⟩
        refine ih m1 lt1 k (i + 1) G z s1 (by omega) ((J1.unpinned (pins := pl)).weak (by rw [← same3, wipe_length]) fun j v e => by rw [← same3] at e; exact (wipe_some e).1) (T.keep _ _ _ at2 fun b hb o e => (kept b hb o e).1) (fun b hb => ?_) w1
        obtain ⟨o, e, _⟩ := T.obj _ _ at2 b hb
        exact (kept b hb o e).2
      cases b with
      | false =>
        simp only [Bool.false_eq_true, if_false] at q4 ⊢
        exact seg_again rfl (next _ I4 q4 (Nat.le_of_lt hmn))
      | true =>
        simp only [if_true] at q4 ⊢
        have hy : ∀ v, yieldOut Xg.env v = yieldValue v := fun v => by simp only [yieldOut, co, Bool.false_eq_true, if_false]
        simp only [hy]
        rw [Sem.bind_eq_wrap', Sem.bind_eq_wrap', Sem.wrap_wrap, Sem.wrap_wrap]
        refine seg_wrap ?_
        rw [over]
        refine wpAny_mono (he.run _ z4 τ3 G4 _ I4 q4) (fun y z5 ⟨v, G5, I5, rv, c, ec, q5⟩ => ?_) fun _ _ w => (quiet _ _ w).elim
        subst ec
        obtain rfl : y = Value.bool c := rv
        obtain ⟨k, rfl⟩ : ∃ k, n = k + 1 := ⟨n - 1, by omega⟩
        refine seg_at (seg_yield rfl rfl rfl ⟨c, τ3, G5, rfl, I5.unpinned, ?_⟩)
        by_cases hc : c = stop
        · rw [if_pos hc] at q5 ⊢
          exact q5
        · rw [if_neg hc] at q5 ⊢
          exact fun B hB => seg_again rfl (next _ (Inv.bared I5 hB) q5 (by omega))
end
end Sq

set_option Elab.async false
set_option linter.all false
set_option maxRecDepth 100000
set_option maxHeartbeats 4000000
/-! any and all draw from such a generator. -/
namespace Sq
open PySem PySem.Spec PyProof.Rows L2
section
variable {Xg : Cx} {stop : Bool} {Qs Qe : Hp → Prop} {a : Addr} {go : Obj} {g : Nat} {A : Around} {R : Result → Shared → Prop}
/-- between two turns -/
def Sleeps (Xg : Cx) (Ax : Around) (pl : List (Addr × Obj)) (stop : Bool) (Qs Qe : Hp → Prop) (g n : Nat) (s : Shared) : Prop :=
  (∃ τ G, Inv Xg pl τ G s) ∧ ∃ gs, s.gens[g]? = some gs ∧ gs.Goes (model Xg.prog Xg.w) Ax (gR Xg pl Qe) (gY Xg pl stop Qs) n (.send .none) (s.setGen g .running)
/-- one draw -/
theorem draw_one (hh : A.handled = none) (hd : A.depth < recursionLimit) (isg : ∀ s : Shared, s.heap.get? a = some go → s.heap.IsGen a g) {n : Nat} {s : Shared} {Q : Option Value → Shared → Prop} {E : Value → Shared → Prop}
    (h : Sleeps Xg A.in1 [(a, go)] stop Qs Qe g n s)
    (hs : ∀ s' τ G, Inv Xg [(a, go)] τ G s' → Qs G → Q (some (.bool stop)) s')
    (hn : ∀ m s', n = m + 1 → Sleeps Xg A.in1 [(a, go)] stop Qs Qe g m s' → Q (some (.bool (!stop))) s')
    (he : ∀ s' τ G, Inv Xg [(a, go)] τ G s' → Qe G → Q none s') : wpAny (model Xg.prog Xg.w) A (pyNext (.ref a)) Q E s := by
  obtain ⟨⟨τ, G, I⟩, gs, hgs, hgo⟩ := h
  have pin : ∀ {τ G s}, Inv Xg [(a, go)] τ G s → s.heap.get? a = some go := fun I => (I.pin (a, go) (List.mem_append_right _ (List.mem_singleton.mpr rfl))).1
  have hgl : g < s.gens.size := (Array.getElem?_eq_some_iff.mp hgs).1
  refine GenW.wpAny_gsz (n := g + 1) hgl (next_genG (Er := fun _ _ => False) (F := gF Xg [(a, go)] Qe) (Y := gY Xg [(a, go)] stop Qs) hh I.nolimit hd (isg _ (pin I)) hgs hgo (fun v s₁ gs' hb hv => ?_) (fun s₁ hp h' hk => ?_) fun e s₁ w => w.elim)
  · obtain ⟨c, τ1, G1, rfl, I1, q⟩ := hv
    intro big
    have big1 : g < s₁.gens.size := by
      have e : (s₁.setGen g gs').gens.size = s₁.gens.size := GenW.setGen_size _ _ _
      have b2 : g + 1 ≤ (s₁.setGen g gs').gens.size := big
      omega
    have I2 : Inv Xg [(a, go)] τ1 G1 (s₁.setGen g gs') := Inv.bared I1 (allBare_setGen I1.bare hb)
    by_cases hc : c = stop
    · rw [if_pos hc] at q
      subst hc
      exact hs _ τ1 G1 I2 q
    · rw [if_neg hc] at q
      have ec : c = !stop := by cases c <;> cases stop <;> simp_all
      subst ec
      have q2 := q ((s₁.setGen g gs').setGen g .running).gens (allBare_setGen I2.bare rfl)
      cases n with
      | zero => exact q2.elim
      | succ m => exact hn m _ rfl ⟨⟨τ1, G1, I2⟩, gs', setGen_at big1, q2⟩
  · obtain ⟨τ1, G1, I1, q⟩ := hp
    intro _
    exact he _ τ1 G1 ((Inv.bared I1 (allBare_setGen I1.bare rfl)).kept (t' := s₁.toks) hk) q
variable (hh : A.handled = none) (hd : A.depth < recursionLimit) (isg : ∀ s : Shared, s.heap.get? a = some go → s.heap.IsGen a g) (fin : ∀ c τ G s, Inv Xg [(a, go)] τ G s → (if c = stop then Qs G else Qe G) → R (.ok (.ret (.bool c))) s)
include hh hd isg fin
theorem any_turns (hstop : stop = true) : ∀ (n : Nat) (s : Shared), Sleeps Xg A.in1.in1 [(a, go)] stop Qs Qe g n s → codeAny (model Xg.prog Xg.w) A (.builtin "any.loop" ⟨[.ref a], []⟩) R s := by
  subst hstop
  intro n
  induction n with
  | zero =>
    intro s hs
    refine codeAny_builtin F.entry_any_loop ?_
    rw [Around.under_plainId F.plain_any_loop _]
    show wpAny _ A.in1 (pyNext (.ref a) >>= _) _ _ s
    refine wpAny_bind (draw_one (A := A.in1) hh hd isg hs (fun s' τ G I q => ?_) (fun m s' em _ => nomatch em) fun s' τ G I q => ?_)
    · refine wpAny_bind (wpAny_holding (wpAny_truthy_bool ?_))
      refine wpAny_bind (wpAny_letGo ?_)
      simp only [if_true]
      exact wpAny_bind (wpAny_rule (wpAny_pure (fin true τ G s' I (by rw [if_pos rfl]; exact q))))
    · exact wpAny_bind (wpAny_rule (wpAny_pure (fin false τ G s' I (by rw [if_neg Bool.false_ne_true]; exact q))))
  | succ n ih =>
    intro s hs
    refine codeAny_builtin F.entry_any_loop ?_
    rw [Around.under_plainId F.plain_any_loop _]
    show wpAny _ A.in1 (pyNext (.ref a) >>= _) _ _ s
    refine wpAny_bind (draw_one (A := A.in1) hh hd isg hs (fun s' τ G I q => ?_) (fun m s' em w => ?_) fun s' τ G I q => ?_)
    · refine wpAny_bind (wpAny_holding (wpAny_truthy_bool ?_))
      refine wpAny_bind (wpAny_letGo ?_)
      simp only [if_true]
      exact wpAny_bind (wpAny_rule (wpAny_pure (fin true τ G s' I (by rw [if_pos rfl]; exact q))))
    · obtain rfl : n = m := Nat.succ.inj em
      refine wpAny_bind (wpAny_holding (wpAny_truthy_bool ?_))
      refine wpAny_bind (wpAny_letGo ?_)
      simp only [Bool.not_true, Bool.false_eq_true, if_false]
      exact wpAny_pure ⟨plainId_quiet F.plain_any_loop _, ih s' w⟩
    · exact wpAny_bind (wpAny_rule (wpAny_pure (fin false τ G s' I (by rw [if_neg Bool.false_ne_true]; exact q))))
theorem all_turns (hstop : stop = false) : ∀ (n : Nat) (s : Shared), Sleeps Xg A.in1.in1 [(a, go)] stop Qs Qe g n s → codeAny (model Xg.prog Xg.w) A (.builtin "all.loop" ⟨[.ref a], []⟩) R s := by
  subst hstop
  intro n
  induction n with
  | zero =>
    intro s hs
    refine codeAny_builtin F.entry_all_loop ?_
    rw [Around.under_plainId F.plain_all_loop _]
    show wpAny _ A.in1 (pyNext (.ref a) >>= _) _ _ s
    refine wpAny_bind (draw_one (A := A.in1) hh hd isg hs (fun s' τ G I q => ?_) (fun m s' em _ => nomatch em) fun s' τ G I q => ?_)
    · refine wpAny_bind (wpAny_holding (wpAny_truthy_bool ?_))
      refine wpAny_bind (wpAny_letGo ?_)
      simp only [Bool.false_eq_true, if_false]
      exact wpAny_bind (wpAny_rule (wpAny_pure (fin false τ G s' I (by rw [if_pos rfl]; exact q))))
    · exact wpAny_bind (wpAny_rule (wpAny_pure (fin true τ G s' I (by rw [if_neg Bool.noConfusion]; exact q))))
  | succ n ih =>
    intro s hs
    refine codeAny_builtin F.entry_all_loop ?_
    rw [Around.under_plainId F.plain_all_loop _]
    show wpAny _ A.in1 (pyNext (.ref a) >>= _) _ _ s
    refine wpAny_bind (draw_one (A := A.in1) hh hd isg hs (fun s' τ G I q => ?_) (fun m s' em w => ?_) fun s' τ G I q => ?_)
    · refine wpAny_bind (wpAny_holding (wpAny_truthy_bool ?_))
      refine wpAny_bind (wpAny_letGo ?_)
      simp only [Bool.false_eq_true, if_false]
      exact wpAny_bind (wpAny_rule (wpAny_pure (fin false τ G s' I (by rw [if_pos rfl]; exact q))))
    · obtain rfl : n = m := Nat.succ.inj em
      refine wpAny_bind (wpAny_holding (wpAny_truthy_bool ?_))
      refine wpAny_bind (wpAny_letGo ?_)
      simp only [Bool.not_false, if_true]
      exact wpAny_pure ⟨plainId_quiet F.plain_all_loop _, ih s' w⟩
    · exact wpAny_bind (wpAny_rule (wpAny_pure (fin true τ G s' I (by rw [if_neg Bool.noConfusion]; exact q))))
end
end Sq

set_option Elab.async false
set_option linter.all false
set_option maxRecDepth 100000
set_option maxHeartbeats 4000000
/-! any(test for target in walked if ..), all(..). -/
namespace Sq
open PySem PySem.Spec PyProof.Rows L2
def tGen (P : Addr) (stop : Bool) (wi : TI) (g : TG) (tt : TT) (te : TE) (vs : List Nat) : TE := fun σ H Q => wi σ H fun J H1 => GxR.TabG H1 P ∧ ∀ H2, GxR.Tabbed P H1 H2 → ∃ W : Nat → Nat → Hp → Prop, (∃ m, W 0 m H2) ∧
  genTurns J g tt te vs σ stop (Q (.bl stop)) (Q (.bl !stop)) W
section
variable {X : Cx} {elt tg iter : Expr} {ifs : List Expr} {scope : Scope} {gpos : Pos} {g : TG} {tt : TT} {te : TE} {own : List (Str × Nat)} {wi : TI} {k : Nat} {c P : Addr} {stop : Bool}
abbrev genC (elt tg iter : Expr) (ifs : List Expr) (scope : Scope) (gpos : Pos) : Expr := .GeneratorExp elt [⟨tg, iter, ifs, 0⟩] scope gpos
theorem seg_first {Xg : Cx} {J : It} {fp : List Addr} {it : Addr} {tn : Nat → Heap → Prop} {Ax : Around} {vs : List Nat} {σ : L2.St} {Qs Qe : Hp → Prop} {W : Nat → Nat → Hp → Prop} {pl : List (Addr × Obj)}
    (calm : Xg.calm = true) (co : Xg.env.scope.isCoroutine = false) (over : Ax.over (.compLoop (genC elt tg iter ifs scope gpos) 0 (.ref it) .none Xg.env) [] = Xg.A) (T : Turn Xg.prog Xg.w Xg.K tg J fp it tn)
    (hg : PG Xg tg g) (ht : PTs Xg ifs tt) (he : PE Xg elt te) (quiet : ∀ e s, Xg.xe e s → False) (hfp : ∀ b ∈ fp, b ∈ Xg.ex ∧ ∀ p ∈ Xg.pn ++ pl, p.1 ≠ b) (all : genTurns J g tt te vs σ stop Qs Qe W)
    (m n : Nat) (G : Hp) (s s₀ : Shared) (hmn : m < n) (I : Inv Xg pl (wipe σ vs) G s) (at0 : tn 0 s.heap) (n0 : ∀ b ∈ fp, G b = none) (w0 : W 0 m G) :
    Seg (model Xg.prog Xg.w) Ax (gR Xg pl Qe) (gY Xg pl stop Qs) n s₀ (.compStart (genC elt tg iter ifs scope gpos) 0 (.ref it) .none Xg.env)
        ((model Xg.prog Xg.w).den (.compStart (genC elt tg iter ifs scope gpos) 0 (.ref it) .none Xg.env)) [] s := by
  have loop := seg_turns calm co over T hg ht he quiet hfp all m n 0 G s s₀ hmn I at0 n0 w0
  show Seg _ Ax _ _ _ s₀ _ ((compStart (genC elt tg iter ifs scope gpos) 0 (.ref it) .none Xg.env).onRaise (leaving Xg.env)) [] s
  unfold compStart
  rw [Sem.onRaise_eq_wrap]
  show Seg _ Ax _ _ _ s₀ _ ((ask >>= _).wrap _ _ _ _) [] s
  refine seg_bind_wrap (wpAny_askSetting ?_)
  split
  · exact seg_again rfl loop
  · refine seg_bind_wrap (wpAny_rule ?_)
    first
      | exact seg_bind_wrap (wpAny_standAt (seg_bind_wrap (T.self _ 0 s _ _ at0 (seg_again rfl loop))))
      | (show Seg _ Ax _ _ _ s₀ _ ((standAt iter.pos >>= _).wrap _ _ _ _) [] s
         exact seg_bind_wrap (wpAny_standAt (seg_bind_wrap (T.self _ 0 s _ _ at0 (seg_again rfl loop)))))
theorem in1_frames' (A : Around) : A.in1.frames = A.frames := rfl
theorem boot_all : bootBuiltins "all" = some (.builtin "all") := by decide +kernel
/-- the generator is made: it sleeps ahead of its first turn -/
theorem gen_made {pins : List (Addr × Obj)} {σ : L2.St} {H : Hp} {s : Shared} {Q : VK} {Q' : Value → Shared → Prop} (calm : X.calm = true) (hr : Room (k + 1) X.A) (nd : X.N.Nodup) (TB : GxR.TabB X.base X.mg c P) (hcode : X.env.code = .ref c) (ok : GenB X.N X.env.scope scope own) (hi : PI X tg iter wi)
    (hg : ∀ (A : Around) (z : Shared) (G : Hp) (cl : List (Str × Addr)) (C : Addr) (cd : Value) (fp : List Addr), PG (genX X A z G (genEnv scope cl C cd builtinsNs X.env) fp) tg g)
    (ht : ∀ (A : Around) (z : Shared) (G : Hp) (cl : List (Str × Addr)) (C : Addr) (cd : Value) (fp : List Addr), Room k A → PTs (genX X A z G (genEnv scope cl C cd builtinsNs X.env) fp) ifs tt)
    (he : ∀ (A : Around) (z : Shared) (G : Hp) (cl : List (Str × Addr)) (C : Addr) (cd : Value) (fp : List Addr), Room k A → PE (genX X A z G (genEnv scope cl C cd builtinsNs X.env) fp) elt te)
    (hs : ∀ v, genFold iter X.env v = pure v) (I : Inv X pins σ H s) (h : tGen P stop wi g tt te (own.map (·.2)) σ H Q)
    (hQ : ∀ (Xg : Cx) (a : Addr) (go : Obj) (gn n : Nat) (s' : Shared), Xg.prog = X.prog → Xg.w = X.w → (∀ s : Shared, s.heap.get? a = some go → s.heap.IsGen a gn) → Sleeps Xg X.A.in1.in1 [(a, go)] stop (Q (.bl stop)) (Q (.bl !stop)) gn n s' →
      (∀ τ G s1, Inv Xg [(a, go)] τ G s1 → Inv X pins σ G s1) → s'.heap.get? a = some go → Q' (.ref a) s') :
    wpAny (model X.prog X.w) X.A (eval (genC elt tg iter ifs scope gpos) X.env) Q' X.xe s := by
  refine wpAny_GeneratorExp_make ok.co (closure_ok fun y hy e => I.ok.has _ (ok.blk.free y hy e)) ok.cell ok.dot ok.blk.kind (by have := hr.dp; omega) ?_ hs
  refine thn (hi.run pins s σ H _ I h) fun xv s1 hx => thn hx fun iv s2 made => ?_
  obtain ⟨it, fp, tn, J, H2, rfl, I2, T, at2, fp2, ⟨ps, hP, htr⟩, want⟩ := made
  have hPs : s2.heap.get? P = some { cls := .none, data := .fields ps } := I2.hok P _ hP
  have cd : PySem.W.CodeHd s2.heap c P := TB.code.keeps fun b u e => I2.bk b u e
  refine ⟨I2.nolimit, ?_⟩
  have cont : ∀ (code : Value) (h3 : Heap) (tk : Nat) (more : Array Value), Heap.ExtBut P s2.heap h3 → s2.heap.objs.size ≤ h3.objs.size → h3.get? P = some { cls := .none, data := .fields (ps ++ more) } → TriplesOk (ps ++ more).toList →
      wpAny (model X.prog X.w) X.A (builtinsFor X.env.globals X.env.builtins) (fun bi s₄ =>
        ∀ h', h'.Ns s₄.heap.objs.size (fun y => if y = ".0" then some (.ref it) else none) → Heap.SameBut s₄.heap.objs.size (s₄.heap.push { cls := .type "frame", data := .dict #[] }) h' →
          Q' (.ref h'.objs.size) { s₄ with
            gens := s₄.gens.push (.fresh (.compStart (genC elt tg iter ifs scope gpos) 0 (.ref it) .none (genEnv scope (cloFrom X.env.cells scope.names []) s₄.heap.objs.size code bi X.env))),
            toks := s₄.toks + 1 + 1 + 1,
            heap := h'.push { cls := .type "generator", data := .fields #[.int s₄.gens.size 0, .str "<genexpr>" (s₄.toks + 1), .str (X.env.qual ++ "<genexpr>") (s₄.toks + 1 + 1)] } }) X.xe { s2 with heap := h3, toks := tk } := by
    intro code h3 tk more hx hsz hP3 htr3
    obtain ⟨bm, ob, e1, e2, e3, e4, e5, e6, e7, e8⟩ := TB.bm
    refine wpAny_builtinsFor (m := X.mg) (by rw [I2.ok.glob]; exact (I2.mod.glob.keeps I2.bk).extBut hx TB.gP) e1 e2 (hx _ _ e4 (I2.bk _ _ e5)) e6 e7 e8 ?_
    intro h' hn hsb
    have J3 := GxR.inv_tab (more := more) (h' := h3) (g' := s2.gens) (d' := s2.drawn) (t' := tk) I2 hP (fun b u hb e => hx b u hb e) hP3 I2.bare
    generalize eG : upd H2 P (.tbl (ps ++ more)) = G3 at J3
    have off : ∀ b, b ≠ P → G3 b = H2 b := fun b hb => by rw [← eG]; exact upd_ne hb
    have tabbed : GxR.Tabbed P H2 G3 := ⟨⟨ps ++ more, by rw [← eG]; exact upd_same, htr3⟩, off⟩
    have fpP : ∀ b ∈ fp, b ≠ P := fun b hb w => by
      have q := (fp2 b hb).1
      rw [w, hP] at q
      cases q
    have at3 : tn 0 h3 := T.keep _ _ _ at2 fun b hb o e => hx b o (fpP b hb) e
    have fp3 : ∀ b ∈ fp, FpOk X pins G3 b ∧ b < h3.objs.size := fun b hb => by
      obtain ⟨o, e, _⟩ := T.obj _ _ at2 b hb
      exact ⟨⟨by rw [off b (fpP b hb)]; exact (fp2 b hb).1, (fp2 b hb).2⟩, Nat.lt_of_lt_of_le (Heap.lt_size e) hsz⟩
    obtain ⟨W, ⟨m0, w0⟩, turns⟩ := want G3 tabbed
    generalize ez : ({ s2 with heap := h3, toks := tk } : Shared) = z3 at J3 hn hsb ⊢
    have ezh : z3.heap = h3 := by rw [← ez]
    have J3' : Inv X pins σ G3 z3 := J3
    have fp3' : ∀ b ∈ fp, FpOk X pins G3 b ∧ b < z3.heap.objs.size := by rw [ezh]; exact fp3
    have ov : (X.A.in1.in1.over (.compLoop (genC elt tg iter ifs scope gpos) 0 (.ref it) .none (genEnv scope (cloFrom X.env.cells scope.names []) z3.heap.objs.size code builtinsNs X.env)) []).frames = some (genEnv scope (cloFrom X.env.cells scope.names []) z3.heap.objs.size code builtinsNs X.env :: X.stack) := by
      simp only [Around.over, in1_frames', I.ok.frames]
      rfl
    have oh : (X.A.in1.in1.over (.compLoop (genC elt tg iter ifs scope gpos) 0 (.ref it) .none (genEnv scope (cloFrom X.env.cells scope.names []) z3.heap.objs.size code builtinsNs X.env)) []).handled = none := hr.hd
    have orm : Room k (X.A.in1.in1.over (.compLoop (genC elt tg iter ifs scope gpos) 0 (.ref it) .none (genEnv scope (cloFrom X.env.cells scope.names []) z3.heap.objs.size code builtinsNs X.env)) []) := by
      refine ⟨hr.hd, ?_, ?_⟩
      · have := hr.dp
        show X.A.depth + 0 + 1 + 3 * k + 5 < recursionLimit
        omega
      · have := hr.un
        show X.A.units + 1 + 1 + 0 + 3 + 16 * k + 200 < cLine
        omega
    generalize eA : X.A.in1.in1.over (.compLoop (genC elt tg iter ifs scope gpos) 0 (.ref it) .none (genEnv scope (cloFrom X.env.cells scope.names []) z3.heap.objs.size code builtinsNs X.env)) [] = Ag at ov oh orm
    have I4 := gen_start (go := { cls := .type "generator", data := .fields #[.int z3.gens.size 0, .str "<genexpr>" (z3.toks + 1), .str (X.env.qual ++ "<genexpr>") (z3.toks + 1 + 1)] })
      (gs := .fresh (.compStart (genC elt tg iter ifs scope gpos) 0 (.ref it) .none (genEnv scope (cloFrom X.env.cells scope.names []) z3.heap.objs.size code builtinsNs X.env))) (tk := z3.toks + 1 + 1 + 1) J3' ok nd oh ov fp3' rfl (fun v w => nomatch w) hn hsb Bool.false_ne_true
    have kept : ∀ b o, z3.heap.get? b = some o → (h'.push { cls := .type "generator", data := .fields #[.int z3.gens.size 0, .str "<genexpr>" (z3.toks + 1), .str (X.env.qual ++ "<genexpr>") (z3.toks + 1 + 1)] }).get? b = some o :=
      fun b o e => Heap.get?_push_of_some _ (hsb.extBut b o (Nat.ne_of_lt (Heap.lt_size e)) (Heap.get?_push_of_some _ e))
    have n3 : ∀ b ∈ fp, G3 b = none := fun b hb => (fp3' b hb).1.1
    have ha : (h'.push { cls := .type "generator", data := .fields #[.int z3.gens.size 0, .str "<genexpr>" (z3.toks + 1), .str (X.env.qual ++ "<genexpr>") (z3.toks + 1 + 1)] }).get? h'.objs.size = some { cls := .type "generator", data := .fields #[.int z3.gens.size 0, .str "<genexpr>" (z3.toks + 1), .str (X.env.qual ++ "<genexpr>") (z3.toks + 1 + 1)] } := Heap.get?_push_size _ rfl
    refine hQ (genX X Ag z3 G3 (genEnv scope (cloFrom X.env.cells scope.names []) z3.heap.objs.size code builtinsNs X.env) fp) h'.objs.size _ z3.gens.size (m0 + 1) _ rfl rfl (fun s e => ⟨_, _, _, e, rfl, rfl, rfl⟩)
      ⟨⟨_, _, I4⟩, _, Array.getElem?_push_size .., rfl, seg_first (Xg := genX X Ag z3 G3 (genEnv scope (cloFrom X.env.cells scope.names []) z3.heap.objs.size code builtinsNs X.env) fp) rfl ok.co eA T (hg ..) (ht _ _ _ _ _ _ _ orm) (he _ _ _ _ _ _ _ orm) (fun _ _ w => w) (fun b hb => ⟨hb, fun p hp w => ?_⟩) turns m0 (m0 + 1) G3 _ _ (Nat.lt_succ_self _) (Inv.bared I4 (allBare_setGen I4.bare rfl)) (T.keep _ _ _ at3 fun b hb o e => kept b o (by rw [ezh]; exact e)) n3 w0⟩
      (fun τ G s1 J => J3'.call' (ch := fp) J.os J.base J.hok J.bare fun b hb => ⟨(fp3' b hb).1.2.2.2.1, (fp3' b hb).1.2.1, (fp3' b hb).1.2.2.2.2.1, (fp3' b hb).1.2.2.2.2.2⟩) ha
    have hp : p ∈ [(h'.objs.size, _)] := hp
    rw [List.mem_singleton] at hp
    subst hp
    have w : h'.objs.size = b := w
    have lt := (fp3' b hb).2
    have sz : h'.objs.size = z3.heap.objs.size + 1 := by rw [hsb.1, Heap.size_push]
    rw [← w, sz] at lt
    exact absurd lt (Nat.not_lt_of_le (Nat.le_succ _))
  cases hf : codeAmong gpos ps.toList with
  | none =>
    refine wpAny_genexprCodeX hcode (cd.code hPs htr) (cd.tab hPs) hf fun c' h' tk hx hge hlt hco' _ htab' _ => ?_
    obtain ⟨o1, vs, f1, tf, fl, tg, inF, tx, tt, op, _, _, _, _, _, _, _, _, _, ht2, _⟩ := hco'
    exact cont _ h' tk _ hx (Nat.le_trans hge (Nat.le_of_lt hlt)) htab'.2 ht2
  | some cv =>
    refine wpAny_genexprCode_hit hcode (cd.code hPs htr) hf ?_
    exact cont cv s2.heap s2.toks #[] (Heap.ExtBut.refl _ _) (Nat.le_refl _) (by simpa using hPs) (by simpa using htr)

section
variable (calm : X.calm = true) (hr : Room (k + 1) X.A) (nd : X.N.Nodup) (TB : GxR.TabB X.base X.mg c P) (hcode : X.env.code = .ref c) (ok : GenB X.N X.env.scope scope own) (hi : PI X tg iter wi)
  (hg : ∀ (A : Around) (z : Shared) (G : Hp) (cl : List (Str × Addr)) (C : Addr) (cd : Value) (fp : List Addr), PG (genX X A z G (genEnv scope cl C cd builtinsNs X.env) fp) tg g)
  (ht : ∀ (A : Around) (z : Shared) (G : Hp) (cl : List (Str × Addr)) (C : Addr) (cd : Value) (fp : List Addr), Room k A → PTs (genX X A z G (genEnv scope cl C cd builtinsNs X.env) fp) ifs tt)
  (he : ∀ (A : Around) (z : Shared) (G : Hp) (cl : List (Str × Addr)) (C : Addr) (cd : Value) (fp : List Addr), Room k A → PE (genX X A z G (genEnv scope cl C cd builtinsNs X.env) fp) elt te)
  (hs : ∀ v, genFold iter X.env v = pure v)
include calm hr nd TB hcode ok hi hg ht he hs
theorem pe_anyG {p pos : Pos} (gl : Gl X "any") (hm : X.mg "any" = none) (hst : starEach [genC elt tg iter ifs scope gpos] X.env = (false, eval (genC elt tg iter ifs scope gpos) X.env) :: starEach [] X.env := by rfl) :
    PE X (.Call (.Name "any" p) [genC elt tg iter ifs scope gpos] [] pos) (tGen P true wi g tt te (own.map (·.2))) := by
  refine ⟨fun pins s σ H Q I h => wpAny_Call_Name_kw (ld_blt I gl hm boot_any ?_)⟩
  refine PyProof.Rows.callWith_builtin1 ?_ hst (by rfl)
  rw [hst]
  show wpAny _ _ (spliced ((false, eval (genC elt tg iter ifs scope gpos) X.env) :: backTo pos (starEach [] X.env))) _ _ s
  refine Calls.spliced_cons (gen_made calm hr nd TB hcode ok hi hg ht he hs I h fun Xg a go gn n s' e1 e2 isg sl back ha => Calls.spliced_nil ?_)
  refine call_function_tree F.kind_any F.plain_any F.entry_any (F.args_any1 _) ?_
  unfold Builtin.«any»
  refine wpAny_bind (m := oneArg "any" _) (wpAny_pure (wpAny_bind (wpAny_pyIter_gen (isg _ ha) (wpAny_pure ⟨plainId_quiet F.plain_any_loop _, ?_⟩))))
  have run := any_turns (R := fun r s' => match r with | .ok (.ret v) => (∃ x H', Inv X pins σ H' s' ∧ RelV x v ∧ Q x H') | .ok _ => False | .error e => X.xe e s') hr.hd (by have := hr.dp; omega) isg (fun b τ G s1 J q => ⟨.bl b, G, back τ G s1 J, rfl, ?_⟩) rfl n s' sl
  · rw [e1, e2] at run
    exact run
  · cases b
    · rwa [if_neg Bool.false_ne_true] at q
    · rwa [if_pos rfl] at q
theorem pe_allG {p pos : Pos} (gl : Gl X "all") (hm : X.mg "all" = none) (hst : starEach [genC elt tg iter ifs scope gpos] X.env = (false, eval (genC elt tg iter ifs scope gpos) X.env) :: starEach [] X.env := by rfl) :
    PE X (.Call (.Name "all" p) [genC elt tg iter ifs scope gpos] [] pos) (tGen P false wi g tt te (own.map (·.2))) := by
  refine ⟨fun pins s σ H Q I h => wpAny_Call_Name_kw (ld_blt I gl hm boot_all ?_)⟩
  refine PyProof.Rows.callWith_builtin1 ?_ hst (by rfl)
  rw [hst]
  show wpAny _ _ (spliced ((false, eval (genC elt tg iter ifs scope gpos) X.env) :: backTo pos (starEach [] X.env))) _ _ s
  refine Calls.spliced_cons (gen_made calm hr nd TB hcode ok hi hg ht he hs I h fun Xg a go gn n s' e1 e2 isg sl back ha => Calls.spliced_nil ?_)
  refine call_function_tree F.kind_all F.plain_all F.entry_all (F.args_all1 _) ?_
  unfold Builtin.«all»
  refine wpAny_bind (m := oneArg "all" _) (wpAny_pure (wpAny_bind (wpAny_pyIter_gen (isg _ ha) (wpAny_pure ⟨plainId_quiet F.plain_all_loop _, ?_⟩))))
  have run := all_turns (R := fun r s' => match r with | .ok (.ret v) => (∃ x H', Inv X pins σ H' s' ∧ RelV x v ∧ Q x H') | .ok _ => False | .error e => X.xe e s') hr.hd (by have := hr.dp; omega) isg (fun b τ G s1 J q => ⟨.bl b, G, back τ G s1 J, rfl, ?_⟩) rfl n s' sl
  · rw [e1, e2] at run
    exact run
  · cases b
    · rwa [if_pos rfl] at q
    · rwa [if_neg Bool.noConfusion] at q
end
end
end Sq

set_option Elab.async false
set_option linter.all false
set_option maxRecDepth 100000
set_option maxHeartbeats 4000000
/-! Walks under any, all and dict comprehensions. -/
namespace Sq
open PySem PySem.Spec PyProof.Rows L2
section
variable {J : It} {n : Nat} {Gd : Hp → Prop} {Y : Nat → Hp → V → Hp → Prop} {g : TG} {tt : TT} {vs : List Nat} {σ : L2.St}
theorem gen_it (w : Walk J n Gd Y) {te : TE} {stop : Bool} {Qs Qe : Hp → Prop} {H2 : Hp} (Pv : Nat → Hp → Prop) (h0 : Pv 0 H2) (hG : ∀ i H, i ≤ n → Pv i H → Gd H)
    (hs : ∀ i x H H', i < n → Pv i H → Y i H x H' → g x (wipe σ vs) H' fun σ2 H2 => wipe σ2 vs = wipe σ vs ∧ tt σ2 H2 fun b H3 => if b = true then te σ2 H3 fun y H4 => ∃ c, y = .bl c ∧ if c = stop then Qs H4 else Pv (i + 1) H4 else Pv (i + 1) H3)
    (hd : ∀ H, Pv n H → Qe H) : ∃ W : Nat → Nat → Hp → Prop, (∃ m, W 0 m H2) ∧ genTurns J g tt te vs σ stop Qs Qe W := by
  refine ⟨fun i m H => m = n - i ∧ i ≤ n ∧ Pv i H, ⟨n, rfl, Nat.zero_le _, h0⟩, ?_⟩
  rintro i m H ⟨rfl, hi, p⟩
  by_cases lt : i < n
  · exact .inr ⟨w.goes i H lt (hG i H hi p), Pv (i + 1), fun H' p' => ⟨n - (i + 1), by omega, rfl, lt, p'⟩, fun x H' y => hs i x H H' lt p (w.yields i H x H' lt (hG i H hi p) y)⟩
  · obtain rfl : i = n := Nat.le_antisymm hi (Nat.le_of_not_lt lt)
    exact .inl ⟨w.stops H (hG i H hi p), hd H p⟩
theorem dct_it (w : Walk J n Gd Y) {o0 : HO} {tk tv : TE} {H1 : Hp} {D : Addr} {Qd : Hp → Prop} (Pv : Nat → Hp → Prop) (h0 : Pv 0 (upd H1 D o0)) (hG : ∀ i H, i ≤ n → Pv i H → Gd H)
    (hs : ∀ i x H H', i < n → Pv i H → Y i H x H' → g x (wipe σ vs) H' fun σ2 H2 => wipe σ2 vs = wipe σ vs ∧ tt σ2 H2 fun b H3 => if b = true then tk σ2 H3 fun y H4 => tv σ2 H4 fun z H5 => ∃ H6, DPut H5 D y z H6 ∧ Pv (i + 1) H6 else Pv (i + 1) H3)
    (hd : ∀ H, Pv n H → Qd H) : ∃ W : Nat → Nat → Hp → Prop, (∃ m, W 0 m (upd H1 D o0)) ∧ ∀ i m H, W i m H →
      (J.stop i H ∧ Qd H) ∨ (J.go i H ∧ ∃ Nx : Hp → Prop, (∀ H', Nx H' → ∃ m', m' < m ∧ W (i + 1) m' H') ∧ ∀ x H', J.yld i H x H' → g x (wipe σ vs) H' fun σ2 H2 => wipe σ2 vs = wipe σ vs ∧ tt σ2 H2 fun b H3 =>
        if b = true then tk σ2 H3 fun y H4 => tv σ2 H4 fun z H5 => ∃ H6, DPut H5 D y z H6 ∧ Nx H6 else Nx H3) := by
  refine ⟨fun i m H => m = n - i ∧ i ≤ n ∧ Pv i H, ⟨n, rfl, Nat.zero_le _, h0⟩, ?_⟩
  rintro i m H ⟨rfl, hi, p⟩
  by_cases lt : i < n
  · exact .inr ⟨w.goes i H lt (hG i H hi p), Pv (i + 1), fun H' p' => ⟨n - (i + 1), by omega, rfl, lt, p'⟩, fun x H' y => hs i x H H' lt p (w.yields i H x H' lt (hG i H hi p) y)⟩
  · obtain rfl : i = n := Nat.le_antisymm hi (Nat.le_of_not_lt lt)
    exact .inl ⟨w.stops H (hG i H hi p), hd H p⟩
end
end Sq

set_option Elab.async false
set_option linter.all false
set_option maxRecDepth 100000
set_option maxHeartbeats 4000000
/-! Cells: pairs of whole numbers as tuples, as keys; their order; min of a dict of cells. -/
namespace Sq
open PySem PySem.Spec PyProof.Rows L2
abbrev Cell := Int × Int
def cV (c : Cell) : List V := [.int c.1, .int c.2]
def cK (c : Cell) : List Key := [.inl c.1, .inl c.2]
theorem cK_V (c : Cell) : (cK c).map kV = cV c := rfl
theorem cV_int (c : Cell) : cV c = [c.1, c.2].map V.int := rfl
theorem cK_inj {c d : Cell} (h : cK c = cK d) : c = d := by
  obtain ⟨c1, c2⟩ := c
  obtain ⟨d1, d2⟩ := d
  have h : ([.inl c1, .inl c2] : List Key) = [.inl d1, .inl d2] := h
  simp only [List.cons.injEq, Sum.inl.injEq, and_true] at h
  rw [h.1, h.2]
theorem cV_inj {c d : Cell} (h : cV c = cV d) : c = d := by
  obtain ⟨c1, c2⟩ := c
  obtain ⟨d1, d2⟩ := d
  have h : ([.int c1, .int c2] : List V) = [.int d1, .int d2] := h
  simp only [List.cons.injEq, V.int.injEq, and_true] at h
  rw [h.1, h.2]
/-- the cell c stands at q -/
def At (H : Hp) (q : Addr) (c : Cell) : Prop := H q = some (.tup (cV c))
theorem At.new {H : Hp} {q p : Addr} {c : Cell} {o : HO} (h : At H q c) (hp : H p = none) : At (upd H p o) q c := by
  unfold At
  rw [upd_ne (ne_of_none h hp)]
  exact h
theorem At.off {H : Hp} {q p : Addr} {c : Cell} {o u : HO} (h : At H q c) (hp : H p = some u) (hu : ∀ xs, u ≠ .tup xs) : At (upd H p o) q c := by
  unfold At
  rw [upd_ne (ne_of h hp (fun e => hu _ e.symm))]
  exact h
theorem At.sqT {K : PySem.W.Frag} {H : Hp} {q : Addr} {c : Cell} (h : At H q c) : SqT K H q (cV c) := SqT.of h
/-- the cells' order -/
def cLt (a b : Cell) : Bool := decide (a.1 < b.1 ∨ (a.1 = b.1 ∧ a.2 < b.2))
theorem cLt_lex (a b : Cell) : HT.lexLt [a.1, a.2] [b.1, b.2] = cLt a b := by
  unfold cLt
  rw [HT.lexLt_cons, HT.lexLt_cons, HT.lexLt_nil_nil]
  by_cases h1 : a.1 = b.1
  · rw [if_pos h1]
    by_cases h2 : a.2 = b.2
    · rw [if_pos h2]
      exact (decide_eq_false (by omega)).symm
    · rw [if_neg h2]
      exact decide_eq_decide.mpr (by omega)
  · rw [if_neg h1]
    exact decide_eq_decide.mpr (by omega)
theorem cLt_irr (a : Cell) : cLt a a = false := decide_eq_false (by omega)
theorem cLt_trans {a b c : Cell} (h1 : cLt a b = true) (h2 : cLt b c = true) : cLt a c = true := by
  have h1 := of_decide_eq_true h1
  have h2 := of_decide_eq_true h2
  exact decide_eq_true (by omega)
theorem cLt_tri {a b : Cell} (h1 : cLt a b = false) (h2 : cLt b a = false) : a = b := by
  have h1 := of_decide_eq_false h1
  have h2 := of_decide_eq_false h2
  exact Prod.ext (by omega) (by omega)
theorem cLt_asym {a b : Cell} (h1 : cLt a b = true) : cLt b a = false := by
  have h1 := of_decide_eq_true h1
  exact decide_eq_false (by omega)
/-- the best by a relation that is not reflexive and carries over -/
theorem best_of {bt : Nat → Nat → Bool} (irr : ∀ i, bt i i = false) (tr : ∀ i j k, bt i j = true → bt j k = true → bt i k = true) : ∀ k, argBest bt k ≤ k ∧ ∀ i, i ≤ k → bt i (argBest bt k) = false
  | 0 => ⟨Nat.le_refl _, fun i hi => by
    obtain rfl : i = 0 := by omega
    exact irr 0⟩
  | k + 1 => by
    obtain ⟨h1, h2⟩ := best_of irr tr k
    unfold argBest
    by_cases hb : bt (k + 1) (argBest bt k) = true
    · rw [if_pos hb]
      refine ⟨Nat.le_refl _, fun i hi => ?_⟩
      rcases Nat.lt_or_ge k i with q | q
      · obtain rfl : i = k + 1 := by omega
        exact irr _
      · cases e : bt i (k + 1) with
        | false => rfl
        | true => exact absurd (tr _ _ _ e hb) (by rw [h2 i q]; exact Bool.false_ne_true)
    · rw [if_neg hb]
      refine ⟨Nat.le_succ_of_le h1, fun i hi => ?_⟩
      rcases Nat.lt_or_ge k i with q | q
      · obtain rfl : i = k + 1 := by omega
        exact Bool.eq_false_iff.mpr hb
      · exact h2 i q
section
variable {X : Cx}
/-- min(d), d a dict whose keys are cells, not empty -/
def rMinC : List V → Hp → VK → Prop := fun vs H Q => ∃ (a : Addr) (kvs : List (List Key × V)) (cs : List Cell), vs = [V.ref a] ∧ H a = some (.dT kvs) ∧ kvs.map (·.1) = cs.map cK ∧ cs ≠ [] ∧ ∀ c q, c ∈ cs → (∀ d ∈ cs, cLt d c = false) → At H q c → Q (.ref q) H
theorem cr_minC (calm : X.calm = true) (hu : X.A.units + 2 < cLine) : CallR X (.builtin "min") rMinC := by
  intro pins s σ H vs us Q I r h
  obtain ⟨a, kvs, cs, rfl, ha, hk, hne, q⟩ := h
  rw [Vals.ref1 r]
  obtain ⟨_, hsys, xs, rel, o, es, ep, ho, hx, hdat, hes, his, hn⟩ := dt_of I.hok ha
  have hlt : a < s.heap.objs.size := Heap.lt_size ho
  have lk : kvs.length = cs.length := by
    have e := congrArg List.length hk
    rwa [List.length_map, List.length_map] at e
  have lx : kvs.length = xs.length := Paired.length rel
  have le : es.size = xs.length := size_of_entries hes
  have pos : 0 < cs.length := List.length_pos_iff.mpr hne
  have item : ∀ (i : Nat) (v : Value), (∃ en : DictEntry, es[i]? = some en ∧ v = en.key) → ∃ (c : Cell) (b : Addr), cs[i]? = some c ∧ v = .ref b ∧ At H b c := by
    rintro i v ⟨en, hen, rfl⟩
    have e1 := entry_at hes i
    rw [hen] at e1
    cases hxi : xs[i]? with
    | none =>
      rw [hxi] at e1
      exact nomatch (show some en = none from e1)
    | some x =>
      rw [hxi] at e1
      have e2 : en = entryOfKey (tupleKind (mixKind X.prog X.w)) x := Option.some.inj e1
      obtain ⟨kv, hkv, r1, r2, _⟩ := DX.pget rel hxi
      have e3 : (kvs.map (·.1))[i]? = some kv.1 := by rw [List.getElem?_map, hkv]; rfl
      rw [hk, List.getElem?_map] at e3
      obtain ⟨c, hc, ec⟩ := Option.map_eq_some_iff.mp e3
      refine ⟨c, x.2.1, hc, by rw [e2]; rfl, ?_⟩
      have r2 : H x.2.1 = some (.tup (kv.1.map kV)) := r2
      unfold At
      rw [r2, ← ec, cK_V]
  have cmp : CmpIn X.prog X.w X.A.in1 .Lt s.heap (fun i v => ∃ en : DictEntry, es[i]? = some en ∧ v = en.key) (fun i j => cLt (cs.getD i (0, 0)) (cs.getD j (0, 0))) := by
    intro i j vi vj z Qz Ez keep hi hj hq
    obtain ⟨c, b, hc, rfl, hb⟩ := item i vi hi
    obtain ⟨d, b2, hd, rfl, hb2⟩ := item j vj hj
    have g1 : cs.getD i (0, 0) = c := by rw [List.getD_eq_getElem?_getD, hc]; rfl
    have g2 : cs.getD j (0, 0) = d := by rw [List.getD_eq_getElem?_getD, hd]; rfl
    have hq : Qz (Value.bool (cLt (cs.getD i (0, 0)) (cs.getD j (0, 0)))) z := hq
    rw [g1, g2, ← cLt_lex] at hq
    obtain ⟨its, rv, t1, _⟩ := I.tuple (At.sqT hb)
    obtain ⟨its2, rv2, t2, _⟩ := I.tuple (At.sqT hb2)
    have i1 : IntsAre its.toArray.toList [c.1, c.2] := L2.intsAre_of (by simpa [cV] using rv)
    have i2 : IntsAre its2.toArray.toList [d.1, d.2] := L2.intsAre_of (by simpa [cV] using rv2)
    exact HT.lt_tupInts (t1.keeps keep) (t2.keeps keep) i1 i2 (by show X.A.units + 1 < cLine; omega) hq
  refine call_min_walkH (iter_keys hsys ho hx hdat ?_)
  have W := walks_raw (prog := X.prog) (w := X.w) (A := X.A.in1) (I.ok.hd calm) s.heap.objs.size a (Nat.ne_of_lt hlt) hdat
  refine ⟨s.heap.objs.size, _, _, _, _, _, _, s.heap, _, rfl, W.toS, ⟨⟨_, Heap.get?_push_size _ rfl, rfl, rfl⟩, Heap.get?_push_of_some _ ho⟩, fun b hb => ?_, by rw [le, ← lx, lk]; exact pos, fun b u e hb => ?_, fun b u e => Heap.get?_push_of_some _ e, cmp, fun v s' hP mv => ?_⟩
  · show b < (s.heap.push _).objs.size
    rw [Heap.size_push]
    rcases List.mem_cons.mp hb with e | hb
    · rw [e]; exact Nat.lt_succ_self _
    · rw [List.mem_singleton.mp hb]; exact Nat.lt_succ_of_lt hlt
  · have e1 : b = s.heap.objs.size := List.mem_singleton.mp hb
    have e2 := Heap.lt_size e
    rw [e1] at e2
    exact absurd e2 (Nat.lt_irrefl _)
  · obtain ⟨c, b, hc, rfl, hb⟩ := item _ v hP
    obtain ⟨b1, b2⟩ := best_of (bt := fun i j => cLt (cs.getD i (0, 0)) (cs.getD j (0, 0))) (fun i => cLt_irr _) (fun i j k => cLt_trans) (es.size - 1)
    have gc : cs.getD (argBest (fun i j => cLt (cs.getD i (0, 0)) (cs.getD j (0, 0))) (es.size - 1)) (0, 0) = c := by rw [List.getD_eq_getElem?_getD, hc]; rfl
    have I2 : Inv X pins σ H s' := by
      obtain ⟨h', g', d', t', o'⟩ := s'
      obtain ⟨mh, mg, md, mo, _⟩ := mv
      have mo : o' = s.os := mo
      have md : d' = s.drawn := md
      have mg : g' = s.gens := mg
      subst mo md mg
      refine I.kept (t' := t') fun b u e => mh b u (fun hm => ?_) (Heap.get?_push_of_some _ e)
      have e1 : b = s.heap.objs.size := List.mem_singleton.mp hm
      have e2 := Heap.lt_size e
      rw [e1] at e2
      exact absurd e2 (Nat.lt_irrefl _)
    refine ⟨.ref b, H, I2, rfl, q c b (List.mem_of_getElem? hc) (fun d hd => ?_) hb⟩
    obtain ⟨i, hi⟩ := List.mem_iff_getElem?.mp hd
    have il : i < cs.length := (List.getElem?_eq_some_iff.mp hi).1
    have w := b2 i (by omega)
    have w : cLt (cs.getD i (0, 0)) (cs.getD (argBest (fun i j => cLt (cs.getD i (0, 0)) (cs.getD j (0, 0))) (es.size - 1)) (0, 0)) = false := w
    rw [gc, List.getD_eq_getElem?_getD, hi] at w
    exact w
end
end Sq

set_option Elab.async false
set_option linter.all false
set_option maxRecDepth 100000
set_option maxHeartbeats 4000000
/-! *d in a list display, d a dict whose keys are tuples. -/
namespace Sq
open PySem PySem.Spec PyProof.Rows L2
theorem collect_src {prog : Program} {w : World} {A : Around} {E : Value → Shared → Prop} {s : Shared} {T : String} {r d : Addr} {n : Nat} {P : Nat → Value → Prop} {OK : Heap → Prop} {Q : List Value → Shared → Prop}
    (K : PySem.W.KdlSrc prog w T r d n P OK) (calm : A.handled = none) (ok : OK s.heap) (hn : n ≤ sizeLine)
    (q : ∀ (h' : Heap) (tk : Nat) (acc : Array Value), (∀ b o, s.heap.get? b = some o → h'.get? b = some o) → ItemsOf P acc n → Q acc.toList { s with heap := h', toks := tk }) : wpAny (model prog w) A (collect (.ref r)) Q E s := by
  unfold collect
  refine wpAny_bind (wpAny_runValue (codeAny_builtin F.entry_proto_collect ?_))
  rw [Around.under_plainId F.plain_proto_collect _]
  show wpAny _ A.in1 (newList [] >>= fun l => again (.builtin "list.__iadd__" ⟨[l, .ref r], []⟩)) _ _ s
  refine wpAny_bind (wpAny_newObj_type (wpAny_pure ⟨plainId_quiet F.plain_list_iadd _, codeAny_builtin F.entry_list_iadd ?_⟩))
  rw [Around.under_plainId F.plain_list_iadd _]
  have at0 : (s.heap.push { cls := .type "list", data := .seq ([] : List Value).toArray }).get? s.heap.objs.size = some { cls := .type "list", data := .seq #[] 0 } := Heap.get?_push_size _ rfl
  have lt := K.there _ ok
  have grow : ∀ b o, s.heap.get? b = some o → (s.heap.push { cls := .type "list", data := .seq ([] : List Value).toArray }).get? b = some o := fun b o e => Heap.get?_push_of_some _ e
  show wpAny _ A.in1 (Builtin.List.listExtendWith (.ref s.heap.objs.size) (.ref r) (.ref s.heap.objs.size)) _ _ _
  refine wpAny_mono (PySem.W.kdl_extend (A := A) (R := fun rr z => rr = .ok (.ret (.ref s.heap.objs.size)) ∧ ∃ (h' : Heap) (tk : Nat) (acc : Array Value) (c' : Nat), z = { s with heap := h', toks := tk } ∧
      (∀ b o, s.heap.get? b = some o → h'.get? b = some o) ∧ h'.get? s.heap.objs.size = some { cls := .type "list", dict := none, data := .seq acc c', slots := #[] } ∧ ItemsOf P acc n)
    (s := { s with heap := s.heap.push { cls := .type "list", data := .seq ([] : List Value).toArray } }) K calm (K.keep _ _ ok fun b _ o e => grow b o e) s.heap.objs.size (Nat.ne_of_gt lt.1) (Nat.ne_of_gt lt.2) _ 0 at0
    (fun h' tk acc c' hk e hi => ⟨rfl, h', tk, acc, c', rfl, fun b o z => hk b o (Nat.ne_of_lt (Heap.lt_size z)) (grow b o z), e, hi⟩) hn) (fun fin z h => ?_) fun e z h => absurd h.1 (by simp)
  cases fin with
  | done f =>
    obtain ⟨ef, h', tk, acc, c', rfl, hk, hS, hi⟩ := h
    cases ef
    show wpAny _ A (load s.heap.objs.size >>= _) _ _ _
    exact wpAny_bind (wpAny_load hS (wpAny_pure (q h' tk acc hk hi)))
  | again c' =>
    refine ⟨h.1, codeAny_mono h.2 fun rr z' hr' => ?_⟩
    obtain ⟨rfl, h', tk, acc, c', rfl, hk, hS, hi⟩ := hr'
    show wpAny _ A (load s.heap.objs.size >>= _) _ _ _
    exact wpAny_bind (wpAny_load hS (wpAny_pure (q h' tk acc hk hi)))
section
variable {X : Cx} {pins : List (Addr × Obj)} {σ : L2.St} {H : Hp} {s : Shared}
theorem star_keys (calm : X.calm = true) {a : Addr} {kvs : List (List Key × V)} {E : Value → Shared → Prop} {Q : List Value → Shared → Prop} (I : Inv X pins σ H s) (ha : Rd H a (.dT kvs))
    (q : ∀ bs z, Inv X pins σ H z → IsKeys H kvs bs → Q (bs.map Value.ref) z) : PySem.W.StarOf (model X.prog X.w) X.A E (.ref a) Q s := by
  obtain ⟨z, hs, ks, pr, o, es, ep, ho, hx, hdt, he, hn⟩ := (show ObjOk X.prog X.w H s.heap a (.dT kvs) from ha.ok I.hok)
  have l1 : es.size = ks.length := size_of_entries he
  have l2 : kvs.length = ks.length := Paired.length pr
  have hT : s.TypeIs (.ref a) "dict" := ⟨o, ho, hx.1⟩
  unfold PySem.W.StarOf notIterableAtAll
  refine wpAny_bind (wpAny_specialOf hT PySem.F.slot_dict_iter.lookup (wpAny_pure ⟨rfl, ?_⟩))
  refine collect_src (kdl_raw hs hx hdt) (I.ok.hd calm) ho (by omega) fun h' tk acc hk it => ?_
  have ea : acc.toList = (ks.map fun x => x.2.1).map Value.ref := by
    rw [List.map_map]
    refine List.ext_getElem? fun j => ?_
    rw [List.getElem?_map]
    have hl : acc.toList.length = ks.length := by rw [Array.length_toList, it.1, l1]
    cases hj : acc.toList[j]? with
    | none =>
      rw [List.getElem?_eq_none (by have := List.getElem?_eq_none_iff.mp hj; omega)]
      rfl
    | some v =>
      obtain ⟨en, hen, hv⟩ := it.2 j v (by rw [← Array.getElem?_toList]; exact hj)
      have e1 := entry_at he j
      rw [hen] at e1
      cases hb : ks[j]? with
      | none =>
        rw [hb] at e1
        exact nomatch (show some en = none from e1)
      | some b =>
        rw [hb] at e1
        have e2 : en = entryOfKey (tupleKind (mixKind X.prog X.w)) b := Option.some.inj e1
        rw [hv, e2]
        rfl
  rw [ea]
  exact q _ _ (I.kept (t' := tk) hk) (isKeys_of pr)
/-- *e in a display: the keys of a dict whose keys are tuples -/
def tStarD (te : TE) (t : TA) : TA := fun σ H Q => te σ H fun x H1 => ∃ a kvs, x = V.ref a ∧ Rd H1 a (.dT kvs) ∧ ∀ bs, IsKeys H1 kvs bs → t σ H1 fun ys H2 => Q (bs.map V.ref ++ ys) H2
theorem pa_starD {e : Expr} {es : List Expr} {te : TE} {t : TA} {p : Pos} (calm : X.calm = true) (he : PE X e te) (hr : PA X es t) (hst : starEach (.Starred e p :: es) X.env = (true, eval e X.env) :: starEach es X.env := by rfl) : PA X (.Starred e p :: es) (tStarD te t) := by
  refine ⟨fun pos pins s σ H Q I h => PySem.W.items_star (thn (he.run pins s σ H _ I h) fun v s1 ⟨y, H1, I1, ry, a, kvs, ey, hx, q⟩ => ?_) hst⟩
  subst ey
  obtain rfl : v = Value.ref a := ry
  refine star_keys calm I1 hx fun bs s2 I2 kb => ?_
  exact thn (hr.run pos pins s2 σ H1 _ I2 (q bs kb)) fun ws s3 ⟨vs, H3, I3, r3, q3⟩ => ⟨bs.map V.ref ++ vs, H3, I3, (vals_refs bs).append r3, q3⟩
end
end Sq

set_option Elab.async false
set_option linter.all false
set_option maxRecDepth 100000
set_option maxHeartbeats 4000000
/-! d.pop(k), the key a tuple that is there. -/
namespace Sq
open PySem PySem.Spec PyProof.Rows L2
def rPopC : V → List V → Hp → VK → Prop := fun x xs H Q => ∃ (a : Addr) (kvs : List (List Key × V)) (k : List Key) (b : Addr) (v : V), x = .ref a ∧ xs = [.ref b] ∧ H a = some (.dT kvs) ∧ H b = some (.tup (k.map kV)) ∧ valV kvs k = some v ∧ Q v (upd H a (.dT (dropK kvs k)))
theorem mt_popC {X : Cx} (hu : X.A.units + 1 < cLine) : MtR X "dict.pop" rPopC := by
  intro pins s σ H x xs v us Q I rx rxs h
  obtain ⟨a, kvs, k, b, w, rfl, rfl, ha, hb, hv, q⟩ := h
  cases rx
  obtain ⟨u1, rfl, r1⟩ := vals1 rxs
  cases r1
  obtain ⟨z, hsys, ys, rel, dd⟩ := dt_of I.hok ha
  have hz : ys.length ≤ sizeLine := by rw [← Paired.length rel]; exact z
  have r := rel.val k
  rw [hv] at r
  cases ep : atKey ys k with
  | none =>
    rw [ep] at r
    exact r.elim
  | some p =>
    rw [ep] at r
    refine call_pop_heap (hsz := hz) (more := []) (.inl rfl) (PySem.F.args_dict_pop_2 _ _) (tupleKind_room_in1 hu) (key_of I.hok hb) hsys dd ep fun h' dd' same => ?_
    obtain ⟨o2, en, e0, eo, c2, c3, c4, c5, c6⟩ := dd'
    refine ⟨w, _, d_write (ob := .dT (dropK kvs k)) I (by rw [ha]; exact True.intro) same ⟨o2, eo⟩ ⟨Nat.le_trans (dropK_le kvs k) z, hsys, _, (DX.KT_drop k rel).keeps fun c ws ec => ?_, o2, en, e0, eo, c2, c3, c4, c6⟩, r, q⟩
    rw [upd_ne (ne_of ec ha (fun t => nomatch t))]
    exact ec
end Sq

set_option Elab.async false
set_option linter.all false
set_option maxRecDepth 100000
set_option maxHeartbeats 4000000
/-! raise C(e, ..), C an error that keeps its parameters. -/
namespace Sq
open PySem PySem.Spec PyProof.Rows L2
def tRz (C : Addr) (ns : List Str) (ta : TA) : L2.St → Hp → XK → Prop := fun σ H Q => ta σ H fun vs H1 => vs.length = ns.length ∧ ns ≠ [] ∧ ∀ d, H1 d = none → Q (.ref C) (some d) (upd H1 d (.xd (ns.zip vs).reverse))
section
variable {X : Cx} {C fI : Addr} {ns : List Str}
theorem mk_err {pins : List (Addr × Obj)} {σ : L2.St} {H : Hp} {s : Shared} {us : List Value} {vs : List V} {Q : XK} (T : SErr X.prog X.K C fI ns) (rz : Raises X (.ref C)) (hr : Room 1 X.A) (I : Inv X pins σ H s) (r : Vals vs us) (hl : vs.length = ns.length) (ne : ns ≠ [])
    (q : ∀ d, H d = none → Q (.ref C) (some d) (upd H d (.xd (ns.zip vs).reverse))) : wpAny (model X.prog X.w) X.A (call (.ref C) us) (MkP X pins σ Q) X.xe s := by
  obtain ⟨nm, q0, N, bs, bm, sn, sub, ab, col, dd, k0, k1, k2, k3, k5, hC, hbm, _⟩ := T.cls
  obtain ⟨mb, hmb, hbb⟩ := I.mod.blt
  have hlim := I.nolimit
  have hul : us.length = ns.length := by rw [← r.length]; exact hl
  have hdp := hr.dp
  obtain ⟨hp, g, dr, tk, os⟩ := s
  generalize e2 : (hp.push (PySem.W.kdv_tup us)).push (PySem.HandSPX.excO C hp.objs.size) = hp2
  have kk : ∀ b o, hp.get? b = some o → hp2.get? b = some o := fun b o e => by rw [← e2]; exact Heap.get?_push_of_some _ (Heap.get?_push_of_some _ e)
  have hget : hp2.get? (hp.objs.size + 1) = some (PySem.HandSPX.excO C hp.objs.size) := by rw [← e2]; heap_get
  have sz2 : hp2.objs.size = hp.objs.size + 2 := by rw [← e2, Heap.size_push, Heap.size_push]
  have KX : X.K.In hp := I.kIn
  have hKx : X.K.lookup (hp.objs.size + 1) = none := by
    cases e : X.K.lookup (hp.objs.size + 1) with
    | none => rfl
    | some o => exact absurd (Nat.lt_of_succ_lt (Heap.lt_size (KX _ _ e))) (Nat.lt_irrefl _)
  have hus : us.length ≤ sizeLine := by
    have := T.len
    rw [hul, sizeLine_eq]
    omega
  refine wpAny_call (PySem.HandSPX.call_own F.excBase_ValueError (fun Y => PySem.HandSPX.refsVE_contains Y bm hbm) (KX _ _ hC) (PySem.W.looks_findIn KX T.iC) (fun self => PySem.W.bind_fn KX self T.tI) hus ?_)
  rw [e2]
  refine init_run (s := ⟨hp2, g, dr, tk, os⟩) (mg := X.mg) (mb := mb) T (PySem.W.Frag.In.keeps KX kk) hKx (I.mod.glob.keeps fun b o e => kk b o (I.bk b o e)) (hmb.keeps fun b o e => kk b o (I.bk b o e))
    ((hbb _ (by decide +kernel)).trans (by first | boot_by_name | kernel_rfl)) (hlim.keeps kk) hget hul (by show X.A.depth + 1 < recursionLimit; omega) (fun h' tk' Z => ⟨rfl, ?_⟩)
  have na : H (hp.objs.size + 1) = none := I.hok.fresh (Nat.le_succ _)
  obtain ⟨t1, ⟨e, _⟩ | ⟨dx, _, d1, d2, d3, d4⟩⟩ := Z.obj
  · have z := congrArg List.length e
    rw [List.length_reverse, List.length_zip, hul, Nat.min_self] at z
    exact absurd (List.length_eq_zero_iff.mp z) ne
  have d1 : hp2.objs.size ≤ dx := d1
  have d1' : hp.objs.size ≤ dx := by
    rw [sz2] at d1
    exact Nat.le_trans (Nat.le_add_right _ 2) d1
  have nd : H dx = none := I.hok.fresh d1'
  have old : ∀ b o, hp.get? b = some o → h'.get? b = some o := fun b o e => Z.keep b o (Nat.ne_of_lt (Nat.lt_succ_of_lt (Heap.lt_size e))) (kk b o e)
  have ob1 : HOk X.prog X.w (upd H dx (exd dx (ns.zip vs).reverse)) h' := I.hok.laid old d1' (exd_ok d4 (rev_rel ns r))
  have na' : upd H dx (exd dx (ns.zip vs).reverse) (hp.objs.size + 1) = none := by
    rw [upd_ne (Ne.symm d2)]
    exact na
  have ob2 : HOk X.prog X.w (upd (upd H dx (exd dx (ns.zip vs).reverse)) (hp.objs.size + 1) (exo (hp.objs.size + 1) C (some dx))) h' := ob1.laidN (fun _ _ q => q) na' (exo_ok d3)
  have nedx : ∀ b o, hp2.get? b = some o → b ≠ dx := fun b o e z => by
    rw [z] at e
    exact absurd (Heap.lt_size e) (Nat.not_lt_of_le d1)
  have same : ∀ b, b ≠ hp.objs.size + 1 → b ≠ dx → upd (upd H dx (exd dx (ns.zip vs).reverse)) (hp.objs.size + 1) (exo (hp.objs.size + 1) C (some dx)) b = H b := fun b h1 h2 => by rw [upd_ne h1, upd_ne h2]
  have was : ∀ b u, upd H (hp.objs.size + 1) (exo (hp.objs.size + 1) C none) b = some u → (∀ dd, u ≠ exo (hp.objs.size + 1) C dd) → b ≠ hp.objs.size + 1 ∧ b ≠ dx ∧ H b = some u := fun b u e hu => by
    have h1 : b ≠ hp.objs.size + 1 := fun z => by
      rw [z, upd_same] at e
      exact hu _ (Option.some.inj e).symm
    rw [upd_ne h1] at e
    exact ⟨h1, fun z => (by rw [z, nd] at e; cases e), e⟩
  have un : Un (frs X.stack) [] (upd H (hp.objs.size + 1) (exo (hp.objs.size + 1) C none)) (upd (upd H dx (exd dx (ns.zip vs).reverse)) (hp.objs.size + 1) (exo (hp.objs.size + 1) C (some dx))) hp2 h' := by
    have neA : ∀ b, upd H (hp.objs.size + 1) (exo (hp.objs.size + 1) C none) b = none → b ≠ hp.objs.size + 1 := fun b n z => by
      rw [z, upd_same] at n
      cases n
    refine ⟨fun b o e n _ _ => Z.keep b o (neA b n) e, fun b o e n _ _ => ⟨o.slots, Z.keep b o (neA b n) e⟩, fun b o e n _ => ?_, fun b o e _ => ?_, fun b xs e => ?_, fun b o u e => ?_, fun b ps e => ?_⟩
    · rw [same b (neA b n) (nedx b o e), ← n, upd_ne (neA b n)]
    · by_cases hb : b = hp.objs.size + 1
      · rw [hb]
        exact ⟨_, d3⟩
      · exact ⟨o, Z.keep b o hb e⟩
    · obtain ⟨h1, h2, h3⟩ := was b _ e fun dd z => exo_tup z.symm
      rw [same b h1 h2, h3]
    · obtain ⟨h1, h2, h3⟩ := was b _ e fun dd z => exo_frz z.symm
      rw [same b h1 h2, h3]
    · obtain ⟨h1, h2, h3⟩ := was b _ e fun dd z => exo_tbl z.symm
      exact ⟨#[], by rw [same b h1 h2, h3]; simp⟩
  refine mk_end rz I (Nat.le_succ _) kk un ob2 rfl I.bare upd_same (by rw [upd_ne d2]; exact upd_same) nd ?_
  have eH : upd (del (upd (upd H dx (exd dx (ns.zip vs).reverse)) (hp.objs.size + 1) (exo (hp.objs.size + 1) C (some dx))) (hp.objs.size + 1)) dx (.xd (ns.zip vs).reverse) = upd H dx (.xd (ns.zip vs).reverse) := by
    funext b
    by_cases hb : b = dx
    · rw [hb, upd_same, upd_same]
    · rw [upd_ne hb, upd_ne hb]
      by_cases ha : b = hp.objs.size + 1
      · rw [ha, del_same, na]
      · rw [del_ne ha, same b ha hb]
  rw [eH]
  exact q dx nd
theorem pmk_err {x : Str} {e : Expr} {es : List Expr} {ta : TA} {p pos : Pos} (T : SErr X.prog X.K C fI ns) (rz : Raises X (.ref C)) (hr : Room 1 X.A) (hm : X.mg x = some (.ref C)) (ha : PA X (e :: es) ta) (hg : Gl X x := by rfl)
    (hdb : (x == ("__debug__" : Str)) = false := by decide) (he : starEach (e :: es) X.env = (false, eval e X.env) :: starEach es X.env := by rfl) (hpl : (backTo pos (starEach es X.env)).any (·.1) = false := by rfl) :
    PMk X (.Call (.Name x p) (e :: es) [] pos) (tRz C ns ta) := by
  intro pins s σ H Q I h
  refine wpAny_Call_Name_kw (ld_glob I hg hm ?_ hdb)
  exact PySem.W.callWith_K (h₀ := X.base) I.ok.mod.kin T.kC (thn (ha.run pos pins s σ H _ I h) fun us s1 ⟨vs, H1, I1, r1, hl, ne, q1⟩ => ⟨I1.kIn, mk_err T rz hr I1 r1 hl ne q1⟩) he hpl
end
end Sq

set_option Elab.async false
set_option linter.all false
set_option maxRecDepth 100000
set_option maxHeartbeats 4000000
/-! {k: v}, one pair, the key of any kind. -/
namespace Sq
open PySem PySem.Spec PyProof.Rows L2
def tDisp1 (o0 : HO) (tk tv : TE) : TE := fun σ H Q => ∀ p, H p = none → tk σ (upd H p o0) fun x H1 => tv σ H1 fun y H2 => ∃ H3, DPut H2 p x y H3 ∧ Q (.ref p) H3
def onePair (q : V → V → Hp → Prop) : List (V × V) → Hp → Prop
  | [p], H => q p.1 p.2 H
  | _, _ => False
theorem onePair_of {q : V → V → Hp → Prop} {H : Hp} : ∀ {ps : List (V × V)}, onePair q ps H → ∃ x y, ps = [(x, y)] ∧ q x y H
  | [p], h => ⟨p.1, p.2, rfl, h⟩
theorem pe_disp1 {X : Cx} {o0 : HO} {k v : Expr} {pos : Pos} {tk tv : TE} (ho : o0 = .dK [] ∨ o0 = .dT []) (hu : X.A.units + 1 < cLine) (hk : PE X k tk) (hv : PE X v tv) : PE X (.Dict [some k] [v] pos) (tDisp1 o0 tk tv) := by
  refine ⟨fun pins s σ H Q I h => ?_⟩
  have fresh := I.hok.fresh (Nat.le_refl s.heap.objs.size)
  have I1 : Inv X pins σ (upd H s.heap.objs.size o0) { s with heap := s.heap.push { cls := .type "dict", data := .dict #[] } } := by
    refine I.laid (t' := s.toks) (fun _ _ q => Heap.get?_push_of_some _ q) (Nat.le_refl _) ?_
    rcases ho with rfl | rfl
    · exact dk_empty s.heap I.big
    · exact dt_empty s.heap I.big
  refine wpAny_Dict_any rfl rfl (List.cons_ne_nil _ _) (by show 1 ≤ 15; decide) ?_
  refine thn ((pps_cons hk hv pps_nil).run pins _ σ _ (onePair fun x y H2 => ∃ H3, DPut H2 s.heap.objs.size x y H3 ∧ Q (.ref s.heap.objs.size) H3) I1 (h _ fresh)) fun vs z hz => ?_
  obtain ⟨ps, H2, I2, rel, q⟩ := hz
  obtain ⟨x, y, rfl, H3, put, q⟩ := onePair_of q
  cases rel with
  | cons rr r0 =>
    cases r0
    unfold storeAll
    rw [List.forIn_cons]
    refine wpAny_bind (wpAny_bind (dc_put hu I2 put rr.1 rr.2 fun z' I3 => wpAny_pure ?_))
    show wpAny _ _ (forIn ([] : List (Value × Value)) PUnit.unit _) _ _ _
    rw [List.forIn_nil]
    exact wpAny_pure ⟨.ref s.heap.objs.size, H3, I3, rfl, q⟩
end Sq

set_option Elab.async false
set_option linter.all false
set_option maxRecDepth 100000
set_option maxHeartbeats 4000000
/-! The mathematics of hanging together. -/
namespace Sq
/-- the four beside a cell -/
def besideC (c : Cell) : List Cell := [(c.1 - 1, c.2), (c.1, c.2 - 1), (c.1 + 1, c.2), (c.1, c.2 + 1)]
theorem beside_iff {c d : Cell} : d ∈ besideC c ↔ (d.1 = c.1 - 1 ∧ d.2 = c.2) ∨ (d.1 = c.1 ∧ d.2 = c.2 - 1) ∨ (d.1 = c.1 + 1 ∧ d.2 = c.2) ∨ (d.1 = c.1 ∧ d.2 = c.2 + 1) := by
  obtain ⟨c1, c2⟩ := c
  obtain ⟨d1, d2⟩ := d
  simp [besideC]
theorem beside_symm {c d : Cell} (h : d ∈ besideC c) : c ∈ besideC d := by
  rw [beside_iff] at h ⊢
  omega
theorem beside_ne {c d : Cell} (h : d ∈ besideC c) : d ≠ c := fun e => by
  subst e
  rw [beside_iff] at h
  omega
/-- what is reached from a within L -/
inductive Reach (L : List Cell) (a : Cell) : Cell → Prop where
  | refl : Reach L a a
  | step {b c : Cell} : Reach L a b → c ∈ besideC b → c ∈ L → Reach L a c
theorem Reach.trans {L : List Cell} {a b c : Cell} (h : Reach L a b) (k : Reach L b c) : Reach L a c := by
  induction k with
  | refl => exact h
  | step _ hb hc ih => exact .step ih hb hc
theorem Reach.mem {L : List Cell} {a b : Cell} (h : Reach L a b) (ha : a ∈ L) : b ∈ L := by
  cases h with
  | refl => exact ha
  | step _ _ hc => exact hc
theorem Reach.symm {L : List Cell} {a b : Cell} (h : Reach L a b) (ha : a ∈ L) : Reach L b a := by
  induction h with
  | refl => exact .refl
  | @step b c hab hb hc ih => exact (Reach.step .refl (beside_symm hb) (hab.mem ha)).trans ih
/-- the cells hang together -/
def Hangs (L : List Cell) : Prop := L ≠ [] ∧ ∀ a ∈ L, ∀ b ∈ L, Reach L a b
theorem hangs_from {L : List Cell} {m : Cell} (hm : m ∈ L) : Hangs L ↔ ∀ b ∈ L, Reach L m b :=
  ⟨fun h b hb => h.2 m hm b hb, fun h => ⟨List.ne_nil_of_mem hm, fun a ha b hb => ((h a ha).symm hm).trans (h b hb)⟩⟩
theorem len_le {α : Type} [DecidableEq α] : ∀ {xs ys : List α}, xs.Nodup → (∀ x ∈ xs, x ∈ ys) → xs.length ≤ ys.length
  | [], _, _, _ => Nat.zero_le _
  | x :: xs, ys, nd, h => by
    have nd1 := List.nodup_cons.mp nd
    have m := h x (List.mem_cons_self ..)
    have k := len_le (ys := ys.erase x) nd1.2 fun y hy => (List.mem_erase_of_ne (fun e => nd1.1 (by rw [← e]; exact hy))).mpr (h y (List.mem_cons_of_mem _ hy))
    rw [List.length_erase_of_mem m] at k
    have p : 0 < ys.length := List.length_pos_of_mem m
    show xs.length + 1 ≤ _
    omega
/-- as many, and within: the same -/
theorem all_of_len {α : Type} [DecidableEq α] {xs ys : List α} (nd : xs.Nodup) (h : ∀ x ∈ xs, x ∈ ys) (ny : ys.Nodup) (l : xs.length = ys.length) : ∀ y ∈ ys, y ∈ xs := fun y hy => by
  by_cases m : y ∈ xs
  · exact m
  · have k := len_le (xs := y :: xs) (ys := ys) (List.nodup_cons.mpr ⟨m, nd⟩) fun z hz => (List.mem_cons.mp hz).elim (fun e => e ▸ hy) (h z)
    have k : xs.length + 1 ≤ ys.length := k
    omega
theorem hangs_len {L F : List Cell} {m : Cell} (hm : m ∈ L) (nL : L.Nodup) (nF : F.Nodup) (hF : ∀ x, x ∈ F ↔ Reach L m x) : F.length = L.length ↔ Hangs L := by
  rw [hangs_from hm]
  have sub : ∀ x ∈ F, x ∈ L := fun x hx => ((hF x).mp hx).mem hm
  constructor
  · exact fun l b hb => (hF b).mp (all_of_len nF sub nL l b hb)
  · exact fun h => Nat.le_antisymm (len_le nF sub) (len_le nL fun x hx => (hF x).mpr (h x hx))
theorem hangs_perm {L M : List Cell} (h : ∀ x, x ∈ L ↔ x ∈ M) : Hangs L ↔ Hangs M := by
  have r : ∀ {L M : List Cell}, (∀ x, x ∈ L ↔ x ∈ M) → ∀ {a b}, Reach L a b → Reach M a b := fun {L M} h {a b} k => by
    induction k with
    | refl => exact .refl
    | step _ hb hc ih => exact .step ih hb ((h _).mp hc)
  have one : ∀ {L M : List Cell}, (∀ x, x ∈ L ↔ x ∈ M) → Hangs L → Hangs M := fun {L M} h k => by
    refine ⟨fun e => ?_, fun a ha b hb => r h (k.2 a ((h a).mpr ha) b ((h b).mpr hb))⟩
    obtain ⟨x, hx⟩ := List.exists_mem_of_ne_nil _ k.1
    have q := (h x).mp hx
    rw [e] at q
    cases q
  exact ⟨one h, one fun x => (h x).symm⟩
end Sq

set_option Elab.async false
set_option linter.all false
set_option maxRecDepth 100000
set_option maxHeartbeats 4000000
/-! Bundles: a def of the module with its promise; the built-ins' names; a while by what may be hidden. -/
namespace Sq
open PySem PySem.Spec PyProof.Rows L2
/-- the built-ins' names are the module's own nowhere -/
structure Bl (mg : Str → Option Value) : Prop where
  int : mg "int" = none
  len : mg "len" = none
  list : mg "list" = none
  tuple : mg "tuple" = none
  bool : mg "bool" = none
  isinstance : mg "isinstance" = none
  range : mg "range" = none
  sorted : mg "sorted" = none
  abs : mg "abs" = none
  min : mg "min" = none
  max : mg "max" = none
  set : mg "set" = none
  any : mg "any" = none
/-- the module's def x keeps the promise sp -/
structure Df (P : Program) (w : World) (K : PySem.W.Frag) (mg : Str → Option Value) (base : Heap) (CX : CXT) (k : Nat) (x : Str) (ps : List Str) (sp : Sp) : Prop where
  ex : ∃ f fd, mg x = some (.ref f) ∧ PySem.W.keepIn K (.ref f) = true ∧ Binds K fd ps [] ∧ FnOk P w K mg base CX k f fd ps sp
section
variable {X : Cx} {CX : CXT} {j k : Nat} {x : Str} {ps : List Str} {sp : Sp} {E : XK} {p pos : Pos} {e : Expr} {es : List Expr} {t : TA}
theorem pe_df (D : Df X.prog X.w X.K X.mg X.base CX k x ps sp) (hr : Room j X.A) (hg : Gl X x) (hx : Passes CX X E) (ha : PA X (e :: es) t) (hkj : k ≤ j := by decide) (hdb : (x == ("__debug__" : Str)) = false := by decide)
    (he : starEach (e :: es) X.env = (false, eval e X.env) :: starEach es X.env := by rfl) (hpl : (backTo pos (starEach es X.env)).any (·.1) = false := by rfl) : PE X (.Call (.Name x p) (e :: es) [] pos) (tCall sp [] E t) := by
  obtain ⟨f, fd, g, kp, b, F⟩ := D.ex
  exact pe_call F (hr.mono hkj) hg g kp b .nil hx ha hdb he hpl
end
theorem while_ex {c : TT} {tb : TS} {D : Ends} {σ : L2.St} {H : Hp} (W : Nat → L2.St → Hp → Prop) (m0 : Nat) (h0 : W m0 σ H)
    (hs : ∀ m σ H, W m σ H → c σ H fun b H1 => if b = true then tb { D with nx := fun σ' H' => ∃ m', m' < m ∧ W m' σ' H', ct := fun σ' H' => ∃ m', m' < m ∧ W m' σ' H', bk := D.nx } σ H1 else D.nx σ H1)
    (mono : ∀ σ H Q Q', (∀ b H1, Q b H1 → Q' b H1) → c σ H Q → c σ H Q') : tWhile c tb D σ H := by
  refine ⟨W, ⟨m0, h0⟩, ?_⟩
  intro m σ H p
  refine mono σ H _ _ (fun b H1 q => ?_) (hs m σ H p)
  cases b with
  | true => exact ⟨_, fun σ' H' p' => p', q⟩
  | false => exact q
/-- all but what stands at S stays -/
def Kp (S : List Addr) (H H' : Hp) : Prop := ∀ b o, b ∉ S → H b = some o → H' b = some o
theorem Kp.refl {S : List Addr} {H : Hp} : Kp S H H := fun _ _ _ e => e
theorem Kp.trans {S : List Addr} {H H1 H2 : Hp} (h : Kp S H H1) (k : Kp S H1 H2) : Kp S H H2 := fun b o n e => k b o n (h b o n e)
theorem Kp.mono {S T : List Addr} {H H' : Hp} (h : Kp S H H') (k : ∀ b ∈ S, b ∈ T) : Kp T H H' := fun b o n e => h b o (fun m => n (k b m)) e
theorem Kp.of {S : List Addr} {H H' : Hp} (h : Same H H') : Kp S H H' := fun b o _ e => h b o e
theorem Kp.but {S : List Addr} {H H' : Hp} {p : Addr} (hp : p ∈ S) (h : ∀ b, b ≠ p → H' b = H b) : Kp S H H' := fun b o n e => by
  rw [h b (fun z => n (z ▸ hp))]
  exact e
/-- what is new in H is put on -/
theorem Kp.put {S : List Addr} {H0 H : Hp} {p : Addr} {o : HO} (h : Kp S H0 H) (hp : H0 p = none) : Kp S H0 (upd H p o) := fun b u n e => by
  rw [upd_ne (ne_of_none e hp)]
  exact h b u n e
theorem same_put {H0 H : Hp} {p : Addr} {o : HO} (h : Same H0 H) (hp : H0 p = none) : Same H0 (upd H p o) := fun b u e => by
  rw [upd_ne (ne_of_none e hp)]
  exact h b u e
theorem same_refl {H : Hp} : Same H H := fun _ _ e => e
end Sq
namespace Sq
open PySem PySem.Spec PyProof.Rows L2
/-- a def of the text whose code object is known -/
structure FunC (K : PySem.W.Frag) (x qual : Str) (params : Arguments) (body : List Stmt) (scope : Scope) (c f : Addr) (fd : FuncData) : Prop where
  ex : ∃ (oc : Value) (od : Option Addr) (dV kV doc pm : Value) (an : Option Addr) (ct : Value) (osl : Array (Option Value)),
    fd = PySem.W.fnOf x qual params body scope dV kV doc pm an (.ref c) ct ∧ K.lookup f = some ⟨oc, od, .func fd, osl⟩ ∧ PySem.W.codeIn K (.ref c) qual = true ∧ DflV K dV [] ∧ KwdV K kV []
  kp : PySem.W.keepIn K (.ref f) = true
section
variable {P : Program} {w : World} {K : PySem.W.Frag} {mg : Str → Option Value} {base : Heap} {x qual : Str} {params : Arguments} {body : List Stmt} {scope : Scope} {c f : Addr} {fd : FuncData}
theorem FunC.d (F : FunC K x qual params body scope c f fd) : FunD K x qual params body scope [] [] f fd := by
  obtain ⟨oc, od, dV, kV, doc, pm, an, ct, osl, r⟩ := F.ex
  exact ⟨⟨oc, od, dV, kV, doc, pm, an, _, ct, osl, r⟩, F.kp⟩
theorem FunC.ok {CX : CXT} {N ps : List Str} {k : Nat} {sp : Sp} (F : FunC K x qual params body scope c f fd) (S : FnScope N ps scope) (len : ∀ vs H Q E, sp vs H Q E → vs.length = ps.length)
    (run : ∀ (A : Around) (outer : List Env) (s : Shared) (H : Hp) (vs : List V) (Q : VK) (E : XK), Room k (A.deeper (envOfC qual scope s.heap.objs.size f (.ref c))) → sp vs H Q E →
      ∃ t, PSs (cxOf CX P w K mg base N qual scope f (.ref c) A outer s H E) body t ∧ t { nx := fun _ H' => Q .non H', rt := Q } (L2.start N vs) H) : FnOk P w K mg base CX (k + 1) f fd ps sp := by
  obtain ⟨oc, od, dV, kV, doc, pm, an, ct, osl, rfl, lk, hcd, _, _⟩ := F.ex
  exact fn_of lk hcd S len fun A outer s H vs Q E hr hsp => run A outer s H vs Q E hr hsp
end
/-- tables stand at all of Ts -/
def TabsG (Ts : List Addr) (H : Hp) : Prop := ∀ T ∈ Ts, GxR.TabG H T
/-- all but the tables stays, and these are tables still -/
structure KT (Ts : List Addr) (H G : Hp) : Prop where
  kp : Kp Ts H G
  tb : TabsG Ts H
  tb' : TabsG Ts G
theorem KT.get {Ts : List Addr} {H G : Hp} {b : Addr} {o : HO} (h : KT Ts H G) (e : H b = some o) (ho : ∀ ps, o ≠ .tbl ps) : G b = some o := by
  refine h.kp b o (fun m => ?_) e
  obtain ⟨ps, e2, _⟩ := h.tb b m
  rw [e2] at e
  exact ho ps (Option.some.inj e).symm
theorem KT.at {Ts : List Addr} {H G : Hp} {q : Addr} {c : Cell} (h : KT Ts H G) (e : At H q c) : At G q c := h.get e (fun _ z => nomatch z)
theorem KT.lot {Ts : List Addr} {H G : Hp} {d : Addr} {L : List (List Key × V)} (h : KT Ts H G) (e : H d = some (.dT L)) : G d = some (.dT L) := h.get e (fun _ z => nomatch z)
theorem KT.tup {Ts : List Addr} {H G : Hp} {d : Addr} {L : List V} (h : KT Ts H G) (e : H d = some (.tup L)) : G d = some (.tup L) := h.get e (fun _ z => nomatch z)
theorem KT.lst {Ts : List Addr} {H G : Hp} {d : Addr} {L : List V} (h : KT Ts H G) (e : H d = some (.lst L)) : G d = some (.lst L) := h.get e (fun _ z => nomatch z)
theorem tabG_same {H G : Hp} {P : Addr} (hP : GxR.TabG H P) (h : Same H G) : GxR.TabG G P := by
  obtain ⟨ps, e, t⟩ := hP
  exact ⟨ps, h _ _ e, t⟩
theorem TabsG.same {Ts : List Addr} {H G : Hp} (hT : TabsG Ts H) (h : Same H G) : TabsG Ts G := fun T m => tabG_same (hT T m) h
theorem KT.of {Ts : List Addr} {H G : Hp} (hT : TabsG Ts H) (h : Same H G) : KT Ts H G := ⟨Kp.of h, hT, hT.same h⟩
theorem KT.refl {Ts : List Addr} {H : Hp} (hT : TabsG Ts H) : KT Ts H H := ⟨Kp.refl, hT, hT⟩
theorem KT.trans {Ts : List Addr} {H G I : Hp} (h : KT Ts H G) (k : KT Ts G I) : KT Ts H I := ⟨h.kp.trans k.kp, h.tb, k.tb'⟩
theorem KT.same {Ts : List Addr} {H G I : Hp} (h : KT Ts H G) (k : Same G I) : KT Ts H I := h.trans (.of h.tb' k)
theorem KT.free {Ts : List Addr} {H G : Hp} {a : Addr} (h : KT Ts H G) (e : G a = none) : H a = none := by
  cases q : H a with
  | none => rfl
  | some o =>
    by_cases m : a ∈ Ts
    · obtain ⟨ps, e2, _⟩ := h.tb' a m
      rw [e] at e2
      cases e2
    · rw [h.kp a o m q] at e
      cases e
theorem KT.tabbed {Ts : List Addr} {P : Addr} {H G : Hp} (hT : TabsG Ts H) (m : P ∈ Ts) (h : GxR.Tabbed P H G) : KT Ts H G := by
  refine ⟨fun b o n e => ?_, hT, fun T mT => ?_⟩
  · rw [h.2 b (fun z => n (by rw [z]; exact m))]
    exact e
  · by_cases e : T = P
    · rw [e]
      exact h.1
    · obtain ⟨ps, e2, t⟩ := hT T mT
      exact ⟨ps, (h.2 T e).trans e2, t⟩
noncomputable def hangsB (L : List Cell) : Bool := @decide (Hangs L) (Classical.propDecidable _)
theorem hangsB_iff {L : List Cell} : hangsB L = true ↔ Hangs L := by
  unfold hangsB
  exact @decide_eq_true_iff (Hangs L) (Classical.propDecidable _)
theorem hangsB_of {L : List Cell} {b : Bool} (h : b = true ↔ Hangs L) : b = hangsB L := by
  cases e : hangsB L with
  | true => exact h.mpr (hangsB_iff.mp e)
  | false =>
    cases b with
    | false => rfl
    | true => exact absurd (hangsB_iff.mpr (h.mp rfl)) (by rw [e]; simp)
end Sq
namespace Sq
open PySem PySem.Spec PyProof.Rows L2
theorem ix_tupK {X : Cx} {K : PySem.W.Frag} (h : X.K = K) : IxR X (rIxT K) := h ▸ ix_tup
theorem ix_listK {X : Cx} {K : PySem.W.Frag} (h : X.K = K) : IxR X (rIxL K) := h ▸ ix_list
end Sq

set_option Elab.async false
set_option linter.all false
set_option maxRecDepth 100000
set_option maxHeartbeats 4000000
/-! sorted of cells: out of a list, a dict's keys, a set. -/
namespace Sq
open PySem PySem.Spec PyProof.Rows L2
/-- the cell that stands at q, if one does -/
def cellAt (H : Hp) (q : Addr) : Cell := match H q with
  | some (.tup [.int i, .int j]) => (i, j)
  | _ => (0, 0)
theorem At.cell {H : Hp} {q : Addr} {c : Cell} (h : At H q c) : cellAt H q = c := by
  unfold cellAt
  rw [show H q = some (.tup [.int c.1, .int c.2]) from h]
theorem paired_cells {H : Hp} : ∀ {qs : List Addr} {cs : List Cell}, Paired (fun q c => At H q c) qs cs → cs = qs.map (cellAt H)
  | _, _, .nil => rfl
  | _, _, .cons h t => by rw [List.map_cons, h.cell, ← paired_cells t]
theorem paired_of {H : Hp} : ∀ {qs : List Addr}, (∀ q ∈ qs, At H q (cellAt H q)) → Paired (fun q c => At H q c) qs (qs.map (cellAt H))
  | [], _ => .nil
  | q :: qs, h => .cons (h q (List.mem_cons_self ..)) (paired_of fun r hr => h r (List.mem_cons_of_mem _ hr))
theorem paired_at {H : Hp} {qs : List Addr} {cs : List Cell} (h : Paired (fun q c => At H q c) qs cs) : ∀ q ∈ qs, At H q (cellAt H q) := by
  induction h with
  | nil => intro q hq; cases hq
  | cons a _ ih =>
    intro q hq
    rcases List.mem_cons.mp hq with e | e
    · rw [e, a.cell]
      exact a
    · exact ih q e
/-- what stands at refs, as pairs -/
def kC (H : Hp) : V → Int × Int
  | .ref q => cellAt H q
  | _ => (0, 0)
theorem lexB_cLt (a b : Cell) : SrtO.lexB a b = cLt a b := by
  cases h : cLt a b with
  | true => exact SrtO.lexB_iff.mpr (of_decide_eq_true h)
  | false => exact SrtO.lexB_no.mpr (of_decide_eq_false h)
/-- cells in their order -/
def Asc (cs : List Cell) : Prop := cs.Pairwise fun x y => cLt y x = false
/-- what a sorting of cells hands back -/
def sortedK (H : Hp) (cs : List Cell) (Q : VK) : Prop := ∀ (p : Addr) (qs' : List Addr) (cs' : List Cell), Paired (fun q c => At H q c) qs' cs' → cs'.Perm cs → Asc cs' → H p = none → Q (.ref p) (upd H p (.lst (qs'.map V.ref)))
theorem refs_perm {ys : List V} {qs : List Addr} (h : ys.Perm (qs.map V.ref)) : ∃ qs' : List Addr, ys = qs'.map V.ref ∧ qs'.Perm qs := by
  let un : V → Addr := fun v => match v with | .ref a => a | _ => 0
  have e0 : (qs.map V.ref).map un = qs := by
    rw [List.map_map]
    exact List.map_id' _
  refine ⟨ys.map un, ?_, ?_⟩
  · rw [List.map_map]
    have all : ∀ y ∈ ys, (V.ref ∘ un) y = y := fun y hy => by
      obtain ⟨q, _, rfl⟩ := List.mem_map.mp (h.mem_iff.mp hy)
      rfl
    rw [List.map_congr_left all]
    exact (List.map_id' _).symm
  · have := h.map un
    rwa [e0] at this
section
variable {X : Cx}
def rSortC (K : PySem.W.Frag) : List V → Hp → VK → Prop := fun vs H Q => ∃ (a : Addr) (qs : List Addr) (cs : List Cell), vs = [V.ref a] ∧ SqL K H a (qs.map V.ref) ∧ Paired (fun q c => At H q c) qs cs ∧ sortedK H cs Q
theorem sorted_end {H : Hp} {qs : List Addr} {cs : List Cell} {Q : VK} (pr : Paired (fun q c => At H q c) qs cs) (k : sortedK H cs Q) {ys : List V} {p : Addr} (hs : SrtO.Srtd (ltP (kC H)) ys) (hp : ys.Perm (qs.map V.ref)) (hn : H p = none) : Q (.ref p) (upd H p (.lst ys)) := by
  obtain ⟨qs', rfl, pm⟩ := refs_perm hp
  have al := paired_at pr
  refine k p qs' (qs'.map (cellAt H)) (paired_of fun q hq => al q (pm.mem_iff.mp hq)) ?_ ?_ hn
  · rw [paired_cells pr]
    exact pm.map _
  · unfold Asc
    rw [List.pairwise_map]
    refine (List.pairwise_map.mp hs).imp fun {a b} h => ?_
    rw [← lexB_cLt]
    exact h
theorem cr_sortedC : CallR X (.builtin "sorted") (rSortC X.K) := by
  intro pins s σ H vs us Q I r h
  obtain ⟨a, qs, cs, rfl, hs, pr, k⟩ := h
  refine cr_sortedPO pins s σ H _ us Q I r ⟨a, _, kC H, rfl, hs, fun x hx => ?_, fun ys p h1 h2 hn => sorted_end pr k h1 h2.perm hn⟩
  obtain ⟨q, hq, rfl⟩ := List.mem_map.mp hx
  exact ⟨q, rfl, paired_at pr q hq⟩
end
/-- sorted of whatever is collected to references of cells -/
theorem sorted_src {prog : Program} {w : World} {A : Around} {E : Value → Shared → Prop} {Q : Value → Shared → Prop} {s : Shared} {a : Addr} {k : Value → Int × Int}
    (hc : wpAny (model prog w) A.in1 (collect (.ref a)) (fun vs s1 => vs.length ≤ sizeLine ∧ (∀ v ∈ vs, Srt.IsPair s1.heap v (k v).1 (k v).2) ∧
      ∀ (h2 : Heap) (d : Addr) (out : List Value), SrtO.Srtd (fun v u => SrtO.lexB (k v) (k u)) out → out.Perm vs → (∀ b o, s1.heap.get? b = some o → h2.get? b = some o) → s1.heap.objs.size ≤ d → (∃ n, h2.get? d = some (seqObj "list" out.toArray n)) → Q (.ref d) { s1 with heap := h2 }) E s) :
    wpAny (model prog w) A (call (.builtin "sorted") [.ref a]) Q E s := by
  refine Calls.call_function_entry kind_sorted plain_sorted entry_sorted (args_sorted1 _) ?_
  unfold Builtin.«sorted»
  refine wpAny_bind (m := checkCount "sorted" 1 1 _) (wpAny_pure (wpAny_bind (wpAny_mono hc (fun vs s1 got => ?_) fun _ _ z => z)))
  obtain ⟨sz, ip, fin⟩ := got
  obtain ⟨hL, eL⟩ : ∃ hL : Heap, hL = s1.heap.push (seqObj "list" vs.toArray 0) := ⟨_, rfl⟩
  have at0 : hL.get? s1.heap.objs.size = some (seqObj "list" vs.toArray 0) := by rw [eL]; exact Heap.get?_push_size _ rfl
  have kp : ∀ b o, s1.heap.get? b = some o → hL.get? b = some o := fun b o e => by rw [eL]; exact Heap.get?_push_of_some _ e
  refine wpAny_bind (wpAny_newList ?_ sz)
  rw [← eL]
  refine wpAny_bind (wpAny_holding (wpAny_call_entry slot_list_sort ⟨_, at0, rfl⟩ entry_list_sort (SrtO.list_sort_ord (s := { s1 with heap := hL }) (SrtO.swo_lex k) at0 sz (fun two => ?_) fun out o1 o2 => ⟨_, rfl, ?_⟩) (args_list_sort _)))
  · refine SrtO.pairs_sortableO (by omega) (fun v hv => (ip v hv).keeps fun b o e _ => kp b o e) fun o e c => ?_
    have e2 : some o = some (seqObj "list" vs.toArray 0) := e.symm.trans at0
    cases e2
    exact absurd (Value.type.inj c) (by decide)
  · refine wpAny_pure ⟨_, rfl, fin _ _ out o1 o2.perm (fun b o e => ?_) (Nat.le_refl _) (sortedHeap_at at0)⟩
    have lt := Heap.lt_size e
    show (sortedHeap hL s1.heap.objs.size vs out.toArray).get? b = some o
    rw [sortedHeap_old (Nat.ne_of_lt lt) (by rw [eL, Heap.size_push]; exact Nat.lt_succ_of_lt lt)]
    exact kp b o e
end Sq

set_option Elab.async false
set_option linter.all false
set_option maxRecDepth 100000
set_option maxHeartbeats 4000000
/-! sorted of a set of cells, of a dict whose keys are cells. -/
namespace Sq
open PySem PySem.Spec PyProof.Rows L2
section
variable {X : Cx} {pins : List (Addr × Obj)} {σ : L2.St} {H : Hp} {s s1 : Shared}
/-- a new list of such values is laid behind a state that keeps all -/
theorem laid_list (I : Inv X pins σ H s) {h2 : Heap} {d : Addr} {out : List Value} {ys : List V} (k1 : ∀ b o, s.heap.get? b = some o → s1.heap.get? b = some o) (sz : s.heap.objs.size ≤ s1.heap.objs.size) (g : s1.gens = s.gens) (os : s1.os = s.os)
    (k2 : ∀ b o, s1.heap.get? b = some o → h2.get? b = some o) (hd : s1.heap.objs.size ≤ d) (hn : ∃ n, h2.get? d = some (seqObj "list" out.toArray n)) (rv : Vals ys out) (len : ys.length ≤ sizeLine) : Inv X pins σ (upd H d (.lst ys)) { s1 with heap := h2 } := by
  obtain ⟨c, hc⟩ := hn
  have kk : ∀ b o, s.heap.get? b = some o → h2.get? b = some o := fun b o e => k2 b o (k1 b o e)
  have hp : s.heap.objs.size ≤ d := Nat.le_trans sz hd
  exact I.call' (s' := { s1 with heap := h2 }) (ch := []) os (Un.laid kk hp (I.hok.fresh hp)) (I.hok.laid kk hp ⟨len, out, c, rv, hc⟩) (by show AllBare s1.gens; rw [g]; exact I.bare) (fun _ z => nomatch z)
/-- a cell's object in the true heap -/
theorem At.pair (I : Inv X pins σ H s) {q : Addr} {c : Cell} (h : At H q c) : Srt.IsPair s.heap (.ref q) c.1 c.2 := by
  obtain ⟨_, its2, r2, o, ho, hc, n, hd⟩ := I.hok _ _ h
  obtain ⟨u1, u2, rfl, ri, rj⟩ := vals2 r2
  obtain ⟨t1, rfl⟩ := ri
  obtain ⟨t2, rfl⟩ := rj
  exact ⟨q, o, t1, t2, n, rfl, ho, hc, hd⟩
/-- values that are refs, back -/
def kVal (H : Hp) : Value → Int × Int
  | .ref q => cellAt H q
  | _ => (0, 0)
theorem vals_perm {out : List Value} {qs : List Addr} (h : out.Perm (qs.map Value.ref)) : ∃ qs' : List Addr, out = qs'.map Value.ref ∧ qs'.Perm qs := by
  let un : Value → Addr := fun v => match v with | .ref a => a | _ => 0
  have e0 : (qs.map Value.ref).map un = qs := by
    rw [List.map_map]
    exact List.map_id' _
  refine ⟨out.map un, ?_, ?_⟩
  · rw [List.map_map]
    have all : ∀ y ∈ out, (Value.ref ∘ un) y = y := fun y hy => by
      obtain ⟨q, _, rfl⟩ := List.mem_map.mp (h.mem_iff.mp hy)
      rfl
    rw [List.map_congr_left all]
    exact (List.map_id' _).symm
  · have := h.map un
    rwa [e0] at this
/-- the end of a sorting of refs -/
theorem sort_fin (I : Inv X pins σ H s) {vs : List Value} {qs : List Addr} {cs : List Cell} {Q : VK} (pm : vs.Perm (qs.map Value.ref)) (pr : Paired (fun q c => At H q c) qs cs) (few : qs.length ≤ sizeLine) (k1 : ∀ b o, s.heap.get? b = some o → s1.heap.get? b = some o)
    (sz : s.heap.objs.size ≤ s1.heap.objs.size) (g : s1.gens = s.gens) (os : s1.os = s.os) (k : sortedK H cs Q) :
    vs.length ≤ sizeLine ∧ (∀ v ∈ vs, Srt.IsPair s1.heap v (kVal H v).1 (kVal H v).2) ∧
      ∀ (h2 : Heap) (d : Addr) (out : List Value), SrtO.Srtd (fun v u => SrtO.lexB (kVal H v) (kVal H u)) out → out.Perm vs → (∀ b o, s1.heap.get? b = some o → h2.get? b = some o) → s1.heap.objs.size ≤ d → (∃ n, h2.get? d = some (seqObj "list" out.toArray n)) →
        ∃ x H', Inv X pins σ H' { s1 with heap := h2 } ∧ RelV x (.ref d) ∧ Q x H' := by
  have al := paired_at pr
  refine ⟨by rw [pm.length_eq, List.length_map]; exact few, fun v hv => ?_, fun h2 d out o1 o2 k2 hd hn => ?_⟩
  · obtain ⟨q, hq, rfl⟩ := List.mem_map.mp (pm.mem_iff.mp hv)
    exact ((al q hq).pair I).keeps fun b o e _ => k1 b o e
  · obtain ⟨qs', rfl, pm'⟩ := vals_perm (o2.trans pm)
    have asc : Asc (qs'.map (cellAt H)) := by
      unfold Asc
      rw [List.pairwise_map]
      refine (List.pairwise_map.mp o1).imp fun {a b} h => ?_
      rw [← lexB_cLt]
      exact h
    refine ⟨.ref d, upd H d (.lst (qs'.map V.ref)), laid_list I k1 sz g os k2 hd hn (vals_refs qs') (by rw [List.length_map, pm'.length_eq]; exact few), rfl, ?_⟩
    refine k d qs' (qs'.map (cellAt H)) (paired_of fun q hq => al q (pm'.mem_iff.mp hq)) ?_ asc (I.hok.fresh (Nat.le_trans sz hd))
    rw [paired_cells pr]
    exact pm'.map _
/-- sorted of a set of cells -/
def rSortS (P : Program) (w : World) : List V → Hp → VK → Prop := fun vs H Q => ∃ (a : Addr) (L : List (Addr × List Int)) (cs : List Cell), vs = [V.ref a] ∧ H a = some (SetTO P w a L) ∧ Paired (fun p c => At H p.1 c ∧ p.2 = [c.1, c.2]) L cs ∧ (cs.Nodup → sortedK H cs Q)
theorem paired_imp0 {α β : Type} {F G : α → β → Prop} (k : ∀ a b, F a b → G a b) : ∀ {xs : List α} {ys : List β}, Paired F xs ys → Paired G xs ys
  | _, _, .nil => .nil
  | _, _, .cons h t => .cons (k _ _ h) (paired_imp0 k t)
theorem paired_map {α β γ : Type} {F : α → γ → Prop} (f : β → α) : ∀ {xs : List β} {ys : List γ}, Paired (fun b y => F (f b) y) xs ys → Paired F (xs.map f) ys
  | _, _, .nil => .nil
  | _, _, .cons h t => .cons h (paired_map f t)
theorem cr_sortedS (calm : X.calm = true) : CallR X (.builtin "sorted") (rSortS X.prog X.w) := by
  intro pins s σ H vs us Q I r h
  obtain ⟨a, L, cs, rfl, ha, pr, k⟩ := h
  have key : ∀ {L : List (Addr × List Int)} {cs : List Cell}, Paired (fun p c => At H p.1 c ∧ p.2 = [c.1, c.2]) L cs → ∀ p ∈ L, ∃ c, At H p.1 c ∧ p.2 = [c.1, c.2] := fun {L cs} pr => by
    induction pr with
    | nil => intro p hp; cases hp
    | cons h _ ih =>
      intro p hp
      rcases List.mem_cons.mp hp with e | e
      · rw [e]
        exact ⟨_, h⟩
      · exact ih p e
  have R0 : SetT0 X.prog X.w s.heap a L := (I.hok a _ ha).1
  obtain ⟨es, ep, t, R⟩ := R0.full fun p hp => I.isT (by
    obtain ⟨c, h1, h2⟩ := key pr p hp
    rw [h2]
    exact SqT.of h1)
  rw [Vals.ref1 r]
  obtain ⟨o, ho, hex, hd⟩ := R.ob
  have few := R.few
  have sz := R.size
  have nd : cs.Nodup := by
    have e : L.map (·.2) = cs.map fun c => [c.1, c.2] := by
      clear k ha R0 R sz few
      induction pr with
      | nil => rfl
      | cons h _ ih => rw [List.map_cons, List.map_cons, h.2, ih]
    have n := R.nd
    rw [e] at n
    exact nodup_of_map n
  refine sorted_src (k := kVal H) (collect_set (A := X.A.in1) (I.ok.hd calm) ⟨o, ho, hex.1, hd⟩ R.fits (by show es.size < 4096; omega) R.tab.ris R.led fun s1 vs k1 hz g1 o1 pm => ?_)
  have e2 : es.toList.map (·.2) = (L.map (·.1)).map Value.ref := by
    rw [R.rows]
    unfold rowsOf
    rw [List.map_map, List.map_map]
    rfl
  rw [e2] at pm
  exact sort_fin I pm (paired_map (fun p : Addr × List Int => p.1) (paired_imp0 (fun _ _ h => h.1) pr)) (by rw [List.length_map, sizeLine_eq]; omega) k1 hz g1 o1 (k nd)
end
end Sq

set_option Elab.async false
set_option linter.all false
set_option maxRecDepth 100000
set_option maxHeartbeats 4000000
/-! sorted of a list of data of any depth. -/
namespace Sq
open PySem PySem.Spec PyProof.Rows L2
section
variable {X : Cx}
def rSortD (K : PySem.W.Frag) : List V → Hp → VK → Prop := fun vs H Q => ∃ (a : Addr) (xs : List V) (β : Type) (enc : β → PyData) (bs : List β), vs = [V.ref a] ∧ SqL K H a xs ∧ Paired (fun x b => Dp K H x (enc b)) xs bs ∧ (∀ b b', PySem.W.alike (enc b) (enc b') = true) ∧
  PySem.W.Sortable (bs.map enc) ∧ (∀ b ∈ bs, (enc b).depth ≤ 8) ∧
  ∀ (ys : List V) (p : Addr), Paired (fun x b => x ∈ xs ∧ Dp K H x (enc b)) ys (bs.mergeSort (PySem.W.dataLe false enc)) → H p = none → Q (.ref p) (upd H p (.lst ys))
theorem each_of {β : Type} {F : V → β → Prop} {R : Value → β → Prop} {xs : List V} {us : List Value} {bs : List β} (rv : Vals xs us) (pr : Paired F xs bs) (k : ∀ x u b, x ∈ xs → RelV x u → F x b → R u b) : PySem.W.EachIs R us bs := by
  induction rv generalizing bs with
  | nil =>
    cases pr
    exact .nil
  | cons r _ ih =>
    cases pr with
    | cons h t => exact .cons (k _ _ _ (List.mem_cons_self ..) r h) (ih t fun x u b m => k x u b (List.mem_cons_of_mem _ m))
theorem each_back {β : Type} {F : V → β → Prop} {out : List Value} {bs : List β} (e : PySem.W.EachIs (fun v b => ∃ y, RelV y v ∧ F y b) out bs) : ∃ ys : List V, Vals ys out ∧ Paired F ys bs := by
  induction e with
  | nil => exact ⟨[], .nil, .nil⟩
  | cons h _ ih =>
    obtain ⟨y, r, f⟩ := h
    obtain ⟨ys, rs, fs⟩ := ih
    exact ⟨y :: ys, .cons r rs, .cons f fs⟩
theorem cr_sortedD (hu : X.A.units + 64 < cLine) : CallR X (.builtin "sorted") (rSortD X.K) := by
  intro pins s σ H vs us Q I r h
  obtain ⟨a, xs, β, enc, bs, rfl, hs, pr, al, so, dp, q⟩ := h
  obtain ⟨its, rv, hl, hz⟩ := I.list hs
  obtain ⟨u, rfl, ru⟩ := vals1 r
  obtain rfl : u = Value.ref a := ru
  have lb : bs.length ≤ sizeLine := by rw [← Paired.length pr]; exact hz
  refine PySem.W.sorted_data (R := fun v b => ∃ y, RelV y v ∧ y ∈ xs ∧ Dp X.K H y (enc b)) (enc := enc) (bs := bs) hl.isList (each_of rv pr fun x u b m rx hd => ⟨x, rx, m, hd⟩) (each_of rv pr fun x u b _ rx hd => Dp.reads I _ _ _ hd rx) (PySem.W.AllAlike.of al) so lb
    (fun b hb => by have := dp b hb; omega) fun out lo eo => ?_
  obtain ⟨ys, ry, py⟩ := each_back eo
  have len : ys.length ≤ sizeLine := by rw [ry.length, lo]; exact lb
  obtain ⟨e, he⟩ := sortedAll_at s.heap its out.toArray
  have hd : s.heap.objs.size ≤ s.heap.objs.size + 1 := Nat.le_succ _
  exact ⟨.ref (s.heap.objs.size + 1), upd H (s.heap.objs.size + 1) (.lst ys), I.laid (t' := s.toks) (fun b o e => sortedAll_old e) hd ⟨len, out, e, ry, he⟩, rfl, q ys _ py (I.hok.fresh hd)⟩
end
end Sq

set_option Elab.async false
set_option linter.all false
set_option maxRecDepth 100000
set_option maxHeartbeats 4000000
/-! Comprehensions that make lists of cells. -/
namespace Sq
open PySem PySem.Spec PyProof.Rows L2
theorem filter_snoc {α : Type} (p : α → Bool) (xs : List α) (x : α) : (xs ++ [x]).filter p = xs.filter p ++ (if p x = true then [x] else []) := by
  rw [List.filter_append]
  by_cases h : p x = true
  · rw [if_pos h, List.filter_cons_of_pos h]
    rfl
  · rw [if_neg h, List.filter_cons_of_neg h]
    rfl
theorem paired_app {α β : Type} {F : α → β → Prop} {xs xs' : List α} {ys ys' : List β} (h : Paired F xs ys) (k : Paired F xs' ys') : Paired F (xs ++ xs') (ys ++ ys') := by
  induction h with
  | nil => exact k
  | cons a _ ih => exact .cons a ih
theorem lc_cells {J : It} {n : Nat} {Gd : Hp → Prop} {Y : Nat → Hp → V → Hp → Prop} (w : Walk J n Gd Y) {g : TG} {tt : TT} {te : TE} {vs : List Nat} {σ : L2.St} {H1 : Hp} {D : Addr} {Qd : Hp → Prop} (hD : H1 D = none) (res : Nat → List Cell) (r0 : res 0 = []) (hn : n ≤ 1000000)
    (hG : ∀ i G, i ≤ n → Same H1 G → Gd G)
    (hs : ∀ i x G G' (K1 : V → Hp → Prop) (K0 : Hp → Prop), i < n → Same H1 G → Y i G x G' → (∀ r c H4, Same G H4 → At H4 r c → res (i + 1) = res i ++ [c] → K1 (.ref r) H4) → (∀ H3, Same G H3 → res (i + 1) = res i → K0 H3) →
      g x (wipe σ vs) G' fun σ2 H2 => wipe σ2 vs = wipe σ vs ∧ tt σ2 H2 fun b H3 => if b = true then te σ2 H3 K1 else K0 H3)
    (hd : ∀ G rs, Same H1 G → G D = some (.lst (rs.map V.ref)) → Paired (fun q c => At G q c) rs (res n) → Qd G) :
    ∃ W : Nat → Nat → Hp → Prop, (∃ m, W 0 m (upd H1 D (.lst []))) ∧ ∀ i m H, W i m H →
      (J.stop i H ∧ Qd H) ∨ (J.go i H ∧ ∃ Nx : Hp → Prop, (∀ H', Nx H' → ∃ m', m' < m ∧ W (i + 1) m' H') ∧ ∀ x H', J.yld i H x H' → g x (wipe σ vs) H' fun σ2 H2 => wipe σ2 vs = wipe σ vs ∧ tt σ2 H2 fun b H3 =>
        if b = true then te σ2 H3 fun y H4 => ∃ acc, H4 D = some (.lst acc) ∧ acc.length < sizeLine ∧ Nx (upd H4 D (.lst (acc ++ [y]))) else Nx H3) := by
  refine lc_it w (fun i G => Same H1 G ∧ ∃ rs : List Addr, G D = some (.lst (rs.map V.ref)) ∧ rs.length ≤ i ∧ Paired (fun q c => At G q c) rs (res i)) ⟨?_, [], upd_same, Nat.le_refl _, by rw [r0]; exact .nil⟩ (fun i G hi p => hG i G hi p.1) ?_ ?_
  · exact same_put same_refl hD
  · rintro i x G G' hi ⟨sm, rs, gD, ln, pr⟩ y
    refine hs i x G G' _ _ hi sm y (fun r c H4 s4 a4 e => ?_) (fun H3 s3 e => ?_)
    · refine ⟨_, s4 _ _ gD, by rw [List.length_map, sizeLine_eq]; omega, same_put (sm.trans s4) hD, rs ++ [r], by rw [upd_same, List.map_append]; rfl, by rw [List.length_append]; exact Nat.succ_le_succ ln, ?_⟩
      have off : ∀ {q : Addr} {c : Cell}, At H4 q c → At (upd H4 D (.lst (rs.map V.ref ++ [V.ref r]))) q c := fun h => h.off (s4 _ _ gD) (by intro xs z; cases z)
      rw [e]
      exact (paired_imp0 (fun _ _ h => off (s4 _ _ h)) pr).snoc (off a4)
    · refine ⟨sm.trans s3, rs, s3 _ _ gD, Nat.le_succ_of_le ln, ?_⟩
      rw [e]
      exact paired_imp0 (fun _ _ h => s3 _ _ h) pr
  · rintro G ⟨sm, rs, gD, _, pr⟩
    exact hd G rs sm gD pr
end Sq

set_option Elab.async false
set_option linter.all false
set_option maxRecDepth 100000
set_option maxHeartbeats 4000000
/-! Data that can be compared: lists and tuples of such. -/
namespace Sq
open PySem PySem.Spec PyProof.Rows L2
/-- d can be laid, n deep at most -/
def Lay (n : Nat) (d : PyData) : Prop := d.canLay0 = true ∧ d.depth ≤ n
theorem lay_all {n : Nat} : ∀ {ds : List PyData}, (∀ d ∈ ds, Lay n d) → PyData.canLayAll0 ds = true ∧ PyData.depthAll ds ≤ n
  | [], _ => ⟨by first | rfl | simp [PyData.canLayAll0], Nat.zero_le _⟩
  | d :: ds, h => by
    obtain ⟨h1, h2⟩ := lay_all (ds := ds) fun e he => h e (List.mem_cons_of_mem _ he)
    obtain ⟨k1, k2⟩ := h d (List.mem_cons_self ..)
    refine ⟨?_, ?_⟩
    · rw [PyData.canLayAll0, k1, h1]
      rfl
    · rw [PyData.depthAll]
      exact Nat.max_le.mpr ⟨k2, h2⟩
theorem lay_list {n : Nat} {ds : List PyData} (h : ∀ d ∈ ds, Lay n d) : Lay (n + 1) (.list ds) := by
  obtain ⟨h1, h2⟩ := lay_all h
  refine ⟨by rw [PyData.canLay0]; exact h1, ?_⟩
  rw [PyData.depth]
  exact Nat.succ_le_succ h2
theorem lay_tuple {n : Nat} {ds : List PyData} (h : ∀ d ∈ ds, Lay n d) : Lay (n + 1) (.tuple ds) := by
  obtain ⟨h1, h2⟩ := lay_all h
  refine ⟨by rw [PyData.canLay0]; exact h1, ?_⟩
  rw [PyData.depth]
  exact Nat.succ_le_succ h2
theorem Lay.mono {n m : Nat} {d : PyData} (h : Lay n d) (k : n ≤ m) : Lay m d := ⟨h.1, Nat.le_trans h.2 k⟩
theorem Lay.shaped {n : Nat} {d : PyData} (h : Lay n d) (k : n ≤ 64) : SeqAt.shaped d = true := by
  unfold SeqAt.shaped
  rw [h.1, decide_eq_true (Nat.le_trans h.2 k)]
  rfl
theorem lay_int (i : Int) : Lay 0 (.int i) := ⟨by first | rfl | simp [PyData.canLay0], Nat.le_refl _⟩
theorem lay_bool (i : Bool) : Lay 0 (.bool i) := ⟨by first | rfl | simp [PyData.canLay0], Nat.le_refl _⟩
theorem lay_str {i : Str} (h : PyData.strOk i = true) : Lay 0 (.str i) := ⟨by rw [PyData.canLay0]; exact h, Nat.le_refl _⟩
theorem lay_none : Lay 0 .none := ⟨by first | rfl | simp [PyData.canLay0], Nat.le_refl _⟩
theorem dpAll_of {K : PySem.W.Frag} {H : Hp} {β : Type} {enc : β → PyData} : ∀ {xs : List V} {bs : List β}, Paired (fun x b => Dp K H x (enc b)) xs bs → DpAll K H xs (bs.map enc)
  | _, _, .nil => .nil
  | _, _, .cons h t => .cons h (dpAll_of t)
end Sq

set_option Elab.async false
set_option linter.all false
set_option maxRecDepth 100000
set_option maxHeartbeats 4000000
/-! Several except clauses that all bind one name. -/
namespace Sq
open PySem PySem.Spec PyProof.Rows L2
abbrev Su := Addr → Value → Option Addr → TS
/-- the ends of a suite behind which the name at i goes -/
def gone (i : Nat) (D : Ends) : Ends := { nx := fun σ H => D.nx (σ.set i none) H, rt := D.rt, bk := fun σ H => D.bk (σ.set i none) H, ct := fun σ H => D.ct (σ.set i none) H }
/-- what the clauses wish, one after the other -/
def wAll (K : PySem.W.Frag) (i : Nat) (Wo : WX) (D : Ends) : List (Value × Su) → WX
  | [] => Wo
  | (c, ts) :: r => fun cls d σ H => ∃ y, PySem.W.exmOne K cls c = some y ∧ (y = true → ∀ a, H a = none → ts a cls d (gone i D) (σ.set i (some (.ref a))) H) ∧ (y = false → wAll K i Wo D r cls d σ H)
inductive HdAs (X : Cx) (n : Str) : List ExceptHandler → List (Value × Su) → Prop
  | nil : HdAs X n [] []
  | cons {x : Str} {c : Value} {ts : Su} {st : Stmt} {su : List Stmt} {p1 p2 : Pos} {hs : List ExceptHandler} {l : List (Value × Su)} (hc : Names X x c)
      (ok : ∀ (a : Addr) (oe : Obj) (cls : Value) (d : Option Addr) (pn : List (Addr × Obj)), Zc cls d oe → (∃ vs, oe.data = .fields vs) → PSs (X.suite a ((a, oe) :: pn)) (st :: su) (ts a cls d)) (r : HdAs X n hs l) :
      HdAs X n (.ExceptHandler (some (.Name x p1)) (some n) (st :: su) p2 :: hs) ((c, ts) :: l)
section
variable {X : Cx} {body : List Stmt} {h0 : ExceptHandler} {hs : List ExceptHandler} {l : List (Value × Su)} {pos : Pos} {tb : WX → TS} {Wo : WX} {n : Str} {i : Nat}
theorem ps_try_all (stk : X.stack = X.env :: X.outer) (fr : X.env.frame = some X.env.locals) (nd : X.N.Nodup) (hi : X.N[i]? = some n) (loc : X.env.kindOf n = some .local) (tk : Takes X Wo)
    (hb : ∀ (W : WX) (pn : List (Addr × Obj)) (xe : Value → Shared → Prop), Takes (X.tr pn xe) W → PassesOwn (model X.prog X.w) X.A X.env xe → PSs (X.tr pn xe) body (tb W))
    (hh : HdAs X n (h0 :: hs) l) : PS X (.Try body (h0 :: hs) [] [] pos) (fun D σ H => tb (wAll X.K i Wo D l) D σ H) := by
  refine ⟨fun pl s τ G D J0 asked => ?_⟩
  have okX := J0.ok
  have frA : X.A.frames = some (X.env :: X.outer) := okX.frames.trans (congrArg some stk)
  have lcn : Loc X.env.scope n := .inl loc
  let xe : Value → Shared → Prop := fun e z1 => wpAny (model X.prog X.w) X.A (noteFrame e X.env) (fun _ z2 => wpAny (model X.prog X.w) X.A (setFlight e none) (fun _ z3 =>
    wpAny (model X.prog X.w) X.A (handleBy e X.env (h0 :: hs)) (SP X pl D) X.xe z3) X.xe z2) X.xe z1
  refine wpAny_Try_except (wpAny_mono ((hb (wAll X.K i Wo D l) (X.pn ++ pl) xe (fun u z air => ?_) PassesOwn.looking).run [] s τ G D (J0.toTry _) asked) (fun fl z1 sp => ?_) fun e z1 he => he)
  · obtain ⟨a, Bg, zI, pl2, τ2, G2, cls, d, rfl, JT, nb, up, sky, na, eos, ag, wish⟩ := air
    have J : Inv X pl τ2 G2 zI := JT.ofTry okX
    show wpAny (model X.prog X.w) X.A (noteFrame (.ref a) X.env) _ _ _
    refine Sky.land Zc.steady frA fr (by rw [← stk]; exact sky) fun g1 fl1 up1 => ?_
    have J1 : Inv X pl τ2 G2 { z with heap := g1 } := J.landed nb fl1.1 (up.trans up1) eos ag
    obtain ⟨o1, v1, at1, zc1, dd1⟩ := fl1.there
    have off : ∀ {h : Heap} {o : Obj} {vs : Array Value}, h.FunFrames Bg (X.env :: X.outer) → h.get? a = some o → o.data = .fields vs → a ∉ frs (X.env :: X.outer) := fun {h o vs} ff e dd hm => by
      obtain ⟨_, u, eu, no⟩ := ff.mem hm
      rw [e] at eu
      cases eu
      exact no _ dd
    have nfr := off fl1.2.2.1 at1 dd1
    have nL : a ≠ X.env.locals := fun q => nfr (List.mem_filterMap.mpr ⟨X.env, List.mem_cons_self, fr.trans (congrArg some q.symm)⟩)
    have nF : a ∉ X.fs := fun hm => by
      obtain ⟨e, he, q⟩ := List.mem_filterMap.mp hm
      exact nfr (List.mem_filterMap.mpr ⟨e, List.mem_cons_of_mem _ he, q⟩)
    have S1 := J1.suite at1 dd1 na nL nF
    have turn : ∀ {hs2 : List ExceptHandler} {l2 : List (Value × Su)}, HdAs X n hs2 l2 → wAll X.K i Wo D l2 cls d τ2 G2 → wpAny (model X.prog X.w) X.A (handleBy (.ref a) X.env hs2) (SP X pl D) X.xe { z with heap := g1 } := by
      intro hs2 l2 hk
      induction hk with
      | nil =>
        intro wsh
        refine wpAny_handleBy_nil ?_
        obtain ⟨_, _, _, o2, v2, T, oT, ts2, at2, z2, d2, f2, _⟩ := id fl1
        unfold PySem.passOn
        refine wpAny_bind (wpAny_field at2 d2 f2 ?_)
        have nn : ¬ ((Value.ref T == Value.none) = true) := by simp
        rw [if_neg nn]
        have leave : wpAny (model X.prog X.w) X.A (setFlight (.ref a) X.env.frame) (fun _ z4 => wpAny (model X.prog X.w) X.A (throw (.ref a) : Sem Flow) (SP X pl D) X.xe z4) X.xe { z with heap := g1 } := by
          rw [fr]
          refine HandSPX.setFlight_upZ fl1 fun g4 hh4 up4 => wpAny_throw (tk _ _ ⟨a, Bg, zI, pl, τ2, G2, cls, d, rfl, J, nb, (up.trans up1).trans up4, .inr (.inr (by rw [stk]; exact hh4)), na, eos, ag, wsh⟩)
        first
          | exact wpAny_bind (wpAny_pure (wpAny_bind leave))
          | exact wpAny_bind leave
      | @cons x c ts st su p1 p2 hs3 l3 hc okS r ih =>
        intro wsh
        obtain ⟨y, hy, yes, no⟩ := wsh
        refine wpAny_handleBy_cons (codeAny_handlers_test ?_) (by intro q; cases q)
        have LT : PySem.W.Looks (model X.prog X.w) g1 (typeOf (.ref a)) cls := fun A Q E zz k q => wpAny_typeOf_ref (k _ _ at1) (by rw [zc1.1]; exact q)
        have LM := PySem.W.exm_one (M := model X.prog X.w) (J1.kIn) LT hy
        have look : ∀ {Q : Value → Shared → Prop} {E : Value → Shared → Prop}, Q c { z with heap := g1 } → wpAny (model X.prog X.w) (X.A.mark (some (.ref a))) (eval (.Name x p1) X.env) Q E { z with heap := g1 } := fun {Q E} q => by
          obtain ⟨hg, hdb, hm | ⟨hm, hv, hn2⟩⟩ := hc
          · exact ld_glob (X := X.suite a ((a, o1) :: (X.pn ++ pl))) S1 hg hm q hdb
          · exact ld_blt (X := X.suite a ((a, o1) :: (X.pn ++ pl))) S1 hg hm hv q hn2 hdb
        refine look (LM.here ?_)
        cases y with
        | false =>
          show wpAny _ X.A (handleBy (.ref a) X.env hs3) _ _ _
          exact ih (no rfl)
        | true =>
          refine codeAny_handlers_suite_as (HandSPX.lands_againZ fl1 fun g4 fl4 up4 => ?_)
          have J4 : Inv X pl τ2 G2 { z with heap := g4 } := J.landed nb fl4.1 ((up.trans up1).trans up4) eos ag
          obtain ⟨o4, v4, at4, zc4, dd4⟩ := fl4.there
          have S4 := J4.suite at4 dd4 na nL nF
          refine store_ok (X := X.suite a ((a, o4) :: (X.pn ++ pl))) (v := .ref a) S4 nd hi lcn rfl (fun z5 S5 => ?_) (.inr loc)
          refine wpAny_mono ((okS a o4 cls d (X.pn ++ pl) zc4 ⟨_, dd4⟩).run [] z5 _ G2 _ S5 (yes rfl a na)) (fun fl z6 sp => ?_) (fun _ _ q => False.elim q)
          have close : ∀ {τ6 : L2.St} {G6 : Hp} {Q : Shared → Prop}, Inv (X.suite a ((a, o4) :: (X.pn ++ pl))) [] τ6 G6 z6 → (∀ z7, Inv X pl (τ6.set i none) G6 z7 → Q z7) →
              wpAny (model X.prog X.w) X.A (do bindName X.env n .none; unbindBehindTheSuite X.env n p2) (fun _ z7 => Q z7) X.xe z6 := fun {τ6 G6 Q} S6 hq => gone_ok (S6.unsuite okX) nd hi loc hq
          cases fl with
          | next =>
            obtain ⟨τ6, G6, S6, q6⟩ := sp
            exact close S6 fun z7 J7 => ⟨_, _, J7, q6⟩
          | brk =>
            obtain ⟨τ6, G6, S6, q6⟩ := sp
            exact close S6 fun z7 J7 => ⟨_, _, J7, q6⟩
          | cont =>
            obtain ⟨τ6, G6, S6, q6⟩ := sp
            exact close S6 fun z7 J7 => ⟨_, _, J7, q6⟩
          | ret u =>
            obtain ⟨v6, τ6, G6, S6, r6, q6⟩ := sp
            exact close S6 fun z7 J7 => ⟨_, _, _, J7, r6, q6⟩
    exact turn hh wish
  · cases fl with
    | next =>
      obtain ⟨τ2, G2, JT, q⟩ := sp
      exact wpAny_execs_nil ⟨τ2, G2, JT.ofTry okX, q⟩
    | brk =>
      obtain ⟨τ2, G2, JT, q⟩ := sp
      exact ⟨τ2, G2, JT.ofTry okX, q⟩
    | cont =>
      obtain ⟨τ2, G2, JT, q⟩ := sp
      exact ⟨τ2, G2, JT.ofTry okX, q⟩
    | ret u =>
      obtain ⟨v, τ2, G2, JT, r, q⟩ := sp
      exact ⟨v, τ2, G2, JT.ofTry okX, r, q⟩
end
end Sq

set_option Elab.async false
set_option linter.all false
set_option maxRecDepth 100000
set_option maxHeartbeats 4000000
/-! {k: v, l: u}, the keys of any kind; del d[k], the key a tuple that is there. -/
namespace Sq
open PySem PySem.Spec PyProof.Rows L2
def tDisp2 (o0 : HO) (tk tv tl tu : TE) : TE := fun σ H Q => ∀ p, H p = none → tk σ (upd H p o0) fun x H1 => tv σ H1 fun y H2 => tl σ H2 fun x' H3 => tu σ H3 fun y' H4 => ∃ H5 H6, DPut H4 p x y H5 ∧ DPut H5 p x' y' H6 ∧ Q (.ref p) H6
def twoPairs (q : V → V → V → V → Hp → Prop) : List (V × V) → Hp → Prop
  | [p, r], H => q p.1 p.2 r.1 r.2 H
  | _, _ => False
theorem twoPairs_of {q : V → V → V → V → Hp → Prop} {H : Hp} : ∀ {ps : List (V × V)}, twoPairs q ps H → ∃ x y x' y', ps = [(x, y), (x', y')] ∧ q x y x' y' H
  | [p, r], h => ⟨p.1, p.2, r.1, r.2, rfl, h⟩
theorem pe_disp2 {X : Cx} {o0 : HO} {k v l u : Expr} {pos : Pos} {tk tv tl tu : TE} (ho : o0 = .dK [] ∨ o0 = .dT []) (hu : X.A.units + 1 < cLine) (hk : PE X k tk) (hv : PE X v tv) (hl : PE X l tl) (hw : PE X u tu) : PE X (.Dict [some k, some l] [v, u] pos) (tDisp2 o0 tk tv tl tu) := by
  refine ⟨fun pins s σ H Q I h => ?_⟩
  have fresh := I.hok.fresh (Nat.le_refl s.heap.objs.size)
  have I1 : Inv X pins σ (upd H s.heap.objs.size o0) { s with heap := s.heap.push { cls := .type "dict", data := .dict #[] } } := by
    refine I.laid (t' := s.toks) (fun _ _ q => Heap.get?_push_of_some _ q) (Nat.le_refl _) ?_
    rcases ho with rfl | rfl
    · exact dk_empty s.heap I.big
    · exact dt_empty s.heap I.big
  refine wpAny_Dict_any rfl rfl (List.cons_ne_nil _ _) (by show 2 ≤ 15; decide) ?_
  refine thn ((pps_cons hk hv (pps_cons hl hw pps_nil)).run pins _ σ _ (twoPairs fun x y x' y' H4 => ∃ H5 H6, DPut H4 s.heap.objs.size x y H5 ∧ DPut H5 s.heap.objs.size x' y' H6 ∧ Q (.ref s.heap.objs.size) H6) I1 (h _ fresh)) fun vs z hz => ?_
  obtain ⟨ps, H2, I2, rel, q⟩ := hz
  obtain ⟨x, y, x', y', rfl, H5, H6, put, put', q⟩ := twoPairs_of q
  cases rel with
  | cons rr r0 =>
    cases r0 with
    | cons rs r1 =>
      cases r1
      unfold storeAll
      rw [List.forIn_cons]
      refine wpAny_bind (wpAny_bind (dc_put hu I2 put rr.1 rr.2 fun z' I3 => wpAny_pure ?_))
      show wpAny _ _ (forIn (_ :: _ : List (Value × Value)) PUnit.unit _) _ _ _
      rw [List.forIn_cons]
      refine wpAny_bind (wpAny_bind (dc_put hu I3 put' rs.1 rs.2 fun z' I4 => wpAny_pure ?_))
      show wpAny _ _ (forIn ([] : List (Value × Value)) PUnit.unit _) _ _ _
      rw [List.forIn_nil]
      exact wpAny_pure ⟨.ref s.heap.objs.size, H6, I4, rfl, q⟩
/-- del d[y] -/
def sDelT (td ty : TE) : TS := fun D σ H => td σ H fun x H1 => ty σ H1 fun y H2 => ∃ (a : Addr) (kvs : List (List Key × V)) (k : List Key) (b : Addr), x = .ref a ∧ y = .ref b ∧ H2 a = some (.dT kvs) ∧ H2 b = some (.tup (k.map kV)) ∧ (valV kvs k).isSome = true ∧ D.nx σ (upd H2 a (.dT (dropK kvs k)))
theorem ps_ddelT {X : Cx} {o i : Expr} {td ty : TE} {pos tpos : Pos} (hu : X.A.units + 1 < cLine) (ho : PE X o td) (hi : PE X i ty) : PS X (.Delete [.Subscript o i tpos] pos) (sDelT td ty) := by
  refine ⟨fun pins s σ H D I h => ?_⟩
  refine wpAny_Delete (wpAny_deleteEach_cons (wpAny_delete_Subscript (thn (ho.run pins s σ H _ I h) fun u s1 ⟨x, H1, I1, rx, q1⟩ => thn (hi.run pins s1 σ H1 _ I1 q1) fun iv s2 ⟨y, H2, I2, ry, a, kvs, k, b, ex, ey, e, eb, l, q2⟩ => ?_)))
  subst ex ey
  obtain rfl : u = Value.ref a := rx
  obtain rfl : iv = Value.ref b := ry
  obtain ⟨z, hsys, ys, rel, dd⟩ := dt_of I2.hok e
  have hz : ys.length ≤ sizeLine := by rw [← Paired.length rel]; exact z
  have r := rel.val k
  cases ep : atKey ys k with
  | none =>
    rw [ep] at r
    cases hv : valV kvs k with
    | none => rw [hv] at l; cases l
    | some v => rw [hv] at r; exact r.elim
  | some p =>
    refine wpAny_delItem_heap (hsz := hz) (tupleKind_room_in1 hu) (key_of I2.hok eb) hsys dd ep fun h' dd' same => ?_
    obtain ⟨o2, en, e0, eo, c2, c3, c4, c5, c6⟩ := dd'
    refine wpAny_deleteEach_nil ⟨σ, _, d_write (ob := .dT (dropK kvs k)) I2 (by rw [e]; exact True.intro) same ⟨o2, eo⟩ ⟨Nat.le_trans (dropK_le kvs k) z, hsys, _, (DX.KT_drop k rel).keeps fun c ws ec => ?_, o2, en, e0, eo, c2, c3, c4, c6⟩, q2⟩
    rw [upd_ne (ne_of ec e (fun t => nomatch t))]
    exact ec
end Sq

set_option Elab.async false
set_option linter.all false
set_option maxRecDepth 100000
set_option maxHeartbeats 4000000
/-! The parts of a lot: what they are. -/
namespace Sq
/-- cells, each once, as a dict keeps them -/
def addC (L : List Cell) (c : Cell) : List Cell := if c ∈ L then L else L ++ [c]
def uniq (cs : List Cell) : List Cell := cs.foldl addC []
theorem addC_mem {L : List Cell} {c x : Cell} : x ∈ addC L c ↔ x ∈ L ∨ x = c := by
  unfold addC
  by_cases h : c ∈ L
  · rw [if_pos h]
    exact ⟨.inl, fun z => z.elim id fun e => e ▸ h⟩
  · rw [if_neg h, List.mem_append, List.mem_singleton]
theorem addC_nodup {L : List Cell} {c : Cell} (h : L.Nodup) : (addC L c).Nodup := by
  unfold addC
  by_cases m : c ∈ L
  · rw [if_pos m]
    exact h
  · rw [if_neg m]
    exact List.nodup_append.mpr ⟨h, by simp, fun a ha b hb => by rw [List.mem_singleton.mp hb]; exact fun z => m (z ▸ ha)⟩
theorem addC_len {L : List Cell} {c : Cell} : (addC L c).length ≤ L.length + 1 := by
  unfold addC
  by_cases m : c ∈ L
  · rw [if_pos m]
    exact Nat.le_succ _
  · rw [if_neg m, List.length_append]
    exact Nat.le_refl _
theorem uniq_snoc (cs : List Cell) (c : Cell) : uniq (cs ++ [c]) = addC (uniq cs) c := by
  unfold uniq
  rw [List.foldl_append]
  rfl
theorem foldC_mem (x : Cell) : ∀ (cs L : List Cell), x ∈ cs.foldl addC L ↔ x ∈ L ∨ x ∈ cs
  | [], L => by simp
  | c :: cs, L => by
    show x ∈ cs.foldl addC (addC L c) ↔ _
    rw [foldC_mem x cs, addC_mem, List.mem_cons, or_assoc]
theorem uniq_mem {cs : List Cell} {x : Cell} : x ∈ uniq cs ↔ x ∈ cs := by
  unfold uniq
  rw [foldC_mem]
  simp
theorem foldC_nodup : ∀ (cs L : List Cell), L.Nodup → (cs.foldl addC L).Nodup
  | [], _, h => h
  | c :: cs, L, h => foldC_nodup cs (addC L c) (addC_nodup h)
theorem uniq_nodup {cs : List Cell} : (uniq cs).Nodup := foldC_nodup cs [] (by simp)
theorem foldC_len : ∀ (cs L : List Cell), (cs.foldl addC L).length ≤ L.length + cs.length
  | [], L => Nat.le_refl _
  | c :: cs, L => by
    have h := foldC_len cs (addC L c)
    have k := addC_len (L := L) (c := c)
    show (cs.foldl addC (addC L c)).length ≤ L.length + (cs.length + 1)
    omega
theorem uniq_len {cs : List Cell} : (uniq cs).length ≤ cs.length := by
  have h := foldC_len cs []
  unfold uniq
  simpa using h
/-- the parts of cells, in their order -/
structure IsParts (cs : List Cell) (ps : List (List Cell)) : Prop where
  asc : ∀ p ∈ ps, Asc p ∧ p.Nodup ∧ p ≠ []
  cls : ∀ p ∈ ps, ∀ x ∈ p, x ∈ cs ∧ ∀ y, y ∈ p ↔ Reach cs x y
  cov : ∀ x ∈ cs, ∃ p ∈ ps, x ∈ p
  ord : ps.Pairwise fun p q => ∃ a b, p.head? = some a ∧ q.head? = some b ∧ cLt a b = true
theorem parts_one {cs : List Cell} {ps : List (List Cell)} (h : IsParts cs ps) : ps.length = 1 ↔ Hangs cs := by
  constructor
  · intro l
    obtain ⟨p, rfl⟩ : ∃ p, ps = [p] := by
      match ps, l with
      | [p], _ => exact ⟨p, rfl⟩
    obtain ⟨_, _, ne⟩ := h.asc p (by simp)
    refine ⟨fun e => ?_, fun a ha b hb => ?_⟩
    · obtain ⟨x, hx⟩ := List.exists_mem_of_ne_nil _ ne
      have := (h.cls p (by simp) x hx).1
      rw [e] at this
      cases this
    · obtain ⟨q, hq, aq⟩ := h.cov a ha
      obtain ⟨r, hr, br⟩ := h.cov b hb
      rw [List.mem_singleton.mp hq] at aq
      rw [List.mem_singleton.mp hr] at br
      exact ((h.cls p (by simp) a aq).2 b).mp br
  · rintro ⟨ne, all⟩
    obtain ⟨x, hx⟩ := List.exists_mem_of_ne_nil _ ne
    obtain ⟨p, hp, xp⟩ := h.cov x hx
    match ps, hp, h with
    | [q], _, _ => rfl
    | q :: r :: ps, hp, h =>
      obtain ⟨a, b, ea, eb, lt⟩ := (List.pairwise_cons.mp h.ord).1 r (by simp)
      have ma : a ∈ q := List.mem_of_mem_head? ea
      have mb : b ∈ r := List.mem_of_mem_head? eb
      have ca := (h.cls q (by simp) a ma)
      have cb := (h.cls r (by simp) b mb)
      have bq : b ∈ q := (ca.2 b).mpr (all a ca.1 b cb.1)
      have ar : a ∈ r := (cb.2 a).mpr (all b cb.1 a ca.1)
      -- a heads q, so it is the least of q; b heads r, so the least of r
      have hb : cLt a b = false := by
        obtain ⟨asc, _, _⟩ := h.asc r (by simp)
        match r, eb, asc, ar with
        | c :: r', eb, asc, ar =>
          obtain rfl : c = b := Option.some.inj eb
          rcases List.mem_cons.mp ar with e | m
          · rw [e]
            exact cLt_irr c
          · exact (List.pairwise_cons.mp asc).1 a m
      rw [hb] at lt
      cases lt
end Sq

set_option Elab.async false
set_option linter.all false
set_option maxRecDepth 100000
set_option maxHeartbeats 4000000
/-! Growing blobs; dicts from cells to numbers. -/
namespace Sq
open PySem PySem.Spec PyProof.Rows L2
theorem east_most : ∀ {A : List Cell}, A ≠ [] → ∃ a ∈ A, ∀ b ∈ A, b.1 ≤ a.1
  | [c], _ => ⟨c, by simp, fun b hb => by rw [List.mem_singleton.mp hb]; exact Int.le_refl _⟩
  | c :: d :: A, _ => by
    obtain ⟨a, ha, h⟩ := east_most (A := d :: A) (by simp)
    by_cases e : a.1 ≤ c.1
    · exact ⟨c, by simp, fun b hb => (List.mem_cons.mp hb).elim (fun z => z ▸ Int.le_refl _) fun m => Int.le_trans (h b m) e⟩
    · exact ⟨a, List.mem_cons_of_mem _ ha, fun b hb => (List.mem_cons.mp hb).elim (fun z => by rw [z]; omega) (h b)⟩
theorem ext_free {A : List Cell} (h : A ≠ []) : ∃ a ∈ A, ∃ x ∈ besideC a, x ∉ A := by
  obtain ⟨a, ha, k⟩ := east_most h
  refine ⟨a, ha, (a.1 + 1, a.2), by simp [besideC], fun m => ?_⟩
  have : a.1 + 1 ≤ a.1 := k _ m
  omega
theorem Reach.mono {L M : List Cell} (h : ∀ x ∈ L, x ∈ M) {a b : Cell} (k : Reach L a b) : Reach M a b := by
  induction k with
  | refl => exact .refl
  | step _ hb hc ih => exact ih.step hb (h _ hc)
theorem hangs_snoc {A : List Cell} {a x : Cell} (h : Hangs A) (ha : a ∈ A) (hx : x ∈ besideC a) : Hangs (A ++ [x]) := by
  have m : a ∈ A ++ [x] := List.mem_append_left _ ha
  refine (hangs_from m).mpr fun b hb => ?_
  rcases List.mem_append.mp hb with k | k
  · exact (h.2 a ha b k).mono fun y hy => List.mem_append_left _ hy
  · rw [List.mem_singleton.mp k]
    exact Reach.refl.step hx (by simp)
theorem hangs_one (c : Cell) : Hangs [c] := ⟨by simp, fun a ha b hb => by rw [List.mem_singleton.mp ha, List.mem_singleton.mp hb]; exact .refl⟩
/-- a dict from these cells to numbers -/
structure IntD (kvs : List (List Key × V)) (Cs : List Cell) : Prop where
  keys : kvs.map (·.1) = Cs.map cK
  nums : ∀ kv ∈ kvs, ∃ i : Int, kv.2 = .int i
theorem IntD.get {kvs : List (List Key × V)} {Cs : List Cell} (h : IntD kvs Cs) (c : Cell) : (c ∈ Cs ∧ ∃ i : Int, valV kvs (cK c) = some (.int i)) ∨ (c ∉ Cs ∧ valV kvs (cK c) = none) := by
  obtain ⟨hk, hi⟩ := h
  induction kvs generalizing Cs with
  | nil =>
    cases Cs with
    | nil => exact .inr ⟨by simp, rfl⟩
    | cons d Cs => cases hk
  | cons kv kvs ih =>
    cases Cs with
    | nil => cases hk
    | cons d Cs =>
      rw [List.map_cons, List.map_cons] at hk
      injection hk with h1 h2
      by_cases e : d = c
      · subst e
        obtain ⟨i, ei⟩ := hi kv (List.mem_cons_self ..)
        refine .inl ⟨List.mem_cons_self .., i, ?_⟩
        rw [valV_pos h1, ei]
      · rw [valV_neg (by rw [h1]; exact fun z => e (cK_inj z))]
        rcases ih h2 (fun kv hkv => hi kv (List.mem_cons_of_mem _ hkv)) with ⟨m, r⟩ | ⟨m, r⟩
        · exact .inl ⟨List.mem_cons_of_mem _ m, r⟩
        · exact .inr ⟨fun z => (List.mem_cons.mp z).elim (fun q => e q.symm) m, r⟩
theorem IntD.put {kvs : List (List Key × V)} {Cs : List Cell} (h : IntD kvs Cs) (c : Cell) (j : Int) : IntD (putK kvs (cK c) (.int j)) (addC Cs c) := by
  have keyc : ∀ kv ∈ kvs, ∃ d ∈ Cs, kv.1 = cK d := fun kv hkv => by
    have : kv.1 ∈ Cs.map cK := by rw [← h.keys]; exact List.mem_map.mpr ⟨kv, hkv, rfl⟩
    obtain ⟨d, hd, e⟩ := List.mem_map.mp this
    exact ⟨d, hd, e.symm⟩
  unfold putK addC
  by_cases m : c ∈ Cs
  · have an : (kvs.any fun kv => decide (kv.1 = cK c)) = true := by
      have : cK c ∈ kvs.map (·.1) := by rw [h.keys]; exact List.mem_map.mpr ⟨c, m, rfl⟩
      obtain ⟨kv, hkv, e⟩ := List.mem_map.mp this
      exact List.any_eq_true.mpr ⟨kv, hkv, decide_eq_true e⟩
    rw [if_pos an, if_pos m]
    refine ⟨?_, fun kv hkv => ?_⟩
    · rw [List.map_map, ← h.keys]
      refine List.map_congr_left fun kv _ => ?_
      show (if kv.1 = cK c then (kv.1, V.int j) else kv).1 = kv.1
      split <;> rfl
    · obtain ⟨kv0, h0, e⟩ := List.mem_map.mp hkv
      rw [← e]
      by_cases q : kv0.1 = cK c
      · rw [if_pos q]
        exact ⟨j, rfl⟩
      · rw [if_neg q]
        exact h.nums kv0 h0
  · have an : ¬ (kvs.any fun kv => decide (kv.1 = cK c)) = true := fun z => by
      obtain ⟨kv, hkv, e⟩ := List.any_eq_true.mp z
      obtain ⟨d, hd, e2⟩ := keyc kv hkv
      rw [of_decide_eq_true e] at e2
      rw [cK_inj e2] at m
      exact m hd
    rw [if_neg an, if_neg m]
    refine ⟨by rw [List.map_append, List.map_append, h.keys]; rfl, fun kv hkv => ?_⟩
    rcases List.mem_append.mp hkv with q | q
    · exact h.nums kv q
    · rw [List.mem_singleton.mp q]
      exact ⟨j, rfl⟩
theorem IntD.len {kvs : List (List Key × V)} {Cs : List Cell} (h : IntD kvs Cs) : kvs.length = Cs.length := by
  have := congrArg List.length h.keys
  rwa [List.length_map, List.length_map] at this
theorem keysC {H : Hp} : ∀ {kvs : List (List Key × V)} {Cs : List Cell} {bs : List Addr}, kvs.map (·.1) = Cs.map cK → IsKeys H kvs bs → Paired (fun q c => At H q c) bs Cs
  | [], [], _, _, .nil => .nil
  | [], _ :: _, _, e, _ => by cases e
  | _ :: _, [], _, e, _ => by cases e
  | kv :: kvs, c :: Cs, b :: bs, e, .cons h t => by
    rw [List.map_cons, List.map_cons] at e
    injection e with e1 e2
    refine .cons ?_ (keysC e2 t)
    have h : H b = some (.tup (kv.1.map kV)) := h
    rw [e1] at h
    exact h
end Sq

set_option Elab.async false
set_option linter.all false
set_option maxRecDepth 100000
set_option maxHeartbeats 4000000
/-! The mathematics of a search in depth: which cells can be taken away. -/
namespace Sq
abbrev TwigC : Type := Cell × Option Cell
/-- a is v, or lies on the way that led to v -/
inductive Anc (T : List TwigC) (a : Cell) : Cell → Prop where
  | refl : Anc T a a
  | step {y v : Cell} : Anc T a y → (v, some y) ∈ T → Anc T a v
theorem Anc.mono {T U : List TwigC} {a v : Cell} (h : Anc T a v) (k : ∀ x ∈ T, x ∈ U) : Anc U a v := by
  induction h with
  | refl => exact .refl
  | step _ m ih => exact ih.step (k _ m)
theorem Anc.trans {T : List TwigC} {a b c : Cell} (h : Anc T a b) (k : Anc T b c) : Anc T a c := by
  induction k with
  | refl => exact h
  | step _ m ih => exact ih.step m
abbrev keysT (T : List TwigC) : List Cell := T.map (·.1)
/-- what a search in depth leaves: each cell with the one that led to it; a cell's neighbours that were met ahead of it lie on its way -/
inductive DTree (L : List Cell) : List TwigC → Prop where
  | root {r : Cell} (h : r ∈ L) : DTree L [(r, none)]
  | snoc {T : List TwigC} {v y : Cell} (t : DTree L T) (hy : y ∈ keysT T) (hv : v ∈ L) (nv : v ∉ keysT T) (b : v ∈ besideC y) (anc : ∀ u ∈ keysT T, v ∈ besideC u → Anc T u y) : DTree L (T ++ [(v, some y)])
section
variable {L : List Cell} {T : List TwigC}
theorem keys_snoc {T : List TwigC} {v : Cell} {o : Option Cell} : keysT (T ++ [(v, o)]) = keysT T ++ [v] := by simp [keysT]
theorem DTree.nodup (h : DTree L T) : (keysT T).Nodup := by
  induction h with
  | root => simp [keysT]
  | snoc _ _ _ nv _ _ ih =>
    rw [keys_snoc, List.nodup_append]
    refine ⟨ih, by simp, fun a ha b hb e => ?_⟩
    rw [List.mem_singleton.mp hb] at e
    exact nv (e ▸ ha)
theorem DTree.sub (h : DTree L T) : ∀ v ∈ keysT T, v ∈ L := by
  induction h with
  | root h =>
    intro v hv
    simp [keysT] at hv
    exact hv ▸ h
  | snoc _ _ hv _ _ _ ih =>
    intro u hu
    rw [keys_snoc] at hu
    rcases List.mem_append.mp hu with m | m
    · exact ih u m
    · rw [List.mem_singleton.mp m]; exact hv
/-- the place of a cell -/
def numT (T : List TwigC) (v : Cell) : Nat := (keysT T).idxOf v
theorem num_lt {v : Cell} : numT T v < (keysT T).length ↔ v ∈ keysT T := List.idxOf_lt_length_iff
theorem num_inj {v u : Cell} (hv : v ∈ keysT T) (hu : u ∈ keysT T) (h : numT T v = numT T u) : v = u := by
  have e1 := List.getElem_idxOf (num_lt.mpr hv)
  have e2 := List.getElem_idxOf (num_lt.mpr hu)
  unfold numT at h
  rw [← e1, ← e2]
  congr 1
theorem num_old {v w : Cell} {o : Option Cell} (hv : v ∈ keysT T) : numT (T ++ [(w, o)]) v = numT T v := by
  unfold numT
  rw [keys_snoc, List.idxOf_append, if_pos hv]
theorem num_new {w : Cell} {o : Option Cell} (hw : w ∉ keysT T) : numT (T ++ [(w, o)]) w = (keysT T).length := by
  unfold numT
  rw [keys_snoc, List.idxOf_append, if_neg hw]
  simp
/-- a twig's cells -/
theorem DTree.twig (h : DTree L T) {v y : Cell} (m : (v, some y) ∈ T) : v ∈ keysT T ∧ y ∈ keysT T ∧ v ∈ besideC y ∧ numT T y < numT T v := by
  induction h with
  | root => simp at m
  | @snoc T v' y' t hy hv nv b anc ih =>
    rw [keys_snoc]
    rcases List.mem_append.mp m with m | m
    · obtain ⟨h1, h2, h3, h4⟩ := ih m
      exact ⟨List.mem_append_left _ h1, List.mem_append_left _ h2, h3, by rw [num_old h1, num_old h2]; exact h4⟩
    · have e := List.mem_singleton.mp m
      obtain ⟨rfl, e2⟩ := Prod.mk.inj e
      have e2 := Option.some.inj e2
      subst e2
      exact ⟨by simp, List.mem_append_left _ hy, b, by rw [num_old hy, num_new nv]; exact num_lt.mpr hy⟩
theorem DTree.uniq (h : DTree L T) {v : Cell} {o o' : Option Cell} (m : (v, o) ∈ T) (m' : (v, o') ∈ T) : o = o' := by
  have nd := h.nodup
  obtain ⟨i, hi, e1⟩ := List.mem_iff_getElem.mp m
  obtain ⟨j, hj, e2⟩ := List.mem_iff_getElem.mp m'
  have k1 : (keysT T)[i]'(by simpa [keysT] using hi) = v := by simp [keysT, e1]
  have k2 : (keysT T)[j]'(by simpa [keysT] using hj) = v := by simp [keysT, e2]
  have ij : i = j := (List.getElem_inj nd).mp (k1.trans k2.symm)
  subst ij
  rw [e1] at e2
  exact (Prod.mk.inj e2).2
theorem DTree.anc_num (h : DTree L T) {a v : Cell} (k : Anc T a v) : numT T a ≤ numT T v := by
  induction k with
  | refl => exact Nat.le_refl _
  | step _ m ih => exact Nat.le_trans ih (Nat.le_of_lt (h.twig m).2.2.2)
theorem DTree.anc_mem (h : DTree L T) {a v : Cell} (k : Anc T a v) (hv : v ∈ keysT T) : a ∈ keysT T := by
  induction k with
  | refl => exact hv
  | step _ m ih => exact ih (h.twig m).2.1
/-- two neighbours: the one that was met first lies on the other one's way -/
theorem DTree.edge (h : DTree L T) : ∀ {u w : Cell}, u ∈ keysT T → w ∈ keysT T → w ∈ besideC u → numT T u < numT T w → Anc T u w := by
  induction h with
  | root =>
    intro u w hu hw b _
    simp [keysT] at hu hw
    rw [hu, hw] at b
    exact absurd rfl (beside_ne b)
  | @snoc T v y t hy hv nv b anc ih =>
    intro u w hu hw bw lt
    have sub : ∀ x ∈ T, x ∈ T ++ [(v, some y)] := fun x hx => List.mem_append_left _ hx
    have hu2 : u ∈ keysT T ∨ u = v := by
      rw [keys_snoc] at hu
      exact (List.mem_append.mp hu).imp id List.mem_singleton.mp
    have hw2 : w ∈ keysT T ∨ w = v := by
      rw [keys_snoc] at hw
      exact (List.mem_append.mp hw).imp id List.mem_singleton.mp
    rcases hu2 with hu2 | rfl
    · rcases hw2 with hw2 | rfl
      · rw [num_old hu2, num_old hw2] at lt
        exact (ih hu2 hw2 bw lt).mono sub
      · exact ((anc u hu2 bw).mono sub).step (by simp)
    · rcases hw2 with hw2 | rfl
      · rw [num_old hw2, num_new nv] at lt
        exact absurd (num_lt.mpr hw2) (by omega)
      · omega
/-- the ways to one cell: one lies on the other -/
theorem DTree.chain (h : DTree L T) {a b v : Cell} (k : Anc T a v) (l : Anc T b v) : Anc T a b ∨ Anc T b a := by
  induction k with
  | refl => exact .inr l
  | @step y v k m ih =>
    cases l with
    | refl => exact .inl (k.step m)
    | @step y' _ l m' =>
      have e := Option.some.inj (h.uniq m m')
      subst e
      exact ih l
theorem DTree.ne_step (h : DTree L T) {a y v : Cell} (k : Anc T a y) (m : (v, some y) ∈ T) : a ≠ v := fun e => by
  have h1 := h.anc_num k
  have h2 := (h.twig m).2.2.2
  rw [e] at h1
  omega
theorem Anc.antisymm (h : DTree L T) {a b : Cell} (hb : b ∈ keysT T) (k : Anc T a b) (l : Anc T b a) : a = b := num_inj (h.anc_mem k hb) hb (Nat.le_antisymm (h.anc_num k) (h.anc_num l))
/-- below v, but not v: below one child of it -/
theorem DTree.child_of (h : DTree L T) {v x : Cell} (k : Anc T v x) : x = v ∨ ∃ c, (c, some v) ∈ T ∧ Anc T c x := by
  induction k with
  | refl => exact .inl rfl
  | @step y x k m ih =>
    rcases ih with rfl | ⟨c, mc, kc⟩
    · exact .inr ⟨x, m, .refl⟩
    · exact .inr ⟨c, mc, kc.step m⟩
/-- the root -/
theorem DTree.root_ex (h : DTree L T) : ∃ r T', T = (r, none) :: T' ∧ r ∈ L := by
  induction h with
  | @root r hr => exact ⟨r, [], rfl, hr⟩
  | snoc _ _ _ _ _ _ ih =>
    obtain ⟨r, T', rfl, hr⟩ := ih
    exact ⟨r, T' ++ _, rfl, hr⟩
theorem DTree.other (h : DTree L T) {r : Cell} (hr : (r, none) ∈ T) : ∀ v ∈ keysT T, v = r ∨ ∃ y, (v, some y) ∈ T := by
  induction h with
  | root =>
    intro v hv
    simp [keysT] at hv hr
    exact .inl (hv.trans hr.symm)
  | @snoc T w y t hy hw nw b anc ih =>
    have hr : (r, none) ∈ T := by
      rcases List.mem_append.mp hr with m | m
      · exact m
      · simp at m
    intro v hv
    rw [keys_snoc] at hv
    rcases List.mem_append.mp hv with m | m
    · rcases ih hr v m with e | ⟨z, hz⟩
      · exact .inl e
      · exact .inr ⟨z, List.mem_append_left _ hz⟩
    · exact .inr ⟨y, by rw [List.mem_singleton.mp m]; simp⟩
theorem DTree.from_root (h : DTree L T) {r : Cell} (hr : (r, none) ∈ T) : ∀ v ∈ keysT T, Anc T r v := by
  have key : ∀ n v, numT T v ≤ n → v ∈ keysT T → Anc T r v := by
    intro n
    induction n with
    | zero =>
      intro v hn hv
      rcases h.other hr v hv with e | ⟨y, m⟩
      · rw [e]; exact .refl
      · have := (h.twig m).2.2.2
        omega
    | succ n ih =>
      intro v hn hv
      rcases h.other hr v hv with e | ⟨y, m⟩
      · rw [e]; exact .refl
      · have t := h.twig m
        exact (ih y (by omega) t.2.1).step m
  exact fun v hv => key _ v (Nat.le_refl _) hv
end
end Sq

set_option Elab.async false
set_option linter.all false
set_option maxRecDepth 100000
set_option maxHeartbeats 4000000
/-! A search in depth tells which cells can be taken away: the least numbers that are met. -/
namespace Sq
/-- what low tells -/
structure LowOk (L : List Cell) (T : List TwigC) (low : Cell → Nat) : Prop where
  le : ∀ v ∈ keysT T, ∀ w ∈ L, w ∈ besideC v → low v ≤ if (w, some v) ∈ T then low w else numT T w
  at_ : ∀ v ∈ keysT T, low v = numT T v ∨ ∃ w ∈ L, w ∈ besideC v ∧ low v = if (w, some v) ∈ T then low w else numT T w
section
variable {L : List Cell} {T : List TwigC} {low : Cell → Nat}
theorem LowOk.anc (lo : LowOk L T low) (h : DTree L T) {a v : Cell} (k : Anc T a v) : low a ≤ low v := by
  induction k with
  | refl => exact Nat.le_refl _
  | @step y v k m ih =>
    have t := h.twig m
    have := lo.le y t.2.1 v (h.sub v t.1) t.2.2.1
    rw [if_pos m] at this
    exact Nat.le_trans ih this
theorem LowOk.all (lo : LowOk L T low) (h : DTree L T) {c d w : Cell} (k : Anc T c d) (hd : d ∈ keysT T) (hw : w ∈ L) (b : w ∈ besideC d) (n : (w, some d) ∉ T) : low c ≤ numT T w := by
  have := lo.le d hd w hw b
  rw [if_neg n] at this
  exact Nat.le_trans (lo.anc h k) this
theorem LowOk.met (lo : LowOk L T low) (h : DTree L T) : ∀ c ∈ keysT T, low c = numT T c ∨ ∃ d w, Anc T c d ∧ d ∈ keysT T ∧ w ∈ L ∧ w ∈ besideC d ∧ low c = numT T w := by
  have key : ∀ n c, (keysT T).length - numT T c ≤ n → c ∈ keysT T → low c = numT T c ∨ ∃ d w, Anc T c d ∧ d ∈ keysT T ∧ w ∈ L ∧ w ∈ besideC d ∧ low c = numT T w := by
    intro n
    induction n with
    | zero =>
      intro c hn hc
      have := num_lt.mpr hc
      omega
    | succ n ih =>
      intro c hn hc
      rcases lo.at_ c hc with e | ⟨w, hw, b, e⟩
      · exact .inl e
      · by_cases m : (w, some c) ∈ T
        · rw [if_pos m] at e
          have t := h.twig m
          have l1 := num_lt.mpr hc
          have l2 := num_lt.mpr t.1
          rcases ih w (by omega) t.1 with e2 | ⟨d, z, k, hd, hz, bz, e2⟩
          · exact .inr ⟨c, w, .refl, hc, hw, b, e.trans e2⟩
          · exact .inr ⟨d, z, (Anc.refl.step m).trans k, hd, hz, bz, e.trans e2⟩
        · rw [if_neg m] at e
          exact .inr ⟨c, w, .refl, hc, hw, b, e⟩
  exact fun c hc => key _ c (Nat.le_refl _) hc
/-- a child meets nothing ahead of its parent, just if its number is the parent's -/
theorem LowOk.child (lo : LowOk L T low) (h : DTree L T) {c v : Cell} (m : (c, some v) ∈ T) : low c = numT T v ↔ ∀ d w, Anc T c d → d ∈ keysT T → w ∈ L → w ∈ besideC d → numT T v ≤ numT T w := by
  have t := h.twig m
  have up : low c ≤ numT T v := lo.all h .refl t.1 (h.sub v t.2.1) (beside_symm t.2.2.1) fun z => by
    have := (h.twig z).2.2.2
    omega
  constructor
  · intro e d w k hd hw b
    by_cases z : (w, some d) ∈ T
    · have h1 := (h.twig z).2.2.2
      have h2 := h.anc_num k
      omega
    · have := lo.all h k hd hw b z
      omega
  · intro all
    rcases lo.met h c t.1 with e | ⟨d, w, k, hd, hw, b, e⟩
    · omega
    · have := all d w k hd hw b
      omega
/-- all but v -/
abbrev but (L : List Cell) (v : Cell) : List Cell := L.filter fun d => decide (d ≠ v)
theorem mem_but {L : List Cell} {v x : Cell} : x ∈ but L v ↔ x ∈ L ∧ x ≠ v := by simp [but]
theorem DTree.down (h : DTree L T) {c v : Cell} (m : (c, some v) ∈ T) {d : Cell} (k : Anc T c d) : Reach (but L v) c d := by
  induction k with
  | refl => exact .refl
  | @step y x k mx ih =>
    have t := h.twig mx
    have n1 := h.anc_num k
    have n2 := (h.twig m).2.2.2
    exact ih.step t.2.2.1 (mem_but.mpr ⟨h.sub x t.1, fun e => by rw [e] at t; omega⟩)
theorem DTree.out (h : DTree L T) {r v x : Cell} (k : Anc T r x) (n : ¬ Anc T v x) : Reach (but L v) r x := by
  induction k with
  | refl => exact .refl
  | @step y x k m ih =>
    have t := h.twig m
    exact (ih fun z => n (z.step m)).step t.2.2.1 (mem_but.mpr ⟨h.sub x t.1, fun e => n (by rw [e]; exact .refl)⟩)
theorem LowOk.closed (lo : LowOk L T low) (h : DTree L T) (span : ∀ x ∈ L, x ∈ keysT T) {c v x : Cell} (m : (c, some v) ∈ T) (e : low c = numT T v) (k : Reach (but L v) c x) : Anc T c x := by
  have all := (lo.child h m).mp e
  have t := h.twig m
  induction k with
  | refl => exact .refl
  | @step d w k b hw ih =>
    obtain ⟨wL, wv⟩ := mem_but.mp hw
    have hd : d ∈ keysT T := by
      cases k with
      | refl => exact t.1
      | step _ _ z => exact span _ (mem_but.mp z).1
    have hwk := span w wL
    have ge := all d w ih hd wL b
    rcases Nat.lt_trichotomy (numT T d) (numT T w) with lt | eq | lt
    · exact ih.trans (h.edge hd hwk b lt)
    · exact absurd (num_inj hd hwk eq).symm (beside_ne b)
    · have a := h.edge hwk hd (beside_symm b) lt
      rcases h.chain ih a with z | z
      · exact z
      · cases z with
        | refl => exact .refl
        | @step y _ z mz =>
          have ev := Option.some.inj (h.uniq mz m)
          subst ev
          have := h.anc_num z
          exact absurd (num_inj hwk t.2.1 (by omega)) wv
/-- the root's number -/
theorem DTree.num_root (h : DTree L T) {r : Cell} (hr : (r, none) ∈ T) : numT T r = 0 := by
  obtain ⟨r', T', e, _⟩ := h.root_ex
  have m : r' ∈ keysT T := by rw [e]; simp [keysT]
  have a := h.anc_num (h.from_root hr r' m)
  have z : numT T r' = 0 := by
    unfold numT
    rw [e]
    simp [keysT]
  omega
/-- how many of v's children meet nothing ahead of it -/
def kids (T : List TwigC) (low : Cell → Nat) (v : Cell) : Nat := (T.filter fun t => decide (t.2 = some v ∧ low t.1 = numT T v)).length
theorem kids_zero {v : Cell} : kids T low v = 0 ↔ ∀ c, (c, some v) ∈ T → low c ≠ numT T v := by
  unfold kids
  rw [List.length_eq_zero_iff, List.filter_eq_nil_iff]
  constructor
  · intro a c m e
    exact a _ m (decide_eq_true ⟨rfl, e⟩)
  · rintro a ⟨c, o⟩ m z
    obtain ⟨e1, e2⟩ := of_decide_eq_true z
    subst e1
    exact a c m e2
theorem kids_one {v : Cell} (h : DTree L T) : kids T low v = 1 ↔ ∃ c, (c, some v) ∈ T ∧ low c = numT T v ∧ ∀ c', (c', some v) ∈ T → low c' = numT T v → c' = c := by
  have nd := h.nodup
  have mem : ∀ {c : Cell} {o : Option Cell}, (c, o) ∈ T.filter (fun t => decide (t.2 = some v ∧ low t.1 = numT T v)) ↔ (c, o) ∈ T ∧ o = some v ∧ low c = numT T v := fun {c o} => by
    rw [List.mem_filter, decide_eq_true_iff]
  have nk : ((T.filter fun t => decide (t.2 = some v ∧ low t.1 = numT T v)).map (·.1)).Nodup := nd.sublist (List.Sublist.map _ List.filter_sublist)
  unfold kids
  generalize T.filter (fun t => decide (t.2 = some v ∧ low t.1 = numT T v)) = K at mem nk
  constructor
  · intro l
    obtain ⟨⟨c, o⟩, rfl⟩ := List.length_eq_one_iff.mp l
    obtain ⟨h1, h2, h3⟩ := mem.mp (List.mem_singleton.mpr rfl)
    subst h2
    exact ⟨c, h1, h3, fun c' m' e' => (Prod.mk.inj (List.mem_singleton.mp (mem.mpr ⟨m', rfl, e'⟩))).1⟩
  · rintro ⟨c, m, e, u⟩
    have hm := mem.mpr ⟨m, rfl, e⟩
    rcases K with _ | ⟨t1, K⟩
    · cases hm
    rcases K with _ | ⟨t2, K⟩
    · rfl
    · obtain ⟨c1, o1⟩ := t1
      obtain ⟨c2, o2⟩ := t2
      obtain ⟨a1, a2, a3⟩ := mem.mp (List.mem_cons_self ..)
      obtain ⟨b1, b2, b3⟩ := mem.mp (List.mem_cons_of_mem _ (List.mem_cons_self ..))
      subst a2 b2
      have e1 := u c1 a1 a3
      have e2 := u c2 b1 b3
      rw [e1, e2] at nk
      simp at nk
theorem free_iff (h : DTree L T) (span : ∀ x ∈ L, x ∈ keysT T) (lo : LowOk L T low) {v : Cell} (hv : v ∈ L) : Hangs (but L v) ↔ (if (v, none) ∈ T then 0 else 1) + kids T low v = 1 := by
  obtain ⟨r, T', e, rL⟩ := h.root_ex
  have hr : (r, none) ∈ T := by rw [e]; exact List.mem_cons_self ..
  have n0 := h.num_root hr
  by_cases rv : r = v
  · subst rv
    rw [if_pos hr, Nat.zero_add, kids_one h]
    have all : ∀ c, (c, some r) ∈ T → low c = numT T r := fun c m => (lo.child h m).mpr fun d w _ _ _ _ => by omega
    have childM : ∀ c, (c, some r) ∈ T → c ∈ but L r := fun c m => mem_but.mpr ⟨h.sub c (h.twig m).1, fun z => by
      have := (h.twig m).2.2.2
      rw [z] at this
      omega⟩
    have under : ∀ b ∈ but L r, ∃ c, (c, some r) ∈ T ∧ Anc T c b := fun b hb => by
      obtain ⟨bL, br⟩ := mem_but.mp hb
      rcases h.child_of (h.from_root hr b (span b bL)) with z | z
      · exact absurd z br
      · exact z
    constructor
    · intro hh
      obtain ⟨b, hb⟩ := List.exists_mem_of_ne_nil _ hh.1
      obtain ⟨c, m, _⟩ := under b hb
      refine ⟨c, m, all c m, fun c' m' _ => ?_⟩
      have k := lo.closed h span m (all c m) (hh.2 c (childM c m) c' (childM c' m'))
      cases k with
      | refl => rfl
      | @step y _ k mk =>
        have ev := Option.some.inj (h.uniq mk m')
        subst ev
        have := h.anc_num k
        have := (h.twig m).2.2.2
        omega
    · rintro ⟨c, m, _, u⟩
      refine (hangs_from (childM c m)).mpr fun b hb => ?_
      obtain ⟨c', m', k⟩ := under b hb
      rw [u c' m' (all c' m')] at k
      exact h.down m k
  · have nv : (v, none) ∉ T := fun z => by
      have := h.num_root z
      exact rv (num_inj (by rw [e]; simp [keysT]) (span v hv) (by omega))
    have rM : r ∈ but L v := mem_but.mpr ⟨rL, rv⟩
    have v0 : 0 < numT T v := by
      rcases Nat.eq_zero_or_pos (numT T v) with z | z
      · exact absurd (num_inj (by rw [e]; simp [keysT]) (span v hv) (by omega)) rv
      · exact z
    rw [if_neg nv]
    have e1 : 1 + kids T low v = 1 ↔ kids T low v = 0 := by omega
    rw [e1, kids_zero]
    constructor
    · intro hh c m ec
      have t := h.twig m
      have cM : c ∈ but L v := mem_but.mpr ⟨h.sub c t.1, fun z => by rw [z] at t; omega⟩
      have := h.anc_num (lo.closed h span m ec (hh.2 c cM r rM))
      omega
    · intro no
      refine (hangs_from rM).mpr fun b hb => ?_
      obtain ⟨bL, bv⟩ := mem_but.mp hb
      have bk := span b bL
      by_cases kb : Anc T v b
      · rcases h.child_of kb with z | ⟨c, m, k⟩
        · exact absurd z bv
        · have t := h.twig m
          have cM : c ∈ but L v := mem_but.mpr ⟨h.sub c t.1, fun z => by rw [z] at t; omega⟩
          have ex : ∃ d w, Anc T c d ∧ d ∈ keysT T ∧ w ∈ L ∧ w ∈ besideC d ∧ numT T w < numT T v := Classical.byContradiction fun z => no c m ((lo.child h m).mpr fun d w k hd hw b => Classical.byContradiction fun y => z ⟨d, w, k, hd, hw, b, by omega⟩)
          obtain ⟨d, w, kd, hd, hw, bw, lt⟩ := ex
          have w1 : Reach (but L v) r w := h.out (h.from_root hr w (span w hw)) fun z => by
            have := h.anc_num z
            omega
          have dM : d ∈ but L v := mem_but.mpr ⟨h.sub d hd, fun z => by
            have h1 := h.anc_num kd
            rw [z] at h1
            omega⟩
          have d1 := w1.step (beside_symm bw) dM
          exact (d1.trans ((h.down m kd).symm cM)).trans (h.down m k)
      · exact h.out (h.from_root hr b bk) kb
end
end Sq

set_option Elab.async false
set_option linter.all false
set_option maxRecDepth 100000
set_option maxHeartbeats 4000000
/-! The steps of a search in depth. -/
namespace Sq
/-- what lies ahead: neighbours of cells that were met, each on the way of the ones above it -/
inductive StkOk (L : List Cell) : List TwigC → List TwigC → Prop where
  | start {m : Cell} (h : m ∈ L) : StkOk L [] [(m, none)]
  | go {T S : List TwigC} (t : DTree L T) (ent : ∀ a ∈ S, ∃ y, a.2 = some y ∧ y ∈ keysT T ∧ a.1 ∈ L ∧ a.1 ∈ besideC y) (ch : S.Pairwise fun a b => ∀ y z, a.2 = some y → b.2 = some z → Anc T y z)
      (all : ∀ u ∈ keysT T, ∀ w ∈ L, w ∈ besideC u → w ∉ keysT T → (w, some u) ∈ S) : StkOk L T S
def nextC (L : List Cell) (T : List TwigC) (x : Cell) : List Cell := ((besideC x).filter fun w => decide (w ∈ L)).filter fun w => decide (w ∉ keysT T)
section
variable {L : List Cell} {T S : List TwigC} {x : Cell} {o : Option Cell}
theorem StkOk.skip (h : StkOk L T (S ++ [(x, o)])) (hx : x ∈ keysT T) : StkOk L T S := by
  generalize e : S ++ [(x, o)] = S2 at h
  cases h with
  | start => cases hx
  | go t ent ch all =>
    subst e
    refine .go t (fun a ha => ent a (List.mem_append_left _ ha)) (List.pairwise_append.mp ch).1 fun u hu w hw b nw => ?_
    rcases List.mem_append.mp (all u hu w hw b nw) with m | m
    · exact m
    · have e := (Prod.mk.inj (List.mem_singleton.mp m)).1
      exact absurd (e ▸ hx) nw
theorem StkOk.tree (h : StkOk L T (S ++ [(x, o)])) (nx : x ∉ keysT T) : DTree L (T ++ [(x, o)]) := by
  generalize e : S ++ [(x, o)] = S2 at h
  cases h with
  | @start m hm =>
    have e2 : S = [] ∧ (x, o) = (m, none) := by
      cases S with
      | nil => exact ⟨rfl, (List.cons.inj e).1⟩
      | cons a S =>
        have := congrArg List.length e
        simp at this
    obtain ⟨_, e3⟩ := e2
    obtain ⟨rfl, rfl⟩ := Prod.mk.inj e3
    exact .root hm
  | go t ent ch all =>
    subst e
    obtain ⟨y, ey, hy, hx, b⟩ := ent (x, o) (by simp)
    have ey : o = some y := ey
    subst ey
    refine .snoc t hy hx nx b fun u hu bu => ?_
    rcases List.mem_append.mp (all u hu x hx bu nx) with m | m
    · exact (List.pairwise_append.mp ch).2.2 _ m _ (List.mem_singleton.mpr rfl) u y rfl rfl
    · have e := Option.some.inj (Prod.mk.inj (List.mem_singleton.mp m)).2
      rw [e]
      exact .refl
theorem StkOk.visit (h : StkOk L T (S ++ [(x, o)])) (nx : x ∉ keysT T) : StkOk L (T ++ [(x, o)]) (S ++ (nextC L (T ++ [(x, o)]) x).map fun w => (w, some x)) := by
  have tr := h.tree nx
  have mem : ∀ w, w ∈ nextC L (T ++ [(x, o)]) x ↔ w ∈ besideC x ∧ w ∈ L ∧ w ∉ keysT (T ++ [(x, o)]) := fun w => by
    unfold nextC
    rw [List.mem_filter, List.mem_filter, decide_eq_true_iff, decide_eq_true_iff, and_assoc]
  have xk : x ∈ keysT (T ++ [(x, o)]) := by rw [keys_snoc]; simp
  have fresh : ∀ a ∈ (nextC L (T ++ [(x, o)]) x).map fun w => ((w, some x) : TwigC), ∃ y, a.2 = some y ∧ y ∈ keysT (T ++ [(x, o)]) ∧ a.1 ∈ L ∧ a.1 ∈ besideC y := fun a ha => by
    obtain ⟨w, hw, rfl⟩ := List.mem_map.mp ha
    obtain ⟨b, l, _⟩ := (mem w).mp hw
    exact ⟨x, rfl, xk, l, b⟩
  have self : ((nextC L (T ++ [(x, o)]) x).map fun w => ((w, some x) : TwigC)).Pairwise fun a b => ∀ y z, a.2 = some y → b.2 = some z → Anc (T ++ [(x, o)]) y z := by
    refine List.pairwise_iff_forall_sublist.mpr fun {a b} sub y z e1 e2 => ?_
    have ha := sub.subset (List.mem_cons_self ..)
    have hb := sub.subset (List.mem_cons_of_mem _ (List.mem_cons_self ..))
    obtain ⟨w, _, rfl⟩ := List.mem_map.mp ha
    obtain ⟨w2, _, rfl⟩ := List.mem_map.mp hb
    rw [← Option.some.inj e1, ← Option.some.inj e2]
    exact .refl
  have own : ∀ w ∈ L, w ∈ besideC x → w ∉ keysT (T ++ [(x, o)]) → ((w, some x) : TwigC) ∈ (nextC L (T ++ [(x, o)]) x).map fun w => (w, some x) := fun w hw b nw => List.mem_map.mpr ⟨w, (mem w).mpr ⟨b, hw, nw⟩, rfl⟩
  generalize e : S ++ [(x, o)] = S2 at h
  cases h with
  | @start m hm =>
    have e2 : S = [] := by
      cases S with
      | nil => rfl
      | cons a S =>
        have := congrArg List.length e
        simp at this
    subst e2
    refine .go tr fresh self fun u hu w hw b nw => ?_
    rw [keys_snoc] at hu
    have e3 : u = x := by simpa [keysT] using hu
    subst e3
    exact own w hw b nw
  | go t ent ch all =>
    subst e
    obtain ⟨y, ey, hy, hx, b⟩ := ent (x, o) (by simp)
    have ey : o = some y := ey
    subst ey
    have sub : ∀ z ∈ T, z ∈ T ++ [((x, some y) : TwigC)] := fun z hz => List.mem_append_left _ hz
    refine .go tr (fun a ha => ?_) ?_ fun u hu w hw bw nw => ?_
    · rcases List.mem_append.mp ha with m | m
      · obtain ⟨z, e1, e2, e3, e4⟩ := ent a (List.mem_append_left _ m)
        exact ⟨z, e1, by rw [keys_snoc]; exact List.mem_append_left _ e2, e3, e4⟩
      · exact fresh a m
    · refine List.pairwise_append.mpr ⟨(List.pairwise_append.mp ch).1.imp fun r y z e1 e2 => (r y z e1 e2).mono sub, self, fun a ha b hb u z e1 e2 => ?_⟩
      obtain ⟨w, _, rfl⟩ := List.mem_map.mp hb
      rw [← Option.some.inj e2]
      exact (((List.pairwise_append.mp ch).2.2 a ha _ (List.mem_singleton.mpr rfl) u y e1 rfl).mono sub).step (by simp)
    · rw [keys_snoc] at hu
      rcases List.mem_append.mp hu with m | m
      · have nT : w ∉ keysT T := fun z => nw (by rw [keys_snoc]; exact List.mem_append_left _ z)
        rcases List.mem_append.mp (all u m w hw bw nT) with k | k
        · exact List.mem_append_left _ k
        · have e := (Prod.mk.inj (List.mem_singleton.mp k)).1
          exact absurd (by rw [keys_snoc, e]; simp) nw
      · rw [List.mem_singleton.mp m] at bw ⊢
        exact List.mem_append_right _ (own w hw bw nw)
theorem StkOk.fin (h : StkOk L T []) (hL : Hangs L) : DTree L T ∧ ∀ x ∈ L, x ∈ keysT T := by
  cases h with
  | go t ent ch all =>
    refine ⟨t, fun x hx => ?_⟩
    obtain ⟨r, T', e, rL⟩ := t.root_ex
    have rk : r ∈ keysT T := by rw [e]; simp [keysT]
    have k := hL.2 r rL x hx
    induction k with
    | refl => exact rk
    | @step b c k hb hc ih =>
      have bk := ih (by
        cases k with
        | refl => exact rL
        | step _ _ z => exact z)
      by_cases z : c ∈ keysT T
      · exact z
      · exact absurd (all b bk c hc hb z) (by simp)
theorem StkOk.keys (h : StkOk L T S) : (keysT T).Nodup ∧ ∀ v ∈ keysT T, v ∈ L := by
  cases h with
  | start => exact ⟨List.nodup_nil, fun v hv => nomatch hv⟩
  | go t _ _ _ => exact ⟨t.nodup, t.sub⟩
end
end Sq

set_option Elab.async false
set_option linter.all false
set_option maxRecDepth 100000
set_option maxHeartbeats 4000000
/-! Two squares or more: two free ones. -/
namespace Sq
theorem tree_ex {L : List Cell} (hL : Hangs L) : ∃ T, DTree L T ∧ ∀ x ∈ L, x ∈ keysT T := by
  have key : ∀ n T S, StkOk L T S → S.length + 5 * (L.length - T.length) ≤ n → ∃ T, DTree L T ∧ ∀ x ∈ L, x ∈ keysT T := by
    intro n
    induction n with
    | zero =>
      intro T S h l
      have e : S = [] := List.length_eq_zero_iff.mp (by omega)
      subst e
      exact ⟨T, h.fin hL⟩
    | succ n ih =>
      intro T S h l
      rcases List.eq_nil_or_concat S with e | ⟨S', x, e⟩
      · subst e
        exact ⟨T, h.fin hL⟩
      · rw [List.concat_eq_append] at e
        subst e
        obtain ⟨c, o⟩ := x
        rw [List.length_append] at l
        by_cases m : c ∈ keysT T
        · exact ih T S' (h.skip m) (by simp only [List.length_cons, List.length_nil] at l; omega)
        · have tr := h.tree m
          have l2 : T.length + 1 ≤ L.length := by
            have := len_le tr.nodup tr.sub
            simpa [keysT] using this
          have l4 : (nextC L (T ++ [(c, o)]) c).length ≤ 4 := Nat.le_trans (List.length_filter_le _ _) (List.length_filter_le _ _)
          refine ih _ _ (h.visit m) ?_
          rw [List.length_append, List.length_map, List.length_append]
          simp only [List.length_cons, List.length_nil] at l ⊢
          omega
  obtain ⟨m, hm⟩ := List.exists_mem_of_ne_nil _ hL.1
  exact key _ [] _ (.start hm) (Nat.le_refl _)
section
variable {L : List Cell} {T : List TwigC}
/-- the last one below c has no child -/
theorem DTree.leaf (h : DTree L T) {c : Cell} (hc : c ∈ keysT T) : ∃ x ∈ keysT T, Anc T c x ∧ ∀ z, (z, some x) ∉ T := by
  have key : ∀ n x, (keysT T).length - numT T x ≤ n → x ∈ keysT T → Anc T c x → ∃ x ∈ keysT T, Anc T c x ∧ ∀ z, (z, some x) ∉ T := by
    intro n
    induction n with
    | zero =>
      intro x l hx _
      have := num_lt.mpr hx
      omega
    | succ n ih =>
      intro x l hx k
      by_cases e : ∃ z, (z, some x) ∈ T
      · obtain ⟨z, m⟩ := e
        have t := h.twig m
        exact ih z (by omega) t.1 (k.step m)
      · exact ⟨x, hx, k, fun z m => e ⟨z, m⟩⟩
  exact key _ c (Nat.le_refl _) hc .refl
theorem DTree.leaf_free (h : DTree L T) (span : ∀ x ∈ L, x ∈ keysT T) {r x : Cell} (hr : (r, none) ∈ T) (rL : r ∈ L) (ne : x ≠ r) (no : ∀ z, (z, some x) ∉ T) : Hangs (but L x) := by
  refine (hangs_from (mem_but.mpr ⟨rL, fun e => ne e.symm⟩)).mpr fun b hb => ?_
  obtain ⟨bL, bx⟩ := mem_but.mp hb
  refine h.out (h.from_root hr b (span b bL)) fun k => ?_
  rcases h.child_of k with e | ⟨c, m, _⟩
  · exact bx e
  · exact no c m
theorem two_free (nL : L.Nodup) (hL : Hangs L) (l : 1 < L.length) : ∃ a b, a ∈ L ∧ b ∈ L ∧ a ≠ b ∧ Hangs (but L a) ∧ Hangs (but L b) := by
  obtain ⟨T, h, span⟩ := tree_ex hL
  obtain ⟨r, T', e, rL⟩ := h.root_ex
  have hr : (r, none) ∈ T := by rw [e]; exact List.mem_cons_self ..
  have ex : ∃ u ∈ L, u ≠ r := Classical.byContradiction fun z => by
    have := len_le nL (ys := [r]) fun x hx => List.mem_singleton.mpr (Classical.byContradiction fun e => z ⟨x, hx, e⟩)
    simp at this
    omega
  obtain ⟨u, hu, ur⟩ := ex
  have child : ∀ x ∈ L, x ≠ r → ∃ c, (c, some r) ∈ T ∧ Anc T c x := fun x hx ne => (h.child_of (h.from_root hr x (span x hx))).resolve_left ne
  obtain ⟨c, m, _⟩ := child u hu ur
  have below : ∀ {c x : Cell}, (c, some r) ∈ T → Anc T c x → x ≠ r := fun {c x} m k e => by
    have h1 := h.anc_num k
    have h2 := (h.twig m).2.2.2
    rw [e] at h1
    omega
  obtain ⟨x, hx, kx, nox⟩ := h.leaf (h.twig m).1
  have xr := below m kx
  have fx := h.leaf_free span hr rL xr nox
  by_cases one : ∀ c', (c', some r) ∈ T → c' = c
  · refine ⟨r, x, rL, h.sub x hx, xr.symm, ?_, fx⟩
    have cM : c ∈ but L r := mem_but.mpr ⟨h.sub c (h.twig m).1, below m .refl⟩
    refine (hangs_from cM).mpr fun b hb => ?_
    obtain ⟨bL, br⟩ := mem_but.mp hb
    obtain ⟨c', m', k⟩ := child b bL br
    rw [one c' m'] at k
    exact h.down m k
  · obtain ⟨c', hc'⟩ := Classical.not_forall.mp one
    obtain ⟨m', ne⟩ := Classical.not_imp.mp hc'
    obtain ⟨y, hy, ky, noy⟩ := h.leaf (h.twig m').1
    have yr := below m' ky
    have off : ∀ {a b : Cell}, (a, some r) ∈ T → (b, some r) ∈ T → Anc T a b → a = b := fun {a b} ma mb k => by
      cases k with
      | refl => rfl
      | @step z _ k mk =>
        have ev := Option.some.inj (h.uniq mk mb)
        subst ev
        have h1 := h.anc_num k
        have h2 := (h.twig ma).2.2.2
        omega
    refine ⟨x, y, h.sub x hx, h.sub y hy, fun e => ?_, fx, h.leaf_free span hr rL yr noy⟩
    subst e
    rcases h.chain kx ky with k | k
    · exact ne (off m m' k).symm
    · exact ne (off m' m k)
end
end Sq

set_option Elab.async false
set_option linter.all false
set_option maxRecDepth 100000
set_option maxHeartbeats 4000000
/-! Hanging together without a square, by its neighbours. -/
namespace Sq
open PySem PySem.Spec PyProof.Rows L2
/-- the others hang together just if all neighbours come to one of them -/
theorem rest_hangs {L : List Cell} (hL : Hangs L) {c a : Cell} (hc : c ∈ L) (ha : a ∈ L) (ac : a ∈ besideC c) : Hangs (but L c) ↔ ∀ x ∈ L, x ∈ besideC c → Reach (but L c) a x := by
  have am : a ∈ but L c := mem_but.mpr ⟨ha, beside_ne ac⟩
  constructor
  · intro h x hx hb
    exact h.2 a am x (mem_but.mpr ⟨hx, beside_ne hb⟩)
  · intro h
    refine (hangs_from am).mpr fun b hb => ?_
    obtain ⟨bL, bc⟩ := mem_but.mp hb
    have key : ∀ b, Reach L c b → b = c ∨ Reach (but L c) a b := fun b r => by
      induction r with
      | refl => exact .inl rfl
      | @step b x _ hx xL ih =>
        by_cases e : x = c
        · exact .inl e
        · rcases ih with rfl | ih
          · exact .inr (h x xL hx)
          · exact .inr (ih.step hx (mem_but.mpr ⟨xL, e⟩))
    rcases key b (hL.2 c hc b bL) with e | r
    · exact absurd e bc
    · exact r
/-- a square of more has a neighbour -/
theorem near_ex {L : List Cell} (hL : Hangs L) {c d : Cell} (hc : c ∈ L) (hd : d ∈ L) (ne : d ≠ c) : ∃ a ∈ L, a ∈ besideC c := by
  have r := hL.2 d hd c hc
  cases r with
  | refl => exact absurd rfl ne
  | @step b x h hx _ => exact ⟨b, h.mem hd, beside_symm hx⟩
theorem bes {a b c d : Int} (h : (a = c - 1 ∧ b = d) ∨ (a = c ∧ b = d - 1) ∨ (a = c + 1 ∧ b = d) ∨ (a = c ∧ b = d + 1)) : (a, b) ∈ besideC (c, d) := beside_iff.mpr h
def crossL : List Cell := [(-1, -1), (1, -1), (1, 1), (-1, 1)]
/-- the cell crosswise from c lies in L between two neighbours of c -/
def linkB (L : List Cell) (c d : Cell) : Bool := decide ((c.1 + d.1, c.2 + d.2) ∈ L) && (decide ((c.1 + d.1, c.2) ∈ L) && decide ((c.1, c.2 + d.2) ∈ L))
def linksN (L : List Cell) (c : Cell) : Nat := (crossL.filter (linkB L c)).length
def b2n (b : Bool) : Nat := if b = true then 1 else 0
theorem ring4 : ∀ p0 p1 p2 p3 l0 l1 l2 l3 : Bool, (!l0 || (p0 && p1)) && (!l1 || (p1 && p2)) && (!l2 || (p2 && p3)) && (!l3 || (p3 && p0)) = true → 2 ≤ b2n p0 + b2n p1 + b2n p2 + b2n p3 → b2n p0 + b2n p1 + b2n p2 + b2n p3 ≤ b2n l0 + b2n l1 + b2n l2 + b2n l3 + 1 →
    ((p0 && p1) = true → (l0 || (l1 && l2 && l3)) = true) ∧ ((p1 && p2) = true → (l1 || (l2 && l3 && l0)) = true) ∧ ((p2 && p3) = true → (l2 || (l3 && l0 && l1)) = true) ∧ ((p3 && p0) = true → (l3 || (l0 && l1 && l2)) = true) ∧ ((p0 && p2) = true → ((l0 && l1) || (l2 && l3)) = true) ∧ ((p1 && p3) = true → ((l1 && l2) || (l3 && l0)) = true) := by decide +kernel
theorem filt4 {p : Cell → Bool} {a b c d : Cell} : ([a, b, c, d].filter p).length = b2n (p a) + b2n (p b) + b2n (p c) + b2n (p d) := by
  simp only [List.filter_cons, List.filter_nil, b2n]
  cases p a <;> cases p b <;> cases p c <;> cases p d <;> rfl
theorem links_reach {L : List Cell} {c : Cell} (h2 : 2 ≤ ((besideC c).filter fun d => decide (d ∈ L)).length) (hl : ((besideC c).filter fun d => decide (d ∈ L)).length ≤ linksN L c + 1) :
    ∀ x ∈ L, x ∈ besideC c → ∀ y ∈ L, y ∈ besideC c → Reach (but L c) x y := by
  obtain ⟨c1, c2⟩ := c
  have W : ∀ {x y : Cell}, x ∈ L → x ≠ (c1, c2) → y ∈ L → y ≠ (c1, c2) → ∀ z ∈ L, z ≠ (c1, c2) → z ∈ besideC x → y ∈ besideC z → Reach (but L (c1, c2)) x y := fun {x y} _ _ yL yn z zL zn h k => (Reach.step .refl h (mem_but.mpr ⟨zL, zn⟩)).step k (mem_but.mpr ⟨yL, yn⟩)
  have neq : ∀ {a b : Int}, (a, b) ≠ (c1, c2) ↔ a ≠ c1 ∨ b ≠ c2 := fun {a b} => by rw [Ne, Prod.mk.injEq]; omega
  have L0 : linkB L (c1, c2) (-1, -1) = true → Reach (but L (c1, c2)) (c1 - 1, c2) (c1, c2 - 1) := fun h => by
    simp only [linkB, Bool.and_eq_true, decide_eq_true_eq] at h
    obtain ⟨h1, h2, h3⟩ := h
    refine W h2 (neq.mpr (by omega)) h3 (neq.mpr (by omega)) _ h1 (neq.mpr (by omega)) (bes (by omega)) (bes (by omega))
  have L1 : linkB L (c1, c2) (1, -1) = true → Reach (but L (c1, c2)) (c1, c2 - 1) (c1 + 1, c2) := fun h => by
    simp only [linkB, Bool.and_eq_true, decide_eq_true_eq] at h
    obtain ⟨h1, h2, h3⟩ := h
    refine W h3 (neq.mpr (by omega)) h2 (neq.mpr (by omega)) _ h1 (neq.mpr (by omega)) (bes (by omega)) (bes (by omega))
  have L2 : linkB L (c1, c2) (1, 1) = true → Reach (but L (c1, c2)) (c1 + 1, c2) (c1, c2 + 1) := fun h => by
    simp only [linkB, Bool.and_eq_true, decide_eq_true_eq] at h
    obtain ⟨h1, h2, h3⟩ := h
    refine W h2 (neq.mpr (by omega)) h3 (neq.mpr (by omega)) _ h1 (neq.mpr (by omega)) (bes (by omega)) (bes (by omega))
  have L3 : linkB L (c1, c2) (-1, 1) = true → Reach (but L (c1, c2)) (c1, c2 + 1) (c1 - 1, c2) := fun h => by
    simp only [linkB, Bool.and_eq_true, decide_eq_true_eq] at h
    obtain ⟨h1, h2, h3⟩ := h
    refine W h3 (neq.mpr (by omega)) h2 (neq.mpr (by omega)) _ h1 (neq.mpr (by omega)) (bes (by omega)) (bes (by omega))
  have sy : ∀ {x y : Cell}, x ∈ L → x ∈ besideC (c1, c2) → Reach (but L (c1, c2)) x y → Reach (but L (c1, c2)) y x := fun {x y} xL hb r => r.symm (mem_but.mpr ⟨xL, beside_ne hb⟩)
  unfold besideC at h2 hl
  unfold linksN crossL at hl
  rw [filt4] at h2 hl
  rw [filt4] at hl
  have q := ring4 (decide ((c1 - 1, c2) ∈ L)) (decide ((c1, c2 - 1) ∈ L)) (decide ((c1 + 1, c2) ∈ L)) (decide ((c1, c2 + 1) ∈ L)) (linkB L (c1, c2) (-1, -1)) (linkB L (c1, c2) (1, -1)) (linkB L (c1, c2) (1, 1)) (linkB L (c1, c2) (-1, 1)) ?_ h2 hl
  · obtain ⟨q01, q12, q23, q30, q02, q13⟩ := q
    simp only [Bool.and_eq_true, Bool.or_eq_true, decide_eq_true_eq] at q01 q12 q23 q30 q02 q13
    have b0 : (c1 - 1, c2) ∈ besideC (c1, c2) := by simp [besideC]
    have b1 : (c1, c2 - 1) ∈ besideC (c1, c2) := by simp [besideC]
    have b2 : (c1 + 1, c2) ∈ besideC (c1, c2) := by simp [besideC]
    have b3 : (c1, c2 + 1) ∈ besideC (c1, c2) := by simp [besideC]
    have r01 : (c1 - 1, c2) ∈ L → (c1, c2 - 1) ∈ L → Reach (but L (c1, c2)) (c1 - 1, c2) (c1, c2 - 1) := fun m0 m1 => (q01 ⟨m0, m1⟩).elim L0 fun ⟨⟨h1, h2⟩, h3⟩ => sy m1 b1 (((L1 h1).trans (L2 h2)).trans (L3 h3))
    have r12 : (c1, c2 - 1) ∈ L → (c1 + 1, c2) ∈ L → Reach (but L (c1, c2)) (c1, c2 - 1) (c1 + 1, c2) := fun m0 m1 => (q12 ⟨m0, m1⟩).elim L1 fun ⟨⟨h1, h2⟩, h3⟩ => sy m1 b2 (((L2 h1).trans (L3 h2)).trans (L0 h3))
    have r23 : (c1 + 1, c2) ∈ L → (c1, c2 + 1) ∈ L → Reach (but L (c1, c2)) (c1 + 1, c2) (c1, c2 + 1) := fun m0 m1 => (q23 ⟨m0, m1⟩).elim L2 fun ⟨⟨h1, h2⟩, h3⟩ => sy m1 b3 (((L3 h1).trans (L0 h2)).trans (L1 h3))
    have r30 : (c1, c2 + 1) ∈ L → (c1 - 1, c2) ∈ L → Reach (but L (c1, c2)) (c1, c2 + 1) (c1 - 1, c2) := fun m0 m1 => (q30 ⟨m0, m1⟩).elim L3 fun ⟨⟨h1, h2⟩, h3⟩ => sy m1 b0 (((L0 h1).trans (L1 h2)).trans (L2 h3))
    have r02 : (c1 - 1, c2) ∈ L → (c1 + 1, c2) ∈ L → Reach (but L (c1, c2)) (c1 - 1, c2) (c1 + 1, c2) := fun m0 m1 => (q02 ⟨m0, m1⟩).elim (fun ⟨h1, h2⟩ => (L0 h1).trans (L1 h2)) fun ⟨h1, h2⟩ => sy m1 b2 ((L2 h1).trans (L3 h2))
    have r13 : (c1, c2 - 1) ∈ L → (c1, c2 + 1) ∈ L → Reach (but L (c1, c2)) (c1, c2 - 1) (c1, c2 + 1) := fun m0 m1 => (q13 ⟨m0, m1⟩).elim (fun ⟨h1, h2⟩ => (L1 h1).trans (L2 h2)) fun ⟨h1, h2⟩ => sy m1 b3 ((L3 h1).trans (L0 h2))
    intro x xL xb y yL yb
    simp only [besideC, List.mem_cons, List.not_mem_nil, or_false] at xb yb
    rcases xb with rfl | rfl | rfl | rfl <;> rcases yb with rfl | rfl | rfl | rfl
    · exact .refl
    · exact r01 xL yL
    · exact r02 xL yL
    · exact sy yL b3 (r30 yL xL)
    · exact sy yL b0 (r01 yL xL)
    · exact .refl
    · exact r12 xL yL
    · exact r13 xL yL
    · exact sy yL b0 (r02 yL xL)
    · exact sy yL b1 (r12 yL xL)
    · exact .refl
    · exact r23 xL yL
    · exact r30 xL yL
    · exact sy yL b1 (r13 yL xL)
    · exact sy yL b2 (r23 yL xL)
    · exact .refl
  · have e1 : ∀ x : Int, x + -1 = x - 1 := fun x => rfl
    simp only [linkB, e1]
    cases decide ((c1 - 1, c2) ∈ L) <;> cases decide ((c1, c2 - 1) ∈ L) <;> cases decide ((c1 + 1, c2) ∈ L) <;> cases decide ((c1, c2 + 1) ∈ L) <;> simp
/-- a square with one neighbour alone -/
theorem one_hangs {L : List Cell} (hL : Hangs L) {c a : Cell} (hc : c ∈ L) (h : ((besideC c).filter fun d => decide (d ∈ L)) = [a]) : Hangs (but L c) := by
  have m : ∀ x, x ∈ besideC c → x ∈ L → x = a := fun x hx hxL => List.mem_singleton.mp (h ▸ List.mem_filter.mpr ⟨hx, decide_eq_true hxL⟩)
  have am : a ∈ (besideC c).filter fun d => decide (d ∈ L) := by rw [h]; exact List.mem_singleton.mpr rfl
  obtain ⟨ab, al⟩ := List.mem_filter.mp am
  refine (rest_hangs hL hc (of_decide_eq_true al) ab).mpr fun x hx hb => ?_
  rw [m x hb hx]
  exact .refl
theorem none_hangs {L : List Cell} (hL : Hangs L) {c : Cell} (hc : c ∈ L) (h : ((besideC c).filter fun d => decide (d ∈ L)) = []) : ¬ Hangs (but L c) := fun k => by
  obtain ⟨d, hd⟩ := List.exists_mem_of_ne_nil _ k.1
  obtain ⟨dL, dc⟩ := mem_but.mp hd
  obtain ⟨a, aL, ab⟩ := near_ex hL hc dL dc
  have : a ∈ (besideC c).filter fun d => decide (d ∈ L) := List.mem_filter.mpr ⟨ab, decide_eq_true aL⟩
  rw [h] at this
  cases this
/-- by links enough -/
theorem links_hangs {L : List Cell} (hL : Hangs L) {c : Cell} (hc : c ∈ L) (h2 : 2 ≤ ((besideC c).filter fun d => decide (d ∈ L)).length) (hl : ((besideC c).filter fun d => decide (d ∈ L)).length ≤ linksN L c + 1) : Hangs (but L c) := by
  cases e : (besideC c).filter fun d => decide (d ∈ L) with
  | nil => rw [e] at h2; simp at h2
  | cons a t =>
    have am : a ∈ (besideC c).filter fun d => decide (d ∈ L) := by rw [e]; exact List.mem_cons_self ..
    obtain ⟨ab, al⟩ := List.mem_filter.mp am
    exact (rest_hangs hL hc (of_decide_eq_true al) ab).mpr fun x hx hb => links_reach h2 hl a (of_decide_eq_true al) ab x hx hb
/-- a flood without c that has all there is -/
theorem flood_rest {L F : List Cell} {c a : Cell} (hF : ∀ x ∈ F, x = c ∨ Reach (but L c) a x) (aF : a ∈ F) (ac : a ≠ c) (cl : ∀ x ∈ F, x ≠ c → ∀ y ∈ besideC x, y ∈ L → y ∈ F) : ∀ x, x ≠ c → (x ∈ F ↔ Reach (but L c) a x) := fun x nx => by
  constructor
  · exact fun h => (hF x h).elim (fun e => absurd e nx) id
  · intro r
    clear nx
    induction r with
    | refl => exact aF
    | @step b y hb h hy ih =>
      refine cl b ih ?_ y h (mem_but.mp hy).1
      cases hb with
      | refl => exact ac
      | step _ _ hm => exact (mem_but.mp hm).2
end Sq

set_option Elab.async false
set_option linter.all false
set_option maxRecDepth 100000
set_option maxHeartbeats 4000000
/-! The pairs of a dict whose keys are tuples, gone through. -/
namespace Sq
open PySem PySem.Spec PyProof.Rows L2
section
variable {X : Cx} {pins : List (Addr × Obj)} {σ : L2.St} {H : Hp} {s : Shared} {d : Addr} {o : Obj}
/-- what a locked dict of tuple keys holds, as it stands -/
theorem frz_pairs {kvs : List (List Key × V)} (I : Inv X pins σ H s) (h : H d = some (.frz o (.dT kvs))) :
    (d == sysModules) = false ∧ o.ExactDict ∧ ∃ (es : Array DictEntry) (ep : Nat), o.data = .dict es ep ∧ s.heap.DictRaw d es ep ∧ es.size = kvs.length ∧
      ∀ (i : Nat) (k : List Key) (v : V), kvs[i]? = some (k, v) → ∃ (hi : i < es.size) (q : Addr), es[i].key = .ref q ∧ H q = some (.tup (k.map kV)) ∧ RelV v es[i].val := by
  obtain ⟨hd, z, hs, xs, pr, o', es, ep, ho, hx, hdt, he, _⟩ := I.hok d _ h
  rw [hd] at ho
  cases ho
  have l1 : es.size = xs.length := size_of_entries he
  have l2 : kvs.length = xs.length := Paired.length pr
  refine ⟨hs, hx, es, ep, hdt, ⟨_, hd, hx, hdt⟩, by omega, fun i k v e => ?_⟩
  have hi : i < es.size := by
    have := (List.getElem?_eq_some_iff.mp e).1
    omega
  obtain ⟨b, hb, e1, e2, e3⟩ := L2.paired_get pr e
  have q := entry_at he i
  rw [hb, Array.getElem?_eq_getElem hi] at q
  have q2 := Option.some.inj q
  refine ⟨hi, b.2.1, ?_, e2, ?_⟩
  · rw [q2]
    rfl
  · rw [q2]
    exact e3
end
/-- the pairs, each a new tuple of the key's own tuple and its value -/
def ItPt (d : Addr) (o : Obj) (kvs : List (List Key × V)) : It :=
  ⟨fun i H => H d = some (.frz o (.dT kvs)) ∧ i < kvs.length, fun i H x H' => ∃ (t q : Addr) (k : List Key) (v : V), kvs[i]? = some (k, v) ∧ H q = some (.tup (k.map kV)) ∧ x = .ref t ∧ H t = none ∧ H' = upd H t (.tup [.ref q, v]), fun i H => H d = some (.frz o (.dT kvs)) ∧ kvs.length ≤ i⟩
theorem turn_pairsT {P : Program} {w : World} {K : PySem.W.Frag} {d : Addr} {o : Obj} {es : Array DictEntry} {ep : Nat} {kvs : List (List Key × V)} {elts : List Expr} {kk : Nat} {tpos : Pos} (it : Addr) (hod : o.data = .dict es ep) :
    Turn P w K (.Tuple elts kk tpos) (ItPt d o kvs) [it] it (fun i h => ∃ ok ov, IsItemIter h it d i kvs.length ep ok ov) where
  mem := List.mem_singleton.mpr rfl
  obj := fun i h st b hb => by
    obtain ⟨ok, ov, e⟩ := st
    rw [List.mem_singleton.mp hb]
    exact ⟨_, e, fun v z => nomatch z⟩
  keep := fun i h h' st k => by
    obtain ⟨ok, ov, e⟩ := st
    exact ⟨ok, ov, k it (List.mem_singleton.mpr rfl) _ e⟩
  item := by
    intro X eP ew eK calm i pins s σ H E I free st go
    subst eP ew eK
    obtain ⟨hd, hi⟩ := go
    obtain ⟨hs, hx, es2, ep2, hdt, raw, sz, ent⟩ := frz_pairs I hd
    obtain ⟨rfl, rfl⟩ := dict_ep hod hdt
    obtain ⟨⟨k, v⟩, hkv⟩ : ∃ p, kvs[i]? = some p := ⟨_, List.getElem?_eq_getElem hi⟩
    obtain ⟨hi2, q, ek, hq, rv⟩ := ent i k v hkv
    obtain ⟨ok, ov, here⟩ := st
    rw [← sz] at here
    have lt : it < s.heap.objs.size := Heap.lt_size here
    refine wpAny_pyNext_items_item_raw here raw hi2 fun h1 out tup _ old => ?_
    refine ⟨_, rfl, wpAny_letOwnedTupleGo_items (s := { s with heap := h1 }) out fun h2 next same => ?_⟩
    have tup2 : h2.get? s.heap.objs.size = some { cls := .type "tuple", data := .seq #[es2[i].key, es2[i].val] } := (same.2 _ (Nat.ne_of_gt lt)).trans tup
    have fresh : ObjOk X.prog X.w (upd H s.heap.objs.size (.tup [.ref q, v])) h2 s.heap.objs.size (.tup [.ref q, v]) :=
      ⟨by show 2 ≤ sizeLine; decide, [es2[i].key, es2[i].val], .cons ek (.cons rv .nil), ⟨_, tup2, rfl, _, rfl⟩⟩
    have J : Inv X pins σ (upd H s.heap.objs.size (.tup [.ref q, v])) { s with heap := h2 } :=
      I.turnedNew (t' := s.toks) (ch := [it]) (fun b u hb e => (same.2 b (fun z => hb (List.mem_singleton.mpr z))).trans (old b u (fun z => hb (List.mem_singleton.mpr z)) e)) free (Nat.le_refl _) fresh
    refine ⟨.ref s.heap.objs.size, _, J, rfl, ⟨_, q, k, v, hkv, hq, rfl, I.hok.fresh (Nat.le_refl _), rfl⟩, ⟨es2[i].key, es2[i].val, ?_⟩, fun b hb => ?_⟩
    · rw [← sz]
      exact next
    · rw [List.mem_singleton.mp hb, upd_ne (Nat.ne_of_lt lt)]
      exact (free it (List.mem_singleton.mpr rfl)).1
  done := by
    intro X eP ew eK calm i pins s σ H E I free st stop
    subst eP ew eK
    obtain ⟨hd, hi⟩ := stop
    obtain ⟨f0, f1, f2, f3, f4, f5⟩ := free it (List.mem_singleton.mpr rfl)
    obtain ⟨hs, hx, es2, ep2, hdt, raw, sz, _⟩ := frz_pairs I hd
    obtain ⟨rfl, rfl⟩ := dict_ep hod hdt
    obtain ⟨ok, ov, here⟩ := st
    rw [← sz] at here
    exact wpAny_pyNext_items_end_raw (I.ok.hd calm) here raw (by omega) fun h2 eb => ⟨rfl, I.turned (t' := s.toks) (fun b u hb e => eb b u hb e) f0 f1 f3 f4 f5⟩
  self := fun A i s Q E st h => by
    obtain ⟨_, _, e⟩ := st
    exact PySem.W.kcp_self e h
/-- d.items(), d locked -/
def iPairsT (td : TE) : TI := fun σ H R => td σ H fun x H1 => ∃ d o kvs, x = .ref d ∧ H1 d = some (.frz o (.dT kvs)) ∧ R (ItPt d o kvs) H1
theorem pi_pairsT {X : Cx} {e : Expr} {td : TE} {apos cpos : Pos} {elts : List Expr} {kk : Nat} {tpos : Pos} (he : PE X e td) (hbase : attributeBase e "items" X.env (eval e X.env) = eval e X.env := by rfl) (hline : (apos.endLine == cpos.line) = true := by rfl) :
    PI X (.Tuple elts kk tpos) (.Call (.Attribute e "items" apos) [] [] cpos) (iPairsT td) := by
  refine ⟨fun pins s σ H R I h => ?_⟩
  refine wpAny_Call_method (T := "dict") (id := "dict.items") hbase rfl hline PySem.F.plainAttrs_dict PySem.F.slot_dict_items PySem.F.type_dict_items (thn (he.run pins s σ H _ I h) fun u s1 ⟨x, H1, I1, rx, d, o, kvs, ex, hd, q⟩ => ?_)
  subst ex
  obtain rfl : u = Value.ref d := rx
  obtain ⟨hs, hx, es, ep, hdt, raw, sz, _⟩ := frz_pairs I1 hd
  refine ⟨raw.typeIs, ?_, ?_⟩
  · intro b eb
    obtain ⟨od, a1, a2, a3⟩ := raw
    obtain rfl : d = b := Value.ref.inj eb
    exact ⟨od, a1, a2.2.1⟩
  have I2 : Inv X pins σ H1 { s1 with heap := s1.heap.push { cls := .type "dict_items", data := .fields #[.ref d] } } := I1.kept (t' := s1.toks) fun b u e => Heap.get?_push_of_some _ e
  have raw2 : (s1.heap.push { cls := .type "dict_items", data := .fields #[.ref d] }).DictRaw d es ep := by
    obtain ⟨od, a1, a2, a3⟩ := raw
    exact ⟨od, Heap.get?_push_of_some _ a1, a2, a3⟩
  have fin : wpAny (model X.prog X.w) X.A (pyIter (.ref s1.heap.objs.size)) (PIE X pins σ (.Tuple elts kk tpos) R) X.xe { s1 with heap := s1.heap.push { cls := .type "dict_items", data := .fields #[.ref d] } } := by
    refine wpAny_pyIter_items_raw (d := d) ⟨_, Heap.get?_push_size _ rfl, rfl, rfl⟩ raw2 (pi_one (tk := s1.toks) I2 _ (turn_pairsT _ hdt) ⟨.none, .none, ?_⟩ q)
    rw [← sz]
    exact Heap.get?_push_size _ rfl
  show wpAny _ _ (callWith cpos (.builtin "dict.items") [.ref d] [] []) _ X.xe s1
  exact method_meetsIn PySem.F.slot_dict_items PySem.F.entry_dict_items rfl (PySem.evalArgs_none ⟨rfl, raw.typeIs, PySem.F.args_dict_items_1 _, _, meets_dict_items_raw d hs, ⟨_, _, raw⟩, fin⟩)
end Sq

set_option Elab.async false
set_option linter.all false
set_option maxRecDepth 100000
set_option maxHeartbeats 4000000
/-! enumerate over a dict whose keys are tuples. -/
namespace Sq
open PySem PySem.Spec PyProof.Rows L2
section
variable {prog : Program} {w : World} {A : Around} {E : Value → Shared → Prop} {s : Shared} {it d : Addr} {i ep : Nat} {es : Array DictEntry}
theorem key_next {Q : Value → Shared → Prop} (here : s.heap.IsKeyIter it d i es.size ep) (raw : s.heap.DictRaw d es ep) (lt : i < es.size)
    (q : ∀ h1, h1.IsKeyIter it d (i + 1) es.size ep → Heap.SameBut it s.heap h1 → Q es[i].key { s with heap := h1 }) : wpAny (model prog w) A (Builtin.SmallTypes.nextOf (.ref it)) Q E s := by
  obtain ⟨oi, ei, ci, di⟩ := id here
  obtain ⟨od, e1, x1, d1⟩ := id raw
  have own : Builtin.Dict_items.ownsTuple "dict_keyiterator" = false := by decide
  unfold Builtin.SmallTypes.nextOf
  refine wpAny_bind (wpAny_callSpecial?_slot (name := Str.ofString "__next__") here.typeIs PySem.F.slot_dict_keyiterator_next (wpAny_call_entry PySem.F.slot_dict_keyiterator_next here.typeIs PySem.F.entry_dict_keyiterator_next ?_ (PySem.F.args_dict_keyiterator_next_1 _)))
  refine wpAny_bind (wpAny_pure (wpAny_bind (wpAny_bind ?_)))
  first | refine wpAny_bind (wpAny_typeNameOfWhole_keyiter here.typeIs (wpAny_pure (wpAny_bind (wpAny_fieldsOf ei di ?_)))) | refine wpAny_bind (wpAny_typeNameOf_keyiter here.typeIs (wpAny_pure (wpAny_bind (wpAny_fieldsOf ei di ?_))))
  simp only [own, Bool.false_eq_true, if_false]
  show wpAny (model prog w) _ (if (Value.ref d == Value.none) = true then _ else _) _ _ s
  rw [if_neg (show ¬ ((Value.ref d == Value.none) = true) from Bool.false_ne_true)] <;> refine wpAny_bind (wpAny_pure (wpAny_bind (wpAny_dictEntries e1 d1 ?_)))
  rw [if_neg (by simp)] <;> refine wpAny_bind (wpAny_pure (wpAny_bind (wpAny_dictEpoch e1 d1 ?_)))
  rw [if_neg (by simp)] <;> refine wpAny_pure ?_
  simp only [show ¬ ((i : Int) < 0) from by omega, if_false, Int.toNat_natCast, Array.getElem?_eq_getElem lt] <;> refine wpAny_bind ?_
  first | refine wpAny_bind (wpAny_typeNameOfWhole_keyiter here.typeIs (wpAny_pure (wpAny_bind (wpAny_isOneOf_keyiter here.typeIs ?_)))) | refine wpAny_bind (wpAny_typeNameOf_keyiter here.typeIs (wpAny_pure (wpAny_bind (wpAny_isOneOf_keyiter here.typeIs ?_))))
  show wpAny (model prog w) _ (setField (.ref it) 1 (rawInt ((i : Int) + 1)) >>= _) _ _ s
  refine wpAny_bind (wpAny_setField ei di (by simp) ?_)
  have next : (s.heap.update it (Obj.mapFields (·.setIfInBounds 1 (rawInt ((i : Int) + 1))))).IsKeyIter it d (i + 1) es.size ep := ⟨_, Heap.get?_update_self _ ei (Obj.isFreed_of_fields (Obj.data_mapFields di _)), (Obj.cls_mapFields ..).trans ci, by
    rw [Obj.data_mapFields di] <;> simp [rawInt]⟩
  refine wpAny_bind (wpAny_holding (wpAny_bind (wpAny_isOneOf_keyiter (s := { s with heap := s.heap.update it (Obj.mapFields (·.setIfInBounds 1 (rawInt ((i : Int) + 1)))) }) next.typeIs ?_)))
  show wpAny (model prog w) _ (pure es[i].key) _ _ _
  exact wpAny_pure (wpAny_pure ⟨_, rfl, wpAny_pure (q _ next (Heap.SameBut.update ..))⟩)
theorem key_stop {Q : Value → Shared → Prop} (calm : A.handled = none) (here : s.heap.IsKeyIter it d i es.size ep) (raw : s.heap.DictRaw d es ep) (ge : es.size ≤ i)
    (q : ∀ h1 x, Heap.ExtBut it s.heap h1 → (∃ o, h1.get? x = some o ∧ o.cls = .type "StopIteration") → E (.ref x) { s with heap := h1 }) : wpAny (model prog w) A (Builtin.SmallTypes.nextOf (.ref it)) Q E s := by
  obtain ⟨oi, ei, ci, di⟩ := id here
  obtain ⟨od, e1, x1, d1⟩ := id raw
  have own : Builtin.Dict_items.ownsTuple "dict_keyiterator" = false := by decide
  unfold Builtin.SmallTypes.nextOf
  refine wpAny_bind (wpAny_callSpecial?_slot (name := Str.ofString "__next__") here.typeIs PySem.F.slot_dict_keyiterator_next (wpAny_call_entry PySem.F.slot_dict_keyiterator_next here.typeIs PySem.F.entry_dict_keyiterator_next ?_ (PySem.F.args_dict_keyiterator_next_1 _)))
  refine wpAny_bind (wpAny_pure (wpAny_bind (wpAny_bind ?_)))
  first | refine wpAny_bind (wpAny_typeNameOfWhole_keyiter here.typeIs (wpAny_pure (wpAny_bind (wpAny_fieldsOf ei di ?_)))) | refine wpAny_bind (wpAny_typeNameOf_keyiter here.typeIs (wpAny_pure (wpAny_bind (wpAny_fieldsOf ei di ?_))))
  simp only [own, Bool.false_eq_true, if_false]
  show wpAny (model prog w) _ (if (Value.ref d == Value.none) = true then _ else _) _ _ s
  rw [if_neg (show ¬ ((Value.ref d == Value.none) = true) from Bool.false_ne_true)] <;> refine wpAny_bind (wpAny_pure (wpAny_bind (wpAny_dictEntries e1 d1 ?_)))
  rw [if_neg (by simp)] <;> refine wpAny_bind (wpAny_pure (wpAny_bind (wpAny_dictEpoch e1 d1 ?_)))
  rw [if_neg (by simp)] <;> refine wpAny_pure ?_
  simp only [show ¬ ((i : Int) < 0) from by omega, if_false, Int.toNat_natCast, Array.getElem?_eq_none ge] <;> refine wpAny_bind ?_
  first | refine wpAny_bind (wpAny_typeNameOfWhole_keyiter here.typeIs (wpAny_pure ?_)) | refine wpAny_bind (wpAny_typeNameOf_keyiter here.typeIs (wpAny_pure ?_))
  show wpAny (model prog w) _ (setField (.ref it) 0 .none >>= _) _ _ s
  refine wpAny_bind (wpAny_setField ei di (by simp) ?_)
  show wpAny (model prog w) _ (newExc (.type "StopIteration") [] >>= _) _ _ _
  refine wpAny_bind ?_ <;> simp only [newExc, newTuple]
  refine wpAny_bind (wpAny_newObj_type (wpAny_bind (m := firstArgMember _ _) (wpAny_of_eq (a := Value.none) (by first | rfl | (simp only [firstArgMember]; rfl)) (wpAny_newObj_type ?_ (by size_fits)))) (by size_fits))
  simp only [raiseNew] <;> refine wpAny_bind (wpAny_handled ?_)
  first | rw [show A.in1.handled = none from calm] | rw [calm]
  exact wpAny_bind (wpAny_pure (wpAny_throw (q _ _ (((Heap.SameBut.update ..).extBut.push _).push _) ⟨_, Heap.get?_push_size _ rfl, rfl⟩)))
end
/-- what a dict's key iterator hands out -/
theorem keys_draw {prog : Program} {w : World} {A : Around} {it d : Addr} {ep : Nat} {es : Array DictEntry} (calm : A.handled = none) :
    Draws prog w A it [it, d] es.size (fun i x => ∃ hi : i < es.size, x = es[i].key) (fun i h => h.IsKeyIter it d i es.size ep ∧ h.DictRaw d es ep ∧ it ≠ d) where
  live := fun i h st => by
    obtain ⟨⟨o, e, _⟩, _⟩ := st
    exact ⟨o, e⟩
  frame := fun i h h' st k => ⟨st.1.at fun o e => k it (List.mem_cons_self ..) o e, st.2.1.at fun o e => k d (List.mem_cons_of_mem _ (List.mem_cons_self ..)) o e, st.2.2⟩
  item := fun i s Q E hi st q => by
    obtain ⟨here, raw, ne⟩ := st
    exact key_next here raw hi fun h1 a sb => q _ h1 s.toks ⟨hi, rfl⟩ ⟨a, raw.at fun o e => (sb.2 d (Ne.symm ne)).trans e, ne⟩ sb
  done := fun s Q E st q => by
    obtain ⟨here, raw, ne⟩ := st
    exact key_stop calm here raw (Nat.le_refl _) fun h1 x eb ex => q h1 x eb ex
theorem begins_dict {d : Addr} {es : Array DictEntry} {ep : Nat} (hd : (d == sysModules) = false) : Begins (.ref d) { cls := .type "dict_keyiterator", data := .fields #[.ref d, .int 0 0, .int es.size 0, .int ep 0] } fun h => h.DictRaw d es ep where
  iter := fun prog w A E s Q raw q => wpAny_pyIter_dict_raw hd raw q
  keeps := fun h h' x k => x.at fun o e => k d o e
  free := rfl
set_option maxHeartbeats 8000000 in
theorem enum_new {v : Value} {o : Obj} {Hh : Heap → Prop} (B : Begins v o Hh) :
    Meets (Builtin.«enumerate.__new__» ⟨[.type "enumerate", v], []⟩) (fun _ R s => Hh s.heap ∧ R (.ok (.ret (.ref (s.heap.push o).objs.size))) { s with heap := (s.heap.push o).push { cls := .type "enumerate", data := .fields #[.none, .bool false, .ref s.heap.objs.size, rawInt 0, .none, .none] } }) :=
  .of_wp fun prog w A R s hh => by
    obtain ⟨hp, g, d, tk, os⟩ := s
    obtain ⟨h1, q0⟩ := hh
    have subE := sub_enumerate
    have go : ∀ {A' : Around} {E : Value → Shared → Prop} {Q : Value → Shared → Prop}, Q (.ref hp.objs.size) ⟨hp.push o, g, d, tk, os⟩ → wpAny (model prog w) A' (pyIter v) Q E ⟨hp, g, d, tk, os⟩ := fun {A' E Q} q => B.iter prog w A' E ⟨hp, g, d, tk, os⟩ Q h1 q
    wp_walk using go
    refine wpAny_stack_any fun st => wpAny_pure ?_
    split
    · rename_i c _ _ _ _ _
      cases (c == Value.type "enumerate") <;> (wp_walk using go; exact ⟨_, rfl, q0⟩)
    · wp_walk using go; exact ⟨_, rfl, q0⟩
theorem call_enumD {prog : Program} {w : World} {A : Around} {E : Value → Shared → Prop} {s : Shared} {v : Value} {o : Obj} {Hh : Heap → Prop} {Q : Value → Shared → Prop} (B : Begins v o Hh) (h1 : Hh s.heap)
    (q : ∀ h', IsEnum h' (s.heap.objs.size + 1) s.heap.objs.size 0 .none → h'.get? s.heap.objs.size = some o → (∀ b u, s.heap.get? b = some u → h'.get? b = some u) → Q (.ref (s.heap.objs.size + 1)) { s with heap := h' }) :
    wpAny (model prog w) A (call (.type "enumerate") [v]) Q E s := by
  refine callType_new PySem.F.called_enumerate (by decide) (PySem.F.typeCall_enumerate_1 _) (PySem.F.newCall_enumerate_1 _) (fun obj => PySem.F.args_object_init_2 obj _) PySem.F.entry_enumerate_new (enum_new B) ⟨h1, ?_⟩
  have sz : (s.heap.push o).objs.size = s.heap.objs.size + 1 := Heap.size_push ..
  show _ ∧ _
  rw [sz]
  have he : IsEnum ((s.heap.push o).push { cls := .type "enumerate", data := .fields #[.none, .bool false, .ref s.heap.objs.size, rawInt 0, .none, .none] }) (s.heap.objs.size + 1) s.heap.objs.size 0 .none := by
    have z := Heap.get?_push_size (s.heap.push o) (o := { cls := .type "enumerate", data := .fields #[.none, .bool false, .ref s.heap.objs.size, rawInt 0, .none, .none] }) rfl
    rwa [sz] at z
  exact ⟨⟨_, he, rfl⟩, q _ he (Heap.get?_push_of_some _ (Heap.get?_push_size _ B.free)) fun b u x => Heap.get?_push_of_some _ (Heap.get?_push_of_some _ x)⟩
/-- the keys of the locked dict at d with their numbers, in new pairs -/
def ItEt (d : Addr) (o : Obj) (kvs : List (List Key × V)) : It :=
  ⟨fun i H => H d = some (.frz o (.dT kvs)) ∧ i < kvs.length, fun i H x H' => ∃ (t q : Addr) (k : List Key) (v : V), kvs[i]? = some (k, v) ∧ H q = some (.tup (k.map kV)) ∧ x = .ref t ∧ H t = none ∧ H' = upd H t (.tup [.int (i : Nat), .ref q]), fun i H => H d = some (.frz o (.dT kvs)) ∧ kvs.length ≤ i⟩
theorem turn_enumT {P : Program} {w : World} {K : PySem.W.Frag} {d e it : Addr} {o : Obj} {es : Array DictEntry} {ep : Nat} {kvs : List (List Key × V)} {elts : List Expr} {kk : Nat} {tpos : Pos} (hod : o.data = .dict es ep) :
    Turn P w K (.Tuple elts kk tpos) (ItEt d o kvs) [e, it] e (fun i h => (∃ old, IsEnum h e it ((i : Nat) : Int) old) ∧ h.IsKeyIter it d i es.size ep ∧ e ≠ it ∧ i ≤ es.size) where
  mem := List.mem_cons_self ..
  obj := fun i h st b hb => by
    obtain ⟨⟨old, he⟩, ⟨oi, ei, ci, di⟩, _⟩ := st
    rcases List.mem_cons.mp hb with z | z
    · exact z ▸ ⟨_, he, fun v q => nomatch q⟩
    · refine List.mem_singleton.mp z ▸ ⟨oi, ei, fun v q => ?_⟩
      rw [di] at q
      cases q
  keep := fun i h h' st k => by
    obtain ⟨⟨old, he⟩, hi, ne, le⟩ := st
    exact ⟨⟨old, k e (List.mem_cons_self ..) _ he⟩, hi.at fun u q => k it (List.mem_cons_of_mem _ (List.mem_cons_self ..)) u q, ne, le⟩
  item := by
    intro X eP ew eK calm i pins s σ H E I free st go
    subst eP ew eK
    obtain ⟨hd, hi⟩ := go
    obtain ⟨hs, hx, es2, ep2, hdt, raw, sz, ent⟩ := frz_pairs I hd
    obtain ⟨rfl, rfl⟩ := dict_ep hod hdt
    obtain ⟨⟨k, v⟩, hkv⟩ : ∃ p, kvs[i]? = some p := ⟨_, List.getElem?_eq_getElem hi⟩
    obtain ⟨hi2, q, ek, hq, rv⟩ := ent i k v hkv
    obtain ⟨⟨old, he⟩, here, ne, _⟩ := st
    have out : ∀ b ∈ [e, it], b ≠ d := fun b hb z => by
      have n := (free b hb).1
      rw [z, hd] at n
      cases n
    have ned : e ≠ d := out e (List.mem_cons_self ..)
    have nid : it ≠ d := out it (List.mem_cons_of_mem _ (List.mem_cons_self ..))
    have le : e < s.heap.objs.size := Heap.lt_size he
    have li : it < s.heap.objs.size := by
      obtain ⟨_, z, _⟩ := here
      exact Heap.lt_size z
    refine wpAny_pyNext_enum_itemC (keys_draw (A := X.A.in1) (I.ok.hd calm)) he ⟨here, raw, nid⟩ hi2 ne (by simp [ne, ned]) fun x h1 tk hP eo st1 tup _ old1 => ?_
    obtain ⟨_, rfl⟩ := hP
    refine ⟨_, rfl, wpAny_letOwnedTupleGo_enum (s := { s with heap := h1, toks := tk + 1 }) eo fun h2 en sb => ?_⟩
    have tup2 : h2.get? s.heap.objs.size = some { cls := .type "tuple", data := .seq #[.int (i : Nat) tk, es2[i].key] } := (sb.2 _ (Nat.ne_of_gt le)).trans tup
    have fresh : ObjOk X.prog X.w (upd H s.heap.objs.size (.tup [.int (i : Nat), .ref q])) h2 s.heap.objs.size (.tup [.int (i : Nat), .ref q]) :=
      ⟨by show 2 ≤ sizeLine; decide, [.int (i : Nat) tk, es2[i].key], .cons ⟨_, rfl⟩ (.cons ek .nil), ⟨_, tup2, rfl, _, rfl⟩⟩
    have nb : ∀ {b : Addr}, b ∉ [e, it] → b ≠ e ∧ b ≠ it := fun {b} h => ⟨fun z => h (z ▸ List.mem_cons_self ..), fun z => h (z ▸ List.mem_cons_of_mem _ (List.mem_cons_self ..))⟩
    have J : Inv X pins σ (upd H s.heap.objs.size (.tup [.int (i : Nat), .ref q])) { s with heap := h2, toks := tk + 1 } :=
      I.turnedNew (t' := tk + 1) (ch := [e, it]) (fun b u hb x => (sb.2 b (nb hb).1).trans (old1 b u (nb hb).1 (nb hb).2 x)) free (Nat.le_refl _) fresh
    have e1 : ((i + 1 : Nat) : Int) = (i : Int) + 1 := by omega
    refine ⟨.ref s.heap.objs.size, _, J, rfl, ⟨_, q, k, v, hkv, hq, rfl, I.hok.fresh (Nat.le_refl _), rfl⟩, ⟨⟨es2[i].key, ?_⟩, st1.1.at fun u z => (sb.2 it (Ne.symm ne)).trans z, ne, hi2⟩, fun b hb => ?_⟩
    · rw [e1]
      exact en
    · have lb : b < s.heap.objs.size := by
        rcases List.mem_cons.mp hb with z | z
        · rw [z]; exact le
        · rw [List.mem_singleton.mp z]; exact li
      rw [upd_ne (Nat.ne_of_lt lb)]
      exact (free b hb).1
  done := by
    intro X eP ew eK calm i pins s σ H E I free st stop
    subst eP ew eK
    obtain ⟨hd, hi⟩ := stop
    obtain ⟨hs, hx, es2, ep2, hdt, raw, sz, _⟩ := frz_pairs I hd
    obtain ⟨rfl, rfl⟩ := dict_ep hod hdt
    obtain ⟨⟨old, he⟩, here, ne, le⟩ := st
    obtain ⟨f0, f1, f2, f3, f4, f5⟩ := free it (List.mem_cons_of_mem _ (List.mem_cons_self ..))
    have nid : it ≠ d := fun z => by
      rw [z, hd] at f0
      cases f0
    have ei : i = es2.size := by omega
    subst ei
    exact wpAny_pyNext_enum_endD (keys_draw (A := X.A.in1) (I.ok.hd calm)) he ⟨here, raw, nid⟩ fun h2 eb => ⟨rfl, I.turned (t' := s.toks) (fun b u hb z => eb b u hb z) f0 f1 f3 f4 f5⟩
  self := fun A i s Q E st h => by
    obtain ⟨⟨_, he⟩, _⟩ := st
    exact wpAny_pyIter_enum he h
/-- enumerate(d), d locked -/
def iEnumT (ta : TA) : TI := fun σ H R => ta σ H fun vs H1 => ∃ d o kvs, vs = [.ref d] ∧ H1 d = some (.frz o (.dT kvs)) ∧ R (ItEt d o kvs) H1
theorem pi_enumT {X : Cx} {e : Expr} {ta : TA} {p pos tpos : Pos} {elts : List Expr} {kk : Nat} (hg : Gl X "enumerate") (hm : X.mg "enumerate" = none) (ha : PA X [e] ta) (hs : starEach [e] X.env = [(false, eval e X.env)] := by rfl) :
    PI X (.Tuple elts kk tpos) (.Call (.Name "enumerate" p) [e] [] pos) (iEnumT ta) := by
  refine ⟨fun pins s σ H R I asked => ?_⟩
  refine Call_ (ld_blt I hg hm boot_enumerate (PyProof.Rows.callWith_type1 (thn (ha.run pos pins s σ H _ I asked) fun us s1 ⟨vs, H1, I1, r1, d, o, kvs, ex, hd, q⟩ => ?_) hs rfl))
  subst ex
  cases r1 with
  | cons r rr =>
    cases rr
    cases r
    obtain ⟨hsys, hx, es, ep, hdt, raw, sz, _⟩ := frz_pairs I1 hd
    refine call_enumD (begins_dict hsys) raw fun h' he hit old => wpAny_pyIter_enum he ?_
    have I2 : Inv X pins σ H1 { s1 with heap := h' } := I1.kept (t' := s1.toks) old
    refine ⟨s1.heap.objs.size + 1, [s1.heap.objs.size + 1, s1.heap.objs.size], _, _, H1, rfl, I2, turn_enumT hdt, ⟨⟨.none, he⟩, ⟨_, hit, rfl, rfl⟩, Nat.succ_ne_self _, Nat.zero_le _⟩, fun b hb => ?_, q⟩
    have le : s1.heap.objs.size ≤ b := by
      rcases List.mem_cons.mp hb with z | z
      · rw [z]; exact Nat.le_add_right _ _
      · rw [List.mem_singleton.mp z]; exact Nat.le_refl _
    exact I1.fpOk le (I1.hok.fresh le)
end Sq

set_option Elab.async false
set_option linter.all false
set_option maxRecDepth 100000
set_option maxHeartbeats 4000000
/-! min(xs, default=d), xs a list of ints. -/
namespace Sq
open PySem PySem.Spec PyProof.Rows L2
theorem args_minD (a v : Value) : argsOk "min" ⟨[a], [(Str.ofString "default", v)]⟩ := by unfold argsOk; kernel_rfl
section
variable {prog : Program} {w : World} {A : Around} {R : Result → Shared → Prop} {it : Addr} {fp wr : List Addr} {n : Nat} {P : Nat → Value → Prop} {St : Nat → Heap → Prop} {d : Value}
theorem min_turns (W : Walks prog w A.in1 it fp wr n P St) (bt : Nat → Nat → Bool) (cmp : CmpOf prog w A.in1 .Lt P bt) (b0 : Addr) (out : b0 ∉ fp) :
    ∀ (k j : Nat) (s : Shared) (vb : Value) (c : Nat), n - (j + 1) = k → j + 1 ≤ n → St (j + 1) s.heap → P (argBest bt j) vb → s.heap.get? b0 = some { cls := .type "list", dict := none, data := .seq #[vb, vb] c, slots := #[] } →
      (∀ v h1 tk, P (argBest bt (n - 1)) v → (∀ b o, b ∉ wr → b ≠ b0 → s.heap.get? b = some o → h1.get? b = some o) → R (.ok (.ret v)) { s with heap := h1, toks := tk }) → codeAny (model prog w) A (.builtin "min.loop" ⟨[.ref it, .none, .ref b0], [(Str.ofString "default", d)]⟩) R s := by
  have outW : b0 ∉ wr := fun h => out (W.sub _ h)
  have nm : (toString "min" ++ toString ".loop" : String) = "min.loop" := by decide
  intro k
  induction k with
  | zero =>
    intro j s vb c ek le st pb hb q
    have en : j + 1 = n := by omega
    refine codeAny_builtin PySem.F.entry_min_loop ?_
    rw [Around.under_plainId PySem.F.plain_min_loop _] <;> show wpAny (model prog w) A.in1 (seqItems? (.ref b0) >>= _) _ _ s
    refine wpAny_bind (wpAny_seqItems hb rfl ?_) <;> show wpAny (model prog w) A.in1 (tryCatch (pyNext (.ref it)) _ >>= _) _ _ s
    refine wpAny_bind (wpAny_tryCatch (W.done s _ _ (en ▸ st) fun h1 tk keep => ?_))
    have hb1 := keep b0 _ outW hb
    show wpAny (model prog w) A.in1 (updateSeq b0 (fun _ => #[]) >>= _) _ _ _
    refine wpAny_bind (wpAny_updateSeq hb1 rfl (wpAny_bind (wpAny_letGo (wpAny_pure ?_))))
    exact q vb _ tk (by rw [← en]; exact pb) fun b o hw hne e => (Heap.get?_update_other _ _ (Ne.symm hne)).trans (keep b o hw e)
  | succ k ih =>
    intro j s vb c ek le st pb hb q
    have lt : j + 1 < n := by omega
    refine codeAny_builtin PySem.F.entry_min_loop ?_
    rw [Around.under_plainId PySem.F.plain_min_loop _] <;> show wpAny (model prog w) A.in1 (seqItems? (.ref b0) >>= _) _ _ s
    refine wpAny_bind (wpAny_seqItems hb rfl ?_) <;> show wpAny (model prog w) A.in1 (tryCatch (pyNext (.ref it)) _ >>= _) _ _ s
    refine wpAny_bind (wpAny_tryCatch (W.item (j + 1) s _ _ lt st fun v h1 tk pv st1 keep => ?_))
    have hb1 := keep b0 _ outW hb
    show wpAny (model prog w) A.in1 (tryCatch (holding [v, v] (richCompare .Lt v vb >>= _)) _ >>= _) _ _ _
    refine wpAny_bind (wpAny_tryCatch (wpAny_holding (wpAny_bind (cmp (j + 1) (argBest bt j) v vb _ _ _ pv pb (wpAny_bind (wpAny_holding (wpAny_truthy_bool (wpAny_bind (wpAny_letGo (wpAny_pure ?_))))))))))
    cases eb : bt (j + 1) (argBest bt j) with
    | true =>
      rw [if_pos rfl]
      refine wpAny_bind (wpAny_updateSeq hb1 rfl (wpAny_bind (wpAny_letGo ?_)))
      rw [nm] <;> refine wpAny_pure ⟨plainId_quiet PySem.F.plain_min_loop _, ih (j + 1) _ v _ (by omega) lt (W.frame _ _ _ st1 fun b hbf o e => (Heap.get?_update_other _ _ (fun h : b0 = b => out (by rw [h]; exact hbf))).trans e) (by simp only [argBest, eb, if_true]; exact pv) (Heap.get?_update_self _ hb1 rfl) fun v2 h2 tk2 p2 keep2 => ?_⟩
      exact q v2 h2 tk2 p2 fun b o hw hne e => keep2 b o hw hne ((Heap.get?_update_other _ _ (Ne.symm hne)).trans (keep b o hw e))
    | false =>
      rw [if_neg Bool.false_ne_true]
      refine wpAny_bind (wpAny_letGo ?_)
      rw [nm] <;> refine wpAny_pure ⟨plainId_quiet PySem.F.plain_min_loop _, ih (j + 1) _ vb c (by omega) lt st1 (by simp only [argBest, eb, Bool.false_eq_true, if_false]; exact pb) hb1 fun v2 h2 tk2 p2 keep2 => ?_⟩
      exact q v2 h2 tk2 p2 fun b o hw hne e => keep2 b o hw hne (keep b o hw e)
theorem min_first (W : Walks prog w A.in1 it fp wr n P St) (bt : Nat → Nat → Bool) (cmp : CmpOf prog w A.in1 .Lt P bt) (b0 : Addr) (out : b0 ∉ fp) {s : Shared} {c : Nat} (st : St 0 s.heap) (hb : s.heap.get? b0 = some { cls := .type "list", dict := none, data := .seq #[] c, slots := #[] })
    (q : ∀ v h1 tk, (n = 0 → v = d) → (0 < n → P (argBest bt (n - 1)) v) → (∀ b o, b ∉ wr → b ≠ b0 → s.heap.get? b = some o → h1.get? b = some o) → R (.ok (.ret v)) { s with heap := h1, toks := tk }) :
    codeAny (model prog w) A (.builtin "min.loop" ⟨[.ref it, .none, .ref b0], [(Str.ofString "default", d)]⟩) R s := by
  have outW : b0 ∉ wr := fun h => out (W.sub _ h)
  have nm : (toString "min" ++ toString ".loop" : String) = "min.loop" := by decide
  refine codeAny_builtin PySem.F.entry_min_loop ?_
  rw [Around.under_plainId PySem.F.plain_min_loop _] <;> show wpAny (model prog w) A.in1 (seqItems? (.ref b0) >>= _) _ _ s
  refine wpAny_bind (wpAny_seqItems hb rfl ?_) <;> show wpAny (model prog w) A.in1 (tryCatch (pyNext (.ref it)) _ >>= _) _ _ s
  rcases Nat.eq_zero_or_pos n with z | pos
  · refine wpAny_bind (wpAny_tryCatch (W.done s _ _ (by rw [z]; exact st) fun h1 tk keep => ?_))
    show wpAny (model prog w) A.in1 (rule _ >>= _) _ _ _
    refine wpAny_bind (wpAny_rule (wpAny_pure ?_))
    exact q d _ tk (fun _ => rfl) (fun p => by omega) fun b o hw _ e => keep b o hw e
  · refine wpAny_bind (wpAny_tryCatch (W.item 0 s _ _ pos st fun v h1 tk pv st1 keep => ?_))
    have hb1 := keep b0 _ outW hb
    show wpAny (model prog w) A.in1 (updateSeq b0 (fun _ => #[v, v]) >>= _) _ _ _
    refine wpAny_bind (wpAny_updateSeq hb1 rfl ?_)
    rw [nm] <;> refine wpAny_pure ⟨plainId_quiet PySem.F.plain_min_loop _, min_turns W bt cmp b0 out _ 0 _ v _ rfl pos (W.frame _ _ _ st1 fun b hbf o e => (Heap.get?_update_other _ _ (fun h : b0 = b => out (by rw [h]; exact hbf))).trans e) pv (Heap.get?_update_self _ hb1 rfl) fun v2 h2 tk2 p2 keep2 => ?_⟩
    exact q v2 h2 tk2 (fun z => by omega) (fun _ => p2) fun b o hw hne e => keep2 b o hw hne ((Heap.get?_update_other _ _ (Ne.symm hne)).trans (keep b o hw e))
end
section
variable {prog : Program} {w : World} {A : Around} {E : Value → Shared → Prop} {s : Shared}
theorem call_minD {l : Addr} {xs : Array (Int × Tok)} {d : Value} {Q : Value → Shared → Prop} (calm : A.handled = none) (hl : s.heap.IsList l (intItems xs))
    (q : ∀ v h1 tk, (xs.size = 0 → v = d) → (0 < xs.size → (intItems xs)[argBest (fun i j => decide (numAt xs i < numAt xs j)) (xs.size - 1)]? = some v) → (∀ b o, s.heap.get? b = some o → h1.get? b = some o) → Q v { s with heap := h1, toks := tk }) :
    wpAny (model prog w) A (call (.builtin "min") [.ref l] [(Str.ofString "default", d)]) Q E s := by
  have nm : (toString "min" ++ toString ".loop" : String) = "min.loop" := by decide
  have core : wpAny (model prog w) A.in1 (Builtin.«min» ⟨[.ref l], [(Str.ofString "default", d)]⟩) (fun fin s1 => match fin with
      | .done f => (match (Except.ok f : Result) with
        | .ok (.ret v) => Q v s1
        | .ok _ => False
        | .error e => E e s1)
      | .again c2 => c2.quiet = true ∧ codeAny (model prog w) A c2 (fun r s2 => match r with
        | .ok (.ret v) => Q v s2
        | .ok _ => False
        | .error e => E e s2) s1) E s := by
    show wpAny (model prog w) A.in1 (Builtin.Builtins.bindParams "min" ["key", "default"] 0 ⟨[], [(Str.ofString "default", d)]⟩ >>= _) _ _ s
    refine wpAny_bind (wpAny_of_eq (show Builtin.Builtins.bindParams "min" ["key", "default"] 0 ⟨[], [(Str.ofString "default", d)]⟩ = pure [none, some d] from rfl) ?_)
    refine wpAny_bind (wpAny_pure (wpAny_bind (iter_intList hl fun s2 e st hfp hlI => ?_)))
    subst e
    have W := Walks.list (prog := prog) (w := w) (A := A.in1) calm s.heap.objs.size l hlI (intItems xs)
    refine wpAny_bind (wpAny_newObj_type ?_)
    generalize hz : ({ s with heap := s.heap.push { cls := .type "list_iterator", data := .fields #[.ref l, .int 0 0] } } : Shared) = s2 at st hfp ⊢
    have out : s2.heap.objs.size ∉ [s.heap.objs.size, l] := fun hm => Nat.lt_irrefl _ (hfp _ hm)
    rw [nm]
    refine wpAny_pure ⟨plainId_quiet PySem.F.plain_min_loop _, min_first W _ (CmpOf.ints_lt (numAt xs) (fun _ _ => intItems_at)) s2.heap.objs.size out (W.frame _ _ _ st fun b _ o e => Heap.get?_push_of_some _ e) (Heap.get?_push_size _ rfl) fun v h1 tk z p keep => ?_⟩
    subst hz
    refine q v h1 tk (fun e => z (by simpa [intItems] using e)) (fun e => by simpa [intItems] using p (by simpa [intItems] using e)) (old_kept fun b o hb e => keep b o hb (Nat.ne_of_lt (Heap.lt_size e)) (Heap.get?_push_of_some _ e))
  refine wpAny_call (codeAny_call_builtin PySem.F.plain_min PySem.F.entry_min ?_)
  have ok := args_minD (.ref l) d
  simp only [checkBuiltinCall, PySem.F.kind_min]
  cases sg : Manifest.signature? "min" with
  | none => exact wpAny_pure core
  | some sig =>
    have ok2 : Bind.checkArgs "min" sig ⟨[.ref l], [(Str.ofString "default", d)]⟩ = pure () := by simpa only [argsOk, sg] using ok
    simp only [ok2]
    exact wpAny_pure core
end
/-- min(xs, default=d) of ints -/
def rMinD (K : PySem.W.Frag) : List V → List V → Hp → VK → Prop := fun vs zs H Q => ∃ (a : Addr) (ns : List Int) (d : Int), vs = [V.ref a] ∧ zs = [V.int d] ∧ SqL K H a (ns.map V.int) ∧ ∀ m, (ns = [] → m = d) → (ns ≠ [] → m ∈ ns ∧ ∀ y ∈ ns, m ≤ y) → Q (.int m) H
theorem cr_minD {X : Cx} (calm : X.calm = true) : CallRK X (.builtin "min") [Str.ofString "default"] (rMinD X.K) := by
  intro pins s σ H vs zs us ws Q I r rz h
  obtain ⟨a, ns, d, rfl, rfl, hs, q⟩ := h
  obtain rfl := Vals.ref1 r
  obtain ⟨w1, rfl, e1⟩ := vals1 rz
  obtain ⟨td, rfl⟩ : ∃ t, w1 = Value.int d t := e1
  obtain ⟨its, rv, hl, _⟩ := I.list hs
  have hi := rv.ints
  have hl := hl.isList
  obtain ⟨xs, e⟩ := hi.allInts.items
  have hn : numsOf (intItems xs).toList = ns := by rw [← e]; exact hi.numsOf
  rw [nums_intItems] at hn
  subst hn
  rw [e] at hl
  have sz : ((xs.toList.map (·.1)) : List Int).length = xs.size := by rw [List.length_map, Array.length_toList]
  refine call_minD (I.ok.hd calm) hl fun v h1 tk z p keep => ?_
  rcases Nat.eq_zero_or_pos xs.size with zero | pos
  · have ev := z zero
    subst ev
    have en : (xs.toList.map (·.1) : List Int) = [] := List.length_eq_zero_iff.mp (by omega)
    exact ⟨.int d, H, I.kept keep, ⟨td, rfl⟩, q d (fun _ => rfl) fun ne => absurd en ne⟩
  · obtain ⟨t, rfl⟩ := intItems_at (p pos)
    obtain ⟨b1, b2⟩ := argBest_lt (numAt xs) (xs.size - 1)
    refine ⟨.int _, H, I.kept keep, ⟨t, rfl⟩, q _ (fun en => ?_) fun _ => ⟨?_, fun y hy => ?_⟩⟩
    · rw [en] at sz
      exact absurd sz (by show ¬ 0 = xs.size; omega)
    · rw [numAt_eq]
      exact PySem.getD_mem (by rw [sz]; omega)
    · obtain ⟨j, hj, rfl⟩ := mem_getD hy
      rw [sz] at hj
      rw [← numAt_eq]
      exact b2 j (by omega)
end Sq

set_option Elab.async false
set_option linter.all false
set_option maxRecDepth 100000
set_option maxHeartbeats 4000000
/-! name = {k: v for ..}, the name a local. -/
namespace Sq
open PySem PySem.Spec PyProof.Rows L2
section
variable {X : Cx}
theorem ps_setDct {y : Str} {py spos : Pos} {ix : Nat} {o0 : HO} {kx vx tg it0 : Expr} {ifs : List Expr} {sc : Scope} {own : List (Str × Nat)} {pos : Pos} {wi : TI} {g : TG} {tt : TT} {tk tv : TE} (ho : o0 = .dK [] ∨ o0 = .dT []) (calm : X.calm = true) (hu : X.A.units + 1 < cLine) (nd : X.N.Nodup) (hi : PI X tg it0 wi)
    (hy : X.N[ix]? = some y) (hyl : X.env.scope.names.lookup y = some .local) (hsw : swapsWith (.DictComp kx vx [⟨tg, it0, ifs, 0⟩] sc pos) (some (.Name y py)) spos.line X.env = pure true) (bo : BlkOk X.N X.env.scope sc own)
    (hg : ∀ (s : Shared) (H : Hp) (C : Addr) (cl : List (Str × Addr)) (fp : List Addr), PG (X.blk s H sc (compEnvC sc cl C X.env) fp) tg g)
    (ht : ∀ (s : Shared) (H : Hp) (C : Addr) (cl : List (Str × Addr)) (fp : List Addr), PTs (X.blk s H sc (compEnvC sc cl C X.env) fp) ifs tt)
    (hk : ∀ (s : Shared) (H : Hp) (C : Addr) (cl : List (Str × Addr)) (fp : List Addr), PE (X.blk s H sc (compEnvC sc cl C X.env) fp) kx tk)
    (hv : ∀ (s : Shared) (H : Hp) (C : Addr) (cl : List (Str × Addr)) (fp : List Addr), PE (X.blk s H sc (compEnvC sc cl C X.env) fp) vx tv)
    (hf : ∀ x, foldedSetIterable it0 X.env x = pure x := by intro _; rfl) : PS X (.Assign [.Name y py] (.DictComp kx vx [⟨tg, it0, ifs, 0⟩] sc pos) spos) (tAsg (tDct o0 wi g tt tk tv (own.map (·.2))) (gName ix)) := by
  refine ⟨fun pins z0 σ H Dd I0 asked => ?_⟩
  have asked : tDct o0 wi g tt tk tv (own.map (·.2)) σ H (fun x H1 => gName ix x σ H1 Dd.nx) := asked
  rw [exec_Assign_Name_used _ _ _ _ hsw]
  refine wpAny_bind (wpAny_standAt (wpAny_bind ?_))
  show wpAny (model X.prog X.w) X.A (do let _ ← comprehension (.DictComp kx vx [⟨tg, it0, ifs, 0⟩] sc pos) sc X.env (firstIterPos [⟨tg, it0, ifs, 0⟩] pos) newDict false (eval it0 X.env) (some (assign (.Name y py) X.env))) _ _ z0
  refine wpAny_bind (thn (Q := fun _ s' => SP X pins Dd .next s') ?_ fun _ s' hq => wpAny_pure (wpAny_pure hq))
  have caught : ∀ y ∈ sc.names, y.2 = .free → ∃ c, X.env.cells.lookup y.1 = some c := fun y hy e => I0.ok.has _ (bo.free y hy e)
  refine wpAny_comprehension_free (use := some (assign (.Name y py) X.env)) rfl hf (closure_ok caught) bo.kind (fun y hy e => by rw [bo.uniq y hy, e]) (thn (hi.run pins z0 σ H _ I0 asked) fun xv z1 hx => thn hx fun iv z2 made => ?_)
  obtain ⟨wk, fp, tn, J, H2, rfl, I2, T, at2, fp2, want⟩ := made
  refine wpAny_newObj_type (newEnv_comp ?_)
  obtain ⟨D, eD⟩ : ∃ D, D = z2.heap.objs.size := ⟨_, rfl⟩
  have freeD : H2 D = none := I2.hok.fresh (Nat.le_of_eq eD.symm)
  obtain ⟨W, ⟨m0, first⟩, each⟩ := want D freeD
  obtain ⟨z3, e3⟩ : ∃ z3 : Shared, z3 = { z2 with heap := z2.heap.push { cls := .type "dict", data := .dict #[] } } := ⟨_, rfl⟩
  have heap3 : z3.heap = z2.heap.push { cls := .type "dict", data := .dict #[] } := by rw [e3]
  have I3 : Inv X pins σ (upd H2 D o0) z3 := by
    rw [e3]
    refine I2.laid (t' := z2.toks) (fun b o e => Heap.get?_push_of_some _ e) (Nat.le_of_eq eD.symm) ?_
    rw [eD]
    rcases ho with rfl | rfl
    · exact dk_empty z2.heap I2.big
    · exact dt_empty z2.heap I2.big
  have old : ∀ b ∈ fp, b < z2.heap.objs.size := fun b hb => (T.obj _ _ at2 b hb).elim fun o r => Heap.lt_size r.1
  have fp3 : ∀ b ∈ fp, FpOk X pins (upd H2 D o0) b ∧ b < z3.heap.objs.size := fun b hb => by
    have lt := old b hb
    have ne : b ≠ D := by rw [eD]; exact Nat.ne_of_lt lt
    exact ⟨⟨by rw [upd_ne ne]; exact (fp2 b hb).1, (fp2 b hb).2⟩, by rw [heap3, Heap.size_push]; exact Nat.lt_succ_of_lt lt⟩
  have at3 : tn 0 z3.heap := T.keep _ _ _ at2 fun b _ o e => by rw [heap3]; exact Heap.get?_push_of_some _ e
  have I4 := block_start I3 bo nd fp3
  have PG4 := hg z3 (upd H2 D o0) z3.heap.objs.size (cellsFrom (z3.heap.objs.size + 1) sc.names (cloFrom X.env.cells sc.names [])) fp
  have PT4 := ht z3 (upd H2 D o0) z3.heap.objs.size (cellsFrom (z3.heap.objs.size + 1) sc.names (cloFrom X.env.cells sc.names [])) fp
  have PK4 := hk z3 (upd H2 D o0) z3.heap.objs.size (cellsFrom (z3.heap.objs.size + 1) sc.names (cloFrom X.env.cells sc.names [])) fp
  have PV4 := hv z3 (upd H2 D o0) z3.heap.objs.size (cellsFrom (z3.heap.objs.size + 1) sc.names (cloFrom X.env.cells sc.names [])) fp
  rw [← e3, ← eD]
  show codeAny _ _ (.compStart (.DictComp kx vx [⟨tg, it0, ifs, 0⟩] sc pos) 0 (.ref wk) (.ref D) (compEnvC sc (cellsFrom (z3.heap.objs.size + 1) sc.names (cloFrom X.env.cells sc.names [])) z3.heap.objs.size X.env))
    (compPost (model X.prog X.w) X.A X.xe (some (assign (.Name y py) X.env)) (fun _ s' => SP X pins Dd .next s') (.ref D) z3.heap.objs.size) { z3 with heap := pushCells (z3.heap.push { cls := .type "dict", data := .dict #[] }) sc.names }
  have none3 : ∀ b ∈ fp, upd H2 D o0 b = none := fun b hb => (fp3 b hb).1.1
  generalize ec : compEnvC sc (cellsFrom (z3.heap.objs.size + 1) sc.names (cloFrom X.env.cells sc.names [])) z3.heap.objs.size X.env = ce at I4 PG4 PT4 PK4 PV4 ⊢
  have locs : ce.locals = z3.heap.objs.size := by rw [← ec]; rfl
  generalize eG : upd H2 D o0 = G3 at I3 I4 PG4 PT4 PK4 PV4 first none3 fp3
  generalize e4 : ({ z3 with heap := pushCells (z3.heap.push { cls := .type "dict", data := .dict #[] }) sc.names } : Shared) = z4 at I4 ⊢
  have at4 : tn 0 z4.heap := T.keep _ _ _ at3 fun b _ o e => by rw [← e4]; exact pushCells_keeps _ _ _ _ (Heap.get?_push_of_some _ e)
  have still : ∀ {τ : L2.St} {G : Hp} {z : Shared}, Inv (X.blk z3 G3 sc ce fp) [] τ G z → (∀ b ∈ fp, G b = none) → ∀ b ∈ fp, FpOk (X.blk z3 G3 sc ce fp) [] G b := fun {τ G z} J1 n1 b hb =>
    ⟨n1 b hb, (J1.ok.exf b hb).1, J1.ok.exfs b hb, .inl hb, fun x c e => (J1.ok.exf b hb).2 x c e, fun p hp => absurd (show p ∈ ([] : List (Addr × Obj)) ++ [] from hp) (by simp)⟩
  have turns : codeAny (model X.prog X.w) X.A (.compLoop (.DictComp kx vx [⟨tg, it0, ifs, 0⟩] sc pos) 0 (.ref wk) (.ref D) ce) (compPost (model X.prog X.w) X.A X.xe (some (assign (.Name y py) X.env)) (fun _ s' => SP X pins Dd .next s') (.ref D) z3.heap.objs.size) z4 := by
    refine compLoop_anyD (fun n z => ∃ i G, Inv (X.blk z3 G3 sc ce fp) [] (wipe σ (own.map (·.2))) G z ∧ tn i z.heap ∧ (∀ b ∈ fp, G b = none) ∧ W i n G) ?_ m0 ⟨0, G3, I4, at4, none3, first⟩
    rintro n z5 ⟨i, G5, I5, at5, n5, w5⟩
    rcases each i n G5 w5 with ⟨stops, goal⟩ | ⟨goes, Nx, less, turn⟩
    · refine thnF (T.done (X.blk z3 G3 sc ce fp) rfl rfl rfl calm i [] z5 _ G5 (fun _ _ => False) I5 (still I5 n5) at5 stops) fun r z6 ⟨er, I6⟩ => ?_
      subst er
      have I7 : Inv X pins σ G5 z6 := I3.call' (ch := fp) I6.os I6.base I6.hok I6.bare fun b hb => ⟨(fp3 b hb).1.2.2.2.1, (fp3 b hb).1.2.1, (fp3 b hb).1.2.2.2.2.1, (fp3 b hb).1.2.2.2.2.2⟩
      have n6 : G5 z3.heap.objs.size = none := by
        have q : G5 ce.locals = none := I6.free
        rwa [locs] at q
      obtain ⟨mm, hm, _⟩ := I6.loc
      have hm' : z6.heap.Ns ce.locals mm := hm
      rw [locs] at hm'
      obtain ⟨g0, g1, g2, g3, g4, g5⟩ := I3.fpOk (Nat.le_refl _) n6
      show wpAny (model X.prog X.w) X.A (assign (.Name y py) X.env (.ref D)) _ _ _
      refine wpAny_assign_Name (store_ok2 (v := V.ref D) I7 nd hy (.inl hyl) rfl (fun s2 I8 ⟨a, sb, ha⟩ => ?_) (.inr hyl))
      have off : z3.heap.objs.size ≠ a := by
        rcases ha with z | z
        · rw [z]; exact g1
        · exact fun e => g4 y a z e.symm
      exact ⟨mm, hm'.sameBut sb off, fun h9 sb9 => ⟨_, G5, I8.turned (t' := s2.toks) (fun b o hb e => (sb9.2 b hb).trans e) g0 g1 g3 g4 g5, goal⟩⟩
    · refine thnF (T.item (X.blk z3 G3 sc ce fp) rfl rfl rfl calm i [] z5 _ G5 (fun _ _ => False) I5 (still I5 n5) at5 goes) fun r z6 ⟨u, er, h6⟩ => ?_
      subst er
      refine thnF h6 fun _ z7 ⟨x, G7, I7, rx, hy, at7, n7⟩ => ?_
      refine thnF (PG4.run _ z7 _ G7 x u _ (I7.pinned (still I7 n7) (T.obj _ _ at7)) rx (turn x G7 hy)) fun _ z8 ⟨τ8, G8, I8, same8, q8⟩ => ?_
      refine thnF (PT4.run _ z8 τ8 G8 _ I8 q8) fun b z9 ⟨G9, I9, q9⟩ => ?_
      have close : ∀ {z : Shared} {G : Hp}, Inv (X.blk z3 G3 sc ce fp) ([] ++ pinsAt fp z7.heap) τ8 G z → Nx G → ∃ m, m < n ∧ ∃ i G, Inv (X.blk z3 G3 sc ce fp) [] (wipe σ (own.map (·.2))) G z ∧ tn i z.heap ∧ (∀ b ∈ fp, G b = none) ∧ W i m G := fun {z G} J1 nx => by
        obtain ⟨m1, lt1, w1⟩ := less G nx
        have kept : ∀ b ∈ fp, ∀ o, z7.heap.get? b = some o → z.heap.get? b = some o ∧ G b = none := fun b hb o e => by
          have t := J1.pin (b, o) (List.mem_append_right _ (List.mem_append_right _ (mem_pinsAt hb e)))
          exact ⟨t.1, t.2.1⟩
        refine ⟨m1, lt1, i + 1, G, (J1.unpinned (pins := [])).weak (by rw [← same8, wipe_length]) (fun j v e => by rw [← same8] at e; exact (wipe_some e).1), T.keep _ _ _ at7 fun b hb o e => (kept b hb o e).1, fun b hb => ?_, w1⟩
        obtain ⟨o, e, _⟩ := T.obj _ _ at7 b hb
        exact (kept b hb o e).2
      cases b with
      | false =>
        simp only [Bool.false_eq_true, if_false] at q9 ⊢
        exact close I9 q9
      | true =>
        simp only [if_true] at q9 ⊢
        refine thnF (PK4.run _ z9 τ8 G9 _ I9 q9) fun k1 z10 ⟨yk, G10, I10, rk, q10⟩ => ?_
        refine thnF (PV4.run _ z10 τ8 G10 _ I10 q10) fun v1 z11 ⟨yv, G11, I11, rv, G12, put, nx⟩ => ?_
        exact dc_put (X := X.blk z3 G3 sc ce fp) hu I11 put rk rv fun z12 I12 => close I12 nx
  exact codeAny_compStart_dict turns (T.self X.A 0 _ _ _ at4 turns)
end
theorem sw_dict {kx vx : Expr} {gs : List Comprehension} {scope : Scope} {pos py : Pos} {y : Str} {l : Nat} {env : Env} (hk : env.scope.kind = .function) (hy : env.scope.names.lookup y = some .local) (hl : (py.line == pos.line) = true)
    (out : (scope.names.any fun (n, k) => n == y && (k == .local || k == .cell)) = false) : swapsWith (.DictComp kx vx gs scope pos) (some (.Name y py)) l env = pure true := by
  have e1 : env.kindOf y = some .local := hy
  have e2 : env.blockKind = .function := by
    unfold Env.blockKind
    rw [hk] <;> rfl
  unfold swapsWith
  simp only [e2, e1, out, Expr.pos, hl] <;> rfl
end Sq

set_option Elab.async false
set_option linter.all false
set_option maxRecDepth 100000
set_option maxHeartbeats 4000000
/-! A lot that hangs together is no wider than it has cells. -/
namespace Sq
open PySem PySem.Spec PyProof.Rows L2
theorem reach_between {L : List Cell} {f : Cell → Int} (hf : ∀ c d, d ∈ besideC c → f d - f c ≤ 1 ∧ f c - f d ≤ 1) {a x : Cell} (h : Reach L a x) (ha : a ∈ L) : ∀ k : Int, (f a ≤ k ∧ k ≤ f x) ∨ (f x ≤ k ∧ k ≤ f a) → ∃ y ∈ L, f y = k := by
  induction h with
  | refl => exact fun k hk => ⟨a, ha, by omega⟩
  | @step b x r hx xL ih =>
    intro k hk
    obtain ⟨h1, h2⟩ := hf b x hx
    by_cases e : f x = k
    · exact ⟨x, xL, e⟩
    · exact ih k (by omega)
theorem span_of {L : List Cell} {f : Cell → Int} (hf : ∀ c d, d ∈ besideC c → f d - f c ≤ 1 ∧ f c - f d ≤ 1) (hL : Hangs L) {a x : Cell} (ha : a ∈ L) (hx : x ∈ L) (le : f a ≤ f x) : f x - f a < L.length := by
  have r := reach_between hf (hL.2 a ha x hx) ha
  obtain ⟨d, hd⟩ := Int.eq_ofNat_of_zero_le (show 0 ≤ f x - f a by omega)
  have nd : ((List.range (d + 1)).map fun i : Nat => f a + (i : Int)).Nodup := by
    refine List.pairwise_map.mpr ((List.nodup_range (n := d + 1)).imp ?_)
    intro i j h h'
    exact h (by omega)
  have sub : ∀ y ∈ (List.range (d + 1)).map fun i : Nat => f a + (i : Int), y ∈ L.map f := fun y hy => by
    obtain ⟨i, hi, rfl⟩ := List.mem_map.mp hy
    have := List.mem_range.mp hi
    obtain ⟨z, hz, e⟩ := r (f a + (i : Int)) (by omega)
    exact List.mem_map.mpr ⟨z, hz, e⟩
  have l := len_le nd sub
  rw [List.length_map, List.length_map, List.length_range] at l
  omega
theorem beside_col (c d : Cell) (h : d ∈ besideC c) : d.1 - c.1 ≤ 1 ∧ c.1 - d.1 ≤ 1 := by
  have := beside_iff.mp h
  omega
theorem beside_row (c d : Cell) (h : d ∈ besideC c) : d.2 - c.2 ≤ 1 ∧ c.2 - d.2 ≤ 1 := by
  have := beside_iff.mp h
  omega
theorem span {L : List Cell} (hL : Hangs L) {a x : Cell} (ha : a ∈ L) (hx : x ∈ L) : x.1 - a.1 < L.length ∧ a.1 - x.1 < L.length ∧ x.2 - a.2 < L.length ∧ a.2 - x.2 < L.length := by
  have c1 := fun h => span_of (f := fun c => c.1) beside_col hL ha hx h
  have c2 := fun h => span_of (f := fun c => c.1) beside_col hL hx ha h
  have r1 := fun h => span_of (f := fun c => c.2) beside_row hL ha hx h
  have r2 := fun h => span_of (f := fun c => c.2) beside_row hL hx ha h
  refine ⟨?_, ?_, ?_, ?_⟩
  · by_cases h : a.1 ≤ x.1
    · exact c1 h
    · have := Int.natCast_nonneg L.length
      omega
  · by_cases h : x.1 ≤ a.1
    · exact c2 h
    · have := Int.natCast_nonneg L.length
      omega
  · by_cases h : a.2 ≤ x.2
    · exact r1 h
    · have := Int.natCast_nonneg L.length
      omega
  · by_cases h : x.2 ≤ a.2
    · exact r2 h
    · have := Int.natCast_nonneg L.length
      omega
end Sq

set_option Elab.async false
set_option linter.all false
set_option maxRecDepth 100000
set_option maxHeartbeats 4000000
/-! A call of a def that is run while no guard stands; the end of a law whose def is told so, with tables. -/
namespace Sq
open PySem PySem.Spec PyProof.Rows L2
section
variable {X : Cx} {CX : CXT} {j k : Nat} {f : Addr} {fd : FuncData} {ps : List Str} {sp : Sp} {E : XK}
/-- the callee runs, no guard around -/
theorem run_fnG {pins : List (Addr × Obj)} {σ : L2.St} {H : Hp} {s : Shared} {Q : VK} {us : List Value} {vs : List V} (len : ∀ vs H Q E, sp vs H Q E → vs.length = ps.length) (F : RunG X.prog X.w X.K X.mg X.base CX k f fd ps sp) (g0 : X.A.guards = some []) (room : Room k X.A)
    (bind : Binds X.K fd ps []) (pass : Passes CX X E) (J : Inv X pins σ H s) (rel : Vals vs us) (q : sp vs H Q E) : wpAny (model X.prog X.w) X.A (call (.ref f) us) (EP X pins σ Q) X.xe s := by
  have hl : us.length = ps.length := by
    rw [← rel.length]
    exact len _ _ _ _ q
  have bb := bind s us J.kIn (by rw [List.append_nil]; exact hl)
  rw [List.append_nil] at bb
  have run := F X.A X.stack s H ⟨us, []⟩ us vs Q E g0 room J.env0 bb rel q
  refine wpAny_call (codeAny_mono run fun r z hz => ?_)
  match r, hz with
  | .error e, hz => exact pass pins σ H s e z J hz
  | .ok (.ret u), hz => exact J.after hz
  | .ok .next, hz => exact hz.elim
  | .ok .brk, hz => exact hz.elim
  | .ok .cont, hz => exact hz.elim
/-- the module's def x, told where no guard stands -/
structure Dg (P : Program) (w : World) (K : PySem.W.Frag) (mg : Str → Option Value) (base : Heap) (CX : CXT) (k : Nat) (x : Str) (ps : List Str) (sp : Sp) : Prop where
  len : ∀ vs H Q E, sp vs H Q E → vs.length = ps.length
  ex : ∃ f fd, mg x = some (.ref f) ∧ PySem.W.keepIn K (.ref f) = true ∧ Binds K fd ps [] ∧ RunG P w K mg base CX k f fd ps sp
theorem pe_dg {x : Str} {p pos : Pos} {e : Expr} {es : List Expr} {t : TA} (D : Dg X.prog X.w X.K X.mg X.base CX k x ps sp) (g0 : X.A.guards = some []) (room : Room j X.A) (hg : Gl X x) (pass : Passes CX X E) (ha : PA X (e :: es) t) (hkj : k ≤ j := by decide) (hdb : (x == ("__debug__" : Str)) = false := by decide)
    (he : starEach (e :: es) X.env = (false, eval e X.env) :: starEach es X.env := by rfl) (hpl : (backTo pos (starEach es X.env)).any (·.1) = false := by rfl) : PE X (.Call (.Name x p) (e :: es) [] pos) (tCall sp [] E t) := by
  obtain ⟨f, fd, hm, kp, b, F⟩ := D.ex
  refine ⟨fun pins s σ H Q J q0 => wpAny_Call_Name_kw (ld_glob J hg hm ?_ hdb)⟩
  refine PySem.W.callWith_K (h₀ := X.base) J.ok.mod.kin kp (thn (ha.run pos pins s σ H _ J q0) ?_) he hpl
  rintro us z ⟨vs, G, J1, rel, q⟩
  refine ⟨J1.kIn, ?_⟩
  have q' : sp vs G Q E := by
    have q'' : sp (vs ++ []) G Q E := q
    rw [List.append_nil] at q''
    exact q''
  exact run_fnG D.len F g0 (room.mono hkj) b pass J1 rel q'
end
/-- where a law begins: its script and its tables stand apart -/
structure Beg (P : Program) (w : World) (K : PySem.W.Frag) (ts : List Addr) (z : Shared) (a : Addr) (H : Hp) : Prop where
  tb : ∀ t ∈ ts, H t = some (.tbl #[])
  kinds : ∀ b, H b = none ∨ b ∈ ts ∨ ∃ o xs, H b = some (.frz o (.lst xs))
  ok : HOk P w H z.heap
  sup : ∀ b, H b ≠ none → b = a ∨ b ∈ ts
  ka : H a ≠ none → K.lookup a = none
/-- what of the heap is not tracked -/
theorem Beg.free {P : Program} {w : World} {K : PySem.W.Frag} {ts : List Addr} {z : Shared} {a : Addr} {H : Hp} {vs : List Value} (B : Beg P w K ts z a H) (ha : z.heap.get? a = some { cls := .type "list", data := .seq vs.toArray }) (ht : ∀ t ∈ ts, z.heap.get? t = some { cls := .none, data := .fields #[] })
    {b : Addr} {o : Obj} (e : z.heap.get? b = some o) (n1 : ∀ us m, o.data ≠ .seq us m) (n2 : o.data ≠ .fields #[]) : H b = none := by
  refine Classical.byContradiction fun n => ?_
  rcases B.sup b n with rfl | m
  · have y := Option.some.inj (ha.symm.trans e)
    subst y
    exact n1 _ _ rfl
  · have y := Option.some.inj ((ht b m).symm.trans e)
    subst y
    exact n2 rfl
theorem law_callTG {P : Program} {w : World} {K : PySem.W.Frag} {mg mb : Str → Option Value} {CX : CXT} {k : Nat} {fa a : Addr} {cs : List (Addr × Addr)} {fd : FuncData} {x : Str} {sp : Sp} {z : Shared} {vs : List Value} {zs : List Int}
    (KX : K.In z.heap) (hG : z.heap.Ns mainGlobals mg) (hB : z.heap.Ns builtinsNs mb) (hbb : ∀ x : Str, x ≠ "__name__" → mb x = bootBuiltins x) (hlim : z.heap.NoLimit) (hgn : z.gens = #[])
    (tabs : ∀ p ∈ cs, z.heap.get? p.2 = some { cls := .none, data := .fields #[] } ∧ K.lookup p.2 = none ∧ PySem.W.CodeHd z.heap p.1 p.2)
    (bmain : ∃ (bm : Addr) (ob : Obj), mg "__builtins__" = some (.ref bm) ∧ bm ≠ builtinsNs ∧ z.heap.get? bm = some ob ∧ ob.cls = .type "module" ∧ ob.dict = some builtinsNs ∧ ob.data = .plain)
    (ha : z.heap.get? a = some { cls := .type "list", data := .seq vs.toArray }) (nums : IntsAre vs zs) (few : zs.length ≤ sizeLine) (room : Room k callerA)
    (F : ∀ base : Heap, K.In base → base.Ns mainGlobals mg → (∀ p ∈ cs, LamX.TabB base mg p.1 p.2) → RunG P w K mg base CX k fa fd [x] sp) (bind : ∀ (s : Shared) (u : Value), BindsTo s fd ⟨[u], []⟩ [(x, u)])
    (hsp : ∀ H : Hp, (∀ p ∈ cs, H p.2 = some (.tbl #[])) → SqL K H a (zs.map V.int) → sp [.ref a] H (fun v _ => v = .bl true) fun _ _ _ => False)
    (noX : ∀ H e s', CX [] H z (fun _ _ _ => False) e s' → False) :
    codeAny (model P w) callerA (.call (.ref fa) ⟨[.ref a], []⟩) (fun r s' => r = .ok (.ret (.bool true)) ∧ OldK z.heap s'.heap ∧ s'.os = z.os ∧ AllBare s'.gens) z := by
  have rel := vals_ints nums
  have lv := nums.length
  have ht : ∀ t ∈ cs.map (·.2), z.heap.get? t = some { cls := .none, data := .fields #[] } := fun t m => by
    obtain ⟨p, mp, rfl⟩ := List.mem_map.mp m
    exact (tabs p mp).1
  have inT : ∀ p ∈ cs, p.2 ∈ cs.map (·.2) := fun p hp => List.mem_map_of_mem hp
  have outA : a ∉ cs.map (·.2) := fun m => by
    have y : Data.seq vs.toArray _ = Data.fields #[] := congrArg Obj.data (Option.some.inj (ha.symm.trans (ht a m)))
    cases y
  -- by any such beginning
  have go : ∀ H : Hp, Beg P w K (cs.map (·.2)) z a H → SqL K H a (zs.map V.int) → codeAny (model P w) callerA (.call (.ref fa) ⟨[.ref a], []⟩) (fun r s' => r = .ok (.ret (.bool true)) ∧ OldK z.heap s'.heap ∧ s'.os = z.os ∧ AllBare s'.gens) z := by
    intro H B hS
    have keep : ∀ {b : Addr} {o : Obj}, z.heap.get? b = some o → (∀ us m, o.data ≠ .seq us m) → o.data ≠ .fields #[] → (hidT z.heap H).get? b = some o := fun e n1 n2 => hidT_get e (B.free ha ht e n1 n2)
    have names : ∀ {b : Addr} {m : Str → Option Value}, z.heap.Ns b m → (hidT z.heap H).Ns b m := fun {b m} h => by
      obtain ⟨o, es, ep, e, d, r⟩ := h
      exact ⟨o, es, ep, keep e (fun us n y => by rw [d] at y; cases y) (fun y => by rw [d] at y; cases y), d, r⟩
    have kin : K.In (hidT z.heap H) := fun b o e => by
      refine hidT_get (KX b o e) (Classical.byContradiction fun n => ?_)
      rcases B.sup b n with rfl | m
      · rw [B.ka n] at e
        cases e
      · obtain ⟨p, mp, rfl⟩ := List.mem_map.mp m
        rw [(tabs p mp).2.1] at e
        cases e
    have lim : (hidT z.heap H).NoLimit := by
      obtain ⟨mc, h1, h2⟩ := hlim
      exact ⟨mc, names h1, h2⟩
    have TB : ∀ p ∈ cs, LamX.TabB (hidT z.heap H) mg p.1 p.2 := fun p mp => by
      obtain ⟨tp, _, C⟩ := tabs p mp
      refine ⟨?_, ?_, fun y => ?_⟩
      · obtain ⟨o, us, fl, tf, gs, tg, inF, tx, tt, e1, r1, r2, r3, rest⟩ := C
        refine ⟨o, us, fl, tf, gs, tg, inF, tx, tt, keep e1 (fun us n y => by rw [r2] at y; cases y) (fun y => ?_), r1, r2, r3, rest⟩
        rw [r2] at y
        cases y
        simp at r3
      · obtain ⟨bm, ob, b1, b2, b3, b4, b5, b6⟩ := bmain
        refine ⟨bm, ob, b1, b2, fun y => ?_, fun y => ?_, keep b3 (fun us n y => by rw [b6] at y; cases y) (fun y => by rw [b6] at y; cases y), b4, b5, b6⟩
        · obtain ⟨o, es, ep, e, hd, _⟩ := hG
          rw [y] at b3
          have q := Option.some.inj (b3.symm.trans e)
          subst q
          rw [hd] at b6
          cases b6
        · rw [y] at b3
          have q := Option.some.inj (b3.symm.trans tp)
          subst q
          cases b6
      · obtain ⟨o, es, ep, e, hd, _⟩ := hG
        rw [y] at e
        have q := Option.some.inj (tp.symm.trans e)
        subst q
        cases hd
    have env : Env0 P w K mg (hidT z.heap H) callerA [] z H := ⟨rfl, ⟨kin, names hG, ⟨mb, names hB, hbb⟩, lim⟩, fun _ _ e => of_hidT e, Nat.le_of_eq (hidT_size _ _), trivial, fun b y => (List.not_mem_nil (show b ∈ ([] : List Addr) from y)).elim, B.ok, .of_eq hgn⟩
    have run := F _ kin (names hG) TB callerA [] z H ⟨[.ref a], []⟩ [.ref a] [.ref a] _ _ rfl room env (bind z (.ref a)) (.cons rfl .nil) (hsp H (fun p hp => B.tb _ (inT p hp)) hS)
    refine codeAny_mono run fun r y hy => ?_
    match r, hy with
    | .error e, hy => exact (noX H e y hy).elim
    | .ok .next, hy => exact hy.elim
    | .ok .brk, hy => exact hy.elim
    | .ok .cont, hy => exact hy.elim
    | .ok (.ret u), hy =>
      obtain ⟨v, G, os, bare, un, okG, rv, qv⟩ := hy
      obtain rfl : v = .bl true := qv
      obtain rfl : u = Value.bool true := rv
      have old : ∀ b o, b ∉ cs.map (·.2) → z.heap.get? b = some o → y.heap.get? b = some o := fun b o nb e => by
        rcases B.kinds b with h | h | ⟨ob, xs, h⟩
        · exact un.keep b o e h (fun m => (List.not_mem_nil (show b ∈ ([] : List Addr) from m)).elim) (by simp)
        · exact absurd h nb
        · have e1 := (B.ok b _ h).1
          have e2 := (okG b _ (un.frzs b ob _ h)).1
          rw [Option.some.inj (e.symm.trans e1)]
          exact e2
      have more : ∀ p ∈ cs, ∃ us : Array Value, y.heap.get? p.2 = some { cls := .none, data := .fields us } := fun p mp => by
        obtain ⟨us, h⟩ := un.tbls p.2 #[] (B.tb _ (inT p mp))
        exact ⟨_, okG p.2 _ h⟩
      refine ⟨rfl, ⟨fun b o e => ?_, fun b o e => ?_⟩, os, bare⟩
      · by_cases m : b ∈ cs.map (·.2)
        · have eb := Option.some.inj ((ht b m).symm.trans e)
          subst eb
          obtain ⟨p, mp, rfl⟩ := List.mem_map.mp m
          obtain ⟨us, hus⟩ := more p mp
          refine .inr (.inl ⟨((tabs p mp).2.2.tab (tabs p mp).1).isCodeTable, rfl, #[], us, rfl, ?_⟩)
          rw [Array.empty_append]
          exact hus
        · exact .inl (old b o m e)
      · by_cases m : b ∈ cs.map (·.2)
        · obtain ⟨p, mp, rfl⟩ := List.mem_map.mp m
          obtain ⟨us, hus⟩ := more p mp
          exact ⟨_, hus⟩
        · exact ⟨o, old b o m e⟩
  let T0 : Hp := fun b => if b ∈ cs.map (·.2) then some (.tbl #[]) else none
  have t0 : ∀ b, (b ∈ cs.map (·.2) ∧ T0 b = some (.tbl #[])) ∨ (b ∉ cs.map (·.2) ∧ T0 b = none) := fun b => by
    by_cases m : b ∈ cs.map (·.2)
    · exact .inl ⟨m, if_pos m⟩
    · exact .inr ⟨m, if_neg m⟩
  have okT : ∀ {b : Addr} {u : HO}, T0 b = some u → u = .tbl #[] ∧ z.heap.get? b = some { cls := .none, data := .fields #[] } := fun {b u} e => by
    rcases t0 b with ⟨m, h⟩ | ⟨_, h⟩
    · exact ⟨Option.some.inj (e.symm.trans h), ht b m⟩
    · rw [h] at e
      cases e
  cases hk : K.lookup a with
  | some o =>
    have eo := Option.some.inj (ha.symm.trans (KX a o hk))
    subst eo
    refine go T0 ⟨fun t m => if_pos m, fun b => ?_, fun b u e => ?_, fun b n => ?_, fun n => ?_⟩ (.inr ⟨_, vs.toArray, _, hk, rfl, rfl, rfl, by rw [List.size_toArray, lv]; exact few, by simpa using rel⟩)
    · exact (t0 b).elim (fun h => .inr (.inl h.1)) fun h => .inl h.2
    · obtain ⟨rfl, h⟩ := okT e
      exact h
    · exact (t0 b).elim (fun h => .inr h.1) fun h => absurd h.2 n
    · exact absurd (if_neg outA) n
  | none =>
    let T1 : Hp := upd T0 a (.frz { cls := .type "list", data := .seq vs.toArray } (.lst (zs.map V.int)))
    have e1 : T1 a = some (.frz { cls := .type "list", data := .seq vs.toArray } (.lst (zs.map V.int))) := upd_same
    have e2 : ∀ {b : Addr}, b ≠ a → T1 b = T0 b := fun n => upd_ne n
    refine go T1 ⟨fun t m => ?_, fun b => ?_, fun b u e => ?_, fun b n => ?_, fun _ => hk⟩ (.inl (.inr ⟨_, e1⟩))
    · rw [e2 (fun y => outA (y ▸ m))]
      exact if_pos m
    · by_cases y : b = a
      · exact .inr (.inr ⟨_, _, y ▸ e1⟩)
      · rw [e2 y]
        exact (t0 b).elim (fun h => .inr (.inl h.1)) fun h => .inl h.2
    · by_cases y : b = a
      · subst y
        have q := Option.some.inj (e1.symm.trans e)
        subst q
        exact ⟨ha, by rw [List.length_map]; exact few, vs, _, rel, ha⟩
      · rw [e2 y] at e
        obtain ⟨rfl, h⟩ := okT e
        exact h
    · by_cases y : b = a
      · exact .inl y
      · rw [e2 y] at n
        exact (t0 b).elim (fun h => .inr h.1) fun h => absurd h.2 n
/-- what is known of the law at the head's heap -/
def LawG (l : PySem.W.OpenLaw) (w : World) (K : PySem.W.Frag) (CX : CXT) (k n : Nat) (x : Str) (mg : Str → Option Value) (fa : Addr) (h : Heap) : Prop :=
  ∃ (fd : FuncData) (cs : List (Addr × Addr)) (sp : Sp), (∀ p ∈ cs, h.get? p.2 = some { cls := .none, data := .fields #[] } ∧ K.lookup p.2 = none ∧ PySem.W.CodeHd h p.1 p.2) ∧ (∀ (s : Shared) (u : Value), BindsTo s fd ⟨[u], []⟩ [(x, u)]) ∧
    (∀ (H : Hp) (a : Addr) (zs : List Int), zs.length ≤ n → (∀ p ∈ cs, H p.2 = some (.tbl #[])) → SqL K H a (zs.map V.int) → sp [.ref a] H (fun v _ => v = .bl true) fun _ _ _ => False) ∧
    ∀ base : Heap, K.In base → base.Ns mainGlobals mg → (∀ p ∈ cs, LamX.TabB base mg p.1 p.2) → RunG l.prog w K mg base CX k fa fd [x] sp
theorem walk_ofTG {l : PySem.W.OpenLaw} {n k : Nat} {q : Program} {loose : List Str} {XP : (Str → Option Value) → Heap → Prop} {YP : World → Heap → Prop} {d : DefRec} {x : Str}
    (hn : l.most = some n) (hn2 : n ≤ sizeLine) (hdf : d.params.defaults = []) (room : Room k callerA)
    (F : ∀ (w : World) (mg : Str → Option Value) (fa : Addr) (h : Heap), YP w h → h.Ns mainGlobals mg → mg d.name = some (.ref fa) → ∃ K : PySem.W.Frag, K.In h ∧ LawG l w K CX0 k n x mg fa h) :
    PySem.W.WalkO q loose XP YP l.row.toRowW d [] (fun f vs => PySem.call f vs) := by
  refine Att.attach_callB hn hdf fun w s₀ z mg mb fa o pm cd doc a vs zs G Y ho hd hcd hmg hobj nums few bits hgn => ?_
  obtain ⟨K, KX, fd, cs, sp, tabs, hb, hsp, hF⟩ := F w mg fa _ Y G.T.g hmg
  refine law_callTG KX G.T.g G.T.b G.T.builtins G.T.nolimit hgn tabs G.T.bmain hobj nums (Nat.le_trans few hn2) room hF hb ?_ (fun _ _ _ y => y)
  exact fun H hT hS => hsp H a zs few hT hS
end Sq

set_option Elab.async false
set_option linter.all false
set_option maxRecDepth 100000
set_option maxHeartbeats 4000000
/-! What repr shows, in few signs. -/
namespace Sq
open PySem PySem.Spec PyProof.Rows L2
/-- d is shown in n signs at most, nested m deep at most -/
structure Sh (m n : Nat) (d : PyData) : Prop where
  sh : d.showable = true
  nd : d.hasDict = false
  dp : d.depth ≤ m
  ln : d.shown.length ≤ n
theorem Sh.mono {m n m' n' : Nat} {d : PyData} (h : Sh m n d) (hm : m ≤ m') (hn : n ≤ n') : Sh m' n' d := ⟨h.sh, h.nd, Nat.le_trans h.dp hm, Nat.le_trans h.ln hn⟩
theorem sh_int {i : Int} (h : i.natAbs < 10 ^ 40) : Sh 0 41 (.int i) := by
  refine ⟨?_, by simp only [PyData.hasDict], by simp only [PyData.depth]; omega, ?_⟩
  · simp only [PyData.showable, decide_eq_true_eq]
    by_cases h0 : i.natAbs = 0
    · rw [h0]
      decide
    · rw [Nat.log2_lt h0]
      exact Nat.lt_trans h (by decide)
  · show (Str.ofString (toString i)).length ≤ 41
    rw [PySem.ofString_length]
    exact int_text_length_le10 (k := 40) (by decide) h
theorem sh_all {m n : Nat} : ∀ (ds : List PyData), (∀ d ∈ ds, Sh m n d) → PyData.showableAll ds = true ∧ PyData.hasDictAll ds = false ∧ PyData.depthAll ds ≤ m ∧ ((PyData.shownAll ds).map (·.length)).sum ≤ n * ds.length ∧ (PyData.shownAll ds).length = ds.length
  | [], _ => by
    simp only [PyData.showableAll, PyData.hasDictAll, PyData.depthAll, PyData.shownAll]
    exact ⟨trivial, trivial, Nat.zero_le _, by simp, rfl⟩
  | d :: ds, h => by
    obtain ⟨a1, a2, a3, a4, a5⟩ := sh_all ds fun e he => h e (List.mem_cons_of_mem _ he)
    obtain ⟨b1, b2, b3, b4⟩ := h d List.mem_cons_self
    simp only [PyData.showableAll, PyData.hasDictAll, PyData.depthAll, PyData.shownAll, List.length_cons, List.map_cons, List.sum_cons]
    refine ⟨by rw [a1, b1]; rfl, by rw [a2, b2]; rfl, by omega, ?_, by rw [a5]⟩
    rw [Nat.mul_add, Nat.mul_one]
    omega
theorem sh_tuple {m n k : Nat} {ds : List PyData} (h : ∀ d ∈ ds, Sh m n d) (hk : ds.length ≤ k) : Sh (m + 1) (n * k + 2 * k + 3) (.tuple ds) := by
  obtain ⟨a1, a2, a3, a4, a5⟩ := sh_all ds h
  refine ⟨by simp only [PyData.showable]; exact a1, by simp only [PyData.hasDict]; exact a2, by simp only [PyData.depth]; omega, ?_⟩
  simp only [PyData.shown]
  have t := tupleText_len_le (PyData.shownAll ds)
  have nk : n * ds.length ≤ n * k := Nat.mul_le_mul_left n hk
  omega
theorem sh_list {m n k : Nat} {ds : List PyData} (h : ∀ d ∈ ds, Sh m n d) (hk : ds.length ≤ k) : Sh (m + 1) (n * k + 2 * k + 3) (.list ds) := by
  obtain ⟨a1, a2, a3, a4, a5⟩ := sh_all ds h
  refine ⟨by simp only [PyData.showable]; exact a1, by simp only [PyData.hasDict]; exact a2, by simp only [PyData.depth]; omega, ?_⟩
  simp only [PyData.shown]
  have t := listText_len_le (PyData.shownAll ds)
  have nk : n * ds.length ≤ n * k := Nat.mul_le_mul_left n hk
  omega
theorem sh_bool (b : Bool) : Sh 0 5 (.bool b) := by
  cases b <;> exact ⟨rfl, rfl, Nat.le_refl _, by decide⟩
/-- repr(t), told by its data -/
theorem repr_sh {K : PySem.W.Frag} {a : Addr} {d : PyData} {H : Hp} {Q : VK} {m n : Nat} (h : Dp K H (.ref a) d) (s : Sh m n d) (q : Q (.str d.shown) H) (hm : m ≤ 50 := by decide) (hn : n ≤ 16777216 := by decide) : rReprD K [.ref a] H Q :=
  ⟨a, d, rfl, h, s.sh, s.nd, Nat.le_trans s.dp hm, by rw [sizeLine_eq]; exact Nat.le_trans s.ln hn, q⟩
theorem Sh.d50 {m n : Nat} {d : PyData} (s : Sh m n d) (hm : m ≤ 50 := by decide) : d.depth ≤ 50 := Nat.le_trans s.dp hm
theorem Sh.fits {m n : Nat} {d : PyData} (s : Sh m n d) (hn : n ≤ 16777216 := by decide) : d.shown.length ≤ sizeLine := by
  rw [sizeLine_eq]
  exact Nat.le_trans s.ln hn
/-- coordinates that are not great -/
def Small (c : Cell) : Prop := c.1.natAbs < 10 ^ 40 ∧ c.2.natAbs < 10 ^ 40
end Sq

set_option Elab.async false
set_option linter.all false
set_option maxRecDepth 100000
set_option maxHeartbeats 4000000
/-! enumerate over a tuple. -/
namespace Sq
open PySem PySem.Spec PyProof.Rows L2
/-- the items of the tuple at a with their numbers, in new pairs -/
def ItU (a : Addr) (xs : List V) : It :=
  ⟨fun i H => H a = some (.tup xs) ∧ i < xs.length, fun i H v H' => ∃ (t : Addr) (x : V), xs[i]? = some x ∧ v = .ref t ∧ H t = none ∧ H' = upd H t (.tup [.int (i : Nat), x]), fun i H => H a = some (.tup xs) ∧ xs.length ≤ i⟩
theorem turn_enumU {P : Program} {w : World} {K : PySem.W.Frag} {a e it : Addr} {xs : List V} {elts : List Expr} {kk : Nat} {tpos : Pos} :
    Turn P w K (.Tuple elts kk tpos) (ItU a xs) [e, it] e (fun i h => (∃ old, IsEnum h e it ((i : Nat) : Int) old) ∧ h.IsTupleIter it a i ∧ e ≠ it ∧ i ≤ xs.length) where
  mem := List.mem_cons_self ..
  obj := fun i h st b hb => by
    obtain ⟨⟨old, he⟩, ⟨oi, ei, ci, di⟩, _⟩ := st
    rcases List.mem_cons.mp hb with z | z
    · exact z ▸ ⟨_, he, fun v q => nomatch q⟩
    · refine List.mem_singleton.mp z ▸ ⟨oi, ei, fun v q => ?_⟩
      rw [di] at q
      cases q
  keep := fun i h h' st k => by
    obtain ⟨⟨old, he⟩, hi, ne, le⟩ := st
    exact ⟨⟨old, k e (List.mem_cons_self ..) _ he⟩, hi.at fun u q => k it (List.mem_cons_of_mem _ (List.mem_cons_self ..)) u q, ne, le⟩
  item := by
    intro X eP ew eK calm i pins s σ H E I free st go
    subst eP ew eK
    obtain ⟨hd, hi⟩ := go
    obtain ⟨its, rv, p, hz⟩ := I.tuple (SqT.of hd)
    have raw : s.heap.IsTuple a its.toArray := p
    obtain ⟨x, hx⟩ : ∃ x, xs[i]? = some x := ⟨_, List.getElem?_eq_getElem hi⟩
    obtain ⟨u, hu, ru⟩ := rv.get hx
    have hl := rv.length
    obtain ⟨⟨old, he⟩, here, ne, _⟩ := st
    have out : ∀ b ∈ [e, it], b ≠ a := fun b hb z => by
      have n := (free b hb).1
      rw [z, hd] at n
      cases n
    have ned : e ≠ a := out e (List.mem_cons_self ..)
    have nid : it ≠ a := out it (List.mem_cons_of_mem _ (List.mem_cons_self ..))
    have le : e < s.heap.objs.size := Heap.lt_size he
    have li : it < s.heap.objs.size := by
      obtain ⟨_, z, _⟩ := here
      exact Heap.lt_size z
    refine wpAny_pyNext_enum_itemC (Draws.tuple (A := X.A.in1) (I.ok.hd calm) it a (Ne.symm nid) its.toArray) he ⟨here, raw⟩ (by simp; omega) ne (by simp [ne, ned]) fun y h1 tk hP eo st1 tup _ old1 => ?_
    have ey : y = u := by
      have z : its.toArray[i]? = some u := by simpa using hu
      exact Option.some.inj (hP.symm.trans z)
    subst ey
    refine ⟨_, rfl, wpAny_letOwnedTupleGo_enum (s := { s with heap := h1, toks := tk + 1 }) eo fun h2 en sb => ?_⟩
    have tup2 : h2.get? s.heap.objs.size = some { cls := .type "tuple", data := .seq #[.int (i : Nat) tk, y] } := (sb.2 _ (Nat.ne_of_gt le)).trans tup
    have fresh : ObjOk X.prog X.w (upd H s.heap.objs.size (.tup [.int (i : Nat), x])) h2 s.heap.objs.size (.tup [.int (i : Nat), x]) :=
      ⟨by show 2 ≤ sizeLine; decide, [.int (i : Nat) tk, y], .cons ⟨_, rfl⟩ (.cons ru .nil), ⟨_, tup2, rfl, _, rfl⟩⟩
    have nb : ∀ {b : Addr}, b ∉ [e, it] → b ≠ e ∧ b ≠ it := fun {b} h => ⟨fun z => h (z ▸ List.mem_cons_self ..), fun z => h (z ▸ List.mem_cons_of_mem _ (List.mem_cons_self ..))⟩
    have J : Inv X pins σ (upd H s.heap.objs.size (.tup [.int (i : Nat), x])) { s with heap := h2, toks := tk + 1 } :=
      I.turnedNew (t' := tk + 1) (ch := [e, it]) (fun b u hb x => (sb.2 b (nb hb).1).trans (old1 b u (nb hb).1 (nb hb).2 x)) free (Nat.le_refl _) fresh
    have e1 : ((i + 1 : Nat) : Int) = (i : Int) + 1 := by omega
    refine ⟨.ref s.heap.objs.size, _, J, rfl, ⟨_, x, hx, rfl, I.hok.fresh (Nat.le_refl _), rfl⟩, ⟨⟨y, ?_⟩, st1.1.at fun u z => (sb.2 it (Ne.symm ne)).trans z, ne, hi⟩, fun b hb => ?_⟩
    · rw [e1]
      exact en
    · have lb : b < s.heap.objs.size := by
        rcases List.mem_cons.mp hb with z | z
        · rw [z]; exact le
        · rw [List.mem_singleton.mp z]; exact li
      rw [upd_ne (Nat.ne_of_lt lb)]
      exact (free b hb).1
  done := by
    intro X eP ew eK calm i pins s σ H E I free st stop
    subst eP ew eK
    obtain ⟨hd, hi⟩ := stop
    obtain ⟨its, rv, p, hz⟩ := I.tuple (SqT.of hd)
    have raw : s.heap.IsTuple a its.toArray := p
    have hl := rv.length
    obtain ⟨⟨old, he⟩, here, ne, le⟩ := st
    obtain ⟨f0, f1, f2, f3, f4, f5⟩ := free it (List.mem_cons_of_mem _ (List.mem_cons_self ..))
    have nid : it ≠ a := fun z => by
      rw [z, hd] at f0
      cases f0
    have ei : i = its.toArray.size := by
      rw [List.size_toArray]
      omega
    subst ei
    exact wpAny_pyNext_enum_endD (Draws.tuple (A := X.A.in1) (I.ok.hd calm) it a (Ne.symm nid) its.toArray) he ⟨here, raw⟩ fun h2 eb => ⟨rfl, I.turned (t' := s.toks) (fun b u hb z => eb b u hb z) f0 f1 f3 f4 f5⟩
  self := fun A i s Q E st h => by
    obtain ⟨⟨_, he⟩, _⟩ := st
    exact wpAny_pyIter_enum he h
/-- enumerate(t), t a tuple of the run -/
def iEnumU (ta : TA) : TI := fun σ H R => ta σ H fun vs H1 => ∃ a xs, vs = [.ref a] ∧ H1 a = some (.tup xs) ∧ R (ItU a xs) H1
theorem pi_enumU {X : Cx} {e : Expr} {ta : TA} {p pos tpos : Pos} {elts : List Expr} {kk : Nat} (hg : Gl X "enumerate") (hm : X.mg "enumerate" = none) (ha : PA X [e] ta) (hs : starEach [e] X.env = [(false, eval e X.env)] := by rfl) :
    PI X (.Tuple elts kk tpos) (.Call (.Name "enumerate" p) [e] [] pos) (iEnumU ta) := by
  refine ⟨fun pins s σ H R I asked => ?_⟩
  refine Call_ (ld_blt I hg hm boot_enumerate (PyProof.Rows.callWith_type1 (thn (ha.run pos pins s σ H _ I asked) fun us s1 ⟨vs, H1, I1, r1, a, xs, ex, hd, q⟩ => ?_) hs rfl))
  subst ex
  cases r1 with
  | cons r rr =>
    cases rr
    cases r
    obtain ⟨its, rv, p, hz⟩ := I1.tuple (SqT.of hd)
    have raw : s1.heap.IsTuple a its.toArray := p
    refine call_enumD (begins_tuple a its.toArray) raw fun h' he hit old => wpAny_pyIter_enum he ?_
    have I2 : Inv X pins σ H1 { s1 with heap := h' } := I1.kept (t' := s1.toks) old
    refine ⟨s1.heap.objs.size + 1, [s1.heap.objs.size + 1, s1.heap.objs.size], _, _, H1, rfl, I2, turn_enumU, ⟨⟨.none, he⟩, ⟨_, hit, rfl, rfl⟩, Nat.succ_ne_self _, Nat.zero_le _⟩, fun b hb => ?_, q⟩
    have le : s1.heap.objs.size ≤ b := by
      rcases List.mem_cons.mp hb with z | z
      · rw [z]; exact Nat.le_add_right _ _
      · rw [List.mem_singleton.mp z]; exact Nat.le_refl _
    exact I1.fpOk le (I1.hok.fresh le)
/-- a new pair of i and the i-th of xs -/
def YEn (xs : List V) : Nat → Hp → V → Hp → Prop := fun i H v H' => ∃ (t : Addr) (x : V), xs[i]? = some x ∧ v = .ref t ∧ H t = none ∧ H' = upd H t (.tup [.int (i : Nat), x])
theorem walk_enumU {a : Addr} {xs : List V} : Walk (ItU a xs) xs.length (fun H => H a = some (.tup xs)) (YEn xs) :=
  ⟨fun i H hi h => ⟨h, hi⟩, fun H h => ⟨h, Nat.le_refl _⟩, fun i H x H' hi h y => y⟩
theorem walk_enumL {K : PySem.W.Frag} {a : Addr} {xs : List V} : Walk (Ite K a) xs.length (fun H => SqL K H a xs) (YEn xs) :=
  ⟨fun i H hi h => ⟨xs, xs[i], h, List.getElem?_eq_getElem hi⟩, fun H h => ⟨xs, h, Nat.le_refl _⟩, fun i H v H' hi h y => by
    obtain ⟨t, x, e1, e2, e3, e4⟩ := y
    exact ⟨t, x, e4 xs h, e1, e2, e3⟩⟩
end Sq

set_option Elab.async false
set_option linter.all false
set_option maxRecDepth 100000
set_option maxHeartbeats 4000000
/-! The parts are told by the cells alone. -/
namespace Sq
open PySem PySem.Spec PyProof.Rows L2
theorem asc_memU {A M : List Cell} (nA : A.Nodup) (nM : M.Nodup) (sa : Asc A) (sm : Asc M) (mem : ∀ x, x ∈ A ↔ x ∈ M) : A = M :=
  List.Perm.eq_of_pairwise (le := fun x y => cLt y x = false) (fun x y _ _ h k => cLt_tri k h) sa sm ((List.perm_ext_iff_of_nodup nA nM).mpr mem)
theorem IsParts.sub {cs : List Cell} {ps qs : List (List Cell)} (h : IsParts cs ps) (k : IsParts cs qs) : ∀ p ∈ ps, p ∈ qs := fun p hp => by
  obtain ⟨ap, np, ne⟩ := h.asc p hp
  obtain ⟨x, hx⟩ := List.exists_mem_of_ne_nil _ ne
  obtain ⟨xc, cp⟩ := h.cls p hp x hx
  obtain ⟨q, hq, xq⟩ := k.cov x xc
  obtain ⟨aq, nq, _⟩ := k.asc q hq
  have e : p = q := asc_memU np nq ap aq fun y => by rw [cp y, (k.cls q hq x xq).2 y]
  exact e ▸ hq
theorem IsParts.nodup {cs : List Cell} {ps : List (List Cell)} (h : IsParts cs ps) : ps.Nodup := h.ord.imp fun {p q} ⟨a, b, ha, hb, lt⟩ e => by
  subst e
  rw [ha] at hb
  have := Option.some.inj hb
  subst this
  rw [cLt_irr] at lt
  cases lt
theorem parts_uniq {cs : List Cell} {ps qs : List (List Cell)} (h : IsParts cs ps) (k : IsParts cs qs) : ps = qs := by
  refine List.Perm.eq_of_pairwise (le := fun p q => ∃ a b, p.head? = some a ∧ q.head? = some b ∧ cLt a b = true) (fun p q _ _ ⟨a, b, ha, hb, lt⟩ ⟨c, d, hc, hd, lt2⟩ => ?_) h.ord k.ord ((List.perm_ext_iff_of_nodup h.nodup k.nodup).mpr fun p => ⟨h.sub k p, k.sub h p⟩)
  rw [ha] at hd
  rw [hb] at hc
  have e1 := Option.some.inj hd
  have e2 := Option.some.inj hc
  subst e1 e2
  rw [cLt_asym lt] at lt2
  cases lt2
theorem parts_perm {cs ds : List Cell} {ps : List (List Cell)} (h : IsParts cs ps) (m : ∀ x, x ∈ cs ↔ x ∈ ds) : IsParts ds ps := by
  have r : ∀ {a b : Cell}, Reach cs a b ↔ Reach ds a b := fun {a b} => by
    constructor
    · intro k
      induction k with
      | refl => exact .refl
      | step _ hb hc ih => exact ih.step hb ((m _).mp hc)
    · intro k
      induction k with
      | refl => exact .refl
      | step _ hb hc ih => exact ih.step hb ((m _).mpr hc)
  exact ⟨h.asc, fun p hp x hx => ⟨(m x).mp (h.cls p hp x hx).1, fun y => by rw [(h.cls p hp x hx).2 y, r]⟩, fun x hx => h.cov x ((m x).mpr hx), h.ord⟩
end Sq

set_option Elab.async false
set_option linter.all false
set_option maxRecDepth 100000
set_option maxHeartbeats 4000000
/-! A value that is locked for good behind its making; in, for a text and a list of texts. -/
namespace Sq
open PySem PySem.Spec PyProof.Rows L2
/-- what e gives is locked from here on -/
def tFreeze (t : TE) : TE := fun σ H Q => t σ H fun x H1 => ∃ d u, x = .ref d ∧ H1 d = some u ∧ Mut (some u) ∧ ∀ od, Q (.ref d) (upd H1 d (.frz od u))
theorem pe_freeze {X : Cx} {e : Expr} {t : TE} (h : PE X e t) : PE X e (tFreeze t) := by
  refine ⟨fun pins s σ H Q I hw => thn (h.run pins s σ H _ I hw) fun v z ⟨x, H1, I1, r, d, u, ex, hd, mu, q⟩ => ?_⟩
  subst ex
  obtain ⟨od, I2⟩ := I1.lock hd mu
  exact ⟨.ref d, _, I2, r, q od⟩
end Sq

set_option Elab.async false
set_option linter.all false
set_option maxRecDepth 100000
set_option maxHeartbeats 4000000
/-! dict(pairs) of a list of pairs of unlike tuples and values. -/
namespace Sq
open PySem PySem.Spec PyProof PyProof.Rows L2
/-- a walk as the comprehensions ask for it -/
theorem w_ofR {J : It} {n : Nat} {Gd : Hp → Prop} {Y : Nat → Hp → V → Hp → Prop} (w : Walk J n Gd Y) {H1 : Hp} {Qd : Hp → Prop} {St : V → Hp → (Hp → Prop) → Prop} (Pv : Nat → Hp → Prop) (h0 : Pv 0 H1) (hG : ∀ i G, i ≤ n → Pv i G → Gd G)
    (hs : ∀ i x G G', i < n → Pv i G → Y i G x G' → St x G' (Pv (i + 1))) (hd : ∀ G, Pv n G → Qd G) : ∃ W : Nat → Nat → Hp → Prop, (∃ m, W 0 m H1) ∧ ∀ i m H, W i m H →
      (J.stop i H ∧ Qd H) ∨ (J.go i H ∧ ∃ Nx : Hp → Prop, (∀ H', Nx H' → ∃ m', m' < m ∧ W (i + 1) m' H') ∧ ∀ x H', J.yld i H x H' → St x H' Nx) := by
  refine ⟨fun i m H => m = n - i ∧ i ≤ n ∧ Pv i H, ⟨n, rfl, Nat.zero_le _, h0⟩, ?_⟩
  rintro i m H ⟨rfl, hi, p⟩
  by_cases lt : i < n
  · exact .inr ⟨w.goes i H lt (hG i H hi p), Pv (i + 1), fun H' p' => ⟨n - (i + 1), by omega, rfl, lt, p'⟩, fun x H' y => hs i x H H' lt p (w.yields i H x H' lt (hG i H hi p) y)⟩
  · obtain rfl : i = n := Nat.le_antisymm hi (Nat.le_of_not_lt lt)
    exact .inl ⟨w.stops H (hG i H hi p), hd H p⟩
theorem storedAll_new {xs : List (List Key × Addr × Value)} : ∀ {ps acc : List (List Key × Addr × Value)}, ((acc ++ ps).map (·.1)).Nodup → PySem.storedAllH acc ps = acc ++ ps
  | [], acc, _ => (List.append_nil acc).symm
  | p :: ps, acc, nd => by
    have n1 : p.1 ∉ acc.map (·.1) := fun m => by
      rw [List.map_append, List.map_cons] at nd
      exact (List.nodup_append.mp nd).2.2 _ m _ (List.mem_cons_self ..) rfl
    have e : PySem.atKey acc p.1 = none := by
      unfold PySem.atKey
      rw [Option.map_eq_none_iff, List.find?_eq_none]
      intro x hx q
      exact n1 (List.mem_map.mpr ⟨x, hx, of_decide_eq_true q⟩)
    have e2 : acc ++ p :: ps = (acc ++ [p]) ++ ps := by rw [List.append_assoc]; rfl
    rw [e2]
    refine Eq.trans ?_ (storedAll_new (xs := xs) (ps := ps) (acc := acc ++ [p]) (by rw [← e2]; exact nd))
    show PySem.storedAllH (PySem.storedH acc p.1 p.2.1 p.2.2) ps = _
    rw [PySem.storedH_new e]
/-- a new pair of a tuple of keys and a value -/
def PrAt (H : Hp) (p : Addr) (kv : List Key × V) : Prop := ∃ q : Addr, H p = some (.tup [.ref q, kv.2]) ∧ H q = some (.tup (kv.1.map kV))
/-- dict(l) -/
def rDictT (K : PySem.W.Frag) : List V → Hp → VK → Prop := fun vs H Q => ∃ (a : Addr) (ps : List Addr) (kvs : List (List Key × V)), vs = [V.ref a] ∧ SqL K H a (ps.map V.ref) ∧ Paired (fun p kv => PrAt H p kv) ps kvs ∧ (kvs.map Prod.fst).Nodup ∧
  ∀ p, H p = none → Q (.ref p) (upd H p (.dT kvs))
section
variable {X : Cx}
theorem vals_two {x y : V} {us : List Value} (h : Vals [x, y] us) : ∃ u v, us = [u, v] ∧ RelV x u ∧ RelV y v := by
  cases h with
  | cons a t =>
    cases t with
    | cons b t2 =>
      cases t2
      exact ⟨_, _, rfl, a, b⟩
theorem vals_ref : ∀ {ps : List Addr} {us : List Value}, Vals (ps.map V.ref) us → us = ps.map Value.ref
  | [], us, h => by
    cases h
    rfl
  | p :: ps, us, h => by
    cases h with
    | cons r t => rw [show _ = Value.ref p from r, vals_ref t]; rfl
theorem pairs_at {pins : List (Addr × Obj)} {s : Shared} {σ : L2.St} {H : Hp} (I : Inv X pins σ H s) : ∀ {ps : List Addr} {kvs : List (List Key × V)}, Paired (fun p kv => PrAt H p kv) ps kvs →
    ∃ xs : List (List Key × Addr × Value), L2.KT H kvs xs ∧ xs.length = ps.length ∧ ∀ (j : Nat) (x : List Key × Addr × Value), xs[j]? = some x → ∃ p : Addr, ps[j]? = some p ∧ PySem.PairAt s.heap p (.ref x.2.1) x.2.2
  | [], [], .nil => ⟨[], .nil, rfl, by simp⟩
  | p :: ps, kv :: kvs, .cons h t => by
    obtain ⟨xs, kt, l, at_⟩ := pairs_at I t
    obtain ⟨q, e1, e2⟩ := h
    obtain ⟨its, rv, pl, hz⟩ := I.tuple (SqT.of e1)
    obtain ⟨u1, u, rfl, r1, r2⟩ := vals_two rv
    obtain rfl : u1 = Value.ref q := r1
    refine ⟨(kv.1, q, u) :: xs, .cons ⟨rfl, e2, r2⟩ kt, by rw [List.length_cons, l, List.length_cons], fun j x hj => ?_⟩
    cases j with
    | zero =>
      obtain rfl : (kv.1, q, u) = x := by simpa using hj
      exact ⟨p, rfl, .inl pl⟩
    | succ j =>
      obtain ⟨p', hp', e'⟩ := at_ j x (by simpa using hj)
      exact ⟨p', by simpa using hp', e'⟩
theorem kt_keys {H : Hp} : ∀ {kvs : List (List Key × V)} {xs : List (List Key × Addr × Value)}, L2.KT H kvs xs → kvs.map Prod.fst = xs.map (·.1)
  | [], [], .nil => rfl
  | _ :: _, _ :: _, .cons h t => by rw [List.map_cons, List.map_cons, kt_keys t, h.1]
theorem kt_mem {H : Hp} : ∀ {kvs : List (List Key × V)} {xs : List (List Key × Addr × Value)}, L2.KT H kvs xs → ∀ x ∈ xs, ∃ kv : List Key × V, kv.1 = x.1 ∧ H x.2.1 = some (.tup (kv.1.map kV))
  | [], [], .nil, x, m => by cases m
  | p :: _, q :: _, .cons h t, x, m => by
    rcases List.mem_cons.mp m with rfl | m
    · exact ⟨p, h.1, h.2.1⟩
    · exact kt_mem t x m
theorem call_dictT (calm : X.calm = true) (hu : X.A.units + 64 < cLine) : CallR X (.type "dict") (rDictT X.K) := by
  intro pins s σ H vs us Q I r h
  obtain ⟨a, ps, kvs, rfl, hs, pr, nd, q⟩ := h
  rw [Vals.ref1 r]
  obtain ⟨its, rv, pl, hz⟩ := I.list hs
  have ei := vals_ref rv
  subst ei
  rw [List.length_map] at hz
  obtain ⟨xs, kt, lx, at_⟩ := pairs_at I pr
  obtain ⟨o, n, ho, hc, hd, hdat⟩ := pl
  have ndx : (xs.map (·.1)).Nodup := by
    rw [← kt_keys kt]
    exact nd
  have hx : ∀ x ∈ xs, (tupleKind (mixKind X.prog X.w)).is s.heap x.1 x.2.1 := fun x hx => by
    obtain ⟨kv, e1, e2⟩ := kt_mem kt x hx
    exact key_of I.hok (by rw [← e1]; exact e2)
  have lk : kvs.length = xs.length := by
    have := congrArg List.length (kt_keys kt)
    rwa [List.length_map, List.length_map] at this
  have room : (tupleKind (mixKind X.prog X.w)).room X.A.in1.in1 := tupleKind_room_in1 (A := X.A.in1) (by
    have e : X.A.in1.units = X.A.units + 1 := rfl
    omega)
  let Ts : Nat → Addr := fun j => ps.getD j 0
  have items : PySem.PairItems s.heap (ps.map Value.ref).toArray Ts (xs.map fun x => (Value.ref x.2.1, x.2.2)) := by
    refine ⟨by simp [lx], fun j k v hj => ?_⟩
    rw [List.getElem?_map] at hj
    obtain ⟨x, hx, e⟩ := Option.map_eq_some_iff.mp hj
    obtain ⟨p, hp, pa⟩ := at_ j x hx
    have e1 : Ts j = p := by
      show ps.getD j 0 = p
      rw [List.getD_eq_getElem?_getD, hp]
      rfl
    obtain ⟨rfl, rfl⟩ := Prod.mk.inj e
    rw [e1]
    exact ⟨by simp [hp], pa⟩
  refine PySem.call_dict_pairsH (knd := tupleKind (mixKind X.prog X.w)) (ps := xs) (PySem.PairArg.list a _ Ts _) (I.ok.hd calm) room ⟨⟨o, n, ho, hc, hd, hdat⟩, items⟩ ⟨by rw [List.length_map], fun i key v hr => ?_⟩ (fun h' hk x hm => ?_) (by rw [List.length_map, lx]; exact hz) fun h' tk hd' hk => ?_
  · have hr : (xs.map fun x => (Value.ref x.2.1, x.2.2))[i]? = some (key, v) := hr
    rw [List.getElem?_map] at hr
    obtain ⟨x, hx, e⟩ := Option.map_eq_some_iff.mp hr
    obtain ⟨rfl, rfl⟩ := Prod.mk.inj e
    exact ⟨x.1, x.2.1, hx, rfl⟩
  · exact (PySem.tupleKind_stays (knd := mixKind X.prog X.w)).stays (fun b o vs n e _ => hk b o (Nat.ne_of_lt (Heap.lt_size e)) (by simp) e) (hx x hm)
  · rw [storedAll_new (xs := []) (by simpa using ndx)] at hd'
    obtain ⟨o', es, ep, e1, e2, e3, e4, _, _⟩ := hd'
    have hm : (s.heap.objs.size == sysModules) = false := beq_eq_false_iff_ne.mpr (Nat.ne_of_gt I.big)
    have kt' : L2.KT (upd H s.heap.objs.size (.dT kvs)) kvs xs := L2.Paired.mapP kt fun a b h => ⟨h.1, by
      rw [upd_ne (fun z => by
        have := I.hok.fresh (a := s.heap.objs.size) (Nat.le_refl _)
        rw [← z, h.2.1] at this
        cases this)]
      exact h.2.1, h.2.2⟩
    exact ⟨.ref s.heap.objs.size, upd H s.heap.objs.size (.dT kvs), I.laid (t' := tk) (fun b o e => hk b o (by simp) e) (Nat.le_refl _) (show ObjOk X.prog X.w _ _ _ (.dT kvs) from ⟨by omega, hm, xs, kt', o', es, ep, e1, e2, e3, e4, ndx⟩), rfl, q _ (I.hok.fresh (Nat.le_refl _))⟩
end
end Sq

set_option Elab.async false
set_option linter.all false
set_option maxRecDepth 100000
set_option maxHeartbeats 4000000
/-! list(d.keys()), d a dict with tuples as keys. -/
namespace Sq
open PySem PySem.Spec PySem.Calls PyProof PyProof.Rows L2
/-- the keys of the dict at d, seen by the object at v -/
def KeysO (v d : Addr) : HO := .ext fun h => PySem.W.KdlKeysView h v d
section
variable {X : Cx} {e : Expr} {td : TE} {apos cpos : Pos}
def tKeysV (td : TE) : TE := fun σ H Q => td σ H fun x H1 => ∃ (d : Addr) (kvs : List (List Key × V)), x = .ref d ∧ H1 d = some (.dT kvs) ∧ ∀ v, H1 v = none → Q (.ref v) (upd H1 v (KeysO v d))
theorem pe_keysV (he : PE X e td) (hbase : attributeBase e "keys" X.env (eval e X.env) = eval e X.env := by rfl) (hline : (apos.endLine == cpos.line) = true := by rfl) : PE X (.Call (.Attribute e "keys" apos) [] [] cpos) (tKeysV td) := by
  refine ⟨fun pins s σ H Q I h => ?_⟩
  refine wpAny_Call_method (T := "dict") (id := "dict.keys") hbase rfl hline F.plainAttrs_dict F.slot_dict_keys F.type_dict_keys (thn (he.run pins s σ H _ I h) fun u s1 ⟨x, H1, I1, rx, d, kvs, ex, hd, q⟩ => ?_)
  subst ex
  obtain rfl : u = Value.ref d := rx
  obtain ⟨z, hs, ks, pr, o, es, ep, ho, hx, hdt, he2, hn⟩ := (show ObjOk X.prog X.w H1 s1.heap d (.dT kvs) from I1.hok d _ hd)
  have hm : s1.heap.DictRaw d es ep := ⟨o, ho, hx, hdt⟩
  refine ⟨hm.typeIs, fun a ea => ⟨o, by cases ea; exact ho, hx.2.1⟩, ?_⟩
  show wpAny _ _ (callWith cpos (.builtin "dict.keys") [.ref d] [] []) _ X.xe s1
  refine method_meetsIn F.slot_dict_keys F.entry_dict_keys rfl (PySem.evalArgs_none ⟨rfl, hm.typeIs, F.args_dict_keys_1 _, _, PySem.meets_dict_keys_raw d hs, ⟨es, ep, hm⟩, ?_⟩)
  have hnone := I1.hok.fresh (a := s1.heap.objs.size) (Nat.le_refl _)
  refine ⟨.ref s1.heap.objs.size, upd H1 s1.heap.objs.size (KeysO s1.heap.objs.size d), I1.laid (t' := s1.toks) (fun b o e => Heap.get?_push_of_some _ e) (Nat.le_refl _) ?_, rfl, q _ hnone⟩
  refine ⟨⟨_, Heap.get?_push_size _ rfl, rfl, rfl⟩, ⟨_, Heap.get?_push_size _ rfl⟩, fun h1 h2 ⟨o, e, r⟩ k => ⟨o, k _ e, r⟩⟩
theorem call_list_keys (hc : X.calm = true) : CallR X (.type "list") (fun xs H Q => ∃ (v d : Addr) (kvs : List (List Key × V)), xs = [V.ref v] ∧ H v = some (KeysO v d) ∧ H d = some (.dT kvs) ∧ ∀ p bs, H p = none → IsKeys H kvs bs → Q (.ref p) (upd H p (.lst (bs.map V.ref)))) := by
  intro pins s σ H xs us Q I r h
  obtain ⟨v, d, kvs, rfl, hv, hd, q⟩ := h
  obtain ⟨u, rfl, rx⟩ := r.one
  cases rx
  obtain ⟨hvw, _, _⟩ := (show ObjOk X.prog X.w H s.heap v (KeysO v d) from I.hok v _ hv)
  obtain ⟨z, hs, ks, pr, o, es, ep, ho, hx, hdt, he, hn⟩ := (show ObjOk X.prog X.w H s.heap d (.dT kvs) from I.hok d _ hd)
  have hm : s.heap.DictRaw d es ep := ⟨o, ho, hx, hdt⟩
  have l1 : es.size = ks.length := by
    have := congrArg List.length he
    simpa using this
  have l2 : kvs.length = ks.length := Paired.length pr
  refine PySem.W.kdl_call (PySem.KdlSrc.rawKeys) (I.ok.hd hc) ⟨hvw, hm⟩ (by omega) fun h' tk acc' c' kp e it => ?_
  have ea : acc'.toList = ks.map fun x => Value.ref x.2.1 := by
    have hl : acc'.toList.length = ks.length := by rw [Array.length_toList, it.1]; exact l1
    apply List.ext_getElem?
    intro j
    rw [List.getElem?_map]
    cases hj : acc'.toList[j]? with
    | none =>
      have h1 := List.getElem?_eq_none_iff.mp hj
      rw [List.getElem?_eq_none (by omega)]
      all_goals rfl
    | some v =>
      obtain ⟨hi, hv⟩ := it.2 j v (by rw [← Array.getElem?_toList]; exact hj)
      have qe := entry_at he j
      rw [Array.getElem?_eq_getElem hi] at qe
      cases hb : ks[j]? with
      | none =>
        rw [hb] at qe
        exact nomatch qe
      | some b =>
        rw [hb] at qe
        have e2 : es[j] = entryOfKey (tupleKind (mixKind X.prog X.w)) b := Option.some.inj qe
        rw [hv, e2]
        all_goals rfl
  have eb : acc'.toList = (ks.map fun x => x.2.1).map Value.ref := by rw [ea, List.map_map]; all_goals rfl
  have rv : Vals ((ks.map fun x => x.2.1).map V.ref) acc'.toList := by rw [eb]; exact L2.vals_refs _
  have hz : ((ks.map fun x => x.2.1).map V.ref).length ≤ sizeLine := by rw [List.length_map, List.length_map]; omega
  refine ⟨.ref s.heap.objs.size, _, I.laid (t' := tk) (o := .lst ((ks.map fun x => x.2.1).map V.ref)) kp (Nat.le_refl _) ?_, rfl, q _ _ (I.hok.fresh (Nat.le_refl _)) (isKeys_of pr)⟩
  exact ⟨hz, acc'.toList, c', rv, by rw [Array.toArray_toList]; exact e⟩
end
end Sq

set_option Elab.async false
set_option linter.all false
set_option maxRecDepth 100000
set_option maxHeartbeats 4000000
/-! d == {}, d a dict with tuples as keys. -/
namespace Sq
open PySem PySem.Spec PySem.Calls PyProof PyProof.Rows L2
section
variable {prog : Program} {w : World} {A : Around} {E : Value → Shared → Prop} {s : Shared}
/-- the entries of a dict, raw -/
def RawD (h : Heap) (a : Addr) (n : Nat) : Prop := ∃ (o : Obj) (es : Array DictEntry) (ep : Nat), h.get? a = some o ∧ o.ExactDict ∧ o.data = .dict es ep ∧ es.size = n
theorem RawD.typeIs {a : Addr} {n : Nat} (h : RawD s.heap a n) : s.TypeIs (.ref a) "dict" := by
  obtain ⟨o, es, ep, ho, hx, _⟩ := h
  exact ⟨o, ho, hx.1⟩
theorem pairs_empty {nm : String} {a b : Addr} {n : Nat} {Q : Bool → Shared → Prop} (ha : (a == sysModules) = false) (hb : (b == sysModules) = false) (da : RawD s.heap a n) (db : RawD s.heap b 0) (h : Q (decide (n = 0)) s) :
    wpAny (model prog w) A (Builtin.Dict.samePairs nm a b) Q E s := by
  obtain ⟨oa, es, ep, hoa, _, hda, rfl⟩ := da
  obtain ⟨ob, es', ep', hob, _, hdb, hz⟩ := db
  unfold Builtin.Dict.samePairs Builtin.Dict.showsAll
  rw [if_neg (show ¬ (a == sysModules) = true by rw [ha]; exact Bool.false_ne_true), if_neg (show ¬ (b == sysModules) = true by rw [hb]; exact Bool.false_ne_true)]
  refine wpAny_bind (wpAny_pure (wpAny_bind (wpAny_pure ?_)))
  refine wpAny_bind (wpAny_dictEntries hoa hda ?_)
  dsimp only
  refine wpAny_bind (wpAny_dictEntries hob hdb ?_)
  rw [hz]
  by_cases hsz : es.size = 0
  case neg =>
    rw [if_pos (by simpa using hsz)]
    rw [decide_eq_false hsz] at h
    exact wpAny_bind (wpAny_rule (wpAny_pure h))
  case pos =>
    rw [decide_eq_true hsz] at h
    rw [if_neg (by rw [hsz]; simp)]
    refine wpAny_bind (wpAny_dictEpoch hoa hda ?_)
    refine wpAny_bind ?_
    rw [Std.Legacy.Range.forIn_eq_forIn_range']
    simp only [Std.Legacy.Range.size, Nat.sub_zero, Nat.add_sub_cancel, Nat.div_one, hsz]
    exact wpAny_pure (wpAny_pure h)
end
section
variable {X : Cx}
def rEqE : R2 := fun x y H Q => ∃ (a b : Addr) (kvs : List (List Key × V)), x = .ref a ∧ y = .ref b ∧ H a = some (.dT kvs) ∧ H b = some (.dT []) ∧ Q (.bl (decide (kvs = []))) H
theorem raw_dT {pins : List (Addr × Obj)} {s : Shared} {σ : L2.St} {H : Hp} {a : Addr} {kvs : List (List Key × V)} (I : Inv X pins σ H s) (e : H a = some (.dT kvs)) : (a == sysModules) = false ∧ RawD s.heap a kvs.length := by
  obtain ⟨_, y, xs, r, o, es, ep, h1, h2, h3, h4, _⟩ := (show ObjOk X.prog X.w H s.heap a (.dT kvs) from I.hok a _ e)
  refine ⟨y, o, es, ep, h1, h2, h3, ?_⟩
  have l1 := congrArg List.length h4
  rw [List.length_map] at l1
  have l2 := Paired.length r
  simpa [l2] using l1
theorem op_eqE (hu : X.A.units + 64 < cLine) : OpR X (compareOp .Eq) rEqE := by
  intro pins s σ H x y v u Q I rx ry h
  obtain ⟨a, b, kvs, rfl, rfl, ea, eb, q⟩ := h
  obtain rfl : v = Value.ref a := rx
  obtain rfl : u = Value.ref b := ry
  obtain ⟨ya, da⟩ := raw_dT I ea
  obtain ⟨yb, db⟩ := raw_dT I eb
  have hu2 : X.A.units < cLine := by omega
  refine wpAny_richCompare_same_room (op := .Eq) da.typeIs db.typeIs PySem.F.slot_dict_eq (wpAny_call_entry PySem.F.slot_dict_eq da.typeIs PySem.F.entry_dict_eq ?_ (PySem.F.args_dict_eq_2 _ _)) hu2
  show wpAny _ _ (Builtin.Dict.dictSlotArgs "__eq__" ⟨[.ref a, .ref b], []⟩ >>= _) _ _ s
  refine wpAny_bind ?_
  unfold Builtin.Dict.dictSlotArgs
  refine wpAny_bind (wpAny_notOrdered_dict da.typeIs ?_)
  show wpAny _ _ (pure (Value.ref a, Value.ref b)) _ _ s
  refine wpAny_pure ?_
  refine wpAny_bind (wpAny_isInstance (T := "dict") db.typeIs PySem.F.sub_dict_dict ?_)
  simp only [Bool.not_true, Bool.false_eq_true, if_false]
  refine wpAny_bind (wpAny_pure (wpAny_bind (wpAny_pure ?_)))
  refine wpAny_bind (pairs_empty ya yb da db ?_)
  refine wpAny_pure ⟨_, rfl, ?_, ?_⟩
  · exact fun x => nomatch x
  · exact fin_bl I q (by simp)
end
end Sq

set_option Elab.async false
set_option linter.all false
set_option maxRecDepth 100000
set_option maxHeartbeats 4000000
/-! Dicts whose keys are nested tuples. -/
namespace Sq
open PySem PySem.Spec PyProof.Rows L2
abbrev NK := NestedKey
mutual
/-- the key that a datum is -/
def nkD : PyData → NK
  | .none => .none
  | .bool b => .num (if b = true then 1 else 0)
  | .int i => .num i
  | .str x => .text x
  | .tuple ds => .tup (nkAll ds)
  | .list _ => .none
  | .dict _ => .none
def nkAll : List PyData → List NK
  | [] => []
  | d :: ds => nkD d :: nkAll ds
end
mutual
def keyD : PyData → Bool
  | .list _ => false
  | .dict _ => false
  | .tuple ds => keyAll ds
  | _ => true
def keyAll : List PyData → Bool
  | [] => true
  | d :: ds => keyD d && keyAll ds
end
mutual
theorem reads_nk {h : Heap} : ∀ (d : PyData) (v : Value) (as : List Addr), keyD d = true → Reads h v d as → NestedIs h (nkD d) v
  | .none, _, _, _, r => by cases r; exact .none
  | .bool b, _, _, _, r => by cases r; exact .bool rfl
  | .int i, _, _, _, r => by cases r; exact .int ..
  | .str x, _, _, _, r => by cases r; exact .text ..
  | .tuple ds, _, _, k, r => by
    cases r with
    | tuple ho hc hd hr => exact .tup ho hc hd (reads_nkAll ds _ _ (by simpa [keyD] using k) hr)
  | .list _, _, _, k, _ => by simp [keyD] at k
  | .dict _, _, _, k, _ => by simp [keyD] at k
theorem reads_nkAll {h : Heap} : ∀ (ds : List PyData) (vs : List Value) (as : List Addr), keyAll ds = true → ReadsAll h vs ds as → NestedAll h (nkAll ds) vs
  | [], _, _, _, r => by cases r; exact .nil
  | d :: ds, _, _, k, r => by
    cases r with
    | cons r1 r2 =>
      rw [keyAll, Bool.and_eq_true] at k
      exact .cons (reads_nk d _ _ k.1 r1) (reads_nkAll ds _ _ k.2 r2)
end
/-- the tuple at b is the key k -/
structure NAt (K : PySem.W.Frag) (H : Hp) (b : Addr) (k : NK) : Prop where
  ex : ∃ d, Dp K H (.ref b) d ∧ keyD d = true ∧ nkD d = k
  dep : k.depth ≤ 8
abbrev NEnt := Addr × NK × V
def ofN (P : Program) (w : World) (l : NEnt) (x : NK × Addr × Value) : Prop := x.1 = l.2.1 ∧ x.2.1 = l.1 ∧ RelV l.2.2 x.2.2
/-- a dict with these entries stands at a -/
def DNO (P : Program) (w : World) (a : Addr) (L : List NEnt) : HO := .ext fun h => L.length ≤ sizeLine ∧ (a == sysModules) = false ∧ ∃ (xs : List (NK × Addr × Value)) (o : Obj) (es : Array DictEntry) (ep : Nat), Paired (ofN P w) L xs ∧ h.get? a = some o ∧ o.ExactDict ∧ o.data = .dict es ep ∧ es.toList = xs.map (entryOfKey (nestedKind P w)) ∧ (xs.map (·.1)).Nodup
def DN (P : Program) (w : World) (H : Hp) (a : Addr) (L : List NEnt) : Prop := H a = some (DNO P w a L) ∨ (L = [] ∧ H a = some (.dT []))
def valN (L : List NEnt) (k : NK) : Option V := (L.find? fun l => decide (l.2.1 = k)).map (·.2.2)
def putN (L : List NEnt) (b : Addr) (k : NK) (v : V) : List NEnt := if (L.any fun l => decide (l.2.1 = k)) = true then L.map fun l => if l.2.1 = k then (l.1, l.2.1, v) else l else L ++ [(b, k, v)]
theorem dno_stab {P : Program} {w : World} {a : Addr} {L : List NEnt} {h1 h2 : Heap} (x : ∃ (xs : List (NK × Addr × Value)) (o : Obj) (es : Array DictEntry) (ep : Nat), Paired (ofN P w) L xs ∧ h1.get? a = some o ∧ o.ExactDict ∧ o.data = .dict es ep ∧ es.toList = xs.map (entryOfKey (nestedKind P w)) ∧ (xs.map (·.1)).Nodup) (k : ∀ o, h1.get? a = some o → h2.get? a = some o) :
    ∃ (xs : List (NK × Addr × Value)) (o : Obj) (es : Array DictEntry) (ep : Nat), Paired (ofN P w) L xs ∧ h2.get? a = some o ∧ o.ExactDict ∧ o.data = .dict es ep ∧ es.toList = xs.map (entryOfKey (nestedKind P w)) ∧ (xs.map (·.1)).Nodup := by
  obtain ⟨xs, o, es, ep, p, e, r⟩ := x
  exact ⟨xs, o, es, ep, p, k o e, r⟩
theorem ofN_mem {P : Program} {w : World} {L : List NEnt} {xs : List (NK × Addr × Value)} (pr : Paired (ofN P w) L xs) : ∀ x ∈ xs, ∃ l ∈ L, ofN P w l x := by
  induction pr with
  | nil => intro x hx; cases hx
  | cons r _ ih =>
    intro x hx
    rcases List.mem_cons.mp hx with z | z
    · exact ⟨_, List.mem_cons_self .., z ▸ r⟩
    · obtain ⟨l, hl, q⟩ := ih x z
      exact ⟨l, List.mem_cons_of_mem _ hl, q⟩
theorem ofN_val {P : Program} {w : World} {k : NK} {L : List NEnt} {xs : List (NK × Addr × Value)} (pr : Paired (ofN P w) L xs) : (valN L k = none ∧ atKey xs k = none) ∨ ∃ v p, valN L k = some v ∧ atKey xs k = some p ∧ RelV v p.2 := by
  induction pr with
  | nil => exact .inl ⟨rfl, rfl⟩
  | @cons l x L xs r _ ih =>
    obtain ⟨e1, e2, e3⟩ := r
    unfold valN atKey at ih ⊢
    rw [List.find?_cons, List.find?_cons, e1]
    by_cases h : l.2.1 = k
    · rw [decide_eq_true h]
      exact .inr ⟨_, _, rfl, rfl, e3⟩
    · rw [decide_eq_false h]
      exact ih
theorem valN_any {L : List NEnt} {k : NK} : (L.any fun l => decide (l.2.1 = k)) = (valN L k).isSome := by
  unfold valN
  rw [Option.isSome_map]
  induction L with
  | nil => rfl
  | cons l L ih =>
    rw [List.any_cons, List.find?_cons]
    by_cases h : l.2.1 = k
    · rw [decide_eq_true h]
      rfl
    · rw [decide_eq_false h, Bool.false_or]
      exact ih
theorem ofN_put {P : Program} {w : World} {k : NK} {b : Addr} {v : V} {r : Value} {L : List NEnt} {xs : List (NK × Addr × Value)} (pr : Paired (ofN P w) L xs) (rv : RelV v r) : Paired (ofN P w) (putN L b k v) (storedH xs k b r) := by
  unfold putN storedH
  rw [valN_any]
  rcases ofN_val (k := k) pr with ⟨h1, h2⟩ | ⟨v', p, h1, h2, _⟩
  · rw [h1, h2]
    exact pr.snoc ⟨rfl, rfl, rv⟩
  · rw [h1, h2]
    show Paired _ (L.map _) (xs.map _)
    clear h1 h2
    induction pr with
    | nil => exact .nil
    | @cons l x L xs q _ ih =>
      refine .cons ?_ ih
      obtain ⟨e1, e2, e3⟩ := q
      unfold putAt
      dsimp only
      by_cases h : l.2.1 = k
      · rw [if_pos h, if_pos (e1.trans h)]
        exact ⟨e1, e2, rv⟩
      · rw [if_neg h, if_neg (fun z => h (e1 ▸ z))]
        exact ⟨e1, e2, e3⟩
theorem putN_len {L : List NEnt} {b : Addr} {k : NK} {v : V} : (putN L b k v).length ≤ L.length + 1 := by
  unfold putN
  split
  · rw [List.length_map]
    exact Nat.le_succ _
  · rw [List.length_append]
    exact Nat.le_refl _
section
variable {X : Cx} {pins : List (Addr × Obj)} {σ : L2.St} {H : Hp} {s : Shared} {a b : Addr} {k : NK} {L : List NEnt}
theorem nat_is (I : Inv X pins σ H s) (h : NAt X.K H b k) : (nestedKind X.prog X.w).is s.heap k b := by
  obtain ⟨d, dp, kd, e⟩ := h.ex
  obtain ⟨as, r⟩ := Dp.reads I d _ (.ref b) dp rfl
  exact ⟨e ▸ reads_nk d _ as kd r, h.dep⟩
theorem dn_of (I : Inv X pins σ H s) (h : DN X.prog X.w H a L) (hk : ∀ l ∈ L, NAt X.K H l.1 l.2.1) : L.length ≤ sizeLine ∧ (a == sysModules) = false ∧ ∃ xs, Paired (ofN X.prog X.w) L xs ∧ s.heap.DictOfH (nestedKind X.prog X.w) a xs := by
  rcases h with e | ⟨rfl, e⟩
  · obtain ⟨⟨z, hs, xs, o, es, ep, pr, ho, hx, hd, he, hn⟩, _, _⟩ := I.hok a _ e
    refine ⟨z, hs, xs, pr, o, es, ep, ho, hx, hd, he, fun x hx => ?_, hn⟩
    obtain ⟨l, hl, e1, e2, _⟩ := ofN_mem pr x hx
    rw [e1, e2]
    exact nat_is I (hk l hl)
  · obtain ⟨z, hs, xs, rel, o, es, ep, ho, hx, hd, he, his, hn⟩ := dt_of I.hok e
    cases rel
    exact ⟨Nat.zero_le _, hs, [], .nil, o, es, ep, ho, hx, hd, he, by simp, List.nodup_nil⟩
theorem dno_ok {P : Program} {w : World} {H' : Hp} {h' : Heap} {L : List NEnt} {xs : List (NK × Addr × Value)} {a : Addr} (z : L.length ≤ sizeLine) (hs : (a == sysModules) = false) (pr : Paired (ofN P w) L xs) (dd : h'.DictOfH (nestedKind P w) a xs) : ObjOk P w H' h' a (DNO P w a L) := by
  obtain ⟨o, es, ep, ho, hx, hd, he, _, hn⟩ := dd
  exact ⟨⟨z, hs, xs, o, es, ep, pr, ho, hx, hd, he, hn⟩, ⟨o, ho⟩, fun h1 h2 q k => ⟨q.1, q.2.1, dno_stab q.2.2 k⟩⟩
theorem dn_mut (h : DN X.prog X.w H a L) : Mut (H a) := by
  rcases h with e | ⟨_, e⟩ <;> rw [e] <;> exact True.intro
theorem dn_put {Q : Unit → Shared → Prop} {E : Value → Shared → Prop} {v : V} {r : Value} (hu : X.A.units + 64 < cLine) (I : Inv X pins σ H s) (h : DN X.prog X.w H a L) (hk : ∀ l ∈ L, NAt X.K H l.1 l.2.1) (kb : NAt X.K H b k) (rv : RelV v r) (big : (putN L b k v).length ≤ sizeLine)
    (q : ∀ s', Inv X pins σ (upd H a (DNO X.prog X.w a (putN L b k v))) s' → Q () s') : wpAny (model X.prog X.w) X.A (setItem (.ref a) (.ref b) r) Q E s := by
  obtain ⟨z, hs, xs, pr, dd⟩ := dn_of I h hk
  refine wpAny_setItem_heap (hsz := by rw [← Paired.length pr]; exact z) (show (nestedKind X.prog X.w).room X.A.in1 from by show X.A.in1.units + 8 < cLine; show X.A.units + 1 + 8 < cLine; omega) (nat_is I kb) dd fun h' dd' same => q _ ?_
  obtain ⟨o2, es, ep, ho, _⟩ := id dd'
  exact d_write I (dn_mut h) same ⟨o2, ho⟩ (dno_ok big hs (ofN_put pr rv) dd')
def rInN (P : Program) (w : World) (K : PySem.W.Frag) (neg : Bool) : R2 := fun x y H Q => ∃ (a b : Addr) (k : NK) (L : List NEnt), x = .ref b ∧ y = .ref a ∧ DN P w H a L ∧ (∀ l ∈ L, NAt K H l.1 l.2.1) ∧ NAt K H b k ∧ Q (.bl (if neg = true then !(valN L k).isSome else (valN L k).isSome)) H
theorem dn_some (I : Inv X pins σ H s) {xs : List (NK × Addr × Value)} (pr : Paired (ofN X.prog X.w) L xs) (k : NK) : (atKey xs k).isSome = (valN L k).isSome := by
  rcases ofN_val (k := k) pr with ⟨h1, h2⟩ | ⟨v, p, h1, h2, _⟩ <;> rw [h1, h2] <;> rfl
theorem op_inN (hu : X.A.units + 64 < cLine) : OpR X (compareOp .In) (rInN X.prog X.w X.K false) := by
  rintro pins s σ H x y v u Q I rx ry ⟨a, b, k, L, rfl, rfl, h, hk, kb, q⟩
  obtain rfl : v = Value.ref b := rx
  obtain rfl : u = Value.ref a := ry
  obtain ⟨z, hs, xs, pr, dd⟩ := dn_of I h hk
  refine wpAny_in_heap (show (nestedKind X.prog X.w).room X.A.in1 from by show X.A.units + 1 + 8 < cLine; omega) (nat_is I kb) hs dd ⟨.bl _, H, I.tok _, rfl, ?_⟩
  rw [dn_some I pr]
  exact q
theorem op_notInN (hu : X.A.units + 64 < cLine) : OpR X (compareOp .NotIn) (rInN X.prog X.w X.K true) := by
  rintro pins s σ H x y v u Q I rx ry ⟨a, b, k, L, rfl, rfl, h, hk, kb, q⟩
  obtain rfl : v = Value.ref b := rx
  obtain rfl : u = Value.ref a := ry
  obtain ⟨z, hs, xs, pr, dd⟩ := dn_of I h hk
  show wpAny _ _ (do return Value.bool (!(← contains (.ref a) (.ref b)))) _ _ s
  refine wpAny_bind (wpAny_contains_heap (show (nestedKind X.prog X.w).room X.A.in1 from by show X.A.units + 1 + 8 < cLine; omega) (nat_is I kb) hs dd (wpAny_pure ⟨.bl _, H, I.tok _, rfl, ?_⟩))
  rw [dn_some I pr]
  exact q
/-- d[key] -/
def tDGetN (P : Program) (w : World) (K : PySem.W.Frag) (td ty : TE) : TE := fun σ H Q => td σ H fun x H1 => ty σ H1 fun y H2 => ∃ (a b : Addr) (k : NK) (L : List NEnt) (v : V), x = .ref a ∧ y = .ref b ∧ DN P w H2 a L ∧ (∀ l ∈ L, NAt K H2 l.1 l.2.1) ∧ NAt K H2 b k ∧ valN L k = some v ∧ Q v H2
theorem pe_dgetN {o i : Expr} {pos : Pos} {td ty : TE} (hu : X.A.units + 64 < cLine) (ho : PE X o td) (hi : PE X i ty) (hs : NoSl i) : PE X (.Subscript o i pos) (tDGetN X.prog X.w X.K td ty) := by
  refine ⟨fun pins s σ H Q I h => ?_⟩
  refine subD_of PySem.F.slot_dict_getitem.lookup hs (thn (ho.run pins s σ H _ I h) fun u s1 ⟨x, H1, I1, rx, q1⟩ => thn (hi.run pins s1 σ H1 _ I1 q1) fun iv s2 ⟨y, H2, I2, ry, a, b, k, L, v, ex, ey, h2, hk, kb, l, q2⟩ => ?_)
  subst ex ey
  obtain rfl : u = Value.ref a := rx
  obtain rfl : iv = Value.ref b := ry
  obtain ⟨z, hsy, xs, pr, dd⟩ := dn_of I2 h2 hk
  refine ⟨dd.typeIs, ?_⟩
  rcases ofN_val (k := k) pr with ⟨h1, _⟩ | ⟨v', p, h1, h3, rv⟩
  · rw [h1] at l
    cases l
  · rw [h1] at l
    obtain rfl := Option.some.inj l
    exact wpAny_getItem_heap (show (nestedKind X.prog X.w).room X.A.in1 from by show X.A.units + 1 + 8 < cLine; omega) (nat_is I2 kb) dd h3 ⟨v', H2, I2.tok _, rv, q2⟩
/-- d[key] = value -/
def sDPutN (P : Program) (w : World) (K : PySem.W.Frag) (td ty tv : TE) : TS := fun D σ H => tv σ H fun v H1 => td σ H1 fun x H2 => ty σ H2 fun y H3 => ∃ (a b : Addr) (k : NK) (L : List NEnt), x = .ref a ∧ y = .ref b ∧ DN P w H3 a L ∧ (∀ l ∈ L, NAt K H3 l.1 l.2.1) ∧ NAt K H3 b k ∧ (putN L b k v).length ≤ sizeLine ∧ D.nx σ (upd H3 a (DNO P w a (putN L b k v)))
theorem ps_dputN {o i value : Expr} {pos pos' : Pos} {td ty tv : TE} (hu : X.A.units + 64 < cLine) (ho : PE X o td) (hi : PE X i ty) (hv : PE X value tv) (hs : swapsWith value (some (.Subscript o i pos')) pos.line X.env = pure false) :
    PS X (.Assign [.Subscript o i pos'] value pos) (sDPutN X.prog X.w X.K td ty tv) := by
  refine ⟨fun pins s σ H D I h => ?_⟩
  refine wpAny_Assign_Subscript (thn (hv.run pins s σ H _ I h) fun r s1 ⟨v, H1, I1, rv, q1⟩ => thn (ho.run pins s1 σ H1 _ I1 q1) fun u s2 ⟨x, H2, I2, rx, q2⟩ => thn (hi.run pins s2 σ H2 _ I2 q2) fun iv s3 ⟨y, H3, I3, ry, a, b, k, L, ex, ey, h2, hk, kb, big, q3⟩ => ?_) hs
  subst ex ey
  obtain rfl : u = Value.ref a := rx
  obtain rfl : iv = Value.ref b := ry
  exact dn_put hu I3 h2 hk kb rv big fun s4 I4 => ⟨σ, _, I4, q3⟩
end
end Sq

set_option Elab.async false
set_option linter.all false
set_option maxRecDepth 100000
set_option maxHeartbeats 4000000
/-! Dicts whose keys are nested tuples: gone through, made, sorted. -/
namespace Sq
open PySem PySem.Spec PyProof.Rows L2
section
variable {X : Cx} {pins : List (Addr × Obj)} {σ : L2.St} {H : Hp} {s : Shared} {d : Addr} {o : Obj}
/-- what a locked dict of nested keys holds -/
theorem frz_n {L : List NEnt} (I : Inv X pins σ H s) (h : H d = some (.frz o (DNO X.prog X.w d L))) :
    (d == sysModules) = false ∧ s.heap.get? d = some o ∧ o.ExactDict ∧ ∃ (es : Array DictEntry) (ep : Nat), o.data = .dict es ep ∧ es.size = L.length ∧
      ∀ (i : Nat) (l : NEnt), L[i]? = some l → ∃ en : DictEntry, es[i]? = some en ∧ en.key = .ref l.1 ∧ RelV l.2.2 en.val := by
  obtain ⟨hd, ⟨z, hs, xs, o', es, ep, pr, ho, hx, hdt, he, _⟩, _⟩ := I.hok d _ h
  rw [hd] at ho
  cases ho
  have l1 : es.size = xs.length := size_of_entries he
  have l2 : L.length = xs.length := Paired.length pr
  refine ⟨hs, hd, hx, es, ep, hdt, by omega, fun i l e => ?_⟩
  obtain ⟨b, hb, e1, e2, e3⟩ := L2.paired_get pr e
  have q := entry_at he i
  rw [hb] at q
  refine ⟨_, q, ?_, e3⟩
  show Value.ref b.2.1 = _
  rw [e2]
theorem size_n {L : List NEnt} (I : Inv X pins σ H s) (h : DN X.prog X.w H d L) : L.length ≤ sizeLine ∧ ∃ (es : Array DictEntry) (ep : Nat) (od : Obj), (d == sysModules) = false ∧ s.heap.get? d = some od ∧ od.ExactDict ∧ od.data = .dict es ep ∧ es.size = L.length ∧
      ∀ (i : Nat) (l : NEnt), L[i]? = some l → ∃ en : DictEntry, es[i]? = some en ∧ en.key = .ref l.1 ∧ RelV l.2.2 en.val := by
  rcases h with e | ⟨rfl, e⟩
  · obtain ⟨⟨z, hs, xs, o, es, ep, pr, ho, hx, hdt, he, hn⟩, _, _⟩ := I.hok d _ e
    have l1 : es.size = xs.length := size_of_entries he
    have l2 : L.length = xs.length := Paired.length pr
    refine ⟨z, es, ep, o, hs, ho, hx, hdt, by omega, fun i l e => ?_⟩
    obtain ⟨b, hb, e1, e2, e3⟩ := L2.paired_get pr e
    have q := entry_at he i
    rw [hb] at q
    refine ⟨_, q, ?_, e3⟩
    show Value.ref b.2.1 = _
    rw [e2]
  · obtain ⟨z, hs, xs, rel, o, es, ep, ho, hx, hdt, he, his, hn⟩ := dt_of I.hok e
    cases rel
    have l1 : es.size = 0 := size_of_entries he
    exact ⟨Nat.zero_le _, es, ep, o, hs, ho, hx, hdt, l1, fun i l e => by cases i <;> cases e⟩
end
/-- the keys of the locked dict at d -/
def ItN (P : Program) (w : World) (d : Addr) (o : Obj) (L : List NEnt) : It :=
  ⟨fun i H => H d = some (.frz o (DNO P w d L)) ∧ i < L.length, fun i H x H' => H' = H ∧ ∃ l, L[i]? = some l ∧ x = .ref l.1, fun i H => H d = some (.frz o (DNO P w d L)) ∧ L.length ≤ i⟩
theorem turn_keysN {P : Program} {w : World} {K : PySem.W.Frag} {tg : Expr} {d : Addr} {o : Obj} {es : Array DictEntry} {ep : Nat} {L : List NEnt} (it : Addr) (hod : o.data = .dict es ep) : Turn P w K tg (ItN P w d o L) [it] it (fun i h => h.IsKeyIter it d i L.length ep) where
  mem := by simp
  obj := fun i h st b hb => by
    have e : b = it := by simpa using hb
    subst e
    obtain ⟨oi, e, c, dd⟩ := st
    exact ⟨oi, e, fun v z => by rw [dd] at z; cases z⟩
  keep := fun i h h' st k => st.at fun oi e => k it (by simp) oi e
  item := by
    intro X hP hw hK hc i pins s σ H E I hf st hg
    subst hP hw hK
    obtain ⟨hd, hi⟩ := hg
    obtain ⟨f0, f1, f2, f3, f4, f5⟩ := hf it (by simp)
    obtain ⟨hs, hgd, hx, es', ep', hdt, hsz, ent⟩ := frz_n I hd
    obtain ⟨rfl, rfl⟩ := dict_ep hod hdt
    obtain ⟨l, hl⟩ : ∃ p, L[i]? = some p := ⟨L[i], List.getElem?_eq_getElem hi⟩
    obtain ⟨en, hen, hkey, _⟩ := ent i l hl
    refine next_key_item st hgd hdt hsz hen fun h' st' sb => ?_
    have I1 : Inv X pins σ H { s with heap := h' } := I.turned (t' := s.toks) (fun b ob hb e => (sb.2 b hb).trans e) f0 f1 f3 f4 f5
    obtain ⟨oi, e, c, dd⟩ := id st'
    exact ⟨en.key, rfl, go_of (s := { s with heap := h' }) e c dd (by decide) ⟨.ref l.1, H, I1, hkey, ⟨rfl, l, hl, rfl⟩, st', fun b hb => (hf b hb).1⟩⟩
  done := by
    intro X hP hw hK hc i pins s σ H E I hf st hg
    subst hP hw hK
    obtain ⟨hd, hi⟩ := hg
    obtain ⟨f0, f1, f2, f3, f4, f5⟩ := hf it (by simp)
    obtain ⟨hs, hgd, hx, es', ep', hdt, hsz, ent⟩ := frz_n I hd
    obtain ⟨rfl, rfl⟩ := dict_ep hod hdt
    exact next_key_end (I.ok.hd hc) st hgd hdt hsz hi fun h' eb => ⟨rfl, I.turned (t' := s.toks) (fun b ob hb e => eb b ob hb e) f0 f1 f3 f4 f5⟩
  self := fun A i s Q E st h => by
    refine wpAny_pyIter_slot st.typeIs PySem.F.slot_dict_keyiterator_iter (wpAny_call_entry PySem.F.slot_dict_keyiterator_iter st.typeIs PySem.F.entry_dict_keyiterator_iter ?_ (PySem.F.args_dict_keyiterator_iter_1 _))
    show wpAny _ _ (ret (.ref it)) _ _ s
    exact wpAny_pure ⟨_, rfl, "dict_keyiterator", _, st.typeIs, PySem.F.slot_dict_keyiterator_next.lookup, h⟩
/-- for k in d, d locked -/
def iKeysN (P : Program) (w : World) (td : TE) : TI := fun σ H R => td σ H fun x H1 => ∃ d o L, x = .ref d ∧ H1 d = some (.frz o (DNO P w d L)) ∧ R (ItN P w d o L) H1
theorem pi_keysN {X : Cx} {tg e : Expr} {td : TE} (he : PE X e td) : PI X tg e (iKeysN X.prog X.w td) := by
  refine ⟨fun pins s σ H R I h => ?_⟩
  refine thn (he.run pins s σ H _ I h) fun u s1 ⟨x, H1, I1, rx, d, o, L, ex, hd, q⟩ => ?_
  subst ex
  obtain rfl : u = Value.ref d := rx
  obtain ⟨hs, hgd, hx, es, ep, hdt, hsz, ent⟩ := frz_n I1 hd
  refine iter_keys hs hgd hx hdt (pi_one (tk := s1.toks) I1 _ (turn_keysN _ hdt) ⟨_, Heap.get?_push_size _ rfl, rfl, ?_⟩ q)
  rw [hsz] <;> rfl
/-- the store of a nested key, as displays and comprehensions make it -/
theorem dn_dictSet {X : Cx} {pins : List (Addr × Obj)} {σ : L2.St} {H : Hp} {s : Shared} {a b : Addr} {k : NK} {L : List NEnt} {Q : Unit → Shared → Prop} {E : Value → Shared → Prop} {v : V} {r : Value} (hu : X.A.units + 64 < cLine) (I : Inv X pins σ H s) (h : DN X.prog X.w H a L) (hk : ∀ l ∈ L, NAt X.K H l.1 l.2.1) (kb : NAt X.K H b k) (rv : RelV v r) (big : (putN L b k v).length ≤ sizeLine)
    (q : ∀ s', Inv X pins σ (upd H a (DNO X.prog X.w a (putN L b k v))) s' → Q () s') : wpAny (model X.prog X.w) X.A (dictSet a (.ref b) r) Q E s := by
  obtain ⟨z, hs, xs, pr, dd⟩ := dn_of I h hk
  refine wpAny_dictSet_heap (hsz := by rw [← Paired.length pr]; exact z) (show (nestedKind X.prog X.w).room X.A from by show X.A.units + 8 < cLine; omega) (nat_is I kb) dd fun h' dd' same => q _ ?_
  obtain ⟨o2, es, ep, ho, _⟩ := id dd'
  exact d_write I (dn_mut h) same ⟨o2, ho⟩ (dno_ok big hs (ofN_put pr rv) dd')
/-- {k: v}, k a nested tuple -/
def tDispN (P : Program) (w : World) (K : PySem.W.Frag) (tk tv : TE) : TE := fun σ H Q => ∀ p, H p = none → tk σ (upd H p (.dT [])) fun x H1 => tv σ H1 fun y H2 => ∃ b k, x = .ref b ∧ NAt K H2 b k ∧ H2 p = some (.dT []) ∧ Q (.ref p) (upd H2 p (DNO P w p [(b, k, y)]))
def onePairN (q : V → V → Hp → Prop) : List (V × V) → Hp → Prop
  | [p], H => q p.1 p.2 H
  | _, _ => False
theorem onePairN_of {q : V → V → Hp → Prop} {H : Hp} : ∀ {ps : List (V × V)}, onePairN q ps H → ∃ x y, ps = [(x, y)] ∧ q x y H
  | [p], h => ⟨p.1, p.2, rfl, h⟩
theorem pe_dispN {X : Cx} {k v : Expr} {pos : Pos} {tk tv : TE} (hu : X.A.units + 64 < cLine) (hk : PE X k tk) (hv : PE X v tv) : PE X (.Dict [some k] [v] pos) (tDispN X.prog X.w X.K tk tv) := by
  refine ⟨fun pins s σ H Q I h => ?_⟩
  have fresh := I.hok.fresh (Nat.le_refl s.heap.objs.size)
  have I1 : Inv X pins σ (upd H s.heap.objs.size (.dT [])) { s with heap := s.heap.push { cls := .type "dict", data := .dict #[] } } :=
    I.laid (t' := s.toks) (fun _ _ q => Heap.get?_push_of_some _ q) (Nat.le_refl _) (dt_empty s.heap I.big)
  refine wpAny_Dict_any rfl rfl (List.cons_ne_nil _ _) (by show 1 ≤ 15; decide) ?_
  refine thn ((pps_cons hk hv pps_nil).run pins _ σ _ (onePairN fun x y H2 => ∃ b k, x = .ref b ∧ NAt X.K H2 b k ∧ H2 s.heap.objs.size = some (.dT []) ∧ Q (.ref s.heap.objs.size) (upd H2 s.heap.objs.size (DNO X.prog X.w s.heap.objs.size [(b, k, y)]))) I1 (h _ fresh)) fun vs z hz => ?_
  obtain ⟨ps, H2, I2, rel, q⟩ := hz
  obtain ⟨x, y, rfl, b, k, rfl, kb, e2, q⟩ := onePairN_of q
  cases rel with
  | cons rr r0 =>
    cases r0
    unfold storeAll
    rw [List.forIn_cons]
    obtain ⟨r1, r2⟩ := rr
    rename_i uv
    obtain ⟨u1, u2⟩ := uv
    obtain rfl : u1 = Value.ref b := r1
    refine wpAny_bind (wpAny_bind (dn_dictSet hu I2 (.inr ⟨rfl, e2⟩) (fun l hl => (nomatch hl)) kb r2 (by show 1 ≤ sizeLine; rw [sizeLine_eq]; decide) fun z' I3 => wpAny_pure ?_))
    show wpAny _ _ (forIn ([] : List (Value × Value)) PUnit.unit _) _ _ _
    rw [List.forIn_nil]
    exact wpAny_pure ⟨.ref s.heap.objs.size, _, I3, rfl, q⟩
/-! ### sorted -/
mutual
theorem reads_nolist {h : Heap} : ∀ (d : PyData) (v : Value) (as : List Addr), keyD d = true → Reads h v d as → as = []
  | .none, _, _, _, r => by cases r; rfl
  | .bool _, _, _, _, r => by cases r; rfl
  | .int _, _, _, _, r => by cases r; rfl
  | .str _, _, _, _, r => by cases r; rfl
  | .tuple ds, _, _, k, r => by
    cases r with
    | tuple ho hc hd hr => exact reads_nolistAll ds _ _ (by simpa [keyD] using k) hr
  | .list _, _, _, k, _ => by simp [keyD] at k
  | .dict _, _, _, k, _ => by simp [keyD] at k
theorem reads_nolistAll {h : Heap} : ∀ (ds : List PyData) (vs : List Value) (as : List Addr), keyAll ds = true → ReadsAll h vs ds as → as = []
  | [], _, _, _, r => by cases r; rfl
  | d :: ds, _, _, k, r => by
    cases r with
    | cons r1 r2 =>
      rw [keyAll, Bool.and_eq_true] at k
      rw [reads_nolist d _ _ k.1 r1, reads_nolistAll ds _ _ k.2 r2]
      rfl
end
/-- sorted of whatever is collected to data without lists -/
theorem sortedD_src {prog : Program} {w : World} {A : Around} {E : Value → Shared → Prop} {Q : Value → Shared → Prop} {s : Shared} {a : Addr} {β : Type} {enc : β → PyData} {bs : List β} {R : Value → β → Prop} (al : ∀ b b', PySem.W.alike (enc b) (enc b') = true) (so : PySem.W.Sortable (bs.map enc)) (dp : ∀ b ∈ bs, keyD (enc b) = true ∧ (enc b).depth ≤ 8) (hu : A.units + 64 < cLine) (hL : bs.length ≤ sizeLine)
    (hc : wpAny (model prog w) A.in1 (collect (.ref a)) (fun vs s1 => PySem.W.EachIs R vs bs ∧ PySem.W.EachIs (fun v b => ∃ as, Reads s1.heap v (enc b) as) vs bs ∧
      ∀ (h2 : Heap) (d : Addr) (out : List Value), PySem.W.EachIs R out (bs.mergeSort (PySem.W.dataLe false enc)) → (∀ b o, s1.heap.get? b = some o → h2.get? b = some o) → s1.heap.objs.size ≤ d → (∃ n, h2.get? d = some (seqObj "list" out.toArray n)) → Q (.ref d) { s1 with heap := h2 }) E s) :
    wpAny (model prog w) A (call (.builtin "sorted") [.ref a]) Q E s := by
  refine Calls.call_function_entry kind_sorted plain_sorted entry_sorted (args_sorted1 _) ?_
  unfold Builtin.«sorted»
  refine wpAny_bind (m := checkCount "sorted" 1 1 _) (wpAny_pure (wpAny_bind (wpAny_mono hc (fun vs s1 got => ?_) fun _ _ z => z)))
  obtain ⟨e1, e2, fin⟩ := got
  obtain ⟨hL', eL⟩ : ∃ hL : Heap, hL = s1.heap.push (seqObj "list" vs.toArray 0) := ⟨_, rfl⟩
  have at0 : hL'.get? s1.heap.objs.size = some (seqObj "list" vs.toArray 0) := by rw [eL]; exact Heap.get?_push_size _ rfl
  have kp : ∀ b o, s1.heap.get? b = some o → hL'.get? b = some o := fun b o e => by rw [eL]; exact Heap.get?_push_of_some _ e
  have sz : vs.length ≤ sizeLine := by rw [e1.length]; exact hL
  refine wpAny_bind (wpAny_newList ?_ sz)
  rw [← eL]
  have er : PySem.W.EachIs (fun v b => ∃ as, Reads hL' v (enc b) as ∧ s1.heap.objs.size ∉ as) vs bs := (PySem.W.each_mem e2).mono fun v b ⟨⟨as, r⟩, hb⟩ => ⟨as, PyProof.Rows.Reads.keeps kp r, by rw [reads_nolist _ _ _ (dp b hb).1 r]; exact List.not_mem_nil⟩
  refine wpAny_bind (wpAny_holding (PySem.W.list_sort_data (s := { s1 with heap := hL' }) at0 e1 er (PySem.W.AllAlike.of al) so hL (fun b hb => ?_) fun out lo eo => ?_))
  · have := (dp b hb).2
    show A.units + 1 + 1 + (enc b).depth < cLine
    omega
  · refine wpAny_pure ⟨_, rfl, fin _ _ out eo (fun b o e => ?_) (Nat.le_refl _) (sortedHeap_at at0)⟩
    have lt := Heap.lt_size e
    show (sortedHeap hL' s1.heap.objs.size vs out.toArray).get? b = some o
    rw [sortedHeap_old (Nat.ne_of_lt lt) (by rw [eL, Heap.size_push]; exact Nat.lt_succ_of_lt lt)]
    exact kp b o e
section
variable {X : Cx}
/-- sorted(d), d a dict of nested keys -/
def rSortN (P : Program) (w : World) (K : PySem.W.Frag) : List V → Hp → VK → Prop := fun vs H Q => ∃ (a : Addr) (L : List NEnt) (β : Type) (enc : β → PyData) (F : Addr → β → Prop) (bs : List β), vs = [V.ref a] ∧ DN P w H a L ∧ Paired (fun l b => F l.1 b ∧ Dp K H (.ref l.1) (enc b)) L bs ∧ (∀ b b', PySem.W.alike (enc b) (enc b') = true) ∧
  PySem.W.Sortable (bs.map enc) ∧ (∀ b ∈ bs, keyD (enc b) = true ∧ (enc b).depth ≤ 8) ∧
  ∀ (ys : List Addr) (p : Addr), Paired F ys (bs.mergeSort (PySem.W.dataLe false enc)) → H p = none → Q (.ref p) (upd H p (.lst (ys.map V.ref)))
theorem each_pairedN {α β : Type} {F : α → β → Prop} {f : α → Value} {R : Value → β → Prop} : ∀ {xs : List α} {bs : List β}, Paired F xs bs → (∀ x b, x ∈ xs → F x b → R (f x) b) → PySem.W.EachIs R (xs.map f) bs
  | [], _, .nil, _ => .nil
  | x :: xs, _, .cons h t, k => .cons (k _ _ (List.mem_cons_self ..) h) (each_pairedN t fun y b m => k y b (List.mem_cons_of_mem _ m))
theorem each_refs {β : Type} {F : Addr → β → Prop} {out : List Value} {bs : List β} (e : PySem.W.EachIs (fun v b => ∃ y, v = Value.ref y ∧ F y b) out bs) : ∃ ys : List Addr, out = ys.map Value.ref ∧ Paired F ys bs := by
  induction e with
  | nil => exact ⟨[], rfl, .nil⟩
  | cons h _ ih =>
    obtain ⟨y, rfl, f⟩ := h
    obtain ⟨ys, rfl, fs⟩ := ih
    exact ⟨y :: ys, rfl, .cons f fs⟩
theorem cr_sortedN (calm : X.calm = true) (hu : X.A.units + 64 < cLine) : CallR X (.builtin "sorted") (rSortN X.prog X.w X.K) := by
  intro pins s σ H vs us Q I r h
  obtain ⟨a, L, β, enc, F, bs, rfl, hd, pr, al, so, dp, q⟩ := h
  rw [Vals.ref1 r]
  obtain ⟨z, es, ep, o, hs, ho, hx, hdt, hsz, ent⟩ := size_n I hd
  have lb : bs.length = L.length := (Paired.length pr).symm
  refine sortedD_src (R := fun v b => ∃ y, v = Value.ref y ∧ F y b) al so dp hu (by omega) (collect_src (kdl_raw hs hx hdt) (I.ok.hd calm) ho (by omega) fun h' tk acc hk it => ?_)
  have ea : acc.toList = L.map fun l => Value.ref l.1 := by
    refine List.ext_getElem? fun j => ?_
    rw [List.getElem?_map]
    have hl : acc.toList.length = L.length := by rw [Array.length_toList, it.1, hsz]
    cases hj : acc.toList[j]? with
    | none =>
      rw [List.getElem?_eq_none (by have := List.getElem?_eq_none_iff.mp hj; omega)]
      rfl
    | some v =>
      obtain ⟨en, hen, hv⟩ := it.2 j v (by rw [← Array.getElem?_toList]; exact hj)
      cases hb : L[j]? with
      | none =>
        have h1 := List.getElem?_eq_none_iff.mp hb
        have h2 := (List.getElem?_eq_some_iff.mp hj).1
        omega
      | some l =>
        obtain ⟨en', hen', hkey, _⟩ := ent j l hb
        rw [hen] at hen'
        obtain rfl := Option.some.inj hen'
        rw [hv, hkey]
        rfl
  have I1 : Inv X pins σ H { s with heap := h', toks := tk } := I.kept (t' := tk) hk
  rw [ea]
  refine ⟨each_pairedN pr fun l b m hb => ⟨l.1, rfl, hb.1⟩, each_pairedN pr fun l b _ hb => Dp.reads I1 _ _ _ hb.2 rfl, fun h2 dd out eo k2 hdd hn => ?_⟩
  obtain ⟨ys, rfl, py⟩ := each_refs eo
  have len : (ys.map V.ref).length ≤ sizeLine := by
    rw [List.length_map, Paired.length py, List.length_mergeSort]
    omega
  exact ⟨.ref dd, upd H dd (.lst (ys.map V.ref)), laid_list I1 (s1 := { s with heap := h', toks := tk }) (fun _ _ e => e) (Nat.le_refl _) rfl rfl k2 hdd hn (vals_refs ys) len, rfl, q ys dd py (I1.hok.fresh hdd)⟩
end
end Sq

set_option Elab.async false
set_option linter.all false
set_option maxRecDepth 100000
set_option maxHeartbeats 4000000
/-! repr of any value. -/
namespace Sq
open PySem PySem.Spec PyProof.Rows L2
/-- how a value is shown -/
def shV : PyData → Str
  | .none => "None"
  | .bool b => if b then "True" else "False"
  | .int i => toString i
  | .str x => reprText x
  | .list ds => PyData.shown (.list ds)
  | .tuple ds => PyData.shown (.tuple ds)
  | .dict ds => PyData.shown (.dict ds)
def ShOk : PyData → Prop
  | .none => True
  | .bool _ => True
  | .int i => i.natAbs.log2 < 1920
  | .str x => (reprText x).length ≤ sizeLine
  | .list ds => (PyData.list ds).showable = true ∧ (PyData.list ds).hasDict = false ∧ (PyData.list ds).depth ≤ 50 ∧ (PyData.list ds).shown.length ≤ sizeLine
  | .tuple ds => (PyData.tuple ds).showable = true ∧ (PyData.tuple ds).hasDict = false ∧ (PyData.tuple ds).depth ≤ 50 ∧ (PyData.tuple ds).shown.length ≤ sizeLine
  | .dict _ => False
def rReprV (K : PySem.W.Frag) : List V → Hp → VK → Prop := fun xs H Q => ∃ (x : V) (d : PyData), xs = [x] ∧ Dp K H x d ∧ ShOk d ∧ Q (.str (shV d)) H
theorem call_reprDU {X : Cx} (hg : X.A.guards = some []) (hu : X.A.units + 64 < cLine) : CallR X (.builtin "repr") (rReprD X.K) := by
  intro pins s σ H xs us Q I r h
  obtain ⟨a, d, rfl, hd, h1, h2, h3, h4, q⟩ := h
  cases r with
  | cons rx rr =>
    cases rr
    obtain rfl := (show _ = Value.ref a from rx)
    obtain ⟨as, rd⟩ := Dp.reads I d (.ref a) (.ref a) hd rfl
    exact repr_of_reads' rd h1 (fun z => by rw [h2] at z; cases z) hg (by omega) (fun _ _ e => e) (fun h' u tk hk => ⟨.str d.shown, H, I.kept (t' := tk) hk, ⟨u, rfl⟩, q⟩) h4
theorem call_reprV {X : Cx} (hg : X.A.guards = some []) (hu : X.A.units + 64 < cLine) : CallR X (.builtin "repr") (rReprV X.K) := by
  intro pins s σ H xs us Q I r h
  obtain ⟨x, d, rfl, hd, sh, q⟩ := h
  cases d with
  | none =>
    cases hd
    obtain ⟨u, rfl, ru⟩ := vals1 r
    obtain rfl := (show u = Value.none from ru)
    exact PySem.P.repr_of_none ⟨.str _, H, I.tok _, ⟨_, rfl⟩, q⟩
  | bool b =>
    cases hd
    obtain ⟨u, rfl, ru⟩ := vals1 r
    obtain rfl := (show u = Value.bool b from ru)
    exact PySem.P.repr_of_bool ⟨.str _, H, I.tok _, ⟨_, rfl⟩, q⟩
  | int i =>
    cases hd
    obtain ⟨u, rfl, t, rfl⟩ := vals1 r
    exact PySem.P.repr_of_int sh ⟨.str _, H, I.tok _, ⟨_, rfl⟩, q⟩
  | str y =>
    cases hd
    obtain ⟨u, rfl, t, rfl⟩ := vals1 r
    exact PySem.P.repr_of_str ⟨.str _, H, I.tok _, ⟨_, rfl⟩, q⟩ sh
  | list ds =>
    obtain ⟨a, rfl⟩ : ∃ a, x = .ref a := by cases hd; exact ⟨_, rfl⟩
    exact call_reprDU hg hu pins s σ H _ us Q I r ⟨a, _, rfl, hd, sh.1, sh.2.1, sh.2.2.1, sh.2.2.2, q⟩
  | tuple ds =>
    obtain ⟨a, rfl⟩ : ∃ a, x = .ref a := by cases hd; exact ⟨_, rfl⟩
    exact call_reprDU hg hu pins s σ H _ us Q I r ⟨a, _, rfl, hd, sh.1, sh.2.1, sh.2.2.1, sh.2.2.2, q⟩
  | dict ds => exact sh.elim
theorem call_reprVK {X : Cx} {K : PySem.W.Frag} (h : X.K = K) (hg : X.A.guards = some []) (hu : X.A.units + 64 < cLine) : CallR X (.builtin "repr") (rReprV K) := h ▸ call_reprV hg hu
end Sq

set_option Elab.async false
set_option linter.all false
set_option maxRecDepth 100000
set_option maxHeartbeats 4000000
/-! A body of two squares or more has a free square with an empty cell at one of its sides. -/
namespace Sq
open PySem PySem.Spec PyProof.Rows L2
theorem west_most : ∀ {A : List Cell}, A ≠ [] → ∃ a ∈ A, ∀ b ∈ A, a.1 ≤ b.1
  | [c], _ => ⟨c, by simp, fun b hb => by rw [List.mem_singleton.mp hb]; exact Int.le_refl _⟩
  | c :: d :: L, _ => by
    obtain ⟨m, hm, h⟩ := west_most (A := d :: L) (by simp)
    by_cases e : c.1 ≤ m.1
    · refine ⟨c, List.mem_cons_self .., fun b hb => ?_⟩
      rcases List.mem_cons.mp hb with rfl | z
      · exact Int.le_refl _
      · have := h b z
        omega
    · refine ⟨m, List.mem_cons_of_mem _ hm, fun b hb => ?_⟩
      rcases List.mem_cons.mp hb with rfl | z
      · omega
      · exact h b z
/-- not r, and an empty cell beside it -/
theorem side_ex {L : List Cell} (nL : L.Nodup) (l : 1 < L.length) (r : Cell) : ∃ z ∈ L, z ≠ r ∧ ∃ g ∈ besideC z, g ∉ L := by
  have ne : L ≠ [] := fun z => by rw [z] at l; cases l
  obtain ⟨a, aL, ha⟩ := east_most ne
  obtain ⟨b, bL, hb⟩ := west_most ne
  have ea : (a.1 + 1, a.2) ∉ L := fun m => by
    have := ha _ m
    simp only at this
    omega
  have wb : (b.1 - 1, b.2) ∉ L := fun m => by
    have := hb _ m
    simp only at this
    omega
  by_cases h1 : a = r
  · by_cases h2 : b = r
    · -- one column
      obtain ⟨z, zL, zr⟩ : ∃ z ∈ L, z ≠ r := by
        refine Classical.byContradiction fun n => ?_
        have all : ∀ x ∈ L, x ∈ [r] := fun x hx => Classical.byContradiction fun m => n ⟨x, hx, fun e => m (by rw [e]; exact List.mem_singleton.mpr rfl)⟩
        have := len_le nL all
        simp at this
        omega
      refine ⟨z, zL, zr, (z.1 + 1, z.2), by simp [besideC], fun m => ?_⟩
      have x1 := ha _ m
      have x2 := hb _ zL
      rw [h1] at x1
      rw [h2] at x2
      simp only at x1
      omega
    · exact ⟨b, bL, h2, (b.1 - 1, b.2), by simp [besideC], wb⟩
  · exact ⟨a, aL, h1, (a.1 + 1, a.2), by simp [besideC], ea⟩
theorem free_side : ∀ (n : Nat) {L : List Cell}, L.length ≤ n → L.Nodup → Hangs L → 1 < L.length → ∀ r ∈ L, ∃ f ∈ L, f ≠ r ∧ Hangs (but L f) ∧ ∃ g ∈ besideC f, g ∉ L
  | 0, L, hn, _, _, l, _, _ => by omega
  | n + 1, L, hn, nL, hL, l, r, rL => by
    obtain ⟨z, zL, zr, g, gz, gL⟩ := side_ex nL l r
    by_cases hz : Hangs (but L z)
    · exact ⟨z, zL, zr, hz, g, gz, gL⟩
    have rb : r ∈ but L z := mem_but.mpr ⟨rL, Ne.symm zr⟩
    obtain ⟨b, bb, nr⟩ : ∃ b ∈ but L z, ¬ Reach (but L z) r b := by
      refine Classical.byContradiction fun m => hz ((hangs_from rb).mpr fun b hb => Classical.byContradiction fun k => m ⟨b, hb, k⟩)
    have dec : DecidablePred fun x => Reach (but L z) b x := fun _ => Classical.propDecidable _
    let B : List Cell := L.filter fun x => decide (Reach (but L z) b x)
    have memB : ∀ {x}, x ∈ B ↔ x ∈ L ∧ Reach (but L z) b x := fun {x} => by simp [B]
    have Bb : ∀ {x}, x ∈ B → x ∈ but L z := fun h => (memB.mp h).2.mem bb
    have bB : b ∈ B := memB.mpr ⟨(mem_but.mp bb).1, .refl⟩
    have zB : z ∉ B := fun h => (mem_but.mp (Bb h)).2 rfl
    have rB : r ∉ B := fun h => nr ((memB.mp h).2.symm bb)
    have clB : ∀ {x y}, x ∈ B → y ∈ L → y ≠ z → y ∈ besideC x → y ∈ B := fun hx yL yz hy => memB.mpr ⟨yL, (memB.mp hx).2.step hy (mem_but.mpr ⟨yL, yz⟩)⟩
    have subB : ∀ x ∈ z :: B, x ∈ L := fun x hx => (List.mem_cons.mp hx).elim (fun e => e ▸ zL) fun h => (memB.mp h).1
    have ndB : (z :: B).Nodup := List.nodup_cons.mpr ⟨zB, nL.sublist List.filter_sublist⟩
    -- from b within B
    have rBb : ∀ {x}, Reach (but L z) b x → Reach (z :: B) b x := fun h => by
      induction h with
      | refl => exact .refl
      | @step u v hu hv vm ih =>
        have uB : u ∈ B := memB.mpr ⟨(mem_but.mp (hu.mem bb)).1, hu⟩
        exact ih.step hv (List.mem_cons_of_mem _ (clB uB (mem_but.mp vm).1 (mem_but.mp vm).2 hv))
    -- z is beside one of B
    obtain ⟨y, yB, yz⟩ : ∃ y ∈ B, y ∈ besideC z := by
      have key : ∀ x, Reach L b x → x ∈ B ∨ ∃ y ∈ B, y ∈ besideC z := fun x h => by
        induction h with
        | refl => exact .inl bB
        | @step u v hu hv vL ih =>
          rcases ih with uB | k
          · by_cases e : v = z
            · exact .inr ⟨u, uB, beside_symm (e ▸ hv)⟩
            · exact .inl (clB uB vL e hv)
          · exact .inr k
      rcases key z (hL.2 b (mem_but.mp bb).1 z zL) with h | h
      · exact absurd h zB
      · exact h
    have hB' : Hangs (z :: B) := by
      refine (hangs_from (List.mem_cons_of_mem _ bB)).mpr fun x hx => ?_
      rcases List.mem_cons.mp hx with rfl | h
      · exact (rBb (memB.mp yB).2).step (beside_symm yz) (List.mem_cons_self ..)
      · exact rBb (memB.mp h).2
    have lB : (z :: B).length ≤ n := by
      have l1 := len_le (xs := r :: z :: B) (ys := L) (List.nodup_cons.mpr ⟨fun m => (List.mem_cons.mp m).elim (fun e => zr e.symm) rB, ndB⟩) fun x hx => (List.mem_cons.mp hx).elim (fun e => e ▸ rL) (subB x)
      simp only [List.length_cons] at l1 ⊢
      omega
    have l2 : 1 < (z :: B).length := by
      have := List.length_pos_of_mem bB
      simp only [List.length_cons]
      omega
    obtain ⟨f, fB', fz, hf, e, ef, eB⟩ := free_side n lB ndB hB' l2 z (List.mem_cons_self ..)
    have fB : f ∈ B := (List.mem_cons.mp fB').elim (fun h => absurd h fz) id
    have fL := (memB.mp fB).1
    refine ⟨f, fL, fun h => rB (h ▸ fB), ?_, e, ef, fun eL => ?_⟩
    · have zf : z ∈ but L f := mem_but.mpr ⟨zL, Ne.symm fz⟩
      refine (hangs_from zf).mpr fun x hx => ?_
      obtain ⟨xL, xf⟩ := mem_but.mp hx
      by_cases xB : x ∈ B
      · have zb : z ∈ but (z :: B) f := mem_but.mpr ⟨List.mem_cons_self .., Ne.symm fz⟩
        have q := hf.2 z zb x (mem_but.mpr ⟨List.mem_cons_of_mem _ xB, xf⟩)
        exact Reach.mono (fun u hu => mem_but.mpr ⟨subB u (mem_but.mp hu).1, (mem_but.mp hu).2⟩) q
      · have key : ∀ x, Reach L z x → x ∉ B → Reach (but L f) z x := fun x h => by
          induction h with
          | refl => exact fun _ => .refl
          | @step u v hu hv vL ih =>
            intro vB
            by_cases ez : v = z
            · rw [ez]
              exact .refl
            · by_cases uB : u ∈ B
              · exact absurd (clB uB vL ez hv) vB
              · exact (ih uB).step hv (mem_but.mpr ⟨vL, fun q => vB (q ▸ fB)⟩)
        exact key x (hL.2 z zL x xL) xB
    · have ez : e ≠ z := fun q => eB (q ▸ List.mem_cons_self ..)
      exact eB (List.mem_cons_of_mem _ (clB fB eL ez ef))
end Sq

set_option Elab.async false
set_option linter.all false
set_option maxRecDepth 100000
set_option maxHeartbeats 4000000
/-! The places of the program's and the law's defs. -/
namespace Sq
open PySem PySem.Spec PyProof.Rows L2
def top (i : Nat) : Stmt := PySem.Challenge.pw_slideinto_k38_whole_shapes.main.body.getD i (.Pass ⟨0, 0, 0, 0⟩)
abbrev gWhole : Stmt := top 5
abbrev gIsCell : Stmt := top 6
abbrev gChecked : Stmt := top 7
abbrev gPlain : Stmt := top 8
abbrev gShifted : Stmt := top 9
abbrev gFour : Stmt := top 10
abbrev gLot : Stmt := top 11
abbrev gFrame : Stmt := top 13
abbrev gMoved : Stmt := top 14
abbrev gShape : Stmt := top 15
abbrev gAllShapes : Stmt := top 18
abbrev gCheckedSize : Stmt := top 19
abbrev gShapesIn : Stmt := top 20
abbrev gGrownShapes : Stmt := top 21
abbrev sPen : Stmt := top 23
abbrev sDraw : Stmt := top 24
abbrev sPick : Stmt := top 25
abbrev nBeside : Stmt := top 26
abbrev nGrown : Stmt := top 27
abbrev nCrosses : Stmt := top 28
abbrev nShape : Stmt := top 29
abbrev nShapes : Stmt := top 30
abbrev lRefused : Stmt := top 31
abbrev sLaw : Stmt := top 32
abbrev cSlideError : Stmt := top 1
abbrev cBadNumber : Stmt := top 2
abbrev cBadCell : Stmt := top 3
abbrev FnP (K : PySem.W.Frag) (x : Str) (st : Stmt) (f : Addr) (fd : FuncData) : Prop := FunD K x x (defArgs st) (defBody st) (defScope st) [] [] f fd
end Sq

set_option Elab.async false
set_option linter.all false
set_option maxRecDepth 100000
set_option maxHeartbeats 4000000
/-! What is a cell; cells made plain, shifted; the four beside. -/
namespace Sq
open PySem PySem.Spec PyProof.Rows L2
def kinds : List String := ["NoneType", "bool", "int", "str", "tuple", "list"]
/-- x is of the built-in kind T -/
structure Kd (K : PySem.W.Frag) (H : Hp) (x : V) (T : String) : Prop where
  ty : TyX K H x (.type T)
  mem : T ∈ kinds
theorem kd_isi {K : PySem.W.Frag} {T U : String} (h : T ∈ kinds) (hU : U ∈ ["int", "bool", "tuple"]) : PySem.W.kitOne K (.type T) (.type U) = some (T == U || (T == "bool" && U == "int")) := by
  refine kit_ty ?_
  simp only [kinds, List.mem_cons, List.not_mem_nil, or_false] at h hU
  rcases h with rfl | rfl | rfl | rfl | rfl | rfl <;> rcases hU with rfl | rfl | rfl <;> decide +kernel
/-- whether x is a cell -/
inductive CellQ (K : PySem.W.Frag) (H : Hp) : V → Bool → Prop where
  | other {x : V} {T : String} (k : Kd K H x T) (n : T ≠ "tuple") : CellQ K H x false
  | len {p : Addr} {xs : List V} (e : H p = some (.tup xs)) (n : xs.length ≠ 2) : CellQ K H (.ref p) false
  | two {p : Addr} {y z : V} {T U : String} (e : H p = some (.tup [y, z])) (ky : Kd K H y T) (kz : Kd K H z U) (n : T ≠ "int" ∨ U ≠ "int") : CellQ K H (.ref p) false
  | cell {p : Addr} {c : Cell} (e : At H p c) : CellQ K H (.ref p) true
theorem Kd.tup {K : PySem.W.Frag} {H : Hp} {p : Addr} {xs : List V} (e : H p = some (.tup xs)) : Kd K H (.ref p) "tuple" := ⟨.base (.tup e), by decide⟩
theorem Kd.int {K : PySem.W.Frag} {H : Hp} {i : Int} : Kd K H (.int i) "int" := ⟨.base (.int i), by decide⟩
theorem at0 {x : V} {xs : List V} : atI (x :: xs) 0 = some x := atI_nat (j := 0) rfl
theorem at1 {x y : V} {xs : List V} : atI (x :: y :: xs) 1 = some y := atI_nat (j := 1) rfl
section
variable {P : Program} {w : World} {K : PySem.W.Frag} {mg : Str → Option Value} {base : Heap}
def spWhole (K : PySem.W.Frag) : Sp := fun vs H Q _ => ∃ (x : V) (T : String), vs = [x] ∧ Kd K H x T ∧ Q (.bl (T == "int")) H
theorem scW : FnScope ["value"] ["value"] (defScope gWhole) := ⟨rfl, rfl, rfl, by decide +kernel, rfl, by decide +kernel, by decide +kernel⟩
theorem ok_whole {f : Addr} {fd : FuncData} (F : FnP K "is_whole" gWhole f fd) (gIs : mg "isinstance" = none) (gI : mg "int" = none) (gB : mg "bool" = none) : FnOk P w K mg base CX0 1 f fd ["value"] (spWhole K) := by
  refine F.ok scW (fun vs H Q E h => ?_) (fun cdv A outer s H vs Q E hr h => ?_)
  · obtain ⟨x, T, rfl, _⟩ := h
    rfl
  · obtain ⟨x, T, rfl, k, q⟩ := h
    refine ⟨_, PSs.nox (pss_one (ps_ret (pe_and (pe_callB call_isi (by rfl) gIs PyProof.Rows.boot_isinstance (pa_cons (pv 0) (pa_cons (pe_bltn (v := .ty "int") (by rfl) gI PyProof.Rows.boot_int rfl) pa_nil)))
      (pe_one (pe_not (pe_callB call_isi (by rfl) gIs PyProof.Rows.boot_isinstance (pa_cons (pv 0) (pa_cons (pe_bltn (v := .ty "bool") (by rfl) gB PyProof.Rows.boot_bool rfl) pa_nil)))))))), ?_⟩
    refine ⟨_, rfl, _, _, _, _, _, rfl, .ty "int", k.ty, kd_isi k.mem (by decide), _, rfl, ?_⟩
    have m := k.mem
    refine ite2 (fun hc => ⟨_, rfl, _, _, _, _, _, rfl, .ty "bool", k.ty, kd_isi k.mem (by decide), _, rfl, ?_⟩) (fun hc => ?_)
    · simp only [kinds, List.mem_cons, List.not_mem_nil, or_false] at m
      rcases m with rfl | rfl | rfl | rfl | rfl | rfl <;> first | exact absurd hc (by decide) | exact q
    · simp only [kinds, List.mem_cons, List.not_mem_nil, or_false] at m
      rcases m with rfl | rfl | rfl | rfl | rfl | rfl <;> first | exact absurd rfl hc | exact q
def spIsCell (K : PySem.W.Frag) : Sp := fun vs H Q _ => ∃ (x : V) (b : Bool), vs = [x] ∧ CellQ K H x b ∧ Q (.bl b) H
theorem scIC : FnScope ["value"] ["value"] (defScope gIsCell) := ⟨rfl, rfl, rfl, by decide +kernel, rfl, by decide +kernel, by decide +kernel⟩
theorem ok_isCell {f fW : Addr} {fd fdW : FuncData} (F : FnP K "is_cell" gIsCell f fd) (FW : FnP K "is_whole" gWhole fW fdW) (gW : mg "is_whole" = some (.ref fW)) (gIs : mg "isinstance" = none) (gI : mg "int" = none) (gB : mg "bool" = none) (gT : mg "tuple" = none) (gL : mg "len" = none) :
    FnOk P w K mg base CX0 2 f fd ["value"] (spIsCell K) := by
  have GW : FnOk P w K mg base CX0 1 fW fdW ["value"] (spWhole K) := ok_whole FW gIs gI gB
  have bW : Binds K fdW ["value"] [] := FW.bindsN fun _ _ _ _ _ _ us hl => match us, hl with | [_], _ => rfl
  refine F.ok scIC (fun vs H Q E h => ?_) (fun cdv A outer s H vs Q E hr h => ?_)
  · obtain ⟨x, b, rfl, _⟩ := h
    rfl
  · obtain ⟨x, b, rfl, k, q⟩ := h
    refine ⟨_, PSs.nox (pss_cons (ps_if (PW.pt (pw_or (pt_not (pt_val (pe_callB call_isi (by rfl) gIs PyProof.Rows.boot_isinstance (pa_cons (pv 0) (pa_cons (pe_bltn (v := .ty "tuple") (by rfl) gT PyProof.Rows.boot_tuple rfl) pa_nil)))))
        (pw_or1 (pt_cmpR op_ne (pe_callB call_len_seq (by rfl) gL PySem.boot_len (pa_cons (pv 0) pa_nil)) pe_int (nomark _)))))
        (pss_one (ps_ret pe_bl)) pss_nil)
      (pss_one (ps_ret (pe_and (pe_call GW hr rfl gW FW.kp bW .nil pass0 (pa_cons (pe_ix ix_tup (pv 0) pe_int (fun _ _ => rfl)) pa_nil)) (pe_one (pe_call GW hr rfl gW FW.kp bW .nil pass0 (pa_cons (pe_ix ix_tup (pv 0) pe_int (fun _ _ => rfl)) pa_nil))))))), ?_⟩
    cases k with
    | other k n =>
      refine ⟨_, rfl, _, _, _, _, _, rfl, .ty "tuple", k.ty, kd_isi k.mem (by decide), _, rfl, ?_⟩
      have m := k.mem
      simp only [kinds, List.mem_cons, List.not_mem_nil, or_false] at m
      rcases m with rfl | rfl | rfl | rfl | rfl | rfl <;> first | exact absurd rfl n | exact q
    | @len p xs e n =>
      refine ⟨_, rfl, _, _, _, _, _, rfl, .ty "tuple", (Kd.tup (K := K) e).ty, kd_isi (T := "tuple") (by decide) (by decide), _, rfl, ?_⟩
      refine ⟨_, rfl, _, _, rfl, .inr (SqT.of e), ?_⟩
      refine ⟨rfl, _, rfl, ite2 (fun _ => q) fun hc => ?_⟩
      have hc : (xs.length : Int) = 2 := by simpa using hc
      exact absurd (by omega) n
    | two e ky kz n =>
      refine ⟨_, rfl, _, _, _, _, _, rfl, .ty "tuple", (Kd.tup (K := K) e).ty, kd_isi (T := "tuple") (by decide) (by decide), _, rfl, ?_⟩
      refine ⟨_, rfl, _, _, rfl, .inr (SqT.of e), ?_⟩
      refine ⟨rfl, _, rfl, ite2 (fun hc => absurd hc (by simp)) fun _ => ?_⟩
      refine ⟨_, rfl, _, _, _, _, rfl, rfl, SqT.of e, at0, _, _, rfl, ky, _, rfl, ite2 (fun h1 => ?_) fun _ => q⟩
      refine ⟨_, rfl, _, _, _, _, rfl, rfl, SqT.of e, at1, _, _, rfl, kz, ?_⟩
      have e1 := eq_of_beq h1
      rcases n with n | n
      · exact absurd e1 n
      · rw [beq_false_of_ne n]
        exact q
    | cell e =>
      refine ⟨_, rfl, _, _, _, _, _, rfl, .ty "tuple", (Kd.tup (K := K) e).ty, kd_isi (T := "tuple") (by decide) (by decide), _, rfl, ?_⟩
      refine ⟨_, rfl, _, _, rfl, .inr (SqT.of e), ?_⟩
      refine ⟨rfl, _, rfl, ite2 (fun hc => absurd hc (by simp [cV])) fun _ => ?_⟩
      refine ⟨_, rfl, _, _, _, _, rfl, rfl, SqT.of e, at0, _, _, rfl, Kd.int, _, rfl, ite2 (fun h1 => ?_) fun h1 => absurd rfl h1⟩
      exact ⟨_, rfl, _, _, _, _, rfl, rfl, SqT.of e, at1, _, _, rfl, Kd.int, q⟩
/-- plain_cell(cell) -/
def spPlain : Sp := fun vs H Q _ => ∃ (p : Addr) (c : Cell), vs = [.ref p] ∧ At H p c ∧ ∀ q, H q = none → Q (.ref q) (upd H q (.tup (cV c)))
theorem scPl : FnScope ["cell"] ["cell"] (defScope gPlain) := ⟨rfl, rfl, rfl, by decide +kernel, rfl, by decide +kernel, by decide +kernel⟩
theorem two_le : (2 : Nat) ≤ sizeLine := by rw [sizeLine_eq]; decide
theorem four_le : (4 : Nat) ≤ sizeLine := by rw [sizeLine_eq]; decide
theorem ok_plain {f : Addr} {fd : FuncData} (F : FnP K "plain_cell" gPlain f fd) (gI : mg "int" = none) : FnOk P w K mg base CX0 1 f fd ["cell"] spPlain := by
  refine F.ok scPl (fun vs H Q E h => ?_) (fun cdv A outer s H vs Q E hr h => ?_)
  · obtain ⟨p, c, rfl, _⟩ := h
    rfl
  · obtain ⟨p, c, rfl, e, k⟩ := h
    refine ⟨_, PSs.nox (pss_one (ps_ret (pe_tup (pa_cons (pe_callTy call_int1 (by rfl) gI PyProof.Rows.boot_int (pa_cons (pe_ix ix_tup (pv 0) pe_int (fun _ _ => rfl)) pa_nil)) (pa_cons (pe_callTy call_int1 (by rfl) gI PyProof.Rows.boot_int (pa_cons (pe_ix ix_tup (pv 0) pe_int (fun _ _ => rfl)) pa_nil)) pa_nil))))), ?_⟩
    exact ⟨_, rfl, _, _, _, _, rfl, rfl, SqT.of e, at0, .inl ⟨_, rfl, _, rfl, _, _, _, _, rfl, rfl, SqT.of e, at1, .inl ⟨_, rfl, two_le, fun q hq => k q hq⟩⟩⟩
/-- shifted(cell, by) -/
def spShifted : Sp := fun vs H Q _ => ∃ (p r : Addr) (c d : Cell), vs = [.ref p, .ref r] ∧ At H p c ∧ At H r d ∧ ∀ q, H q = none → Q (.ref q) (upd H q (.tup (cV (c.1 + d.1, c.2 + d.2))))
theorem scSh : FnScope ["cell", "by"] ["cell", "by"] (defScope gShifted) := ⟨rfl, rfl, rfl, by decide +kernel, rfl, by decide +kernel, by decide +kernel⟩
theorem ok_shifted {f : Addr} {fd : FuncData} (F : FnP K "shifted" gShifted f fd) : FnOk P w K mg base CX0 1 f fd ["cell", "by"] spShifted := by
  refine F.ok scSh (fun vs H Q E h => ?_) (fun cdv A outer s H vs Q E hr h => ?_)
  · obtain ⟨p, r, c, d, rfl, _⟩ := h
    rfl
  · obtain ⟨p, r, c, d, rfl, e1, e2, k⟩ := h
    refine ⟨_, PSs.nox (pss_one (ps_ret (pe_tup (pa_cons (pe_op op_add (pe_ix ix_tup (pv 0) pe_int (fun _ _ => rfl)) (pe_ix ix_tup (pv 1) pe_int (fun _ _ => rfl))) (pa_cons (pe_op op_add (pe_ix ix_tup (pv 0) pe_int (fun _ _ => rfl)) (pe_ix ix_tup (pv 1) pe_int (fun _ _ => rfl))) pa_nil))))), ?_⟩
    exact ⟨_, rfl, _, _, _, _, rfl, rfl, SqT.of e1, at0, _, rfl, _, _, _, _, rfl, rfl, SqT.of e2, at0, _, _, rfl, rfl, _, rfl, _, _, _, _, rfl, rfl, SqT.of e1, at1, _, rfl, _, _, _, _, rfl, rfl, SqT.of e2, at1, _, _, rfl, rfl, two_le, fun q hq => k q hq⟩
/-- checked_cell(value): its cell, or BadCell(value) -/
def spChecked (K : PySem.W.Frag) (CB : Addr) : Sp := fun vs H Q E => ∃ (x : V), vs = [x] ∧ ((∃ p c, x = .ref p ∧ At H p c ∧ ∀ q, H q = none → Q (.ref q) (upd H q (.tup (cV c)))) ∨ (CellQ K H x false ∧ ∀ d, H d = none → E (.ref CB) (some d) (upd H d (.xd [("cell", x)]))))
theorem scCh : FnScope ["value"] ["value"] (defScope gChecked) := ⟨rfl, rfl, rfl, by decide +kernel, rfl, by decide +kernel, by decide +kernel⟩
/-- what is known of an error class of the program -/
structure ErrC (P : Program) (K : PySem.W.Frag) (mg : Str → Option Value) (x : Str) (C fI : Addr) (ns : List Str) : Prop where
  s : SErr P K C fI ns
  g : mg x = some (.ref C)
  ex : PySem.W.subIn K (.ref C) (.type "BaseException") = some true
  ty : PySem.W.typeIn K (.ref C) = some (.type "type")
theorem ok_checked {f fI fW fP CB fB : Addr} {fd fdI fdW fdP : FuncData} (F : FnP K "checked_cell" gChecked f fd) (FI : FnP K "is_cell" gIsCell fI fdI) (FW : FnP K "is_whole" gWhole fW fdW) (FP : FnP K "plain_cell" gPlain fP fdP) (B : ErrC P K mg "BadCell" CB fB ["cell"])
    (gC : mg "is_cell" = some (.ref fI)) (gP : mg "plain_cell" = some (.ref fP)) (gW : mg "is_whole" = some (.ref fW)) (gIs : mg "isinstance" = none) (gI : mg "int" = none) (gB : mg "bool" = none) (gT : mg "tuple" = none) (gL : mg "len" = none) :
    FnOk P w K mg base (L2.CX P w) 3 f fd ["value"] (spChecked K CB) := by
  have GI : FnOk P w K mg base CX0 2 fI fdI ["value"] (spIsCell K) := ok_isCell FI FW gW gIs gI gB gT gL
  have bI : Binds K fdI ["value"] [] := FI.bindsN fun _ _ _ _ _ _ us hl => match us, hl with | [_], _ => rfl
  have GP : FnOk P w K mg base CX0 1 fP fdP ["cell"] spPlain := ok_plain FP gI
  have bP : Binds K fdP ["cell"] [] := FP.bindsN fun _ _ _ _ _ _ us hl => match us, hl with | [_], _ => rfl
  refine F.ok scCh (fun vs H Q E h => ?_) (fun cdv A outer s H vs Q E hr h => ?_)
  · obtain ⟨x, rfl, _⟩ := h
    rfl
  · have hr1 : Room 1 _ := hr.mono (by decide)
    refine ⟨_, pss_cons (ps_if (pt_not (pt_val (pe_call GI hr rfl gC FI.kp bI .nil pass0 (pa_cons (pv 0) pa_nil))))
        (pss_one (ps_raise rfl (takes_of rfl rfl rfl rfl) (pmk_err B.s (raises_own B.ex B.ty) hr1 B.g (pa_cons (pv 0) pa_nil)))) pss_nil)
      (pss_one (ps_ret (pe_call GP hr1 rfl gP FP.kp bP .nil pass0 (pa_cons (pv 0) pa_nil)))), ?_⟩
    obtain ⟨x, rfl, ⟨p, c, rfl, e, k⟩ | ⟨k, q⟩⟩ := h
    · exact ⟨_, rfl, _, _, rfl, .cell e, _, rfl, _, rfl, p, c, rfl, e, k⟩
    · exact ⟨_, rfl, _, _, rfl, k, _, rfl, _, rfl, rfl, List.cons_ne_nil _ _, q⟩
/-- t holds a tuple of these cells -/
def CellsT (H : Hp) (t : Addr) (cs : List Cell) : Prop := ∃ qs : List Addr, H t = some (.tup (qs.map V.ref)) ∧ Paired (fun q c => At H q c) qs cs
def spFour : Sp := fun vs H Q _ => ∃ (p : Addr) (c : Cell), vs = [.ref p] ∧ At H p c ∧ ∀ t H', Same H H' → H t = none → CellsT H' t (besideC c) → Q (.ref t) H'
theorem scFo : FnScope ["cell", "column", "row"] ["cell"] (defScope gFour) := ⟨rfl, rfl, rfl, by decide +kernel, rfl, by decide +kernel, by decide +kernel⟩
end
end Sq

set_option Elab.async false
set_option linter.all false
set_option maxRecDepth 100000
set_option maxHeartbeats 4000000
/-! The four beside a cell; a lot of cells, without one, near ones. -/
namespace Sq
open PySem PySem.Spec PyProof.Rows L2
theorem same_new {H : Hp} {p : Addr} {o : HO} (h : H p = none) : Same H (upd H p o) := fun b u e => by
  rw [upd_ne (ne_of_none e h)]
  exact e
theorem At.same {H H' : Hp} {q : Addr} {c : Cell} (h : At H q c) (k : Same H H') : At H' q c := k _ _ h
theorem paired_imp {α β : Type} {F G : α → β → Prop} (k : ∀ a b, F a b → G a b) : ∀ {xs : List α} {ys : List β}, Paired F xs ys → Paired G xs ys
  | _, _, .nil => .nil
  | _, _, .cons h t => .cons (k _ _ h) (paired_imp k t)
theorem CellsT.same {H H' : Hp} {t : Addr} {cs : List Cell} (h : CellsT H t cs) (k : Same H H') : CellsT H' t cs := by
  obtain ⟨qs, e, r⟩ := h
  exact ⟨qs, k _ _ e, paired_imp (fun _ _ a => At.same a k) r⟩
section
variable {P : Program} {w : World} {K : PySem.W.Frag} {mg : Str → Option Value} {base : Heap}
theorem ok_four {f : Addr} {fd : FuncData} (F : FnP K "four_beside" gFour f fd) : FnOk P w K mg base CX0 1 f fd ["cell"] spFour := by
  refine F.ok scFo (fun vs H Q E h => ?_) (fun cdv A outer s H vs Q E hr h => ?_)
  · obtain ⟨p, c, rfl, _⟩ := h
    rfl
  · obtain ⟨p, c, rfl, e, k⟩ := h
    refine ⟨_, PSs.nox (pss_cons (ps_asg (pv 0) (pg_tup (by rfl) (pgs_cons (pg_name (i := 1) scFo.nd rfl (.inl rfl)) (pgs_cons (pg_name (i := 2) scFo.nd rfl (.inl rfl)) pgs_nil))))
      (pss_one (ps_ret (pe_tup (pa_cons (pe_tup (pa_cons (pe_op op_sub (pv 1) pe_int) (pa_cons (pv 2) pa_nil))) (pa_cons (pe_tup (pa_cons (pv 1) (pa_cons (pe_op op_sub (pv 2) pe_int) pa_nil)))
        (pa_cons (pe_tup (pa_cons (pe_op op_add (pv 1) pe_int) (pa_cons (pv 2) pa_nil))) (pa_cons (pe_tup (pa_cons (pv 1) (pa_cons (pe_op op_add (pv 2) pe_int) pa_nil))) pa_nil)))))))), ?_⟩
    refine ⟨_, rfl, p, _, rfl, SqT.of e, rfl, _, _, rfl, _, _, rfl, rfl, ?_⟩
    refine ⟨_, rfl, _, _, rfl, rfl, _, rfl, two_le, fun t1 h1 => ?_⟩
    refine ⟨_, rfl, _, rfl, _, _, rfl, rfl, two_le, fun t2 h2 => ?_⟩
    refine ⟨_, rfl, _, _, rfl, rfl, _, rfl, two_le, fun t3 h3 => ?_⟩
    refine ⟨_, rfl, _, rfl, _, _, rfl, rfl, two_le, fun t4 h4 => ?_⟩
    refine ⟨four_le, fun t5 h5 => ?_⟩
    have s1 := same_new (o := .tup [.int (c.1 - 1), .int c.2]) h1
    have s2 := same_new (o := .tup [.int c.1, .int (c.2 - 1)]) h2
    have s3 := same_new (o := .tup [.int (c.1 + 1), .int c.2]) h3
    have s4 := same_new (o := .tup [.int c.1, .int (c.2 + 1)]) h4
    have s5 := same_new (o := .tup [.ref t1, .ref t2, .ref t3, .ref t4]) h5
    refine k t5 _ (((s1.trans s2).trans s3).trans s4 |>.trans s5) (s1.free (s2.free (s3.free (s4.free h5)))) ⟨[t1, t2, t3, t4], upd_same, ?_⟩
    refine .cons ?_ (.cons ?_ (.cons ?_ (.cons ?_ .nil)))
    · exact s5 _ _ (s4 _ _ (s3 _ _ (s2 _ _ upd_same)))
    · exact s5 _ _ (s4 _ _ (s3 _ _ upd_same))
    · exact s5 _ _ (s4 _ _ upd_same)
    · exact s5 _ _ upd_same
end
/-- a lot of cells as a dict's pairs -/
def lotK (L : List Cell) : List (List Key × V) := L.map fun c => (cK c, .bl true)
theorem lot_val (c : Cell) : ∀ L : List Cell, valV (lotK L) (cK c) = if c ∈ L then some (.bl true) else none
  | [] => by rw [if_neg (by simp)]; rfl
  | d :: L => by
    show valV ((cK d, V.bl true) :: lotK L) (cK c) = _
    by_cases h : d = c
    · subst h
      rw [valV_pos rfl, if_pos (List.mem_cons_self ..)]
    · rw [valV_neg (fun e => h (cK_inj e)), lot_val c L]
      by_cases m : c ∈ L
      · rw [if_pos m, if_pos (List.mem_cons_of_mem _ m)]
      · rw [if_neg m, if_neg (fun w => (List.mem_cons.mp w).elim (fun e => h e.symm) m)]
theorem lot_is (c : Cell) (L : List Cell) : (valV (lotK L) (cK c)).isSome = decide (c ∈ L) := by
  rw [lot_val]
  by_cases m : c ∈ L
  · rw [if_pos m, decide_eq_true m]
    rfl
  · rw [if_neg m, decide_eq_false m]
    rfl
theorem lot_put {c : Cell} {L : List Cell} (n : c ∉ L) : putK (lotK L) (cK c) (.bl true) = lotK (L ++ [c]) := by
  rw [putK_new _ (by rw [lot_val, if_neg n])]
  simp [lotK]
theorem lot_keys (L : List Cell) : (lotK L).map (·.1) = L.map cK := by simp [lotK]
theorem lot_len (L : List Cell) : (lotK L).length = L.length := by simp [lotK]
/-- in, for a cell and a lot -/
theorem dget_lot {H : Hp} {d q : Addr} {L : List Cell} {c : Cell} (hd : H d = some (.dT (lotK L))) (hq : At H q c) : DGet H d (.ref q) (valV (lotK L) (cK c)) := DGet.t hd hq
theorem dput_lot {H : Hp} {d q : Addr} {L : List Cell} {c : Cell} (hd : H d = some (.dT (lotK L))) (hq : At H q c) (n : c ∉ L) (hl : L.length < sizeLine) : DPut H d (.ref q) (.bl true) (upd H d (.dT (lotK (L ++ [c])))) := lot_put n ▸ DPut.t hd hq (by rw [lot_len]; exact hl)
theorem paired_get {α β : Type} {F : α → β → Prop} {i : Nat} {x : α} : ∀ {xs : List α} {ys : List β}, Paired F xs ys → xs[i]? = some x → ∃ y, ys[i]? = some y ∧ F x y
  | _, _, .nil, e => by simp at e
  | _ :: _, _ :: _, .cons h t, e => by
    cases i with
    | zero =>
      simp only [List.getElem?_cons_zero, Option.some.injEq] at e
      exact ⟨_, rfl, e ▸ h⟩
    | succ i =>
      simp only [List.getElem?_cons_succ] at e ⊢
      exact paired_get t e
theorem yesT {σ : L2.St} {H : Hp} {A B : Hp → Prop} (h : A H) : tYes σ H fun b H3 => if b = true then A H3 else B H3 := by
  show if true = true then A H else B H
  rw [if_pos rfl]
  exact h
theorem nodup_take {α : Type} {xs : List α} {i : Nat} {x : α} (nd : xs.Nodup) (h : xs[i]? = some x) : x ∉ xs.take i := fun m => by
  obtain ⟨j, hj⟩ := List.mem_iff_getElem?.mp m
  have hl := (List.getElem?_eq_some_iff.mp hj).1
  rw [List.length_take] at hl
  have hji : j < i := by omega
  rw [List.getElem?_take_of_lt hji] at hj
  have e : j = i := (List.getElem?_inj (List.getElem?_eq_some_iff.mp hj).1 nd).mp (hj.trans h.symm)
  omega
def spLot : Sp := fun vs H Q _ => ∃ (t : Addr) (cs : List Cell), vs = [.ref t] ∧ CellsT H t cs ∧ cs.Nodup ∧ cs.length ≤ 1000 ∧ ∀ d H', Same H H' → H d = none → H' d = some (.dT (lotK cs)) → Q (.ref d) H'
theorem take_snoc {α : Type} {xs : List α} {i : Nat} {x : α} (h : xs[i]? = some x) : xs.take (i + 1) = xs.take i ++ [x] := by
  rw [List.take_succ, h]
  rfl
section
variable {P : Program} {w : World} {K : PySem.W.Frag} {mg : Str → Option Value} {base : Heap}
theorem scLo : FnScope ["cells", "cell"] ["cells"] (defScope gLot) := ⟨rfl, rfl, rfl, by decide +kernel, rfl, by decide +kernel, by decide +kernel⟩
theorem ok_lot {f fP : Addr} {fd fdP : FuncData} (F : FnP K "lot_of" gLot f fd) (FP : FnP K "plain_cell" gPlain fP fdP) (gP : mg "plain_cell" = some (.ref fP)) (gI : mg "int" = none) : FnOk P w K mg base CX0 2 f fd ["cells"] spLot := by
  have GP : FnOk P w K mg base CX0 1 fP fdP ["cell"] spPlain := ok_plain FP gI
  have bP : Binds K fdP ["cell"] [] := FP.bindsN fun _ _ _ _ _ _ us hl => match us, hl with | [_], _ => rfl
  refine F.ok scLo (fun vs H Q E h => ?_) (fun cdv A outer s H vs Q E hr h => ?_)
  · obtain ⟨t, cs, rfl, _⟩ := h
    rfl
  · obtain ⟨t, cs, rfl, ⟨qs, et, pr⟩, nd, big, k⟩ := h
    refine ⟨_, PSs.nox (pss_one (ps_ret (pe_dct (o0 := .dT []) (own := [("cell", 1)]) (g := gName 1) (tt := tYes) (.inr rfl) rfl (hu_of hr) scLo.nd (pi_tup (pv 0)) (blkOk_by (N := ["cells", "cell"]) (sc := defScope gLot) (by decide +kernel)) (fun _ _ _ _ _ => pg_name (i := 1) scLo.nd rfl (Or.inl rfl)) (fun _ _ _ _ _ => pts_nil)
      (fun _ _ _ _ _ => pe_call GP hr rfl gP FP.kp bP .nil pass0 (pa_cons (pv 1) pa_nil)) (fun _ _ _ _ _ => pe_bl)))), ?_⟩
    refine ⟨_, rfl, t, rfl, ⟨_, SqT.of et⟩, fun D hD => dct_it (walk_tup (K := K) (a := t) (xs := qs.map V.ref)) (fun i G => Same H G ∧ G D = some (.dT (lotK (cs.take i)))) ⟨same_new hD, upd_same⟩ (fun i G _ p => SqT.of (p.1 _ _ et)) ?_ ?_⟩
    · rintro i x G G' hi ⟨sm, gd⟩ ⟨rfl, hx⟩
      rw [List.getElem?_map] at hx
      obtain ⟨q, hq, rfl⟩ := Option.map_eq_some_iff.mp hx
      obtain ⟨c, hc, ac⟩ := paired_get pr hq
      refine ⟨rfl, yesT ⟨_, rfl, q, c, rfl, ac.same sm, fun p hp => ?_⟩⟩
      have hne : D ≠ p := ne_of_none gd hp
      have gd' : upd G' p (.tup (cV c)) D = some (.dT (lotK (cs.take i))) := by rw [upd_ne hne]; exact gd
      have out : c ∉ cs.take i := nodup_take nd hc
      refine ⟨_, dput_lot gd' upd_same out (by rw [List.length_take, sizeLine_eq]; omega), fun b u e => ?_, ?_⟩
      · have hb : b ≠ D := fun z => by rw [z, hD] at e; cases e
        rw [upd_ne hb]
        exact (sm.trans (same_new hp)) b u e
      · rw [upd_same, take_snoc hc]
    · rintro G ⟨sm, gd⟩
      have el : (qs.map V.ref).length = cs.length := by rw [List.length_map]; exact Paired.length pr
      rw [el, List.take_length] at gd
      exact k D G sm hD gd
end
end Sq

set_option Elab.async false
set_option linter.all false
set_option maxRecDepth 100000
set_option maxHeartbeats 4000000
/-! A lot without a cell; the near ones in a lot. -/
namespace Sq
open PySem PySem.Spec PyProof.Rows L2
theorem room64 {k : Nat} {A : Around} (hr : Room k A) : A.units + 64 < cLine := by have := hr.un; omega
theorem room2 {k : Nat} {A : Around} (hr : Room k A) : A.units + 2 < cLine := by have := hr.un; omega
theorem op_neK {X : Cx} {K : PySem.W.Frag} (hK : X.K = K) (hu : X.A.units + 64 < cLine) : OpR X (compareOp .NotEq) (rNeD K) := hK ▸ op_neD hu
theorem op_eqK {X : Cx} {K : PySem.W.Frag} (hK : X.K = K) (hu : X.A.units + 64 < cLine) : OpR X (compareOp .Eq) (rEqD K) := hK ▸ op_eqD hu
/-- a cell as data -/
def cD (c : Cell) : PyData := .tuple [.int c.1, .int c.2]
theorem At.dp {K : PySem.W.Frag} {H : Hp} {q : Addr} {c : Cell} (h : At H q c) : Dp K H (.ref q) (cD c) := .tup (SqT.of h) (.cons (.int _) (.cons (.int _) .nil))
theorem cD_eqv (c d : Cell) : PyData.eqv (cD c) (cD d) = decide (c = d) := by
  obtain ⟨c1, c2⟩ := c
  obtain ⟨d1, d2⟩ := d
  simp only [cD, PyData.eqv, PyData.eqvAll, Bool.and_true, Prod.mk.injEq, Bool.decide_and]
  rw [show (c1 == d1) = decide (c1 = d1) from rfl, show (c2 == d2) = decide (c2 = d2) from rfl]
theorem cD_shaped (c : Cell) : SeqAt.shaped (cD c) = true := by
  obtain ⟨c1, c2⟩ := c
  rfl
def without (L : List Cell) (c : Cell) : List Cell := L.filter fun d => decide (d ≠ c)
theorem without_snoc (L : List Cell) (c d : Cell) : without (L ++ [d]) c = if d = c then without L c else without L c ++ [d] := by
  unfold without
  rw [List.filter_append]
  by_cases h : d = c
  · simp [h]
  · simp [h]
def spWithout : Sp := fun vs H Q _ => ∃ (d q : Addr) (L : List Cell) (c : Cell), vs = [.ref d, .ref q] ∧ H d = some (.dT (lotK L)) ∧ L.Nodup ∧ L.length ≤ 1000 ∧ At H q c ∧ ∀ e H', Same H H' → H e = none → H' e = some (.dT (lotK (without L c))) → Q (.ref e) H'
section
variable {P : Program} {w : World} {K : PySem.W.Frag} {mg : Str → Option Value} {base : Heap}
end
end Sq

set_option Elab.async false
set_option linter.all false
set_option maxRecDepth 100000
set_option maxHeartbeats 4000000
/-! The near ones; the flood; hanging together. -/
namespace Sq
open PySem PySem.Spec PyProof.Rows L2
/-- l holds a list of these cells -/
def CellsL (H : Hp) (l : Addr) (cs : List Cell) : Prop := ∃ qs : List Addr, H l = some (.lst (qs.map V.ref)) ∧ Paired (fun q c => At H q c) qs cs
def nearC (L : List Cell) (c : Cell) : List Cell := (besideC c).filter fun d => decide (d ∈ L)
def spNear : Sp := fun vs H Q _ => ∃ (d q : Addr) (L : List Cell) (c : Cell), vs = [.ref d, .ref q] ∧ H d = some (.dT (lotK L)) ∧ At H q c ∧ ∀ l H', Same H H' → H l = none → CellsL H' l (nearC L c) → Q (.ref l) H'
theorem paired_snoc {α β : Type} {F : α → β → Prop} {xs : List α} {ys : List β} {x : α} {y : β} (h : Paired F xs ys) (k : F x y) : Paired F (xs ++ [x]) (ys ++ [y]) := h.snoc k
section
variable {P : Program} {w : World} {K : PySem.W.Frag} {mg : Str → Option Value} {base : Heap}
end
end Sq

set_option Elab.async false
set_option linter.all false
set_option maxRecDepth 100000
set_option maxHeartbeats 4000000
/-! The flood. -/
namespace Sq
open PySem PySem.Spec PyProof.Rows L2
structure Fl (H : Hp) (L : List Cell) (c0 : Cell) (fo ah : Addr) (F A : List Cell) (G : Hp) : Prop where
  same : Same H G
  gf : G fo = some (.dT (lotK F))
  ga : CellsL G ah A
  nd : F.Nodup
  cF : c0 ∈ F
  re : ∀ x ∈ F, Reach L c0 x
  sub : ∀ x ∈ A, x ∈ F
  len : A.length ≤ F.length
theorem snoc_inv {α : Type} {xs : List α} (h : xs ≠ []) : ∃ ys y, xs = ys ++ [y] := ⟨xs.dropLast, xs.getLast h, (List.dropLast_concat_getLast h).symm⟩
theorem paired_unsnoc {α β : Type} {F : α → β → Prop} {xs : List α} {x : α} {ys : List β} {y : β} (h : Paired F (xs ++ [x]) (ys ++ [y])) : Paired F xs ys ∧ F x y := by
  induction xs generalizing ys with
  | nil =>
    cases ys with
    | nil =>
      cases h with
      | cons a _ => exact ⟨.nil, a⟩
    | cons z zs =>
      have l := Paired.length h
      simp at l
  | cons a xs ih =>
    cases ys with
    | nil =>
      have l := Paired.length h
      simp at l
    | cons z zs =>
      cases h with
      | cons p t =>
        obtain ⟨h1, h2⟩ := ih t
        exact ⟨.cons p h1, h2⟩
def FlW (H : Hp) (L : List Cell) (c0 : Cell) (d q fo ah : Addr) (m : Nat) (σ : L2.St) (G : Hp) : Prop := ∃ (F A : List Cell) (v4 v5 : Option V), m = 2 * (L.length - F.length) + A.length ∧ σ = [some (.ref d), some (.ref q), some (.ref fo), some (.ref ah), v4, v5] ∧ Fl H L c0 fo ah F A G ∧
      ∀ x ∈ F, x ∉ A → ∀ y ∈ besideC x, y ∈ L → y ∈ F
def spFlood : Sp := fun vs H Q _ => ∃ (d q : Addr) (L : List Cell) (c : Cell), vs = [.ref d, .ref q] ∧ H d = some (.dT (lotK L)) ∧ L.Nodup ∧ L.length ≤ 1000 ∧ At H q c ∧ c ∈ L ∧
  ∀ e H' F, Same H H' → H e = none → H' e = some (.dT (lotK F)) → F.Nodup → (∀ x, x ∈ F ↔ Reach L c x) → Q (.ref e) H'
section
variable {P : Program} {w : World} {K : PySem.W.Frag} {mg : Str → Option Value} {base : Heap}
end
end Sq

set_option Elab.async false
set_option linter.all false
set_option maxRecDepth 100000
set_option maxHeartbeats 4000000
/-! Hanging together; what is near a move. -/
namespace Sq
open PySem PySem.Spec PyProof.Rows L2
def spHangs : Sp := fun vs H Q _ => ∃ (d : Addr) (L : List Cell), vs = [.ref d] ∧ H d = some (.dT (lotK L)) ∧ L.Nodup ∧ L.length ≤ 1000 ∧ ∀ H', Same H H' → Q (.bl (hangsB L)) H'
def turnsB (L : List Cell) (s e : Cell) : Bool := decide ((s.1, e.2) ∈ L) != decide ((e.1, s.2) ∈ L)
def sideB (L : List Cell) (s e d : Cell) : Bool := decide ((s.1 + d.1, s.2 + d.2) ∈ L) && decide ((e.1 + d.1, e.2 + d.2) ∈ L)
def slidesB (L : List Cell) (s e : Cell) : Bool := sideB L s e (e.2 - s.2, e.1 - s.1) || sideB L s e (-(e.2 - s.2), -(e.1 - s.1))
def spTurns : Sp := fun vs H Q _ => ∃ (d p q : Addr) (L : List Cell) (s e : Cell), vs = [.ref d, .ref p, .ref q] ∧ H d = some (.dT (lotK L)) ∧ At H p s ∧ At H q e ∧ ∀ H', Same H H' → Q (.bl (turnsB L s e)) H'
def spSlides (Ts : List Addr) : Sp := fun vs H Q _ => ∃ (d p q : Addr) (L : List Cell) (s e : Cell), vs = [.ref d, .ref p, .ref q] ∧ H d = some (.dT (lotK L)) ∧ At H p s ∧ At H q e ∧ TabsG Ts H ∧ ∀ H', KT Ts H H' → Q (.bl (slidesB L s e)) H'
theorem min_ex : ∀ {L : List Cell}, L ≠ [] → ∃ m, m ∈ L ∧ ∀ d ∈ L, cLt d m = false
  | [c], _ => ⟨c, by simp, fun d hd => by rw [List.mem_singleton.mp hd]; exact cLt_irr c⟩
  | c :: d :: L, _ => by
    obtain ⟨m, hm, h⟩ := min_ex (L := d :: L) (by simp)
    cases e : cLt c m with
    | true => exact ⟨c, by simp, fun x hx => (List.mem_cons.mp hx).elim (fun z => z ▸ cLt_irr c) fun z => by
        cases q : cLt x c with
        | false => rfl
        | true => exact absurd (cLt_trans q e) (by rw [h x z]; simp)⟩
    | false => exact ⟨m, List.mem_cons_of_mem _ hm, fun x hx => (List.mem_cons.mp hx).elim (fun z => z ▸ e) (h x)⟩
section
variable {P : Program} {w : World} {K : PySem.W.Frag} {mg : Str → Option Value} {base : Heap}
end
end Sq

set_option Elab.async false
set_option linter.all false
set_option maxRecDepth 100000
set_option maxHeartbeats 4000000
/-! slides: any of a generator expression. -/
namespace Sq
open PySem PySem.Spec PyProof.Rows L2
section
variable {P : Program} {w : World} {K : PySem.W.Frag} {mg : Str → Option Value} {base : Heap}
end
end Sq

set_option Elab.async false
set_option linter.all false
set_option maxRecDepth 100000
set_option maxHeartbeats 4000000
/-! What stays of values; the kind of a move. -/
namespace Sq
open PySem PySem.Spec PyProof.Rows L2
/-- all but tables and the dicts with plain keys (the pen) stays -/
def Ek (H H' : Hp) : Prop := ∀ b o, (∀ ps, o ≠ HO.tbl ps) → (∀ kvs, o ≠ HO.dK kvs) → H b = some o → H' b = some o
theorem Ek.refl {H : Hp} : Ek H H := fun _ _ _ _ e => e
theorem Ek.trans {H G I : Hp} (h : Ek H G) (k : Ek G I) : Ek H I := fun b o n m e => k b o n m (h b o n m e)
theorem Ek.of {H G : Hp} (h : Same H G) : Ek H G := fun b o _ _ e => h b o e
theorem KT.ek {Ts : List Addr} {H G : Hp} (h : KT Ts H G) : Ek H G := fun _ _ n _ e => h.get e n
theorem Ek.at {H G : Hp} {q : Addr} {c : Cell} (h : Ek H G) (e : At H q c) : At G q c := h _ _ (fun _ z => nomatch z) (fun _ z => nomatch z) e
theorem Ek.tup {H G : Hp} {q : Addr} {xs : List V} (h : Ek H G) (e : H q = some (.tup xs)) : G q = some (.tup xs) := h _ _ (fun _ z => nomatch z) (fun _ z => nomatch z) e
theorem Ek.lst {H G : Hp} {q : Addr} {xs : List V} (h : Ek H G) (e : H q = some (.lst xs)) : G q = some (.lst xs) := h _ _ (fun _ z => nomatch z) (fun _ z => nomatch z) e
theorem Ek.dT {H G : Hp} {q : Addr} {xs : List (List Key × V)} (h : Ek H G) (e : H q = some (.dT xs)) : G q = some (.dT xs) := h _ _ (fun _ z => nomatch z) (fun _ z => nomatch z) e
theorem Ek.cells {H G : Hp} {qs : List Addr} {cs : List Cell} (h : Ek H G) (e : Paired (fun q c => At H q c) qs cs) : Paired (fun q c => At G q c) qs cs := paired_imp (fun _ _ a => h.at a) e
theorem CellsT.ek {H G : Hp} {t : Addr} {cs : List Cell} (h : CellsT H t cs) (k : Ek H G) : CellsT G t cs := by
  obtain ⟨qs, e, r⟩ := h
  exact ⟨qs, k.tup e, k.cells r⟩
theorem CellsL.ek {H G : Hp} {t : Addr} {cs : List Cell} (h : CellsL H t cs) (k : Ek H G) : CellsL G t cs := by
  obtain ⟨qs, e, r⟩ := h
  exact ⟨qs, k.lst e, k.cells r⟩
theorem Kd.ek {K : PySem.W.Frag} {H G : Hp} {x : V} {T : String} (h : Kd K H x T) (k : Ek H G) : Kd K G x T := by
  have m := h.mem
  have t := h.ty
  refine ⟨?_, m⟩
  have nd : T ≠ "dict" := fun z => by rw [z] at m; exact absurd m (by decide)
  have ns : T ≠ "set" := fun z => by rw [z] at m; exact absurd m (by decide)
  generalize e : (Value.type T) = u at t
  cases t with
  | base b =>
    cases b with
    | non => exact .base .non
    | bl y => exact .base (.bl y)
    | int i => exact .base (.int i)
    | str y => exact .base (.str y)
    | flt y => exact .base (.flt y)
    | lst ea => exact .base (.lst (k.lst ea))
    | frz ea => exact .base (.frz (k _ _ (fun _ z => nomatch z) (fun _ z => nomatch z) ea))
    | tup ea => exact .base (.tup (k.tup ea))
    | dK ea => exact absurd (Value.type.inj e) nd
    | dT ea => exact absurd (Value.type.inj e) nd
    | ins _ _ _ _ _ _ => cases e
  | byt b => exact .byt b
  | set ea => exact absurd (Value.type.inj e) ns
  | kList ea c => exact .kList ea c
  | kTuple ea c => exact .kTuple ea c
  | kDict ea c => exact .kDict ea c
  | fTuple ea => exact .fTuple (k _ _ (fun _ z => nomatch z) (fun _ z => nomatch z) ea)
  | fDict ea => exact absurd (Value.type.inj e) nd
theorem CellQ.ek {K : PySem.W.Frag} {H G : Hp} {x : V} {b : Bool} (h : CellQ K H x b) (k : Ek H G) : CellQ K G x b := by
  cases h with
  | other kd n => exact .other (kd.ek k) n
  | len e n => exact .len (k.tup e) n
  | two e ky kz n => exact .two (k.tup e) (ky.ek k) (kz.ek k) n
  | cell e => exact .cell (k.at e)
/-- as call_abs says it -/
def absI (i : Int) : Int := if i < 0 then -i else i
/-- the kind by the cells around -/
def byPlace (L : List Cell) (s e : Cell) : V :=
  if decide (s ∈ L) = false ∨ decide (e ∈ L) = true then .non
  else if absI (e.1 - s.1) + absI (e.2 - s.2) = 1 then (if slidesB L s e = true then .str "slide" else .non)
  else if absI (e.1 - s.1) = 1 ∧ absI (e.2 - s.2) = 1 then (if turnsB L s e = true then .str "turn" else .non) else .non
noncomputable def kindV (L : List Cell) (s e : Cell) : V := if byPlace L s e = .non ∨ hangsB (without L s) = false then .non else byPlace L s e
def spByPlace (Ts : List Addr) : Sp := fun vs H Q _ => ∃ (d p q : Addr) (L : List Cell) (s e : Cell), vs = [.ref d, .ref p, .ref q] ∧ H d = some (.dT (lotK L)) ∧ At H p s ∧ At H q e ∧ TabsG Ts H ∧ ∀ H', KT Ts H H' → Q (byPlace L s e) H'
def spKindIn (Ts : List Addr) : Sp := fun vs H Q _ => ∃ (d p q : Addr) (L : List Cell) (s e : Cell), vs = [.ref d, .ref p, .ref q] ∧ H d = some (.dT (lotK L)) ∧ L.Nodup ∧ L.length ≤ 1000 ∧ Hangs L ∧ At H p s ∧ At H q e ∧ TabsG Ts H ∧ ∀ H', KT Ts H H' → Q (kindV L s e) H'
theorem byPlace_cases (L : List Cell) (s e : Cell) : byPlace L s e = .non ∨ byPlace L s e = .str "slide" ∨ byPlace L s e = .str "turn" := by
  unfold byPlace
  split
  · exact .inl rfl
  · split
    · split
      · exact .inr (.inl rfl)
      · exact .inl rfl
    · split
      · split
        · exact .inr (.inr rfl)
        · exact .inl rfl
      · exact .inl rfl
section
variable {P : Program} {w : World} {K : PySem.W.Frag} {mg : Str → Option Value} {base : Heap} {Ts : List Addr}
end
end Sq

set_option Elab.async false
set_option linter.all false
set_option maxRecDepth 100000
set_option maxHeartbeats 4000000
/-! Data stay where all but tables and the pen stays. -/
namespace Sq
open PySem PySem.Spec PyProof.Rows L2
section
variable {K : PySem.W.Frag} {H H' : Hp}
theorem Ek.rd (k : Ek H H') {l : Addr} {u : HO} (h1 : ∀ ps, u ≠ .tbl ps) (h2 : ∀ kvs, u ≠ .dK kvs) (h : Rd H l u) : Rd H' l u := by
  rcases h with h | ⟨o, h⟩
  · exact .inl (k l _ h1 h2 h)
  · exact .inr ⟨o, k l _ (fun _ z => nomatch z) (fun _ z => nomatch z) h⟩
theorem Ek.sqL (k : Ek H H') {l : Addr} {xs : List V} (h : SqL K H l xs) : SqL K H' l xs := h.elim (fun z => .inl (k.rd (fun _ q => nomatch q) (fun _ q => nomatch q) z)) .inr
theorem Ek.sqT (k : Ek H H') {l : Addr} {xs : List V} (h : SqT K H l xs) : SqT K H' l xs := h.elim (fun z => .inl (k.rd (fun _ q => nomatch q) (fun _ q => nomatch q) z)) .inr
mutual
theorem Ek.dp (k : Ek H H') : ∀ (d : PyData) (x : V), Dp K H x d → Dp K H' x d
  | .none, _, h => by
    cases h
    exact .non
  | .bool b, _, h => by
    cases h
    exact .bl b
  | .int i, _, h => by
    cases h
    exact .int i
  | .str s, _, h => by
    cases h
    exact .str s
  | .list ds, _, h => by
    cases h with
    | lst h1 h2 => exact .lst (k.sqL h1) (k.dps ds _ h2)
  | .tuple ds, _, h => by
    cases h with
    | tup h1 h2 => exact .tup (k.sqT h1) (k.dps ds _ h2)
  | .dict _, _, h => by cases h
theorem Ek.dps (k : Ek H H') : ∀ (ds : List PyData) (xs : List V), DpAll K H xs ds → DpAll K H' xs ds
  | [], _, h => by
    cases h
    exact .nil
  | d :: ds, _, h => by
    cases h with
    | cons h1 h2 => exact .cons (k.dp d _ h1) (k.dps ds _ h2)
end
/-- cells as data -/
theorem cells_dps : ∀ {qs : List Addr} {cs : List Cell}, Paired (fun q c => At H q c) qs cs → DpAll K H (qs.map V.ref) (cs.map cD)
  | _, _, .nil => .nil
  | _, _, .cons h t => .cons h.dp (cells_dps t)
theorem CellsT.dp {t : Addr} {cs : List Cell} (h : CellsT H t cs) : Dp K H (.ref t) (.tuple (cs.map cD)) := by
  obtain ⟨qs, e, pr⟩ := h
  exact .tup (SqT.of e) (cells_dps pr)
theorem CellsL.dp {t : Addr} {cs : List Cell} (h : CellsL H t cs) : Dp K H (.ref t) (.list (cs.map cD)) := by
  obtain ⟨qs, e, pr⟩ := h
  exact .lst (SqL.of e) (cells_dps pr)
end
end Sq

set_option Elab.async false
set_option linter.all false
set_option maxRecDepth 100000
set_option maxHeartbeats 4000000
/-! The links around a cell. -/
namespace Sq
open PySem PySem.Spec PyProof.Rows L2
structure CrossC (K : PySem.W.Frag) (mg : Str → Option Value) (a : Addr) (rs : List Addr) : Prop where
  g : mg "CROSSWISE" = some (.ref a)
  t : ∀ H, SqT K H a (rs.map V.ref)
  e : Paired (fun r d => ∀ H, SqT K H r (cV d)) rs crossL
def spLinks : Sp := fun vs H Q _ => ∃ (d q : Addr) (L : List Cell) (c : Cell), vs = [.ref d, .ref q] ∧ H d = some (.dT (lotK L)) ∧ At H q c ∧ ∀ H', Same H H' → Q (.int (linksN L c : Int)) H'
theorem links_snoc {L : List Cell} {c d : Cell} {i : Nat} (h : crossL[i]? = some d) : (((crossL.take (i + 1)).filter (linkB L c)).length : Int) = ((crossL.take i).filter (linkB L c)).length + (if linkB L c d = true then 1 else 0) := by
  rw [take_snoc h, List.filter_append, List.length_append]
  by_cases e : linkB L c d = true
  · rw [if_pos e]
    simp [List.filter_cons, e]
  · rw [if_neg e]
    simp [List.filter_cons, e]
section
variable {P : Program} {w : World} {K : PySem.W.Frag} {mg : Str → Option Value} {base : Heap}
end
end Sq

set_option Elab.async false
set_option linter.all false
set_option maxRecDepth 100000
set_option maxHeartbeats 4000000
/-! Hanging together without a cell. -/
namespace Sq
open PySem PySem.Spec PyProof.Rows L2
/-- in, for a cell and a list of cells -/
def rInH : R2 := fun x y H Q => ∃ (p t : Addr) (c : Cell) (L : List Cell), x = .ref p ∧ y = .ref t ∧ At H p c ∧ CellsL H t L ∧ Q (.bl (decide (c ∈ L))) H
theorem any_cellH (c : Cell) : ∀ L : List Cell, (L.map cD).any (fun z => PyData.eqv z (cD c)) = decide (c ∈ L)
  | [] => by simp
  | d :: L => by
    rw [List.map_cons, List.any_cons, any_cellH c L, cD_eqv]
    by_cases h : d = c
    · subst h
      simp
    · have h' : ¬ c = d := fun z => h z.symm
      simp [h, h']
theorem lay_cellH (c : Cell) : Lay 1 (cD c) := lay_tuple fun d hd => by
  simp only [List.mem_cons, List.not_mem_nil, or_false] at hd
  rcases hd with rfl | rfl
  · exact lay_int _
  · exact lay_int _
theorem cells_canH (L : List Cell) : PyData.canLayAll0 (L.map cD) = true := (lay_all (n := 1) fun d hd => by
  obtain ⟨c, _, rfl⟩ := List.mem_map.mp hd
  exact lay_cellH c).1
theorem op_inH {X : Cx} (hu : X.A.units + 64 < cLine) : OpR X (compareOp .In) rInH := by
  rintro pins s σ H x y v u Q I rx ry ⟨p, t, c, L, rfl, rfl, ap, ct, q⟩
  obtain ⟨as, r1⟩ := Dp.reads I (cD c) _ v ap.dp rx
  obtain ⟨bs, r2⟩ := Dp.reads I (.list (L.map cD)) _ u ct.dp ry
  have l1 := lay_cellH c
  refine SeqAt.in_list_reads r2 r1 (cells_canH L) l1.1 ?_ ⟨.bl _, H, I, rfl, ?_⟩
  · have m : min (PyData.depthAll (L.map cD)) (cD c).depth ≤ 1 := Nat.le_trans (Nat.min_le_right _ _) l1.2
    omega
  · rw [any_cellH]
    exact q
/-- how many of N are not met -/
def missN (N F : List Cell) : Nat := (N.filter fun x => !decide (x ∈ F)).length
theorem miss_put {F : List Cell} {y : Cell} (h : y ∉ F) : ∀ {N : List Cell}, N.Nodup → missN N (F ++ [y]) + (if y ∈ N then 1 else 0) = missN N F
  | [], _ => rfl
  | x :: N, nN => by
    obtain ⟨nx, nN⟩ := List.nodup_cons.mp nN
    have ih := miss_put h nN
    unfold missN at ih ⊢
    rw [List.filter_cons, List.filter_cons]
    by_cases e : x = y
    · subst e
      rw [if_neg nx] at ih
      have a : (!decide (x ∈ F ++ [x])) = false := by simp
      have b : (!decide (x ∈ F)) = true := by simp [h]
      rw [a, b, if_pos (List.mem_cons_self ..), if_pos rfl, if_neg (by simp), List.length_cons]
      omega
    · have a : decide (x ∈ F ++ [y]) = decide (x ∈ F) := by simp [e]
      have b : (y ∈ x :: N) ↔ y ∈ N := by simp [Ne.symm e]
      rw [a]
      have c : (if y ∈ x :: N then 1 else 0) = (if y ∈ N then 1 else 0 : Nat) := by simp only [b]
      rw [c]
      by_cases g : x ∈ F
      · simpa [g] using ih
      · simp only [g, decide_false, Bool.not_false, if_true, List.length_cons]
        omega
theorem miss_zero {N F : List Cell} : missN N F = 0 ↔ ∀ x ∈ N, x ∈ F := by
  unfold missN
  rw [List.length_eq_zero_iff, List.filter_eq_nil_iff]
  simp
theorem beside_nodup (c : Cell) : (besideC c).Nodup := by
  obtain ⟨a, b⟩ := c
  simp [besideC]
  omega
theorem near_nodup {L : List Cell} (c : Cell) : (nearC L c).Nodup := (beside_nodup c).sublist List.filter_sublist
structure Hw (H : Hp) (L : List Cell) (c a : Cell) (fo ah : Addr) (F A : List Cell) (G : Hp) : Prop where
  same : Same H G
  gf : G fo = some (.dT (lotK F))
  ga : CellsL G ah A
  nd : F.Nodup
  cF : c ∈ F
  aF : a ∈ F
  re : ∀ x ∈ F, x = c ∨ Reach (but L c) a x
  sub : ∀ x ∈ A, x ∈ F ∧ x ≠ c
  len : A.length ≤ F.length
def HwW (H : Hp) (L : List Cell) (c a : Cell) (d q ar fo ah : Addr) (m : Nat) (σ : L2.St) (G : Hp) : Prop := ∃ (F A : List Cell) (v6 v7 : Option V), m = 2 * (L.length - F.length) + A.length ∧ σ = [some (.ref d), some (.ref q), some (.ref ar), some (.ref fo), some (.ref ah), some (.int (missN (nearC L c) F : Int)), v6, v7] ∧ Hw H L c a fo ah F A G ∧
      ∀ x ∈ F, x ∉ A → x ≠ c → ∀ y ∈ besideC x, y ∈ L → y ∈ F
theorem one_lt : (1 : Nat) < sizeLine := by rw [sizeLine_eq]; decide
theorem one_le : (1 : Nat) ≤ sizeLine := by rw [sizeLine_eq]; decide
def spHangsW : Sp := fun vs H Q _ => ∃ (d q : Addr) (L : List Cell) (c : Cell), vs = [.ref d, .ref q] ∧ H d = some (.dT (lotK L)) ∧ L.Nodup ∧ L.length ≤ 1000 ∧ Hangs L ∧ c ∈ L ∧ At H q c ∧ ∀ H', Same H H' → Q (.bl (hangsB (without L c))) H'
theorem hangs_decide {L : List Cell} {p : Prop} [Decidable p] (h : p ↔ Hangs L) : (decide p) = hangsB L := hangsB_of (by rw [decide_eq_true_iff]; exact h)
section
variable {P : Program} {w : World} {K : PySem.W.Frag} {mg : Str → Option Value} {base : Heap}
end
end Sq

set_option Elab.async false
set_option linter.all false
set_option maxRecDepth 100000
set_option maxHeartbeats 4000000
/-! sorted of a lot of cells. -/
namespace Sq
open PySem PySem.Spec PyProof.Rows L2
theorem keys_cells {H : Hp} : ∀ {L : List Cell} {bs : List Addr}, IsKeys H (lotK L) bs → Paired (fun q c => At H q c) bs L
  | [], _, .nil => .nil
  | _ :: _, _, .cons h t => .cons h (keys_cells t)
section
variable {X : Cx}
def rSortDct : List V → Hp → VK → Prop := fun vs H Q => ∃ (a : Addr) (L : List Cell), vs = [V.ref a] ∧ H a = some (.dT (lotK L)) ∧ sortedK H L Q
theorem cr_sortedDct (calm : X.calm = true) : CallR X (.builtin "sorted") rSortDct := by
  intro pins s σ H vs us Q I r h
  obtain ⟨a, L, rfl, ha, k⟩ := h
  rw [Vals.ref1 r]
  obtain ⟨z, hs, ks, pr, o, es, ep, ho, hx, hdt, he, hn⟩ := (show ObjOk X.prog X.w H s.heap a (.dT (lotK L)) from I.hok a _ ha)
  have l1 : es.size = ks.length := size_of_entries he
  have l2 : (lotK L).length = ks.length := Paired.length pr
  refine sorted_src (k := kVal H) (collect_src (kdl_raw hs hx hdt) (I.ok.hd calm) ho (by omega) fun h' tk acc hk it => ?_)
  have ea : acc.toList = (ks.map fun x => x.2.1).map Value.ref := by
    rw [List.map_map]
    refine List.ext_getElem? fun j => ?_
    rw [List.getElem?_map]
    have hl : acc.toList.length = ks.length := by rw [Array.length_toList, it.1, l1]
    cases hj : acc.toList[j]? with
    | none =>
      rw [List.getElem?_eq_none (by have := List.getElem?_eq_none_iff.mp hj; omega)]
      rfl
    | some v =>
      obtain ⟨en, hen, hv⟩ := it.2 j v (by rw [← Array.getElem?_toList]; exact hj)
      have e1 := entry_at he j
      rw [hen] at e1
      cases hb : ks[j]? with
      | none =>
        rw [hb] at e1
        exact nomatch (show some en = none from e1)
      | some b =>
        rw [hb] at e1
        have e2 : en = entryOfKey (tupleKind (mixKind X.prog X.w)) b := Option.some.inj e1
        rw [hv, e2]
        rfl
  rw [ea]
  refine sort_fin (I.kept (t' := tk) hk) (List.Perm.refl _) (keys_cells (isKeys_of pr)) (by rw [List.length_map]; omega) (fun _ _ e => e) (Nat.le_refl _) rfl rfl k
end
end Sq

set_option Elab.async false
set_option linter.all false
set_option maxRecDepth 100000
set_option maxHeartbeats 4000000
/-! A square put elsewhere; the body of a lot; the kind of a move. -/
namespace Sq
open PySem PySem.Spec PyProof.Rows L2
theorem lot_dropW (c : Cell) (L : List Cell) : dropK (lotK L) (cK c) = lotK (without L c) := by
  unfold dropK lotK without
  rw [List.filter_map]
  congr 1
  refine List.filter_congr fun x _ => ?_
  show decide (cK x ≠ cK c) = decide (x ≠ c)
  by_cases h : x = c
  · simp [h]
  · have ne : ¬ cK x = cK c := fun z => h (cK_inj z)
    simp [h, ne]
theorem without_len (L : List Cell) (c : Cell) : (without L c).length ≤ L.length := List.length_filter_le _ _
theorem mem_without {L : List Cell} {c x : Cell} : x ∈ without L c ↔ x ∈ L ∧ x ≠ c := mem_but
/-- put(lot, start, end) -/
def spPut : Sp := fun vs H Q _ => ∃ (d p q : Addr) (L : List Cell) (s e : Cell), vs = [.ref d, .ref p, .ref q] ∧ H d = some (.dT (lotK L)) ∧ L.Nodup ∧ L.length ≤ 1000 ∧ s ∈ L ∧ e ∉ L ∧ At H p s ∧ At H q e ∧ Q .non (upd H d (.dT (lotK (without L s ++ [e]))))
/-- body_in(lot) -/
def spBodyIn : Sp := fun vs H Q _ => ∃ (d : Addr) (L : List Cell), vs = [.ref d] ∧ H d = some (.dT (lotK L)) ∧ ∀ r H' cs, Same H H' → H r = none → CellsT H' r cs → cs.Perm L → Asc cs → Q (.ref r) H'
section
variable {P : Program} {w : World} {K : PySem.W.Frag} {mg : Str → Option Value} {base : Heap} {Ts : List Addr}
theorem byPlace_mem {L : List Cell} {s e : Cell} (h : byPlace L s e ≠ .non) : s ∈ L ∧ e ∉ L := by
  unfold byPlace at h
  by_cases c : decide (s ∈ L) = false ∨ decide (e ∈ L) = true
  · rw [if_pos c] at h
    exact absurd rfl h
  · constructor
    · exact Classical.byContradiction fun n => c (.inl (decide_eq_false n))
    · exact fun n => c (.inr (decide_eq_true n))
end
end Sq

set_option Elab.async false
set_option linter.all false
set_option maxRecDepth 100000
set_option maxHeartbeats 4000000
/-! kind_of and done, with their errors. -/
namespace Sq
open PySem PySem.Spec PyProof.Rows L2
/-- an own error of the class at C is on its way, with these fields; all but tables stays -/
def Way (Ts : List Addr) (H : Hp) (C : Addr) (fs : List (Str × V)) (E : XK) : Prop := ∀ (dd : Addr) (H' : Hp), KT Ts H H' → H dd = none → H' dd = some (.xd fs) → E (.ref C) (some dd) H'
theorem Way.from {Ts : List Addr} {H G : Hp} {C : Addr} {fs : List (Str × V)} {E : XK} (h : Way Ts H C fs E) (k : KT Ts H G) : ∀ d, G d = none → E (.ref C) (some d) (upd G d (.xd fs)) := fun d hd =>
  h d _ (k.same (same_new hd)) (k.free hd) upd_same
def spKindOf (K : PySem.W.Frag) (Ts : List Addr) (CB : Addr) : Sp := fun vs H Q E => ∃ (t : Addr) (L : List Cell) (x y : V), vs = [.ref t, x, y] ∧ CellsT H t L ∧ L.Nodup ∧ L.length ≤ 1000 ∧ Hangs L ∧ TabsG Ts H ∧
  ((CellQ K H x false ∧ Way Ts H CB [("cell", x)] E) ∨ (∃ p s, x = .ref p ∧ At H p s ∧ ((CellQ K H y false ∧ Way Ts H CB [("cell", y)] E) ∨ (∃ q e, y = .ref q ∧ At H q e ∧ ∀ H', KT Ts H H' → Q (kindV L s e) H'))))
def spDone (K : PySem.W.Frag) (Ts : List Addr) (CB CT CM : Addr) : Sp := fun vs H Q E => ∃ (t : Addr) (L : List Cell) (x y : V), vs = [.ref t, x, y] ∧ CellsT H t L ∧ L.Nodup ∧ L.length ≤ 1000 ∧ Hangs L ∧ TabsG Ts H ∧
  ((CellQ K H x false ∧ Way Ts H CB [("cell", x)] E) ∨ (∃ p s, x = .ref p ∧ At H p s ∧ ((CellQ K H y false ∧ Way Ts H CB [("cell", y)] E) ∨ (∃ q e, y = .ref q ∧ At H q e ∧
    ((s ∉ L ∧ Way Ts H CT [("cell", x)] E) ∨ (s ∈ L ∧ ((kindV L s e = .non ∧ Way Ts H CM [("end", y), ("start", x)] E) ∨
      (kindV L s e ≠ .non ∧ ∀ r H' cs, KT Ts H H' → CellsT H' r cs → cs.Perm (without L s ++ [e]) → Asc cs → Q (.ref r) H'))))))))
section
variable {P : Program} {w : World} {K : PySem.W.Frag} {mg : Str → Option Value} {base : Heap} {Ts : List Addr}
end
end Sq

set_option Elab.async false
set_option linter.all false
set_option maxRecDepth 100000
set_option maxHeartbeats 4000000
/-! The pen: made, drawn from; a pick. -/
namespace Sq
open PySem PySem.Spec PyProof.Rows L2
abbrev kCells : Key := .inr "cells"
abbrev kAt : Key := .inr "at"
abbrev kDig : Key := .inr "digits"
abbrev kCnt : Key := .inr "count"
abbrev kFold : Key := .inr "fold"
/-- the pen's pairs -/
def penK (c : Addr) (i dg n fo : Int) : List (Key × V) := [(kCells, .ref c), (kAt, .int i), (kDig, .int dg), (kCnt, .int n), (kFold, .int fo)]
theorem pen_cells {c : Addr} {i dg n fo : Int} : valV (penK c i dg n fo) kCells = some (.ref c) := by kernel_rfl
theorem pen_at {c : Addr} {i dg n fo : Int} : valV (penK c i dg n fo) kAt = some (.int i) := by kernel_rfl
theorem pen_dig {c : Addr} {i dg n fo : Int} : valV (penK c i dg n fo) kDig = some (.int dg) := by kernel_rfl
theorem pen_cnt {c : Addr} {i dg n fo : Int} : valV (penK c i dg n fo) kCnt = some (.int n) := by kernel_rfl
theorem pen_fold {c : Addr} {i dg n fo : Int} : valV (penK c i dg n fo) kFold = some (.int fo) := by kernel_rfl
theorem put_at {c : Addr} {i dg n fo z : Int} : putK (penK c i dg n fo) kAt (.int z) = penK c z dg n fo := by kernel_rfl
theorem put_dig {c : Addr} {i dg n fo z : Int} : putK (penK c i dg n fo) kDig (.int z) = penK c i z n fo := by kernel_rfl
theorem put_cnt {c : Addr} {i dg n fo z : Int} : putK (penK c i dg n fo) kCnt (.int z) = penK c i dg z fo := by kernel_rfl
theorem put_fold {c : Addr} {i dg n fo z : Int} : putK (penK c i dg n fo) kFold (.int z) = penK c i dg n z := by kernel_rfl
theorem pen_disp {c : Addr} {fo : Int} : mergeK [] (penK c 0 0 0 fo) = penK c 0 0 0 fo := by kernel_rfl
/-- what is tracked but p stays -/
theorem same_but {H H' : Hp} {p : Addr} (h : H p = none) (k : ∀ b, b ≠ p → H' b = H b) : Same H H' := fun b u e => by
  rw [k b (ne_of_none e h)]
  exact e
theorem pen_len {c : Addr} {i dg n fo : Int} : (penK c i dg n fo).length < sizeLine := Nat.lt_of_le_of_lt (Nat.le_refl 5) (by rw [sizeLine_eq]; decide)
theorem dget_of {H : Hp} {p : Addr} {kvs : List (Key × V)} {k : Key} {v : V} (e : H p = some (.dK kvs)) (hv : valV kvs k = some v) : DGet H p (kV k) (some v) := hv ▸ DGet.k (k := k) e
theorem dput_of {H : Hp} {p c : Addr} {i dg n fo : Int} {kvs' : List (Key × V)} {k : Key} {v : V} (e : H p = some (.dK (penK c i dg n fo))) (hk : putK (penK c i dg n fo) k v = kvs') : DPut H p (kV k) v (upd H p (.dK kvs')) := hk ▸ DPut.k e pen_len
/-- a pen stands at p, n numbers were drawn -/
structure PenAt (H : Hp) (p : Addr) (n : Nat) : Prop where
  ex : ∃ (c : Addr) (zs : List Int) (i : Nat) (dg fo : Int), H p = some (.dK (penK c i dg n fo)) ∧ H c = some (.lst (zs.map V.int)) ∧ i ≤ zs.length ∧ zs.length ≤ 63 ∧ 0 ≤ dg ∧ 0 ≤ fo ∧ fo < 2147483648
/-- _law_pen(script): a new pen -/
def spPen (K : PySem.W.Frag) : Sp := fun vs H Q _ => ∃ (a : Addr) (zs : List Int), vs = [.ref a] ∧ SqL K H a (zs.map V.int) ∧ zs.length ≤ 63 ∧ ∀ (p : Addr) (H' : Hp), PenAt H' p 0 → Same H H' → H p = none → Q (.ref p) H'
/-- _law_draw(pen, many): a number below many; the pen alone changes -/
def spDraw : Sp := fun vs H Q _ => ∃ (p : Addr) (n : Nat) (m : Int), vs = [.ref p, .int m] ∧ PenAt H p n ∧ 1 ≤ m ∧ m < 1073741824 ∧ n < 1000000 ∧
  ∀ (r : Int) (H' : Hp), 0 ≤ r → r < m → PenAt H' p (n + 1) → (∀ b, b ≠ p → H' b = H b) → Q (.int r) H'
section
variable {P : Program} {w : World} {K : PySem.W.Frag} {mg : Str → Option Value} {base : Heap}
theorem scP : FnScope ["_law_script", "_law_fold", "_law_cell"] ["_law_script"] (defScope sPen) := ⟨rfl, rfl, rfl, by decide +kernel, rfl, by decide +kernel, by decide +kernel⟩
theorem ok_pen {f : Addr} {fd : FuncData} (F : FnP K "_law_pen" sPen f fd) (gI : mg "int" = none) (gL : mg "list" = none) : FnOk P w K mg base CX0 1 f fd ["_law_script"] (spPen K) := by
  refine F.ok scP (fun vs H Q E h => ?_) (fun cdv A outer s H vs Q E hr h => ?_)
  · obtain ⟨a, zs, rfl, _⟩ := h
    rfl
  · obtain ⟨a, zs, rfl, hS, hl, k⟩ := h
    refine ⟨_, PSs.nox (pss_cons (ps_set (i := 1) scP.nd rfl (.inl rfl) pe_int)
      (pss_cons (ps_for PassesOwn.never rfl (pi_list (pv 0)) (pg_name (i := 2) scP.nd rfl (.inl rfl))
        (pss_one (ps_set (i := 1) scP.nd rfl (.inl rfl) (pe_op op_mod (pe_callTy call_int1 (by rfl) gI PyProof.Rows.boot_int (pa_cons (pe_op op_add (pe_op op_mul (pv 1) pe_int) (pv 2)) pa_nil)) pe_int))))
      (pss_one (ps_ret (pe_disp (pps_cons pe_str (pe_callTy call_list_of (by rfl) gL PyProof.Rows.boot_list (pa_cons (pv 0) pa_nil)) (pps_cons pe_str pe_int (pps_cons pe_str pe_int (pps_cons pe_str pe_int (pps_cons pe_str (pv 1) pps_nil))))) rfl rfl (by simp) (by decide)))))), ?_⟩
    -- the loop
    refine ⟨_, rfl, a, rfl, ⟨_, hS⟩, for_list (K := K) (a := a) (xs := zs.map V.int) (fun i σ H2 => ∃ (fo : Int) (v : Option V), σ = [some (.ref a), some (.int fo), v] ∧ H2 = H ∧ 0 ≤ fo ∧ fo < 1000000007)
      ⟨0, none, rfl, rfl, by decide, by decide⟩ (fun i σ H2 _ ⟨_, _, _, e, _⟩ => by rw [e]; exact hS) ?_ ?_⟩
    · rintro i y σ H2 hi ⟨fo, v, rfl, rfl, h0, h1⟩
      obtain ⟨z, rfl⟩ : ∃ z, y = V.int z := by
        rw [List.getElem?_map] at hi
        cases e : zs[i]? with
        | none =>
          rw [e] at hi
          cases hi
        | some z =>
          rw [e] at hi
          exact ⟨z, (Option.some.inj hi).symm⟩
      refine ⟨_, rfl, _, _, rfl, rfl, .inl ⟨by omega, by omega⟩, _, rfl, _, _, rfl, rfl, .inl ⟨_, rfl, ?_⟩⟩
      refine ⟨_, _, rfl, rfl, (by show (0 : Int) < 1000000007; decide), _, _, rfl, rfl, ?_, ?_⟩
      · exact Int.emod_nonneg _ (by decide)
      · exact Int.emod_lt_of_pos _ (by decide)
    · rintro σ H2 ⟨fo, v, rfl, rfl, h0, h1⟩
      intro p hp
      refine ⟨_, rfl, a, zs.map V.int, rfl, .inl ?_, fun c hc => ?_⟩
      · exact (same_new hp).seq hS
      · have np : c ≠ p := fun z => by
          rw [z, upd_same] at hc
          cases hc
        have nc : H2 c = none := by
          rw [upd_ne np] at hc
          exact hc
        refine ⟨_, rfl, ?_, [(kCells, .ref c), (kAt, .int 0), (kDig, .int 0), (kCnt, .int 0), (kFold, .int fo)], rfl, by simp, ?_⟩
        · rw [upd_ne (Ne.symm np), upd_same]
        · refine k p _ ⟨⟨c, zs, 0, 0, fo, ?_, ?_, Nat.zero_le _, hl, by decide, h0, by omega⟩⟩ ?_ hp
          · rw [upd_same]
            exact congrArg (fun z => some (HO.dK z)) pen_disp
          · rw [upd_ne np, upd_same]
          · intro b u e
            rw [upd_ne (ne_of_none e hp), upd_ne (ne_of_none e nc), upd_ne (ne_of_none e hp)]
            exact e
theorem scD : FnScope ["_law_pen_here", "_law_many", "_law_cell", "_law_digit", "_law_blend"] ["_law_pen_here", "_law_many"] (defScope sDraw) := ⟨rfl, rfl, rfl, by decide +kernel, rfl, by decide +kernel, by decide +kernel⟩
theorem ok_draw {f : Addr} {fd : FuncData} (F : FnP K "_law_draw" sDraw f fd) (gI : mg "int" = none) (gL : mg "len" = none) : FnOk P w K mg base CX0 1 f fd ["_law_pen_here", "_law_many"] spDraw := by
  refine F.ok scD (fun vs H Q E h => ?_) (fun cdv A outer s H vs Q E hr h => ?_)
  · obtain ⟨p, n, m, rfl, _⟩ := h
    rfl
  · obtain ⟨p, n, m, rfl, ⟨c, zs, i, dg, fo, hp, hc, hi, hl, hd, f0, f1⟩, m1, m2, hn, k⟩ := h
    have hu := hu_of hr
    have cp : c ≠ p := ne_of hc hp (by intro z; cases z)
    -- what stands behind the first if
    obtain ⟨tt, htt, key⟩ : ∃ t, PSs (cxOf CX0 P w K mg base ["_law_pen_here", "_law_many", "_law_cell", "_law_digit", "_law_blend"] "_law_draw" (defScope sDraw) f cdv A outer s H E).nox ((defBody sDraw).drop 2) t ∧
        ∀ (D : Ends) (v : Option V) (i' : Nat) (dg' fo' : Int) (H1 : Hp), H1 p = some (.dK (penK c i' dg' ((n : Int) + 1) fo')) → H1 c = some (.lst (zs.map V.int)) → (∀ b, b ≠ p → H1 b = H b) → i' ≤ zs.length → 0 ≤ dg' → 0 ≤ fo' → fo' < 2147483648 →
          (∀ (r : Int) (H' : Hp), 0 ≤ r → r < m → PenAt H' p (n + 1) → (∀ b, b ≠ p → H' b = H b) → D.rt (.int r) H') → t D [some (.ref p), some (.int m), v, none, none] H1 := by
      refine ⟨_, pss_cons (ps_if (pt_cmpR op_gt (pe_dget hu (pv 0) pe_str (fun _ _ => rfl)) pe_int (nomark _))
        (pss_cons (ps_set (i := 3) scD.nd rfl (.inl rfl) (pe_op op_mod (pe_callTy call_int1 (by rfl) gI PyProof.Rows.boot_int (pa_cons (pe_dget hu (pv 0) pe_str (fun _ _ => rfl)) pa_nil)) (pv 1)))
        (pss_cons (ps_dput hu (pv 0) pe_str (pe_op op_fdiv (pe_dget hu (pv 0) pe_str (fun _ _ => rfl)) (pv 1)) rfl)
        (pss_one (ps_ret (pv 3)))))
        pss_nil)
        (pss_cons (ps_set (i := 4) scD.nd rfl (.inl rfl) (pe_op op_add (pe_op op_add (pe_dget hu (pv 0) pe_str (fun _ _ => rfl)) (pe_op op_mul (pe_dget hu (pv 0) pe_str (fun _ _ => rfl)) pe_int)) pe_int))
        (pss_one (ps_ret (pe_op op_mod (pe_op op_fdiv (pe_callTy call_int1 (by rfl) gI PyProof.Rows.boot_int (pa_cons (pe_op op_mod (pe_op op_pow (pv 4) pe_int) pe_int) pa_nil)) pe_int) (pv 1))))), ?_⟩
      intro D v i' dg' fo' H1 e1 e2 e3 h1 h2 h3 h4 kD
      refine ⟨_, rfl, p, _, rfl, dget_of e1 pen_dig, _, _, rfl, rfl, _, rfl, ?_⟩
      refine ite2 (fun hd => ?_) (fun hd => ?_)
      · refine ⟨_, rfl, p, _, rfl, dget_of e1 pen_dig, .inl ⟨_, rfl, _, rfl, _, _, rfl, rfl, (by show 0 < m; omega), ?_⟩⟩
        refine ⟨_, rfl, p, _, rfl, dget_of e1 pen_dig, _, rfl, _, _, rfl, rfl, ⟨by omega, m2⟩, _, rfl, p, _, rfl, dput_of e1 put_dig, ?_⟩
        refine ⟨_, rfl, ?_⟩
        refine kD _ _ (Int.emod_nonneg _ (by omega)) (Int.emod_lt_of_pos _ (by omega)) ⟨⟨c, zs, i', dg' / m, fo', ?_, ?_, h1, hl, Int.ediv_nonneg h2 (by omega), h3, h4⟩⟩ fun b hb => ?_
        · rw [upd_same]
          rfl
        · rw [upd_ne cp]
          exact e2
        · rw [upd_ne hb]
          exact e3 b hb
      · refine ⟨_, rfl, p, _, rfl, dget_of e1 pen_fold, _, rfl, p, _, rfl, dget_of e1 pen_cnt, _, _, rfl, rfl, .inr ⟨by decide, by decide⟩, _, _, rfl, rfl, _, _, rfl, rfl, ?_⟩
        refine ⟨_, rfl, _, _, rfl, rfl, ⟨by decide, by decide, ?_⟩, _, _, rfl, rfl, (by show (0 : Int) < 2305843009213693951; decide), .inl ⟨_, rfl, _, _, rfl, rfl, ⟨by decide, by decide⟩, _, rfl, _, _, rfl, rfl, (by show 0 < m; omega), ?_⟩⟩
        · show (fo' + ((n : Int) + 1) * 7907 + 37).natAbs < 18446744073709551616
          omega
        · exact kD _ _ (Int.emod_nonneg _ (by omega)) (Int.emod_lt_of_pos _ (by omega)) ⟨⟨c, zs, i', dg', fo', e1, e2, h1, hl, h2, h3, h4⟩⟩ e3
    refine ⟨_, PSs.nox (pss_cons (ps_dput hu (pv 0) pe_str (pe_op op_add (pe_dget hu (pv 0) pe_str (fun _ _ => rfl)) pe_int) rfl)
      (pss_cons (ps_if (PW.pt (pw_and (pt_cmpR op_eq (pe_dget hu (pv 0) pe_str (fun _ _ => rfl)) pe_int (nomark _)) (pw_and1 (pt_cmpR op_lt (pe_dget hu (pv 0) pe_str (fun _ _ => rfl)) (pe_callB call_len_seq (by rfl) gL PySem.boot_len (pa_cons (pe_dget hu (pv 0) pe_str (fun _ _ => rfl)) pa_nil)) (nomark _)))))
        (pss_cons (ps_set (i := 2) scD.nd rfl (.inl rfl) (pe_ix ix_list (pe_dget hu (pv 0) pe_str (fun _ _ => rfl)) (pe_dget hu (pv 0) pe_str (fun _ _ => rfl)) (fun _ _ => rfl)))
        (pss_cons (ps_dput hu (pv 0) pe_str (pe_op op_add (pe_dget hu (pv 0) pe_str (fun _ _ => rfl)) pe_int) rfl)
        (pss_one (ps_if (pt_cmpR op_ge (pv 2) (pe_op op_pow pe_int pe_int) (nomark _))
          (pss_one (ps_dput hu (pv 0) pe_str (pe_op op_sub (pv 2) (pe_op op_pow pe_int pe_int)) rfl))
          (pss_one (ps_dput hu (pv 0) pe_str (pe_op op_mod (pe_callTy call_int1 (by rfl) gI PyProof.Rows.boot_int (pa_cons (pe_op op_add (pe_op op_mul (pe_dget hu (pv 0) pe_str (fun _ _ => rfl)) pe_int) (pv 2)) pa_nil)) pe_int) rfl))))))
        pss_nil)
      htt)), ?_⟩
    refine ⟨_, rfl, p, _, rfl, dget_of hp pen_cnt, _, _, rfl, rfl, _, rfl, p, _, rfl, dput_of hp put_cnt, ?_⟩
    have hc1 : ∀ o, upd H p o c = some (.lst (zs.map V.int)) := fun o => by
      rw [upd_ne cp]
      exact hc
    have far : ∀ (o : HO) (b : Addr), b ≠ p → upd H p o b = H b := fun o b hb => upd_ne hb
    refine ⟨_, rfl, p, _, rfl, dget_of upd_same pen_dig, rfl, _, rfl, ?_⟩
    refine ite2 (fun _ => ?_) (fun _ => ?_)
    · refine ⟨_, rfl, p, _, rfl, dget_of upd_same pen_at, _, rfl, p, _, rfl, dget_of upd_same pen_cells, c, _, rfl, .inl (SqL.of (hc1 _)), _, _, rfl, rfl, _, rfl, ?_⟩
      refine ite2 (fun hlt => ?_) (fun _ => ?_)
      · have hlt' : (i : Int) < ((zs.map V.int).length : Int) := of_decide_eq_true hlt
        rw [List.length_map] at hlt'
        have hiz : i < zs.length := by omega
        have hat : atI (zs.map V.int) (i : Int) = some (.int zs[i]) := atI_nat (by rw [List.getElem?_map, List.getElem?_eq_getElem hiz]; rfl)
        refine ⟨_, rfl, p, _, rfl, dget_of upd_same pen_cells, _, rfl, p, _, rfl, dget_of upd_same pen_at, c, _, _, _, rfl, rfl, SqL.of (hc1 _), hat, ?_⟩
        refine ⟨_, rfl, p, _, rfl, dget_of upd_same pen_at, _, _, rfl, rfl, _, rfl, p, _, rfl, dput_of upd_same put_at, ?_⟩
        rw [upd_upd]
        refine ⟨_, rfl, _, _, rfl, rfl, ⟨by decide, by decide, by decide⟩, _, _, rfl, rfl, _, rfl, ?_⟩
        refine ite2 (fun hbig => ?_) (fun _ => ?_)
        · have hbig' : (10 : Int) ^ 18 ≤ zs[i] := of_decide_eq_true hbig
          refine ⟨_, rfl, _, _, rfl, rfl, ⟨by decide, by decide, by decide⟩, _, _, rfl, rfl, _, rfl, p, _, rfl, dput_of upd_same put_dig, ?_⟩
          rw [upd_upd]
          have e10 : (10 : Int) ^ 18 = 1000000000000000000 := by decide
          refine key _ _ (i + 1) _ fo _ upd_same (hc1 _) (far _) (by omega) ?_ f0 f1 k
          show 0 ≤ zs[i] - (10 : Int) ^ 18
          omega
        · refine ⟨_, rfl, p, _, rfl, dget_of upd_same pen_fold, _, _, rfl, rfl, .inr ⟨by decide, by decide⟩, _, rfl, _, _, rfl, rfl, .inl ⟨_, rfl, _, _, rfl, rfl, (by show (0 : Int) < 2147483587; decide), _, rfl, p, _, rfl, dput_of upd_same put_fold, ?_⟩⟩
          rw [upd_upd]
          refine key _ _ (i + 1) dg _ _ upd_same (hc1 _) (far _) (by omega) hd ?_ ?_ k
          · exact Int.emod_nonneg _ (by decide)
          · exact Int.lt_trans (Int.emod_lt_of_pos _ (by decide)) (by decide)
      · exact key _ _ i dg fo _ upd_same (hc1 _) (far _) hi hd f0 f1 k
    · exact key _ _ i dg fo _ upd_same (hc1 _) (far _) hi hd f0 f1 k
end
theorem rd_but {H H' : Hp} {p l : Addr} {kvs : List (Key × V)} {u : HO} (hp : H p = some (.dK kvs)) (k : ∀ b, b ≠ p → H' b = H b) (hu : ∀ kvs, u ≠ .dK kvs) (h : Rd H l u) : Rd H' l u := by
  rcases h with h | ⟨o, h⟩
  · exact .inl ((k l (ne_of h hp (hu _))).trans h)
  · exact .inr ⟨o, (k l (ne_of h hp (by intro z; cases z))).trans h⟩
theorem sqL_but {K : PySem.W.Frag} {H H' : Hp} {p l : Addr} {kvs : List (Key × V)} {xs : List V} (hp : H p = some (.dK kvs)) (k : ∀ b, b ≠ p → H' b = H b) (h : SqL K H l xs) : SqL K H' l xs := by
  rcases h with h | h
  · exact .inl (rd_but hp k (fun _ z => by cases z) h)
  · exact .inr h
theorem sqT_but {K : PySem.W.Frag} {H H' : Hp} {p l : Addr} {kvs : List (Key × V)} {xs : List V} (hp : H p = some (.dK kvs)) (k : ∀ b, b ≠ p → H' b = H b) (h : SqT K H l xs) : SqT K H' l xs := by
  rcases h with h | h
  · exact .inl (rd_but hp k (fun _ z => by cases z) h)
  · exact .inr h
theorem PenAt.same {H H' : Hp} {p : Addr} {n : Nat} (h : PenAt H p n) (k : Same H H') : PenAt H' p n := by
  obtain ⟨c, zs, i, dg, fo, e1, e2, r⟩ := h.ex
  exact ⟨⟨c, zs, i, dg, fo, k _ _ e1, k _ _ e2, r⟩⟩
/-- _law_pick(pen, some): one of them; the pen alone changes -/
def spPick (K : PySem.W.Frag) : Sp := fun vs H Q _ => ∃ (p l : Addr) (n : Nat) (xs : List V), vs = [.ref p, .ref l] ∧ PenAt H p n ∧ n < 1000000 ∧ (SqL K H l xs ∨ SqT K H l xs) ∧ 1 ≤ xs.length ∧ xs.length < 1073741824 ∧
  ∀ (i : Nat) (x : V) (H' : Hp), xs[i]? = some x → PenAt H' p (n + 1) → (∀ b, b ≠ p → H' b = H b) → Q x H'
section
variable {P : Program} {w : World} {K : PySem.W.Frag} {mg : Str → Option Value} {base : Heap}
theorem scK : FnScope ["_law_pen_here", "_law_some"] ["_law_pen_here", "_law_some"] (defScope sPick) := ⟨rfl, rfl, rfl, by decide +kernel, rfl, by decide +kernel, by decide +kernel⟩
theorem ok_pick {f : Addr} {fd : FuncData} (F : FnP K "_law_pick" sPick f fd) (DD : Df P w K mg base CX0 1 "_law_draw" ["_law_pen_here", "_law_many"] spDraw) (gL : mg "len" = none) : FnOk P w K mg base CX0 2 f fd ["_law_pen_here", "_law_some"] (spPick K) := by
  refine F.ok scK (fun vs H Q E h => ?_) (fun cdv A outer s H vs Q E hr h => ?_)
  · obtain ⟨p, l, n, xs, rfl, _⟩ := h
    rfl
  · obtain ⟨p, l, n, xs, rfl, hp, hn, hS, h1, h2, k⟩ := h
    obtain ⟨c, zs, i0, dg, fo, ep, _⟩ := hp.ex
    refine ⟨_, PSs.nox (pss_one (ps_ret (pe_ix (IxR.or ix_list ix_tup) (pv 1) (pe_df DD hr (by rfl) pass0 (pa_cons (pv 0) (pa_cons (pe_callB call_len_seq (by rfl) gL PySem.boot_len (pa_cons (pv 1) pa_nil)) pa_nil))) (fun _ _ => rfl)))), ?_⟩
    refine ⟨_, rfl, _, rfl, _, rfl, l, xs, rfl, hS, p, n, (xs.length : Int), rfl, hp, by omega, by omega, hn, fun r H' r0 r1 hp' hb => ?_⟩
    obtain ⟨j, rfl⟩ := Int.eq_ofNat_of_zero_le r0
    have hj : j < xs.length := by omega
    have hat : atI xs (j : Int) = some xs[j] := atI_nat (List.getElem?_eq_getElem hj)
    rcases hS with hS | hS
    · exact .inl ⟨l, xs, _, _, rfl, rfl, sqL_but ep hb hS, hat, k j _ H' (List.getElem?_eq_getElem hj) hp' hb⟩
    · exact .inr ⟨l, xs, _, _, rfl, rfl, sqT_but ep hb hS, hat, k j _ H' (List.getElem?_eq_getElem hj) hp' hb⟩
end
end Sq

set_option Elab.async false
set_option linter.all false
set_option maxRecDepth 100000
set_option maxHeartbeats 4000000
/-! The law's small defs: cells, beside, around, squares. -/
namespace Sq
open PySem PySem.Spec PyProof.Rows L2
def spLBeside : Sp := fun vs H Q _ => ∃ (p : Addr) (c : Cell), vs = [.ref p] ∧ At H p c ∧ ∀ l H', Same H H' → H l = none → CellsL H' l (besideC c) → Q (.ref l) H'
def spSquares : Sp := fun vs H Q _ => ∃ (t : Addr) (cs : List Cell), vs = [.ref t] ∧ CellsT H t cs ∧ cs.Nodup ∧ cs.length ≤ 1000 ∧ ∀ d H', Same H H' → H d = none → H' d = some (.dT (lotK cs)) → Q (.ref d) H'
/-- the eight around -/
def aroundC (c : Cell) : List Cell := [(c.1 - 1, c.2 - 1), (c.1 - 1, c.2), (c.1 - 1, c.2 + 1), (c.1, c.2 - 1), (c.1, c.2 + 1), (c.1 + 1, c.2 - 1), (c.1 + 1, c.2), (c.1 + 1, c.2 + 1)]
def spAround : Sp := fun vs H Q _ => ∃ (p : Addr) (c : Cell), vs = [.ref p] ∧ At H p c ∧ ∀ l H', Same H H' → H l = none → CellsL H' l (aroundC c) → Q (.ref l) H'
section
variable {P : Program} {w : World} {K : PySem.W.Frag} {mg : Str → Option Value} {base : Heap}
end
end Sq

set_option Elab.async false
set_option linter.all false
set_option maxRecDepth 100000
set_option maxHeartbeats 4000000
/-! The law's around, free's rest, done. -/
namespace Sq
open PySem PySem.Spec PyProof.Rows L2
def offs : List Int := [-1, 0, 1]
def rowU (a : Int) (us : List Int) : List Int := us.filter fun u => !decide ((a, u) = ((0, 0) : Cell))
def rowC (c : Cell) (a : Int) (us : List Int) : List Cell := (rowU a us).map fun u => (c.1 + a, c.2 + u)
theorem around_eq (c : Cell) : aroundC c = offs.flatMap fun a => rowC c a offs := by
  have e0 : rowU (-1) offs = [-1, 0, 1] := by decide
  have e1 : rowU 0 offs = [-1, 1] := by decide
  have e2 : rowU 1 offs = [-1, 0, 1] := by decide
  unfold aroundC
  simp only [offs, List.flatMap_cons, List.flatMap_nil, rowC]
  rw [show ([-1, 0, 1] : List Int) = offs from rfl, e0, e1, e2]
  simp only [List.map_cons, List.map_nil, List.cons_append, List.nil_append, List.append_nil, Int.add_zero, ← Int.sub_eq_add_neg]
theorem three_le : (3 : Nat) ≤ sizeLine := by rw [sizeLine_eq]; decide
section
variable {P : Program} {w : World} {K : PySem.W.Frag} {mg : Str → Option Value} {base : Heap}
end
end Sq

set_option Elab.async false
set_option linter.all false
set_option maxRecDepth 100000
set_option maxHeartbeats 4000000
/-! The law's parts. -/
namespace Sq
open PySem PySem.Spec PyProof.Rows L2
theorem lot_drop (c : Cell) : ∀ L : List Cell, dropK (lotK L) (cK c) = lotK (without L c)
  | [] => rfl
  | d :: L => by
    have ih := lot_drop c L
    show dropK ((cK d, V.bl true) :: lotK L) (cK c) = _
    unfold dropK at ih ⊢
    unfold without at ih ⊢
    rw [List.filter_cons, List.filter_cons, ih]
    by_cases h : d = c
    · subst h
      simp
    · have e : cK d ≠ cK c := fun z => h (cK_inj z)
      simp only [ne_eq, h, e, not_false_eq_true, decide_true, if_true]
      rfl
theorem lot_put' (c : Cell) (L : List Cell) : putK (lotK L) (cK c) (.bl true) = lotK (addC L c) := by
  unfold addC
  by_cases m : c ∈ L
  · rw [if_pos m]
    unfold putK
    have an : ((lotK L).any fun kv => decide (kv.1 = cK c)) = true := List.any_eq_true.mpr ⟨(cK c, .bl true), List.mem_map.mpr ⟨c, m, rfl⟩, decide_eq_true rfl⟩
    rw [if_pos an]
    have al : ∀ kv ∈ lotK L, (if kv.1 = cK c then (kv.1, V.bl true) else kv) = kv := fun kv hk => by
      obtain ⟨d, _, rfl⟩ := List.mem_map.mp hk
      by_cases e : cK d = cK c
      · exact if_pos e
      · exact if_neg e
    rw [List.map_congr_left al]
    exact List.map_id' _
  · rw [if_neg m]
    exact lot_put m
theorem dput_lot' {H : Hp} {d q : Addr} {L : List Cell} {c : Cell} (hd : H d = some (.dT (lotK L))) (hq : At H q c) (hl : L.length < sizeLine) : DPut H d (.ref q) (.bl true) (upd H d (.dT (lotK (addC L c)))) := lot_put' c L ▸ DPut.t hd hq (by rw [lot_len]; exact hl)
theorem for_range_fin {lo : Int} {n : Nat} {g : TG} {tb : TS} {D : Ends} {σ : L2.St} {H : Hp} (Pv : Nat → L2.St → Hp → Prop) (Fin : L2.St → Hp → Prop) (fin : ∀ σ H, Fin σ H → D.nx σ H) (h0 : Pv 0 σ H)
    (hs : ∀ (i : Nat) (σ : L2.St) (H : Hp) (Bk : L2.St → Hp → Prop), i < n → Pv i σ H → (∀ σ H, Fin σ H → Bk σ H) → g (.int (lo + i)) σ H fun σ2 H2 => tb { D with nx := Pv (i + 1), ct := Pv (i + 1), bk := Bk } σ2 H2) (hd : ∀ σ H, Pv n σ H → Fin σ H) :
    ∃ W : Nat → Nat → L2.St → Hp → Prop, (∃ m, W 0 m σ H) ∧ ∀ i m σ H, W i m σ H →
      ((Itr lo n).stop i H ∧ D.nx σ H) ∨ ((Itr lo n).go i H ∧ ∃ N : L2.St → Hp → Prop, (∀ σ' H', N σ' H' → ∃ m', m' < m ∧ W (i + 1) m' σ' H') ∧ ∀ x H', (Itr lo n).yld i H x H' → g x σ H' fun σ2 H2 => tb { D with nx := N, ct := N, bk := D.nx } σ2 H2) :=
  for_range Pv h0 (fun i σ H hi p => hs i σ H D.nx hi p fin) fun σ H p => fin σ H (hd σ H p)
/-- l holds a list of tuples of these cells -/
def CellsLL (H : Hp) (l : Addr) (ps : List (List Cell)) : Prop := ∃ ts : List Addr, H l = some (.lst (ts.map V.ref)) ∧ Paired (fun t p => CellsT H t p) ts ps
def spParts : Sp := fun vs H Q _ => ∃ (a : Addr) (cs : List Cell), vs = [.ref a] ∧ (CellsL H a cs ∨ CellsT H a cs) ∧ cs.length ≤ 1000 ∧ ∀ l H' ps, Same H H' → CellsLL H' l ps → ps.length ≤ cs.length → IsParts cs ps → Q (.ref l) H'
/-- the state between two cells -/
structure Pt (H : Hp) (cs S : List Cell) (dl fo so : Addr) (i : Nat) (R : List Cell) (ps : List (List Cell)) (G : Hp) : Prop where
  same : Same H G
  gl : G dl = some (.dT (lotK R))
  gf : CellsLL G fo ps
  gs : CellsL G so S
  nd : R.Nodup
  mem : ∀ x, x ∈ R ↔ x ∈ cs ∧ ∀ p ∈ ps, x ∉ p
  asc : ∀ p ∈ ps, Asc p ∧ p.Nodup ∧ p ≠ []
  cls : ∀ p ∈ ps, ∀ x ∈ p, x ∈ cs ∧ ∀ y, y ∈ p ↔ Reach cs x y
  cov : ∀ x ∈ S.take i, ∃ p ∈ ps, x ∈ p
  hed : ∀ p ∈ ps, ∃ a, p.head? = some a ∧ a ∈ S.take i
  ord : ps.Pairwise fun p q => ∃ a b, p.head? = some a ∧ q.head? = some b ∧ cLt a b = true
  few : ps.length ≤ i
section
variable {P : Program} {w : World} {K : PySem.W.Frag} {mg : Str → Option Value} {base : Heap}
theorem PI.or {X : Cx} {tg e : Expr} {w1 w2 : TI} (h1 : PI X tg e w1) (h2 : PI X tg e w2) : PI X tg e (fun σ H R => w1 σ H R ∨ w2 σ H R) := ⟨fun pins s σ H R I h => h.elim (h1.run pins s σ H R I) (h2.run pins s σ H R I)⟩
/-- what is short of the cells' strict order -/
theorem asc_lt {S : List Cell} (asc : Asc S) (nd : S.Nodup) {i j : Nat} {a b : Cell} (ha : S[i]? = some a) (hb : S[j]? = some b) (hij : i < j) : cLt a b = true := by
  have h := List.pairwise_iff_getElem.mp asc
  obtain ⟨la, ea⟩ := List.getElem?_eq_some_iff.mp ha
  obtain ⟨lb, eb⟩ := List.getElem?_eq_some_iff.mp hb
  have q := h i j la lb hij
  rw [ea, eb] at q
  cases e : cLt a b with
  | true => rfl
  | false =>
    have := cLt_tri e q
    subst this
    have z := (List.getElem?_inj la nd).mp (ha.trans hb.symm)
    omega
/-- the state within a part's flood -/
structure Pf (H : Hp) (cs S : List Cell) (dl fo so pl : Addr) (c : Cell) (ps : List (List Cell)) (j : Nat) (R Pl : List Cell) (G : Hp) : Prop where
  same : Same H G
  gl : G dl = some (.dT (lotK R))
  gf : CellsLL G fo ps
  gs : CellsL G so S
  gp : CellsL G pl Pl
  nd : R.Nodup
  mem : ∀ x, x ∈ R ↔ (x ∈ cs ∧ ∀ p ∈ ps, x ∉ p) ∧ x ∉ Pl
  ndP : Pl.Nodup
  c0 : c ∈ Pl
  re : ∀ x ∈ Pl, Reach cs c x
  le : j ≤ Pl.length
  cl : ∀ k x, k < j → Pl[k]? = some x → ∀ y ∈ besideC x, y ∈ cs → y ∈ Pl
end
end Sq

set_option Elab.async false
set_option linter.all false
set_option maxRecDepth 100000
set_option maxHeartbeats 4000000
/-! The law's hangs, free, supports, kind. -/
namespace Sq
open PySem PySem.Spec PyProof.Rows L2
def spLHangs : Sp := fun vs H Q _ => ∃ (a : Addr) (cs : List Cell), vs = [.ref a] ∧ (CellsL H a cs ∨ CellsT H a cs) ∧ cs.length ≤ 1000 ∧ ∀ H', Same H H' → Q (.bl (hangsB cs)) H'
def spFree : Sp := fun vs H Q _ => ∃ (t q : Addr) (L : List Cell) (c : Cell), vs = [.ref t, .ref q] ∧ CellsT H t L ∧ L.length ≤ 1000 ∧ At H q c ∧ ∀ H', Same H H' → Q (.bl (hangsB (without L c))) H'
def spSupp (K : PySem.W.Frag) : Sp := fun vs H Q _ => ∃ (d p q : Addr) (L : List Cell) (s e : Cell), vs = [.ref d, .ref p, .ref q] ∧ H d = some (.dT (lotK L)) ∧ At H p s ∧ At H q e ∧
  ∀ l H' ds, Same H H' → Dp K H' (.ref l) (.list ds) → Lay 8 (.list ds) → (ds = [] ↔ byPlace L s e = .non) → Q (.ref l) H'
def spLKind : Sp := fun vs H Q _ => ∃ (t p q : Addr) (L : List Cell) (s e : Cell), vs = [.ref t, .ref p, .ref q] ∧ CellsT H t L ∧ L.Nodup ∧ L.length ≤ 1000 ∧ At H p s ∧ At H q e ∧ ∀ H', Same H H' → Q (kindV L s e) H'
theorem lay_cell (c : Cell) : Lay 1 (cD c) := lay_tuple fun d hd => by
  rcases List.mem_cons.mp hd with e | e
  · rw [e]; exact lay_int _
  · rw [List.mem_singleton.mp e]; exact lay_int _
theorem byPlace_line {L : List Cell} {s e : Cell} (h : byPlace L s e ≠ .non) : byPlace L s e = if s.1 = e.1 ∨ s.2 = e.2 then .str "slide" else .str "turn" := by
  have a0 : ∀ i : Int, absI i = 0 ↔ i = 0 := fun i => by unfold absI; split <;> omega
  have an : ∀ i : Int, 0 ≤ absI i := fun i => by unfold absI; split <;> omega
  revert h
  unfold byPlace
  split
  · intro h; exact absurd rfl h
  · split
    · rename_i h1
      split
      · intro _
        have n1 := an (e.1 - s.1)
        have n2 := an (e.2 - s.2)
        have z : absI (e.1 - s.1) = 0 ∨ absI (e.2 - s.2) = 0 := by omega
        rw [if_pos (by
          rcases z with z | z
          · exact .inl (by have := (a0 _).mp z; omega)
          · exact .inr (by have := (a0 _).mp z; omega))]
      · intro h; exact absurd rfl h
    · split
      · rename_i h1 h2
        split
        · intro _
          rw [if_neg (fun z => by
            rcases z with z | z
            · have := (a0 (e.1 - s.1)).mpr (by omega); omega
            · have := (a0 (e.2 - s.2)).mpr (by omega); omega)]
        · intro h; exact absurd rfl h
      · intro h; exact absurd rfl h
section
variable {P : Program} {w : World} {K : PySem.W.Frag} {mg : Str → Option Value} {base : Heap}
end
end Sq

set_option Elab.async false
set_option linter.all false
set_option maxRecDepth 100000
set_option maxHeartbeats 4000000
/-! The law's supports. -/
namespace Sq
open PySem PySem.Spec PyProof.Rows L2
abbrev CellP := Cell × Cell
def pD (p : CellP) : PyData := .tuple [cD p.1, cD p.2]
theorem alike_cD (c d : Cell) : PySem.W.alike (cD c) (cD d) = true := by
  simp only [cD, PySem.W.alike, PySem.W.alikeAll, Bool.and_true]
theorem alike_pD (c d : CellP) : PySem.W.alike (pD c) (pD d) = true := by
  simp only [pD, PySem.W.alike, PySem.W.alikeAll, alike_cD, Bool.and_true]
theorem lay_pD (p : CellP) : Lay 2 (pD p) := lay_tuple fun d hd => by
  rcases List.mem_cons.mp hd with e | e
  · rw [e]; exact lay_cell _
  · rw [List.mem_singleton.mp e]; exact lay_cell _
/-- a pair of cells stands at r -/
def PairAt (H : Hp) (r : Addr) (b : CellP) : Prop := ∃ q1 q2 : Addr, H r = some (.tup [.ref q1, .ref q2]) ∧ At H q1 b.1 ∧ At H q2 b.2
theorem PairAt.same {H G : Hp} {r : Addr} {b : CellP} (h : PairAt H r b) (k : Same H G) : PairAt G r b := by
  obtain ⟨q1, q2, e, a1, a2⟩ := h
  exact ⟨q1, q2, k _ _ e, k _ _ a1, k _ _ a2⟩
theorem PairAt.off {H : Hp} {r p : Addr} {b : CellP} {o u : HO} (h : PairAt H r b) (hp : H p = some u) (hu : ∀ xs, u ≠ .tup xs) : PairAt (upd H p o) r b := by
  obtain ⟨q1, q2, e, a1, a2⟩ := h
  exact ⟨q1, q2, by rw [upd_ne (ne_of e hp (fun z => hu _ z.symm))]; exact e, a1.off hp hu, a2.off hp hu⟩
theorem PairAt.dp {K : PySem.W.Frag} {H : Hp} {r : Addr} {b : CellP} (h : PairAt H r b) : Dp K H (.ref r) (pD b) := by
  obtain ⟨q1, q2, e, a1, a2⟩ := h
  exact .tup (SqT.of e) (.cons a1.dp (.cons a2.dp .nil))
theorem paired_mapL {α β γ : Type} {F : α → γ → Prop} (f : β → α) : ∀ {xs : List β} {ys : List γ}, Paired (fun b y => F (f b) y) xs ys → Paired F (xs.map f) ys
  | _, _, .nil => .nil
  | _, _, .cons h t => .cons h (paired_mapL f t)
/-- the sides as the law tries them: +1, then -1 -/
def sgn (s e : Cell) (g : Int) : Cell := (g * (e.2 - s.2), g * (e.1 - s.1))
theorem nb {p : Prop} [Decidable p] : (!decide p) = true ↔ ¬ p := by simp
theorem absI_nonneg (i : Int) : 0 ≤ absI i := by unfold absI; split <;> omega
theorem absI_zero {i : Int} : absI i = 0 ↔ i = 0 := by unfold absI; split <;> omega
theorem max_one {a b : Int} (h : (if absI b > absI a then absI b else absI a) = 1) : (absI a + absI b = 1 ∧ (a = 0 ∨ b = 0)) ∨ (absI a = 1 ∧ absI b = 1 ∧ a ≠ 0 ∧ b ≠ 0) := by
  have h1 := absI_nonneg a
  have h2 := absI_nonneg b
  have z1 := absI_zero (i := a)
  have z2 := absI_zero (i := b)
  split at h <;> omega
theorem not_one {a b : Int} (h : ¬ (if absI b > absI a then absI b else absI a) = 1) : ¬ absI a + absI b = 1 ∧ ¬ (absI a = 1 ∧ absI b = 1) := by
  have h1 := absI_nonneg a
  have h2 := absI_nonneg b
  split at h <;> omega
section
variable {P : Program} {w : World} {K : PySem.W.Frag} {mg : Str → Option Value} {base : Heap}
end
end Sq

set_option Elab.async false
set_option linter.all false
set_option maxRecDepth 100000
set_option maxHeartbeats 4000000
/-! The law's done; odd cells. -/
namespace Sq
open PySem PySem.Spec PyProof.Rows L2
def spLDone : Sp := fun vs H Q _ => ∃ (t p q : Addr) (L : List Cell) (s e : Cell), vs = [.ref t, .ref p, .ref q] ∧ CellsT H t L ∧ L.length ≤ 1000 ∧ At H p s ∧ At H q e ∧ ∀ r H' cs, Same H H' → CellsT H' r cs → cs.Perm (without L s ++ [e]) → Asc cs → Q (.ref r) H'
/-- x is no cell, and can be compared -/
structure OddQ (K : PySem.W.Frag) (H : Hp) (x : V) (d : PyData) : Prop where
  cq : CellQ K H x false
  dp : Dp K H x d
  ly : Lay 3 d
theorem OddQ.ek {K : PySem.W.Frag} {H G : Hp} {x : V} {d : PyData} (h : OddQ K H x d) (k : Ek H G) : OddQ K G x d := ⟨h.cq.ek k, k.dp _ _ h.dp, h.ly⟩
theorem pen_ek {H H' : Hp} {p : Addr} {n : Nat} (hp : PenAt H p n) (h : Kp [p] H H') : Ek H H' := fun b o _ n2 e => h b o (fun m => by
  obtain ⟨c, zs, i, dg, fo, e2, _⟩ := hp.ex
  rw [List.mem_singleton.mp m, e2] at e
  exact n2 _ (Option.some.inj e).symm) e
theorem pen_tabs {Ts : List Addr} {H H' : Hp} {p : Addr} {n : Nat} (hp : PenAt H p n) (h : Kp [p] H H') (tb : TabsG Ts H) : TabsG Ts H' := fun T m => by
  obtain ⟨ps, e, t⟩ := tb T m
  refine ⟨ps, h T _ (fun mm => ?_) e, t⟩
  obtain ⟨c, zs, i, dg, fo, e2, _⟩ := hp.ex
  rw [List.mem_singleton.mp mm, e2] at e
  cases e
/-- what a pen's def does -/
theorem kp_pick {H H' : Hp} {p : Addr} (h : ∀ b, b ≠ p → H' b = H b) : Kp [p] H H' := Kp.but (List.mem_singleton.mpr rfl) h
def spOdd (K : PySem.W.Frag) : Sp := fun vs H Q _ => ∃ (p : Addr) (n : Nat), vs = [.ref p] ∧ PenAt H p n ∧ n < 1000000 ∧ ∀ x d H', PenAt H' p (n + 1) → Kp [p] H H' → OddQ K H' x d → Q x H'
def AllOdd (K : PySem.W.Frag) (H : Hp) (xs : List V) : Prop := ∀ x ∈ xs, ∃ d, OddQ K H x d
theorem AllOdd.more {K : PySem.W.Frag} {H G : Hp} {xs : List V} {x : V} {d : PyData} (h : AllOdd K H xs) (k : Same H G) (o : OddQ K G x d) : AllOdd K G (x :: xs) := fun y hy => (List.mem_cons.mp hy).elim (fun e => ⟨d, e ▸ o⟩) fun m => by
  obtain ⟨d, z⟩ := h y m
  exact ⟨d, z.ek (.of k)⟩
theorem AllOdd.same {K : PySem.W.Frag} {H G : Hp} {xs : List V} (h : AllOdd K H xs) (k : Same H G) : AllOdd K G xs := fun y m => by
  obtain ⟨d, z⟩ := h y m
  exact ⟨d, z.ek (.of k)⟩
section
variable {P : Program} {w : World} {K : PySem.W.Frag} {mg : Str → Option Value} {base : Heap}
end
end Sq

set_option Elab.async false
set_option linter.all false
set_option maxRecDepth 100000
set_option maxHeartbeats 4000000
/-! The law's blobs. -/
namespace Sq
open PySem PySem.Spec PyProof.Rows L2
def spBlob : Sp := fun vs H Q _ => ∃ (p : Addr) (n m : Nat) (tt : Int), vs = [.ref p, .int (m : Int), .int tt] ∧ PenAt H p n ∧ 1 ≤ m ∧ m ≤ 60 ∧ n < 900000 ∧
  ∀ l H' A n', PenAt H' p n' → n' ≤ n + 3 * m → Kp [p] H H' → CellsL H' l A → A.length = m → A.Nodup → Hangs A → A.head? = some (0, 0) → Q (.ref l) H'
/-- the state of a blob that grows: known and counts, and so on -/
structure Bb (H : Hp) (p ce kn co : Addr) (i : Nat) (A Cs : List Cell) (n : Nat) (G : Hp) : Prop where
  pen : PenAt G p n
  kp : Kp [p] H G
  gc : CellsL G ce A
  gk : G kn = some (.dT (lotK A))
  go : ∃ kvs, G co = some (.dT kvs) ∧ IntD kvs Cs
  nd : A.Nodup
  hangs : Hangs A
  ndC : Cs.Nodup
  len : A.length = i + 1
  sub : ∀ x ∈ Cs, ∃ a ∈ A, x ∈ besideC a
  hd : A.head? = some (0, 0)
theorem head_app {A : List Cell} {c : Cell} (h : A.head? = some c) (B : List Cell) : (A ++ B).head? = some c := by
  cases A with
  | nil => cases h
  | cons a t => exact h
theorem Bb.ek {H : Hp} {p ce kn co : Addr} {i n n' : Nat} {A Cs : List Cell} {G G1 : Hp} (I : Bb H p ce kn co i A Cs n G) (k : Kp [p] G G1) (hp : PenAt G1 p n') : Bb H p ce kn co i A Cs n' G1 := by
  have ek := pen_ek I.pen k
  obtain ⟨kvs, e, d⟩ := I.go
  exact ⟨hp, I.kp.trans k, I.gc.ek ek, ek.dT I.gk, ⟨kvs, ek.dT e, d⟩, I.nd, I.hangs, I.ndC, I.len, I.sub, I.hd⟩
theorem eqv_nil (F : List Cell) : PyData.eqv (.list (F.map cD)) (.list []) = decide (F = []) := by
  cases F with
  | nil => rfl
  | cons x xs => rw [decide_eq_false (by simp)]; rfl
theorem lay_cells {F : List Cell} : Lay 2 (.list (F.map cD)) := lay_list fun d hd => by
  obtain ⟨c, _, rfl⟩ := List.mem_map.mp hd
  exact lay_cell c
/-- cells to pick from -/
def Good (A F : List Cell) : Prop := F.length ≤ 1000 ∧ ∀ x ∈ F, x ∉ A ∧ ∃ a ∈ A, x ∈ besideC a
def intOf : Option V → Int
  | some (.int i) => i
  | _ => 0
theorem Bb.putC {H : Hp} {p ce kn co : Addr} {i n : Nat} {A Cs : List Cell} {G : Hp} {kvs : List (List Key × V)} {y : Cell} {j : Int} (I : Bb H p ce kn co i A Cs n G) (e : G co = some (.dT kvs)) (d : IntD kvs Cs) (hco : H co = none) (nck : co ≠ kn) (hy : ∃ a ∈ A, y ∈ besideC a) :
    Bb H p ce kn co i A (addC Cs y) n (upd G co (.dT (putK kvs (cK y) (.int j)))) := by
  have off : ∀ {q : Addr} {x : Cell}, At G q x → At (upd G co (.dT (putK kvs (cK y) (.int j)))) q x := fun h => h.off e (by intro xs z; cases z)
  obtain ⟨cs, ec, pc⟩ := I.gc
  obtain ⟨c0, zs, i0, dg, fo, e1, e2, r⟩ := I.pen.ex
  refine ⟨⟨⟨c0, zs, i0, dg, fo, ?_, ?_, r⟩⟩, I.kp.put hco, ⟨cs, ?_, paired_imp (fun _ _ h => off h) pc⟩, ?_, ⟨_, upd_same, d.put y j⟩, I.nd, I.hangs, addC_nodup I.ndC, I.len, fun x hx => ?_, I.hd⟩
  · rw [upd_ne (ne_of e1 e (by intro z; cases z))]
    exact e1
  · rw [upd_ne (ne_of e2 e (by intro z; cases z))]
    exact e2
  · rw [upd_ne (ne_of ec e (by intro z; cases z))]
    exact ec
  · rw [upd_ne (Ne.symm nck)]
    exact I.gk
  · rcases addC_mem.mp hx with h | h
    · exact I.sub x h
    · exact h ▸ hy
theorem neg_last {α : Type} {xs : List α} {v : α} (h : xs[xs.length - 1]? = some v) : atI xs (-1) = some v := by
  have ne : xs ≠ [] := fun z => by rw [z] at h; cases h
  obtain ⟨ys, y, rfl⟩ := snoc_inv ne
  have : (ys ++ [y])[(ys ++ [y]).length - 1]? = some y := by simp
  rw [this] at h
  rw [Option.some.inj h]
  exact atI_last ys v
section
variable {P : Program} {w : World} {K : PySem.W.Frag} {mg : Str → Option Value} {base : Heap}
end
end Sq

set_option Elab.async false
set_option linter.all false
set_option maxRecDepth 100000
set_option maxHeartbeats 4000000
/-! The law's ways. -/
namespace Sq
open PySem PySem.Spec PyProof.Rows L2
theorem new_at {H : Hp} {p : Addr} (o : HO) (_ : H p = none) : upd H p o p = some o := upd_same
/-- each cell lies beside the one ahead of it -/
def Path (A : List Cell) : Prop := ∀ i a b, A[i]? = some a → A[i + 1]? = some b → b ∈ besideC a
theorem Path.take {A : List Cell} (h : Path A) (n : Nat) : Path (A.take n) := fun i a b ha hb => by
  have l1 := (List.getElem?_eq_some_iff.mp hb).1
  rw [List.length_take] at l1
  rw [List.getElem?_take_of_lt (by omega)] at ha hb
  exact h i a b ha hb
theorem Path.snoc {A : List Cell} {c x : Cell} (h : Path (A ++ [c])) (hx : x ∈ besideC c) : Path (A ++ [c] ++ [x]) := fun i a b ha hb => by
  have l1 := (List.getElem?_eq_some_iff.mp hb).1
  rw [List.length_append] at l1
  have l1 : i + 1 < (A ++ [c]).length + 1 := l1
  by_cases e : i + 1 < (A ++ [c]).length
  · rw [List.getElem?_append_left e] at hb
    rw [List.getElem?_append_left (by omega)] at ha
    exact h i a b ha hb
  · have e1 : i + 1 = (A ++ [c]).length := by omega
    rw [List.getElem?_append_left (by omega)] at ha
    rw [e1] at hb
    have e2 : ((A ++ [c]) ++ [x])[(A ++ [c]).length]? = some x := by simp
    rw [e2] at hb
    have e3 : i = A.length := by rw [List.length_append] at e1; simp at e1; exact e1
    rw [e3] at ha
    have e4 : (A ++ [c])[A.length]? = some c := by simp
    rw [e4] at ha
    rw [← Option.some.inj ha, ← Option.some.inj hb]
    exact hx
theorem path_hangs : ∀ (n : Nat) {A : List Cell}, A.length = n + 1 → Path A → Hangs A
  | 0, A, l, _ => by
    match A, l with
    | [c], _ => exact hangs_one c
  | n + 1, A, l, p => by
    obtain ⟨B, x, rfl⟩ := snoc_inv (xs := A) (fun z => by rw [z] at l; cases l)
    have lB : B.length = n + 1 := by rw [List.length_append] at l; simp at l; exact l
    obtain ⟨C, c, rfl⟩ := snoc_inv (xs := B) (fun z => by rw [z] at lB; cases lB)
    have pB : Path (C ++ [c]) := by
      have := p.take (C ++ [c]).length
      rwa [List.take_left] at this
    refine hangs_snoc (path_hangs n lB pB) (a := c) (by simp) (p C.length c x ?_ ?_)
    · rw [List.getElem?_append_left (by simp)]
      simp
    · have e : C.length + 1 = (C ++ [c]).length := by simp
      rw [e]
      simp
theorem Path.hangs {A : List Cell} (p : Path A) (ne : A ≠ []) : Hangs A := by
  cases A with
  | nil => exact absurd rfl ne
  | cons c A => exact path_hangs A.length rfl p
def dirs : List Cell := [(1, 0), (0, 1), (-1, 0), (0, -1)]
theorem dir_beside {c d : Cell} (h : d ∈ dirs) : (c.1 + d.1, c.2 + d.2) ∈ besideC c := by
  rw [beside_iff]
  simp only [dirs, List.mem_cons, List.not_mem_nil, or_false] at h
  rcases h with rfl | rfl | rfl | rfl
  · exact .inr (.inr (.inl ⟨rfl, Int.add_zero _⟩))
  · exact .inr (.inr (.inr ⟨Int.add_zero _, rfl⟩))
  · exact .inl ⟨rfl, Int.add_zero _⟩
  · exact .inr (.inl ⟨Int.add_zero _, rfl⟩)
def spWay (K : PySem.W.Frag) : Sp := fun vs H Q _ => ∃ (a : Addr) (t : Int) (ss : List Nat), vs = [.ref a, .int t] ∧ SqL K H a (ss.map fun (s : Nat) => V.int (s : Int)) ∧ 0 ≤ t ∧ t ≤ 4 ∧ ss.length ≤ 60 ∧ (∀ s ∈ ss, s ≤ 100) ∧
  ∀ l H' A, Same H H' → CellsL H' l A → A ≠ [] → A.length ≤ 10000 → Path A → A.head? = some (0, 0) → ((∀ s ∈ ss, 1 ≤ s) → ss.length < A.length) → Q (.ref l) H'
/-- the state of a way -/
structure Wy (K : PySem.W.Frag) (H : Hp) (ce at_ ah : Addr) (m : Nat) (A : List Cell) (c : Cell) (G : Hp) : Prop where
  same : Same H G
  gc : CellsL G ce (A ++ [c])
  ga : At G at_ c
  gd : CellsL G ah dirs
  path : Path (A ++ [c])
  len : A.length + 1 ≤ m
  hd : (A ++ [c]).head? = some (0, 0)
section
variable {P : Program} {w : World} {K : PySem.W.Frag} {mg : Str → Option Value} {base : Heap}
end
end Sq

set_option Elab.async false
set_option linter.all false
set_option maxRecDepth 100000
set_option maxHeartbeats 4000000
/-! Lists of cells each of which lies beside one ahead of it. -/
namespace Sq
open PySem PySem.Spec PyProof.Rows L2
def Grown (A : List Cell) : Prop := ∀ i b, A[i + 1]? = some b → ∃ j a, j ≤ i ∧ A[j]? = some a ∧ b ∈ besideC a
theorem Path.grown {A : List Cell} (h : Path A) : Grown A := fun i b hb => by
  have l := (List.getElem?_eq_some_iff.mp hb).1
  exact ⟨i, A[i], Nat.le_refl _, List.getElem?_eq_getElem (by omega), h i _ b (List.getElem?_eq_getElem (by omega)) hb⟩
theorem Grown.take {A : List Cell} (h : Grown A) (n : Nat) : Grown (A.take n) := fun i b hb => by
  have l := (List.getElem?_eq_some_iff.mp hb).1
  rw [List.length_take] at l
  rw [List.getElem?_take_of_lt (by omega)] at hb
  obtain ⟨j, a, hj, ha, hb⟩ := h i b hb
  exact ⟨j, a, hj, by rw [List.getElem?_take_of_lt (by omega)]; exact ha, hb⟩
theorem Grown.snoc {A : List Cell} {a x : Cell} (h : Grown A) (ha : a ∈ A) (hx : x ∈ besideC a) : Grown (A ++ [x]) := fun i b hb => by
  have l := (List.getElem?_eq_some_iff.mp hb).1
  rw [List.length_append] at l
  have l : i + 1 < A.length + 1 := l
  by_cases e : i + 1 < A.length
  · rw [List.getElem?_append_left e] at hb
    obtain ⟨j, c, hj, hc, hb⟩ := h i b hb
    exact ⟨j, c, hj, by rw [List.getElem?_append_left (by omega)]; exact hc, hb⟩
  · have e1 : i + 1 = A.length := by omega
    rw [e1] at hb
    have e2 : (A ++ [x])[A.length]? = some x := by simp
    rw [e2] at hb
    obtain ⟨j, hj⟩ := List.mem_iff_getElem?.mp ha
    have lj := (List.getElem?_eq_some_iff.mp hj).1
    exact ⟨j, a, by omega, by rw [List.getElem?_append_left lj]; exact hj, by rw [← Option.some.inj hb]; exact hx⟩
theorem grown_hangs : ∀ (n : Nat) {A : List Cell}, A.length = n + 1 → Grown A → Hangs A
  | 0, A, l, _ => by
    match A, l with
    | [c], _ => exact hangs_one c
  | n + 1, A, l, g => by
    obtain ⟨B, x, rfl⟩ := snoc_inv (xs := A) (fun z => by rw [z] at l; cases l)
    have lB : B.length = n + 1 := by rw [List.length_append] at l; simp at l; exact l
    have gB : Grown B := by
      have := g.take B.length
      rwa [List.take_left] at this
    have hx : (B ++ [x])[n + 1]? = some x := by rw [← lB]; simp
    obtain ⟨j, a, hj, ha, hb⟩ := g n x hx
    rw [List.getElem?_append_left (by omega)] at ha
    exact hangs_snoc (grown_hangs n lB gB) (List.mem_of_getElem? ha) hb
theorem Grown.hangs {A : List Cell} (p : Grown A) (ne : A ≠ []) : Hangs A := by
  cases A with
  | nil => exact absurd rfl ne
  | cons c A => exact grown_hangs A.length rfl p
theorem cut_take (xs : List V) (k : Nat) : cutV xs none (some (k : Int)) = xs.take k := by
  unfold cutV
  rw [HT.sIx_none, HT.sIx_nat, List.drop_zero, Nat.sub_zero]
  by_cases h : k ≤ xs.length
  · rw [Nat.min_eq_left h]
  · rw [Nat.min_eq_right (by omega), List.take_length, List.take_of_length_le (by omega)]
theorem CellsL.cut {H : Hp} {qs : List Addr} {cs : List Cell} (pr : Paired (fun q c => At H q c) qs cs) (k : Nat) : Paired (fun q c => At H q c) (qs.take k) (cs.take k) := by
  induction pr generalizing k with
  | nil =>
    rw [List.take_nil, List.take_nil]
    exact .nil
  | cons h _ ih =>
    cases k with
    | zero => exact .nil
    | succ k => exact .cons h (ih k)
theorem take_ne {α : Type} {xs : List α} {k : Nat} (h : xs ≠ []) (hk : 1 ≤ k) : xs.take k ≠ [] := by
  cases xs with
  | nil => exact absurd rfl h
  | cons x xs =>
    cases k with
    | zero => omega
    | succ k => simp
theorem rgc2 : ∀ M : Nat, M < 40 → RgC 0 (M : Int) 2 ((M + 1) / 2) := by
  have h : ∀ M : Nat, M < 40 → (Builtin.Range.small 0 (M : Int) 2 = true ∧ Builtin.Range.rangeSize 0 (M : Int) 2 = (M + 1) / 2) := by decide +kernel
  exact fun M hM => ⟨by decide, by decide, (h M hM).1, by rw [(h M hM).2]; omega⟩
/-- a comprehension whose items are told by a function -/
theorem lc_fn {J : It} {n : Nat} {Gd : Hp → Prop} {Y : Nat → Hp → V → Hp → Prop} (w : Walk J n Gd Y) {g : TG} {tt : TT} {te : TE} {vs : List Nat} {σ : L2.St} {H1 : Hp} {D : Addr} {Qd : Hp → Prop} (hD : H1 D = none) (f : Nat → V) (hn : n ≤ 1000000)
    (hG : ∀ i G, i ≤ n → Same H1 G → Gd G)
    (hs : ∀ i x G G' (K1 : V → Hp → Prop) (K0 : Hp → Prop), i < n → Same H1 G → Y i G x G' → (∀ H4, Same G H4 → K1 (f i) H4) → g x (wipe σ vs) G' fun σ2 H2 => wipe σ2 vs = wipe σ vs ∧ tt σ2 H2 fun b H3 => if b = true then te σ2 H3 K1 else K0 H3)
    (hd : ∀ G, Same H1 G → G D = some (.lst ((List.range n).map f)) → Qd G) :
    ∃ W : Nat → Nat → Hp → Prop, (∃ m, W 0 m (upd H1 D (.lst []))) ∧ ∀ i m H, W i m H →
      (J.stop i H ∧ Qd H) ∨ (J.go i H ∧ ∃ Nx : Hp → Prop, (∀ H', Nx H' → ∃ m', m' < m ∧ W (i + 1) m' H') ∧ ∀ x H', J.yld i H x H' → g x (wipe σ vs) H' fun σ2 H2 => wipe σ2 vs = wipe σ vs ∧ tt σ2 H2 fun b H3 =>
        if b = true then te σ2 H3 fun y H4 => ∃ acc, H4 D = some (.lst acc) ∧ acc.length < sizeLine ∧ Nx (upd H4 D (.lst (acc ++ [y]))) else Nx H3) := by
  refine lc_it w (fun i G => Same H1 G ∧ G D = some (.lst ((List.range i).map f))) ⟨same_put same_refl hD, upd_same⟩ (fun i G hi p => hG i G hi p.1) ?_ (fun G p => hd G p.1 p.2)
  rintro i x G G' hi ⟨sm, gD⟩ y
  exact hs i x G G' _ _ hi sm y fun H4 s4 => ⟨_, s4 _ _ gD, by rw [List.length_map, List.length_range, sizeLine_eq]; omega, same_put (sm.trans s4) hD, by rw [upd_same, List.range_succ, List.map_append]; rfl⟩
end Sq

set_option Elab.async false
set_option linter.all false
set_option maxRecDepth 100000
set_option maxHeartbeats 4000000
/-! The law's lists of cells. -/
namespace Sq
open PySem PySem.Spec PyProof.Rows L2
theorem tooth_grown {cs : List Cell} {k : Int} (h : Grown cs) (hk : (k, (0 : Int)) ∈ cs) : ∀ j : Nat, Grown (cs ++ (List.range j).map fun (u : Nat) => (k, 1 + (u : Int)))
  | 0 => by simpa using h
  | j + 1 => by
    rw [List.range_succ, List.map_append, ← List.append_assoc]
    cases j with
    | zero => exact (tooth_grown h hk 0).snoc (a := (k, 0)) (List.mem_append_left _ hk) (by rw [beside_iff]; exact .inr (.inr (.inr ⟨rfl, by show (1 : Int) + ((0 : Nat) : Int) = (0 : Int) + 1; omega⟩)))
    | succ i => exact (tooth_grown h hk (i + 1)).snoc (a := (k, 1 + (i : Int))) (List.mem_append_right _ (List.mem_map.mpr ⟨i, List.mem_range.mpr (Nat.lt_succ_self i), rfl⟩)) (by rw [beside_iff]; exact .inr (.inr (.inr ⟨rfl, by show (1 : Int) + ((i + 1 : Nat) : Int) = (1 + (i : Int)) + 1; omega⟩)))
theorem base_grown : ∀ j : Nat, Grown ((List.range (j + 1)).map fun (u : Nat) => ((u : Int), (0 : Int)))
  | 0 => fun i b hb => by simp at hb
  | j + 1 => by
    rw [List.range_succ, List.map_append]
    exact (base_grown j).snoc (a := ((j : Int), 0)) (List.mem_map.mpr ⟨j, List.mem_range.mpr (Nat.lt_succ_self j), rfl⟩) (by rw [beside_iff]; exact .inr (.inr (.inl ⟨by simp, rfl⟩)))
theorem head_take {A : List Cell} {c : Cell} {k : Nat} (h : A.head? = some c) (hk : 1 ≤ k) : (A.take k).head? = some c := by
  cases A with
  | nil => cases h
  | cons a t =>
    cases k with
    | zero => omega
    | succ k => exact h
def spCells : Sp := fun vs H Q _ => ∃ (p : Addr) (n most : Nat), vs = [.ref p, .int (most : Int)] ∧ PenAt H p n ∧ 1 ≤ most ∧ most ≤ 50 ∧ n < 800000 ∧
  ∀ l H' A n', PenAt H' p n' → n' ≤ n + 400 → Kp [p] H H' → CellsL H' l A → A ≠ [] → A.length ≤ most → Hangs A → A.head? = some (0, 0) → Q (.ref l) H'
section
variable {P : Program} {w : World} {K : PySem.W.Frag} {mg : Str → Option Value} {base : Heap}
end
end Sq

set_option Elab.async false
set_option linter.all false
set_option maxRecDepth 100000
set_option maxHeartbeats 4000000
/-! The law's bodies. -/
namespace Sq
open PySem PySem.Spec PyProof.Rows L2
/-- turned or not, and moved -/
def placeC (t : Bool) (by_ c : Cell) : Cell := if t = true then (c.2 + by_.1, c.1 + by_.2) else (c.1 + by_.1, c.2 + by_.2)
theorem place_beside {t : Bool} {by_ a b : Cell} (h : b ∈ besideC a) : placeC t by_ b ∈ besideC (placeC t by_ a) := by
  rw [beside_iff] at h ⊢
  unfold placeC
  cases t with
  | true =>
    simp only [if_true]
    omega
  | false =>
    simp only [Bool.false_eq_true, if_false]
    omega
theorem hangs_map {A : List Cell} {g : Cell → Cell} (k : ∀ a b, b ∈ besideC a → g b ∈ besideC (g a)) (h : Hangs A) : Hangs (A.map g) := by
  have r : ∀ {a b : Cell}, Reach A a b → Reach (A.map g) (g a) (g b) := fun {a b} z => by
    induction z with
    | refl => exact .refl
    | step _ hb hc ih => exact ih.step (k _ _ hb) (List.mem_map.mpr ⟨_, hc, rfl⟩)
  refine ⟨fun z => h.1 (List.map_eq_nil_iff.mp z), fun x hx y hy => ?_⟩
  obtain ⟨a, ha, rfl⟩ := List.mem_map.mp hx
  obtain ⟨b, hb, rfl⟩ := List.mem_map.mp hy
  exact r (h.2 a ha b hb)
theorem ks_of {H : Hp} : ∀ {qs : List Addr} {cs : List Cell}, Paired (fun q c => At H q c) qs cs → ∃ ks : List (Addr × List Int), ks.map (·.1) = qs ∧ (∀ p ∈ ks, ∃ c ∈ cs, At H p.1 c ∧ p.2 = [c.1, c.2]) ∧ ∀ c ∈ cs, ∃ p ∈ ks, p.2 = [c.1, c.2]
  | _, _, .nil => ⟨[], rfl, by simp, by simp⟩
  | q :: qs, c :: cs, .cons h t => by
    obtain ⟨ks, e, h1, h2⟩ := ks_of t
    refine ⟨(q, [c.1, c.2]) :: ks, by rw [List.map_cons, e], fun p hp => ?_, fun d hd => ?_⟩
    · rcases List.mem_cons.mp hp with z | z
      · rw [z]
        exact ⟨c, List.mem_cons_self .., h, rfl⟩
      · obtain ⟨d, hd, r⟩ := h1 p z
        exact ⟨d, List.mem_cons_of_mem _ hd, r⟩
    · rcases List.mem_cons.mp hd with z | z
      · rw [z]
        exact ⟨_, List.mem_cons_self .., rfl⟩
      · obtain ⟨p, hp, r⟩ := h2 d z
        exact ⟨p, List.mem_cons_of_mem _ hp, r⟩
theorem cs_of {H : Hp} : ∀ {L : List (Addr × List Int)}, (∀ p ∈ L, ∃ c, At H p.1 c ∧ p.2 = [c.1, c.2]) → ∃ cs : List Cell, Paired (fun p c => At H p.1 c ∧ p.2 = [c.1, c.2]) L cs
  | [], _ => ⟨[], .nil⟩
  | p :: L, h => by
    obtain ⟨c, hc⟩ := h p (List.mem_cons_self ..)
    obtain ⟨cs, r⟩ := cs_of (L := L) fun q hq => h q (List.mem_cons_of_mem _ hq)
    exact ⟨c :: cs, .cons hc r⟩
theorem paired_memR {α β : Type} {F : α → β → Prop} {xs : List α} {ys : List β} (h : Paired F xs ys) : ∀ y ∈ ys, ∃ x ∈ xs, F x y := by
  induction h with
  | nil => intro y hy; cases hy
  | cons a _ ih =>
    intro y hy
    rcases List.mem_cons.mp hy with z | z
    · exact ⟨_, List.mem_cons_self .., z ▸ a⟩
    · obtain ⟨x, hx, f⟩ := ih y z
      exact ⟨x, List.mem_cons_of_mem _ hx, f⟩
theorem paired_memL {α β : Type} {F : α → β → Prop} {xs : List α} {ys : List β} (h : Paired F xs ys) : ∀ x ∈ xs, ∃ y ∈ ys, F x y := by
  induction h with
  | nil => intro y hy; cases hy
  | cons a _ ih =>
    intro y hy
    rcases List.mem_cons.mp hy with z | z
    · exact ⟨_, List.mem_cons_self .., z ▸ a⟩
    · obtain ⟨x, hx, f⟩ := ih y z
      exact ⟨x, List.mem_cons_of_mem _ hx, f⟩
theorem pair_inj {c d : Cell} (h : ([c.1, c.2] : List Int) = [d.1, d.2]) : c = d := by
  obtain ⟨c1, c2⟩ := c
  obtain ⟨d1, d2⟩ := d
  simp only [List.cons.injEq, and_true] at h
  rw [h.1, h.2]
theorem mul_near {r fr : Int} (h0 : 0 ≤ r) (h9 : r < 9) (f0 : 0 ≤ fr) (f1 : fr ≤ 10 ^ 15) : -5000000000000000 ≤ (r - 4) * fr ∧ (r - 4) * fr ≤ 5000000000000000 := by
  have h : r = 0 ∨ r = 1 ∨ r = 2 ∨ r = 3 ∨ r = 4 ∨ r = 5 ∨ r = 6 ∨ r = 7 ∨ r = 8 := by omega
  rcases h with rfl | rfl | rfl | rfl | rfl | rfl | rfl | rfl | rfl <;> omega
/-- a cell of it is not far from the middle -/
def Near0 (L : List Cell) : Prop := ∃ b ∈ L, -5000000000000000 ≤ b.1 ∧ b.1 ≤ 5000000000000000 ∧ -5000000000000000 ≤ b.2 ∧ b.2 ≤ 5000000000000000
def spBody : Sp := fun vs H Q _ => ∃ (p : Addr) (n most : Nat), vs = [.ref p, .int (most : Int)] ∧ PenAt H p n ∧ 1 ≤ most ∧ most ≤ 50 ∧ n < 700000 ∧
  ∀ t H' L n', PenAt H' p n' → n' ≤ n + 500 → Kp [p] H H' → CellsT H' t L → L.Nodup → Asc L → L ≠ [] → L.length ≤ most → Hangs L → Near0 L → Q (.ref t) H'
section
variable {P : Program} {w : World} {K : PySem.W.Frag} {mg : Str → Option Value} {base : Heap}
end
end Sq

set_option Elab.async false
set_option linter.all false
set_option maxRecDepth 100000
set_option maxHeartbeats 4000000
/-! The search in depth, as it runs. -/
namespace Sq
open PySem PySem.Spec PyProof.Rows L2
/-- all tuples stay -/
def Tk (H G : Hp) : Prop := ∀ b xs, H b = some (.tup xs) → G b = some (.tup xs)
theorem Tk.of {H G : Hp} (h : Same H G) : Tk H G := fun b xs e => h b _ e
theorem Tk.trans {H G I : Hp} (h : Tk H G) (k : Tk G I) : Tk H I := fun b xs e => k b xs (h b xs e)
theorem Tk.refl {H : Hp} : Tk H H := fun _ _ e => e
theorem tk_upd {H : Hp} {a : Addr} {o o' : HO} (e : H a = some o) (n : ∀ xs, o ≠ .tup xs) : Tk H (upd H a o') := fun b xs q => by
  rw [upd_ne (fun z => by rw [z, e] at q; exact n xs (Option.some.inj q))]
  exact q
theorem At.tk {H G : Hp} {q : Addr} {c : Cell} (h : At H q c) (k : Tk H G) : At G q c := k _ _ h
/-- the value that stands for what led to a cell -/
def TwV (H : Hp) (v : V) : Option Cell → Prop
  | none => v = .non
  | some y => ∃ q, v = .ref q ∧ At H q y
theorem TwV.tk {H G : Hp} {v : V} {o : Option Cell} (h : TwV H v o) (k : Tk H G) : TwV G v o := by
  cases o with
  | none => exact h
  | some y =>
    obtain ⟨q, e, a⟩ := h
    exact ⟨q, e, a.tk k⟩
def TwL (H : Hp) (kvs : List (List Key × V)) (T : List TwigC) : Prop := Paired (fun p t => p.1 = cK t.1 ∧ TwV H p.2 t.2) kvs T
theorem TwL.tk {H G : Hp} {kvs : List (List Key × V)} {T : List TwigC} (h : TwL H kvs T) (k : Tk H G) : TwL G kvs T := paired_imp (fun _ _ z => ⟨z.1, z.2.tk k⟩) h
def EntA (H : Hp) (q : Addr) (t : TwigC) : Prop := ∃ b v, H q = some (.tup [.ref b, v]) ∧ At H b t.1 ∧ TwV H v t.2
theorem EntA.tk {H G : Hp} {q : Addr} {t : TwigC} (h : EntA H q t) (k : Tk H G) : EntA G q t := by
  obtain ⟨b, v, e, a, w⟩ := h
  exact ⟨b, v, k _ _ e, a.tk k, w.tk k⟩
theorem tw_none {H : Hp} {c : Cell} : ∀ {kvs : List (List Key × V)} {T : List TwigC}, TwL H kvs T → c ∉ keysT T → valV kvs (cK c) = none
  | _, _, .nil, _ => rfl
  | (k, v) :: kvs, t :: T, .cons h r, n => by
    have ne : t.1 ≠ c := fun e => n (by simp [keysT, e])
    rw [show k = cK t.1 from h.1, valV_neg (fun e => ne (cK_inj e))]
    exact tw_none r fun m => n (List.mem_cons_of_mem _ m)
theorem tw_some {H : Hp} {c : Cell} {o : Option Cell} : ∀ {kvs : List (List Key × V)} {T : List TwigC}, TwL H kvs T → (keysT T).Nodup → (c, o) ∈ T → ∃ v, valV kvs (cK c) = some v ∧ TwV H v o
  | [], [], .nil, _, m => nomatch m
  | (k, v) :: kvs, t :: T, .cons h r, nd, m => by
    have nd2 := List.nodup_cons.mp nd
    rcases List.mem_cons.mp m with e | m
    · subst e
      rw [show k = cK c from h.1, valV_pos rfl]
      exact ⟨v, rfl, h.2⟩
    · have ne : t.1 ≠ c := fun e => nd2.1 (List.mem_map.mpr ⟨(c, o), m, e.symm⟩)
      rw [show k = cK t.1 from h.1, valV_neg (fun e => ne (cK_inj e))]
      exact tw_some r nd2.2 m
theorem tw_is {H : Hp} {c : Cell} {kvs : List (List Key × V)} {T : List TwigC} (h : TwL H kvs T) (nd : (keysT T).Nodup) : (valV kvs (cK c)).isSome = decide (c ∈ keysT T) := by
  by_cases m : c ∈ keysT T
  · obtain ⟨⟨c', o⟩, mt, e⟩ := List.mem_map.mp m
    have e : c' = c := e
    subst e
    obtain ⟨v, e, _⟩ := tw_some h nd mt
    rw [e, decide_eq_true m]
    rfl
  · rw [tw_none h m, decide_eq_false m]
    rfl
theorem tw_put {H : Hp} {c : Cell} {o : Option Cell} {v : V} {kvs : List (List Key × V)} {T : List TwigC} (h : TwL H kvs T) (n : c ∉ keysT T) (w : TwV H v o) : TwL H (putK kvs (cK c) v) (T ++ [(c, o)]) := by
  rw [putK_new _ (tw_none h n)]
  exact Paired.snoc h ⟨rfl, w⟩
theorem dget_c {H : Hp} {d q : Addr} {c : Cell} {kvs : List (List Key × V)} (hd : H d = some (.dT kvs)) (hq : At H q c) : DGet H d (.ref q) (valV kvs (cK c)) := DGet.t hd hq
theorem dput_c {H : Hp} {d q : Addr} {c : Cell} {v : V} {kvs : List (List Key × V)} (hd : H d = some (.dT kvs)) (hq : At H q c) (hl : kvs.length < sizeLine) : DPut H d (.ref q) v (upd H d (.dT (putK kvs (cK c) v))) := DPut.t hd hq hl
def spDepth : Sp := fun vs H Q _ => ∃ (d : Addr) (L : List Cell), vs = [.ref d] ∧ H d = some (.dT (lotK L)) ∧ L.Nodup ∧ L.length ≤ 1000 ∧ Hangs L ∧ ∀ e H' kvs T, Same H H' → H e = none → H' e = some (.dT kvs) → TwL H' kvs T → DTree L T → (∀ x ∈ L, x ∈ keysT T) → Q (.ref e) H'
def DfW (H : Hp) (L : List Cell) (d cf ah : Addr) (m : Nat) (σ : L2.St) (G : Hp) : Prop := ∃ (T S : List TwigC) (kvs : List (List Key × V)) (qs : List Addr) (v3 v4 : Option V), m = S.length + 5 * (L.length - T.length) ∧ σ = [some (.ref d), some (.ref cf), some (.ref ah), v3, v4, none] ∧
  Same H G ∧ G cf = some (.dT kvs) ∧ TwL G kvs T ∧ G ah = some (.lst (qs.map V.ref)) ∧ Paired (EntA G) qs S ∧ StkOk L T S ∧ S.length ≤ 1 + 4 * T.length
section
variable {P : Program} {w : World} {K : PySem.W.Frag} {mg : Str → Option Value} {base : Heap}
end
end Sq

set_option Elab.async false
set_option linter.all false
set_option maxRecDepth 100000
set_option maxHeartbeats 4000000
/-! The least numbers that are met, as they are told. -/
namespace Sq
open PySem PySem.Spec PyProof.Rows L2
def lowV (T : List TwigC) (low : Cell → Nat) (v w : Cell) : Nat := if (w, some v) ∈ T then low w else numT T w
def LowAt (L : List Cell) (T : List TwigC) (low : Cell → Nat) (v : Cell) : Prop := (∀ w ∈ L, w ∈ besideC v → low v ≤ lowV T low v w) ∧ (low v = numT T v ∨ ∃ w ∈ L, w ∈ besideC v ∧ low v = lowV T low v w)
def putL (low : Cell → Nat) (c : Cell) (m : Nat) : Cell → Nat := fun x => if x = c then m else low x
theorem putL_same {low : Cell → Nat} {c : Cell} {m : Nat} : putL low c m c = m := if_pos rfl
theorem putL_other {low : Cell → Nat} {c x : Cell} {m : Nat} (h : x ≠ c) : putL low c m x = low x := if_neg h
/-- told for the last i cells -/
structure LmI (L : List Cell) (T : List TwigC) (i : Nat) (lk : List (List Key × V)) (low : Cell → Nat) : Prop where
  val : ∀ v ∈ keysT T, (keysT T).length ≤ numT T v + i → valV lk (cK v) = some (.int (low v : Int))
  ok : ∀ v ∈ keysT T, (keysT T).length ≤ numT T v + i → LowAt L T low v
  len : lk.length ≤ i
theorem LmI.next {L : List Cell} {T : List TwigC} {i m : Nat} {lk : List (List Key × V)} {low : Cell → Nat} {c : Cell} (h : DTree L T) (I : LmI L T i lk low) (hc : c ∈ keysT T) (nc : numT T c + (i + 1) = (keysT T).length)
    (le : ∀ w ∈ L, w ∈ besideC c → m ≤ lowV T low c w) (at_ : m = numT T c ∨ ∃ w ∈ L, w ∈ besideC c ∧ m = lowV T low c w) : LmI L T (i + 1) (putK lk (cK c) (.int (m : Int))) (putL low c m) := by
  have cases1 : ∀ v ∈ keysT T, (keysT T).length ≤ numT T v + (i + 1) → v = c ∨ (v ≠ c ∧ (keysT T).length ≤ numT T v + i) := fun v hv l => by
    by_cases e : v = c
    · exact .inl e
    · refine .inr ⟨e, ?_⟩
      have : numT T v ≠ numT T c := fun z => e (num_inj hv hc z)
      omega
  have same : ∀ v ∈ keysT T, numT T c ≤ numT T v → ∀ w, lowV T (putL low c m) v w = lowV T low v w := fun v hv l w => by
    unfold lowV
    by_cases z : (w, some v) ∈ T
    · rw [if_pos z, if_pos z]
      have t := (h.twig z).2.2.2
      have ne : w ≠ c := fun e => by rw [e] at t; omega
      exact putL_other ne
    · rw [if_neg z, if_neg z]
  refine ⟨fun v hv l => ?_, fun v hv l => ?_, ?_⟩
  · rcases cases1 v hv l with rfl | ⟨ne, l⟩
    · rw [putL_same, valV_put, if_pos rfl]
    · rw [putL_other ne, valV_put, if_neg (fun e => ne (cK_inj e))]
      exact I.val v hv l
  · rcases cases1 v hv l with rfl | ⟨ne, l⟩
    · refine ⟨fun w hw b => ?_, ?_⟩
      · rw [same v hv (Nat.le_refl _), putL_same]
        exact le w hw b
      · rw [putL_same]
        rcases at_ with e | ⟨w, hw, b, e⟩
        · exact .inl e
        · exact .inr ⟨w, hw, b, by rw [same v hv (Nat.le_refl _)]; exact e⟩
    · have l2 : numT T c ≤ numT T v := by omega
      obtain ⟨a1, a2⟩ := I.ok v hv l
      refine ⟨fun w hw b => ?_, ?_⟩
      · rw [same v hv l2, putL_other ne]
        exact a1 w hw b
      · rw [putL_other ne]
        rcases a2 with e | ⟨w, hw, b, e⟩
        · exact .inl e
        · exact .inr ⟨w, hw, b, by rw [same v hv l2]; exact e⟩
  · exact Nat.le_trans (length_putK _ _ _) (Nat.succ_le_succ I.len)
theorem LmI.all {L : List Cell} {T : List TwigC} {lk : List (List Key × V)} {low : Cell → Nat} (I : LmI L T (keysT T).length lk low) : LowOk L T low :=
  ⟨fun v hv => (I.ok v hv (Nat.le_add_left _ _)).1, fun v hv => (I.ok v hv (Nat.le_add_left _ _)).2⟩
def numK (T : List TwigC) : List (List Key × V) := (keysT T).map fun v => (cK v, V.int (numT T v : Int))
theorem map_val {f : Cell → V} {c : Cell} : ∀ {l : List Cell}, c ∈ l → valV (l.map fun v => (cK v, f v)) (cK c) = some (f c)
  | d :: l, h => by
    by_cases e : d = c
    · subst e
      exact valV_pos rfl
    · rw [List.map_cons, valV_neg (fun z => e (cK_inj z))]
      exact map_val ((List.mem_cons.mp h).resolve_left fun z => e z.symm)
theorem keys_at {H G : Hp} : ∀ {kvs : List (List Key × V)} {T : List TwigC} {bs : List Addr}, TwL H kvs T → IsKeys G kvs bs → Paired (fun b v => At G b v) bs (keysT T)
  | _, _, _, .nil, .nil => .nil
  | (k, v) :: kvs, t :: T, b :: bs, .cons h r, .cons q r2 => by
    have e : k = cK t.1 := h.1
    subst e
    exact .cons q (keys_at r r2)
theorem dget_s {H : Hp} {d q : Addr} {c : Cell} {v : V} {kvs : List (List Key × V)} (hd : H d = some (.dT kvs)) (hq : At H q c) (e : valV kvs (cK c) = some v) : DGet H d (.ref q) (some v) := e ▸ dget_c hd hq
theorem range_map {β : Type} (l : List β) (f : Nat → V) (g : β → V) (h : ∀ i x, l[i]? = some x → f i = g x) : (List.range l.length).map f = l.map g := by
  refine List.ext_getElem? fun i => ?_
  rw [List.getElem?_map, List.getElem?_map]
  by_cases lt : i < l.length
  · rw [List.getElem?_range lt, List.getElem?_eq_getElem lt]
    exact congrArg some (h i _ (List.getElem?_eq_getElem lt))
  · rw [List.getElem?_eq_none (by rw [List.length_range]; omega), List.getElem?_eq_none (by omega)]
    rfl
def spLow : Sp := fun vs H Q _ => ∃ (d cf nu : Addr) (L : List Cell) (kvs : List (List Key × V)) (T : List TwigC), vs = [.ref d, .ref cf, .ref nu] ∧ H d = some (.dT (lotK L)) ∧ L.length ≤ 1000 ∧ H cf = some (.dT kvs) ∧ TwL H kvs T ∧ DTree L T ∧ (∀ x ∈ L, x ∈ keysT T) ∧ H nu = some (.dT (numK T)) ∧
  ∀ e H' lk low, Same H H' → H e = none → H' e = some (.dT lk) → (∀ v ∈ keysT T, valV lk (cK v) = some (.int (low v : Int))) → LowOk L T low → Q (.ref e) H'
section
variable {P : Program} {w : World} {K : PySem.W.Frag} {mg : Str → Option Value} {base : Heap}
end
end Sq

set_option Elab.async false
set_option linter.all false
set_option maxRecDepth 100000
set_option maxHeartbeats 4000000
/-! Into how many parts the rest falls, as it is told. -/
namespace Sq
open PySem PySem.Spec PyProof.Rows L2
theorem walk_pairs {d : Addr} {o : Obj} {kvs : List (List Key × V)} : Walk (ItPt d o kvs) kvs.length (fun H => H d = some (.frz o (.dT kvs))) fun i H x H' => ∃ (t q : Addr) (k : List Key) (v : V), kvs[i]? = some (k, v) ∧ H q = some (.tup (k.map kV)) ∧ x = .ref t ∧ H t = none ∧ H' = upd H t (.tup [.ref q, v]) :=
  ⟨fun i H hi q => ⟨q, hi⟩, fun H q => ⟨q, Nat.le_refl _⟩, fun i H x H' hi q y => y⟩
theorem walk_enumT {d : Addr} {o : Obj} {kvs : List (List Key × V)} : Walk (ItEt d o kvs) kvs.length (fun H => H d = some (.frz o (.dT kvs))) fun i H x H' => ∃ (t q : Addr) (k : List Key) (v : V), kvs[i]? = some (k, v) ∧ H q = some (.tup (k.map kV)) ∧ x = .ref t ∧ H t = none ∧ H' = upd H t (.tup [.int (i : Nat), .ref q]) :=
  ⟨fun i H hi q => ⟨q, hi⟩, fun H q => ⟨q, Nat.le_refl _⟩, fun i H x H' hi q y => y⟩
theorem for_w {J : It} {n : Nat} {Gd : Hp → Prop} {Y : Nat → Hp → V → Hp → Prop} (wk : Walk J n Gd Y) {g : TG} {tb : TS} {D : Ends} {σ : L2.St} {H : Hp} (Pv : Nat → L2.St → Hp → Prop) (h0 : Pv 0 σ H) (hG : ∀ i σ H, i ≤ n → Pv i σ H → Gd H)
    (hs : ∀ i x σ H H', i < n → Pv i σ H → Y i H x H' → g x σ H' fun σ2 H2 => tb { D with nx := Pv (i + 1), ct := Pv (i + 1), bk := D.nx } σ2 H2) (hd : ∀ σ H, Pv n σ H → D.nx σ H) :
    ∃ W : Nat → Nat → L2.St → Hp → Prop, (∃ m, W 0 m σ H) ∧ ∀ i m σ H, W i m σ H →
      (J.stop i H ∧ D.nx σ H) ∨ (J.go i H ∧ ∃ N : L2.St → Hp → Prop, (∀ σ' H', N σ' H' → ∃ m', m' < m ∧ W (i + 1) m' σ' H') ∧ ∀ v H', J.yld i H v H' → g v σ H' fun σ2 H2 => tb { D with nx := N, ct := N, bk := D.nx } σ2 H2) := by
  refine ⟨fun i m σ H => m = n - i ∧ i ≤ n ∧ Pv i σ H, ⟨n, rfl, Nat.zero_le _, h0⟩, ?_⟩
  rintro i m σ H ⟨rfl, hi, p⟩
  by_cases lt : i < n
  · exact .inr ⟨wk.goes i H lt (hG i σ H hi p), Pv (i + 1), fun σ' H' p' => ⟨n - (i + 1), by omega, rfl, lt, p'⟩, fun x H' y => hs i x σ H H' lt p (wk.yields i H x H' lt (hG i σ H hi p) y)⟩
  · have e : i = n := by omega
    subst e
    exact .inl ⟨wk.stops H (hG i σ H hi p), hd σ H p⟩
theorem put_map {f : Cell → V} {c : Cell} {x : V} {l : List Cell} (h : c ∈ l) : putK (l.map fun v => (cK v, f v)) (cK c) x = l.map fun v => (cK v, if v = c then x else f v) := by
  have any : ((l.map fun v => (cK v, f v)).any fun kv => decide (kv.1 = cK c)) = true := List.any_eq_true.mpr ⟨(cK c, f c), List.mem_map.mpr ⟨c, h, rfl⟩, decide_eq_true rfl⟩
  unfold putK
  rw [if_pos any, List.map_map]
  refine List.map_congr_left fun v _ => ?_
  show (if cK v = cK c then (cK v, x) else (cK v, f v)) = _
  by_cases e : v = c
  · subst e
    rw [if_pos rfl, if_pos rfl]
  · rw [if_neg (fun z => e (cK_inj z)), if_neg e]
def base01 (o : Option Cell) : Nat := match o with
  | none => 0
  | some _ => 1
/-- what is counted behind the first twigs -/
def cntT (T : List TwigC) (low : Cell → Nat) (i : Nat) (v : Cell) : Nat := (if (v, none) ∈ T then 0 else 1) + ((T.take i).filter fun t => decide (t.2 = some v ∧ low t.1 = numT T v)).length
theorem cnt_next {T : List TwigC} {low : Cell → Nat} {i : Nat} {t : TwigC} {v : Cell} (h : T[i]? = some t) : cntT T low (i + 1) v = cntT T low i v + if t.2 = some v ∧ low t.1 = numT T v then 1 else 0 := by
  unfold cntT
  rw [take_snoc h, List.filter_append, List.length_append]
  by_cases z : t.2 = some v ∧ low t.1 = numT T v
  · simp only [List.filter_cons, decide_eq_true z, if_true, List.filter_nil, List.length_cons, List.length_nil, if_pos z]
    omega
  · simp only [List.filter_cons, decide_eq_false z, Bool.false_eq_true, if_false, List.filter_nil, List.length_nil, if_neg z]
    omega
theorem cnt_all {T : List TwigC} {low : Cell → Nat} {v : Cell} : cntT T low T.length v = (if (v, none) ∈ T then 0 else 1) + kids T low v := by
  unfold cntT kids
  rw [List.take_length]
theorem cnt_cut {L : List Cell} {T : List TwigC} {low : Cell → Nat} (h : DTree L T) (span : ∀ x ∈ L, x ∈ keysT T) (lo : LowOk L T low) (nL : L.Nodup) {v : Cell} (hv : v ∈ L) : 1 < cntT T low T.length v ↔ ¬ Hangs (but L v) ∧ 1 < L.length := by
  have fr := free_iff h span lo hv
  rw [← cnt_all] at fr
  have len : 1 < L.length ↔ ∃ u ∈ L, u ≠ v := by
    constructor
    · intro l
      refine Classical.byContradiction fun z => ?_
      have all : ∀ x ∈ L, x ∈ [v] := fun x hx => List.mem_singleton.mpr (Classical.byContradiction fun e => z ⟨x, hx, e⟩)
      have := len_le nL all
      simp at this
      omega
    · rintro ⟨u, hu, ne⟩
      have := len_le (xs := [u, v]) (ys := L) (by simp [ne]) fun x hx => by
        simp only [List.mem_cons, List.not_mem_nil, or_false] at hx
        rcases hx with rfl | rfl
        · exact hu
        · exact hv
      exact this
  have zero : cntT T low T.length v = 0 ↔ ¬ ∃ u ∈ L, u ≠ v := by
    rw [cnt_all]
    obtain ⟨r, T', e, rL⟩ := h.root_ex
    have hr : (r, none) ∈ T := by rw [e]; exact List.mem_cons_self ..
    by_cases rv : (v, none) ∈ T
    · rw [if_pos rv, Nat.zero_add, kids_zero]
      have n0 := h.num_root rv
      constructor
      · rintro no ⟨u, hu, ne⟩
        rcases h.child_of (h.from_root rv u (span u hu)) with z | ⟨c, m, _⟩
        · exact ne z
        · exact no c m ((lo.child h m).mpr fun d w _ _ _ _ => by omega)
      · intro no c m _
        have t := h.twig m
        exact no ⟨c, h.sub c t.1, fun z => by rw [z] at t; omega⟩
    · rw [if_neg rv]
      constructor
      · intro z
        omega
      · intro no
        exact absurd ⟨r, rL, fun z => rv (z ▸ hr)⟩ no
  rw [fr, len]
  constructor
  · intro l
    exact ⟨by omega, Classical.byContradiction fun z => by have := zero.mpr z; omega⟩
  · rintro ⟨n1, ex⟩
    have n0 : cntT T low T.length v ≠ 0 := fun z => zero.mp z ex
    omega
theorem map_none {f : Cell → V} {c : Cell} : ∀ {l : List Cell}, c ∉ l → valV (l.map fun v => (cK v, f v)) (cK c) = none
  | [], _ => rfl
  | d :: l, h => by
    rw [List.map_cons, valV_neg (fun e => h (by rw [cK_inj e]; exact List.mem_cons_self ..))]
    exact map_none fun m => h (List.mem_cons_of_mem _ m)
theorem put_take {f : Cell → V} {c : Cell} {i : Nat} {l : List Cell} (nd : l.Nodup) (h : l[i]? = some c) : putK ((l.take i).map fun v => (cK v, f v)) (cK c) (f c) = (l.take (i + 1)).map fun v => (cK v, f v) := by
  rw [putK_new _ (map_none (nodup_take nd h)), take_snoc h, List.map_append]
  rfl
theorem num_at {T : List TwigC} {c : Cell} {i : Nat} (nd : (keysT T).Nodup) (h : (keysT T)[i]? = some c) : numT T c = i := by
  obtain ⟨lt, e⟩ := List.getElem?_eq_some_iff.mp h
  unfold numT
  rw [← e]
  exact List.Nodup.idxOf_getElem nd _ lt
/-- all but what stands at d stays -/
def KpD (d : Addr) (H G : Hp) : Prop := ∀ b o, b ≠ d → H b = some o → G b = some o
theorem KpD.at {d : Addr} {H G : Hp} (k : KpD d H G) {u : HO} (hd : H d = some u) (nu : ∀ xs, u ≠ .tup xs) : Tk H G := fun b xs e => k b _ (fun z => by rw [z, hd] at e; exact nu xs (Option.some.inj e)) e
theorem KpD.put {d D : Addr} {H G : Hp} {o : HO} (k : KpD d H G) (h : H D = none) : KpD d H (upd G D o) := fun b u nb e => by
  rw [upd_ne (ne_of_none e h)]
  exact k b u nb e
theorem KpD.new {d t : Addr} {H G : Hp} {o : HO} (k : KpD d H G) (h : G t = none) : KpD d H (upd G t o) := fun b u nb e => by
  have := k b u nb e
  rw [upd_ne (ne_of_none this h)]
  exact this
theorem KpD.back {d : Addr} {H G : Hp} {u : HO} (k : KpD d H G) (hd : H d = some u) : Same H (upd G d u) := fun b o e => by
  by_cases z : b = d
  · subst z
    rw [upd_same]
    exact hd.symm.trans e
  · rw [upd_ne z]
    exact k b o z e
def spRest : Sp := fun vs H Q _ => ∃ (d : Addr) (L : List Cell), vs = [.ref d] ∧ H d = some (.dT (lotK L)) ∧ L.Nodup ∧ L.length ≤ 1000 ∧ Hangs L ∧
  ∀ e H' (Ks : List Cell) (cnt : Cell → Nat), Same H H' → H e = none → H' e = some (.dT (Ks.map fun v => (cK v, V.int (cnt v : Int)))) → Ks.Nodup → (∀ x, x ∈ Ks ↔ x ∈ L) → (∀ v ∈ L, (cnt v = 1 ↔ Hangs (without L v)) ∧ (1 < cnt v ↔ ¬ Hangs (without L v) ∧ 1 < L.length)) → Q (.ref e) H'
section
variable {P : Program} {w : World} {K : PySem.W.Frag} {mg : Str → Option Value} {base : Heap}
end
end Sq

set_option Elab.async false
set_option linter.all false
set_option maxRecDepth 100000
set_option maxHeartbeats 4000000
/-! Free squares, cut squares, neighbours. -/
namespace Sq
open PySem PySem.Spec PyProof.Rows L2
def FreeP (L : List Cell) (x : Cell) : Prop := Hangs (without L x)
def CutP (L : List Cell) (x : Cell) : Prop := ¬ Hangs (without L x) ∧ 1 < L.length
def spSome (p : List Cell → Cell → Prop) : Sp := fun vs H Q _ => ∃ (t : Addr) (L : List Cell), vs = [.ref t] ∧ CellsT H t L ∧ L.Nodup ∧ L.length ≤ 1000 ∧ Hangs L ∧ ∀ r H' cs, Same H H' → CellsT H' r cs → cs.Nodup → Asc cs → (∀ x, x ∈ cs ↔ x ∈ L ∧ p L x) → Q (.ref r) H'
def spFreeIn : Sp := fun vs H Q _ => ∃ (d : Addr) (L : List Cell), vs = [.ref d] ∧ H d = some (.dT (lotK L)) ∧ L.Nodup ∧ L.length ≤ 1000 ∧ Hangs L ∧ ∀ l H' cs, Same H H' → H l = none → CellsL H' l cs → cs.Nodup → Asc cs → (∀ x, x ∈ cs ↔ x ∈ L ∧ FreeP L x) → Q (.ref l) H'
theorem dget_f {H : Hp} {d q : Addr} {c : Cell} {v : V} {o : Obj} {kvs : List (List Key × V)} (hd : H d = some (.frz o (.dT kvs))) (hq : At H q c) (e : valV kvs (cK c) = some v) : DGet H d (.ref q) (some v) := .inr ⟨kvs, cK c, q, .inr ⟨o, hd⟩, rfl, hq, e.symm⟩
/-- a key of a map of cells -/
theorem map_key {f : Cell → V} {l : List Cell} {i : Nat} {k : List Key} {v : V} (h : (l.map fun v => (cK v, f v))[i]? = some (k, v)) : ∃ c, l[i]? = some c ∧ k = cK c ∧ v = f c := by
  rw [List.getElem?_map] at h
  obtain ⟨c, hc, e⟩ := Option.map_eq_some_iff.mp h
  obtain ⟨rfl, rfl⟩ := Prod.mk.inj e
  exact ⟨c, hc, rfl, rfl⟩
section
variable {P : Program} {w : World} {K : PySem.W.Frag} {mg : Str → Option Value} {base : Heap}
/-- what is told of the kept ones -/
theorem told_some {H : Hp} {L Ks : List Cell} {p : Cell → Bool} {pp : List Cell → Cell → Prop} {cs : List Cell} (nK : Ks.Nodup) (mem : ∀ x, x ∈ Ks ↔ x ∈ L) (hp : ∀ x ∈ L, p x = true ↔ pp L x) (pm : cs.Perm (Ks.filter p)) : cs.Nodup ∧ ∀ x, x ∈ cs ↔ x ∈ L ∧ pp L x := by
  refine ⟨pm.nodup_iff.mpr (nK.sublist List.filter_sublist), fun x => ?_⟩
  rw [pm.mem_iff, List.mem_filter, mem]
  exact ⟨fun h => ⟨h.1, (hp x h.1).mp h.2⟩, fun h => ⟨h.1, (hp x h.1).mpr h.2⟩⟩
def spNeigh (K : PySem.W.Frag) (CB : Addr) : Sp := fun vs H Q E => ∃ (t : Addr) (L : List Cell) (y : V), vs = [.ref t, y] ∧ CellsT H t L ∧ L.Nodup ∧ L.length ≤ 1000 ∧
  ((CellQ K H y false ∧ Way [] H CB [("cell", y)] E) ∨ ∃ q c, y = .ref q ∧ At H q c ∧ ∀ r H' cs, Same H H' → CellsT H' r cs → cs.Perm (nearC L c) → Asc cs → Q (.ref r) H')
end
end Sq

set_option Elab.async false
set_option linter.all false
set_option maxRecDepth 100000
set_option maxHeartbeats 4000000
/-! moves_of. -/
namespace Sq
open PySem PySem.Spec PyProof.Rows L2
/-- the module's eight steps -/
def stepL : List Cell := [(-1, -1), (-1, 0), (-1, 1), (0, -1), (0, 1), (1, -1), (1, 0), (1, 1)]
structure StepsC (K : PySem.W.Frag) (mg : Str → Option Value) (a : Addr) (rs : List Addr) : Prop where
  g : mg "STEPS" = some (.ref a)
  t : ∀ H, SqT K H a (rs.map V.ref)
  e : Paired (fun r d => ∀ H, SqT K H r (cV d)) rs stepL
theorem around_steps (c : Cell) : aroundC c = stepL.map fun d => (c.1 + d.1, c.2 + d.2) := by
  simp [aroundC, stepL, Int.sub_eq_add_neg]
theorem asc_same {A M : List Cell} (nA : A.Nodup) (nM : M.Nodup) (sa : Asc A) (sm : Asc M) (mem : ∀ x, x ∈ A ↔ x ∈ M) : A = M :=
  List.Perm.eq_of_pairwise (le := fun x y => cLt y x = false) (fun x y _ _ h k => cLt_tri k h) sa sm ((List.perm_ext_iff_of_nodup nA nM).mpr mem)
def endsC (L : List Cell) (s : Cell) : List Cell := (aroundC s).filter fun e => !decide (byPlace L s e = .non)
def movesC (L F : List Cell) : List (Cell × Cell) := F.flatMap fun s => (endsC L s).map fun e => (s, e)
theorem moves_snoc {L F : List Cell} {i : Nat} {s : Cell} (h : F[i]? = some s) : movesC L (F.take (i + 1)) = movesC L (F.take i) ++ (endsC L s).map fun e => (s, e) := by
  unfold movesC
  rw [take_snoc h, List.flatMap_append]
  simp
theorem PairAt.keep {H G : Hp} {p : Addr} {m : Cell × Cell} (h : PairAt H p m) (k : Tk H G) : PairAt G p m := by
  obtain ⟨x, y, e, ax, ay⟩ := h
  exact ⟨x, y, k _ _ e, k _ _ ax, k _ _ ay⟩
def PairsT (H : Hp) (t : Addr) (ms : List (Cell × Cell)) : Prop := ∃ ps : List Addr, H t = some (.tup (ps.map V.ref)) ∧ Paired (fun p m => PairAt H p m) ps ms
theorem KT.put {Ts : List Addr} {H G : Hp} {D : Addr} {xs : List V} {o : HO} (k : KT Ts H G) (hD : H D = none) (gD : G D = some (.lst xs)) : KT Ts H (upd G D o) := by
  refine ⟨fun b u n e => ?_, k.tb, fun T m => ?_⟩
  · by_cases z : b = D
    · rw [z, hD] at e
      cases e
    · rw [upd_ne z]
      exact k.kp b u n e
  · obtain ⟨ps, e, t⟩ := k.tb' T m
    refine ⟨ps, ?_, t⟩
    by_cases z : T = D
    · rw [z, gD] at e
      cases e
    · rw [upd_ne z]
      exact e
/-- shifted(cell, by), by a tuple of the file or of the run -/
def spShiftK (K : PySem.W.Frag) : Sp := fun vs H Q _ => ∃ (p r : Addr) (c d : Cell), vs = [.ref p, .ref r] ∧ At H p c ∧ SqT K H r (cV d) ∧ ∀ q, H q = none → Q (.ref q) (upd H q (.tup (cV (c.1 + d.1, c.2 + d.2))))
def spMoves (Ts : List Addr) : Sp := fun vs H Q _ => ∃ (t : Addr) (L : List Cell), vs = [.ref t] ∧ CellsT H t L ∧ L.Nodup ∧ Asc L ∧ L.length ≤ 1000 ∧ Hangs L ∧ TabsG Ts H ∧
  ∀ r H', KT Ts H H' → PairsT H' r (movesC L (L.filter fun c => hangsB (without L c))) → Q (.ref r) H'
section
variable {P : Program} {w : World} {K : PySem.W.Frag} {mg : Str → Option Value} {base : Heap} {Ts : List Addr}
theorem ok_shiftK {f : Addr} {fd : FuncData} (F : FnP K "shifted" gShifted f fd) : FnOk P w K mg base CX0 1 f fd ["cell", "by"] (spShiftK K) := by
  refine F.ok scSh (fun vs H Q E h => ?_) (fun cdv A outer s H vs Q E hr h => ?_)
  · obtain ⟨p, r, c, d, rfl, _⟩ := h
    rfl
  · obtain ⟨p, r, c, d, rfl, e1, e2, k⟩ := h
    refine ⟨_, PSs.nox (pss_one (ps_ret (pe_tup (pa_cons (pe_op op_add (pe_ix (ix_tupK (K := K) rfl) (pv 0) pe_int (fun _ _ => rfl)) (pe_ix (ix_tupK (K := K) rfl) (pv 1) pe_int (fun _ _ => rfl))) (pa_cons (pe_op op_add (pe_ix (ix_tupK (K := K) rfl) (pv 0) pe_int (fun _ _ => rfl)) (pe_ix (ix_tupK (K := K) rfl) (pv 1) pe_int (fun _ _ => rfl))) pa_nil))))), ?_⟩
    exact ⟨_, rfl, _, _, _, _, rfl, rfl, SqT.of e1, at0, _, rfl, _, _, _, _, rfl, rfl, e2, at0, _, _, rfl, rfl, _, rfl, _, _, _, _, rfl, rfl, SqT.of e1, at1, _, rfl, _, _, _, _, rfl, rfl, e2, at1, _, _, rfl, rfl, two_le, fun q hq => k q hq⟩
end
end Sq

set_option Elab.async false
set_option linter.all false
set_option maxRecDepth 100000
set_option maxHeartbeats 4000000
/-! The law's moves. -/
namespace Sq
open PySem PySem.Spec PyProof.Rows L2
theorem pD_toks (p : CellP) : PySem.W.keyToks (pD p) = [.inl 1, .inl 1, .inl p.1.1, .inl 1, .inl p.1.2, .inl 0, .inl 1, .inl 1, .inl p.2.1, .inl 1, .inl p.2.2, .inl 0, .inl 0] := by
  simp [pD, cD, PySem.W.keyToks, PySem.W.keyToksAll]
theorem pLe {a b : CellP} (h : cLt a.1 b.1 = true ∨ (a.1 = b.1 ∧ cLt a.2 b.2 = true)) : PySem.W.dataLe false pD a b = true := by
  unfold PySem.W.dataLe
  show (!PyProof.Rows.lexLt PyProof.Rows.itemOrd (PySem.W.keyToks (pD b)) (PySem.W.keyToks (pD a))) = true
  rw [pD_toks, pD_toks]
  obtain ⟨⟨a1, a2⟩, a3, a4⟩ := a
  obtain ⟨⟨b1, b2⟩, b3, b4⟩ := b
  simp only [cLt, decide_eq_true_eq, Prod.mk.injEq] at h
  have at1 : ∀ (x y : Int) (r t : List (Int ⊕ List Nat)), PyProof.Rows.lexLt PyProof.Rows.itemOrd (.inl x :: r) (.inl y :: t) = (decide (x < y) || (!decide (y < x) && PyProof.Rows.lexLt PyProof.Rows.itemOrd r t)) := fun x y r t => PyProof.Rows.lex_cons (O := PyProof.Rows.itemOrd) (.inl x) (.inl y) r t
  have nil : PyProof.Rows.lexLt PyProof.Rows.itemOrd ([] : List (Int ⊕ List Nat)) [] = false := rfl
  simp only [at1, nil]
  simp
  omega
section
variable {X : Cx}
/-- sorted of data, each value with what it is known as -/
def rSortF (K : PySem.W.Frag) : List V → Hp → VK → Prop := fun vs H Q => ∃ (a : Addr) (xs : List V) (β : Type) (enc : β → PyData) (bs : List β) (F : V → β → Prop), vs = [V.ref a] ∧ SqL K H a xs ∧ Paired F xs bs ∧ (∀ x b, F x b → Dp K H x (enc b)) ∧ (∀ b b', PySem.W.alike (enc b) (enc b') = true) ∧
  PySem.W.Sortable (bs.map enc) ∧ (∀ b ∈ bs, (enc b).depth ≤ 8) ∧
  ∀ (ys : List V) (p : Addr), Paired F ys (bs.mergeSort (PySem.W.dataLe false enc)) → H p = none → Q (.ref p) (upd H p (.lst ys))
theorem cr_sortedF (hu : X.A.units + 64 < cLine) : CallR X (.builtin "sorted") (rSortF X.K) := by
  intro pins s σ H vs us Q I r h
  obtain ⟨a, xs, β, enc, bs, F, rfl, hs, pr, fd, al, so, dp, q⟩ := h
  obtain ⟨its, rv, hl, hz⟩ := I.list hs
  obtain ⟨u, rfl, ru⟩ := vals1 r
  obtain rfl : u = Value.ref a := ru
  have lb : bs.length ≤ sizeLine := by rw [← Paired.length pr]; exact hz
  refine PySem.W.sorted_data (R := fun v b => ∃ y, RelV y v ∧ F y b) (enc := enc) (bs := bs) hl.isList (each_of rv pr fun x u b m rx hd => ⟨x, rx, hd⟩) (each_of rv pr fun x u b _ rx hd => Dp.reads I _ _ _ (fd x b hd) rx) (PySem.W.AllAlike.of al) so lb
    (fun b hb => by have := dp b hb; omega) fun out lo eo => ?_
  obtain ⟨ys, ry, py⟩ := each_back eo
  have len : ys.length ≤ sizeLine := by rw [ry.length, lo]; exact lb
  obtain ⟨e, he⟩ := sortedAll_at s.heap its out.toArray
  have hd : s.heap.objs.size ≤ s.heap.objs.size + 1 := Nat.le_succ _
  exact ⟨.ref (s.heap.objs.size + 1), upd H (s.heap.objs.size + 1) (.lst ys), I.laid (t' := s.toks) (fun b o e => sortedAll_old e) hd ⟨len, out, e, ry, he⟩, rfl, q ys _ py (I.hok.fresh hd)⟩
end
/-- a comprehension whose items are pairs of cells -/
theorem lc_pairs {J : It} {n : Nat} {Gd : Hp → Prop} {Y : Nat → Hp → V → Hp → Prop} (w : Walk J n Gd Y) {g : TG} {tt : TT} {te : TE} {vs : List Nat} {σ : L2.St} {H1 : Hp} {D : Addr} {Qd : Hp → Prop} (hD : H1 D = none) (res : Nat → List CellP) (r0 : res 0 = []) (hn : n ≤ 1000000)
    (hG : ∀ i G, i ≤ n → Same H1 G → Gd G)
    (hs : ∀ i x G G' (K1 : V → Hp → Prop) (K0 : Hp → Prop), i < n → Same H1 G → Y i G x G' → (∀ r c H4, Same G H4 → PairAt H4 r c → res (i + 1) = res i ++ [c] → K1 (.ref r) H4) → (∀ H3, Same G H3 → res (i + 1) = res i → K0 H3) →
      g x (wipe σ vs) G' fun σ2 H2 => wipe σ2 vs = wipe σ vs ∧ tt σ2 H2 fun b H3 => if b = true then te σ2 H3 K1 else K0 H3)
    (hd : ∀ G rs, Same H1 G → G D = some (.lst (rs.map V.ref)) → Paired (fun q c => PairAt G q c) rs (res n) → Qd G) :
    ∃ W : Nat → Nat → Hp → Prop, (∃ m, W 0 m (upd H1 D (.lst []))) ∧ ∀ i m H, W i m H →
      (J.stop i H ∧ Qd H) ∨ (J.go i H ∧ ∃ Nx : Hp → Prop, (∀ H', Nx H' → ∃ m', m' < m ∧ W (i + 1) m' H') ∧ ∀ x H', J.yld i H x H' → g x (wipe σ vs) H' fun σ2 H2 => wipe σ2 vs = wipe σ vs ∧ tt σ2 H2 fun b H3 =>
        if b = true then te σ2 H3 fun y H4 => ∃ acc, H4 D = some (.lst acc) ∧ acc.length < sizeLine ∧ Nx (upd H4 D (.lst (acc ++ [y]))) else Nx H3) := by
  refine lc_it w (fun i G => Same H1 G ∧ ∃ rs : List Addr, G D = some (.lst (rs.map V.ref)) ∧ rs.length ≤ i ∧ Paired (fun q c => PairAt G q c) rs (res i)) ⟨?_, [], upd_same, Nat.le_refl _, by rw [r0]; exact .nil⟩ (fun i G hi p => hG i G hi p.1) ?_ ?_
  · exact same_put same_refl hD
  · rintro i x G G' hi ⟨sm, rs, gD, ln, pr⟩ y
    refine hs i x G G' _ _ hi sm y (fun r c H4 s4 a4 e => ?_) (fun H3 s3 e => ?_)
    · refine ⟨_, s4 _ _ gD, by rw [List.length_map, sizeLine_eq]; omega, same_put (sm.trans s4) hD, rs ++ [r], by rw [upd_same, List.map_append]; rfl, by rw [List.length_append]; exact Nat.succ_le_succ ln, ?_⟩
      have off : ∀ {q : Addr} {c : CellP}, PairAt H4 q c → PairAt (upd H4 D (.lst (rs.map V.ref ++ [V.ref r]))) q c := fun h => h.off (s4 _ _ gD) (by intro xs z; cases z)
      rw [e]
      exact (paired_imp (fun _ _ h => off (h.same s4)) pr).snoc (off a4)
    · refine ⟨sm.trans s3, rs, s3 _ _ gD, Nat.le_succ_of_le ln, ?_⟩
      rw [e]
      exact paired_imp (fun _ _ h => h.same s3) pr
  · rintro G ⟨sm, rs, gD, _, pr⟩
    exact hd G rs sm gD pr
theorem filt_snoc {L : List Cell} {p : Cell → Bool} {i : Nat} {c : Cell} (h : L[i]? = some c) (hp : p c = true) : (L.take (i + 1)).filter p = (L.take i).filter p ++ [c] := by
  rw [take_snoc h, List.filter_append]
  simp only [List.filter_cons, hp, if_true, List.filter_nil]
theorem filt_skip {L : List Cell} {p : Cell → Bool} {i : Nat} {c : Cell} (h : L[i]? = some c) (hp : p c ≠ true) : (L.take (i + 1)).filter p = (L.take i).filter p := by
  rw [take_snoc h, List.filter_append]
  simp only [List.filter_cons, hp, if_false, List.filter_nil, List.append_nil]
  simp
theorem eqv_nilD (ds : List PyData) : PyData.eqv (.list ds) (.list []) = decide (ds = []) := by
  cases ds with
  | nil => rfl
  | cons x xs => rw [decide_eq_false (by simp)]; rfl
def PairsL (H : Hp) (t : Addr) (ms : List CellP) : Prop := ∃ ps : List Addr, H t = some (.lst (ps.map V.ref)) ∧ Paired (fun p m => PairAt H p m) ps ms
def spLMoves : Sp := fun vs H Q _ => ∃ (t : Addr) (L : List Cell), vs = [.ref t] ∧ CellsT H t L ∧ L.Nodup ∧ Asc L ∧ L.length ≤ 1000 ∧
  ∀ l H', Same H H' → PairsL H' l (movesC L (L.filter fun c => hangsB (without L c))) → Q (.ref l) H'
/-- one start after the other -/
theorem moves_step {L : List Cell} {i : Nat} {s : Cell} (h : L[i]? = some s) : movesC L ((L.take (i + 1)).filter fun c => hangsB (without L c)) = movesC L ((L.take i).filter fun c => hangsB (without L c)) ++ (if hangsB (without L s) = true then (endsC L s).map fun e => (s, e) else []) := by
  rw [take_snoc h, List.filter_append]
  unfold movesC
  rw [List.flatMap_append]
  by_cases c : hangsB (without L s) = true
  · rw [if_pos c]
    simp [List.filter_cons, c]
  · rw [if_neg c]
    simp [List.filter_cons, c]
theorem refs_of {α : Type} {F : Addr → α → Prop} : ∀ {ys : List V} {ms : List α}, Paired (fun x m => ∃ r, x = V.ref r ∧ F r m) ys ms → ∃ rs : List Addr, ys = rs.map V.ref ∧ Paired F rs ms
  | _, _, .nil => ⟨[], rfl, .nil⟩
  | _, _, .cons h t => by
    obtain ⟨r, rfl, f⟩ := h
    obtain ⟨rs, rfl, p⟩ := refs_of t
    exact ⟨r :: rs, rfl, .cons f p⟩
theorem around_asc (c : Cell) : (aroundC c).Pairwise fun x y => cLt x y = true := by
  simp [aroundC, cLt]
  omega
theorem moves_asc {L : List Cell} (asc : Asc L) (nL : L.Nodup) : (movesC L (L.filter fun c => hangsB (without L c))).Pairwise fun a b => PySem.W.dataLe false pD a b = true := by
  have lt : (L.filter fun c => hangsB (without L c)).Pairwise fun x y => cLt x y = true := by
    refine List.Pairwise.sublist List.filter_sublist ?_
    refine (asc.and nL).imp fun {x y} h => ?_
    cases e : cLt x y with
    | true => rfl
    | false => exact absurd (cLt_tri e h.1) h.2
  unfold movesC
  generalize (L.filter fun c => hangsB (without L c)) = F at lt
  induction F with
  | nil => exact .nil
  | cons s F ih =>
    rw [List.flatMap_cons]
    obtain ⟨h1, h2⟩ := List.pairwise_cons.mp lt
    refine List.pairwise_append.mpr ⟨?_, ih h2, fun a ha b hb => ?_⟩
    · refine List.pairwise_map.mpr ?_
      refine ((around_asc s).sublist List.filter_sublist).imp fun {x y} h => ?_
      exact pLe (.inr ⟨rfl, h⟩)
    · obtain ⟨e, _, rfl⟩ := List.mem_map.mp ha
      obtain ⟨s', hs', hb'⟩ := List.mem_flatMap.mp hb
      obtain ⟨e', _, rfl⟩ := List.mem_map.mp hb'
      exact pLe (.inl (h1 s' hs'))
section
variable {P : Program} {w : World} {K : PySem.W.Frag} {mg : Str → Option Value} {base : Heap}
end
end Sq

set_option Elab.async false
set_option linter.all false
set_option maxRecDepth 100000
set_option maxHeartbeats 4000000
/-! sorted of a lot of cells; is_body. -/
namespace Sq
open PySem PySem.Spec PyProof.Rows L2
theorem iteN {c : Prop} [Decidable c] {p q : Prop} (h : ¬c) (k : q) : if c then p else q := by
  rw [if_neg h]
  exact k
theorem asc_one {A M : List Cell} (h : A.Perm M) (sa : Asc A) (sm : Asc M) : A = M :=
  List.Perm.eq_of_pairwise (le := fun x y => cLt y x = false) (fun x y _ _ h k => cLt_tri k h) sa sm h
/-- is_body of an ascending tuple of cells, none twice -/
def spIsBody (Ts : List Addr) : Sp := fun vs H Q _ => ∃ (t : Addr) (L : List Cell), vs = [.ref t] ∧ CellsT H t L ∧ L.Nodup ∧ Asc L ∧ L.length ≤ 1000 ∧ TabsG Ts H ∧ ∀ H', KT Ts H H' → Q (.bl (hangsB L)) H'
section
variable {P : Program} {w : World} {K : PySem.W.Frag} {mg : Str → Option Value} {base : Heap}
end
end Sq

set_option Elab.async false
set_option linter.all false
set_option maxRecDepth 100000
set_option maxHeartbeats 4000000
/-! in, for a pair of cells and a tuple of such pairs. -/
namespace Sq
open PySem PySem.Spec PyProof.Rows L2
theorem pD_eqv (a b : CellP) : PyData.eqv (pD a) (pD b) = decide (a = b) := by
  have e : PyData.eqv (pD a) (pD b) = (PyData.eqv (cD a.1) (cD b.1) && PyData.eqv (cD a.2) (cD b.2)) := by
    simp [pD, PyData.eqv, PyData.eqvAll]
  rw [e, cD_eqv, cD_eqv, Bool.eq_iff_iff]
  obtain ⟨a1, a2⟩ := a
  obtain ⟨b1, b2⟩ := b
  simp
theorem any_pair (c : CellP) : ∀ L : List CellP, (L.map pD).any (fun z => PyData.eqv z (pD c)) = decide (c ∈ L)
  | [] => by simp
  | d :: L => by
    rw [List.map_cons, List.any_cons, any_pair c L, pD_eqv]
    by_cases h : d = c
    · subst h
      simp
    · have h' : ¬ c = d := fun z => h z.symm
      simp [h, h']
theorem pairs_can (L : List CellP) : PyData.canLayAll0 (L.map pD) = true := (lay_all (n := 2) fun d hd => by
  obtain ⟨c, _, rfl⟩ := List.mem_map.mp hd
  exact lay_pD c).1
theorem pairs_dps {K : PySem.W.Frag} {H : Hp} : ∀ {ps : List Addr} {ms : List CellP}, Paired (fun p m => PairAt H p m) ps ms → DpAll K H (ps.map V.ref) (ms.map pD)
  | _, _, .nil => .nil
  | _, _, .cons h t => .cons h.dp (pairs_dps t)
theorem PairsT.dp {K : PySem.W.Frag} {H : Hp} {t : Addr} {ms : List CellP} (h : PairsT H t ms) : Dp K H (.ref t) (.tuple (ms.map pD)) := by
  obtain ⟨ps, e, pr⟩ := h
  exact .tup (SqT.of e) (pairs_dps pr)
theorem PairsL.dp {K : PySem.W.Frag} {H : Hp} {t : Addr} {ms : List CellP} (h : PairsL H t ms) : Dp K H (.ref t) (.list (ms.map pD)) := by
  obtain ⟨ps, e, pr⟩ := h
  exact .lst (SqL.of e) (pairs_dps pr)
/-- in, for a pair of cells and a tuple of pairs of cells -/
def rInP : R2 := fun x y H Q => ∃ (p t : Addr) (c : CellP) (L : List CellP), x = .ref p ∧ y = .ref t ∧ PairAt H p c ∧ PairsT H t L ∧ Q (.bl (decide (c ∈ L))) H
theorem op_inP {X : Cx} (hu : X.A.units + 64 < cLine) : OpR X (compareOp .In) rInP := by
  rintro pins s σ H x y v u Q I rx ry ⟨p, t, c, L, rfl, rfl, ap, ct, q⟩
  obtain ⟨as, r1⟩ := Dp.reads I (pD c) _ v ap.dp rx
  obtain ⟨bs, r2⟩ := Dp.reads I (.tuple (L.map pD)) _ u ct.dp ry
  have l1 := lay_pD c
  refine SeqAt.in_tuple_reads r2 r1 (pairs_can L) l1.1 ?_ ⟨.bl _, H, I, rfl, ?_⟩
  · have m : min (PyData.depthAll (L.map pD)) (pD c).depth ≤ 2 := Nat.le_trans (Nat.min_le_right _ _) l1.2
    omega
  · rw [any_pair]
    exact q
/-- a pair is a move just if its square is free and its place tells a kind -/
theorem mem_moves {L : List Cell} {s e : Cell} : (s, e) ∈ movesC L (L.filter fun c => hangsB (without L c)) ↔ s ∈ L ∧ e ∈ aroundC s ∧ hangsB (without L s) = true ∧ byPlace L s e ≠ .non := by
  unfold movesC endsC
  simp only [List.mem_flatMap, List.mem_map, List.mem_filter, Prod.mk.injEq]
  constructor
  · rintro ⟨s', ⟨h1, h2⟩, e', ⟨h3, h4⟩, rfl, rfl⟩
    exact ⟨h1, h3, h2, by simpa using h4⟩
  · rintro ⟨h1, h3, h2, h4⟩
    exact ⟨s, ⟨h1, h2⟩, e, ⟨h3, by simpa using h4⟩, rfl, rfl⟩
end Sq

set_option Elab.async false
set_option linter.all false
set_option maxRecDepth 100000
set_option maxHeartbeats 4000000
/-! What a move is, as mathematics. -/
namespace Sq
open PySem PySem.Spec PyProof.Rows L2
theorem abs_one {i : Int} : absI i = 1 ↔ i = 1 ∨ i = -1 := by
  unfold absI
  split <;> omega
theorem abs_zero {i : Int} : absI i = 0 ↔ i = 0 := by
  unfold absI
  split <;> omega
theorem abs_nn (i : Int) : 0 ≤ absI i := by
  unfold absI
  split <;> omega
/-- what lies behind a kind -/
structure IsMv (L : List Cell) (s e : Cell) : Prop where
  sL : s ∈ L
  eL : e ∉ L
  ar : e ∈ aroundC s
  near : ∃ a ∈ without L s, e ∈ besideC a
theorem around_iff {s e : Cell} : e ∈ aroundC s ↔ (e.1 - s.1 = -1 ∨ e.1 - s.1 = 0 ∨ e.1 - s.1 = 1) ∧ (e.2 - s.2 = -1 ∨ e.2 - s.2 = 0 ∨ e.2 - s.2 = 1) ∧ ¬ (e.1 = s.1 ∧ e.2 = s.2) := by
  obtain ⟨e1, e2⟩ := e
  obtain ⟨s1, s2⟩ := s
  simp only [aroundC, List.mem_cons, List.not_mem_nil, or_false, Prod.mk.injEq]
  omega
theorem byPlace_is {L : List Cell} {s e : Cell} (h : byPlace L s e ≠ .non) : IsMv L s e := by
  obtain ⟨sL, eL⟩ := byPlace_mem h
  have key : e ∈ aroundC s ∧ ∃ a ∈ without L s, e ∈ besideC a := by
    unfold byPlace at h
    rw [if_neg (by simp [sL, eL])] at h
    obtain ⟨e1, e2⟩ := e
    obtain ⟨s1, s2⟩ := s
    by_cases c1 : absI (e1 - s1) + absI (e2 - s2) = 1
    · rw [if_pos c1] at h
      have hs : slidesB L (s1, s2) (e1, e2) = true := by
        refine Classical.byContradiction fun n => h ?_
        rw [if_neg n]
      have n1 := abs_nn (e1 - s1)
      have n2 := abs_nn (e2 - s2)
      have cs : (e1 - s1 = 0 ∧ (e2 - s2 = 1 ∨ e2 - s2 = -1)) ∨ ((e1 - s1 = 1 ∨ e1 - s1 = -1) ∧ e2 - s2 = 0) := by
        by_cases z : absI (e1 - s1) = 0
        · exact .inl ⟨abs_zero.mp z, abs_one.mp (by omega)⟩
        · exact .inr ⟨abs_one.mp (by omega), abs_zero.mp (by omega)⟩
      refine ⟨around_iff.mpr ⟨?_, ?_, ?_⟩, ?_⟩
      · simp only
        omega
      · simp only
        omega
      · simp only
        omega
      · unfold slidesB sideB at hs
        simp only [Bool.or_eq_true, Bool.and_eq_true, decide_eq_true_eq] at hs
        rcases hs with ⟨_, hm⟩ | ⟨_, hm⟩
        · refine ⟨_, mem_without.mpr ⟨hm, fun z => ?_⟩, bes (by omega)⟩
          obtain ⟨z1, z2⟩ := Prod.mk.inj z
          omega
        · refine ⟨_, mem_without.mpr ⟨hm, fun z => ?_⟩, bes (by omega)⟩
          obtain ⟨z1, z2⟩ := Prod.mk.inj z
          omega
    · rw [if_neg c1] at h
      by_cases c2 : absI (e1 - s1) = 1 ∧ absI (e2 - s2) = 1
      · rw [if_pos c2] at h
        have hs : turnsB L (s1, s2) (e1, e2) = true := by
          refine Classical.byContradiction fun n => h ?_
          rw [if_neg n]
        have d1 := abs_one.mp c2.1
        have d2 := abs_one.mp c2.2
        refine ⟨around_iff.mpr ⟨?_, ?_, ?_⟩, ?_⟩
        · simp only
          omega
        · simp only
          omega
        · simp only
          omega
        · have hm : (s1, e2) ∈ L ∨ (e1, s2) ∈ L := by
            unfold turnsB at hs
            by_cases m : (s1, e2) ∈ L
            · exact .inl m
            · by_cases m2 : (e1, s2) ∈ L
              · exact .inr m2
              · simp [m, m2] at hs
          rcases hm with hm | hm
          · refine ⟨_, mem_without.mpr ⟨hm, fun z => ?_⟩, bes (by omega)⟩
            obtain ⟨z1, z2⟩ := Prod.mk.inj z
            omega
          · refine ⟨_, mem_without.mpr ⟨hm, fun z => ?_⟩, bes (by omega)⟩
            obtain ⟨z1, z2⟩ := Prod.mk.inj z
            omega
      · rw [if_neg c2] at h
        exact absurd rfl h
  exact ⟨sL, eL, key.1, key.2⟩
theorem kind_ne {L : List Cell} {s e : Cell} : kindV L s e ≠ .non ↔ byPlace L s e ≠ .non ∧ hangsB (without L s) = true := by
  unfold kindV
  constructor
  · intro h
    refine ⟨fun z => h (by rw [if_pos (.inl z)]), ?_⟩
    refine Classical.byContradiction fun n => h ?_
    rw [if_pos (.inr (Bool.eq_false_iff.mpr n))]
  · rintro ⟨h1, h2⟩
    rw [if_neg (fun z => z.elim h1 fun y => by rw [h2] at y; cases y)]
    exact h1
/-- just the pairs with a kind are moves -/
theorem moves_kind {L : List Cell} {s e : Cell} : (s, e) ∈ movesC L (L.filter fun c => hangsB (without L c)) ↔ kindV L s e ≠ .non := by
  rw [mem_moves, kind_ne]
  constructor
  · exact fun h => ⟨h.2.2.2, h.2.2.1⟩
  · intro h
    have m := byPlace_is h.1
    exact ⟨m.sL, m.ar, h.2, h.1⟩
/-- behind a move the body hangs together, and has as many squares -/
theorem behind {L cs : List Cell} {s e : Cell} (nL : L.Nodup) (h : kindV L s e ≠ .non) (pm : cs.Perm (without L s ++ [e])) : Hangs cs ∧ cs.Nodup ∧ cs.length = L.length := by
  obtain ⟨h1, h2⟩ := kind_ne.mp h
  obtain ⟨sL, eL, ar, a, ha, hb⟩ := byPlace_is h1
  have hh : Hangs (without L s ++ [e]) := hangs_snoc (hangsB_iff.mp h2) ha hb
  have nd : (without L s ++ [e]).Nodup := List.nodup_append.mpr ⟨nL.sublist List.filter_sublist, by simp, fun a ha b hb => by
    rw [List.mem_singleton.mp hb]
    exact fun z => eL (z ▸ (mem_without.mp ha).1)⟩
  refine ⟨(hangs_perm fun x => pm.mem_iff).mpr hh, pm.nodup_iff.mpr nd, ?_⟩
  rw [pm.length_eq, List.length_append]
  have l1 : (without L s).length + 1 = L.length := by
    have p1 : L.Perm (s :: without L s) := by
      refine (List.perm_ext_iff_of_nodup nL (List.nodup_cons.mpr ⟨fun m => (mem_without.mp m).2 rfl, nL.sublist List.filter_sublist⟩)).mpr fun x => ?_
      rw [List.mem_cons, mem_without]
      by_cases z : x = s
      · subst z
        simp [sL]
      · simp [z]
    have := p1.length_eq
    rw [List.length_cons] at this
    omega
  exact l1
theorem body_small {L : List Cell} (hL : Hangs L) (n0 : Near0 L) (l : L.length ≤ 1000) : ∀ c ∈ L, c.1.natAbs < 6000000000000000 ∧ c.2.natAbs < 6000000000000000 := fun c hc => by
  obtain ⟨b, hb, b1, b2, b3, b4⟩ := n0
  obtain ⟨s1, s2, s3, s4⟩ := span hL hb hc
  omega
theorem sh_cell {c : Cell} (h : c.1.natAbs < 10 ^ 40 ∧ c.2.natAbs < 10 ^ 40) : Sh 1 89 (cD c) := sh_tuple (m := 0) (n := 41) (k := 2) (fun d hd => by
  simp only [List.mem_cons, List.not_mem_nil, or_false] at hd
  rcases hd with rfl | rfl
  · exact sh_int h.1
  · exact sh_int h.2) (Nat.le_refl 2)
theorem sh_pair {m : CellP} (h1 : m.1.1.natAbs < 10 ^ 40 ∧ m.1.2.natAbs < 10 ^ 40) (h2 : m.2.1.natAbs < 10 ^ 40 ∧ m.2.2.natAbs < 10 ^ 40) : Sh 2 185 (pD m) := sh_tuple (m := 1) (n := 89) (k := 2) (fun d hd => by
  simp only [List.mem_cons, List.not_mem_nil, or_false] at hd
  rcases hd with rfl | rfl
  · exact sh_cell h1
  · exact sh_cell h2) (Nat.le_refl 2)
theorem KT.pen {Ts : List Addr} {H G : Hp} {p : Addr} {n : Nat} (k : KT Ts H G) (h : PenAt H p n) : PenAt G p n := by
  obtain ⟨c, zs, i, dg, fo, e1, e2, r⟩ := h.ex
  exact ⟨⟨c, zs, i, dg, fo, k.get e1 (fun _ z => nomatch z), k.get e2 (fun _ z => nomatch z), r⟩⟩
theorem moves_len (L : List Cell) : ∀ F : List Cell, (movesC L F).length ≤ 8 * F.length
  | [] => Nat.le_refl _
  | c :: F => by
    have ih := moves_len L F
    have e : movesC L (c :: F) = ((endsC L c).map fun e => (c, e)) ++ movesC L F := rfl
    have l8 : (endsC L c).length ≤ 8 := Nat.le_trans (List.length_filter_le ..) (Nat.le_refl 8)
    rw [e, List.length_append, List.length_map, List.length_cons]
    omega
theorem around_small {s e : Cell} (h : e ∈ aroundC s) (hs : s.1.natAbs < 6000000000000000 ∧ s.2.natAbs < 6000000000000000) : e.1.natAbs < 10 ^ 40 ∧ e.2.natAbs < 10 ^ 40 := by
  have := around_iff.mp h
  omega
theorem small40 {s : Cell} (hs : s.1.natAbs < 6000000000000000 ∧ s.2.natAbs < 6000000000000000) : s.1.natAbs < 10 ^ 40 ∧ s.2.natAbs < 10 ^ 40 := by omega
theorem sh_moves {L : List Cell} (sm : ∀ c ∈ L, c.1.natAbs < 6000000000000000 ∧ c.2.natAbs < 6000000000000000) (l : L.length ≤ 1000) : Sh 3 1496003 (.tuple ((movesC L (L.filter fun c => hangsB (without L c))).map pD)) := by
  refine sh_tuple (m := 2) (n := 185) (k := 8000) (fun d hd => ?_) ?_
  · obtain ⟨⟨s, e⟩, hm, rfl⟩ := List.mem_map.mp hd
    have := mem_moves.mp hm
    exact sh_pair (small40 (sm s this.1)) (around_small this.2.1 (sm s this.1))
  · have := moves_len L (L.filter fun c => hangsB (without L c))
    have := List.length_filter_le (fun c => hangsB (without L c)) L
    rw [List.length_map]
    omega
theorem sh_cells {cs : List Cell} (sm : ∀ c ∈ cs, c.1.natAbs < 10 ^ 40 ∧ c.2.natAbs < 10 ^ 40) (l : cs.length ≤ 1000) : Sh 2 91003 (.tuple (cs.map cD)) := by
  refine sh_tuple (m := 1) (n := 89) (k := 1000) (fun d hd => ?_) (by rw [List.length_map]; exact l)
  obtain ⟨c, hc, rfl⟩ := List.mem_map.mp hd
  exact sh_cell (sm c hc)
theorem call_reprK {X : Cx} {K : PySem.W.Frag} {k : Nat} (h : X.K = K) (hg : X.A.guards = some []) (hr : Room k X.A) : CallR X (.builtin "repr") (rReprD K) := h ▸ call_reprD hg hr
theorem kind_scal {L : List Cell} {s e : Cell} : scal (kindV L s e) (kindV L s e) = true := by
  unfold kindV
  split
  · rfl
  · rcases byPlace_cases L s e with h | h | h <;> rw [h] <;> rfl
theorem notN_kind {L : List Cell} {s e : Cell} : (!decide (kindV L s e = .non)) = decide ((s, e) ∈ movesC L (L.filter fun c => hangsB (without L c))) := by
  rw [Bool.eq_iff_iff, decide_eq_true_iff, moves_kind]
  simp
theorem asc_uniq {A B M : List Cell} (ha : A.Perm M) (hb : B.Perm M) (sa : Asc A) (sb : Asc B) : A = B :=
  List.Perm.eq_of_pairwise (le := fun x y => cLt y x = false) (fun x y _ _ h k => cLt_tri k h) sa sb (ha.trans hb.symm)
theorem PairAt.ek {H G : Hp} {p : Addr} {m : CellP} (h : PairAt H p m) (k : Ek H G) : PairAt G p m := by
  obtain ⟨x, y, e, ax, ay⟩ := h
  exact ⟨x, y, k.tup e, k.at ax, k.at ay⟩
theorem PairsT.ek {H G : Hp} {t : Addr} {ms : List CellP} (h : PairsT H t ms) (k : Ek H G) : PairsT G t ms := by
  obtain ⟨ps, e, pr⟩ := h
  exact ⟨ps, k.tup e, paired_imp (fun _ _ a => PairAt.ek a k) pr⟩
theorem PairsL.ek {H G : Hp} {t : Addr} {ms : List CellP} (h : PairsL H t ms) (k : Ek H G) : PairsL G t ms := by
  obtain ⟨ps, e, pr⟩ := h
  exact ⟨ps, k.lst e, paired_imp (fun _ _ a => PairAt.ek a k) pr⟩
theorem ne_same {v : V} (h : scal v v = true) {H : Hp} {Q : VK} (q : Q (.bl false) H) : rNe v v H Q := ⟨h, by rw [decide_eq_true rfl]; exact q⟩
theorem ne_eq {i j : Int} (h : i = j) {H : Hp} {Q : VK} (q : Q (.bl false) H) : rNe (.int i) (.int j) H Q := by
  subst h
  exact ne_same rfl q
end Sq

set_option Elab.async false
set_option linter.all false
set_option maxRecDepth 100000
set_option maxHeartbeats 4000000
/-! A body of two squares or more has a move; moves back; moves of a moved body. -/
namespace Sq
open PySem PySem.Spec PyProof.Rows L2
def side4 (d : Cell) : Prop := (d.1 = 0 ∧ (d.2 = 1 ∨ d.2 = -1)) ∨ ((d.1 = 1 ∨ d.1 = -1) ∧ d.2 = 0)
theorem byPlace_slide {L : List Cell} {s e : Cell} (sL : s ∈ L) (eL : e ∉ L) (h : side4 (e.1 - s.1, e.2 - s.2)) (hs : slidesB L s e = true) : byPlace L s e = .str "slide" := by
  unfold byPlace
  rw [if_neg (by simp [sL, eL])]
  have h1 : absI (e.1 - s.1) + absI (e.2 - s.2) = 1 := by
    rcases h with ⟨h1, h2⟩ | ⟨h1, h2⟩
    · rw [abs_zero.mpr h1, abs_one.mpr h2]
      rfl
    · rw [abs_one.mpr h1, abs_zero.mpr h2]
      rfl
  rw [if_pos h1, if_pos hs]
theorem byPlace_turn {L : List Cell} {s e : Cell} (sL : s ∈ L) (eL : e ∉ L) (h1 : e.1 - s.1 = 1 ∨ e.1 - s.1 = -1) (h2 : e.2 - s.2 = 1 ∨ e.2 - s.2 = -1) (ht : turnsB L s e = true) : byPlace L s e = .str "turn" := by
  unfold byPlace
  rw [if_neg (by simp [sL, eL])]
  have a1 := abs_one.mpr h1
  have a2 := abs_one.mpr h2
  rw [if_neg (by omega), if_pos ⟨a1, a2⟩, if_pos ht]
/-- a square at one side, none at the next one -/
theorem corner_move {L : List Cell} {s d n : Cell} (sL : s ∈ L) (hp : (d.1 = 0 ∧ (d.2 = 1 ∨ d.2 = -1) ∧ n.2 = 0 ∧ (n.1 = 1 ∨ n.1 = -1)) ∨ (d.2 = 0 ∧ (d.1 = 1 ∨ d.1 = -1) ∧ n.1 = 0 ∧ (n.2 = 1 ∨ n.2 = -1)))
    (hn : (s.1 + n.1, s.2 + n.2) ∈ L) (hd : (s.1 + d.1, s.2 + d.2) ∉ L) : ∃ e, byPlace L s e ≠ .non := by
  obtain ⟨s1, s2⟩ := s
  obtain ⟨d1, d2⟩ := d
  obtain ⟨n1, n2⟩ := n
  simp only at hp hn hd
  by_cases c : (s1 + d1 + n1, s2 + d2 + n2) ∈ L
  · refine ⟨(s1 + d1, s2 + d2), ?_⟩
    rw [byPlace_slide sL hd (by unfold side4; simp only; omega) ?_]
    · simp
    · have key : ∀ a b : Int, (a = n1 ∧ b = n2) → sideB L (s1, s2) (s1 + d1, s2 + d2) (a, b) = true := fun a b h => by
        obtain ⟨rfl, rfl⟩ := h
        unfold sideB
        rw [Bool.and_eq_true]
        exact ⟨decide_eq_true hn, decide_eq_true c⟩
      unfold slidesB
      rw [Bool.or_eq_true]
      by_cases z : s2 + d2 - s2 = n1 ∧ s1 + d1 - s1 = n2
      · exact .inl (key _ _ z)
      · exact .inr (key _ _ (by simp only; omega))
  · refine ⟨(s1 + d1 + n1, s2 + d2 + n2), ?_⟩
    rw [byPlace_turn sL c (by simp only; omega) (by simp only; omega) ?_]
    · simp
    · unfold turnsB
      rcases hp with ⟨h1, h2, h3, h4⟩ | ⟨h1, h2, h3, h4⟩
      · have x1 : ((s1, s2 + d2 + n2) : Cell) = (s1 + d1, s2 + d2) := by rw [h1, h3]; simp
        have x2 : ((s1 + d1 + n1, s2) : Cell) = (s1 + n1, s2 + n2) := by rw [h1, h3]; simp
        simp only [x1, x2]
        rw [decide_eq_false hd, decide_eq_true hn]
        rfl
      · have x1 : ((s1, s2 + d2 + n2) : Cell) = (s1 + n1, s2 + n2) := by rw [h1, h3]; simp
        have x2 : ((s1 + d1 + n1, s2) : Cell) = (s1 + d1, s2 + d2) := by rw [h1, h3]; simp
        simp only [x1, x2]
        rw [decide_eq_false hd, decide_eq_true hn]
        rfl
theorem sides_move {L : List Cell} {s y g : Cell} (sL : s ∈ L) (yL : y ∈ L) (hy : y ∈ besideC s) (gL : g ∉ L) (hg : g ∈ besideC s) : ∃ e, byPlace L s e ≠ .non := by
  obtain ⟨s1, s2⟩ := s
  have go : ∀ (d n : Cell), ((d.1 = 0 ∧ (d.2 = 1 ∨ d.2 = -1) ∧ n.2 = 0 ∧ (n.1 = 1 ∨ n.1 = -1)) ∨ (d.2 = 0 ∧ (d.1 = 1 ∨ d.1 = -1) ∧ n.1 = 0 ∧ (n.2 = 1 ∨ n.2 = -1))) → (s1 + n.1, s2 + n.2) ∈ L → (s1 + d.1, s2 + d.2) ∉ L → ∃ e, byPlace L (s1, s2) e ≠ .non := fun d n h h1 h2 => corner_move (s := (s1, s2)) sL h h1 h2
  have e1 : ∀ a : Int, a - 1 = a + -1 := fun a => rfl
  have e0 : ∀ a : Int, a = a + 0 := fun a => (Int.add_zero a).symm
  have w : ∀ {c : Cell}, c ∈ besideC (s1, s2) → ∃ d : Cell, side4 d ∧ c = (s1 + d.1, s2 + d.2) := fun {c} h => by
    obtain ⟨c1, c2⟩ := c
    refine ⟨(c1 - s1, c2 - s2), ?_, by simp; omega⟩
    have := beside_iff.mp h
    unfold side4
    simp only at this ⊢
    omega
  obtain ⟨n, hn, rfl⟩ := w hy
  obtain ⟨d, hd, rfl⟩ := w hg
  obtain ⟨n1, n2⟩ := n
  obtain ⟨d1, d2⟩ := d
  unfold side4 at hn hd
  simp only at hn hd yL gL
  by_cases op : d1 = -n1 ∧ d2 = -n2
  · obtain ⟨rfl, rfl⟩ := op
    -- the side between both
    by_cases m : (s1 + n2, s2 + n1) ∈ L
    · exact go (-n1, -n2) (n2, n1) (by simp only; omega) m gL
    · exact go (n2, n1) (n1, n2) (by simp only; omega) yL m
  · by_cases same : d1 = n1 ∧ d2 = n2
    · obtain ⟨rfl, rfl⟩ := same
      exact absurd yL gL
    · exact go (d1, d2) (n1, n2) (by simp only; omega) yL gL
/-- a move is there -/
theorem move_ex {L : List Cell} (nL : L.Nodup) (hL : Hangs L) (l : 1 < L.length) : ∃ s e, kindV L s e ≠ .non := by
  obtain ⟨r, rL⟩ := List.exists_mem_of_ne_nil _ hL.1
  obtain ⟨f, fL, fr, hf, g, gf, gL⟩ := free_side L.length (Nat.le_refl _) nL hL l r rL
  obtain ⟨y, yL, yf⟩ := near_ex hL fL rL (Ne.symm fr)
  obtain ⟨e, he⟩ := sides_move fL yL yf gL gf
  exact ⟨f, e, kind_ne.mpr ⟨he, hangsB_iff.mpr hf⟩⟩
theorem no_move {c s e : Cell} : kindV [c] s e = .non := by
  refine Classical.byContradiction fun h => ?_
  obtain ⟨h1, h2⟩ := kind_ne.mp h
  have sL := (byPlace_is h1).sL
  rw [List.mem_singleton.mp sL] at h2
  have := (hangsB_iff.mp h2).1
  exact this (by simp [without])
/-! ### back -/
theorem abs_swap (a b : Int) : absI (a - b) = absI (b - a) := by
  unfold absI
  split <;> split <;> omega
theorem hangsB_mem {L M : List Cell} (h : ∀ x, x ∈ L ↔ x ∈ M) : hangsB L = hangsB M := by
  rw [Bool.eq_iff_iff, hangsB_iff, hangsB_iff]
  exact hangs_perm h
theorem kind_back {L M : List Cell} {s e : Cell} (k : kindV L s e ≠ .non) (hM : ∀ x, x ∈ M ↔ (x ∈ L ∧ x ≠ s) ∨ x = e) : kindV M e s = kindV L s e := by
  obtain ⟨k1, k2⟩ := kind_ne.mp k
  have I := byPlace_is k1
  have eM : e ∈ M := (hM e).mpr (.inr rfl)
  have se : s ≠ e := fun z => I.eL (z ▸ I.sL)
  have sM : s ∉ M := fun m => ((hM s).mp m).elim (fun h => h.2 rfl) se
  have mem : ∀ x, x ≠ s → x ≠ e → decide (x ∈ M) = decide (x ∈ L) := fun x h1 h2 => by
    rw [Bool.eq_iff_iff, decide_eq_true_iff, decide_eq_true_iff, hM]
    simp [h1, h2]
  have h2 : hangsB (without M e) = true := by
    rw [← k2]
    refine hangsB_mem fun x => ?_
    rw [mem_without, mem_without, hM]
    constructor
    · rintro ⟨h | h, ne⟩
      · exact h
      · exact absurd h ne
    · intro h
      exact ⟨.inl h, fun z => I.eL (z ▸ h.1)⟩
  have bp : byPlace M e s = byPlace L s e := by
    unfold byPlace
    have q1 : ¬ (decide (e ∈ M) = false ∨ decide (s ∈ M) = true) := by simp [eM, sM]
    have q2 : ¬ (decide (s ∈ L) = false ∨ decide (e ∈ L) = true) := by
      have := I.sL
      have := I.eL
      simp_all
    rw [if_neg q1, if_neg q2, abs_swap s.1 e.1, abs_swap s.2 e.2]
    have ar := around_iff.mp I.ar
    obtain ⟨s1, s2⟩ := s
    obtain ⟨e1, e2⟩ := e
    simp only at ar mem ⊢
    have prj : ∀ {a b c d : Int}, (a, b) ≠ ((c, d) : Cell) ↔ a ≠ c ∨ b ≠ d := fun {a b c d} => by rw [Ne, Prod.mk.injEq]; omega
    by_cases c1 : absI (e1 - s1) + absI (e2 - s2) = 1
    · rw [if_pos c1, if_pos c1]
      have n1 := abs_nn (e1 - s1)
      have n2 := abs_nn (e2 - s2)
      have cs : (e1 - s1 = 0 ∧ (e2 - s2 = 1 ∨ e2 - s2 = -1)) ∨ ((e1 - s1 = 1 ∨ e1 - s1 = -1) ∧ e2 - s2 = 0) := by
        by_cases z : absI (e1 - s1) = 0
        · exact .inl ⟨abs_zero.mp z, abs_one.mp (by omega)⟩
        · exact .inr ⟨abs_one.mp (by omega), abs_zero.mp (by omega)⟩
      have sl : slidesB M (e1, e2) (s1, s2) = slidesB L (s1, s2) (e1, e2) := by
        unfold slidesB sideB
        simp only
        have a1 : s2 - e2 = -(e2 - s2) := by omega
        have a2 : s1 - e1 = -(e1 - s1) := by omega
        rw [a1, a2, Int.neg_neg, Int.neg_neg]
        rw [mem (e1 + -(e2 - s2), e2 + -(e1 - s1)) (prj.mpr (by omega)) (prj.mpr (by omega)), mem (s1 + -(e2 - s2), s2 + -(e1 - s1)) (prj.mpr (by omega)) (prj.mpr (by omega)),
          mem (e1 + (e2 - s2), e2 + (e1 - s1)) (prj.mpr (by omega)) (prj.mpr (by omega)), mem (s1 + (e2 - s2), s2 + (e1 - s1)) (prj.mpr (by omega)) (prj.mpr (by omega))]
        cases decide ((e1 + -(e2 - s2), e2 + -(e1 - s1)) ∈ L) <;> cases decide ((s1 + -(e2 - s2), s2 + -(e1 - s1)) ∈ L) <;> cases decide ((e1 + (e2 - s2), e2 + (e1 - s1)) ∈ L) <;> cases decide ((s1 + (e2 - s2), s2 + (e1 - s1)) ∈ L) <;> rfl
      rw [sl]
    · rw [if_neg c1, if_neg c1]
      by_cases c2 : absI (e1 - s1) = 1 ∧ absI (e2 - s2) = 1
      · rw [if_pos c2, if_pos c2]
        have d1 := abs_one.mp c2.1
        have d2 := abs_one.mp c2.2
        have tu : turnsB M (e1, e2) (s1, s2) = turnsB L (s1, s2) (e1, e2) := by
          unfold turnsB
          simp only
          rw [mem (e1, s2) (prj.mpr (by omega)) (prj.mpr (by omega)), mem (s1, e2) (prj.mpr (by omega)) (prj.mpr (by omega))]
          cases decide ((e1, s2) ∈ L) <;> cases decide ((s1, e2) ∈ L) <;> rfl
        rw [tu]
      · rw [if_neg c2, if_neg c2]
  unfold kindV
  rw [bp, h2, k2]
/-! ### moved -/
def shC (b c : Cell) : Cell := (c.1 + b.1, c.2 + b.2)
theorem shC_inj {b c d : Cell} (h : shC b c = shC b d) : c = d := by
  obtain ⟨c1, c2⟩ := c
  obtain ⟨d1, d2⟩ := d
  obtain ⟨h1, h2⟩ := Prod.mk.inj h
  have h1 : c1 + b.1 = d1 + b.1 := h1
  have h2 : c2 + b.2 = d2 + b.2 := h2
  rw [Prod.mk.injEq]
  omega
theorem mem_sh {L : List Cell} {b c : Cell} : shC b c ∈ L.map (shC b) ↔ c ∈ L := by
  rw [List.mem_map]
  constructor
  · rintro ⟨d, hd, e⟩
    exact shC_inj e ▸ hd
  · exact fun h => ⟨c, h, rfl⟩
theorem sh_beside {b c d : Cell} (h : d ∈ besideC c) : shC b d ∈ besideC (shC b c) := by
  have := beside_iff.mp h
  refine bes ?_
  omega
theorem sh_back (b : Cell) (L : List Cell) : (L.map (shC b)).map (shC (-b.1, -b.2)) = L := by
  rw [List.map_map]
  have e : (shC (-b.1, -b.2)) ∘ (shC b) = id := by
    funext c
    obtain ⟨c1, c2⟩ := c
    simp only [Function.comp, shC, id, Prod.mk.injEq]
    omega
  rw [e, List.map_id]
theorem hangs_sh {L : List Cell} {b : Cell} : Hangs (L.map (shC b)) ↔ Hangs L := by
  constructor
  · intro h
    have := hangs_map (g := shC (-b.1, -b.2)) (fun _ _ => sh_beside) h
    rw [sh_back] at this
    exact this
  · exact hangs_map (g := shC b) (fun _ _ => sh_beside)
theorem hangsB_sh {L : List Cell} {b : Cell} : hangsB (L.map (shC b)) = hangsB L := by
  rw [Bool.eq_iff_iff, hangsB_iff, hangsB_iff, hangs_sh]
theorem without_sh {L : List Cell} {b c : Cell} : without (L.map (shC b)) (shC b c) = (without L c).map (shC b) := by
  unfold without
  rw [List.filter_map]
  congr 1
  refine List.filter_congr fun x _ => ?_
  show decide (shC b x ≠ shC b c) = decide (x ≠ c)
  by_cases h : x = c
  · simp [h]
  · have : shC b x ≠ shC b c := fun z => h (shC_inj z)
    simp [h, this]
theorem dec_sh {L : List Cell} {b : Cell} (x y : Int) : decide ((x + b.1, y + b.2) ∈ L.map (shC b)) = decide ((x, y) ∈ L) := by
  rw [Bool.eq_iff_iff, decide_eq_true_iff, decide_eq_true_iff]
  exact mem_sh (c := (x, y))
theorem byPlace_sh {L : List Cell} {b s e : Cell} : byPlace (L.map (shC b)) (shC b s) (shC b e) = byPlace L s e := by
  obtain ⟨s1, s2⟩ := s
  obtain ⟨e1, e2⟩ := e
  obtain ⟨b1, b2⟩ := b
  have d1 : e1 + b1 - (s1 + b1) = e1 - s1 := by omega
  have d2 : e2 + b2 - (s2 + b2) = e2 - s2 := by omega
  have sw : ∀ x y z : Int, x + y + z = x + z + y := fun x y z => by omega
  have hs : slidesB (L.map (shC (b1, b2))) (shC (b1, b2) (s1, s2)) (shC (b1, b2) (e1, e2)) = slidesB L (s1, s2) (e1, e2) := by
    unfold slidesB sideB
    simp only [shC, d1, d2]
    rw [sw s1 b1 (e2 - s2), sw s2 b2 (e1 - s1), sw e1 b1 (e2 - s2), sw e2 b2 (e1 - s1), sw s1 b1 (-(e2 - s2)), sw s2 b2 (-(e1 - s1)), sw e1 b1 (-(e2 - s2)), sw e2 b2 (-(e1 - s1))]
    have q := fun x y => dec_sh (L := L) (b := (b1, b2)) x y
    simp only at q
    rw [q, q, q, q]
  have ht : turnsB (L.map (shC (b1, b2))) (shC (b1, b2) (s1, s2)) (shC (b1, b2) (e1, e2)) = turnsB L (s1, s2) (e1, e2) := by
    unfold turnsB
    have q := fun x y => dec_sh (L := L) (b := (b1, b2)) x y
    show (decide ((s1 + b1, e2 + b2) ∈ L.map (shC (b1, b2))) != decide ((e1 + b1, s2 + b2) ∈ L.map (shC (b1, b2)))) = _
    rw [q, q]
  have p1 : decide (shC (b1, b2) (s1, s2) ∈ L.map (shC (b1, b2))) = decide ((s1, s2) ∈ L) := by
    rw [Bool.eq_iff_iff, decide_eq_true_iff, decide_eq_true_iff]
    exact mem_sh
  have p2 : decide (shC (b1, b2) (e1, e2) ∈ L.map (shC (b1, b2))) = decide ((e1, e2) ∈ L) := by
    rw [Bool.eq_iff_iff, decide_eq_true_iff, decide_eq_true_iff]
    exact mem_sh
  have q1 : (shC (b1, b2) (e1, e2)).1 - (shC (b1, b2) (s1, s2)).1 = e1 - s1 := d1
  have q2 : (shC (b1, b2) (e1, e2)).2 - (shC (b1, b2) (s1, s2)).2 = e2 - s2 := d2
  unfold byPlace
  rw [hs, ht, p1, p2, q1, q2]
theorem kind_sh {L : List Cell} {b s e : Cell} : kindV (L.map (shC b)) (shC b s) (shC b e) = kindV L s e := by
  unfold kindV
  rw [byPlace_sh, without_sh, hangsB_sh]
theorem around_sh {b c : Cell} : aroundC (shC b c) = (aroundC c).map (shC b) := by
  obtain ⟨c1, c2⟩ := c
  obtain ⟨b1, b2⟩ := b
  simp [aroundC, shC]
  omega
theorem moves_sh {L : List Cell} {b : Cell} : movesC (L.map (shC b)) ((L.map (shC b)).filter fun c => hangsB (without (L.map (shC b)) c)) = (movesC L (L.filter fun c => hangsB (without L c))).map fun m => (shC b m.1, shC b m.2) := by
  have e1 : ((L.map (shC b)).filter fun c => hangsB (without (L.map (shC b)) c)) = (L.filter fun c => hangsB (without L c)).map (shC b) := by
    rw [List.filter_map]
    congr 1
    refine List.filter_congr fun x _ => ?_
    show hangsB (without (L.map (shC b)) (shC b x)) = _
    rw [without_sh, hangsB_sh]
  rw [e1]
  unfold movesC
  rw [List.flatMap_map, List.map_flatMap]
  congr 1
  funext s
  have e2 : endsC (L.map (shC b)) (shC b s) = (endsC L s).map (shC b) := by
    unfold endsC
    rw [around_sh, List.filter_map]
    congr 1
    refine List.filter_congr fun x _ => ?_
    show (!decide (byPlace (L.map (shC b)) (shC b s) (shC b x) = .non)) = _
    rw [byPlace_sh]
  rw [e2, List.map_map, List.map_map]
  rfl
theorem cLt_sh {b x y : Cell} : cLt (shC b x) (shC b y) = cLt x y := by
  unfold cLt shC
  rw [Bool.eq_iff_iff, decide_eq_true_iff, decide_eq_true_iff]
  simp only
  omega
theorem asc_sh {L : List Cell} {b : Cell} (h : Asc L) : Asc (L.map (shC b)) := by
  unfold Asc at h ⊢
  rw [List.pairwise_map]
  exact h.imp fun {x y} q => by rw [cLt_sh]; exact q
theorem nodup_sh {L : List Cell} {b : Cell} (h : L.Nodup) : (L.map (shC b)).Nodup := List.pairwise_map.mpr (h.imp fun {x y} q z => q (shC_inj z))
end Sq

set_option Elab.async false
set_option linter.all false
set_option maxRecDepth 100000
set_option maxHeartbeats 4000000
/-! moved; what the laws ask of cells and moves. -/
namespace Sq
open PySem PySem.Spec PyProof.Rows L2
/-- in, not in, for a cell and a tuple of cells -/
def rInT : R2 := fun x y H Q => ∃ (p t : Addr) (c : Cell) (L : List Cell), x = .ref p ∧ y = .ref t ∧ At H p c ∧ CellsT H t L ∧ Q (.bl (decide (c ∈ L))) H
def rOutT : R2 := fun x y H Q => ∃ (p t : Addr) (c : Cell) (L : List Cell), x = .ref p ∧ y = .ref t ∧ At H p c ∧ CellsT H t L ∧ Q (.bl (!decide (c ∈ L))) H
theorem op_inT {X : Cx} (hu : X.A.units + 64 < cLine) : OpR X (compareOp .In) rInT := by
  rintro pins s σ H x y v u Q I rx ry ⟨p, t, c, L, rfl, rfl, ap, ct, q⟩
  obtain ⟨as, r1⟩ := Dp.reads I (cD c) _ v ap.dp rx
  obtain ⟨bs, r2⟩ := Dp.reads I (.tuple (L.map cD)) _ u ct.dp ry
  have l1 := lay_cellH c
  refine SeqAt.in_tuple_reads r2 r1 (cells_canH L) l1.1 ?_ ⟨.bl _, H, I, rfl, ?_⟩
  · have m : min (PyData.depthAll (L.map cD)) (cD c).depth ≤ 1 := Nat.le_trans (Nat.min_le_right _ _) l1.2
    omega
  · rw [any_cellH]
    exact q
theorem op_outT {X : Cx} (hu : X.A.units + 64 < cLine) : OpR X (compareOp .NotIn) rOutT := by
  rintro pins s σ H x y v u Q I rx ry ⟨p, t, c, L, rfl, rfl, ap, ct, q⟩
  obtain ⟨as, r1⟩ := Dp.reads I (cD c) _ v ap.dp rx
  obtain ⟨bs, r2⟩ := Dp.reads I (.tuple (L.map cD)) _ u ct.dp ry
  have l1 := lay_cellH c
  refine SeqAt.notIn_tuple_reads r2 r1 (cells_canH L) l1.1 ?_ ⟨.bl _, H, I, rfl, ?_⟩
  · have m : min (PyData.depthAll (L.map cD)) (cD c).depth ≤ 1 := Nat.le_trans (Nat.min_le_right _ _) l1.2
    omega
  · rw [any_cellH]
    exact q
/-- an own error is on its way -/
def WayS (H : Hp) (C : Addr) (fs : List (Str × V)) (E : XK) : Prop := ∀ (dd : Addr) (H' : Hp), Same H H' → H dd = none → H' dd = some (.xd fs) → E (.ref C) (some dd) H'
theorem WayS.from {H G : Hp} {C : Addr} {fs : List (Str × V)} {E : XK} (h : WayS H C fs E) (k : Same H G) : ∀ d, G d = none → E (.ref C) (some d) (upd G d (.xd fs)) := fun d hd =>
  h d _ (k.trans (same_new hd)) (k.free hd) upd_same
/-- moved(body, by) -/
def spMoved (K : PySem.W.Frag) (CB : Addr) : Sp := fun vs H Q E => ∃ (t : Addr) (L : List Cell) (y : V), vs = [.ref t, y] ∧ CellsT H t L ∧ L.Nodup ∧ L.length ≤ 1000 ∧
  ((CellQ K H y false ∧ WayS H CB [("cell", y)] E) ∨ (∃ q b, y = .ref q ∧ At H q b ∧ ∀ r H', Same H H' → CellsT H' r (L.map (shC b)) → Q (.ref r) H'))
/-- _law_t2_by(cell, by) -/
def spLBy : Sp := fun vs H Q _ => ∃ (p q : Addr) (c b : Cell), vs = [.ref p, .ref q] ∧ At H p c ∧ At H q b ∧ ∀ r, H r = none → Q (.ref r) (upd H r (.tup (cV (shC b c))))
section
variable {P : Program} {w : World} {K : PySem.W.Frag} {mg : Str → Option Value} {base : Heap}
theorem scMo : FnScope ["body", "by", "shift", "square"] ["body", "by"] (defScope gMoved) := ⟨rfl, rfl, rfl, by decide +kernel, rfl, by decide +kernel, by decide +kernel⟩
theorem ok_moved {f CB : Addr} {fd : FuncData} (F : FnP K "moved" gMoved f fd) (B : Bl mg) (Dc : Df P w K mg base (L2.CX P w) 3 "checked_cell" ["value"] (spChecked K CB)) (Dl : Df P w K mg base CX0 2 "lot_of" ["cells"] spLot) (Ds : Df P w K mg base CX0 1 "shifted" ["cell", "by"] spShifted) :
    FnOk P w K mg base (L2.CX P w) 4 f fd ["body", "by"] (spMoved K CB) := by
  refine F.ok scMo (fun vs H Q E h => ?_) (fun cdv A outer s H vs Q E hr h => ?_)
  · obtain ⟨t, L, y, rfl, _⟩ := h
    rfl
  · obtain ⟨t, L, y, rfl, ct, nL, lL, ways⟩ := h
    refine ⟨_, pss_cons (ps_set (i := 2) scMo.nd rfl (.inr rfl) (pe_df Dc hr (by rfl) (passes_call (takes_of rfl rfl rfl rfl) (fun _ _ _ _ h => h)) (pa_cons (pv 1) pa_nil)))
      (pss_one (ps_ret (pe_tupleOf (by rfl) B.tuple (pe_lc (own := [("square", 3)]) (g := gName 3) (tt := tYes) rfl scMo.nd (pi_keys (pe_freeze (pe_df Dl hr (by rfl) pass0 (pa_cons (pv 0) pa_nil)))) (blkOk_by (N := ["body", "by", "shift", "square"]) (sc := defScope gMoved) (by decide +kernel)) (fun _ _ _ _ _ => pg_name (i := 3) scMo.nd rfl (Or.inl rfl)) (fun _ _ _ _ _ => pts_nil) (fun _ _ _ _ _ => (pe_df Ds hr (by rfl) pass0 (pa_cons (pv 3) (pa_cons (pv 2) pa_nil)))))))), ?_⟩
    refine ⟨_, rfl, y, rfl, ?_⟩
    rcases ways with ⟨cy, go⟩ | ⟨q, b, rfl, aq, k⟩
    · exact .inr ⟨cy, go.from same_refl⟩
    refine .inl ⟨q, b, rfl, aq, fun q1 hq1 => ?_⟩
    have s1 := same_new (o := .tup (cV b)) hq1
    have a1 : At (upd H q1 (.tup (cV b))) q1 b := upd_same
    refine ⟨_, rfl, t, L, rfl, ct.ek (.of s1), nL, lL, fun d H2 s2 hd ed => ?_⟩
    refine ⟨d, _, rfl, ed, trivial, fun od => ?_⟩
    refine ⟨d, od, rfl, .inr ⟨_, upd_same, fun D hD => ?_⟩⟩
    have s12 := s1.trans s2
    have hdH : H d = none := s1.free hd
    have nDd : D ≠ d := fun z => by rw [z, upd_same] at hD; cases hD
    have hD2 : H2 D = none := by rw [upd_ne nDd] at hD; exact hD
    have tkf : Tk H2 (upd H2 d (.frz od (.dT (lotK L)))) := tk_upd ed fun _ z => nomatch z
    refine lc_cells walk_keysT hD (fun i => (L.take i).map (shC b)) rfl (by rw [lot_len]; omega) (fun i G _ sm => sm _ _ upd_same) ?_ ?_
    · rintro i x G G' K1 K0 hi sm ⟨rfl, ky, v, p, hk, rfl, hp⟩ k1 k0
      obtain ⟨c, hc, ek⟩ : ∃ c, L[i]? = some c ∧ (cK c, V.bl true) = (ky, v) := by
        unfold lotK at hk
        rw [List.getElem?_map] at hk
        exact Option.map_eq_some_iff.mp hk
      cases ek
      have ac : At G' p c := hp
      have ab : At G' q1 b := sm _ _ (At.tk (s2 _ _ a1) tkf)
      refine ⟨rfl, yesT ⟨_, rfl, _, rfl, p, q1, c, b, rfl, ac, ab, fun r hr' => ?_⟩⟩
      exact k1 r (shC b c) _ (same_new hr') upd_same (by rw [take_snoc hc, List.map_append]; rfl)
    · rintro G rs sm gD pr
      rw [lot_len, List.take_length] at pr
      refine .inl ⟨D, _, rfl, SqL.of gD, fun u hu' => ?_⟩
      have s3 := same_new (o := .tup (rs.map V.ref)) hu'
      refine k u _ (fun x o e => s3 _ _ (sm _ _ ?_)) ⟨rs, upd_same, paired_imp (fun _ _ h => s3 _ _ h) pr⟩
      rw [upd_ne (fun z => by rw [z, hdH] at e; cases e)]
      exact s12 _ _ e
end
theorem eqv_nilT (ds : List PyData) : PyData.eqv (.tuple ds) (.tuple []) = decide (ds = []) := by
  cases ds with
  | nil => rfl
  | cons x xs => rw [decide_eq_false (by simp)]; rfl
theorem lay_pairsT {ms : List CellP} : Lay 3 (.tuple (ms.map pD)) := lay_tuple fun d hd => by
  obtain ⟨m, _, rfl⟩ := List.mem_map.mp hd
  exact lay_pD m
theorem lay_cellsT7 {cs : List Cell} : Lay 2 (.tuple (cs.map cD)) := lay_tuple fun d hd => by
  obtain ⟨c, _, rfl⟩ := List.mem_map.mp hd
  exact lay_cellH c
theorem eqv_self {n : Nat} {d : PyData} (h : Lay n d) (k : n ≤ 64 := by decide) : PyData.eqv d d = true := SeqAt.eqv_refl _ (SeqAt.canLay_of_shaped (h.shaped k))
end Sq

set_option Elab.async false
set_option linter.all false
set_option maxRecDepth 100000
set_option maxHeartbeats 4000000
/-! checked_lot of cells; parts_of. -/
namespace Sq
open PySem PySem.Spec PyProof.Rows L2
/-- checked_lot of cells, as a list or a tuple, in any order, also twice -/
def spCLot : Sp := fun vs H Q _ => ∃ (a : Addr) (cs : List Cell), vs = [.ref a] ∧ (CellsL H a cs ∨ CellsT H a cs) ∧ cs.length ≤ 1000 ∧ ∀ d H', Same H H' → H d = none → H' d = some (.dT (lotK (uniq cs))) → Q (.ref d) H'
/-- t holds a tuple of tuples of these cells -/
def CellsTT (H : Hp) (t : Addr) (ps : List (List Cell)) : Prop := ∃ ts : List Addr, H t = some (.tup (ts.map V.ref)) ∧ Paired (fun t p => CellsT H t p) ts ps
def spPartsOf : Sp := fun vs H Q _ => ∃ (a : Addr) (cs : List Cell), vs = [.ref a] ∧ (CellsL H a cs ∨ CellsT H a cs) ∧ cs.length ≤ 1000 ∧ ∀ t H' ps, Same H H' → CellsTT H' t ps → ps.length ≤ cs.length → IsParts cs ps → Q (.ref t) H'
/-- between two cells -/
structure Po (H : Hp) (cs S : List Cell) (dl mt pl so : Addr) (i : Nat) (M : List Cell) (ps : List (List Cell)) (G : Hp) : Prop where
  same : Same H G
  gl : G dl = some (.dT (lotK (uniq cs)))
  gm : G mt = some (.dT (lotK M))
  gp : CellsLL G pl ps
  gs : CellsL G so S
  nd : M.Nodup
  mem : ∀ x, x ∈ M ↔ ∃ p ∈ ps, x ∈ p
  asc : ∀ p ∈ ps, Asc p ∧ p.Nodup ∧ p ≠ []
  cls : ∀ p ∈ ps, ∀ x ∈ p, x ∈ cs ∧ ∀ y, y ∈ p ↔ Reach cs x y
  cov : ∀ x ∈ S.take i, ∃ p ∈ ps, x ∈ p
  hed : ∀ p ∈ ps, ∃ a, p.head? = some a ∧ a ∈ S.take i
  ord : ps.Pairwise fun p q => ∃ a b, p.head? = some a ∧ q.head? = some b ∧ cLt a b = true
  few : ps.length ≤ i
theorem reach_uniq {cs : List Cell} {a b : Cell} : Reach (uniq cs) a b ↔ Reach cs a b := by
  constructor
  · intro k
    induction k with
    | refl => exact .refl
    | step _ hb hc ih => exact ih.step hb (uniq_mem.mp hc)
  · intro k
    induction k with
    | refl => exact .refl
    | step _ hb hc ih => exact ih.step hb (uniq_mem.mpr hc)
section
variable {P : Program} {w : World} {K : PySem.W.Frag} {mg : Str → Option Value} {base : Heap}
end
end Sq

set_option Elab.async false
set_option linter.all false
set_option maxRecDepth 100000
set_option maxHeartbeats 4000000
/-! is_move_in: whether a pair of a plan is a move. -/
namespace Sq
open PySem PySem.Spec PyProof.Rows L2
/-- a value: a cell, or none -/
def CellO (K : PySem.W.Frag) (H : Hp) (x : V) : Option Cell → Prop
  | none => CellQ K H x false
  | some c => ∃ p, x = .ref p ∧ At H p c
theorem CellO.ek {K : PySem.W.Frag} {H G : Hp} {x : V} {o : Option Cell} (h : CellO K H x o) (k : Ek H G) : CellO K G x o := by
  cases o with
  | none => exact CellQ.ek (show CellQ K H x false from h) k
  | some c =>
    obtain ⟨p, e, a⟩ := h
    exact ⟨p, e, k.at a⟩
/-- what is_cell says of it -/
theorem CellO.q {K : PySem.W.Frag} {H : Hp} {x : V} {o : Option Cell} (h : CellO K H x o) : CellQ K H x o.isSome := by
  cases o with
  | none => exact h
  | some c =>
    obtain ⟨p, rfl, a⟩ := h
    exact .cell a
abbrev MvO := Option Cell × Option Cell
/-- a pair of a plan -/
def MvAt (K : PySem.W.Frag) (H : Hp) (q : Addr) (m : MvO) : Prop := ∃ x y, H q = some (.tup [x, y]) ∧ CellO K H x m.1 ∧ CellO K H y m.2
theorem MvAt.ek {K : PySem.W.Frag} {H G : Hp} {q : Addr} {m : MvO} (h : MvAt K H q m) (k : Ek H G) : MvAt K G q m := by
  obtain ⟨x, y, e, a, b⟩ := h
  exact ⟨x, y, k.tup e, a.ek k, b.ek k⟩
/-- whether it is a move -/
noncomputable def moveB (L : List Cell) : MvO → Bool
  | (some a, some b) => !decide (kindV L a b = .non)
  | _ => false
def spMoveIn (K : PySem.W.Frag) (Ts : List Addr) : Sp := fun vs H Q _ => ∃ (d q : Addr) (L : List Cell) (m : MvO), vs = [.ref d, .ref q] ∧ H d = some (.dT (lotK L)) ∧ L.Nodup ∧ L.length ≤ 1000 ∧ Hangs L ∧ MvAt K H q m ∧ TabsG Ts H ∧ ∀ H', KT Ts H H' → Q (.bl (moveB L m)) H'
section
variable {P : Program} {w : World} {K : PySem.W.Frag} {mg : Str → Option Value} {base : Heap} {Ts : List Addr}
end
end Sq

set_option Elab.async false
set_option linter.all false
set_option maxRecDepth 100000
set_option maxHeartbeats 4000000
/-! first_wrong. -/
namespace Sq
open PySem PySem.Spec PyProof.Rows L2
/-- the lot behind a pair -/
def stepC (L : List Cell) : MvO → List Cell
  | (some a, some b) => without L a ++ [b]
  | _ => L
/-- the lot ahead of the pair at i -/
def lotAt (L : List Cell) (ms : List MvO) (i : Nat) : List Cell := (ms.take i).foldl stepC L
theorem lotAt_succ {L : List Cell} {ms : List MvO} {i : Nat} {m : MvO} (h : ms[i]? = some m) : lotAt L ms (i + 1) = stepC (lotAt L ms i) m := by
  unfold lotAt
  rw [take_snoc h, List.foldl_append]
  rfl
theorem step_ok {L : List Cell} {m : MvO} (nL : L.Nodup) (h : moveB L m = true) : ∃ a b, m = (some a, some b) ∧ kindV L a b ≠ .non ∧ Hangs (stepC L m) ∧ (stepC L m).Nodup ∧ (stepC L m).length = L.length := by
  obtain ⟨o1, o2⟩ := m
  cases o1 with
  | none => cases h
  | some a =>
    cases o2 with
    | none => cases h
    | some b =>
      have kn : kindV L a b ≠ .non := by simpa [moveB] using h
      exact ⟨a, b, rfl, kn, behind nL kn (.refl _)⟩
/-- none of the first n pairs is wrong -/
def GoodTo (L : List Cell) (ms : List MvO) (n : Nat) : Prop := ∀ j m, j < n → ms[j]? = some m → moveB (lotAt L ms j) m = true
def WrongIs (L : List Cell) (ms : List MvO) : Option Nat → Prop
  | none => GoodTo L ms ms.length
  | some i => GoodTo L ms i ∧ ∃ m, ms[i]? = some m ∧ moveB (lotAt L ms i) m = false
theorem good_lot {L : List Cell} {ms : List MvO} (nL : L.Nodup) (hL : Hangs L) : ∀ {n : Nat}, n ≤ ms.length → GoodTo L ms n → Hangs (lotAt L ms n) ∧ (lotAt L ms n).Nodup ∧ (lotAt L ms n).length = L.length
  | 0, _, _ => ⟨hL, nL, rfl⟩
  | n + 1, hn, g => by
    obtain ⟨h1, h2, h3⟩ := good_lot nL hL (n := n) (by omega) fun j m hj hm => g j m (by omega) hm
    have hm : ms[n]? = some ms[n] := List.getElem?_eq_getElem (by omega)
    obtain ⟨a, b, _, _, q1, q2, q3⟩ := step_ok h2 (g n _ (Nat.lt_succ_self n) hm)
    rw [lotAt_succ hm]
    exact ⟨q1, q2, by rw [q3, h3]⟩
def oV : Option Nat → V
  | none => .non
  | some i => .int (i : Int)
/-- a plan: a list or a tuple of pairs -/
def PlanAt (K : PySem.W.Frag) (H : Hp) (pl : Addr) (ms : List MvO) : Prop := ∃ qs : List Addr, (H pl = some (.lst (qs.map V.ref)) ∨ H pl = some (.tup (qs.map V.ref))) ∧ Paired (fun q m => MvAt K H q m) qs ms
theorem PlanAt.ek {K : PySem.W.Frag} {H G : Hp} {pl : Addr} {ms : List MvO} (h : PlanAt K H pl ms) (k : Ek H G) : PlanAt K G pl ms := by
  obtain ⟨qs, e, pr⟩ := h
  exact ⟨qs, e.elim (fun e => .inl (k.lst e)) fun e => .inr (k.tup e), paired_imp (fun _ _ h => h.ek k) pr⟩
def spFirstWrong (K : PySem.W.Frag) (Ts : List Addr) : Sp := fun vs H Q _ => ∃ (t pl : Addr) (L : List Cell) (ms : List MvO), vs = [.ref t, .ref pl] ∧ CellsT H t L ∧ L.Nodup ∧ L.length ≤ 1000 ∧ Hangs L ∧ PlanAt K H pl ms ∧ ms.length ≤ 100000 ∧ TabsG Ts H ∧ ∀ H' o, KT Ts H H' → WrongIs L ms o → Q (oV o) H'
section
variable {P : Program} {w : World} {K : PySem.W.Frag} {mg : Str → Option Value} {base : Heap} {Ts : List Addr}
end
end Sq

set_option Elab.async false
set_option linter.all false
set_option maxRecDepth 100000
set_option maxHeartbeats 4000000
/-! checked_moves. -/
namespace Sq
open PySem PySem.Spec PyProof.Rows L2
/-- the pairs of cells of a plan -/
def cellsOf (ms : List MvO) : List CellP := ms.filterMap fun m => match m with
  | (some a, some b) => some (a, b)
  | _ => none
theorem cellsOf_snoc {ms : List MvO} {i : Nat} {a b : Cell} (h : ms[i]? = some (some a, some b)) : cellsOf (ms.take (i + 1)) = cellsOf (ms.take i) ++ [(a, b)] := by
  unfold cellsOf
  rw [take_snoc h, List.filterMap_append]
  rfl
def spCheckedM (K : PySem.W.Frag) (Ts : List Addr) (CN : Addr) : Sp := fun vs H Q E => ∃ (t pl : Addr) (L : List Cell) (ms : List MvO), vs = [.ref t, .ref pl] ∧ CellsT H t L ∧ L.Nodup ∧ L.length ≤ 1000 ∧ Hangs L ∧ PlanAt K H pl ms ∧ ms.length ≤ 100000 ∧ TabsG Ts H ∧
  (∀ i, WrongIs L ms (some i) → Way Ts H CN [("witness", .int (i : Int)), ("promise", .str "plan")] E) ∧ (GoodTo L ms ms.length → ∀ l H', KT Ts H H' → H l = none → PairsL H' l (cellsOf ms) → Q (.ref l) H')
section
variable {P : Program} {w : World} {K : PySem.W.Frag} {mg : Str → Option Value} {base : Heap} {Ts : List Addr}
end
end Sq

set_option Elab.async false
set_option linter.all false
set_option maxRecDepth 100000
set_option maxHeartbeats 4000000
/-! bodies_behind, bodies_of, end_of. -/
namespace Sq
open PySem PySem.Spec PyProof.Rows L2
theorem cellsT_tu {H G : Hp} {t : Addr} {L : List Cell} (h : CellsT H t L) (k : ∀ b xs, H b = some (.tup xs) → G b = some (.tup xs)) : CellsT G t L := by
  obtain ⟨qs, e, pr⟩ := h
  exact ⟨qs, k _ _ e, paired_imp (fun _ _ a => k _ _ a) pr⟩
theorem upd_tu {G : Hp} {d : Addr} {o o' : HO} (hd : G d = some o) (n : ∀ xs, o ≠ .tup xs) : ∀ b xs, G b = some (.tup xs) → upd G d o' b = some (.tup xs) := fun b xs e => by
  rw [upd_ne (fun z => by rw [z, hd] at e; exact n xs (Option.some.inj e))]
  exact e
/-- the bodies of a plan, up to the n-th -/
def BsOk (L : List Cell) (ms : List MvO) (n : Nat) (Bs : List (List Cell)) : Prop := Bs.length = n + 1 ∧ ∀ j B, Bs[j]? = some B → B.Perm (lotAt L ms j) ∧ Asc B
theorem BsOk.snoc {L B : List Cell} {ms : List MvO} {n : Nat} {Bs : List (List Cell)} (h : BsOk L ms n Bs) (p : B.Perm (lotAt L ms (n + 1))) (a : Asc B) : BsOk L ms (n + 1) (Bs ++ [B]) := by
  refine ⟨by rw [List.length_append, h.1]; rfl, fun j X e => ?_⟩
  by_cases hj : j < Bs.length
  · rw [List.getElem?_append_left hj] at e
    exact h.2 j X e
  · have hj' : j = Bs.length := by
      have := (List.getElem?_eq_some_iff.mp e).1
      rw [List.length_append] at this
      have : j < Bs.length + 1 := this
      omega
    subst hj'
    rw [List.getElem?_append_right (Nat.le_refl _), Nat.sub_self] at e
    have := Option.some.inj e
    subst this
    rw [h.1]
    exact ⟨p, a⟩
/-- a good plan's pairs are cells -/
theorem cells_get {L : List Cell} {ms : List MvO} (nL : L.Nodup) (hL : Hangs L) (g : GoodTo L ms ms.length) : (cellsOf ms).map (fun c => ((some c.1, some c.2) : MvO)) = ms := by
  have all : ∀ n, n ≤ ms.length → (cellsOf (ms.take n)).map (fun c => ((some c.1, some c.2) : MvO)) = ms.take n := by
    intro n
    induction n with
    | zero => intro _; rfl
    | succ n ih =>
      intro hn
      have hm : ms[n]? = some ms[n] := List.getElem?_eq_getElem (by omega)
      obtain ⟨h1, h2, h3⟩ := good_lot nL hL (n := n) (by omega) fun u v hu hv => g u v (by omega) hv
      obtain ⟨a, b, e, _⟩ := step_ok h2 (g n _ (by omega) hm)
      rw [e] at hm
      rw [cellsOf_snoc hm, List.map_append, ih (by omega), take_snoc hm]
      rfl
  have := all ms.length (Nat.le_refl _)
  rwa [List.take_length] at this
def spBehind : Sp := fun vs H Q _ => ∃ (t ml : Addr) (L : List Cell) (ms : List MvO), vs = [.ref t, .ref ml] ∧ CellsT H t L ∧ L.Nodup ∧ L.length ≤ 1000 ∧ Hangs L ∧ PairsL H ml (cellsOf ms) ∧ ms.length ≤ 100000 ∧ GoodTo L ms ms.length ∧
  ∀ l H' Bs, Same H H' → H l = none → CellsLL H' l Bs → BsOk L ms ms.length Bs → Q (.ref l) H'
section
variable {P : Program} {w : World} {K : PySem.W.Frag} {mg : Str → Option Value} {base : Heap} {Ts : List Addr}
end
end Sq

set_option Elab.async false
set_option linter.all false
set_option maxRecDepth 100000
set_option maxHeartbeats 4000000
/-! bodies_of, end_of. -/
namespace Sq
open PySem PySem.Spec PyProof.Rows L2
def PlanQ (K : PySem.W.Frag) (Ts : List Addr) (CN : Addr) (H : Hp) (E : XK) (t pl : Addr) (L : List Cell) (ms : List MvO) : Prop := CellsT H t L ∧ L.Nodup ∧ L.length ≤ 1000 ∧ Hangs L ∧ PlanAt K H pl ms ∧ ms.length ≤ 100000 ∧ TabsG Ts H ∧
  (∀ i, WrongIs L ms (some i) → Way Ts H CN [("witness", .int (i : Int)), ("promise", .str "plan")] E)
def spBodiesOf (K : PySem.W.Frag) (Ts : List Addr) (CN : Addr) : Sp := fun vs H Q E => ∃ (t pl : Addr) (L : List Cell) (ms : List MvO), vs = [.ref t, .ref pl] ∧ PlanQ K Ts CN H E t pl L ms ∧
  (GoodTo L ms ms.length → ∀ u H' Bs, KT Ts H H' → CellsTT H' u Bs → BsOk L ms ms.length Bs → Q (.ref u) H')
def spEndOf (K : PySem.W.Frag) (Ts : List Addr) (CN : Addr) : Sp := fun vs H Q E => ∃ (t pl : Addr) (L : List Cell) (ms : List MvO), vs = [.ref t, .ref pl] ∧ PlanQ K Ts CN H E t pl L ms ∧
  (GoodTo L ms ms.length → ∀ u H' B, KT Ts H H' → CellsT H' u B → B.Perm (lotAt L ms ms.length) → Asc B → Q (.ref u) H')
section
variable {P : Program} {w : World} {K : PySem.W.Frag} {mg : Str → Option Value} {base : Heap} {Ts : List Addr}
end
end Sq

set_option Elab.async false
set_option linter.all false
set_option maxRecDepth 100000
set_option maxHeartbeats 4000000
/-! The law's first_wrong. -/
namespace Sq
open PySem PySem.Spec PyProof.Rows L2
theorem hangsB_cong {L M : List Cell} (h : ∀ x, x ∈ L ↔ x ∈ M) : hangsB L = hangsB M := by
  rw [Bool.eq_iff_iff, hangsB_iff, hangsB_iff]
  exact hangs_perm h
def byF (s e : Cell) (f : Cell → Bool) : V :=
  if f s = false ∨ f e = true then .non
  else if absI (e.1 - s.1) + absI (e.2 - s.2) = 1 then (if ((f (s.1 + (e.2 - s.2), s.2 + (e.1 - s.1)) && f (e.1 + (e.2 - s.2), e.2 + (e.1 - s.1))) || (f (s.1 + -(e.2 - s.2), s.2 + -(e.1 - s.1)) && f (e.1 + -(e.2 - s.2), e.2 + -(e.1 - s.1)))) = true then .str "slide" else .non)
  else if absI (e.1 - s.1) = 1 ∧ absI (e.2 - s.2) = 1 then (if (f (s.1, e.2) != f (e.1, s.2)) = true then .str "turn" else .non) else .non
theorem byPlace_cong {L M : List Cell} {s e : Cell} (h : ∀ x, x ∈ L ↔ x ∈ M) : byPlace L s e = byPlace M s e := by
  have hf : (fun c => decide (c ∈ L)) = (fun c => decide (c ∈ M)) := funext fun c => by
    rw [Bool.eq_iff_iff, decide_eq_true_iff, decide_eq_true_iff]
    exact h c
  have key : ∀ L, byPlace L s e = byF s e (fun c => decide (c ∈ L)) := fun _ => rfl
  rw [key L, key M, hf]
theorem kindV_cong {L M : List Cell} {s e : Cell} (h : ∀ x, x ∈ L ↔ x ∈ M) : kindV L s e = kindV M s e := by
  unfold kindV
  rw [byPlace_cong h, hangsB_cong (L := without L s) (M := without M s) fun x => by rw [mem_without, mem_without, h]]
theorem without_perm {L M : List Cell} (h : L.Perm M) (c : Cell) : (without L c).Perm (without M c) := h.filter _
def spLFw (K : PySem.W.Frag) : Sp := fun vs H Q _ => ∃ (t pl : Addr) (L : List Cell) (ms : List MvO) (qs : List Addr), vs = [.ref t, .ref pl] ∧ CellsT H t L ∧ L.Nodup ∧ Asc L ∧ L.length ≤ 1000 ∧ Hangs L ∧ H pl = some (.lst (qs.map V.ref)) ∧ Paired (fun q m => MvAt K H q m) qs ms ∧ ms.length ≤ 100000 ∧
  ∀ u H' bl Bs o, Same H H' → H' u = some (.tup [oV o, .ref bl]) → CellsLL H' bl Bs → WrongIs L ms o → BsOk L ms (o.getD ms.length) Bs → Q (.ref u) H'
section
variable {P : Program} {w : World} {K : PySem.W.Frag} {mg : Str → Option Value} {base : Heap} {Ts : List Addr}
end
end Sq

set_option Elab.async false
set_option linter.all false
set_option maxRecDepth 100000
set_option maxHeartbeats 4000000
/-! What the law asks of bodies_of and end_of. -/
namespace Sq
open PySem PySem.Spec PyProof.Rows L2
def bodsD (ps : List (List Cell)) : PyData := .tuple (ps.map fun p => .tuple (p.map cD))
theorem bods_dps {K : PySem.W.Frag} {H : Hp} : ∀ {ts : List Addr} {ps : List (List Cell)}, Paired (fun t p => CellsT H t p) ts ps → DpAll K H (ts.map V.ref) (ps.map fun p => .tuple (p.map cD))
  | _, _, .nil => .nil
  | _, _, .cons h t => .cons h.dp (bods_dps t)
theorem bods_dp {K : PySem.W.Frag} {H : Hp} {t : Addr} {ps : List (List Cell)} (h : CellsTT H t ps) : Dp K H (.ref t) (bodsD ps) := by
  obtain ⟨ts, e, pr⟩ := h
  exact .tup (SqT.of e) (bods_dps pr)
/-- what is told of a plan -/
inductive OutP (w : Int) (L : List Cell) (ms : List MvO) : PyData → Prop where
  | bad {i : Nat} (h : WrongIs L ms (some i)) : OutP w L ms (.tuple [.str "not", .str "plan", .int (i : Int)])
  | all {Bs : List (List Cell)} (h : w = 0) (g : GoodTo L ms ms.length) (b : BsOk L ms ms.length Bs) : OutP w L ms (.tuple [.str "told", bodsD Bs])
  | fin {B : List Cell} (h : w ≠ 0) (g : GoodTo L ms ms.length) (p : B.Perm (lotAt L ms ms.length)) (a : Asc B) : OutP w L ms (.tuple [.str "told", .tuple (B.map cD)])
def spAskedP (K : PySem.W.Frag) (Ts : List Addr) : Sp := fun vs H Q _ => ∃ (w : Int) (t pl : Addr) (L : List Cell) (ms : List MvO), vs = [.int w, .ref t, .ref pl] ∧ CellsT H t L ∧ L.Nodup ∧ L.length ≤ 1000 ∧ Hangs L ∧ PlanAt K H pl ms ∧ ms.length ≤ 100000 ∧ TabsG Ts H ∧
  ∀ r H' o, KT Ts H H' → Dp K H' (.ref r) o → OutP w L ms o → Q (.ref r) H'
theorem wrong_or {L : List Cell} {ms : List MvO} : ∃ o, WrongIs L ms o := by
  by_cases g : GoodTo L ms ms.length
  · exact ⟨none, g⟩
  · have ex : ∃ n, n ≤ ms.length ∧ ¬ GoodTo L ms n := ⟨_, Nat.le_refl _, g⟩
    have low : ∀ n, n ≤ ms.length → ¬ GoodTo L ms n → ∃ i, WrongIs L ms (some i) := by
      intro n
      induction n with
      | zero => exact fun _ h => absurd (fun j m hj => absurd hj (Nat.not_lt_zero _)) h
      | succ n ih =>
        intro hn h
        by_cases g' : GoodTo L ms n
        · have hm : ms[n]? = some ms[n] := List.getElem?_eq_getElem (by omega)
          refine ⟨n, g', _, hm, ?_⟩
          cases e : moveB (lotAt L ms n) ms[n] with
          | false => rfl
          | true =>
            refine absurd (fun j m hj hm' => ?_) h
            rcases Nat.lt_succ_iff_lt_or_eq.mp hj with z | z
            · exact g' j m z hm'
            · subst z
              rw [hm] at hm'
              have := Option.some.inj hm'
              subst this
              exact e
        · exact ih (by omega) g'
    obtain ⟨i, h⟩ := low _ (Nat.le_refl _) g
    exact ⟨some i, h⟩
section
variable {P : Program} {w : World} {K : PySem.W.Frag} {mg : Str → Option Value} {base : Heap} {Ts : List Addr}
def tArgs2 : TA := tCons (tVar 1) (tCons (tVar 2) tNil)
def tToldP (K : PySem.W.Frag) (Ts : List Addr) (CN : Addr) (W : WX) : TS :=
  tAsg (tTup (tCons (tC (.str "told")) (tCons (tIf (tTest (tOp rEq (tVar 0) (tC (.int 0)))) (tCallS (spBodiesOf K Ts CN) (WE W) tArgs2) (tCallS (spEndOf K Ts CN) (WE W) tArgs2)) tNil))) (gName 3)
def tNot (C : Addr) : Su := fun a cls d => tAsg (tTup (tCons (tC (.str "not")) (tCons (tXf a cls d C "promise" (tVar 4)) (tCons (tXf a cls d C "witness" (tVar 4)) tNil)))) (gName 3)
end
end Sq

set_option Elab.async false
set_option linter.all false
set_option maxRecDepth 100000
set_option maxHeartbeats 4000000
/-! draw and pick again: the pen's list stays where it is. -/
namespace Sq
open PySem PySem.Spec PyProof.Rows L2
/-- a pen stands at p, its list at c, n numbers were drawn -/
structure PenC (H : Hp) (p c : Addr) (n : Nat) : Prop where
  ex : ∃ (zs : List Int) (i : Nat) (dg fo : Int), H p = some (.dK (penK c i dg n fo)) ∧ H c = some (.lst (zs.map V.int)) ∧ i ≤ zs.length ∧ zs.length ≤ 63 ∧ 0 ≤ dg ∧ 0 ≤ fo ∧ fo < 2147483648
theorem PenC.at {H : Hp} {p c : Addr} {n : Nat} (h : PenC H p c n) : PenAt H p n := ⟨⟨c, h.ex⟩⟩
theorem PenAt.c {H : Hp} {p : Addr} {n : Nat} (h : PenAt H p n) : ∃ c, PenC H p c n := by
  obtain ⟨c, r⟩ := h.ex
  exact ⟨c, ⟨r⟩⟩
theorem PenC.same {H H' : Hp} {p c : Addr} {n : Nat} (h : PenC H p c n) (k : Same H H') : PenC H' p c n := by
  obtain ⟨zs, i, dg, fo, e1, e2, r⟩ := h.ex
  exact ⟨⟨zs, i, dg, fo, k _ _ e1, k _ _ e2, r⟩⟩
/-- what is put elsewhere -/
theorem PenC.off {H : Hp} {p c q : Addr} {n : Nat} {o : HO} (h : PenC H p c n) (np : p ≠ q) (nc : c ≠ q) : PenC (upd H q o) p c n := by
  obtain ⟨zs, i, dg, fo, e1, e2, r⟩ := h.ex
  exact ⟨⟨zs, i, dg, fo, by rw [upd_ne np]; exact e1, by rw [upd_ne nc]; exact e2, r⟩⟩
theorem PenC.ne {H : Hp} {p c q : Addr} {n : Nat} (h : PenC H p c n) (hq : H q = none) : p ≠ q ∧ c ≠ q := by
  obtain ⟨zs, i, dg, fo, e1, e2, r⟩ := h.ex
  exact ⟨ne_of_none e1 hq, ne_of_none e2 hq⟩
def spDrawC : Sp := fun vs H Q _ => ∃ (p c : Addr) (n : Nat) (m : Int), vs = [.ref p, .int m] ∧ PenC H p c n ∧ 1 ≤ m ∧ m < 1073741824 ∧ n < 1000000 ∧
  ∀ (r : Int) (H' : Hp), 0 ≤ r → r < m → PenC H' p c (n + 1) → (∀ b, b ≠ p → H' b = H b) → Q (.int r) H'
def spPickC (K : PySem.W.Frag) : Sp := fun vs H Q _ => ∃ (p c l : Addr) (n : Nat) (xs : List V), vs = [.ref p, .ref l] ∧ PenC H p c n ∧ n < 1000000 ∧ (SqL K H l xs ∨ SqT K H l xs) ∧ 1 ≤ xs.length ∧ xs.length < 1073741824 ∧
  ∀ (i : Nat) (x : V) (H' : Hp), xs[i]? = some x → PenC H' p c (n + 1) → (∀ b, b ≠ p → H' b = H b) → Q x H'
section
variable {P : Program} {w : World} {K : PySem.W.Frag} {mg : Str → Option Value} {base : Heap}
theorem ok_drawC {f : Addr} {fd : FuncData} (F : FnP K "_law_draw" sDraw f fd) (gI : mg "int" = none) (gL : mg "len" = none) : FnOk P w K mg base CX0 1 f fd ["_law_pen_here", "_law_many"] spDrawC := by
  refine F.ok scD (fun vs H Q E h => ?_) (fun cdv A outer s H vs Q E hr h => ?_)
  · obtain ⟨p, c, n, m, rfl, _⟩ := h
    rfl
  · obtain ⟨p, c, n, m, rfl, ⟨zs, i, dg, fo, hp, hc, hi, hl, hd, f0, f1⟩, m1, m2, hn, k⟩ := h
    have hu := hu_of hr
    have cp : c ≠ p := ne_of hc hp (by intro z; cases z)
    -- what stands behind the first if
    obtain ⟨tt, htt, key⟩ : ∃ t, PSs (cxOf CX0 P w K mg base ["_law_pen_here", "_law_many", "_law_cell", "_law_digit", "_law_blend"] "_law_draw" (defScope sDraw) f cdv A outer s H E).nox ((defBody sDraw).drop 2) t ∧
        ∀ (D : Ends) (v : Option V) (i' : Nat) (dg' fo' : Int) (H1 : Hp), H1 p = some (.dK (penK c i' dg' ((n : Int) + 1) fo')) → H1 c = some (.lst (zs.map V.int)) → (∀ b, b ≠ p → H1 b = H b) → i' ≤ zs.length → 0 ≤ dg' → 0 ≤ fo' → fo' < 2147483648 →
          (∀ (r : Int) (H' : Hp), 0 ≤ r → r < m → PenC H' p c (n + 1) → (∀ b, b ≠ p → H' b = H b) → D.rt (.int r) H') → t D [some (.ref p), some (.int m), v, none, none] H1 := by
      refine ⟨_, pss_cons (ps_if (pt_cmpR op_gt (pe_dget hu (pv 0) pe_str (fun _ _ => rfl)) pe_int (nomark _))
        (pss_cons (ps_set (i := 3) scD.nd rfl (.inl rfl) (pe_op op_mod (pe_callTy call_int1 (by rfl) gI PyProof.Rows.boot_int (pa_cons (pe_dget hu (pv 0) pe_str (fun _ _ => rfl)) pa_nil)) (pv 1)))
        (pss_cons (ps_dput hu (pv 0) pe_str (pe_op op_fdiv (pe_dget hu (pv 0) pe_str (fun _ _ => rfl)) (pv 1)) rfl)
        (pss_one (ps_ret (pv 3)))))
        pss_nil)
        (pss_cons (ps_set (i := 4) scD.nd rfl (.inl rfl) (pe_op op_add (pe_op op_add (pe_dget hu (pv 0) pe_str (fun _ _ => rfl)) (pe_op op_mul (pe_dget hu (pv 0) pe_str (fun _ _ => rfl)) pe_int)) pe_int))
        (pss_one (ps_ret (pe_op op_mod (pe_op op_fdiv (pe_callTy call_int1 (by rfl) gI PyProof.Rows.boot_int (pa_cons (pe_op op_mod (pe_op op_pow (pv 4) pe_int) pe_int) pa_nil)) pe_int) (pv 1))))), ?_⟩
      intro D v i' dg' fo' H1 e1 e2 e3 h1 h2 h3 h4 kD
      refine ⟨_, rfl, p, _, rfl, dget_of e1 pen_dig, _, _, rfl, rfl, _, rfl, ?_⟩
      refine ite2 (fun hd => ?_) (fun hd => ?_)
      · refine ⟨_, rfl, p, _, rfl, dget_of e1 pen_dig, .inl ⟨_, rfl, _, rfl, _, _, rfl, rfl, (by show 0 < m; omega), ?_⟩⟩
        refine ⟨_, rfl, p, _, rfl, dget_of e1 pen_dig, _, rfl, _, _, rfl, rfl, ⟨by omega, m2⟩, _, rfl, p, _, rfl, dput_of e1 put_dig, ?_⟩
        refine ⟨_, rfl, ?_⟩
        refine kD _ _ (Int.emod_nonneg _ (by omega)) (Int.emod_lt_of_pos _ (by omega)) ⟨⟨zs, i', dg' / m, fo', ?_, ?_, h1, hl, Int.ediv_nonneg h2 (by omega), h3, h4⟩⟩ fun b hb => ?_
        · rw [upd_same]
          rfl
        · rw [upd_ne cp]
          exact e2
        · rw [upd_ne hb]
          exact e3 b hb
      · refine ⟨_, rfl, p, _, rfl, dget_of e1 pen_fold, _, rfl, p, _, rfl, dget_of e1 pen_cnt, _, _, rfl, rfl, .inr ⟨by decide, by decide⟩, _, _, rfl, rfl, _, _, rfl, rfl, ?_⟩
        refine ⟨_, rfl, _, _, rfl, rfl, ⟨by decide, by decide, ?_⟩, _, _, rfl, rfl, (by show (0 : Int) < 2305843009213693951; decide), .inl ⟨_, rfl, _, _, rfl, rfl, ⟨by decide, by decide⟩, _, rfl, _, _, rfl, rfl, (by show 0 < m; omega), ?_⟩⟩
        · show (fo' + ((n : Int) + 1) * 7907 + 37).natAbs < 18446744073709551616
          omega
        · exact kD _ _ (Int.emod_nonneg _ (by omega)) (Int.emod_lt_of_pos _ (by omega)) ⟨⟨zs, i', dg', fo', e1, e2, h1, hl, h2, h3, h4⟩⟩ e3
    refine ⟨_, PSs.nox (pss_cons (ps_dput hu (pv 0) pe_str (pe_op op_add (pe_dget hu (pv 0) pe_str (fun _ _ => rfl)) pe_int) rfl)
      (pss_cons (ps_if (PW.pt (pw_and (pt_cmpR op_eq (pe_dget hu (pv 0) pe_str (fun _ _ => rfl)) pe_int (nomark _)) (pw_and1 (pt_cmpR op_lt (pe_dget hu (pv 0) pe_str (fun _ _ => rfl)) (pe_callB call_len_seq (by rfl) gL PySem.boot_len (pa_cons (pe_dget hu (pv 0) pe_str (fun _ _ => rfl)) pa_nil)) (nomark _)))))
        (pss_cons (ps_set (i := 2) scD.nd rfl (.inl rfl) (pe_ix ix_list (pe_dget hu (pv 0) pe_str (fun _ _ => rfl)) (pe_dget hu (pv 0) pe_str (fun _ _ => rfl)) (fun _ _ => rfl)))
        (pss_cons (ps_dput hu (pv 0) pe_str (pe_op op_add (pe_dget hu (pv 0) pe_str (fun _ _ => rfl)) pe_int) rfl)
        (pss_one (ps_if (pt_cmpR op_ge (pv 2) (pe_op op_pow pe_int pe_int) (nomark _))
          (pss_one (ps_dput hu (pv 0) pe_str (pe_op op_sub (pv 2) (pe_op op_pow pe_int pe_int)) rfl))
          (pss_one (ps_dput hu (pv 0) pe_str (pe_op op_mod (pe_callTy call_int1 (by rfl) gI PyProof.Rows.boot_int (pa_cons (pe_op op_add (pe_op op_mul (pe_dget hu (pv 0) pe_str (fun _ _ => rfl)) pe_int) (pv 2)) pa_nil)) pe_int) rfl))))))
        pss_nil)
      htt)), ?_⟩
    refine ⟨_, rfl, p, _, rfl, dget_of hp pen_cnt, _, _, rfl, rfl, _, rfl, p, _, rfl, dput_of hp put_cnt, ?_⟩
    have hc1 : ∀ o, upd H p o c = some (.lst (zs.map V.int)) := fun o => by
      rw [upd_ne cp]
      exact hc
    have far : ∀ (o : HO) (b : Addr), b ≠ p → upd H p o b = H b := fun o b hb => upd_ne hb
    refine ⟨_, rfl, p, _, rfl, dget_of upd_same pen_dig, rfl, _, rfl, ?_⟩
    refine ite2 (fun _ => ?_) (fun _ => ?_)
    · refine ⟨_, rfl, p, _, rfl, dget_of upd_same pen_at, _, rfl, p, _, rfl, dget_of upd_same pen_cells, c, _, rfl, .inl (SqL.of (hc1 _)), _, _, rfl, rfl, _, rfl, ?_⟩
      refine ite2 (fun hlt => ?_) (fun _ => ?_)
      · have hlt' : (i : Int) < ((zs.map V.int).length : Int) := of_decide_eq_true hlt
        rw [List.length_map] at hlt'
        have hiz : i < zs.length := by omega
        have hat : atI (zs.map V.int) (i : Int) = some (.int zs[i]) := atI_nat (by rw [List.getElem?_map, List.getElem?_eq_getElem hiz]; rfl)
        refine ⟨_, rfl, p, _, rfl, dget_of upd_same pen_cells, _, rfl, p, _, rfl, dget_of upd_same pen_at, c, _, _, _, rfl, rfl, SqL.of (hc1 _), hat, ?_⟩
        refine ⟨_, rfl, p, _, rfl, dget_of upd_same pen_at, _, _, rfl, rfl, _, rfl, p, _, rfl, dput_of upd_same put_at, ?_⟩
        rw [upd_upd]
        refine ⟨_, rfl, _, _, rfl, rfl, ⟨by decide, by decide, by decide⟩, _, _, rfl, rfl, _, rfl, ?_⟩
        refine ite2 (fun hbig => ?_) (fun _ => ?_)
        · have hbig' : (10 : Int) ^ 18 ≤ zs[i] := of_decide_eq_true hbig
          refine ⟨_, rfl, _, _, rfl, rfl, ⟨by decide, by decide, by decide⟩, _, _, rfl, rfl, _, rfl, p, _, rfl, dput_of upd_same put_dig, ?_⟩
          rw [upd_upd]
          have e10 : (10 : Int) ^ 18 = 1000000000000000000 := by decide
          refine key _ _ (i + 1) _ fo _ upd_same (hc1 _) (far _) (by omega) ?_ f0 f1 k
          show 0 ≤ zs[i] - (10 : Int) ^ 18
          omega
        · refine ⟨_, rfl, p, _, rfl, dget_of upd_same pen_fold, _, _, rfl, rfl, .inr ⟨by decide, by decide⟩, _, rfl, _, _, rfl, rfl, .inl ⟨_, rfl, _, _, rfl, rfl, (by show (0 : Int) < 2147483587; decide), _, rfl, p, _, rfl, dput_of upd_same put_fold, ?_⟩⟩
          rw [upd_upd]
          refine key _ _ (i + 1) dg _ _ upd_same (hc1 _) (far _) (by omega) hd ?_ ?_ k
          · exact Int.emod_nonneg _ (by decide)
          · exact Int.lt_trans (Int.emod_lt_of_pos _ (by decide)) (by decide)
      · exact key _ _ i dg fo _ upd_same (hc1 _) (far _) hi hd f0 f1 k
    · exact key _ _ i dg fo _ upd_same (hc1 _) (far _) hi hd f0 f1 k
theorem ok_pickC {f : Addr} {fd : FuncData} (F : FnP K "_law_pick" sPick f fd) (DD : Df P w K mg base CX0 1 "_law_draw" ["_law_pen_here", "_law_many"] spDrawC) (gL : mg "len" = none) : FnOk P w K mg base CX0 2 f fd ["_law_pen_here", "_law_some"] (spPickC K) := by
  refine F.ok scK (fun vs H Q E h => ?_) (fun cdv A outer s H vs Q E hr h => ?_)
  · obtain ⟨p, c, l, n, xs, rfl, _⟩ := h
    rfl
  · obtain ⟨p, c, l, n, xs, rfl, hp, hn, hS, h1, h2, k⟩ := h
    obtain ⟨zs, i0, dg, fo, ep, _⟩ := hp.ex
    refine ⟨_, PSs.nox (pss_one (ps_ret (pe_ix (IxR.or ix_list ix_tup) (pv 1) (pe_df DD hr (by rfl) pass0 (pa_cons (pv 0) (pa_cons (pe_callB call_len_seq (by rfl) gL PySem.boot_len (pa_cons (pv 1) pa_nil)) pa_nil))) (fun _ _ => rfl)))), ?_⟩
    refine ⟨_, rfl, _, rfl, _, rfl, l, xs, rfl, hS, p, c, n, (xs.length : Int), rfl, hp, by omega, by omega, hn, fun r H' r0 r1 hp' hb => ?_⟩
    obtain ⟨j, rfl⟩ := Int.eq_ofNat_of_zero_le r0
    have hj : j < xs.length := by omega
    have hat : atI xs (j : Int) = some xs[j] := atI_nat (List.getElem?_eq_getElem hj)
    rcases hS with hS | hS
    · exact .inl ⟨l, xs, _, _, rfl, rfl, sqL_but ep hb hS, hat, k j _ H' (List.getElem?_eq_getElem hj) hp' hb⟩
    · exact .inr ⟨l, xs, _, _, rfl, rfl, sqT_but ep hb hS, hat, k j _ H' (List.getElem?_eq_getElem hj) hp' hb⟩
end
end Sq

set_option Elab.async false
set_option linter.all false
set_option maxRecDepth 100000
set_option maxHeartbeats 4000000
/-! The law's plans. -/
namespace Sq
open PySem PySem.Spec PyProof.Rows L2
/-- a comprehension that keeps some pairs of cells -/
theorem lc_sub {J : It} {n : Nat} {Gd : Hp → Prop} {Y : Nat → Hp → V → Hp → Prop} (w : Walk J n Gd Y) {g : TG} {tt : TT} {te : TE} {vs : List Nat} {σ : L2.St} {H1 : Hp} {D : Addr} {Qd : Hp → Prop} (hD : H1 D = none) (ok : CellP → Prop) (hn : n ≤ 1000000)
    (hG : ∀ i G, i ≤ n → Same H1 G → Gd G)
    (hs : ∀ i x G G' (K1 : V → Hp → Prop) (K0 : Hp → Prop), i < n → Same H1 G → Y i G x G' → (∀ r c H4, Same G H4 → PairAt H4 r c → ok c → K1 (.ref r) H4) → (∀ H3, Same G H3 → K0 H3) →
      g x (wipe σ vs) G' fun σ2 H2 => wipe σ2 vs = wipe σ vs ∧ tt σ2 H2 fun b H3 => if b = true then te σ2 H3 K1 else K0 H3)
    (hd : ∀ G rs cs, Same H1 G → G D = some (.lst (rs.map V.ref)) → rs.length ≤ n → Paired (fun q c => PairAt G q c) rs cs → (∀ c ∈ cs, ok c) → Qd G) :
    ∃ W : Nat → Nat → Hp → Prop, (∃ m, W 0 m (upd H1 D (.lst []))) ∧ ∀ i m H, W i m H →
      (J.stop i H ∧ Qd H) ∨ (J.go i H ∧ ∃ Nx : Hp → Prop, (∀ H', Nx H' → ∃ m', m' < m ∧ W (i + 1) m' H') ∧ ∀ x H', J.yld i H x H' → g x (wipe σ vs) H' fun σ2 H2 => wipe σ2 vs = wipe σ vs ∧ tt σ2 H2 fun b H3 =>
        if b = true then te σ2 H3 fun y H4 => ∃ acc, H4 D = some (.lst acc) ∧ acc.length < sizeLine ∧ Nx (upd H4 D (.lst (acc ++ [y]))) else Nx H3) := by
  refine lc_it w (fun i G => Same H1 G ∧ ∃ (rs : List Addr) (cs : List CellP), G D = some (.lst (rs.map V.ref)) ∧ rs.length ≤ i ∧ Paired (fun q c => PairAt G q c) rs cs ∧ ∀ c ∈ cs, ok c) ⟨same_put same_refl hD, [], [], upd_same, Nat.le_refl _, .nil, by simp⟩ (fun i G hi p => hG i G hi p.1) ?_ ?_
  · rintro i x G G' hi ⟨sm, rs, cs, gD, ln, pr, al⟩ y
    refine hs i x G G' _ _ hi sm y (fun r c H4 s4 a4 oc => ?_) (fun H3 s3 => ⟨sm.trans s3, rs, cs, s3 _ _ gD, Nat.le_succ_of_le ln, paired_imp (fun _ _ h => h.same s3) pr, al⟩)
    refine ⟨_, s4 _ _ gD, by rw [List.length_map, sizeLine_eq]; omega, same_put (sm.trans s4) hD, rs ++ [r], cs ++ [c], by rw [upd_same, List.map_append]; rfl, by rw [List.length_append]; exact Nat.succ_le_succ ln, ?_, fun z hz => ?_⟩
    · have off : ∀ {q : Addr} {c : CellP}, PairAt H4 q c → PairAt (upd H4 D (.lst (rs.map V.ref ++ [V.ref r]))) q c := fun h => h.off (s4 _ _ gD) (by intro xs z; cases z)
      exact (paired_imp (fun _ _ h => off (h.same s4)) pr).snoc (off a4)
    · rcases List.mem_append.mp hz with h | h
      · exact al z h
      · exact (List.mem_singleton.mp h) ▸ oc
  · rintro G ⟨sm, rs, cs, gD, ln, pr, al⟩
    exact hd G rs cs sm gD ln pr al
def mvO (c : CellP) : MvO := (some c.1, some c.2)
theorem lotAt_app {L : List Cell} {ms r : List MvO} {j : Nat} (h : j ≤ ms.length) : lotAt L (ms ++ r) j = lotAt L ms j := by
  unfold lotAt
  rw [List.take_append_of_le_length h]
theorem good_snoc {L : List Cell} {ms : List MvO} {m : MvO} (g : GoodTo L ms ms.length) (h : moveB (lotAt L ms ms.length) m = true) : GoodTo L (ms ++ [m]) (ms ++ [m]).length := fun j x hj hx => by
  rw [List.length_append] at hj
  have hj : j < ms.length + 1 := hj
  rw [lotAt_app (by omega)]
  by_cases c : j < ms.length
  · rw [List.getElem?_append_left c] at hx
    exact g j x c hx
  · have e : j = ms.length := by omega
    subst e
    rw [List.getElem?_append_right (Nat.le_refl _), Nat.sub_self] at hx
    have := Option.some.inj hx
    subst this
    exact h
theorem bs_snoc {L C : List Cell} {ms : List MvO} {m : MvO} {Bs : List (List Cell)} (h : BsOk L ms ms.length Bs) (p : C.Perm (stepC (lotAt L ms ms.length) m)) (a : Asc C) : BsOk L (ms ++ [m]) (ms ++ [m]).length (Bs ++ [C]) := by
  rw [List.length_append]
  refine BsOk.snoc ⟨h.1, fun j X e => ?_⟩ ?_ a
  · have hj : j < Bs.length := (List.getElem?_eq_some_iff.mp e).1
    rw [lotAt_app (by have := h.1; omega)]
    exact h.2 j X e
  · have e : lotAt L (ms ++ [m]) (ms.length + 1) = stepC (lotAt L (ms ++ [m]) ms.length) m := lotAt_succ (by rw [List.getElem?_append_right (Nat.le_refl _), Nat.sub_self]; rfl)
    rw [e, lotAt_app (Nat.le_refl _)]
    exact p
theorem lay_pairsL {ms : List CellP} : Lay 3 (.list (ms.map pD)) := lay_list fun d hd => by
  obtain ⟨m, _, rfl⟩ := List.mem_map.mp hd
  exact lay_pD m
def spLPlan : Sp := fun vs H Q _ => ∃ (p t : Addr) (n many : Nat) (L : List Cell), vs = [.ref p, .ref t, .int (many : Int)] ∧ PenAt H p n ∧ n ≤ 100000 ∧ many ≤ 20 ∧ CellsT H t L ∧ L.Nodup ∧ Asc L ∧ L.length ≤ 1000 ∧ Hangs L ∧
  ∀ u H' pl bl ps Bs n', PenAt H' p n' → n' ≤ n + 2 * many → Kp [p] H H' → H' u = some (.tup [.ref pl, .ref bl]) → PairsL H' pl ps → ps.length ≤ many → CellsLL H' bl Bs → GoodTo L (ps.map mvO) (ps.map mvO).length → BsOk L (ps.map mvO) (ps.map mvO).length Bs → Q (.ref u) H'
end Sq

set_option Elab.async false
set_option linter.all false
set_option maxRecDepth 100000
set_option maxHeartbeats 8000000
/-! The law's beside, moved, hangs (the w-family). -/
namespace Sq
open PySem PySem.Spec PyProof.Rows L2
noncomputable def wHangs (cs : List Cell) : Bool := decide (cs = []) || hangsB cs
def spWHangs : Sp := fun vs H Q _ => ∃ (a : Addr) (cs : List Cell), vs = [.ref a] ∧ CellsL H a cs ∧ cs.Nodup ∧ cs.length ≤ 1000 ∧ ∀ H', Same H H' → Q (.bl (wHangs cs)) H'
abbrev whN : List Str := ["_law_cells", "_law_left", "_law_cell", "_law_seen", "_law_waiting", "_law_other"]
theorem keys_lot {H : Hp} : ∀ {L : List Cell} {bs : List Addr}, IsKeys H (lotK L) bs → Paired (fun b c => At H b c) bs L
  | [], [], .nil => .nil
  | c :: L, b :: bs, .cons h t => .cons h (keys_lot t)
theorem lotK_keys (L : List Cell) (nd : L.Nodup) : ((lotK L).map Prod.fst).Nodup := by
  have e : (lotK L).map Prod.fst = L.map cK := by
    unfold lotK
    rw [List.map_map]
    rfl
  rw [e]
  exact nd.map _ fun a b h k => h (cK_inj k)
theorem cut_lastW (xs : List V) : cutV xs none (some (-1)) = xs.take (xs.length - 1) := by
  unfold cutV
  have e : HT.sIx xs.length xs.length (some (-1)) = xs.length - 1 := by
    show (if (-1 : Int) < 0 then ((-1 : Int) + (xs.length : Int)).toNat else min (-1 : Int).toNat xs.length) = xs.length - 1
    rw [if_pos (by decide)]
    omega
  rw [HT.sIx_none, e, List.drop_zero, Nat.sub_zero]
section
variable {P : Program} {w : World} {K : PySem.W.Frag} {mg : Str → Option Value} {base : Heap} {Ts : List Addr}
/-- dict([(cell, True) for cell in cells]), told -/
theorem dict_true {H : Hp} {D : Addr} {rs : List Addr} {cs : List Cell} (pr : Paired (fun r c => ∃ q, H r = some (.tup [.ref q, .bl true]) ∧ At H q c) rs cs) : Paired (fun p kv => PrAt H p kv) rs (lotK cs) := by
  induction pr with
  | nil => exact .nil
  | cons h _ ih =>
    obtain ⟨q, e, a⟩ := h
    exact .cons ⟨q, e, a⟩ ih
end
end Sq

set_option Elab.async false
set_option linter.all false
set_option maxRecDepth 100000
set_option maxHeartbeats 8000000
/-! The law's may (the w-family). -/
namespace Sq
open PySem PySem.Spec PyProof.Rows L2
noncomputable def mayW (L : List Cell) (s e : Cell) : Bool := !decide (kindV L s e = .non)
theorem fm_two {c d : CellP} {f : CellP → Bool} : (([c, d] : List CellP).filterMap (fun c => if f c = true then some c.1 else none) = []) ↔ (f c || f d) = false := by
  cases h1 : f c <;> cases h2 : f d <;> simp [List.filterMap_cons, h1, h2]
def spWMay : Sp := fun vs H Q _ => ∃ (t p q : Addr) (L : List Cell) (s e : Cell), vs = [.ref t, .ref p, .ref q] ∧ CellsT H t L ∧ L.Nodup ∧ L.length ≤ 1000 ∧ At H p s ∧ At H q e ∧ ∀ H', Same H H' → Q (.bl (mayW L s e)) H'
abbrev wyN : List Str := ["_law_cells", "_law_start", "_law_end", "_law_inside", "_law_cell", "_law_across", "_law_up", "_law_pairs", "_law_good", "_law_one", "_law_two"]
theorem place_rest {L : List Cell} {s e : Cell} (h : byPlace L s e ≠ .non) : without L s ≠ [] := fun z => by
  have all : ∀ x ∈ L, x = s := fun x hx => Classical.byContradiction fun n => by
    have := mem_without.mpr ⟨hx, n⟩
    rw [z] at this
    cases this
  have side : ∀ d : Cell, sideB L s e d = true → d.1 = 0 ∧ d.2 = 0 := fun d hd => by
    unfold sideB at hd
    rw [Bool.and_eq_true, decide_eq_true_iff, decide_eq_true_iff] at hd
    have := all _ hd.1
    obtain ⟨a, b⟩ := Prod.mk.inj this
    omega
  unfold byPlace at h
  split at h
  · exact h rfl
  · split at h
    · rename_i _ h1
      split at h
      · rename_i hs
        unfold slidesB at hs
        rw [Bool.or_eq_true] at hs
        have k : e.1 - s.1 = 0 ∧ e.2 - s.2 = 0 := by
          rcases hs with hs | hs
          · have := side _ hs
            exact ⟨this.2, this.1⟩
          · have := side _ hs
            dsimp only at this
            omega
        unfold absI at h1
        rw [k.1, k.2] at h1
        simp at h1
      · exact h rfl
    · split at h
      · rename_i _ h1
        split at h
        · rename_i ht
          unfold turnsB at ht
          have k : (s.1, e.2) ∈ L ∨ (e.1, s.2) ∈ L := by
            by_cases a : (s.1, e.2) ∈ L
            · exact .inl a
            · by_cases b : (e.1, s.2) ∈ L
              · exact .inr b
              · rw [decide_eq_false a, decide_eq_false b] at ht
                cases ht
          unfold absI at h1
          rcases k with k | k
          · have := congrArg Prod.snd (all _ k)
            dsimp only at this
            rw [this] at h1
            simp at h1
          · have := congrArg Prod.fst (all _ k)
            dsimp only at this
            rw [this] at h1
            simp at h1
        · exact h rfl
      · exact h rfl
theorem may_place {L : List Cell} {s e : Cell} : mayW L s e = (!decide (byPlace L s e = .non) && hangsB (without L s)) := by
  unfold mayW kindV
  by_cases h : byPlace L s e = .non
  · rw [if_pos (.inl h), decide_eq_true h]
    rfl
  · cases hh : hangsB (without L s) with
    | false =>
      rw [if_pos (.inr rfl)]
      simp
    | true =>
      rw [if_neg (fun z => z.elim h fun z => by cases z), decide_eq_false h]
      rfl
section
variable {P : Program} {w : World} {K : PySem.W.Frag} {mg : Str → Option Value} {base : Heap} {Ts : List Addr}
end
end Sq

set_option Elab.async false
set_option linter.all false
set_option maxRecDepth 100000
set_option maxHeartbeats 8000000
/-! The law's moves (the w-family). -/
namespace Sq
open PySem PySem.Spec PyProof.Rows L2
def spWMoves : Sp := fun vs H Q _ => ∃ (t : Addr) (L : List Cell), vs = [.ref t] ∧ CellsT H t L ∧ L.Nodup ∧ L.length ≤ 1000 ∧
  ∀ l H', Same H H' → PairsL H' l (movesC L (L.filter fun c => hangsB (without L c))) → Q (.ref l) H'
theorem may_ends {L : List Cell} {s : Cell} : ((aroundC s).filter (mayW L s)).map (fun e => (s, e)) = if hangsB (without L s) = true then (endsC L s).map fun e => (s, e) else [] := by
  by_cases h : hangsB (without L s) = true
  · rw [if_pos h]
    unfold endsC
    congr 1
    refine List.filter_congr fun e _ => ?_
    rw [may_place, h, Bool.and_true]
  · rw [if_neg h, List.map_eq_nil_iff, List.filter_eq_nil_iff]
    intro e _ z
    rw [may_place] at z
    simp [h] at z
theorem moves_snocW {L : List Cell} {i : Nat} {s : Cell} (h : L[i]? = some s) : movesC L ((L.take (i + 1)).filter fun c => hangsB (without L c)) = movesC L ((L.take i).filter fun c => hangsB (without L c)) ++ ((aroundC s).filter (mayW L s)).map fun e => (s, e) := by
  rw [moves_step h, may_ends]
theorem eight_le : (8 : Nat) ≤ sizeLine := by rw [sizeLine_eq]; decide
section
variable {P : Program} {w : World} {K : PySem.W.Frag} {mg : Str → Option Value} {base : Heap} {Ts : List Addr}
end
end Sq

set_option Elab.async false
set_option linter.all false
set_option maxRecDepth 100000
set_option maxHeartbeats 8000000
/-! The largest cell of a list. -/
namespace Sq
open PySem PySem.Spec PyProof.Rows L2
theorem lt_cD (a b : Cell) : PySem.W.dataLt (cD a) (cD b) = cLt a b := by
  show PyProof.Rows.lexLt PyProof.Rows.itemOrd (PySem.W.keyToks (cD a)) (PySem.W.keyToks (cD b)) = _
  have tk : ∀ c : Cell, PySem.W.keyToks (cD c) = [.inl 1, .inl c.1, .inl 1, .inl c.2, .inl 0] := fun c => by simp [cD, PySem.W.keyToks, PySem.W.keyToksAll]
  rw [tk, tk]
  obtain ⟨a1, a2⟩ := a
  obtain ⟨b1, b2⟩ := b
  have at1 : ∀ (x y : Int) (r t : List (Int ⊕ List Nat)), PyProof.Rows.lexLt PyProof.Rows.itemOrd (.inl x :: r) (.inl y :: t) = (decide (x < y) || (!decide (y < x) && PyProof.Rows.lexLt PyProof.Rows.itemOrd r t)) := fun x y r t => PyProof.Rows.lex_cons (O := PyProof.Rows.itemOrd) (.inl x) (.inl y) r t
  have nil : PyProof.Rows.lexLt PyProof.Rows.itemOrd ([] : List (Int ⊕ List Nat)) [] = false := rfl
  simp only [at1, nil, cLt]
  rw [Bool.eq_iff_iff]
  simp
  omega
theorem maxD_cells : ∀ (cs : List Cell) (c : Cell), ∃ m ∈ c :: cs, PySem.W.maxD (cD c) (cs.map cD) = cD m ∧ ∀ d ∈ c :: cs, cLt m d = false
  | [], c => ⟨c, List.mem_cons_self .., rfl, fun d hd => by
    rw [List.mem_singleton.mp hd]
    exact decide_eq_false (by omega)⟩
  | e :: cs, c => by
    have st : PySem.W.maxD (cD c) ((e :: cs).map cD) = PySem.W.maxD (cD (if cLt c e = true then e else c)) (cs.map cD) := by
      show List.foldl _ _ _ = List.foldl _ _ _
      rw [List.map_cons, List.foldl_cons, lt_cD]
      cases cLt c e <;> rfl
    obtain ⟨m, hm, em, le⟩ := maxD_cells cs (if cLt c e = true then e else c)
    have h0 := le _ (List.mem_cons_self ..)
    rw [st]
    refine ⟨m, ?_, em, fun d hd => ?_⟩
    · rcases List.mem_cons.mp hm with z | z
      · rw [z]
        by_cases h : cLt c e = true
        · rw [if_pos h]
          exact List.mem_cons_of_mem _ (List.mem_cons_self ..)
        · rw [if_neg h]
          exact List.mem_cons_self ..
      · exact List.mem_cons_of_mem _ (List.mem_cons_of_mem _ z)
    · by_cases h : cLt c e = true
      · rw [if_pos h] at h0
        rcases List.mem_cons.mp hd with z | z
        · rw [z]
          have h := of_decide_eq_true h
          have h0 := of_decide_eq_false h0
          exact decide_eq_false (by omega)
        · rcases List.mem_cons.mp z with z | z
          · rw [z]
            exact h0
          · exact le d (List.mem_cons_of_mem _ z)
      · rw [if_neg h] at h0
        rcases List.mem_cons.mp hd with z | z
        · rw [z]
          exact h0
        · rcases List.mem_cons.mp z with z | z
          · rw [z]
            have h : cLt c e = false := by simpa using h
            have h := of_decide_eq_false h
            have h0 := of_decide_eq_false h0
            exact decide_eq_false (by omega)
          · exact le d (List.mem_cons_of_mem _ z)
section
variable {X : Cx}
theorem paired_getRW {α β : Type} {F : α → β → Prop} {i : Nat} {y : β} : ∀ {xs : List α} {ys : List β}, Paired F xs ys → ys[i]? = some y → ∃ x, xs[i]? = some x ∧ F x y
  | _, _, .nil, e => by simp at e
  | _ :: _, _ :: _, .cons h t, e => by
    cases i with
    | zero =>
      obtain rfl := Option.some.inj e
      exact ⟨_, rfl, h⟩
    | succ i =>
      obtain ⟨x, hx, f⟩ := paired_getRW (i := i) t (by simpa using e)
      exact ⟨x, by simpa using hx, f⟩
theorem reads_cellsW {pins : List (Addr × Obj)} {σ : L2.St} {H : Hp} {s : Shared} (I : Inv X pins σ H s) {qs : List Addr} {cs : List Cell} (pr : Paired (fun q c => At H q c) qs cs) : ∀ {us : List Value}, Vals (qs.map V.ref) us → ∃ as, ReadsAll s.heap us (cs.map cD) as := by
  induction pr with
  | nil =>
    intro us r
    cases r
    exact ⟨_, .nil⟩
  | cons a _ ih =>
    intro us r
    cases r with
    | cons r t =>
      obtain ⟨as, h⟩ := ih t
      obtain ⟨bs, h1⟩ := Dp.reads I (cD _) _ _ (At.dp (K := X.K) a) r
      exact ⟨_, .cons h1 h⟩
/-- max of a list of cells: the largest -/
def rMaxLC (K : PySem.W.Frag) : List V → Hp → VK → Prop := fun vs H Q => ∃ (a : Addr) (qs : List Addr) (cs : List Cell), vs = [V.ref a] ∧ SqL K H a (qs.map V.ref) ∧ Paired (fun q c => At H q c) qs cs ∧ cs ≠ [] ∧ ∀ q c, c ∈ cs → (∀ d ∈ cs, cLt c d = false) → At H q c → Q (.ref q) H
theorem cr_maxLC (hc : X.calm = true) (hu : X.A.units + 64 < cLine) : CallR X (.builtin "max") (rMaxLC X.K) := by
  intro pins s σ H vs us Q I r h
  obtain ⟨a, qs, cs, rfl, hs, pr, ne, q⟩ := h
  obtain ⟨its, rv, hl, _⟩ := I.list hs
  rw [Vals.ref1 r]
  obtain ⟨as, ra⟩ := reads_cellsW I pr rv
  cases cs with
  | nil => exact absurd rfl ne
  | cons c cs =>
    obtain ⟨m, hm, em, le⟩ := maxD_cells cs c
    refine PySem.W.max_list_data (I.ok.hd hc) hl.isList (x := cD c) (xs := cs.map cD) (as := as) (by simpa using ra) ⟨fun x hx y hy => ?_, fun x hx => ?_⟩ ?_ fun i v h' tk bs hi rm hk => ?_
    · obtain ⟨d, _, rfl⟩ := List.mem_map.mp (show x ∈ (c :: cs).map cD from hx)
      obtain ⟨e, _, rfl⟩ := List.mem_map.mp (show y ∈ (c :: cs).map cD from hy)
      exact alike_cD d e
    · obtain ⟨d, _, rfl⟩ := List.mem_map.mp (show x ∈ (c :: cs).map cD from hx)
      simp [cD]
    · have ds : PyData.depthAll (cD c :: cs.map cD) ≤ 1 := (lay_all (n := 1) (ds := (c :: cs).map cD) fun d hd => by
        obtain ⟨c, _, rfl⟩ := List.mem_map.mp hd
        exact lay_cell c).2
      show X.A.units + 1 + _ < cLine
      omega
    · have hv : its[i]? = some v := by simpa using hi
      obtain ⟨y, hy, ry⟩ := paired_getRW rv hv
      rw [List.getElem?_map] at hy
      obtain ⟨b, hb, rfl⟩ := Option.map_eq_some_iff.mp hy
      obtain ⟨d, hd, ad⟩ := paired_get pr hb
      have I2 : Inv X pins σ H { s with heap := h', toks := tk } := I.kept hk
      obtain ⟨bs2, r2⟩ := Dp.reads I2 (cD d) _ _ (At.dp (K := X.K) ad) ry
      rw [em] at rm
      have e : cD m = cD d := (Reads.unique rm _ _ r2).1
      have e : m = d := by simpa using of_decide_eq_true (show decide (m = d) = true by rw [← cD_eqv m d, e]; rw [cD_eqv]; simp)
      exact ⟨.ref b, H, I2, ry, q b d (List.mem_of_getElem? hd) (e ▸ le) ad⟩
end
end Sq

set_option Elab.async false
set_option linter.all false
set_option maxRecDepth 100000
set_option maxHeartbeats 8000000
/-! The law's bodies: the state, a cell is put. -/
namespace Sq
open PySem PySem.Spec PyProof.Rows L2
abbrev wbN : List Str := ["_law_pen_here", "_law_many", "_law_way", "_law_found", "_law_last", "_law_side", "_law_lap", "_law_middle", "_law_cell", "_law_around", "_law_other", "_law_across", "_law_up"]
def forBodyW : Stmt → List Stmt
  | .For _ _ b _ _ => b
  | _ => []
def ringL : List Cell := [(0, 0), (1, 0), (2, 0), (2, 1), (2, 2), (1, 2), (0, 2), (0, 1)]
theorem op_in_seqK {X : Cx} {K : PySem.W.Frag} (h : X.K = K) : OpR X (compareOp .In) (rIn K false) := h ▸ op_in_seq
/-- the state of a body that grows -/
structure WbI (H : Hp) (p c fl la : Addr) (way : Int) (m n : Nat) (qs : List Addr) (A : List Cell) (G : Hp) : Prop where
  pen : PenC G p c n
  kp : Kp [p] H G
  nf : H fl = none
  nc : c ≠ fl
  ef : G fl = some (.lst (qs.map V.ref))
  pr : Paired (fun q c => At G q c) qs A
  nd : A.Nodup
  gr : Grown A
  l1 : 1 ≤ A.length
  le : A.length ≤ m
  sm : ∀ x ∈ A, x.1.natAbs ≤ 2 * A.length ∧ x.2.natAbs ≤ 2 * A.length
  rg : way = 4 → A.length ≤ 8 → A = ringL.take A.length
  al : ∃ x ∈ A, At G la x
theorem WbI.ek {H : Hp} {p c fl la : Addr} {way : Int} {m n n' : Nat} {qs : List Addr} {A : List Cell} {G G' : Hp} (I : WbI H p c fl la way m n qs A G) (k : Kp [p] G G') (hp : PenC G' p c n') : WbI H p c fl la way m n' qs A G' := by
  have e := pen_ek I.pen.at k
  obtain ⟨x, hx, ax⟩ := I.al
  exact ⟨hp, I.kp.trans k, I.nf, I.nc, e.lst I.ef, paired_imp (fun _ _ h => e.at h) I.pr, I.nd, I.gr, I.l1, I.le, I.sm, I.rg, x, hx, e.at ax⟩
theorem WbI.same {H : Hp} {p c fl la : Addr} {way : Int} {m n : Nat} {qs : List Addr} {A : List Cell} {G G' : Hp} (I : WbI H p c fl la way m n qs A G) (k : Same G G') : WbI H p c fl la way m n qs A G' := I.ek (Kp.of k) (I.pen.same k)
theorem WbI.last {H : Hp} {p c fl la lb : Addr} {way : Int} {m n : Nat} {qs : List Addr} {A : List Cell} {G : Hp} (I : WbI H p c fl la way m n qs A G) (h : ∃ x ∈ A, At G lb x) : WbI H p c fl lb way m n qs A G := ⟨I.pen, I.kp, I.nf, I.nc, I.ef, I.pr, I.nd, I.gr, I.l1, I.le, I.sm, I.rg, h⟩
/-- one more cell -/
theorem WbI.grow {H : Hp} {p c fl la e : Addr} {way : Int} {m n : Nat} {qs : List Addr} {A : List Cell} {G : Hp} {x : Cell} (I : WbI H p c fl la way m n qs A G) (ae : At G e x) (nx : x ∉ A) (bs : ∃ y ∈ A, x ∈ besideC y) (lt : A.length < m) (rg : way = 4 → A.length < 8 → ringL[A.length]? = some x) :
    WbI H p c fl e way m n (qs ++ [e]) (A ++ [x]) (upd G fl (.lst (qs.map V.ref ++ [V.ref e]))) := by
  obtain ⟨y, hy, hb⟩ := bs
  have np : p ≠ fl := fun z => by
    obtain ⟨zs, i0, dg, fo, e1, _⟩ := I.pen.ex
    rw [z, I.ef] at e1
    cases e1
  have off : ∀ {q : Addr} {c : Cell}, At G q c → At (upd G fl (.lst (qs.map V.ref ++ [V.ref e]))) q c := fun h => h.off I.ef (by intro xs z; cases z)
  have ll : (A ++ [x]).length = A.length + 1 := by rw [List.length_append]; rfl
  refine ⟨I.pen.off np I.nc, I.kp.put I.nf, I.nf, I.nc, by rw [upd_same, List.map_append]; rfl, (paired_imp (fun _ _ h => off h) I.pr).snoc (off ae), (List.nodup_append.mpr ⟨I.nd, List.pairwise_singleton _ x, fun a ha b hb z => nx (List.mem_singleton.mp hb ▸ z ▸ ha)⟩), I.gr.snoc hy hb, by rw [ll]; omega, by rw [ll]; omega, fun z hz => ?_, fun w4 l8 => ?_, x, List.mem_append_right _ (List.mem_singleton.mpr rfl), off ae⟩
  · rw [ll]
    rcases List.mem_append.mp hz with h | h
    · have := I.sm z h
      omega
    · rw [List.mem_singleton.mp h]
      have := I.sm y hy
      rw [beside_iff] at hb
      omega
  · rw [ll] at l8 ⊢
    have e := I.rg w4 (by omega)
    have e2 := rg w4 (by omega)
    rw [take_snoc e2, ← e]
section
variable {P : Program} {w : World} {K : PySem.W.Frag} {mg : Str → Option Value} {base : Heap} {Ts : List Addr}
variable {f : Addr} {cdv : Value} {A0 : Around} {outer : List Env} {s : Shared} {H0 : Hp} {E : XK}
theorem ring_beside : ∀ i : Nat, i < 7 → ∀ x, ringL[i + 1]? = some x → ∃ y, ringL[i]? = some y ∧ x ∈ besideC y := by
  intro i hi x hx
  match i, hi with
  | 0, _ | 1, _ | 2, _ | 3, _ | 4, _ | 5, _ | 6, _ =>
    cases hx
    exact ⟨_, rfl, by decide⟩
end
end Sq

set_option Elab.async false
set_option linter.all false
set_option maxRecDepth 100000
set_option maxHeartbeats 8000000
/-! The law's bodies: a lap. -/
namespace Sq
open PySem PySem.Spec PyProof.Rows L2
section
variable {P : Program} {w : World} {K : PySem.W.Frag} {mg : Str → Option Value} {base : Heap} {Ts : List Addr}
variable {f : Addr} {cdv : Value} {A0 : Around} {outer : List Env} {s : Shared} {H0 : Hp} {E : XK}
end
end Sq

set_option Elab.async false
set_option linter.all false
set_option maxRecDepth 100000
set_option maxHeartbeats 8000000
/-! The law's bodies (the w-family). -/
namespace Sq
open PySem PySem.Spec PyProof.Rows L2
def spWBody : Sp := fun vs H Q _ => ∃ (p c : Addr) (n m : Nat), vs = [.ref p, .int (m : Int)] ∧ PenC H p c n ∧ 1 ≤ m ∧ m ≤ 100 ∧ n < 600000 ∧
  ∀ t H' L n', PenC H' p c n' → n' ≤ n + 160 * m + 3 → Kp [p] H H' → CellsT H' t L → L.Nodup → Asc L → L.length = m → Hangs L → (∀ x ∈ L, x.1.natAbs ≤ 2 * m + 4 ∧ x.2.natAbs ≤ 2 * m + 4) → Q (.ref t) H'
theorem WbI.free {H : Hp} {p c fl la : Addr} {way : Int} {m n : Nat} {qs : List Addr} {A : List Cell} {G : Hp} (I : WbI H p c fl la way m n qs A G) : WbI H p c fl la 0 m n qs A G := ⟨I.pen, I.kp, I.nf, I.nc, I.ef, I.pr, I.nd, I.gr, I.l1, I.le, I.sm, (fun z => by cases z), I.al⟩
section
variable {P : Program} {w : World} {K : PySem.W.Frag} {mg : Str → Option Value} {base : Heap} {Ts : List Addr}
end
end Sq

set_option Elab.async false
set_option linter.all false
set_option maxRecDepth 100000
set_option maxHeartbeats 8000000
/-! The program: a body's lot, moves that are moves. -/
namespace Sq
open PySem PySem.Spec PyProof.Rows L2
/-- a move done -/
def stepM (L : List Cell) (m : CellP) : List Cell := without L m.1 ++ [m.2]
def goL (L : List Cell) (ms : List CellP) : List Cell := ms.foldl stepM L
noncomputable def goB : List Cell → List CellP → Bool
  | _, [] => true
  | L, m :: ms => mayW L m.1 m.2 && goB (stepM L m) ms
theorem goL_app (L : List Cell) (a b : List CellP) : goL L (a ++ b) = goL (goL L a) b := List.foldl_append ..
theorem goB_app : ∀ (L : List Cell) (a b : List CellP), goB L (a ++ b) = (goB L a && goB (goL L a) b)
  | L, [], b => by
    show _ = (true && _)
    rw [Bool.true_and]
    rfl
  | L, m :: a, b => by
    show (mayW L m.1 m.2 && goB (stepM L m) (a ++ b)) = ((mayW L m.1 m.2 && goB (stepM L m) a) && goB (goL (stepM L m) a) b)
    rw [goB_app (stepM L m) a b, Bool.and_assoc]
theorem may_kind {L : List Cell} {s e : Cell} : mayW L s e = true ↔ kindV L s e ≠ .non := by
  unfold mayW
  simp
theorem may_step {L : List Cell} {m : CellP} (nL : L.Nodup) (h : mayW L m.1 m.2 = true) : Hangs (stepM L m) ∧ (stepM L m).Nodup ∧ (stepM L m).length = L.length := behind nL (may_kind.mp h) (.refl _)
theorem go_ok : ∀ {ms : List CellP} {L : List Cell}, L.Nodup → Hangs L → goB L ms = true → Hangs (goL L ms) ∧ (goL L ms).Nodup ∧ (goL L ms).length = L.length
  | [], _, n, h, _ => ⟨h, n, rfl⟩
  | m :: ms, L, n, h, g => by
    have g : (mayW L m.1 m.2 && goB (stepM L m) ms) = true := g
    rw [Bool.and_eq_true] at g
    obtain ⟨a, b, c⟩ := may_step n g.1
    obtain ⟨a2, b2, c2⟩ := go_ok b a g.2
    exact ⟨a2, b2, c2.trans c⟩
theorem may_in {L : List Cell} {s e : Cell} (h : mayW L s e = true) : s ∈ L ∧ e ∉ L := by
  rw [may_place, Bool.and_eq_true] at h
  exact byPlace_mem fun z => by rw [decide_eq_true z] at h; cases h.1
theorem kt_put {Ts : List Addr} {H G : Hp} {D : Addr} {o o' : HO} (k : KT Ts H G) (hD : H D = none) (gD : G D = some o) (n : ∀ ps, o ≠ .tbl ps) : KT Ts H (upd G D o') := by
  refine ⟨k.kp.put hD, k.tb, fun T m => ?_⟩
  obtain ⟨ps, e, t⟩ := k.tb' T m
  exact ⟨ps, by rw [upd_ne (fun z => by rw [z, gD] at e; exact n ps (Option.some.inj e))]; exact e, t⟩
def spLotB (Ts : List Addr) : Sp := fun vs H Q _ => ∃ (t : Addr) (L : List Cell), vs = [.ref t] ∧ CellsT H t L ∧ L.Nodup ∧ Asc L ∧ L.length ≤ 1000 ∧ Hangs L ∧ TabsG Ts H ∧ ∀ d H', KT Ts H H' → H d = none → H' d = some (.dT (lotK L)) → Q (.ref d) H'
def spAreMoves (Ts : List Addr) : Sp := fun vs H Q _ => ∃ (d ml : Addr) (L : List Cell) (ms : List CellP) (qs : List Addr), vs = [.ref d, .ref ml] ∧ H d = some (.dT (lotK L)) ∧ L.Nodup ∧ L.length ≤ 1000 ∧ Hangs L ∧ (H ml = some (.lst (qs.map V.ref)) ∨ H ml = some (.tup (qs.map V.ref))) ∧ Paired (fun q m => PairAt H q m) qs ms ∧ TabsG Ts H ∧ ∀ H', KT Ts H H' → Q (.bl (goB L ms)) H'
abbrev amN : List Str := ["lot", "moves", "place", "square", "start", "end"]
section
variable {P : Program} {w : World} {K : PySem.W.Frag} {mg : Str → Option Value} {base : Heap} {Ts : List Addr}
end
end Sq

set_option Elab.async false
set_option linter.all false
set_option maxRecDepth 100000
set_option maxHeartbeats 8000000
/-! The program: pairs of moves by place. -/
namespace Sq
open PySem PySem.Spec PyProof.Rows L2
abbrev P2 := CellP × CellP
def P2At (H : Hp) (r : Addr) (m : P2) : Prop := ∃ a b : Addr, H r = some (.tup [.ref a, .ref b]) ∧ PairAt H a m.1 ∧ PairAt H b m.2
theorem P2At.keep {H G : Hp} {r : Addr} {m : P2} (h : P2At H r m) (k : Tk H G) : P2At G r m := by
  obtain ⟨a, b, e, h1, h2⟩ := h
  exact ⟨a, b, k _ _ e, h1.keep k, h2.keep k⟩
/-- both squares change places: the k-th to the m-th -/
def pr2 (gone come : List Cell) (k m : Nat) : P2 := ((gone.getD k (0, 0), come.getD m (0, 0)), (gone.getD (1 - k) (0, 0), come.getD (1 - m) (0, 0)))
def over2 (s e b : Cell) : List P2 := [((s, (s.1 + b.1, s.2 + b.2)), ((s.1 + b.1, s.2 + b.2), e)), (((e.1 + b.1, e.2 + b.2), e), (s, (e.1 + b.1, e.2 + b.2)))]
def pairsPl (gone come : List Cell) : List P2 :=
  if gone.length = 2 then (List.range 2).flatMap fun k => (List.range 2).map fun m => pr2 gone come k m
  else stepL.flatMap fun b => over2 (gone.getD 0 (0, 0)) (come.getD 0 (0, 0)) b
def spPairsPl : Sp := fun vs H Q _ => ∃ (g c : Addr) (gone come : List Cell), vs = [.ref g, .ref c] ∧ CellsL H g gone ∧ CellsL H c come ∧ gone.length = come.length ∧ (gone.length = 1 ∨ gone.length = 2) ∧
  ∀ l H' rs, Same H H' → H' l = some (.lst (rs.map V.ref)) → Paired (fun r m => P2At H' r m) rs (pairsPl gone come) → Q (.ref l) H'
abbrev plN : List Str := ["gone", "come", "k", "m", "start", "end", "pairs", "step", "over", "left"]
def nVW (n : Nat) : V := .int (n : Int)
theorem tk_of {H G : Hp} (h : Same H G) : Tk H G := fun b xs e => h b _ e
theorem atI_nat' {xs : List V} {i : Int} {n : Nat} {v : V} (e : i = (n : Int)) (h : xs[n]? = some v) : atI xs i = some v := by
  rw [e]
  exact atI_nat h
section
variable {P : Program} {w : World} {K : PySem.W.Frag} {mg : Str → Option Value} {base : Heap} {Ts : List Addr}
end
end Sq

set_option Elab.async false
set_option linter.all false
set_option maxRecDepth 100000
set_option maxHeartbeats 8000000
/-! The program: few_between. -/
namespace Sq
open PySem PySem.Spec PyProof.Rows L2
def p2D (m : P2) : PyData := .tuple [pD m.1, pD m.2]
theorem alike_p2D (c d : P2) : PySem.W.alike (p2D c) (p2D d) = true := by
  simp only [p2D, PySem.W.alike, PySem.W.alikeAll, alike_pD, Bool.and_true]
theorem lay_p2D (p : P2) : Lay 3 (p2D p) := lay_tuple fun d hd => by
  rcases List.mem_cons.mp hd with e | e
  · rw [e]; exact lay_pD _
  · rw [List.mem_singleton.mp e]; exact lay_pD _
theorem P2At.dp {K : PySem.W.Frag} {H : Hp} {r : Addr} {m : P2} (h : P2At H r m) : Dp K H (.ref r) (p2D m) := by
  obtain ⟨a, b, e, a1, a2⟩ := h
  exact .tup (SqT.of e) (.cons a1.dp (.cons a2.dp .nil))
/-- m stands ahead of n, or is n -/
def p2Le (m n : P2) : Prop := PySem.W.dataLt (p2D n) (p2D m) = false
theorem p2Le_refl (m : P2) : p2Le m m := (PyProof.Rows.listOrd PyProof.Rows.itemOrd).irrefl (PySem.W.keyToks (p2D m))
theorem p2Le_trans {m n o : P2} (h : p2Le m n) (k : p2Le n o) : p2Le m o :=
  PyProof.Rows.KeyOrd.kle_trans (O := PyProof.Rows.listOrd PyProof.Rows.itemOrd) (a := PySem.W.keyToks (p2D m)) (b := PySem.W.keyToks (p2D n)) (c := PySem.W.keyToks (p2D o)) h k
theorem p2_toks (p : P2) : PySem.W.keyToks (p2D p) = .inl 1 :: ([.inl 1, .inl 1, .inl p.1.1.1, .inl 1, .inl p.1.1.2, .inl 0, .inl 1, .inl 1, .inl p.1.2.1, .inl 1, .inl p.1.2.2, .inl 0, .inl 0] ++ (.inl 1 :: ([.inl 1, .inl 1, .inl p.2.1.1, .inl 1, .inl p.2.1.2, .inl 0, .inl 1, .inl 1, .inl p.2.2.1, .inl 1, .inl p.2.2.2, .inl 0, .inl 0] ++ [.inl 0]))) := by
  simp [p2D, pD, cD, PySem.W.keyToks, PySem.W.keyToksAll]
theorem p2Le_anti {m n : P2} (h : p2Le m n) (k : p2Le n m) : m = n := by
  have e := PyProof.Rows.KeyOrd.kle_antisymm (O := PyProof.Rows.listOrd PyProof.Rows.itemOrd) (a := PySem.W.keyToks (p2D m)) (b := PySem.W.keyToks (p2D n)) h k
  rw [p2_toks, p2_toks] at e
  obtain ⟨⟨⟨a1, a2⟩, a3, a4⟩, ⟨a5, a6⟩, a7, a8⟩ := m
  obtain ⟨⟨⟨b1, b2⟩, b3, b4⟩, ⟨b5, b6⟩, b7, b8⟩ := n
  simp at e
  obtain ⟨h1, h2, h3, h4, h5, h6, h7, h8⟩ := e
  rw [h1, h2, h3, h4, h5, h6, h7, h8]
theorem p2Le_total {m n : P2} (h : ¬ p2Le m n) : p2Le n m :=
  PyProof.Rows.KeyOrd.klt_asymm (O := PyProof.Rows.listOrd PyProof.Rows.itemOrd) (a := PySem.W.keyToks (p2D n)) (b := PySem.W.keyToks (p2D m)) (by
    unfold p2Le at h
    show PySem.W.dataLt (p2D n) (p2D m) = true
    simpa using h)
theorem p2_sort (bs : List P2) : (bs.mergeSort (PySem.W.dataLe false p2D)).Pairwise p2Le := by
  have pw := List.pairwise_mergeSort (le := PySem.W.dataLe false p2D)
    (fun a b c h k => by
      have h : p2Le a b := by have h : (!PySem.W.dataLt (p2D b) (p2D a)) = true := h; show PySem.W.dataLt (p2D b) (p2D a) = false; simpa using h
      have k : p2Le b c := by have k : (!PySem.W.dataLt (p2D c) (p2D b)) = true := k; show PySem.W.dataLt (p2D c) (p2D b) = false; simpa using k
      show (!PySem.W.dataLt (p2D c) (p2D a)) = true
      rw [show PySem.W.dataLt (p2D c) (p2D a) = false from p2Le_trans h k]
      rfl)
    (fun a b => by
      by_cases z : p2Le a b
      · show ((!PySem.W.dataLt (p2D b) (p2D a)) || _) = true
        rw [show PySem.W.dataLt (p2D b) (p2D a) = false from z]
        rfl
      · show (_ || (!PySem.W.dataLt (p2D a) (p2D b))) = true
        rw [show PySem.W.dataLt (p2D a) (p2D b) = false from p2Le_total z, Bool.not_false, Bool.or_true])
    bs
  exact pw.imp fun {a b} h => by have h : (!PySem.W.dataLt (p2D b) (p2D a)) = true := h; show PySem.W.dataLt (p2D b) (p2D a) = false; simpa using h
def goneC (L G : List Cell) : List Cell := L.filter fun c => !decide (c ∈ G)
theorem len_split (A : List Cell) (p : Cell → Bool) : (A.filter fun c => !p c).length + (A.filter p).length = A.length := by
  induction A with
  | nil => rfl
  | cons a A ih =>
    cases h : p a
    · simp [List.filter_cons, h]
      omega
    · simp [List.filter_cons, h]
      omega
theorem gone_len {L G : List Cell} (nL : L.Nodup) (nG : G.Nodup) (h : L.length = G.length) : (goneC L G).length = (goneC G L).length := by
  have e : ∀ A B : List Cell, (goneC A B).length + (A.filter fun c => decide (c ∈ B)).length = A.length := fun A B => by
    exact len_split A fun c => decide (c ∈ B)
  have p : (L.filter fun c => decide (c ∈ G)).Perm (G.filter fun c => decide (c ∈ L)) := by
    refine (List.perm_ext_iff_of_nodup (nL.sublist List.filter_sublist) (nG.sublist List.filter_sublist)).mpr fun x => ?_
    rw [List.mem_filter, List.mem_filter, decide_eq_true_iff, decide_eq_true_iff]
    exact And.comm
  have e1 := e L G
  have e2 := e G L
  have e3 := p.length_eq
  omega
def FewOf (L G : List Cell) (most : Int) : Option (List CellP) → Prop
  | none => goneC L G ≠ [] ∧ (∀ s e, goneC L G = [s] → goneC G L = [e] → mayW L s e = false) ∧ (2 < (goneC L G).length ∨ most < 2 ∨ ∀ m ∈ pairsPl (goneC L G) (goneC G L), goB L [m.1, m.2] = false)
  | some [] => goneC L G = []
  | some [m] => goneC L G = [m.1] ∧ goneC G L = [m.2] ∧ mayW L m.1 m.2 = true
  | some [m1, m2] => goneC L G ≠ [] ∧ (∀ s e, goneC L G = [s] → goneC G L = [e] → mayW L s e = false) ∧ (goneC L G).length ≤ 2 ∧ 2 ≤ most ∧ (m1, m2) ∈ pairsPl (goneC L G) (goneC G L) ∧ goB L [m1, m2] = true ∧ ∀ n ∈ pairsPl (goneC L G) (goneC G L), goB L [n.1, n.2] = true → p2Le (m1, m2) n
  | some _ => False
def OptAt (H : Hp) (v : V) : Option (List CellP) → Prop
  | none => v = .non
  | some ms => ∃ r, v = .ref r ∧ PairsT H r ms
def spFewB (Ts : List Addr) : Sp := fun vs H Q _ => ∃ (d g : Addr) (L G : List Cell) (most : Int), vs = [.ref d, .ref g, .int most] ∧ H d = some (.dT (lotK L)) ∧ H g = some (.dT (lotK G)) ∧ d ≠ g ∧ L.Nodup ∧ G.Nodup ∧ L.length ≤ 1000 ∧ L.length = G.length ∧ Hangs L ∧ TabsG Ts H ∧
  ∀ v H' o, KT Ts H H' → OptAt H' v o → FewOf L G most o → Q v H'
abbrev fbN : List Str := ["lot", "goal", "most", "gone", "square", "come", "plan"]
theorem few_none {L G : List Cell} {most : Int} (h1 : goneC L G ≠ []) (h2 : ∀ s e, goneC L G = [s] → goneC G L = [e] → mayW L s e = false) (h3 : 2 < (goneC L G).length ∨ most < 2 ∨ ∀ m ∈ pairsPl (goneC L G) (goneC G L), goB L [m.1, m.2] = false) : FewOf L G most none := ⟨h1, h2, h3⟩
section
variable {P : Program} {w : World} {K : PySem.W.Frag} {mg : Str → Option Value} {base : Heap} {Ts : List Addr}
end
end Sq

set_option Elab.async false
set_option linter.all false
set_option maxRecDepth 100000
set_option maxHeartbeats 4000000
/-! Bodies as keys and as data; dicts of bodies. -/
namespace Sq
open PySem PySem.Spec PyProof.Rows L2
def bD (L : List Cell) : PyData := .tuple (L.map cD)
def keyB (L : List Cell) : NK := nkD (bD L)
theorem nkB_all : ∀ L : List Cell, keyAll (L.map cD) = true ∧ NestedKey.depthAll (nkAll (L.map cD)) ≤ 1
  | [] => ⟨rfl, Nat.zero_le _⟩
  | c :: L => by
    obtain ⟨h1, h2⟩ := nkB_all L
    refine ⟨?_, ?_⟩
    · show (keyD (cD c) && keyAll (L.map cD)) = true
      rw [h1]
      rfl
    · show max (NestedKey.depth (nkD (cD c))) (NestedKey.depthAll (nkAll (L.map cD))) ≤ 1
      exact Nat.max_le.mpr ⟨by show NestedKey.depthAll [.num c.1, .num c.2] + 1 ≤ 1; exact Nat.le_refl 1, h2⟩
theorem nkB_inj : ∀ {L M : List Cell}, nkAll (L.map cD) = nkAll (M.map cD) → L = M
  | [], [], _ => rfl
  | [], _ :: _, h => by
    have h : ([] : List NK) = nkD _ :: nkAll _ := h
    cases h
  | _ :: _, [], h => by
    have h : nkD _ :: nkAll _ = ([] : List NK) := h
    cases h
  | c :: L, d :: M, h => by
    have h : (NestedKey.tup [.num c.1, .num c.2]) :: nkAll (L.map cD) = (NestedKey.tup [.num d.1, .num d.2]) :: nkAll (M.map cD) := h
    obtain ⟨h1, h2⟩ := List.cons.inj h
    have h1 := NestedKey.tup.inj h1
    obtain ⟨e1, h1⟩ := List.cons.inj h1
    obtain ⟨e2, _⟩ := List.cons.inj h1
    rw [nkB_inj h2, show c = d from Prod.ext (NestedKey.num.inj e1) (NestedKey.num.inj e2)]
theorem keyB_inj {L M : List Cell} (h : keyB L = keyB M) : L = M := by
  have h : NestedKey.tup (nkAll (L.map cD)) = NestedKey.tup (nkAll (M.map cD)) := h
  exact nkB_inj (NestedKey.tup.inj h)
theorem keyB_depth (L : List Cell) : (keyB L).depth ≤ 8 := by
  show NestedKey.depthAll (nkAll (L.map cD)) + 1 ≤ 8
  have h1 := (nkB_all L).2
  omega
theorem CellsT.natB {K : PySem.W.Frag} {H : Hp} {t : Addr} {L : List Cell} (h : CellsT H t L) : NAt K H t (keyB L) := ⟨⟨_, h.dp, (nkB_all L).1, rfl⟩, keyB_depth L⟩
theorem alikeB_all : ∀ L M : List Cell, PySem.W.alikeAll (L.map cD) (M.map cD) = true
  | [], _ => by simp [PySem.W.alikeAll]
  | _ :: _, [] => by simp [PySem.W.alikeAll]
  | c :: L, d :: M => by
    show PySem.W.alikeAll (cD c :: L.map cD) (cD d :: M.map cD) = true
    rw [PySem.W.alikeAll, alikeB_all L M, alike_cD c d]
    rfl
theorem alike_bD (L M : List Cell) : PySem.W.alike (bD L) (bD M) = true := by
  show PySem.W.alike (.tuple (L.map cD)) (.tuple (M.map cD)) = true
  rw [PySem.W.alike]
  exact alikeB_all L M
theorem lay_bD (L : List Cell) : Lay 2 (bD L) := lay_cellsT7
theorem keyD_bD (L : List Cell) : keyD (bD L) = true := (nkB_all L).1
theorem eqv_bD (L M : List Cell) : PyData.eqv (bD L) (bD M) = decide (L = M) := by
  by_cases h : L = M
  · subst h
    rw [eqv_self (lay_bD L), decide_eq_true rfl]
  · rw [decide_eq_false h]
    refine Bool.eq_false_iff.mpr fun e => h ?_
    have key : ∀ L M : List Cell, PyData.eqvAll (L.map cD) (M.map cD) = true → L = M := by
      intro L
      induction L with
      | nil =>
        intro M e
        cases M with
        | nil => rfl
        | cons d M => exact absurd e (by simp [PyData.eqvAll])
      | cons c L ih =>
        intro M e
        cases M with
        | nil => exact absurd e (by simp [PyData.eqvAll])
        | cons d M =>
          have e : (PyData.eqv (cD c) (cD d) && PyData.eqvAll (L.map cD) (M.map cD)) = true := e
          rw [Bool.and_eq_true, cD_eqv, decide_eq_true_iff] at e
          rw [e.1, ih M e.2]
    have e : PyData.eqvAll (L.map cD) (M.map cD) = true := e
    exact key L M e
/-! ### their order -/
/-- A stands ahead of M, or is M -/
def bLe (A M : List Cell) : Prop := PySem.W.dataLt (bD M) (bD A) = false
theorem bLe_refl (m : List Cell) : bLe m m := (PyProof.Rows.listOrd PyProof.Rows.itemOrd).irrefl (PySem.W.keyToks (bD m))
theorem bLe_trans {m n o : List Cell} (h : bLe m n) (k : bLe n o) : bLe m o :=
  PyProof.Rows.KeyOrd.kle_trans (O := PyProof.Rows.listOrd PyProof.Rows.itemOrd) (a := PySem.W.keyToks (bD m)) (b := PySem.W.keyToks (bD n)) (c := PySem.W.keyToks (bD o)) h k
theorem toksB_inj : ∀ {L M : List Cell}, PySem.W.keyToksAll (L.map cD) = PySem.W.keyToksAll (M.map cD) → L = M
  | [], [], _ => rfl
  | [], d :: M, h => by
    have tk : PySem.W.keyToks (cD d) = [.inl 1, .inl d.1, .inl 1, .inl d.2, .inl 0] := by simp [cD, PySem.W.keyToks, PySem.W.keyToksAll]
    simp [PySem.W.keyToksAll, tk] at h
  | c :: L, [], h => by
    have tk : PySem.W.keyToks (cD c) = [.inl 1, .inl c.1, .inl 1, .inl c.2, .inl 0] := by simp [cD, PySem.W.keyToks, PySem.W.keyToksAll]
    simp [PySem.W.keyToksAll, tk] at h
  | c :: L, d :: M, h => by
    have tk : ∀ c : Cell, PySem.W.keyToks (cD c) = [.inl 1, .inl c.1, .inl 1, .inl c.2, .inl 0] := fun c => by simp [cD, PySem.W.keyToks, PySem.W.keyToksAll]
    rw [List.map_cons, List.map_cons, PySem.W.keyToksAll, PySem.W.keyToksAll, tk, tk] at h
    simp at h
    obtain ⟨h1, h2, h3⟩ := h
    rw [toksB_inj h3, show c = d from Prod.ext h1 h2]
theorem bLe_anti {m n : List Cell} (h : bLe m n) (k : bLe n m) : m = n := by
  have e := PyProof.Rows.KeyOrd.kle_antisymm (O := PyProof.Rows.listOrd PyProof.Rows.itemOrd) (a := PySem.W.keyToks (bD m)) (b := PySem.W.keyToks (bD n)) h k
  have e : PySem.W.keyToks (.tuple (m.map cD)) = PySem.W.keyToks (.tuple (n.map cD)) := e
  rw [PySem.W.keyToks, PySem.W.keyToks] at e
  exact toksB_inj (by simpa using e)
theorem bLe_total {m n : List Cell} (h : ¬ bLe m n) : bLe n m :=
  PyProof.Rows.KeyOrd.klt_asymm (O := PyProof.Rows.listOrd PyProof.Rows.itemOrd) (a := PySem.W.keyToks (bD n)) (b := PySem.W.keyToks (bD m)) (by
    unfold bLe at h
    show PySem.W.dataLt (bD n) (bD m) = true
    simpa using h)
theorem b_sort (bs : List (List Cell)) : (bs.mergeSort (PySem.W.dataLe false bD)).Pairwise bLe := by
  have pw := List.pairwise_mergeSort (le := PySem.W.dataLe false bD)
    (fun a b c h k => by
      have h : bLe a b := by have h : (!PySem.W.dataLt (bD b) (bD a)) = true := h; show PySem.W.dataLt (bD b) (bD a) = false; simpa using h
      have k : bLe b c := by have k : (!PySem.W.dataLt (bD c) (bD b)) = true := k; show PySem.W.dataLt (bD c) (bD b) = false; simpa using k
      show (!PySem.W.dataLt (bD c) (bD a)) = true
      rw [show PySem.W.dataLt (bD c) (bD a) = false from bLe_trans h k]
      rfl)
    (fun a b => by
      by_cases z : bLe a b
      · show ((!PySem.W.dataLt (bD b) (bD a)) || _) = true
        rw [show PySem.W.dataLt (bD b) (bD a) = false from z]
        rfl
      · show (_ || (!PySem.W.dataLt (bD a) (bD b))) = true
        rw [show PySem.W.dataLt (bD a) (bD b) = false from bLe_total z, Bool.not_false, Bool.or_true])
    bs
  exact pw.imp fun {a b} h => by have h : (!PySem.W.dataLt (bD b) (bD a)) = true := h; show PySem.W.dataLt (bD b) (bD a) = false; simpa using h
theorem bs_same {A M : List (List Cell)} (nA : A.Nodup) (nM : M.Nodup) (sa : A.Pairwise bLe) (sm : M.Pairwise bLe) (mem : ∀ x, x ∈ A ↔ x ∈ M) : A = M :=
  List.Perm.eq_of_pairwise (le := bLe) (fun x y _ _ h k => bLe_anti h k) sa sm ((List.perm_ext_iff_of_nodup nA nM).mpr mem)
theorem sortableB : ∀ {Bs : List (List Cell)}, (∀ B ∈ Bs, B ≠ []) → PySem.W.Sortable (Bs.map bD) := fun {Bs} h => .inl fun d hd => by
  obtain ⟨B, hB, rfl⟩ := List.mem_map.mp hd
  cases B with
  | nil => exact absurd rfl (h _ hB)
  | cons c B => exact ⟨_, _, rfl⟩
/-! ### dicts of bodies -/
/-- a dict whose keys are these bodies -/
def BDc (P : Program) (w : World) (H : Hp) (a : Addr) (E : List NEnt) (Bs : List (List Cell)) : Prop := DN P w H a E ∧ Paired (fun l B => CellsT H l.1 B ∧ l.2.1 = keyB B) E Bs
theorem BDc.nat {P : Program} {w : World} {K : PySem.W.Frag} {H : Hp} {a : Addr} {E : List NEnt} {Bs : List (List Cell)} (h : BDc P w H a E Bs) : ∀ l ∈ E, NAt K H l.1 l.2.1 := fun l hl => by
  obtain ⟨B, _, c, e⟩ := paired_memL h.2 l hl
  rw [e]
  exact c.natB
theorem DN.same {P : Program} {w : World} {H G : Hp} {a : Addr} {E : List NEnt} (h : DN P w H a E) (k : Same H G) : DN P w G a E := by
  rcases h with e | ⟨z, e⟩
  · exact .inl (k _ _ e)
  · exact .inr ⟨z, k _ _ e⟩
theorem BDc.same {P : Program} {w : World} {H G : Hp} {a : Addr} {E : List NEnt} {Bs : List (List Cell)} (h : BDc P w H a E Bs) (k : Same H G) : BDc P w G a E Bs :=
  ⟨h.1.same k, paired_imp (fun _ _ ⟨c, e⟩ => ⟨c.same k, e⟩) h.2⟩
theorem BDc.val {P : Program} {w : World} {H : Hp} {a : Addr} {E : List NEnt} {Bs : List (List Cell)} (h : BDc P w H a E Bs) (B : List Cell) : (valN E (keyB B)).isSome = decide (B ∈ Bs) := by
  have pr := h.2
  clear h
  unfold valN
  rw [Option.isSome_map]
  induction pr with
  | nil => rfl
  | @cons l M E Bs r _ ih =>
    rw [List.find?_cons]
    by_cases z : l.2.1 = keyB B
    · rw [decide_eq_true z]
      have : B = M := keyB_inj (z.symm.trans r.2)
      rw [this, decide_eq_true (List.mem_cons_self ..)]
      rfl
    · rw [decide_eq_false z]
      have ne : B ≠ M := fun q => z (by rw [r.2, q])
      dsimp only
      rw [ih, Bool.eq_iff_iff, decide_eq_true_iff, decide_eq_true_iff]
      simp [ne]
/-- one more body -/
def putB (Bs : List (List Cell)) (B : List Cell) : List (List Cell) := if B ∈ Bs then Bs else Bs ++ [B]
theorem putB_len (Bs : List (List Cell)) (B : List Cell) : (putB Bs B).length ≤ Bs.length + 1 := by
  unfold putB
  split
  · exact Nat.le_succ _
  · rw [List.length_append]
    exact Nat.le_refl _
theorem putB_mem {Bs : List (List Cell)} {B M : List Cell} : M ∈ putB Bs B ↔ M ∈ Bs ∨ M = B := by
  unfold putB
  split
  · rename_i h
    exact ⟨.inl, fun z => z.elim id fun q => q ▸ h⟩
  · simp
theorem putB_nd {Bs : List (List Cell)} {B : List Cell} (h : Bs.Nodup) : (putB Bs B).Nodup := by
  unfold putB
  split
  · exact h
  · rename_i n
    exact List.nodup_append.mpr ⟨h, List.pairwise_singleton _ _, fun a ha b hb z => n (List.mem_singleton.mp hb ▸ z ▸ ha)⟩
theorem BDc.put {P : Program} {w : World} {H : Hp} {a b : Addr} {E : List NEnt} {Bs : List (List Cell)} {B : List Cell} {v : V} (h : BDc P w H a E Bs) (cb : CellsT H b B) : BDc P w (upd H a (DNO P w a (putN E b (keyB B) v))) a (putN E b (keyB B) v) (putB Bs B) := by
  have tk : Tk H (upd H a (DNO P w a (putN E b (keyB B) v))) := by
    rcases h.1 with e | ⟨_, e⟩
    · exact tk_upd e fun xs z => nomatch z
    · exact tk_upd e fun xs z => nomatch z
  generalize eU : upd H a (DNO P w a (putN E b (keyB B) v)) = U at tk
  have pr : Paired (fun l B => CellsT U l.1 B ∧ l.2.1 = keyB B) E Bs := paired_imp (fun _ _ ⟨c, e⟩ => ⟨cellsT_tu c tk, e⟩) h.2
  refine ⟨.inl (by rw [← eU]; exact upd_same), ?_⟩
  have hv := h.val B
  unfold putN putB
  rw [valN_any, hv]
  by_cases m : B ∈ Bs
  · rw [decide_eq_true m, if_pos rfl, if_pos m]
    clear hv m h eU
    induction pr with
    | nil => exact .nil
    | @cons l M E Bs r _ ih =>
      refine .cons ?_ ih
      dsimp only
      split
      · exact r
      · exact r
  · rw [decide_eq_false m, if_neg (by simp), if_neg m]
    exact pr.snoc ⟨cellsT_tu cb tk, rfl⟩
theorem BDc.len {P : Program} {w : World} {H : Hp} {a : Addr} {E : List NEnt} {Bs : List (List Cell)} (h : BDc P w H a E Bs) : E.length = Bs.length := Paired.length h.2
theorem BDc.dps {P : Program} {w : World} {K : PySem.W.Frag} {H : Hp} {a : Addr} {E : List NEnt} {Bs : List (List Cell)} (h : BDc P w H a E Bs) : Paired (fun l b => CellsT H l.1 b ∧ Dp K H (.ref l.1) (bD b)) E Bs := paired_imp (fun _ _ ⟨c, _⟩ => ⟨c, c.dp⟩) h.2
end Sq

set_option Elab.async false
set_option linter.all false
set_option maxRecDepth 100000
set_option maxHeartbeats 4000000
/-! Shapes: bodies moved to the corner; how they grow. -/
namespace Sq
open PySem PySem.Spec PyProof.Rows L2
/-- the least of some numbers -/
def loI : List Int → Int
  | [] => 0
  | [x] => x
  | x :: y :: xs => if x ≤ loI (y :: xs) then x else loI (y :: xs)
theorem loI_is : ∀ {xs : List Int}, xs ≠ [] → loI xs ∈ xs ∧ ∀ x ∈ xs, loI xs ≤ x
  | [], h => absurd rfl h
  | [x], _ => ⟨List.mem_singleton.mpr rfl, fun y hy => by rw [List.mem_singleton.mp hy]; exact Int.le_refl _⟩
  | x :: y :: xs, _ => by
    obtain ⟨h1, h2⟩ := loI_is (xs := y :: xs) (by simp)
    unfold loI
    by_cases h : x ≤ loI (y :: xs)
    · rw [if_pos h]
      refine ⟨List.mem_cons_self .., fun z hz => ?_⟩
      rcases List.mem_cons.mp hz with e | e
      · rw [e]; exact Int.le_refl _
      · exact Int.le_trans h (h2 z e)
    · rw [if_neg h]
      refine ⟨List.mem_cons_of_mem _ h1, fun z hz => ?_⟩
      rcases List.mem_cons.mp hz with e | e
      · rw [e]; omega
      · exact h2 z e
theorem loI_of {xs : List Int} {m : Int} (hm : m ∈ xs) (h : ∀ x ∈ xs, m ≤ x) : loI xs = m := by
  obtain ⟨h1, h2⟩ := loI_is (xs := xs) (List.ne_nil_of_mem hm)
  exact Int.le_antisymm (h2 m hm) (h _ h1)
theorem loI_mem {xs ys : List Int} (h : ∀ x, x ∈ xs ↔ x ∈ ys) : loI xs = loI ys := by
  cases ys with
  | nil =>
    cases xs with
    | nil => rfl
    | cons x xs => exact absurd ((h x).mp (List.mem_cons_self ..)) (by simp)
  | cons y ys =>
    obtain ⟨h1, h2⟩ := loI_is (xs := y :: ys) (by simp)
    exact loI_of ((h _).mpr h1) fun x hx => h2 x ((h x).mp hx)
theorem loI_add {xs : List Int} {b : Int} (ne : xs ≠ []) : loI (xs.map (· + b)) = loI xs + b := by
  obtain ⟨h1, h2⟩ := loI_is ne
  refine loI_of (List.mem_map.mpr ⟨_, h1, rfl⟩) fun x hx => ?_
  obtain ⟨y, hy, rfl⟩ := List.mem_map.mp hx
  have := h2 y hy
  omega
/-- by what a body comes to the corner -/
def cornC (L : List Cell) : Cell := (-loI (L.map (·.1)), -loI (L.map (·.2)))
def ascC (L : List Cell) : List Cell := L.mergeSort fun a b => !cLt b a
theorem ascC_perm (L : List Cell) : (ascC L).Perm L := List.mergeSort_perm L _
theorem ascC_asc (L : List Cell) : Asc (ascC L) := by
  have pw := List.pairwise_mergeSort (le := fun a b : Cell => !cLt b a)
    (fun a b c h k => by
      have h : cLt b a = false := by simpa using h
      have k : cLt c b = false := by simpa using k
      have h := of_decide_eq_false h
      have k := of_decide_eq_false k
      show (!cLt c a) = true
      rw [show cLt c a = false from decide_eq_false (by omega)]
      rfl)
    (fun a b => by
      cases h : cLt b a with
      | false => rfl
      | true =>
        rw [cLt_asym h]
        rfl) L
  exact pw.imp fun {a b} h => by simpa using h
theorem ascC_of {A L : List Cell} (h : A.Perm L) (asc : Asc A) : A = ascC L :=
  List.Perm.eq_of_pairwise (le := fun x y => cLt y x = false) (fun x y _ _ h k => cLt_tri k h) asc (ascC_asc L) (h.trans (ascC_perm L).symm)
theorem ascC_eq {A L : List Cell} (h : A.Perm L) : ascC A = ascC L := ascC_of ((ascC_perm A).trans h) (ascC_asc A)
/-- the shape -/
def shp (L : List Cell) : List Cell := ascC (L.map (shC (cornC L)))
theorem cornC_mem {L M : List Cell} (h : ∀ x, x ∈ L ↔ x ∈ M) : cornC L = cornC M := by
  unfold cornC
  have e : ∀ f : Cell → Int, loI (L.map f) = loI (M.map f) := fun f => loI_mem fun x => by
    simp only [List.mem_map, h]
  rw [e, e]
theorem shp_perm {L M : List Cell} (h : L.Perm M) : shp L = shp M := by
  unfold shp
  rw [cornC_mem fun x => h.mem_iff]
  exact ascC_eq (h.map _)
theorem shp_asc {L : List Cell} (h : Asc L) : L.map (shC (cornC L)) = shp L := ascC_of (List.Perm.refl _) (asc_sh h)
theorem shp_len (L : List Cell) : (shp L).length = L.length := by
  unfold shp
  rw [(ascC_perm _).length_eq, List.length_map]
theorem shp_mem {L : List Cell} {x : Cell} : x ∈ shp L ↔ x ∈ L.map (shC (cornC L)) := (ascC_perm _).mem_iff
theorem shp_nd {L : List Cell} (h : L.Nodup) : (shp L).Nodup := (ascC_perm _).nodup_iff.mpr (nodup_sh h)
theorem shp_isAsc (L : List Cell) : Asc (shp L) := ascC_asc _
theorem shp_perm_self (L : List Cell) : (shp L).Perm (L.map (shC (cornC L))) := ascC_perm _
theorem cornC_sh {L : List Cell} {b : Cell} (ne : L ≠ []) : cornC (L.map (shC b)) = ((cornC L).1 - b.1, (cornC L).2 - b.2) := by
  unfold cornC
  have e1 : (L.map (shC b)).map (·.1) = (L.map (·.1)).map (· + b.1) := by rw [List.map_map, List.map_map]; rfl
  have e2 : (L.map (shC b)).map (·.2) = (L.map (·.2)).map (· + b.2) := by rw [List.map_map, List.map_map]; rfl
  have n1 : L.map (·.1) ≠ [] := fun z => ne (List.map_eq_nil_iff.mp z)
  have n2 : L.map (·.2) ≠ [] := fun z => ne (List.map_eq_nil_iff.mp z)
  rw [e1, e2, loI_add n1, loI_add n2]
  exact Prod.ext (by dsimp only; omega) (by dsimp only; omega)
theorem shC_shC (a b : Cell) (L : List Cell) : (L.map (shC a)).map (shC b) = L.map (shC (a.1 + b.1, a.2 + b.2)) := by
  rw [List.map_map]
  refine List.map_congr_left fun c _ => ?_
  unfold shC
  exact Prod.ext (by dsimp only [Function.comp]; omega) (by dsimp only [Function.comp]; omega)
theorem shp_sh {L : List Cell} {b : Cell} : shp (L.map (shC b)) = shp L := by
  by_cases ne : L = []
  · subst ne
    rfl
  unfold shp
  rw [cornC_sh ne, shC_shC]
  congr 2
  refine congrArg shC (Prod.ext ?_ ?_)
  · dsimp only; omega
  · dsimp only; omega
theorem shp_shp (L : List Cell) : shp (shp L) = shp L := by rw [shp_perm (shp_perm_self L), shp_sh]
theorem shp_hangs {L : List Cell} (h : Hangs L) : Hangs (shp L) := (hangs_perm fun x => shp_mem).mpr (hangs_sh.mpr h)
/-- the shapes of n squares -/
inductive IsShape : Nat → List Cell → Prop
  | one : IsShape 1 [(0, 0)]
  | more {n : Nat} {S : List Cell} {s c : Cell} : IsShape n S → s ∈ S → c ∈ besideC s → c ∉ S → IsShape (n + 1) (shp (S ++ [c]))
theorem IsShape.pos {n : Nat} {S : List Cell} (h : IsShape n S) : 1 ≤ n := by
  induction h with
  | one => exact Nat.le_refl _
  | more _ _ _ _ ih => exact Nat.le_succ_of_le ih
theorem nodup_snoc {S : List Cell} {c : Cell} (h : S.Nodup) (n : c ∉ S) : (S ++ [c]).Nodup := List.nodup_append.mpr ⟨h, List.pairwise_singleton _ _, fun a ha b hb z => n (List.mem_singleton.mp hb ▸ z ▸ ha)⟩
theorem IsShape.len {n : Nat} {S : List Cell} (h : IsShape n S) : S.length = n := by
  induction h with
  | one => rfl
  | more _ _ _ _ ih => rw [shp_len, List.length_append, ih]; rfl
theorem IsShape.nd {n : Nat} {S : List Cell} (h : IsShape n S) : S.Nodup := by
  induction h with
  | one => exact List.pairwise_singleton _ _
  | more _ _ _ nc ih => exact shp_nd (nodup_snoc ih nc)
theorem IsShape.asc {n : Nat} {S : List Cell} (h : IsShape n S) : Asc S := by
  cases h with
  | one => exact List.pairwise_singleton _ _
  | more _ _ _ _ => exact shp_isAsc _
theorem IsShape.ne {n : Nat} {S : List Cell} (h : IsShape n S) : S ≠ [] := fun z => by
  have := h.len
  have := h.pos
  rw [z] at *
  simp at *
  omega
theorem shp_one (a : Cell) : shp [a] = [(0, 0)] := by
  refine (shp_asc (List.pairwise_singleton _ a)).symm.trans ?_
  show [shC (-a.1, -a.2) a] = _
  unfold shC
  congr 1
  exact Prod.ext (by dsimp only; omega) (by dsimp only; omega)
theorem IsShape.shp {n : Nat} {S : List Cell} (h : IsShape n S) : shp S = S := by
  cases h with
  | one => exact shp_one _
  | more _ _ _ _ => exact shp_shp _
theorem hangs_snocX {S : List Cell} {s c : Cell} (h : Hangs S) (hs : s ∈ S) (hc : c ∈ besideC s) : Hangs (S ++ [c]) := by
  have r : ∀ {a b : Cell}, Reach S a b → Reach (S ++ [c]) a b := fun {a b} z => by
    induction z with
    | refl => exact .refl
    | step _ hb hc ih => exact ih.step hb (List.mem_append_left _ hc)
  have one : ∀ x ∈ S ++ [c], Reach (S ++ [c]) s x ∧ Reach (S ++ [c]) x s := fun x hx => by
    rcases List.mem_append.mp hx with m | m
    · exact ⟨r (h.2 s hs x m), r (h.2 x m s hs)⟩
    · rw [List.mem_singleton.mp m]
      refine ⟨Reach.refl.step hc (List.mem_append_right _ (List.mem_singleton.mpr rfl)), ?_⟩
      refine Reach.refl.step ?_ (List.mem_append_left _ hs)
      rw [beside_iff] at hc ⊢
      omega
  refine ⟨by simp, fun x hx y hy => ?_⟩
  have t : ∀ {a b d : Cell}, Reach (S ++ [c]) a b → Reach (S ++ [c]) b d → Reach (S ++ [c]) a d := fun {a b d} h1 h2 => by
    induction h2 with
    | refl => exact h1
    | step _ hb hc ih => exact ih.step hb hc
  exact t (one x hx).2 (one y hy).1
theorem IsShape.hangs {n : Nat} {S : List Cell} (h : IsShape n S) : Hangs S := by
  induction h with
  | one => exact ⟨by simp, fun x hx y hy => by rw [List.mem_singleton.mp hx, List.mem_singleton.mp hy]; exact .refl⟩
  | more _ hs hc _ ih => exact shp_hangs (hangs_snocX ih hs hc)
/-- what grows has such a shape -/
theorem grown_shape : ∀ (n : Nat) {A : List Cell}, A.length = n → Grown A → A.Nodup → A ≠ [] → IsShape A.length (shp A)
  | 0, A, l, _, _, ne => absurd (List.length_eq_zero_iff.mp l) ne
  | n + 1, A, l, g, nd, ne => by
    obtain ⟨A', x, rfl⟩ := snoc_inv ne
    have l' : A'.length = n := by rw [List.length_append] at l; exact Nat.succ.inj l
    by_cases z : A' = []
    · subst z
      rw [List.nil_append, shp_one]
      exact .one
    have nd' : A'.Nodup := (List.nodup_append.mp nd).1
    have nx : x ∉ A' := fun m => (List.nodup_append.mp nd).2.2 x m x (List.mem_singleton.mpr rfl) rfl
    have g' : Grown A' := by
      have := g.take A'.length
      rwa [List.take_left'  rfl] at this
    have ih := grown_shape n l' g' nd' z
    have lp : 0 < A'.length := List.length_pos_iff.mpr z
    obtain ⟨j, y, hj, hy, hb⟩ := g (A'.length - 1) x (by rw [Nat.sub_add_cancel lp]; simp)
    have hy' : y ∈ A' := by
      rw [List.getElem?_append_left (by omega)] at hy
      exact List.mem_of_getElem? hy
    have e : shp (A' ++ [x]) = shp (shp A' ++ [shC (cornC A') x]) := by
      rw [← shp_sh (L := A' ++ [x]) (b := cornC A'), List.map_append]
      exact shp_perm ((shp_perm_self A').symm.append_right _)
    rw [e, List.length_append]
    refine ih.more (s := shC (cornC A') y) (shp_mem.mpr (mem_sh.mpr hy')) (sh_beside hb) fun m => nx (mem_sh.mp (shp_mem.mp m))
theorem Grown.mapG {A : List Cell} {g : Cell → Cell} (k : ∀ a b, b ∈ besideC a → g b ∈ besideC (g a)) (h : Grown A) : Grown (A.map g) := fun i b hb => by
  rw [List.getElem?_map] at hb
  obtain ⟨c, hc, rfl⟩ := Option.map_eq_some_iff.mp hb
  obtain ⟨j, a, hj, ha, hb⟩ := h i c hc
  exact ⟨j, g a, hj, by rw [List.getElem?_map, ha]; rfl, k _ _ hb⟩
/-- what comes out of some shapes by one square more -/
def GrowB (Bs : List (List Cell)) (B : List Cell) : Prop := ∃ S ∈ Bs, ∃ s ∈ S, ∃ c ∈ besideC s, c ∉ S ∧ B = shp (S ++ [c])
/-- all shapes of n squares, each once -/
structure AllSh (n : Nat) (Bs : List (List Cell)) : Prop where
  nd : Bs.Nodup
  mem : ∀ B, B ∈ Bs ↔ IsShape n B
theorem allSh_one : AllSh 1 [[(0, 0)]] := by
  refine ⟨List.pairwise_singleton _ _, fun B => ⟨fun h => by rw [List.mem_singleton.mp h]; exact .one, fun h => ?_⟩⟩
  cases h with
  | one => exact List.mem_singleton.mpr rfl
  | more h _ _ _ => exact absurd h.pos (by omega)
theorem AllSh.grow {n : Nat} {Bs Cs : List (List Cell)} (h : AllSh n Bs) (n1 : 1 ≤ n) (nd : Cs.Nodup) (mem : ∀ B, B ∈ Cs ↔ GrowB Bs B) : AllSh (n + 1) Cs := by
  refine ⟨nd, fun B => (mem B).trans ⟨?_, fun k => ?_⟩⟩
  · rintro ⟨S, hS, s, hs, c, hc, nc, rfl⟩
    exact ((h.mem S).mp hS).more hs hc nc
  · cases k with
    | one => omega
    | more k hs hc nc => exact ⟨_, (h.mem _).mpr k, _, hs, _, hc, nc, rfl⟩
/-- how many there are at most -/
def growMax : Nat → Nat
  | 0 => 1
  | 1 => 1
  | n + 2 => growMax (n + 1) * (4 * (n + 1))
end Sq

set_option Elab.async false
set_option linter.all false
set_option maxRecDepth 100000
set_option maxHeartbeats 4000000
/-! frame_of, shape_of. -/
namespace Sq
open PySem PySem.Spec PyProof.Rows L2
theorem lc_ints {J : It} {n : Nat} {Gd : Hp → Prop} {Y : Nat → Hp → V → Hp → Prop} (w : Walk J n Gd Y) {g : TG} {tt : TT} {te : TE} {vs : List Nat} {σ : L2.St} {H1 : Hp} {D : Addr} {Qd : Hp → Prop} (hD : H1 D = none) (ns : List Int) (ln : ns.length = n) (hn : n ≤ 1000000)
    (hG : ∀ i G, i ≤ n → Same H1 G → Gd G)
    (hs : ∀ i x G G' (K1 : V → Hp → Prop) (K0 : Hp → Prop), i < n → Same H1 G → Y i G x G' → (∀ m H4, Same G H4 → ns[i]? = some m → K1 (.int m) H4) →
      g x (wipe σ vs) G' fun σ2 H2 => wipe σ2 vs = wipe σ vs ∧ tt σ2 H2 fun b H3 => if b = true then te σ2 H3 K1 else K0 H3)
    (hd : ∀ G, Same H1 G → G D = some (.lst (ns.map V.int)) → Qd G) :
    ∃ W : Nat → Nat → Hp → Prop, (∃ m, W 0 m (upd H1 D (.lst []))) ∧ ∀ i m H, W i m H →
      (J.stop i H ∧ Qd H) ∨ (J.go i H ∧ ∃ Nx : Hp → Prop, (∀ H', Nx H' → ∃ m', m' < m ∧ W (i + 1) m' H') ∧ ∀ x H', J.yld i H x H' → g x (wipe σ vs) H' fun σ2 H2 => wipe σ2 vs = wipe σ vs ∧ tt σ2 H2 fun b H3 =>
        if b = true then te σ2 H3 fun y H4 => ∃ acc, H4 D = some (.lst acc) ∧ acc.length < sizeLine ∧ Nx (upd H4 D (.lst (acc ++ [y]))) else Nx H3) := by
  refine lc_it w (fun i G => Same H1 G ∧ G D = some (.lst ((ns.take i).map V.int))) ⟨same_put same_refl hD, upd_same⟩ (fun i G hi p => hG i G hi p.1) ?_ ?_
  · rintro i x G G' hi ⟨sm, gD⟩ y
    refine hs i x G G' _ _ hi sm y fun m H4 s4 e => ?_
    refine ⟨_, s4 _ _ gD, by rw [List.length_map, List.length_take, sizeLine_eq]; omega, same_put (sm.trans s4) hD, ?_⟩
    rw [upd_same, take_snoc e, List.map_append]
    rfl
  · rintro G ⟨sm, gD⟩
    rw [← ln, List.take_length] at gD
    exact hd G sm gD
/-- frame_of(body) -/
def spFrame : Sp := fun vs H Q _ => ∃ (t : Addr) (L : List Cell), vs = [.ref t] ∧ CellsT H t L ∧ L.Nodup ∧ L ≠ [] ∧ L.length ≤ 1000 ∧
  ∀ r H' m n, Same H H' → H' r = some (.tup [.int (loI (L.map (·.1))), .int (loI (L.map (·.2))), .int m, .int n]) → Q (.ref r) H'
/-- shape_of(body) -/
def spShape : Sp := fun vs H Q _ => ∃ (t : Addr) (L : List Cell), vs = [.ref t] ∧ CellsT H t L ∧ L.Nodup ∧ L ≠ [] ∧ L.length ≤ 1000 ∧
  ∀ r H', Same H H' → CellsT H' r (L.map (shC (cornC L))) → Q (.ref r) H'
abbrev frN : List Str := ["body", "lot", "columns", "column", "row", "rows"]
section
variable {P : Program} {w : World} {K : PySem.W.Frag} {mg : Str → Option Value} {base : Heap}
theorem scFr : FnScope frN ["body"] (defScope gFrame) := ⟨rfl, rfl, rfl, by decide +kernel, rfl, by decide +kernel, by decide +kernel⟩
theorem ok_frame {f : Addr} {fd : FuncData} (F : FnP K "frame_of" gFrame f fd) (B : Bl mg) (DL : Df P w K mg base CX0 2 "lot_of" ["cells"] spLot) : FnOk P w K mg base CX0 3 f fd ["body"] spFrame := by
  refine F.ok scFr (fun vs H Q E h => ?_) (fun cdv A outer s H vs Q E hr h => ?_)
  · obtain ⟨t, L, rfl, _⟩ := h
    rfl
  · obtain ⟨t, L, rfl, ct, nL, ne, lL, k⟩ := h
    refine ⟨_, PSs.nox (pss_cons (ps_set (i := 1) scFr.nd rfl (.inl rfl) (pe_freeze (pe_df DL hr (by rfl) pass0 (pa_cons (pv 0) pa_nil))))
      (pss_cons (ps_setLc (i := 2) (own := [("column", 3), ("row", 4)]) (g := gTup K 2 (gCons (gName 3) (gCons (gName 4) gNil))) (tt := tYes) (by rfl) scFr.nd rfl rfl (sw_true rfl rfl rfl (by decide +kernel)) (pi_keys (pv 1)) (blkOk_by (N := frN) (sc := defScope gFrame) (by decide +kernel)) (fun _ _ _ _ _ => (pg_tup (by rfl) (pgs_cons (pg_name (i := 3) scFr.nd rfl (Or.inl rfl)) (pgs_cons (pg_name (i := 4) scFr.nd rfl (Or.inl rfl)) pgs_nil)))) (fun _ _ _ _ _ => pts_nil) (fun _ _ _ _ _ => (pv 3)))
      (pss_cons (ps_setLc (i := 5) (own := [("column", 3), ("row", 4)]) (g := gTup K 2 (gCons (gName 3) (gCons (gName 4) gNil))) (tt := tYes) (by rfl) scFr.nd rfl rfl (sw_true rfl rfl rfl (by decide +kernel)) (pi_keys (pv 1)) (blkOk_by (N := frN) (sc := defScope gFrame) (by decide +kernel)) (fun _ _ _ _ _ => (pg_tup (by rfl) (pgs_cons (pg_name (i := 3) scFr.nd rfl (Or.inl rfl)) (pgs_cons (pg_name (i := 4) scFr.nd rfl (Or.inl rfl)) pgs_nil)))) (fun _ _ _ _ _ => pts_nil) (fun _ _ _ _ _ => (pv 4)))
      (pss_one (ps_ret (pe_tup (pa_cons (pe_callB (cr_min rfl) (by rfl) B.min (by decide +kernel) (pa_cons (pv 2) pa_nil)) (pa_cons (pe_callB (cr_min rfl) (by rfl) B.min (by decide +kernel) (pa_cons (pv 5) pa_nil)) (pa_cons (pe_callB (cr_max rfl) (by rfl) B.max (by decide +kernel) (pa_cons (pv 2) pa_nil)) (pa_cons (pe_callB (cr_max rfl) (by rfl) B.max (by decide +kernel) (pa_cons (pv 5) pa_nil)) pa_nil)))))))))), ?_⟩
    refine ⟨_, rfl, t, L, rfl, ct, nL, lL, fun d H1 s1 hd ed => ?_⟩
    refine ⟨d, _, rfl, ed, trivial, fun od => ?_⟩
    have ef : upd H1 d (.frz od (.dT (lotK L))) d = some (.frz od (.dT (lotK L))) := upd_same
    have s2 : Same H (upd H1 d (.frz od (.dT (lotK L)))) := fun b o e => by
      rw [upd_ne (fun z => by rw [z, hd] at e; cases e)]
      exact s1 _ _ e
    have keyAt : ∀ {i : Nat} {ky : List Key} {v : V}, (lotK L)[i]? = some (ky, v) → ∃ c, L[i]? = some c ∧ ky = cK c := fun {i ky v} hk => by
      unfold lotK at hk
      rw [List.getElem?_map] at hk
      obtain ⟨c, hc, e⟩ := Option.map_eq_some_iff.mp hk
      exact ⟨c, hc, (Prod.mk.inj e).1.symm⟩
    generalize upd H1 d (.frz od (.dT (lotK L))) = H2 at ef s2
    refine ⟨_, rfl, d, od, rfl, .inr ⟨_, ef, fun D hD => ?_⟩⟩
    refine lc_ints walk_keysT hD (L.map (·.1)) (by rw [List.length_map, lot_len]) (by rw [lot_len]; omega) (fun i G _ sm => sm _ _ ef) ?_ ?_
    · rintro i x G G' K1 K0 hi sm ⟨rfl, ky, v, p, hk, rfl, hp⟩ k1
      obtain ⟨c, hc, rfl⟩ := keyAt hk
      have ac : At G' p c := hp
      exact ⟨p, _, rfl, SqT.of ac, rfl, _, _, rfl, _, _, rfl, rfl, rfl, yesT ⟨_, rfl, k1 c.1 _ same_refl (by rw [List.getElem?_map, hc]; rfl)⟩⟩
    intro G3 s3 e3
    have ef3 := s3 _ _ ef
    refine ⟨_, rfl, d, od, rfl, .inr ⟨_, ef3, fun D2 hD2 => ?_⟩⟩
    refine lc_ints walk_keysT hD2 (L.map (·.2)) (by rw [List.length_map, lot_len]) (by rw [lot_len]; omega) (fun i G _ sm => sm _ _ ef3) ?_ ?_
    · rintro i x G G' K1 K0 hi sm ⟨rfl, ky, v, p, hk, rfl, hp⟩ k1
      obtain ⟨c, hc, rfl⟩ := keyAt hk
      have ac : At G' p c := hp
      exact ⟨p, _, rfl, SqT.of ac, rfl, _, _, rfl, _, _, rfl, rfl, rfl, yesT ⟨_, rfl, k1 c.2 _ same_refl (by rw [List.getElem?_map, hc]; rfl)⟩⟩
    intro G4 s4 e4
    have e3' := s4 _ _ e3
    have lp : 0 < L.length := List.length_pos_iff.mpr ne
    refine ⟨_, rfl, D, _, rfl, SqL.of e3', by rw [List.length_map]; exact lp, fun m1 h1 h1' => ?_⟩
    refine ⟨_, rfl, D2, _, rfl, SqL.of e4, by rw [List.length_map]; exact lp, fun m2 h2 h2' => ?_⟩
    refine ⟨_, rfl, D, _, rfl, SqL.of e3', by rw [List.length_map]; exact lp, fun m3 h3 h3' => ?_⟩
    refine ⟨_, rfl, D2, _, rfl, SqL.of e4, by rw [List.length_map]; exact lp, fun m4 h4 h4' => ?_⟩
    rw [← loI_of h1 h1', ← loI_of h2 h2']
    refine ⟨four_le, fun r hr' => k r _ m3 m4 ((s2.trans s3).trans (s4.trans (same_new hr'))) upd_same⟩
theorem scShp : FnScope ["body", "frame"] ["body"] (defScope gShape) := ⟨rfl, rfl, rfl, by decide +kernel, rfl, by decide +kernel, by decide +kernel⟩
theorem ok_shape {f CB : Addr} {fd : FuncData} (F : FnP K "shape_of" gShape f fd) (DF : Df P w K mg base CX0 3 "frame_of" ["body"] spFrame) (DM : Df P w K mg base (L2.CX P w) 4 "moved" ["body", "by"] (spMoved K CB)) : FnOk P w K mg base CX0 5 f fd ["body"] spShape := by
  refine F.ok scShp (fun vs H Q E h => ?_) (fun cdv A outer s H vs Q E hr h => ?_)
  · obtain ⟨t, L, rfl, _⟩ := h
    rfl
  · obtain ⟨t, L, rfl, ct, nL, ne, lL, k⟩ := h
    refine ⟨_, PSs.nox (pss_cons (ps_set (i := 1) scShp.nd rfl (.inl rfl) (pe_df DF hr (by rfl) pass0 (pa_cons (pv 0) pa_nil)))
      (pss_one (ps_ret (pe_df DM hr (by rfl) (passes_call (W := fun _ _ _ _ => False) (E := fun _ _ _ => False) takes0 (fun _ _ _ _ h => h)) (pa_cons (pv 0) (pa_cons (pe_tup (pa_cons (pe_un un_neg (pe_ix (ix_tupK (K := K) rfl) (pv 1) pe_int (fun _ _ => rfl))) (pa_cons (pe_un un_neg (pe_ix (ix_tupK (K := K) rfl) (pv 1) pe_int (fun _ _ => rfl))) pa_nil))) pa_nil)))))), ?_⟩
    refine ⟨_, rfl, t, L, rfl, ct, nL, ne, lL, fun r H1 m n s1 e1 => ?_⟩
    refine ⟨_, rfl, _, rfl, _, _, _, _, rfl, rfl, SqT.of e1, at0, _, rfl, _, rfl, _, _, _, _, rfl, rfl, SqT.of e1, at1, _, rfl, two_le, fun q hq => ?_⟩
    have s2 := same_new (o := .tup [.int (-loI (L.map (·.1))), .int (-loI (L.map (·.2)))]) hq
    refine ⟨t, L, .ref q, rfl, ct.ek (.of (s1.trans s2)), nL, lL, .inr ⟨q, cornC L, rfl, upd_same, fun r H3 s3 c3 => k r H3 ((s1.trans s2).trans s3) c3⟩⟩
end
end Sq

set_option Elab.async false
set_option linter.all false
set_option maxRecDepth 100000
set_option maxHeartbeats 8000000
/-! All shapes, as the program finds them. -/
namespace Sq
open PySem PySem.Spec PyProof.Rows L2
/-- a dict of bodies that is being filled: what is in it so far -/
structure GsI (P : Program) (w : World) (H : Hp) (D : Addr) (dn : List Cell → Prop) (lim : Nat) (G : Hp) : Prop where
  sm : Same H G
  ex : ∃ E Fs, BDc P w G D E Fs ∧ Fs.Nodup ∧ (∀ B, B ∈ Fs ↔ dn B) ∧ Fs.length ≤ lim
theorem GsI.same {P : Program} {w : World} {H G G' : Hp} {D : Addr} {dn : List Cell → Prop} {lim : Nat} (I : GsI P w H D dn lim G) (k : Same G G') : GsI P w H D dn lim G' := by
  obtain ⟨E, Fs, h1, h2⟩ := I.ex
  exact ⟨I.sm.trans k, E, Fs, h1.same k, h2⟩
theorem GsI.weak {P : Program} {w : World} {H G : Hp} {D : Addr} {dn dm : List Cell → Prop} {lim lin : Nat} (I : GsI P w H D dn lim G) (k : ∀ B, dn B ↔ dm B) (l : lim ≤ lin) : GsI P w H D dm lin G := by
  obtain ⟨E, Fs, h1, h2, h3, h4⟩ := I.ex
  exact ⟨I.sm, E, Fs, h1, h2, fun B => (h3 B).trans (k B), Nat.le_trans h4 l⟩
theorem GsI.put {P : Program} {w : World} {K : PySem.W.Frag} {H G : Hp} {D r : Addr} {dn : List Cell → Prop} {lim : Nat} {B : List Cell} {v : V} {nx : Hp → Prop} (hD : H D = none) (I : GsI P w H D dn lim G) (big : lim < 16000000) (cr : CellsT G r B) (k : ∀ G', GsI P w H D (fun M => dn M ∨ M = B) (lim + 1) G' → Tk G G' → KpD D G G' → nx G') :
    ∃ (a b : Addr) (k : NK) (L : List NEnt), V.ref D = .ref a ∧ V.ref r = .ref b ∧ DN P w G a L ∧ (∀ l ∈ L, NAt K G l.1 l.2.1) ∧ NAt K G b k ∧ (putN L b k v).length ≤ sizeLine ∧ nx (upd G a (DNO P w a (putN L b k v))) := by
  obtain ⟨E, Fs, h1, h2, h3, h4⟩ := I.ex
  have tk : Tk G (upd G D (DNO P w D (putN E r (keyB B) v))) := by
    rcases h1.1 with e | ⟨_, e⟩
    · exact tk_upd e fun xs z => nomatch z
    · exact tk_upd e fun xs z => nomatch z
  refine ⟨D, r, keyB B, E, rfl, rfl, h1.1, h1.nat, cr.natB, ?_, k _ ⟨fun b o e => ?_, _, _, h1.put cr, putB_nd h2, fun M => ?_, ?_⟩ tk (fun b o nb e => by rw [upd_ne nb]; exact e)⟩
  · have := putN_len (L := E) (b := r) (k := keyB B) (v := v)
    have := h1.len
    rw [sizeLine_eq]
    omega
  · rw [upd_ne (fun z => by rw [z, hD] at e; cases e)]
    exact I.sm _ _ e
  · rw [putB_mem, h3]
  · have := putB_len Fs B
    omega
/-- one square more at the places of some squares -/
def AtSq (S : List Cell) (sq : List Cell) (B : List Cell) : Prop := ∃ s ∈ sq, ∃ c ∈ besideC s, c ∉ S ∧ B = shp (S ++ [c])
def AtCl (S : List Cell) (cl : List Cell) (B : List Cell) : Prop := ∃ c ∈ cl, c ∉ S ∧ B = shp (S ++ [c])
theorem growB_snoc {Bs : List (List Cell)} {S : List Cell} {B : List Cell} : GrowB (Bs ++ [S]) B ↔ GrowB Bs B ∨ AtSq S S B := by
  constructor
  · rintro ⟨T, hT, r⟩
    rcases List.mem_append.mp hT with h | h
    · exact .inl ⟨T, h, r⟩
    · rw [List.mem_singleton.mp h] at r
      exact .inr r
  · rintro (⟨T, hT, r⟩ | r)
    · exact ⟨T, List.mem_append_left _ hT, r⟩
    · exact ⟨S, List.mem_append_right _ (List.mem_singleton.mpr rfl), r⟩
theorem atSq_snoc {S sq : List Cell} {s : Cell} {B : List Cell} : AtSq S (sq ++ [s]) B ↔ AtSq S sq B ∨ AtCl S (besideC s) B := by
  constructor
  · rintro ⟨t, ht, r⟩
    rcases List.mem_append.mp ht with h | h
    · exact .inl ⟨t, h, r⟩
    · rw [List.mem_singleton.mp h] at r
      exact .inr r
  · rintro (⟨t, ht, r⟩ | r)
    · exact ⟨t, List.mem_append_left _ ht, r⟩
    · exact ⟨s, List.mem_append_right _ (List.mem_singleton.mpr rfl), r⟩
theorem atCl_snoc {S cl : List Cell} {c : Cell} {B : List Cell} : AtCl S (cl ++ [c]) B ↔ AtCl S cl B ∨ (c ∉ S ∧ B = shp (S ++ [c])) := by
  constructor
  · rintro ⟨t, ht, r⟩
    rcases List.mem_append.mp ht with h | h
    · exact .inl ⟨t, h, r⟩
    · rw [List.mem_singleton.mp h] at r
      exact .inr r
  · rintro (⟨t, ht, r⟩ | r)
    · exact ⟨t, List.mem_append_left _ ht, r⟩
    · exact ⟨c, List.mem_append_right _ (List.mem_singleton.mpr rfl), r⟩
theorem growB_ne {Bs : List (List Cell)} {B : List Cell} (h : GrowB Bs B) : B ≠ [] := by
  obtain ⟨S, _, s, _, c, _, _, rfl⟩ := h
  intro z
  have := shp_len (S ++ [c])
  rw [z, List.length_append] at this
  cases this
/-- grown_shapes(shapes) -/
def spGrownS : Sp := fun vs H Q _ => ∃ (a : Addr) (n : Nat) (Bs : List (List Cell)), vs = [.ref a] ∧ CellsLL H a Bs ∧ (∀ B ∈ Bs, B.Nodup ∧ B.length ≤ n) ∧ n ≤ 7 ∧ Bs.length * (4 * n) ≤ 10000000 ∧
  ∀ l H' Cs, Same H H' → CellsLL H' l Cs → Cs.Nodup → Cs.Pairwise bLe → (∀ B, B ∈ Cs ↔ GrowB Bs B) → Cs.length ≤ Bs.length * (4 * n) → Q (.ref l) H'
abbrev gsN : List Str := ["shapes", "found", "shape", "square", "near"]
theorem CellsLL.ek {H G : Hp} {l : Addr} {Bs : List (List Cell)} (h : CellsLL H l Bs) (k : Ek H G) : CellsLL G l Bs := by
  obtain ⟨ts, e, pr⟩ := h
  exact ⟨ts, k.lst e, paired_imp (fun _ _ h => h.ek k) pr⟩
section
variable {P : Program} {w : World} {K : PySem.W.Frag} {mg : Str → Option Value} {base : Heap}
theorem scGs : FnScope gsN ["shapes"] (defScope gGrownShapes) := ⟨rfl, rfl, rfl, by decide +kernel, rfl, by decide +kernel, by decide +kernel⟩
theorem ok_grownS {f : Addr} {fd : FuncData} (F : FnP K "grown_shapes" gGrownShapes f fd) (B : Bl mg) (DF : Df P w K mg base CX0 1 "four_beside" ["cell"] spFour) (DS : Df P w K mg base CX0 5 "shape_of" ["body"] spShape) : FnOk P w K mg base CX0 6 f fd ["shapes"] spGrownS := by
  refine F.ok scGs (fun vs H Q E h => ?_) (fun cdv A outer s H vs Q E hr h => ?_)
  · obtain ⟨a, n, Bs, rfl, _⟩ := h
    rfl
  · obtain ⟨a, n, Bs, rfl, ⟨ts, ea, prB⟩, okB, n7, few, k⟩ := h
    have h64 := room64 hr
    refine ⟨_, PSs.nox (pss_cons (ps_set (i := 1) scGs.nd rfl (.inl rfl) pe_dnewT)
      (pss_cons (ps_for PassesOwn.never rfl (pi_list (pv 0)) (pg_name (i := 2) scGs.nd rfl (.inl rfl))
      (pss_one (ps_for PassesOwn.never rfl (pi_tup (pv 2)) (pg_name (i := 3) scGs.nd rfl (.inl rfl))
        (pss_one (ps_for PassesOwn.never rfl (pi_tup (pe_df DF hr (by rfl) pass0 (pa_cons (pv 3) pa_nil))) (pg_name (i := 4) scGs.nd rfl (.inl rfl))
          (pss_one (ps_if (pt_cmpR (op_outT h64) (pv 4) (pv 2) (by rfl))
            (pss_one (ps_dputN h64 (pv 1) (pe_df DS hr (by rfl) pass0 (pa_cons (pe_tupleOf (by rfl) B.tuple (pe_callB cr_sortedC (by rfl) B.sorted (by decide +kernel) (pa_cons (pe_lst (StX.pa_star (pv 2) (pa_cons (pv 4) pa_nil))) pa_nil))) pa_nil)) pe_bl rfl))
            pss_nil)))))))
      (pss_one (ps_ret (pe_callB (cr_sortedN rfl h64) (by rfl) B.sorted (by decide +kernel) (pa_cons (pv 1) pa_nil)))))), ?_⟩
    intro D hD
    have s0 := same_new (o := .dT []) hD
    have e0 := upd_same (H := H) (a := D) (o := .dT [])
    have start : GsI P w H D (fun B => GrowB [] B) 0 (upd H D (.dT [])) := ⟨s0, [], [], ⟨.inr ⟨rfl, e0⟩, .nil⟩, List.nodup_nil, fun B => ⟨fun h => (nomatch h), fun ⟨S, hS, _⟩ => (nomatch hS)⟩, Nat.le_refl _⟩
    refine ⟨_, rfl, a, rfl, ⟨_, SqL.of (s0 _ _ ea)⟩, ?_⟩
    refine for_list (K := K) (a := a) (xs := ts.map V.ref) (fun i σ G => ∃ (v2 v3 v4 : Option V), σ = [some (.ref a), some (.ref D), v2, v3, v4] ∧ GsI P w H D (GrowB (Bs.take i)) (i * (4 * n)) G) ⟨none, none, none, rfl, start.weak (fun B => by rw [List.take_zero]) (by omega)⟩ (fun i σ G _ ⟨_, _, _, _, I⟩ => SqL.of (I.sm _ _ ea)) ?_ ?_
    · rintro i x σ G hi ⟨v2, v3, v4, rfl, I⟩
      rw [List.getElem?_map] at hi
      obtain ⟨t, ht, rfl⟩ := Option.map_eq_some_iff.mp hi
      obtain ⟨S, hS, cS⟩ := paired_get prB ht
      have iB : i < Bs.length := (List.getElem?_eq_some_iff.mp hS).1
      obtain ⟨nS, lS⟩ := okB S (List.mem_of_getElem? hS)
      obtain ⟨qs, et, pq⟩ := id cS
      have lq : qs.length = S.length := Paired.length pq
      have lim : i * (4 * n) + 4 * n ≤ 10000000 := by
        have h1 : (i + 1) * (4 * n) ≤ Bs.length * (4 * n) := Nat.mul_le_mul_right _ iB
        have h2 : (i + 1) * (4 * n) = i * (4 * n) + 4 * n := Nat.succ_mul _ _
        omega
      refine ⟨_, rfl, t, rfl, ⟨_, SqT.of (I.sm _ _ et)⟩, ?_⟩
      refine for_tup (K := K) (a := t) (xs := qs.map V.ref) (fun j σ G => ∃ (v3 v4 : Option V), σ = [some (.ref a), some (.ref D), some (.ref t), v3, v4] ∧ GsI P w H D (fun B => GrowB (Bs.take i) B ∨ AtSq S (S.take j) B) (i * (4 * n) + 4 * j) G) ⟨v3, v4, rfl, I.weak (fun B => ⟨.inl, fun h => h.elim id fun ⟨s, hs, _⟩ => by rw [List.take_zero] at hs; cases hs⟩) (by omega)⟩ (fun j σ G _ ⟨_, _, _, I⟩ => SqT.of (I.sm _ _ et)) ?_ ?_
      · rintro j x σ G hj ⟨v3, v4, rfl, I⟩
        rw [List.getElem?_map] at hj
        obtain ⟨q, hq, rfl⟩ := Option.map_eq_some_iff.mp hj
        obtain ⟨c, hc, ac⟩ := paired_get pq hq
        have jS : j < S.length := (List.getElem?_eq_some_iff.mp hc).1
        refine ⟨_, rfl, q, c, rfl, I.sm _ _ ac, fun fo G1 s1 hfo cfo => ?_⟩
        obtain ⟨ns, ef, pn⟩ := cfo
        have I1 := I.same s1
        have lb : ns.length = 4 := Paired.length pn
        refine ⟨fo, rfl, ⟨_, SqT.of ef⟩, ?_⟩
        refine for_tup (K := K) (a := fo) (xs := ns.map V.ref) (fun m σ G => ∃ (v4 : Option V), σ = [some (.ref a), some (.ref D), some (.ref t), some (.ref q), v4] ∧ Tk G1 G ∧ GsI P w H D (fun B => (GrowB (Bs.take i) B ∨ AtSq S (S.take j) B) ∨ AtCl S ((besideC c).take m) B) (i * (4 * n) + 4 * j + m) G) ⟨v4, rfl, Tk.refl, I1.weak (fun B => ⟨.inl, fun h => h.elim id fun ⟨s, hs, _⟩ => by rw [List.take_zero] at hs; cases hs⟩) (by omega)⟩ (fun j σ G _ ⟨_, _, tk, I⟩ => SqT.of (tk _ _ ef)) ?_ ?_
        · rintro m x σ G hm ⟨v4, rfl, tk, I⟩
          rw [List.getElem?_map] at hm
          obtain ⟨r, hr', rfl⟩ := Option.map_eq_some_iff.mp hm
          obtain ⟨d, hd, ad⟩ := paired_get pn hr'
          have m4 : m < 4 := by
            have := (List.getElem?_eq_some_iff.mp hr').1
            omega
          have ad : At G r d := tk _ _ ad
          have cG : CellsT G t S := cS.ek (.of I.sm)
          have sn := take_snoc hd
          refine ⟨_, rfl, _, rfl, r, t, d, S, rfl, rfl, ad, cG, _, rfl, ?_⟩
          refine ite2 (fun h1 => ?_) (fun h1 => ?_)
          · have nd : d ∉ S := by simpa using h1
            refine ⟨_, rfl, _, rfl, t, qs.map V.ref, rfl, .inl (SqT.of (I.sm _ _ et)), _, rfl, ?_⟩
            refine ⟨by rw [List.length_append, List.length_map, lq]; show S.length + 1 ≤ sizeLine; rw [sizeLine_eq]; omega, fun l1 hl1 => ?_⟩
            have s2 := same_new (o := .lst (qs.map V.ref ++ [V.ref r])) hl1
            have e2 : upd G l1 (.lst (qs.map V.ref ++ [V.ref r])) l1 = some (.lst ((qs ++ [r]).map V.ref)) := by rw [upd_same, List.map_append]; rfl
            generalize upd G l1 (.lst (qs.map V.ref ++ [V.ref r])) = G2 at s2 e2
            have pr2 : Paired (fun q c => At G2 q c) (qs ++ [r]) (S ++ [d]) := (paired_imp (fun _ _ h => (h.same I.sm).same s2) pq).snoc (ad.same s2)
            refine ⟨l1, _, _, rfl, SqL.of e2, pr2, fun so qs' cs' prq pm asc hso => .inl ⟨so, _, rfl, SqL.of upd_same, fun tp htp => ?_⟩⟩
            have s3 := same_new (o := .lst (qs'.map V.ref)) hso
            have s4 := same_new (o := .tup (qs'.map V.ref)) htp
            have e4 := upd_same (H := upd G2 so (.lst (qs'.map V.ref))) (a := tp) (o := .tup (qs'.map V.ref))
            have c4 : CellsT (upd (upd G2 so (.lst (qs'.map V.ref))) tp (.tup (qs'.map V.ref))) tp cs' := ⟨qs', e4, paired_imp (fun q c (h : At _ q c) => s4 _ _ (s3 _ _ h)) prq⟩
            have sA := (s2.trans s3).trans s4
            generalize upd (upd G2 so (.lst (qs'.map V.ref))) tp (.tup (qs'.map V.ref)) = G4 at sA c4
            have n4 : cs'.Nodup := pm.nodup_iff.mpr (nodup_snoc nS nd)
            have l4 : cs'.length = S.length + 1 := by rw [pm.length_eq, List.length_append]; rfl
            refine ⟨tp, cs', rfl, c4, n4, (fun z => by rw [z] at l4; cases l4), by omega, fun z G5 s5 c5 => ?_⟩
            rw [shp_asc asc, shp_perm pm] at c5
            have I5 := (I.same sA).same s5
            refine I5.put (K := K) hD (by omega) c5 fun G6 I6 tk6 _ => ⟨_, rfl, ((tk.trans (.of sA)).trans (.of s5)).trans tk6, I6.weak (fun B => ?_) (Nat.le_refl _)⟩
            rw [sn, atCl_snoc]
            constructor
            · rintro (h | h)
              · exact h.elim .inl fun h => .inr (.inl h)
              · exact .inr (.inr ⟨nd, h⟩)
            · rintro (h | h | h)
              · exact .inl (.inl h)
              · exact .inl (.inr h)
              · exact .inr h.2
          · have nd : d ∈ S := by simpa using h1
            refine ⟨_, rfl, tk, I.weak (fun B => ?_) (by omega)⟩
            rw [sn, atCl_snoc]
            constructor
            · rintro (h | h)
              · exact .inl h
              · exact .inr (.inl h)
            · rintro (h | h | h)
              · exact .inl h
              · exact .inr h
              · exact absurd nd h.1
        · rintro σ G ⟨v4, rfl, tk, I⟩
          refine ⟨_, _, rfl, I.weak (fun B => ?_) (by rw [List.length_map, lb]; omega)⟩
          rw [take_snoc hc, atSq_snoc]
          have e : (besideC c).take (ns.map V.ref).length = besideC c := by rw [List.length_map, Paired.length pn, List.take_length]
          rw [e]
          exact or_assoc
      · rintro σ G ⟨v3, v4, rfl, I⟩
        refine ⟨_, _, _, rfl, I.weak (fun B => ?_) ?_⟩
        · rw [take_snoc hS, growB_snoc]
          have e : S.take (qs.map V.ref).length = S := by rw [List.length_map, lq, List.take_length]
          rw [e]
        · have h2 : (i + 1) * (4 * n) = i * (4 * n) + 4 * n := Nat.succ_mul _ _
          rw [List.length_map, lq]
          omega
    · rintro σ G ⟨v2, v3, v4, rfl, I⟩
      obtain ⟨E, Fs, h1, h2, h3, h4⟩ := I.ex
      have lts : ts.length = Bs.length := Paired.length prB
      have e : Bs.take (ts.map V.ref).length = Bs := by rw [List.length_map, lts, List.take_length]
      rw [e] at h3
      rw [List.length_map, lts] at h4
      refine ⟨_, rfl, D, E, List Cell, bD, CellsT G, Fs, rfl, h1.1, h1.dps, alike_bD, sortableB (fun B hB => growB_ne ((h3 B).mp hB)), fun B _ => ⟨keyD_bD B, Nat.le_trans (lay_bD B).2 (by decide)⟩, fun ys p py hp => ?_⟩
      have s9 := same_new (o := .lst (ys.map V.ref)) hp
      have pm := List.mergeSort_perm Fs (PySem.W.dataLe false bD)
      refine k p _ _ (I.sm.trans s9) ⟨ys, upd_same, paired_imp (fun _ _ h => h.same s9) py⟩ (pm.nodup_iff.mpr h2) (b_sort Fs) (fun B => pm.mem_iff.trans (h3 B)) (by rw [pm.length_eq]; exact h4)
end
end Sq

set_option Elab.async false
set_option linter.all false
set_option maxRecDepth 100000
set_option maxHeartbeats 8000000
/-! All shapes of a number of squares; numbers that are none. -/
namespace Sq
open PySem PySem.Spec PyProof.Rows L2
/-- x is no whole number from 1 to m -/
def BadN (K : PySem.W.Frag) (H : Hp) (x : V) (m : Int) : Prop := (∃ T, Kd K H x T ∧ T ≠ "int") ∨ ∃ i : Int, x = .int i ∧ ¬ (1 ≤ i ∧ i ≤ m)
def spSize (K : PySem.W.Frag) (CB : Addr) : Sp := fun vs H Q E => ∃ (x : V) (m : Int), vs = [x, .int m] ∧ ((∃ i : Int, x = .int i ∧ 1 ≤ i ∧ i ≤ m ∧ Q (.int i) H) ∨ (BadN K H x m ∧ ∀ d, H d = none → E (.ref CB) (some d) (upd H d (.xd [("number", x), ("what", .str "n")]))))
def spShapesIn : Sp := fun vs H Q _ => ∃ n : Nat, vs = [.int (n : Int)] ∧ 1 ≤ n ∧ n ≤ 7 ∧ ∀ l H' Cs, Same H H' → CellsLL H' l Cs → AllSh n Cs → Cs.Pairwise bLe → Cs.length ≤ 3000000 → Q (.ref l) H'
def spAllShapes (K : PySem.W.Frag) (CB : Addr) : Sp := fun vs H Q E => ∃ x : V, vs = [x] ∧ ((∃ n : Nat, x = .int (n : Int) ∧ 1 ≤ n ∧ n ≤ 7 ∧ ∀ r H' Cs, Same H H' → CellsTT H' r Cs → AllSh n Cs → Cs.Pairwise bLe → Cs.length ≤ 3000000 → Q (.ref r) H') ∨ (BadN K H x 7 ∧ WayS H CB [("number", x), ("what", .str "n")] E))
theorem growMax_le : ∀ n, n ≤ 7 → growMax n ≤ 3000000 := fun n h => by
  have : n = 0 ∨ n = 1 ∨ n = 2 ∨ n = 3 ∨ n = 4 ∨ n = 5 ∨ n = 6 ∨ n = 7 := by omega
  rcases this with rfl | rfl | rfl | rfl | rfl | rfl | rfl | rfl <;> decide
section
variable {P : Program} {w : World} {K : PySem.W.Frag} {mg : Str → Option Value} {base : Heap}
theorem scCs : FnScope ["n", "most"] ["n", "most"] (defScope gCheckedSize) := ⟨rfl, rfl, rfl, by decide +kernel, rfl, by decide +kernel, by decide +kernel⟩
theorem ok_size {f CB fB : Addr} {fd : FuncData} (F : FnP K "checked_size" gCheckedSize f fd) (BN : ErrC P K mg "BadNumber" CB fB ["what", "number"]) (DW : Df P w K mg base CX0 1 "is_whole" ["value"] (spWhole K)) : FnOk P w K mg base (L2.CX P w) 2 f fd ["n", "most"] (spSize K CB) := by
  refine F.ok scCs (fun vs H Q E h => ?_) (fun cdv A outer s H vs Q E hr h => ?_)
  · obtain ⟨x, m, rfl, _⟩ := h
    rfl
  · have hr1 : Room 1 _ := hr.mono (by decide)
    refine ⟨_, pss_cons (ps_if (PW.pt (pw_or (pt_not (pt_val (pe_df DW hr (by rfl) pass0 (pa_cons (pv 0) pa_nil)))) (pw_or1 (pt_not (pt_chain op_le op_le pe_int (pv 0) (pv 1))))))
      (pss_one (ps_raise rfl (takes_of rfl rfl rfl rfl) (pmk_err BN.s (raises_own BN.ex BN.ty) hr1 BN.g (pa_cons pe_str (pa_cons (pv 0) pa_nil)))))
      pss_nil)
      (pss_one (ps_ret (pv 0))), ?_⟩
    obtain ⟨x, m, rfl, ⟨i, rfl, i1, im, k⟩ | ⟨bad, k⟩⟩ := h
    · refine ⟨_, rfl, _, "int", rfl, Kd.int, _, rfl, ?_⟩
      refine iteN (by simp) ?_
      refine ⟨_, rfl, _, _, rfl, rfl, true, congrArg V.bl (decide_eq_true i1), iteT ⟨_, rfl, _, _, rfl, rfl, true, congrArg V.bl (decide_eq_true im), ?_⟩⟩
      exact iteF ⟨_, rfl, k⟩
    · have go : ∀ {G : Hp}, G = H → ∀ d, G d = none → E (.ref CB) (some d) (upd G d (.xd ((["what", "number"] : List Str).zip [V.str "n", x]).reverse)) := fun {G} e d hd => by
        subst e
        exact k d hd
      rcases bad with ⟨T, kd, nT⟩ | ⟨i, rfl, ni⟩
      · refine ⟨_, rfl, x, T, rfl, kd, _, rfl, ?_⟩
        rw [beq_false_of_ne nT]
        exact iteT ⟨_, rfl, rfl, by simp, go rfl⟩
      · refine ⟨_, rfl, _, "int", rfl, Kd.int, _, rfl, ?_⟩
        refine iteN (by simp) ?_
        by_cases i1 : 1 ≤ i
        · have im : ¬ i ≤ m := fun z => ni ⟨i1, z⟩
          refine ⟨_, rfl, _, _, rfl, rfl, true, congrArg V.bl (decide_eq_true i1), iteT ⟨_, rfl, _, _, rfl, rfl, false, congrArg V.bl (decide_eq_false im), ?_⟩⟩
          exact iteT ⟨_, rfl, rfl, by simp, go rfl⟩
        · refine ⟨_, rfl, _, _, rfl, rfl, false, congrArg V.bl (decide_eq_false i1), iteN (by simp) ⟨false, rfl, ?_⟩⟩
          exact iteT ⟨_, rfl, rfl, by simp, go rfl⟩
theorem scSIn : FnScope ["many", "shapes", "_"] ["many"] (defScope gShapesIn) := ⟨rfl, rfl, rfl, by decide +kernel, rfl, by decide +kernel, by decide +kernel⟩
theorem ok_shapesIn {f : Addr} {fd : FuncData} (F : FnP K "shapes_in" gShapesIn f fd) (B : Bl mg) (DG : Df P w K mg base CX0 6 "grown_shapes" ["shapes"] spGrownS) : FnOk P w K mg base CX0 7 f fd ["many"] spShapesIn := by
  refine F.ok scSIn (fun vs H Q E h => ?_) (fun cdv A outer s H vs Q E hr h => ?_)
  · obtain ⟨n, rfl, _⟩ := h
    rfl
  · obtain ⟨n, rfl, n1, n7, k⟩ := h
    refine ⟨_, PSs.nox (pss_cons (ps_set (i := 1) scSIn.nd rfl (.inl rfl) (pe_lst (pa_cons (pe_tup (pa_cons (pe_tup (pa_cons pe_int (pa_cons pe_int pa_nil))) pa_nil)) pa_nil)))
      (pss_cons (ps_for PassesOwn.never rfl (pi_range1 (by rfl) B.range (pa_cons (pe_op op_sub (pv 0) pe_int) pa_nil)) (pg_name (i := 2) scSIn.nd rfl (.inl rfl))
      (pss_one (ps_set (i := 1) scSIn.nd rfl (.inl rfl) (pe_df DG hr (by rfl) pass0 (pa_cons (pv 1) pa_nil)))))
      (pss_one (ps_ret (pv 1))))), ?_⟩
    have one_le : (1 : Nat) ≤ sizeLine := by rw [sizeLine_eq]; decide
    refine ⟨two_le, fun q hq => ⟨one_le, fun t ht => ⟨one_le, fun l hl => ?_⟩⟩⟩
    have s1 := same_new (o := .tup [.int 0, .int 0]) hq
    have s2 := same_new (o := .tup [.ref q]) ht
    have s3 := same_new (o := .lst [.ref t]) hl
    have sA := (s1.trans s2).trans s3
    have aq : At _ q (0, 0) := s3 _ _ (s2 _ _ (upd_same (H := H) (a := q) (o := .tup [.int 0, .int 0])))
    have et := s3 _ _ (upd_same (H := upd H q (.tup [.int 0, .int 0])) (a := t) (o := .tup [.ref q]))
    have el := upd_same (H := upd (upd H q (.tup [.int 0, .int 0])) t (.tup [.ref q])) (a := l) (o := .lst [.ref t])
    have cl : CellsLL (upd (upd (upd H q (.tup [.int 0, .int 0])) t (.tup [.ref q])) l (.lst [.ref t])) l [[(0, 0)]] := ⟨[t], el, .cons ⟨[q], et, .cons aq .nil⟩ .nil⟩
    generalize upd (upd (upd H q (.tup [.int 0, .int 0])) t (.tup [.ref q])) l (.lst [.ref t]) = H1 at sA cl ⊢
    refine ⟨_, rfl, _, _, rfl, rfl, _, rfl, by omega, by omega, ?_⟩
    refine for_range (lo := 0) (n := ((n : Int) - 1).toNat) (fun i σ G => ∃ (l : Addr) (v2 : Option V) (Bs : List (List Cell)), σ = [some (.int (n : Int)), some (.ref l), v2] ∧ Same H G ∧ CellsLL G l Bs ∧ AllSh (i + 1) Bs ∧ Bs.Pairwise bLe ∧ Bs.length ≤ growMax (i + 1)) ⟨l, none, _, rfl, sA, cl, allSh_one, List.pairwise_singleton _ _, Nat.le_refl _⟩ ?_ ?_
    · rintro i σ G hi ⟨l, v2, Bs, rfl, sm, cG, al, pw, le⟩
      have i6 : i + 1 ≤ 6 := by omega
      have g1 : growMax (i + 2) = growMax (i + 1) * (4 * (i + 1)) := rfl
      have g2 := growMax_le (i + 2) (by omega)
      have lm : Bs.length * (4 * (i + 1)) ≤ growMax (i + 2) := by rw [g1]; exact Nat.mul_le_mul_right _ le
      refine ⟨_, rfl, l, i + 1, Bs, rfl, cG, fun B hB => ?_, by omega, by omega, fun l' G' Cs s4 c4 n4 p4 m4 l4 => ?_⟩
      · have := (al.mem B).mp hB
        exact ⟨this.nd, Nat.le_of_eq this.len⟩
      · exact ⟨l', _, Cs, rfl, sm.trans s4, c4, al.grow (Nat.le_add_left 1 i) n4 m4, p4, Nat.le_trans l4 lm⟩
    · rintro σ G ⟨l, v2, Bs, rfl, sm, cG, al, pw, le⟩
      have e : ((n : Int) - 1).toNat + 1 = n := by omega
      rw [e] at al le
      exact ⟨_, rfl, k l G Bs sm cG al pw (Nat.le_trans le (growMax_le n n7))⟩
theorem scAlS : FnScope ["n"] ["n"] (defScope gAllShapes) := ⟨rfl, rfl, rfl, by decide +kernel, rfl, by decide +kernel, by decide +kernel⟩
theorem ok_allShapes {f CB : Addr} {fd : FuncData} (F : FnP K "all_shapes" gAllShapes f fd) (B : Bl mg) (gM : ∃ t, mg "MOST" = some (.int 7 t)) (DC : Df P w K mg base (L2.CX P w) 2 "checked_size" ["n", "most"] (spSize K CB)) (DI : Df P w K mg base CX0 7 "shapes_in" ["many"] spShapesIn) :
    FnOk P w K mg base (L2.CX P w) 8 f fd ["n"] (spAllShapes K CB) := by
  obtain ⟨tM, gM⟩ := gM
  refine F.ok scAlS (fun vs H Q E h => ?_) (fun cdv A outer s H vs Q E hr h => ?_)
  · obtain ⟨x, rfl, _⟩ := h
    rfl
  · refine ⟨_, pss_one (ps_ret (pe_tupleOf (by rfl) B.tuple (pe_df DI hr (by rfl) pass0 (pa_cons (pe_df DC hr (by rfl) (passes_call (takes_of rfl rfl rfl rfl) (fun _ _ _ _ h => h)) (pa_cons (pv 0) (pa_cons (pe_glob (v := .int 7) (by rfl) gM ⟨tM, rfl⟩) pa_nil))) pa_nil)))), ?_⟩
    obtain ⟨x, rfl, ⟨n, rfl, n1, n7, k⟩ | ⟨bad, k⟩⟩ := h
    · refine ⟨_, rfl, _, 7, rfl, .inl ⟨(n : Int), rfl, by omega, by omega, ?_⟩⟩
      refine ⟨n, rfl, n1, n7, fun l H1 Cs s1 ⟨ts, el, pr⟩ al pw le => ?_⟩
      refine .inl ⟨l, _, rfl, SqL.of el, fun r hr' => ?_⟩
      have s2 := same_new (o := .tup (ts.map V.ref)) hr'
      exact k r _ Cs (s1.trans s2) ⟨ts, upd_same, paired_imp (fun _ _ h => h.same s2) pr⟩ al pw le
    · exact ⟨_, rfl, _, 7, rfl, .inr ⟨bad, k.from same_refl⟩⟩
end
end Sq

set_option Elab.async false
set_option linter.all false
set_option maxRecDepth 100000
set_option maxHeartbeats 8000000
/-! The law: cells beside, the shape. -/
namespace Sq
open PySem PySem.Spec PyProof.Rows L2
/-- the cells beside, in another order -/
def nbC (c : Cell) : List Cell := [(c.1 - 1, c.2), (c.1, c.2 - 1), (c.1, c.2 + 1), (c.1 + 1, c.2)]
theorem mem_nbC {c d : Cell} : d ∈ nbC c ↔ d ∈ besideC c := by
  unfold nbC besideC
  simp only [List.mem_cons, List.not_mem_nil, or_false]
  constructor
  · rintro (h | h | h | h) <;> simp [h]
  · rintro (h | h | h | h) <;> simp [h]
def spNBeside : Sp := fun vs H Q _ => ∃ (p : Addr) (c : Cell), vs = [.ref p] ∧ At H p c ∧ ∀ l H', Same H H' → H l = none → CellsL H' l (nbC c) → Q (.ref l) H'
def spNShape : Sp := fun vs H Q _ => ∃ (a : Addr) (L : List Cell), vs = [.ref a] ∧ (CellsL H a L ∨ CellsT H a L) ∧ L ≠ [] ∧ L.length ≤ 1000 ∧ ∀ r H', Same H H' → CellsT H' r (shp L) → Q (.ref r) H'
abbrev nsN : List Str := ["_law_cells", "_law_column", "_law_row", "_law_cell", "_law_x", "_law_y"]
section
variable {P : Program} {w : World} {K : PySem.W.Frag} {mg : Str → Option Value} {base : Heap}
theorem scNB : FnScope ["_law_cell"] ["_law_cell"] (defScope nBeside) := ⟨rfl, rfl, rfl, by decide +kernel, rfl, by decide +kernel, by decide +kernel⟩
theorem ok_nBeside {f : Addr} {fd : FuncData} (F : FnP K "_law_nb_beside" nBeside f fd) : FnOk P w K mg base CX0 1 f fd ["_law_cell"] spNBeside := by
  refine F.ok scNB (fun vs H Q E h => ?_) (fun cdv A outer s H vs Q E hr h => ?_)
  · obtain ⟨p, c, rfl, _⟩ := h
    rfl
  · obtain ⟨p, c, rfl, e, k⟩ := h
    refine ⟨_, PSs.nox (pss_one (ps_ret (pe_lst (pa_cons (pe_tup (pa_cons (pe_op op_sub (pe_ix (ix_tupK (K := K) rfl) (pv 0) pe_int (fun _ _ => rfl)) pe_int) (pa_cons (pe_ix (ix_tupK (K := K) rfl) (pv 0) pe_int (fun _ _ => rfl)) pa_nil))) (pa_cons (pe_tup (pa_cons (pe_ix (ix_tupK (K := K) rfl) (pv 0) pe_int (fun _ _ => rfl)) (pa_cons (pe_op op_sub (pe_ix (ix_tupK (K := K) rfl) (pv 0) pe_int (fun _ _ => rfl)) pe_int) pa_nil))) (pa_cons (pe_tup (pa_cons (pe_ix (ix_tupK (K := K) rfl) (pv 0) pe_int (fun _ _ => rfl)) (pa_cons (pe_op op_add (pe_ix (ix_tupK (K := K) rfl) (pv 0) pe_int (fun _ _ => rfl)) pe_int) pa_nil))) (pa_cons (pe_tup (pa_cons (pe_op op_add (pe_ix (ix_tupK (K := K) rfl) (pv 0) pe_int (fun _ _ => rfl)) pe_int) (pa_cons (pe_ix (ix_tupK (K := K) rfl) (pv 0) pe_int (fun _ _ => rfl)) pa_nil))) pa_nil))))))), ?_⟩
    refine ⟨_, rfl, _, _, _, _, rfl, rfl, SqT.of e, at0, _, _, rfl, rfl, _, rfl, _, _, _, _, rfl, rfl, SqT.of e, at1, two_le, fun t1 h1 => ?_⟩
    have s1 := same_new (o := .tup [.int (c.1 - 1), .int c.2]) h1
    refine ⟨_, rfl, _, _, _, _, rfl, rfl, SqT.of (s1 _ _ e), at0, _, rfl, _, _, _, _, rfl, rfl, SqT.of (s1 _ _ e), at1, _, _, rfl, rfl, two_le, fun t2 h2 => ?_⟩
    have s2 := same_new (o := .tup [.int c.1, .int (c.2 - 1)]) h2
    have e2 := s2 _ _ (s1 _ _ e)
    refine ⟨_, rfl, _, _, _, _, rfl, rfl, SqT.of e2, at0, _, rfl, _, _, _, _, rfl, rfl, SqT.of e2, at1, _, _, rfl, rfl, two_le, fun t3 h3 => ?_⟩
    have s3 := same_new (o := .tup [.int c.1, .int (c.2 + 1)]) h3
    have e3 := s3 _ _ e2
    refine ⟨_, rfl, _, _, _, _, rfl, rfl, SqT.of e3, at0, _, _, rfl, rfl, _, rfl, _, _, _, _, rfl, rfl, SqT.of e3, at1, two_le, fun t4 h4 => ?_⟩
    have s4 := same_new (o := .tup [.int (c.1 + 1), .int c.2]) h4
    refine ⟨four_le, fun t5 h5 => ?_⟩
    have s5 := same_new (o := .lst [.ref t1, .ref t2, .ref t3, .ref t4]) h5
    refine k t5 _ (((s1.trans s2).trans s3).trans s4 |>.trans s5) (s1.free (s2.free (s3.free (s4.free h5)))) ⟨[t1, t2, t3, t4], upd_same, ?_⟩
    refine .cons ?_ (.cons ?_ (.cons ?_ (.cons ?_ .nil)))
    · exact s5 _ _ (s4 _ _ (s3 _ _ (s2 _ _ upd_same)))
    · exact s5 _ _ (s4 _ _ (s3 _ _ upd_same))
    · exact s5 _ _ (s4 _ _ upd_same)
    · exact s5 _ _ upd_same
theorem scNSh : FnScope nsN ["_law_cells"] (defScope nShape) := ⟨rfl, rfl, rfl, by decide +kernel, rfl, by decide +kernel, by decide +kernel⟩
theorem ok_nShape {f : Addr} {fd : FuncData} (F : FnP K "_law_nb_shape" nShape f fd) (B : Bl mg) : FnOk P w K mg base CX0 1 f fd ["_law_cells"] spNShape := by
  refine F.ok scNSh (fun vs H Q E h => ?_) (fun cdv A outer s H vs Q E hr h => ?_)
  · obtain ⟨a, L, rfl, _⟩ := h
    rfl
  · obtain ⟨a, L, rfl, ca, ne, lL, k⟩ := h
    refine ⟨_, PSs.nox (pss_cons (ps_asg (pe_tup (pa_cons (pe_callB (cr_min rfl) (by rfl) B.min (by decide +kernel) (pa_cons (pe_lc (own := [("_law_cell", 3)]) (g := gName 3) (tt := tYes) rfl scNSh.nd (PI.or (pi_list (pv 0)) (pi_tup (pv 0))) (blkOk_by (N := nsN) (sc := defScope nShape) (by decide +kernel)) (fun _ _ _ _ _ => pg_name (i := 3) scNSh.nd rfl (Or.inl rfl)) (fun _ _ _ _ _ => pts_nil) (fun _ _ _ _ _ => (pe_ix (ix_tupK (K := K) rfl) (pv 3) pe_int (fun _ _ => rfl)))) pa_nil)) (pa_cons (pe_callB (cr_min rfl) (by rfl) B.min (by decide +kernel) (pa_cons (pe_lc (own := [("_law_cell", 3)]) (g := gName 3) (tt := tYes) rfl scNSh.nd (PI.or (pi_list (pv 0)) (pi_tup (pv 0))) (blkOk_by (N := nsN) (sc := defScope nShape) (by decide +kernel)) (fun _ _ _ _ _ => pg_name (i := 3) scNSh.nd rfl (Or.inl rfl)) (fun _ _ _ _ _ => pts_nil) (fun _ _ _ _ _ => (pe_ix (ix_tupK (K := K) rfl) (pv 3) pe_int (fun _ _ => rfl)))) pa_nil)) pa_nil))) (pg_tup (by rfl) (pgs_cons (pg_name (i := 1) scNSh.nd rfl (.inr rfl)) (pgs_cons (pg_name (i := 2) scNSh.nd rfl (.inr rfl)) pgs_nil))))
      (pss_one (ps_ret (pe_tupleOf (by rfl) B.tuple (pe_callB cr_sortedC (by rfl) B.sorted (by decide +kernel) (pa_cons (pe_lc (own := [("_law_x", 4), ("_law_y", 5)]) (g := gTup K 2 (gCons (gName 4) (gCons (gName 5) gNil))) (tt := tYes) rfl scNSh.nd (PI.or (pi_list (pv 0)) (pi_tup (pv 0))) (blkOk_by (N := nsN) (sc := defScope nShape) (by decide +kernel)) (fun _ _ _ _ _ => (pg_tup (by rfl) (pgs_cons (pg_name (i := 4) scNSh.nd rfl (Or.inl rfl)) (pgs_cons (pg_name (i := 5) scNSh.nd rfl (Or.inl rfl)) pgs_nil)))) (fun _ _ _ _ _ => pts_nil) (fun _ _ _ _ _ => (pe_tup (pa_cons (pe_op op_sub (pv 4) (pv 1)) (pa_cons (pe_op op_sub (pv 5) (pv 2)) pa_nil))))) pa_nil)))))), ?_⟩
    have lp : 0 < L.length := List.length_pos_iff.mpr ne
    have fin : ∀ {G : Hp} {rs : List Addr}, Same H G → ∀ D, G D = some (.lst (rs.map V.ref)) → Paired (fun q c => At G q c) rs (L.map fun c => (c.1 - loI (L.map (·.1)), c.2 - loI (L.map (·.2)))) → ∀ (so : Addr) (qs' : List Addr) (cs' : List Cell), Paired (fun q c => At G q c) qs' cs' → cs'.Perm (L.map fun c => (c.1 - loI (L.map (·.1)), c.2 - loI (L.map (·.2)))) → Asc cs' → G so = none → ∀ r, upd G so (.lst (qs'.map V.ref)) r = none → Q (.ref r) (upd (upd G so (.lst (qs'.map V.ref))) r (.tup (qs'.map V.ref))) := fun {G rs} sG D eD pr so qs' cs' prq pm asc hso r hr' => by
      have s3 := same_new (o := .lst (qs'.map V.ref)) hso
      have s4 := same_new (o := .tup (qs'.map V.ref)) hr'
      refine k r _ ((sG.trans s3).trans s4) ⟨qs', upd_same, ?_⟩
      have e : cs' = shp L := by
        refine ascC_of (pm.trans (.of_eq (List.map_congr_left fun c _ => ?_))) asc
        unfold shC cornC
        exact Prod.ext (by dsimp only; omega) (by dsimp only; omega)
      rw [← e]
      exact paired_imp (fun q c (h : At _ q c) => s4 _ _ (s3 _ _ h)) prq
    rcases ca with ⟨qs, ea, pr⟩ | ⟨qs, ea, pr⟩
    · have le : (qs.map V.ref).length = L.length := by rw [List.length_map, Paired.length pr]
      refine .inl ⟨_, rfl, a, rfl, ⟨_, SqL.of ea⟩, fun D1 hD1 => ?_⟩
      refine lc_ints (walk_list (K := K) (a := a) (xs := qs.map V.ref)) hD1 (L.map (·.1)) (by rw [List.length_map, le]) (by omega) (fun i G _ sm => SqL.of (sm _ _ ea)) ?_ ?_
      · rintro i x G G' K1 K0 hi sm ⟨rfl, hx⟩ k1
        rw [List.getElem?_map] at hx
        obtain ⟨q, hq, rfl⟩ := Option.map_eq_some_iff.mp hx
        obtain ⟨c, hc, ac⟩ := paired_get pr hq
        have ac : At G' q c := ac.same sm
        exact ⟨rfl, yesT ⟨_, rfl, _, _, _, _, rfl, rfl, SqT.of ac, at0, k1 c.1 _ same_refl (by rw [List.getElem?_map, hc]; rfl)⟩⟩
      intro G1 s1 e1
      refine ⟨D1, _, rfl, SqL.of e1, by rw [List.length_map]; exact lp, fun m1 h1 h1' => ?_⟩
      have ea1 := s1 _ _ ea
      refine .inl ⟨_, rfl, a, rfl, ⟨_, SqL.of ea1⟩, fun D2 hD2 => ?_⟩
      refine lc_ints (walk_list (K := K) (a := a) (xs := qs.map V.ref)) hD2 (L.map (·.2)) (by rw [List.length_map, le]) (by omega) (fun i G _ sm => SqL.of (sm _ _ ea1)) ?_ ?_
      · rintro i x G G' K1 K0 hi sm ⟨rfl, hx⟩ k1
        rw [List.getElem?_map] at hx
        obtain ⟨q, hq, rfl⟩ := Option.map_eq_some_iff.mp hx
        obtain ⟨c, hc, ac⟩ := paired_get pr hq
        have ac : At G' q c := (ac.same s1).same sm
        exact ⟨rfl, yesT ⟨_, rfl, _, _, _, _, rfl, rfl, SqT.of ac, at1, k1 c.2 _ same_refl (by rw [List.getElem?_map, hc]; rfl)⟩⟩
      intro G2 s2 e2
      refine ⟨D2, _, rfl, SqL.of e2, by rw [List.length_map]; exact lp, fun m2 h2 h2' => ?_⟩
      rw [← loI_of h1 h1', ← loI_of h2 h2']
      refine ⟨two_le, fun tq htq => ?_⟩
      have s2b := same_new (o := .tup [.int (loI (L.map (·.1))), .int (loI (L.map (·.2)))]) htq
      have etq := upd_same (H := G2) (a := tq) (o := .tup [.int (loI (L.map (·.1))), .int (loI (L.map (·.2)))])
      generalize upd G2 tq (.tup [.int (loI (L.map (·.1))), .int (loI (L.map (·.2)))]) = G3 at s2b etq
      have s12 := (s1.trans s2).trans s2b
      have ea2 := s12 _ _ ea
      refine ⟨tq, _, rfl, SqT.of etq, rfl, _, _, rfl, _, _, rfl, rfl, ?_⟩
      refine .inl ⟨_, rfl, a, rfl, ⟨_, SqL.of ea2⟩, fun D hD => ?_⟩
      refine lc_cells (walk_list (K := K) (a := a) (xs := qs.map V.ref)) hD (fun i => (L.take i).map fun c => (c.1 - loI (L.map (·.1)), c.2 - loI (L.map (·.2)))) rfl (by omega) (fun i G _ sm => SqL.of (sm _ _ ea2)) ?_ ?_
      · rintro i x G G' K1 K0 hi sm ⟨rfl, hx⟩ k1 k0
        rw [List.getElem?_map] at hx
        obtain ⟨q, hq, rfl⟩ := Option.map_eq_some_iff.mp hx
        obtain ⟨c, hc, ac⟩ := paired_get pr hq
        have ac : At G' q c := (ac.same s12).same sm
        refine ⟨q, _, rfl, SqT.of ac, rfl, _, _, rfl, _, _, rfl, rfl, rfl, yesT ⟨_, rfl, _, rfl, _, _, rfl, rfl, _, rfl, _, rfl, _, _, rfl, rfl, two_le, fun r hr' => ?_⟩⟩
        exact k1 r (c.1 - loI (L.map (·.1)), c.2 - loI (L.map (·.2))) _ (same_new hr') upd_same (by rw [take_snoc hc, List.map_append]; rfl)
      rintro G rs sG eD prs
      rw [le, List.take_length] at prs
      exact ⟨D, rs, _, rfl, SqL.of eD, prs, fun so qs' cs' prq pm asc hso => .inl ⟨so, _, rfl, SqL.of upd_same, fun tp htp => fin (s12.trans sG) D eD prs so qs' cs' prq pm asc hso tp htp⟩⟩
    · have le : (qs.map V.ref).length = L.length := by rw [List.length_map, Paired.length pr]
      refine .inr ⟨_, rfl, a, rfl, ⟨_, SqT.of ea⟩, fun D1 hD1 => ?_⟩
      refine lc_ints (walk_tup (K := K) (a := a) (xs := qs.map V.ref)) hD1 (L.map (·.1)) (by rw [List.length_map, le]) (by omega) (fun i G _ sm => SqT.of (sm _ _ ea)) ?_ ?_
      · rintro i x G G' K1 K0 hi sm ⟨rfl, hx⟩ k1
        rw [List.getElem?_map] at hx
        obtain ⟨q, hq, rfl⟩ := Option.map_eq_some_iff.mp hx
        obtain ⟨c, hc, ac⟩ := paired_get pr hq
        have ac : At G' q c := ac.same sm
        exact ⟨rfl, yesT ⟨_, rfl, _, _, _, _, rfl, rfl, SqT.of ac, at0, k1 c.1 _ same_refl (by rw [List.getElem?_map, hc]; rfl)⟩⟩
      intro G1 s1 e1
      refine ⟨D1, _, rfl, SqL.of e1, by rw [List.length_map]; exact lp, fun m1 h1 h1' => ?_⟩
      have ea1 := s1 _ _ ea
      refine .inr ⟨_, rfl, a, rfl, ⟨_, SqT.of ea1⟩, fun D2 hD2 => ?_⟩
      refine lc_ints (walk_tup (K := K) (a := a) (xs := qs.map V.ref)) hD2 (L.map (·.2)) (by rw [List.length_map, le]) (by omega) (fun i G _ sm => SqT.of (sm _ _ ea1)) ?_ ?_
      · rintro i x G G' K1 K0 hi sm ⟨rfl, hx⟩ k1
        rw [List.getElem?_map] at hx
        obtain ⟨q, hq, rfl⟩ := Option.map_eq_some_iff.mp hx
        obtain ⟨c, hc, ac⟩ := paired_get pr hq
        have ac : At G' q c := (ac.same s1).same sm
        exact ⟨rfl, yesT ⟨_, rfl, _, _, _, _, rfl, rfl, SqT.of ac, at1, k1 c.2 _ same_refl (by rw [List.getElem?_map, hc]; rfl)⟩⟩
      intro G2 s2 e2
      refine ⟨D2, _, rfl, SqL.of e2, by rw [List.length_map]; exact lp, fun m2 h2 h2' => ?_⟩
      rw [← loI_of h1 h1', ← loI_of h2 h2']
      refine ⟨two_le, fun tq htq => ?_⟩
      have s2b := same_new (o := .tup [.int (loI (L.map (·.1))), .int (loI (L.map (·.2)))]) htq
      have etq := upd_same (H := G2) (a := tq) (o := .tup [.int (loI (L.map (·.1))), .int (loI (L.map (·.2)))])
      generalize upd G2 tq (.tup [.int (loI (L.map (·.1))), .int (loI (L.map (·.2)))]) = G3 at s2b etq
      have s12 := (s1.trans s2).trans s2b
      have ea2 := s12 _ _ ea
      refine ⟨tq, _, rfl, SqT.of etq, rfl, _, _, rfl, _, _, rfl, rfl, ?_⟩
      refine .inr ⟨_, rfl, a, rfl, ⟨_, SqT.of ea2⟩, fun D hD => ?_⟩
      refine lc_cells (walk_tup (K := K) (a := a) (xs := qs.map V.ref)) hD (fun i => (L.take i).map fun c => (c.1 - loI (L.map (·.1)), c.2 - loI (L.map (·.2)))) rfl (by omega) (fun i G _ sm => SqT.of (sm _ _ ea2)) ?_ ?_
      · rintro i x G G' K1 K0 hi sm ⟨rfl, hx⟩ k1 k0
        rw [List.getElem?_map] at hx
        obtain ⟨q, hq, rfl⟩ := Option.map_eq_some_iff.mp hx
        obtain ⟨c, hc, ac⟩ := paired_get pr hq
        have ac : At G' q c := (ac.same s12).same sm
        refine ⟨q, _, rfl, SqT.of ac, rfl, _, _, rfl, _, _, rfl, rfl, rfl, yesT ⟨_, rfl, _, rfl, _, _, rfl, rfl, _, rfl, _, rfl, _, _, rfl, rfl, two_le, fun r hr' => ?_⟩⟩
        exact k1 r (c.1 - loI (L.map (·.1)), c.2 - loI (L.map (·.2))) _ (same_new hr') upd_same (by rw [take_snoc hc, List.map_append]; rfl)
      rintro G rs sG eD prs
      rw [le, List.take_length] at prs
      exact ⟨D, rs, _, rfl, SqL.of eD, prs, fun so qs' cs' prq pm asc hso => .inl ⟨so, _, rfl, SqL.of upd_same, fun tp htp => fin (s12.trans sG) D eD prs so qs' cs' prq pm asc hso tp htp⟩⟩
end
end Sq

set_option Elab.async false
set_option linter.all false
set_option maxRecDepth 100000
set_option maxHeartbeats 8000000
/-! The law: all shapes. -/
namespace Sq
open PySem PySem.Spec PyProof.Rows L2
/-- an empty cell beside it is there -/
theorem out_ex {S : List Cell} (ne : S ≠ []) : ∃ s ∈ S, ∃ c ∈ besideC s, c ∉ S := by
  obtain ⟨h1, h2⟩ := loI_is (xs := S.map fun c => -c.1) (fun z => ne (List.map_eq_nil_iff.mp z))
  obtain ⟨s, hs, e⟩ := List.mem_map.mp h1
  refine ⟨s, hs, (s.1 + 1, s.2), by simp [besideC], fun m => ?_⟩
  have := h2 _ (List.mem_map.mpr ⟨_, m, rfl⟩)
  rw [← e] at this
  dsimp only at this
  omega
theorem shape_ex : ∀ n, 1 ≤ n → ∃ B, IsShape n B
  | 0, h => absurd h (by omega)
  | 1, _ => ⟨_, .one⟩
  | n + 2, _ => by
    obtain ⟨B, hB⟩ := shape_ex (n + 1) (by omega)
    obtain ⟨s, hs, c, hc, nc⟩ := out_ex hB.ne
    exact ⟨_, hB.more hs hc nc⟩
theorem walk_keysN {P : Program} {w : World} {d : Addr} {o : Obj} {L : List NEnt} : Walk (ItN P w d o L) L.length (fun H => H d = some (.frz o (DNO P w d L))) (fun i H x H' => H' = H ∧ ∃ l, L[i]? = some l ∧ x = .ref l.1) :=
  ⟨fun _ _ hi q => ⟨q, hi⟩, fun _ q => ⟨q, Nat.le_refl _⟩, fun _ _ _ _ _ _ y => y⟩
theorem atCl_nb {S : List Cell} {s : Cell} {B : List Cell} : AtCl S (nbC s) B ↔ AtCl S (besideC s) B := by
  constructor
  · rintro ⟨c, hc, r⟩
    exact ⟨c, mem_nbC.mp hc, r⟩
  · rintro ⟨c, hc, r⟩
    exact ⟨c, mem_nbC.mpr hc, r⟩
theorem BDc.tk {P : Program} {w : World} {H G : Hp} {a : Addr} {E : List NEnt} {Bs : List (List Cell)} (h : BDc P w H a E Bs) (k : Tk H G) (e : G a = H a) : BDc P w G a E Bs :=
  ⟨by unfold DN; rw [e]; exact h.1, paired_imp (fun _ _ ⟨c, e⟩ => ⟨cellsT_tu c k, e⟩) h.2⟩
def spNShapes : Sp := fun vs H Q _ => ∃ n : Nat, vs = [.int (n : Int)] ∧ 1 ≤ n ∧ n ≤ 7 ∧ ∀ l H' Cs, Same H H' → CellsLL H' l Cs → AllSh n Cs → Cs.Pairwise bLe → Q (.ref l) H'
abbrev nssN : List Str := ["_law_many", "_law_found", "_law_lap", "_law_more", "_law_shape", "_law_square", "_law_cell"]
section
variable {P : Program} {w : World} {K : PySem.W.Frag} {mg : Str → Option Value} {base : Heap}
theorem scNSs : FnScope nssN ["_law_many"] (defScope nShapes) := ⟨rfl, rfl, rfl, by decide +kernel, rfl, by decide +kernel, by decide +kernel⟩
theorem ok_nShapes {f : Addr} {fd : FuncData} (F : FnP K "_law_nb_shapes" nShapes f fd) (B : Bl mg) (DB : Df P w K mg base CX0 1 "_law_nb_beside" ["_law_cell"] spNBeside) (DS : Df P w K mg base CX0 1 "_law_nb_shape" ["_law_cells"] spNShape) : FnOk P w K mg base CX0 2 f fd ["_law_many"] spNShapes := by
  refine F.ok scNSs (fun vs H Q E h => ?_) (fun cdv A outer s H vs Q E hr h => ?_)
  · obtain ⟨n, rfl, _⟩ := h
    rfl
  · obtain ⟨n, rfl, n1, n7, k⟩ := h
    have h64 := room64 hr
    have one_le : (1 : Nat) ≤ sizeLine := by rw [sizeLine_eq]; decide
    refine ⟨_, PSs.nox (pss_cons (ps_set (i := 1) scNSs.nd rfl (.inl rfl) (pe_dispN h64 (pe_tup (pa_cons (pe_tup (pa_cons pe_int (pa_cons pe_int pa_nil))) pa_nil)) pe_bl))
      (pss_cons (ps_for PassesOwn.never rfl (pi_range1 (by rfl) B.range (pa_cons (pe_op op_sub (pv 0) pe_int) pa_nil)) (pg_name (i := 2) scNSs.nd rfl (.inl rfl))
      (pss_cons (ps_set (i := 3) scNSs.nd rfl (.inl rfl) pe_dnewT)
        (pss_cons (ps_lock (ps_for PassesOwn.never rfl (pi_keysN (pv 1)) (pg_name (i := 4) scNSs.nd rfl (.inl rfl))
        (pss_one (ps_for PassesOwn.never rfl (pi_tup (pv 4)) (pg_name (i := 5) scNSs.nd rfl (.inl rfl))
          (pss_one (ps_for PassesOwn.never rfl (pi_list (pe_df DB hr (by rfl) pass0 (pa_cons (pv 5) pa_nil))) (pg_name (i := 6) scNSs.nd rfl (.inl rfl))
            (pss_one (ps_if (pt_cmpR (op_outT h64) (pv 6) (pv 4) (by rfl))
              (pss_one (ps_dputN h64 (pv 3) (pe_df DS hr (by rfl) pass0 (pa_cons (pe_op op_catA (pv 4) (pe_tup (pa_cons (pv 6) pa_nil))) pa_nil)) pe_bl rfl))
              pss_nil))))))))
        (pss_one (ps_set (i := 1) scNSs.nd rfl (.inl rfl) (pv 3))))))
      (pss_one (ps_ret (pe_callB (cr_sortedN rfl h64) (by rfl) B.sorted (by decide +kernel) (pa_cons (pv 1) pa_nil)))))), ?_⟩
    intro d0 hd0
    have s0 := same_new (o := .dT []) hd0
    have e0 := upd_same (H := H) (a := d0) (o := .dT [])
    generalize upd H d0 (.dT []) = H1 at s0 e0
    refine ⟨two_le, fun q hq => ⟨one_le, fun t ht => ?_⟩⟩
    have s1 := same_new (o := .tup [.int 0, .int 0]) hq
    have s2 := same_new (o := .tup [.ref q]) ht
    have sA := s1.trans s2
    have aq : At _ q (0, 0) := s2 _ _ (upd_same (H := H1) (a := q) (o := .tup [.int 0, .int 0]))
    have et := upd_same (H := upd H1 q (.tup [.int 0, .int 0])) (a := t) (o := .tup [.ref q])
    generalize upd (upd H1 q (.tup [.int 0, .int 0])) t (.tup [.ref q]) = H2 at sA aq et
    have ct : CellsT H2 t [(0, 0)] := ⟨[q], et, .cons aq .nil⟩
    have ed2 := sA _ _ e0
    have bd0 : BDc P w H2 d0 [] [] := ⟨.inr ⟨rfl, ed2⟩, .nil⟩
    have bd1 := bd0.put (v := .bl true) ct
    refine ⟨t, keyB [(0, 0)], rfl, ct.natB, ed2, ?_⟩
    have sm1 : Same H (upd H2 d0 (DNO P w d0 [(t, keyB [(0, 0)], .bl true)])) := fun b o e => by
      rw [upd_ne (fun z => by rw [z, hd0] at e; cases e)]
      exact sA _ _ (s0 _ _ e)
    have bd1 : BDc P w (upd H2 d0 (DNO P w d0 [(t, keyB [(0, 0)], .bl true)])) d0 [(t, keyB [(0, 0)], .bl true)] [[(0, 0)]] := bd1
    have ed1 : upd H2 d0 (DNO P w d0 [(t, keyB [(0, 0)], .bl true)]) d0 = some (DNO P w d0 [(t, keyB [(0, 0)], .bl true)]) := upd_same
    refine ⟨_, rfl, _, _, rfl, rfl, _, rfl, by omega, by omega, ?_⟩
    refine for_range (lo := 0) (n := ((n : Int) - 1).toNat) (fun i σ G => ∃ (d : Addr) (v2 v3 v4 v5 v6 : Option V) (E : List NEnt) (Bs : List (List Cell)), σ = [some (.int (n : Int)), some (.ref d), v2, v3, v4, v5, v6] ∧ H d = none ∧ Same H G ∧ BDc P w G d E Bs ∧ AllSh (i + 1) Bs ∧ Bs.length ≤ growMax (i + 1))
      ⟨d0, none, none, none, none, none, _, _, rfl, hd0, sm1, bd1, allSh_one, Nat.le_refl _⟩ ?_ ?_
    · rintro i σ G hi ⟨d, v2, v3, v4, v5, v6, E, Bs, rfl, hd, sm, bd, al, le⟩
      have i6 : i + 1 ≤ 6 := by omega
      have g1 : growMax (i + 2) = growMax (i + 1) * (4 * (i + 1)) := rfl
      have g2 := growMax_le (i + 2) (by omega)
      have lm : Bs.length * (4 * (i + 1)) ≤ growMax (i + 2) := by rw [g1]; exact Nat.mul_le_mul_right _ le
      have eG : G d = some (DNO P w d E) := by
        rcases bd.1 with e | ⟨z, _⟩
        · exact e
        · obtain ⟨B1, hB1⟩ := shape_ex (i + 1) (by omega)
          have m := (al.mem B1).mpr hB1
          have := bd.len
          rw [z] at this
          rw [List.length_eq_zero_iff.mp this.symm] at m
          cases m
      intro D hD
      have nDd : D ≠ d := fun z => by rw [z, eG] at hD; cases hD
      have sD := same_new (o := .dT []) hD
      refine ⟨d, _, sD _ _ eG, trivial, fun od => ?_⟩
      -- the locked heap, without the new dict
      obtain ⟨Hb, eHb⟩ : ∃ Hb, Hb = upd G d (.frz od (DNO P w d E)) := ⟨_, rfl⟩
      have hDb : Hb D = none := by rw [eHb, upd_ne nDd]; exact hD
      have edb : Hb d = some (.frz od (DNO P w d E)) := by rw [eHb]; exact upd_same
      have tkb : Tk G Hb := by rw [eHb]; exact tk_upd eG fun xs z => nomatch z
      have start : GsI P w Hb D (fun B => GrowB [] B) 0 (upd (upd G D (.dT [])) d (.frz od (DNO P w d E))) := by
        refine ⟨fun b o e => ?_, [], [], ⟨.inr ⟨rfl, by rw [upd_ne nDd]; exact upd_same⟩, .nil⟩, List.nodup_nil, fun B => ⟨fun h => (nomatch h), fun ⟨S, hS, _⟩ => (nomatch hS)⟩, Nat.le_refl _⟩
        by_cases z : b = d
        · rw [z, edb] at e
          rw [z, upd_same]
          exact e
        · rw [upd_ne z]
          rw [eHb, upd_ne z] at e
          exact sD _ _ e
      have prE := paired_imp (fun (l : NEnt) (B : List Cell) (h : CellsT G l.1 B ∧ l.2.1 = keyB B) => cellsT_tu h.1 tkb) bd.2
      have lE := bd.len
      generalize upd (upd G D (.dT [])) d (.frz od (DNO P w d E)) = G1 at start
      refine ⟨_, rfl, d, od, E, rfl, start.sm _ _ edb, ?_⟩
      refine for_it walk_keysN (fun j σ G => ∃ (v4 v5 v6 : Option V), σ = [some (.int (n : Int)), some (.ref d), some (.int (0 + (i : Int))), some (.ref D), v4, v5, v6] ∧ GsI P w Hb D (GrowB (Bs.take j)) (j * (4 * (i + 1))) G) ⟨v4, v5, v6, rfl, start.weak (fun B => by rw [List.take_zero]) (by omega)⟩ (fun j σ G _ ⟨_, _, _, _, I⟩ => I.sm _ _ edb) ?_ ?_
      · rintro j x σ G2 G2' hj ⟨v4, v5, v6, rfl, I⟩ ⟨rfl, l, hl, rfl⟩
        obtain ⟨S, hS, cS⟩ := paired_get prE hl
        have jB : j < Bs.length := (List.getElem?_eq_some_iff.mp hS).1
        have okS := (al.mem S).mp (List.mem_of_getElem? hS)
        have nS := okS.nd
        have lS := okS.len
        obtain ⟨qs, et, pq⟩ := id cS
        have lq : qs.length = S.length := Paired.length pq
        have lim : j * (4 * (i + 1)) + 4 * (i + 1) ≤ 3000000 := by
          have h1 : (j + 1) * (4 * (i + 1)) ≤ Bs.length * (4 * (i + 1)) := Nat.mul_le_mul_right _ jB
          have h2 : (j + 1) * (4 * (i + 1)) = j * (4 * (i + 1)) + 4 * (i + 1) := Nat.succ_mul _ _
          omega
        refine ⟨_, rfl, l.1, rfl, ⟨_, SqT.of (I.sm _ _ et)⟩, ?_⟩
        refine for_tup (K := K) (a := l.1) (xs := qs.map V.ref) (fun m σ G => ∃ (v5 v6 : Option V), σ = [some (.int (n : Int)), some (.ref d), some (.int (0 + (i : Int))), some (.ref D), some (.ref l.1), v5, v6] ∧ GsI P w Hb D (fun B => GrowB (Bs.take j) B ∨ AtSq S (S.take m) B) (j * (4 * (i + 1)) + 4 * m) G) ⟨v5, v6, rfl, I.weak (fun B => ⟨.inl, fun h => h.elim id fun ⟨s, hs, _⟩ => by rw [List.take_zero] at hs; cases hs⟩) (by omega)⟩ (fun m σ G _ ⟨_, _, _, I⟩ => SqT.of (I.sm _ _ et)) ?_ ?_
        · rintro m x σ G3 hm ⟨v5, v6, rfl, I⟩
          rw [List.getElem?_map] at hm
          obtain ⟨q, hq, rfl⟩ := Option.map_eq_some_iff.mp hm
          obtain ⟨c, hc, ac⟩ := paired_get pq hq
          have mS : m < S.length := (List.getElem?_eq_some_iff.mp hc).1
          refine ⟨_, rfl, q, c, rfl, I.sm _ _ ac, fun fo G4 s4 hfo cfo => ?_⟩
          obtain ⟨ns, ef, pn⟩ := cfo
          have I4 := I.same s4
          have lb : ns.length = 4 := Paired.length pn
          have nfD : fo ≠ D := fun z => by
            obtain ⟨E', Fs, h1, _⟩ := I.ex
            rw [z] at hfo
            rcases h1.1 with e | ⟨_, e⟩ <;> rw [hfo] at e <;> cases e
          refine ⟨fo, rfl, ⟨_, SqL.of ef⟩, ?_⟩
          refine for_list (K := K) (a := fo) (xs := ns.map V.ref) (fun r σ G => ∃ (v6 : Option V), σ = [some (.int (n : Int)), some (.ref d), some (.int (0 + (i : Int))), some (.ref D), some (.ref l.1), some (.ref q), v6] ∧ KpD D G4 G ∧ GsI P w Hb D (fun B => (GrowB (Bs.take j) B ∨ AtSq S (S.take m) B) ∨ AtCl S ((nbC c).take r) B) (j * (4 * (i + 1)) + 4 * m + r) G) ⟨v6, rfl, fun _ _ _ e => e, I4.weak (fun B => ⟨.inl, fun h => h.elim id fun ⟨s, hs, _⟩ => by rw [List.take_zero] at hs; cases hs⟩) (by omega)⟩ (fun j σ G _ ⟨_, _, kp, I⟩ => SqL.of (kp _ _ nfD ef)) ?_ ?_
          · rintro r x σ G5 hr2 ⟨v6, rfl, kp, I⟩
            rw [List.getElem?_map] at hr2
            obtain ⟨z, hz, rfl⟩ := Option.map_eq_some_iff.mp hr2
            obtain ⟨u, hu, au⟩ := paired_get pn hz
            have r4 : r < 4 := by
              have := (List.getElem?_eq_some_iff.mp hz).1
              omega
            have nzD : z ≠ D := fun y => by
              obtain ⟨E', Fs, h1, _⟩ := I4.ex
              have au : At G4 z u := au
              unfold At at au
              rw [y] at au
              rcases h1.1 with e | ⟨_, e⟩ <;> rw [au] at e <;> cases e
            have au : At G5 z u := kp _ _ nzD au
            have cG : CellsT G5 l.1 S := cS.ek (.of I.sm)
            have sn := take_snoc hu
            refine ⟨_, rfl, _, rfl, z, l.1, u, S, rfl, rfl, au, cG, _, rfl, ?_⟩
            refine ite2 (fun h1 => ?_) (fun h1 => ?_)
            · have nu : u ∉ S := by simpa using h1
              have neS : S ≠ [] := okS.ne
              have lqs : qs.map V.ref ≠ [] := fun y => neS (List.length_eq_zero_iff.mp (by rw [← lq, ← List.length_map (f := V.ref), y]; rfl))
              refine ⟨_, rfl, _, rfl, _, rfl, one_le, fun t1 ht1 => ?_⟩
              have s5 := same_new (o := .tup [.ref z]) ht1
              have e5 := upd_same (H := G5) (a := t1) (o := .tup [.ref z])
              generalize upd G5 t1 (.tup [.ref z]) = G6 at s5 e5
              refine ⟨l.1, t1, _, _, rfl, rfl, SqT.of (s5 _ _ (I.sm _ _ et)), SqT.of e5, by rw [List.length_map, lq, lS, sizeLine_eq]; show i + 1 + 1 ≤ 16777216; omega, fun y => absurd y lqs, fun _ y => (nomatch y), fun _ _ t2 ht2 => ?_⟩
              have s6 := same_new (o := .tup (qs.map V.ref ++ [V.ref z])) ht2
              have e6 : upd G6 t2 (.tup (qs.map V.ref ++ [V.ref z])) t2 = some (.tup ((qs ++ [z]).map V.ref)) := by rw [upd_same, List.map_append]; rfl
              generalize upd G6 t2 (.tup (qs.map V.ref ++ [V.ref z])) = G7 at s6 e6
              have c7 : CellsT G7 t2 (S ++ [u]) := ⟨qs ++ [z], e6, (paired_imp (fun _ _ h => ((h.same I.sm).same s5).same s6) pq).snoc ((au.same s5).same s6)⟩
              refine ⟨t2, S ++ [u], rfl, .inr c7, by simp, by rw [List.length_append, lS]; show i + 1 + 1 ≤ 1000; omega, fun z2 G8 s8 c8 => ?_⟩
              have I8 := ((I.same s5).same s6).same s8
              refine I8.put (K := K) hDb (by omega) c8 fun G9 I9 tk9 kp9 => ⟨_, rfl, fun b o nb e => ?_, I9.weak (fun B => ?_) (Nat.le_refl _)⟩
              · exact kp9 b o nb (s8 _ _ (s6 _ _ (s5 _ _ (kp b o nb e))))
              · rw [sn, atCl_snoc]
                constructor
                · rintro (h | h)
                  · exact h.elim .inl fun h => .inr (.inl h)
                  · exact .inr (.inr ⟨nu, h⟩)
                · rintro (h | h | h)
                  · exact .inl (.inl h)
                  · exact .inl (.inr h)
                  · exact .inr h.2
            · have nu : u ∈ S := by simpa using h1
              refine ⟨_, rfl, kp, I.weak (fun B => ?_) (by omega)⟩
              rw [sn, atCl_snoc]
              constructor
              · rintro (h | h)
                · exact .inl h
                · exact .inr (.inl h)
              · rintro (h | h | h)
                · exact .inl h
                · exact .inr h
                · exact absurd nu h.1
          · rintro σ G5 ⟨v6, rfl, kp, I⟩
            refine ⟨_, _, rfl, I.weak (fun B => ?_) (by rw [List.length_map, lb]; omega)⟩
            rw [take_snoc hc, atSq_snoc]
            have e : (nbC c).take (ns.map V.ref).length = nbC c := by rw [List.length_map, Paired.length pn, List.take_length]
            rw [e, atCl_nb]
            exact or_assoc
        · rintro σ G3 ⟨v5, v6, rfl, I⟩
          refine ⟨_, _, _, rfl, I.weak (fun B => ?_) ?_⟩
          · rw [take_snoc hS, growB_snoc]
            have e : S.take (qs.map V.ref).length = S := by rw [List.length_map, lq, List.take_length]
            rw [e]
          · have h2 : (j + 1) * (4 * (i + 1)) = j * (4 * (i + 1)) + 4 * (i + 1) := Nat.succ_mul _ _
            rw [List.length_map, lq, lS]
            omega
      · rintro σ G2 ⟨v4, v5, v6, rfl, I⟩
        refine ⟨I.sm _ _ edb, ?_⟩
        obtain ⟨E2, Fs, h1, h2, h3, h4⟩ := I.ex
        rw [lE, List.take_length] at h3
        rw [lE] at h4
        have tk2 : Tk G2 (upd G2 d (DNO P w d E)) := tk_upd (I.sm _ _ edb) fun xs z => nomatch z
        refine ⟨_, rfl, D, _, _, _, _, _, E2, Fs, rfl, sm.free hD, fun b o e => ?_, h1.tk tk2 (upd_ne nDd), al.grow (Nat.le_add_left 1 i) h2 h3, Nat.le_trans h4 lm⟩
        have nb : b ≠ d := fun z => by rw [z, hd] at e; cases e
        rw [upd_ne nb]
        refine I.sm _ _ ?_
        rw [eHb, upd_ne nb]
        exact sm _ _ e
    · rintro σ G ⟨d, v2, v3, v4, v5, v6, E, Bs, rfl, hd, sm, bd, al, le⟩
      have e : ((n : Int) - 1).toNat + 1 = n := by omega
      rw [e] at al
      refine ⟨_, rfl, d, E, List Cell, bD, CellsT G, Bs, rfl, bd.1, bd.dps, alike_bD, sortableB (fun B hB => ((al.mem B).mp hB).ne), fun B _ => ⟨keyD_bD B, Nat.le_trans (lay_bD B).2 (by decide)⟩, fun ys p py hp => ?_⟩
      have s9 := same_new (o := .lst (ys.map V.ref)) hp
      have pm := List.mergeSort_perm Bs (PySem.W.dataLe false bD)
      exact k p _ _ (sm.trans s9) ⟨ys, upd_same, paired_imp (fun _ _ h => h.same s9) py⟩ ⟨pm.nodup_iff.mpr al.nd, fun B => pm.mem_iff.trans (al.mem B)⟩ (b_sort Bs)
end
end Sq

set_option Elab.async false
set_option linter.all false
set_option maxRecDepth 100000
set_option maxHeartbeats 8000000
/-! The law: bodies that grow. -/
namespace Sq
open PySem PySem.Spec PyProof.Rows L2
def rLenX (K : PySem.W.Frag) : List V → Hp → VK → Prop := fun xs H Q => ∃ p ys, xs = [V.ref p] ∧ (SqL K H p ys ∨ SqT K H p ys) ∧ Q (.int (ys.length : Int)) H
theorem call_lenX {X : Cx} {K : PySem.W.Frag} (h : X.K = K) : CallR X (.builtin "len") (rLenX K) := by
  subst h
  exact call_len_seq
theorem pi_listX {X : Cx} {K : PySem.W.Frag} {tg l : Expr} {tl : TE} (h : X.K = K) (hl : PE X l tl) : PI X tg l (iList K tl) := h ▸ pi_list hl
/-- not in, for a cell and a list of cells -/
def rOutH : R2 := fun x y H Q => ∃ (p t : Addr) (c : Cell) (L : List Cell), x = .ref p ∧ y = .ref t ∧ At H p c ∧ CellsL H t L ∧ Q (.bl (!decide (c ∈ L))) H
theorem op_outH {X : Cx} (hu : X.A.units + 64 < cLine) : OpR X (compareOp .NotIn) rOutH := by
  rintro pins s σ H x y v u Q I rx ry ⟨p, t, c, L, rfl, rfl, ap, ct, q⟩
  obtain ⟨as, r1⟩ := Dp.reads I (cD c) _ v ap.dp rx
  obtain ⟨bs, r2⟩ := Dp.reads I (.list (L.map cD)) _ u ct.dp ry
  have l1 := lay_cellH c
  refine SeqAt.notIn_list_reads r2 r1 (cells_canH L) l1.1 ?_ ⟨.bl _, H, I, rfl, ?_⟩
  · have m : min (PyData.depthAll (L.map cD)) (cD c).depth ≤ 1 := Nat.le_trans (Nat.min_le_right _ _) l1.2
    omega
  · rw [any_cellH]
    exact q
/-- a comprehension that hands out cells of one kind -/
theorem lc_kindC {J : It} {n : Nat} {Gd : Hp → Prop} {Y : Nat → Hp → V → Hp → Prop} (w : Walk J n Gd Y) {g : TG} {tt : TT} {te : TE} {vs : List Nat} {σ : L2.St} {H1 : Hp} {D : Addr} {Qd : Hp → Prop} (hD : H1 D = none) (Pc : Cell → Prop) (hn : n ≤ 1000000)
    (hG : ∀ i G, i ≤ n → Same H1 G → Gd G)
    (hs : ∀ i x G G' (K1 : V → Hp → Prop) (K0 : Hp → Prop), i < n → Same H1 G → Y i G x G' → (∀ r c H4, Same G H4 → At H4 r c → Pc c → K1 (.ref r) H4) → (∀ H3, Same G H3 → K0 H3) →
      g x (wipe σ vs) G' fun σ2 H2 => wipe σ2 vs = wipe σ vs ∧ tt σ2 H2 fun b H3 => if b = true then te σ2 H3 K1 else K0 H3)
    (hd : ∀ G rs cs, Same H1 G → G D = some (.lst (rs.map V.ref)) → Paired (fun q c => At G q c) rs cs → (∀ c ∈ cs, Pc c) → cs.length ≤ n → Qd G) :
    ∃ W : Nat → Nat → Hp → Prop, (∃ m, W 0 m (upd H1 D (.lst []))) ∧ ∀ i m H, W i m H →
      (J.stop i H ∧ Qd H) ∨ (J.go i H ∧ ∃ Nx : Hp → Prop, (∀ H', Nx H' → ∃ m', m' < m ∧ W (i + 1) m' H') ∧ ∀ x H', J.yld i H x H' → g x (wipe σ vs) H' fun σ2 H2 => wipe σ2 vs = wipe σ vs ∧ tt σ2 H2 fun b H3 =>
        if b = true then te σ2 H3 fun y H4 => ∃ acc, H4 D = some (.lst acc) ∧ acc.length < sizeLine ∧ Nx (upd H4 D (.lst (acc ++ [y]))) else Nx H3) := by
  refine lc_it w (fun i G => Same H1 G ∧ ∃ (rs : List Addr) (cs : List Cell), G D = some (.lst (rs.map V.ref)) ∧ Paired (fun q c => At G q c) rs cs ∧ (∀ c ∈ cs, Pc c) ∧ cs.length ≤ i) ⟨same_put same_refl hD, [], [], upd_same, .nil, fun c h => (nomatch h), Nat.le_refl _⟩ (fun i G hi p => hG i G hi p.1) ?_ ?_
  · rintro i x G G' hi ⟨sm, rs, cs, gD, pr, pc, ln⟩ y
    have lr : rs.length = cs.length := Paired.length pr
    refine hs i x G G' _ _ hi sm y (fun r c H4 s4 a4 hc => ?_) (fun H3 s3 => ?_)
    · have off : ∀ {q : Addr} {c : Cell}, At H4 q c → At (upd H4 D (.lst (rs.map V.ref ++ [V.ref r]))) q c := fun h => h.off (s4 _ _ gD) (by intro xs z; cases z)
      refine ⟨_, s4 _ _ gD, by rw [List.length_map, sizeLine_eq]; omega, same_put (sm.trans s4) hD, rs ++ [r], cs ++ [c], by rw [upd_same, List.map_append]; rfl, (paired_imp0 (fun _ _ h => off (s4 _ _ h)) pr).snoc (off a4), fun d hd => ?_, by rw [List.length_append]; exact Nat.succ_le_succ ln⟩
      rcases List.mem_append.mp hd with z | z
      · exact pc d z
      · rw [List.mem_singleton.mp z]
        exact hc
    · exact ⟨sm.trans s3, rs, cs, s3 _ _ gD, paired_imp0 (fun _ _ h => s3 _ _ h) pr, pc, Nat.le_succ_of_le ln⟩
  · rintro G ⟨sm, rs, cs, gD, pr, pc, ln⟩
    exact hd G rs cs sm gD pr pc ln
def spNCrosses : Sp := fun vs H Q _ => ∃ (l q : Addr) (L : List Cell) (c : Cell), vs = [.ref l, .ref q] ∧ CellsL H l L ∧ At H q c ∧ ∀ b H', Same H H' → Q (.bl b) H'
abbrev ncN : List Str := ["_law_body", "_law_cell", "_law_across", "_law_up"]
section
variable {P : Program} {w : World} {K : PySem.W.Frag} {mg : Str → Option Value} {base : Heap}
theorem scNC : FnScope ncN ["_law_body", "_law_cell"] (defScope nCrosses) := ⟨rfl, rfl, rfl, by decide +kernel, rfl, by decide +kernel, by decide +kernel⟩
theorem ok_nCrosses {f : Addr} {fd : FuncData} (F : FnP K "_law_nb_crosses" nCrosses f fd) : FnOk P w K mg base CX0 1 f fd ["_law_body", "_law_cell"] spNCrosses := by
  refine F.ok scNC (fun vs H Q E h => ?_) (fun cdv A outer s H vs Q E hr h => ?_)
  · obtain ⟨l, q, L, c, rfl, _⟩ := h
    rfl
  · obtain ⟨l, q, L, c, rfl, cl, aq, k⟩ := h
    have h64 := room64 hr
    refine ⟨_, PSs.nox (pss_cons (ps_for PassesOwn.never rfl (pi_list (pe_lst (pa_cons (pe_tup (pa_cons (pe_un un_neg pe_int) (pa_cons (pe_un un_neg pe_int) pa_nil))) (pa_cons (pe_tup (pa_cons (pe_un un_neg pe_int) (pa_cons pe_int pa_nil))) (pa_cons (pe_tup (pa_cons pe_int (pa_cons (pe_un un_neg pe_int) pa_nil))) (pa_cons (pe_tup (pa_cons pe_int (pa_cons pe_int pa_nil))) pa_nil)))))) (pg_tup (by rfl) (pgs_cons (pg_name (i := 2) scNC.nd rfl (.inl rfl)) (pgs_cons (pg_name (i := 3) scNC.nd rfl (.inl rfl)) pgs_nil)))
      (pss_one (ps_if (pt_cmpR (op_inH h64) (pe_tup (pa_cons (pe_op op_add (pe_ix (ix_tupK (K := K) rfl) (pv 1) pe_int (fun _ _ => rfl)) (pv 2)) (pa_cons (pe_op op_add (pe_ix (ix_tupK (K := K) rfl) (pv 1) pe_int (fun _ _ => rfl)) (pv 3)) pa_nil))) (pv 0) (by rfl))
        (pss_one (ps_if (PW.pt (pw_and (pt_cmpR (op_outH h64) (pe_tup (pa_cons (pe_op op_add (pe_ix (ix_tupK (K := K) rfl) (pv 1) pe_int (fun _ _ => rfl)) (pv 2)) (pa_cons (pe_ix (ix_tupK (K := K) rfl) (pv 1) pe_int (fun _ _ => rfl)) pa_nil))) (pv 0) (by rfl)) (pw_and1 (pt_cmpR (op_outH h64) (pe_tup (pa_cons (pe_ix (ix_tupK (K := K) rfl) (pv 1) pe_int (fun _ _ => rfl)) (pa_cons (pe_op op_add (pe_ix (ix_tupK (K := K) rfl) (pv 1) pe_int (fun _ _ => rfl)) (pv 3)) pa_nil))) (pv 0) (by rfl)))))
          (pss_one (ps_ret pe_bl))
          pss_nil))
        pss_nil)))
      (pss_one (ps_ret pe_bl))), ?_⟩
    refine ⟨_, rfl, _, rfl, two_le, fun t1 h1 => ⟨_, rfl, two_le, fun t2 h2 => ⟨_, rfl, two_le, fun t3 h3 => ⟨two_le, fun t4 h4 => ⟨four_le, fun ll hll => ?_⟩⟩⟩⟩⟩
    have s1 := same_new (o := .tup [.int (-1), .int (-1)]) h1
    have s2 := same_new (o := .tup [.int (-1), .int 1]) h2
    have s3 := same_new (o := .tup [.int 1, .int (-1)]) h3
    have s4 := same_new (o := .tup [.int 1, .int 1]) h4
    have s5 := same_new (o := .lst [.ref t1, .ref t2, .ref t3, .ref t4]) hll
    have sA := (((s1.trans s2).trans s3).trans s4).trans s5
    have a1 : At _ t1 (-1, -1) := s5 _ _ (s4 _ _ (s3 _ _ (s2 _ _ (upd_same (H := H) (a := t1) (o := .tup [.int (-1), .int (-1)])))))
    have a2 : At _ t2 (-1, 1) := s5 _ _ (s4 _ _ (s3 _ _ (upd_same (H := upd H t1 (.tup [.int (-1), .int (-1)])) (a := t2) (o := .tup [.int (-1), .int 1]))))
    have a3 : At _ t3 (1, -1) := s5 _ _ (s4 _ _ (upd_same (H := upd (upd H t1 (.tup [.int (-1), .int (-1)])) t2 (.tup [.int (-1), .int 1])) (a := t3) (o := .tup [.int 1, .int (-1)])))
    have a4 : At _ t4 (1, 1) := s5 _ _ (upd_same (H := upd (upd (upd H t1 (.tup [.int (-1), .int (-1)])) t2 (.tup [.int (-1), .int 1])) t3 (.tup [.int 1, .int (-1)])) (a := t4) (o := .tup [.int 1, .int 1]))
    have el := upd_same (H := upd (upd (upd (upd H t1 (.tup [.int (-1), .int (-1)])) t2 (.tup [.int (-1), .int 1])) t3 (.tup [.int 1, .int (-1)])) t4 (.tup [.int 1, .int 1])) (a := ll) (o := .lst [.ref t1, .ref t2, .ref t3, .ref t4])
    generalize upd (upd (upd (upd (upd H t1 (.tup [.int (-1), .int (-1)])) t2 (.tup [.int (-1), .int 1])) t3 (.tup [.int 1, .int (-1)])) t4 (.tup [.int 1, .int 1])) ll (.lst [.ref t1, .ref t2, .ref t3, .ref t4]) = H1 at sA a1 a2 a3 a4 el
    have each : ∀ t ∈ [t1, t2, t3, t4], ∃ d : Cell, At H1 t d := fun t ht => by
      simp only [List.mem_cons, List.not_mem_nil, or_false] at ht
      rcases ht with rfl | rfl | rfl | rfl
      · exact ⟨_, a1⟩
      · exact ⟨_, a2⟩
      · exact ⟨_, a3⟩
      · exact ⟨_, a4⟩
    refine ⟨ll, rfl, ⟨_, SqL.of el⟩, ?_⟩
    refine for_list (K := K) (a := ll) (xs := [t1, t2, t3, t4].map V.ref) (fun i σ G => ∃ (v2 v3 : Option V), σ = [some (.ref l), some (.ref q), v2, v3] ∧ Same H1 G) ⟨none, none, rfl, same_refl⟩ (fun i σ G _ ⟨_, _, _, sm⟩ => SqL.of (sm _ _ el)) ?_ ?_
    · rintro i x σ G hi ⟨v2, v3, rfl, sm⟩
      rw [List.getElem?_map] at hi
      obtain ⟨t, ht, rfl⟩ := Option.map_eq_some_iff.mp hi
      obtain ⟨d, ad⟩ := each t (List.mem_of_getElem? ht)
      have ad : At G t d := sm _ _ ad
      have aq1 : At G q c := (aq.same sA).same sm
      have cl1 : CellsL G l L := cl.ek (.of (sA.trans sm))
      refine ⟨t, _, rfl, SqT.of ad, rfl, _, _, rfl, _, _, rfl, rfl, ?_⟩
      refine ⟨_, rfl, _, _, _, _, rfl, rfl, SqT.of aq1, at0, _, rfl, _, _, rfl, rfl, _, rfl, _, _, _, _, rfl, rfl, SqT.of aq1, at1, _, rfl, _, _, rfl, rfl, two_le, fun w1 hw1 => ?_⟩
      have u1 := same_new (o := .tup [.int (c.1 + d.1), .int (c.2 + d.2)]) hw1
      have b1 : At (upd G w1 (.tup [.int (c.1 + d.1), .int (c.2 + d.2)])) w1 (c.1 + d.1, c.2 + d.2) := upd_same
      generalize upd G w1 (.tup [.int (c.1 + d.1), .int (c.2 + d.2)]) = G1 at u1 b1
      refine ⟨_, rfl, w1, l, _, L, rfl, rfl, b1, cl1.ek (.of u1), _, rfl, ?_⟩
      refine ite2 (fun _ => ?_) (fun _ => ⟨_, _, rfl, sm.trans u1⟩)
      have aq2 := aq1.same u1
      refine ⟨_, rfl, _, _, _, _, rfl, rfl, SqT.of aq2, at0, _, rfl, _, _, rfl, rfl, _, rfl, _, _, _, _, rfl, rfl, SqT.of aq2, at1, two_le, fun w2 hw2 => ?_⟩
      have u2 := same_new (o := .tup [.int (c.1 + d.1), .int c.2]) hw2
      have b2 : At (upd G1 w2 (.tup [.int (c.1 + d.1), .int c.2])) w2 (c.1 + d.1, c.2) := upd_same
      generalize upd G1 w2 (.tup [.int (c.1 + d.1), .int c.2]) = G2 at u2 b2
      refine ⟨_, rfl, w2, l, _, L, rfl, rfl, b2, cl1.ek (.of (u1.trans u2)), _, rfl, ?_⟩
      refine ite2 (fun _ => ?_) (fun _ => ⟨_, _, rfl, (sm.trans u1).trans u2⟩)
      have aq3 := aq2.same u2
      refine ⟨_, rfl, _, _, _, _, rfl, rfl, SqT.of aq3, at0, _, rfl, _, _, _, _, rfl, rfl, SqT.of aq3, at1, _, rfl, _, _, rfl, rfl, two_le, fun w3 hw3 => ?_⟩
      have u3 := same_new (o := .tup [.int c.1, .int (c.2 + d.2)]) hw3
      have b3 : At (upd G2 w3 (.tup [.int c.1, .int (c.2 + d.2)])) w3 (c.1, c.2 + d.2) := upd_same
      generalize upd G2 w3 (.tup [.int c.1, .int (c.2 + d.2)]) = G3 at u3 b3
      refine ⟨_, rfl, w3, l, _, L, rfl, rfl, b3, cl1.ek (.of ((u1.trans u2).trans u3)), _, rfl, ?_⟩
      exact ite2 (fun _ => k _ _ ((sA.trans sm).trans ((u1.trans u2).trans u3))) (fun _ => ⟨_, _, rfl, ((sm.trans u1).trans u2).trans u3⟩)
    · rintro σ G ⟨v2, v3, rfl, sm⟩
      exact k _ _ (sA.trans sm)
end
end Sq

set_option Elab.async false
set_option linter.all false
set_option maxRecDepth 100000
set_option maxHeartbeats 8000000
/-! The law: a body grown by some squares. -/
namespace Sq
open PySem PySem.Spec PyProof.Rows L2
def spNGrown : Sp := fun vs H Q _ => ∃ (p c l : Addr) (n many : Nat) (way : Int) (A : List Cell), vs = [.ref p, .ref l, .int (many : Int), .int way] ∧ PenC H p c n ∧ CellsL H l A ∧ A.Nodup ∧ Grown A ∧ A ≠ [] ∧ A.length ≤ many ∧ many ≤ 16 ∧ n < 900000 ∧
  ∀ l' H' L n', PenC H' p c n' → n' ≤ n + 2 * many → Kp [p] H H' → CellsL H' l' L → L.Nodup → Grown L → L.length = many → (∀ a ∈ A, a ∈ L) → Q (.ref l') H'
abbrev ngN : List Str := ["_law_pen_here", "_law_body", "_law_many", "_law_way", "_law_cells", "_law_square", "_law_cell", "_law_lonely", "_law_one", "_law_some", "_law_cross"]
def whileB : Stmt → List Stmt
  | .While _ b _ _ => b
  | _ => []
def ngB : List Stmt := whileB ((defBody nGrown).getD 0 (.Pass ⟨0, 0, 0, 0⟩))
/-- empty cells beside a body -/
def RingC (A : List Cell) (x : Cell) : Prop := x ∉ A ∧ ∃ y ∈ A, x ∈ besideC y
section
variable {P : Program} {w : World} {K : PySem.W.Frag} {mg : Str → Option Value} {base : Heap}
theorem scNG : FnScope ngN ["_law_pen_here", "_law_body", "_law_many", "_law_way"] (defScope nGrown) := ⟨rfl, rfl, rfl, by decide +kernel, rfl, by decide +kernel, by decide +kernel⟩
variable {f : Addr} {cdv : Value} {A0 : Around} {outer : List Env} {s : Shared} {H0 : Hp} {E : XK}
/-- from the crossing ones on -/
theorem ng_tail (hr : Room 2 (cxOf CX0 P w K mg base ngN "_law_nb_grown" (defScope nGrown) f cdv A0 outer s H0 E).nox.A) (DP : Df P w K mg base CX0 2 "_law_pick" ["_law_pen_here", "_law_some"] (spPickC K)) (DC : Df P w K mg base CX0 1 "_law_nb_crosses" ["_law_body", "_law_cell"] spNCrosses) :
    ∃ t, PSs (cxOf CX0 P w K mg base ngN "_law_nb_grown" (defScope nGrown) f cdv A0 outer s H0 E).nox (ngB.drop 5) t ∧
      ∀ (D : Ends) (G : Hp) (p c l so : Addr) (n : Nat) (many : Int) (way : Int) (v4 v5 v6 v7 v8 v10 : Option V) (A ss : List Cell), PenC G p c n → n < 1000000 → CellsL G l A → A.length ≤ 100 → CellsL G so ss → ss ≠ [] → ss.length ≤ 1000 →
        (∀ l2 G2 x w4 w5 w6 w7 w8 w9 w10, PenC G2 p c (n + 1) → Kp [p] G G2 → x ∈ ss → CellsL G2 l2 (A ++ [x]) → D.nx [some (.ref p), some (.ref l2), some (.int many), some (.int way), w4, w5, w6, w7, w8, w9, w10] G2) →
        t D [some (.ref p), some (.ref l), some (.int many), some (.int way), v4, v5, v6, v7, v8, some (.ref so), v10] G := by
  have h64 := room64 hr
  refine ⟨_, (pss_cons (ps_setLc (i := 10) (own := [("_law_cell", 6)]) (g := gName 6) (by rfl) scNG.nd rfl rfl (sw_true rfl rfl rfl (by decide +kernel)) (pi_list (pv 9)) (blkOk_by (N := ngN) (sc := defScope nGrown) (by decide +kernel)) (fun _ _ _ _ _ => pg_name (i := 6) scNG.nd rfl (Or.inl rfl)) (fun _ _ _ _ _ => (pts_one (pt_val (pe_df DC hr (by rfl) pass0 (pa_cons (pv 1) (pa_cons (pv 6) pa_nil)))))) (fun _ _ _ _ _ => (pv 6)))
        (pss_one (ps_set (i := 1) scNG.nd rfl (.inr rfl) (pe_op op_cat (pv 1) (pe_lst (pa_cons (pe_df DP hr (by rfl) pass0 (pa_cons (pv 0) (pa_cons (pe_ifExp (PW.pt (pw_and (pt_cmpR op_eq (pv 3) pe_int (nomark _)) (pw_and1 (pt_cmpR (op_neK (K := K) rfl h64) (pv 10) (pe_lst pa_nil) (nomark _))))) (pv 10) (pv 9)) pa_nil))) pa_nil)))))), ?_⟩
  intro D G p c l so n many way v4 v5 v6 v7 v8 v10 A ss hp hn cl lA cs nes lss kD
  obtain ⟨qs, es, pq⟩ := id cs
  have lq : qs.length = ss.length := Paired.length pq
  refine ⟨_, rfl, so, rfl, ⟨_, SqL.of es⟩, fun D1 hD1 => ?_⟩
  refine lc_kindC (walk_list (K := K) (a := so) (xs := qs.map V.ref)) hD1 (fun x => x ∈ ss) (by rw [List.length_map]; omega) (fun i G2 _ sm => SqL.of (sm _ _ es)) ?_ ?_
  · rintro i x G1 G2 K1 K0 hi sm ⟨rfl, hx⟩ k1 k0
    rw [List.getElem?_map] at hx
    obtain ⟨q, hq, rfl⟩ := Option.map_eq_some_iff.mp hx
    obtain ⟨d, hd, ad⟩ := paired_get pq hq
    have ad : At G2 q d := ad.same sm
    refine ⟨rfl, _, rfl, _, rfl, l, q, A, d, rfl, cl.ek (.of sm), ad, fun b G3 s3 => ⟨_, rfl, ?_⟩⟩
    exact ite2 (fun _ => ⟨_, rfl, k1 q d _ s3 (ad.same s3) (List.mem_of_getElem? hd)⟩) (fun _ => k0 _ s3)
  intro G1 rs xs s1 e1 prx sub lx
  -- the pick
  have go : ∀ (G2 : Hp) (y : Addr) (ys : List Cell), Same G1 G2 → CellsL G2 y ys → ys ≠ [] → ys.length ≤ 1000 → (∀ x ∈ ys, x ∈ ss) → ∀ (Q : V → Hp → Prop), (∀ q x G3, PenC G3 p c (n + 1) → Kp [p] G G3 → x ∈ ss → At G3 q x → Q (.ref q) G3) → spPickC K [.ref p, .ref y] G2 Q (fun _ _ _ => False) := fun G2 y ys s2 cy ney ly sb Q kQ => by
    obtain ⟨us, ey, pu⟩ := id cy
    have lu : us.length = ys.length := Paired.length pu
    have sA := s1.trans s2
    have hp2 := hp.same sA
    have py : 0 < ys.length := List.length_pos_iff.mpr ney
    refine ⟨p, c, y, n, us.map V.ref, rfl, hp2, by omega, .inl (SqL.of ey), by rw [List.length_map]; omega, by rw [List.length_map]; omega, fun i x G3 hx hp3 hb => ?_⟩
    rw [List.getElem?_map] at hx
    obtain ⟨q, hq, rfl⟩ := Option.map_eq_some_iff.mp hx
    obtain ⟨d, hd, ad⟩ := paired_get pu hq
    have k3 := kp_pick hb
    exact kQ q d G3 hp3 ((Kp.of sA).trans k3) (sb d (List.mem_of_getElem? hd)) ((pen_ek hp2.at k3).at ad)
  have fin : ∀ q x G3, PenC G3 p c (n + 1) → Kp [p] G G3 → x ∈ ss → At G3 q x → (1 ≤ sizeLine ∧ ∀ l1, G3 l1 = none → ∃ a b us ws, V.ref l = V.ref a ∧ V.ref l1 = V.ref b ∧ upd G3 l1 (.lst [.ref q]) a = some (.lst us) ∧ upd G3 l1 (.lst [.ref q]) b = some (.lst ws) ∧ us.length + ws.length ≤ sizeLine ∧ ∀ l2, upd G3 l1 (.lst [.ref q]) l2 = none → D.nx [some (.ref p), some (.ref l2), some (.int many), some (.int way), v4, v5, v6, v7, v8, some (.ref so), some (.ref D1)] (upd (upd G3 l1 (.lst [.ref q])) l2 (.lst (us ++ ws)))) := fun q x G3 hp3 kp3 hx ax => by
    have ek3 := pen_ek hp.at kp3
    obtain ⟨as, el, pa⟩ := cl.ek ek3
    have la : as.length = A.length := Paired.length pa
    refine ⟨by rw [sizeLine_eq]; decide, fun l1 hl1 => ?_⟩
    have s4 := same_new (o := .lst [.ref q]) hl1
    have e4 := upd_same (H := G3) (a := l1) (o := .lst [.ref q])
    have el4 := s4 _ _ el
    generalize upd G3 l1 (.lst [.ref q]) = G4 at s4 e4 el4
    refine ⟨l, l1, _, _, rfl, rfl, el4, e4, by rw [List.length_map, la, sizeLine_eq]; show A.length + 1 ≤ 16777216; omega, fun l2 hl2 => ?_⟩
    have s5 := same_new (o := .lst (as.map V.ref ++ [.ref q])) hl2
    refine kD l2 _ x _ _ _ _ _ _ _ ((hp3.same s4).same s5) (kp3.trans (Kp.of (s4.trans s5))) hx ⟨as ++ [q], by rw [upd_same, List.map_append]; rfl, ?_⟩
    exact (paired_imp (fun _ _ h => (h.same s4).same s5) pa).snoc ((ax.same s4).same s5)
  have cs1 := cs.ek (.of s1)
  have lxs : xs.length ≤ 1000 := by rw [List.length_map, lq] at lx; omega
  refine ⟨_, rfl, _, rfl, ?_⟩
  refine ⟨_, rfl, rfl, _, rfl, ?_⟩
  refine ite2 (fun h1 => ?_) (fun h1 => ?_)
  · refine ⟨_, rfl, Nat.zero_le _, fun l0 hl0 => ?_⟩
    have s0 := same_new (o := .lst []) hl0
    refine ⟨.list (xs.map cD), .list [], .lst (SqL.of (s0 _ _ e1)) (cells_dps (paired_imp (fun _ _ h => At.same h s0) prx)), .lst (SqL.of upd_same) .nil, (lay_list (n := 1) fun d hd => by
      obtain ⟨z, _, rfl⟩ := List.mem_map.mp hd
      exact lay_cellH z).shaped (by decide), (lay_list (n := 0) (ds := []) (by simp)).shaped (by decide), _, rfl, ?_⟩
    rw [eqv_nilD]
    refine ite2 (fun h2 => ?_) (fun h2 => ?_)
    · have nex : xs ≠ [] := fun z => by rw [z] at h2; exact absurd h2 (by simp)
      exact ⟨_, rfl, go _ D1 xs s0 ⟨rs, s0 _ _ e1, paired_imp (fun _ _ h => At.same h s0) prx⟩ nex lxs sub _ fin⟩
    · exact ⟨_, rfl, go _ so ss s0 (cs1.ek (.of s0)) nes lss (fun _ h => h) _ fin⟩
  · exact ⟨_, rfl, go _ so ss same_refl cs1 nes lss (fun _ h => h) _ fin⟩
end
end Sq

set_option Elab.async false
set_option linter.all false
set_option maxRecDepth 100000
set_option maxHeartbeats 8000000
/-! The law: a body grown by some squares, the whole. -/
namespace Sq
open PySem PySem.Spec PyProof.Rows L2
def rimL (A B : List Cell) : List Cell := B.flatMap fun y => (nbC y).filter fun x => !decide (x ∈ A)
theorem rimL_mem {A : List Cell} {x : Cell} : x ∈ rimL A A ↔ RingC A x := by
  unfold rimL RingC
  rw [List.mem_flatMap]
  constructor
  · rintro ⟨y, hy, hx⟩
    obtain ⟨h1, h2⟩ := List.mem_filter.mp hx
    exact ⟨by simpa using h2, y, hy, mem_nbC.mp h1⟩
  · rintro ⟨h1, y, hy, h2⟩
    exact ⟨y, hy, List.mem_filter.mpr ⟨mem_nbC.mpr h2, by simpa using h1⟩⟩
theorem rimL_snoc {A B : List Cell} {y : Cell} : rimL A (B ++ [y]) = rimL A B ++ (nbC y).filter fun x => !decide (x ∈ A) := by
  unfold rimL
  rw [List.flatMap_append]
  simp
theorem rimL_len {A : List Cell} : ∀ B : List Cell, (rimL A B).length ≤ 4 * B.length
  | [] => Nat.zero_le _
  | y :: B => by
    have := rimL_len (A := A) B
    have e : rimL A (y :: B) = ((nbC y).filter fun x => !decide (x ∈ A)) ++ rimL A B := rfl
    have h : ((nbC y).filter fun x => !decide (x ∈ A)).length ≤ 4 := List.length_filter_le _ _
    rw [e, List.length_append, List.length_cons]
    omega
section
variable {P : Program} {w : World} {K : PySem.W.Frag} {mg : Str → Option Value} {base : Heap}
theorem ok_nGrown {f : Addr} {fd : FuncData} (F : FnP K "_law_nb_grown" nGrown f fd) (B : Bl mg) (DD : Df P w K mg base CX0 1 "_law_draw" ["_law_pen_here", "_law_many"] spDrawC) (DP : Df P w K mg base CX0 2 "_law_pick" ["_law_pen_here", "_law_some"] (spPickC K)) (DB : Df P w K mg base CX0 1 "_law_nb_beside" ["_law_cell"] spNBeside) (DC : Df P w K mg base CX0 1 "_law_nb_crosses" ["_law_body", "_law_cell"] spNCrosses) :
    FnOk P w K mg base CX0 3 f fd ["_law_pen_here", "_law_body", "_law_many", "_law_way"] spNGrown := by
  refine F.ok scNG (fun vs H Q E h => ?_) (fun cdv A0 outer s H vs Q E hr h => ?_)
  · obtain ⟨p, c, l, n, many, way, A, rfl, _⟩ := h
    rfl
  · obtain ⟨p, c, l, n, many, way, A, rfl, hp, cl, nA, gA, neA, lA, m16, hn, k⟩ := h
    have h64 := room64 hr
    obtain ⟨tl, htl, keyl⟩ := ng_tail (P := P) (w := w) (K := K) (mg := mg) (base := base) (f := f) (cdv := cdv) (A0 := A0) (outer := outer) (s := s) (H0 := H) (E := E) hr DP DC
    refine ⟨_, PSs.nox (pss_cons (ps_while PassesOwn.never (pt_cmpR op_lt (pe_callB call_len_seq (by rfl) B.len PySem.boot_len (pa_cons (pv 1) pa_nil)) (pv 2) (nomark _))
      (pss_cons (ps_set (i := 4) scNG.nd rfl (.inl rfl) (pe_lst pa_nil))
        (pss_cons (ps_for PassesOwn.never rfl (pi_list (pv 1)) (pg_name (i := 5) scNG.nd rfl (.inl rfl))
        (pss_one (ps_set (i := 4) scNG.nd rfl (.inl rfl) (pe_op op_cat (pv 4) (pe_lc (own := [("_law_cell", 6)]) (g := gName 6) rfl scNG.nd (pi_list (pe_df DB hr (by rfl) pass0 (pa_cons (pv 5) pa_nil))) (blkOk_by (N := ngN) (sc := defScope nGrown) (by decide +kernel)) (fun _ _ _ _ _ => pg_name (i := 6) scNG.nd rfl (Or.inl rfl)) (fun _ _ _ _ _ => (pts_one (pt_cmpR (op_outH h64) (pv 6) (pv 1) (by rfl)))) (fun _ _ _ _ _ => (pv 6)))))))
        (pss_cons (ps_set (i := 4) scNG.nd rfl (.inl rfl) (pe_callB (cr_sortedS rfl) (by rfl) B.sorted (by decide +kernel) (pa_cons (pe_callTy (cr_setOfT rfl h64) (by rfl) B.set (by decide +kernel) (pa_cons (pv 4) pa_nil)) pa_nil)))
        (pss_cons (ps_setLc (i := 7) (own := [("_law_cell", 6)]) (g := gName 6) (by rfl) scNG.nd rfl rfl (sw_true rfl rfl rfl (by decide +kernel)) (pi_list (pv 4)) (blkOk_by (N := ngN) (sc := defScope nGrown) (by decide +kernel)) (fun _ _ _ _ _ => pg_name (i := 6) scNG.nd rfl (Or.inl rfl)) (fun _ _ _ _ _ => (pts_one (pt_cmpR op_eq (pe_callB (call_lenX (K := K) rfl) (by rfl) B.len PySem.boot_len (pa_cons (pe_lc (own := [("_law_one", 8)]) (g := gName 8) rfl scNG.nd (pi_listX (K := K) rfl (pe_df DB hr (by rfl) pass0 (pa_cons (pv 6) pa_nil))) (blkOk_by (N := ngN) (sc := { kind := .function, names := [(".0", .local), ("_law_cell", .local), ("len", .globalImplicit), ("_law_nb_beside", .globalImplicit), ("_law_body", .cell)], isGenerator := false, isCoroutine := false }) (by decide +kernel)) (fun _ _ _ _ _ => pg_name (i := 8) scNG.nd rfl (Or.inl rfl)) (fun _ _ _ _ _ => (pts_one (pt_cmpR (op_inH h64) (pv 8) (pv 1) (by rfl)))) (fun _ _ _ _ _ => (pv 8))) pa_nil)) pe_int (nomark _)))) (fun _ _ _ _ _ => (pv 6)))
        (pss_cons (ps_set (i := 9) scNG.nd rfl (.inl rfl) (pe_ifExp (PW.pt (pw_and (pt_cmpR op_gt (pv 3) pe_int (nomark _)) (pw_and (pt_cmpR (op_neK (K := K) rfl h64) (pv 7) (pe_lst pa_nil) (nomark _)) (pw_and1 (pt_cmpR op_gt (pe_df DD hr (by rfl) pass0 (pa_cons (pv 0) (pa_cons pe_int pa_nil))) pe_int (nomark _)))))) (pv 7) (pv 4)))
        htl))))))
      (pss_one (ps_ret (pv 1)))), ?_⟩
    refine ⟨fun m σ G => ∃ (l : Addr) (n' : Nat) (L : List Cell) (v4 v5 v6 v7 v8 v9 v10 : Option V), m = many - L.length ∧ σ = [some (.ref p), some (.ref l), some (.int (many : Int)), some (.int way), v4, v5, v6, v7, v8, v9, v10] ∧ PenC G p c n' ∧ n' ≤ n + 2 * L.length ∧ Kp [p] H G ∧ CellsL G l L ∧ L.Nodup ∧ Grown L ∧ L.length ≤ many ∧ (∀ a ∈ A, a ∈ L),
      ⟨_, l, n, A, none, none, none, none, none, none, none, rfl, rfl, hp, by omega, fun _ _ _ e => e, cl, nA, gA, lA, fun _ h => h⟩, ?_⟩
    rintro m σ G ⟨l, n', L, v4, v5, v6, v7, v8, v9, v10, rfl, rfl, hp1, hn1, kp1, cl1, nL, gL, lL, subA⟩
    obtain ⟨qs, el, pq⟩ := id cl1
    have lq : qs.length = L.length := Paired.length pq
    have neL : L ≠ [] := fun z => by
      obtain ⟨a, ha⟩ := List.exists_mem_of_ne_nil _ neA
      have := subA a ha
      rw [z] at this
      cases this
    refine ⟨_, rfl, l, _, rfl, .inl (SqL.of el), _, rfl, _, _, rfl, rfl, _, rfl, ?_⟩
    refine ite2 (fun h1 => ?_) (fun h1 => ?_)
    · have lt : L.length < many := by
        have := of_decide_eq_true h1
        rw [List.length_map, lq] at this
        omega
      refine ⟨fun σ' G' => ∃ m', m' < many - L.length ∧ _, fun _ _ h => h, ?_⟩
      refine ⟨Nat.zero_le _, fun l0 hl0 => ?_⟩
      have s0 := same_new (o := .lst []) hl0
      have e0 := upd_same (H := G) (a := l0) (o := .lst [])
      generalize upd G l0 (.lst []) = G0 at s0 e0
      refine ⟨_, rfl, l, rfl, ⟨_, SqL.of (s0 _ _ el)⟩, ?_⟩
      refine for_list (K := K) (a := l) (xs := qs.map V.ref) (fun j σ G1 => ∃ (l4 : Addr) (v5 v6 : Option V), σ = [some (.ref p), some (.ref l), some (.int (many : Int)), some (.int way), some (.ref l4), v5, v6, v7, v8, v9, v10] ∧ Same G G1 ∧ CellsL G1 l4 (rimL L (L.take j))) ⟨l0, v5, v6, rfl, s0, ⟨[], e0, .nil⟩⟩ (fun j σ G1 _ ⟨_, _, _, _, sm, _⟩ => SqL.of (sm _ _ el)) ?_ ?_
      · rintro j x σ G1 hj ⟨l4, v5, v6, rfl, sm, c4⟩
        rw [List.getElem?_map] at hj
        obtain ⟨q, hq, rfl⟩ := Option.map_eq_some_iff.mp hj
        obtain ⟨y, hy, ay⟩ := paired_get pq hq
        have ay : At G1 q y := ay.same sm
        have jL : j < L.length := (List.getElem?_eq_some_iff.mp hy).1
        obtain ⟨rs, e4, pr4⟩ := id c4
        have l4r : rs.length ≤ 4 * L.length := by
          rw [Paired.length pr4]
          have := rimL_len (A := L) (L.take j)
          rw [List.length_take] at this
          omega
        refine ⟨_, rfl, _, rfl, q, y, rfl, ay, fun lb G2 s2 hlb cb => ?_⟩
        obtain ⟨bs, eb, pb⟩ := cb
        have lbs : bs.length = 4 := Paired.length pb
        refine ⟨lb, rfl, ⟨_, SqL.of eb⟩, fun D hD => ?_⟩
        refine lc_cells (walk_list (K := K) (a := lb) (xs := bs.map V.ref)) hD (fun i => ((nbC y).take i).filter fun x => !decide (x ∈ L)) rfl (by rw [List.length_map]; omega) (fun i G3 _ sm3 => SqL.of (sm3 _ _ eb)) ?_ ?_
        · rintro i x G3 G3' K1 K0 hi sm3 ⟨rfl, hx⟩ k1 k0
          rw [List.getElem?_map] at hx
          obtain ⟨b, hb, rfl⟩ := Option.map_eq_some_iff.mp hx
          obtain ⟨d, hd, ad⟩ := paired_get pb hb
          have ad : At G3' b d := ad.same sm3
          have sn := take_snoc hd
          refine ⟨rfl, _, rfl, _, rfl, b, l, d, L, rfl, rfl, ad, cl1.ek (.of ((sm.trans s2).trans sm3)), _, rfl, ?_⟩
          refine ite2 (fun h2 => ?_) (fun h2 => ?_)
          · exact ⟨_, rfl, k1 b d _ same_refl ad (by rw [sn, filter_snoc, if_pos h2])⟩
          · exact k0 _ same_refl (by rw [sn, filter_snoc, if_neg h2, List.append_nil])
        intro G3 ds sm3 eD prd
        rw [List.length_map, lbs] at prd
        have prd : Paired (fun q c => At G3 q c) ds ((nbC y).filter fun x => !decide (x ∈ L)) := prd
        have ld : ds.length ≤ 4 := by
          rw [Paired.length prd]
          exact List.length_filter_le _ _
        have s23 := s2.trans sm3
        refine ⟨l4, D, _, _, rfl, rfl, s23 _ _ e4, eD, by rw [List.length_map, List.length_map, sizeLine_eq]; omega, fun l5 hl5 => ?_⟩
        have s5 := same_new (o := .lst (rs.map V.ref ++ ds.map V.ref)) hl5
        refine ⟨l5, _, _, rfl, (sm.trans s23).trans s5, rs ++ ds, by rw [upd_same, List.map_append], ?_⟩
        rw [take_snoc hy, rimL_snoc]
        exact paired_app (paired_imp (fun _ _ h => (At.same h s23).same s5) pr4) (paired_imp (fun _ _ h => At.same h s5) prd)
      rintro σ G1 ⟨l4, v5, v6, rfl, sm, c4⟩
      rw [List.length_map, lq, List.take_length] at c4
      obtain ⟨rs, e4, pr4⟩ := id c4
      have lrs : rs.length ≤ 60 := by
        rw [Paired.length pr4]
        have := rimL_len (A := L) L
        omega
      obtain ⟨ks, ek, k1, k2⟩ := ks_of pr4
      have lks : ks.length = rs.length := by rw [← ek, List.length_map]
      refine ⟨_, rfl, l4, ks, rfl, SqL.of (by rw [e4]; congr 2; rw [show (ks.map fun p => V.ref p.1) = (ks.map (·.1)).map V.ref from by rw [List.map_map]; rfl, ek]), fun q hq => ?_, by omega, fun sa L0 hsa subL allL => ?_⟩
      · obtain ⟨c, _, ac, e⟩ := k1 q hq
        rw [e]
        exact SqT.of ac
      have u1 := same_new (o := SetTO P w sa L0) hsa
      obtain ⟨cs, pcs⟩ := cs_of (H := upd G1 sa (SetTO P w sa L0)) (L := L0) fun q hq => by
        obtain ⟨c, _, ac, e⟩ := k1 q (subL q hq)
        exact ⟨c, u1 _ _ ac, e⟩
      have mem : ∀ c, c ∈ cs ↔ RingC L c := fun c => by
        rw [← rimL_mem]
        constructor
        · intro hc
          obtain ⟨q, hq, aq, e⟩ := paired_memR pcs c hc
          obtain ⟨d, hd, ad, e2⟩ := k1 q (subL q hq)
          rw [e] at e2
          rw [pair_inj e2]
          exact hd
        · intro hc
          obtain ⟨q, hq, e⟩ := k2 c hc
          obtain ⟨q', hq', e'⟩ := List.mem_map.mp (allL q hq)
          obtain ⟨i, hi⟩ := List.mem_iff_getElem?.mp hq'
          obtain ⟨d, hd, _, e3⟩ := paired_get pcs hi
          have : c = d := pair_inj (e.symm.trans (e'.symm.trans e3))
          rw [this]
          exact List.mem_of_getElem? hd
      refine ⟨sa, L0, cs, rfl, upd_same, pcs, fun nd so qs' cs' prq pm asc hso => ?_⟩
      have u2 := same_new (o := .lst (qs'.map V.ref)) hso
      have es := upd_same (H := upd G1 sa (SetTO P w sa L0)) (a := so) (o := .lst (qs'.map V.ref))
      have prs : Paired (fun q c => At (upd (upd G1 sa (SetTO P w sa L0)) so (.lst (qs'.map V.ref))) q c) qs' cs' := paired_imp (fun x y (h : At _ x y) => u2 _ _ h) prq
      have sB := sm.trans (u1.trans u2)
      have memS : ∀ c, c ∈ cs' → RingC L c := fun c hc => (mem c).mp (pm.mem_iff.mp hc)
      have neS : cs' ≠ [] := fun z => by
        obtain ⟨s, hs, d, hd, nd⟩ := out_ex neL
        have := pm.mem_iff.mpr ((mem d).mpr ⟨nd, s, hs, hd⟩)
        rw [z] at this
        cases this
      have lcs' : cs'.length ≤ 1000 := by
        have h1 := len_le nd (ys := rimL L L) fun x hx => rimL_mem.mpr ((mem x).mp hx)
        have h2 := rimL_len (A := L) L
        rw [pm.length_eq]
        omega
      have lqs' : qs'.length = cs'.length := Paired.length prs
      have cl2 := cl1.ek (.of sB)
      -- the lonely ones
      refine ⟨_, rfl, so, rfl, ⟨_, SqL.of es⟩, fun D1 hD1 => ?_⟩
      refine lc_kindC (walk_list (K := K) (a := so) (xs := qs'.map V.ref)) hD1 (fun x => x ∈ cs') (by rw [List.length_map]; omega) (fun i G3 _ sm3 => SqL.of (sm3 _ _ es)) ?_ ?_
      · rintro i x G3 G4 K1 K0 hi sm3 ⟨rfl, hx⟩ k1 k0
        rw [List.getElem?_map] at hx
        obtain ⟨q, hq, rfl⟩ := Option.map_eq_some_iff.mp hx
        obtain ⟨d, hd, ad⟩ := paired_get prs hq
        have ad : At G4 q d := ad.same sm3
        refine ⟨rfl, _, rfl, q, d, rfl, ad, fun lb G5 s5 hlb cb => ?_⟩
        obtain ⟨bs, eb, pb⟩ := cb
        have lbs : bs.length = 4 := Paired.length pb
        refine ⟨lb, rfl, ⟨_, SqL.of eb⟩, fun D2 hD2 => ?_⟩
        refine lc_kindC (walk_list (K := K) (a := lb) (xs := bs.map V.ref)) hD2 (fun _ => True) (by rw [List.length_map]; omega) (fun i G6 _ sm6 => SqL.of (sm6 _ _ eb)) ?_ ?_
        · rintro j x G6 G7 K3 K2 hj sm6 ⟨rfl, hx2⟩ k3 k2
          rw [List.getElem?_map] at hx2
          obtain ⟨b, hb, rfl⟩ := Option.map_eq_some_iff.mp hx2
          obtain ⟨e, he, ae⟩ := paired_get pb hb
          have ae : At G7 b e := ae.same sm6
          refine ⟨rfl, _, rfl, _, rfl, b, l, e, L, rfl, rfl, ae, cl2.ek (.of ((sm3.trans s5).trans sm6)), _, rfl, ?_⟩
          exact ite2 (fun _ => ⟨_, rfl, k3 b e _ same_refl ae trivial⟩) (fun _ => k2 _ same_refl)
        intro G6 ds es6 sm6 eD2 _ _ _
        refine ⟨D2, _, rfl, .inl (SqL.of eD2), rfl, _, rfl, ?_⟩
        exact ite2 (fun _ => ⟨_, rfl, k1 q d _ (s5.trans sm6) ((ad.same s5).same sm6) (List.mem_of_getElem? hd)⟩) (fun _ => k0 _ (s5.trans sm6))
      intro G3 ds xs s3 e3 prx subx lx
      have sC := sB.trans s3
      have hp3 := hp1.same sC
      have cl3 := cl2.ek (.of s3)
      have cs3 : CellsL G3 so cs' := ⟨qs', s3 _ _ es, paired_imp (fun _ _ h => At.same h s3) prs⟩
      have lxs : xs.length ≤ 1000 := by rw [List.length_map] at lx; omega
      -- the rest of the turn
      have rest : ∀ (G4 : Hp) (so2 : Addr) (ss : List Cell) (n2 : Nat), PenC G4 p c n2 → n2 ≤ n' + 1 → Kp [p] G G4 → CellsL G4 l L → CellsL G4 so2 ss → ss ≠ [] → ss.length ≤ 1000 → (∀ x ∈ ss, RingC L x) → ∀ (D : Ends), (∀ (l2 : Addr) (n3 : Nat) (L2 : List Cell) (w4 w5 w6 w7 w8 w9 w10 : Option V) (G5 : Hp), PenC G5 p c n3 → n3 ≤ n + 2 * L2.length → Kp [p] H G5 → CellsL G5 l2 L2 → L2.Nodup → Grown L2 → L2.length = L.length + 1 → (∀ a ∈ A, a ∈ L2) → D.nx [some (.ref p), some (.ref l2), some (.int (many : Int)), some (.int way), w4, w5, w6, w7, w8, w9, w10] G5) → ∀ v4 v5 v6 v7 v8 v10, tl D [some (.ref p), some (.ref l), some (.int (many : Int)), some (.int way), v4, v5, v6, v7, v8, some (.ref so2), v10] G4 := fun G4 so2 ss n2 hp4 hn4 kp4 cl4 cs4 ne4 l4 ring D kD v4 v5 v6 v7 v8 v10 => by
        refine keyl D G4 p c l so2 n2 many way v4 v5 v6 v7 v8 v10 L ss hp4 (by omega) cl4 (by omega) cs4 ne4 l4 fun l2 G5 x w4 w5 w6 w7 w8 w9 w10 hp5 kp5 hx cl5 => ?_
        obtain ⟨nx, y, hy, hb⟩ := ring x hx
        refine kD l2 _ (L ++ [x]) _ _ _ _ _ _ _ G5 hp5 (by rw [List.length_append]; show n2 + 1 ≤ n + 2 * (L.length + 1); omega) ((kp1.trans kp4).trans kp5) cl5 (nodup_snoc nL nx) (gL.snoc hy hb) (by rw [List.length_append]; rfl) fun a ha => List.mem_append_left _ (subA a ha)
      have kDn : ∀ (l2 : Addr) (n3 : Nat) (L2 : List Cell) (w4 w5 w6 w7 w8 w9 w10 : Option V) (G5 : Hp), PenC G5 p c n3 → n3 ≤ n + 2 * L2.length → Kp [p] H G5 → CellsL G5 l2 L2 → L2.Nodup → Grown L2 → L2.length = L.length + 1 → (∀ a ∈ A, a ∈ L2) → ∃ m', m' < many - L.length ∧ ∃ (l : Addr) (n' : Nat) (L : List Cell) (v4 v5 v6 v7 v8 v9 v10 : Option V), m' = many - L.length ∧ [some (V.ref p), some (.ref l2), some (.int (many : Int)), some (.int way), w4, w5, w6, w7, w8, w9, w10] = [some (.ref p), some (.ref l), some (.int (many : Int)), some (.int way), v4, v5, v6, v7, v8, v9, v10] ∧ PenC G5 p c n' ∧ n' ≤ n + 2 * L.length ∧ Kp [p] H G5 ∧ CellsL G5 l L ∧ L.Nodup ∧ Grown L ∧ L.length ≤ many ∧ (∀ a ∈ A, a ∈ L) := fun l2 n3 L2 w4 w5 w6 w7 w8 w9 w10 G5 h1 h2 h3 h4 h5 h6 h7 h8 => ⟨_, by omega, l2, n3, L2, w4, w5, w6, w7, w8, w9, w10, rfl, rfl, h1, h2, h3, h4, h5, h6, by omega, h8⟩
      refine ⟨_, rfl, _, _, rfl, rfl, _, rfl, ?_⟩
      refine ite2 (fun h2 => ?_) (fun h2 => ?_)
      · refine ⟨_, rfl, Nat.zero_le _, fun l6 hl6 => ?_⟩
        have s6 := same_new (o := .lst []) hl6
        refine ⟨.list (xs.map cD), .list [], .lst (SqL.of (s6 _ _ e3)) (cells_dps (paired_imp (fun _ _ h => At.same h s6) prx)), .lst (SqL.of upd_same) .nil, (lay_list (n := 1) fun d hd => by
          obtain ⟨z, _, rfl⟩ := List.mem_map.mp hd
          exact lay_cellH z).shaped (by decide), (lay_list (n := 0) (ds := []) (by simp)).shaped (by decide), _, rfl, ?_⟩
        rw [eqv_nilD]
        have sD := sC.trans s6
        refine ite2 (fun h3 => ?_) (fun h3 => ?_)
        · have nex : xs ≠ [] := fun z => by rw [z] at h3; exact absurd h3 (by simp)
          have hp6 := hp3.same s6
          refine ⟨_, rfl, p, c, n', 6, rfl, hp6, by decide, by decide, by omega, fun r G7 r0 r1 hp7 hb7 => ?_⟩
          have k7 := kp_pick hb7
          have ek7 := pen_ek hp6.at k7
          refine ⟨_, _, rfl, rfl, _, rfl, ?_⟩
          refine ite2 (fun _ => ?_) (fun _ => ?_)
          · exact ⟨_, rfl, rest G7 D1 xs (n' + 1) hp7 (Nat.le_refl _) ((Kp.of sD).trans k7) ((cl3.ek (.of s6)).ek ek7) (CellsL.ek ⟨ds, s6 _ _ e3, paired_imp (fun _ _ h => At.same h s6) prx⟩ ek7) nex lxs (fun x hx => memS x (subx x hx)) _ kDn _ _ _ _ _ _⟩
          · exact ⟨_, rfl, rest G7 so cs' (n' + 1) hp7 (Nat.le_refl _) ((Kp.of sD).trans k7) ((cl3.ek (.of s6)).ek ek7) ((cs3.ek (.of s6)).ek ek7) neS lcs' memS _ kDn _ _ _ _ _ _⟩
        · exact ⟨_, rfl, rest _ so cs' n' (hp3.same s6) (Nat.le_succ _) (Kp.of sD) (cl3.ek (.of s6)) (cs3.ek (.of s6)) neS lcs' memS _ kDn _ _ _ _ _ _⟩
      · exact ⟨_, rfl, rest G3 so cs' n' hp3 (Nat.le_succ _) (Kp.of sC) cl3 cs3 neS lcs' memS _ kDn _ _ _ _ _ _⟩
    · have e : L.length = many := by
        refine Nat.le_antisymm lL (Nat.le_of_not_lt fun z => h1 (decide_eq_true ?_))
        rw [List.length_map, lq]
        omega
      exact ⟨_, rfl, k l G L n' hp1 (by omega) kp1 cl1 nL gL e subA⟩
end
end Sq

set_option Elab.async false
set_option linter.all false
set_option maxRecDepth 100000
set_option maxHeartbeats 8000000
/-! The law: what is refused. -/
namespace Sq
open PySem PySem.Spec PyProof.Rows L2
/-- _law_refused(x), x no number of squares -/
def spRefN (K : PySem.W.Frag) : Sp := fun vs H Q _ => ∃ (x : V) (d : PyData), vs = [x] ∧ BadN K H x 7 ∧ Dp K H x d ∧ (∀ G, Same H G → Dp K G x d) ∧ ShOk d ∧ ∀ r H', Same H H' → H' r = some (.tup [.str "n", .str (shV d)]) → Q (.ref r) H'
def tRefS (K : PySem.W.Frag) (C : Addr) : Su := fun a cls d => tRet (tTup (tCons (tXf a cls d C "what" (tVar 1)) (tCons (tCB (rReprV K) (tCons (tXf a cls d C "number" (tVar 1)) tNil)) tNil)))
section
variable {P : Program} {w : World} {K : PySem.W.Frag} {mg : Str → Option Value} {base : Heap}
theorem len_refN : ∀ vs H Q E, spRefN K vs H Q E → vs.length = (["_law_n"] : List Str).length := fun vs H Q E h => by
  obtain ⟨x, d, rfl, _⟩ := h
  rfl
theorem scRfN : FnScope ["_law_n", "e"] ["_law_n"] (defScope lRefused) := ⟨rfl, rfl, rfl, by decide +kernel, rfl, by decide +kernel, by decide +kernel⟩
theorem ok_refN {f CB fB : Addr} {fd : FuncData} (F : FnP K "_law_refused" lRefused f fd) (gR : mg "repr" = none) (bb : PySem.W.exmOne K (.ref CB) (.ref CB) = some true) (xb : XfC K CB) (f1 : PySem.W.findIn K (.ref CB) "what" = some none) (f2 : PySem.W.findIn K (.ref CB) "number" = some none) (BB : ErrC P K mg "BadNumber" CB fB ["what", "number"])
    (DA : Df P w K mg base (L2.CX P w) 8 "all_shapes" ["n"] (spAllShapes K CB)) : RunG P w K mg base CX0 9 f fd ["_law_n"] (spRefN K) := by
  obtain ⟨fk, fdk, gk, kpk, bk, FK⟩ := DA.ex
  refine fund_runG F scRfN (fun vs H Q E h => ?_) (fun cdv A outer s H vs Q E hg hr h => ?_)
  · obtain ⟨x, d, rfl, _⟩ := h
    rfl
  · have h64 := room64 hr
    refine ⟨_, pss_cons (ps_try_all (i := 1) (tb := fun W => _) (l := [(.ref CB, tRefS K CB)]) (Wo := fun _ _ _ _ => False) rfl rfl scRfN.nd rfl rfl takes0
        (fun W pn xe tk _ => pss_one (ps_expr (by exact (pe_callS FK hr rfl gk kpk bk (fun σ => passAt tk σ) (by exact (pa_cons (pv 0) pa_nil))))))
        (.cons ⟨rfl, by decide, .inl BB.g⟩ (fun a oe cls d pn hz hf => pss_one (ps_ret (pe_tup (pa_cons (pe_xf xb f1 hz hf (pv 1)) (pa_cons (pe_callB (call_reprVK (K := K) rfl hg h64) (by rfl) gR PyProof.Rows.boot_repr (pa_cons (pe_xf xb f2 hz hf (pv 1)) pa_nil)) pa_nil)))))
        .nil))
      (pss_one (ps_ret pe_non)), ?_⟩
    obtain ⟨x, d, rfl, bad, dp, dps, sh, k⟩ := h
    refine ⟨_, rfl, x, rfl, .inr ⟨bad, fun dd G sm hd ed => ⟨true, bb, fun _ y hy => ?_, fun q => nomatch q⟩⟩⟩
    refine ⟨_, rfl, rfl, rfl, dd, _, _, rfl, ed, rfl, _, rfl, rfl, rfl, dd, _, _, rfl, ed, rfl, x, d, rfl, dps _ sm, sh, two_le, fun r hr' => ?_⟩
    exact k r _ (sm.trans (same_new hr')) upd_same
end
end Sq

set_option Elab.async false
set_option linter.all false
set_option maxRecDepth 100000
set_option maxHeartbeats 8000000
/-! The law k38. -/
namespace Sq
open PySem PySem.Spec PyProof.Rows L2
theorem any_bD (B : List Cell) : ∀ Cs : List (List Cell), (Cs.map bD).any (fun z => PyData.eqv z (bD B)) = decide (B ∈ Cs)
  | [] => by simp
  | C :: Cs => by
    rw [List.map_cons, List.any_cons, any_bD B Cs, eqv_bD]
    by_cases h : C = B
    · subst h
      simp
    · have h' : ¬ B = C := fun z => h z.symm
      simp [h, h']
theorem can_bD (Cs : List (List Cell)) : PyData.canLayAll0 (Cs.map bD) = true := (lay_all (n := 2) fun d hd => by
  obtain ⟨c, _, rfl⟩ := List.mem_map.mp hd
  exact lay_bD c).1
theorem bD_dps {K : PySem.W.Frag} {H : Hp} : ∀ {ts : List Addr} {Cs : List (List Cell)}, Paired (fun t p => CellsT H t p) ts Cs → DpAll K H (ts.map V.ref) (Cs.map bD)
  | _, _, .nil => .nil
  | _, _, .cons h t => .cons h.dp (bD_dps t)
theorem CellsTT.dp {K : PySem.W.Frag} {H : Hp} {t : Addr} {Cs : List (List Cell)} (h : CellsTT H t Cs) : Dp K H (.ref t) (.tuple (Cs.map bD)) := by
  obtain ⟨ts, e, pr⟩ := h
  exact .tup (SqT.of e) (bD_dps pr)
theorem lay_bDs {Cs : List (List Cell)} : Lay 3 (.tuple (Cs.map bD)) := lay_tuple fun d hd => by
  obtain ⟨c, _, rfl⟩ := List.mem_map.mp hd
  exact lay_bD c
theorem CellsTT.ek {H G : Hp} {t : Addr} {Cs : List (List Cell)} (h : CellsTT H t Cs) (k : Ek H G) : CellsTT G t Cs := by
  obtain ⟨ts, e, pr⟩ := h
  exact ⟨ts, k.tup e, paired_imp (fun _ _ h => h.ek k) pr⟩
/-- not in, for a body and a tuple of bodies -/
def rOutTT : R2 := fun x y H Q => ∃ (p t : Addr) (B : List Cell) (Cs : List (List Cell)), x = .ref p ∧ y = .ref t ∧ CellsT H p B ∧ CellsTT H t Cs ∧ Q (.bl (!decide (B ∈ Cs))) H
theorem op_outTT {X : Cx} (hu : X.A.units + 64 < cLine) : OpR X (compareOp .NotIn) rOutTT := by
  rintro pins s σ H x y v u Q I rx ry ⟨p, t, B, Cs, rfl, rfl, ap, ct, q⟩
  obtain ⟨as, r1⟩ := Dp.reads I (bD B) _ v ap.dp rx
  obtain ⟨bs, r2⟩ := Dp.reads I (.tuple (Cs.map bD)) _ u ct.dp ry
  have l1 := lay_bD B
  refine SeqAt.notIn_tuple_reads r2 r1 (can_bD Cs) l1.1 ?_ ⟨.bl _, H, I, rfl, ?_⟩
  · have m : min (PyData.depthAll (Cs.map bD)) (bD B).depth ≤ 2 := Nat.le_trans (Nat.min_le_right _ _) l1.2
    omega
  · rw [any_bD]
    exact q
theorem rot_beside : ∀ a b : Cell, b ∈ besideC a → ((-b.2, b.1) : Cell) ∈ besideC (-a.2, a.1) := fun a b h => by
  rw [beside_iff] at h ⊢
  dsimp only
  omega
theorem mir_beside : ∀ a b : Cell, b ∈ besideC a → ((-b.1, b.2) : Cell) ∈ besideC (-a.1, a.2) := fun a b h => by
  rw [beside_iff] at h ⊢
  dsimp only
  omega
/-- x is no number of squares; how it is shown -/
structure OddN (K : PySem.W.Frag) (H : Hp) (x : V) (d : PyData) (m : Int) : Prop where
  is : ∀ G, Tk H G → BadN K G x m ∧ Dp K G x d
  sh : ShOk d
  ok : PyData.strOk (shV d) = true
def spLaw (K : PySem.W.Frag) : Sp := fun vs H Q _ => ∃ (a : Addr) (zs : List Int), vs = [.ref a] ∧ SqL K H a (zs.map V.int) ∧ zs.length ≤ 63 ∧ ∀ H', Q (.bl true) H'
abbrev l38N : List Str := ["_law_script", "_law_pen_here", "_law_many", "_law_told", "_law_lap", "_law_body", "_law_turn", "_law_x", "_law_y", "_law_odd"]
section
variable {P : Program} {w : World} {K : PySem.W.Frag} {mg : Str → Option Value} {base : Heap}
theorem scL38 : FnScope l38N ["_law_script"] (defScope sLaw) := ⟨rfl, rfl, rfl, by decide +kernel, rfl, by decide +kernel, by decide +kernel⟩
variable {f CB : Addr} {cdv : Value} {A : Around} {outer : List Env} {s : Shared} {H0 : Hp} {E : XK}
/-- from the odd value on -/
theorem p38_odd (hg : A.guards = some []) (hr : Room 9 (cxOf CX0 P w K mg base l38N "law" (defScope sLaw) f cdv A outer s H0 E).nox.A) (gR : mg "repr" = none) (DPk : Df P w K mg base CX0 2 "_law_pick" ["_law_pen_here", "_law_some"] (spPickC K)) (DR : Dg P w K mg base CX0 9 "_law_refused" ["_law_n"] (spRefN K)) :
    ∃ t, PSs (cxOf CX0 P w K mg base l38N "law" (defScope sLaw) f cdv A outer s H0 E).nox ((defBody sLaw).drop 5) t ∧
      ∀ (D : Ends) (G : Hp) (p c : Addr) (n : Nat) (v0 v2 v3 v4 v5 v6 v7 v8 v9 : Option V), PenC G p c n → n < 1000000 → (∀ G', D.rt (.bl true) G') → t D [v0, some (.ref p), v2, v3, v4, v5, v6, v7, v8, v9] G := by
  have h64 := room64 hr
  refine ⟨_, (pss_cons (ps_set (i := 9) scL38.nd rfl (.inl rfl) (pe_df DPk hr (by rfl) pass0 (pa_cons (pv 1) (pa_cons (pe_lst (pa_cons pe_non (pa_cons pe_int (pa_cons (pe_un un_neg pe_int) (pa_cons pe_int (pa_cons pe_bl (pa_cons pe_str (pa_cons (pe_tup (pa_cons pe_int pa_nil)) pa_nil)))))))) pa_nil))))
      (pss_one (ps_ret (pe_cmpR (op_eqK (K := K) rfl h64) (pe_dg DR hg hr (by rfl) pass0 (pa_cons (pv 9) pa_nil)) (pe_tup (pa_cons pe_str (pa_cons (pe_callB (call_reprVK (K := K) rfl hg h64) (by rfl) gR PyProof.Rows.boot_repr (pa_cons (pv 9) pa_nil)) pa_nil))) (nomark _))))), ?_⟩
  intro D G p c n v0 v2 v3 v4 v5 v6 v7 v8 v9 hp hn kD
  have one_le : (1 : Nat) ≤ sizeLine := by rw [sizeLine_eq]; decide
  refine ⟨_, rfl, _, rfl, one_le, fun t1 h1 => ⟨by show 7 ≤ sizeLine; rw [sizeLine_eq]; decide, fun l hl => ?_⟩⟩
  have s1 := same_new (o := .tup [.int 3]) h1
  have e1 := upd_same (H := G) (a := t1) (o := .tup [.int 3])
  generalize upd G t1 (.tup [.int 3]) = G1 at s1 e1 hl ⊢
  have s2 := same_new (o := .lst [.non, .int 0, .int (-1), .int 8, .bl true, .str "3", .ref t1]) hl
  have e2 := upd_same (H := G1) (a := l) (o := .lst [.non, .int 0, .int (-1), .int 8, .bl true, .str "3", .ref t1])
  have e12 := s2 _ _ e1
  have hp2 := (hp.same s1).same s2
  generalize upd G1 l (.lst [.non, .int 0, .int (-1), .int 8, .bl true, .str "3", .ref t1]) = G2 at s2 e2 e12 hp2 ⊢
  refine ⟨p, c, l, n, _, rfl, hp2, hn, .inl (SqL.of e2), by show 1 ≤ 7; decide, by show 7 < 1073741824; decide, fun i x G3 hx hp3 hb3 => ?_⟩
  have k3 := kp_pick hb3
  have ek3 := pen_ek hp2.at k3
  have e13 : G3 t1 = some (.tup [.int 3]) := ek3.tup e12
  have kb : ∀ {G : Hp} {b : Bool}, Kd K G (.bl b) "bool" := fun {G b} => ⟨.base (.bl b), by decide⟩
  have kn : ∀ {G : Hp}, Kd K G .non "NoneType" := fun {G} => ⟨.base .non, by decide⟩
  have ks : ∀ {G : Hp} {z : Str}, Kd K G (.str z) "str" := fun {G z} => ⟨.base (.str z), by decide⟩
  obtain ⟨d, od⟩ : ∃ d, OddN K G3 x d 7 := by
    have m := List.mem_of_getElem? hx
    simp only [List.mem_cons, List.not_mem_nil, or_false] at m
    rcases m with rfl | rfl | rfl | rfl | rfl | rfl | rfl
    · exact ⟨_, fun G _ => ⟨.inl ⟨_, kn, by decide⟩, .non⟩, trivial, by decide +kernel⟩
    · exact ⟨_, fun G _ => ⟨.inr ⟨_, rfl, by decide⟩, .int _⟩, (by unfold ShOk; decide +kernel), by decide +kernel⟩
    · exact ⟨_, fun G _ => ⟨.inr ⟨_, rfl, by decide⟩, .int _⟩, (by unfold ShOk; decide +kernel), by decide +kernel⟩
    · exact ⟨_, fun G _ => ⟨.inr ⟨_, rfl, by decide⟩, .int _⟩, (by unfold ShOk; decide +kernel), by decide +kernel⟩
    · exact ⟨_, fun G _ => ⟨.inl ⟨_, kb, by decide⟩, .bl _⟩, trivial, by decide +kernel⟩
    · exact ⟨_, fun G _ => ⟨.inl ⟨_, ks, by decide⟩, .str _⟩, (by unfold ShOk; decide +kernel), by decide +kernel⟩
    · exact ⟨_, fun G k => ⟨.inl ⟨_, Kd.tup (k _ _ e13), by decide⟩, .tup (SqT.of (k _ _ e13)) (.cons (.int 3) .nil)⟩, ⟨by decide +kernel, by decide +kernel, by decide +kernel, by decide +kernel⟩, by decide +kernel⟩
  obtain ⟨b3, d3⟩ := od.is G3 Tk.refl
  refine ⟨_, rfl, x, d, rfl, b3, d3, fun G4 s4 => (od.is G4 (.of s4)).2, od.sh, fun r G4 s4 e4 => ?_⟩
  refine ⟨_, rfl, x, d, rfl, (od.is G4 (.of s4)).2, od.sh, two_le, fun u hu => ?_⟩
  have s5 := same_new (o := .tup [.str "n", .str (shV d)]) hu
  have ly : Lay 1 (.tuple [.str "n", .str (shV d)]) := lay_tuple fun z hz => by
    simp only [List.mem_cons, List.not_mem_nil, or_false] at hz
    rcases hz with rfl | rfl
    · exact lay_str (by decide +kernel)
    · exact lay_str od.ok
  refine ⟨.tuple [.str "n", .str (shV d)], .tuple [.str "n", .str (shV d)], .tup (SqT.of (s5 _ _ e4)) (.cons (.str _) (.cons (.str _) .nil)), .tup (SqT.of upd_same) (.cons (.str _) (.cons (.str _) .nil)), ly.shaped (by decide), ly.shaped (by decide), ?_⟩
  rw [eqv_self ly]
  exact kD _
theorem run_law {fd : FuncData} {f : Addr} (F : FnP K "law" sLaw f fd) (B : Bl mg) (gR : mg "repr" = none) (D0 : Df P w K mg base CX0 1 "_law_pen" ["_law_script"] (spPen K)) (DD : Df P w K mg base CX0 1 "_law_draw" ["_law_pen_here", "_law_many"] spDrawC) (DPk : Df P w K mg base CX0 2 "_law_pick" ["_law_pen_here", "_law_some"] (spPickC K)) (DA : Df P w K mg base (L2.CX P w) 8 "all_shapes" ["n"] (spAllShapes K CB)) (DS : Df P w K mg base CX0 2 "_law_nb_shapes" ["_law_many"] spNShapes)
    (DG : Df P w K mg base CX0 3 "_law_nb_grown" ["_law_pen_here", "_law_body", "_law_many", "_law_way"] spNGrown) (DH : Df P w K mg base CX0 1 "_law_nb_shape" ["_law_cells"] spNShape) (DR : Dg P w K mg base CX0 9 "_law_refused" ["_law_n"] (spRefN K)) : RunG P w K mg base CX0 10 f fd ["_law_script"] (spLaw K) := by
  refine fund_runG F scL38 (fun vs H Q E h => ?_) (fun cdv A outer s H vs Q E hg hr h => ?_)
  · obtain ⟨a, zs, rfl, _⟩ := h
    rfl
  · obtain ⟨a, zs, rfl, hS, hl, k⟩ := h
    have h64 := room64 hr
    have one_le : (1 : Nat) ≤ sizeLine := by rw [sizeLine_eq]; decide
    obtain ⟨tl, htl, keyl⟩ := p38_odd (P := P) (w := w) (K := K) (mg := mg) (base := base) (f := f) (cdv := cdv) (A := A) (outer := outer) (s := s) (H0 := H) (E := E) hg hr gR DPk DR
    refine ⟨_, PSs.nox (pss_cons (ps_set (i := 1) scL38.nd rfl (.inl rfl) (pe_df D0 hr (by rfl) pass0 (pa_cons (pv 0) pa_nil)))
      (pss_cons (ps_set (i := 2) scL38.nd rfl (.inl rfl) (pe_df DPk hr (by rfl) pass0 (pa_cons (pv 1) (pa_cons (pe_lst (pa_cons pe_int (pa_cons pe_int (pa_cons pe_int (pa_cons pe_int (pa_cons pe_int (pa_cons pe_int (pa_cons pe_int (pa_cons pe_int (pa_cons pe_int pa_nil)))))))))) pa_nil))))
      (pss_cons (ps_set (i := 3) scL38.nd rfl (.inl rfl) (pe_df DA hr (by rfl) (passes_call (W := fun _ _ _ _ => False) (E := fun _ _ _ => False) takes0 (fun _ _ _ _ h => h)) (pa_cons (pv 2) pa_nil)))
      (pss_cons (ps_if (pt_cmpR (op_neK (K := K) rfl h64) (pv 3) (pe_tupleOf (by rfl) B.tuple (pe_df DS hr (by rfl) pass0 (pa_cons (pv 2) pa_nil))) (nomark _))
      (pss_one (ps_ret pe_bl))
      pss_nil)
      (pss_cons (ps_for PassesOwn.never rfl (pi_range1 (by rfl) B.range (pa_cons pe_int pa_nil)) (pg_name (i := 4) scL38.nd rfl (.inl rfl))
      (pss_cons (ps_set (i := 5) scL38.nd rfl (.inl rfl) (pe_df DG hr (by rfl) pass0 (pa_cons (pv 1) (pa_cons (pe_lst (pa_cons (pe_tup (pa_cons pe_int (pa_cons pe_int pa_nil))) pa_nil)) (pa_cons (pv 2) (pa_cons (pe_df DD hr (by rfl) pass0 (pa_cons (pv 1) (pa_cons pe_int pa_nil))) pa_nil))))))
        (pss_one (ps_for PassesOwn.never rfl (pi_range1 (by rfl) B.range (pa_cons pe_int pa_nil)) (pg_name (i := 6) scL38.nd rfl (.inl rfl))
        (pss_cons (ps_setLc (i := 5) (own := [("_law_x", 7), ("_law_y", 8)]) (g := gTup K 2 (gCons (gName 7) (gCons (gName 8) gNil))) (tt := tYes) (by rfl) scL38.nd rfl rfl (sw_true rfl rfl rfl (by decide +kernel)) (pi_list (pv 5)) (blkOk_by (N := l38N) (sc := defScope sLaw) (by decide +kernel)) (fun _ _ _ _ _ => (pg_tup (by rfl) (pgs_cons (pg_name (i := 7) scL38.nd rfl (Or.inl rfl)) (pgs_cons (pg_name (i := 8) scL38.nd rfl (Or.inl rfl)) pgs_nil)))) (fun _ _ _ _ _ => pts_nil) (fun _ _ _ _ _ => (pe_tup (pa_cons (pe_un un_neg (pv 8)) (pa_cons (pv 7) pa_nil)))))
          (pss_one (ps_if (PW.pt (pw_or (pt_cmpR (op_outTT h64) (pe_df DH hr (by rfl) pass0 (pa_cons (pv 5) pa_nil)) (pv 3) (by rfl)) (pw_or1 (pt_cmpR (op_outTT h64) (pe_df DH hr (by rfl) pass0 (pa_cons (pe_lc (own := [("_law_x", 7), ("_law_y", 8)]) (g := gTup K 2 (gCons (gName 7) (gCons (gName 8) gNil))) (tt := tYes) rfl scL38.nd (pi_list (pv 5)) (blkOk_by (N := l38N) (sc := defScope sLaw) (by decide +kernel)) (fun _ _ _ _ _ => (pg_tup (by rfl) (pgs_cons (pg_name (i := 7) scL38.nd rfl (Or.inl rfl)) (pgs_cons (pg_name (i := 8) scL38.nd rfl (Or.inl rfl)) pgs_nil)))) (fun _ _ _ _ _ => pts_nil) (fun _ _ _ _ _ => (pe_tup (pa_cons (pe_un un_neg (pv 7)) (pa_cons (pv 8) pa_nil))))) pa_nil)) (pv 3) (by rfl)))))
          (pss_one (ps_ret pe_bl))
          pss_nil)))))))
      htl))))), ?_⟩
    refine ⟨_, rfl, a, zs, rfl, hS, hl, fun p H1 hp1 s1 np => ?_⟩
    obtain ⟨c, hp1⟩ := hp1.c
    refine ⟨_, rfl, by show 9 ≤ sizeLine; rw [sizeLine_eq]; decide, fun l2 hl2 => ?_⟩
    have s2 := same_new (o := .lst [.int 1, .int 2, .int 3, .int 4, .int 5, .int 5, .int 6, .int 6, .int 7]) hl2
    have hp2 := hp1.same s2
    refine ⟨p, c, l2, 0, _, rfl, hp2, by decide, .inl (SqL.of upd_same), by show 1 ≤ 9; decide, by show 9 < 1073741824; decide, fun i x G3 hx hp3 hb3 => ?_⟩
    obtain ⟨many, rfl, m1, m7⟩ : ∃ m : Nat, x = .int (m : Int) ∧ 1 ≤ m ∧ m ≤ 7 := by
      have m := List.mem_of_getElem? hx
      simp only [List.mem_cons, List.not_mem_nil, or_false] at m
      rcases m with rfl | rfl | rfl | rfl | rfl | rfl | rfl | rfl | rfl
      · exact ⟨1, rfl, by decide, by decide⟩
      · exact ⟨2, rfl, by decide, by decide⟩
      · exact ⟨3, rfl, by decide, by decide⟩
      · exact ⟨4, rfl, by decide, by decide⟩
      · exact ⟨5, rfl, by decide, by decide⟩
      · exact ⟨5, rfl, by decide, by decide⟩
      · exact ⟨6, rfl, by decide, by decide⟩
      · exact ⟨6, rfl, by decide, by decide⟩
      · exact ⟨7, rfl, by decide, by decide⟩
    refine ⟨_, rfl, _, rfl, .inl ⟨many, rfl, m1, m7, fun T G4 Cs s4 ct al pw le => ?_⟩⟩
    have hp4 := hp3.same s4
    refine ⟨_, rfl, _, rfl, many, rfl, m1, m7, fun l5 G5 Ds s5 cl5 al5 pw5 => ?_⟩
    obtain rfl : Cs = Ds := bs_same al.nd al5.nd pw pw5 fun B => (al.mem B).trans (al5.mem B).symm
    obtain ⟨ts5, el5, pr5⟩ := cl5
    refine .inl ⟨l5, _, rfl, SqL.of el5, fun r hr' => ?_⟩
    have s6 := same_new (o := .tup (ts5.map V.ref)) hr'
    have ct5 : CellsTT (upd G5 r (.tup (ts5.map V.ref))) r Cs := ⟨ts5, upd_same, paired_imp (fun _ _ h => h.same s6) pr5⟩
    have ct6 := ct.ek (.of (s5.trans s6))
    have hp6 := (hp4.same s5).same s6
    refine ⟨_, _, ct6.dp, ct5.dp, lay_bDs.shaped (by decide), lay_bDs.shaped (by decide), _, rfl, ?_⟩
    rw [eqv_self lay_bDs]
    refine iteF ?_
    generalize upd G5 r (.tup (ts5.map V.ref)) = G6 at ct6 hp6 ⊢
    clear ct5 s6 hr'
    have inC : ∀ {A : List Cell}, A.length = many → Grown A → A.Nodup → shp A ∈ Cs := fun {A} la ga na => by
      have ne : A ≠ [] := fun z => by rw [z] at la; simp at la; omega
      have := grown_shape A.length rfl ga na ne
      rw [la] at this
      exact (al.mem _).mpr this
    refine ⟨_, rfl, by decide, by decide, ?_⟩
    refine for_range (lo := 0) (n := (6 : Int).toNat) (fun i σ G => ∃ (n : Nat) (v4 v5 v6 : Option V), σ = [some (.ref a), some (.ref p), some (.int (many : Int)), some (.ref T), v4, v5, v6, none, none, none] ∧ PenC G p c n ∧ n ≤ 1 + 15 * i ∧ CellsTT G T Cs) ⟨1, none, none, none, rfl, hp6, by omega, ct6⟩ ?_ ?_
    · rintro i σ G hi ⟨n, v4, v5, v6, rfl, hp7, hn7, ct7⟩
      have i6 : i < 6 := hi
      refine ⟨_, rfl, two_le, fun q0 hq0 => ⟨one_le, fun l0 hl0 => ?_⟩⟩
      have u1 := same_new (o := .tup [.int 0, .int 0]) hq0
      have u2 := same_new (o := .lst [.ref q0]) hl0
      have aq0 : At _ q0 (0, 0) := u2 _ _ (upd_same (H := G) (a := q0) (o := .tup [.int 0, .int 0]))
      have el0 := upd_same (H := upd G q0 (.tup [.int 0, .int 0])) (a := l0) (o := .lst [.ref q0])
      have uA := u1.trans u2
      generalize upd (upd G q0 (.tup [.int 0, .int 0])) l0 (.lst [.ref q0]) = G7 at aq0 el0 uA ⊢
      have cl0 : CellsL G7 l0 [(0, 0)] := ⟨[q0], el0, .cons aq0 .nil⟩
      have hp8 := hp7.same uA
      refine ⟨_, rfl, _, rfl, p, c, n, 2, rfl, hp8, by decide, by decide, by omega, fun way G8 w0 w1 hp9 hb9 => ?_⟩
      have k9 := kp_pick hb9
      have ek9 := pen_ek hp8.at k9
      have ct9 := (ct7.ek (.of uA)).ek ek9
      refine ⟨p, c, l0, n + 1, many, way, [(0, 0)], rfl, hp9, cl0.ek ek9, List.pairwise_singleton _ _, fun i b hb => by simp at hb, by simp, m1, by omega, by omega, fun lb G9 L n' hpA hnA kA cL nL gL lL _ => ?_⟩
      have ctA := ct9.ek (pen_ek hp9.at kA)
      refine ⟨_, rfl, by decide, by decide, ?_⟩
      refine for_range (lo := 0) (n := (4 : Int).toNat) (fun j σ G => ∃ (lb : Addr) (L : List Cell) (v6 : Option V), σ = [some (.ref a), some (.ref p), some (.int (many : Int)), some (.ref T), some (.int (0 + (i : Int))), some (.ref lb), v6, none, none, none] ∧ PenC G p c n' ∧ CellsTT G T Cs ∧ CellsL G lb L ∧ L.Nodup ∧ Grown L ∧ L.length = many) ⟨lb, L, v6, rfl, hpA, ctA, cL, nL, gL, lL⟩ ?_ ?_
      · rintro j σ G hj ⟨lb, L, v6, rfl, hpB, ctB, ⟨qs, eb, pq⟩, nL, gL, lL⟩
        have lq : qs.length = L.length := Paired.length pq
        refine ⟨_, rfl, lb, rfl, ⟨_, SqL.of eb⟩, fun D1 hD1 => ?_⟩
        refine lc_cells (walk_list (K := K) (a := lb) (xs := qs.map V.ref)) hD1 (fun i => (L.take i).map fun c => (-c.2, c.1)) rfl (by rw [List.length_map]; omega) (fun i G2 _ sm => SqL.of (sm _ _ eb)) ?_ ?_
        · rintro i x G1 G2 K1 K0 hi sm ⟨rfl, hx⟩ k1 k0
          rw [List.getElem?_map] at hx
          obtain ⟨q, hq, rfl⟩ := Option.map_eq_some_iff.mp hx
          obtain ⟨d, hd, ad⟩ := paired_get pq hq
          have ad : At G2 q d := ad.same sm
          refine ⟨q, _, rfl, SqT.of ad, rfl, _, _, rfl, _, _, rfl, rfl, rfl, yesT ⟨_, rfl, _, rfl, _, rfl, two_le, fun r hr' => ?_⟩⟩
          exact k1 r (-d.2, d.1) _ (same_new hr') upd_same (by rw [take_snoc hd, List.map_append]; rfl)
        intro G1 rs sm e1 pr1
        rw [List.length_map, lq, List.take_length] at pr1
        have nL1 : (L.map fun c : Cell => ((-c.2, c.1) : Cell)).Nodup := nL.map _ fun x y h z => h (by
          obtain ⟨z1, z2⟩ := Prod.mk.inj z
          exact Prod.ext z2 (by omega))
        have gL1 : Grown (L.map fun c : Cell => ((-c.2, c.1) : Cell)) := Grown.mapG rot_beside gL
        have lL1 : (L.map fun c : Cell => ((-c.2, c.1) : Cell)).length = many := by rw [List.length_map]; exact lL
        generalize (L.map fun c : Cell => ((-c.2, c.1) : Cell)) = L1 at pr1 nL1 gL1 lL1
        have cl1 : CellsL G1 D1 L1 := ⟨rs, e1, pr1⟩
        have ne1 : L1 ≠ [] := fun z => by rw [z] at lL1; simp at lL1; omega
        refine ⟨_, rfl, D1, L1, rfl, .inl cl1, ne1, by omega, fun z1 G2 s2 c2 => ?_⟩
        have sm2 := sm.trans s2
        refine ⟨_, rfl, z1, T, shp L1, Cs, rfl, rfl, c2, ctB.ek (.of sm2), _, rfl, ?_⟩
        rw [decide_eq_true (inC lL1 gL1 nL1)]
        refine iteF ?_
        have e12 := s2 _ _ e1
        refine ⟨_, rfl, D1, rfl, ⟨_, SqL.of e12⟩, fun D2 hD2 => ?_⟩
        have lrs : rs.length = L1.length := Paired.length pr1
        refine lc_cells (walk_list (K := K) (a := D1) (xs := rs.map V.ref)) hD2 (fun i => (L1.take i).map fun c => (-c.1, c.2)) rfl (by rw [List.length_map]; omega) (fun i G2 _ sm => SqL.of (sm _ _ e12)) ?_ ?_
        · rintro i x G3 G4 K1 K0 hi sm3 ⟨rfl, hx⟩ k1 k0
          rw [List.getElem?_map] at hx
          obtain ⟨q, hq, rfl⟩ := Option.map_eq_some_iff.mp hx
          obtain ⟨d, hd, ad⟩ := paired_get pr1 hq
          have ad : At G4 q d := (ad.same s2).same sm3
          refine ⟨q, _, rfl, SqT.of ad, rfl, _, _, rfl, _, _, rfl, rfl, rfl, yesT ⟨_, rfl, _, rfl, _, rfl, two_le, fun r hr' => ?_⟩⟩
          exact k1 r (-d.1, d.2) _ (same_new hr') upd_same (by rw [take_snoc hd, List.map_append]; rfl)
        intro G3 us sm3 e3 pr3
        rw [List.length_map, lrs, List.take_length] at pr3
        have nL2 : (L1.map fun c : Cell => ((-c.1, c.2) : Cell)).Nodup := nL1.map _ fun x y h z => h (by
          obtain ⟨z1, z2⟩ := Prod.mk.inj z
          exact Prod.ext (by omega) z2)
        have gL2 : Grown (L1.map fun c : Cell => ((-c.1, c.2) : Cell)) := Grown.mapG mir_beside gL1
        have lL2 : (L1.map fun c : Cell => ((-c.1, c.2) : Cell)).length = many := by rw [List.length_map]; exact lL1
        generalize (L1.map fun c : Cell => ((-c.1, c.2) : Cell)) = L2 at pr3 nL2 gL2 lL2
        have ne2 : L2 ≠ [] := fun z => by rw [z] at lL2; simp at lL2; omega
        refine ⟨D2, L2, rfl, .inl ⟨us, e3, pr3⟩, ne2, by omega, fun z2 G4 s4 c4 => ?_⟩
        have smF := (sm2.trans sm3).trans s4
        refine ⟨_, rfl, z2, T, shp L2, Cs, rfl, rfl, c4, ctB.ek (.of smF), _, rfl, ?_⟩
        rw [decide_eq_true (inC lL2 gL2 nL2)]
        refine iteF ?_
        exact ⟨D1, L1, _, rfl, hpB.same smF, ctB.ek (.of smF), cl1.ek (.of ((s2.trans sm3).trans s4)), nL1, gL1, lL1⟩
      · rintro σ G ⟨lb, L, v6, rfl, hpB, ctB, _, _, _, _⟩
        exact ⟨n', _, _, _, rfl, hpB, by omega, ctB⟩
    · rintro σ G ⟨n, v4, v5, v6, rfl, hp7, hn7, ct7⟩
      have : (6 : Int).toNat = 6 := rfl
      exact keyl _ G p c n _ _ _ _ _ _ _ _ _ hp7 (by omega) k
end
end Sq

set_option Elab.async false
set_option linter.all false
set_option maxRecDepth 100000
set_option maxHeartbeats 4000000
/-! What the head must tell of the errors' classes, as a Bool and a datum. -/
namespace Sq
open PySem PySem.Spec PyProof.Rows L2
/-! ### the text of an __init__ -/
structure ITxt (st : Stmt) (ns : List Str) : Prop where
  ex : ∃ (msg : Str) (j : Nat) (p0 p1 p2 p3 p4 p5 : Pos) (ps : List Ps) (ar : Arg), defBody st = supS msg j p0 p1 p2 p3 p4 p5 :: (ns.zip ps).map (fun z => keepS z.1 z.2) ∧ ns.length ≤ ps.length ∧ ((defArgs st).posonlyargs ++ (defArgs st).args).head? = some ar ∧
    ar.arg = "self" ∧ (p2.endLine == p4.line) = true
  bind : ∀ (name qual : Str) (kV doc pm cdv ct : Value) (an : Option Addr) (cc : Addr) (s : Shared) (us : List Value), us.length = ns.length + 1 →
    BindsTo s (PySem.W.ksFn name qual (defArgs st) (defBody st) (defScope st) .none kV doc pm an cdv ct cc) ⟨us, []⟩ ((("self" : Str) :: ns).zip us)
  sup : (defScope st).names.lookup ("super" : Str) = some .globalImplicit
  cls : (defScope st).names.lookup ("__class__" : Str) = some .free
  loc : ∀ x ∈ (("self" : Str) :: ns), (defScope st).names.lookup x = some .local
  dbg : ∀ x ∈ ns, (x == ("__debug__" : Str)) = false
  cell : ∀ x ∈ (defScope st).names, x.2 ≠ .cell
  co : (defScope st).isCoroutine = false
  gen : (defScope st).isGenerator = false
  kind : (defScope st).kind = .function
  nd : ns.Nodup
  noSelf : ("self" : Str) ∉ ns
  len : ns.length ≤ 900
abbrev sI (j : Nat) : Stmt := inClass (top j) 0
theorem iBadNumber : ITxt (sI 2) ["what", "number"] := ⟨⟨_, _, _, _, _, _, _, _, [⟨_, _, _, _⟩, ⟨_, _, _, _⟩], _, rfl, by decide, rfl, rfl, rfl⟩, fun _ _ _ _ _ _ _ _ _ _ us hl => (match us, hl with | [_, _, _], _ => .of_eq rfl), rfl, rfl, by decide +kernel, by decide +kernel, by decide +kernel, rfl, rfl, rfl, by decide +kernel, by decide +kernel, by decide⟩
theorem iBadCell : ITxt (sI 3) ["cell"] := ⟨⟨_, _, _, _, _, _, _, _, [⟨_, _, _, _⟩], _, rfl, by decide, rfl, rfl, rfl⟩, fun _ _ _ _ _ _ _ _ _ _ us hl => (match us, hl with | [_, _], _ => .of_eq rfl), rfl, rfl, by decide +kernel, by decide +kernel, by decide +kernel, rfl, rfl, rfl, by decide +kernel, by decide +kernel, by decide⟩
/-! ### what is looked at -/
abbrev FnI : Type := Option (Str × Str × Arguments × FuncBody × Scope × Addr × List Str × Addr)
def obsI (K : PySem.W.Frag) (x : Str) : FnI := match K.lookup (He.ma K (He.ga K x) "__init__") with
  | some ⟨_, _, .func fd, _⟩ => some (fd.name, fd.qualname, fd.params, fd.body, fd.scope, fd.globals, fd.closure.map (·.1), fd.builtins)
  | _ => none
def valI (x : Str) (st : Stmt) : FnI := some ("__init__", x ++ ".__init__", defArgs st, .stmts (defBody st), defScope st, mainGlobals, ["__class__"], builtinsNs)
/-- the __init__'s function: no defaults, its code of this file, its cell the class -/
def fnB (file : Str) (K : PySem.W.Frag) (C fI : Addr) (qual : Str) : Bool := match K.lookup fI with
  | some ⟨_, _, .func fd, _⟩ => (match fd.defaults with
      | .none => true
      | _ => false) && (match fd.code with
      | .ref c => PySem.W.codeIn K (.ref c) qual && (match K.lookup c with
        | some ⟨_, _, .fields vs, _⟩ => (match (vs[2]? : Option Value) with
          | some (.str z _) => decide (z = file)
          | _ => false)
        | _ => false)
      | _ => false) && (match fd.closure with
      | [(_, cc)] => (match K.lookup cc with
        | some ⟨_, _, .cell (some (.ref D)), _⟩ => Nat.beq D C
        | _ => false)
      | _ => false)
  | _ => false
/-- the class's object -/
def clB (K : PySem.W.Frag) (C : Addr) : Bool := match K.lookup C with
  | some ⟨.type T, _, .cls cd, sl⟩ => decide (T = "type") && (match cd.mro, sl.toList with
      | .ref C0 :: tl, [_, _, _, _, some (.builtin nw), _] => Nat.beq C0 C && (decide (nw = "ValueError.__new__") && (!cd.hasDel && (cd.hasDict && (PySem.HandSPX.refsVE tl && He.eqO (PySem.W.alongIn K "__init__" tl) (some (some (.builtin "ValueError.__init__")))))))
      | _, _ => false)
  | _ => false
def obB (a b : Option Bool) : Bool := decide (a = b)
def errB (file : Str) (K : PySem.W.Frag) (x : Str) (ns : List Str) : Bool :=
  clB K (He.ga K x) && (fnB file K (He.ga K x) (He.ma K (He.ga K x) "__init__") (x ++ ".__init__") && (He.eqO (PySem.W.findIn K (.ref (He.ga K x)) "__setattr__") (some (some (.builtin "object.__setattr__"))) &&
  (He.eqO (PySem.W.findIn K (.ref (He.ga K x)) "__init__") (some (some (.ref (He.ma K (He.ga K x) "__init__")))) && (decide (PySem.W.typeIn K (.ref (He.ma K (He.ga K x) "__init__")) = some (.type "function")) && (PySem.W.keepIn K (.ref (He.ga K x)) &&
  (obB (PySem.W.subIn K (.ref (He.ga K x)) (.type "ValueError")) (some true) && (obB (PySem.W.mroIn K (He.ga K x) (.ref (He.ga K x))) (some true) && (ns.all fun f => He.eqO (PySem.W.findIn K (.ref (He.ga K x)) f) (some none)) &&
  (He.eqO (PySem.W.findIn K (.ref (He.ga K x)) "__getattribute__") (some (some (.builtin "BaseException.__getattribute__"))) && (He.eqO (PySem.W.findIn K (.ref (He.ga K x)) "__getattr__") (some none) &&
  (obB (PySem.W.subIn K (.ref (He.ga K x)) (.type "BaseException")) (some true) && (PySem.W.hasDictIn K (He.ga K x) && (He.eqO (PySem.W.findIn K (.ref (He.ga K x)) "__class__") (some (some (.builtin "object.__class__"))) &&
  (obB (PySem.W.mroIn K (He.ga K x) (.type "object")) (some true) && He.eqO (PySem.W.nsIn K mainGlobals x) (some (some (.ref (He.ga K x)))))))))))))))))
/-- what is common to all -/
def comB (K : PySem.W.Frag) : Bool := He.eqO (PySem.W.nsIn K PySem.cStatics "thirdparty.any") (some none) && (He.eqO (PySem.W.nsIn K mainGlobals "super") (some none) &&
  (He.eqO (PySem.W.specialIn K (.builtin "object.__class__") "__get__") (some (some (.builtin "getset_descriptor.__get__"))) && obB (PySem.W.takesIn K (.builtin "object.__class__")) (some true)))
theorem ba {a b : Bool} (h : (a && b) = true) : a = true ∧ b = true := Bool.and_eq_true_iff.mp h
theorem clB_ok {K : PySem.W.Frag} {C : Addr} (h : clB K C = true) : ∃ nm q N bs bm sn sub ab col dd k0 k1 k2 k3 k5, K.lookup C = some (excClassObj nm q C N bs bm true sn sub ab col dd k0 k1 k2 k3 k5 "ValueError.__new__") ∧ PySem.HandSPX.refsVE bm = true ∧
    PySem.W.alongIn K "__init__" bm = some (some (.builtin "ValueError.__init__")) := by
  unfold clB at h
  split at h
  · rename_i T dd cd sl ho
    obtain ⟨hT, h⟩ := ba h
    split at h
    · rename_i C0 tl k0 k1 k2 k3 nw k5 hm hs
      obtain ⟨g1, h⟩ := ba h
      obtain ⟨g2, h⟩ := ba h
      obtain ⟨g3, h⟩ := ba h
      obtain ⟨g4, h⟩ := ba h
      obtain ⟨g5, g6⟩ := ba h
      have e1 : C0 = C := Nat.eq_of_beq_eq_true g1
      have e2 : nw = "ValueError.__new__" := of_decide_eq_true g2
      have e0 : T = "type" := of_decide_eq_true hT
      subst e1 e2 e0
      obtain ⟨nm, bs, mro, nsp, qn, hd, sn, sub, ab, col, del⟩ := cd
      dsimp only at hm g3 g4
      have e3 : del = false := by simpa using g3
      subst hm e3 g4
      have hsl : sl = #[k0, k1, k2, k3, some (.builtin "ValueError.__new__"), k5] := by
        obtain ⟨l⟩ := sl
        exact congrArg Array.mk hs
      subst hsl
      exact ⟨nm, qn, nsp, bs, tl, sn, sub, ab, col, dd, k0, k1, k2, k3, k5, ho, g5, He.eqO_ok g6⟩
    · cases h
  · cases h
theorem fnB_ok {file : Str} {K : PySem.W.Frag} {C fI : Addr} {qual : Str} {fd : FuncData} {oc : Value} {od : Option Addr} {osl : Array (Option Value)} (lk : K.lookup fI = some ⟨oc, od, .func fd, osl⟩) (h : fnB file K C fI qual = true) :
    fd.defaults = .none ∧ ∃ (cda : Addr) (n : Str) (cc : Addr) (ccl cl : Value) (cdd cld : Option Addr) (ccs csl : Array (Option Value)) (vs : Array Value) (tf : Tok), fd.code = .ref cda ∧ PySem.W.codeIn K (.ref cda) qual = true ∧ fd.closure = [(n, cc)] ∧
      K.lookup cda = some ⟨ccl, cdd, .fields vs, ccs⟩ ∧ vs[2]? = some (.str file tf) ∧ K.lookup cc = some ⟨cl, cld, .cell (some (.ref C)), csl⟩ := by
  unfold fnB at h
  rw [lk] at h
  obtain ⟨h, h3⟩ := ba h
  obtain ⟨h1, h2⟩ := ba h
  have g1 : fd.defaults = .none := by
    split at h1
    · assumption
    · cases h1
  refine ⟨g1, ?_⟩
  split at h2
  · rename_i c hc
    obtain ⟨g2, h2⟩ := ba h2
    split at h2
    · rename_i ccl cdd vs ccs hcl
      split at h2
      · rename_i z tf hz
        have e := of_decide_eq_true h2
        subst e
        split at h3
        · rename_i n cc hcc
          split at h3
          · rename_i cl cld D csl hD
            have e := Nat.eq_of_beq_eq_true h3
            subst e
            exact ⟨c, n, cc, ccl, cl, cdd, cld, ccs, csl, vs, tf, hc, g2, hcc, hcl, hz, hD⟩
          · cases h3
        · cases h3
      · cases h2
    · cases h2
  · cases h2
/-- all that is told of one class -/
structure ErrOk (P : Program) (K : PySem.W.Frag) (x : Str) (ns : List Str) : Prop where
  s : SErr P K (He.ga K x) (He.ma K (He.ga K x) "__init__") ns
  xf : XfC K (He.ga K x)
  ce : ClsE K (He.ga K x)
  gl : PySem.W.nsIn K mainGlobals x = some (some (.ref (He.ga K x)))
theorem errB_ok {P : Program} {K : PySem.W.Frag} {x : Str} {st : Stmt} {ns : List Str} (htop : (P.main.scope.names.lookup ("super" : Str)).isSome = false) (I : ITxt st ns) (ho : obsI K x = valI x st) (h : errB P.main.file K x ns = true) (hc : comB K = true) : ErrOk P K x ns := by
  unfold errB at h
  obtain ⟨a1, h⟩ := ba h
  obtain ⟨a2, h⟩ := ba h
  obtain ⟨a3, h⟩ := ba h
  obtain ⟨a4, h⟩ := ba h
  obtain ⟨a5, h⟩ := ba h
  obtain ⟨a6, h⟩ := ba h
  obtain ⟨a7, h⟩ := ba h
  obtain ⟨a89, h⟩ := ba h
  obtain ⟨a8, a9⟩ := ba a89
  obtain ⟨b1, h⟩ := ba h
  obtain ⟨b2, h⟩ := ba h
  obtain ⟨b3, h⟩ := ba h
  obtain ⟨b4, h⟩ := ba h
  obtain ⟨b5, h⟩ := ba h
  obtain ⟨b6, b7⟩ := ba h
  unfold comB at hc
  obtain ⟨c1, hc⟩ := ba hc
  obtain ⟨c2, hc⟩ := ba hc
  obtain ⟨c3, c4⟩ := ba hc
  have ob : ∀ {a b : Option Bool}, obB a b = true → a = b := fun q => of_decide_eq_true q
  refine ⟨⟨clB_ok a1, He.eqO_ok a3, He.eqO_ok a4, of_decide_eq_true a5, a6, ob a7, ob a8, He.eqO_ok c1, He.eqO_ok c2, fun f hf => He.eqO_ok (List.all_eq_true.mp a9 f hf), I.nd, I.len, I.noSelf, htop, ?_⟩, ⟨He.eqO_ok b1, He.eqO_ok b2, ob b3, b4⟩,
    ⟨He.eqO_ok b1, He.eqO_ok b2, ob b3, b4, He.eqO_ok b5, He.eqO_ok c3, ob c4, ob b6⟩, He.eqO_ok b7⟩
  unfold obsI at ho
  split at ho
  · rename_i oc od fd osl lk
    obtain ⟨q1, cda, n, cc, ccl, cl, cdd, cld, ccs, csl, vs, tf, q2, q3, q4, q5, q6, q7⟩ := fnB_ok lk a2
    obtain ⟨n1, n2, n3, n4, n5, n6, n7, n8, n9, n10, n11, n12, n13, n14, n15⟩ := fd
    dsimp only at q1 q2 q4
    unfold valI at ho
    simp only [Option.some.injEq, Prod.mk.injEq] at ho
    obtain ⟨r1, r2, r3, r4, r5, r6, r7, r8⟩ := ho
    rw [q4] at r7
    have en : n = "__class__" := by simpa using r7
    subst r1 r2 r3 r4 r5 r6 r8 q1 q2 q4 en
    obtain ⟨msg, j, p0, p1, p2, p3, p4, p5, ps, ar, e1, e2, e3, e4, e5⟩ := I.ex
    have bb := I.bind
    rw [e1] at lk bb
    exact ⟨oc, od, osl, _, _, _, _, _, _, _, _, _, cda, cc, ar, msg, j, p0, p1, p2, p3, p4, p5, ps, ccl, cl, cdd, cld, ccs, csl, vs, tf, lk, e2, e3, e4, q3, q5, q6, q7, fun s us hu => bb _ _ _ _ _ _ _ _ _ s us hu, I.sup, I.cls, I.loc, e5, I.dbg, I.cell, I.co, I.gen, I.kind⟩
  · cases ho
end Sq

set_option Elab.async false
set_option linter.all false
set_option maxRecDepth 100000
set_option maxHeartbeats 0
/-! The head. -/
namespace Sq
open PySem PySem.Spec PyProof.Rows L2
def dd (x : Str) (st : Stmt) : He.DefD := ⟨(x, none), x, x, defArgs st, defBody st, defScope st, [], []⟩
def fn0 : List He.DefD := [dd "is_whole" gWhole, dd "is_cell" gIsCell, dd "checked_cell" gChecked, dd "plain_cell" gPlain, dd "shifted" gShifted, dd "four_beside" gFour, dd "lot_of" gLot, dd "frame_of" gFrame, dd "moved" gMoved, dd "shape_of" gShape, dd "all_shapes" gAllShapes, dd "checked_size" gCheckedSize, dd "shapes_in" gShapesIn, dd "grown_shapes" gGrownShapes, dd "_law_pen" sPen, dd "_law_draw" sDraw, dd "_law_pick" sPick, dd "_law_nb_beside" nBeside, dd "_law_nb_grown" nGrown, dd "_law_nb_crosses" nCrosses, dd "_law_nb_shape" nShape, dd "_law_nb_shapes" nShapes, dd "_law_refused" lRefused, dd "law" sLaw]
def md (x : Str) (st : Stmt) : He.DefD := ⟨(x, some "__init__"), "__init__", x ++ ".__init__", defArgs st, defBody st, defScope st, [], []⟩
def fn : List He.DefD := fn0 ++ []
def clsF : List He.Fa := []
def frees : List Str := ["int", "len", "list", "tuple", "bool", "isinstance", "range", "sorted", "abs", "min", "max", "set", "any", "repr"]
def errN : List (Str × List Str) := [("BadNumber", ["what", "number"]), ("BadCell", ["cell"])]
def exms : List He.Fa := [.exm "BadNumber" "BadNumber" true]
def glos : List He.Fa := []
def intF : List He.Fa := [.int "MOST" 7]
def fa : List He.Fa := fn0.map (fun d => .glo d.name) ++ (frees.map .free ++ (exms ++ (glos ++ (clsF ++ intF))))
abbrev R : PySem.W.OpenRow := PySem.W.OpenLaw.row PySem.Challenge.rw_slideinto_k38_whole_shapes
abbrev fileS : Str := PySem.Challenge.pw_slideinto_k38_whole_shapes.main.file
def initSt : List (Str × Stmt) := [("BadNumber", sI 2), ("BadCell", sI 3)]
def tyB (K : PySem.W.Frag) (x : Str) : Bool := decide (PySem.W.typeIn K (.ref (He.ga K x)) = some (.type "type"))
/-- a tuple of cells at module level -/
def eachC (K : PySem.W.Frag) : List Value → List Cell → Bool
  | [], [] => true
  | .ref r :: vs, d :: ds => (match K.lookup r with
    | some ⟨.type T, _, .seq its _, _⟩ => decide (T = "tuple") && (decide (its.size ≤ sizeLine) && (match its.toList with
      | [.int i _, .int j _] => decide (i = d.1) && decide (j = d.2)
      | _ => false))
    | _ => false) && eachC K vs ds
  | _, _ => false
def tupC (K : PySem.W.Frag) (x : Str) (ds : List Cell) : Bool := match K.lookup (He.ga K x) with
  | some ⟨.type T, _, .seq its _, _⟩ => decide (T = "tuple") && (decide (its.size ≤ sizeLine) && eachC K its.toList ds)
  | _ => false
def conB (K : PySem.W.Frag) : Bool := (true)
def allB (K : PySem.W.Frag) : Bool := comB K && ((errN.all fun p => errB fileS K p.1 p.2 && tyB K p.1) && conB K)
def tabDs : List He.Defn := []
abbrev AlS : Type := He.AlD × (List FnI × Bool)
def obsS (K : PySem.W.Frag) : AlS := (He.obsD fa fn K, initSt.map (fun p => obsI K p.1), allB K)
def valS : AlS := (He.valD fn, initSt.map (fun p => valI p.1 p.2), true)
def kOf (g : Addr → Option Obj) : PySem.W.Frag := He.frT g (PySem.cStatics :: He.asD g 5)
abbrev AlK : Type := AlS × Bool
def obsK (g : Addr → Option Obj) : AlK := (obsS (kOf g), He.tabsB g tabDs (kOf g))
/-- what is told -/
structure SaysK (h : Heap) (K : PySem.W.Frag) : Prop where
  s : obsS K = valS
  t : ∀ t ∈ tabDs, PySem.W.codeHdIn K (He.cT K t).1 (He.cT K t).2 = true ∧ K.lookup (He.cT K t).2 = none ∧ h.get? (He.cT K t).2 = some { cls := .none, data := .fields #[] }
theorem says_of {h : Heap} (e : obsK h.get? = (valS, true)) : SaysK h (kOf h.get?) := by
  have e1 : obsS (kOf h.get?) = valS := congrArg (fun z : AlK => z.1) e
  have e2 : He.tabsB h.get? tabDs (kOf h.get?) = true := congrArg (fun z : AlK => z.2) e
  refine ⟨e1, fun t ht => ?_⟩
  obtain ⟨h3, h4⟩ := ba (List.all_eq_true.mp e2 t ht)
  cases q : h.get? (He.cT (kOf h.get?) t).2 with
  | none =>
    rw [q] at h4
    cases h4
  | some o =>
    rw [q] at h4
    exact ⟨h3, He.frT_none q h4, by rw [He.emptyTab_eq h4]⟩
def hk : PySem.W.Hook where
  α := AlK
  obs := fun s => obsK s.heap.get?
  val := fun _ => (valS, true)
  says := fun _ h => ∃ K : PySem.W.Frag, K.In h ∧ SaysK h K
  of := fun _ _ e => ⟨_, He.frT_in, says_of e⟩
  keeps := fun _ _ _ ⟨K, hK, c⟩ k => ⟨K, PySem.W.Frag.In.keeps hK k, ⟨c.s, fun t ht => ⟨(c.t t ht).1, (c.t t ht).2.1, k _ _ (c.t t ht).2.2⟩⟩⟩
def ob (s : PySem.W.SharedT) : AlK := obsK (HandSHeadRun.getT s)
theorem ob_eq (s : PySem.W.SharedT) : ob s = hk.obs s.abs := by
  have e : HandSHeadRun.getT s = s.abs.heap.get? := funext (HandSHeadRun.getT_eq s)
  show obsK _ = obsK _
  rw [e]
def loose1 : List Str := ["SlideError", "BadNumber", "BadCell", "is_whole", "is_cell", "checked_cell", "plain_cell", "shifted", "four_beside", "lot_of", "frame_of", "moved", "shape_of"]
def loose2 : List Str := ["all_shapes", "checked_size", "shapes_in", "grown_shapes", "_law_pen", "_law_draw", "_law_pick", "_law_nb_beside", "_law_nb_grown", "_law_nb_crosses", "_law_nb_shape", "_law_nb_shapes", "_law_refused", "MOST"]
def loose : List Str := loose1 ++ loose2
theorem run (w : World) : HandSHeadRun.RunEq R (PySem.W.view R.prog [32]) hk ob 9000 loose w := by
  intro os
  kernel_rfl
end Sq

set_option Elab.async false
set_option linter.all false
set_option maxRecDepth 100000
set_option maxHeartbeats 4000000
/-! All facts together. -/
namespace Sq
open PySem PySem.Spec PyProof.Rows L2
theorem Dg.mk' {P : Program} {w : World} {K : PySem.W.Frag} {mg : Str → Option Value} {base : Heap} {CX : CXT} {k : Nat} {x : Str} {st : Stmt} {f : Addr} {fd : FuncData} {ps : List Str} {sp : Sp} (F : FnP K x st f fd) (g : mg x = some (.ref f)) (b : Binds K fd ps []) (len : ∀ vs H Q E, sp vs H Q E → vs.length = ps.length) (o : RunG P w K mg base CX k f fd ps sp) : Dg P w K mg base CX k x ps sp := ⟨len, f, fd, g, F.kp, b, o⟩
theorem Df.mk' {P : Program} {w : World} {K : PySem.W.Frag} {mg : Str → Option Value} {base : Heap} {CX : CXT} {k : Nat} {x : Str} {st : Stmt} {f : Addr} {fd : FuncData} {ps : List Str} {sp : Sp} (F : FnP K x st f fd) (g : mg x = some (.ref f)) (b : Binds K fd ps []) (o : FnOk P w K mg base CX k f fd ps sp) : Df P w K mg base CX k x ps sp := ⟨f, fd, g, F.kp, b, o⟩
theorem err_c {P : Program} {K : PySem.W.Frag} {h : Heap} {mg : Str → Option Value} {x : Str} {ns : List Str} (X : K.In h) (G : h.Ns mainGlobals mg) (E : ErrOk P K x ns) (t : tyB K x = true) : ErrC P K mg x (He.ga K x) (He.ma K (He.ga K x) "__init__") ns :=
  ⟨E.s, PySem.W.mg_of X G E.gl, E.xf.exC, of_decide_eq_true t⟩
theorem eachC_ok {K : PySem.W.Frag} : ∀ {vs : List Value} {ds : List Cell}, eachC K vs ds = true → ∃ rs : List Addr, vs = rs.map Value.ref ∧ Paired (fun r d => ∀ H, SqT K H r (cV d)) rs ds
  | [], [], _ => ⟨[], rfl, .nil⟩
  | .ref r :: vs, d :: ds, h => by
    unfold eachC at h
    obtain ⟨h1, h2⟩ := ba h
    obtain ⟨rs, rfl, pr⟩ := eachC_ok h2
    refine ⟨r :: rs, rfl, .cons (fun H => ?_) pr⟩
    split at h1
    · rename_i T dd its n sl q
      obtain ⟨e1, h1⟩ := ba h1
      obtain ⟨e2, h1⟩ := ba h1
      split at h1
      · rename_i i t j u e
        obtain ⟨e3, e4⟩ := ba h1
        refine .inr ⟨_, its, n, q, congrArg Value.type (of_decide_eq_true e1), rfl, of_decide_eq_true e2, ?_⟩
        obtain ⟨d1, d2⟩ := d
        have k1 : i = d1 := of_decide_eq_true e3
        have k2 : j = d2 := of_decide_eq_true e4
        subst k1 k2
        rw [e]
        exact .cons ⟨t, rfl⟩ (.cons ⟨u, rfl⟩ .nil)
      · cases h1
    · cases h1
theorem vals_refs : ∀ rs : List Addr, Vals (rs.map V.ref) (rs.map Value.ref)
  | [] => .nil
  | _ :: rs => .cons rfl (vals_refs rs)
theorem tupC_ok {K : PySem.W.Frag} {x : Str} {ds : List Cell} (h : tupC K x ds = true) : ∃ rs : List Addr, (∀ H, SqT K H (He.ga K x) (rs.map V.ref)) ∧ Paired (fun r d => ∀ H, SqT K H r (cV d)) rs ds := by
  unfold tupC at h
  split at h
  · rename_i T dd its n sl q
    obtain ⟨e1, h⟩ := ba h
    obtain ⟨e2, h⟩ := ba h
    obtain ⟨rs, e, pr⟩ := eachC_ok h
    refine ⟨rs, fun H => .inr ⟨_, its, n, q, congrArg Value.type (of_decide_eq_true e1), rfl, of_decide_eq_true e2, ?_⟩, pr⟩
    rw [e]
    exact vals_refs rs
  · cases h
theorem fun_c {K : PySem.W.Frag} {x q : Str} {params : Arguments} {body : List Stmt} {scope : Scope} {fd : FuncData} (F : FunD K x q params body scope [] [] (He.fAd K (x, none)) fd) : FunC K x q params body scope (He.codeOf K (x, none)) (He.fAd K (x, none)) fd := by
  obtain ⟨⟨oc, od, dV, kV, doc, pm, an, cdv, ct, osl, e, lk, hc, h1, h2⟩, kp⟩ := F
  obtain ⟨c, rfl⟩ := He.codeIn_ref hc
  have ec : He.codeOf K (x, none) = c := He.codeOf_eq lk (by rw [e])
  rw [ec]
  exact ⟨⟨oc, od, dV, kV, doc, pm, an, ct, osl, e, lk, hc, h1, h2⟩, kp⟩
def TsOf (K : PySem.W.Frag) : List Addr := tabDs.map fun t => (He.cT K t).2
theorem facts {P : Program} {w : World} {K : PySem.W.Frag} {h : Heap} {mg : Str → Option Value} {f : Addr} (X : K.In h) (G : h.Ns mainGlobals mg) (hfa : mg ("law" : Str) = some (.ref f)) (htop : (P.main.scope.names.lookup ("super" : Str)).isSome = false) (hfile : P.main.file = fileS) (c : obsS K = valS) :
    ∃ fd : FuncData, (∀ (s : Shared) (v : Value), BindsTo s fd ⟨[v], []⟩ [("_law_script", v)]) ∧ ∀ base : Heap, K.In base → base.Ns mainGlobals mg → (∀ t ∈ tabDs, LamX.TabB base mg (He.cT K t).1 (He.cT K t).2) → RunG P w K mg base CX0 10 f fd ["_law_script"] (spLaw K) := by
  have c1 : He.SaysD fa fn K := congrArg (fun z : AlS => z.1) c
  have c2 : initSt.map (fun p => obsI K p.1) = initSt.map (fun p => valI p.1 p.2) := congrArg (fun z : AlS => z.2.1) c
  have c3 : allB K = true := congrArg (fun z : AlS => z.2.2) c
  unfold allB at c3
  obtain ⟨d1, d2⟩ := ba c3
  obtain ⟨d2, d3⟩ := ba d2
  have o : ∀ (i : Nat) (x : Str) (st : Stmt), initSt[i]? = some (x, st) → obsI K x = valI x st := fun i x st h => by
    have y := congrArg (fun l => l[i]?) c2
    simp only [List.getElem?_map, h, Option.map_some, Option.some.injEq] at y
    exact y
  have ge : ∀ (i : Nat) (x : Str) (ns : List Str), errN[i]? = some (x, ns) → errB P.main.file K x ns = true ∧ tyB K x = true := fun i x ns h => by
    rw [hfile]
    exact ba (List.all_eq_true.mp d2 (x, ns) (List.mem_of_getElem? h))
  have exm : ∀ (i : Nat) (x y : Str) (b : Bool), fa[i]? = some (.exm x y b) → PySem.W.exmOne K (.ref (He.ga K x)) (.ref (He.ga K y)) = some b := fun i x y b h => of_decide_eq_true (c1.fact i h)
  have eBadNumber := errB_ok htop iBadNumber (o 0 _ _ rfl) (ge 0 _ _ rfl).1 d1
  have bBadNumber := err_c X G eBadNumber (ge 0 _ _ rfl).2
  have eBadCell := errB_ok htop iBadCell (o 1 _ _ rfl) (ge 1 _ _ rfl).1 d1
  have bBadCell := err_c X G eBadCell (ge 1 _ _ rfl).2
  have xBadNumberBadNumber := exm 38 _ _ _ rfl
  obtain ⟨d0, E0⟩ := c1.def_ 0 (d := dd "is_whole" gWhole) rfl
  have F0 : FnP K "is_whole" gWhole (He.ga K "is_whole") d0 := E0
  have g0 := He.glo_ok X G (c1.fact 0 (f := .glo "is_whole") rfl)
  have b0 : Binds K d0 ["value"] [] := FunD.bindsN F0 fun _ _ _ _ _ _ us hl => match us, hl with | [_], _ => rfl
  obtain ⟨d1, E1⟩ := c1.def_ 1 (d := dd "is_cell" gIsCell) rfl
  have F1 : FnP K "is_cell" gIsCell (He.ga K "is_cell") d1 := E1
  have g1 := He.glo_ok X G (c1.fact 1 (f := .glo "is_cell") rfl)
  have b1 : Binds K d1 ["value"] [] := FunD.bindsN F1 fun _ _ _ _ _ _ us hl => match us, hl with | [_], _ => rfl
  obtain ⟨d2, E2⟩ := c1.def_ 2 (d := dd "checked_cell" gChecked) rfl
  have F2 : FnP K "checked_cell" gChecked (He.ga K "checked_cell") d2 := E2
  have g2 := He.glo_ok X G (c1.fact 2 (f := .glo "checked_cell") rfl)
  have b2 : Binds K d2 ["value"] [] := FunD.bindsN F2 fun _ _ _ _ _ _ us hl => match us, hl with | [_], _ => rfl
  obtain ⟨d3, E3⟩ := c1.def_ 3 (d := dd "plain_cell" gPlain) rfl
  have F3 : FnP K "plain_cell" gPlain (He.ga K "plain_cell") d3 := E3
  have g3 := He.glo_ok X G (c1.fact 3 (f := .glo "plain_cell") rfl)
  have b3 : Binds K d3 ["cell"] [] := FunD.bindsN F3 fun _ _ _ _ _ _ us hl => match us, hl with | [_], _ => rfl
  obtain ⟨d4, E4⟩ := c1.def_ 4 (d := dd "shifted" gShifted) rfl
  have F4 : FnP K "shifted" gShifted (He.ga K "shifted") d4 := E4
  have g4 := He.glo_ok X G (c1.fact 4 (f := .glo "shifted") rfl)
  have b4 : Binds K d4 ["cell", "by"] [] := FunD.bindsN F4 fun _ _ _ _ _ _ us hl => match us, hl with | [_, _], _ => rfl
  obtain ⟨d5, E5⟩ := c1.def_ 5 (d := dd "four_beside" gFour) rfl
  have F5 : FnP K "four_beside" gFour (He.ga K "four_beside") d5 := E5
  have g5 := He.glo_ok X G (c1.fact 5 (f := .glo "four_beside") rfl)
  have b5 : Binds K d5 ["cell"] [] := FunD.bindsN F5 fun _ _ _ _ _ _ us hl => match us, hl with | [_], _ => rfl
  obtain ⟨d6, E6⟩ := c1.def_ 6 (d := dd "lot_of" gLot) rfl
  have F6 : FnP K "lot_of" gLot (He.ga K "lot_of") d6 := E6
  have g6 := He.glo_ok X G (c1.fact 6 (f := .glo "lot_of") rfl)
  have b6 : Binds K d6 ["cells"] [] := FunD.bindsN F6 fun _ _ _ _ _ _ us hl => match us, hl with | [_], _ => rfl
  obtain ⟨d7, E7⟩ := c1.def_ 7 (d := dd "frame_of" gFrame) rfl
  have F7 : FnP K "frame_of" gFrame (He.ga K "frame_of") d7 := E7
  have g7 := He.glo_ok X G (c1.fact 7 (f := .glo "frame_of") rfl)
  have b7 : Binds K d7 ["body"] [] := FunD.bindsN F7 fun _ _ _ _ _ _ us hl => match us, hl with | [_], _ => rfl
  obtain ⟨d8, E8⟩ := c1.def_ 8 (d := dd "moved" gMoved) rfl
  have F8 : FnP K "moved" gMoved (He.ga K "moved") d8 := E8
  have g8 := He.glo_ok X G (c1.fact 8 (f := .glo "moved") rfl)
  have b8 : Binds K d8 ["body", "by"] [] := FunD.bindsN F8 fun _ _ _ _ _ _ us hl => match us, hl with | [_, _], _ => rfl
  obtain ⟨d9, E9⟩ := c1.def_ 9 (d := dd "shape_of" gShape) rfl
  have F9 : FnP K "shape_of" gShape (He.ga K "shape_of") d9 := E9
  have g9 := He.glo_ok X G (c1.fact 9 (f := .glo "shape_of") rfl)
  have b9 : Binds K d9 ["body"] [] := FunD.bindsN F9 fun _ _ _ _ _ _ us hl => match us, hl with | [_], _ => rfl
  obtain ⟨d10, E10⟩ := c1.def_ 10 (d := dd "all_shapes" gAllShapes) rfl
  have F10 : FnP K "all_shapes" gAllShapes (He.ga K "all_shapes") d10 := E10
  have g10 := He.glo_ok X G (c1.fact 10 (f := .glo "all_shapes") rfl)
  have b10 : Binds K d10 ["n"] [] := FunD.bindsN F10 fun _ _ _ _ _ _ us hl => match us, hl with | [_], _ => rfl
  obtain ⟨d11, E11⟩ := c1.def_ 11 (d := dd "checked_size" gCheckedSize) rfl
  have F11 : FnP K "checked_size" gCheckedSize (He.ga K "checked_size") d11 := E11
  have g11 := He.glo_ok X G (c1.fact 11 (f := .glo "checked_size") rfl)
  have b11 : Binds K d11 ["n", "most"] [] := FunD.bindsN F11 fun _ _ _ _ _ _ us hl => match us, hl with | [_, _], _ => rfl
  obtain ⟨d12, E12⟩ := c1.def_ 12 (d := dd "shapes_in" gShapesIn) rfl
  have F12 : FnP K "shapes_in" gShapesIn (He.ga K "shapes_in") d12 := E12
  have g12 := He.glo_ok X G (c1.fact 12 (f := .glo "shapes_in") rfl)
  have b12 : Binds K d12 ["many"] [] := FunD.bindsN F12 fun _ _ _ _ _ _ us hl => match us, hl with | [_], _ => rfl
  obtain ⟨d13, E13⟩ := c1.def_ 13 (d := dd "grown_shapes" gGrownShapes) rfl
  have F13 : FnP K "grown_shapes" gGrownShapes (He.ga K "grown_shapes") d13 := E13
  have g13 := He.glo_ok X G (c1.fact 13 (f := .glo "grown_shapes") rfl)
  have b13 : Binds K d13 ["shapes"] [] := FunD.bindsN F13 fun _ _ _ _ _ _ us hl => match us, hl with | [_], _ => rfl
  obtain ⟨d14, E14⟩ := c1.def_ 14 (d := dd "_law_pen" sPen) rfl
  have F14 : FnP K "_law_pen" sPen (He.ga K "_law_pen") d14 := E14
  have g14 := He.glo_ok X G (c1.fact 14 (f := .glo "_law_pen") rfl)
  have b14 : Binds K d14 ["_law_script"] [] := FunD.bindsN F14 fun _ _ _ _ _ _ us hl => match us, hl with | [_], _ => rfl
  obtain ⟨d15, E15⟩ := c1.def_ 15 (d := dd "_law_draw" sDraw) rfl
  have F15 : FnP K "_law_draw" sDraw (He.ga K "_law_draw") d15 := E15
  have g15 := He.glo_ok X G (c1.fact 15 (f := .glo "_law_draw") rfl)
  have b15 : Binds K d15 ["_law_pen_here", "_law_many"] [] := FunD.bindsN F15 fun _ _ _ _ _ _ us hl => match us, hl with | [_, _], _ => rfl
  obtain ⟨d16, E16⟩ := c1.def_ 16 (d := dd "_law_pick" sPick) rfl
  have F16 : FnP K "_law_pick" sPick (He.ga K "_law_pick") d16 := E16
  have g16 := He.glo_ok X G (c1.fact 16 (f := .glo "_law_pick") rfl)
  have b16 : Binds K d16 ["_law_pen_here", "_law_some"] [] := FunD.bindsN F16 fun _ _ _ _ _ _ us hl => match us, hl with | [_, _], _ => rfl
  obtain ⟨d17, E17⟩ := c1.def_ 17 (d := dd "_law_nb_beside" nBeside) rfl
  have F17 : FnP K "_law_nb_beside" nBeside (He.ga K "_law_nb_beside") d17 := E17
  have g17 := He.glo_ok X G (c1.fact 17 (f := .glo "_law_nb_beside") rfl)
  have b17 : Binds K d17 ["_law_cell"] [] := FunD.bindsN F17 fun _ _ _ _ _ _ us hl => match us, hl with | [_], _ => rfl
  obtain ⟨d18, E18⟩ := c1.def_ 18 (d := dd "_law_nb_grown" nGrown) rfl
  have F18 : FnP K "_law_nb_grown" nGrown (He.ga K "_law_nb_grown") d18 := E18
  have g18 := He.glo_ok X G (c1.fact 18 (f := .glo "_law_nb_grown") rfl)
  have b18 : Binds K d18 ["_law_pen_here", "_law_body", "_law_many", "_law_way"] [] := FunD.bindsN F18 fun _ _ _ _ _ _ us hl => match us, hl with | [_, _, _, _], _ => rfl
  obtain ⟨d19, E19⟩ := c1.def_ 19 (d := dd "_law_nb_crosses" nCrosses) rfl
  have F19 : FnP K "_law_nb_crosses" nCrosses (He.ga K "_law_nb_crosses") d19 := E19
  have g19 := He.glo_ok X G (c1.fact 19 (f := .glo "_law_nb_crosses") rfl)
  have b19 : Binds K d19 ["_law_body", "_law_cell"] [] := FunD.bindsN F19 fun _ _ _ _ _ _ us hl => match us, hl with | [_, _], _ => rfl
  obtain ⟨d20, E20⟩ := c1.def_ 20 (d := dd "_law_nb_shape" nShape) rfl
  have F20 : FnP K "_law_nb_shape" nShape (He.ga K "_law_nb_shape") d20 := E20
  have g20 := He.glo_ok X G (c1.fact 20 (f := .glo "_law_nb_shape") rfl)
  have b20 : Binds K d20 ["_law_cells"] [] := FunD.bindsN F20 fun _ _ _ _ _ _ us hl => match us, hl with | [_], _ => rfl
  obtain ⟨d21, E21⟩ := c1.def_ 21 (d := dd "_law_nb_shapes" nShapes) rfl
  have F21 : FnP K "_law_nb_shapes" nShapes (He.ga K "_law_nb_shapes") d21 := E21
  have g21 := He.glo_ok X G (c1.fact 21 (f := .glo "_law_nb_shapes") rfl)
  have b21 : Binds K d21 ["_law_many"] [] := FunD.bindsN F21 fun _ _ _ _ _ _ us hl => match us, hl with | [_], _ => rfl
  obtain ⟨d22, E22⟩ := c1.def_ 22 (d := dd "_law_refused" lRefused) rfl
  have F22 : FnP K "_law_refused" lRefused (He.ga K "_law_refused") d22 := E22
  have g22 := He.glo_ok X G (c1.fact 22 (f := .glo "_law_refused") rfl)
  have b22 : Binds K d22 ["_law_n"] [] := FunD.bindsN F22 fun _ _ _ _ _ _ us hl => match us, hl with | [_], _ => rfl
  obtain ⟨d23, E23⟩ := c1.def_ 23 (d := dd "law" sLaw) rfl
  have F23 : FnP K "law" sLaw (He.ga K "law") d23 := E23
  have g23 := He.glo_ok X G (c1.fact 23 (f := .glo "law") rfl)
  have i_MOST := He.int_ok X G (c1.fact 39 (f := .int "MOST" 7) rfl)
  have f_int := He.free_ok X G (c1.fact 24 (f := .free "int") rfl)
  have f_len := He.free_ok X G (c1.fact 25 (f := .free "len") rfl)
  have f_list := He.free_ok X G (c1.fact 26 (f := .free "list") rfl)
  have f_tuple := He.free_ok X G (c1.fact 27 (f := .free "tuple") rfl)
  have f_bool := He.free_ok X G (c1.fact 28 (f := .free "bool") rfl)
  have f_isinstance := He.free_ok X G (c1.fact 29 (f := .free "isinstance") rfl)
  have f_range := He.free_ok X G (c1.fact 30 (f := .free "range") rfl)
  have f_sorted := He.free_ok X G (c1.fact 31 (f := .free "sorted") rfl)
  have f_abs := He.free_ok X G (c1.fact 32 (f := .free "abs") rfl)
  have f_min := He.free_ok X G (c1.fact 33 (f := .free "min") rfl)
  have f_max := He.free_ok X G (c1.fact 34 (f := .free "max") rfl)
  have f_set := He.free_ok X G (c1.fact 35 (f := .free "set") rfl)
  have f_any := He.free_ok X G (c1.fact 36 (f := .free "any") rfl)
  have f_repr := He.free_ok X G (c1.fact 37 (f := .free "repr") rfl)
  have B : Bl mg := ⟨f_int, f_len, f_list, f_tuple, f_bool, f_isinstance, f_range, f_sorted, f_abs, f_min, f_max, f_set, f_any⟩
  have e := hfa.symm.trans g23
  cases e
  have b23 := FunD.bindsA (ps := ["_law_script"]) F23 fun _ _ _ _ _ _ us hl => match us, hl with | [_], _ => rfl
  refine ⟨d23, fun s v => b23 s [v] rfl, fun base _ _ tbs => ?_⟩
  have D0 := Df.mk' (P := P) (w := w) (base := base) F0 g0 b0 (ok_whole F0 B.isinstance B.int B.bool)
  have D2 := Df.mk' (P := P) (w := w) (base := base) F2 g2 b2 (ok_checked F2 F1 F0 F3 bBadCell g1 g3 g0 B.isinstance B.int B.bool B.tuple B.len)
  have D4 := Df.mk' (P := P) (w := w) (base := base) F4 g4 b4 (ok_shifted F4)
  have D5 := Df.mk' (P := P) (w := w) (base := base) F5 g5 b5 (ok_four F5)
  have D6 := Df.mk' (P := P) (w := w) (base := base) F6 g6 b6 (ok_lot F6 F3 g3 B.int)
  have D7 := Df.mk' (P := P) (w := w) (base := base) F7 g7 b7 (ok_frame F7 B D6)
  have D8 := Df.mk' (P := P) (w := w) (base := base) F8 g8 b8 (ok_moved F8 B D2 D6 D4)
  have D9 := Df.mk' (P := P) (w := w) (base := base) F9 g9 b9 (ok_shape F9 D7 D8)
  have D13 := Df.mk' (P := P) (w := w) (base := base) F13 g13 b13 (ok_grownS F13 B D5 D9)
  have D11 := Df.mk' (P := P) (w := w) (base := base) F11 g11 b11 (ok_size F11 bBadNumber D0)
  have D12 := Df.mk' (P := P) (w := w) (base := base) F12 g12 b12 (ok_shapesIn F12 B D13)
  have D10 := Df.mk' (P := P) (w := w) (base := base) F10 g10 b10 (ok_allShapes F10 B i_MOST D11 D12)
  have D14 := Df.mk' (P := P) (w := w) (base := base) F14 g14 b14 (ok_pen F14 B.int B.list)
  have D15C := Df.mk' (P := P) (w := w) (base := base) F15 g15 b15 (ok_drawC F15 B.int B.len)
  have D16C := Df.mk' (P := P) (w := w) (base := base) F16 g16 b16 (ok_pickC F16 D15C B.len)
  have D17 := Df.mk' (P := P) (w := w) (base := base) F17 g17 b17 (ok_nBeside F17)
  have D20 := Df.mk' (P := P) (w := w) (base := base) F20 g20 b20 (ok_nShape F20 B)
  have D19 := Df.mk' (P := P) (w := w) (base := base) F19 g19 b19 (ok_nCrosses F19)
  have D18 := Df.mk' (P := P) (w := w) (base := base) F18 g18 b18 (ok_nGrown F18 B D15C D16C D17 D19)
  have D21 := Df.mk' (P := P) (w := w) (base := base) F21 g21 b21 (ok_nShapes F21 B D17 D20)
  have D22 := Dg.mk' (P := P) (w := w) (base := base) F22 g22 b22 len_refN (ok_refN F22 f_repr xBadNumberBadNumber eBadNumber.xf (eBadNumber.s.no _ (by simp)) (eBadNumber.s.no _ (by simp)) bBadNumber D10)
  exact run_law F23 B f_repr D14 D15C D16C D10 D21 D18 D20 D22
end Sq

set_option Elab.async false
set_option linter.all false
set_option maxRecDepth 100000
set_option maxHeartbeats 4000000
open PySem PySem.W PySem.Calls PyProof.Rows
set_option maxRecDepth 100000 in
set_option maxHeartbeats 8000000 in
theorem PySem.Challenge.cw_slideinto_k38_whole_shapes_holds : PySem.Challenge.rw_slideinto_k38_whole_shapes.Holds := by
  w_on; o_law
  refine HandSHeadRun.head_any (r := OpenLaw.row PySem.Challenge.rw_slideinto_k38_whole_shapes) (q := view (OpenLaw.row PySem.Challenge.rw_slideinto_k38_whole_shapes).prog [32]) (H := Sq.hk) (ob := Sq.ob) (M := 9000) (loose := Sq.loose) (d := HandSHeadRun.topDef (OpenLaw.row PySem.Challenge.rw_slideinto_k38_whole_shapes).prog 32) (kwd := []) Sq.ob_eq
    (by kernel_rfl) (fun s => by kernel_rfl) Sq.run (by kernel_rfl) (by kernel_rfl) (by kernel_rfl) (by rfl) (by first | assumption | decide +kernel) (by decide +kernel) ⟨rfl, rfl, rfl, rfl, rfl, by decide +kernel⟩ ?hw ?hc
  case hw => w_witness2
  case hc =>
    refine Sq.walk_ofTG (l := PySem.Challenge.rw_slideinto_k38_whole_shapes) (n := 63) (k := 10) (x := "_law_script") rfl (by decide) (by kernel_rfl) ⟨rfl, by decide, by decide⟩ ?F
    intro w mg fa h Y G hmg0
    obtain ⟨K, KX, c⟩ := Y
    have hmg : mg ("law" : PySem.Str) = some (.ref fa) := by
      have e : (HandSHeadRun.topDef (OpenLaw.row PySem.Challenge.rw_slideinto_k38_whole_shapes).prog 32).name = ("law" : PySem.Str) := by kernel_rfl
      rw [← e]
      exact hmg0
    obtain ⟨fd, hb, hF⟩ := Sq.facts (P := (PySem.Challenge.rw_slideinto_k38_whole_shapes).prog) (w := w) KX G hmg (by decide +kernel) rfl c.s
    have inT : ∀ p ∈ Sq.tabDs.map (He.cT K), ∃ t ∈ Sq.tabDs, p = He.cT K t := fun p hp => by
      obtain ⟨t, ht, e⟩ := List.mem_map.mp hp
      exact ⟨t, ht, e.symm⟩
    refine ⟨K, KX, fd, Sq.tabDs.map (He.cT K), Sq.spLaw K, fun p hp => ⟨?_, ?_, ?_⟩, hb, fun H a zs hl hT hS => ?_, fun base hK hG tb => hF base hK hG fun t ht => tb _ (List.mem_map_of_mem ht)⟩
    · obtain ⟨t, ht, rfl⟩ := inT p hp
      exact (c.t t ht).2.2
    · obtain ⟨t, ht, rfl⟩ := inT p hp
      exact (c.t t ht).2.1
    · obtain ⟨t, ht, rfl⟩ := inT p hp
      exact PySem.W.codeHd_of_K KX (c.t t ht).1
    · exact ⟨a, zs, rfl, hS, hl, fun _ => rfl⟩
