import PyProof.Rows.All
import Wide.All
import OpenK.AllK
import Wide.FinOn
import KE.KExcSuper
import HandS.ForMost
import HandS.ExcInit
import HandS.HeadWalk
import HandS.ExcField
import HandS.ExcIs
import HandS.ExcValue
import HandS.IsInst
import HandS.EndBits
import HandS.Defaults
import HandS.Iter
import HandS.DictComp
import HandS.Conv
import HandS.AnyAll
import HandS.GenOver
import HandS.GenList
import HandS.Walk
import KE.DataMinMax
import HandS.DictTup
import HandS.Star
import PyProof.DictMoreH
import HandS.TryMany
import PyProof.Rows.TupDisplay
import HandS.SortRule
import HandS.TupSets
import HandS.TupLen
import KE.SortData
import KE.KDictWalk
import KE.GoesEnum
import HandS.SortKw
import HandS.EndTab
import PyProof.ReprLen
import KE.KDictKeyed
import KE.KDictCopyH
import KE.KEqDict
import HandS.RaiseMore
import HandS.DeepEq
import KE.KEqNest
import HandS.SetKeys
import HandS.SortInts
import PyProof.TupleOfSeq
import HandS.Style
import KE.KRevSl
import PySem.Challenge.RW_slideinto_k16_whole_reach
import HandS.Deep
import HandS.Rev
import HandS.WordsExc
import HandS.TupAny
import HandS.Small
import PyProof.Rows.IntBool
import HandS.Words
import HandS.HeadHook1
import HandS.HeadHook2
import HandS.HeadHook3
import HandS.HeadHook4
import KE.KStateDown
import Lean
import HandS.Head0
import HandS.Head1
import HandS.Head2
import HandS.HeadEnd
import HandS.NestedK
set_option Elab.async false
set_option linter.all false
set_option maxRecDepth 100000
set_option maxHeartbeats 4000000
/-! Errors of one's own whose __init__ begins with super().__init__(text) and then keeps its parameters. -/
namespace Sq
open PySem PySem.W PySem.Calls PyProof.Rows PySem.HandSPX
/-! ### the statements of such an __init__ -/
def supS (msg : Str) (j : Nat) (p0 p1 p2 p3 p4 p5 : Pos) : Stmt :=
  .Expr (.Call (.Attribute (.Call (.Name "super" p0) [] [] p1) "__init__" p2) [.Constant (.str msg) j p3] [] p4) p5
structure Ps where
  a : Pos
  b : Pos
  c : Pos
  d : Pos
def keepS (f : Str) (p : Ps) : Stmt := .Assign [.Attribute (.Name "self" p.a) f p.b] (.Name f p.c) p.d
section
variable {prog : Program} {w : World} {A : Around} {E : Value → Shared → Prop} {h : Heap} {g : Array GenState} {d : Drawn} {t : Nat} {os : OsState}
variable {nm q : Str} {C N : Addr} {bs bm : List Value} {sn : List Str} {sub : List Value} {ab : Bool} {col : Option Bool} {dd : Option Addr} {k0 k1 k2 k3 k5 : Option Value}
/-- the bound ValueError.__init__ is called -/
theorem bw_call {u x t0 : Addr} {rest : List Value} {Q : Value → Shared → Prop}
    (hC : h.get? C = some (excClassObj nm q C N bs bm true sn sub ab col dd k0 k1 k2 k3 k5 "ValueError.__new__"))
    (he : h.get? x = some (excO C t0)) (hu : h.get? u = some (kxs_mw "ValueError.__init__" x)) (hz : rest.length ≤ sizeLine)
    (hq : ∀ h' t1, (∀ b o, b ≠ x → h.get? b = some o → h'.get? b = some o) → h'.get? x = some (excO C t1) → Q .none ⟨h', g, d, t, os⟩) :
    wpAny (model prog w) A (call (.ref u) rest) Q E ⟨h, g, d, t, os⟩ := by
  refine wpAny_call (codeAny_of_tree ?_)
  show wpAny _ A.in1 (callAny (.ref u) { pos := rest, kw := [] }) _ _ _
  simp only [callAny]
  refine wpAny_bind (wpAny_load hu ?_)
  have hm : (Value.type "method-wrapper" == Value.type "method" || Value.type "method-wrapper" == Value.type "builtin_function_or_method" || Value.type "method-wrapper" == Value.type "method-wrapper") = true := by decide
  simp only [kxs_mw, hm, if_true]
  refine KFB.if_so (by decide) ?_
  refine wpAny_bind (check_bound_init F.excBase_ValueError.toExcCallFacts hC he rfl ?_)
  refine wpAny_bind (wpAny_pure (wpAny_pure ?_))
  refine ⟨plainId_quiet F.excBase_ValueError.init.plain _, codeAny_builtin F.excBase_ValueError.initEntry ?_⟩
  exact exc_init_tree (cls := .ref C) (t0 := t0) (dv := none) (c2 := .none) (c3 := .none) (b4 := .bool false) he hz fun h' k e' _ => hq h' _ k e'
end
/-- what the written part says of such a class C and of its __init__ at fI; ns: its parameters behind self, kept as fields -/
structure SErr (prog : Program) (K : Frag) (C fI : Addr) (ns : List Str) : Prop where
  cls : ∃ nm q N bs bm sn sub ab col dd k0 k1 k2 k3 k5, K.lookup C = some (excClassObj nm q C N bs bm true sn sub ab col dd k0 k1 k2 k3 k5 "ValueError.__new__") ∧ refsVE bm = true ∧
    alongIn K "__init__" bm = some (some (.builtin "ValueError.__init__"))
  sa : findIn K (.ref C) "__setattr__" = some (some (.builtin "object.__setattr__"))
  iC : findIn K (.ref C) "__init__" = some (some (.ref fI))
  tI : typeIn K (.ref fI) = some (.type "function")
  kC : keepIn K (.ref C) = true
  veC : subIn K (.ref C) (.type "ValueError") = some true
  self : mroIn K C (.ref C) = some true
  opq : nsIn K cStatics "thirdparty.any" = some none
  sup : nsIn K mainGlobals "super" = some none
  no : ∀ f ∈ ns, findIn K (.ref C) f = some none
  nd : ns.Nodup
  len : ns.length ≤ 900
  noSelf : ("self" : Str) ∉ ns
  top : (prog.main.scope.names.lookup ("super" : Str)).isSome = false
  fn : ∃ (oc : Value) (od : Option Addr) (osl : Array (Option Value)) (name qual : Str) (params : Arguments) (scope : Scope) (kV doc pm ct : Value) (an : Option Addr) (cda cc : Addr) (ar : Arg)
      (msg : Str) (j : Nat) (p0 p1 p2 p3 p4 p5 : Pos) (ps : List Ps) (ccl cl : Value) (cdd cld : Option Addr) (ccs csl : Array (Option Value)) (vs : Array Value) (tf : Tok),
    K.lookup fI = some ⟨oc, od, .func (ksFn name qual params (supS msg j p0 p1 p2 p3 p4 p5 :: (ns.zip ps).map fun z => keepS z.1 z.2) scope .none kV doc pm an (.ref cda) ct cc), osl⟩ ∧
    ns.length ≤ ps.length ∧ (params.posonlyargs ++ params.args).head? = some ar ∧ ar.arg = "self" ∧ codeIn K (.ref cda) qual = true ∧
    K.lookup cda = some ⟨ccl, cdd, .fields vs, ccs⟩ ∧ vs[2]? = some (.str prog.main.file tf) ∧ K.lookup cc = some ⟨cl, cld, .cell (some (.ref C)), csl⟩ ∧
    (∀ (s : Shared) (us : List Value), us.length = ns.length + 1 → BindsTo s (ksFn name qual params (supS msg j p0 p1 p2 p3 p4 p5 :: (ns.zip ps).map fun z => keepS z.1 z.2) scope .none kV doc pm an (.ref cda) ct cc) ⟨us, []⟩ ((("self" : Str) :: ns).zip us)) ∧
    scope.names.lookup ("super" : Str) = some .globalImplicit ∧ scope.names.lookup ("__class__" : Str) = some .free ∧ (∀ x ∈ (("self" : Str) :: ns), scope.names.lookup x = some .local) ∧
    (p2.endLine == p4.line) = true ∧ (∀ x ∈ ns, (x == ("__debug__" : Str)) = false) ∧ (∀ x ∈ scope.names, x.2 ≠ .cell) ∧ scope.isCoroutine = false ∧ scope.isGenerator = false ∧ scope.kind = .function
end Sq

set_option Elab.async false
set_option linter.all false
set_option maxRecDepth 100000
set_option maxHeartbeats 4000000
namespace Sq
open PySem PySem.W PySem.Calls PyProof.Rows PySem.HandSPX
/-- what such an __init__ leaves of a fresh error at x; fs: its fields, the last one first -/
structure InitE (h h' : Heap) (x C : Addr) (fs : List (Str × Value)) : Prop where
  keep : ∀ b o, b ≠ x → h.get? b = some o → h'.get? b = some o
  obj : ∃ t1 : Addr, (fs = [] ∧ h'.get? x = some (excO C t1)) ∨ ∃ dx : Addr, fs ≠ [] ∧ h.objs.size ≤ dx ∧ dx ≠ x ∧ h'.get? x = some ({ cls := .ref C, dict := some dx, data := .fields #[.ref t1, .none, .none, .none, .bool false, .none] } : Obj) ∧
    h'.Ns1 dx fun f => fs.lookup f
theorem lookup_one {κ : Type} [BEq κ] [LawfulBEq κ] [DecidableEq κ] {α : Type} (f g : κ) (y : α) (fs : List (κ × α)) : ((f, y) :: fs).lookup g = if g = f then some y else fs.lookup g := by
  by_cases z : g = f
  · subst z
    simp [List.lookup]
  · have e : (g == f) = false := by simpa using z
    rw [if_neg z]
    simp [List.lookup, e]
theorem lookup_within {fs : List (Str × Value)} : Within (fun f => fs.lookup f) (fs.map (·.1)) := by
  intro y hy
  induction fs with
  | nil => exact absurd rfl hy
  | cons p l ih =>
    obtain ⟨f, z⟩ := p
    by_cases e : y = f
    · rw [e]
      exact List.mem_cons_self ..
    · refine List.mem_cons_of_mem _ (ih fun q => hy ?_)
      show ((f, z) :: l).lookup y = none
      rw [lookup_one, if_neg e]
      exact q
section
variable {prog : Program} {w : World} {A : Around} {E : Value → Shared → Prop} {s : Shared} {K : Frag} {C fI : Addr} {ns : List Str} {R : Result → Shared → Prop}
/-- the rows self.f = f, one after the other -/
theorem keeps_run (T : SErr prog K C fI ns) {env : Env} {L x : Addr} {m : Str → Option Value} {h0 : Heap} (X0 : K.In h0) (hKx : K.lookup x = none) (hk : env.scope.kind = .function) (hL : env.locals = L) (hself : env.kindOf "self" = some .local)
    (mx : m "self" = some (.ref x)) (hLx : L ≠ x) :
    ∀ (zs : List (Str × Ps)) (fs : List (Str × Value)) (us : List Value) (h : Heap) (tk : Nat) (t1 : Addr) (Q : Flow → Shared → Prop), zs.length = us.length → h.Ns L m →
      (∀ (i : Nat) (z : Str × Ps), zs[i]? = some z → z.1 ∈ ns ∧ env.kindOf z.1 = some .local ∧ (z.1 == ("__debug__" : Str)) = false ∧ m z.1 = us[i]?) → fs.length + zs.length ≤ 900 →
      (∀ b o, b ≠ x → h0.get? b = some o → h.get? b = some o) →
      ((fs = [] ∧ h0.objs.size ≤ h.objs.size ∧ h.get? x = some (excO C t1)) ∨ ∃ dx : Addr, fs ≠ [] ∧ h0.objs.size ≤ dx ∧ dx ≠ x ∧ dx ≠ L ∧ h.get? x = some ({ cls := .ref C, dict := some dx, data := .fields #[.ref t1, .none, .none, .none, .bool false, .none] } : Obj) ∧ h.Ns1 dx fun f => fs.lookup f) →
      (∀ h' tk', InitE h0 h' x C (((zs.map (·.1)).zip us).reverse ++ fs) → Q .next { s with heap := h', toks := tk' }) →
      wpAny (model prog w) A (execs (zs.map fun z => keepS z.1 z.2) env) Q E { s with heap := h, toks := tk }
  | [], fs, us, h, tk, t1, Q, hl, hn, hz, h9, kp, ho, hq => by
    have e : us = [] := List.length_eq_zero_iff.mp hl.symm
    subst e
    refine wpAny_execs_nil (hq h tk ⟨kp, t1, ?_⟩)
    rcases ho with ⟨ho, _, hx⟩ | ⟨dx, d0, d1, d2, _, d4, d5⟩
    · exact .inl ⟨ho, hx⟩
    · exact .inr ⟨dx, d0, d1, d2, d4, d5⟩
  | (f, p) :: zs, fs, [], h, tk, t1, Q, hl, hn, hz, h9, kp, ho, hq => by cases hl
  | (f, p) :: zs, fs, u :: us, h, tk, t1, Q, hl, hn, hz, h9, kp, ho, hq => by
    obtain ⟨nm, q, N, bs, bm, sn, sub, ab, col, dd, k0, k1, k2, k3, k5, hC, hbm, _⟩ := T.cls
    have hcl : clsIn K C = some { name := nm, bases := bs, mro := .ref C :: bm, ns := N, qualname := q, hasDict := true, slotNames := sn, subclasses := sub, abstract := ab, collection := col, hasDel := false } := by
      unfold clsIn
      rw [hC] <;> rfl
    have X : K.In h := fun b o e => kp b o (fun z => by rw [z, hKx] at e; cases e) (X0 b o e)
    obtain ⟨hf, hloc, hdb, hm⟩ := hz 0 (f, p) rfl
    have hm' : m f = some u := hm
    have hno := T.no f hf
    have hnL : h.Ns env.locals m := by rw [hL]; exact hn
    have hz' : ∀ (i : Nat) (z : Str × Ps), zs[i]? = some z → z.1 ∈ ns ∧ env.kindOf z.1 = some .local ∧ (z.1 == ("__debug__" : Str)) = false ∧ m z.1 = us[i]? := fun i z hi => by
      have y := hz (i + 1) z (by simpa using hi)
      simpa using y
    have hl' : zs.length = us.length := by simpa using hl
    have h9' : ((f, u) :: fs).length + zs.length ≤ 900 := by
      have y : fs.length + (zs.length + 1) ≤ 900 := by simpa using h9
      show fs.length + 1 + zs.length ≤ 900
      omega
    have eqf : (((zs.map (·.1)).zip us).reverse ++ (f, u) :: fs) = (((((f, p) :: zs).map (·.1)).zip (u :: us)).reverse ++ fs) := by simp
    have efs : ∀ y, (if y = f then some u else fs.lookup y) = ((f, u) :: fs).lookup y := fun y => (lookup_one f y u fs).symm
    obtain ⟨oL, es, ep, hoL, hrL⟩ := id hn
    show wpAny _ _ (execs (keepS f p :: zs.map fun z => keepS z.1 z.2) env) _ _ _
    refine wpAny_execs_cons (plainObj_wpAny_Assign_Attribute ?_)
    refine wpAny_Name (wpAny_loadName_local hk hloc hnL hm' ?_) hdb
    refine wpAny_Name (wpAny_loadName_local hk hself hnL mx ?_) (by decide)
    rcases ho with ⟨e0, hsz, ho⟩ | ⟨dx, d0, d1, d2, d3, d4, d5⟩
    · subst e0
      refine set_plain X (ox := excO C t1) (od := none) ⟨ho, rfl, rfl, trivial⟩ T.sa ?_
      refine exc_osa X ho hcl (show refsVE (.ref C :: bm) = true from hbm) rfl hno (fun h' tk' dx k dn dne hx hns => ?_)
      show wpAny _ _ (execs _ _) _ _ _
      have hdL : dx ≠ L := fun z => by
        rw [z] at dn
        exact absurd (Heap.lt_size hoL) (Nat.not_lt_of_le dn)
      refine keeps_run T X0 hKx hk hL hself mx hLx zs [(f, u)] us h' tk' t1 Q hl' ⟨oL, es, ep, k _ _ hLx hoL, hrL⟩ hz' h9' (fun b o hb e => k b o hb (kp b o hb e)) (.inr ⟨dx, List.cons_ne_nil _ _, Nat.le_trans hsz dn, dne, hdL, hx, ?_⟩) fun h2 tk2 Z => hq h2 tk2 (eqf ▸ Z)
      have ee : (fun y => if y = f then some u else none) = fun y => List.lookup y [(f, u)] := funext fun y => by
        rw [lookup_one]
        rfl
      rw [← ee]
      exact hns
    · obtain ⟨oD, _, _, hoD, _, _⟩ := d5.count lookup_within
      refine set_plain X (ox := { cls := .ref C, dict := some dx, data := .fields #[.ref t1, .none, .none, .none, .bool false, .none] }) (od := some oD) ⟨d4, rfl, rfl, hoD⟩ T.sa ?_
      refine PySem.OEX.osa_old X d4 d5 lookup_within (by rw [List.length_map]; have y : fs.length + (zs.length + 1) ≤ 900 := (by simpa using h9); omega) hcl (show refsVE (.ref C :: bm) = true from hbm) rfl hno (fun h' tk' k hns => ?_)
      show wpAny _ _ (execs _ _) _ _ _
      refine keeps_run T X0 hKx hk hL hself mx hLx zs ((f, u) :: fs) us h' tk' t1 Q hl' ⟨oL, es, ep, k _ _ (Ne.symm d3) hoL, hrL⟩ hz' h9' (fun b o hb e => k b o (fun z => ?_) (kp b o hb e)) (.inr ⟨dx, List.cons_ne_nil _ _, d1, d2, d3, k _ _ (Ne.symm d2) d4, ?_⟩) fun h2 tk2 Z => hq h2 tk2 (eqf ▸ Z)
      · rw [z] at e
        exact absurd (Heap.lt_size e) (Nat.not_lt_of_le d1)
      · have ee : (fun y => if y = f then some u else fs.lookup y) = fun y => List.lookup y ((f, u) :: fs) := funext efs
        rw [← ee]
        exact hns
end
end Sq

set_option Elab.async false
set_option linter.all false
set_option maxRecDepth 100000
set_option maxHeartbeats 4000000
namespace Sq
open PySem PySem.W PySem.Calls PyProof.Rows PySem.HandSPX
section
variable {prog : Program} {w : World} {A : Around} {E : Value → Shared → Prop} {s : Shared} {K : Frag} {C fI : Addr} {ns : List Str} {R : Result → Shared → Prop} {mg mb : Str → Option Value}
theorem look_rev {α : Type} : ∀ (xs : List Str) (us : List α) (i : Nat) (f : Str), xs.Nodup → xs.length ≤ us.length → xs[i]? = some f → (xs.zip us).reverse.lookup f = us[i]?
  | [], us, i, f, _, _, h => by simp at h
  | x :: xs, [], i, f, _, h, _ => by simp at h
  | x :: xs, u :: us, i, f, nd, hl, h => by
    have nd1 := List.nodup_cons.mp nd
    have ez : ((x :: xs).zip (u :: us)).reverse = (xs.zip us).reverse ++ [(x, u)] := by simp
    rw [ez, List.lookup_append]
    cases i with
    | zero =>
      have e : x = f := by simpa using h
      subst e
      have e0 : (xs.zip us).reverse.lookup x = none := by
        rw [List.lookup_eq_none_iff]
        intro p hp
        have y := List.of_mem_zip (List.mem_reverse.mp hp)
        simp only [bne_iff_ne, ne_eq]
        rintro rfl
        exact nd1.1 y.1
      rw [e0]
      simp
    | succ i =>
      have h' : xs[i]? = some f := by simpa using h
      have hl' : xs.length ≤ us.length := by simpa using hl
      have y := look_rev xs us i f nd1.2 hl' h'
      rw [y]
      have hi := (List.getElem?_eq_some_iff.mp h').1
      have e1 : us[i]? = some (us[i]'(by omega)) := List.getElem?_eq_getElem (by omega)
      simp [e1]
theorem init_run (T : SErr prog K C fI ns) {x t0 : Addr} {us : List Value} (X : K.In s.heap) (hKx : K.lookup x = none) (hG : s.heap.Ns mainGlobals mg) (hB : s.heap.Ns builtinsNs mb) (hbs : mb "super" = some (.type "super")) (hlim : s.heap.NoLimit)
    (hx : s.heap.get? x = some (excO C t0)) (hus : us.length = ns.length) (hroom : A.depth < recursionLimit)
    (hq : ∀ h' tk, InitE s.heap h' x C ((ns.zip us).reverse) → R (.ok (.ret .none)) { s with heap := h', toks := tk }) :
    codeAny (model prog w) A (.call (.ref fI) ⟨.ref x :: us, []⟩) R s := by
  obtain ⟨nm, q, N, bs, bm, sn, sub, ab, col, dd, k0, k1', k2, k3, k5, hC, hbm, hal⟩ := T.cls
  have hcl : clsIn K C = some { name := nm, bases := bs, mro := .ref C :: bm, ns := N, qualname := q, hasDict := true, slotNames := sn, subclasses := sub, abstract := ab, collection := col, hasDel := false } := by
    unfold clsIn
    rw [hC] <;> rfl
  obtain ⟨oc, od, osl, name, qual, params, scope, kV, doc, pm, ct, an, cda, cc, ar, msg, j, p0, p1, p2, p3, p4, p5, ps, ccl, cl, cdd, cld, ccs, csl, vs, tf, lk, hps, har, hars, hcd, hcda, hvs, hcc, hbind, ksup, kcls, kloc, hpl, kdb, hcell, hco, hgen, hkind⟩ := T.fn
  have hlen : (Value.ref x :: us).length = ns.length + 1 := by simp [hus]
  have hne : ∀ b o, K.lookup b = some o → b ≠ x := fun b o e z => by
    rw [z, hKx] at e
    cases e
  refine ks_codeAny_call_defAt (fd := ksFn name qual params (supS msg j p0 p1 p2 p3 p4 p5 :: (ns.zip ps).map fun z => keepS z.1 z.2) scope .none kV doc pm an (.ref cda) ct cc) (binds := (("self" : Str) :: ns).zip (.ref x :: us)) hroom (X _ _ lk) rfl hlim (codeRec_of X hcd) rfl (hbind s (.ref x :: us) hlen) hcell (fun y hy => kloc _ (List.of_mem_zip hy).1) (fun h0 hns hk0 => ?_) hco hgen hkind
  show PySem.wpAt (model prog w) (A.deeper (ksEnv qual scope s.heap.objs.size fI (.ref cda) cc)) (.func (supS msg j p0 p1 p2 p3 p4 p5 :: (ns.zip ps).map fun z => keepS z.1 z.2) (ksEnv qual scope s.heap.objs.size fI (.ref cda) cc))
    (execs (supS msg j p0 p1 p2 p3 p4 p5 :: (ns.zip ps).map fun z => keepS z.1 z.2) (ksEnv qual scope s.heap.objs.size fI (.ref cda) cc)) _ _ _
  have hxL : s.heap.objs.size ≠ x := Nat.ne_of_gt (Heap.lt_size hx)
  have hx0 := hk0 _ _ hx
  have mself : ((("self" : Str) :: ns).zip (Value.ref x :: us)).reverse.lookup ("self" : Str) = some (.ref x) :=
    look_rev (("self" : Str) :: ns) (Value.ref x :: us) 0 "self" (List.nodup_cons.mpr ⟨T.noSelf, T.nd⟩) (by simp [hus]) rfl
  have mns : ∀ (i : Nat) (f : Str), ns[i]? = some f → ((("self" : Str) :: ns).zip (Value.ref x :: us)).reverse.lookup f = us[i]? := fun i f hf =>
    look_rev (("self" : Str) :: ns) (Value.ref x :: us) (i + 1) f (List.nodup_cons.mpr ⟨T.noSelf, T.nd⟩) (by simp [hus]) (by simpa using hf)
  refine ks_wpAt_execs_cons ?_
  show PySem.wpAt _ _ _ (exec (.Expr (.Call (.Attribute (.Call (.Name "super" p0) [] [] p1) "__init__" p2) [.Constant (.str msg) j p3] [] p4) p5) (ksEnv qual scope s.heap.objs.size fI (.ref cda) cc)) _ _ _
  have hint : interactive (ksEnv qual scope s.heap.objs.size fI (.ref cda) cc) = false := by
    show (scope.kind == .module && _) = false
    rw [hkind]
    rfl
  refine ks_wpAt_Expr_any ?_ hint
  have he : eval (.Call (.Attribute (.Call (.Name "super" p0) [] [] p1) "__init__" p2) [.Constant (.str msg) j p3] [] p4) (ksEnv qual scope s.heap.objs.size fI (.ref cda) cc) = (do
      let ov ← attributeBase (.Call (.Name "super" p0) [] [] p1) "__init__" (ksEnv qual scope s.heap.objs.size fI (.ref cda) cc) (eval (.Call (.Name "super" p0) [] [] p1) (ksEnv qual scope s.heap.objs.size fI (.ref cda) cc))
      standAt p2.atName
      let (f, first) ← holding [ov] (getMethod ov "__init__" (L2.plainOf (.Call (.Name "super" p0) [] [] p1) (ksEnv qual scope s.heap.objs.size fI (.ref cda) cc)))
      callWith p4 f first (backTo p4 (starEach [.Constant (.str msg) j p3] (ksEnv qual scope s.heap.objs.size fI (.ref cda) cc))) []) := by
    rw [arm_eval_Call]
    refine congrArg (fun k => attributeBase (.Call (.Name "super" p0) [] [] p1) "__init__" (ksEnv qual scope s.heap.objs.size fI (.ref cda) cc) (eval (.Call (.Name "super" p0) [] [] p1) (ksEnv qual scope s.heap.objs.size fI (.ref cda) cc)) >>= k) (funext fun ov => ?_)
    exact congrArg (fun k => standAt p2.atName >>= fun _ => k) (L2.mcall_line (by rfl) hpl)
  refine ks_wpAt_MethodCall ?_ he
  obtain ⟨oC, hoC, hdC⟩ : ∃ oC, s.heap.get? C = some oC ∧ oC.data = .cls { name := nm, bases := bs, mro := .ref C :: bm, ns := N, qualname := q, hasDict := true, slotNames := sn, subclasses := sub, abstract := ab, collection := col, hasDel := false } := ⟨_, X _ _ hC, rfl⟩
  have X0 : K.In h0 := fun b o e => hk0 b o (X b o e)
  have I0 : InstAt h0 x (excO C t0) C none := ⟨hx0, rfl, rfl, trivial⟩
  refine ks_wpAt_super_base (env := ksEnv qual scope s.heap.objs.size fI (.ref cda) cc) ksup kcls (by decide) rfl (X0 _ _ lk) rfl har rfl (X0 _ _ hcda) rfl hvs (by simp) T.top ?_
  refine ks_loadName_global hkind ksup (loadGlobal_builtin (env := ksEnv qual scope s.heap.objs.size fI (.ref cda) cc) (hG.keeps hk0) (mg_none_of X hG T.sup) (hB.keeps hk0) hbs ⟨rfl, ?_⟩)
  refine wpAny_loadName_free (env := ksEnv qual scope s.heap.objs.size fI (.ref cda) cc) hkind kcls rfl ⟨_, X0 _ _ hcc, rfl⟩ ?_
  rw [hars]
  refine wpAny_loadName_local (env := ksEnv qual scope s.heap.objs.size fI (.ref cda) cc) hkind (kloc _ (List.mem_cons_self ..)) hns mself ?_
  refine ks_wpAny_isType_cls (hk0 _ _ hoC) hdC ⟨rfl, ?_⟩
  refine ks_wpAny_call_super (hk0 _ _ hoC) hdC hx0 rfl (fun c z => by cases z) (looks_mroIn X0 T.self) (fun h1 e1 k1 => ?_)
  have X1 : K.In h1 := fun b o e => k1 b o (X0 b o e)
  have hx1 := k1 _ _ hx0
  have I1 : InstAt h1 x (excO C t0) C none := ⟨hx1, rfl, rfl, trivial⟩
  have hI : Looks (model prog w) h1 (isInstance (.ref x) (.type "ValueError")) true := I1.type.andThen (looks_subIn X1 T.veC)
  have hmro : Looks (model prog w) h1 (mroOf (.ref C)) (.ref C :: bm) := (looks_clsIn X1 hcl).andThen .now
  have hdrop : ((Value.ref C :: bm).dropWhile (· != .ref C)).drop 1 = bm := by simp [List.dropWhile_cons]
  refine kxs_getMethod (D := C) kxs_ValueError e1 (looks_opaque X1 T.opq) hmro hdrop X1 hal hI (ks_ne X1 I1 hcl) (by decide) ?_
  have kk : ∀ b o, h0.get? b = some o → (h1.push (kxs_mw "ValueError.__init__" x)).get? b = some o := fun b o e => Heap.get?_push_of_some _ (k1 b o e)
  have hu : (h1.push (kxs_mw "ValueError.__init__" x)).get? h1.objs.size = some (kxs_mw "ValueError.__init__" x) := Heap.get?_push_at rfl rfl
  refine kxs_callWith (i := "ValueError.__init__") (x := x) (by rfl) ?_
  refine evalArgs_plain (spliced_cons ?_)
  show wpAny _ _ (eval (.Constant (.str msg) j p3) (ksEnv qual scope s.heap.objs.size fI (.ref cda) cc)) _ _ _
  refine Constant_str ?_
  refine spliced_nil ⟨hu, ?_⟩
  have hC2 : (h1.push (kxs_mw "ValueError.__init__" x)).get? C = some (excClassObj nm q C N bs bm true sn sub ab col dd k0 k1' k2 k3 k5 "ValueError.__new__") := kk _ _ (hk0 _ _ (X _ _ hC))
  refine bw_call hC2 (kk _ _ hx0) hu (by rw [sizeLine_eq]; exact (by decide : 1 ≤ 16777216)) (fun h2 t1 k2' e2 => ?_)
  refine wpAt_of_wpAny ?_
  have hlz : (ns.zip ps).length = us.length := by rw [List.length_zip, hus]; omega
  obtain ⟨oL, es, ep, hoL, hrL⟩ := id hns
  have hsz : s.heap.objs.size < h0.objs.size := Heap.lt_size hoL
  refine keeps_run (s := s) (x := x) (L := s.heap.objs.size) (h0 := s.heap) T X hKx (env := ksEnv qual scope s.heap.objs.size fI (.ref cda) cc) hkind rfl (kloc _ (List.mem_cons_self ..)) mself hxL (ns.zip ps) [] us h2 _ t1 _ hlz ⟨oL, es, ep, k2' _ _ hxL (kk _ _ hoL), hrL⟩ (fun i z hz => ?_) ?_ (fun b o hb e => k2' b o hb (kk b o (hk0 b o e))) (.inl ⟨rfl, ?_, e2⟩) fun h' tk' Z => ?_
  · have z1 : ns[i]? = some z.1 := by
      have y := congrArg (Option.map Prod.fst) hz
      rw [List.getElem?_zip_eq_some.mp hz |>.1]
    have hm := List.mem_of_getElem? z1
    exact ⟨hm, kloc _ (List.mem_cons_of_mem _ hm), kdb _ hm, mns i z.1 z1⟩
  · have := T.len
    rw [hlz, hus]
    show 0 + ns.length ≤ 900
    omega
  · exact Nat.le_of_lt (Heap.lt_size (k2' _ _ hxL (kk _ _ hoL)))
  · have ez : ((ns.zip ps).map (·.1)) = ns := by
      rw [List.map_fst_zip]
      omega
    rw [ez, List.append_nil] at Z
    exact hq h' tk' Z
end
end Sq

set_option Elab.async false
set_option linter.all false
set_option maxRecDepth 100000
set_option maxHeartbeats 4000000
/-! Such errors as values: made, their fields read, isinstance of them. -/
namespace Sq
open PySem PySem.Spec PyProof.Rows L2
section
variable {fs ex : List Addr} {H : Hp} {h h' : Heap} {a b : Addr} {o u : HO}
end
theorem rev_rel : ∀ (ns : List Str) {vs : List V} {us : List Value}, Vals vs us → ∀ f, RelO ((ns.zip vs).reverse.lookup f) ((ns.zip us).reverse.lookup f)
  | [], _, _, _, _ => True.intro
  | n :: ns, _, _, .nil, _ => True.intro
  | n :: ns, _ :: vs, _ :: us, .cons (a := x) (b := y) r t, f => by
    rw [List.zip_cons_cons, List.zip_cons_cons, List.reverse_cons, List.reverse_cons, List.lookup_append, List.lookup_append]
    have q := rev_rel ns t f
    cases e1 : (ns.zip vs).reverse.lookup f with
    | some v =>
      rw [e1] at q
      cases e2 : (ns.zip us).reverse.lookup f with
      | some v' =>
        rw [e2] at q
        exact q
      | none =>
        rw [e2] at q
        exact q.elim
    | none =>
      rw [e1] at q
      cases e2 : (ns.zip us).reverse.lookup f with
      | some v' =>
        rw [e2] at q
        exact q.elim
      | none =>
        rw [Option.none_or, Option.none_or, lookup_one, lookup_one]
        by_cases e : f = n
        · rw [if_pos e, if_pos e]
          exact r
        · rw [if_neg e, if_neg e]
          exact True.intro
section
variable {X : Cx} {pins : List (Addr × Obj)} {σ : L2.St} {H : Hp} {s : Shared} {C fI : Addr} {ns : List Str}
/-! ### a field of such an error -/
end
end Sq

set_option Elab.async false
set_option linter.all false
set_option maxRecDepth 100000
set_option maxHeartbeats 4000000
/-! isinstance of such errors, whether they have a dict or not. -/
namespace Sq
open PySem PySem.W PySem.Spec PySem.Calls PyProof.Rows
section
variable {prog : Program} {w : World} {A : Around} {E : Value → Shared → Prop} {s : Shared} {K : Frag} {y D : Addr} {oy : Obj} {od : Option Obj}
/-- what the class says of __class__ -/
structure ClsE (K : Frag) (D : Addr) : Prop where
  ga : findIn K (.ref D) "__getattribute__" = some (some (.builtin "BaseException.__getattribute__"))
  gt : findIn K (.ref D) "__getattr__" = some none
  be : subIn K (.ref D) (.type "BaseException") = some true
  hd : hasDictIn K D = true
  ca : findIn K (.ref D) "__class__" = some (some (.builtin "object.__class__"))
  cg : specialIn K (.builtin "object.__class__") "__get__" = some (some (.builtin "getset_descriptor.__get__"))
  ct : takesIn K (.builtin "object.__class__") = some true
  mo : mroIn K D (.type "object") = some true
end
end Sq
namespace Sq
open PySem PySem.Spec PyProof.Rows L2
end Sq

set_option Elab.async false
set_option linter.all false
set_option maxRecDepth 100000
set_option maxHeartbeats 4000000
/-! A def that is run while no guard stands (so that repr is not under way), the end of such a law, repr of data. -/
namespace Sq
open PySem PySem.Spec PyProof.Rows L2
section
variable {P : Program} {w : World} {K : PySem.W.Frag} {mg : Str → Option Value} {base : Heap} {x qual : Str} {params : Arguments} {body : List Stmt} {scope : Scope} {dvs : List V} {kws : List (Str × V)} {f : Addr} {fd : FuncData}
end
/-! ### repr of data -/
end Sq

set_option Elab.async false
set_option linter.all false
set_option maxRecDepth 100000
set_option maxHeartbeats 4000000
/-! Dict comprehensions whose keys may be tuples, and may be made by calls. -/
namespace Sq
open PySem PySem.Spec PyProof.Rows L2
/-- the store of a comprehension, by either kind of keys -/
theorem dc_put {X : Cx} {ps : List (Addr × Obj)} {τ : L2.St} {G G' : Hp} {z : Shared} {Er : Value → Shared → Prop} {a : Addr} {y v : V} {u r : Value} {Qp : Unit → Shared → Prop} (hu : X.A.units + 1 < cLine) (J : Inv X ps τ G z)
    (g : DPut G a y v G') (ru : RelV y u) (rr : RelV v r) (q : ∀ z', Inv X ps τ G' z' → Qp () z') : wpAny (model X.prog X.w) X.A (dictSet a u r) Qp Er z := by
  rcases g with ⟨kvs, k, ea, rfl, hl, rfl⟩ | ⟨kvs, k, b, ea, rfl, eb, hl, rfl⟩
  · exact d_dictSet J ea hl ru rr q
  · obtain rfl : u = Value.ref b := ru
    obtain ⟨hz, hsys, xs, kt, dd⟩ := dt_of J.hok ea
    have hxs : xs.length ≤ sizeLine := by rw [← Paired.length kt]; exact hz
    have hnew : (putK kvs k v).length ≤ sizeLine := Nat.le_trans (length_putK kvs k v) hl
    refine wpAny_dictSet_heap (hsz := hxs) (show (tupleKind (mixKind X.prog X.w)).room X.A from Nat.lt_of_succ_lt hu) (key_of J.hok eb) dd fun h2 dd2 same => q _ ?_
    obtain ⟨o2, en, ep, eo, c2, c3, c4, _, c5⟩ := dd2
    refine d_write J (by rw [ea]; exact True.intro) same ⟨o2, eo⟩ ⟨hnew, hsys, _, (kt.put k eb rr).keeps fun c ys ec => ?_, o2, en, ep, eo, c2, c3, c4, c5⟩
    rw [upd_ne (ne_of ec ea (fun t => nomatch t))]
    exact ec
/-- {k: v for target in walked if ..}; o0: the empty dict of either kind -/
def tDct (o0 : HO) (wi : TI) (g : TG) (tt : TT) (tk tv : TE) (vs : List Nat) : TE := fun σ H Q => wi σ H fun J H1 => ∀ D, H1 D = none → ∃ W : Nat → Nat → Hp → Prop, (∃ m, W 0 m (upd H1 D o0)) ∧ ∀ i m H, W i m H →
  (J.stop i H ∧ Q (.ref D) H) ∨ (J.go i H ∧ ∃ Nx : Hp → Prop, (∀ H', Nx H' → ∃ m', m' < m ∧ W (i + 1) m' H') ∧ ∀ x H', J.yld i H x H' → g x (wipe σ vs) H' fun σ2 H2 => wipe σ2 vs = wipe σ vs ∧ tt σ2 H2 fun b H3 =>
    if b = true then tk σ2 H3 fun y H4 => tv σ2 H4 fun z H5 => ∃ H6, DPut H5 D y z H6 ∧ Nx H6 else Nx H3)
section
variable {X : Cx}
theorem pe_dct {o0 : HO} {kx vx tg it0 : Expr} {ifs : List Expr} {sc : Scope} {own : List (Str × Nat)} {pos : Pos} {wi : TI} {g : TG} {tt : TT} {tk tv : TE} (ho : o0 = .dK [] ∨ o0 = .dT []) (calm : X.calm = true) (hu : X.A.units + 1 < cLine) (nd : X.N.Nodup) (hi : PI X tg it0 wi)
    (bo : BlkOk X.N X.env.scope sc own)
    (hg : ∀ (s : Shared) (H : Hp) (C : Addr) (cl : List (Str × Addr)) (fp : List Addr), PG (X.blk s H sc (compEnvC sc cl C X.env) fp) tg g)
    (ht : ∀ (s : Shared) (H : Hp) (C : Addr) (cl : List (Str × Addr)) (fp : List Addr), PTs (X.blk s H sc (compEnvC sc cl C X.env) fp) ifs tt)
    (hk : ∀ (s : Shared) (H : Hp) (C : Addr) (cl : List (Str × Addr)) (fp : List Addr), PE (X.blk s H sc (compEnvC sc cl C X.env) fp) kx tk)
    (hv : ∀ (s : Shared) (H : Hp) (C : Addr) (cl : List (Str × Addr)) (fp : List Addr), PE (X.blk s H sc (compEnvC sc cl C X.env) fp) vx tv)
    (hf : ∀ x, foldedSetIterable it0 X.env x = pure x := by intro _; rfl) : PE X (.DictComp kx vx [⟨tg, it0, ifs, 0⟩] sc pos) (tDct o0 wi g tt tk tv (own.map (·.2))) := by
  refine ⟨fun pins z0 σ H Q I0 asked => ?_⟩
  rw [arm_eval_DictComp]
  have caught : ∀ y ∈ sc.names, y.2 = .free → ∃ c, X.env.cells.lookup y.1 = some c := fun y hy e => I0.ok.has _ (bo.free y hy e)
  refine wpAny_comprehension_free (use := none) rfl hf (closure_ok caught) bo.kind (fun y hy e => by rw [bo.uniq y hy, e]) (thn (hi.run pins z0 σ H _ I0 asked) fun xv z1 hx => thn hx fun iv z2 made => ?_)
  obtain ⟨wk, fp, tn, J, H2, rfl, I2, T, at2, fp2, want⟩ := made
  refine wpAny_newObj_type (newEnv_comp ?_)
  obtain ⟨D, eD⟩ : ∃ D, D = z2.heap.objs.size := ⟨_, rfl⟩
  have freeD : H2 D = none := I2.hok.fresh (Nat.le_of_eq eD.symm)
  obtain ⟨W, ⟨m0, first⟩, each⟩ := want D freeD
  obtain ⟨z3, e3⟩ : ∃ z3 : Shared, z3 = { z2 with heap := z2.heap.push { cls := .type "dict", data := .dict #[] } } := ⟨_, rfl⟩
  have heap3 : z3.heap = z2.heap.push { cls := .type "dict", data := .dict #[] } := by rw [e3]
  have I3 : Inv X pins σ (upd H2 D o0) z3 := by
    rw [e3]
    refine I2.laid (t' := z2.toks) (fun b o e => Heap.get?_push_of_some _ e) (Nat.le_of_eq eD.symm) ?_
    rw [eD]
    rcases ho with rfl | rfl
    · exact dk_empty z2.heap I2.big
    · exact dt_empty z2.heap I2.big
  have old : ∀ b ∈ fp, b < z2.heap.objs.size := fun b hb => (T.obj _ _ at2 b hb).elim fun o r => Heap.lt_size r.1
  have fp3 : ∀ b ∈ fp, FpOk X pins (upd H2 D o0) b ∧ b < z3.heap.objs.size := fun b hb => by
    have lt := old b hb
    have ne : b ≠ D := by rw [eD]; exact Nat.ne_of_lt lt
    exact ⟨⟨by rw [upd_ne ne]; exact (fp2 b hb).1, (fp2 b hb).2⟩, by rw [heap3, Heap.size_push]; exact Nat.lt_succ_of_lt lt⟩
  have at3 : tn 0 z3.heap := T.keep _ _ _ at2 fun b _ o e => by rw [heap3]; exact Heap.get?_push_of_some _ e
  have I4 := block_start I3 bo nd fp3
  have PG4 := hg z3 (upd H2 D o0) z3.heap.objs.size (cellsFrom (z3.heap.objs.size + 1) sc.names (cloFrom X.env.cells sc.names [])) fp
  have PT4 := ht z3 (upd H2 D o0) z3.heap.objs.size (cellsFrom (z3.heap.objs.size + 1) sc.names (cloFrom X.env.cells sc.names [])) fp
  have PK4 := hk z3 (upd H2 D o0) z3.heap.objs.size (cellsFrom (z3.heap.objs.size + 1) sc.names (cloFrom X.env.cells sc.names [])) fp
  have PV4 := hv z3 (upd H2 D o0) z3.heap.objs.size (cellsFrom (z3.heap.objs.size + 1) sc.names (cloFrom X.env.cells sc.names [])) fp
  rw [← e3, ← eD]
  show codeAny _ _ (.compStart (.DictComp kx vx [⟨tg, it0, ifs, 0⟩] sc pos) 0 (.ref wk) (.ref D) (compEnvC sc (cellsFrom (z3.heap.objs.size + 1) sc.names (cloFrom X.env.cells sc.names [])) z3.heap.objs.size X.env))
    (compPost (model X.prog X.w) X.A X.xe none _ (.ref D) z3.heap.objs.size) { z3 with heap := pushCells (z3.heap.push { cls := .type "dict", data := .dict #[] }) sc.names }
  have none3 : ∀ b ∈ fp, upd H2 D o0 b = none := fun b hb => (fp3 b hb).1.1
  generalize ec : compEnvC sc (cellsFrom (z3.heap.objs.size + 1) sc.names (cloFrom X.env.cells sc.names [])) z3.heap.objs.size X.env = ce at I4 PG4 PT4 PK4 PV4 ⊢
  have locs : ce.locals = z3.heap.objs.size := by rw [← ec]; rfl
  generalize eG : upd H2 D o0 = G3 at I3 I4 PG4 PT4 PK4 PV4 first none3 fp3
  generalize e4 : ({ z3 with heap := pushCells (z3.heap.push { cls := .type "dict", data := .dict #[] }) sc.names } : Shared) = z4 at I4 ⊢
  have at4 : tn 0 z4.heap := T.keep _ _ _ at3 fun b _ o e => by rw [← e4]; exact pushCells_keeps _ _ _ _ (Heap.get?_push_of_some _ e)
  have still : ∀ {τ : L2.St} {G : Hp} {z : Shared}, Inv (X.blk z3 G3 sc ce fp) [] τ G z → (∀ b ∈ fp, G b = none) → ∀ b ∈ fp, FpOk (X.blk z3 G3 sc ce fp) [] G b := fun {τ G z} J1 n1 b hb =>
    ⟨n1 b hb, (J1.ok.exf b hb).1, J1.ok.exfs b hb, .inl hb, fun x c e => (J1.ok.exf b hb).2 x c e, fun p hp => absurd (show p ∈ ([] : List (Addr × Obj)) ++ [] from hp) (by simp)⟩
  have turns : codeAny (model X.prog X.w) X.A (.compLoop (.DictComp kx vx [⟨tg, it0, ifs, 0⟩] sc pos) 0 (.ref wk) (.ref D) ce) (compPost (model X.prog X.w) X.A X.xe none (fun v z' => ∃ x H', Inv X pins σ H' z' ∧ RelV x v ∧ Q x H') (.ref D) z3.heap.objs.size) z4 := by
    refine compLoop_anyD (fun n z => ∃ i G, Inv (X.blk z3 G3 sc ce fp) [] (wipe σ (own.map (·.2))) G z ∧ tn i z.heap ∧ (∀ b ∈ fp, G b = none) ∧ W i n G) ?_ m0 ⟨0, G3, I4, at4, none3, first⟩
    rintro n z5 ⟨i, G5, I5, at5, n5, w5⟩
    rcases each i n G5 w5 with ⟨stops, goal⟩ | ⟨goes, Nx, less, turn⟩
    · refine thnF (T.done (X.blk z3 G3 sc ce fp) rfl rfl rfl calm i [] z5 _ G5 (fun _ _ => False) I5 (still I5 n5) at5 stops) fun r z6 ⟨er, I6⟩ => ?_
      subst er
      have I7 : Inv X pins σ G5 z6 := I3.call' (ch := fp) I6.os I6.base I6.hok I6.bare fun b hb => ⟨(fp3 b hb).1.2.2.2.1, (fp3 b hb).1.2.1, (fp3 b hb).1.2.2.2.2.1, (fp3 b hb).1.2.2.2.2.2⟩
      have n6 : G5 z3.heap.objs.size = none := by
        have q : G5 ce.locals = none := I6.free
        rwa [locs] at q
      obtain ⟨mm, hm, _⟩ := I6.loc
      have hm' : z6.heap.Ns ce.locals mm := hm
      rw [locs] at hm'
      obtain ⟨g0, g1, g2, g3, g4, g5⟩ := I3.fpOk (Nat.le_refl _) n6
      exact ⟨mm, hm', fun h9 sb => ⟨.ref D, G5, I7.turned (t' := z6.toks) (fun b o hb e => (sb.2 b hb).trans e) g0 g1 g3 g4 g5, rfl, goal⟩⟩
    · refine thnF (T.item (X.blk z3 G3 sc ce fp) rfl rfl rfl calm i [] z5 _ G5 (fun _ _ => False) I5 (still I5 n5) at5 goes) fun r z6 ⟨u, er, h6⟩ => ?_
      subst er
      refine thnF h6 fun _ z7 ⟨x, G7, I7, rx, hy, at7, n7⟩ => ?_
      refine thnF (PG4.run _ z7 _ G7 x u _ (I7.pinned (still I7 n7) (T.obj _ _ at7)) rx (turn x G7 hy)) fun _ z8 ⟨τ8, G8, I8, same8, q8⟩ => ?_
      refine thnF (PT4.run _ z8 τ8 G8 _ I8 q8) fun b z9 ⟨G9, I9, q9⟩ => ?_
      have close : ∀ {z : Shared} {G : Hp}, Inv (X.blk z3 G3 sc ce fp) ([] ++ pinsAt fp z7.heap) τ8 G z → Nx G → ∃ m, m < n ∧ ∃ i G, Inv (X.blk z3 G3 sc ce fp) [] (wipe σ (own.map (·.2))) G z ∧ tn i z.heap ∧ (∀ b ∈ fp, G b = none) ∧ W i m G := fun {z G} J1 nx => by
        obtain ⟨m1, lt1, w1⟩ := less G nx
        have kept : ∀ b ∈ fp, ∀ o, z7.heap.get? b = some o → z.heap.get? b = some o ∧ G b = none := fun b hb o e => by
          have t := J1.pin (b, o) (List.mem_append_right _ (List.mem_append_right _ (mem_pinsAt hb e)))
          exact ⟨t.1, t.2.1⟩
        refine ⟨m1, lt1, i + 1, G, (J1.unpinned (pins := [])).weak (by rw [← same8, wipe_length]) (fun j v e => by rw [← same8] at e; exact (wipe_some e).1), T.keep _ _ _ at7 fun b hb o e => (kept b hb o e).1, fun b hb => ?_, w1⟩
        obtain ⟨o, e, _⟩ := T.obj _ _ at7 b hb
        exact (kept b hb o e).2
      cases b with
      | false =>
        simp only [Bool.false_eq_true, if_false] at q9 ⊢
        exact close I9 q9
      | true =>
        simp only [if_true] at q9 ⊢
        refine thnF (PK4.run _ z9 τ8 G9 _ I9 q9) fun k1 z10 ⟨yk, G10, I10, rk, q10⟩ => ?_
        refine thnF (PV4.run _ z10 τ8 G10 _ I10 q10) fun v1 z11 ⟨yv, G11, I11, rv, G12, put, nx⟩ => ?_
        exact dc_put (X := X.blk z3 G3 sc ce fp) hu I11 put rk rv fun z12 I12 => close I12 nx
  exact codeAny_compStart_dict turns (T.self X.A 0 _ _ _ at4 turns)
end
end Sq

set_option Elab.async false
set_option linter.all false
set_option maxRecDepth 100000
set_option maxHeartbeats 4000000
/-! any and all of a generator expression whose element is any expression of the hand layer. -/
namespace Sq
open PySem PySem.Spec PyProof.Rows L2
/-- a generator expression's scope within a def's -/
structure GenB (N : List Str) (sc scope : Scope) (own : List (Str × Nat)) : Prop where
  blk : BlkOk N sc scope own
  co : scope.isCoroutine = false
  cell : ∀ y ∈ scope.names, y.2 ≠ .cell
  dot : scope.names.lookup (".0" : Str) = some NameKind.local
/-- the context of the generator's frame: made at z, H -/
def genX (X : Cx) (Ag : Around) (z : Shared) (H : Hp) (ge : Env) (fp : List Addr) : Cx :=
  { X with A := Ag, s_0 := z, H_0 := H, env := ge, outer := X.stack, stack := ge :: X.stack, ex := fp, fn := fun _ => false, calm := true, pn := [], xe := fun _ _ => False }
section
variable {X : Cx} {pins : List (Addr × Obj)} {σ : L2.St} {H : Hp} {z : Shared}
theorem gen_start {Ag : Around} {sc : Scope} {own : List (Str × Nat)} {fp : List Addr} {code it : Value} {h' : Heap} {go : Obj} {gs : GenState} {tk : Nat} (I : Inv X pins σ H z) (ok : GenB X.N X.env.scope sc own) (nd : X.N.Nodup)
    (hA : Ag.handled = none) (hF : Ag.frames = some (genEnv sc (cloFrom X.env.cells sc.names []) z.heap.objs.size code builtinsNs X.env :: X.stack))
    (hfp : ∀ b ∈ fp, FpOk X pins H b ∧ b < z.heap.objs.size) (hgs : gs.bare = true) (hgo : ∀ v, go.data ≠ .cell v)
    (hn : h'.Ns z.heap.objs.size (fun y => if y = ".0" then some it else none)) (hs : Heap.SameBut z.heap.objs.size (z.heap.push { cls := .type "frame", data := .dict #[] }) h') (hfr : ¬ go.isFreed = true) :
    Inv (genX X Ag z H (genEnv sc (cloFrom X.env.cells sc.names []) z.heap.objs.size code builtinsNs X.env) fp) [(h'.objs.size, go)] (wipe σ (own.map (·.2))) H { z with gens := z.gens.push gs, toks := tk, heap := h'.push go } := by
  have size' : h'.objs.size = z.heap.objs.size + 1 := by rw [hs.1, Heap.size_push]
  have old : ∀ b o, z.heap.get? b = some o → (h'.push go).get? b = some o := fun b o e => Heap.get?_push_of_some _ (hs.extBut b o (Nat.ne_of_lt (Heap.lt_size e)) (Heap.get?_push_of_some _ e))
  have cm : ∀ {y c}, (cloFrom X.env.cells sc.names []).lookup y = some c → X.env.cells.lookup y = some c ∧ (y, NameKind.free) ∈ sc.names := fun {y c} e => by
    rcases cloFrom_mem (PySem.mem_of_lookup e) with hm | ⟨h1, rfl⟩
    · cases hm
    · obtain ⟨c, hc⟩ := I.ok.has _ (ok.blk.free _ h1 rfl)
      rw [hc]
      exact ⟨rfl, h1⟩
  have has : ∀ {y}, sc.names.lookup y = some .free → ∃ c, (cloFrom X.env.cells sc.names []).lookup y = some c := fun {y} e => mem_lookup (cloFrom_has (cells := X.env.cells) (acc := []) (PySem.mem_of_lookup e))
  generalize he : genEnv sc (cloFrom X.env.cells sc.names []) z.heap.objs.size code builtinsNs X.env = ge at hF ⊢
  have ec : ge.cells = cloFrom X.env.cells sc.names [] := by rw [← he]; rfl
  have el : ge.locals = z.heap.objs.size := by rw [← he]; rfl
  have es : ge.scope = sc := by rw [← he]; rfl
  have noCell : ∀ y, sc.names.lookup y ≠ some .cell := fun y e => ok.cell _ (PySem.mem_of_lookup e) rfl
  have okG : (genX X Ag z H ge fp).Ok := by
    refine ⟨I.ok.mod, by show ge.scope.kind = _; rw [es]; exact ok.blk.kind, by show ge.globals = _; rw [← he]; exact I.ok.glob, by show ge.builtins = _; rw [← he]; rfl, by show z.heap.objs.size ≤ ge.locals; rw [el]; exact Nat.le_refl _,
      fun y x c e1 e2 => ?_, fun y hy => ?_, fun y c w _ => (nomatch w), fun _ => hA, hF, .inr ⟨rfl, by show ge.frame = some ge.locals; rw [← he]; rfl⟩, fun b hb => ⟨?_, fun y c e w => ?_⟩, I.bs, Nat.le_trans I.ok.bsz I.sz, fun b o e hb => ?_, fun b hb w => ?_, I.stack, I.stkFree⟩
    · have e1 : ge.cells.lookup y = some c := e1
      have e2 : ge.cells.lookup x = some c := e2
      rw [ec] at e1 e2
      exact I.ok.inj y x c (cm e1).1 (cm e2).1
    · show ∃ c, ge.cells.lookup y = some c
      rw [ec]
      have hy' : sc.names.lookup y = some .cell ∨ sc.names.lookup y = some .free := by rw [← es]; exact hy
      rcases hy' with hy' | hy'
      · exact absurd hy' (noCell y)
      · exact has hy'
    · show b ≠ ge.locals
      rw [el]
      exact Nat.ne_of_lt (hfp b hb).2
    · have e : ge.cells.lookup y = some c := e
      rw [ec] at e
      exact (hfp b hb).1.2.2.2.2.1 y c (cm e).1 w
    · rcases (hfp b hb).1.2.2.2.1 with w | w
      · exact I.ok.noex b o e w
      · exact absurd (Nat.lt_of_lt_of_le (Heap.lt_size e) (Nat.le_trans I.ok.bsz w)) (Nat.lt_irrefl _)
    · rcases List.mem_cons.mp (I.stkSub b w) with w | w
      · exact (hfp b hb).1.2.1 w
      · exact (hfp b hb).1.2.2.1 w
  have notStk : h'.objs.size ∉ frs X.stack := fun hb => by
    obtain ⟨_, o, ho, _⟩ := I.stack.mem hb
    have lt : h'.objs.size < z.heap.objs.size := Heap.lt_size ho
    rw [size'] at lt
    exact absurd lt (Nat.not_lt_of_le (Nat.le_succ _))
  refine ⟨okG, rfl, I.bare.push hgs, Un.kept old, ⟨_, by show (h'.push go).Ns ge.locals _; rw [el]; exact hn.push _, fun i y v e1 e2 e3 => ?_⟩, fun y c e => ?_, ?_, fun y c e => ?_, fun p hp => ?_, I.hok.kept old, by rw [wipe_length]; exact I.len⟩
  · obtain ⟨e2, out⟩ := wipe_some e2
    have e3 : sc.names.lookup y = some .local ∨ sc.names.lookup y = some .cell ∨ sc.names.lookup y = some .free := by rw [← es]; exact e3
    have nloc : sc.names.lookup y ≠ some .local := fun w => by
      rcases ok.blk.own _ (PySem.mem_of_lookup w) (.inl rfl) with q | q
      · obtain ⟨p, hp, hpy⟩ := List.mem_map.mp q
        have hpy : p.1 = y := hpy
        have q2 := ok.blk.ix p hp
        rw [hpy] at q2
        have hi : p.2 = i := (List.getElem?_inj (List.getElem?_eq_some_iff.mp q2).1 nd).mp (q2.trans e1.symm)
        exact out (List.mem_map.mpr ⟨p, hp, hi⟩)
      · exact q (List.mem_of_getElem? e1)
    have fr : sc.names.lookup y = some .free := by
      rcases e3 with w | w | w
      · exact absurd w nloc
      · exact absurd w (noCell y)
      · exact w
    obtain ⟨c, hc⟩ := has fr
    have k := ok.blk.free _ (PySem.mem_of_lookup fr) rfl
    obtain ⟨m, hm, all⟩ := I.loc
    obtain ⟨u, r, l⟩ := all i y v e1 e2 (.inr k)
    refine ⟨u, r, .inr ⟨.inr (by show ge.scope.names.lookup y = _; rw [es]; exact fr), c, by show ge.cells.lookup y = _; rw [ec]; exact hc, ?_⟩⟩
    rcases l with ⟨w, _⟩ | ⟨_, c2, l2, cell⟩
    · have w : X.env.scope.names.lookup y = some .local := w
      rcases k with k | k <;> exact nomatch k.symm.trans w
    · have q := (cm hc).1
      rw [l2] at q
      cases q
      obtain ⟨o, ho, hd⟩ := cell
      exact ⟨o, old _ _ ho, hd⟩
  · have e : ge.cells.lookup y = some c := e
    rw [ec] at e
    obtain ⟨v, o, ho, hd⟩ := I.cell y c (cm e).1
    exact ⟨v, o, old _ _ ho, hd⟩
  · show H ge.locals = none
    rw [el]
    exact I.hok.fresh (Nat.le_refl _)
  · have e : ge.cells.lookup y = some c := e
    rw [ec] at e
    exact I.freeC y c (cm e).1
  · have hp : p ∈ [(h'.objs.size, go)] := hp
    rw [List.mem_singleton] at hp
    subst hp
    refine ⟨Heap.get?_push_size _ (by simpa using hfr), I.hok.fresh (by show _ ≤ h'.objs.size; omega), ?_, notStk, hgo⟩
    show h'.objs.size ≠ ge.locals
    rw [el]
    omega
end
end Sq

set_option Elab.async false
set_option linter.all false
set_option maxRecDepth 100000
set_option maxHeartbeats 4000000
/-! The generator's own turns. -/
namespace Sq
open PySem PySem.Spec PyProof.Rows L2
/-- the turns' reading: at stop Qs, at the walk's end Qe -/
def genTurns (J : It) (g : TG) (tt : TT) (te : TE) (vs : List Nat) (σ : L2.St) (stop : Bool) (Qs Qe : Hp → Prop) (W : Nat → Nat → Hp → Prop) : Prop := ∀ i m H, W i m H →
  (J.stop i H ∧ Qe H) ∨ (J.go i H ∧ ∃ Nx : Hp → Prop, (∀ H', Nx H' → ∃ m', m' < m ∧ W (i + 1) m' H') ∧ ∀ x H', J.yld i H x H' → g x (wipe σ vs) H' fun σ2 H2 => wipe σ2 vs = wipe σ vs ∧ tt σ2 H2 fun b H3 =>
    if b = true then te σ2 H3 fun y H4 => ∃ c, y = .bl c ∧ if c = stop then Qs H4 else Nx H4 else Nx H3)
/-- a generator of tests hands out: one that stops, or one behind which it may be woken -/
def gY (X : Cx) (pl : List (Addr × Obj)) (stop : Bool) (Qs : Hp → Prop) : Protocol := fun n s₀ v s kap => ∃ c τ G, v = .bool c ∧ Inv X pl τ G s ∧ if c = stop then Qs G else ∀ B, AllBare B → kap (.send .none) { s with gens := B }
def gF (X : Cx) (pl : List (Addr × Obj)) (Qe : Hp → Prop) : Nat → Shared → Shared → Prop := fun _ _ s => ∃ τ G, Inv X pl τ G s ∧ Qe G
def gR (X : Cx) (pl : List (Addr × Obj)) (Qe : Hp → Prop) : GenEnd := fun n s₀ r s => ((r = .ok (.ret .none) ∨ r = .ok .next) ∧ gF X pl Qe n s₀ s) ∨ ∃ e, r = .error e ∧ False
theorem Inv.bared {X : Cx} {pl : List (Addr × Obj)} {σ : L2.St} {H : Hp} {s : Shared} (I : Inv X pl σ H s) {B : Array GenState} (h : AllBare B) : Inv X pl σ H { s with gens := B } :=
  ⟨I.ok, I.os, h, I.base, I.loc, I.cell, I.free, I.freeC, I.pin, I.hok, I.len⟩
section
variable {Xg : Cx} {elt tg iter : Expr} {ifs : List Expr} {scope : Scope} {pos : Pos} {g : TG} {tt : TT} {te : TE} {J : It} {fp : List Addr} {it : Addr} {tn : Nat → Heap → Prop} {Ax : Around} {vs : List Nat} {σ : L2.St} {stop : Bool} {Qs Qe : Hp → Prop}
  {W : Nat → Nat → Hp → Prop} {pl : List (Addr × Obj)}
theorem seg_turns (calm : Xg.calm = true) (co : Xg.env.scope.isCoroutine = false) (over : Ax.over (.compLoop (.GeneratorExp elt [⟨tg, iter, ifs, 0⟩] scope pos) 0 (.ref it) .none Xg.env) [] = Xg.A) (T : Turn Xg.prog Xg.w Xg.K tg J fp it tn)
    (hg : PG Xg tg g) (ht : PTs Xg ifs tt) (he : PE Xg elt te) (quiet : ∀ e s, Xg.xe e s → False) (hfp : ∀ b ∈ fp, b ∈ Xg.ex ∧ ∀ p ∈ Xg.pn ++ pl, p.1 ≠ b) (all : genTurns J g tt te vs σ stop Qs Qe W) :
    ∀ (m n i : Nat) (G : Hp) (s s₀ : Shared), m < n → Inv Xg pl (wipe σ vs) G s → tn i s.heap → (∀ b ∈ fp, G b = none) → W i m G →
      Seg (model Xg.prog Xg.w) Ax (gR Xg pl Qe) (gY Xg pl stop Qs) n s₀ (.compLoop (.GeneratorExp elt [⟨tg, iter, ifs, 0⟩] scope pos) 0 (.ref it) .none Xg.env)
        ((model Xg.prog Xg.w).den (.compLoop (.GeneratorExp elt [⟨tg, iter, ifs, 0⟩] scope pos) 0 (.ref it) .none Xg.env)) [] s := by
  intro m
  induction m using Nat.strongRecOn with
  | _ m ih =>
    intro n i G s s₀ hmn I at0 n0 w0
    have still : ∀ {τ : L2.St} {G : Hp} {z : Shared}, Inv Xg pl τ G z → (∀ b ∈ fp, G b = none) → ∀ b ∈ fp, FpOk Xg pl G b := fun {τ G z} J1 n1 b hb =>
      ⟨n1 b hb, (J1.ok.exf b (hfp b hb).1).1, J1.ok.exfs b (hfp b hb).1, .inl (hfp b hb).1, fun x c e => (J1.ok.exf b (hfp b hb).1).2 x c e, (hfp b hb).2⟩
    show Seg _ Ax _ _ _ s₀ _ ((compTurn (.GeneratorExp elt [⟨tg, iter, ifs, 0⟩] scope pos) 0 (.ref it) .none Xg.env).onRaise (leaving Xg.env)) [] s
    rw [compTurn_gen, Sem.onRaise_eq_wrap]
    refine seg_bind_wrap (wpAny_standAt ?_)
    rcases all i m G w0 with ⟨stops, goal⟩ | ⟨goes, Nx, less, turn⟩
    · refine seg_bind_wrap ?_
      rw [over]
      refine thnF (T.done Xg rfl rfl rfl calm i pl s _ G (fun _ _ => False) I (still I n0) at0 stops) fun r z ⟨er, I1⟩ => ?_
      subst er
      exact seg_end (.ok .next) (.inl ⟨.inr rfl, _, _, I1, goal⟩)
    · refine seg_bind_wrap ?_
      rw [over]
      refine thnF (T.item Xg rfl rfl rfl calm i pl s _ G (fun _ _ => False) I (still I n0) at0 goes) fun r z1 ⟨u, er, h1⟩ => ?_
      subst er
      refine seg_bind_wrap ?_
      rw [over]
      refine thnF h1 fun _ z2 ⟨x, G2, I2, rx, hy, at2, n2⟩ => ?_
      refine seg_bind_wrap ?_
      rw [over]
      refine wpAny_mono (hg.run _ z2 _ G2 x u _ (I2.pinned (still I2 n2) (T.obj _ _ at2)) rx (turn x G2 hy)) (fun _ z3 ⟨τ3, G3, I3, same3, q3⟩ => ?_) fun _ _ w => (quiet _ _ w).elim
      refine seg_bind_wrap ?_
      rw [over]
      refine wpAny_mono (ht.run _ z3 τ3 G3 _ I3 q3) (fun b z4 ⟨G4, I4, q4⟩ => ?_) fun _ _ w => (quiet _ _ w).elim
      have next : ∀ {z : Shared} {G : Hp} {k : Nat} (s1 : Shared), Inv Xg (pl ++ pinsAt fp z2.heap) τ3 G z → Nx G → m ≤ k → Seg (model Xg.prog Xg.w) Ax (gR Xg pl Qe) (gY Xg pl stop Qs) k s1 (.compLoop (.GeneratorExp elt [⟨tg, iter, ifs, 0⟩] scope pos) 0 (.ref it) .none Xg.env)
          ((model Xg.prog Xg.w).den (.compLoop (.GeneratorExp elt [⟨tg, iter, ifs, 0⟩] scope pos) 0 (.ref it) .none Xg.env)) [] z := fun {z G k} s1 J1 nx mk => by
        obtain ⟨m1, lt1, w1⟩ := less G nx
        have kept : ∀ b ∈ fp, ∀ o, z2.heap.get? b = some o → z.heap.get? b = some o ∧ G b = none := fun b hb o e => by
          have t := J1.pin (b, o) (List.mem_append_right _ (List.mem_append_right _ (mem_pinsAt hb e)))
          exact ⟨t.1, t.2.1⟩
        refine ih m1 lt1 k (i + 1) G z s1 (by omega) ((J1.unpinned (pins := pl)).weak (by rw [← same3, wipe_length]) fun j v e => by rw [← same3] at e; exact (wipe_some e).1) (T.keep _ _ _ at2 fun b hb o e => (kept b hb o e).1) (fun b hb => ?_) w1
        obtain ⟨o, e, _⟩ := T.obj _ _ at2 b hb
        exact (kept b hb o e).2
      cases b with
      | false =>
        simp only [Bool.false_eq_true, if_false] at q4 ⊢
        exact seg_again rfl (next _ I4 q4 (Nat.le_of_lt hmn))
      | true =>
        simp only [if_true] at q4 ⊢
        have hy : ∀ v, yieldOut Xg.env v = yieldValue v := fun v => by simp only [yieldOut, co, Bool.false_eq_true, if_false]
        simp only [hy]
        rw [Sem.bind_eq_wrap', Sem.bind_eq_wrap', Sem.wrap_wrap, Sem.wrap_wrap]
        refine seg_wrap ?_
        rw [over]
        refine wpAny_mono (he.run _ z4 τ3 G4 _ I4 q4) (fun y z5 ⟨v, G5, I5, rv, c, ec, q5⟩ => ?_) fun _ _ w => (quiet _ _ w).elim
        subst ec
        obtain rfl : y = Value.bool c := rv
        obtain ⟨k, rfl⟩ : ∃ k, n = k + 1 := ⟨n - 1, by omega⟩
        refine seg_at (seg_yield rfl rfl rfl ⟨c, τ3, G5, rfl, I5.unpinned, ?_⟩)
        by_cases hc : c = stop
        · rw [if_pos hc] at q5 ⊢
          exact q5
        · rw [if_neg hc] at q5 ⊢
          exact fun B hB => seg_again rfl (next _ (Inv.bared I5 hB) q5 (by omega))
end
end Sq

set_option Elab.async false
set_option linter.all false
set_option maxRecDepth 100000
set_option maxHeartbeats 4000000
/-! any and all draw from such a generator. -/
namespace Sq
open PySem PySem.Spec PyProof.Rows L2
section
variable {Xg : Cx} {stop : Bool} {Qs Qe : Hp → Prop} {a : Addr} {go : Obj} {g : Nat} {A : Around} {R : Result → Shared → Prop}
/-- between two turns -/
def Sleeps (Xg : Cx) (Ax : Around) (pl : List (Addr × Obj)) (stop : Bool) (Qs Qe : Hp → Prop) (g n : Nat) (s : Shared) : Prop :=
  (∃ τ G, Inv Xg pl τ G s) ∧ ∃ gs, s.gens[g]? = some gs ∧ gs.Goes (model Xg.prog Xg.w) Ax (gR Xg pl Qe) (gY Xg pl stop Qs) n (.send .none) (s.setGen g .running)
/-- one draw -/
theorem draw_one (hh : A.handled = none) (hd : A.depth < recursionLimit) (isg : ∀ s : Shared, s.heap.get? a = some go → s.heap.IsGen a g) {n : Nat} {s : Shared} {Q : Option Value → Shared → Prop} {E : Value → Shared → Prop}
    (h : Sleeps Xg A.in1 [(a, go)] stop Qs Qe g n s)
    (hs : ∀ s' τ G, Inv Xg [(a, go)] τ G s' → Qs G → Q (some (.bool stop)) s')
    (hn : ∀ m s', n = m + 1 → Sleeps Xg A.in1 [(a, go)] stop Qs Qe g m s' → Q (some (.bool (!stop))) s')
    (he : ∀ s' τ G, Inv Xg [(a, go)] τ G s' → Qe G → Q none s') : wpAny (model Xg.prog Xg.w) A (pyNext (.ref a)) Q E s := by
  obtain ⟨⟨τ, G, I⟩, gs, hgs, hgo⟩ := h
  have pin : ∀ {τ G s}, Inv Xg [(a, go)] τ G s → s.heap.get? a = some go := fun I => (I.pin (a, go) (List.mem_append_right _ (List.mem_singleton.mpr rfl))).1
  have hgl : g < s.gens.size := (Array.getElem?_eq_some_iff.mp hgs).1
  refine GenW.wpAny_gsz (n := g + 1) hgl (next_genG (Er := fun _ _ => False) (F := gF Xg [(a, go)] Qe) (Y := gY Xg [(a, go)] stop Qs) hh I.nolimit hd (isg _ (pin I)) hgs hgo (fun v s₁ gs' hb hv => ?_) (fun s₁ hp h' hk => ?_) fun e s₁ w => w.elim)
  · obtain ⟨c, τ1, G1, rfl, I1, q⟩ := hv
    intro big
    have big1 : g < s₁.gens.size := by
      have e : (s₁.setGen g gs').gens.size = s₁.gens.size := GenW.setGen_size _ _ _
      have b2 : g + 1 ≤ (s₁.setGen g gs').gens.size := big
      omega
    have I2 : Inv Xg [(a, go)] τ1 G1 (s₁.setGen g gs') := Inv.bared I1 (allBare_setGen I1.bare hb)
    by_cases hc : c = stop
    · rw [if_pos hc] at q
      subst hc
      exact hs _ τ1 G1 I2 q
    · rw [if_neg hc] at q
      have ec : c = !stop := by cases c <;> cases stop <;> simp_all
      subst ec
      have q2 := q ((s₁.setGen g gs').setGen g .running).gens (allBare_setGen I2.bare rfl)
      cases n with
      | zero => exact q2.elim
      | succ m => exact hn m _ rfl ⟨⟨τ1, G1, I2⟩, gs', setGen_at big1, q2⟩
  · obtain ⟨τ1, G1, I1, q⟩ := hp
    intro _
    exact he _ τ1 G1 ((Inv.bared I1 (allBare_setGen I1.bare rfl)).kept (t' := s₁.toks) hk) q
variable (hh : A.handled = none) (hd : A.depth < recursionLimit) (isg : ∀ s : Shared, s.heap.get? a = some go → s.heap.IsGen a g) (fin : ∀ c τ G s, Inv Xg [(a, go)] τ G s → (if c = stop then Qs G else Qe G) → R (.ok (.ret (.bool c))) s)
include hh hd isg fin
theorem all_turns (hstop : stop = false) : ∀ (n : Nat) (s : Shared), Sleeps Xg A.in1.in1 [(a, go)] stop Qs Qe g n s → codeAny (model Xg.prog Xg.w) A (.builtin "all.loop" ⟨[.ref a], []⟩) R s := by
  subst hstop
  intro n
  induction n with
  | zero =>
    intro s hs
    refine codeAny_builtin F.entry_all_loop ?_
    rw [Around.under_plainId F.plain_all_loop _]
    show wpAny _ A.in1 (pyNext (.ref a) >>= _) _ _ s
    refine wpAny_bind (draw_one (A := A.in1) hh hd isg hs (fun s' τ G I q => ?_) (fun m s' em _ => nomatch em) fun s' τ G I q => ?_)
    · refine wpAny_bind (wpAny_holding (wpAny_truthy_bool ?_))
      refine wpAny_bind (wpAny_letGo ?_)
      simp only [Bool.false_eq_true, if_false]
      exact wpAny_bind (wpAny_rule (wpAny_pure (fin false τ G s' I (by rw [if_pos rfl]; exact q))))
    · exact wpAny_bind (wpAny_rule (wpAny_pure (fin true τ G s' I (by rw [if_neg Bool.noConfusion]; exact q))))
  | succ n ih =>
    intro s hs
    refine codeAny_builtin F.entry_all_loop ?_
    rw [Around.under_plainId F.plain_all_loop _]
    show wpAny _ A.in1 (pyNext (.ref a) >>= _) _ _ s
    refine wpAny_bind (draw_one (A := A.in1) hh hd isg hs (fun s' τ G I q => ?_) (fun m s' em w => ?_) fun s' τ G I q => ?_)
    · refine wpAny_bind (wpAny_holding (wpAny_truthy_bool ?_))
      refine wpAny_bind (wpAny_letGo ?_)
      simp only [Bool.false_eq_true, if_false]
      exact wpAny_bind (wpAny_rule (wpAny_pure (fin false τ G s' I (by rw [if_pos rfl]; exact q))))
    · obtain rfl : n = m := Nat.succ.inj em
      refine wpAny_bind (wpAny_holding (wpAny_truthy_bool ?_))
      refine wpAny_bind (wpAny_letGo ?_)
      simp only [Bool.not_false, if_true]
      exact wpAny_pure ⟨plainId_quiet F.plain_all_loop _, ih s' w⟩
    · exact wpAny_bind (wpAny_rule (wpAny_pure (fin true τ G s' I (by rw [if_neg Bool.noConfusion]; exact q))))
end
end Sq

set_option Elab.async false
set_option linter.all false
set_option maxRecDepth 100000
set_option maxHeartbeats 4000000
/-! any(test for target in walked if ..), all(..). -/
namespace Sq
open PySem PySem.Spec PyProof.Rows L2
def tGen (P : Addr) (stop : Bool) (wi : TI) (g : TG) (tt : TT) (te : TE) (vs : List Nat) : TE := fun σ H Q => wi σ H fun J H1 => GxR.TabG H1 P ∧ ∀ H2, GxR.Tabbed P H1 H2 → ∃ W : Nat → Nat → Hp → Prop, (∃ m, W 0 m H2) ∧
  genTurns J g tt te vs σ stop (Q (.bl stop)) (Q (.bl !stop)) W
section
variable {X : Cx} {elt tg iter : Expr} {ifs : List Expr} {scope : Scope} {gpos : Pos} {g : TG} {tt : TT} {te : TE} {own : List (Str × Nat)} {wi : TI} {k : Nat} {c P : Addr} {stop : Bool}
abbrev genC (elt tg iter : Expr) (ifs : List Expr) (scope : Scope) (gpos : Pos) : Expr := .GeneratorExp elt [⟨tg, iter, ifs, 0⟩] scope gpos
theorem seg_first {Xg : Cx} {J : It} {fp : List Addr} {it : Addr} {tn : Nat → Heap → Prop} {Ax : Around} {vs : List Nat} {σ : L2.St} {Qs Qe : Hp → Prop} {W : Nat → Nat → Hp → Prop} {pl : List (Addr × Obj)}
    (calm : Xg.calm = true) (co : Xg.env.scope.isCoroutine = false) (over : Ax.over (.compLoop (genC elt tg iter ifs scope gpos) 0 (.ref it) .none Xg.env) [] = Xg.A) (T : Turn Xg.prog Xg.w Xg.K tg J fp it tn)
    (hg : PG Xg tg g) (ht : PTs Xg ifs tt) (he : PE Xg elt te) (quiet : ∀ e s, Xg.xe e s → False) (hfp : ∀ b ∈ fp, b ∈ Xg.ex ∧ ∀ p ∈ Xg.pn ++ pl, p.1 ≠ b) (all : genTurns J g tt te vs σ stop Qs Qe W)
    (m n : Nat) (G : Hp) (s s₀ : Shared) (hmn : m < n) (I : Inv Xg pl (wipe σ vs) G s) (at0 : tn 0 s.heap) (n0 : ∀ b ∈ fp, G b = none) (w0 : W 0 m G) :
    Seg (model Xg.prog Xg.w) Ax (gR Xg pl Qe) (gY Xg pl stop Qs) n s₀ (.compStart (genC elt tg iter ifs scope gpos) 0 (.ref it) .none Xg.env)
        ((model Xg.prog Xg.w).den (.compStart (genC elt tg iter ifs scope gpos) 0 (.ref it) .none Xg.env)) [] s := by
  have loop := seg_turns calm co over T hg ht he quiet hfp all m n 0 G s s₀ hmn I at0 n0 w0
  show Seg _ Ax _ _ _ s₀ _ ((compStart (genC elt tg iter ifs scope gpos) 0 (.ref it) .none Xg.env).onRaise (leaving Xg.env)) [] s
  unfold compStart
  rw [Sem.onRaise_eq_wrap]
  show Seg _ Ax _ _ _ s₀ _ ((ask >>= _).wrap _ _ _ _) [] s
  refine seg_bind_wrap (wpAny_askSetting ?_)
  split
  · exact seg_again rfl loop
  · refine seg_bind_wrap (wpAny_rule ?_)
    first
      | exact seg_bind_wrap (wpAny_standAt (seg_bind_wrap (T.self _ 0 s _ _ at0 (seg_again rfl loop))))
      | (show Seg _ Ax _ _ _ s₀ _ ((standAt iter.pos >>= _).wrap _ _ _ _) [] s
         exact seg_bind_wrap (wpAny_standAt (seg_bind_wrap (T.self _ 0 s _ _ at0 (seg_again rfl loop)))))
theorem in1_frames' (A : Around) : A.in1.frames = A.frames := rfl
theorem boot_all : bootBuiltins "all" = some (.builtin "all") := by decide +kernel
/-- the generator is made: it sleeps ahead of its first turn -/
theorem gen_made {pins : List (Addr × Obj)} {σ : L2.St} {H : Hp} {s : Shared} {Q : VK} {Q' : Value → Shared → Prop} (calm : X.calm = true) (hr : Room (k + 1) X.A) (nd : X.N.Nodup) (TB : GxR.TabB X.base X.mg c P) (hcode : X.env.code = .ref c) (ok : GenB X.N X.env.scope scope own) (hi : PI X tg iter wi)
    (hg : ∀ (A : Around) (z : Shared) (G : Hp) (cl : List (Str × Addr)) (C : Addr) (cd : Value) (fp : List Addr), PG (genX X A z G (genEnv scope cl C cd builtinsNs X.env) fp) tg g)
    (ht : ∀ (A : Around) (z : Shared) (G : Hp) (cl : List (Str × Addr)) (C : Addr) (cd : Value) (fp : List Addr), Room k A → PTs (genX X A z G (genEnv scope cl C cd builtinsNs X.env) fp) ifs tt)
    (he : ∀ (A : Around) (z : Shared) (G : Hp) (cl : List (Str × Addr)) (C : Addr) (cd : Value) (fp : List Addr), Room k A → PE (genX X A z G (genEnv scope cl C cd builtinsNs X.env) fp) elt te)
    (hs : ∀ v, genFold iter X.env v = pure v) (I : Inv X pins σ H s) (h : tGen P stop wi g tt te (own.map (·.2)) σ H Q)
    (hQ : ∀ (Xg : Cx) (a : Addr) (go : Obj) (gn n : Nat) (s' : Shared), Xg.prog = X.prog → Xg.w = X.w → (∀ s : Shared, s.heap.get? a = some go → s.heap.IsGen a gn) → Sleeps Xg X.A.in1.in1 [(a, go)] stop (Q (.bl stop)) (Q (.bl !stop)) gn n s' →
      (∀ τ G s1, Inv Xg [(a, go)] τ G s1 → Inv X pins σ G s1) → s'.heap.get? a = some go → Q' (.ref a) s') :
    wpAny (model X.prog X.w) X.A (eval (genC elt tg iter ifs scope gpos) X.env) Q' X.xe s := by
  refine wpAny_GeneratorExp_make ok.co (closure_ok fun y hy e => I.ok.has _ (ok.blk.free y hy e)) ok.cell ok.dot ok.blk.kind (by have := hr.dp; omega) ?_ hs
  refine thn (hi.run pins s σ H _ I h) fun xv s1 hx => thn hx fun iv s2 made => ?_
  obtain ⟨it, fp, tn, J, H2, rfl, I2, T, at2, fp2, ⟨ps, hP, htr⟩, want⟩ := made
  have hPs : s2.heap.get? P = some { cls := .none, data := .fields ps } := I2.hok P _ hP
  have cd : PySem.W.CodeHd s2.heap c P := TB.code.keeps fun b u e => I2.bk b u e
  refine ⟨I2.nolimit, ?_⟩
  have cont : ∀ (code : Value) (h3 : Heap) (tk : Nat) (more : Array Value), Heap.ExtBut P s2.heap h3 → s2.heap.objs.size ≤ h3.objs.size → h3.get? P = some { cls := .none, data := .fields (ps ++ more) } → TriplesOk (ps ++ more).toList →
      wpAny (model X.prog X.w) X.A (builtinsFor X.env.globals X.env.builtins) (fun bi s₄ =>
        ∀ h', h'.Ns s₄.heap.objs.size (fun y => if y = ".0" then some (.ref it) else none) → Heap.SameBut s₄.heap.objs.size (s₄.heap.push { cls := .type "frame", data := .dict #[] }) h' →
          Q' (.ref h'.objs.size) { s₄ with
            gens := s₄.gens.push (.fresh (.compStart (genC elt tg iter ifs scope gpos) 0 (.ref it) .none (genEnv scope (cloFrom X.env.cells scope.names []) s₄.heap.objs.size code bi X.env))),
            toks := s₄.toks + 1 + 1 + 1,
            heap := h'.push { cls := .type "generator", data := .fields #[.int s₄.gens.size 0, .str "<genexpr>" (s₄.toks + 1), .str (X.env.qual ++ "<genexpr>") (s₄.toks + 1 + 1)] } }) X.xe { s2 with heap := h3, toks := tk } := by
    intro code h3 tk more hx hsz hP3 htr3
    obtain ⟨bm, ob, e1, e2, e3, e4, e5, e6, e7, e8⟩ := TB.bm
    refine wpAny_builtinsFor (m := X.mg) (by rw [I2.ok.glob]; exact (I2.mod.glob.keeps I2.bk).extBut hx TB.gP) e1 e2 (hx _ _ e4 (I2.bk _ _ e5)) e6 e7 e8 ?_
    intro h' hn hsb
    have J3 := GxR.inv_tab (more := more) (h' := h3) (g' := s2.gens) (d' := s2.drawn) (t' := tk) I2 hP (fun b u hb e => hx b u hb e) hP3 I2.bare
    generalize eG : upd H2 P (.tbl (ps ++ more)) = G3 at J3
    have off : ∀ b, b ≠ P → G3 b = H2 b := fun b hb => by rw [← eG]; exact upd_ne hb
    have tabbed : GxR.Tabbed P H2 G3 := ⟨⟨ps ++ more, by rw [← eG]; exact upd_same, htr3⟩, off⟩
    have fpP : ∀ b ∈ fp, b ≠ P := fun b hb w => by
      have q := (fp2 b hb).1
      rw [w, hP] at q
      cases q
    have at3 : tn 0 h3 := T.keep _ _ _ at2 fun b hb o e => hx b o (fpP b hb) e
    have fp3 : ∀ b ∈ fp, FpOk X pins G3 b ∧ b < h3.objs.size := fun b hb => by
      obtain ⟨o, e, _⟩ := T.obj _ _ at2 b hb
      exact ⟨⟨by rw [off b (fpP b hb)]; exact (fp2 b hb).1, (fp2 b hb).2⟩, Nat.lt_of_lt_of_le (Heap.lt_size e) hsz⟩
    obtain ⟨W, ⟨m0, w0⟩, turns⟩ := want G3 tabbed
    generalize ez : ({ s2 with heap := h3, toks := tk } : Shared) = z3 at J3 hn hsb ⊢
    have ezh : z3.heap = h3 := by rw [← ez]
    have J3' : Inv X pins σ G3 z3 := J3
    have fp3' : ∀ b ∈ fp, FpOk X pins G3 b ∧ b < z3.heap.objs.size := by rw [ezh]; exact fp3
    have ov : (X.A.in1.in1.over (.compLoop (genC elt tg iter ifs scope gpos) 0 (.ref it) .none (genEnv scope (cloFrom X.env.cells scope.names []) z3.heap.objs.size code builtinsNs X.env)) []).frames = some (genEnv scope (cloFrom X.env.cells scope.names []) z3.heap.objs.size code builtinsNs X.env :: X.stack) := by
      simp only [Around.over, in1_frames', I.ok.frames]
      rfl
    have oh : (X.A.in1.in1.over (.compLoop (genC elt tg iter ifs scope gpos) 0 (.ref it) .none (genEnv scope (cloFrom X.env.cells scope.names []) z3.heap.objs.size code builtinsNs X.env)) []).handled = none := hr.hd
    have orm : Room k (X.A.in1.in1.over (.compLoop (genC elt tg iter ifs scope gpos) 0 (.ref it) .none (genEnv scope (cloFrom X.env.cells scope.names []) z3.heap.objs.size code builtinsNs X.env)) []) := by
      refine ⟨hr.hd, ?_, ?_⟩
      · have := hr.dp
        show X.A.depth + 0 + 1 + 3 * k + 5 < recursionLimit
        omega
      · have := hr.un
        show X.A.units + 1 + 1 + 0 + 3 + 16 * k + 200 < cLine
        omega
    generalize eA : X.A.in1.in1.over (.compLoop (genC elt tg iter ifs scope gpos) 0 (.ref it) .none (genEnv scope (cloFrom X.env.cells scope.names []) z3.heap.objs.size code builtinsNs X.env)) [] = Ag at ov oh orm
    have I4 := gen_start (go := { cls := .type "generator", data := .fields #[.int z3.gens.size 0, .str "<genexpr>" (z3.toks + 1), .str (X.env.qual ++ "<genexpr>") (z3.toks + 1 + 1)] })
      (gs := .fresh (.compStart (genC elt tg iter ifs scope gpos) 0 (.ref it) .none (genEnv scope (cloFrom X.env.cells scope.names []) z3.heap.objs.size code builtinsNs X.env))) (tk := z3.toks + 1 + 1 + 1) J3' ok nd oh ov fp3' rfl (fun v w => nomatch w) hn hsb Bool.false_ne_true
    have kept : ∀ b o, z3.heap.get? b = some o → (h'.push { cls := .type "generator", data := .fields #[.int z3.gens.size 0, .str "<genexpr>" (z3.toks + 1), .str (X.env.qual ++ "<genexpr>") (z3.toks + 1 + 1)] }).get? b = some o :=
      fun b o e => Heap.get?_push_of_some _ (hsb.extBut b o (Nat.ne_of_lt (Heap.lt_size e)) (Heap.get?_push_of_some _ e))
    have n3 : ∀ b ∈ fp, G3 b = none := fun b hb => (fp3' b hb).1.1
    have ha : (h'.push { cls := .type "generator", data := .fields #[.int z3.gens.size 0, .str "<genexpr>" (z3.toks + 1), .str (X.env.qual ++ "<genexpr>") (z3.toks + 1 + 1)] }).get? h'.objs.size = some { cls := .type "generator", data := .fields #[.int z3.gens.size 0, .str "<genexpr>" (z3.toks + 1), .str (X.env.qual ++ "<genexpr>") (z3.toks + 1 + 1)] } := Heap.get?_push_size _ rfl
    refine hQ (genX X Ag z3 G3 (genEnv scope (cloFrom X.env.cells scope.names []) z3.heap.objs.size code builtinsNs X.env) fp) h'.objs.size _ z3.gens.size (m0 + 1) _ rfl rfl (fun s e => ⟨_, _, _, e, rfl, rfl, rfl⟩)
      ⟨⟨_, _, I4⟩, _, Array.getElem?_push_size .., rfl, seg_first (Xg := genX X Ag z3 G3 (genEnv scope (cloFrom X.env.cells scope.names []) z3.heap.objs.size code builtinsNs X.env) fp) rfl ok.co eA T (hg ..) (ht _ _ _ _ _ _ _ orm) (he _ _ _ _ _ _ _ orm) (fun _ _ w => w) (fun b hb => ⟨hb, fun p hp w => ?_⟩) turns m0 (m0 + 1) G3 _ _ (Nat.lt_succ_self _) (Inv.bared I4 (allBare_setGen I4.bare rfl)) (T.keep _ _ _ at3 fun b hb o e => kept b o (by rw [ezh]; exact e)) n3 w0⟩
      (fun τ G s1 J => J3'.call' (ch := fp) J.os J.base J.hok J.bare fun b hb => ⟨(fp3' b hb).1.2.2.2.1, (fp3' b hb).1.2.1, (fp3' b hb).1.2.2.2.2.1, (fp3' b hb).1.2.2.2.2.2⟩) ha
    have hp : p ∈ [(h'.objs.size, _)] := hp
    rw [List.mem_singleton] at hp
    subst hp
    have w : h'.objs.size = b := w
    have lt := (fp3' b hb).2
    have sz : h'.objs.size = z3.heap.objs.size + 1 := by rw [hsb.1, Heap.size_push]
    rw [← w, sz] at lt
    exact absurd lt (Nat.not_lt_of_le (Nat.le_succ _))
  cases hf : codeAmong gpos ps.toList with
  | none =>
    refine wpAny_genexprCodeX hcode (cd.code hPs htr) (cd.tab hPs) hf fun c' h' tk hx hge hlt hco' _ htab' _ => ?_
    obtain ⟨o1, vs, f1, tf, fl, tg, inF, tx, tt, op, _, _, _, _, _, _, _, _, _, ht2, _⟩ := hco'
    exact cont _ h' tk _ hx (Nat.le_trans hge (Nat.le_of_lt hlt)) htab'.2 ht2
  | some cv =>
    refine wpAny_genexprCode_hit hcode (cd.code hPs htr) hf ?_
    exact cont cv s2.heap s2.toks #[] (Heap.ExtBut.refl _ _) (Nat.le_refl _) (by simpa using hPs) (by simpa using htr)

section
variable (calm : X.calm = true) (hr : Room (k + 1) X.A) (nd : X.N.Nodup) (TB : GxR.TabB X.base X.mg c P) (hcode : X.env.code = .ref c) (ok : GenB X.N X.env.scope scope own) (hi : PI X tg iter wi)
  (hg : ∀ (A : Around) (z : Shared) (G : Hp) (cl : List (Str × Addr)) (C : Addr) (cd : Value) (fp : List Addr), PG (genX X A z G (genEnv scope cl C cd builtinsNs X.env) fp) tg g)
  (ht : ∀ (A : Around) (z : Shared) (G : Hp) (cl : List (Str × Addr)) (C : Addr) (cd : Value) (fp : List Addr), Room k A → PTs (genX X A z G (genEnv scope cl C cd builtinsNs X.env) fp) ifs tt)
  (he : ∀ (A : Around) (z : Shared) (G : Hp) (cl : List (Str × Addr)) (C : Addr) (cd : Value) (fp : List Addr), Room k A → PE (genX X A z G (genEnv scope cl C cd builtinsNs X.env) fp) elt te)
  (hs : ∀ v, genFold iter X.env v = pure v)
include calm hr nd TB hcode ok hi hg ht he hs
theorem pe_allG {p pos : Pos} (gl : Gl X "all") (hm : X.mg "all" = none) (hst : starEach [genC elt tg iter ifs scope gpos] X.env = (false, eval (genC elt tg iter ifs scope gpos) X.env) :: starEach [] X.env := by rfl) :
    PE X (.Call (.Name "all" p) [genC elt tg iter ifs scope gpos] [] pos) (tGen P false wi g tt te (own.map (·.2))) := by
  refine ⟨fun pins s σ H Q I h => wpAny_Call_Name_kw (ld_blt I gl hm boot_all ?_)⟩
  refine PyProof.Rows.callWith_builtin1 ?_ hst (by rfl)
  rw [hst]
  show wpAny _ _ (spliced ((false, eval (genC elt tg iter ifs scope gpos) X.env) :: backTo pos (starEach [] X.env))) _ _ s
  refine Calls.spliced_cons (gen_made calm hr nd TB hcode ok hi hg ht he hs I h fun Xg a go gn n s' e1 e2 isg sl back ha => Calls.spliced_nil ?_)
  refine call_function_tree F.kind_all F.plain_all F.entry_all (F.args_all1 _) ?_
  unfold Builtin.«all»
  refine wpAny_bind (m := oneArg "all" _) (wpAny_pure (wpAny_bind (wpAny_pyIter_gen (isg _ ha) (wpAny_pure ⟨plainId_quiet F.plain_all_loop _, ?_⟩))))
  have run := all_turns (R := fun r s' => match r with | .ok (.ret v) => (∃ x H', Inv X pins σ H' s' ∧ RelV x v ∧ Q x H') | .ok _ => False | .error e => X.xe e s') hr.hd (by have := hr.dp; omega) isg (fun b τ G s1 J q => ⟨.bl b, G, back τ G s1 J, rfl, ?_⟩) rfl n s' sl
  · rw [e1, e2] at run
    exact run
  · cases b
    · rwa [if_pos rfl] at q
    · rwa [if_neg Bool.noConfusion] at q
end
end
end Sq

set_option Elab.async false
set_option linter.all false
set_option maxRecDepth 100000
set_option maxHeartbeats 4000000
/-! Walks under any, all and dict comprehensions. -/
namespace Sq
open PySem PySem.Spec PyProof.Rows L2
section
variable {J : It} {n : Nat} {Gd : Hp → Prop} {Y : Nat → Hp → V → Hp → Prop} {g : TG} {tt : TT} {vs : List Nat} {σ : L2.St}
theorem gen_it (w : Walk J n Gd Y) {te : TE} {stop : Bool} {Qs Qe : Hp → Prop} {H2 : Hp} (Pv : Nat → Hp → Prop) (h0 : Pv 0 H2) (hG : ∀ i H, i ≤ n → Pv i H → Gd H)
    (hs : ∀ i x H H', i < n → Pv i H → Y i H x H' → g x (wipe σ vs) H' fun σ2 H2 => wipe σ2 vs = wipe σ vs ∧ tt σ2 H2 fun b H3 => if b = true then te σ2 H3 fun y H4 => ∃ c, y = .bl c ∧ if c = stop then Qs H4 else Pv (i + 1) H4 else Pv (i + 1) H3)
    (hd : ∀ H, Pv n H → Qe H) : ∃ W : Nat → Nat → Hp → Prop, (∃ m, W 0 m H2) ∧ genTurns J g tt te vs σ stop Qs Qe W := by
  refine ⟨fun i m H => m = n - i ∧ i ≤ n ∧ Pv i H, ⟨n, rfl, Nat.zero_le _, h0⟩, ?_⟩
  rintro i m H ⟨rfl, hi, p⟩
  by_cases lt : i < n
  · exact .inr ⟨w.goes i H lt (hG i H hi p), Pv (i + 1), fun H' p' => ⟨n - (i + 1), by omega, rfl, lt, p'⟩, fun x H' y => hs i x H H' lt p (w.yields i H x H' lt (hG i H hi p) y)⟩
  · obtain rfl : i = n := Nat.le_antisymm hi (Nat.le_of_not_lt lt)
    exact .inl ⟨w.stops H (hG i H hi p), hd H p⟩
theorem dct_it (w : Walk J n Gd Y) {o0 : HO} {tk tv : TE} {H1 : Hp} {D : Addr} {Qd : Hp → Prop} (Pv : Nat → Hp → Prop) (h0 : Pv 0 (upd H1 D o0)) (hG : ∀ i H, i ≤ n → Pv i H → Gd H)
    (hs : ∀ i x H H', i < n → Pv i H → Y i H x H' → g x (wipe σ vs) H' fun σ2 H2 => wipe σ2 vs = wipe σ vs ∧ tt σ2 H2 fun b H3 => if b = true then tk σ2 H3 fun y H4 => tv σ2 H4 fun z H5 => ∃ H6, DPut H5 D y z H6 ∧ Pv (i + 1) H6 else Pv (i + 1) H3)
    (hd : ∀ H, Pv n H → Qd H) : ∃ W : Nat → Nat → Hp → Prop, (∃ m, W 0 m (upd H1 D o0)) ∧ ∀ i m H, W i m H →
      (J.stop i H ∧ Qd H) ∨ (J.go i H ∧ ∃ Nx : Hp → Prop, (∀ H', Nx H' → ∃ m', m' < m ∧ W (i + 1) m' H') ∧ ∀ x H', J.yld i H x H' → g x (wipe σ vs) H' fun σ2 H2 => wipe σ2 vs = wipe σ vs ∧ tt σ2 H2 fun b H3 =>
        if b = true then tk σ2 H3 fun y H4 => tv σ2 H4 fun z H5 => ∃ H6, DPut H5 D y z H6 ∧ Nx H6 else Nx H3) := by
  refine ⟨fun i m H => m = n - i ∧ i ≤ n ∧ Pv i H, ⟨n, rfl, Nat.zero_le _, h0⟩, ?_⟩
  rintro i m H ⟨rfl, hi, p⟩
  by_cases lt : i < n
  · exact .inr ⟨w.goes i H lt (hG i H hi p), Pv (i + 1), fun H' p' => ⟨n - (i + 1), by omega, rfl, lt, p'⟩, fun x H' y => hs i x H H' lt p (w.yields i H x H' lt (hG i H hi p) y)⟩
  · obtain rfl : i = n := Nat.le_antisymm hi (Nat.le_of_not_lt lt)
    exact .inl ⟨w.stops H (hG i H hi p), hd H p⟩
end
end Sq

set_option Elab.async false
set_option linter.all false
set_option maxRecDepth 100000
set_option maxHeartbeats 4000000
/-! Cells: pairs of whole numbers as tuples, as keys; their order; min of a dict of cells. -/
namespace Sq
open PySem PySem.Spec PyProof.Rows L2
abbrev Cell := Int × Int
def cV (c : Cell) : List V := [.int c.1, .int c.2]
def cK (c : Cell) : List Key := [.inl c.1, .inl c.2]
theorem cK_V (c : Cell) : (cK c).map kV = cV c := rfl
theorem cK_inj {c d : Cell} (h : cK c = cK d) : c = d := by
  obtain ⟨c1, c2⟩ := c
  obtain ⟨d1, d2⟩ := d
  have h : ([.inl c1, .inl c2] : List Key) = [.inl d1, .inl d2] := h
  simp only [List.cons.injEq, Sum.inl.injEq, and_true] at h
  rw [h.1, h.2]
/-- the cell c stands at q -/
def At (H : Hp) (q : Addr) (c : Cell) : Prop := H q = some (.tup (cV c))
theorem At.new {H : Hp} {q p : Addr} {c : Cell} {o : HO} (h : At H q c) (hp : H p = none) : At (upd H p o) q c := by
  unfold At
  rw [upd_ne (ne_of_none h hp)]
  exact h
theorem At.off {H : Hp} {q p : Addr} {c : Cell} {o u : HO} (h : At H q c) (hp : H p = some u) (hu : ∀ xs, u ≠ .tup xs) : At (upd H p o) q c := by
  unfold At
  rw [upd_ne (ne_of h hp (fun e => hu _ e.symm))]
  exact h
theorem At.sqT {K : PySem.W.Frag} {H : Hp} {q : Addr} {c : Cell} (h : At H q c) : SqT K H q (cV c) := SqT.of h
/-- the cells' order -/
def cLt (a b : Cell) : Bool := decide (a.1 < b.1 ∨ (a.1 = b.1 ∧ a.2 < b.2))
theorem cLt_lex (a b : Cell) : HT.lexLt [a.1, a.2] [b.1, b.2] = cLt a b := by
  unfold cLt
  rw [HT.lexLt_cons, HT.lexLt_cons, HT.lexLt_nil_nil]
  by_cases h1 : a.1 = b.1
  · rw [if_pos h1]
    by_cases h2 : a.2 = b.2
    · rw [if_pos h2]
      exact (decide_eq_false (by omega)).symm
    · rw [if_neg h2]
      exact decide_eq_decide.mpr (by omega)
  · rw [if_neg h1]
    exact decide_eq_decide.mpr (by omega)
theorem cLt_irr (a : Cell) : cLt a a = false := decide_eq_false (by omega)
theorem cLt_trans {a b c : Cell} (h1 : cLt a b = true) (h2 : cLt b c = true) : cLt a c = true := by
  have h1 := of_decide_eq_true h1
  have h2 := of_decide_eq_true h2
  exact decide_eq_true (by omega)
theorem cLt_tri {a b : Cell} (h1 : cLt a b = false) (h2 : cLt b a = false) : a = b := by
  have h1 := of_decide_eq_false h1
  have h2 := of_decide_eq_false h2
  exact Prod.ext (by omega) (by omega)
theorem cLt_asym {a b : Cell} (h1 : cLt a b = true) : cLt b a = false := by
  have h1 := of_decide_eq_true h1
  exact decide_eq_false (by omega)
/-- the best by a relation that is not reflexive and carries over -/
theorem best_of {bt : Nat → Nat → Bool} (irr : ∀ i, bt i i = false) (tr : ∀ i j k, bt i j = true → bt j k = true → bt i k = true) : ∀ k, argBest bt k ≤ k ∧ ∀ i, i ≤ k → bt i (argBest bt k) = false
  | 0 => ⟨Nat.le_refl _, fun i hi => by
    obtain rfl : i = 0 := by omega
    exact irr 0⟩
  | k + 1 => by
    obtain ⟨h1, h2⟩ := best_of irr tr k
    unfold argBest
    by_cases hb : bt (k + 1) (argBest bt k) = true
    · rw [if_pos hb]
      refine ⟨Nat.le_refl _, fun i hi => ?_⟩
      rcases Nat.lt_or_ge k i with q | q
      · obtain rfl : i = k + 1 := by omega
        exact irr _
      · cases e : bt i (k + 1) with
        | false => rfl
        | true => exact absurd (tr _ _ _ e hb) (by rw [h2 i q]; exact Bool.false_ne_true)
    · rw [if_neg hb]
      refine ⟨Nat.le_succ_of_le h1, fun i hi => ?_⟩
      rcases Nat.lt_or_ge k i with q | q
      · obtain rfl : i = k + 1 := by omega
        exact Bool.eq_false_iff.mpr hb
      · exact h2 i q
section
variable {X : Cx}
/-- min(d), d a dict whose keys are cells, not empty -/
def rMinC : List V → Hp → VK → Prop := fun vs H Q => ∃ (a : Addr) (kvs : List (List Key × V)) (cs : List Cell), vs = [V.ref a] ∧ H a = some (.dT kvs) ∧ kvs.map (·.1) = cs.map cK ∧ cs ≠ [] ∧ ∀ c q, c ∈ cs → (∀ d ∈ cs, cLt d c = false) → At H q c → Q (.ref q) H
theorem cr_minC (calm : X.calm = true) (hu : X.A.units + 2 < cLine) : CallR X (.builtin "min") rMinC := by
  intro pins s σ H vs us Q I r h
  obtain ⟨a, kvs, cs, rfl, ha, hk, hne, q⟩ := h
  rw [Vals.ref1 r]
  obtain ⟨_, hsys, xs, rel, o, es, ep, ho, hx, hdat, hes, his, hn⟩ := dt_of I.hok ha
  have hlt : a < s.heap.objs.size := Heap.lt_size ho
  have lk : kvs.length = cs.length := by
    have e := congrArg List.length hk
    rwa [List.length_map, List.length_map] at e
  have lx : kvs.length = xs.length := Paired.length rel
  have le : es.size = xs.length := size_of_entries hes
  have pos : 0 < cs.length := List.length_pos_iff.mpr hne
  have item : ∀ (i : Nat) (v : Value), (∃ en : DictEntry, es[i]? = some en ∧ v = en.key) → ∃ (c : Cell) (b : Addr), cs[i]? = some c ∧ v = .ref b ∧ At H b c := by
    rintro i v ⟨en, hen, rfl⟩
    have e1 := entry_at hes i
    rw [hen] at e1
    cases hxi : xs[i]? with
    | none =>
      rw [hxi] at e1
      exact nomatch (show some en = none from e1)
    | some x =>
      rw [hxi] at e1
      have e2 : en = entryOfKey (tupleKind (mixKind X.prog X.w)) x := Option.some.inj e1
      obtain ⟨kv, hkv, r1, r2, _⟩ := DX.pget rel hxi
      have e3 : (kvs.map (·.1))[i]? = some kv.1 := by rw [List.getElem?_map, hkv]; rfl
      rw [hk, List.getElem?_map] at e3
      obtain ⟨c, hc, ec⟩ := Option.map_eq_some_iff.mp e3
      refine ⟨c, x.2.1, hc, by rw [e2]; rfl, ?_⟩
      have r2 : H x.2.1 = some (.tup (kv.1.map kV)) := r2
      unfold At
      rw [r2, ← ec, cK_V]
  have cmp : CmpIn X.prog X.w X.A.in1 .Lt s.heap (fun i v => ∃ en : DictEntry, es[i]? = some en ∧ v = en.key) (fun i j => cLt (cs.getD i (0, 0)) (cs.getD j (0, 0))) := by
    intro i j vi vj z Qz Ez keep hi hj hq
    obtain ⟨c, b, hc, rfl, hb⟩ := item i vi hi
    obtain ⟨d, b2, hd, rfl, hb2⟩ := item j vj hj
    have g1 : cs.getD i (0, 0) = c := by rw [List.getD_eq_getElem?_getD, hc]; rfl
    have g2 : cs.getD j (0, 0) = d := by rw [List.getD_eq_getElem?_getD, hd]; rfl
    have hq : Qz (Value.bool (cLt (cs.getD i (0, 0)) (cs.getD j (0, 0)))) z := hq
    rw [g1, g2, ← cLt_lex] at hq
    obtain ⟨its, rv, t1, _⟩ := I.tuple (At.sqT hb)
    obtain ⟨its2, rv2, t2, _⟩ := I.tuple (At.sqT hb2)
    have i1 : IntsAre its.toArray.toList [c.1, c.2] := L2.intsAre_of (by simpa [cV] using rv)
    have i2 : IntsAre its2.toArray.toList [d.1, d.2] := L2.intsAre_of (by simpa [cV] using rv2)
    exact HT.lt_tupInts (t1.keeps keep) (t2.keeps keep) i1 i2 (by show X.A.units + 1 < cLine; omega) hq
  refine call_min_walkH (iter_keys hsys ho hx hdat ?_)
  have W := walks_raw (prog := X.prog) (w := X.w) (A := X.A.in1) (I.ok.hd calm) s.heap.objs.size a (Nat.ne_of_lt hlt) hdat
  refine ⟨s.heap.objs.size, _, _, _, _, _, _, s.heap, _, rfl, W.toS, ⟨⟨_, Heap.get?_push_size _ rfl, rfl, rfl⟩, Heap.get?_push_of_some _ ho⟩, fun b hb => ?_, by rw [le, ← lx, lk]; exact pos, fun b u e hb => ?_, fun b u e => Heap.get?_push_of_some _ e, cmp, fun v s' hP mv => ?_⟩
  · show b < (s.heap.push _).objs.size
    rw [Heap.size_push]
    rcases List.mem_cons.mp hb with e | hb
    · rw [e]; exact Nat.lt_succ_self _
    · rw [List.mem_singleton.mp hb]; exact Nat.lt_succ_of_lt hlt
  · have e1 : b = s.heap.objs.size := List.mem_singleton.mp hb
    have e2 := Heap.lt_size e
    rw [e1] at e2
    exact absurd e2 (Nat.lt_irrefl _)
  · obtain ⟨c, b, hc, rfl, hb⟩ := item _ v hP
    obtain ⟨b1, b2⟩ := best_of (bt := fun i j => cLt (cs.getD i (0, 0)) (cs.getD j (0, 0))) (fun i => cLt_irr _) (fun i j k => cLt_trans) (es.size - 1)
    have gc : cs.getD (argBest (fun i j => cLt (cs.getD i (0, 0)) (cs.getD j (0, 0))) (es.size - 1)) (0, 0) = c := by rw [List.getD_eq_getElem?_getD, hc]; rfl
    have I2 : Inv X pins σ H s' := by
      obtain ⟨h', g', d', t', o'⟩ := s'
      obtain ⟨mh, mg, md, mo, _⟩ := mv
      have mo : o' = s.os := mo
      have md : d' = s.drawn := md
      have mg : g' = s.gens := mg
      subst mo md mg
      refine I.kept (t' := t') fun b u e => mh b u (fun hm => ?_) (Heap.get?_push_of_some _ e)
      have e1 : b = s.heap.objs.size := List.mem_singleton.mp hm
      have e2 := Heap.lt_size e
      rw [e1] at e2
      exact absurd e2 (Nat.lt_irrefl _)
    refine ⟨.ref b, H, I2, rfl, q c b (List.mem_of_getElem? hc) (fun d hd => ?_) hb⟩
    obtain ⟨i, hi⟩ := List.mem_iff_getElem?.mp hd
    have il : i < cs.length := (List.getElem?_eq_some_iff.mp hi).1
    have w := b2 i (by omega)
    have w : cLt (cs.getD i (0, 0)) (cs.getD (argBest (fun i j => cLt (cs.getD i (0, 0)) (cs.getD j (0, 0))) (es.size - 1)) (0, 0)) = false := w
    rw [gc, List.getD_eq_getElem?_getD, hi] at w
    exact w
end
end Sq

set_option Elab.async false
set_option linter.all false
set_option maxRecDepth 100000
set_option maxHeartbeats 4000000
/-! *d in a list display, d a dict whose keys are tuples. -/
namespace Sq
open PySem PySem.Spec PyProof.Rows L2
theorem collect_src {prog : Program} {w : World} {A : Around} {E : Value → Shared → Prop} {s : Shared} {T : String} {r d : Addr} {n : Nat} {P : Nat → Value → Prop} {OK : Heap → Prop} {Q : List Value → Shared → Prop}
    (K : PySem.W.KdlSrc prog w T r d n P OK) (calm : A.handled = none) (ok : OK s.heap) (hn : n ≤ sizeLine)
    (q : ∀ (h' : Heap) (tk : Nat) (acc : Array Value), (∀ b o, s.heap.get? b = some o → h'.get? b = some o) → ItemsOf P acc n → Q acc.toList { s with heap := h', toks := tk }) : wpAny (model prog w) A (collect (.ref r)) Q E s := by
  unfold collect
  refine wpAny_bind (wpAny_runValue (codeAny_builtin F.entry_proto_collect ?_))
  rw [Around.under_plainId F.plain_proto_collect _]
  show wpAny _ A.in1 (newList [] >>= fun l => again (.builtin "list.__iadd__" ⟨[l, .ref r], []⟩)) _ _ s
  refine wpAny_bind (wpAny_newObj_type (wpAny_pure ⟨plainId_quiet F.plain_list_iadd _, codeAny_builtin F.entry_list_iadd ?_⟩))
  rw [Around.under_plainId F.plain_list_iadd _]
  have at0 : (s.heap.push { cls := .type "list", data := .seq ([] : List Value).toArray }).get? s.heap.objs.size = some { cls := .type "list", data := .seq #[] 0 } := Heap.get?_push_size _ rfl
  have lt := K.there _ ok
  have grow : ∀ b o, s.heap.get? b = some o → (s.heap.push { cls := .type "list", data := .seq ([] : List Value).toArray }).get? b = some o := fun b o e => Heap.get?_push_of_some _ e
  show wpAny _ A.in1 (Builtin.List.listExtendWith (.ref s.heap.objs.size) (.ref r) (.ref s.heap.objs.size)) _ _ _
  refine wpAny_mono (PySem.W.kdl_extend (A := A) (R := fun rr z => rr = .ok (.ret (.ref s.heap.objs.size)) ∧ ∃ (h' : Heap) (tk : Nat) (acc : Array Value) (c' : Nat), z = { s with heap := h', toks := tk } ∧
      (∀ b o, s.heap.get? b = some o → h'.get? b = some o) ∧ h'.get? s.heap.objs.size = some { cls := .type "list", dict := none, data := .seq acc c', slots := #[] } ∧ ItemsOf P acc n)
    (s := { s with heap := s.heap.push { cls := .type "list", data := .seq ([] : List Value).toArray } }) K calm (K.keep _ _ ok fun b _ o e => grow b o e) s.heap.objs.size (Nat.ne_of_gt lt.1) (Nat.ne_of_gt lt.2) _ 0 at0
    (fun h' tk acc c' hk e hi => ⟨rfl, h', tk, acc, c', rfl, fun b o z => hk b o (Nat.ne_of_lt (Heap.lt_size z)) (grow b o z), e, hi⟩) hn) (fun fin z h => ?_) fun e z h => absurd h.1 (by simp)
  cases fin with
  | done f =>
    obtain ⟨ef, h', tk, acc, c', rfl, hk, hS, hi⟩ := h
    cases ef
    show wpAny _ A (load s.heap.objs.size >>= _) _ _ _
    exact wpAny_bind (wpAny_load hS (wpAny_pure (q h' tk acc hk hi)))
  | again c' =>
    refine ⟨h.1, codeAny_mono h.2 fun rr z' hr' => ?_⟩
    obtain ⟨rfl, h', tk, acc, c', rfl, hk, hS, hi⟩ := hr'
    show wpAny _ A (load s.heap.objs.size >>= _) _ _ _
    exact wpAny_bind (wpAny_load hS (wpAny_pure (q h' tk acc hk hi)))
section
variable {X : Cx} {pins : List (Addr × Obj)} {σ : L2.St} {H : Hp} {s : Shared}
end
end Sq

set_option Elab.async false
set_option linter.all false
set_option maxRecDepth 100000
set_option maxHeartbeats 4000000
/-! d.pop(k), the key a tuple that is there. -/
namespace Sq
open PySem PySem.Spec PyProof.Rows L2
end Sq

set_option Elab.async false
set_option linter.all false
set_option maxRecDepth 100000
set_option maxHeartbeats 4000000
/-! raise C(e, ..), C an error that keeps its parameters. -/
namespace Sq
open PySem PySem.Spec PyProof.Rows L2
def tRz (C : Addr) (ns : List Str) (ta : TA) : L2.St → Hp → XK → Prop := fun σ H Q => ta σ H fun vs H1 => vs.length = ns.length ∧ ns ≠ [] ∧ ∀ d, H1 d = none → Q (.ref C) (some d) (upd H1 d (.xd (ns.zip vs).reverse))
section
variable {X : Cx} {C fI : Addr} {ns : List Str}
theorem mk_err {pins : List (Addr × Obj)} {σ : L2.St} {H : Hp} {s : Shared} {us : List Value} {vs : List V} {Q : XK} (T : SErr X.prog X.K C fI ns) (rz : Raises X (.ref C)) (hr : Room 1 X.A) (I : Inv X pins σ H s) (r : Vals vs us) (hl : vs.length = ns.length) (ne : ns ≠ [])
    (q : ∀ d, H d = none → Q (.ref C) (some d) (upd H d (.xd (ns.zip vs).reverse))) : wpAny (model X.prog X.w) X.A (call (.ref C) us) (MkP X pins σ Q) X.xe s := by
  obtain ⟨nm, q0, N, bs, bm, sn, sub, ab, col, dd, k0, k1, k2, k3, k5, hC, hbm, _⟩ := T.cls
  obtain ⟨mb, hmb, hbb⟩ := I.mod.blt
  have hlim := I.nolimit
  have hul : us.length = ns.length := by rw [← r.length]; exact hl
  have hdp := hr.dp
  obtain ⟨hp, g, dr, tk, os⟩ := s
  generalize e2 : (hp.push (PySem.W.kdv_tup us)).push (PySem.HandSPX.excO C hp.objs.size) = hp2
  have kk : ∀ b o, hp.get? b = some o → hp2.get? b = some o := fun b o e => by rw [← e2]; exact Heap.get?_push_of_some _ (Heap.get?_push_of_some _ e)
  have hget : hp2.get? (hp.objs.size + 1) = some (PySem.HandSPX.excO C hp.objs.size) := by rw [← e2]; heap_get
  have sz2 : hp2.objs.size = hp.objs.size + 2 := by rw [← e2, Heap.size_push, Heap.size_push]
  have KX : X.K.In hp := I.kIn
  have hKx : X.K.lookup (hp.objs.size + 1) = none := by
    cases e : X.K.lookup (hp.objs.size + 1) with
    | none => rfl
    | some o => exact absurd (Nat.lt_of_succ_lt (Heap.lt_size (KX _ _ e))) (Nat.lt_irrefl _)
  have hus : us.length ≤ sizeLine := by
    have := T.len
    rw [hul, sizeLine_eq]
    omega
  refine wpAny_call (PySem.HandSPX.call_own F.excBase_ValueError (fun Y => PySem.HandSPX.refsVE_contains Y bm hbm) (KX _ _ hC) (PySem.W.looks_findIn KX T.iC) (fun self => PySem.W.bind_fn KX self T.tI) hus ?_)
  rw [e2]
  refine init_run (s := ⟨hp2, g, dr, tk, os⟩) (mg := X.mg) (mb := mb) T (PySem.W.Frag.In.keeps KX kk) hKx (I.mod.glob.keeps fun b o e => kk b o (I.bk b o e)) (hmb.keeps fun b o e => kk b o (I.bk b o e))
    ((hbb _ (by decide +kernel)).trans (by first | boot_by_name | kernel_rfl)) (hlim.keeps kk) hget hul (by show X.A.depth + 1 < recursionLimit; omega) (fun h' tk' Z => ⟨rfl, ?_⟩)
  have na : H (hp.objs.size + 1) = none := I.hok.fresh (Nat.le_succ _)
  obtain ⟨t1, ⟨e, _⟩ | ⟨dx, _, d1, d2, d3, d4⟩⟩ := Z.obj
  · have z := congrArg List.length e
    rw [List.length_reverse, List.length_zip, hul, Nat.min_self] at z
    exact absurd (List.length_eq_zero_iff.mp z) ne
  have d1 : hp2.objs.size ≤ dx := d1
  have d1' : hp.objs.size ≤ dx := by
    rw [sz2] at d1
    exact Nat.le_trans (Nat.le_add_right _ 2) d1
  have nd : H dx = none := I.hok.fresh d1'
  have old : ∀ b o, hp.get? b = some o → h'.get? b = some o := fun b o e => Z.keep b o (Nat.ne_of_lt (Nat.lt_succ_of_lt (Heap.lt_size e))) (kk b o e)
  have ob1 : HOk X.prog X.w (upd H dx (exd dx (ns.zip vs).reverse)) h' := I.hok.laid old d1' (exd_ok d4 (rev_rel ns r))
  have na' : upd H dx (exd dx (ns.zip vs).reverse) (hp.objs.size + 1) = none := by
    rw [upd_ne (Ne.symm d2)]
    exact na
  have ob2 : HOk X.prog X.w (upd (upd H dx (exd dx (ns.zip vs).reverse)) (hp.objs.size + 1) (exo (hp.objs.size + 1) C (some dx))) h' := ob1.laidN (fun _ _ q => q) na' (exo_ok d3)
  have nedx : ∀ b o, hp2.get? b = some o → b ≠ dx := fun b o e z => by
    rw [z] at e
    exact absurd (Heap.lt_size e) (Nat.not_lt_of_le d1)
  have same : ∀ b, b ≠ hp.objs.size + 1 → b ≠ dx → upd (upd H dx (exd dx (ns.zip vs).reverse)) (hp.objs.size + 1) (exo (hp.objs.size + 1) C (some dx)) b = H b := fun b h1 h2 => by rw [upd_ne h1, upd_ne h2]
  have was : ∀ b u, upd H (hp.objs.size + 1) (exo (hp.objs.size + 1) C none) b = some u → (∀ dd, u ≠ exo (hp.objs.size + 1) C dd) → b ≠ hp.objs.size + 1 ∧ b ≠ dx ∧ H b = some u := fun b u e hu => by
    have h1 : b ≠ hp.objs.size + 1 := fun z => by
      rw [z, upd_same] at e
      exact hu _ (Option.some.inj e).symm
    rw [upd_ne h1] at e
    exact ⟨h1, fun z => (by rw [z, nd] at e; cases e), e⟩
  have un : Un (frs X.stack) [] (upd H (hp.objs.size + 1) (exo (hp.objs.size + 1) C none)) (upd (upd H dx (exd dx (ns.zip vs).reverse)) (hp.objs.size + 1) (exo (hp.objs.size + 1) C (some dx))) hp2 h' := by
    have neA : ∀ b, upd H (hp.objs.size + 1) (exo (hp.objs.size + 1) C none) b = none → b ≠ hp.objs.size + 1 := fun b n z => by
      rw [z, upd_same] at n
      cases n
    refine ⟨fun b o e n _ _ => Z.keep b o (neA b n) e, fun b o e n _ _ => ⟨o.slots, Z.keep b o (neA b n) e⟩, fun b o e n _ => ?_, fun b o e _ => ?_, fun b xs e => ?_, fun b o u e => ?_, fun b ps e => ?_⟩
    · rw [same b (neA b n) (nedx b o e), ← n, upd_ne (neA b n)]
    · by_cases hb : b = hp.objs.size + 1
      · rw [hb]
        exact ⟨_, d3⟩
      · exact ⟨o, Z.keep b o hb e⟩
    · obtain ⟨h1, h2, h3⟩ := was b _ e fun dd z => exo_tup z.symm
      rw [same b h1 h2, h3]
    · obtain ⟨h1, h2, h3⟩ := was b _ e fun dd z => exo_frz z.symm
      rw [same b h1 h2, h3]
    · obtain ⟨h1, h2, h3⟩ := was b _ e fun dd z => exo_tbl z.symm
      exact ⟨#[], by rw [same b h1 h2, h3]; simp⟩
  refine mk_end rz I (Nat.le_succ _) kk un ob2 rfl I.bare upd_same (by rw [upd_ne d2]; exact upd_same) nd ?_
  have eH : upd (del (upd (upd H dx (exd dx (ns.zip vs).reverse)) (hp.objs.size + 1) (exo (hp.objs.size + 1) C (some dx))) (hp.objs.size + 1)) dx (.xd (ns.zip vs).reverse) = upd H dx (.xd (ns.zip vs).reverse) := by
    funext b
    by_cases hb : b = dx
    · rw [hb, upd_same, upd_same]
    · rw [upd_ne hb, upd_ne hb]
      by_cases ha : b = hp.objs.size + 1
      · rw [ha, del_same, na]
      · rw [del_ne ha, same b ha hb]
  rw [eH]
  exact q dx nd
theorem pmk_err {x : Str} {e : Expr} {es : List Expr} {ta : TA} {p pos : Pos} (T : SErr X.prog X.K C fI ns) (rz : Raises X (.ref C)) (hr : Room 1 X.A) (hm : X.mg x = some (.ref C)) (ha : PA X (e :: es) ta) (hg : Gl X x := by rfl)
    (hdb : (x == ("__debug__" : Str)) = false := by decide) (he : starEach (e :: es) X.env = (false, eval e X.env) :: starEach es X.env := by rfl) (hpl : (backTo pos (starEach es X.env)).any (·.1) = false := by rfl) :
    PMk X (.Call (.Name x p) (e :: es) [] pos) (tRz C ns ta) := by
  intro pins s σ H Q I h
  refine wpAny_Call_Name_kw (ld_glob I hg hm ?_ hdb)
  exact PySem.W.callWith_K (h₀ := X.base) I.ok.mod.kin T.kC (thn (ha.run pos pins s σ H _ I h) fun us s1 ⟨vs, H1, I1, r1, hl, ne, q1⟩ => ⟨I1.kIn, mk_err T rz hr I1 r1 hl ne q1⟩) he hpl
end
end Sq

set_option Elab.async false
set_option linter.all false
set_option maxRecDepth 100000
set_option maxHeartbeats 4000000
/-! {k: v}, one pair, the key of any kind. -/
namespace Sq
open PySem PySem.Spec PyProof.Rows L2
def tDisp1 (o0 : HO) (tk tv : TE) : TE := fun σ H Q => ∀ p, H p = none → tk σ (upd H p o0) fun x H1 => tv σ H1 fun y H2 => ∃ H3, DPut H2 p x y H3 ∧ Q (.ref p) H3
def onePair (q : V → V → Hp → Prop) : List (V × V) → Hp → Prop
  | [p], H => q p.1 p.2 H
  | _, _ => False
theorem onePair_of {q : V → V → Hp → Prop} {H : Hp} : ∀ {ps : List (V × V)}, onePair q ps H → ∃ x y, ps = [(x, y)] ∧ q x y H
  | [p], h => ⟨p.1, p.2, rfl, h⟩
theorem pe_disp1 {X : Cx} {o0 : HO} {k v : Expr} {pos : Pos} {tk tv : TE} (ho : o0 = .dK [] ∨ o0 = .dT []) (hu : X.A.units + 1 < cLine) (hk : PE X k tk) (hv : PE X v tv) : PE X (.Dict [some k] [v] pos) (tDisp1 o0 tk tv) := by
  refine ⟨fun pins s σ H Q I h => ?_⟩
  have fresh := I.hok.fresh (Nat.le_refl s.heap.objs.size)
  have I1 : Inv X pins σ (upd H s.heap.objs.size o0) { s with heap := s.heap.push { cls := .type "dict", data := .dict #[] } } := by
    refine I.laid (t' := s.toks) (fun _ _ q => Heap.get?_push_of_some _ q) (Nat.le_refl _) ?_
    rcases ho with rfl | rfl
    · exact dk_empty s.heap I.big
    · exact dt_empty s.heap I.big
  refine wpAny_Dict_any rfl rfl (List.cons_ne_nil _ _) (by show 1 ≤ 15; decide) ?_
  refine thn ((pps_cons hk hv pps_nil).run pins _ σ _ (onePair fun x y H2 => ∃ H3, DPut H2 s.heap.objs.size x y H3 ∧ Q (.ref s.heap.objs.size) H3) I1 (h _ fresh)) fun vs z hz => ?_
  obtain ⟨ps, H2, I2, rel, q⟩ := hz
  obtain ⟨x, y, rfl, H3, put, q⟩ := onePair_of q
  cases rel with
  | cons rr r0 =>
    cases r0
    unfold storeAll
    rw [List.forIn_cons]
    refine wpAny_bind (wpAny_bind (dc_put hu I2 put rr.1 rr.2 fun z' I3 => wpAny_pure ?_))
    show wpAny _ _ (forIn ([] : List (Value × Value)) PUnit.unit _) _ _ _
    rw [List.forIn_nil]
    exact wpAny_pure ⟨.ref s.heap.objs.size, H3, I3, rfl, q⟩
end Sq

set_option Elab.async false
set_option linter.all false
set_option maxRecDepth 100000
set_option maxHeartbeats 4000000
/-! The mathematics of hanging together. -/
namespace Sq
/-- the four beside a cell -/
def besideC (c : Cell) : List Cell := [(c.1 - 1, c.2), (c.1, c.2 - 1), (c.1 + 1, c.2), (c.1, c.2 + 1)]
theorem beside_iff {c d : Cell} : d ∈ besideC c ↔ (d.1 = c.1 - 1 ∧ d.2 = c.2) ∨ (d.1 = c.1 ∧ d.2 = c.2 - 1) ∨ (d.1 = c.1 + 1 ∧ d.2 = c.2) ∨ (d.1 = c.1 ∧ d.2 = c.2 + 1) := by
  obtain ⟨c1, c2⟩ := c
  obtain ⟨d1, d2⟩ := d
  simp [besideC]
theorem beside_symm {c d : Cell} (h : d ∈ besideC c) : c ∈ besideC d := by
  rw [beside_iff] at h ⊢
  omega
theorem beside_ne {c d : Cell} (h : d ∈ besideC c) : d ≠ c := fun e => by
  subst e
  rw [beside_iff] at h
  omega
/-- what is reached from a within L -/
inductive Reach (L : List Cell) (a : Cell) : Cell → Prop where
  | refl : Reach L a a
  | step {b c : Cell} : Reach L a b → c ∈ besideC b → c ∈ L → Reach L a c
theorem Reach.trans {L : List Cell} {a b c : Cell} (h : Reach L a b) (k : Reach L b c) : Reach L a c := by
  induction k with
  | refl => exact h
  | step _ hb hc ih => exact .step ih hb hc
theorem Reach.mem {L : List Cell} {a b : Cell} (h : Reach L a b) (ha : a ∈ L) : b ∈ L := by
  cases h with
  | refl => exact ha
  | step _ _ hc => exact hc
theorem Reach.symm {L : List Cell} {a b : Cell} (h : Reach L a b) (ha : a ∈ L) : Reach L b a := by
  induction h with
  | refl => exact .refl
  | @step b c hab hb hc ih => exact (Reach.step .refl (beside_symm hb) (hab.mem ha)).trans ih
/-- the cells hang together -/
def Hangs (L : List Cell) : Prop := L ≠ [] ∧ ∀ a ∈ L, ∀ b ∈ L, Reach L a b
theorem hangs_from {L : List Cell} {m : Cell} (hm : m ∈ L) : Hangs L ↔ ∀ b ∈ L, Reach L m b :=
  ⟨fun h b hb => h.2 m hm b hb, fun h => ⟨List.ne_nil_of_mem hm, fun a ha b hb => ((h a ha).symm hm).trans (h b hb)⟩⟩
theorem len_le {α : Type} [DecidableEq α] : ∀ {xs ys : List α}, xs.Nodup → (∀ x ∈ xs, x ∈ ys) → xs.length ≤ ys.length
  | [], _, _, _ => Nat.zero_le _
  | x :: xs, ys, nd, h => by
    have nd1 := List.nodup_cons.mp nd
    have m := h x (List.mem_cons_self ..)
    have k := len_le (ys := ys.erase x) nd1.2 fun y hy => (List.mem_erase_of_ne (fun e => nd1.1 (by rw [← e]; exact hy))).mpr (h y (List.mem_cons_of_mem _ hy))
    rw [List.length_erase_of_mem m] at k
    have p : 0 < ys.length := List.length_pos_of_mem m
    show xs.length + 1 ≤ _
    omega
/-- as many, and within: the same -/
theorem all_of_len {α : Type} [DecidableEq α] {xs ys : List α} (nd : xs.Nodup) (h : ∀ x ∈ xs, x ∈ ys) (ny : ys.Nodup) (l : xs.length = ys.length) : ∀ y ∈ ys, y ∈ xs := fun y hy => by
  by_cases m : y ∈ xs
  · exact m
  · have k := len_le (xs := y :: xs) (ys := ys) (List.nodup_cons.mpr ⟨m, nd⟩) fun z hz => (List.mem_cons.mp hz).elim (fun e => e ▸ hy) (h z)
    have k : xs.length + 1 ≤ ys.length := k
    omega
theorem hangs_len {L F : List Cell} {m : Cell} (hm : m ∈ L) (nL : L.Nodup) (nF : F.Nodup) (hF : ∀ x, x ∈ F ↔ Reach L m x) : F.length = L.length ↔ Hangs L := by
  rw [hangs_from hm]
  have sub : ∀ x ∈ F, x ∈ L := fun x hx => ((hF x).mp hx).mem hm
  constructor
  · exact fun l b hb => (hF b).mp (all_of_len nF sub nL l b hb)
  · exact fun h => Nat.le_antisymm (len_le nF sub) (len_le nL fun x hx => (hF x).mpr (h x hx))
theorem hangs_perm {L M : List Cell} (h : ∀ x, x ∈ L ↔ x ∈ M) : Hangs L ↔ Hangs M := by
  have r : ∀ {L M : List Cell}, (∀ x, x ∈ L ↔ x ∈ M) → ∀ {a b}, Reach L a b → Reach M a b := fun {L M} h {a b} k => by
    induction k with
    | refl => exact .refl
    | step _ hb hc ih => exact .step ih hb ((h _).mp hc)
  have one : ∀ {L M : List Cell}, (∀ x, x ∈ L ↔ x ∈ M) → Hangs L → Hangs M := fun {L M} h k => by
    refine ⟨fun e => ?_, fun a ha b hb => r h (k.2 a ((h a).mpr ha) b ((h b).mpr hb))⟩
    obtain ⟨x, hx⟩ := List.exists_mem_of_ne_nil _ k.1
    have q := (h x).mp hx
    rw [e] at q
    cases q
  exact ⟨one h, one fun x => (h x).symm⟩
end Sq

set_option Elab.async false
set_option linter.all false
set_option maxRecDepth 100000
set_option maxHeartbeats 4000000
/-! Bundles: a def of the module with its promise; the built-ins' names; a while by what may be hidden. -/
namespace Sq
open PySem PySem.Spec PyProof.Rows L2
/-- the built-ins' names are the module's own nowhere -/
structure Bl (mg : Str → Option Value) : Prop where
  int : mg "int" = none
  len : mg "len" = none
  list : mg "list" = none
  tuple : mg "tuple" = none
  bool : mg "bool" = none
  isinstance : mg "isinstance" = none
  range : mg "range" = none
  sorted : mg "sorted" = none
  abs : mg "abs" = none
  min : mg "min" = none
  max : mg "max" = none
  set : mg "set" = none
  any : mg "any" = none
/-- the module's def x keeps the promise sp -/
structure Df (P : Program) (w : World) (K : PySem.W.Frag) (mg : Str → Option Value) (base : Heap) (CX : CXT) (k : Nat) (x : Str) (ps : List Str) (sp : Sp) : Prop where
  ex : ∃ f fd, mg x = some (.ref f) ∧ PySem.W.keepIn K (.ref f) = true ∧ Binds K fd ps [] ∧ FnOk P w K mg base CX k f fd ps sp
section
variable {X : Cx} {CX : CXT} {j k : Nat} {x : Str} {ps : List Str} {sp : Sp} {E : XK} {p pos : Pos} {e : Expr} {es : List Expr} {t : TA}
theorem pe_df (D : Df X.prog X.w X.K X.mg X.base CX k x ps sp) (hr : Room j X.A) (hg : Gl X x) (hx : Passes CX X E) (ha : PA X (e :: es) t) (hkj : k ≤ j := by decide) (hdb : (x == ("__debug__" : Str)) = false := by decide)
    (he : starEach (e :: es) X.env = (false, eval e X.env) :: starEach es X.env := by rfl) (hpl : (backTo pos (starEach es X.env)).any (·.1) = false := by rfl) : PE X (.Call (.Name x p) (e :: es) [] pos) (tCall sp [] E t) := by
  obtain ⟨f, fd, g, kp, b, F⟩ := D.ex
  exact pe_call F (hr.mono hkj) hg g kp b .nil hx ha hdb he hpl
end
/-- all but what stands at S stays -/
def Kp (S : List Addr) (H H' : Hp) : Prop := ∀ b o, b ∉ S → H b = some o → H' b = some o
theorem Kp.refl {S : List Addr} {H : Hp} : Kp S H H := fun _ _ _ e => e
theorem Kp.trans {S : List Addr} {H H1 H2 : Hp} (h : Kp S H H1) (k : Kp S H1 H2) : Kp S H H2 := fun b o n e => k b o n (h b o n e)
theorem Kp.mono {S T : List Addr} {H H' : Hp} (h : Kp S H H') (k : ∀ b ∈ S, b ∈ T) : Kp T H H' := fun b o n e => h b o (fun m => n (k b m)) e
theorem Kp.of {S : List Addr} {H H' : Hp} (h : Same H H') : Kp S H H' := fun b o _ e => h b o e
theorem Kp.but {S : List Addr} {H H' : Hp} {p : Addr} (hp : p ∈ S) (h : ∀ b, b ≠ p → H' b = H b) : Kp S H H' := fun b o n e => by
  rw [h b (fun z => n (z ▸ hp))]
  exact e
/-- what is new in H is put on -/
theorem Kp.put {S : List Addr} {H0 H : Hp} {p : Addr} {o : HO} (h : Kp S H0 H) (hp : H0 p = none) : Kp S H0 (upd H p o) := fun b u n e => by
  rw [upd_ne (ne_of_none e hp)]
  exact h b u n e
theorem same_put {H0 H : Hp} {p : Addr} {o : HO} (h : Same H0 H) (hp : H0 p = none) : Same H0 (upd H p o) := fun b u e => by
  rw [upd_ne (ne_of_none e hp)]
  exact h b u e
theorem same_refl {H : Hp} : Same H H := fun _ _ e => e
end Sq
namespace Sq
open PySem PySem.Spec PyProof.Rows L2
/-- a def of the text whose code object is known -/
structure FunC (K : PySem.W.Frag) (x qual : Str) (params : Arguments) (body : List Stmt) (scope : Scope) (c f : Addr) (fd : FuncData) : Prop where
  ex : ∃ (oc : Value) (od : Option Addr) (dV kV doc pm : Value) (an : Option Addr) (ct : Value) (osl : Array (Option Value)),
    fd = PySem.W.fnOf x qual params body scope dV kV doc pm an (.ref c) ct ∧ K.lookup f = some ⟨oc, od, .func fd, osl⟩ ∧ PySem.W.codeIn K (.ref c) qual = true ∧ DflV K dV [] ∧ KwdV K kV []
  kp : PySem.W.keepIn K (.ref f) = true
section
variable {P : Program} {w : World} {K : PySem.W.Frag} {mg : Str → Option Value} {base : Heap} {x qual : Str} {params : Arguments} {body : List Stmt} {scope : Scope} {c f : Addr} {fd : FuncData}
theorem FunC.d (F : FunC K x qual params body scope c f fd) : FunD K x qual params body scope [] [] f fd := by
  obtain ⟨oc, od, dV, kV, doc, pm, an, ct, osl, r⟩ := F.ex
  exact ⟨⟨oc, od, dV, kV, doc, pm, an, _, ct, osl, r⟩, F.kp⟩
theorem FunC.ok {CX : CXT} {N ps : List Str} {k : Nat} {sp : Sp} (F : FunC K x qual params body scope c f fd) (S : FnScope N ps scope) (len : ∀ vs H Q E, sp vs H Q E → vs.length = ps.length)
    (run : ∀ (A : Around) (outer : List Env) (s : Shared) (H : Hp) (vs : List V) (Q : VK) (E : XK), Room k (A.deeper (envOfC qual scope s.heap.objs.size f (.ref c))) → sp vs H Q E →
      ∃ t, PSs (cxOf CX P w K mg base N qual scope f (.ref c) A outer s H E) body t ∧ t { nx := fun _ H' => Q .non H', rt := Q } (L2.start N vs) H) : FnOk P w K mg base CX (k + 1) f fd ps sp := by
  obtain ⟨oc, od, dV, kV, doc, pm, an, ct, osl, rfl, lk, hcd, _, _⟩ := F.ex
  exact fn_of lk hcd S len fun A outer s H vs Q E hr hsp => run A outer s H vs Q E hr hsp
end
/-- tables stand at all of Ts -/
def TabsG (Ts : List Addr) (H : Hp) : Prop := ∀ T ∈ Ts, GxR.TabG H T
/-- all but the tables stays, and these are tables still -/
structure KT (Ts : List Addr) (H G : Hp) : Prop where
  kp : Kp Ts H G
  tb : TabsG Ts H
  tb' : TabsG Ts G
theorem KT.get {Ts : List Addr} {H G : Hp} {b : Addr} {o : HO} (h : KT Ts H G) (e : H b = some o) (ho : ∀ ps, o ≠ .tbl ps) : G b = some o := by
  refine h.kp b o (fun m => ?_) e
  obtain ⟨ps, e2, _⟩ := h.tb b m
  rw [e2] at e
  exact ho ps (Option.some.inj e).symm
theorem KT.at {Ts : List Addr} {H G : Hp} {q : Addr} {c : Cell} (h : KT Ts H G) (e : At H q c) : At G q c := h.get e (fun _ z => nomatch z)
theorem KT.lot {Ts : List Addr} {H G : Hp} {d : Addr} {L : List (List Key × V)} (h : KT Ts H G) (e : H d = some (.dT L)) : G d = some (.dT L) := h.get e (fun _ z => nomatch z)
theorem KT.tup {Ts : List Addr} {H G : Hp} {d : Addr} {L : List V} (h : KT Ts H G) (e : H d = some (.tup L)) : G d = some (.tup L) := h.get e (fun _ z => nomatch z)
theorem KT.lst {Ts : List Addr} {H G : Hp} {d : Addr} {L : List V} (h : KT Ts H G) (e : H d = some (.lst L)) : G d = some (.lst L) := h.get e (fun _ z => nomatch z)
theorem tabG_same {H G : Hp} {P : Addr} (hP : GxR.TabG H P) (h : Same H G) : GxR.TabG G P := by
  obtain ⟨ps, e, t⟩ := hP
  exact ⟨ps, h _ _ e, t⟩
theorem TabsG.same {Ts : List Addr} {H G : Hp} (hT : TabsG Ts H) (h : Same H G) : TabsG Ts G := fun T m => tabG_same (hT T m) h
theorem KT.of {Ts : List Addr} {H G : Hp} (hT : TabsG Ts H) (h : Same H G) : KT Ts H G := ⟨Kp.of h, hT, hT.same h⟩
theorem KT.refl {Ts : List Addr} {H : Hp} (hT : TabsG Ts H) : KT Ts H H := ⟨Kp.refl, hT, hT⟩
theorem KT.trans {Ts : List Addr} {H G I : Hp} (h : KT Ts H G) (k : KT Ts G I) : KT Ts H I := ⟨h.kp.trans k.kp, h.tb, k.tb'⟩
theorem KT.same {Ts : List Addr} {H G I : Hp} (h : KT Ts H G) (k : Same G I) : KT Ts H I := h.trans (.of h.tb' k)
theorem KT.free {Ts : List Addr} {H G : Hp} {a : Addr} (h : KT Ts H G) (e : G a = none) : H a = none := by
  cases q : H a with
  | none => rfl
  | some o =>
    by_cases m : a ∈ Ts
    · obtain ⟨ps, e2, _⟩ := h.tb' a m
      rw [e] at e2
      cases e2
    · rw [h.kp a o m q] at e
      cases e
theorem KT.tabbed {Ts : List Addr} {P : Addr} {H G : Hp} (hT : TabsG Ts H) (m : P ∈ Ts) (h : GxR.Tabbed P H G) : KT Ts H G := by
  refine ⟨fun b o n e => ?_, hT, fun T mT => ?_⟩
  · rw [h.2 b (fun z => n (by rw [z]; exact m))]
    exact e
  · by_cases e : T = P
    · rw [e]
      exact h.1
    · obtain ⟨ps, e2, t⟩ := hT T mT
      exact ⟨ps, (h.2 T e).trans e2, t⟩
noncomputable def hangsB (L : List Cell) : Bool := @decide (Hangs L) (Classical.propDecidable _)
theorem hangsB_iff {L : List Cell} : hangsB L = true ↔ Hangs L := by
  unfold hangsB
  exact @decide_eq_true_iff (Hangs L) (Classical.propDecidable _)
theorem hangsB_of {L : List Cell} {b : Bool} (h : b = true ↔ Hangs L) : b = hangsB L := by
  cases e : hangsB L with
  | true => exact h.mpr (hangsB_iff.mp e)
  | false =>
    cases b with
    | false => rfl
    | true => exact absurd (hangsB_iff.mpr (h.mp rfl)) (by rw [e]; simp)
end Sq
namespace Sq
open PySem PySem.Spec PyProof.Rows L2
theorem ix_tupK {X : Cx} {K : PySem.W.Frag} (h : X.K = K) : IxR X (rIxT K) := h ▸ ix_tup
theorem ix_listK {X : Cx} {K : PySem.W.Frag} (h : X.K = K) : IxR X (rIxL K) := h ▸ ix_list
end Sq

set_option Elab.async false
set_option linter.all false
set_option maxRecDepth 100000
set_option maxHeartbeats 4000000
/-! sorted of cells: out of a list, a dict's keys, a set. -/
namespace Sq
open PySem PySem.Spec PyProof.Rows L2
/-- the cell that stands at q, if one does -/
def cellAt (H : Hp) (q : Addr) : Cell := match H q with
  | some (.tup [.int i, .int j]) => (i, j)
  | _ => (0, 0)
theorem At.cell {H : Hp} {q : Addr} {c : Cell} (h : At H q c) : cellAt H q = c := by
  unfold cellAt
  rw [show H q = some (.tup [.int c.1, .int c.2]) from h]
theorem paired_cells {H : Hp} : ∀ {qs : List Addr} {cs : List Cell}, Paired (fun q c => At H q c) qs cs → cs = qs.map (cellAt H)
  | _, _, .nil => rfl
  | _, _, .cons h t => by rw [List.map_cons, h.cell, ← paired_cells t]
theorem paired_of {H : Hp} : ∀ {qs : List Addr}, (∀ q ∈ qs, At H q (cellAt H q)) → Paired (fun q c => At H q c) qs (qs.map (cellAt H))
  | [], _ => .nil
  | q :: qs, h => .cons (h q (List.mem_cons_self ..)) (paired_of fun r hr => h r (List.mem_cons_of_mem _ hr))
theorem paired_at {H : Hp} {qs : List Addr} {cs : List Cell} (h : Paired (fun q c => At H q c) qs cs) : ∀ q ∈ qs, At H q (cellAt H q) := by
  induction h with
  | nil => intro q hq; cases hq
  | cons a _ ih =>
    intro q hq
    rcases List.mem_cons.mp hq with e | e
    · rw [e, a.cell]
      exact a
    · exact ih q e
/-- what stands at refs, as pairs -/
def kC (H : Hp) : V → Int × Int
  | .ref q => cellAt H q
  | _ => (0, 0)
theorem lexB_cLt (a b : Cell) : SrtO.lexB a b = cLt a b := by
  cases h : cLt a b with
  | true => exact SrtO.lexB_iff.mpr (of_decide_eq_true h)
  | false => exact SrtO.lexB_no.mpr (of_decide_eq_false h)
/-- cells in their order -/
def Asc (cs : List Cell) : Prop := cs.Pairwise fun x y => cLt y x = false
/-- what a sorting of cells hands back -/
def sortedK (H : Hp) (cs : List Cell) (Q : VK) : Prop := ∀ (p : Addr) (qs' : List Addr) (cs' : List Cell), Paired (fun q c => At H q c) qs' cs' → cs'.Perm cs → Asc cs' → H p = none → Q (.ref p) (upd H p (.lst (qs'.map V.ref)))
theorem refs_perm {ys : List V} {qs : List Addr} (h : ys.Perm (qs.map V.ref)) : ∃ qs' : List Addr, ys = qs'.map V.ref ∧ qs'.Perm qs := by
  let un : V → Addr := fun v => match v with | .ref a => a | _ => 0
  have e0 : (qs.map V.ref).map un = qs := by
    rw [List.map_map]
    exact List.map_id' _
  refine ⟨ys.map un, ?_, ?_⟩
  · rw [List.map_map]
    have all : ∀ y ∈ ys, (V.ref ∘ un) y = y := fun y hy => by
      obtain ⟨q, _, rfl⟩ := List.mem_map.mp (h.mem_iff.mp hy)
      rfl
    rw [List.map_congr_left all]
    exact (List.map_id' _).symm
  · have := h.map un
    rwa [e0] at this
section
variable {X : Cx}
def rSortC (K : PySem.W.Frag) : List V → Hp → VK → Prop := fun vs H Q => ∃ (a : Addr) (qs : List Addr) (cs : List Cell), vs = [V.ref a] ∧ SqL K H a (qs.map V.ref) ∧ Paired (fun q c => At H q c) qs cs ∧ sortedK H cs Q
theorem sorted_end {H : Hp} {qs : List Addr} {cs : List Cell} {Q : VK} (pr : Paired (fun q c => At H q c) qs cs) (k : sortedK H cs Q) {ys : List V} {p : Addr} (hs : SrtO.Srtd (ltP (kC H)) ys) (hp : ys.Perm (qs.map V.ref)) (hn : H p = none) : Q (.ref p) (upd H p (.lst ys)) := by
  obtain ⟨qs', rfl, pm⟩ := refs_perm hp
  have al := paired_at pr
  refine k p qs' (qs'.map (cellAt H)) (paired_of fun q hq => al q (pm.mem_iff.mp hq)) ?_ ?_ hn
  · rw [paired_cells pr]
    exact pm.map _
  · unfold Asc
    rw [List.pairwise_map]
    refine (List.pairwise_map.mp hs).imp fun {a b} h => ?_
    rw [← lexB_cLt]
    exact h
theorem cr_sortedC : CallR X (.builtin "sorted") (rSortC X.K) := by
  intro pins s σ H vs us Q I r h
  obtain ⟨a, qs, cs, rfl, hs, pr, k⟩ := h
  refine cr_sortedPO pins s σ H _ us Q I r ⟨a, _, kC H, rfl, hs, fun x hx => ?_, fun ys p h1 h2 hn => sorted_end pr k h1 h2.perm hn⟩
  obtain ⟨q, hq, rfl⟩ := List.mem_map.mp hx
  exact ⟨q, rfl, paired_at pr q hq⟩
end
/-- sorted of whatever is collected to references of cells -/
theorem sorted_src {prog : Program} {w : World} {A : Around} {E : Value → Shared → Prop} {Q : Value → Shared → Prop} {s : Shared} {a : Addr} {k : Value → Int × Int}
    (hc : wpAny (model prog w) A.in1 (collect (.ref a)) (fun vs s1 => vs.length ≤ sizeLine ∧ (∀ v ∈ vs, Srt.IsPair s1.heap v (k v).1 (k v).2) ∧
      ∀ (h2 : Heap) (d : Addr) (out : List Value), SrtO.Srtd (fun v u => SrtO.lexB (k v) (k u)) out → out.Perm vs → (∀ b o, s1.heap.get? b = some o → h2.get? b = some o) → s1.heap.objs.size ≤ d → (∃ n, h2.get? d = some (seqObj "list" out.toArray n)) → Q (.ref d) { s1 with heap := h2 }) E s) :
    wpAny (model prog w) A (call (.builtin "sorted") [.ref a]) Q E s := by
  refine Calls.call_function_entry kind_sorted plain_sorted entry_sorted (args_sorted1 _) ?_
  unfold Builtin.«sorted»
  refine wpAny_bind (m := checkCount "sorted" 1 1 _) (wpAny_pure (wpAny_bind (wpAny_mono hc (fun vs s1 got => ?_) fun _ _ z => z)))
  obtain ⟨sz, ip, fin⟩ := got
  obtain ⟨hL, eL⟩ : ∃ hL : Heap, hL = s1.heap.push (seqObj "list" vs.toArray 0) := ⟨_, rfl⟩
  have at0 : hL.get? s1.heap.objs.size = some (seqObj "list" vs.toArray 0) := by rw [eL]; exact Heap.get?_push_size _ rfl
  have kp : ∀ b o, s1.heap.get? b = some o → hL.get? b = some o := fun b o e => by rw [eL]; exact Heap.get?_push_of_some _ e
  refine wpAny_bind (wpAny_newList ?_ sz)
  rw [← eL]
  refine wpAny_bind (wpAny_holding (wpAny_call_entry slot_list_sort ⟨_, at0, rfl⟩ entry_list_sort (SrtO.list_sort_ord (s := { s1 with heap := hL }) (SrtO.swo_lex k) at0 sz (fun two => ?_) fun out o1 o2 => ⟨_, rfl, ?_⟩) (args_list_sort _)))
  · refine SrtO.pairs_sortableO (by omega) (fun v hv => (ip v hv).keeps fun b o e _ => kp b o e) fun o e c => ?_
    have e2 : some o = some (seqObj "list" vs.toArray 0) := e.symm.trans at0
    cases e2
    exact absurd (Value.type.inj c) (by decide)
  · refine wpAny_pure ⟨_, rfl, fin _ _ out o1 o2.perm (fun b o e => ?_) (Nat.le_refl _) (sortedHeap_at at0)⟩
    have lt := Heap.lt_size e
    show (sortedHeap hL s1.heap.objs.size vs out.toArray).get? b = some o
    rw [sortedHeap_old (Nat.ne_of_lt lt) (by rw [eL, Heap.size_push]; exact Nat.lt_succ_of_lt lt)]
    exact kp b o e
end Sq

set_option Elab.async false
set_option linter.all false
set_option maxRecDepth 100000
set_option maxHeartbeats 4000000
/-! sorted of a set of cells, of a dict whose keys are cells. -/
namespace Sq
open PySem PySem.Spec PyProof.Rows L2
section
variable {X : Cx} {pins : List (Addr × Obj)} {σ : L2.St} {H : Hp} {s s1 : Shared}
/-- a new list of such values is laid behind a state that keeps all -/
theorem laid_list (I : Inv X pins σ H s) {h2 : Heap} {d : Addr} {out : List Value} {ys : List V} (k1 : ∀ b o, s.heap.get? b = some o → s1.heap.get? b = some o) (sz : s.heap.objs.size ≤ s1.heap.objs.size) (g : s1.gens = s.gens) (os : s1.os = s.os)
    (k2 : ∀ b o, s1.heap.get? b = some o → h2.get? b = some o) (hd : s1.heap.objs.size ≤ d) (hn : ∃ n, h2.get? d = some (seqObj "list" out.toArray n)) (rv : Vals ys out) (len : ys.length ≤ sizeLine) : Inv X pins σ (upd H d (.lst ys)) { s1 with heap := h2 } := by
  obtain ⟨c, hc⟩ := hn
  have kk : ∀ b o, s.heap.get? b = some o → h2.get? b = some o := fun b o e => k2 b o (k1 b o e)
  have hp : s.heap.objs.size ≤ d := Nat.le_trans sz hd
  exact I.call' (s' := { s1 with heap := h2 }) (ch := []) os (Un.laid kk hp (I.hok.fresh hp)) (I.hok.laid kk hp ⟨len, out, c, rv, hc⟩) (by show AllBare s1.gens; rw [g]; exact I.bare) (fun _ z => nomatch z)
/-- a cell's object in the true heap -/
theorem At.pair (I : Inv X pins σ H s) {q : Addr} {c : Cell} (h : At H q c) : Srt.IsPair s.heap (.ref q) c.1 c.2 := by
  obtain ⟨_, its2, r2, o, ho, hc, n, hd⟩ := I.hok _ _ h
  obtain ⟨u1, u2, rfl, ri, rj⟩ := vals2 r2
  obtain ⟨t1, rfl⟩ := ri
  obtain ⟨t2, rfl⟩ := rj
  exact ⟨q, o, t1, t2, n, rfl, ho, hc, hd⟩
/-- values that are refs, back -/
def kVal (H : Hp) : Value → Int × Int
  | .ref q => cellAt H q
  | _ => (0, 0)
theorem vals_perm {out : List Value} {qs : List Addr} (h : out.Perm (qs.map Value.ref)) : ∃ qs' : List Addr, out = qs'.map Value.ref ∧ qs'.Perm qs := by
  let un : Value → Addr := fun v => match v with | .ref a => a | _ => 0
  have e0 : (qs.map Value.ref).map un = qs := by
    rw [List.map_map]
    exact List.map_id' _
  refine ⟨out.map un, ?_, ?_⟩
  · rw [List.map_map]
    have all : ∀ y ∈ out, (Value.ref ∘ un) y = y := fun y hy => by
      obtain ⟨q, _, rfl⟩ := List.mem_map.mp (h.mem_iff.mp hy)
      rfl
    rw [List.map_congr_left all]
    exact (List.map_id' _).symm
  · have := h.map un
    rwa [e0] at this
/-- the end of a sorting of refs -/
theorem sort_fin (I : Inv X pins σ H s) {vs : List Value} {qs : List Addr} {cs : List Cell} {Q : VK} (pm : vs.Perm (qs.map Value.ref)) (pr : Paired (fun q c => At H q c) qs cs) (few : qs.length ≤ sizeLine) (k1 : ∀ b o, s.heap.get? b = some o → s1.heap.get? b = some o)
    (sz : s.heap.objs.size ≤ s1.heap.objs.size) (g : s1.gens = s.gens) (os : s1.os = s.os) (k : sortedK H cs Q) :
    vs.length ≤ sizeLine ∧ (∀ v ∈ vs, Srt.IsPair s1.heap v (kVal H v).1 (kVal H v).2) ∧
      ∀ (h2 : Heap) (d : Addr) (out : List Value), SrtO.Srtd (fun v u => SrtO.lexB (kVal H v) (kVal H u)) out → out.Perm vs → (∀ b o, s1.heap.get? b = some o → h2.get? b = some o) → s1.heap.objs.size ≤ d → (∃ n, h2.get? d = some (seqObj "list" out.toArray n)) →
        ∃ x H', Inv X pins σ H' { s1 with heap := h2 } ∧ RelV x (.ref d) ∧ Q x H' := by
  have al := paired_at pr
  refine ⟨by rw [pm.length_eq, List.length_map]; exact few, fun v hv => ?_, fun h2 d out o1 o2 k2 hd hn => ?_⟩
  · obtain ⟨q, hq, rfl⟩ := List.mem_map.mp (pm.mem_iff.mp hv)
    exact ((al q hq).pair I).keeps fun b o e _ => k1 b o e
  · obtain ⟨qs', rfl, pm'⟩ := vals_perm (o2.trans pm)
    have asc : Asc (qs'.map (cellAt H)) := by
      unfold Asc
      rw [List.pairwise_map]
      refine (List.pairwise_map.mp o1).imp fun {a b} h => ?_
      rw [← lexB_cLt]
      exact h
    refine ⟨.ref d, upd H d (.lst (qs'.map V.ref)), laid_list I k1 sz g os k2 hd hn (vals_refs qs') (by rw [List.length_map, pm'.length_eq]; exact few), rfl, ?_⟩
    refine k d qs' (qs'.map (cellAt H)) (paired_of fun q hq => al q (pm'.mem_iff.mp hq)) ?_ asc (I.hok.fresh (Nat.le_trans sz hd))
    rw [paired_cells pr]
    exact pm'.map _
/-- sorted of a set of cells -/
def rSortS (P : Program) (w : World) : List V → Hp → VK → Prop := fun vs H Q => ∃ (a : Addr) (L : List (Addr × List Int)) (cs : List Cell), vs = [V.ref a] ∧ H a = some (SetTO P w a L) ∧ Paired (fun p c => At H p.1 c ∧ p.2 = [c.1, c.2]) L cs ∧ (cs.Nodup → sortedK H cs Q)
theorem paired_imp0 {α β : Type} {F G : α → β → Prop} (k : ∀ a b, F a b → G a b) : ∀ {xs : List α} {ys : List β}, Paired F xs ys → Paired G xs ys
  | _, _, .nil => .nil
  | _, _, .cons h t => .cons (k _ _ h) (paired_imp0 k t)
theorem paired_map {α β γ : Type} {F : α → γ → Prop} (f : β → α) : ∀ {xs : List β} {ys : List γ}, Paired (fun b y => F (f b) y) xs ys → Paired F (xs.map f) ys
  | _, _, .nil => .nil
  | _, _, .cons h t => .cons h (paired_map f t)
theorem cr_sortedS (calm : X.calm = true) : CallR X (.builtin "sorted") (rSortS X.prog X.w) := by
  intro pins s σ H vs us Q I r h
  obtain ⟨a, L, cs, rfl, ha, pr, k⟩ := h
  have key : ∀ {L : List (Addr × List Int)} {cs : List Cell}, Paired (fun p c => At H p.1 c ∧ p.2 = [c.1, c.2]) L cs → ∀ p ∈ L, ∃ c, At H p.1 c ∧ p.2 = [c.1, c.2] := fun {L cs} pr => by
    induction pr with
    | nil => intro p hp; cases hp
    | cons h _ ih =>
      intro p hp
      rcases List.mem_cons.mp hp with e | e
      · rw [e]
        exact ⟨_, h⟩
      · exact ih p e
  have R0 : SetT0 X.prog X.w s.heap a L := (I.hok a _ ha).1
  obtain ⟨es, ep, t, R⟩ := R0.full fun p hp => I.isT (by
    obtain ⟨c, h1, h2⟩ := key pr p hp
    rw [h2]
    exact SqT.of h1)
  rw [Vals.ref1 r]
  obtain ⟨o, ho, hex, hd⟩ := R.ob
  have few := R.few
  have sz := R.size
  have nd : cs.Nodup := by
    have e : L.map (·.2) = cs.map fun c => [c.1, c.2] := by
      clear k ha R0 R sz few
      induction pr with
      | nil => rfl
      | cons h _ ih => rw [List.map_cons, List.map_cons, h.2, ih]
    have n := R.nd
    rw [e] at n
    exact nodup_of_map n
  refine sorted_src (k := kVal H) (collect_set (A := X.A.in1) (I.ok.hd calm) ⟨o, ho, hex.1, hd⟩ R.fits (by show es.size < 4096; omega) R.tab.ris R.led fun s1 vs k1 hz g1 o1 pm => ?_)
  have e2 : es.toList.map (·.2) = (L.map (·.1)).map Value.ref := by
    rw [R.rows]
    unfold rowsOf
    rw [List.map_map, List.map_map]
    rfl
  rw [e2] at pm
  exact sort_fin I pm (paired_map (fun p : Addr × List Int => p.1) (paired_imp0 (fun _ _ h => h.1) pr)) (by rw [List.length_map, sizeLine_eq]; omega) k1 hz g1 o1 (k nd)
end
end Sq

set_option Elab.async false
set_option linter.all false
set_option maxRecDepth 100000
set_option maxHeartbeats 4000000
/-! sorted of a list of data of any depth. -/
namespace Sq
open PySem PySem.Spec PyProof.Rows L2
section
variable {X : Cx}
end
end Sq

set_option Elab.async false
set_option linter.all false
set_option maxRecDepth 100000
set_option maxHeartbeats 4000000
/-! Comprehensions that make lists of cells. -/
namespace Sq
open PySem PySem.Spec PyProof.Rows L2
theorem filter_snoc {α : Type} (p : α → Bool) (xs : List α) (x : α) : (xs ++ [x]).filter p = xs.filter p ++ (if p x = true then [x] else []) := by
  rw [List.filter_append]
  by_cases h : p x = true
  · rw [if_pos h, List.filter_cons_of_pos h]
    rfl
  · rw [if_neg h, List.filter_cons_of_neg h]
    rfl
theorem paired_app {α β : Type} {F : α → β → Prop} {xs xs' : List α} {ys ys' : List β} (h : Paired F xs ys) (k : Paired F xs' ys') : Paired F (xs ++ xs') (ys ++ ys') := by
  induction h with
  | nil => exact k
  | cons a _ ih => exact .cons a ih
theorem lc_cells {J : It} {n : Nat} {Gd : Hp → Prop} {Y : Nat → Hp → V → Hp → Prop} (w : Walk J n Gd Y) {g : TG} {tt : TT} {te : TE} {vs : List Nat} {σ : L2.St} {H1 : Hp} {D : Addr} {Qd : Hp → Prop} (hD : H1 D = none) (res : Nat → List Cell) (r0 : res 0 = []) (hn : n ≤ 1000000)
    (hG : ∀ i G, i ≤ n → Same H1 G → Gd G)
    (hs : ∀ i x G G' (K1 : V → Hp → Prop) (K0 : Hp → Prop), i < n → Same H1 G → Y i G x G' → (∀ r c H4, Same G H4 → At H4 r c → res (i + 1) = res i ++ [c] → K1 (.ref r) H4) → (∀ H3, Same G H3 → res (i + 1) = res i → K0 H3) →
      g x (wipe σ vs) G' fun σ2 H2 => wipe σ2 vs = wipe σ vs ∧ tt σ2 H2 fun b H3 => if b = true then te σ2 H3 K1 else K0 H3)
    (hd : ∀ G rs, Same H1 G → G D = some (.lst (rs.map V.ref)) → Paired (fun q c => At G q c) rs (res n) → Qd G) :
    ∃ W : Nat → Nat → Hp → Prop, (∃ m, W 0 m (upd H1 D (.lst []))) ∧ ∀ i m H, W i m H →
      (J.stop i H ∧ Qd H) ∨ (J.go i H ∧ ∃ Nx : Hp → Prop, (∀ H', Nx H' → ∃ m', m' < m ∧ W (i + 1) m' H') ∧ ∀ x H', J.yld i H x H' → g x (wipe σ vs) H' fun σ2 H2 => wipe σ2 vs = wipe σ vs ∧ tt σ2 H2 fun b H3 =>
        if b = true then te σ2 H3 fun y H4 => ∃ acc, H4 D = some (.lst acc) ∧ acc.length < sizeLine ∧ Nx (upd H4 D (.lst (acc ++ [y]))) else Nx H3) := by
  refine lc_it w (fun i G => Same H1 G ∧ ∃ rs : List Addr, G D = some (.lst (rs.map V.ref)) ∧ rs.length ≤ i ∧ Paired (fun q c => At G q c) rs (res i)) ⟨?_, [], upd_same, Nat.le_refl _, by rw [r0]; exact .nil⟩ (fun i G hi p => hG i G hi p.1) ?_ ?_
  · exact same_put same_refl hD
  · rintro i x G G' hi ⟨sm, rs, gD, ln, pr⟩ y
    refine hs i x G G' _ _ hi sm y (fun r c H4 s4 a4 e => ?_) (fun H3 s3 e => ?_)
    · refine ⟨_, s4 _ _ gD, by rw [List.length_map, sizeLine_eq]; omega, same_put (sm.trans s4) hD, rs ++ [r], by rw [upd_same, List.map_append]; rfl, by rw [List.length_append]; exact Nat.succ_le_succ ln, ?_⟩
      have off : ∀ {q : Addr} {c : Cell}, At H4 q c → At (upd H4 D (.lst (rs.map V.ref ++ [V.ref r]))) q c := fun h => h.off (s4 _ _ gD) (by intro xs z; cases z)
      rw [e]
      exact (paired_imp0 (fun _ _ h => off (s4 _ _ h)) pr).snoc (off a4)
    · refine ⟨sm.trans s3, rs, s3 _ _ gD, Nat.le_succ_of_le ln, ?_⟩
      rw [e]
      exact paired_imp0 (fun _ _ h => s3 _ _ h) pr
  · rintro G ⟨sm, rs, gD, _, pr⟩
    exact hd G rs sm gD pr
end Sq

set_option Elab.async false
set_option linter.all false
set_option maxRecDepth 100000
set_option maxHeartbeats 4000000
/-! Data that can be compared: lists and tuples of such. -/
namespace Sq
open PySem PySem.Spec PyProof.Rows L2
/-- d can be laid, n deep at most -/
def Lay (n : Nat) (d : PyData) : Prop := d.canLay0 = true ∧ d.depth ≤ n
theorem lay_all {n : Nat} : ∀ {ds : List PyData}, (∀ d ∈ ds, Lay n d) → PyData.canLayAll0 ds = true ∧ PyData.depthAll ds ≤ n
  | [], _ => ⟨by first | rfl | simp [PyData.canLayAll0], Nat.zero_le _⟩
  | d :: ds, h => by
    obtain ⟨h1, h2⟩ := lay_all (ds := ds) fun e he => h e (List.mem_cons_of_mem _ he)
    obtain ⟨k1, k2⟩ := h d (List.mem_cons_self ..)
    refine ⟨?_, ?_⟩
    · rw [PyData.canLayAll0, k1, h1]
      rfl
    · rw [PyData.depthAll]
      exact Nat.max_le.mpr ⟨k2, h2⟩
theorem lay_list {n : Nat} {ds : List PyData} (h : ∀ d ∈ ds, Lay n d) : Lay (n + 1) (.list ds) := by
  obtain ⟨h1, h2⟩ := lay_all h
  refine ⟨by rw [PyData.canLay0]; exact h1, ?_⟩
  rw [PyData.depth]
  exact Nat.succ_le_succ h2
theorem lay_tuple {n : Nat} {ds : List PyData} (h : ∀ d ∈ ds, Lay n d) : Lay (n + 1) (.tuple ds) := by
  obtain ⟨h1, h2⟩ := lay_all h
  refine ⟨by rw [PyData.canLay0]; exact h1, ?_⟩
  rw [PyData.depth]
  exact Nat.succ_le_succ h2
theorem Lay.mono {n m : Nat} {d : PyData} (h : Lay n d) (k : n ≤ m) : Lay m d := ⟨h.1, Nat.le_trans h.2 k⟩
theorem Lay.shaped {n : Nat} {d : PyData} (h : Lay n d) (k : n ≤ 64) : SeqAt.shaped d = true := by
  unfold SeqAt.shaped
  rw [h.1, decide_eq_true (Nat.le_trans h.2 k)]
  rfl
theorem lay_int (i : Int) : Lay 0 (.int i) := ⟨by first | rfl | simp [PyData.canLay0], Nat.le_refl _⟩
end Sq

set_option Elab.async false
set_option linter.all false
set_option maxRecDepth 100000
set_option maxHeartbeats 4000000
/-! Several except clauses that all bind one name. -/
namespace Sq
open PySem PySem.Spec PyProof.Rows L2
abbrev Su := Addr → Value → Option Addr → TS
/-- the ends of a suite behind which the name at i goes -/
def gone (i : Nat) (D : Ends) : Ends := { nx := fun σ H => D.nx (σ.set i none) H, rt := D.rt, bk := fun σ H => D.bk (σ.set i none) H, ct := fun σ H => D.ct (σ.set i none) H }
section
variable {X : Cx} {body : List Stmt} {h0 : ExceptHandler} {hs : List ExceptHandler} {l : List (Value × Su)} {pos : Pos} {tb : WX → TS} {Wo : WX} {n : Str} {i : Nat}
end
end Sq

set_option Elab.async false
set_option linter.all false
set_option maxRecDepth 100000
set_option maxHeartbeats 4000000
/-! {k: v, l: u}, the keys of any kind; del d[k], the key a tuple that is there. -/
namespace Sq
open PySem PySem.Spec PyProof.Rows L2
def tDisp2 (o0 : HO) (tk tv tl tu : TE) : TE := fun σ H Q => ∀ p, H p = none → tk σ (upd H p o0) fun x H1 => tv σ H1 fun y H2 => tl σ H2 fun x' H3 => tu σ H3 fun y' H4 => ∃ H5 H6, DPut H4 p x y H5 ∧ DPut H5 p x' y' H6 ∧ Q (.ref p) H6
def twoPairs (q : V → V → V → V → Hp → Prop) : List (V × V) → Hp → Prop
  | [p, r], H => q p.1 p.2 r.1 r.2 H
  | _, _ => False
theorem twoPairs_of {q : V → V → V → V → Hp → Prop} {H : Hp} : ∀ {ps : List (V × V)}, twoPairs q ps H → ∃ x y x' y', ps = [(x, y), (x', y')] ∧ q x y x' y' H
  | [p, r], h => ⟨p.1, p.2, r.1, r.2, rfl, h⟩
theorem pe_disp2 {X : Cx} {o0 : HO} {k v l u : Expr} {pos : Pos} {tk tv tl tu : TE} (ho : o0 = .dK [] ∨ o0 = .dT []) (hu : X.A.units + 1 < cLine) (hk : PE X k tk) (hv : PE X v tv) (hl : PE X l tl) (hw : PE X u tu) : PE X (.Dict [some k, some l] [v, u] pos) (tDisp2 o0 tk tv tl tu) := by
  refine ⟨fun pins s σ H Q I h => ?_⟩
  have fresh := I.hok.fresh (Nat.le_refl s.heap.objs.size)
  have I1 : Inv X pins σ (upd H s.heap.objs.size o0) { s with heap := s.heap.push { cls := .type "dict", data := .dict #[] } } := by
    refine I.laid (t' := s.toks) (fun _ _ q => Heap.get?_push_of_some _ q) (Nat.le_refl _) ?_
    rcases ho with rfl | rfl
    · exact dk_empty s.heap I.big
    · exact dt_empty s.heap I.big
  refine wpAny_Dict_any rfl rfl (List.cons_ne_nil _ _) (by show 2 ≤ 15; decide) ?_
  refine thn ((pps_cons hk hv (pps_cons hl hw pps_nil)).run pins _ σ _ (twoPairs fun x y x' y' H4 => ∃ H5 H6, DPut H4 s.heap.objs.size x y H5 ∧ DPut H5 s.heap.objs.size x' y' H6 ∧ Q (.ref s.heap.objs.size) H6) I1 (h _ fresh)) fun vs z hz => ?_
  obtain ⟨ps, H2, I2, rel, q⟩ := hz
  obtain ⟨x, y, x', y', rfl, H5, H6, put, put', q⟩ := twoPairs_of q
  cases rel with
  | cons rr r0 =>
    cases r0 with
    | cons rs r1 =>
      cases r1
      unfold storeAll
      rw [List.forIn_cons]
      refine wpAny_bind (wpAny_bind (dc_put hu I2 put rr.1 rr.2 fun z' I3 => wpAny_pure ?_))
      show wpAny _ _ (forIn (_ :: _ : List (Value × Value)) PUnit.unit _) _ _ _
      rw [List.forIn_cons]
      refine wpAny_bind (wpAny_bind (dc_put hu I3 put' rs.1 rs.2 fun z' I4 => wpAny_pure ?_))
      show wpAny _ _ (forIn ([] : List (Value × Value)) PUnit.unit _) _ _ _
      rw [List.forIn_nil]
      exact wpAny_pure ⟨.ref s.heap.objs.size, H6, I4, rfl, q⟩
end Sq

set_option Elab.async false
set_option linter.all false
set_option maxRecDepth 100000
set_option maxHeartbeats 4000000
/-! The parts of a lot: what they are. -/
namespace Sq
/-- cells, each once, as a dict keeps them -/
def addC (L : List Cell) (c : Cell) : List Cell := if c ∈ L then L else L ++ [c]
def uniq (cs : List Cell) : List Cell := cs.foldl addC []
/-- the parts of cells, in their order -/
structure IsParts (cs : List Cell) (ps : List (List Cell)) : Prop where
  asc : ∀ p ∈ ps, Asc p ∧ p.Nodup ∧ p ≠ []
  cls : ∀ p ∈ ps, ∀ x ∈ p, x ∈ cs ∧ ∀ y, y ∈ p ↔ Reach cs x y
  cov : ∀ x ∈ cs, ∃ p ∈ ps, x ∈ p
  ord : ps.Pairwise fun p q => ∃ a b, p.head? = some a ∧ q.head? = some b ∧ cLt a b = true
end Sq

set_option Elab.async false
set_option linter.all false
set_option maxRecDepth 100000
set_option maxHeartbeats 4000000
/-! Growing blobs; dicts from cells to numbers. -/
namespace Sq
open PySem PySem.Spec PyProof.Rows L2
theorem Reach.mono {L M : List Cell} (h : ∀ x ∈ L, x ∈ M) {a b : Cell} (k : Reach L a b) : Reach M a b := by
  induction k with
  | refl => exact .refl
  | step _ hb hc ih => exact ih.step hb (h _ hc)
theorem hangs_snoc {A : List Cell} {a x : Cell} (h : Hangs A) (ha : a ∈ A) (hx : x ∈ besideC a) : Hangs (A ++ [x]) := by
  have m : a ∈ A ++ [x] := List.mem_append_left _ ha
  refine (hangs_from m).mpr fun b hb => ?_
  rcases List.mem_append.mp hb with k | k
  · exact (h.2 a ha b k).mono fun y hy => List.mem_append_left _ hy
  · rw [List.mem_singleton.mp k]
    exact Reach.refl.step hx (by simp)
theorem hangs_one (c : Cell) : Hangs [c] := ⟨by simp, fun a ha b hb => by rw [List.mem_singleton.mp ha, List.mem_singleton.mp hb]; exact .refl⟩
/-- a dict from these cells to numbers -/
structure IntD (kvs : List (List Key × V)) (Cs : List Cell) : Prop where
  keys : kvs.map (·.1) = Cs.map cK
  nums : ∀ kv ∈ kvs, ∃ i : Int, kv.2 = .int i
theorem IntD.get {kvs : List (List Key × V)} {Cs : List Cell} (h : IntD kvs Cs) (c : Cell) : (c ∈ Cs ∧ ∃ i : Int, valV kvs (cK c) = some (.int i)) ∨ (c ∉ Cs ∧ valV kvs (cK c) = none) := by
  obtain ⟨hk, hi⟩ := h
  induction kvs generalizing Cs with
  | nil =>
    cases Cs with
    | nil => exact .inr ⟨by simp, rfl⟩
    | cons d Cs => cases hk
  | cons kv kvs ih =>
    cases Cs with
    | nil => cases hk
    | cons d Cs =>
      rw [List.map_cons, List.map_cons] at hk
      injection hk with h1 h2
      by_cases e : d = c
      · subst e
        obtain ⟨i, ei⟩ := hi kv (List.mem_cons_self ..)
        refine .inl ⟨List.mem_cons_self .., i, ?_⟩
        rw [valV_pos h1, ei]
      · rw [valV_neg (by rw [h1]; exact fun z => e (cK_inj z))]
        rcases ih h2 (fun kv hkv => hi kv (List.mem_cons_of_mem _ hkv)) with ⟨m, r⟩ | ⟨m, r⟩
        · exact .inl ⟨List.mem_cons_of_mem _ m, r⟩
        · exact .inr ⟨fun z => (List.mem_cons.mp z).elim (fun q => e q.symm) m, r⟩
theorem IntD.put {kvs : List (List Key × V)} {Cs : List Cell} (h : IntD kvs Cs) (c : Cell) (j : Int) : IntD (putK kvs (cK c) (.int j)) (addC Cs c) := by
  have keyc : ∀ kv ∈ kvs, ∃ d ∈ Cs, kv.1 = cK d := fun kv hkv => by
    have : kv.1 ∈ Cs.map cK := by rw [← h.keys]; exact List.mem_map.mpr ⟨kv, hkv, rfl⟩
    obtain ⟨d, hd, e⟩ := List.mem_map.mp this
    exact ⟨d, hd, e.symm⟩
  unfold putK addC
  by_cases m : c ∈ Cs
  · have an : (kvs.any fun kv => decide (kv.1 = cK c)) = true := by
      have : cK c ∈ kvs.map (·.1) := by rw [h.keys]; exact List.mem_map.mpr ⟨c, m, rfl⟩
      obtain ⟨kv, hkv, e⟩ := List.mem_map.mp this
      exact List.any_eq_true.mpr ⟨kv, hkv, decide_eq_true e⟩
    rw [if_pos an, if_pos m]
    refine ⟨?_, fun kv hkv => ?_⟩
    · rw [List.map_map, ← h.keys]
      refine List.map_congr_left fun kv _ => ?_
      show (if kv.1 = cK c then (kv.1, V.int j) else kv).1 = kv.1
      split <;> rfl
    · obtain ⟨kv0, h0, e⟩ := List.mem_map.mp hkv
      rw [← e]
      by_cases q : kv0.1 = cK c
      · rw [if_pos q]
        exact ⟨j, rfl⟩
      · rw [if_neg q]
        exact h.nums kv0 h0
  · have an : ¬ (kvs.any fun kv => decide (kv.1 = cK c)) = true := fun z => by
      obtain ⟨kv, hkv, e⟩ := List.any_eq_true.mp z
      obtain ⟨d, hd, e2⟩ := keyc kv hkv
      rw [of_decide_eq_true e] at e2
      rw [cK_inj e2] at m
      exact m hd
    rw [if_neg an, if_neg m]
    refine ⟨by rw [List.map_append, List.map_append, h.keys]; rfl, fun kv hkv => ?_⟩
    rcases List.mem_append.mp hkv with q | q
    · exact h.nums kv q
    · rw [List.mem_singleton.mp q]
      exact ⟨j, rfl⟩
theorem IntD.len {kvs : List (List Key × V)} {Cs : List Cell} (h : IntD kvs Cs) : kvs.length = Cs.length := by
  have := congrArg List.length h.keys
  rwa [List.length_map, List.length_map] at this
end Sq

set_option Elab.async false
set_option linter.all false
set_option maxRecDepth 100000
set_option maxHeartbeats 4000000
/-! The mathematics of a search in depth: which cells can be taken away. -/
namespace Sq
abbrev TwigC : Type := Cell × Option Cell
/-- a is v, or lies on the way that led to v -/
inductive Anc (T : List TwigC) (a : Cell) : Cell → Prop where
  | refl : Anc T a a
  | step {y v : Cell} : Anc T a y → (v, some y) ∈ T → Anc T a v
theorem Anc.mono {T U : List TwigC} {a v : Cell} (h : Anc T a v) (k : ∀ x ∈ T, x ∈ U) : Anc U a v := by
  induction h with
  | refl => exact .refl
  | step _ m ih => exact ih.step (k _ m)
theorem Anc.trans {T : List TwigC} {a b c : Cell} (h : Anc T a b) (k : Anc T b c) : Anc T a c := by
  induction k with
  | refl => exact h
  | step _ m ih => exact ih.step m
abbrev keysT (T : List TwigC) : List Cell := T.map (·.1)
/-- what a search in depth leaves: each cell with the one that led to it; a cell's neighbours that were met ahead of it lie on its way -/
inductive DTree (L : List Cell) : List TwigC → Prop where
  | root {r : Cell} (h : r ∈ L) : DTree L [(r, none)]
  | snoc {T : List TwigC} {v y : Cell} (t : DTree L T) (hy : y ∈ keysT T) (hv : v ∈ L) (nv : v ∉ keysT T) (b : v ∈ besideC y) (anc : ∀ u ∈ keysT T, v ∈ besideC u → Anc T u y) : DTree L (T ++ [(v, some y)])
section
variable {L : List Cell} {T : List TwigC}
theorem keys_snoc {T : List TwigC} {v : Cell} {o : Option Cell} : keysT (T ++ [(v, o)]) = keysT T ++ [v] := by simp [keysT]
theorem DTree.nodup (h : DTree L T) : (keysT T).Nodup := by
  induction h with
  | root => simp [keysT]
  | snoc _ _ _ nv _ _ ih =>
    rw [keys_snoc, List.nodup_append]
    refine ⟨ih, by simp, fun a ha b hb e => ?_⟩
    rw [List.mem_singleton.mp hb] at e
    exact nv (e ▸ ha)
theorem DTree.sub (h : DTree L T) : ∀ v ∈ keysT T, v ∈ L := by
  induction h with
  | root h =>
    intro v hv
    simp [keysT] at hv
    exact hv ▸ h
  | snoc _ _ hv _ _ _ ih =>
    intro u hu
    rw [keys_snoc] at hu
    rcases List.mem_append.mp hu with m | m
    · exact ih u m
    · rw [List.mem_singleton.mp m]; exact hv
/-- the place of a cell -/
def numT (T : List TwigC) (v : Cell) : Nat := (keysT T).idxOf v
theorem num_lt {v : Cell} : numT T v < (keysT T).length ↔ v ∈ keysT T := List.idxOf_lt_length_iff
theorem num_inj {v u : Cell} (hv : v ∈ keysT T) (hu : u ∈ keysT T) (h : numT T v = numT T u) : v = u := by
  have e1 := List.getElem_idxOf (num_lt.mpr hv)
  have e2 := List.getElem_idxOf (num_lt.mpr hu)
  unfold numT at h
  rw [← e1, ← e2]
  congr 1
theorem num_old {v w : Cell} {o : Option Cell} (hv : v ∈ keysT T) : numT (T ++ [(w, o)]) v = numT T v := by
  unfold numT
  rw [keys_snoc, List.idxOf_append, if_pos hv]
theorem num_new {w : Cell} {o : Option Cell} (hw : w ∉ keysT T) : numT (T ++ [(w, o)]) w = (keysT T).length := by
  unfold numT
  rw [keys_snoc, List.idxOf_append, if_neg hw]
  simp
/-- a twig's cells -/
theorem DTree.twig (h : DTree L T) {v y : Cell} (m : (v, some y) ∈ T) : v ∈ keysT T ∧ y ∈ keysT T ∧ v ∈ besideC y ∧ numT T y < numT T v := by
  induction h with
  | root => simp at m
  | @snoc T v' y' t hy hv nv b anc ih =>
    rw [keys_snoc]
    rcases List.mem_append.mp m with m | m
    · obtain ⟨h1, h2, h3, h4⟩ := ih m
      exact ⟨List.mem_append_left _ h1, List.mem_append_left _ h2, h3, by rw [num_old h1, num_old h2]; exact h4⟩
    · have e := List.mem_singleton.mp m
      obtain ⟨rfl, e2⟩ := Prod.mk.inj e
      have e2 := Option.some.inj e2
      subst e2
      exact ⟨by simp, List.mem_append_left _ hy, b, by rw [num_old hy, num_new nv]; exact num_lt.mpr hy⟩
theorem DTree.uniq (h : DTree L T) {v : Cell} {o o' : Option Cell} (m : (v, o) ∈ T) (m' : (v, o') ∈ T) : o = o' := by
  have nd := h.nodup
  obtain ⟨i, hi, e1⟩ := List.mem_iff_getElem.mp m
  obtain ⟨j, hj, e2⟩ := List.mem_iff_getElem.mp m'
  have k1 : (keysT T)[i]'(by simpa [keysT] using hi) = v := by simp [keysT, e1]
  have k2 : (keysT T)[j]'(by simpa [keysT] using hj) = v := by simp [keysT, e2]
  have ij : i = j := (List.getElem_inj nd).mp (k1.trans k2.symm)
  subst ij
  rw [e1] at e2
  exact (Prod.mk.inj e2).2
theorem DTree.anc_num (h : DTree L T) {a v : Cell} (k : Anc T a v) : numT T a ≤ numT T v := by
  induction k with
  | refl => exact Nat.le_refl _
  | step _ m ih => exact Nat.le_trans ih (Nat.le_of_lt (h.twig m).2.2.2)
/-- two neighbours: the one that was met first lies on the other one's way -/
theorem DTree.edge (h : DTree L T) : ∀ {u w : Cell}, u ∈ keysT T → w ∈ keysT T → w ∈ besideC u → numT T u < numT T w → Anc T u w := by
  induction h with
  | root =>
    intro u w hu hw b _
    simp [keysT] at hu hw
    rw [hu, hw] at b
    exact absurd rfl (beside_ne b)
  | @snoc T v y t hy hv nv b anc ih =>
    intro u w hu hw bw lt
    have sub : ∀ x ∈ T, x ∈ T ++ [(v, some y)] := fun x hx => List.mem_append_left _ hx
    have hu2 : u ∈ keysT T ∨ u = v := by
      rw [keys_snoc] at hu
      exact (List.mem_append.mp hu).imp id List.mem_singleton.mp
    have hw2 : w ∈ keysT T ∨ w = v := by
      rw [keys_snoc] at hw
      exact (List.mem_append.mp hw).imp id List.mem_singleton.mp
    rcases hu2 with hu2 | rfl
    · rcases hw2 with hw2 | rfl
      · rw [num_old hu2, num_old hw2] at lt
        exact (ih hu2 hw2 bw lt).mono sub
      · exact ((anc u hu2 bw).mono sub).step (by simp)
    · rcases hw2 with hw2 | rfl
      · rw [num_old hw2, num_new nv] at lt
        exact absurd (num_lt.mpr hw2) (by omega)
      · omega
/-- the ways to one cell: one lies on the other -/
theorem DTree.chain (h : DTree L T) {a b v : Cell} (k : Anc T a v) (l : Anc T b v) : Anc T a b ∨ Anc T b a := by
  induction k with
  | refl => exact .inr l
  | @step y v k m ih =>
    cases l with
    | refl => exact .inl (k.step m)
    | @step y' _ l m' =>
      have e := Option.some.inj (h.uniq m m')
      subst e
      exact ih l
/-- below v, but not v: below one child of it -/
theorem DTree.child_of (h : DTree L T) {v x : Cell} (k : Anc T v x) : x = v ∨ ∃ c, (c, some v) ∈ T ∧ Anc T c x := by
  induction k with
  | refl => exact .inl rfl
  | @step y x k m ih =>
    rcases ih with rfl | ⟨c, mc, kc⟩
    · exact .inr ⟨x, m, .refl⟩
    · exact .inr ⟨c, mc, kc.step m⟩
/-- the root -/
theorem DTree.root_ex (h : DTree L T) : ∃ r T', T = (r, none) :: T' ∧ r ∈ L := by
  induction h with
  | @root r hr => exact ⟨r, [], rfl, hr⟩
  | snoc _ _ _ _ _ _ ih =>
    obtain ⟨r, T', rfl, hr⟩ := ih
    exact ⟨r, T' ++ _, rfl, hr⟩
theorem DTree.other (h : DTree L T) {r : Cell} (hr : (r, none) ∈ T) : ∀ v ∈ keysT T, v = r ∨ ∃ y, (v, some y) ∈ T := by
  induction h with
  | root =>
    intro v hv
    simp [keysT] at hv hr
    exact .inl (hv.trans hr.symm)
  | @snoc T w y t hy hw nw b anc ih =>
    have hr : (r, none) ∈ T := by
      rcases List.mem_append.mp hr with m | m
      · exact m
      · simp at m
    intro v hv
    rw [keys_snoc] at hv
    rcases List.mem_append.mp hv with m | m
    · rcases ih hr v m with e | ⟨z, hz⟩
      · exact .inl e
      · exact .inr ⟨z, List.mem_append_left _ hz⟩
    · exact .inr ⟨y, by rw [List.mem_singleton.mp m]; simp⟩
theorem DTree.from_root (h : DTree L T) {r : Cell} (hr : (r, none) ∈ T) : ∀ v ∈ keysT T, Anc T r v := by
  have key : ∀ n v, numT T v ≤ n → v ∈ keysT T → Anc T r v := by
    intro n
    induction n with
    | zero =>
      intro v hn hv
      rcases h.other hr v hv with e | ⟨y, m⟩
      · rw [e]; exact .refl
      · have := (h.twig m).2.2.2
        omega
    | succ n ih =>
      intro v hn hv
      rcases h.other hr v hv with e | ⟨y, m⟩
      · rw [e]; exact .refl
      · have t := h.twig m
        exact (ih y (by omega) t.2.1).step m
  exact fun v hv => key _ v (Nat.le_refl _) hv
end
end Sq

set_option Elab.async false
set_option linter.all false
set_option maxRecDepth 100000
set_option maxHeartbeats 4000000
/-! A search in depth tells which cells can be taken away: the least numbers that are met. -/
namespace Sq
/-- what low tells -/
structure LowOk (L : List Cell) (T : List TwigC) (low : Cell → Nat) : Prop where
  le : ∀ v ∈ keysT T, ∀ w ∈ L, w ∈ besideC v → low v ≤ if (w, some v) ∈ T then low w else numT T w
  at_ : ∀ v ∈ keysT T, low v = numT T v ∨ ∃ w ∈ L, w ∈ besideC v ∧ low v = if (w, some v) ∈ T then low w else numT T w
section
variable {L : List Cell} {T : List TwigC} {low : Cell → Nat}
theorem LowOk.anc (lo : LowOk L T low) (h : DTree L T) {a v : Cell} (k : Anc T a v) : low a ≤ low v := by
  induction k with
  | refl => exact Nat.le_refl _
  | @step y v k m ih =>
    have t := h.twig m
    have := lo.le y t.2.1 v (h.sub v t.1) t.2.2.1
    rw [if_pos m] at this
    exact Nat.le_trans ih this
theorem LowOk.all (lo : LowOk L T low) (h : DTree L T) {c d w : Cell} (k : Anc T c d) (hd : d ∈ keysT T) (hw : w ∈ L) (b : w ∈ besideC d) (n : (w, some d) ∉ T) : low c ≤ numT T w := by
  have := lo.le d hd w hw b
  rw [if_neg n] at this
  exact Nat.le_trans (lo.anc h k) this
theorem LowOk.met (lo : LowOk L T low) (h : DTree L T) : ∀ c ∈ keysT T, low c = numT T c ∨ ∃ d w, Anc T c d ∧ d ∈ keysT T ∧ w ∈ L ∧ w ∈ besideC d ∧ low c = numT T w := by
  have key : ∀ n c, (keysT T).length - numT T c ≤ n → c ∈ keysT T → low c = numT T c ∨ ∃ d w, Anc T c d ∧ d ∈ keysT T ∧ w ∈ L ∧ w ∈ besideC d ∧ low c = numT T w := by
    intro n
    induction n with
    | zero =>
      intro c hn hc
      have := num_lt.mpr hc
      omega
    | succ n ih =>
      intro c hn hc
      rcases lo.at_ c hc with e | ⟨w, hw, b, e⟩
      · exact .inl e
      · by_cases m : (w, some c) ∈ T
        · rw [if_pos m] at e
          have t := h.twig m
          have l1 := num_lt.mpr hc
          have l2 := num_lt.mpr t.1
          rcases ih w (by omega) t.1 with e2 | ⟨d, z, k, hd, hz, bz, e2⟩
          · exact .inr ⟨c, w, .refl, hc, hw, b, e.trans e2⟩
          · exact .inr ⟨d, z, (Anc.refl.step m).trans k, hd, hz, bz, e.trans e2⟩
        · rw [if_neg m] at e
          exact .inr ⟨c, w, .refl, hc, hw, b, e⟩
  exact fun c hc => key _ c (Nat.le_refl _) hc
/-- a child meets nothing ahead of its parent, just if its number is the parent's -/
theorem LowOk.child (lo : LowOk L T low) (h : DTree L T) {c v : Cell} (m : (c, some v) ∈ T) : low c = numT T v ↔ ∀ d w, Anc T c d → d ∈ keysT T → w ∈ L → w ∈ besideC d → numT T v ≤ numT T w := by
  have t := h.twig m
  have up : low c ≤ numT T v := lo.all h .refl t.1 (h.sub v t.2.1) (beside_symm t.2.2.1) fun z => by
    have := (h.twig z).2.2.2
    omega
  constructor
  · intro e d w k hd hw b
    by_cases z : (w, some d) ∈ T
    · have h1 := (h.twig z).2.2.2
      have h2 := h.anc_num k
      omega
    · have := lo.all h k hd hw b z
      omega
  · intro all
    rcases lo.met h c t.1 with e | ⟨d, w, k, hd, hw, b, e⟩
    · omega
    · have := all d w k hd hw b
      omega
/-- all but v -/
abbrev but (L : List Cell) (v : Cell) : List Cell := L.filter fun d => decide (d ≠ v)
theorem mem_but {L : List Cell} {v x : Cell} : x ∈ but L v ↔ x ∈ L ∧ x ≠ v := by simp [but]
theorem DTree.down (h : DTree L T) {c v : Cell} (m : (c, some v) ∈ T) {d : Cell} (k : Anc T c d) : Reach (but L v) c d := by
  induction k with
  | refl => exact .refl
  | @step y x k mx ih =>
    have t := h.twig mx
    have n1 := h.anc_num k
    have n2 := (h.twig m).2.2.2
    exact ih.step t.2.2.1 (mem_but.mpr ⟨h.sub x t.1, fun e => by rw [e] at t; omega⟩)
theorem DTree.out (h : DTree L T) {r v x : Cell} (k : Anc T r x) (n : ¬ Anc T v x) : Reach (but L v) r x := by
  induction k with
  | refl => exact .refl
  | @step y x k m ih =>
    have t := h.twig m
    exact (ih fun z => n (z.step m)).step t.2.2.1 (mem_but.mpr ⟨h.sub x t.1, fun e => n (by rw [e]; exact .refl)⟩)
theorem LowOk.closed (lo : LowOk L T low) (h : DTree L T) (span : ∀ x ∈ L, x ∈ keysT T) {c v x : Cell} (m : (c, some v) ∈ T) (e : low c = numT T v) (k : Reach (but L v) c x) : Anc T c x := by
  have all := (lo.child h m).mp e
  have t := h.twig m
  induction k with
  | refl => exact .refl
  | @step d w k b hw ih =>
    obtain ⟨wL, wv⟩ := mem_but.mp hw
    have hd : d ∈ keysT T := by
      cases k with
      | refl => exact t.1
      | step _ _ z => exact span _ (mem_but.mp z).1
    have hwk := span w wL
    have ge := all d w ih hd wL b
    rcases Nat.lt_trichotomy (numT T d) (numT T w) with lt | eq | lt
    · exact ih.trans (h.edge hd hwk b lt)
    · exact absurd (num_inj hd hwk eq).symm (beside_ne b)
    · have a := h.edge hwk hd (beside_symm b) lt
      rcases h.chain ih a with z | z
      · exact z
      · cases z with
        | refl => exact .refl
        | @step y _ z mz =>
          have ev := Option.some.inj (h.uniq mz m)
          subst ev
          have := h.anc_num z
          exact absurd (num_inj hwk t.2.1 (by omega)) wv
end
end Sq

set_option Elab.async false
set_option linter.all false
set_option maxRecDepth 100000
set_option maxHeartbeats 4000000
/-! The steps of a search in depth. -/
namespace Sq
/-- what lies ahead: neighbours of cells that were met, each on the way of the ones above it -/
inductive StkOk (L : List Cell) : List TwigC → List TwigC → Prop where
  | start {m : Cell} (h : m ∈ L) : StkOk L [] [(m, none)]
  | go {T S : List TwigC} (t : DTree L T) (ent : ∀ a ∈ S, ∃ y, a.2 = some y ∧ y ∈ keysT T ∧ a.1 ∈ L ∧ a.1 ∈ besideC y) (ch : S.Pairwise fun a b => ∀ y z, a.2 = some y → b.2 = some z → Anc T y z)
      (all : ∀ u ∈ keysT T, ∀ w ∈ L, w ∈ besideC u → w ∉ keysT T → (w, some u) ∈ S) : StkOk L T S
def nextC (L : List Cell) (T : List TwigC) (x : Cell) : List Cell := ((besideC x).filter fun w => decide (w ∈ L)).filter fun w => decide (w ∉ keysT T)
section
variable {L : List Cell} {T S : List TwigC} {x : Cell} {o : Option Cell}
theorem StkOk.skip (h : StkOk L T (S ++ [(x, o)])) (hx : x ∈ keysT T) : StkOk L T S := by
  generalize e : S ++ [(x, o)] = S2 at h
  cases h with
  | start => cases hx
  | go t ent ch all =>
    subst e
    refine .go t (fun a ha => ent a (List.mem_append_left _ ha)) (List.pairwise_append.mp ch).1 fun u hu w hw b nw => ?_
    rcases List.mem_append.mp (all u hu w hw b nw) with m | m
    · exact m
    · have e := (Prod.mk.inj (List.mem_singleton.mp m)).1
      exact absurd (e ▸ hx) nw
theorem StkOk.tree (h : StkOk L T (S ++ [(x, o)])) (nx : x ∉ keysT T) : DTree L (T ++ [(x, o)]) := by
  generalize e : S ++ [(x, o)] = S2 at h
  cases h with
  | @start m hm =>
    have e2 : S = [] ∧ (x, o) = (m, none) := by
      cases S with
      | nil => exact ⟨rfl, (List.cons.inj e).1⟩
      | cons a S =>
        have := congrArg List.length e
        simp at this
    obtain ⟨_, e3⟩ := e2
    obtain ⟨rfl, rfl⟩ := Prod.mk.inj e3
    exact .root hm
  | go t ent ch all =>
    subst e
    obtain ⟨y, ey, hy, hx, b⟩ := ent (x, o) (by simp)
    have ey : o = some y := ey
    subst ey
    refine .snoc t hy hx nx b fun u hu bu => ?_
    rcases List.mem_append.mp (all u hu x hx bu nx) with m | m
    · exact (List.pairwise_append.mp ch).2.2 _ m _ (List.mem_singleton.mpr rfl) u y rfl rfl
    · have e := Option.some.inj (Prod.mk.inj (List.mem_singleton.mp m)).2
      rw [e]
      exact .refl
theorem StkOk.visit (h : StkOk L T (S ++ [(x, o)])) (nx : x ∉ keysT T) : StkOk L (T ++ [(x, o)]) (S ++ (nextC L (T ++ [(x, o)]) x).map fun w => (w, some x)) := by
  have tr := h.tree nx
  have mem : ∀ w, w ∈ nextC L (T ++ [(x, o)]) x ↔ w ∈ besideC x ∧ w ∈ L ∧ w ∉ keysT (T ++ [(x, o)]) := fun w => by
    unfold nextC
    rw [List.mem_filter, List.mem_filter, decide_eq_true_iff, decide_eq_true_iff, and_assoc]
  have xk : x ∈ keysT (T ++ [(x, o)]) := by rw [keys_snoc]; simp
  have fresh : ∀ a ∈ (nextC L (T ++ [(x, o)]) x).map fun w => ((w, some x) : TwigC), ∃ y, a.2 = some y ∧ y ∈ keysT (T ++ [(x, o)]) ∧ a.1 ∈ L ∧ a.1 ∈ besideC y := fun a ha => by
    obtain ⟨w, hw, rfl⟩ := List.mem_map.mp ha
    obtain ⟨b, l, _⟩ := (mem w).mp hw
    exact ⟨x, rfl, xk, l, b⟩
  have self : ((nextC L (T ++ [(x, o)]) x).map fun w => ((w, some x) : TwigC)).Pairwise fun a b => ∀ y z, a.2 = some y → b.2 = some z → Anc (T ++ [(x, o)]) y z := by
    refine List.pairwise_iff_forall_sublist.mpr fun {a b} sub y z e1 e2 => ?_
    have ha := sub.subset (List.mem_cons_self ..)
    have hb := sub.subset (List.mem_cons_of_mem _ (List.mem_cons_self ..))
    obtain ⟨w, _, rfl⟩ := List.mem_map.mp ha
    obtain ⟨w2, _, rfl⟩ := List.mem_map.mp hb
    rw [← Option.some.inj e1, ← Option.some.inj e2]
    exact .refl
  have own : ∀ w ∈ L, w ∈ besideC x → w ∉ keysT (T ++ [(x, o)]) → ((w, some x) : TwigC) ∈ (nextC L (T ++ [(x, o)]) x).map fun w => (w, some x) := fun w hw b nw => List.mem_map.mpr ⟨w, (mem w).mpr ⟨b, hw, nw⟩, rfl⟩
  generalize e : S ++ [(x, o)] = S2 at h
  cases h with
  | @start m hm =>
    have e2 : S = [] := by
      cases S with
      | nil => rfl
      | cons a S =>
        have := congrArg List.length e
        simp at this
    subst e2
    refine .go tr fresh self fun u hu w hw b nw => ?_
    rw [keys_snoc] at hu
    have e3 : u = x := by simpa [keysT] using hu
    subst e3
    exact own w hw b nw
  | go t ent ch all =>
    subst e
    obtain ⟨y, ey, hy, hx, b⟩ := ent (x, o) (by simp)
    have ey : o = some y := ey
    subst ey
    have sub : ∀ z ∈ T, z ∈ T ++ [((x, some y) : TwigC)] := fun z hz => List.mem_append_left _ hz
    refine .go tr (fun a ha => ?_) ?_ fun u hu w hw bw nw => ?_
    · rcases List.mem_append.mp ha with m | m
      · obtain ⟨z, e1, e2, e3, e4⟩ := ent a (List.mem_append_left _ m)
        exact ⟨z, e1, by rw [keys_snoc]; exact List.mem_append_left _ e2, e3, e4⟩
      · exact fresh a m
    · refine List.pairwise_append.mpr ⟨(List.pairwise_append.mp ch).1.imp fun r y z e1 e2 => (r y z e1 e2).mono sub, self, fun a ha b hb u z e1 e2 => ?_⟩
      obtain ⟨w, _, rfl⟩ := List.mem_map.mp hb
      rw [← Option.some.inj e2]
      exact (((List.pairwise_append.mp ch).2.2 a ha _ (List.mem_singleton.mpr rfl) u y e1 rfl).mono sub).step (by simp)
    · rw [keys_snoc] at hu
      rcases List.mem_append.mp hu with m | m
      · have nT : w ∉ keysT T := fun z => nw (by rw [keys_snoc]; exact List.mem_append_left _ z)
        rcases List.mem_append.mp (all u m w hw bw nT) with k | k
        · exact List.mem_append_left _ k
        · have e := (Prod.mk.inj (List.mem_singleton.mp k)).1
          exact absurd (by rw [keys_snoc, e]; simp) nw
      · rw [List.mem_singleton.mp m] at bw ⊢
        exact List.mem_append_right _ (own w hw bw nw)
theorem StkOk.fin (h : StkOk L T []) (hL : Hangs L) : DTree L T ∧ ∀ x ∈ L, x ∈ keysT T := by
  cases h with
  | go t ent ch all =>
    refine ⟨t, fun x hx => ?_⟩
    obtain ⟨r, T', e, rL⟩ := t.root_ex
    have rk : r ∈ keysT T := by rw [e]; simp [keysT]
    have k := hL.2 r rL x hx
    induction k with
    | refl => exact rk
    | @step b c k hb hc ih =>
      have bk := ih (by
        cases k with
        | refl => exact rL
        | step _ _ z => exact z)
      by_cases z : c ∈ keysT T
      · exact z
      · exact absurd (all b bk c hc hb z) (by simp)
theorem StkOk.keys (h : StkOk L T S) : (keysT T).Nodup ∧ ∀ v ∈ keysT T, v ∈ L := by
  cases h with
  | start => exact ⟨List.nodup_nil, fun v hv => nomatch hv⟩
  | go t _ _ _ => exact ⟨t.nodup, t.sub⟩
end
end Sq

set_option Elab.async false
set_option linter.all false
set_option maxRecDepth 100000
set_option maxHeartbeats 4000000
/-! Two squares or more: two free ones. -/
namespace Sq
theorem tree_ex {L : List Cell} (hL : Hangs L) : ∃ T, DTree L T ∧ ∀ x ∈ L, x ∈ keysT T := by
  have key : ∀ n T S, StkOk L T S → S.length + 5 * (L.length - T.length) ≤ n → ∃ T, DTree L T ∧ ∀ x ∈ L, x ∈ keysT T := by
    intro n
    induction n with
    | zero =>
      intro T S h l
      have e : S = [] := List.length_eq_zero_iff.mp (by omega)
      subst e
      exact ⟨T, h.fin hL⟩
    | succ n ih =>
      intro T S h l
      rcases List.eq_nil_or_concat S with e | ⟨S', x, e⟩
      · subst e
        exact ⟨T, h.fin hL⟩
      · rw [List.concat_eq_append] at e
        subst e
        obtain ⟨c, o⟩ := x
        rw [List.length_append] at l
        by_cases m : c ∈ keysT T
        · exact ih T S' (h.skip m) (by simp only [List.length_cons, List.length_nil] at l; omega)
        · have tr := h.tree m
          have l2 : T.length + 1 ≤ L.length := by
            have := len_le tr.nodup tr.sub
            simpa [keysT] using this
          have l4 : (nextC L (T ++ [(c, o)]) c).length ≤ 4 := Nat.le_trans (List.length_filter_le _ _) (List.length_filter_le _ _)
          refine ih _ _ (h.visit m) ?_
          rw [List.length_append, List.length_map, List.length_append]
          simp only [List.length_cons, List.length_nil] at l ⊢
          omega
  obtain ⟨m, hm⟩ := List.exists_mem_of_ne_nil _ hL.1
  exact key _ [] _ (.start hm) (Nat.le_refl _)
section
variable {L : List Cell} {T : List TwigC}
/-- the last one below c has no child -/
theorem DTree.leaf (h : DTree L T) {c : Cell} (hc : c ∈ keysT T) : ∃ x ∈ keysT T, Anc T c x ∧ ∀ z, (z, some x) ∉ T := by
  have key : ∀ n x, (keysT T).length - numT T x ≤ n → x ∈ keysT T → Anc T c x → ∃ x ∈ keysT T, Anc T c x ∧ ∀ z, (z, some x) ∉ T := by
    intro n
    induction n with
    | zero =>
      intro x l hx _
      have := num_lt.mpr hx
      omega
    | succ n ih =>
      intro x l hx k
      by_cases e : ∃ z, (z, some x) ∈ T
      · obtain ⟨z, m⟩ := e
        have t := h.twig m
        exact ih z (by omega) t.1 (k.step m)
      · exact ⟨x, hx, k, fun z m => e ⟨z, m⟩⟩
  exact key _ c (Nat.le_refl _) hc .refl
theorem DTree.leaf_free (h : DTree L T) (span : ∀ x ∈ L, x ∈ keysT T) {r x : Cell} (hr : (r, none) ∈ T) (rL : r ∈ L) (ne : x ≠ r) (no : ∀ z, (z, some x) ∉ T) : Hangs (but L x) := by
  refine (hangs_from (mem_but.mpr ⟨rL, fun e => ne e.symm⟩)).mpr fun b hb => ?_
  obtain ⟨bL, bx⟩ := mem_but.mp hb
  refine h.out (h.from_root hr b (span b bL)) fun k => ?_
  rcases h.child_of k with e | ⟨c, m, _⟩
  · exact bx e
  · exact no c m
theorem two_free (nL : L.Nodup) (hL : Hangs L) (l : 1 < L.length) : ∃ a b, a ∈ L ∧ b ∈ L ∧ a ≠ b ∧ Hangs (but L a) ∧ Hangs (but L b) := by
  obtain ⟨T, h, span⟩ := tree_ex hL
  obtain ⟨r, T', e, rL⟩ := h.root_ex
  have hr : (r, none) ∈ T := by rw [e]; exact List.mem_cons_self ..
  have ex : ∃ u ∈ L, u ≠ r := Classical.byContradiction fun z => by
    have := len_le nL (ys := [r]) fun x hx => List.mem_singleton.mpr (Classical.byContradiction fun e => z ⟨x, hx, e⟩)
    simp at this
    omega
  obtain ⟨u, hu, ur⟩ := ex
  have child : ∀ x ∈ L, x ≠ r → ∃ c, (c, some r) ∈ T ∧ Anc T c x := fun x hx ne => (h.child_of (h.from_root hr x (span x hx))).resolve_left ne
  obtain ⟨c, m, _⟩ := child u hu ur
  have below : ∀ {c x : Cell}, (c, some r) ∈ T → Anc T c x → x ≠ r := fun {c x} m k e => by
    have h1 := h.anc_num k
    have h2 := (h.twig m).2.2.2
    rw [e] at h1
    omega
  obtain ⟨x, hx, kx, nox⟩ := h.leaf (h.twig m).1
  have xr := below m kx
  have fx := h.leaf_free span hr rL xr nox
  by_cases one : ∀ c', (c', some r) ∈ T → c' = c
  · refine ⟨r, x, rL, h.sub x hx, xr.symm, ?_, fx⟩
    have cM : c ∈ but L r := mem_but.mpr ⟨h.sub c (h.twig m).1, below m .refl⟩
    refine (hangs_from cM).mpr fun b hb => ?_
    obtain ⟨bL, br⟩ := mem_but.mp hb
    obtain ⟨c', m', k⟩ := child b bL br
    rw [one c' m'] at k
    exact h.down m k
  · obtain ⟨c', hc'⟩ := Classical.not_forall.mp one
    obtain ⟨m', ne⟩ := Classical.not_imp.mp hc'
    obtain ⟨y, hy, ky, noy⟩ := h.leaf (h.twig m').1
    have yr := below m' ky
    have off : ∀ {a b : Cell}, (a, some r) ∈ T → (b, some r) ∈ T → Anc T a b → a = b := fun {a b} ma mb k => by
      cases k with
      | refl => rfl
      | @step z _ k mk =>
        have ev := Option.some.inj (h.uniq mk mb)
        subst ev
        have h1 := h.anc_num k
        have h2 := (h.twig ma).2.2.2
        omega
    refine ⟨x, y, h.sub x hx, h.sub y hy, fun e => ?_, fx, h.leaf_free span hr rL yr noy⟩
    subst e
    rcases h.chain kx ky with k | k
    · exact ne (off m m' k).symm
    · exact ne (off m' m k)
end
end Sq

set_option Elab.async false
set_option linter.all false
set_option maxRecDepth 100000
set_option maxHeartbeats 4000000
/-! Hanging together without a square, by its neighbours. -/
namespace Sq
open PySem PySem.Spec PyProof.Rows L2
/-- the others hang together just if all neighbours come to one of them -/
theorem rest_hangs {L : List Cell} (hL : Hangs L) {c a : Cell} (hc : c ∈ L) (ha : a ∈ L) (ac : a ∈ besideC c) : Hangs (but L c) ↔ ∀ x ∈ L, x ∈ besideC c → Reach (but L c) a x := by
  have am : a ∈ but L c := mem_but.mpr ⟨ha, beside_ne ac⟩
  constructor
  · intro h x hx hb
    exact h.2 a am x (mem_but.mpr ⟨hx, beside_ne hb⟩)
  · intro h
    refine (hangs_from am).mpr fun b hb => ?_
    obtain ⟨bL, bc⟩ := mem_but.mp hb
    have key : ∀ b, Reach L c b → b = c ∨ Reach (but L c) a b := fun b r => by
      induction r with
      | refl => exact .inl rfl
      | @step b x _ hx xL ih =>
        by_cases e : x = c
        · exact .inl e
        · rcases ih with rfl | ih
          · exact .inr (h x xL hx)
          · exact .inr (ih.step hx (mem_but.mpr ⟨xL, e⟩))
    rcases key b (hL.2 c hc b bL) with e | r
    · exact absurd e bc
    · exact r
/-- a square of more has a neighbour -/
theorem near_ex {L : List Cell} (hL : Hangs L) {c d : Cell} (hc : c ∈ L) (hd : d ∈ L) (ne : d ≠ c) : ∃ a ∈ L, a ∈ besideC c := by
  have r := hL.2 d hd c hc
  cases r with
  | refl => exact absurd rfl ne
  | @step b x h hx _ => exact ⟨b, h.mem hd, beside_symm hx⟩
theorem bes {a b c d : Int} (h : (a = c - 1 ∧ b = d) ∨ (a = c ∧ b = d - 1) ∨ (a = c + 1 ∧ b = d) ∨ (a = c ∧ b = d + 1)) : (a, b) ∈ besideC (c, d) := beside_iff.mpr h
def crossL : List Cell := [(-1, -1), (1, -1), (1, 1), (-1, 1)]
/-- the cell crosswise from c lies in L between two neighbours of c -/
def linkB (L : List Cell) (c d : Cell) : Bool := decide ((c.1 + d.1, c.2 + d.2) ∈ L) && (decide ((c.1 + d.1, c.2) ∈ L) && decide ((c.1, c.2 + d.2) ∈ L))
def linksN (L : List Cell) (c : Cell) : Nat := (crossL.filter (linkB L c)).length
def b2n (b : Bool) : Nat := if b = true then 1 else 0
theorem ring4 : ∀ p0 p1 p2 p3 l0 l1 l2 l3 : Bool, (!l0 || (p0 && p1)) && (!l1 || (p1 && p2)) && (!l2 || (p2 && p3)) && (!l3 || (p3 && p0)) = true → 2 ≤ b2n p0 + b2n p1 + b2n p2 + b2n p3 → b2n p0 + b2n p1 + b2n p2 + b2n p3 ≤ b2n l0 + b2n l1 + b2n l2 + b2n l3 + 1 →
    ((p0 && p1) = true → (l0 || (l1 && l2 && l3)) = true) ∧ ((p1 && p2) = true → (l1 || (l2 && l3 && l0)) = true) ∧ ((p2 && p3) = true → (l2 || (l3 && l0 && l1)) = true) ∧ ((p3 && p0) = true → (l3 || (l0 && l1 && l2)) = true) ∧ ((p0 && p2) = true → ((l0 && l1) || (l2 && l3)) = true) ∧ ((p1 && p3) = true → ((l1 && l2) || (l3 && l0)) = true) := by decide +kernel
theorem filt4 {p : Cell → Bool} {a b c d : Cell} : ([a, b, c, d].filter p).length = b2n (p a) + b2n (p b) + b2n (p c) + b2n (p d) := by
  simp only [List.filter_cons, List.filter_nil, b2n]
  cases p a <;> cases p b <;> cases p c <;> cases p d <;> rfl
theorem links_reach {L : List Cell} {c : Cell} (h2 : 2 ≤ ((besideC c).filter fun d => decide (d ∈ L)).length) (hl : ((besideC c).filter fun d => decide (d ∈ L)).length ≤ linksN L c + 1) :
    ∀ x ∈ L, x ∈ besideC c → ∀ y ∈ L, y ∈ besideC c → Reach (but L c) x y := by
  obtain ⟨c1, c2⟩ := c
  have W : ∀ {x y : Cell}, x ∈ L → x ≠ (c1, c2) → y ∈ L → y ≠ (c1, c2) → ∀ z ∈ L, z ≠ (c1, c2) → z ∈ besideC x → y ∈ besideC z → Reach (but L (c1, c2)) x y := fun {x y} _ _ yL yn z zL zn h k => (Reach.step .refl h (mem_but.mpr ⟨zL, zn⟩)).step k (mem_but.mpr ⟨yL, yn⟩)
  have neq : ∀ {a b : Int}, (a, b) ≠ (c1, c2) ↔ a ≠ c1 ∨ b ≠ c2 := fun {a b} => by rw [Ne, Prod.mk.injEq]; omega
  have L0 : linkB L (c1, c2) (-1, -1) = true → Reach (but L (c1, c2)) (c1 - 1, c2) (c1, c2 - 1) := fun h => by
    simp only [linkB, Bool.and_eq_true, decide_eq_true_eq] at h
    obtain ⟨h1, h2, h3⟩ := h
    refine W h2 (neq.mpr (by omega)) h3 (neq.mpr (by omega)) _ h1 (neq.mpr (by omega)) (bes (by omega)) (bes (by omega))
  have L1 : linkB L (c1, c2) (1, -1) = true → Reach (but L (c1, c2)) (c1, c2 - 1) (c1 + 1, c2) := fun h => by
    simp only [linkB, Bool.and_eq_true, decide_eq_true_eq] at h
    obtain ⟨h1, h2, h3⟩ := h
    refine W h3 (neq.mpr (by omega)) h2 (neq.mpr (by omega)) _ h1 (neq.mpr (by omega)) (bes (by omega)) (bes (by omega))
  have L2 : linkB L (c1, c2) (1, 1) = true → Reach (but L (c1, c2)) (c1 + 1, c2) (c1, c2 + 1) := fun h => by
    simp only [linkB, Bool.and_eq_true, decide_eq_true_eq] at h
    obtain ⟨h1, h2, h3⟩ := h
    refine W h2 (neq.mpr (by omega)) h3 (neq.mpr (by omega)) _ h1 (neq.mpr (by omega)) (bes (by omega)) (bes (by omega))
  have L3 : linkB L (c1, c2) (-1, 1) = true → Reach (but L (c1, c2)) (c1, c2 + 1) (c1 - 1, c2) := fun h => by
    simp only [linkB, Bool.and_eq_true, decide_eq_true_eq] at h
    obtain ⟨h1, h2, h3⟩ := h
    refine W h3 (neq.mpr (by omega)) h2 (neq.mpr (by omega)) _ h1 (neq.mpr (by omega)) (bes (by omega)) (bes (by omega))
  have sy : ∀ {x y : Cell}, x ∈ L → x ∈ besideC (c1, c2) → Reach (but L (c1, c2)) x y → Reach (but L (c1, c2)) y x := fun {x y} xL hb r => r.symm (mem_but.mpr ⟨xL, beside_ne hb⟩)
  unfold besideC at h2 hl
  unfold linksN crossL at hl
  rw [filt4] at h2 hl
  rw [filt4] at hl
  have q := ring4 (decide ((c1 - 1, c2) ∈ L)) (decide ((c1, c2 - 1) ∈ L)) (decide ((c1 + 1, c2) ∈ L)) (decide ((c1, c2 + 1) ∈ L)) (linkB L (c1, c2) (-1, -1)) (linkB L (c1, c2) (1, -1)) (linkB L (c1, c2) (1, 1)) (linkB L (c1, c2) (-1, 1)) ?_ h2 hl
  · obtain ⟨q01, q12, q23, q30, q02, q13⟩ := q
    simp only [Bool.and_eq_true, Bool.or_eq_true, decide_eq_true_eq] at q01 q12 q23 q30 q02 q13
    have b0 : (c1 - 1, c2) ∈ besideC (c1, c2) := by simp [besideC]
    have b1 : (c1, c2 - 1) ∈ besideC (c1, c2) := by simp [besideC]
    have b2 : (c1 + 1, c2) ∈ besideC (c1, c2) := by simp [besideC]
    have b3 : (c1, c2 + 1) ∈ besideC (c1, c2) := by simp [besideC]
    have r01 : (c1 - 1, c2) ∈ L → (c1, c2 - 1) ∈ L → Reach (but L (c1, c2)) (c1 - 1, c2) (c1, c2 - 1) := fun m0 m1 => (q01 ⟨m0, m1⟩).elim L0 fun ⟨⟨h1, h2⟩, h3⟩ => sy m1 b1 (((L1 h1).trans (L2 h2)).trans (L3 h3))
    have r12 : (c1, c2 - 1) ∈ L → (c1 + 1, c2) ∈ L → Reach (but L (c1, c2)) (c1, c2 - 1) (c1 + 1, c2) := fun m0 m1 => (q12 ⟨m0, m1⟩).elim L1 fun ⟨⟨h1, h2⟩, h3⟩ => sy m1 b2 (((L2 h1).trans (L3 h2)).trans (L0 h3))
    have r23 : (c1 + 1, c2) ∈ L → (c1, c2 + 1) ∈ L → Reach (but L (c1, c2)) (c1 + 1, c2) (c1, c2 + 1) := fun m0 m1 => (q23 ⟨m0, m1⟩).elim L2 fun ⟨⟨h1, h2⟩, h3⟩ => sy m1 b3 (((L3 h1).trans (L0 h2)).trans (L1 h3))
    have r30 : (c1, c2 + 1) ∈ L → (c1 - 1, c2) ∈ L → Reach (but L (c1, c2)) (c1, c2 + 1) (c1 - 1, c2) := fun m0 m1 => (q30 ⟨m0, m1⟩).elim L3 fun ⟨⟨h1, h2⟩, h3⟩ => sy m1 b0 (((L0 h1).trans (L1 h2)).trans (L2 h3))
    have r02 : (c1 - 1, c2) ∈ L → (c1 + 1, c2) ∈ L → Reach (but L (c1, c2)) (c1 - 1, c2) (c1 + 1, c2) := fun m0 m1 => (q02 ⟨m0, m1⟩).elim (fun ⟨h1, h2⟩ => (L0 h1).trans (L1 h2)) fun ⟨h1, h2⟩ => sy m1 b2 ((L2 h1).trans (L3 h2))
    have r13 : (c1, c2 - 1) ∈ L → (c1, c2 + 1) ∈ L → Reach (but L (c1, c2)) (c1, c2 - 1) (c1, c2 + 1) := fun m0 m1 => (q13 ⟨m0, m1⟩).elim (fun ⟨h1, h2⟩ => (L1 h1).trans (L2 h2)) fun ⟨h1, h2⟩ => sy m1 b3 ((L3 h1).trans (L0 h2))
    intro x xL xb y yL yb
    simp only [besideC, List.mem_cons, List.not_mem_nil, or_false] at xb yb
    rcases xb with rfl | rfl | rfl | rfl <;> rcases yb with rfl | rfl | rfl | rfl
    · exact .refl
    · exact r01 xL yL
    · exact r02 xL yL
    · exact sy yL b3 (r30 yL xL)
    · exact sy yL b0 (r01 yL xL)
    · exact .refl
    · exact r12 xL yL
    · exact r13 xL yL
    · exact sy yL b0 (r02 yL xL)
    · exact sy yL b1 (r12 yL xL)
    · exact .refl
    · exact r23 xL yL
    · exact r30 xL yL
    · exact sy yL b1 (r13 yL xL)
    · exact sy yL b2 (r23 yL xL)
    · exact .refl
  · have e1 : ∀ x : Int, x + -1 = x - 1 := fun x => rfl
    simp only [linkB, e1]
    cases decide ((c1 - 1, c2) ∈ L) <;> cases decide ((c1, c2 - 1) ∈ L) <;> cases decide ((c1 + 1, c2) ∈ L) <;> cases decide ((c1, c2 + 1) ∈ L) <;> simp
/-- a square with one neighbour alone -/
theorem one_hangs {L : List Cell} (hL : Hangs L) {c a : Cell} (hc : c ∈ L) (h : ((besideC c).filter fun d => decide (d ∈ L)) = [a]) : Hangs (but L c) := by
  have m : ∀ x, x ∈ besideC c → x ∈ L → x = a := fun x hx hxL => List.mem_singleton.mp (h ▸ List.mem_filter.mpr ⟨hx, decide_eq_true hxL⟩)
  have am : a ∈ (besideC c).filter fun d => decide (d ∈ L) := by rw [h]; exact List.mem_singleton.mpr rfl
  obtain ⟨ab, al⟩ := List.mem_filter.mp am
  refine (rest_hangs hL hc (of_decide_eq_true al) ab).mpr fun x hx hb => ?_
  rw [m x hb hx]
  exact .refl
theorem none_hangs {L : List Cell} (hL : Hangs L) {c : Cell} (hc : c ∈ L) (h : ((besideC c).filter fun d => decide (d ∈ L)) = []) : ¬ Hangs (but L c) := fun k => by
  obtain ⟨d, hd⟩ := List.exists_mem_of_ne_nil _ k.1
  obtain ⟨dL, dc⟩ := mem_but.mp hd
  obtain ⟨a, aL, ab⟩ := near_ex hL hc dL dc
  have : a ∈ (besideC c).filter fun d => decide (d ∈ L) := List.mem_filter.mpr ⟨ab, decide_eq_true aL⟩
  rw [h] at this
  cases this
/-- by links enough -/
theorem links_hangs {L : List Cell} (hL : Hangs L) {c : Cell} (hc : c ∈ L) (h2 : 2 ≤ ((besideC c).filter fun d => decide (d ∈ L)).length) (hl : ((besideC c).filter fun d => decide (d ∈ L)).length ≤ linksN L c + 1) : Hangs (but L c) := by
  cases e : (besideC c).filter fun d => decide (d ∈ L) with
  | nil => rw [e] at h2; simp at h2
  | cons a t =>
    have am : a ∈ (besideC c).filter fun d => decide (d ∈ L) := by rw [e]; exact List.mem_cons_self ..
    obtain ⟨ab, al⟩ := List.mem_filter.mp am
    exact (rest_hangs hL hc (of_decide_eq_true al) ab).mpr fun x hx hb => links_reach h2 hl a (of_decide_eq_true al) ab x hx hb
/-- a flood without c that has all there is -/
theorem flood_rest {L F : List Cell} {c a : Cell} (hF : ∀ x ∈ F, x = c ∨ Reach (but L c) a x) (aF : a ∈ F) (ac : a ≠ c) (cl : ∀ x ∈ F, x ≠ c → ∀ y ∈ besideC x, y ∈ L → y ∈ F) : ∀ x, x ≠ c → (x ∈ F ↔ Reach (but L c) a x) := fun x nx => by
  constructor
  · exact fun h => (hF x h).elim (fun e => absurd e nx) id
  · intro r
    clear nx
    induction r with
    | refl => exact aF
    | @step b y hb h hy ih =>
      refine cl b ih ?_ y h (mem_but.mp hy).1
      cases hb with
      | refl => exact ac
      | step _ _ hm => exact (mem_but.mp hm).2
end Sq

set_option Elab.async false
set_option linter.all false
set_option maxRecDepth 100000
set_option maxHeartbeats 4000000
/-! The pairs of a dict whose keys are tuples, gone through. -/
namespace Sq
open PySem PySem.Spec PyProof.Rows L2
section
variable {X : Cx} {pins : List (Addr × Obj)} {σ : L2.St} {H : Hp} {s : Shared} {d : Addr} {o : Obj}
end
end Sq

set_option Elab.async false
set_option linter.all false
set_option maxRecDepth 100000
set_option maxHeartbeats 4000000
/-! enumerate over a dict whose keys are tuples. -/
namespace Sq
open PySem PySem.Spec PyProof.Rows L2
section
variable {prog : Program} {w : World} {A : Around} {E : Value → Shared → Prop} {s : Shared} {it d : Addr} {i ep : Nat} {es : Array DictEntry}
end
end Sq

set_option Elab.async false
set_option linter.all false
set_option maxRecDepth 100000
set_option maxHeartbeats 4000000
/-! min(xs, default=d), xs a list of ints. -/
namespace Sq
open PySem PySem.Spec PyProof.Rows L2
section
variable {prog : Program} {w : World} {A : Around} {R : Result → Shared → Prop} {it : Addr} {fp wr : List Addr} {n : Nat} {P : Nat → Value → Prop} {St : Nat → Heap → Prop} {d : Value}
end
section
variable {prog : Program} {w : World} {A : Around} {E : Value → Shared → Prop} {s : Shared}
end
end Sq

set_option Elab.async false
set_option linter.all false
set_option maxRecDepth 100000
set_option maxHeartbeats 4000000
/-! name = {k: v for ..}, the name a local. -/
namespace Sq
open PySem PySem.Spec PyProof.Rows L2
section
variable {X : Cx}
end
end Sq

set_option Elab.async false
set_option linter.all false
set_option maxRecDepth 100000
set_option maxHeartbeats 4000000
/-! A lot that hangs together is no wider than it has cells. -/
namespace Sq
open PySem PySem.Spec PyProof.Rows L2
theorem reach_between {L : List Cell} {f : Cell → Int} (hf : ∀ c d, d ∈ besideC c → f d - f c ≤ 1 ∧ f c - f d ≤ 1) {a x : Cell} (h : Reach L a x) (ha : a ∈ L) : ∀ k : Int, (f a ≤ k ∧ k ≤ f x) ∨ (f x ≤ k ∧ k ≤ f a) → ∃ y ∈ L, f y = k := by
  induction h with
  | refl => exact fun k hk => ⟨a, ha, by omega⟩
  | @step b x r hx xL ih =>
    intro k hk
    obtain ⟨h1, h2⟩ := hf b x hx
    by_cases e : f x = k
    · exact ⟨x, xL, e⟩
    · exact ih k (by omega)
theorem span_of {L : List Cell} {f : Cell → Int} (hf : ∀ c d, d ∈ besideC c → f d - f c ≤ 1 ∧ f c - f d ≤ 1) (hL : Hangs L) {a x : Cell} (ha : a ∈ L) (hx : x ∈ L) (le : f a ≤ f x) : f x - f a < L.length := by
  have r := reach_between hf (hL.2 a ha x hx) ha
  obtain ⟨d, hd⟩ := Int.eq_ofNat_of_zero_le (show 0 ≤ f x - f a by omega)
  have nd : ((List.range (d + 1)).map fun i : Nat => f a + (i : Int)).Nodup := by
    refine List.pairwise_map.mpr ((List.nodup_range (n := d + 1)).imp ?_)
    intro i j h h'
    exact h (by omega)
  have sub : ∀ y ∈ (List.range (d + 1)).map fun i : Nat => f a + (i : Int), y ∈ L.map f := fun y hy => by
    obtain ⟨i, hi, rfl⟩ := List.mem_map.mp hy
    have := List.mem_range.mp hi
    obtain ⟨z, hz, e⟩ := r (f a + (i : Int)) (by omega)
    exact List.mem_map.mpr ⟨z, hz, e⟩
  have l := len_le nd sub
  rw [List.length_map, List.length_map, List.length_range] at l
  omega
theorem beside_col (c d : Cell) (h : d ∈ besideC c) : d.1 - c.1 ≤ 1 ∧ c.1 - d.1 ≤ 1 := by
  have := beside_iff.mp h
  omega
theorem beside_row (c d : Cell) (h : d ∈ besideC c) : d.2 - c.2 ≤ 1 ∧ c.2 - d.2 ≤ 1 := by
  have := beside_iff.mp h
  omega
theorem span {L : List Cell} (hL : Hangs L) {a x : Cell} (ha : a ∈ L) (hx : x ∈ L) : x.1 - a.1 < L.length ∧ a.1 - x.1 < L.length ∧ x.2 - a.2 < L.length ∧ a.2 - x.2 < L.length := by
  have c1 := fun h => span_of (f := fun c => c.1) beside_col hL ha hx h
  have c2 := fun h => span_of (f := fun c => c.1) beside_col hL hx ha h
  have r1 := fun h => span_of (f := fun c => c.2) beside_row hL ha hx h
  have r2 := fun h => span_of (f := fun c => c.2) beside_row hL hx ha h
  refine ⟨?_, ?_, ?_, ?_⟩
  · by_cases h : a.1 ≤ x.1
    · exact c1 h
    · have := Int.natCast_nonneg L.length
      omega
  · by_cases h : x.1 ≤ a.1
    · exact c2 h
    · have := Int.natCast_nonneg L.length
      omega
  · by_cases h : a.2 ≤ x.2
    · exact r1 h
    · have := Int.natCast_nonneg L.length
      omega
  · by_cases h : x.2 ≤ a.2
    · exact r2 h
    · have := Int.natCast_nonneg L.length
      omega
end Sq

set_option Elab.async false
set_option linter.all false
set_option maxRecDepth 100000
set_option maxHeartbeats 4000000
/-! A call of a def that is run while no guard stands; the end of a law whose def is told so, with tables. -/
namespace Sq
open PySem PySem.Spec PyProof.Rows L2
section
variable {X : Cx} {CX : CXT} {j k : Nat} {f : Addr} {fd : FuncData} {ps : List Str} {sp : Sp} {E : XK}
end
/-- where a law begins: its script and its tables stand apart -/
structure Beg (P : Program) (w : World) (K : PySem.W.Frag) (ts : List Addr) (z : Shared) (a : Addr) (H : Hp) : Prop where
  tb : ∀ t ∈ ts, H t = some (.tbl #[])
  kinds : ∀ b, H b = none ∨ b ∈ ts ∨ ∃ o xs, H b = some (.frz o (.lst xs))
  ok : HOk P w H z.heap
  sup : ∀ b, H b ≠ none → b = a ∨ b ∈ ts
  ka : H a ≠ none → K.lookup a = none
/-- what of the heap is not tracked -/
theorem Beg.free {P : Program} {w : World} {K : PySem.W.Frag} {ts : List Addr} {z : Shared} {a : Addr} {H : Hp} {vs : List Value} (B : Beg P w K ts z a H) (ha : z.heap.get? a = some { cls := .type "list", data := .seq vs.toArray }) (ht : ∀ t ∈ ts, z.heap.get? t = some { cls := .none, data := .fields #[] })
    {b : Addr} {o : Obj} (e : z.heap.get? b = some o) (n1 : ∀ us m, o.data ≠ .seq us m) (n2 : o.data ≠ .fields #[]) : H b = none := by
  refine Classical.byContradiction fun n => ?_
  rcases B.sup b n with rfl | m
  · have y := Option.some.inj (ha.symm.trans e)
    subst y
    exact n1 _ _ rfl
  · have y := Option.some.inj ((ht b m).symm.trans e)
    subst y
    exact n2 rfl
end Sq

set_option Elab.async false
set_option linter.all false
set_option maxRecDepth 100000
set_option maxHeartbeats 4000000
/-! What repr shows, in few signs. -/
namespace Sq
open PySem PySem.Spec PyProof.Rows L2
/-- d is shown in n signs at most, nested m deep at most -/
structure Sh (m n : Nat) (d : PyData) : Prop where
  sh : d.showable = true
  nd : d.hasDict = false
  dp : d.depth ≤ m
  ln : d.shown.length ≤ n
theorem Sh.mono {m n m' n' : Nat} {d : PyData} (h : Sh m n d) (hm : m ≤ m') (hn : n ≤ n') : Sh m' n' d := ⟨h.sh, h.nd, Nat.le_trans h.dp hm, Nat.le_trans h.ln hn⟩
theorem Sh.fits {m n : Nat} {d : PyData} (s : Sh m n d) (hn : n ≤ 16777216 := by decide) : d.shown.length ≤ sizeLine := by
  rw [sizeLine_eq]
  exact Nat.le_trans s.ln hn
/-- coordinates that are not great -/
def Small (c : Cell) : Prop := c.1.natAbs < 10 ^ 40 ∧ c.2.natAbs < 10 ^ 40
end Sq

set_option Elab.async false
set_option linter.all false
set_option maxRecDepth 100000
set_option maxHeartbeats 4000000
/-! enumerate over a tuple. -/
namespace Sq
open PySem PySem.Spec PyProof.Rows L2
end Sq

set_option Elab.async false
set_option linter.all false
set_option maxRecDepth 100000
set_option maxHeartbeats 4000000
/-! The parts are told by the cells alone. -/
namespace Sq
open PySem PySem.Spec PyProof.Rows L2
theorem asc_memU {A M : List Cell} (nA : A.Nodup) (nM : M.Nodup) (sa : Asc A) (sm : Asc M) (mem : ∀ x, x ∈ A ↔ x ∈ M) : A = M :=
  List.Perm.eq_of_pairwise (le := fun x y => cLt y x = false) (fun x y _ _ h k => cLt_tri k h) sa sm ((List.perm_ext_iff_of_nodup nA nM).mpr mem)
theorem IsParts.sub {cs : List Cell} {ps qs : List (List Cell)} (h : IsParts cs ps) (k : IsParts cs qs) : ∀ p ∈ ps, p ∈ qs := fun p hp => by
  obtain ⟨ap, np, ne⟩ := h.asc p hp
  obtain ⟨x, hx⟩ := List.exists_mem_of_ne_nil _ ne
  obtain ⟨xc, cp⟩ := h.cls p hp x hx
  obtain ⟨q, hq, xq⟩ := k.cov x xc
  obtain ⟨aq, nq, _⟩ := k.asc q hq
  have e : p = q := asc_memU np nq ap aq fun y => by rw [cp y, (k.cls q hq x xq).2 y]
  exact e ▸ hq
theorem IsParts.nodup {cs : List Cell} {ps : List (List Cell)} (h : IsParts cs ps) : ps.Nodup := h.ord.imp fun {p q} ⟨a, b, ha, hb, lt⟩ e => by
  subst e
  rw [ha] at hb
  have := Option.some.inj hb
  subst this
  rw [cLt_irr] at lt
  cases lt
end Sq

set_option Elab.async false
set_option linter.all false
set_option maxRecDepth 100000
set_option maxHeartbeats 4000000
/-! A value that is locked for good behind its making; in, for a text and a list of texts. -/
namespace Sq
open PySem PySem.Spec PyProof.Rows L2
end Sq

set_option Elab.async false
set_option linter.all false
set_option maxRecDepth 100000
set_option maxHeartbeats 4000000
/-! dict(pairs) of a list of pairs of unlike tuples and values. -/
namespace Sq
open PySem PySem.Spec PyProof PyProof.Rows L2
/-- a walk as the comprehensions ask for it -/
theorem w_ofR {J : It} {n : Nat} {Gd : Hp → Prop} {Y : Nat → Hp → V → Hp → Prop} (w : Walk J n Gd Y) {H1 : Hp} {Qd : Hp → Prop} {St : V → Hp → (Hp → Prop) → Prop} (Pv : Nat → Hp → Prop) (h0 : Pv 0 H1) (hG : ∀ i G, i ≤ n → Pv i G → Gd G)
    (hs : ∀ i x G G', i < n → Pv i G → Y i G x G' → St x G' (Pv (i + 1))) (hd : ∀ G, Pv n G → Qd G) : ∃ W : Nat → Nat → Hp → Prop, (∃ m, W 0 m H1) ∧ ∀ i m H, W i m H →
      (J.stop i H ∧ Qd H) ∨ (J.go i H ∧ ∃ Nx : Hp → Prop, (∀ H', Nx H' → ∃ m', m' < m ∧ W (i + 1) m' H') ∧ ∀ x H', J.yld i H x H' → St x H' Nx) := by
  refine ⟨fun i m H => m = n - i ∧ i ≤ n ∧ Pv i H, ⟨n, rfl, Nat.zero_le _, h0⟩, ?_⟩
  rintro i m H ⟨rfl, hi, p⟩
  by_cases lt : i < n
  · exact .inr ⟨w.goes i H lt (hG i H hi p), Pv (i + 1), fun H' p' => ⟨n - (i + 1), by omega, rfl, lt, p'⟩, fun x H' y => hs i x H H' lt p (w.yields i H x H' lt (hG i H hi p) y)⟩
  · obtain rfl : i = n := Nat.le_antisymm hi (Nat.le_of_not_lt lt)
    exact .inl ⟨w.stops H (hG i H hi p), hd H p⟩
theorem storedAll_new {xs : List (List Key × Addr × Value)} : ∀ {ps acc : List (List Key × Addr × Value)}, ((acc ++ ps).map (·.1)).Nodup → PySem.storedAllH acc ps = acc ++ ps
  | [], acc, _ => (List.append_nil acc).symm
  | p :: ps, acc, nd => by
    have n1 : p.1 ∉ acc.map (·.1) := fun m => by
      rw [List.map_append, List.map_cons] at nd
      exact (List.nodup_append.mp nd).2.2 _ m _ (List.mem_cons_self ..) rfl
    have e : PySem.atKey acc p.1 = none := by
      unfold PySem.atKey
      rw [Option.map_eq_none_iff, List.find?_eq_none]
      intro x hx q
      exact n1 (List.mem_map.mpr ⟨x, hx, of_decide_eq_true q⟩)
    have e2 : acc ++ p :: ps = (acc ++ [p]) ++ ps := by rw [List.append_assoc]; rfl
    rw [e2]
    refine Eq.trans ?_ (storedAll_new (xs := xs) (ps := ps) (acc := acc ++ [p]) (by rw [← e2]; exact nd))
    show PySem.storedAllH (PySem.storedH acc p.1 p.2.1 p.2.2) ps = _
    rw [PySem.storedH_new e]
/-- a new pair of a tuple of keys and a value -/
def PrAt (H : Hp) (p : Addr) (kv : List Key × V) : Prop := ∃ q : Addr, H p = some (.tup [.ref q, kv.2]) ∧ H q = some (.tup (kv.1.map kV))
/-- dict(l) -/
def rDictT (K : PySem.W.Frag) : List V → Hp → VK → Prop := fun vs H Q => ∃ (a : Addr) (ps : List Addr) (kvs : List (List Key × V)), vs = [V.ref a] ∧ SqL K H a (ps.map V.ref) ∧ Paired (fun p kv => PrAt H p kv) ps kvs ∧ (kvs.map Prod.fst).Nodup ∧
  ∀ p, H p = none → Q (.ref p) (upd H p (.dT kvs))
section
variable {X : Cx}
theorem vals_two {x y : V} {us : List Value} (h : Vals [x, y] us) : ∃ u v, us = [u, v] ∧ RelV x u ∧ RelV y v := by
  cases h with
  | cons a t =>
    cases t with
    | cons b t2 =>
      cases t2
      exact ⟨_, _, rfl, a, b⟩
theorem vals_ref : ∀ {ps : List Addr} {us : List Value}, Vals (ps.map V.ref) us → us = ps.map Value.ref
  | [], us, h => by
    cases h
    rfl
  | p :: ps, us, h => by
    cases h with
    | cons r t => rw [show _ = Value.ref p from r, vals_ref t]; rfl
theorem pairs_at {pins : List (Addr × Obj)} {s : Shared} {σ : L2.St} {H : Hp} (I : Inv X pins σ H s) : ∀ {ps : List Addr} {kvs : List (List Key × V)}, Paired (fun p kv => PrAt H p kv) ps kvs →
    ∃ xs : List (List Key × Addr × Value), L2.KT H kvs xs ∧ xs.length = ps.length ∧ ∀ (j : Nat) (x : List Key × Addr × Value), xs[j]? = some x → ∃ p : Addr, ps[j]? = some p ∧ PySem.PairAt s.heap p (.ref x.2.1) x.2.2
  | [], [], .nil => ⟨[], .nil, rfl, by simp⟩
  | p :: ps, kv :: kvs, .cons h t => by
    obtain ⟨xs, kt, l, at_⟩ := pairs_at I t
    obtain ⟨q, e1, e2⟩ := h
    obtain ⟨its, rv, pl, hz⟩ := I.tuple (SqT.of e1)
    obtain ⟨u1, u, rfl, r1, r2⟩ := vals_two rv
    obtain rfl : u1 = Value.ref q := r1
    refine ⟨(kv.1, q, u) :: xs, .cons ⟨rfl, e2, r2⟩ kt, by rw [List.length_cons, l, List.length_cons], fun j x hj => ?_⟩
    cases j with
    | zero =>
      obtain rfl : (kv.1, q, u) = x := by simpa using hj
      exact ⟨p, rfl, .inl pl⟩
    | succ j =>
      obtain ⟨p', hp', e'⟩ := at_ j x (by simpa using hj)
      exact ⟨p', by simpa using hp', e'⟩
theorem kt_keys {H : Hp} : ∀ {kvs : List (List Key × V)} {xs : List (List Key × Addr × Value)}, L2.KT H kvs xs → kvs.map Prod.fst = xs.map (·.1)
  | [], [], .nil => rfl
  | _ :: _, _ :: _, .cons h t => by rw [List.map_cons, List.map_cons, kt_keys t, h.1]
theorem kt_mem {H : Hp} : ∀ {kvs : List (List Key × V)} {xs : List (List Key × Addr × Value)}, L2.KT H kvs xs → ∀ x ∈ xs, ∃ kv : List Key × V, kv.1 = x.1 ∧ H x.2.1 = some (.tup (kv.1.map kV))
  | [], [], .nil, x, m => by cases m
  | p :: _, q :: _, .cons h t, x, m => by
    rcases List.mem_cons.mp m with rfl | m
    · exact ⟨p, h.1, h.2.1⟩
    · exact kt_mem t x m
theorem call_dictT (calm : X.calm = true) (hu : X.A.units + 64 < cLine) : CallR X (.type "dict") (rDictT X.K) := by
  intro pins s σ H vs us Q I r h
  obtain ⟨a, ps, kvs, rfl, hs, pr, nd, q⟩ := h
  rw [Vals.ref1 r]
  obtain ⟨its, rv, pl, hz⟩ := I.list hs
  have ei := vals_ref rv
  subst ei
  rw [List.length_map] at hz
  obtain ⟨xs, kt, lx, at_⟩ := pairs_at I pr
  obtain ⟨o, n, ho, hc, hd, hdat⟩ := pl
  have ndx : (xs.map (·.1)).Nodup := by
    rw [← kt_keys kt]
    exact nd
  have hx : ∀ x ∈ xs, (tupleKind (mixKind X.prog X.w)).is s.heap x.1 x.2.1 := fun x hx => by
    obtain ⟨kv, e1, e2⟩ := kt_mem kt x hx
    exact key_of I.hok (by rw [← e1]; exact e2)
  have lk : kvs.length = xs.length := by
    have := congrArg List.length (kt_keys kt)
    rwa [List.length_map, List.length_map] at this
  have room : (tupleKind (mixKind X.prog X.w)).room X.A.in1.in1 := tupleKind_room_in1 (A := X.A.in1) (by
    have e : X.A.in1.units = X.A.units + 1 := rfl
    omega)
  let Ts : Nat → Addr := fun j => ps.getD j 0
  have items : PySem.PairItems s.heap (ps.map Value.ref).toArray Ts (xs.map fun x => (Value.ref x.2.1, x.2.2)) := by
    refine ⟨by simp [lx], fun j k v hj => ?_⟩
    rw [List.getElem?_map] at hj
    obtain ⟨x, hx, e⟩ := Option.map_eq_some_iff.mp hj
    obtain ⟨p, hp, pa⟩ := at_ j x hx
    have e1 : Ts j = p := by
      show ps.getD j 0 = p
      rw [List.getD_eq_getElem?_getD, hp]
      rfl
    obtain ⟨rfl, rfl⟩ := Prod.mk.inj e
    rw [e1]
    exact ⟨by simp [hp], pa⟩
  refine PySem.call_dict_pairsH (knd := tupleKind (mixKind X.prog X.w)) (ps := xs) (PySem.PairArg.list a _ Ts _) (I.ok.hd calm) room ⟨⟨o, n, ho, hc, hd, hdat⟩, items⟩ ⟨by rw [List.length_map], fun i key v hr => ?_⟩ (fun h' hk x hm => ?_) (by rw [List.length_map, lx]; exact hz) fun h' tk hd' hk => ?_
  · have hr : (xs.map fun x => (Value.ref x.2.1, x.2.2))[i]? = some (key, v) := hr
    rw [List.getElem?_map] at hr
    obtain ⟨x, hx, e⟩ := Option.map_eq_some_iff.mp hr
    obtain ⟨rfl, rfl⟩ := Prod.mk.inj e
    exact ⟨x.1, x.2.1, hx, rfl⟩
  · exact (PySem.tupleKind_stays (knd := mixKind X.prog X.w)).stays (fun b o vs n e _ => hk b o (Nat.ne_of_lt (Heap.lt_size e)) (by simp) e) (hx x hm)
  · rw [storedAll_new (xs := []) (by simpa using ndx)] at hd'
    obtain ⟨o', es, ep, e1, e2, e3, e4, _, _⟩ := hd'
    have hm : (s.heap.objs.size == sysModules) = false := beq_eq_false_iff_ne.mpr (Nat.ne_of_gt I.big)
    have kt' : L2.KT (upd H s.heap.objs.size (.dT kvs)) kvs xs := L2.Paired.mapP kt fun a b h => ⟨h.1, by
      rw [upd_ne (fun z => by
        have := I.hok.fresh (a := s.heap.objs.size) (Nat.le_refl _)
        rw [← z, h.2.1] at this
        cases this)]
      exact h.2.1, h.2.2⟩
    exact ⟨.ref s.heap.objs.size, upd H s.heap.objs.size (.dT kvs), I.laid (t' := tk) (fun b o e => hk b o (by simp) e) (Nat.le_refl _) (show ObjOk X.prog X.w _ _ _ (.dT kvs) from ⟨by omega, hm, xs, kt', o', es, ep, e1, e2, e3, e4, ndx⟩), rfl, q _ (I.hok.fresh (Nat.le_refl _))⟩
end
end Sq

set_option Elab.async false
set_option linter.all false
set_option maxRecDepth 100000
set_option maxHeartbeats 4000000
/-! list(d.keys()), d a dict with tuples as keys. -/
namespace Sq
open PySem PySem.Spec PySem.Calls PyProof PyProof.Rows L2
section
variable {X : Cx} {e : Expr} {td : TE} {apos cpos : Pos}
end
end Sq

set_option Elab.async false
set_option linter.all false
set_option maxRecDepth 100000
set_option maxHeartbeats 4000000
/-! d == {}, d a dict with tuples as keys. -/
namespace Sq
open PySem PySem.Spec PySem.Calls PyProof PyProof.Rows L2
section
variable {prog : Program} {w : World} {A : Around} {E : Value → Shared → Prop} {s : Shared}
/-- the entries of a dict, raw -/
def RawD (h : Heap) (a : Addr) (n : Nat) : Prop := ∃ (o : Obj) (es : Array DictEntry) (ep : Nat), h.get? a = some o ∧ o.ExactDict ∧ o.data = .dict es ep ∧ es.size = n
theorem RawD.typeIs {a : Addr} {n : Nat} (h : RawD s.heap a n) : s.TypeIs (.ref a) "dict" := by
  obtain ⟨o, es, ep, ho, hx, _⟩ := h
  exact ⟨o, ho, hx.1⟩
end
section
variable {X : Cx}
end
end Sq

set_option Elab.async false
set_option linter.all false
set_option maxRecDepth 100000
set_option maxHeartbeats 4000000
/-! Dicts whose keys are nested tuples. -/
namespace Sq
open PySem PySem.Spec PyProof.Rows L2
abbrev NK := NestedKey
mutual
/-- the key that a datum is -/
def nkD : PyData → NK
  | .none => .none
  | .bool b => .num (if b = true then 1 else 0)
  | .int i => .num i
  | .str x => .text x
  | .tuple ds => .tup (nkAll ds)
  | .list _ => .none
  | .dict _ => .none
def nkAll : List PyData → List NK
  | [] => []
  | d :: ds => nkD d :: nkAll ds
end
mutual
def keyD : PyData → Bool
  | .list _ => false
  | .dict _ => false
  | .tuple ds => keyAll ds
  | _ => true
def keyAll : List PyData → Bool
  | [] => true
  | d :: ds => keyD d && keyAll ds
end
/-- the tuple at b is the key k -/
structure NAt (K : PySem.W.Frag) (H : Hp) (b : Addr) (k : NK) : Prop where
  ex : ∃ d, Dp K H (.ref b) d ∧ keyD d = true ∧ nkD d = k
  dep : k.depth ≤ 8
abbrev NEnt := Addr × NK × V
def ofN (P : Program) (w : World) (l : NEnt) (x : NK × Addr × Value) : Prop := x.1 = l.2.1 ∧ x.2.1 = l.1 ∧ RelV l.2.2 x.2.2
/-- a dict with these entries stands at a -/
def DNO (P : Program) (w : World) (a : Addr) (L : List NEnt) : HO := .ext fun h => L.length ≤ sizeLine ∧ (a == sysModules) = false ∧ ∃ (xs : List (NK × Addr × Value)) (o : Obj) (es : Array DictEntry) (ep : Nat), Paired (ofN P w) L xs ∧ h.get? a = some o ∧ o.ExactDict ∧ o.data = .dict es ep ∧ es.toList = xs.map (entryOfKey (nestedKind P w)) ∧ (xs.map (·.1)).Nodup
def DN (P : Program) (w : World) (H : Hp) (a : Addr) (L : List NEnt) : Prop := H a = some (DNO P w a L) ∨ (L = [] ∧ H a = some (.dT []))
def valN (L : List NEnt) (k : NK) : Option V := (L.find? fun l => decide (l.2.1 = k)).map (·.2.2)
def putN (L : List NEnt) (b : Addr) (k : NK) (v : V) : List NEnt := if (L.any fun l => decide (l.2.1 = k)) = true then L.map fun l => if l.2.1 = k then (l.1, l.2.1, v) else l else L ++ [(b, k, v)]
theorem valN_any {L : List NEnt} {k : NK} : (L.any fun l => decide (l.2.1 = k)) = (valN L k).isSome := by
  unfold valN
  rw [Option.isSome_map]
  induction L with
  | nil => rfl
  | cons l L ih =>
    rw [List.any_cons, List.find?_cons]
    by_cases h : l.2.1 = k
    · rw [decide_eq_true h]
      rfl
    · rw [decide_eq_false h, Bool.false_or]
      exact ih
theorem putN_len {L : List NEnt} {b : Addr} {k : NK} {v : V} : (putN L b k v).length ≤ L.length + 1 := by
  unfold putN
  split
  · rw [List.length_map]
    exact Nat.le_succ _
  · rw [List.length_append]
    exact Nat.le_refl _
section
variable {X : Cx} {pins : List (Addr × Obj)} {σ : L2.St} {H : Hp} {s : Shared} {a b : Addr} {k : NK} {L : List NEnt}
end
end Sq

set_option Elab.async false
set_option linter.all false
set_option maxRecDepth 100000
set_option maxHeartbeats 4000000
/-! Dicts whose keys are nested tuples: gone through, made, sorted. -/
namespace Sq
open PySem PySem.Spec PyProof.Rows L2
section
variable {X : Cx} {pins : List (Addr × Obj)} {σ : L2.St} {H : Hp} {s : Shared} {d : Addr} {o : Obj}
end
/-! ### sorted -/
section
variable {X : Cx}
theorem each_refs {β : Type} {F : Addr → β → Prop} {out : List Value} {bs : List β} (e : PySem.W.EachIs (fun v b => ∃ y, v = Value.ref y ∧ F y b) out bs) : ∃ ys : List Addr, out = ys.map Value.ref ∧ Paired F ys bs := by
  induction e with
  | nil => exact ⟨[], rfl, .nil⟩
  | cons h _ ih =>
    obtain ⟨y, rfl, f⟩ := h
    obtain ⟨ys, rfl, fs⟩ := ih
    exact ⟨y :: ys, rfl, .cons f fs⟩
end
end Sq

set_option Elab.async false
set_option linter.all false
set_option maxRecDepth 100000
set_option maxHeartbeats 4000000
/-! repr of any value. -/
namespace Sq
open PySem PySem.Spec PyProof.Rows L2
end Sq

set_option Elab.async false
set_option linter.all false
set_option maxRecDepth 100000
set_option maxHeartbeats 4000000
/-! == of two tuples of the same simple values. -/
namespace Sq
open PySem PySem.Spec PyProof.Rows L2
end Sq

set_option Elab.async false
set_option linter.all false
set_option maxRecDepth 100000
set_option maxHeartbeats 4000000
/-! sorted of a list of data, what its values are kept. -/
namespace Sq
open PySem PySem.Spec PyProof.Rows L2
section
variable {X : Cx}
def rSortDF (K : PySem.W.Frag) : List V → Hp → VK → Prop := fun vs H Q => ∃ (a : Addr) (xs : List Addr) (β : Type) (enc : β → PyData) (F : Addr → β → Prop) (bs : List β), vs = [V.ref a] ∧ SqL K H a (xs.map V.ref) ∧ Paired F xs bs ∧ (∀ x b, F x b → Dp K H (.ref x) (enc b)) ∧ (∀ b b', PySem.W.alike (enc b) (enc b') = true) ∧
  PySem.W.Sortable (bs.map enc) ∧ (∀ b ∈ bs, (enc b).depth ≤ 8) ∧
  ∀ (ys : List Addr) (p : Addr), Paired F ys (bs.mergeSort (PySem.W.dataLe false enc)) → H p = none → Q (.ref p) (upd H p (.lst (ys.map V.ref)))
theorem each_refsV {β : Type} {F : Addr → β → Prop} : ∀ {xs : List Addr} {us : List Value} {bs : List β}, Vals (xs.map V.ref) us → Paired F xs bs → PySem.W.EachIs (fun v b => ∃ y, v = Value.ref y ∧ F y b) us bs
  | [], us, _, r, .nil => by
    cases r
    exact .nil
  | x :: xs, us, _, r, .cons h t => by
    cases r with
    | cons r1 r2 => exact .cons ⟨x, r1, h⟩ (each_refsV r2 t)
theorem cr_sortedDF (hu : X.A.units + 64 < cLine) : CallR X (.builtin "sorted") (rSortDF X.K) := by
  intro pins s σ H vs us Q I r h
  obtain ⟨a, xs, β, enc, F, bs, rfl, hs, pr, df, al, so, dp, q⟩ := h
  obtain ⟨its, rv, hl, hz⟩ := I.list hs
  obtain ⟨u, rfl, ru⟩ := vals1 r
  obtain rfl : u = Value.ref a := ru
  have lb : bs.length ≤ sizeLine := by rw [← Paired.length pr, ← List.length_map (f := V.ref)]; exact hz
  have e1 := each_refsV rv pr
  refine PySem.W.sorted_data (R := fun v b => ∃ y, v = Value.ref y ∧ F y b) (enc := enc) (bs := bs) hl.isList e1 (e1.mono fun v b ⟨y, e, f⟩ => Dp.reads I _ _ _ (df y b f) e) (PySem.W.AllAlike.of al) so lb
    (fun b hb => by have := dp b hb; omega) fun out lo eo => ?_
  obtain ⟨ys, rfl, py⟩ := each_refs eo
  have len : (ys.map V.ref).length ≤ sizeLine := by
    rw [List.length_map, Paired.length py, List.length_mergeSort]
    exact lb
  obtain ⟨e, he⟩ := sortedAll_at s.heap its (ys.map Value.ref).toArray
  have hd : s.heap.objs.size ≤ s.heap.objs.size + 1 := Nat.le_succ _
  exact ⟨.ref (s.heap.objs.size + 1), upd H (s.heap.objs.size + 1) (.lst (ys.map V.ref)), I.laid (t' := s.toks) (fun b o e => sortedAll_old e) hd ⟨len, ys.map Value.ref, e, vals_refs ys, he⟩, rfl, q ys _ py (I.hok.fresh hd)⟩
end
end Sq

set_option Elab.async false
set_option linter.all false
set_option maxRecDepth 100000
set_option maxHeartbeats 4000000
/-! repr of any value, of an empty dict as well. -/
namespace Sq
open PySem PySem.Spec PyProof.Rows L2
end Sq

set_option Elab.async false
set_option linter.all false
set_option maxRecDepth 100000
set_option maxHeartbeats 8000000
/-! name = {k: v for .. for ..}, the name a local. -/
namespace Sq
open PySem PySem.Spec PyProof.Rows L2
section
variable {prog : Program} {w : World} {A : Around} {R : Result → Shared → Prop} {kx vx t0 i0 t1 i1 : Expr} {c0 c1 : List Expr} {sc : Scope} {pos : Pos} {wk acc : Value} {env : Env}
end
section
variable {X : Cx}
end
end Sq

set_option Elab.async false
set_option linter.all false
set_option maxRecDepth 100000
set_option maxHeartbeats 4000000
/-! setdefault of a dict with tuples as keys. -/
namespace Sq
open PySem PySem.Spec PyProof.Rows L2
theorem dt_setd {X : Cx} {ps : List (Addr × Obj)} {τ : L2.St} {G : Hp} {z : Shared} {Ar : Around} {Er : Value → Shared → Prop} {a b : Addr} {r : Value} {y : V} {k : List Key} {kvs : List (List Key × V)} {Qp : Value → Shared → Prop} (room : Ar.units + 1 < cLine) (J : Inv X ps τ G z)
    (ea : G a = some (.dT kvs)) (eb : G b = some (.tup (k.map kV))) (ry : RelV y r) (few : kvs.length < sizeLine) (old : ∀ v, valV kvs k = some v → ∀ u z', Inv X ps τ G z' → RelV v u → Qp u z') (new : valV kvs k = none → ∀ u z', Inv X ps τ (upd G a (.dT (putK kvs k y))) z' → RelV y u → Qp u z') :
    wpAny (model X.prog X.w) Ar (call (.builtin "dict.setdefault") [.ref a, .ref b, r]) Qp Er z := by
  obtain ⟨hz, hsys, xs, kt, dd⟩ := dt_of J.hok ea
  have hxs : xs.length ≤ sizeLine := by rw [← Paired.length kt]; exact hz
  have there := kt.val k
  refine call_meetsIn PySem.F.slot_dict_setdefault dd.typeIs PySem.F.entry_dict_setdefault (PySem.F.args_dict_setdefault_3 _ _ _) (meetsH_dict_setdefault (tupleKind (mixKind X.prog X.w)) a b hsys r)
    ⟨tupleKind_room_in1 room, k, xs, key_of J.hok eb, dd, hxs, fun p hp => ?_, fun hn h2 dd2 same => ?_⟩
  · rw [hp] at there
    cases q : valV kvs k with
    | none => rw [q] at there; exact (show False from there).elim
    | some v => rw [q] at there; exact old v q _ _ (J.tok _) there
  · rw [hn] at there
    cases q : valV kvs k with
    | some v => rw [q] at there; exact (show False from there).elim
    | none =>
      have fits : (putK kvs k y).length ≤ sizeLine := Nat.le_trans (length_putK kvs k y) few
      obtain ⟨o2, en, ep, eo, c2, c3, c4, _, c5⟩ := dd2
      refine new q _ _ (d_write J (by rw [ea]; exact True.intro) same ⟨o2, eo⟩ ⟨fits, hsys, _, (kt.put k eb ry).keeps fun c ys ec => ?_, o2, en, ep, eo, c2, c3, c4, c5⟩) ry
      rw [upd_ne (ne_of ec ea (fun t => nomatch t))]
      exact ec
/-- d.setdefault(y, z), d a dict with tuples as keys -/
def tSetdT (td ty tx : TE) : TE := fun σ H Q => td σ H fun x H1 => ∃ a, x = V.ref a ∧ IsD H1 a ∧ ty σ H1 fun y H2 => tx σ H2 fun z H3 => ∃ (kvs : List (List Key × V)) (k : List Key) (b : Addr),
  H3 a = some (.dT kvs) ∧ y = V.ref b ∧ H3 b = some (.tup (k.map kV)) ∧ kvs.length < sizeLine ∧ (∀ v, valV kvs k = some v → Q v H3) ∧ (valV kvs k = none → Q z (upd H3 a (.dT (putK kvs k z))))
section
variable {X : Cx}
theorem pe_setdT {o e f : Expr} {td ty tx : TE} {apos cpos : Pos} (room : X.A.units + 1 < cLine) (po : PE X o td) (pe : PE X e ty) (pf : PE X f tx) (m : M2 X o "setdefault" apos e f cpos) : PE X (.Call (.Attribute o "setdefault" apos) [e, f] [] cpos) (tSetdT td ty tx) := by
  refine ⟨fun pins s σ H Q I asked => ?_⟩
  refine wpAny_Call_method m.base m.few m.line PySem.F.plainAttrs_dict PySem.F.slot_dict_setdefault PySem.F.type_dict_setdefault (thn (po.run pins s σ H _ I asked) fun u s1 ⟨x, H1, I1, rx, a, ex, isd, q1⟩ => ?_)
  subst ex
  obtain rfl : u = Value.ref a := rx
  obtain ⟨ty1, ty2, _⟩ := isD_at I1 isd
  refine ⟨ty1, ty2, ?_⟩
  rw [m.trees]
  refine Calls.callWith_builtin rfl (Calls.evalArgs_plain (Calls.spliced_cons (thn (pe.run pins s1 σ H1 _ I1 q1) fun iv s2 ⟨y, H2, I2, ry, q2⟩ => Calls.spliced_cons (thn (pf.run pins s2 σ H2 _ I2 q2) fun fv s3 ⟨z, H3, I3, rz, kvs, k, b, ea, ey, eb, few, q3, q4⟩ => Calls.spliced_nil ?_))))
  subst ey
  obtain rfl : iv = Value.ref b := ry
  exact dt_setd room I3 ea eb rz few (fun v hv u z' J ru => ⟨v, _, J, ru, q3 v hv⟩) fun hn u z' J ru => ⟨z, _, J, ru, q4 hn⟩
end
end Sq

set_option Elab.async false
set_option linter.all false
set_option maxRecDepth 100000
set_option maxHeartbeats 4000000
/-! max(xs, default=d), xs a list of ints. -/
namespace Sq
open PySem PySem.Spec PyProof.Rows L2
end Sq

set_option Elab.async false
set_option linter.all false
set_option maxRecDepth 100000
set_option maxHeartbeats 4000000
/-! sorted(t), t a tuple of ints. -/
namespace Sq
open PySem PySem.Spec PyProof.Rows L2
section
variable {X : Cx}
end
end Sq

set_option Elab.async false
set_option linter.all false
set_option maxRecDepth 100000
set_option maxHeartbeats 4000000
/-! {k: v for .. for ..}, the keys tuples of tuples. -/
namespace Sq
open PySem PySem.Spec PyProof.Rows L2
section
variable {X : Cx}
end
end Sq

set_option Elab.async false
set_option linter.all false
set_option maxRecDepth 100000
set_option maxHeartbeats 4000000
/-! == of two lists of tuples of the same simple values. -/
namespace Sq
open PySem PySem.Spec PyProof.Rows L2
end Sq

set_option Elab.async false
set_option linter.all false
set_option maxRecDepth 100000
set_option maxHeartbeats 4000000
/-! t[::-1], t a tuple; an expression told in two ways. -/
namespace Sq
open PySem PySem.Spec PyProof.Rows L2
theorem PE.or {X : Cx} {e : Expr} {t1 t2 : TE} (h1 : PE X e t1) (h2 : PE X e t2) : PE X e (fun σ H Q => t1 σ H Q ∨ t2 σ H Q) := ⟨fun pins s σ H Q I h => h.elim (h1.run pins s σ H Q I) (h2.run pins s σ H Q I)⟩
section
variable {prog : Program} {w : World} {A : Around} {E : Value → Shared → Prop} {s : Shared}
end
end Sq

set_option Elab.async false
set_option linter.all false
set_option maxRecDepth 100000
set_option maxHeartbeats 4000000
/-! A body of two squares or more has a free square with an empty cell at one of its sides. -/
namespace Sq
open PySem PySem.Spec PyProof.Rows L2
end Sq

set_option Elab.async false
set_option linter.all false
set_option maxRecDepth 100000
set_option maxHeartbeats 4000000
/-! The places of the program's and the law's defs. -/
namespace Sq
open PySem PySem.Spec PyProof.Rows L2
def top (i : Nat) : Stmt := PySem.Challenge.pw_slideinto_k16_whole_reach.main.body.getD i (.Pass ⟨0, 0, 0, 0⟩)
abbrev gWhole : Stmt := top 6
abbrev gIsCell : Stmt := top 7
abbrev gChecked : Stmt := top 8
abbrev gPlain : Stmt := top 9
abbrev gFour : Stmt := top 10
abbrev gLot : Stmt := top 11
abbrev gWithout : Stmt := top 12
abbrev gNear : Stmt := top 13
abbrev gFlood : Stmt := top 14
abbrev gHangs : Stmt := top 15
abbrev gHangsW : Stmt := top 16
abbrev gLinks : Stmt := top 17
abbrev gIsBody : Stmt := top 19
abbrev gLotB : Stmt := top 20
abbrev gNextSide : Stmt := top 22
abbrev gRingFrom : Stmt := top 23
abbrev gReach : Stmt := top 25
abbrev gWalk : Stmt := top 26
abbrev gWalkLength : Stmt := top 27
abbrev gWalkIn : Stmt := top 28
abbrev gWaysIn : Stmt := top 29
abbrev gDistancesTo : Stmt := top 30
abbrev sPen : Stmt := top 32
abbrev sDraw : Stmt := top 33
abbrev sPick : Stmt := top 34
abbrev lShuffled : Stmt := top 35
abbrev nBeside : Stmt := top 36
abbrev nLots : Stmt := top 37
abbrev nField : Stmt := top 38
abbrev nRegions : Stmt := top 39
abbrev nNumber : Stmt := top 40
abbrev nSides : Stmt := top 41
abbrev nFree : Stmt := top 42
abbrev nSteps : Stmt := top 43
abbrev nBoth : Stmt := top 44
abbrev nFar : Stmt := top 45
abbrev nGrown : Stmt := top 46
abbrev nCrosses : Stmt := top 47
abbrev nRing : Stmt := top 48
abbrev nSpiral : Stmt := top 49
abbrev nBody : Stmt := top 50
abbrev lSquareRight : Stmt := top 51
abbrev sLaw : Stmt := top 52
abbrev FnP (K : PySem.W.Frag) (x : Str) (st : Stmt) (f : Addr) (fd : FuncData) : Prop := FunD K x x (defArgs st) (defBody st) (defScope st) [] [] f fd
end Sq

set_option Elab.async false
set_option linter.all false
set_option maxRecDepth 100000
set_option maxHeartbeats 4000000
/-! What is a cell; cells made plain, shifted; the four beside. -/
namespace Sq
open PySem PySem.Spec PyProof.Rows L2
def kinds : List String := ["NoneType", "bool", "int", "str", "tuple", "list"]
/-- x is of the built-in kind T -/
structure Kd (K : PySem.W.Frag) (H : Hp) (x : V) (T : String) : Prop where
  ty : TyX K H x (.type T)
  mem : T ∈ kinds
theorem kd_isi {K : PySem.W.Frag} {T U : String} (h : T ∈ kinds) (hU : U ∈ ["int", "bool", "tuple"]) : PySem.W.kitOne K (.type T) (.type U) = some (T == U || (T == "bool" && U == "int")) := by
  refine kit_ty ?_
  simp only [kinds, List.mem_cons, List.not_mem_nil, or_false] at h hU
  rcases h with rfl | rfl | rfl | rfl | rfl | rfl <;> rcases hU with rfl | rfl | rfl <;> decide +kernel
/-- whether x is a cell -/
inductive CellQ (K : PySem.W.Frag) (H : Hp) : V → Bool → Prop where
  | other {x : V} {T : String} (k : Kd K H x T) (n : T ≠ "tuple") : CellQ K H x false
  | len {p : Addr} {xs : List V} (e : H p = some (.tup xs)) (n : xs.length ≠ 2) : CellQ K H (.ref p) false
  | two {p : Addr} {y z : V} {T U : String} (e : H p = some (.tup [y, z])) (ky : Kd K H y T) (kz : Kd K H z U) (n : T ≠ "int" ∨ U ≠ "int") : CellQ K H (.ref p) false
  | cell {p : Addr} {c : Cell} (e : At H p c) : CellQ K H (.ref p) true
theorem Kd.tup {K : PySem.W.Frag} {H : Hp} {p : Addr} {xs : List V} (e : H p = some (.tup xs)) : Kd K H (.ref p) "tuple" := ⟨.base (.tup e), by decide⟩
theorem Kd.int {K : PySem.W.Frag} {H : Hp} {i : Int} : Kd K H (.int i) "int" := ⟨.base (.int i), by decide⟩
theorem at0 {x : V} {xs : List V} : atI (x :: xs) 0 = some x := atI_nat (j := 0) rfl
theorem at1 {x y : V} {xs : List V} : atI (x :: y :: xs) 1 = some y := atI_nat (j := 1) rfl
section
variable {P : Program} {w : World} {K : PySem.W.Frag} {mg : Str → Option Value} {base : Heap}
def spWhole (K : PySem.W.Frag) : Sp := fun vs H Q _ => ∃ (x : V) (T : String), vs = [x] ∧ Kd K H x T ∧ Q (.bl (T == "int")) H
theorem scW : FnScope ["value"] ["value"] (defScope gWhole) := ⟨rfl, rfl, rfl, by decide +kernel, rfl, by decide +kernel, by decide +kernel⟩
theorem ok_whole {f : Addr} {fd : FuncData} (F : FnP K "is_whole" gWhole f fd) (gIs : mg "isinstance" = none) (gI : mg "int" = none) (gB : mg "bool" = none) : FnOk P w K mg base CX0 1 f fd ["value"] (spWhole K) := by
  refine F.ok scW (fun vs H Q E h => ?_) (fun cdv A outer s H vs Q E hr h => ?_)
  · obtain ⟨x, T, rfl, _⟩ := h
    rfl
  · obtain ⟨x, T, rfl, k, q⟩ := h
    refine ⟨_, PSs.nox (pss_one (ps_ret (pe_and (pe_callB call_isi (by rfl) gIs PyProof.Rows.boot_isinstance (pa_cons (pv 0) (pa_cons (pe_bltn (v := .ty "int") (by rfl) gI PyProof.Rows.boot_int rfl) pa_nil)))
      (pe_one (pe_not (pe_callB call_isi (by rfl) gIs PyProof.Rows.boot_isinstance (pa_cons (pv 0) (pa_cons (pe_bltn (v := .ty "bool") (by rfl) gB PyProof.Rows.boot_bool rfl) pa_nil)))))))), ?_⟩
    refine ⟨_, rfl, _, _, _, _, _, rfl, .ty "int", k.ty, kd_isi k.mem (by decide), _, rfl, ?_⟩
    have m := k.mem
    refine ite2 (fun hc => ⟨_, rfl, _, _, _, _, _, rfl, .ty "bool", k.ty, kd_isi k.mem (by decide), _, rfl, ?_⟩) (fun hc => ?_)
    · simp only [kinds, List.mem_cons, List.not_mem_nil, or_false] at m
      rcases m with rfl | rfl | rfl | rfl | rfl | rfl <;> first | exact absurd hc (by decide) | exact q
    · simp only [kinds, List.mem_cons, List.not_mem_nil, or_false] at m
      rcases m with rfl | rfl | rfl | rfl | rfl | rfl <;> first | exact absurd rfl hc | exact q
def spIsCell (K : PySem.W.Frag) : Sp := fun vs H Q _ => ∃ (x : V) (b : Bool), vs = [x] ∧ CellQ K H x b ∧ Q (.bl b) H
theorem scIC : FnScope ["value"] ["value"] (defScope gIsCell) := ⟨rfl, rfl, rfl, by decide +kernel, rfl, by decide +kernel, by decide +kernel⟩
theorem ok_isCell {f fW : Addr} {fd fdW : FuncData} (F : FnP K "is_cell" gIsCell f fd) (FW : FnP K "is_whole" gWhole fW fdW) (gW : mg "is_whole" = some (.ref fW)) (gIs : mg "isinstance" = none) (gI : mg "int" = none) (gB : mg "bool" = none) (gT : mg "tuple" = none) (gL : mg "len" = none) :
    FnOk P w K mg base CX0 2 f fd ["value"] (spIsCell K) := by
  have GW : FnOk P w K mg base CX0 1 fW fdW ["value"] (spWhole K) := ok_whole FW gIs gI gB
  have bW : Binds K fdW ["value"] [] := FW.bindsN fun _ _ _ _ _ _ us hl => match us, hl with | [_], _ => rfl
  refine F.ok scIC (fun vs H Q E h => ?_) (fun cdv A outer s H vs Q E hr h => ?_)
  · obtain ⟨x, b, rfl, _⟩ := h
    rfl
  · obtain ⟨x, b, rfl, k, q⟩ := h
    refine ⟨_, PSs.nox (pss_cons (ps_if (PW.pt (pw_or (pt_not (pt_val (pe_callB call_isi (by rfl) gIs PyProof.Rows.boot_isinstance (pa_cons (pv 0) (pa_cons (pe_bltn (v := .ty "tuple") (by rfl) gT PyProof.Rows.boot_tuple rfl) pa_nil)))))
        (pw_or1 (pt_cmpR op_ne (pe_callB call_len_seq (by rfl) gL PySem.boot_len (pa_cons (pv 0) pa_nil)) pe_int (nomark _)))))
        (pss_one (ps_ret pe_bl)) pss_nil)
      (pss_one (ps_ret (pe_and (pe_call GW hr rfl gW FW.kp bW .nil pass0 (pa_cons (pe_ix ix_tup (pv 0) pe_int (fun _ _ => rfl)) pa_nil)) (pe_one (pe_call GW hr rfl gW FW.kp bW .nil pass0 (pa_cons (pe_ix ix_tup (pv 0) pe_int (fun _ _ => rfl)) pa_nil))))))), ?_⟩
    cases k with
    | other k n =>
      refine ⟨_, rfl, _, _, _, _, _, rfl, .ty "tuple", k.ty, kd_isi k.mem (by decide), _, rfl, ?_⟩
      have m := k.mem
      simp only [kinds, List.mem_cons, List.not_mem_nil, or_false] at m
      rcases m with rfl | rfl | rfl | rfl | rfl | rfl <;> first | exact absurd rfl n | exact q
    | @len p xs e n =>
      refine ⟨_, rfl, _, _, _, _, _, rfl, .ty "tuple", (Kd.tup (K := K) e).ty, kd_isi (T := "tuple") (by decide) (by decide), _, rfl, ?_⟩
      refine ⟨_, rfl, _, _, rfl, .inr (SqT.of e), ?_⟩
      refine ⟨rfl, _, rfl, ite2 (fun _ => q) fun hc => ?_⟩
      have hc : (xs.length : Int) = 2 := by simpa using hc
      exact absurd (by omega) n
    | two e ky kz n =>
      refine ⟨_, rfl, _, _, _, _, _, rfl, .ty "tuple", (Kd.tup (K := K) e).ty, kd_isi (T := "tuple") (by decide) (by decide), _, rfl, ?_⟩
      refine ⟨_, rfl, _, _, rfl, .inr (SqT.of e), ?_⟩
      refine ⟨rfl, _, rfl, ite2 (fun hc => absurd hc (by simp)) fun _ => ?_⟩
      refine ⟨_, rfl, _, _, _, _, rfl, rfl, SqT.of e, at0, _, _, rfl, ky, _, rfl, ite2 (fun h1 => ?_) fun _ => q⟩
      refine ⟨_, rfl, _, _, _, _, rfl, rfl, SqT.of e, at1, _, _, rfl, kz, ?_⟩
      have e1 := eq_of_beq h1
      rcases n with n | n
      · exact absurd e1 n
      · rw [beq_false_of_ne n]
        exact q
    | cell e =>
      refine ⟨_, rfl, _, _, _, _, _, rfl, .ty "tuple", (Kd.tup (K := K) e).ty, kd_isi (T := "tuple") (by decide) (by decide), _, rfl, ?_⟩
      refine ⟨_, rfl, _, _, rfl, .inr (SqT.of e), ?_⟩
      refine ⟨rfl, _, rfl, ite2 (fun hc => absurd hc (by simp [cV])) fun _ => ?_⟩
      refine ⟨_, rfl, _, _, _, _, rfl, rfl, SqT.of e, at0, _, _, rfl, Kd.int, _, rfl, ite2 (fun h1 => ?_) fun h1 => absurd rfl h1⟩
      exact ⟨_, rfl, _, _, _, _, rfl, rfl, SqT.of e, at1, _, _, rfl, Kd.int, q⟩
/-- plain_cell(cell) -/
def spPlain : Sp := fun vs H Q _ => ∃ (p : Addr) (c : Cell), vs = [.ref p] ∧ At H p c ∧ ∀ q, H q = none → Q (.ref q) (upd H q (.tup (cV c)))
theorem scPl : FnScope ["cell"] ["cell"] (defScope gPlain) := ⟨rfl, rfl, rfl, by decide +kernel, rfl, by decide +kernel, by decide +kernel⟩
theorem two_le : (2 : Nat) ≤ sizeLine := by rw [sizeLine_eq]; decide
theorem four_le : (4 : Nat) ≤ sizeLine := by rw [sizeLine_eq]; decide
theorem ok_plain {f : Addr} {fd : FuncData} (F : FnP K "plain_cell" gPlain f fd) (gI : mg "int" = none) : FnOk P w K mg base CX0 1 f fd ["cell"] spPlain := by
  refine F.ok scPl (fun vs H Q E h => ?_) (fun cdv A outer s H vs Q E hr h => ?_)
  · obtain ⟨p, c, rfl, _⟩ := h
    rfl
  · obtain ⟨p, c, rfl, e, k⟩ := h
    refine ⟨_, PSs.nox (pss_one (ps_ret (pe_tup (pa_cons (pe_callTy call_int1 (by rfl) gI PyProof.Rows.boot_int (pa_cons (pe_ix ix_tup (pv 0) pe_int (fun _ _ => rfl)) pa_nil)) (pa_cons (pe_callTy call_int1 (by rfl) gI PyProof.Rows.boot_int (pa_cons (pe_ix ix_tup (pv 0) pe_int (fun _ _ => rfl)) pa_nil)) pa_nil))))), ?_⟩
    exact ⟨_, rfl, _, _, _, _, rfl, rfl, SqT.of e, at0, .inl ⟨_, rfl, _, rfl, _, _, _, _, rfl, rfl, SqT.of e, at1, .inl ⟨_, rfl, two_le, fun q hq => k q hq⟩⟩⟩
/-- checked_cell(value): its cell, or BadCell(value) -/
def spChecked (K : PySem.W.Frag) (CB : Addr) : Sp := fun vs H Q E => ∃ (x : V), vs = [x] ∧ ((∃ p c, x = .ref p ∧ At H p c ∧ ∀ q, H q = none → Q (.ref q) (upd H q (.tup (cV c)))) ∨ (CellQ K H x false ∧ ∀ d, H d = none → E (.ref CB) (some d) (upd H d (.xd [("cell", x)]))))
theorem scCh : FnScope ["value"] ["value"] (defScope gChecked) := ⟨rfl, rfl, rfl, by decide +kernel, rfl, by decide +kernel, by decide +kernel⟩
/-- what is known of an error class of the program -/
structure ErrC (P : Program) (K : PySem.W.Frag) (mg : Str → Option Value) (x : Str) (C fI : Addr) (ns : List Str) : Prop where
  s : SErr P K C fI ns
  g : mg x = some (.ref C)
  ex : PySem.W.subIn K (.ref C) (.type "BaseException") = some true
  ty : PySem.W.typeIn K (.ref C) = some (.type "type")
theorem ok_checked {f fI fW fP CB fB : Addr} {fd fdI fdW fdP : FuncData} (F : FnP K "checked_cell" gChecked f fd) (FI : FnP K "is_cell" gIsCell fI fdI) (FW : FnP K "is_whole" gWhole fW fdW) (FP : FnP K "plain_cell" gPlain fP fdP) (B : ErrC P K mg "BadCell" CB fB ["cell"])
    (gC : mg "is_cell" = some (.ref fI)) (gP : mg "plain_cell" = some (.ref fP)) (gW : mg "is_whole" = some (.ref fW)) (gIs : mg "isinstance" = none) (gI : mg "int" = none) (gB : mg "bool" = none) (gT : mg "tuple" = none) (gL : mg "len" = none) :
    FnOk P w K mg base (L2.CX P w) 3 f fd ["value"] (spChecked K CB) := by
  have GI : FnOk P w K mg base CX0 2 fI fdI ["value"] (spIsCell K) := ok_isCell FI FW gW gIs gI gB gT gL
  have bI : Binds K fdI ["value"] [] := FI.bindsN fun _ _ _ _ _ _ us hl => match us, hl with | [_], _ => rfl
  have GP : FnOk P w K mg base CX0 1 fP fdP ["cell"] spPlain := ok_plain FP gI
  have bP : Binds K fdP ["cell"] [] := FP.bindsN fun _ _ _ _ _ _ us hl => match us, hl with | [_], _ => rfl
  refine F.ok scCh (fun vs H Q E h => ?_) (fun cdv A outer s H vs Q E hr h => ?_)
  · obtain ⟨x, rfl, _⟩ := h
    rfl
  · have hr1 : Room 1 _ := hr.mono (by decide)
    refine ⟨_, pss_cons (ps_if (pt_not (pt_val (pe_call GI hr rfl gC FI.kp bI .nil pass0 (pa_cons (pv 0) pa_nil))))
        (pss_one (ps_raise rfl (takes_of rfl rfl rfl rfl) (pmk_err B.s (raises_own B.ex B.ty) hr1 B.g (pa_cons (pv 0) pa_nil)))) pss_nil)
      (pss_one (ps_ret (pe_call GP hr1 rfl gP FP.kp bP .nil pass0 (pa_cons (pv 0) pa_nil)))), ?_⟩
    obtain ⟨x, rfl, ⟨p, c, rfl, e, k⟩ | ⟨k, q⟩⟩ := h
    · exact ⟨_, rfl, _, _, rfl, .cell e, _, rfl, _, rfl, p, c, rfl, e, k⟩
    · exact ⟨_, rfl, _, _, rfl, k, _, rfl, _, rfl, rfl, List.cons_ne_nil _ _, q⟩
/-- t holds a tuple of these cells -/
def CellsT (H : Hp) (t : Addr) (cs : List Cell) : Prop := ∃ qs : List Addr, H t = some (.tup (qs.map V.ref)) ∧ Paired (fun q c => At H q c) qs cs
def spFour : Sp := fun vs H Q _ => ∃ (p : Addr) (c : Cell), vs = [.ref p] ∧ At H p c ∧ ∀ t H', Same H H' → H t = none → CellsT H' t (besideC c) → Q (.ref t) H'
theorem scFo : FnScope ["cell", "column", "row"] ["cell"] (defScope gFour) := ⟨rfl, rfl, rfl, by decide +kernel, rfl, by decide +kernel, by decide +kernel⟩
end
end Sq

set_option Elab.async false
set_option linter.all false
set_option maxRecDepth 100000
set_option maxHeartbeats 4000000
/-! The four beside a cell; a lot of cells, without one, near ones. -/
namespace Sq
open PySem PySem.Spec PyProof.Rows L2
theorem same_new {H : Hp} {p : Addr} {o : HO} (h : H p = none) : Same H (upd H p o) := fun b u e => by
  rw [upd_ne (ne_of_none e h)]
  exact e
theorem At.same {H H' : Hp} {q : Addr} {c : Cell} (h : At H q c) (k : Same H H') : At H' q c := k _ _ h
theorem paired_imp {α β : Type} {F G : α → β → Prop} (k : ∀ a b, F a b → G a b) : ∀ {xs : List α} {ys : List β}, Paired F xs ys → Paired G xs ys
  | _, _, .nil => .nil
  | _, _, .cons h t => .cons (k _ _ h) (paired_imp k t)
theorem CellsT.same {H H' : Hp} {t : Addr} {cs : List Cell} (h : CellsT H t cs) (k : Same H H') : CellsT H' t cs := by
  obtain ⟨qs, e, r⟩ := h
  exact ⟨qs, k _ _ e, paired_imp (fun _ _ a => At.same a k) r⟩
section
variable {P : Program} {w : World} {K : PySem.W.Frag} {mg : Str → Option Value} {base : Heap}
theorem ok_four {f : Addr} {fd : FuncData} (F : FnP K "four_beside" gFour f fd) : FnOk P w K mg base CX0 1 f fd ["cell"] spFour := by
  refine F.ok scFo (fun vs H Q E h => ?_) (fun cdv A outer s H vs Q E hr h => ?_)
  · obtain ⟨p, c, rfl, _⟩ := h
    rfl
  · obtain ⟨p, c, rfl, e, k⟩ := h
    refine ⟨_, PSs.nox (pss_cons (ps_asg (pv 0) (pg_tup (by rfl) (pgs_cons (pg_name (i := 1) scFo.nd rfl (.inl rfl)) (pgs_cons (pg_name (i := 2) scFo.nd rfl (.inl rfl)) pgs_nil))))
      (pss_one (ps_ret (pe_tup (pa_cons (pe_tup (pa_cons (pe_op op_sub (pv 1) pe_int) (pa_cons (pv 2) pa_nil))) (pa_cons (pe_tup (pa_cons (pv 1) (pa_cons (pe_op op_sub (pv 2) pe_int) pa_nil)))
        (pa_cons (pe_tup (pa_cons (pe_op op_add (pv 1) pe_int) (pa_cons (pv 2) pa_nil))) (pa_cons (pe_tup (pa_cons (pv 1) (pa_cons (pe_op op_add (pv 2) pe_int) pa_nil))) pa_nil)))))))), ?_⟩
    refine ⟨_, rfl, p, _, rfl, SqT.of e, rfl, _, _, rfl, _, _, rfl, rfl, ?_⟩
    refine ⟨_, rfl, _, _, rfl, rfl, _, rfl, two_le, fun t1 h1 => ?_⟩
    refine ⟨_, rfl, _, rfl, _, _, rfl, rfl, two_le, fun t2 h2 => ?_⟩
    refine ⟨_, rfl, _, _, rfl, rfl, _, rfl, two_le, fun t3 h3 => ?_⟩
    refine ⟨_, rfl, _, rfl, _, _, rfl, rfl, two_le, fun t4 h4 => ?_⟩
    refine ⟨four_le, fun t5 h5 => ?_⟩
    have s1 := same_new (o := .tup [.int (c.1 - 1), .int c.2]) h1
    have s2 := same_new (o := .tup [.int c.1, .int (c.2 - 1)]) h2
    have s3 := same_new (o := .tup [.int (c.1 + 1), .int c.2]) h3
    have s4 := same_new (o := .tup [.int c.1, .int (c.2 + 1)]) h4
    have s5 := same_new (o := .tup [.ref t1, .ref t2, .ref t3, .ref t4]) h5
    refine k t5 _ (((s1.trans s2).trans s3).trans s4 |>.trans s5) (s1.free (s2.free (s3.free (s4.free h5)))) ⟨[t1, t2, t3, t4], upd_same, ?_⟩
    refine .cons ?_ (.cons ?_ (.cons ?_ (.cons ?_ .nil)))
    · exact s5 _ _ (s4 _ _ (s3 _ _ (s2 _ _ upd_same)))
    · exact s5 _ _ (s4 _ _ (s3 _ _ upd_same))
    · exact s5 _ _ (s4 _ _ upd_same)
    · exact s5 _ _ upd_same
end
/-- a lot of cells as a dict's pairs -/
def lotK (L : List Cell) : List (List Key × V) := L.map fun c => (cK c, .bl true)
theorem lot_val (c : Cell) : ∀ L : List Cell, valV (lotK L) (cK c) = if c ∈ L then some (.bl true) else none
  | [] => by rw [if_neg (by simp)]; rfl
  | d :: L => by
    show valV ((cK d, V.bl true) :: lotK L) (cK c) = _
    by_cases h : d = c
    · subst h
      rw [valV_pos rfl, if_pos (List.mem_cons_self ..)]
    · rw [valV_neg (fun e => h (cK_inj e)), lot_val c L]
      by_cases m : c ∈ L
      · rw [if_pos m, if_pos (List.mem_cons_of_mem _ m)]
      · rw [if_neg m, if_neg (fun w => (List.mem_cons.mp w).elim (fun e => h e.symm) m)]
theorem lot_is (c : Cell) (L : List Cell) : (valV (lotK L) (cK c)).isSome = decide (c ∈ L) := by
  rw [lot_val]
  by_cases m : c ∈ L
  · rw [if_pos m, decide_eq_true m]
    rfl
  · rw [if_neg m, decide_eq_false m]
    rfl
theorem lot_put {c : Cell} {L : List Cell} (n : c ∉ L) : putK (lotK L) (cK c) (.bl true) = lotK (L ++ [c]) := by
  rw [putK_new _ (by rw [lot_val, if_neg n])]
  simp [lotK]
theorem lot_keys (L : List Cell) : (lotK L).map (·.1) = L.map cK := by simp [lotK]
theorem lot_len (L : List Cell) : (lotK L).length = L.length := by simp [lotK]
/-- in, for a cell and a lot -/
theorem dget_lot {H : Hp} {d q : Addr} {L : List Cell} {c : Cell} (hd : H d = some (.dT (lotK L))) (hq : At H q c) : DGet H d (.ref q) (valV (lotK L) (cK c)) := DGet.t hd hq
theorem dput_lot {H : Hp} {d q : Addr} {L : List Cell} {c : Cell} (hd : H d = some (.dT (lotK L))) (hq : At H q c) (n : c ∉ L) (hl : L.length < sizeLine) : DPut H d (.ref q) (.bl true) (upd H d (.dT (lotK (L ++ [c])))) := lot_put n ▸ DPut.t hd hq (by rw [lot_len]; exact hl)
theorem paired_get {α β : Type} {F : α → β → Prop} {i : Nat} {x : α} : ∀ {xs : List α} {ys : List β}, Paired F xs ys → xs[i]? = some x → ∃ y, ys[i]? = some y ∧ F x y
  | _, _, .nil, e => by simp at e
  | _ :: _, _ :: _, .cons h t, e => by
    cases i with
    | zero =>
      simp only [List.getElem?_cons_zero, Option.some.injEq] at e
      exact ⟨_, rfl, e ▸ h⟩
    | succ i =>
      simp only [List.getElem?_cons_succ] at e ⊢
      exact paired_get t e
theorem yesT {σ : L2.St} {H : Hp} {A B : Hp → Prop} (h : A H) : tYes σ H fun b H3 => if b = true then A H3 else B H3 := by
  show if true = true then A H else B H
  rw [if_pos rfl]
  exact h
theorem nodup_take {α : Type} {xs : List α} {i : Nat} {x : α} (nd : xs.Nodup) (h : xs[i]? = some x) : x ∉ xs.take i := fun m => by
  obtain ⟨j, hj⟩ := List.mem_iff_getElem?.mp m
  have hl := (List.getElem?_eq_some_iff.mp hj).1
  rw [List.length_take] at hl
  have hji : j < i := by omega
  rw [List.getElem?_take_of_lt hji] at hj
  have e : j = i := (List.getElem?_inj (List.getElem?_eq_some_iff.mp hj).1 nd).mp (hj.trans h.symm)
  omega
def spLot : Sp := fun vs H Q _ => ∃ (t : Addr) (cs : List Cell), vs = [.ref t] ∧ CellsT H t cs ∧ cs.Nodup ∧ cs.length ≤ 1000 ∧ ∀ d H', Same H H' → H d = none → H' d = some (.dT (lotK cs)) → Q (.ref d) H'
theorem take_snoc {α : Type} {xs : List α} {i : Nat} {x : α} (h : xs[i]? = some x) : xs.take (i + 1) = xs.take i ++ [x] := by
  rw [List.take_succ, h]
  rfl
section
variable {P : Program} {w : World} {K : PySem.W.Frag} {mg : Str → Option Value} {base : Heap}
theorem scLo : FnScope ["cells", "cell"] ["cells"] (defScope gLot) := ⟨rfl, rfl, rfl, by decide +kernel, rfl, by decide +kernel, by decide +kernel⟩
theorem ok_lot {f fP : Addr} {fd fdP : FuncData} (F : FnP K "lot_of" gLot f fd) (FP : FnP K "plain_cell" gPlain fP fdP) (gP : mg "plain_cell" = some (.ref fP)) (gI : mg "int" = none) : FnOk P w K mg base CX0 2 f fd ["cells"] spLot := by
  have GP : FnOk P w K mg base CX0 1 fP fdP ["cell"] spPlain := ok_plain FP gI
  have bP : Binds K fdP ["cell"] [] := FP.bindsN fun _ _ _ _ _ _ us hl => match us, hl with | [_], _ => rfl
  refine F.ok scLo (fun vs H Q E h => ?_) (fun cdv A outer s H vs Q E hr h => ?_)
  · obtain ⟨t, cs, rfl, _⟩ := h
    rfl
  · obtain ⟨t, cs, rfl, ⟨qs, et, pr⟩, nd, big, k⟩ := h
    refine ⟨_, PSs.nox (pss_one (ps_ret (pe_dct (o0 := .dT []) (own := [("cell", 1)]) (g := gName 1) (tt := tYes) (.inr rfl) rfl (hu_of hr) scLo.nd (pi_tup (pv 0)) (blkOk_by (N := ["cells", "cell"]) (sc := defScope gLot) (by decide +kernel)) (fun _ _ _ _ _ => pg_name (i := 1) scLo.nd rfl (Or.inl rfl)) (fun _ _ _ _ _ => pts_nil)
      (fun _ _ _ _ _ => pe_call GP hr rfl gP FP.kp bP .nil pass0 (pa_cons (pv 1) pa_nil)) (fun _ _ _ _ _ => pe_bl)))), ?_⟩
    refine ⟨_, rfl, t, rfl, ⟨_, SqT.of et⟩, fun D hD => dct_it (walk_tup (K := K) (a := t) (xs := qs.map V.ref)) (fun i G => Same H G ∧ G D = some (.dT (lotK (cs.take i)))) ⟨same_new hD, upd_same⟩ (fun i G _ p => SqT.of (p.1 _ _ et)) ?_ ?_⟩
    · rintro i x G G' hi ⟨sm, gd⟩ ⟨rfl, hx⟩
      rw [List.getElem?_map] at hx
      obtain ⟨q, hq, rfl⟩ := Option.map_eq_some_iff.mp hx
      obtain ⟨c, hc, ac⟩ := paired_get pr hq
      refine ⟨rfl, yesT ⟨_, rfl, q, c, rfl, ac.same sm, fun p hp => ?_⟩⟩
      have hne : D ≠ p := ne_of_none gd hp
      have gd' : upd G' p (.tup (cV c)) D = some (.dT (lotK (cs.take i))) := by rw [upd_ne hne]; exact gd
      have out : c ∉ cs.take i := nodup_take nd hc
      refine ⟨_, dput_lot gd' upd_same out (by rw [List.length_take, sizeLine_eq]; omega), fun b u e => ?_, ?_⟩
      · have hb : b ≠ D := fun z => by rw [z, hD] at e; cases e
        rw [upd_ne hb]
        exact (sm.trans (same_new hp)) b u e
      · rw [upd_same, take_snoc hc]
    · rintro G ⟨sm, gd⟩
      have el : (qs.map V.ref).length = cs.length := by rw [List.length_map]; exact Paired.length pr
      rw [el, List.take_length] at gd
      exact k D G sm hD gd
end
end Sq

set_option Elab.async false
set_option linter.all false
set_option maxRecDepth 100000
set_option maxHeartbeats 4000000
/-! A lot without a cell; the near ones in a lot. -/
namespace Sq
open PySem PySem.Spec PyProof.Rows L2
theorem room64 {k : Nat} {A : Around} (hr : Room k A) : A.units + 64 < cLine := by have := hr.un; omega
theorem room2 {k : Nat} {A : Around} (hr : Room k A) : A.units + 2 < cLine := by have := hr.un; omega
theorem op_neK {X : Cx} {K : PySem.W.Frag} (hK : X.K = K) (hu : X.A.units + 64 < cLine) : OpR X (compareOp .NotEq) (rNeD K) := hK ▸ op_neD hu
theorem op_eqK {X : Cx} {K : PySem.W.Frag} (hK : X.K = K) (hu : X.A.units + 64 < cLine) : OpR X (compareOp .Eq) (rEqD K) := hK ▸ op_eqD hu
/-- a cell as data -/
def cD (c : Cell) : PyData := .tuple [.int c.1, .int c.2]
theorem At.dp {K : PySem.W.Frag} {H : Hp} {q : Addr} {c : Cell} (h : At H q c) : Dp K H (.ref q) (cD c) := .tup (SqT.of h) (.cons (.int _) (.cons (.int _) .nil))
theorem cD_eqv (c d : Cell) : PyData.eqv (cD c) (cD d) = decide (c = d) := by
  obtain ⟨c1, c2⟩ := c
  obtain ⟨d1, d2⟩ := d
  simp only [cD, PyData.eqv, PyData.eqvAll, Bool.and_true, Prod.mk.injEq, Bool.decide_and]
  rw [show (c1 == d1) = decide (c1 = d1) from rfl, show (c2 == d2) = decide (c2 = d2) from rfl]
theorem cD_shaped (c : Cell) : SeqAt.shaped (cD c) = true := by
  obtain ⟨c1, c2⟩ := c
  rfl
def without (L : List Cell) (c : Cell) : List Cell := L.filter fun d => decide (d ≠ c)
theorem without_snoc (L : List Cell) (c d : Cell) : without (L ++ [d]) c = if d = c then without L c else without L c ++ [d] := by
  unfold without
  rw [List.filter_append]
  by_cases h : d = c
  · simp [h]
  · simp [h]
def spWithout : Sp := fun vs H Q _ => ∃ (d q : Addr) (L : List Cell) (c : Cell), vs = [.ref d, .ref q] ∧ H d = some (.dT (lotK L)) ∧ L.Nodup ∧ L.length ≤ 1000 ∧ At H q c ∧ ∀ e H', Same H H' → H e = none → H' e = some (.dT (lotK (without L c))) → Q (.ref e) H'
section
variable {P : Program} {w : World} {K : PySem.W.Frag} {mg : Str → Option Value} {base : Heap}
theorem scWo : FnScope ["lot", "cell", "other"] ["lot", "cell"] (defScope gWithout) := ⟨rfl, rfl, rfl, by decide +kernel, rfl, by decide +kernel, by decide +kernel⟩
theorem ok_without {f : Addr} {fd : FuncData} (F : FnP K "lot_without" gWithout f fd) : FnOk P w K mg base CX0 1 f fd ["lot", "cell"] spWithout := by
  refine F.ok scWo (fun vs H Q E h => ?_) (fun cdv A outer s H vs Q E hr h => ?_)
  · obtain ⟨d, q, L, c, rfl, _⟩ := h
    rfl
  · obtain ⟨d, q, L, c, rfl, ed, nd, big, aq, k⟩ := h
    have h64 := room64 hr
    refine ⟨_, PSs.nox (pss_one (ps_ret (pe_lock (pe_dct (o0 := .dT []) (own := [("other", 2)]) (g := gName 2) (.inr rfl) rfl (hu_of hr) scWo.nd (pi_keys (pv 0)) (blkOk_by (N := ["lot", "cell", "other"]) (sc := defScope gWithout) (by decide +kernel)) (fun _ _ _ _ _ => pg_name (i := 2) scWo.nd rfl (Or.inl rfl))
      (fun _ _ _ _ _ => pts_one (pt_cmpR (op_neK (K := K) rfl h64) (pv 2) (pv 1) (nomark _))) (fun _ _ _ _ _ => pv 2) (fun _ _ _ _ _ => pe_bl))))), ?_⟩
    refine ⟨d, _, ed, trivial, fun od => ⟨_, rfl, d, od, rfl, .inr ⟨_, upd_same, fun D hD => ?_⟩⟩⟩
    have hDd : D ≠ d := fun z => by rw [z, upd_same] at hD; cases hD
    have hD0 : H D = none := by rw [upd_ne hDd] at hD; exact hD
    refine dct_it walk_keysT (fun i G => (∀ b o, b ≠ d → H b = some o → G b = some o) ∧ G d = some (.frz od (.dT (lotK L))) ∧ G D = some (.dT (lotK (without (L.take i) c)))) ⟨fun b o hb e => ?_, ?_, upd_same⟩ (fun i G _ p => p.2.1) ?_ ?_
    · rw [upd_ne (ne_of_none e hD0), upd_ne hb]
      exact e
    · rw [upd_ne (Ne.symm hDd)]
      exact upd_same
    · rintro i x G G' hi ⟨kp, gd, gD⟩ ⟨rfl, ky, v, p, hk, rfl, hp⟩
      obtain ⟨e, he, ek⟩ : ∃ e, L[i]? = some e ∧ (cK e, V.bl true) = (ky, v) := by
        unfold lotK at hk
        rw [List.getElem?_map] at hk
        exact Option.map_eq_some_iff.mp hk
      cases ek
      have ae : At G' p e := hp
      have ac : At G' q c := kp _ _ (fun z => nomatch (show some (HO.tup (cV c)) = some (.dT (lotK L)) from by rw [← ed, ← z]; exact aq.symm)) aq
      refine ⟨rfl, _, rfl, _, rfl, cD e, cD c, ae.dp, ac.dp, cD_shaped e, cD_shaped c, _, rfl, ?_⟩
      rw [cD_eqv]
      refine ite2 (fun hc => ?_) (fun hc => ?_)
      · have ne : e ≠ c := by simpa using hc
        have out : e ∉ without (L.take i) c := fun m => nodup_take nd he (List.mem_filter.mp m).1
        have len : (without (L.take i) c).length ≤ 1000 := Nat.le_trans (List.length_filter_le _ _) (Nat.le_trans (by rw [List.length_take]; exact Nat.min_le_right _ _) big)
        refine ⟨_, rfl, _, dput_lot gD ae out (by rw [sizeLine_eq]; omega), fun b o hb e2 => ?_, ?_, ?_⟩
        · rw [upd_ne (fun z => by rw [z, hD0] at e2; cases e2)]
          exact kp b o hb e2
        · rw [upd_ne (Ne.symm hDd)]
          exact gd
        · rw [upd_same, take_snoc he, without_snoc, if_neg ne]
      · have ec : e = c := by simpa using hc
        refine ⟨kp, gd, ?_⟩
        rw [take_snoc he, without_snoc, if_pos ec]
        exact gD
    · rintro G ⟨kp, gd, gD⟩
      rw [lot_len, List.take_length] at gD
      refine ⟨gd, k D _ (fun b o e => ?_) hD0 ?_⟩
      · by_cases hb : b = d
        · rw [hb, upd_same]
          rw [hb, ed] at e
          exact e
        · rw [upd_ne hb]
          exact kp b o hb e
      · rw [upd_ne hDd]
        exact gD
end
end Sq

set_option Elab.async false
set_option linter.all false
set_option maxRecDepth 100000
set_option maxHeartbeats 4000000
/-! The near ones; the flood; hanging together. -/
namespace Sq
open PySem PySem.Spec PyProof.Rows L2
/-- l holds a list of these cells -/
def CellsL (H : Hp) (l : Addr) (cs : List Cell) : Prop := ∃ qs : List Addr, H l = some (.lst (qs.map V.ref)) ∧ Paired (fun q c => At H q c) qs cs
def nearC (L : List Cell) (c : Cell) : List Cell := (besideC c).filter fun d => decide (d ∈ L)
def spNear : Sp := fun vs H Q _ => ∃ (d q : Addr) (L : List Cell) (c : Cell), vs = [.ref d, .ref q] ∧ H d = some (.dT (lotK L)) ∧ At H q c ∧ ∀ l H', Same H H' → H l = none → CellsL H' l (nearC L c) → Q (.ref l) H'
section
variable {P : Program} {w : World} {K : PySem.W.Frag} {mg : Str → Option Value} {base : Heap}
theorem scNe : FnScope ["lot", "cell", "near"] ["lot", "cell"] (defScope gNear) := ⟨rfl, rfl, rfl, by decide +kernel, rfl, by decide +kernel, by decide +kernel⟩
theorem ok_near {f fF : Addr} {fd fdF : FuncData} (F : FnP K "near_in" gNear f fd) (FF : FnP K "four_beside" gFour fF fdF) (gF : mg "four_beside" = some (.ref fF)) : FnOk P w K mg base CX0 2 f fd ["lot", "cell"] spNear := by
  have GF : FnOk P w K mg base CX0 1 fF fdF ["cell"] spFour := ok_four FF
  have bF : Binds K fdF ["cell"] [] := FF.bindsN fun _ _ _ _ _ _ us hl => match us, hl with | [_], _ => rfl
  refine F.ok scNe (fun vs H Q E h => ?_) (fun cdv A outer s H vs Q E hr h => ?_)
  · obtain ⟨d, q, L, c, rfl, _⟩ := h
    rfl
  · obtain ⟨d, q, L, c, rfl, ed, aq, k⟩ := h
    have hu := hu_of hr
    refine ⟨_, PSs.nox (pss_one (ps_ret (pe_lc (own := [("near", 2)]) (g := gName 2) rfl scNe.nd (pi_tup (pe_call GF hr rfl gF FF.kp bF .nil pass0 (pa_cons (pv 1) pa_nil))) (blkOk_by (N := ["lot", "cell", "near"]) (sc := defScope gNear) (by decide +kernel)) (fun _ _ _ _ _ => pg_name (i := 2) scNe.nd rfl (Or.inl rfl))
      (fun _ _ _ _ _ => pts_one (pt_cmp (pc_din hu (pv 2) (pv 0)))) (fun _ _ _ _ _ => pv 2)))), ?_⟩
    refine ⟨_, rfl, q, c, rfl, aq, fun t H1 s1 ht ⟨qs, et, pr⟩ => ⟨t, rfl, ⟨_, SqT.of et⟩, fun D hD => ?_⟩⟩
    refine lc_it (walk_tup (K := K) (a := t) (xs := qs.map V.ref)) (fun i G => Same H1 G ∧ ∃ rs : List Addr, G D = some (.lst (rs.map V.ref)) ∧ rs.length ≤ i ∧ Paired (fun r e => At H1 r e) rs (((besideC c).take i).filter fun e => decide (e ∈ L))) ⟨same_new hD, [], upd_same, Nat.le_refl _, .nil⟩ (fun i G _ p => SqT.of (p.1 _ _ et)) ?_ ?_
    · rintro i x G G' hi ⟨sm, rs, gD, ln, pp⟩ ⟨rfl, hx⟩
      rw [List.getElem?_map] at hx
      obtain ⟨p, hp, rfl⟩ := Option.map_eq_some_iff.mp hx
      obtain ⟨e, he, ae⟩ := paired_get pr hp
      have le : (qs.map V.ref).length = 4 := by rw [List.length_map]; exact Paired.length pr
      refine ⟨rfl, _, rfl, _, rfl, d, _, rfl, dget_lot (sm _ _ (s1 _ _ ed)) (ae.same sm), _, rfl, ?_⟩
      rw [lot_is]
      refine ite2 (fun hc => ?_) (fun hc => ?_)
      · refine ⟨_, rfl, _, gD, by rw [List.length_map, sizeLine_eq]; omega, fun b o e2 => ?_, rs ++ [p], by rw [upd_same]; simp, by rw [List.length_append]; exact Nat.succ_le_succ ln, ?_⟩
        · rw [upd_ne (fun z => by rw [z, hD] at e2; cases e2)]
          exact sm b o e2
        · rw [take_snoc he, List.filter_append]
          simp only [List.filter_cons, hc, if_true, List.filter_nil]
          exact pp.snoc ae
      · refine ⟨sm, rs, gD, Nat.le_succ_of_le ln, ?_⟩
        rw [take_snoc he, List.filter_append]
        have hc' : decide (e ∈ L) = false := Bool.eq_false_iff.mpr hc
        simp only [List.filter_cons, hc', Bool.false_eq_true, if_false, List.filter_nil, List.append_nil]
        exact pp
    · rintro G ⟨sm, rs, gD, _, pp⟩
      have le : (qs.map V.ref).length = (besideC c).length := by rw [List.length_map]; exact Paired.length pr
      rw [le, List.take_length] at pp
      exact k D G (s1.trans sm) (s1.free hD) ⟨rs, gD, paired_imp (fun _ _ a => a.same sm) pp⟩
end
end Sq

set_option Elab.async false
set_option linter.all false
set_option maxRecDepth 100000
set_option maxHeartbeats 4000000
/-! The flood. -/
namespace Sq
open PySem PySem.Spec PyProof.Rows L2
structure Fl (H : Hp) (L : List Cell) (c0 : Cell) (fo ah : Addr) (F A : List Cell) (G : Hp) : Prop where
  same : Same H G
  gf : G fo = some (.dT (lotK F))
  ga : CellsL G ah A
  nd : F.Nodup
  cF : c0 ∈ F
  re : ∀ x ∈ F, Reach L c0 x
  sub : ∀ x ∈ A, x ∈ F
  len : A.length ≤ F.length
theorem snoc_inv {α : Type} {xs : List α} (h : xs ≠ []) : ∃ ys y, xs = ys ++ [y] := ⟨xs.dropLast, xs.getLast h, (List.dropLast_concat_getLast h).symm⟩
theorem paired_unsnoc {α β : Type} {F : α → β → Prop} {xs : List α} {x : α} {ys : List β} {y : β} (h : Paired F (xs ++ [x]) (ys ++ [y])) : Paired F xs ys ∧ F x y := by
  induction xs generalizing ys with
  | nil =>
    cases ys with
    | nil =>
      cases h with
      | cons a _ => exact ⟨.nil, a⟩
    | cons z zs =>
      have l := Paired.length h
      simp at l
  | cons a xs ih =>
    cases ys with
    | nil =>
      have l := Paired.length h
      simp at l
    | cons z zs =>
      cases h with
      | cons p t =>
        obtain ⟨h1, h2⟩ := ih t
        exact ⟨.cons p h1, h2⟩
def FlW (H : Hp) (L : List Cell) (c0 : Cell) (d q fo ah : Addr) (m : Nat) (σ : L2.St) (G : Hp) : Prop := ∃ (F A : List Cell) (v4 v5 : Option V), m = 2 * (L.length - F.length) + A.length ∧ σ = [some (.ref d), some (.ref q), some (.ref fo), some (.ref ah), v4, v5] ∧ Fl H L c0 fo ah F A G ∧
      ∀ x ∈ F, x ∉ A → ∀ y ∈ besideC x, y ∈ L → y ∈ F
def spFlood : Sp := fun vs H Q _ => ∃ (d q : Addr) (L : List Cell) (c : Cell), vs = [.ref d, .ref q] ∧ H d = some (.dT (lotK L)) ∧ L.Nodup ∧ L.length ≤ 1000 ∧ At H q c ∧ c ∈ L ∧
  ∀ e H' F, Same H H' → H e = none → H' e = some (.dT (lotK F)) → F.Nodup → (∀ x, x ∈ F ↔ Reach L c x) → Q (.ref e) H'
section
variable {P : Program} {w : World} {K : PySem.W.Frag} {mg : Str → Option Value} {base : Heap}
theorem scFl : FnScope ["lot", "first", "found", "ahead", "cell", "near"] ["lot", "first"] (defScope gFlood) := ⟨rfl, rfl, rfl, by decide +kernel, rfl, by decide +kernel, by decide +kernel⟩
theorem ok_flood {f : Addr} {fd : FuncData} (F : FnP K "flood" gFlood f fd) (DN : Df P w K mg base CX0 2 "near_in" ["lot", "cell"] spNear) : FnOk P w K mg base CX0 3 f fd ["lot", "first"] spFlood := by
  refine F.ok scFl (fun vs H Q E h => ?_) (fun cdv A outer s H vs Q E hr h => ?_)
  · obtain ⟨d, q, L, c, rfl, _⟩ := h
    rfl
  · obtain ⟨d, q, L, c0, rfl, ed, nL, lL, aq, cL, k⟩ := h
    have hu := hu_of hr
    refine ⟨_, PSs.nox (pss_cons (ps_set (i := 2) scFl.nd rfl (.inl rfl) (pe_disp1 (.inr rfl) hu (pv 1) pe_bl))
      (pss_cons (ps_set (i := 3) scFl.nd rfl (.inl rfl) (pe_lst (pa_cons (pv 1) pa_nil)))
      (pss_cons (ps_while PassesOwn.never (pt_truth (pv 3) (by intro _; rfl))
      (pss_cons (ps_set (i := 4) scFl.nd rfl (.inl rfl) (pe_bm0 PySem.F.plainAttrs_list PySem.F.slot_list_pop PySem.F.type_list_pop mt_pop (pv 3)))
        (pss_one (ps_for PassesOwn.never rfl (pi_list (pe_df DN hr (by rfl) pass0 (pa_cons (pv 0) (pa_cons (pv 4) pa_nil)))) (pg_name (i := 5) scFl.nd rfl (.inl rfl))
        (pss_one (ps_if (pt_cmp (pc_dnotin hu (pv 5) (pv 2)))
          (pss_cons (ps_dput hu (pv 2) (pv 5) pe_bl rfl)
            (pss_one (ps_expr (pe_bm PySem.F.plainAttrs_list PySem.F.slot_list_append PySem.F.type_list_append mt_append (pv 3) (pa_cons (pv 5) pa_nil)))))
          pss_nil))))))
      (pss_one (ps_ret (pv 2)))))), ?_⟩
    intro fo hfo
    refine ⟨_, rfl, _, dput_lot (L := []) upd_same (aq.new hfo) (by simp) (by rw [sizeLine_eq]; decide), ?_⟩
    rw [upd_upd]
    refine ⟨_, rfl, (by show 1 ≤ sizeLine; rw [sizeLine_eq]; decide), fun ah hah => ?_⟩
    have nah : ah ≠ fo := fun z => by rw [z, upd_same] at hah; cases hah
    have hah0 : H ah = none := by rw [upd_ne nah] at hah; exact hah
    refine ⟨FlW H L c0 d q fo ah, ⟨_, [c0], [c0], none, none, rfl, rfl, ⟨?_, ?_, ?_, by simp, by simp, ?_, fun _ h => h, Nat.le_refl _⟩, ?_⟩, ?_⟩
    · exact same_put (same_put same_refl hfo) hah0
    · rw [upd_ne (Ne.symm nah)]
      exact upd_same
    · exact ⟨[q], upd_same, .cons ((aq.new hfo).new hah) .nil⟩
    · intro x hx
      rw [List.mem_singleton.mp hx]
      exact .refl
    · intro x hx nx
      exact absurd hx nx
    · rintro m σ G ⟨F, A, v4, v5, rfl, rfl, I, cl⟩
      obtain ⟨qs, ea, pa⟩ := I.ga
      refine ⟨_, rfl, _, .inl ⟨_, SqL.of ea, rfl⟩, ?_⟩
      by_cases hA : A = []
      · subst hA
        cases pa
        have all : ∀ x, x ∈ F ↔ Reach L c0 x := fun x => ⟨I.re x, fun r => by
          induction r with
          | refl => exact I.cF
          | step _ hb hc ih => exact cl _ ih (by simp) _ hb hc⟩
        refine ⟨_, rfl, k fo G F I.same hfo I.gf I.nd all⟩
      · obtain ⟨A', c, eA⟩ := snoc_inv (xs := A) hA
        have ne : qs ≠ [] := fun z => by rw [z, eA] at pa; have l := Paired.length pa; simp at l
        obtain ⟨qs', qc, eq⟩ := snoc_inv ne
        subst eA eq
        obtain ⟨pa', ac⟩ := paired_unsnoc pa
        have isE : (List.map V.ref (qs' ++ [qc])).isEmpty = false := by simp
        rw [isE]
        refine ⟨fun σ' G' => ∃ m', m' < 2 * (L.length - F.length) + (A' ++ [c]).length ∧ FlW H L c0 d q fo ah m' σ' G', fun _ _ h => h, ?_⟩
        have cF : c ∈ F := I.sub c (by simp)
        have cLm : c ∈ L := (I.re c cF).mem cL
        have lenF : F.length ≤ L.length := len_le I.nd fun x hx => (I.re x hx).mem cL
        refine ⟨_, rfl, .inl ⟨rfl, _, SqL.of ea⟩, ah, _, .ref qc, rfl, rfl, ea, by simp, ?_⟩
        have drop : (List.map V.ref (qs' ++ [qc])).dropLast = qs'.map V.ref := by simp
        rw [drop]
        have nfo : fo ≠ ah := Ne.symm nah
        have s1 : Same H (upd G ah (.lst (qs'.map V.ref))) := same_put I.same hah0
        have offA : ∀ {b : Addr} {x : Cell}, At G b x → At (upd G ah (.lst (qs'.map V.ref))) b x := fun h => h.off ea (by intro xs z; cases z)
        refine ⟨_, rfl, _, rfl, d, qc, L, c, rfl, s1 _ _ ed, offA ac, fun l G2 s2 hl ⟨ns, el, pn⟩ => ?_⟩
        refine ⟨l, rfl, ⟨_, SqL.of el⟩, ?_⟩
        have lah : l ≠ ah := fun z => by rw [z, upd_same] at hl; cases hl
        have lfo : l ≠ fo := fun z => by rw [z, upd_ne nfo, I.gf] at hl; cases hl
        refine for_list (K := K) (a := l) (xs := ns.map V.ref) (fun i σ G => ∃ (F2 A2 : List Cell) (v5 : Option V), 2 * (L.length - F2.length) + A2.length < 2 * (L.length - F.length) + (A' ++ [c]).length ∧ σ = [some (.ref d), some (.ref q), some (.ref fo), some (.ref ah), some (.ref qc), v5] ∧
          Fl H L c0 fo ah F2 A2 G ∧ c ∈ F2 ∧ G l = some (.lst (ns.map V.ref)) ∧ Paired (fun b x => At G b x) ns (nearC L c) ∧ (∀ x ∈ F2, x ∉ A2 → x ≠ c → ∀ y ∈ besideC x, y ∈ L → y ∈ F2) ∧ ∀ y ∈ (nearC L c).take i, y ∈ F2) ?_ ?_ ?_ ?_
        · refine ⟨F, A', v5, ?_, rfl, ⟨s1.trans s2, ?_, ⟨qs', ?_, ?_⟩, I.nd, I.cF, I.re, fun x hx => I.sub x (List.mem_append_left _ hx), ?_⟩, cF, el, pn, ?_, by simp⟩
          · rw [List.length_append]
            show _ < _ + (_ + 1)
            omega
          · refine s2 _ _ ?_
            rw [upd_ne nfo]
            exact I.gf
          · exact s2 _ _ upd_same
          · exact paired_imp (fun _ _ h => (offA h).same s2) pa'
          · have := I.len
            rw [List.length_append] at this
            omega
          · intro x hx nx nc
            refine cl x hx fun m => ?_
            rcases List.mem_append.mp m with m | m
            · exact nx m
            · exact nc (List.mem_singleton.mp m)
        · rintro i σ G hi ⟨F2, A2, v, _, _, _, _, e, _⟩
          exact SqL.of e
        · rintro i x σ G hi ⟨F2, A2, v, lt, rfl, J, c2, gl, pn2, cl2, tk⟩
          rw [List.getElem?_map] at hi
          obtain ⟨b, hb, rfl⟩ := Option.map_eq_some_iff.mp hi
          obtain ⟨y, hy, ay⟩ := paired_get pn2 hb
          have lF2 : F2.length ≤ L.length := len_le J.nd fun x hx => (J.re x hx).mem cL
          have yN : y ∈ nearC L c := List.mem_of_getElem? hy
          have yL : y ∈ L := of_decide_eq_true (List.mem_filter.mp yN).2
          have yB : y ∈ besideC c := (List.mem_filter.mp yN).1
          refine ⟨_, rfl, _, rfl, fo, _, rfl, dget_lot J.gf ay, _, rfl, ?_⟩
          rw [lot_is]
          refine ite2 (fun hc => ?_) (fun hc => ?_)
          · have nF : y ∉ F2 := by simpa using hc
            have lt2 : F2.length + 1 ≤ L.length := len_le (xs := y :: F2) (List.nodup_cons.mpr ⟨nF, J.nd⟩) fun x hx => (List.mem_cons.mp hx).elim (fun e => e ▸ yL) (fun h => (J.re x h).mem cL)
            obtain ⟨qs2, ea2, pa2⟩ := J.ga
            have lq : qs2.length = A2.length := Paired.length pa2
            refine ⟨_, rfl, _, rfl, fo, _, rfl, dput_lot J.gf ay nF (by rw [sizeLine_eq]; omega), ?_⟩
            have ea3 : upd G fo (.dT (lotK (F2 ++ [y]))) ah = some (.lst (qs2.map V.ref)) := by rw [upd_ne nah]; exact ea2
            have offF : ∀ {b : Addr} {x : Cell}, At G b x → At (upd G fo (.dT (lotK (F2 ++ [y])))) b x := fun h => h.off J.gf (by intro xs z; cases z)
            have offB : ∀ {b : Addr} {x : Cell}, At G b x → At (upd (upd G fo (.dT (lotK (F2 ++ [y])))) ah (.lst (qs2.map V.ref ++ [V.ref b]))) b x := fun h => (offF h).off ea3 (by intro xs z; cases z)
            refine ⟨_, rfl, .inl ⟨rfl, _, SqL.of ea3⟩, _, rfl, ah, _, _, rfl, rfl, ea3, by rw [List.length_map, sizeLine_eq]; have := J.len; omega, ?_⟩
            refine ⟨F2 ++ [y], A2 ++ [y], _, ?_, rfl, ⟨same_put (same_put J.same hfo) hah0, ?_, ⟨qs2 ++ [b], ?_, ?_⟩, ?_, List.mem_append_left _ J.cF, ?_, ?_, ?_⟩, List.mem_append_left _ c2, ?_, ?_, ?_, ?_⟩
            · rw [List.length_append, List.length_append]
              show 2 * (L.length - (F2.length + 1)) + (A2.length + 1) < _
              omega
            · rw [upd_ne nfo]
              exact upd_same
            · rw [upd_same, List.map_append]
              rfl
            · exact (paired_imp (fun _ _ h => (offF h).off ea3 (by intro xs z; cases z)) pa2).snoc (offB ay)
            · exact List.nodup_append.mpr ⟨J.nd, by simp, fun a ha b hb => by rw [List.mem_singleton.mp hb]; exact fun z => nF (z ▸ ha)⟩
            · intro x hx
              rcases List.mem_append.mp hx with h | h
              · exact J.re x h
              · rw [List.mem_singleton.mp h]
                exact (J.re c c2).step yB yL
            · intro x hx
              rcases List.mem_append.mp hx with h | h
              · exact List.mem_append_left _ (J.sub x h)
              · exact List.mem_append_right _ h
            · rw [List.length_append, List.length_append]
              exact Nat.succ_le_succ J.len
            · rw [upd_ne lah, upd_ne lfo]
              exact gl
            · exact paired_imp (fun _ _ h => (offF h).off ea3 (by intro xs z; cases z)) pn2
            · intro x hx nx nc z hz zL
              rcases List.mem_append.mp hx with h | h
              · exact List.mem_append_left _ (cl2 x h (fun m => nx (List.mem_append_left _ m)) nc z hz zL)
              · exact absurd (List.mem_append_right _ h) nx
            · intro z hz
              rw [take_snoc hy] at hz
              rcases List.mem_append.mp hz with h | h
              · exact List.mem_append_left _ (tk z h)
              · exact List.mem_append_right _ h
          · have yF : y ∈ F2 := by simpa using hc
            refine ⟨F2, A2, _, lt, rfl, J, c2, gl, pn2, cl2, fun z hz => ?_⟩
            rw [take_snoc hy] at hz
            rcases List.mem_append.mp hz with h | h
            · exact tk z h
            · rw [List.mem_singleton.mp h]
              exact yF
        · rintro σ G ⟨F2, A2, v, lt, rfl, J, c2, gl, pn2, cl2, tk⟩
          refine ⟨_, lt, F2, A2, _, _, rfl, rfl, J, fun x hx nx y hy yL => ?_⟩
          by_cases hxc : x = c
          · subst hxc
            refine tk y ?_
            have e : (ns.map V.ref).length = (nearC L x).length := by rw [List.length_map]; exact Paired.length pn2
            rw [e, List.take_length]
            exact List.mem_filter.mpr ⟨hy, decide_eq_true yL⟩
          · exact cl2 x hx nx hxc y hy yL
end
end Sq

set_option Elab.async false
set_option linter.all false
set_option maxRecDepth 100000
set_option maxHeartbeats 4000000
/-! Hanging together; what is near a move. -/
namespace Sq
open PySem PySem.Spec PyProof.Rows L2
def spHangs : Sp := fun vs H Q _ => ∃ (d : Addr) (L : List Cell), vs = [.ref d] ∧ H d = some (.dT (lotK L)) ∧ L.Nodup ∧ L.length ≤ 1000 ∧ ∀ H', Same H H' → Q (.bl (hangsB L)) H'
def turnsB (L : List Cell) (s e : Cell) : Bool := decide ((s.1, e.2) ∈ L) != decide ((e.1, s.2) ∈ L)
def sideB (L : List Cell) (s e d : Cell) : Bool := decide ((s.1 + d.1, s.2 + d.2) ∈ L) && decide ((e.1 + d.1, e.2 + d.2) ∈ L)
def slidesB (L : List Cell) (s e : Cell) : Bool := sideB L s e (e.2 - s.2, e.1 - s.1) || sideB L s e (-(e.2 - s.2), -(e.1 - s.1))
section
variable {P : Program} {w : World} {K : PySem.W.Frag} {mg : Str → Option Value} {base : Heap}
theorem scHa : FnScope ["lot"] ["lot"] (defScope gHangs) := ⟨rfl, rfl, rfl, by decide +kernel, rfl, by decide +kernel, by decide +kernel⟩
theorem ok_hangs {f : Addr} {fd : FuncData} (F : FnP K "lot_hangs" gHangs f fd) (B : Bl mg) (DF : Df P w K mg base CX0 3 "flood" ["lot", "first"] spFlood) : FnOk P w K mg base CX0 4 f fd ["lot"] spHangs := by
  refine F.ok scHa (fun vs H Q E h => ?_) (fun cdv A outer s H vs Q E hr h => ?_)
  · obtain ⟨d, L, rfl, _⟩ := h
    rfl
  · obtain ⟨d, L, rfl, ed, nL, lL, k⟩ := h
    refine ⟨_, PSs.nox (pss_one (ps_ret (pe_and (pe_cmpR op_gt (pe_callB call_len_dT (by rfl) B.len PySem.boot_len (pa_cons (pv 0) pa_nil)) pe_int (nomark _)) (pe_one (pe_cmpR op_eq (pe_callB call_len_dT (by rfl) B.len PySem.boot_len (pa_cons (pe_df DF hr (by rfl) pass0 (pa_cons (pv 0) (pa_cons (pe_callB (cr_minC rfl (room2 hr)) (by rfl) B.min (by decide +kernel) (pa_cons (pv 0) pa_nil)) pa_nil))) pa_nil)) (pe_callB call_len_dT (by rfl) B.len PySem.boot_len (pa_cons (pv 0) pa_nil)) (nomark _)))))), ?_⟩
    refine ⟨_, rfl, d, _, rfl, ed, _, _, rfl, rfl, _, rfl, ?_⟩
    rw [lot_len]
    refine ite2 (fun hc => ?_) (fun hc => ?_)
    · have pos : 0 < L.length := by
        have := of_decide_eq_true hc
        omega
      have ne : L ≠ [] := fun z => by rw [z] at pos; exact absurd pos (by simp)
      refine ⟨_, rfl, _, rfl, d, _, L, rfl, ed, lot_keys L, ne, fun c q hc hmin aq => ?_⟩
      refine ⟨d, q, L, c, rfl, ed, nL, lL, aq, hc, fun e H' F s1 he eF nF hF => ?_⟩
      refine ⟨e, _, rfl, eF, _, rfl, d, _, rfl, s1 _ _ ed, rfl, ?_⟩
      have eq : decide ((V.int ((lotK F).length : Int)) = V.int ((lotK L).length : Int)) = hangsB L := hangsB_of (by
        rw [decide_eq_true_iff, lot_len, lot_len, V.int.injEq, ← hangs_len hc nL nF hF]
        omega)
      show Q (.bl (decide _)) H'
      rw [eq]
      exact k H' s1
    · have z : L = [] := by
        have := fun h => hc (decide_eq_true h)
        cases L with
        | nil => rfl
        | cons a l => exact absurd (by show ((a :: l).length : Int) > 0; simp <;> omega) this
      have e : false = hangsB L := hangsB_of ⟨fun h => absurd h (by simp), fun h => absurd z h.1⟩
      rw [e]
      exact k H same_refl
end
end Sq

set_option Elab.async false
set_option linter.all false
set_option maxRecDepth 100000
set_option maxHeartbeats 4000000
/-! slides: any of a generator expression. -/
namespace Sq
open PySem PySem.Spec PyProof.Rows L2
section
variable {P : Program} {w : World} {K : PySem.W.Frag} {mg : Str → Option Value} {base : Heap}
end
end Sq

set_option Elab.async false
set_option linter.all false
set_option maxRecDepth 100000
set_option maxHeartbeats 4000000
/-! What stays of values; the kind of a move. -/
namespace Sq
open PySem PySem.Spec PyProof.Rows L2
/-- all but tables and the dicts with plain keys (the pen) stays -/
def Ek (H H' : Hp) : Prop := ∀ b o, (∀ ps, o ≠ HO.tbl ps) → (∀ kvs, o ≠ HO.dK kvs) → H b = some o → H' b = some o
theorem Ek.refl {H : Hp} : Ek H H := fun _ _ _ _ e => e
theorem Ek.trans {H G I : Hp} (h : Ek H G) (k : Ek G I) : Ek H I := fun b o n m e => k b o n m (h b o n m e)
theorem Ek.of {H G : Hp} (h : Same H G) : Ek H G := fun b o _ _ e => h b o e
theorem KT.ek {Ts : List Addr} {H G : Hp} (h : KT Ts H G) : Ek H G := fun _ _ n _ e => h.get e n
theorem Ek.at {H G : Hp} {q : Addr} {c : Cell} (h : Ek H G) (e : At H q c) : At G q c := h _ _ (fun _ z => nomatch z) (fun _ z => nomatch z) e
theorem Ek.tup {H G : Hp} {q : Addr} {xs : List V} (h : Ek H G) (e : H q = some (.tup xs)) : G q = some (.tup xs) := h _ _ (fun _ z => nomatch z) (fun _ z => nomatch z) e
theorem Ek.lst {H G : Hp} {q : Addr} {xs : List V} (h : Ek H G) (e : H q = some (.lst xs)) : G q = some (.lst xs) := h _ _ (fun _ z => nomatch z) (fun _ z => nomatch z) e
theorem Ek.dT {H G : Hp} {q : Addr} {xs : List (List Key × V)} (h : Ek H G) (e : H q = some (.dT xs)) : G q = some (.dT xs) := h _ _ (fun _ z => nomatch z) (fun _ z => nomatch z) e
theorem Ek.cells {H G : Hp} {qs : List Addr} {cs : List Cell} (h : Ek H G) (e : Paired (fun q c => At H q c) qs cs) : Paired (fun q c => At G q c) qs cs := paired_imp (fun _ _ a => h.at a) e
theorem CellsT.ek {H G : Hp} {t : Addr} {cs : List Cell} (h : CellsT H t cs) (k : Ek H G) : CellsT G t cs := by
  obtain ⟨qs, e, r⟩ := h
  exact ⟨qs, k.tup e, k.cells r⟩
theorem CellsL.ek {H G : Hp} {t : Addr} {cs : List Cell} (h : CellsL H t cs) (k : Ek H G) : CellsL G t cs := by
  obtain ⟨qs, e, r⟩ := h
  exact ⟨qs, k.lst e, k.cells r⟩
theorem Kd.ek {K : PySem.W.Frag} {H G : Hp} {x : V} {T : String} (h : Kd K H x T) (k : Ek H G) : Kd K G x T := by
  have m := h.mem
  have t := h.ty
  refine ⟨?_, m⟩
  have nd : T ≠ "dict" := fun z => by rw [z] at m; exact absurd m (by decide)
  have ns : T ≠ "set" := fun z => by rw [z] at m; exact absurd m (by decide)
  generalize e : (Value.type T) = u at t
  cases t with
  | base b =>
    cases b with
    | non => exact .base .non
    | bl y => exact .base (.bl y)
    | int i => exact .base (.int i)
    | str y => exact .base (.str y)
    | flt y => exact .base (.flt y)
    | lst ea => exact .base (.lst (k.lst ea))
    | frz ea => exact .base (.frz (k _ _ (fun _ z => nomatch z) (fun _ z => nomatch z) ea))
    | tup ea => exact .base (.tup (k.tup ea))
    | dK ea => exact absurd (Value.type.inj e) nd
    | dT ea => exact absurd (Value.type.inj e) nd
    | ins _ _ _ _ _ _ => cases e
  | byt b => exact .byt b
  | set ea => exact absurd (Value.type.inj e) ns
  | kList ea c => exact .kList ea c
  | kTuple ea c => exact .kTuple ea c
  | kDict ea c => exact .kDict ea c
  | fTuple ea => exact .fTuple (k _ _ (fun _ z => nomatch z) (fun _ z => nomatch z) ea)
  | fDict ea => exact absurd (Value.type.inj e) nd
theorem CellQ.ek {K : PySem.W.Frag} {H G : Hp} {x : V} {b : Bool} (h : CellQ K H x b) (k : Ek H G) : CellQ K G x b := by
  cases h with
  | other kd n => exact .other (kd.ek k) n
  | len e n => exact .len (k.tup e) n
  | two e ky kz n => exact .two (k.tup e) (ky.ek k) (kz.ek k) n
  | cell e => exact .cell (k.at e)
/-- as call_abs says it -/
def absI (i : Int) : Int := if i < 0 then -i else i
/-- the kind by the cells around -/
def byPlace (L : List Cell) (s e : Cell) : V :=
  if decide (s ∈ L) = false ∨ decide (e ∈ L) = true then .non
  else if absI (e.1 - s.1) + absI (e.2 - s.2) = 1 then (if slidesB L s e = true then .str "slide" else .non)
  else if absI (e.1 - s.1) = 1 ∧ absI (e.2 - s.2) = 1 then (if turnsB L s e = true then .str "turn" else .non) else .non
noncomputable def kindV (L : List Cell) (s e : Cell) : V := if byPlace L s e = .non ∨ hangsB (without L s) = false then .non else byPlace L s e
section
variable {P : Program} {w : World} {K : PySem.W.Frag} {mg : Str → Option Value} {base : Heap} {Ts : List Addr}
end
end Sq

set_option Elab.async false
set_option linter.all false
set_option maxRecDepth 100000
set_option maxHeartbeats 4000000
/-! Data stay where all but tables and the pen stays. -/
namespace Sq
open PySem PySem.Spec PyProof.Rows L2
section
variable {K : PySem.W.Frag} {H H' : Hp}
theorem Ek.rd (k : Ek H H') {l : Addr} {u : HO} (h1 : ∀ ps, u ≠ .tbl ps) (h2 : ∀ kvs, u ≠ .dK kvs) (h : Rd H l u) : Rd H' l u := by
  rcases h with h | ⟨o, h⟩
  · exact .inl (k l _ h1 h2 h)
  · exact .inr ⟨o, k l _ (fun _ z => nomatch z) (fun _ z => nomatch z) h⟩
theorem Ek.sqL (k : Ek H H') {l : Addr} {xs : List V} (h : SqL K H l xs) : SqL K H' l xs := h.elim (fun z => .inl (k.rd (fun _ q => nomatch q) (fun _ q => nomatch q) z)) .inr
theorem Ek.sqT (k : Ek H H') {l : Addr} {xs : List V} (h : SqT K H l xs) : SqT K H' l xs := h.elim (fun z => .inl (k.rd (fun _ q => nomatch q) (fun _ q => nomatch q) z)) .inr
mutual
theorem Ek.dp (k : Ek H H') : ∀ (d : PyData) (x : V), Dp K H x d → Dp K H' x d
  | .none, _, h => by
    cases h
    exact .non
  | .bool b, _, h => by
    cases h
    exact .bl b
  | .int i, _, h => by
    cases h
    exact .int i
  | .str s, _, h => by
    cases h
    exact .str s
  | .list ds, _, h => by
    cases h with
    | lst h1 h2 => exact .lst (k.sqL h1) (k.dps ds _ h2)
  | .tuple ds, _, h => by
    cases h with
    | tup h1 h2 => exact .tup (k.sqT h1) (k.dps ds _ h2)
  | .dict _, _, h => by cases h
theorem Ek.dps (k : Ek H H') : ∀ (ds : List PyData) (xs : List V), DpAll K H xs ds → DpAll K H' xs ds
  | [], _, h => by
    cases h
    exact .nil
  | d :: ds, _, h => by
    cases h with
    | cons h1 h2 => exact .cons (k.dp d _ h1) (k.dps ds _ h2)
end
/-- cells as data -/
theorem cells_dps : ∀ {qs : List Addr} {cs : List Cell}, Paired (fun q c => At H q c) qs cs → DpAll K H (qs.map V.ref) (cs.map cD)
  | _, _, .nil => .nil
  | _, _, .cons h t => .cons h.dp (cells_dps t)
theorem CellsT.dp {t : Addr} {cs : List Cell} (h : CellsT H t cs) : Dp K H (.ref t) (.tuple (cs.map cD)) := by
  obtain ⟨qs, e, pr⟩ := h
  exact .tup (SqT.of e) (cells_dps pr)
theorem CellsL.dp {t : Addr} {cs : List Cell} (h : CellsL H t cs) : Dp K H (.ref t) (.list (cs.map cD)) := by
  obtain ⟨qs, e, pr⟩ := h
  exact .lst (SqL.of e) (cells_dps pr)
end
end Sq

set_option Elab.async false
set_option linter.all false
set_option maxRecDepth 100000
set_option maxHeartbeats 4000000
/-! The links around a cell. -/
namespace Sq
open PySem PySem.Spec PyProof.Rows L2
structure CrossC (K : PySem.W.Frag) (mg : Str → Option Value) (a : Addr) (rs : List Addr) : Prop where
  g : mg "CROSSWISE" = some (.ref a)
  t : ∀ H, SqT K H a (rs.map V.ref)
  e : Paired (fun r d => ∀ H, SqT K H r (cV d)) rs crossL
def spLinks : Sp := fun vs H Q _ => ∃ (d q : Addr) (L : List Cell) (c : Cell), vs = [.ref d, .ref q] ∧ H d = some (.dT (lotK L)) ∧ At H q c ∧ ∀ H', Same H H' → Q (.int (linksN L c : Int)) H'
theorem links_snoc {L : List Cell} {c d : Cell} {i : Nat} (h : crossL[i]? = some d) : (((crossL.take (i + 1)).filter (linkB L c)).length : Int) = ((crossL.take i).filter (linkB L c)).length + (if linkB L c d = true then 1 else 0) := by
  rw [take_snoc h, List.filter_append, List.length_append]
  by_cases e : linkB L c d = true
  · rw [if_pos e]
    simp [List.filter_cons, e]
  · rw [if_neg e]
    simp [List.filter_cons, e]
section
variable {P : Program} {w : World} {K : PySem.W.Frag} {mg : Str → Option Value} {base : Heap}
theorem scLi : FnScope ["lot", "cell", "column", "row", "links", "across", "up", "crosswise"] ["lot", "cell"] (defScope gLinks) := ⟨rfl, rfl, rfl, by decide +kernel, rfl, by decide +kernel, by decide +kernel⟩
theorem ok_links {f sa : Addr} {srs : List Addr} {fd : FuncData} (F : FnP K "links_around" gLinks f fd) (ST : CrossC K mg sa srs) : FnOk P w K mg base CX0 1 f fd ["lot", "cell"] spLinks := by
  refine F.ok scLi (fun vs H Q E h => ?_) (fun cdv A outer s H vs Q E hr h => ?_)
  · obtain ⟨d, q, L, c, rfl, _⟩ := h
    rfl
  · obtain ⟨d, q, L, c, rfl, ed, aq, k⟩ := h
    have hu := hu_of hr
    refine ⟨_, PSs.nox (pss_cons (ps_asg (pv 1) (pg_tup (by rfl) (pgs_cons (pg_name (i := 2) scLi.nd rfl (.inl rfl)) (pgs_cons (pg_name (i := 3) scLi.nd rfl (.inl rfl)) pgs_nil))))
      (pss_cons (ps_set (i := 4) scLi.nd rfl (.inl rfl) pe_int)
      (pss_cons (ps_for PassesOwn.never rfl (pi_tup (pe_glob (v := .ref sa) (by rfl) ST.g rfl)) (pg_tup (by rfl) (pgs_cons (pg_name (i := 5) scLi.nd rfl (.inl rfl)) (pgs_cons (pg_name (i := 6) scLi.nd rfl (.inl rfl)) pgs_nil)))
      (pss_cons (ps_set (i := 7) scLi.nd rfl (.inl rfl) (pe_tup (pa_cons (pe_op op_add (pv 2) (pv 5)) (pa_cons (pe_op op_add (pv 3) (pv 6)) pa_nil))))
        (pss_one (ps_if (PW.pt (pw_and (pt_cmp (pc_din hu (pv 7) (pv 0))) (pw_and (pt_cmp (pc_din hu (pe_tup (pa_cons (pe_ix (ix_tupK (K := K) rfl) (pv 7) pe_int (fun _ _ => rfl)) (pa_cons (pv 3) pa_nil))) (pv 0))) (pw_and1 (pt_cmp (pc_din hu (pe_tup (pa_cons (pv 2) (pa_cons (pe_ix (ix_tupK (K := K) rfl) (pv 7) pe_int (fun _ _ => rfl)) pa_nil))) (pv 0)))))))
        (pss_one (ps_aug (i := 4) scLi.nd rfl (.inl rfl) pe_int ip_add))
        pss_nil))))
      (pss_one (ps_ret (pv 4)))))), ?_⟩
    refine ⟨_, rfl, q, _, rfl, SqT.of aq, rfl, _, _, rfl, _, _, rfl, rfl, ?_⟩
    refine ⟨sa, rfl, ⟨_, ST.t _⟩, ?_⟩
    refine for_tup (K := K) (a := sa) (xs := srs.map V.ref) (fun i σ G => ∃ (v5 v6 v7 : Option V), σ = [some (.ref d), some (.ref q), some (.int c.1), some (.int c.2), some (.int (((crossL.take i).filter (linkB L c)).length : Int)), v5, v6, v7] ∧ Same H G)
      ⟨none, none, none, rfl, same_refl⟩ (fun _ _ _ _ _ => ST.t _) ?_ ?_
    · rintro i x σ G hi ⟨v5, v6, v7, rfl, sm⟩
      rw [List.getElem?_map] at hi
      obtain ⟨r, hr2, rfl⟩ := Option.map_eq_some_iff.mp hi
      obtain ⟨e, he, ae⟩ := paired_get ST.e hr2
      refine ⟨r, _, rfl, ae _, rfl, _, _, rfl, _, _, rfl, rfl, ?_⟩
      refine ⟨_, rfl, _, rfl, _, _, rfl, rfl, _, rfl, _, rfl, _, _, rfl, rfl, two_le, fun t1 h1 => ?_⟩
      have s1 := same_new (o := .tup [.int (c.1 + e.1), .int (c.2 + e.2)]) h1
      have a1 : At (upd G t1 (.tup [.int (c.1 + e.1), .int (c.2 + e.2)])) t1 (c.1 + e.1, c.2 + e.2) := upd_same
      refine ⟨_, rfl, _, rfl, d, _, rfl, dget_lot (c := (c.1 + e.1, c.2 + e.2)) (s1 _ _ (sm _ _ ed)) a1, _, rfl, ?_⟩
      rw [lot_is]
      have sm1 := sm.trans s1
      have done : ∀ {G' : Hp}, Same H G' → linkB L c e = false → ∃ v5 v6 v7, [some (V.ref d), some (.ref q), some (.int c.1), some (.int c.2), some (.int (((crossL.take i).filter (linkB L c)).length : Int)), some (.int e.1), some (.int e.2), some (.ref t1)] = [some (.ref d), some (.ref q), some (.int c.1), some (.int c.2), some (.int (((crossL.take (i + 1)).filter (linkB L c)).length : Int)), v5, v6, v7] ∧ Same H G' := fun s l => by
        rw [links_snoc he, if_neg (by rw [l]; exact Bool.false_ne_true), Int.add_zero]
        exact ⟨_, _, _, rfl, s⟩
      refine ite2 (fun hc => ?_) (fun hc => ?_)
      · refine ⟨_, rfl, _, _, _, _, rfl, rfl, SqT.of a1, at0, _, rfl, two_le, fun t2 h2 => ?_⟩
        have s2 := same_new (o := .tup [.int (c.1 + e.1), .int c.2]) h2
        refine ⟨_, rfl, d, _, rfl, dget_lot (c := (c.1 + e.1, c.2)) (s2 _ _ (sm1 _ _ ed)) upd_same, _, rfl, ?_⟩
        rw [lot_is]
        have sm2 := sm1.trans s2
        refine ite2 (fun hc2 => ?_) (fun hc2 => ?_)
        · refine ⟨_, rfl, _, rfl, _, _, _, _, rfl, rfl, SqT.of (s2 _ _ a1), at1, two_le, fun t3 h3 => ?_⟩
          have s3 := same_new (o := .tup [.int c.1, .int (c.2 + e.2)]) h3
          refine ⟨_, rfl, d, _, rfl, dget_lot (c := (c.1, c.2 + e.2)) (s3 _ _ (sm2 _ _ ed)) upd_same, _, rfl, ?_⟩
          rw [lot_is]
          refine ite2 (fun hc3 => ?_) (fun hc3 => ?_)
          · refine ⟨_, rfl, _, _, rfl, rfl, ?_⟩
            have l : linkB L c e = true := by simp only [linkB, hc, hc2, hc3, Bool.and_self]
            refine ⟨some (.int e.1), some (.int e.2), some (.ref t1), ?_, sm2.trans s3⟩
            rw [links_snoc he, if_pos l]
            rfl
          · exact done (sm2.trans s3) (by simp only [linkB, Bool.eq_false_iff.mpr hc3, Bool.and_false])
        · exact done sm2 (by simp only [linkB, Bool.eq_false_iff.mpr hc2, Bool.and_false, Bool.false_and])
      · exact done sm1 (by simp only [linkB, Bool.eq_false_iff.mpr hc, Bool.false_and])
    · rintro σ G ⟨v5, v6, v7, rfl, sm⟩
      have ls : (srs.map V.ref).length = 4 := by rw [List.length_map, Paired.length ST.e]; rfl
      rw [ls]
      exact ⟨_, rfl, k G sm⟩
end
end Sq

set_option Elab.async false
set_option linter.all false
set_option maxRecDepth 100000
set_option maxHeartbeats 4000000
/-! Hanging together without a cell. -/
namespace Sq
open PySem PySem.Spec PyProof.Rows L2
/-- in, for a cell and a list of cells -/
def rInH : R2 := fun x y H Q => ∃ (p t : Addr) (c : Cell) (L : List Cell), x = .ref p ∧ y = .ref t ∧ At H p c ∧ CellsL H t L ∧ Q (.bl (decide (c ∈ L))) H
theorem any_cellH (c : Cell) : ∀ L : List Cell, (L.map cD).any (fun z => PyData.eqv z (cD c)) = decide (c ∈ L)
  | [] => by simp
  | d :: L => by
    rw [List.map_cons, List.any_cons, any_cellH c L, cD_eqv]
    by_cases h : d = c
    · subst h
      simp
    · have h' : ¬ c = d := fun z => h z.symm
      simp [h, h']
theorem lay_cellH (c : Cell) : Lay 1 (cD c) := lay_tuple fun d hd => by
  simp only [List.mem_cons, List.not_mem_nil, or_false] at hd
  rcases hd with rfl | rfl
  · exact lay_int _
  · exact lay_int _
theorem cells_canH (L : List Cell) : PyData.canLayAll0 (L.map cD) = true := (lay_all (n := 1) fun d hd => by
  obtain ⟨c, _, rfl⟩ := List.mem_map.mp hd
  exact lay_cellH c).1
theorem op_inH {X : Cx} (hu : X.A.units + 64 < cLine) : OpR X (compareOp .In) rInH := by
  rintro pins s σ H x y v u Q I rx ry ⟨p, t, c, L, rfl, rfl, ap, ct, q⟩
  obtain ⟨as, r1⟩ := Dp.reads I (cD c) _ v ap.dp rx
  obtain ⟨bs, r2⟩ := Dp.reads I (.list (L.map cD)) _ u ct.dp ry
  have l1 := lay_cellH c
  refine SeqAt.in_list_reads r2 r1 (cells_canH L) l1.1 ?_ ⟨.bl _, H, I, rfl, ?_⟩
  · have m : min (PyData.depthAll (L.map cD)) (cD c).depth ≤ 1 := Nat.le_trans (Nat.min_le_right _ _) l1.2
    omega
  · rw [any_cellH]
    exact q
/-- how many of N are not met -/
def missN (N F : List Cell) : Nat := (N.filter fun x => !decide (x ∈ F)).length
theorem miss_put {F : List Cell} {y : Cell} (h : y ∉ F) : ∀ {N : List Cell}, N.Nodup → missN N (F ++ [y]) + (if y ∈ N then 1 else 0) = missN N F
  | [], _ => rfl
  | x :: N, nN => by
    obtain ⟨nx, nN⟩ := List.nodup_cons.mp nN
    have ih := miss_put h nN
    unfold missN at ih ⊢
    rw [List.filter_cons, List.filter_cons]
    by_cases e : x = y
    · subst e
      rw [if_neg nx] at ih
      have a : (!decide (x ∈ F ++ [x])) = false := by simp
      have b : (!decide (x ∈ F)) = true := by simp [h]
      rw [a, b, if_pos (List.mem_cons_self ..), if_pos rfl, if_neg (by simp), List.length_cons]
      omega
    · have a : decide (x ∈ F ++ [y]) = decide (x ∈ F) := by simp [e]
      have b : (y ∈ x :: N) ↔ y ∈ N := by simp [Ne.symm e]
      rw [a]
      have c : (if y ∈ x :: N then 1 else 0) = (if y ∈ N then 1 else 0 : Nat) := by simp only [b]
      rw [c]
      by_cases g : x ∈ F
      · simpa [g] using ih
      · simp only [g, decide_false, Bool.not_false, if_true, List.length_cons]
        omega
theorem miss_zero {N F : List Cell} : missN N F = 0 ↔ ∀ x ∈ N, x ∈ F := by
  unfold missN
  rw [List.length_eq_zero_iff, List.filter_eq_nil_iff]
  simp
theorem beside_nodup (c : Cell) : (besideC c).Nodup := by
  obtain ⟨a, b⟩ := c
  simp [besideC]
  omega
theorem near_nodup {L : List Cell} (c : Cell) : (nearC L c).Nodup := (beside_nodup c).sublist List.filter_sublist
structure Hw (H : Hp) (L : List Cell) (c a : Cell) (fo ah : Addr) (F A : List Cell) (G : Hp) : Prop where
  same : Same H G
  gf : G fo = some (.dT (lotK F))
  ga : CellsL G ah A
  nd : F.Nodup
  cF : c ∈ F
  aF : a ∈ F
  re : ∀ x ∈ F, x = c ∨ Reach (but L c) a x
  sub : ∀ x ∈ A, x ∈ F ∧ x ≠ c
  len : A.length ≤ F.length
def HwW (H : Hp) (L : List Cell) (c a : Cell) (d q ar fo ah : Addr) (m : Nat) (σ : L2.St) (G : Hp) : Prop := ∃ (F A : List Cell) (v6 v7 : Option V), m = 2 * (L.length - F.length) + A.length ∧ σ = [some (.ref d), some (.ref q), some (.ref ar), some (.ref fo), some (.ref ah), some (.int (missN (nearC L c) F : Int)), v6, v7] ∧ Hw H L c a fo ah F A G ∧
      ∀ x ∈ F, x ∉ A → x ≠ c → ∀ y ∈ besideC x, y ∈ L → y ∈ F
theorem one_lt : (1 : Nat) < sizeLine := by rw [sizeLine_eq]; decide
theorem one_le : (1 : Nat) ≤ sizeLine := by rw [sizeLine_eq]; decide
def spHangsW : Sp := fun vs H Q _ => ∃ (d q : Addr) (L : List Cell) (c : Cell), vs = [.ref d, .ref q] ∧ H d = some (.dT (lotK L)) ∧ L.Nodup ∧ L.length ≤ 1000 ∧ Hangs L ∧ c ∈ L ∧ At H q c ∧ ∀ H', Same H H' → Q (.bl (hangsB (without L c))) H'
theorem hangs_decide {L : List Cell} {p : Prop} [Decidable p] (h : p ↔ Hangs L) : (decide p) = hangsB L := hangsB_of (by rw [decide_eq_true_iff]; exact h)
section
variable {P : Program} {w : World} {K : PySem.W.Frag} {mg : Str → Option Value} {base : Heap}
theorem scHw : FnScope ["lot", "cell", "around", "found", "ahead", "missing", "place", "near"] ["lot", "cell"] (defScope gHangsW) := ⟨rfl, rfl, rfl, by decide +kernel, rfl, by decide +kernel, by decide +kernel⟩
theorem ok_hangsW {f : Addr} {fd : FuncData} (F : FnP K "hangs_without" gHangsW f fd) (B : Bl mg) (DN : Df P w K mg base CX0 2 "near_in" ["lot", "cell"] spNear) (DL : Df P w K mg base CX0 1 "links_around" ["lot", "cell"] spLinks) : FnOk P w K mg base CX0 3 f fd ["lot", "cell"] spHangsW := by
  refine F.ok scHw (fun vs H Q E h => ?_) (fun cdv A outer s H vs Q E hr h => ?_)
  · obtain ⟨d, q, L, c, rfl, _⟩ := h
    rfl
  · obtain ⟨d, q, L, c, rfl, ed, nL, lL, hang, cL, aq, k⟩ := h
    have hu := hu_of hr
    have h64 := room64 hr
    refine ⟨_, PSs.nox (pss_cons (ps_set (i := 2) scHw.nd rfl (.inl rfl) (pe_df DN hr (by rfl) pass0 (pa_cons (pv 0) (pa_cons (pv 1) pa_nil))))
      (pss_cons (ps_if (PW.pt (pw_or (pt_cmpR op_lt (pe_callB call_len_seq (by rfl) B.len PySem.boot_len (pa_cons (pv 2) pa_nil)) pe_int (nomark _)) (pw_or1 (pt_cmpR op_ge (pe_df DL hr (by rfl) pass0 (pa_cons (pv 0) (pa_cons (pv 1) pa_nil))) (pe_op op_sub (pe_callB call_len_seq (by rfl) B.len PySem.boot_len (pa_cons (pv 2) pa_nil)) pe_int) (nomark _)))))
      (pss_one (ps_ret (pe_cmpR op_gt (pe_callB call_len_seq (by rfl) B.len PySem.boot_len (pa_cons (pv 2) pa_nil)) pe_int (nomark _))))
      pss_nil)
      (pss_cons (ps_set (i := 3) scHw.nd rfl (.inl rfl) (pe_disp2 (.inr rfl) hu (pv 1) pe_bl (pe_ix (ix_listK (K := K) rfl) (pv 2) pe_int (fun _ _ => rfl)) pe_bl))
      (pss_cons (ps_set (i := 4) scHw.nd rfl (.inl rfl) (pe_lst (pa_cons (pe_ix (ix_listK (K := K) rfl) (pv 2) pe_int (fun _ _ => rfl)) pa_nil)))
      (pss_cons (ps_set (i := 5) scHw.nd rfl (.inl rfl) (pe_op op_sub (pe_callB call_len_seq (by rfl) B.len PySem.boot_len (pa_cons (pv 2) pa_nil)) pe_int))
      (pss_cons (ps_while PassesOwn.never (PW.pt (pw_and (pt_truth (pv 4) (by intro _; rfl)) (pw_and1 (pt_cmpR op_gt (pv 5) pe_int (nomark _)))))
      (pss_cons (ps_set (i := 6) scHw.nd rfl (.inl rfl) (pe_bm0 PySem.F.plainAttrs_list PySem.F.slot_list_pop PySem.F.type_list_pop mt_pop (pv 4)))
        (pss_one (ps_for PassesOwn.never rfl (pi_list (pe_df DN hr (by rfl) pass0 (pa_cons (pv 0) (pa_cons (pv 6) pa_nil)))) (pg_name (i := 7) scHw.nd rfl (.inl rfl))
        (pss_one (ps_if (pt_cmp (pc_dnotin hu (pv 7) (pv 3)))
          (pss_cons (ps_dput hu (pv 3) (pv 7) pe_bl rfl)
            (pss_cons (ps_expr (pe_bm PySem.F.plainAttrs_list PySem.F.slot_list_append PySem.F.type_list_append mt_append (pv 4) (pa_cons (pv 7) pa_nil)))
            (pss_one (ps_if (pt_cmpR (op_inH h64) (pv 7) (pv 2) (by rfl))
            (pss_one (ps_aug (i := 5) scHw.nd rfl (.inl rfl) pe_int ip_sub))
            pss_nil))))
          pss_nil))))))
      (pss_one (ps_ret (pe_cmpR op_eq (pv 5) pe_int (nomark _)))))))))), ?_⟩
    refine ⟨_, rfl, _, rfl, d, q, L, c, rfl, ed, aq, fun ar H1 s1 har clr => ?_⟩
    obtain ⟨ns0, ear, prr⟩ := id clr
    have lns : ns0.length = (nearC L c).length := Paired.length prr
    have l4 : (nearC L c).length ≤ 4 := Nat.le_trans (List.length_filter_le ..) (Nat.le_refl 4)
    have mem2 : ∀ {x : Cell}, x ∈ nearC L c → x ∈ besideC c ∧ x ∈ L := fun h => ⟨(List.mem_filter.mp h).1, of_decide_eq_true (List.mem_filter.mp h).2⟩
    refine ⟨_, rfl, ar, _, rfl, .inl (SqL.of ear), _, _, rfl, rfl, _, rfl, ?_⟩
    rw [List.length_map, lns]
    -- both returns that come early
    have early : ∀ G, Same H G → (nearC L c).length < 2 ∨ (nearC L c).length ≤ linksN L c + 1 → Q (.bl (decide ((0 : Int) < ((nearC L c).length : Int)))) G := fun G sm h => by
      have e : decide ((0 : Int) < ((nearC L c).length : Int)) = hangsB (without L c) := hangs_decide (by
        by_cases z : nearC L c = []
        · exact ⟨fun h => absurd h (by rw [z]; simp), fun h => absurd h (none_hangs hang cL z)⟩
        · have pos : 0 < (nearC L c).length := List.length_pos_iff.mpr z
          refine ⟨fun _ => ?_, fun _ => by omega⟩
          by_cases one : (nearC L c).length = 1
          · obtain ⟨x, hx⟩ := List.length_eq_one_iff.mp one
            exact one_hangs hang cL hx
          · exact links_hangs hang cL (by show 2 ≤ (nearC L c).length; omega) (by show (nearC L c).length ≤ _; omega))
      rw [e]
      exact k G sm
    refine ite2 (fun hc => ?_) (fun hc => ?_)
    · have hc : ((nearC L c).length : Int) < 2 := of_decide_eq_true hc
      refine ⟨_, rfl, ar, _, rfl, .inl (SqL.of ear), _, _, rfl, rfl, ?_⟩
      rw [List.length_map, lns]
      exact early H1 s1 (.inl (by omega))
    have hc : ¬ (((nearC L c).length : Int) < 2) := fun h => hc (decide_eq_true h)
    refine ⟨_, rfl, _, rfl, d, q, L, c, rfl, s1 _ _ ed, s1 _ _ aq, fun H2 s2 => ?_⟩
    have ear2 := s2 _ _ ear
    refine ⟨_, rfl, ar, _, rfl, .inl (SqL.of ear2), _, _, rfl, rfl, _, _, rfl, rfl, _, rfl, ?_⟩
    rw [List.length_map, lns]
    have s12 := s1.trans s2
    refine ite2 (fun hc2 => ?_) (fun hc2 => ?_)
    · have hc2 : ((nearC L c).length : Int) - 1 ≤ (linksN L c : Int) := of_decide_eq_true hc2
      refine ⟨_, rfl, ar, _, rfl, .inl (SqL.of ear2), _, _, rfl, rfl, ?_⟩
      rw [List.length_map, lns]
      exact early H2 s12 (.inr (by omega))
    clear hc2 early
    obtain ⟨a, N', eN⟩ : ∃ a N', nearC L c = a :: N' := by
      cases e : nearC L c with
      | nil => rw [e] at hc; exact absurd (by decide) hc
      | cons a t => exact ⟨a, t, rfl⟩
    obtain ⟨qa, ns', ens⟩ : ∃ qa ns', ns0 = qa :: ns' := by
      cases e : ns0 with
      | nil => rw [e, eN] at lns; simp at lns
      | cons a t => exact ⟨a, t, rfl⟩
    have aN : a ∈ nearC L c := by rw [eN]; exact List.mem_cons_self ..
    obtain ⟨aB, aL⟩ := mem2 aN
    have ac : a ≠ c := beside_ne aB
    have aa : At H1 qa a := by
      rw [ens, eN] at prr
      cases prr with
      | cons h _ => exact h
    intro fo hfo
    have s3 := same_new (o := .dT []) hfo
    have aq3 := s3 _ _ (s12 _ _ aq)
    have aa3 : At (upd H2 fo (.dT [])) qa a := s3 _ _ (s2 _ _ aa)
    subst ens
    have e5 : (upd H2 fo (.dT [])) fo = some (.dT (lotK [])) := upd_same
    refine ⟨_, rfl, _, rfl, _, _, _, _, rfl, rfl, SqL.of (s3 _ _ ear2), at0, _, _, dput_lot (L := []) e5 aq3 (by simp) (by rw [sizeLine_eq]; decide), dput_lot (L := [c]) (c := a) upd_same ?_ (by simp [ac]) one_lt, ?_⟩
    · exact aa3.off upd_same (by intro xs z; cases z)
    rw [upd_upd, upd_upd]
    have s4 := same_new (o := .dT (lotK ([c] ++ [a]))) hfo
    have ear4 := s4 _ _ ear2
    refine ⟨_, rfl, _, _, _, _, rfl, rfl, SqL.of ear4, at0, one_le, fun ah hah => ?_⟩
    have nah : ah ≠ fo := fun z => by rw [z, upd_same] at hah; cases hah
    have hah2 : H2 ah = none := by rw [upd_ne nah] at hah; exact hah
    have s5 := same_new (o := .lst [.ref qa]) hah
    have ear5 := s5 _ _ ear4
    refine ⟨_, rfl, ar, _, rfl, .inl (SqL.of ear5), _, _, rfl, rfl, ?_⟩
    have m0 : ((((qa :: ns').map V.ref).length : Int) - 1) = (missN (nearC L c) ([c] ++ [a]) : Int) := by
      have e1 := miss_put (F := [c]) (y := a) (by simp [ac]) (near_nodup (L := L) c)
      have e0 : missN (nearC L c) [c] = (nearC L c).length := by
        unfold missN
        rw [List.filter_eq_self.mpr]
        intro x hx
        simp [beside_ne (mem2 hx).1]
      rw [if_pos aN, e0] at e1
      rw [List.length_map, lns]
      omega
    have k2 : ∀ H', Same H2 H' → Q (.bl (hangsB (without L c))) H' := fun H' s => k H' (s12.trans s)
    have ed2 := s12 _ _ ed
    have prr2 : Paired (fun q c => At H2 q c) (qa :: ns') (nearC L c) := paired_imp (fun _ _ h => At.same h s2) prr
    have clr2 : CellsL H2 ar (nearC L c) := ⟨_, ear2, prr2⟩
    refine ⟨HwW H2 L c a d q ar fo ah, ⟨_, [c] ++ [a], [a], none, none, rfl, congrArg (fun z : Int => [some (V.ref d), some (V.ref q), some (V.ref ar), some (V.ref fo), some (V.ref ah), some (V.int z), none, none]) m0, ⟨?_, ?_, ?_, ?_, by simp, by simp, ?_, ?_, by simp⟩, ?_⟩, ?_⟩
    · exact s4.trans s5
    · rw [upd_ne (Ne.symm nah)]
      exact upd_same
    · exact ⟨[qa], upd_same, .cons (s5 _ _ (s4 _ _ (s2 _ _ aa))) .nil⟩
    · simp [Ne.symm ac]
    · intro x hx
      simp only [List.cons_append, List.nil_append, List.mem_cons, List.not_mem_nil, or_false] at hx
      rcases hx with rfl | rfl
      · exact .inl rfl
      · exact .inr .refl
    · intro x hx
      rw [List.mem_singleton.mp hx]
      exact ⟨by simp, ac⟩
    · intro x hx nx xc
      simp only [List.cons_append, List.nil_append, List.mem_cons, List.not_mem_nil, or_false] at hx
      rcases hx with rfl | rfl
      · exact absurd rfl xc
      · exact absurd (List.mem_singleton.mpr rfl) nx
    · rintro m σ G ⟨F, A, v6, v7, rfl, rfl, I, cl⟩
      obtain ⟨qs, ea, pa⟩ := I.ga
      -- the end
      have fin : (A = [] ∨ missN (nearC L c) F = 0) → Q (.bl (decide (V.int (missN (nearC L c) F : Int) = V.int 0))) G := fun h => by
        have e : decide (V.int (missN (nearC L c) F : Int) = V.int 0) = hangsB (without L c) := hangs_decide (by
          have e1 : (V.int (missN (nearC L c) F : Int) = V.int 0) ↔ ∀ x ∈ nearC L c, x ∈ F := by
            rw [V.int.injEq, ← miss_zero]
            omega
          rw [e1]
          show _ ↔ Hangs (but L c)
          rw [rest_hangs hang cL aL aB]
          constructor
          · intro h x xL xb
            have xF := h x (List.mem_filter.mpr ⟨xb, decide_eq_true xL⟩)
            exact (I.re x xF).elim (fun e => absurd e (beside_ne xb)) id
          · intro h2 x xN
            rcases h with rfl | h
            · have fr := flood_rest I.re I.aF ac (fun x hx xc => cl x hx (by simp) xc)
              exact (fr x (beside_ne (mem2 xN).1)).mpr (h2 x (mem2 xN).2 (mem2 xN).1)
            · exact miss_zero.mp h x xN)
        rw [e]
        exact k2 G I.same
      refine ⟨_, rfl, _, .inl ⟨_, SqL.of ea, rfl⟩, ?_⟩
      by_cases hA : A = []
      · subst hA
        cases pa
        exact ⟨_, rfl, rfl, fin (.inl rfl)⟩
      obtain ⟨A', p, eA⟩ := snoc_inv (xs := A) hA
      have ne : qs ≠ [] := fun z => by rw [z, eA] at pa; have l := Paired.length pa; simp at l
      obtain ⟨qs', qc, eq⟩ := snoc_inv ne
      subst eA eq
      obtain ⟨pa', ap⟩ := paired_unsnoc pa
      have isE : (List.map V.ref (qs' ++ [qc])).isEmpty = false := by simp
      rw [isE]
      refine ⟨_, rfl, _, _, rfl, rfl, _, rfl, ?_⟩
      refine ite2 (fun hm => ?_) (fun hm => ?_)
      rotate_left
      · have hm : ¬ ((0 : Int) < (missN (nearC L c) F : Int)) := fun z => hm (decide_eq_true z)
        exact ⟨_, rfl, rfl, fin (.inr (by omega))⟩
      clear hm fin
      refine ⟨fun σ' G' => ∃ m', m' < 2 * (L.length - F.length) + (A' ++ [p]).length ∧ HwW H2 L c a d q ar fo ah m' σ' G', fun _ _ h => h, ?_⟩
      obtain ⟨pF, pc⟩ := I.sub p (by simp)
      have FL : ∀ {F2 : List Cell}, (∀ x ∈ F2, x = c ∨ Reach (but L c) a x) → ∀ x ∈ F2, x ∈ L := fun h x hx => (h x hx).elim (fun e => e ▸ cL) fun r => (mem_but.mp (r.mem (mem_but.mpr ⟨aL, ac⟩))).1
      have pLm : p ∈ L := FL I.re p pF
      have lenF : F.length ≤ L.length := len_le I.nd (FL I.re)
      refine ⟨_, rfl, .inl ⟨rfl, _, SqL.of ea⟩, ah, _, .ref qc, rfl, rfl, ea, by simp, ?_⟩
      have drop : (List.map V.ref (qs' ++ [qc])).dropLast = qs'.map V.ref := by simp
      rw [drop]
      have nfo : fo ≠ ah := Ne.symm nah
      have s6 : Same H2 (upd G ah (.lst (qs'.map V.ref))) := same_put I.same hah2
      have offA : ∀ {b : Addr} {x : Cell}, At G b x → At (upd G ah (.lst (qs'.map V.ref))) b x := fun h => h.off ea (by intro xs z; cases z)
      refine ⟨_, rfl, _, rfl, d, qc, L, p, rfl, s6 _ _ ed2, offA ap, fun l G2 s7 hl ⟨ns, el, pn⟩ => ?_⟩
      refine ⟨l, rfl, ⟨_, SqL.of el⟩, ?_⟩
      have lah : l ≠ ah := fun z => by rw [z, upd_same] at hl; cases hl
      have lfo : l ≠ fo := fun z => by rw [z, upd_ne nfo, I.gf] at hl; cases hl
      refine for_list (K := K) (a := l) (xs := ns.map V.ref) (fun i σ G => ∃ (F2 A2 : List Cell) (v7 : Option V), 2 * (L.length - F2.length) + A2.length < 2 * (L.length - F.length) + (A' ++ [p]).length ∧ σ = [some (.ref d), some (.ref q), some (.ref ar), some (.ref fo), some (.ref ah), some (.int (missN (nearC L c) F2 : Int)), some (.ref qc), v7] ∧
        Hw H2 L c a fo ah F2 A2 G ∧ p ∈ F2 ∧ G l = some (.lst (ns.map V.ref)) ∧ Paired (fun b x => At G b x) ns (nearC L p) ∧ (∀ x ∈ F2, x ∉ A2 → x ≠ c → x ≠ p → ∀ y ∈ besideC x, y ∈ L → y ∈ F2) ∧ ∀ y ∈ (nearC L p).take i, y ∈ F2) ?_ ?_ ?_ ?_
      · refine ⟨F, A', v7, ?_, rfl, ⟨s6.trans s7, ?_, ⟨qs', ?_, ?_⟩, I.nd, I.cF, I.aF, I.re, fun x hx => I.sub x (List.mem_append_left _ hx), ?_⟩, pF, el, pn, ?_, by simp⟩
        · rw [List.length_append]
          show _ < _ + (_ + 1)
          omega
        · refine s7 _ _ ?_
          rw [upd_ne nfo]
          exact I.gf
        · exact s7 _ _ upd_same
        · exact paired_imp (fun _ _ h => (offA h).same s7) pa'
        · have := I.len
          rw [List.length_append] at this
          omega
        · intro x hx nx xc np
          refine cl x hx (fun m => ?_) xc
          rcases List.mem_append.mp m with m | m
          · exact nx m
          · exact np (List.mem_singleton.mp m)
      · rintro i σ G hi ⟨F2, A2, v, _, _, _, _, e, _⟩
        exact SqL.of e
      · rintro i x σ G hi ⟨F2, A2, v, lt, rfl, J, p2, gl, pn2, cl2, tk⟩
        rw [List.getElem?_map] at hi
        obtain ⟨b, hb, rfl⟩ := Option.map_eq_some_iff.mp hi
        obtain ⟨y, hy, ay⟩ := paired_get pn2 hb
        have lF2 : F2.length ≤ L.length := len_le J.nd (FL J.re)
        have yN : y ∈ nearC L p := List.mem_of_getElem? hy
        have yL : y ∈ L := of_decide_eq_true (List.mem_filter.mp yN).2
        have yB : y ∈ besideC p := (List.mem_filter.mp yN).1
        refine ⟨_, rfl, _, rfl, fo, _, rfl, dget_lot J.gf ay, _, rfl, ?_⟩
        rw [lot_is]
        refine ite2 (fun hc => ?_) (fun hc => ?_)
        · have nF : y ∉ F2 := by simpa using hc
          have yc : y ≠ c := fun z => nF (z ▸ J.cF)
          have lt2 : F2.length + 1 ≤ L.length := len_le (xs := y :: F2) (List.nodup_cons.mpr ⟨nF, J.nd⟩) fun x hx => (List.mem_cons.mp hx).elim (fun e => e ▸ yL) (FL J.re x)
          obtain ⟨qs2, ea2, pa2⟩ := J.ga
          have lq : qs2.length = A2.length := Paired.length pa2
          refine ⟨_, rfl, _, rfl, fo, _, rfl, dput_lot J.gf ay nF (by rw [sizeLine_eq]; omega), ?_⟩
          have ea3 : upd G fo (.dT (lotK (F2 ++ [y]))) ah = some (.lst (qs2.map V.ref)) := by rw [upd_ne nah]; exact ea2
          have offF : ∀ {b : Addr} {x : Cell}, At G b x → At (upd G fo (.dT (lotK (F2 ++ [y])))) b x := fun h => h.off J.gf (by intro xs z; cases z)
          have offB : ∀ {b : Addr} {x : Cell}, At G b x → At (upd (upd G fo (.dT (lotK (F2 ++ [y])))) ah (.lst (qs2.map V.ref ++ [V.ref b]))) b x := fun h => (offF h).off ea3 (by intro xs z; cases z)
          refine ⟨_, rfl, .inl ⟨rfl, _, SqL.of ea3⟩, _, rfl, ah, _, _, rfl, rfl, ea3, by rw [List.length_map, sizeLine_eq]; have := J.len; omega, ?_⟩
          have sJ : Same H2 (upd (upd G fo (.dT (lotK (F2 ++ [y])))) ah (.lst (qs2.map V.ref ++ [V.ref b]))) := same_put (same_put J.same hfo) hah2
          refine ⟨_, rfl, _, rfl, b, ar, y, nearC L c, rfl, rfl, offB ay, clr2.ek (.of sJ), _, rfl, ?_⟩
          have rest : ∃ (F3 A3 : List Cell), 2 * (L.length - F3.length) + A3.length < 2 * (L.length - F.length) + (A' ++ [p]).length ∧ F3 = F2 ++ [y] ∧ Hw H2 L c a fo ah F3 A3 (upd (upd G fo (.dT (lotK (F2 ++ [y])))) ah (.lst (qs2.map V.ref ++ [V.ref b]))) ∧ p ∈ F3 ∧ upd (upd G fo (.dT (lotK (F2 ++ [y])))) ah (.lst (qs2.map V.ref ++ [V.ref b])) l = some (.lst (ns.map V.ref)) ∧
              Paired (fun b' x => At (upd (upd G fo (.dT (lotK (F2 ++ [y])))) ah (.lst (qs2.map V.ref ++ [V.ref b]))) b' x) ns (nearC L p) ∧ (∀ x ∈ F3, x ∉ A3 → x ≠ c → x ≠ p → ∀ y ∈ besideC x, y ∈ L → y ∈ F3) ∧ ∀ z ∈ (nearC L p).take (i + 1), z ∈ F3 := by
            refine ⟨F2 ++ [y], A2 ++ [y], ?_, rfl, ⟨sJ, ?_, ⟨qs2 ++ [b], ?_, ?_⟩, ?_, List.mem_append_left _ J.cF, List.mem_append_left _ J.aF, ?_, ?_, ?_⟩, List.mem_append_left _ p2, ?_, ?_, ?_, ?_⟩
            · rw [List.length_append, List.length_append]
              show 2 * (L.length - (F2.length + 1)) + (A2.length + 1) < _
              omega
            · rw [upd_ne nfo]
              exact upd_same
            · rw [upd_same, List.map_append]
              rfl
            · exact (paired_imp (fun _ _ h => (offF h).off ea3 (by intro xs z; cases z)) pa2).snoc (offB ay)
            · exact List.nodup_append.mpr ⟨J.nd, by simp, fun a ha b hb => by rw [List.mem_singleton.mp hb]; exact fun z => nF (z ▸ ha)⟩
            · intro x hx
              rcases List.mem_append.mp hx with h | h
              · exact J.re x h
              · rw [List.mem_singleton.mp h]
                refine .inr ?_
                rcases J.re p p2 with e | r
                · exact absurd e pc
                · exact r.step yB (mem_but.mpr ⟨yL, yc⟩)
            · intro x hx
              rcases List.mem_append.mp hx with h | h
              · exact ⟨List.mem_append_left _ (J.sub x h).1, (J.sub x h).2⟩
              · rw [List.mem_singleton.mp h]
                exact ⟨by simp, yc⟩
            · rw [List.length_append, List.length_append]
              exact Nat.succ_le_succ J.len
            · rw [upd_ne lah, upd_ne lfo]
              exact gl
            · exact paired_imp (fun _ _ h => (offF h).off ea3 (by intro xs z; cases z)) pn2
            · intro x hx nx xc np z hz zL
              rcases List.mem_append.mp hx with h | h
              · exact List.mem_append_left _ (cl2 x h (fun m => nx (List.mem_append_left _ m)) xc np z hz zL)
              · exact absurd (List.mem_append_right _ h) nx
            · intro z hz
              rw [take_snoc hy] at hz
              rcases List.mem_append.mp hz with h | h
              · exact List.mem_append_left _ (tk z h)
              · exact List.mem_append_right _ h
          obtain ⟨F3, A3, r1, rfl, r3, r4, r5, r6, r7, r8⟩ := rest
          have mp := miss_put nF (near_nodup (L := L) c)
          refine ite2 (fun hy2 => ?_) (fun hy2 => ?_)
          · have hy2 : y ∈ nearC L c := of_decide_eq_true hy2
            rw [if_pos hy2] at mp
            have e9 : (missN (nearC L c) F2 : Int) - 1 = (missN (nearC L c) (F2 ++ [y]) : Int) := by omega
            refine ⟨_, rfl, _, _, rfl, rfl, F2 ++ [y], A3, some (.ref b), r1, ?_, r3, r4, r5, r6, r7, r8⟩
            exact congrArg (fun z : Int => [some (V.ref d), some (V.ref q), some (V.ref ar), some (V.ref fo), some (V.ref ah), some (V.int z), some (.ref qc), some (.ref b)]) e9
          · have hy2 : y ∉ nearC L c := fun z => hy2 (decide_eq_true z)
            rw [if_neg hy2, Nat.add_zero] at mp
            refine ⟨F2 ++ [y], A3, some (.ref b), r1, ?_, r3, r4, r5, r6, r7, r8⟩
            rw [mp]
            rfl
        · have yF : y ∈ F2 := by simpa using hc
          refine ⟨F2, A2, _, lt, rfl, J, p2, gl, pn2, cl2, fun z hz => ?_⟩
          rw [take_snoc hy] at hz
          rcases List.mem_append.mp hz with h | h
          · exact tk z h
          · rw [List.mem_singleton.mp h]
            exact yF
      · rintro σ G ⟨F2, A2, v, lt, rfl, J, p2, gl, pn2, cl2, tk⟩
        refine ⟨_, lt, F2, A2, _, _, rfl, rfl, J, fun x hx nx xc y hy yL => ?_⟩
        by_cases hxc : x = p
        · subst hxc
          refine tk y ?_
          have e : (ns.map V.ref).length = (nearC L x).length := by rw [List.length_map]; exact Paired.length pn2
          rw [e, List.take_length]
          exact List.mem_filter.mpr ⟨hy, decide_eq_true yL⟩
        · exact cl2 x hx nx xc hxc y hy yL
end
end Sq

set_option Elab.async false
set_option linter.all false
set_option maxRecDepth 100000
set_option maxHeartbeats 4000000
/-! sorted of a lot of cells. -/
namespace Sq
open PySem PySem.Spec PyProof.Rows L2
theorem keys_cells {H : Hp} : ∀ {L : List Cell} {bs : List Addr}, IsKeys H (lotK L) bs → Paired (fun q c => At H q c) bs L
  | [], _, .nil => .nil
  | _ :: _, _, .cons h t => .cons h (keys_cells t)
section
variable {X : Cx}
def rSortDct : List V → Hp → VK → Prop := fun vs H Q => ∃ (a : Addr) (L : List Cell), vs = [V.ref a] ∧ H a = some (.dT (lotK L)) ∧ sortedK H L Q
theorem cr_sortedDct (calm : X.calm = true) : CallR X (.builtin "sorted") rSortDct := by
  intro pins s σ H vs us Q I r h
  obtain ⟨a, L, rfl, ha, k⟩ := h
  rw [Vals.ref1 r]
  obtain ⟨z, hs, ks, pr, o, es, ep, ho, hx, hdt, he, hn⟩ := (show ObjOk X.prog X.w H s.heap a (.dT (lotK L)) from I.hok a _ ha)
  have l1 : es.size = ks.length := size_of_entries he
  have l2 : (lotK L).length = ks.length := Paired.length pr
  refine sorted_src (k := kVal H) (collect_src (kdl_raw hs hx hdt) (I.ok.hd calm) ho (by omega) fun h' tk acc hk it => ?_)
  have ea : acc.toList = (ks.map fun x => x.2.1).map Value.ref := by
    rw [List.map_map]
    refine List.ext_getElem? fun j => ?_
    rw [List.getElem?_map]
    have hl : acc.toList.length = ks.length := by rw [Array.length_toList, it.1, l1]
    cases hj : acc.toList[j]? with
    | none =>
      rw [List.getElem?_eq_none (by have := List.getElem?_eq_none_iff.mp hj; omega)]
      rfl
    | some v =>
      obtain ⟨en, hen, hv⟩ := it.2 j v (by rw [← Array.getElem?_toList]; exact hj)
      have e1 := entry_at he j
      rw [hen] at e1
      cases hb : ks[j]? with
      | none =>
        rw [hb] at e1
        exact nomatch (show some en = none from e1)
      | some b =>
        rw [hb] at e1
        have e2 : en = entryOfKey (tupleKind (mixKind X.prog X.w)) b := Option.some.inj e1
        rw [hv, e2]
        rfl
  rw [ea]
  refine sort_fin (I.kept (t' := tk) hk) (List.Perm.refl _) (keys_cells (isKeys_of pr)) (by rw [List.length_map]; omega) (fun _ _ e => e) (Nat.le_refl _) rfl rfl k
end
end Sq

set_option Elab.async false
set_option linter.all false
set_option maxRecDepth 100000
set_option maxHeartbeats 4000000
/-! A square put elsewhere; the body of a lot; the kind of a move. -/
namespace Sq
open PySem PySem.Spec PyProof.Rows L2
theorem without_len (L : List Cell) (c : Cell) : (without L c).length ≤ L.length := List.length_filter_le _ _
theorem mem_without {L : List Cell} {c x : Cell} : x ∈ without L c ↔ x ∈ L ∧ x ≠ c := mem_but
section
variable {P : Program} {w : World} {K : PySem.W.Frag} {mg : Str → Option Value} {base : Heap} {Ts : List Addr}
theorem byPlace_mem {L : List Cell} {s e : Cell} (h : byPlace L s e ≠ .non) : s ∈ L ∧ e ∉ L := by
  unfold byPlace at h
  by_cases c : decide (s ∈ L) = false ∨ decide (e ∈ L) = true
  · rw [if_pos c] at h
    exact absurd rfl h
  · constructor
    · exact Classical.byContradiction fun n => c (.inl (decide_eq_false n))
    · exact fun n => c (.inr (decide_eq_true n))
end
end Sq

set_option Elab.async false
set_option linter.all false
set_option maxRecDepth 100000
set_option maxHeartbeats 4000000
/-! kind_of and done, with their errors. -/
namespace Sq
open PySem PySem.Spec PyProof.Rows L2
/-- an own error of the class at C is on its way, with these fields; all but tables stays -/
def Way (Ts : List Addr) (H : Hp) (C : Addr) (fs : List (Str × V)) (E : XK) : Prop := ∀ (dd : Addr) (H' : Hp), KT Ts H H' → H dd = none → H' dd = some (.xd fs) → E (.ref C) (some dd) H'
theorem Way.from {Ts : List Addr} {H G : Hp} {C : Addr} {fs : List (Str × V)} {E : XK} (h : Way Ts H C fs E) (k : KT Ts H G) : ∀ d, G d = none → E (.ref C) (some d) (upd G d (.xd fs)) := fun d hd =>
  h d _ (k.same (same_new hd)) (k.free hd) upd_same
section
variable {P : Program} {w : World} {K : PySem.W.Frag} {mg : Str → Option Value} {base : Heap} {Ts : List Addr}
end
end Sq

set_option Elab.async false
set_option linter.all false
set_option maxRecDepth 100000
set_option maxHeartbeats 4000000
/-! The pen: made, drawn from; a pick. -/
namespace Sq
open PySem PySem.Spec PyProof.Rows L2
abbrev kCells : Key := .inr "cells"
abbrev kAt : Key := .inr "at"
abbrev kDig : Key := .inr "digits"
abbrev kCnt : Key := .inr "count"
abbrev kFold : Key := .inr "fold"
/-- the pen's pairs -/
def penK (c : Addr) (i dg n fo : Int) : List (Key × V) := [(kCells, .ref c), (kAt, .int i), (kDig, .int dg), (kCnt, .int n), (kFold, .int fo)]
theorem pen_cells {c : Addr} {i dg n fo : Int} : valV (penK c i dg n fo) kCells = some (.ref c) := by kernel_rfl
theorem pen_at {c : Addr} {i dg n fo : Int} : valV (penK c i dg n fo) kAt = some (.int i) := by kernel_rfl
theorem pen_dig {c : Addr} {i dg n fo : Int} : valV (penK c i dg n fo) kDig = some (.int dg) := by kernel_rfl
theorem pen_cnt {c : Addr} {i dg n fo : Int} : valV (penK c i dg n fo) kCnt = some (.int n) := by kernel_rfl
theorem pen_fold {c : Addr} {i dg n fo : Int} : valV (penK c i dg n fo) kFold = some (.int fo) := by kernel_rfl
theorem put_at {c : Addr} {i dg n fo z : Int} : putK (penK c i dg n fo) kAt (.int z) = penK c z dg n fo := by kernel_rfl
theorem put_dig {c : Addr} {i dg n fo z : Int} : putK (penK c i dg n fo) kDig (.int z) = penK c i z n fo := by kernel_rfl
theorem put_cnt {c : Addr} {i dg n fo z : Int} : putK (penK c i dg n fo) kCnt (.int z) = penK c i dg z fo := by kernel_rfl
theorem put_fold {c : Addr} {i dg n fo z : Int} : putK (penK c i dg n fo) kFold (.int z) = penK c i dg n z := by kernel_rfl
theorem pen_disp {c : Addr} {fo : Int} : mergeK [] (penK c 0 0 0 fo) = penK c 0 0 0 fo := by kernel_rfl
theorem pen_len {c : Addr} {i dg n fo : Int} : (penK c i dg n fo).length < sizeLine := Nat.lt_of_le_of_lt (Nat.le_refl 5) (by rw [sizeLine_eq]; decide)
theorem dget_of {H : Hp} {p : Addr} {kvs : List (Key × V)} {k : Key} {v : V} (e : H p = some (.dK kvs)) (hv : valV kvs k = some v) : DGet H p (kV k) (some v) := hv ▸ DGet.k (k := k) e
theorem dput_of {H : Hp} {p c : Addr} {i dg n fo : Int} {kvs' : List (Key × V)} {k : Key} {v : V} (e : H p = some (.dK (penK c i dg n fo))) (hk : putK (penK c i dg n fo) k v = kvs') : DPut H p (kV k) v (upd H p (.dK kvs')) := hk ▸ DPut.k e pen_len
/-- a pen stands at p, n numbers were drawn -/
structure PenAt (H : Hp) (p : Addr) (n : Nat) : Prop where
  ex : ∃ (c : Addr) (zs : List Int) (i : Nat) (dg fo : Int), H p = some (.dK (penK c i dg n fo)) ∧ H c = some (.lst (zs.map V.int)) ∧ i ≤ zs.length ∧ zs.length ≤ 63 ∧ 0 ≤ dg ∧ 0 ≤ fo ∧ fo < 2147483648
/-- _law_pen(script): a new pen -/
def spPen (K : PySem.W.Frag) : Sp := fun vs H Q _ => ∃ (a : Addr) (zs : List Int), vs = [.ref a] ∧ SqL K H a (zs.map V.int) ∧ zs.length ≤ 63 ∧ ∀ (p : Addr) (H' : Hp), PenAt H' p 0 → Same H H' → H p = none → Q (.ref p) H'
section
variable {P : Program} {w : World} {K : PySem.W.Frag} {mg : Str → Option Value} {base : Heap}
theorem scP : FnScope ["_law_script", "_law_fold", "_law_cell"] ["_law_script"] (defScope sPen) := ⟨rfl, rfl, rfl, by decide +kernel, rfl, by decide +kernel, by decide +kernel⟩
theorem ok_pen {f : Addr} {fd : FuncData} (F : FnP K "_law_pen" sPen f fd) (gI : mg "int" = none) (gL : mg "list" = none) : FnOk P w K mg base CX0 1 f fd ["_law_script"] (spPen K) := by
  refine F.ok scP (fun vs H Q E h => ?_) (fun cdv A outer s H vs Q E hr h => ?_)
  · obtain ⟨a, zs, rfl, _⟩ := h
    rfl
  · obtain ⟨a, zs, rfl, hS, hl, k⟩ := h
    refine ⟨_, PSs.nox (pss_cons (ps_set (i := 1) scP.nd rfl (.inl rfl) pe_int)
      (pss_cons (ps_for PassesOwn.never rfl (pi_list (pv 0)) (pg_name (i := 2) scP.nd rfl (.inl rfl))
        (pss_one (ps_set (i := 1) scP.nd rfl (.inl rfl) (pe_op op_mod (pe_callTy call_int1 (by rfl) gI PyProof.Rows.boot_int (pa_cons (pe_op op_add (pe_op op_mul (pv 1) pe_int) (pv 2)) pa_nil)) pe_int))))
      (pss_one (ps_ret (pe_disp (pps_cons pe_str (pe_callTy call_list_of (by rfl) gL PyProof.Rows.boot_list (pa_cons (pv 0) pa_nil)) (pps_cons pe_str pe_int (pps_cons pe_str pe_int (pps_cons pe_str pe_int (pps_cons pe_str (pv 1) pps_nil))))) rfl rfl (by simp) (by decide)))))), ?_⟩
    -- the loop
    refine ⟨_, rfl, a, rfl, ⟨_, hS⟩, for_list (K := K) (a := a) (xs := zs.map V.int) (fun i σ H2 => ∃ (fo : Int) (v : Option V), σ = [some (.ref a), some (.int fo), v] ∧ H2 = H ∧ 0 ≤ fo ∧ fo < 1000000007)
      ⟨0, none, rfl, rfl, by decide, by decide⟩ (fun i σ H2 _ ⟨_, _, _, e, _⟩ => by rw [e]; exact hS) ?_ ?_⟩
    · rintro i y σ H2 hi ⟨fo, v, rfl, rfl, h0, h1⟩
      obtain ⟨z, rfl⟩ : ∃ z, y = V.int z := by
        rw [List.getElem?_map] at hi
        cases e : zs[i]? with
        | none =>
          rw [e] at hi
          cases hi
        | some z =>
          rw [e] at hi
          exact ⟨z, (Option.some.inj hi).symm⟩
      refine ⟨_, rfl, _, _, rfl, rfl, .inl ⟨by omega, by omega⟩, _, rfl, _, _, rfl, rfl, .inl ⟨_, rfl, ?_⟩⟩
      refine ⟨_, _, rfl, rfl, (by show (0 : Int) < 1000000007; decide), _, _, rfl, rfl, ?_, ?_⟩
      · exact Int.emod_nonneg _ (by decide)
      · exact Int.emod_lt_of_pos _ (by decide)
    · rintro σ H2 ⟨fo, v, rfl, rfl, h0, h1⟩
      intro p hp
      refine ⟨_, rfl, a, zs.map V.int, rfl, .inl ?_, fun c hc => ?_⟩
      · exact (same_new hp).seq hS
      · have np : c ≠ p := fun z => by
          rw [z, upd_same] at hc
          cases hc
        have nc : H2 c = none := by
          rw [upd_ne np] at hc
          exact hc
        refine ⟨_, rfl, ?_, [(kCells, .ref c), (kAt, .int 0), (kDig, .int 0), (kCnt, .int 0), (kFold, .int fo)], rfl, by simp, ?_⟩
        · rw [upd_ne (Ne.symm np), upd_same]
        · refine k p _ ⟨⟨c, zs, 0, 0, fo, ?_, ?_, Nat.zero_le _, hl, by decide, h0, by omega⟩⟩ ?_ hp
          · rw [upd_same]
            exact congrArg (fun z => some (HO.dK z)) pen_disp
          · rw [upd_ne np, upd_same]
          · intro b u e
            rw [upd_ne (ne_of_none e hp), upd_ne (ne_of_none e nc), upd_ne (ne_of_none e hp)]
            exact e
theorem scD : FnScope ["_law_pen_here", "_law_many", "_law_cell", "_law_digit", "_law_blend"] ["_law_pen_here", "_law_many"] (defScope sDraw) := ⟨rfl, rfl, rfl, by decide +kernel, rfl, by decide +kernel, by decide +kernel⟩
end
theorem rd_but {H H' : Hp} {p l : Addr} {kvs : List (Key × V)} {u : HO} (hp : H p = some (.dK kvs)) (k : ∀ b, b ≠ p → H' b = H b) (hu : ∀ kvs, u ≠ .dK kvs) (h : Rd H l u) : Rd H' l u := by
  rcases h with h | ⟨o, h⟩
  · exact .inl ((k l (ne_of h hp (hu _))).trans h)
  · exact .inr ⟨o, (k l (ne_of h hp (by intro z; cases z))).trans h⟩
theorem sqL_but {K : PySem.W.Frag} {H H' : Hp} {p l : Addr} {kvs : List (Key × V)} {xs : List V} (hp : H p = some (.dK kvs)) (k : ∀ b, b ≠ p → H' b = H b) (h : SqL K H l xs) : SqL K H' l xs := by
  rcases h with h | h
  · exact .inl (rd_but hp k (fun _ z => by cases z) h)
  · exact .inr h
theorem sqT_but {K : PySem.W.Frag} {H H' : Hp} {p l : Addr} {kvs : List (Key × V)} {xs : List V} (hp : H p = some (.dK kvs)) (k : ∀ b, b ≠ p → H' b = H b) (h : SqT K H l xs) : SqT K H' l xs := by
  rcases h with h | h
  · exact .inl (rd_but hp k (fun _ z => by cases z) h)
  · exact .inr h
theorem PenAt.same {H H' : Hp} {p : Addr} {n : Nat} (h : PenAt H p n) (k : Same H H') : PenAt H' p n := by
  obtain ⟨c, zs, i, dg, fo, e1, e2, r⟩ := h.ex
  exact ⟨⟨c, zs, i, dg, fo, k _ _ e1, k _ _ e2, r⟩⟩
section
variable {P : Program} {w : World} {K : PySem.W.Frag} {mg : Str → Option Value} {base : Heap}
theorem scK : FnScope ["_law_pen_here", "_law_some"] ["_law_pen_here", "_law_some"] (defScope sPick) := ⟨rfl, rfl, rfl, by decide +kernel, rfl, by decide +kernel, by decide +kernel⟩
end
end Sq

set_option Elab.async false
set_option linter.all false
set_option maxRecDepth 100000
set_option maxHeartbeats 4000000
/-! The law's small defs: cells, beside, around, squares. -/
namespace Sq
open PySem PySem.Spec PyProof.Rows L2
/-- the eight around -/
def aroundC (c : Cell) : List Cell := [(c.1 - 1, c.2 - 1), (c.1 - 1, c.2), (c.1 - 1, c.2 + 1), (c.1, c.2 - 1), (c.1, c.2 + 1), (c.1 + 1, c.2 - 1), (c.1 + 1, c.2), (c.1 + 1, c.2 + 1)]
section
variable {P : Program} {w : World} {K : PySem.W.Frag} {mg : Str → Option Value} {base : Heap}
end
end Sq

set_option Elab.async false
set_option linter.all false
set_option maxRecDepth 100000
set_option maxHeartbeats 4000000
/-! The law's around, free's rest, done. -/
namespace Sq
open PySem PySem.Spec PyProof.Rows L2
theorem three_le : (3 : Nat) ≤ sizeLine := by rw [sizeLine_eq]; decide
section
variable {P : Program} {w : World} {K : PySem.W.Frag} {mg : Str → Option Value} {base : Heap}
end
end Sq

set_option Elab.async false
set_option linter.all false
set_option maxRecDepth 100000
set_option maxHeartbeats 4000000
/-! The law's parts. -/
namespace Sq
open PySem PySem.Spec PyProof.Rows L2
/-- l holds a list of tuples of these cells -/
def CellsLL (H : Hp) (l : Addr) (ps : List (List Cell)) : Prop := ∃ ts : List Addr, H l = some (.lst (ts.map V.ref)) ∧ Paired (fun t p => CellsT H t p) ts ps
section
variable {P : Program} {w : World} {K : PySem.W.Frag} {mg : Str → Option Value} {base : Heap}
theorem PI.or {X : Cx} {tg e : Expr} {w1 w2 : TI} (h1 : PI X tg e w1) (h2 : PI X tg e w2) : PI X tg e (fun σ H R => w1 σ H R ∨ w2 σ H R) := ⟨fun pins s σ H R I h => h.elim (h1.run pins s σ H R I) (h2.run pins s σ H R I)⟩
end
end Sq

set_option Elab.async false
set_option linter.all false
set_option maxRecDepth 100000
set_option maxHeartbeats 4000000
/-! The law's hangs, free, supports, kind. -/
namespace Sq
open PySem PySem.Spec PyProof.Rows L2
theorem lay_cell (c : Cell) : Lay 1 (cD c) := lay_tuple fun d hd => by
  rcases List.mem_cons.mp hd with e | e
  · rw [e]; exact lay_int _
  · rw [List.mem_singleton.mp e]; exact lay_int _
section
variable {P : Program} {w : World} {K : PySem.W.Frag} {mg : Str → Option Value} {base : Heap}
end
end Sq

set_option Elab.async false
set_option linter.all false
set_option maxRecDepth 100000
set_option maxHeartbeats 4000000
/-! The law's supports. -/
namespace Sq
open PySem PySem.Spec PyProof.Rows L2
abbrev CellP := Cell × Cell
def pD (p : CellP) : PyData := .tuple [cD p.1, cD p.2]
theorem alike_cD (c d : Cell) : PySem.W.alike (cD c) (cD d) = true := by
  simp only [cD, PySem.W.alike, PySem.W.alikeAll, Bool.and_true]
theorem alike_pD (c d : CellP) : PySem.W.alike (pD c) (pD d) = true := by
  simp only [pD, PySem.W.alike, PySem.W.alikeAll, alike_cD, Bool.and_true]
theorem lay_pD (p : CellP) : Lay 2 (pD p) := lay_tuple fun d hd => by
  rcases List.mem_cons.mp hd with e | e
  · rw [e]; exact lay_cell _
  · rw [List.mem_singleton.mp e]; exact lay_cell _
/-- a pair of cells stands at r -/
def PairAt (H : Hp) (r : Addr) (b : CellP) : Prop := ∃ q1 q2 : Addr, H r = some (.tup [.ref q1, .ref q2]) ∧ At H q1 b.1 ∧ At H q2 b.2
theorem PairAt.same {H G : Hp} {r : Addr} {b : CellP} (h : PairAt H r b) (k : Same H G) : PairAt G r b := by
  obtain ⟨q1, q2, e, a1, a2⟩ := h
  exact ⟨q1, q2, k _ _ e, k _ _ a1, k _ _ a2⟩
theorem PairAt.off {H : Hp} {r p : Addr} {b : CellP} {o u : HO} (h : PairAt H r b) (hp : H p = some u) (hu : ∀ xs, u ≠ .tup xs) : PairAt (upd H p o) r b := by
  obtain ⟨q1, q2, e, a1, a2⟩ := h
  exact ⟨q1, q2, by rw [upd_ne (ne_of e hp (fun z => hu _ z.symm))]; exact e, a1.off hp hu, a2.off hp hu⟩
theorem PairAt.dp {K : PySem.W.Frag} {H : Hp} {r : Addr} {b : CellP} (h : PairAt H r b) : Dp K H (.ref r) (pD b) := by
  obtain ⟨q1, q2, e, a1, a2⟩ := h
  exact .tup (SqT.of e) (.cons a1.dp (.cons a2.dp .nil))
theorem nb {p : Prop} [Decidable p] : (!decide p) = true ↔ ¬ p := by simp
section
variable {P : Program} {w : World} {K : PySem.W.Frag} {mg : Str → Option Value} {base : Heap}
end
end Sq

set_option Elab.async false
set_option linter.all false
set_option maxRecDepth 100000
set_option maxHeartbeats 4000000
/-! The law's done; odd cells. -/
namespace Sq
open PySem PySem.Spec PyProof.Rows L2
/-- x is no cell, and can be compared -/
structure OddQ (K : PySem.W.Frag) (H : Hp) (x : V) (d : PyData) : Prop where
  cq : CellQ K H x false
  dp : Dp K H x d
  ly : Lay 3 d
theorem OddQ.ek {K : PySem.W.Frag} {H G : Hp} {x : V} {d : PyData} (h : OddQ K H x d) (k : Ek H G) : OddQ K G x d := ⟨h.cq.ek k, k.dp _ _ h.dp, h.ly⟩
theorem pen_ek {H H' : Hp} {p : Addr} {n : Nat} (hp : PenAt H p n) (h : Kp [p] H H') : Ek H H' := fun b o _ n2 e => h b o (fun m => by
  obtain ⟨c, zs, i, dg, fo, e2, _⟩ := hp.ex
  rw [List.mem_singleton.mp m, e2] at e
  exact n2 _ (Option.some.inj e).symm) e
theorem pen_tabs {Ts : List Addr} {H H' : Hp} {p : Addr} {n : Nat} (hp : PenAt H p n) (h : Kp [p] H H') (tb : TabsG Ts H) : TabsG Ts H' := fun T m => by
  obtain ⟨ps, e, t⟩ := tb T m
  refine ⟨ps, h T _ (fun mm => ?_) e, t⟩
  obtain ⟨c, zs, i, dg, fo, e2, _⟩ := hp.ex
  rw [List.mem_singleton.mp mm, e2] at e
  cases e
/-- what a pen's def does -/
theorem kp_pick {H H' : Hp} {p : Addr} (h : ∀ b, b ≠ p → H' b = H b) : Kp [p] H H' := Kp.but (List.mem_singleton.mpr rfl) h
def AllOdd (K : PySem.W.Frag) (H : Hp) (xs : List V) : Prop := ∀ x ∈ xs, ∃ d, OddQ K H x d
theorem AllOdd.more {K : PySem.W.Frag} {H G : Hp} {xs : List V} {x : V} {d : PyData} (h : AllOdd K H xs) (k : Same H G) (o : OddQ K G x d) : AllOdd K G (x :: xs) := fun y hy => (List.mem_cons.mp hy).elim (fun e => ⟨d, e ▸ o⟩) fun m => by
  obtain ⟨d, z⟩ := h y m
  exact ⟨d, z.ek (.of k)⟩
theorem AllOdd.same {K : PySem.W.Frag} {H G : Hp} {xs : List V} (h : AllOdd K H xs) (k : Same H G) : AllOdd K G xs := fun y m => by
  obtain ⟨d, z⟩ := h y m
  exact ⟨d, z.ek (.of k)⟩
section
variable {P : Program} {w : World} {K : PySem.W.Frag} {mg : Str → Option Value} {base : Heap}
end
end Sq

set_option Elab.async false
set_option linter.all false
set_option maxRecDepth 100000
set_option maxHeartbeats 4000000
/-! The law's blobs. -/
namespace Sq
open PySem PySem.Spec PyProof.Rows L2
/-- the state of a blob that grows: known and counts, and so on -/
structure Bb (H : Hp) (p ce kn co : Addr) (i : Nat) (A Cs : List Cell) (n : Nat) (G : Hp) : Prop where
  pen : PenAt G p n
  kp : Kp [p] H G
  gc : CellsL G ce A
  gk : G kn = some (.dT (lotK A))
  go : ∃ kvs, G co = some (.dT kvs) ∧ IntD kvs Cs
  nd : A.Nodup
  hangs : Hangs A
  ndC : Cs.Nodup
  len : A.length = i + 1
  sub : ∀ x ∈ Cs, ∃ a ∈ A, x ∈ besideC a
  hd : A.head? = some (0, 0)
theorem Bb.ek {H : Hp} {p ce kn co : Addr} {i n n' : Nat} {A Cs : List Cell} {G G1 : Hp} (I : Bb H p ce kn co i A Cs n G) (k : Kp [p] G G1) (hp : PenAt G1 p n') : Bb H p ce kn co i A Cs n' G1 := by
  have ek := pen_ek I.pen k
  obtain ⟨kvs, e, d⟩ := I.go
  exact ⟨hp, I.kp.trans k, I.gc.ek ek, ek.dT I.gk, ⟨kvs, ek.dT e, d⟩, I.nd, I.hangs, I.ndC, I.len, I.sub, I.hd⟩
theorem eqv_nil (F : List Cell) : PyData.eqv (.list (F.map cD)) (.list []) = decide (F = []) := by
  cases F with
  | nil => rfl
  | cons x xs => rw [decide_eq_false (by simp)]; rfl
theorem lay_cells {F : List Cell} : Lay 2 (.list (F.map cD)) := lay_list fun d hd => by
  obtain ⟨c, _, rfl⟩ := List.mem_map.mp hd
  exact lay_cell c
theorem neg_last {α : Type} {xs : List α} {v : α} (h : xs[xs.length - 1]? = some v) : atI xs (-1) = some v := by
  have ne : xs ≠ [] := fun z => by rw [z] at h; cases h
  obtain ⟨ys, y, rfl⟩ := snoc_inv ne
  have : (ys ++ [y])[(ys ++ [y]).length - 1]? = some y := by simp
  rw [this] at h
  rw [Option.some.inj h]
  exact atI_last ys v
section
variable {P : Program} {w : World} {K : PySem.W.Frag} {mg : Str → Option Value} {base : Heap}
end
end Sq

set_option Elab.async false
set_option linter.all false
set_option maxRecDepth 100000
set_option maxHeartbeats 4000000
/-! The law's ways. -/
namespace Sq
open PySem PySem.Spec PyProof.Rows L2
/-- each cell lies beside the one ahead of it -/
def Path (A : List Cell) : Prop := ∀ i a b, A[i]? = some a → A[i + 1]? = some b → b ∈ besideC a
theorem Path.take {A : List Cell} (h : Path A) (n : Nat) : Path (A.take n) := fun i a b ha hb => by
  have l1 := (List.getElem?_eq_some_iff.mp hb).1
  rw [List.length_take] at l1
  rw [List.getElem?_take_of_lt (by omega)] at ha hb
  exact h i a b ha hb
theorem Path.snoc {A : List Cell} {c x : Cell} (h : Path (A ++ [c])) (hx : x ∈ besideC c) : Path (A ++ [c] ++ [x]) := fun i a b ha hb => by
  have l1 := (List.getElem?_eq_some_iff.mp hb).1
  rw [List.length_append] at l1
  have l1 : i + 1 < (A ++ [c]).length + 1 := l1
  by_cases e : i + 1 < (A ++ [c]).length
  · rw [List.getElem?_append_left e] at hb
    rw [List.getElem?_append_left (by omega)] at ha
    exact h i a b ha hb
  · have e1 : i + 1 = (A ++ [c]).length := by omega
    rw [List.getElem?_append_left (by omega)] at ha
    rw [e1] at hb
    have e2 : ((A ++ [c]) ++ [x])[(A ++ [c]).length]? = some x := by simp
    rw [e2] at hb
    have e3 : i = A.length := by rw [List.length_append] at e1; simp at e1; exact e1
    rw [e3] at ha
    have e4 : (A ++ [c])[A.length]? = some c := by simp
    rw [e4] at ha
    rw [← Option.some.inj ha, ← Option.some.inj hb]
    exact hx
theorem path_hangs : ∀ (n : Nat) {A : List Cell}, A.length = n + 1 → Path A → Hangs A
  | 0, A, l, _ => by
    match A, l with
    | [c], _ => exact hangs_one c
  | n + 1, A, l, p => by
    obtain ⟨B, x, rfl⟩ := snoc_inv (xs := A) (fun z => by rw [z] at l; cases l)
    have lB : B.length = n + 1 := by rw [List.length_append] at l; simp at l; exact l
    obtain ⟨C, c, rfl⟩ := snoc_inv (xs := B) (fun z => by rw [z] at lB; cases lB)
    have pB : Path (C ++ [c]) := by
      have := p.take (C ++ [c]).length
      rwa [List.take_left] at this
    refine hangs_snoc (path_hangs n lB pB) (a := c) (by simp) (p C.length c x ?_ ?_)
    · rw [List.getElem?_append_left (by simp)]
      simp
    · have e : C.length + 1 = (C ++ [c]).length := by simp
      rw [e]
      simp
theorem Path.hangs {A : List Cell} (p : Path A) (ne : A ≠ []) : Hangs A := by
  cases A with
  | nil => exact absurd rfl ne
  | cons c A => exact path_hangs A.length rfl p
section
variable {P : Program} {w : World} {K : PySem.W.Frag} {mg : Str → Option Value} {base : Heap}
end
end Sq

set_option Elab.async false
set_option linter.all false
set_option maxRecDepth 100000
set_option maxHeartbeats 4000000
/-! Lists of cells each of which lies beside one ahead of it. -/
namespace Sq
open PySem PySem.Spec PyProof.Rows L2
def Grown (A : List Cell) : Prop := ∀ i b, A[i + 1]? = some b → ∃ j a, j ≤ i ∧ A[j]? = some a ∧ b ∈ besideC a
theorem Path.grown {A : List Cell} (h : Path A) : Grown A := fun i b hb => by
  have l := (List.getElem?_eq_some_iff.mp hb).1
  exact ⟨i, A[i], Nat.le_refl _, List.getElem?_eq_getElem (by omega), h i _ b (List.getElem?_eq_getElem (by omega)) hb⟩
theorem Grown.take {A : List Cell} (h : Grown A) (n : Nat) : Grown (A.take n) := fun i b hb => by
  have l := (List.getElem?_eq_some_iff.mp hb).1
  rw [List.length_take] at l
  rw [List.getElem?_take_of_lt (by omega)] at hb
  obtain ⟨j, a, hj, ha, hb⟩ := h i b hb
  exact ⟨j, a, hj, by rw [List.getElem?_take_of_lt (by omega)]; exact ha, hb⟩
theorem Grown.snoc {A : List Cell} {a x : Cell} (h : Grown A) (ha : a ∈ A) (hx : x ∈ besideC a) : Grown (A ++ [x]) := fun i b hb => by
  have l := (List.getElem?_eq_some_iff.mp hb).1
  rw [List.length_append] at l
  have l : i + 1 < A.length + 1 := l
  by_cases e : i + 1 < A.length
  · rw [List.getElem?_append_left e] at hb
    obtain ⟨j, c, hj, hc, hb⟩ := h i b hb
    exact ⟨j, c, hj, by rw [List.getElem?_append_left (by omega)]; exact hc, hb⟩
  · have e1 : i + 1 = A.length := by omega
    rw [e1] at hb
    have e2 : (A ++ [x])[A.length]? = some x := by simp
    rw [e2] at hb
    obtain ⟨j, hj⟩ := List.mem_iff_getElem?.mp ha
    have lj := (List.getElem?_eq_some_iff.mp hj).1
    exact ⟨j, a, by omega, by rw [List.getElem?_append_left lj]; exact hj, by rw [← Option.some.inj hb]; exact hx⟩
theorem grown_hangs : ∀ (n : Nat) {A : List Cell}, A.length = n + 1 → Grown A → Hangs A
  | 0, A, l, _ => by
    match A, l with
    | [c], _ => exact hangs_one c
  | n + 1, A, l, g => by
    obtain ⟨B, x, rfl⟩ := snoc_inv (xs := A) (fun z => by rw [z] at l; cases l)
    have lB : B.length = n + 1 := by rw [List.length_append] at l; simp at l; exact l
    have gB : Grown B := by
      have := g.take B.length
      rwa [List.take_left] at this
    have hx : (B ++ [x])[n + 1]? = some x := by rw [← lB]; simp
    obtain ⟨j, a, hj, ha, hb⟩ := g n x hx
    rw [List.getElem?_append_left (by omega)] at ha
    exact hangs_snoc (grown_hangs n lB gB) (List.mem_of_getElem? ha) hb
theorem Grown.hangs {A : List Cell} (p : Grown A) (ne : A ≠ []) : Hangs A := by
  cases A with
  | nil => exact absurd rfl ne
  | cons c A => exact grown_hangs A.length rfl p
theorem cut_take (xs : List V) (k : Nat) : cutV xs none (some (k : Int)) = xs.take k := by
  unfold cutV
  rw [HT.sIx_none, HT.sIx_nat, List.drop_zero, Nat.sub_zero]
  by_cases h : k ≤ xs.length
  · rw [Nat.min_eq_left h]
  · rw [Nat.min_eq_right (by omega), List.take_length, List.take_of_length_le (by omega)]
theorem CellsL.cut {H : Hp} {qs : List Addr} {cs : List Cell} (pr : Paired (fun q c => At H q c) qs cs) (k : Nat) : Paired (fun q c => At H q c) (qs.take k) (cs.take k) := by
  induction pr generalizing k with
  | nil =>
    rw [List.take_nil, List.take_nil]
    exact .nil
  | cons h _ ih =>
    cases k with
    | zero => exact .nil
    | succ k => exact .cons h (ih k)
end Sq

set_option Elab.async false
set_option linter.all false
set_option maxRecDepth 100000
set_option maxHeartbeats 4000000
/-! The law's lists of cells. -/
namespace Sq
open PySem PySem.Spec PyProof.Rows L2
section
variable {P : Program} {w : World} {K : PySem.W.Frag} {mg : Str → Option Value} {base : Heap}
end
end Sq

set_option Elab.async false
set_option linter.all false
set_option maxRecDepth 100000
set_option maxHeartbeats 4000000
/-! The law's bodies. -/
namespace Sq
open PySem PySem.Spec PyProof.Rows L2
theorem hangs_map {A : List Cell} {g : Cell → Cell} (k : ∀ a b, b ∈ besideC a → g b ∈ besideC (g a)) (h : Hangs A) : Hangs (A.map g) := by
  have r : ∀ {a b : Cell}, Reach A a b → Reach (A.map g) (g a) (g b) := fun {a b} z => by
    induction z with
    | refl => exact .refl
    | step _ hb hc ih => exact ih.step (k _ _ hb) (List.mem_map.mpr ⟨_, hc, rfl⟩)
  refine ⟨fun z => h.1 (List.map_eq_nil_iff.mp z), fun x hx y hy => ?_⟩
  obtain ⟨a, ha, rfl⟩ := List.mem_map.mp hx
  obtain ⟨b, hb, rfl⟩ := List.mem_map.mp hy
  exact r (h.2 a ha b hb)
theorem ks_of {H : Hp} : ∀ {qs : List Addr} {cs : List Cell}, Paired (fun q c => At H q c) qs cs → ∃ ks : List (Addr × List Int), ks.map (·.1) = qs ∧ (∀ p ∈ ks, ∃ c ∈ cs, At H p.1 c ∧ p.2 = [c.1, c.2]) ∧ ∀ c ∈ cs, ∃ p ∈ ks, p.2 = [c.1, c.2]
  | _, _, .nil => ⟨[], rfl, by simp, by simp⟩
  | q :: qs, c :: cs, .cons h t => by
    obtain ⟨ks, e, h1, h2⟩ := ks_of t
    refine ⟨(q, [c.1, c.2]) :: ks, by rw [List.map_cons, e], fun p hp => ?_, fun d hd => ?_⟩
    · rcases List.mem_cons.mp hp with z | z
      · rw [z]
        exact ⟨c, List.mem_cons_self .., h, rfl⟩
      · obtain ⟨d, hd, r⟩ := h1 p z
        exact ⟨d, List.mem_cons_of_mem _ hd, r⟩
    · rcases List.mem_cons.mp hd with z | z
      · rw [z]
        exact ⟨_, List.mem_cons_self .., rfl⟩
      · obtain ⟨p, hp, r⟩ := h2 d z
        exact ⟨p, List.mem_cons_of_mem _ hp, r⟩
theorem cs_of {H : Hp} : ∀ {L : List (Addr × List Int)}, (∀ p ∈ L, ∃ c, At H p.1 c ∧ p.2 = [c.1, c.2]) → ∃ cs : List Cell, Paired (fun p c => At H p.1 c ∧ p.2 = [c.1, c.2]) L cs
  | [], _ => ⟨[], .nil⟩
  | p :: L, h => by
    obtain ⟨c, hc⟩ := h p (List.mem_cons_self ..)
    obtain ⟨cs, r⟩ := cs_of (L := L) fun q hq => h q (List.mem_cons_of_mem _ hq)
    exact ⟨c :: cs, .cons hc r⟩
theorem paired_memR {α β : Type} {F : α → β → Prop} {xs : List α} {ys : List β} (h : Paired F xs ys) : ∀ y ∈ ys, ∃ x ∈ xs, F x y := by
  induction h with
  | nil => intro y hy; cases hy
  | cons a _ ih =>
    intro y hy
    rcases List.mem_cons.mp hy with z | z
    · exact ⟨_, List.mem_cons_self .., z ▸ a⟩
    · obtain ⟨x, hx, f⟩ := ih y z
      exact ⟨x, List.mem_cons_of_mem _ hx, f⟩
theorem paired_memL {α β : Type} {F : α → β → Prop} {xs : List α} {ys : List β} (h : Paired F xs ys) : ∀ x ∈ xs, ∃ y ∈ ys, F x y := by
  induction h with
  | nil => intro y hy; cases hy
  | cons a _ ih =>
    intro y hy
    rcases List.mem_cons.mp hy with z | z
    · exact ⟨_, List.mem_cons_self .., z ▸ a⟩
    · obtain ⟨x, hx, f⟩ := ih y z
      exact ⟨x, List.mem_cons_of_mem _ hx, f⟩
theorem pair_inj {c d : Cell} (h : ([c.1, c.2] : List Int) = [d.1, d.2]) : c = d := by
  obtain ⟨c1, c2⟩ := c
  obtain ⟨d1, d2⟩ := d
  simp only [List.cons.injEq, and_true] at h
  rw [h.1, h.2]
section
variable {P : Program} {w : World} {K : PySem.W.Frag} {mg : Str → Option Value} {base : Heap}
end
end Sq

set_option Elab.async false
set_option linter.all false
set_option maxRecDepth 100000
set_option maxHeartbeats 4000000
/-! The search in depth, as it runs. -/
namespace Sq
open PySem PySem.Spec PyProof.Rows L2
/-- all tuples stay -/
def Tk (H G : Hp) : Prop := ∀ b xs, H b = some (.tup xs) → G b = some (.tup xs)
theorem Tk.of {H G : Hp} (h : Same H G) : Tk H G := fun b xs e => h b _ e
theorem Tk.trans {H G I : Hp} (h : Tk H G) (k : Tk G I) : Tk H I := fun b xs e => k b xs (h b xs e)
theorem Tk.refl {H : Hp} : Tk H H := fun _ _ e => e
theorem tk_upd {H : Hp} {a : Addr} {o o' : HO} (e : H a = some o) (n : ∀ xs, o ≠ .tup xs) : Tk H (upd H a o') := fun b xs q => by
  rw [upd_ne (fun z => by rw [z, e] at q; exact n xs (Option.some.inj q))]
  exact q
theorem At.tk {H G : Hp} {q : Addr} {c : Cell} (h : At H q c) (k : Tk H G) : At G q c := k _ _ h
/-- the value that stands for what led to a cell -/
def TwV (H : Hp) (v : V) : Option Cell → Prop
  | none => v = .non
  | some y => ∃ q, v = .ref q ∧ At H q y
theorem TwV.tk {H G : Hp} {v : V} {o : Option Cell} (h : TwV H v o) (k : Tk H G) : TwV G v o := by
  cases o with
  | none => exact h
  | some y =>
    obtain ⟨q, e, a⟩ := h
    exact ⟨q, e, a.tk k⟩
def TwL (H : Hp) (kvs : List (List Key × V)) (T : List TwigC) : Prop := Paired (fun p t => p.1 = cK t.1 ∧ TwV H p.2 t.2) kvs T
theorem TwL.tk {H G : Hp} {kvs : List (List Key × V)} {T : List TwigC} (h : TwL H kvs T) (k : Tk H G) : TwL G kvs T := paired_imp (fun _ _ z => ⟨z.1, z.2.tk k⟩) h
def EntA (H : Hp) (q : Addr) (t : TwigC) : Prop := ∃ b v, H q = some (.tup [.ref b, v]) ∧ At H b t.1 ∧ TwV H v t.2
theorem EntA.tk {H G : Hp} {q : Addr} {t : TwigC} (h : EntA H q t) (k : Tk H G) : EntA G q t := by
  obtain ⟨b, v, e, a, w⟩ := h
  exact ⟨b, v, k _ _ e, a.tk k, w.tk k⟩
theorem dget_c {H : Hp} {d q : Addr} {c : Cell} {kvs : List (List Key × V)} (hd : H d = some (.dT kvs)) (hq : At H q c) : DGet H d (.ref q) (valV kvs (cK c)) := DGet.t hd hq
theorem dput_c {H : Hp} {d q : Addr} {c : Cell} {v : V} {kvs : List (List Key × V)} (hd : H d = some (.dT kvs)) (hq : At H q c) (hl : kvs.length < sizeLine) : DPut H d (.ref q) v (upd H d (.dT (putK kvs (cK c) v))) := DPut.t hd hq hl
section
variable {P : Program} {w : World} {K : PySem.W.Frag} {mg : Str → Option Value} {base : Heap}
end
end Sq

set_option Elab.async false
set_option linter.all false
set_option maxRecDepth 100000
set_option maxHeartbeats 4000000
/-! The least numbers that are met, as they are told. -/
namespace Sq
open PySem PySem.Spec PyProof.Rows L2
def lowV (T : List TwigC) (low : Cell → Nat) (v w : Cell) : Nat := if (w, some v) ∈ T then low w else numT T w
def LowAt (L : List Cell) (T : List TwigC) (low : Cell → Nat) (v : Cell) : Prop := (∀ w ∈ L, w ∈ besideC v → low v ≤ lowV T low v w) ∧ (low v = numT T v ∨ ∃ w ∈ L, w ∈ besideC v ∧ low v = lowV T low v w)
def putL (low : Cell → Nat) (c : Cell) (m : Nat) : Cell → Nat := fun x => if x = c then m else low x
theorem putL_same {low : Cell → Nat} {c : Cell} {m : Nat} : putL low c m c = m := if_pos rfl
theorem putL_other {low : Cell → Nat} {c x : Cell} {m : Nat} (h : x ≠ c) : putL low c m x = low x := if_neg h
/-- told for the last i cells -/
structure LmI (L : List Cell) (T : List TwigC) (i : Nat) (lk : List (List Key × V)) (low : Cell → Nat) : Prop where
  val : ∀ v ∈ keysT T, (keysT T).length ≤ numT T v + i → valV lk (cK v) = some (.int (low v : Int))
  ok : ∀ v ∈ keysT T, (keysT T).length ≤ numT T v + i → LowAt L T low v
  len : lk.length ≤ i
theorem LmI.next {L : List Cell} {T : List TwigC} {i m : Nat} {lk : List (List Key × V)} {low : Cell → Nat} {c : Cell} (h : DTree L T) (I : LmI L T i lk low) (hc : c ∈ keysT T) (nc : numT T c + (i + 1) = (keysT T).length)
    (le : ∀ w ∈ L, w ∈ besideC c → m ≤ lowV T low c w) (at_ : m = numT T c ∨ ∃ w ∈ L, w ∈ besideC c ∧ m = lowV T low c w) : LmI L T (i + 1) (putK lk (cK c) (.int (m : Int))) (putL low c m) := by
  have cases1 : ∀ v ∈ keysT T, (keysT T).length ≤ numT T v + (i + 1) → v = c ∨ (v ≠ c ∧ (keysT T).length ≤ numT T v + i) := fun v hv l => by
    by_cases e : v = c
    · exact .inl e
    · refine .inr ⟨e, ?_⟩
      have : numT T v ≠ numT T c := fun z => e (num_inj hv hc z)
      omega
  have same : ∀ v ∈ keysT T, numT T c ≤ numT T v → ∀ w, lowV T (putL low c m) v w = lowV T low v w := fun v hv l w => by
    unfold lowV
    by_cases z : (w, some v) ∈ T
    · rw [if_pos z, if_pos z]
      have t := (h.twig z).2.2.2
      have ne : w ≠ c := fun e => by rw [e] at t; omega
      exact putL_other ne
    · rw [if_neg z, if_neg z]
  refine ⟨fun v hv l => ?_, fun v hv l => ?_, ?_⟩
  · rcases cases1 v hv l with rfl | ⟨ne, l⟩
    · rw [putL_same, valV_put, if_pos rfl]
    · rw [putL_other ne, valV_put, if_neg (fun e => ne (cK_inj e))]
      exact I.val v hv l
  · rcases cases1 v hv l with rfl | ⟨ne, l⟩
    · refine ⟨fun w hw b => ?_, ?_⟩
      · rw [same v hv (Nat.le_refl _), putL_same]
        exact le w hw b
      · rw [putL_same]
        rcases at_ with e | ⟨w, hw, b, e⟩
        · exact .inl e
        · exact .inr ⟨w, hw, b, by rw [same v hv (Nat.le_refl _)]; exact e⟩
    · have l2 : numT T c ≤ numT T v := by omega
      obtain ⟨a1, a2⟩ := I.ok v hv l
      refine ⟨fun w hw b => ?_, ?_⟩
      · rw [same v hv l2, putL_other ne]
        exact a1 w hw b
      · rw [putL_other ne]
        rcases a2 with e | ⟨w, hw, b, e⟩
        · exact .inl e
        · exact .inr ⟨w, hw, b, by rw [same v hv l2]; exact e⟩
  · exact Nat.le_trans (length_putK _ _ _) (Nat.succ_le_succ I.len)
theorem LmI.all {L : List Cell} {T : List TwigC} {lk : List (List Key × V)} {low : Cell → Nat} (I : LmI L T (keysT T).length lk low) : LowOk L T low :=
  ⟨fun v hv => (I.ok v hv (Nat.le_add_left _ _)).1, fun v hv => (I.ok v hv (Nat.le_add_left _ _)).2⟩
section
variable {P : Program} {w : World} {K : PySem.W.Frag} {mg : Str → Option Value} {base : Heap}
end
end Sq

set_option Elab.async false
set_option linter.all false
set_option maxRecDepth 100000
set_option maxHeartbeats 4000000
/-! Into how many parts the rest falls, as it is told. -/
namespace Sq
open PySem PySem.Spec PyProof.Rows L2
/-- all but what stands at d stays -/
def KpD (d : Addr) (H G : Hp) : Prop := ∀ b o, b ≠ d → H b = some o → G b = some o
theorem KpD.at {d : Addr} {H G : Hp} (k : KpD d H G) {u : HO} (hd : H d = some u) (nu : ∀ xs, u ≠ .tup xs) : Tk H G := fun b xs e => k b _ (fun z => by rw [z, hd] at e; exact nu xs (Option.some.inj e)) e
theorem KpD.put {d D : Addr} {H G : Hp} {o : HO} (k : KpD d H G) (h : H D = none) : KpD d H (upd G D o) := fun b u nb e => by
  rw [upd_ne (ne_of_none e h)]
  exact k b u nb e
theorem KpD.new {d t : Addr} {H G : Hp} {o : HO} (k : KpD d H G) (h : G t = none) : KpD d H (upd G t o) := fun b u nb e => by
  have := k b u nb e
  rw [upd_ne (ne_of_none this h)]
  exact this
theorem KpD.back {d : Addr} {H G : Hp} {u : HO} (k : KpD d H G) (hd : H d = some u) : Same H (upd G d u) := fun b o e => by
  by_cases z : b = d
  · subst z
    rw [upd_same]
    exact hd.symm.trans e
  · rw [upd_ne z]
    exact k b o z e
section
variable {P : Program} {w : World} {K : PySem.W.Frag} {mg : Str → Option Value} {base : Heap}
end
end Sq

set_option Elab.async false
set_option linter.all false
set_option maxRecDepth 100000
set_option maxHeartbeats 4000000
/-! Free squares, cut squares, neighbours. -/
namespace Sq
open PySem PySem.Spec PyProof.Rows L2
section
variable {P : Program} {w : World} {K : PySem.W.Frag} {mg : Str → Option Value} {base : Heap}
end
end Sq

set_option Elab.async false
set_option linter.all false
set_option maxRecDepth 100000
set_option maxHeartbeats 4000000
/-! moves_of. -/
namespace Sq
open PySem PySem.Spec PyProof.Rows L2
theorem PairAt.keep {H G : Hp} {p : Addr} {m : Cell × Cell} (h : PairAt H p m) (k : Tk H G) : PairAt G p m := by
  obtain ⟨x, y, e, ax, ay⟩ := h
  exact ⟨x, y, k _ _ e, k _ _ ax, k _ _ ay⟩
def PairsT (H : Hp) (t : Addr) (ms : List (Cell × Cell)) : Prop := ∃ ps : List Addr, H t = some (.tup (ps.map V.ref)) ∧ Paired (fun p m => PairAt H p m) ps ms
theorem KT.put {Ts : List Addr} {H G : Hp} {D : Addr} {xs : List V} {o : HO} (k : KT Ts H G) (hD : H D = none) (gD : G D = some (.lst xs)) : KT Ts H (upd G D o) := by
  refine ⟨fun b u n e => ?_, k.tb, fun T m => ?_⟩
  · by_cases z : b = D
    · rw [z, hD] at e
      cases e
    · rw [upd_ne z]
      exact k.kp b u n e
  · obtain ⟨ps, e, t⟩ := k.tb' T m
    refine ⟨ps, ?_, t⟩
    by_cases z : T = D
    · rw [z, gD] at e
      cases e
    · rw [upd_ne z]
      exact e
section
variable {P : Program} {w : World} {K : PySem.W.Frag} {mg : Str → Option Value} {base : Heap} {Ts : List Addr}
end
end Sq

set_option Elab.async false
set_option linter.all false
set_option maxRecDepth 100000
set_option maxHeartbeats 4000000
/-! The law's moves. -/
namespace Sq
open PySem PySem.Spec PyProof.Rows L2
theorem pD_toks (p : CellP) : PySem.W.keyToks (pD p) = [.inl 1, .inl 1, .inl p.1.1, .inl 1, .inl p.1.2, .inl 0, .inl 1, .inl 1, .inl p.2.1, .inl 1, .inl p.2.2, .inl 0, .inl 0] := by
  simp [pD, cD, PySem.W.keyToks, PySem.W.keyToksAll]
section
variable {X : Cx}
end
theorem filt_snoc {L : List Cell} {p : Cell → Bool} {i : Nat} {c : Cell} (h : L[i]? = some c) (hp : p c = true) : (L.take (i + 1)).filter p = (L.take i).filter p ++ [c] := by
  rw [take_snoc h, List.filter_append]
  simp only [List.filter_cons, hp, if_true, List.filter_nil]
theorem filt_skip {L : List Cell} {p : Cell → Bool} {i : Nat} {c : Cell} (h : L[i]? = some c) (hp : p c ≠ true) : (L.take (i + 1)).filter p = (L.take i).filter p := by
  rw [take_snoc h, List.filter_append]
  simp only [List.filter_cons, hp, if_false, List.filter_nil, List.append_nil]
  simp
theorem eqv_nilD (ds : List PyData) : PyData.eqv (.list ds) (.list []) = decide (ds = []) := by
  cases ds with
  | nil => rfl
  | cons x xs => rw [decide_eq_false (by simp)]; rfl
def PairsL (H : Hp) (t : Addr) (ms : List CellP) : Prop := ∃ ps : List Addr, H t = some (.lst (ps.map V.ref)) ∧ Paired (fun p m => PairAt H p m) ps ms
section
variable {P : Program} {w : World} {K : PySem.W.Frag} {mg : Str → Option Value} {base : Heap}
end
end Sq

set_option Elab.async false
set_option linter.all false
set_option maxRecDepth 100000
set_option maxHeartbeats 4000000
/-! sorted of a lot of cells; is_body. -/
namespace Sq
open PySem PySem.Spec PyProof.Rows L2
theorem iteN {c : Prop} [Decidable c] {p q : Prop} (h : ¬c) (k : q) : if c then p else q := by
  rw [if_neg h]
  exact k
theorem asc_one {A M : List Cell} (h : A.Perm M) (sa : Asc A) (sm : Asc M) : A = M :=
  List.Perm.eq_of_pairwise (le := fun x y => cLt y x = false) (fun x y _ _ h k => cLt_tri k h) sa sm h
/-- is_body of an ascending tuple of cells, none twice -/
def spIsBody (Ts : List Addr) : Sp := fun vs H Q _ => ∃ (t : Addr) (L : List Cell), vs = [.ref t] ∧ CellsT H t L ∧ L.Nodup ∧ Asc L ∧ L.length ≤ 1000 ∧ TabsG Ts H ∧ ∀ H', KT Ts H H' → Q (.bl (hangsB L)) H'
section
variable {P : Program} {w : World} {K : PySem.W.Frag} {mg : Str → Option Value} {base : Heap}
theorem scIB : FnScope ["value", "item", "lot"] ["value"] (defScope gIsBody) := ⟨rfl, rfl, rfl, by decide +kernel, rfl, by decide +kernel, by decide +kernel⟩
theorem ok_isBody {f c T : Addr} {Ts : List Addr} {fd : FuncData} (F : FunC K "is_body" "is_body" (defArgs gIsBody) (defBody gIsBody) (defScope gIsBody) c f fd) (TB : GxR.TabB base mg c T) (mT : T ∈ Ts) (B : Bl mg) (gA : mg "all" = none) (DI : Df P w K mg base CX0 2 "is_cell" ["value"] (spIsCell K)) (DL : Df P w K mg base CX0 2 "lot_of" ["cells"] spLot) (DH : Df P w K mg base CX0 4 "lot_hangs" ["lot"] spHangs) :
    FnOk P w K mg base CX0 5 f fd ["value"] (spIsBody Ts) := by
  refine F.ok scIB (fun vs H Q E h => ?_) (fun A outer s H vs Q E hr h => ?_)
  · obtain ⟨t, L, rfl, _⟩ := h
    rfl
  · obtain ⟨t, L, rfl, ct, nL, asc, lL, tg, k⟩ := h
    have h64 := room64 hr
    have hu := hu_of hr
    refine ⟨_, PSs.nox (pss_cons (ps_if (PW.pt (pw_or (pt_not (pt_val (pe_callB call_isi (by rfl) B.isinstance PyProof.Rows.boot_isinstance (pa_cons (pv 0) (pa_cons (pe_bltn (v := .ty "tuple") (by rfl) B.tuple PyProof.Rows.boot_tuple rfl) pa_nil)))))
        (pw_or1 (pt_not (pt_val (pe_allG (X := (cxOf CX0 P w K mg base ["value", "item", "lot"] "is_body" (defScope gIsBody) f (.ref c) A outer s H E).nox) (own := [("item", 1)]) (g := gName 1) (tt := tYes) (k := 2) rfl (hr.mono (by decide)) scIB.nd TB rfl ⟨blkOk_by (N := ["value", "item", "lot"]) (sc := defScope gIsBody) (by decide +kernel), rfl, by decide +kernel, by decide +kernel⟩ (pi_tup (pv 0))
        (fun _ _ _ _ _ _ _ => pg_name (i := 1) scIB.nd rfl (Or.inl rfl)) (fun _ _ _ _ _ _ _ _ => pts_nil)
        (fun _ _ _ _ _ _ _ hr1 => pe_df DI hr1 (by rfl) pass0 (pa_cons (pv 1) pa_nil))
        (fun _ => rfl) (by rfl) gA))))))
      (pss_one (ps_ret pe_bl))
      pss_nil)
      (pss_cons (ps_set (i := 2) scIB.nd rfl (.inl rfl) (pe_df DL hr (by rfl) pass0 (pa_cons (pv 0) pa_nil)))
      (pss_one (ps_ret (pe_and (pe_cmpR (op_eqK (K := K) rfl h64) (pe_callTy call_list_of (by rfl) B.list PyProof.Rows.boot_list (pa_cons (pv 0) pa_nil)) (pe_callB (cr_sortedDct rfl) (by rfl) B.sorted (by decide +kernel) (pa_cons (pv 2) pa_nil)) (nomark _)) (pe_one (pe_df DH hr (by rfl) pass0 (pa_cons (pv 2) pa_nil)))))))), ?_⟩
    obtain ⟨qs, et, pr⟩ := id ct
    have lq : qs.length = L.length := Paired.length pr
    refine ⟨_, rfl, _, _, _, _, _, rfl, .ty "tuple", (Kd.tup (K := K) et).ty, kd_isi (T := "tuple") (by decide) (by decide), _, rfl, ?_⟩
    refine ⟨_, rfl, t, rfl, ⟨_, SqT.of et⟩, tg T mT, fun H2 tb => ?_⟩
    refine gen_it (walk_tup (K := K) (a := t) (xs := qs.map V.ref)) (fun i G => KT Ts H G) (.tabbed tg mT tb) (fun i G _ p => SqT.of (p.tup et)) ?_ ?_
    · rintro i x G G' hi kp ⟨rfl, hx⟩
      rw [List.getElem?_map] at hx
      obtain ⟨q, hq, rfl⟩ := Option.map_eq_some_iff.mp hx
      obtain ⟨e, he, ae⟩ := paired_get pr hq
      exact ⟨rfl, yesT ⟨_, rfl, .ref q, true, rfl, .cell (kp.at ae), ⟨true, rfl, iteN (by simp) kp⟩⟩⟩
    · rintro G kp
      have ctG : CellsT G t L := ⟨qs, kp.tup et, paired_imp (fun _ _ h => kp.at h) pr⟩
      refine ⟨_, rfl, ?_⟩
      refine ⟨_, rfl, t, L, rfl, ctG, nL, lL, fun d H1 s1 hd ed => ?_⟩
      have kp1 := kp.same s1
      have ct1 := ctG.ek (.of s1)
      refine ⟨_, rfl, t, _, rfl, .inr (SqT.of (kp1.tup et)), fun l hl => ?_⟩
      have s2 := same_new (o := .lst (qs.map V.ref)) hl
      refine ⟨_, rfl, d, L, rfl, s2 _ _ ed, fun p qs' cs' pr' pm asc' hp => ?_⟩
      have s3 := same_new (o := .lst (qs'.map V.ref)) hp
      have e1 : cs' = L := asc_one pm asc' asc
      subst e1
      have pl1 : Paired (fun q c => At (upd (upd H1 l (.lst (qs.map V.ref))) p (.lst (qs'.map V.ref))) q c) qs cs' := paired_imp (fun _ _ h => s3 _ _ (s2 _ _ (kp1.at h))) pr
      refine ⟨.list (cs'.map cD), .list (cs'.map cD), CellsL.dp ⟨qs, s3 _ _ upd_same, pl1⟩, CellsL.dp ⟨qs', upd_same, paired_imp (fun _ _ h => s3 _ _ h) pr'⟩, lay_cells.shaped (by decide), lay_cells.shaped (by decide), _, rfl, ?_⟩
      rw [SeqAt.eqv_refl _ (SeqAt.canLay_of_shaped (lay_cells.shaped (by decide)))]
      refine ite2 (fun _ => ?_) (fun h => absurd rfl h)
      exact ⟨_, rfl, d, cs', rfl, s3 _ _ (s2 _ _ ed), nL, lL, fun H9 s9 => k H9 (((kp1.same s2).same s3).same s9)⟩
end
end Sq

set_option Elab.async false
set_option linter.all false
set_option maxRecDepth 100000
set_option maxHeartbeats 4000000
/-! in, for a pair of cells and a tuple of such pairs. -/
namespace Sq
open PySem PySem.Spec PyProof.Rows L2
theorem pairs_dps {K : PySem.W.Frag} {H : Hp} : ∀ {ps : List Addr} {ms : List CellP}, Paired (fun p m => PairAt H p m) ps ms → DpAll K H (ps.map V.ref) (ms.map pD)
  | _, _, .nil => .nil
  | _, _, .cons h t => .cons h.dp (pairs_dps t)
theorem PairsT.dp {K : PySem.W.Frag} {H : Hp} {t : Addr} {ms : List CellP} (h : PairsT H t ms) : Dp K H (.ref t) (.tuple (ms.map pD)) := by
  obtain ⟨ps, e, pr⟩ := h
  exact .tup (SqT.of e) (pairs_dps pr)
theorem PairsL.dp {K : PySem.W.Frag} {H : Hp} {t : Addr} {ms : List CellP} (h : PairsL H t ms) : Dp K H (.ref t) (.list (ms.map pD)) := by
  obtain ⟨ps, e, pr⟩ := h
  exact .lst (SqL.of e) (pairs_dps pr)
end Sq

set_option Elab.async false
set_option linter.all false
set_option maxRecDepth 100000
set_option maxHeartbeats 4000000
/-! What a move is, as mathematics. -/
namespace Sq
open PySem PySem.Spec PyProof.Rows L2
theorem abs_one {i : Int} : absI i = 1 ↔ i = 1 ∨ i = -1 := by
  unfold absI
  split <;> omega
theorem abs_zero {i : Int} : absI i = 0 ↔ i = 0 := by
  unfold absI
  split <;> omega
theorem abs_nn (i : Int) : 0 ≤ absI i := by
  unfold absI
  split <;> omega
/-- what lies behind a kind -/
structure IsMv (L : List Cell) (s e : Cell) : Prop where
  sL : s ∈ L
  eL : e ∉ L
  ar : e ∈ aroundC s
  near : ∃ a ∈ without L s, e ∈ besideC a
theorem around_iff {s e : Cell} : e ∈ aroundC s ↔ (e.1 - s.1 = -1 ∨ e.1 - s.1 = 0 ∨ e.1 - s.1 = 1) ∧ (e.2 - s.2 = -1 ∨ e.2 - s.2 = 0 ∨ e.2 - s.2 = 1) ∧ ¬ (e.1 = s.1 ∧ e.2 = s.2) := by
  obtain ⟨e1, e2⟩ := e
  obtain ⟨s1, s2⟩ := s
  simp only [aroundC, List.mem_cons, List.not_mem_nil, or_false, Prod.mk.injEq]
  omega
theorem byPlace_is {L : List Cell} {s e : Cell} (h : byPlace L s e ≠ .non) : IsMv L s e := by
  obtain ⟨sL, eL⟩ := byPlace_mem h
  have key : e ∈ aroundC s ∧ ∃ a ∈ without L s, e ∈ besideC a := by
    unfold byPlace at h
    rw [if_neg (by simp [sL, eL])] at h
    obtain ⟨e1, e2⟩ := e
    obtain ⟨s1, s2⟩ := s
    by_cases c1 : absI (e1 - s1) + absI (e2 - s2) = 1
    · rw [if_pos c1] at h
      have hs : slidesB L (s1, s2) (e1, e2) = true := by
        refine Classical.byContradiction fun n => h ?_
        rw [if_neg n]
      have n1 := abs_nn (e1 - s1)
      have n2 := abs_nn (e2 - s2)
      have cs : (e1 - s1 = 0 ∧ (e2 - s2 = 1 ∨ e2 - s2 = -1)) ∨ ((e1 - s1 = 1 ∨ e1 - s1 = -1) ∧ e2 - s2 = 0) := by
        by_cases z : absI (e1 - s1) = 0
        · exact .inl ⟨abs_zero.mp z, abs_one.mp (by omega)⟩
        · exact .inr ⟨abs_one.mp (by omega), abs_zero.mp (by omega)⟩
      refine ⟨around_iff.mpr ⟨?_, ?_, ?_⟩, ?_⟩
      · simp only
        omega
      · simp only
        omega
      · simp only
        omega
      · unfold slidesB sideB at hs
        simp only [Bool.or_eq_true, Bool.and_eq_true, decide_eq_true_eq] at hs
        rcases hs with ⟨_, hm⟩ | ⟨_, hm⟩
        · refine ⟨_, mem_without.mpr ⟨hm, fun z => ?_⟩, bes (by omega)⟩
          obtain ⟨z1, z2⟩ := Prod.mk.inj z
          omega
        · refine ⟨_, mem_without.mpr ⟨hm, fun z => ?_⟩, bes (by omega)⟩
          obtain ⟨z1, z2⟩ := Prod.mk.inj z
          omega
    · rw [if_neg c1] at h
      by_cases c2 : absI (e1 - s1) = 1 ∧ absI (e2 - s2) = 1
      · rw [if_pos c2] at h
        have hs : turnsB L (s1, s2) (e1, e2) = true := by
          refine Classical.byContradiction fun n => h ?_
          rw [if_neg n]
        have d1 := abs_one.mp c2.1
        have d2 := abs_one.mp c2.2
        refine ⟨around_iff.mpr ⟨?_, ?_, ?_⟩, ?_⟩
        · simp only
          omega
        · simp only
          omega
        · simp only
          omega
        · have hm : (s1, e2) ∈ L ∨ (e1, s2) ∈ L := by
            unfold turnsB at hs
            by_cases m : (s1, e2) ∈ L
            · exact .inl m
            · by_cases m2 : (e1, s2) ∈ L
              · exact .inr m2
              · simp [m, m2] at hs
          rcases hm with hm | hm
          · refine ⟨_, mem_without.mpr ⟨hm, fun z => ?_⟩, bes (by omega)⟩
            obtain ⟨z1, z2⟩ := Prod.mk.inj z
            omega
          · refine ⟨_, mem_without.mpr ⟨hm, fun z => ?_⟩, bes (by omega)⟩
            obtain ⟨z1, z2⟩ := Prod.mk.inj z
            omega
      · rw [if_neg c2] at h
        exact absurd rfl h
  exact ⟨sL, eL, key.1, key.2⟩
theorem kind_ne {L : List Cell} {s e : Cell} : kindV L s e ≠ .non ↔ byPlace L s e ≠ .non ∧ hangsB (without L s) = true := by
  unfold kindV
  constructor
  · intro h
    refine ⟨fun z => h (by rw [if_pos (.inl z)]), ?_⟩
    refine Classical.byContradiction fun n => h ?_
    rw [if_pos (.inr (Bool.eq_false_iff.mpr n))]
  · rintro ⟨h1, h2⟩
    rw [if_neg (fun z => z.elim h1 fun y => by rw [h2] at y; cases y)]
    exact h1
/-- behind a move the body hangs together, and has as many squares -/
theorem behind {L cs : List Cell} {s e : Cell} (nL : L.Nodup) (h : kindV L s e ≠ .non) (pm : cs.Perm (without L s ++ [e])) : Hangs cs ∧ cs.Nodup ∧ cs.length = L.length := by
  obtain ⟨h1, h2⟩ := kind_ne.mp h
  obtain ⟨sL, eL, ar, a, ha, hb⟩ := byPlace_is h1
  have hh : Hangs (without L s ++ [e]) := hangs_snoc (hangsB_iff.mp h2) ha hb
  have nd : (without L s ++ [e]).Nodup := List.nodup_append.mpr ⟨nL.sublist List.filter_sublist, by simp, fun a ha b hb => by
    rw [List.mem_singleton.mp hb]
    exact fun z => eL (z ▸ (mem_without.mp ha).1)⟩
  refine ⟨(hangs_perm fun x => pm.mem_iff).mpr hh, pm.nodup_iff.mpr nd, ?_⟩
  rw [pm.length_eq, List.length_append]
  have l1 : (without L s).length + 1 = L.length := by
    have p1 : L.Perm (s :: without L s) := by
      refine (List.perm_ext_iff_of_nodup nL (List.nodup_cons.mpr ⟨fun m => (mem_without.mp m).2 rfl, nL.sublist List.filter_sublist⟩)).mpr fun x => ?_
      rw [List.mem_cons, mem_without]
      by_cases z : x = s
      · subst z
        simp [sL]
      · simp [z]
    have := p1.length_eq
    rw [List.length_cons] at this
    omega
  exact l1
theorem KT.pen {Ts : List Addr} {H G : Hp} {p : Addr} {n : Nat} (k : KT Ts H G) (h : PenAt H p n) : PenAt G p n := by
  obtain ⟨c, zs, i, dg, fo, e1, e2, r⟩ := h.ex
  exact ⟨⟨c, zs, i, dg, fo, k.get e1 (fun _ z => nomatch z), k.get e2 (fun _ z => nomatch z), r⟩⟩
theorem PairAt.ek {H G : Hp} {p : Addr} {m : CellP} (h : PairAt H p m) (k : Ek H G) : PairAt G p m := by
  obtain ⟨x, y, e, ax, ay⟩ := h
  exact ⟨x, y, k.tup e, k.at ax, k.at ay⟩
theorem PairsT.ek {H G : Hp} {t : Addr} {ms : List CellP} (h : PairsT H t ms) (k : Ek H G) : PairsT G t ms := by
  obtain ⟨ps, e, pr⟩ := h
  exact ⟨ps, k.tup e, paired_imp (fun _ _ a => PairAt.ek a k) pr⟩
theorem PairsL.ek {H G : Hp} {t : Addr} {ms : List CellP} (h : PairsL H t ms) (k : Ek H G) : PairsL G t ms := by
  obtain ⟨ps, e, pr⟩ := h
  exact ⟨ps, k.lst e, paired_imp (fun _ _ a => PairAt.ek a k) pr⟩
theorem ne_same {v : V} (h : scal v v = true) {H : Hp} {Q : VK} (q : Q (.bl false) H) : rNe v v H Q := ⟨h, by rw [decide_eq_true rfl]; exact q⟩
theorem ne_eq {i j : Int} (h : i = j) {H : Hp} {Q : VK} (q : Q (.bl false) H) : rNe (.int i) (.int j) H Q := by
  subst h
  exact ne_same rfl q
end Sq

set_option Elab.async false
set_option linter.all false
set_option maxRecDepth 100000
set_option maxHeartbeats 4000000
/-! A body of two squares or more has a move; moves back; moves of a moved body. -/
namespace Sq
open PySem PySem.Spec PyProof.Rows L2
/-! ### back -/
/-! ### moved -/
def shC (b c : Cell) : Cell := (c.1 + b.1, c.2 + b.2)
theorem shC_inj {b c d : Cell} (h : shC b c = shC b d) : c = d := by
  obtain ⟨c1, c2⟩ := c
  obtain ⟨d1, d2⟩ := d
  obtain ⟨h1, h2⟩ := Prod.mk.inj h
  have h1 : c1 + b.1 = d1 + b.1 := h1
  have h2 : c2 + b.2 = d2 + b.2 := h2
  rw [Prod.mk.injEq]
  omega
theorem mem_sh {L : List Cell} {b c : Cell} : shC b c ∈ L.map (shC b) ↔ c ∈ L := by
  rw [List.mem_map]
  constructor
  · rintro ⟨d, hd, e⟩
    exact shC_inj e ▸ hd
  · exact fun h => ⟨c, h, rfl⟩
theorem sh_beside {b c d : Cell} (h : d ∈ besideC c) : shC b d ∈ besideC (shC b c) := by
  have := beside_iff.mp h
  refine bes ?_
  omega
theorem sh_back (b : Cell) (L : List Cell) : (L.map (shC b)).map (shC (-b.1, -b.2)) = L := by
  rw [List.map_map]
  have e : (shC (-b.1, -b.2)) ∘ (shC b) = id := by
    funext c
    obtain ⟨c1, c2⟩ := c
    simp only [Function.comp, shC, id, Prod.mk.injEq]
    omega
  rw [e, List.map_id]
theorem hangs_sh {L : List Cell} {b : Cell} : Hangs (L.map (shC b)) ↔ Hangs L := by
  constructor
  · intro h
    have := hangs_map (g := shC (-b.1, -b.2)) (fun _ _ => sh_beside) h
    rw [sh_back] at this
    exact this
  · exact hangs_map (g := shC b) (fun _ _ => sh_beside)
theorem cLt_sh {b x y : Cell} : cLt (shC b x) (shC b y) = cLt x y := by
  unfold cLt shC
  rw [Bool.eq_iff_iff, decide_eq_true_iff, decide_eq_true_iff]
  simp only
  omega
theorem asc_sh {L : List Cell} {b : Cell} (h : Asc L) : Asc (L.map (shC b)) := by
  unfold Asc at h ⊢
  rw [List.pairwise_map]
  exact h.imp fun {x y} q => by rw [cLt_sh]; exact q
theorem nodup_sh {L : List Cell} {b : Cell} (h : L.Nodup) : (L.map (shC b)).Nodup := List.pairwise_map.mpr (h.imp fun {x y} q z => q (shC_inj z))
end Sq

set_option Elab.async false
set_option linter.all false
set_option maxRecDepth 100000
set_option maxHeartbeats 4000000
/-! moved; what the laws ask of cells and moves. -/
namespace Sq
open PySem PySem.Spec PyProof.Rows L2
/-- in, not in, for a cell and a tuple of cells -/
def rInT : R2 := fun x y H Q => ∃ (p t : Addr) (c : Cell) (L : List Cell), x = .ref p ∧ y = .ref t ∧ At H p c ∧ CellsT H t L ∧ Q (.bl (decide (c ∈ L))) H
def rOutT : R2 := fun x y H Q => ∃ (p t : Addr) (c : Cell) (L : List Cell), x = .ref p ∧ y = .ref t ∧ At H p c ∧ CellsT H t L ∧ Q (.bl (!decide (c ∈ L))) H
theorem op_inT {X : Cx} (hu : X.A.units + 64 < cLine) : OpR X (compareOp .In) rInT := by
  rintro pins s σ H x y v u Q I rx ry ⟨p, t, c, L, rfl, rfl, ap, ct, q⟩
  obtain ⟨as, r1⟩ := Dp.reads I (cD c) _ v ap.dp rx
  obtain ⟨bs, r2⟩ := Dp.reads I (.tuple (L.map cD)) _ u ct.dp ry
  have l1 := lay_cellH c
  refine SeqAt.in_tuple_reads r2 r1 (cells_canH L) l1.1 ?_ ⟨.bl _, H, I, rfl, ?_⟩
  · have m : min (PyData.depthAll (L.map cD)) (cD c).depth ≤ 1 := Nat.le_trans (Nat.min_le_right _ _) l1.2
    omega
  · rw [any_cellH]
    exact q
theorem op_outT {X : Cx} (hu : X.A.units + 64 < cLine) : OpR X (compareOp .NotIn) rOutT := by
  rintro pins s σ H x y v u Q I rx ry ⟨p, t, c, L, rfl, rfl, ap, ct, q⟩
  obtain ⟨as, r1⟩ := Dp.reads I (cD c) _ v ap.dp rx
  obtain ⟨bs, r2⟩ := Dp.reads I (.tuple (L.map cD)) _ u ct.dp ry
  have l1 := lay_cellH c
  refine SeqAt.notIn_tuple_reads r2 r1 (cells_canH L) l1.1 ?_ ⟨.bl _, H, I, rfl, ?_⟩
  · have m : min (PyData.depthAll (L.map cD)) (cD c).depth ≤ 1 := Nat.le_trans (Nat.min_le_right _ _) l1.2
    omega
  · rw [any_cellH]
    exact q
/-- an own error is on its way -/
def WayS (H : Hp) (C : Addr) (fs : List (Str × V)) (E : XK) : Prop := ∀ (dd : Addr) (H' : Hp), Same H H' → H dd = none → H' dd = some (.xd fs) → E (.ref C) (some dd) H'
theorem WayS.from {H G : Hp} {C : Addr} {fs : List (Str × V)} {E : XK} (h : WayS H C fs E) (k : Same H G) : ∀ d, G d = none → E (.ref C) (some d) (upd G d (.xd fs)) := fun d hd =>
  h d _ (k.trans (same_new hd)) (k.free hd) upd_same
section
variable {P : Program} {w : World} {K : PySem.W.Frag} {mg : Str → Option Value} {base : Heap}
end
theorem lay_cellsT7 {cs : List Cell} : Lay 2 (.tuple (cs.map cD)) := lay_tuple fun d hd => by
  obtain ⟨c, _, rfl⟩ := List.mem_map.mp hd
  exact lay_cellH c
theorem eqv_self {n : Nat} {d : PyData} (h : Lay n d) (k : n ≤ 64 := by decide) : PyData.eqv d d = true := SeqAt.eqv_refl _ (SeqAt.canLay_of_shaped (h.shaped k))
end Sq

set_option Elab.async false
set_option linter.all false
set_option maxRecDepth 100000
set_option maxHeartbeats 4000000
/-! checked_lot of cells; parts_of. -/
namespace Sq
open PySem PySem.Spec PyProof.Rows L2
/-- t holds a tuple of tuples of these cells -/
def CellsTT (H : Hp) (t : Addr) (ps : List (List Cell)) : Prop := ∃ ts : List Addr, H t = some (.tup (ts.map V.ref)) ∧ Paired (fun t p => CellsT H t p) ts ps
section
variable {P : Program} {w : World} {K : PySem.W.Frag} {mg : Str → Option Value} {base : Heap}
end
end Sq

set_option Elab.async false
set_option linter.all false
set_option maxRecDepth 100000
set_option maxHeartbeats 4000000
/-! is_move_in: whether a pair of a plan is a move. -/
namespace Sq
open PySem PySem.Spec PyProof.Rows L2
/-- a value: a cell, or none -/
def CellO (K : PySem.W.Frag) (H : Hp) (x : V) : Option Cell → Prop
  | none => CellQ K H x false
  | some c => ∃ p, x = .ref p ∧ At H p c
theorem CellO.ek {K : PySem.W.Frag} {H G : Hp} {x : V} {o : Option Cell} (h : CellO K H x o) (k : Ek H G) : CellO K G x o := by
  cases o with
  | none => exact CellQ.ek (show CellQ K H x false from h) k
  | some c =>
    obtain ⟨p, e, a⟩ := h
    exact ⟨p, e, k.at a⟩
/-- what is_cell says of it -/
theorem CellO.q {K : PySem.W.Frag} {H : Hp} {x : V} {o : Option Cell} (h : CellO K H x o) : CellQ K H x o.isSome := by
  cases o with
  | none => exact h
  | some c =>
    obtain ⟨p, rfl, a⟩ := h
    exact .cell a
abbrev MvO := Option Cell × Option Cell
/-- a pair of a plan -/
def MvAt (K : PySem.W.Frag) (H : Hp) (q : Addr) (m : MvO) : Prop := ∃ x y, H q = some (.tup [x, y]) ∧ CellO K H x m.1 ∧ CellO K H y m.2
theorem MvAt.ek {K : PySem.W.Frag} {H G : Hp} {q : Addr} {m : MvO} (h : MvAt K H q m) (k : Ek H G) : MvAt K G q m := by
  obtain ⟨x, y, e, a, b⟩ := h
  exact ⟨x, y, k.tup e, a.ek k, b.ek k⟩
section
variable {P : Program} {w : World} {K : PySem.W.Frag} {mg : Str → Option Value} {base : Heap} {Ts : List Addr}
end
end Sq

set_option Elab.async false
set_option linter.all false
set_option maxRecDepth 100000
set_option maxHeartbeats 4000000
/-! first_wrong. -/
namespace Sq
open PySem PySem.Spec PyProof.Rows L2
/-- the lot behind a pair -/
def stepC (L : List Cell) : MvO → List Cell
  | (some a, some b) => without L a ++ [b]
  | _ => L
/-- the lot ahead of the pair at i -/
def lotAt (L : List Cell) (ms : List MvO) (i : Nat) : List Cell := (ms.take i).foldl stepC L
/-- a plan: a list or a tuple of pairs -/
def PlanAt (K : PySem.W.Frag) (H : Hp) (pl : Addr) (ms : List MvO) : Prop := ∃ qs : List Addr, (H pl = some (.lst (qs.map V.ref)) ∨ H pl = some (.tup (qs.map V.ref))) ∧ Paired (fun q m => MvAt K H q m) qs ms
theorem PlanAt.ek {K : PySem.W.Frag} {H G : Hp} {pl : Addr} {ms : List MvO} (h : PlanAt K H pl ms) (k : Ek H G) : PlanAt K G pl ms := by
  obtain ⟨qs, e, pr⟩ := h
  exact ⟨qs, e.elim (fun e => .inl (k.lst e)) fun e => .inr (k.tup e), paired_imp (fun _ _ h => h.ek k) pr⟩
section
variable {P : Program} {w : World} {K : PySem.W.Frag} {mg : Str → Option Value} {base : Heap} {Ts : List Addr}
end
end Sq

set_option Elab.async false
set_option linter.all false
set_option maxRecDepth 100000
set_option maxHeartbeats 4000000
/-! checked_moves. -/
namespace Sq
open PySem PySem.Spec PyProof.Rows L2
section
variable {P : Program} {w : World} {K : PySem.W.Frag} {mg : Str → Option Value} {base : Heap} {Ts : List Addr}
end
end Sq

set_option Elab.async false
set_option linter.all false
set_option maxRecDepth 100000
set_option maxHeartbeats 4000000
/-! bodies_behind, bodies_of, end_of. -/
namespace Sq
open PySem PySem.Spec PyProof.Rows L2
theorem cellsT_tu {H G : Hp} {t : Addr} {L : List Cell} (h : CellsT H t L) (k : ∀ b xs, H b = some (.tup xs) → G b = some (.tup xs)) : CellsT G t L := by
  obtain ⟨qs, e, pr⟩ := h
  exact ⟨qs, k _ _ e, paired_imp (fun _ _ a => k _ _ a) pr⟩
theorem upd_tu {G : Hp} {d : Addr} {o o' : HO} (hd : G d = some o) (n : ∀ xs, o ≠ .tup xs) : ∀ b xs, G b = some (.tup xs) → upd G d o' b = some (.tup xs) := fun b xs e => by
  rw [upd_ne (fun z => by rw [z, hd] at e; exact n xs (Option.some.inj e))]
  exact e
/-- the bodies of a plan, up to the n-th -/
def BsOk (L : List Cell) (ms : List MvO) (n : Nat) (Bs : List (List Cell)) : Prop := Bs.length = n + 1 ∧ ∀ j B, Bs[j]? = some B → B.Perm (lotAt L ms j) ∧ Asc B
theorem BsOk.snoc {L B : List Cell} {ms : List MvO} {n : Nat} {Bs : List (List Cell)} (h : BsOk L ms n Bs) (p : B.Perm (lotAt L ms (n + 1))) (a : Asc B) : BsOk L ms (n + 1) (Bs ++ [B]) := by
  refine ⟨by rw [List.length_append, h.1]; rfl, fun j X e => ?_⟩
  by_cases hj : j < Bs.length
  · rw [List.getElem?_append_left hj] at e
    exact h.2 j X e
  · have hj' : j = Bs.length := by
      have := (List.getElem?_eq_some_iff.mp e).1
      rw [List.length_append] at this
      have : j < Bs.length + 1 := this
      omega
    subst hj'
    rw [List.getElem?_append_right (Nat.le_refl _), Nat.sub_self] at e
    have := Option.some.inj e
    subst this
    rw [h.1]
    exact ⟨p, a⟩
section
variable {P : Program} {w : World} {K : PySem.W.Frag} {mg : Str → Option Value} {base : Heap} {Ts : List Addr}
end
end Sq

set_option Elab.async false
set_option linter.all false
set_option maxRecDepth 100000
set_option maxHeartbeats 4000000
/-! bodies_of, end_of. -/
namespace Sq
open PySem PySem.Spec PyProof.Rows L2
section
variable {P : Program} {w : World} {K : PySem.W.Frag} {mg : Str → Option Value} {base : Heap} {Ts : List Addr}
end
end Sq

set_option Elab.async false
set_option linter.all false
set_option maxRecDepth 100000
set_option maxHeartbeats 4000000
/-! The law's first_wrong. -/
namespace Sq
open PySem PySem.Spec PyProof.Rows L2
section
variable {P : Program} {w : World} {K : PySem.W.Frag} {mg : Str → Option Value} {base : Heap} {Ts : List Addr}
end
end Sq

set_option Elab.async false
set_option linter.all false
set_option maxRecDepth 100000
set_option maxHeartbeats 4000000
/-! What the law asks of bodies_of and end_of. -/
namespace Sq
open PySem PySem.Spec PyProof.Rows L2
section
variable {P : Program} {w : World} {K : PySem.W.Frag} {mg : Str → Option Value} {base : Heap} {Ts : List Addr}
end
end Sq

set_option Elab.async false
set_option linter.all false
set_option maxRecDepth 100000
set_option maxHeartbeats 4000000
/-! draw and pick again: the pen's list stays where it is. -/
namespace Sq
open PySem PySem.Spec PyProof.Rows L2
/-- a pen stands at p, its list at c, n numbers were drawn -/
structure PenC (H : Hp) (p c : Addr) (n : Nat) : Prop where
  ex : ∃ (zs : List Int) (i : Nat) (dg fo : Int), H p = some (.dK (penK c i dg n fo)) ∧ H c = some (.lst (zs.map V.int)) ∧ i ≤ zs.length ∧ zs.length ≤ 63 ∧ 0 ≤ dg ∧ 0 ≤ fo ∧ fo < 2147483648
theorem PenC.at {H : Hp} {p c : Addr} {n : Nat} (h : PenC H p c n) : PenAt H p n := ⟨⟨c, h.ex⟩⟩
theorem PenAt.c {H : Hp} {p : Addr} {n : Nat} (h : PenAt H p n) : ∃ c, PenC H p c n := by
  obtain ⟨c, r⟩ := h.ex
  exact ⟨c, ⟨r⟩⟩
theorem PenC.same {H H' : Hp} {p c : Addr} {n : Nat} (h : PenC H p c n) (k : Same H H') : PenC H' p c n := by
  obtain ⟨zs, i, dg, fo, e1, e2, r⟩ := h.ex
  exact ⟨⟨zs, i, dg, fo, k _ _ e1, k _ _ e2, r⟩⟩
/-- what is put elsewhere -/
theorem PenC.off {H : Hp} {p c q : Addr} {n : Nat} {o : HO} (h : PenC H p c n) (np : p ≠ q) (nc : c ≠ q) : PenC (upd H q o) p c n := by
  obtain ⟨zs, i, dg, fo, e1, e2, r⟩ := h.ex
  exact ⟨⟨zs, i, dg, fo, by rw [upd_ne np]; exact e1, by rw [upd_ne nc]; exact e2, r⟩⟩
theorem PenC.ne {H : Hp} {p c q : Addr} {n : Nat} (h : PenC H p c n) (hq : H q = none) : p ≠ q ∧ c ≠ q := by
  obtain ⟨zs, i, dg, fo, e1, e2, r⟩ := h.ex
  exact ⟨ne_of_none e1 hq, ne_of_none e2 hq⟩
def spDrawC : Sp := fun vs H Q _ => ∃ (p c : Addr) (n : Nat) (m : Int), vs = [.ref p, .int m] ∧ PenC H p c n ∧ 1 ≤ m ∧ m < 1073741824 ∧ n < 1000000 ∧
  ∀ (r : Int) (H' : Hp), 0 ≤ r → r < m → PenC H' p c (n + 1) → (∀ b, b ≠ p → H' b = H b) → Q (.int r) H'
def spPickC (K : PySem.W.Frag) : Sp := fun vs H Q _ => ∃ (p c l : Addr) (n : Nat) (xs : List V), vs = [.ref p, .ref l] ∧ PenC H p c n ∧ n < 1000000 ∧ (SqL K H l xs ∨ SqT K H l xs) ∧ 1 ≤ xs.length ∧ xs.length < 1073741824 ∧
  ∀ (i : Nat) (x : V) (H' : Hp), xs[i]? = some x → PenC H' p c (n + 1) → (∀ b, b ≠ p → H' b = H b) → Q x H'
section
variable {P : Program} {w : World} {K : PySem.W.Frag} {mg : Str → Option Value} {base : Heap}
theorem ok_drawC {f : Addr} {fd : FuncData} (F : FnP K "_law_draw" sDraw f fd) (gI : mg "int" = none) (gL : mg "len" = none) : FnOk P w K mg base CX0 1 f fd ["_law_pen_here", "_law_many"] spDrawC := by
  refine F.ok scD (fun vs H Q E h => ?_) (fun cdv A outer s H vs Q E hr h => ?_)
  · obtain ⟨p, c, n, m, rfl, _⟩ := h
    rfl
  · obtain ⟨p, c, n, m, rfl, ⟨zs, i, dg, fo, hp, hc, hi, hl, hd, f0, f1⟩, m1, m2, hn, k⟩ := h
    have hu := hu_of hr
    have cp : c ≠ p := ne_of hc hp (by intro z; cases z)
    -- what stands behind the first if
    obtain ⟨tt, htt, key⟩ : ∃ t, PSs (cxOf CX0 P w K mg base ["_law_pen_here", "_law_many", "_law_cell", "_law_digit", "_law_blend"] "_law_draw" (defScope sDraw) f cdv A outer s H E).nox ((defBody sDraw).drop 2) t ∧
        ∀ (D : Ends) (v : Option V) (i' : Nat) (dg' fo' : Int) (H1 : Hp), H1 p = some (.dK (penK c i' dg' ((n : Int) + 1) fo')) → H1 c = some (.lst (zs.map V.int)) → (∀ b, b ≠ p → H1 b = H b) → i' ≤ zs.length → 0 ≤ dg' → 0 ≤ fo' → fo' < 2147483648 →
          (∀ (r : Int) (H' : Hp), 0 ≤ r → r < m → PenC H' p c (n + 1) → (∀ b, b ≠ p → H' b = H b) → D.rt (.int r) H') → t D [some (.ref p), some (.int m), v, none, none] H1 := by
      refine ⟨_, pss_cons (ps_if (pt_cmpR op_gt (pe_dget hu (pv 0) pe_str (fun _ _ => rfl)) pe_int (nomark _))
        (pss_cons (ps_set (i := 3) scD.nd rfl (.inl rfl) (pe_op op_mod (pe_callTy call_int1 (by rfl) gI PyProof.Rows.boot_int (pa_cons (pe_dget hu (pv 0) pe_str (fun _ _ => rfl)) pa_nil)) (pv 1)))
        (pss_cons (ps_dput hu (pv 0) pe_str (pe_op op_fdiv (pe_dget hu (pv 0) pe_str (fun _ _ => rfl)) (pv 1)) rfl)
        (pss_one (ps_ret (pv 3)))))
        pss_nil)
        (pss_cons (ps_set (i := 4) scD.nd rfl (.inl rfl) (pe_op op_add (pe_op op_add (pe_dget hu (pv 0) pe_str (fun _ _ => rfl)) (pe_op op_mul (pe_dget hu (pv 0) pe_str (fun _ _ => rfl)) pe_int)) pe_int))
        (pss_one (ps_ret (pe_op op_mod (pe_op op_fdiv (pe_callTy call_int1 (by rfl) gI PyProof.Rows.boot_int (pa_cons (pe_op op_mod (pe_op op_pow (pv 4) pe_int) pe_int) pa_nil)) pe_int) (pv 1))))), ?_⟩
      intro D v i' dg' fo' H1 e1 e2 e3 h1 h2 h3 h4 kD
      refine ⟨_, rfl, p, _, rfl, dget_of e1 pen_dig, _, _, rfl, rfl, _, rfl, ?_⟩
      refine ite2 (fun hd => ?_) (fun hd => ?_)
      · refine ⟨_, rfl, p, _, rfl, dget_of e1 pen_dig, .inl ⟨_, rfl, _, rfl, _, _, rfl, rfl, (by show 0 < m; omega), ?_⟩⟩
        refine ⟨_, rfl, p, _, rfl, dget_of e1 pen_dig, _, rfl, _, _, rfl, rfl, ⟨by omega, m2⟩, _, rfl, p, _, rfl, dput_of e1 put_dig, ?_⟩
        refine ⟨_, rfl, ?_⟩
        refine kD _ _ (Int.emod_nonneg _ (by omega)) (Int.emod_lt_of_pos _ (by omega)) ⟨⟨zs, i', dg' / m, fo', ?_, ?_, h1, hl, Int.ediv_nonneg h2 (by omega), h3, h4⟩⟩ fun b hb => ?_
        · rw [upd_same]
          rfl
        · rw [upd_ne cp]
          exact e2
        · rw [upd_ne hb]
          exact e3 b hb
      · refine ⟨_, rfl, p, _, rfl, dget_of e1 pen_fold, _, rfl, p, _, rfl, dget_of e1 pen_cnt, _, _, rfl, rfl, .inr ⟨by decide, by decide⟩, _, _, rfl, rfl, _, _, rfl, rfl, ?_⟩
        refine ⟨_, rfl, _, _, rfl, rfl, ⟨by decide, by decide, ?_⟩, _, _, rfl, rfl, (by show (0 : Int) < 2305843009213693951; decide), .inl ⟨_, rfl, _, _, rfl, rfl, ⟨by decide, by decide⟩, _, rfl, _, _, rfl, rfl, (by show 0 < m; omega), ?_⟩⟩
        · show (fo' + ((n : Int) + 1) * 7907 + 37).natAbs < 18446744073709551616
          omega
        · exact kD _ _ (Int.emod_nonneg _ (by omega)) (Int.emod_lt_of_pos _ (by omega)) ⟨⟨zs, i', dg', fo', e1, e2, h1, hl, h2, h3, h4⟩⟩ e3
    refine ⟨_, PSs.nox (pss_cons (ps_dput hu (pv 0) pe_str (pe_op op_add (pe_dget hu (pv 0) pe_str (fun _ _ => rfl)) pe_int) rfl)
      (pss_cons (ps_if (PW.pt (pw_and (pt_cmpR op_eq (pe_dget hu (pv 0) pe_str (fun _ _ => rfl)) pe_int (nomark _)) (pw_and1 (pt_cmpR op_lt (pe_dget hu (pv 0) pe_str (fun _ _ => rfl)) (pe_callB call_len_seq (by rfl) gL PySem.boot_len (pa_cons (pe_dget hu (pv 0) pe_str (fun _ _ => rfl)) pa_nil)) (nomark _)))))
        (pss_cons (ps_set (i := 2) scD.nd rfl (.inl rfl) (pe_ix ix_list (pe_dget hu (pv 0) pe_str (fun _ _ => rfl)) (pe_dget hu (pv 0) pe_str (fun _ _ => rfl)) (fun _ _ => rfl)))
        (pss_cons (ps_dput hu (pv 0) pe_str (pe_op op_add (pe_dget hu (pv 0) pe_str (fun _ _ => rfl)) pe_int) rfl)
        (pss_one (ps_if (pt_cmpR op_ge (pv 2) (pe_op op_pow pe_int pe_int) (nomark _))
          (pss_one (ps_dput hu (pv 0) pe_str (pe_op op_sub (pv 2) (pe_op op_pow pe_int pe_int)) rfl))
          (pss_one (ps_dput hu (pv 0) pe_str (pe_op op_mod (pe_callTy call_int1 (by rfl) gI PyProof.Rows.boot_int (pa_cons (pe_op op_add (pe_op op_mul (pe_dget hu (pv 0) pe_str (fun _ _ => rfl)) pe_int) (pv 2)) pa_nil)) pe_int) rfl))))))
        pss_nil)
      htt)), ?_⟩
    refine ⟨_, rfl, p, _, rfl, dget_of hp pen_cnt, _, _, rfl, rfl, _, rfl, p, _, rfl, dput_of hp put_cnt, ?_⟩
    have hc1 : ∀ o, upd H p o c = some (.lst (zs.map V.int)) := fun o => by
      rw [upd_ne cp]
      exact hc
    have far : ∀ (o : HO) (b : Addr), b ≠ p → upd H p o b = H b := fun o b hb => upd_ne hb
    refine ⟨_, rfl, p, _, rfl, dget_of upd_same pen_dig, rfl, _, rfl, ?_⟩
    refine ite2 (fun _ => ?_) (fun _ => ?_)
    · refine ⟨_, rfl, p, _, rfl, dget_of upd_same pen_at, _, rfl, p, _, rfl, dget_of upd_same pen_cells, c, _, rfl, .inl (SqL.of (hc1 _)), _, _, rfl, rfl, _, rfl, ?_⟩
      refine ite2 (fun hlt => ?_) (fun _ => ?_)
      · have hlt' : (i : Int) < ((zs.map V.int).length : Int) := of_decide_eq_true hlt
        rw [List.length_map] at hlt'
        have hiz : i < zs.length := by omega
        have hat : atI (zs.map V.int) (i : Int) = some (.int zs[i]) := atI_nat (by rw [List.getElem?_map, List.getElem?_eq_getElem hiz]; rfl)
        refine ⟨_, rfl, p, _, rfl, dget_of upd_same pen_cells, _, rfl, p, _, rfl, dget_of upd_same pen_at, c, _, _, _, rfl, rfl, SqL.of (hc1 _), hat, ?_⟩
        refine ⟨_, rfl, p, _, rfl, dget_of upd_same pen_at, _, _, rfl, rfl, _, rfl, p, _, rfl, dput_of upd_same put_at, ?_⟩
        rw [upd_upd]
        refine ⟨_, rfl, _, _, rfl, rfl, ⟨by decide, by decide, by decide⟩, _, _, rfl, rfl, _, rfl, ?_⟩
        refine ite2 (fun hbig => ?_) (fun _ => ?_)
        · have hbig' : (10 : Int) ^ 18 ≤ zs[i] := of_decide_eq_true hbig
          refine ⟨_, rfl, _, _, rfl, rfl, ⟨by decide, by decide, by decide⟩, _, _, rfl, rfl, _, rfl, p, _, rfl, dput_of upd_same put_dig, ?_⟩
          rw [upd_upd]
          have e10 : (10 : Int) ^ 18 = 1000000000000000000 := by decide
          refine key _ _ (i + 1) _ fo _ upd_same (hc1 _) (far _) (by omega) ?_ f0 f1 k
          show 0 ≤ zs[i] - (10 : Int) ^ 18
          omega
        · refine ⟨_, rfl, p, _, rfl, dget_of upd_same pen_fold, _, _, rfl, rfl, .inr ⟨by decide, by decide⟩, _, rfl, _, _, rfl, rfl, .inl ⟨_, rfl, _, _, rfl, rfl, (by show (0 : Int) < 2147483587; decide), _, rfl, p, _, rfl, dput_of upd_same put_fold, ?_⟩⟩
          rw [upd_upd]
          refine key _ _ (i + 1) dg _ _ upd_same (hc1 _) (far _) (by omega) hd ?_ ?_ k
          · exact Int.emod_nonneg _ (by decide)
          · exact Int.lt_trans (Int.emod_lt_of_pos _ (by decide)) (by decide)
      · exact key _ _ i dg fo _ upd_same (hc1 _) (far _) hi hd f0 f1 k
    · exact key _ _ i dg fo _ upd_same (hc1 _) (far _) hi hd f0 f1 k
theorem ok_pickC {f : Addr} {fd : FuncData} (F : FnP K "_law_pick" sPick f fd) (DD : Df P w K mg base CX0 1 "_law_draw" ["_law_pen_here", "_law_many"] spDrawC) (gL : mg "len" = none) : FnOk P w K mg base CX0 2 f fd ["_law_pen_here", "_law_some"] (spPickC K) := by
  refine F.ok scK (fun vs H Q E h => ?_) (fun cdv A outer s H vs Q E hr h => ?_)
  · obtain ⟨p, c, l, n, xs, rfl, _⟩ := h
    rfl
  · obtain ⟨p, c, l, n, xs, rfl, hp, hn, hS, h1, h2, k⟩ := h
    obtain ⟨zs, i0, dg, fo, ep, _⟩ := hp.ex
    refine ⟨_, PSs.nox (pss_one (ps_ret (pe_ix (IxR.or ix_list ix_tup) (pv 1) (pe_df DD hr (by rfl) pass0 (pa_cons (pv 0) (pa_cons (pe_callB call_len_seq (by rfl) gL PySem.boot_len (pa_cons (pv 1) pa_nil)) pa_nil))) (fun _ _ => rfl)))), ?_⟩
    refine ⟨_, rfl, _, rfl, _, rfl, l, xs, rfl, hS, p, c, n, (xs.length : Int), rfl, hp, by omega, by omega, hn, fun r H' r0 r1 hp' hb => ?_⟩
    obtain ⟨j, rfl⟩ := Int.eq_ofNat_of_zero_le r0
    have hj : j < xs.length := by omega
    have hat : atI xs (j : Int) = some xs[j] := atI_nat (List.getElem?_eq_getElem hj)
    rcases hS with hS | hS
    · exact .inl ⟨l, xs, _, _, rfl, rfl, sqL_but ep hb hS, hat, k j _ H' (List.getElem?_eq_getElem hj) hp' hb⟩
    · exact .inr ⟨l, xs, _, _, rfl, rfl, sqT_but ep hb hS, hat, k j _ H' (List.getElem?_eq_getElem hj) hp' hb⟩
end
end Sq

set_option Elab.async false
set_option linter.all false
set_option maxRecDepth 100000
set_option maxHeartbeats 4000000
/-! The law's plans. -/
namespace Sq
open PySem PySem.Spec PyProof.Rows L2
end Sq

set_option Elab.async false
set_option linter.all false
set_option maxRecDepth 100000
set_option maxHeartbeats 8000000
/-! The law's beside, moved, hangs (the w-family). -/
namespace Sq
open PySem PySem.Spec PyProof.Rows L2
theorem lotK_keys (L : List Cell) (nd : L.Nodup) : ((lotK L).map Prod.fst).Nodup := by
  have e : (lotK L).map Prod.fst = L.map cK := by
    unfold lotK
    rw [List.map_map]
    rfl
  rw [e]
  exact nd.map _ fun a b h k => h (cK_inj k)
section
variable {P : Program} {w : World} {K : PySem.W.Frag} {mg : Str → Option Value} {base : Heap} {Ts : List Addr}
/-- dict([(cell, True) for cell in cells]), told -/
theorem dict_true {H : Hp} {D : Addr} {rs : List Addr} {cs : List Cell} (pr : Paired (fun r c => ∃ q, H r = some (.tup [.ref q, .bl true]) ∧ At H q c) rs cs) : Paired (fun p kv => PrAt H p kv) rs (lotK cs) := by
  induction pr with
  | nil => exact .nil
  | cons h _ ih =>
    obtain ⟨q, e, a⟩ := h
    exact .cons ⟨q, e, a⟩ ih
end
end Sq

set_option Elab.async false
set_option linter.all false
set_option maxRecDepth 100000
set_option maxHeartbeats 8000000
/-! The law's may (the w-family). -/
namespace Sq
open PySem PySem.Spec PyProof.Rows L2
section
variable {P : Program} {w : World} {K : PySem.W.Frag} {mg : Str → Option Value} {base : Heap} {Ts : List Addr}
end
end Sq

set_option Elab.async false
set_option linter.all false
set_option maxRecDepth 100000
set_option maxHeartbeats 8000000
/-! The law's moves (the w-family). -/
namespace Sq
open PySem PySem.Spec PyProof.Rows L2
section
variable {P : Program} {w : World} {K : PySem.W.Frag} {mg : Str → Option Value} {base : Heap} {Ts : List Addr}
end
end Sq

set_option Elab.async false
set_option linter.all false
set_option maxRecDepth 100000
set_option maxHeartbeats 8000000
/-! The largest cell of a list. -/
namespace Sq
open PySem PySem.Spec PyProof.Rows L2
theorem lt_cD (a b : Cell) : PySem.W.dataLt (cD a) (cD b) = cLt a b := by
  show PyProof.Rows.lexLt PyProof.Rows.itemOrd (PySem.W.keyToks (cD a)) (PySem.W.keyToks (cD b)) = _
  have tk : ∀ c : Cell, PySem.W.keyToks (cD c) = [.inl 1, .inl c.1, .inl 1, .inl c.2, .inl 0] := fun c => by simp [cD, PySem.W.keyToks, PySem.W.keyToksAll]
  rw [tk, tk]
  obtain ⟨a1, a2⟩ := a
  obtain ⟨b1, b2⟩ := b
  have at1 : ∀ (x y : Int) (r t : List (Int ⊕ List Nat)), PyProof.Rows.lexLt PyProof.Rows.itemOrd (.inl x :: r) (.inl y :: t) = (decide (x < y) || (!decide (y < x) && PyProof.Rows.lexLt PyProof.Rows.itemOrd r t)) := fun x y r t => PyProof.Rows.lex_cons (O := PyProof.Rows.itemOrd) (.inl x) (.inl y) r t
  have nil : PyProof.Rows.lexLt PyProof.Rows.itemOrd ([] : List (Int ⊕ List Nat)) [] = false := rfl
  simp only [at1, nil, cLt]
  rw [Bool.eq_iff_iff]
  simp
  omega
section
variable {X : Cx}
theorem paired_getRW {α β : Type} {F : α → β → Prop} {i : Nat} {y : β} : ∀ {xs : List α} {ys : List β}, Paired F xs ys → ys[i]? = some y → ∃ x, xs[i]? = some x ∧ F x y
  | _, _, .nil, e => by simp at e
  | _ :: _, _ :: _, .cons h t, e => by
    cases i with
    | zero =>
      obtain rfl := Option.some.inj e
      exact ⟨_, rfl, h⟩
    | succ i =>
      obtain ⟨x, hx, f⟩ := paired_getRW (i := i) t (by simpa using e)
      exact ⟨x, by simpa using hx, f⟩
theorem reads_cellsW {pins : List (Addr × Obj)} {σ : L2.St} {H : Hp} {s : Shared} (I : Inv X pins σ H s) {qs : List Addr} {cs : List Cell} (pr : Paired (fun q c => At H q c) qs cs) : ∀ {us : List Value}, Vals (qs.map V.ref) us → ∃ as, ReadsAll s.heap us (cs.map cD) as := by
  induction pr with
  | nil =>
    intro us r
    cases r
    exact ⟨_, .nil⟩
  | cons a _ ih =>
    intro us r
    cases r with
    | cons r t =>
      obtain ⟨as, h⟩ := ih t
      obtain ⟨bs, h1⟩ := Dp.reads I (cD _) _ _ (At.dp (K := X.K) a) r
      exact ⟨_, .cons h1 h⟩
end
end Sq

set_option Elab.async false
set_option linter.all false
set_option maxRecDepth 100000
set_option maxHeartbeats 8000000
/-! The law's bodies: the state, a cell is put. -/
namespace Sq
open PySem PySem.Spec PyProof.Rows L2
def ringL : List Cell := [(0, 0), (1, 0), (2, 0), (2, 1), (2, 2), (1, 2), (0, 2), (0, 1)]
theorem op_in_seqK {X : Cx} {K : PySem.W.Frag} (h : X.K = K) : OpR X (compareOp .In) (rIn K false) := h ▸ op_in_seq
/-- the state of a body that grows -/
structure WbI (H : Hp) (p c fl la : Addr) (way : Int) (m n : Nat) (qs : List Addr) (A : List Cell) (G : Hp) : Prop where
  pen : PenC G p c n
  kp : Kp [p] H G
  nf : H fl = none
  nc : c ≠ fl
  ef : G fl = some (.lst (qs.map V.ref))
  pr : Paired (fun q c => At G q c) qs A
  nd : A.Nodup
  gr : Grown A
  l1 : 1 ≤ A.length
  le : A.length ≤ m
  sm : ∀ x ∈ A, x.1.natAbs ≤ 2 * A.length ∧ x.2.natAbs ≤ 2 * A.length
  rg : way = 4 → A.length ≤ 8 → A = ringL.take A.length
  al : ∃ x ∈ A, At G la x
theorem WbI.ek {H : Hp} {p c fl la : Addr} {way : Int} {m n n' : Nat} {qs : List Addr} {A : List Cell} {G G' : Hp} (I : WbI H p c fl la way m n qs A G) (k : Kp [p] G G') (hp : PenC G' p c n') : WbI H p c fl la way m n' qs A G' := by
  have e := pen_ek I.pen.at k
  obtain ⟨x, hx, ax⟩ := I.al
  exact ⟨hp, I.kp.trans k, I.nf, I.nc, e.lst I.ef, paired_imp (fun _ _ h => e.at h) I.pr, I.nd, I.gr, I.l1, I.le, I.sm, I.rg, x, hx, e.at ax⟩
theorem WbI.same {H : Hp} {p c fl la : Addr} {way : Int} {m n : Nat} {qs : List Addr} {A : List Cell} {G G' : Hp} (I : WbI H p c fl la way m n qs A G) (k : Same G G') : WbI H p c fl la way m n qs A G' := I.ek (Kp.of k) (I.pen.same k)
theorem WbI.last {H : Hp} {p c fl la lb : Addr} {way : Int} {m n : Nat} {qs : List Addr} {A : List Cell} {G : Hp} (I : WbI H p c fl la way m n qs A G) (h : ∃ x ∈ A, At G lb x) : WbI H p c fl lb way m n qs A G := ⟨I.pen, I.kp, I.nf, I.nc, I.ef, I.pr, I.nd, I.gr, I.l1, I.le, I.sm, I.rg, h⟩
/-- one more cell -/
theorem WbI.grow {H : Hp} {p c fl la e : Addr} {way : Int} {m n : Nat} {qs : List Addr} {A : List Cell} {G : Hp} {x : Cell} (I : WbI H p c fl la way m n qs A G) (ae : At G e x) (nx : x ∉ A) (bs : ∃ y ∈ A, x ∈ besideC y) (lt : A.length < m) (rg : way = 4 → A.length < 8 → ringL[A.length]? = some x) :
    WbI H p c fl e way m n (qs ++ [e]) (A ++ [x]) (upd G fl (.lst (qs.map V.ref ++ [V.ref e]))) := by
  obtain ⟨y, hy, hb⟩ := bs
  have np : p ≠ fl := fun z => by
    obtain ⟨zs, i0, dg, fo, e1, _⟩ := I.pen.ex
    rw [z, I.ef] at e1
    cases e1
  have off : ∀ {q : Addr} {c : Cell}, At G q c → At (upd G fl (.lst (qs.map V.ref ++ [V.ref e]))) q c := fun h => h.off I.ef (by intro xs z; cases z)
  have ll : (A ++ [x]).length = A.length + 1 := by rw [List.length_append]; rfl
  refine ⟨I.pen.off np I.nc, I.kp.put I.nf, I.nf, I.nc, by rw [upd_same, List.map_append]; rfl, (paired_imp (fun _ _ h => off h) I.pr).snoc (off ae), (List.nodup_append.mpr ⟨I.nd, List.pairwise_singleton _ x, fun a ha b hb z => nx (List.mem_singleton.mp hb ▸ z ▸ ha)⟩), I.gr.snoc hy hb, by rw [ll]; omega, by rw [ll]; omega, fun z hz => ?_, fun w4 l8 => ?_, x, List.mem_append_right _ (List.mem_singleton.mpr rfl), off ae⟩
  · rw [ll]
    rcases List.mem_append.mp hz with h | h
    · have := I.sm z h
      omega
    · rw [List.mem_singleton.mp h]
      have := I.sm y hy
      rw [beside_iff] at hb
      omega
  · rw [ll] at l8 ⊢
    have e := I.rg w4 (by omega)
    have e2 := rg w4 (by omega)
    rw [take_snoc e2, ← e]
section
variable {P : Program} {w : World} {K : PySem.W.Frag} {mg : Str → Option Value} {base : Heap} {Ts : List Addr}
variable {f : Addr} {cdv : Value} {A0 : Around} {outer : List Env} {s : Shared} {H0 : Hp} {E : XK}
end
end Sq

set_option Elab.async false
set_option linter.all false
set_option maxRecDepth 100000
set_option maxHeartbeats 8000000
/-! The law's bodies: a lap. -/
namespace Sq
open PySem PySem.Spec PyProof.Rows L2
section
variable {P : Program} {w : World} {K : PySem.W.Frag} {mg : Str → Option Value} {base : Heap} {Ts : List Addr}
variable {f : Addr} {cdv : Value} {A0 : Around} {outer : List Env} {s : Shared} {H0 : Hp} {E : XK}
end
end Sq

set_option Elab.async false
set_option linter.all false
set_option maxRecDepth 100000
set_option maxHeartbeats 8000000
/-! The law's bodies (the w-family). -/
namespace Sq
open PySem PySem.Spec PyProof.Rows L2
theorem WbI.free {H : Hp} {p c fl la : Addr} {way : Int} {m n : Nat} {qs : List Addr} {A : List Cell} {G : Hp} (I : WbI H p c fl la way m n qs A G) : WbI H p c fl la 0 m n qs A G := ⟨I.pen, I.kp, I.nf, I.nc, I.ef, I.pr, I.nd, I.gr, I.l1, I.le, I.sm, (fun z => by cases z), I.al⟩
section
variable {P : Program} {w : World} {K : PySem.W.Frag} {mg : Str → Option Value} {base : Heap} {Ts : List Addr}
end
end Sq

set_option Elab.async false
set_option linter.all false
set_option maxRecDepth 100000
set_option maxHeartbeats 8000000
/-! The program: a body's lot, moves that are moves. -/
namespace Sq
open PySem PySem.Spec PyProof.Rows L2
def spLotB (Ts : List Addr) : Sp := fun vs H Q _ => ∃ (t : Addr) (L : List Cell), vs = [.ref t] ∧ CellsT H t L ∧ L.Nodup ∧ Asc L ∧ L.length ≤ 1000 ∧ Hangs L ∧ TabsG Ts H ∧ ∀ d H', KT Ts H H' → H d = none → H' d = some (.dT (lotK L)) → Q (.ref d) H'
section
variable {P : Program} {w : World} {K : PySem.W.Frag} {mg : Str → Option Value} {base : Heap} {Ts : List Addr}
theorem scLoB : FnScope ["value"] ["value"] (defScope gLotB) := ⟨rfl, rfl, rfl, by decide +kernel, rfl, by decide +kernel, by decide +kernel⟩
theorem ok_lotOfBody {f CB fB : Addr} {fd : FuncData} (F : FnP K "lot_of_body" gLotB f fd) (BB : ErrC P K mg "BadBody" CB fB ["cells"]) (DI : Df P w K mg base CX0 5 "is_body" ["value"] (spIsBody Ts)) (DL : Df P w K mg base CX0 2 "lot_of" ["cells"] spLot) :
    FnOk P w K mg base CX0 6 f fd ["value"] (spLotB Ts) := by
  refine F.ok scLoB (fun vs H Q E h => ?_) (fun cdv A outer s H vs Q E hr h => ?_)
  · obtain ⟨t, L, rfl, _⟩ := h
    rfl
  · obtain ⟨t, L, rfl, ct, nL, aL, lL, hang, tg, k⟩ := h
    have hr1 : Room 1 _ := hr.mono (by decide)
    refine ⟨_, PSs.nox (pss_cons (ps_if (pt_not (pt_val (pe_df DI hr (by rfl) pass0 (pa_cons (pv 0) pa_nil))))
      (pss_one (ps_raise (W := fun _ _ _ _ => False) rfl takes0 (pmk_err BB.s (raises_own BB.ex BB.ty) hr1 BB.g (pa_cons (pv 0) pa_nil))))
      pss_nil)
      (pss_one (ps_ret (pe_df DL hr (by rfl) pass0 (pa_cons (pv 0) pa_nil))))), ?_⟩
    refine ⟨_, rfl, t, L, rfl, ct, nL, aL, lL, tg, fun H1 k1 => ?_⟩
    rw [hangsB_iff.mpr hang]
    refine ⟨_, rfl, iteF ?_⟩
    exact ⟨_, rfl, t, L, rfl, ct.ek k1.ek, nL, lL, fun d H2 s2 hd ed => k d H2 (k1.same s2) (k1.free hd) ed⟩
end
end Sq

set_option Elab.async false
set_option linter.all false
set_option maxRecDepth 100000
set_option maxHeartbeats 8000000
/-! The program: pairs of moves by place. -/
namespace Sq
open PySem PySem.Spec PyProof.Rows L2
abbrev P2 := CellP × CellP
def P2At (H : Hp) (r : Addr) (m : P2) : Prop := ∃ a b : Addr, H r = some (.tup [.ref a, .ref b]) ∧ PairAt H a m.1 ∧ PairAt H b m.2
theorem P2At.keep {H G : Hp} {r : Addr} {m : P2} (h : P2At H r m) (k : Tk H G) : P2At G r m := by
  obtain ⟨a, b, e, h1, h2⟩ := h
  exact ⟨a, b, k _ _ e, h1.keep k, h2.keep k⟩
/-- both squares change places: the k-th to the m-th -/
def pr2 (gone come : List Cell) (k m : Nat) : P2 := ((gone.getD k (0, 0), come.getD m (0, 0)), (gone.getD (1 - k) (0, 0), come.getD (1 - m) (0, 0)))
theorem tk_of {H G : Hp} (h : Same H G) : Tk H G := fun b xs e => h b _ e
section
variable {P : Program} {w : World} {K : PySem.W.Frag} {mg : Str → Option Value} {base : Heap} {Ts : List Addr}
end
end Sq

set_option Elab.async false
set_option linter.all false
set_option maxRecDepth 100000
set_option maxHeartbeats 8000000
/-! The program: few_between. -/
namespace Sq
open PySem PySem.Spec PyProof.Rows L2
def p2D (m : P2) : PyData := .tuple [pD m.1, pD m.2]
theorem P2At.dp {K : PySem.W.Frag} {H : Hp} {r : Addr} {m : P2} (h : P2At H r m) : Dp K H (.ref r) (p2D m) := by
  obtain ⟨a, b, e, a1, a2⟩ := h
  exact .tup (SqT.of e) (.cons a1.dp (.cons a2.dp .nil))
section
variable {P : Program} {w : World} {K : PySem.W.Frag} {mg : Str → Option Value} {base : Heap} {Ts : List Addr}
end
end Sq

set_option Elab.async false
set_option linter.all false
set_option maxRecDepth 100000
set_option maxHeartbeats 4000000
/-! Bodies as keys and as data; dicts of bodies. -/
namespace Sq
open PySem PySem.Spec PyProof.Rows L2
def bD (L : List Cell) : PyData := .tuple (L.map cD)
def keyB (L : List Cell) : NK := nkD (bD L)
theorem nkB_all : ∀ L : List Cell, keyAll (L.map cD) = true ∧ NestedKey.depthAll (nkAll (L.map cD)) ≤ 1
  | [] => ⟨rfl, Nat.zero_le _⟩
  | c :: L => by
    obtain ⟨h1, h2⟩ := nkB_all L
    refine ⟨?_, ?_⟩
    · show (keyD (cD c) && keyAll (L.map cD)) = true
      rw [h1]
      rfl
    · show max (NestedKey.depth (nkD (cD c))) (NestedKey.depthAll (nkAll (L.map cD))) ≤ 1
      exact Nat.max_le.mpr ⟨by show NestedKey.depthAll [.num c.1, .num c.2] + 1 ≤ 1; exact Nat.le_refl 1, h2⟩
theorem nkB_inj : ∀ {L M : List Cell}, nkAll (L.map cD) = nkAll (M.map cD) → L = M
  | [], [], _ => rfl
  | [], _ :: _, h => by
    have h : ([] : List NK) = nkD _ :: nkAll _ := h
    cases h
  | _ :: _, [], h => by
    have h : nkD _ :: nkAll _ = ([] : List NK) := h
    cases h
  | c :: L, d :: M, h => by
    have h : (NestedKey.tup [.num c.1, .num c.2]) :: nkAll (L.map cD) = (NestedKey.tup [.num d.1, .num d.2]) :: nkAll (M.map cD) := h
    obtain ⟨h1, h2⟩ := List.cons.inj h
    have h1 := NestedKey.tup.inj h1
    obtain ⟨e1, h1⟩ := List.cons.inj h1
    obtain ⟨e2, _⟩ := List.cons.inj h1
    rw [nkB_inj h2, show c = d from Prod.ext (NestedKey.num.inj e1) (NestedKey.num.inj e2)]
theorem keyB_inj {L M : List Cell} (h : keyB L = keyB M) : L = M := by
  have h : NestedKey.tup (nkAll (L.map cD)) = NestedKey.tup (nkAll (M.map cD)) := h
  exact nkB_inj (NestedKey.tup.inj h)
theorem keyB_depth (L : List Cell) : (keyB L).depth ≤ 8 := by
  show NestedKey.depthAll (nkAll (L.map cD)) + 1 ≤ 8
  have h1 := (nkB_all L).2
  omega
theorem CellsT.natB {K : PySem.W.Frag} {H : Hp} {t : Addr} {L : List Cell} (h : CellsT H t L) : NAt K H t (keyB L) := ⟨⟨_, h.dp, (nkB_all L).1, rfl⟩, keyB_depth L⟩
theorem lay_bD (L : List Cell) : Lay 2 (bD L) := lay_cellsT7
theorem eqv_bD (L M : List Cell) : PyData.eqv (bD L) (bD M) = decide (L = M) := by
  by_cases h : L = M
  · subst h
    rw [eqv_self (lay_bD L), decide_eq_true rfl]
  · rw [decide_eq_false h]
    refine Bool.eq_false_iff.mpr fun e => h ?_
    have key : ∀ L M : List Cell, PyData.eqvAll (L.map cD) (M.map cD) = true → L = M := by
      intro L
      induction L with
      | nil =>
        intro M e
        cases M with
        | nil => rfl
        | cons d M => exact absurd e (by simp [PyData.eqvAll])
      | cons c L ih =>
        intro M e
        cases M with
        | nil => exact absurd e (by simp [PyData.eqvAll])
        | cons d M =>
          have e : (PyData.eqv (cD c) (cD d) && PyData.eqvAll (L.map cD) (M.map cD)) = true := e
          rw [Bool.and_eq_true, cD_eqv, decide_eq_true_iff] at e
          rw [e.1, ih M e.2]
    have e : PyData.eqvAll (L.map cD) (M.map cD) = true := e
    exact key L M e
/-! ### their order -/
/-- A stands ahead of M, or is M -/
def bLe (A M : List Cell) : Prop := PySem.W.dataLt (bD M) (bD A) = false
theorem toksB_inj : ∀ {L M : List Cell}, PySem.W.keyToksAll (L.map cD) = PySem.W.keyToksAll (M.map cD) → L = M
  | [], [], _ => rfl
  | [], d :: M, h => by
    have tk : PySem.W.keyToks (cD d) = [.inl 1, .inl d.1, .inl 1, .inl d.2, .inl 0] := by simp [cD, PySem.W.keyToks, PySem.W.keyToksAll]
    simp [PySem.W.keyToksAll, tk] at h
  | c :: L, [], h => by
    have tk : PySem.W.keyToks (cD c) = [.inl 1, .inl c.1, .inl 1, .inl c.2, .inl 0] := by simp [cD, PySem.W.keyToks, PySem.W.keyToksAll]
    simp [PySem.W.keyToksAll, tk] at h
  | c :: L, d :: M, h => by
    have tk : ∀ c : Cell, PySem.W.keyToks (cD c) = [.inl 1, .inl c.1, .inl 1, .inl c.2, .inl 0] := fun c => by simp [cD, PySem.W.keyToks, PySem.W.keyToksAll]
    rw [List.map_cons, List.map_cons, PySem.W.keyToksAll, PySem.W.keyToksAll, tk, tk] at h
    simp at h
    obtain ⟨h1, h2, h3⟩ := h
    rw [toksB_inj h3, show c = d from Prod.ext h1 h2]
theorem bLe_anti {m n : List Cell} (h : bLe m n) (k : bLe n m) : m = n := by
  have e := PyProof.Rows.KeyOrd.kle_antisymm (O := PyProof.Rows.listOrd PyProof.Rows.itemOrd) (a := PySem.W.keyToks (bD m)) (b := PySem.W.keyToks (bD n)) h k
  have e : PySem.W.keyToks (.tuple (m.map cD)) = PySem.W.keyToks (.tuple (n.map cD)) := e
  rw [PySem.W.keyToks, PySem.W.keyToks] at e
  exact toksB_inj (by simpa using e)
theorem bs_same {A M : List (List Cell)} (nA : A.Nodup) (nM : M.Nodup) (sa : A.Pairwise bLe) (sm : M.Pairwise bLe) (mem : ∀ x, x ∈ A ↔ x ∈ M) : A = M :=
  List.Perm.eq_of_pairwise (le := bLe) (fun x y _ _ h k => bLe_anti h k) sa sm ((List.perm_ext_iff_of_nodup nA nM).mpr mem)
/-! ### dicts of bodies -/
/-- a dict whose keys are these bodies -/
def BDc (P : Program) (w : World) (H : Hp) (a : Addr) (E : List NEnt) (Bs : List (List Cell)) : Prop := DN P w H a E ∧ Paired (fun l B => CellsT H l.1 B ∧ l.2.1 = keyB B) E Bs
theorem BDc.nat {P : Program} {w : World} {K : PySem.W.Frag} {H : Hp} {a : Addr} {E : List NEnt} {Bs : List (List Cell)} (h : BDc P w H a E Bs) : ∀ l ∈ E, NAt K H l.1 l.2.1 := fun l hl => by
  obtain ⟨B, _, c, e⟩ := paired_memL h.2 l hl
  rw [e]
  exact c.natB
theorem DN.same {P : Program} {w : World} {H G : Hp} {a : Addr} {E : List NEnt} (h : DN P w H a E) (k : Same H G) : DN P w G a E := by
  rcases h with e | ⟨z, e⟩
  · exact .inl (k _ _ e)
  · exact .inr ⟨z, k _ _ e⟩
theorem BDc.same {P : Program} {w : World} {H G : Hp} {a : Addr} {E : List NEnt} {Bs : List (List Cell)} (h : BDc P w H a E Bs) (k : Same H G) : BDc P w G a E Bs :=
  ⟨h.1.same k, paired_imp (fun _ _ ⟨c, e⟩ => ⟨c.same k, e⟩) h.2⟩
theorem BDc.val {P : Program} {w : World} {H : Hp} {a : Addr} {E : List NEnt} {Bs : List (List Cell)} (h : BDc P w H a E Bs) (B : List Cell) : (valN E (keyB B)).isSome = decide (B ∈ Bs) := by
  have pr := h.2
  clear h
  unfold valN
  rw [Option.isSome_map]
  induction pr with
  | nil => rfl
  | @cons l M E Bs r _ ih =>
    rw [List.find?_cons]
    by_cases z : l.2.1 = keyB B
    · rw [decide_eq_true z]
      have : B = M := keyB_inj (z.symm.trans r.2)
      rw [this, decide_eq_true (List.mem_cons_self ..)]
      rfl
    · rw [decide_eq_false z]
      have ne : B ≠ M := fun q => z (by rw [r.2, q])
      dsimp only
      rw [ih, Bool.eq_iff_iff, decide_eq_true_iff, decide_eq_true_iff]
      simp [ne]
/-- one more body -/
def putB (Bs : List (List Cell)) (B : List Cell) : List (List Cell) := if B ∈ Bs then Bs else Bs ++ [B]
theorem putB_len (Bs : List (List Cell)) (B : List Cell) : (putB Bs B).length ≤ Bs.length + 1 := by
  unfold putB
  split
  · exact Nat.le_succ _
  · rw [List.length_append]
    exact Nat.le_refl _
theorem putB_mem {Bs : List (List Cell)} {B M : List Cell} : M ∈ putB Bs B ↔ M ∈ Bs ∨ M = B := by
  unfold putB
  split
  · rename_i h
    exact ⟨.inl, fun z => z.elim id fun q => q ▸ h⟩
  · simp
theorem putB_nd {Bs : List (List Cell)} {B : List Cell} (h : Bs.Nodup) : (putB Bs B).Nodup := by
  unfold putB
  split
  · exact h
  · rename_i n
    exact List.nodup_append.mpr ⟨h, List.pairwise_singleton _ _, fun a ha b hb z => n (List.mem_singleton.mp hb ▸ z ▸ ha)⟩
theorem BDc.put {P : Program} {w : World} {H : Hp} {a b : Addr} {E : List NEnt} {Bs : List (List Cell)} {B : List Cell} {v : V} (h : BDc P w H a E Bs) (cb : CellsT H b B) : BDc P w (upd H a (DNO P w a (putN E b (keyB B) v))) a (putN E b (keyB B) v) (putB Bs B) := by
  have tk : Tk H (upd H a (DNO P w a (putN E b (keyB B) v))) := by
    rcases h.1 with e | ⟨_, e⟩
    · exact tk_upd e fun xs z => nomatch z
    · exact tk_upd e fun xs z => nomatch z
  generalize eU : upd H a (DNO P w a (putN E b (keyB B) v)) = U at tk
  have pr : Paired (fun l B => CellsT U l.1 B ∧ l.2.1 = keyB B) E Bs := paired_imp (fun _ _ ⟨c, e⟩ => ⟨cellsT_tu c tk, e⟩) h.2
  refine ⟨.inl (by rw [← eU]; exact upd_same), ?_⟩
  have hv := h.val B
  unfold putN putB
  rw [valN_any, hv]
  by_cases m : B ∈ Bs
  · rw [decide_eq_true m, if_pos rfl, if_pos m]
    clear hv m h eU
    induction pr with
    | nil => exact .nil
    | @cons l M E Bs r _ ih =>
      refine .cons ?_ ih
      dsimp only
      split
      · exact r
      · exact r
  · rw [decide_eq_false m, if_neg (by simp), if_neg m]
    exact pr.snoc ⟨cellsT_tu cb tk, rfl⟩
theorem BDc.len {P : Program} {w : World} {H : Hp} {a : Addr} {E : List NEnt} {Bs : List (List Cell)} (h : BDc P w H a E Bs) : E.length = Bs.length := Paired.length h.2
theorem BDc.dps {P : Program} {w : World} {K : PySem.W.Frag} {H : Hp} {a : Addr} {E : List NEnt} {Bs : List (List Cell)} (h : BDc P w H a E Bs) : Paired (fun l b => CellsT H l.1 b ∧ Dp K H (.ref l.1) (bD b)) E Bs := paired_imp (fun _ _ ⟨c, _⟩ => ⟨c, c.dp⟩) h.2
end Sq

set_option Elab.async false
set_option linter.all false
set_option maxRecDepth 100000
set_option maxHeartbeats 4000000
/-! Shapes: bodies moved to the corner; how they grow. -/
namespace Sq
open PySem PySem.Spec PyProof.Rows L2
/-- the least of some numbers -/
def loI : List Int → Int
  | [] => 0
  | [x] => x
  | x :: y :: xs => if x ≤ loI (y :: xs) then x else loI (y :: xs)
theorem loI_is : ∀ {xs : List Int}, xs ≠ [] → loI xs ∈ xs ∧ ∀ x ∈ xs, loI xs ≤ x
  | [], h => absurd rfl h
  | [x], _ => ⟨List.mem_singleton.mpr rfl, fun y hy => by rw [List.mem_singleton.mp hy]; exact Int.le_refl _⟩
  | x :: y :: xs, _ => by
    obtain ⟨h1, h2⟩ := loI_is (xs := y :: xs) (by simp)
    unfold loI
    by_cases h : x ≤ loI (y :: xs)
    · rw [if_pos h]
      refine ⟨List.mem_cons_self .., fun z hz => ?_⟩
      rcases List.mem_cons.mp hz with e | e
      · rw [e]; exact Int.le_refl _
      · exact Int.le_trans h (h2 z e)
    · rw [if_neg h]
      refine ⟨List.mem_cons_of_mem _ h1, fun z hz => ?_⟩
      rcases List.mem_cons.mp hz with e | e
      · rw [e]; omega
      · exact h2 z e
theorem loI_of {xs : List Int} {m : Int} (hm : m ∈ xs) (h : ∀ x ∈ xs, m ≤ x) : loI xs = m := by
  obtain ⟨h1, h2⟩ := loI_is (xs := xs) (List.ne_nil_of_mem hm)
  exact Int.le_antisymm (h2 m hm) (h _ h1)
theorem loI_mem {xs ys : List Int} (h : ∀ x, x ∈ xs ↔ x ∈ ys) : loI xs = loI ys := by
  cases ys with
  | nil =>
    cases xs with
    | nil => rfl
    | cons x xs => exact absurd ((h x).mp (List.mem_cons_self ..)) (by simp)
  | cons y ys =>
    obtain ⟨h1, h2⟩ := loI_is (xs := y :: ys) (by simp)
    exact loI_of ((h _).mpr h1) fun x hx => h2 x ((h x).mp hx)
theorem loI_add {xs : List Int} {b : Int} (ne : xs ≠ []) : loI (xs.map (· + b)) = loI xs + b := by
  obtain ⟨h1, h2⟩ := loI_is ne
  refine loI_of (List.mem_map.mpr ⟨_, h1, rfl⟩) fun x hx => ?_
  obtain ⟨y, hy, rfl⟩ := List.mem_map.mp hx
  have := h2 y hy
  omega
/-- by what a body comes to the corner -/
def cornC (L : List Cell) : Cell := (-loI (L.map (·.1)), -loI (L.map (·.2)))
def ascC (L : List Cell) : List Cell := L.mergeSort fun a b => !cLt b a
theorem ascC_perm (L : List Cell) : (ascC L).Perm L := List.mergeSort_perm L _
theorem ascC_asc (L : List Cell) : Asc (ascC L) := by
  have pw := List.pairwise_mergeSort (le := fun a b : Cell => !cLt b a)
    (fun a b c h k => by
      have h : cLt b a = false := by simpa using h
      have k : cLt c b = false := by simpa using k
      have h := of_decide_eq_false h
      have k := of_decide_eq_false k
      show (!cLt c a) = true
      rw [show cLt c a = false from decide_eq_false (by omega)]
      rfl)
    (fun a b => by
      cases h : cLt b a with
      | false => rfl
      | true =>
        rw [cLt_asym h]
        rfl) L
  exact pw.imp fun {a b} h => by simpa using h
theorem ascC_of {A L : List Cell} (h : A.Perm L) (asc : Asc A) : A = ascC L :=
  List.Perm.eq_of_pairwise (le := fun x y => cLt y x = false) (fun x y _ _ h k => cLt_tri k h) asc (ascC_asc L) (h.trans (ascC_perm L).symm)
theorem ascC_eq {A L : List Cell} (h : A.Perm L) : ascC A = ascC L := ascC_of ((ascC_perm A).trans h) (ascC_asc A)
/-- the shape -/
def shp (L : List Cell) : List Cell := ascC (L.map (shC (cornC L)))
theorem cornC_mem {L M : List Cell} (h : ∀ x, x ∈ L ↔ x ∈ M) : cornC L = cornC M := by
  unfold cornC
  have e : ∀ f : Cell → Int, loI (L.map f) = loI (M.map f) := fun f => loI_mem fun x => by
    simp only [List.mem_map, h]
  rw [e, e]
theorem shp_perm {L M : List Cell} (h : L.Perm M) : shp L = shp M := by
  unfold shp
  rw [cornC_mem fun x => h.mem_iff]
  exact ascC_eq (h.map _)
theorem shp_asc {L : List Cell} (h : Asc L) : L.map (shC (cornC L)) = shp L := ascC_of (List.Perm.refl _) (asc_sh h)
theorem shp_len (L : List Cell) : (shp L).length = L.length := by
  unfold shp
  rw [(ascC_perm _).length_eq, List.length_map]
theorem shp_mem {L : List Cell} {x : Cell} : x ∈ shp L ↔ x ∈ L.map (shC (cornC L)) := (ascC_perm _).mem_iff
theorem shp_nd {L : List Cell} (h : L.Nodup) : (shp L).Nodup := (ascC_perm _).nodup_iff.mpr (nodup_sh h)
theorem shp_isAsc (L : List Cell) : Asc (shp L) := ascC_asc _
theorem shp_perm_self (L : List Cell) : (shp L).Perm (L.map (shC (cornC L))) := ascC_perm _
theorem cornC_sh {L : List Cell} {b : Cell} (ne : L ≠ []) : cornC (L.map (shC b)) = ((cornC L).1 - b.1, (cornC L).2 - b.2) := by
  unfold cornC
  have e1 : (L.map (shC b)).map (·.1) = (L.map (·.1)).map (· + b.1) := by rw [List.map_map, List.map_map]; rfl
  have e2 : (L.map (shC b)).map (·.2) = (L.map (·.2)).map (· + b.2) := by rw [List.map_map, List.map_map]; rfl
  have n1 : L.map (·.1) ≠ [] := fun z => ne (List.map_eq_nil_iff.mp z)
  have n2 : L.map (·.2) ≠ [] := fun z => ne (List.map_eq_nil_iff.mp z)
  rw [e1, e2, loI_add n1, loI_add n2]
  exact Prod.ext (by dsimp only; omega) (by dsimp only; omega)
theorem shC_shC (a b : Cell) (L : List Cell) : (L.map (shC a)).map (shC b) = L.map (shC (a.1 + b.1, a.2 + b.2)) := by
  rw [List.map_map]
  refine List.map_congr_left fun c _ => ?_
  unfold shC
  exact Prod.ext (by dsimp only [Function.comp]; omega) (by dsimp only [Function.comp]; omega)
theorem shp_sh {L : List Cell} {b : Cell} : shp (L.map (shC b)) = shp L := by
  by_cases ne : L = []
  · subst ne
    rfl
  unfold shp
  rw [cornC_sh ne, shC_shC]
  congr 2
  refine congrArg shC (Prod.ext ?_ ?_)
  · dsimp only; omega
  · dsimp only; omega
theorem shp_shp (L : List Cell) : shp (shp L) = shp L := by rw [shp_perm (shp_perm_self L), shp_sh]
theorem shp_hangs {L : List Cell} (h : Hangs L) : Hangs (shp L) := (hangs_perm fun x => shp_mem).mpr (hangs_sh.mpr h)
/-- the shapes of n squares -/
inductive IsShape : Nat → List Cell → Prop
  | one : IsShape 1 [(0, 0)]
  | more {n : Nat} {S : List Cell} {s c : Cell} : IsShape n S → s ∈ S → c ∈ besideC s → c ∉ S → IsShape (n + 1) (shp (S ++ [c]))
theorem IsShape.pos {n : Nat} {S : List Cell} (h : IsShape n S) : 1 ≤ n := by
  induction h with
  | one => exact Nat.le_refl _
  | more _ _ _ _ ih => exact Nat.le_succ_of_le ih
theorem nodup_snoc {S : List Cell} {c : Cell} (h : S.Nodup) (n : c ∉ S) : (S ++ [c]).Nodup := List.nodup_append.mpr ⟨h, List.pairwise_singleton _ _, fun a ha b hb z => n (List.mem_singleton.mp hb ▸ z ▸ ha)⟩
theorem IsShape.len {n : Nat} {S : List Cell} (h : IsShape n S) : S.length = n := by
  induction h with
  | one => rfl
  | more _ _ _ _ ih => rw [shp_len, List.length_append, ih]; rfl
theorem IsShape.nd {n : Nat} {S : List Cell} (h : IsShape n S) : S.Nodup := by
  induction h with
  | one => exact List.pairwise_singleton _ _
  | more _ _ _ nc ih => exact shp_nd (nodup_snoc ih nc)
theorem IsShape.asc {n : Nat} {S : List Cell} (h : IsShape n S) : Asc S := by
  cases h with
  | one => exact List.pairwise_singleton _ _
  | more _ _ _ _ => exact shp_isAsc _
theorem IsShape.ne {n : Nat} {S : List Cell} (h : IsShape n S) : S ≠ [] := fun z => by
  have := h.len
  have := h.pos
  rw [z] at *
  simp at *
  omega
theorem shp_one (a : Cell) : shp [a] = [(0, 0)] := by
  refine (shp_asc (List.pairwise_singleton _ a)).symm.trans ?_
  show [shC (-a.1, -a.2) a] = _
  unfold shC
  congr 1
  exact Prod.ext (by dsimp only; omega) (by dsimp only; omega)
theorem IsShape.shp {n : Nat} {S : List Cell} (h : IsShape n S) : shp S = S := by
  cases h with
  | one => exact shp_one _
  | more _ _ _ _ => exact shp_shp _
theorem hangs_snocX {S : List Cell} {s c : Cell} (h : Hangs S) (hs : s ∈ S) (hc : c ∈ besideC s) : Hangs (S ++ [c]) := by
  have r : ∀ {a b : Cell}, Reach S a b → Reach (S ++ [c]) a b := fun {a b} z => by
    induction z with
    | refl => exact .refl
    | step _ hb hc ih => exact ih.step hb (List.mem_append_left _ hc)
  have one : ∀ x ∈ S ++ [c], Reach (S ++ [c]) s x ∧ Reach (S ++ [c]) x s := fun x hx => by
    rcases List.mem_append.mp hx with m | m
    · exact ⟨r (h.2 s hs x m), r (h.2 x m s hs)⟩
    · rw [List.mem_singleton.mp m]
      refine ⟨Reach.refl.step hc (List.mem_append_right _ (List.mem_singleton.mpr rfl)), ?_⟩
      refine Reach.refl.step ?_ (List.mem_append_left _ hs)
      rw [beside_iff] at hc ⊢
      omega
  refine ⟨by simp, fun x hx y hy => ?_⟩
  have t : ∀ {a b d : Cell}, Reach (S ++ [c]) a b → Reach (S ++ [c]) b d → Reach (S ++ [c]) a d := fun {a b d} h1 h2 => by
    induction h2 with
    | refl => exact h1
    | step _ hb hc ih => exact ih.step hb hc
  exact t (one x hx).2 (one y hy).1
theorem IsShape.hangs {n : Nat} {S : List Cell} (h : IsShape n S) : Hangs S := by
  induction h with
  | one => exact ⟨by simp, fun x hx y hy => by rw [List.mem_singleton.mp hx, List.mem_singleton.mp hy]; exact .refl⟩
  | more _ hs hc _ ih => exact shp_hangs (hangs_snocX ih hs hc)
/-- what grows has such a shape -/
theorem grown_shape : ∀ (n : Nat) {A : List Cell}, A.length = n → Grown A → A.Nodup → A ≠ [] → IsShape A.length (shp A)
  | 0, A, l, _, _, ne => absurd (List.length_eq_zero_iff.mp l) ne
  | n + 1, A, l, g, nd, ne => by
    obtain ⟨A', x, rfl⟩ := snoc_inv ne
    have l' : A'.length = n := by rw [List.length_append] at l; exact Nat.succ.inj l
    by_cases z : A' = []
    · subst z
      rw [List.nil_append, shp_one]
      exact .one
    have nd' : A'.Nodup := (List.nodup_append.mp nd).1
    have nx : x ∉ A' := fun m => (List.nodup_append.mp nd).2.2 x m x (List.mem_singleton.mpr rfl) rfl
    have g' : Grown A' := by
      have := g.take A'.length
      rwa [List.take_left'  rfl] at this
    have ih := grown_shape n l' g' nd' z
    have lp : 0 < A'.length := List.length_pos_iff.mpr z
    obtain ⟨j, y, hj, hy, hb⟩ := g (A'.length - 1) x (by rw [Nat.sub_add_cancel lp]; simp)
    have hy' : y ∈ A' := by
      rw [List.getElem?_append_left (by omega)] at hy
      exact List.mem_of_getElem? hy
    have e : shp (A' ++ [x]) = shp (shp A' ++ [shC (cornC A') x]) := by
      rw [← shp_sh (L := A' ++ [x]) (b := cornC A'), List.map_append]
      exact shp_perm ((shp_perm_self A').symm.append_right _)
    rw [e, List.length_append]
    refine ih.more (s := shC (cornC A') y) (shp_mem.mpr (mem_sh.mpr hy')) (sh_beside hb) fun m => nx (mem_sh.mp (shp_mem.mp m))
/-- what comes out of some shapes by one square more -/
def GrowB (Bs : List (List Cell)) (B : List Cell) : Prop := ∃ S ∈ Bs, ∃ s ∈ S, ∃ c ∈ besideC s, c ∉ S ∧ B = shp (S ++ [c])
/-- all shapes of n squares, each once -/
structure AllSh (n : Nat) (Bs : List (List Cell)) : Prop where
  nd : Bs.Nodup
  mem : ∀ B, B ∈ Bs ↔ IsShape n B
theorem AllSh.grow {n : Nat} {Bs Cs : List (List Cell)} (h : AllSh n Bs) (n1 : 1 ≤ n) (nd : Cs.Nodup) (mem : ∀ B, B ∈ Cs ↔ GrowB Bs B) : AllSh (n + 1) Cs := by
  refine ⟨nd, fun B => (mem B).trans ⟨?_, fun k => ?_⟩⟩
  · rintro ⟨S, hS, s, hs, c, hc, nc, rfl⟩
    exact ((h.mem S).mp hS).more hs hc nc
  · cases k with
    | one => omega
    | more k hs hc nc => exact ⟨_, (h.mem _).mpr k, _, hs, _, hc, nc, rfl⟩
end Sq

set_option Elab.async false
set_option linter.all false
set_option maxRecDepth 100000
set_option maxHeartbeats 4000000
/-! frame_of, shape_of. -/
namespace Sq
open PySem PySem.Spec PyProof.Rows L2
section
variable {P : Program} {w : World} {K : PySem.W.Frag} {mg : Str → Option Value} {base : Heap}
end
end Sq

set_option Elab.async false
set_option linter.all false
set_option maxRecDepth 100000
set_option maxHeartbeats 8000000
/-! All shapes, as the program finds them. -/
namespace Sq
open PySem PySem.Spec PyProof.Rows L2
/-- a dict of bodies that is being filled: what is in it so far -/
structure GsI (P : Program) (w : World) (H : Hp) (D : Addr) (dn : List Cell → Prop) (lim : Nat) (G : Hp) : Prop where
  sm : Same H G
  ex : ∃ E Fs, BDc P w G D E Fs ∧ Fs.Nodup ∧ (∀ B, B ∈ Fs ↔ dn B) ∧ Fs.length ≤ lim
theorem GsI.same {P : Program} {w : World} {H G G' : Hp} {D : Addr} {dn : List Cell → Prop} {lim : Nat} (I : GsI P w H D dn lim G) (k : Same G G') : GsI P w H D dn lim G' := by
  obtain ⟨E, Fs, h1, h2⟩ := I.ex
  exact ⟨I.sm.trans k, E, Fs, h1.same k, h2⟩
theorem GsI.weak {P : Program} {w : World} {H G : Hp} {D : Addr} {dn dm : List Cell → Prop} {lim lin : Nat} (I : GsI P w H D dn lim G) (k : ∀ B, dn B ↔ dm B) (l : lim ≤ lin) : GsI P w H D dm lin G := by
  obtain ⟨E, Fs, h1, h2, h3, h4⟩ := I.ex
  exact ⟨I.sm, E, Fs, h1, h2, fun B => (h3 B).trans (k B), Nat.le_trans h4 l⟩
theorem GsI.put {P : Program} {w : World} {K : PySem.W.Frag} {H G : Hp} {D r : Addr} {dn : List Cell → Prop} {lim : Nat} {B : List Cell} {v : V} {nx : Hp → Prop} (hD : H D = none) (I : GsI P w H D dn lim G) (big : lim < 16000000) (cr : CellsT G r B) (k : ∀ G', GsI P w H D (fun M => dn M ∨ M = B) (lim + 1) G' → Tk G G' → KpD D G G' → nx G') :
    ∃ (a b : Addr) (k : NK) (L : List NEnt), V.ref D = .ref a ∧ V.ref r = .ref b ∧ DN P w G a L ∧ (∀ l ∈ L, NAt K G l.1 l.2.1) ∧ NAt K G b k ∧ (putN L b k v).length ≤ sizeLine ∧ nx (upd G a (DNO P w a (putN L b k v))) := by
  obtain ⟨E, Fs, h1, h2, h3, h4⟩ := I.ex
  have tk : Tk G (upd G D (DNO P w D (putN E r (keyB B) v))) := by
    rcases h1.1 with e | ⟨_, e⟩
    · exact tk_upd e fun xs z => nomatch z
    · exact tk_upd e fun xs z => nomatch z
  refine ⟨D, r, keyB B, E, rfl, rfl, h1.1, h1.nat, cr.natB, ?_, k _ ⟨fun b o e => ?_, _, _, h1.put cr, putB_nd h2, fun M => ?_, ?_⟩ tk (fun b o nb e => by rw [upd_ne nb]; exact e)⟩
  · have := putN_len (L := E) (b := r) (k := keyB B) (v := v)
    have := h1.len
    rw [sizeLine_eq]
    omega
  · rw [upd_ne (fun z => by rw [z, hD] at e; cases e)]
    exact I.sm _ _ e
  · rw [putB_mem, h3]
  · have := putB_len Fs B
    omega
theorem CellsLL.ek {H G : Hp} {l : Addr} {Bs : List (List Cell)} (h : CellsLL H l Bs) (k : Ek H G) : CellsLL G l Bs := by
  obtain ⟨ts, e, pr⟩ := h
  exact ⟨ts, k.lst e, paired_imp (fun _ _ h => h.ek k) pr⟩
section
variable {P : Program} {w : World} {K : PySem.W.Frag} {mg : Str → Option Value} {base : Heap}
end
end Sq

set_option Elab.async false
set_option linter.all false
set_option maxRecDepth 100000
set_option maxHeartbeats 8000000
/-! All shapes of a number of squares; numbers that are none. -/
namespace Sq
open PySem PySem.Spec PyProof.Rows L2
section
variable {P : Program} {w : World} {K : PySem.W.Frag} {mg : Str → Option Value} {base : Heap}
end
end Sq

set_option Elab.async false
set_option linter.all false
set_option maxRecDepth 100000
set_option maxHeartbeats 8000000
/-! The law: cells beside, the shape. -/
namespace Sq
open PySem PySem.Spec PyProof.Rows L2
/-- the cells beside, in another order -/
def nbC (c : Cell) : List Cell := [(c.1 - 1, c.2), (c.1, c.2 - 1), (c.1, c.2 + 1), (c.1 + 1, c.2)]
theorem mem_nbC {c d : Cell} : d ∈ nbC c ↔ d ∈ besideC c := by
  unfold nbC besideC
  simp only [List.mem_cons, List.not_mem_nil, or_false]
  constructor
  · rintro (h | h | h | h) <;> simp [h]
  · rintro (h | h | h | h) <;> simp [h]
def spNBeside : Sp := fun vs H Q _ => ∃ (p : Addr) (c : Cell), vs = [.ref p] ∧ At H p c ∧ ∀ l H', Same H H' → H l = none → CellsL H' l (nbC c) → Q (.ref l) H'
section
variable {P : Program} {w : World} {K : PySem.W.Frag} {mg : Str → Option Value} {base : Heap}
theorem scNB : FnScope ["_law_cell"] ["_law_cell"] (defScope nBeside) := ⟨rfl, rfl, rfl, by decide +kernel, rfl, by decide +kernel, by decide +kernel⟩
theorem ok_nBeside {f : Addr} {fd : FuncData} (F : FnP K "_law_nb_beside" nBeside f fd) : FnOk P w K mg base CX0 1 f fd ["_law_cell"] spNBeside := by
  refine F.ok scNB (fun vs H Q E h => ?_) (fun cdv A outer s H vs Q E hr h => ?_)
  · obtain ⟨p, c, rfl, _⟩ := h
    rfl
  · obtain ⟨p, c, rfl, e, k⟩ := h
    refine ⟨_, PSs.nox (pss_one (ps_ret (pe_lst (pa_cons (pe_tup (pa_cons (pe_op op_sub (pe_ix (ix_tupK (K := K) rfl) (pv 0) pe_int (fun _ _ => rfl)) pe_int) (pa_cons (pe_ix (ix_tupK (K := K) rfl) (pv 0) pe_int (fun _ _ => rfl)) pa_nil))) (pa_cons (pe_tup (pa_cons (pe_ix (ix_tupK (K := K) rfl) (pv 0) pe_int (fun _ _ => rfl)) (pa_cons (pe_op op_sub (pe_ix (ix_tupK (K := K) rfl) (pv 0) pe_int (fun _ _ => rfl)) pe_int) pa_nil))) (pa_cons (pe_tup (pa_cons (pe_ix (ix_tupK (K := K) rfl) (pv 0) pe_int (fun _ _ => rfl)) (pa_cons (pe_op op_add (pe_ix (ix_tupK (K := K) rfl) (pv 0) pe_int (fun _ _ => rfl)) pe_int) pa_nil))) (pa_cons (pe_tup (pa_cons (pe_op op_add (pe_ix (ix_tupK (K := K) rfl) (pv 0) pe_int (fun _ _ => rfl)) pe_int) (pa_cons (pe_ix (ix_tupK (K := K) rfl) (pv 0) pe_int (fun _ _ => rfl)) pa_nil))) pa_nil))))))), ?_⟩
    refine ⟨_, rfl, _, _, _, _, rfl, rfl, SqT.of e, at0, _, _, rfl, rfl, _, rfl, _, _, _, _, rfl, rfl, SqT.of e, at1, two_le, fun t1 h1 => ?_⟩
    have s1 := same_new (o := .tup [.int (c.1 - 1), .int c.2]) h1
    refine ⟨_, rfl, _, _, _, _, rfl, rfl, SqT.of (s1 _ _ e), at0, _, rfl, _, _, _, _, rfl, rfl, SqT.of (s1 _ _ e), at1, _, _, rfl, rfl, two_le, fun t2 h2 => ?_⟩
    have s2 := same_new (o := .tup [.int c.1, .int (c.2 - 1)]) h2
    have e2 := s2 _ _ (s1 _ _ e)
    refine ⟨_, rfl, _, _, _, _, rfl, rfl, SqT.of e2, at0, _, rfl, _, _, _, _, rfl, rfl, SqT.of e2, at1, _, _, rfl, rfl, two_le, fun t3 h3 => ?_⟩
    have s3 := same_new (o := .tup [.int c.1, .int (c.2 + 1)]) h3
    have e3 := s3 _ _ e2
    refine ⟨_, rfl, _, _, _, _, rfl, rfl, SqT.of e3, at0, _, _, rfl, rfl, _, rfl, _, _, _, _, rfl, rfl, SqT.of e3, at1, two_le, fun t4 h4 => ?_⟩
    have s4 := same_new (o := .tup [.int (c.1 + 1), .int c.2]) h4
    refine ⟨four_le, fun t5 h5 => ?_⟩
    have s5 := same_new (o := .lst [.ref t1, .ref t2, .ref t3, .ref t4]) h5
    refine k t5 _ (((s1.trans s2).trans s3).trans s4 |>.trans s5) (s1.free (s2.free (s3.free (s4.free h5)))) ⟨[t1, t2, t3, t4], upd_same, ?_⟩
    refine .cons ?_ (.cons ?_ (.cons ?_ (.cons ?_ .nil)))
    · exact s5 _ _ (s4 _ _ (s3 _ _ (s2 _ _ upd_same)))
    · exact s5 _ _ (s4 _ _ (s3 _ _ upd_same))
    · exact s5 _ _ (s4 _ _ upd_same)
    · exact s5 _ _ upd_same
end
end Sq

set_option Elab.async false
set_option linter.all false
set_option maxRecDepth 100000
set_option maxHeartbeats 8000000
/-! The law: all shapes. -/
namespace Sq
open PySem PySem.Spec PyProof.Rows L2
/-- an empty cell beside it is there -/
theorem out_ex {S : List Cell} (ne : S ≠ []) : ∃ s ∈ S, ∃ c ∈ besideC s, c ∉ S := by
  obtain ⟨h1, h2⟩ := loI_is (xs := S.map fun c => -c.1) (fun z => ne (List.map_eq_nil_iff.mp z))
  obtain ⟨s, hs, e⟩ := List.mem_map.mp h1
  refine ⟨s, hs, (s.1 + 1, s.2), by simp [besideC], fun m => ?_⟩
  have := h2 _ (List.mem_map.mpr ⟨_, m, rfl⟩)
  rw [← e] at this
  dsimp only at this
  omega
theorem BDc.tk {P : Program} {w : World} {H G : Hp} {a : Addr} {E : List NEnt} {Bs : List (List Cell)} (h : BDc P w H a E Bs) (k : Tk H G) (e : G a = H a) : BDc P w G a E Bs :=
  ⟨by unfold DN; rw [e]; exact h.1, paired_imp (fun _ _ ⟨c, e⟩ => ⟨cellsT_tu c k, e⟩) h.2⟩
section
variable {P : Program} {w : World} {K : PySem.W.Frag} {mg : Str → Option Value} {base : Heap}
end
end Sq

set_option Elab.async false
set_option linter.all false
set_option maxRecDepth 100000
set_option maxHeartbeats 8000000
/-! The law: bodies that grow. -/
namespace Sq
open PySem PySem.Spec PyProof.Rows L2
def rLenX (K : PySem.W.Frag) : List V → Hp → VK → Prop := fun xs H Q => ∃ p ys, xs = [V.ref p] ∧ (SqL K H p ys ∨ SqT K H p ys) ∧ Q (.int (ys.length : Int)) H
theorem call_lenX {X : Cx} {K : PySem.W.Frag} (h : X.K = K) : CallR X (.builtin "len") (rLenX K) := by
  subst h
  exact call_len_seq
theorem pi_listX {X : Cx} {K : PySem.W.Frag} {tg l : Expr} {tl : TE} (h : X.K = K) (hl : PE X l tl) : PI X tg l (iList K tl) := h ▸ pi_list hl
/-- not in, for a cell and a list of cells -/
def rOutH : R2 := fun x y H Q => ∃ (p t : Addr) (c : Cell) (L : List Cell), x = .ref p ∧ y = .ref t ∧ At H p c ∧ CellsL H t L ∧ Q (.bl (!decide (c ∈ L))) H
theorem op_outH {X : Cx} (hu : X.A.units + 64 < cLine) : OpR X (compareOp .NotIn) rOutH := by
  rintro pins s σ H x y v u Q I rx ry ⟨p, t, c, L, rfl, rfl, ap, ct, q⟩
  obtain ⟨as, r1⟩ := Dp.reads I (cD c) _ v ap.dp rx
  obtain ⟨bs, r2⟩ := Dp.reads I (.list (L.map cD)) _ u ct.dp ry
  have l1 := lay_cellH c
  refine SeqAt.notIn_list_reads r2 r1 (cells_canH L) l1.1 ?_ ⟨.bl _, H, I, rfl, ?_⟩
  · have m : min (PyData.depthAll (L.map cD)) (cD c).depth ≤ 1 := Nat.le_trans (Nat.min_le_right _ _) l1.2
    omega
  · rw [any_cellH]
    exact q
/-- a comprehension that hands out cells of one kind -/
theorem lc_kindC {J : It} {n : Nat} {Gd : Hp → Prop} {Y : Nat → Hp → V → Hp → Prop} (w : Walk J n Gd Y) {g : TG} {tt : TT} {te : TE} {vs : List Nat} {σ : L2.St} {H1 : Hp} {D : Addr} {Qd : Hp → Prop} (hD : H1 D = none) (Pc : Cell → Prop) (hn : n ≤ 1000000)
    (hG : ∀ i G, i ≤ n → Same H1 G → Gd G)
    (hs : ∀ i x G G' (K1 : V → Hp → Prop) (K0 : Hp → Prop), i < n → Same H1 G → Y i G x G' → (∀ r c H4, Same G H4 → At H4 r c → Pc c → K1 (.ref r) H4) → (∀ H3, Same G H3 → K0 H3) →
      g x (wipe σ vs) G' fun σ2 H2 => wipe σ2 vs = wipe σ vs ∧ tt σ2 H2 fun b H3 => if b = true then te σ2 H3 K1 else K0 H3)
    (hd : ∀ G rs cs, Same H1 G → G D = some (.lst (rs.map V.ref)) → Paired (fun q c => At G q c) rs cs → (∀ c ∈ cs, Pc c) → cs.length ≤ n → Qd G) :
    ∃ W : Nat → Nat → Hp → Prop, (∃ m, W 0 m (upd H1 D (.lst []))) ∧ ∀ i m H, W i m H →
      (J.stop i H ∧ Qd H) ∨ (J.go i H ∧ ∃ Nx : Hp → Prop, (∀ H', Nx H' → ∃ m', m' < m ∧ W (i + 1) m' H') ∧ ∀ x H', J.yld i H x H' → g x (wipe σ vs) H' fun σ2 H2 => wipe σ2 vs = wipe σ vs ∧ tt σ2 H2 fun b H3 =>
        if b = true then te σ2 H3 fun y H4 => ∃ acc, H4 D = some (.lst acc) ∧ acc.length < sizeLine ∧ Nx (upd H4 D (.lst (acc ++ [y]))) else Nx H3) := by
  refine lc_it w (fun i G => Same H1 G ∧ ∃ (rs : List Addr) (cs : List Cell), G D = some (.lst (rs.map V.ref)) ∧ Paired (fun q c => At G q c) rs cs ∧ (∀ c ∈ cs, Pc c) ∧ cs.length ≤ i) ⟨same_put same_refl hD, [], [], upd_same, .nil, fun c h => (nomatch h), Nat.le_refl _⟩ (fun i G hi p => hG i G hi p.1) ?_ ?_
  · rintro i x G G' hi ⟨sm, rs, cs, gD, pr, pc, ln⟩ y
    have lr : rs.length = cs.length := Paired.length pr
    refine hs i x G G' _ _ hi sm y (fun r c H4 s4 a4 hc => ?_) (fun H3 s3 => ?_)
    · have off : ∀ {q : Addr} {c : Cell}, At H4 q c → At (upd H4 D (.lst (rs.map V.ref ++ [V.ref r]))) q c := fun h => h.off (s4 _ _ gD) (by intro xs z; cases z)
      refine ⟨_, s4 _ _ gD, by rw [List.length_map, sizeLine_eq]; omega, same_put (sm.trans s4) hD, rs ++ [r], cs ++ [c], by rw [upd_same, List.map_append]; rfl, (paired_imp0 (fun _ _ h => off (s4 _ _ h)) pr).snoc (off a4), fun d hd => ?_, by rw [List.length_append]; exact Nat.succ_le_succ ln⟩
      rcases List.mem_append.mp hd with z | z
      · exact pc d z
      · rw [List.mem_singleton.mp z]
        exact hc
    · exact ⟨sm.trans s3, rs, cs, s3 _ _ gD, paired_imp0 (fun _ _ h => s3 _ _ h) pr, pc, Nat.le_succ_of_le ln⟩
  · rintro G ⟨sm, rs, cs, gD, pr, pc, ln⟩
    exact hd G rs cs sm gD pr pc ln
def spNCrosses : Sp := fun vs H Q _ => ∃ (l q : Addr) (L : List Cell) (c : Cell), vs = [.ref l, .ref q] ∧ CellsL H l L ∧ At H q c ∧ ∀ b H', Same H H' → Q (.bl b) H'
abbrev ncN : List Str := ["_law_body", "_law_cell", "_law_across", "_law_up"]
section
variable {P : Program} {w : World} {K : PySem.W.Frag} {mg : Str → Option Value} {base : Heap}
theorem scNC : FnScope ncN ["_law_body", "_law_cell"] (defScope nCrosses) := ⟨rfl, rfl, rfl, by decide +kernel, rfl, by decide +kernel, by decide +kernel⟩
theorem ok_nCrosses {f : Addr} {fd : FuncData} (F : FnP K "_law_nb_crosses" nCrosses f fd) : FnOk P w K mg base CX0 1 f fd ["_law_body", "_law_cell"] spNCrosses := by
  refine F.ok scNC (fun vs H Q E h => ?_) (fun cdv A outer s H vs Q E hr h => ?_)
  · obtain ⟨l, q, L, c, rfl, _⟩ := h
    rfl
  · obtain ⟨l, q, L, c, rfl, cl, aq, k⟩ := h
    have h64 := room64 hr
    refine ⟨_, PSs.nox (pss_cons (ps_for PassesOwn.never rfl (pi_list (pe_lst (pa_cons (pe_tup (pa_cons (pe_un un_neg pe_int) (pa_cons (pe_un un_neg pe_int) pa_nil))) (pa_cons (pe_tup (pa_cons (pe_un un_neg pe_int) (pa_cons pe_int pa_nil))) (pa_cons (pe_tup (pa_cons pe_int (pa_cons (pe_un un_neg pe_int) pa_nil))) (pa_cons (pe_tup (pa_cons pe_int (pa_cons pe_int pa_nil))) pa_nil)))))) (pg_tup (by rfl) (pgs_cons (pg_name (i := 2) scNC.nd rfl (.inl rfl)) (pgs_cons (pg_name (i := 3) scNC.nd rfl (.inl rfl)) pgs_nil)))
      (pss_one (ps_if (pt_cmpR (op_inH h64) (pe_tup (pa_cons (pe_op op_add (pe_ix (ix_tupK (K := K) rfl) (pv 1) pe_int (fun _ _ => rfl)) (pv 2)) (pa_cons (pe_op op_add (pe_ix (ix_tupK (K := K) rfl) (pv 1) pe_int (fun _ _ => rfl)) (pv 3)) pa_nil))) (pv 0) (by rfl))
        (pss_one (ps_if (PW.pt (pw_and (pt_cmpR (op_outH h64) (pe_tup (pa_cons (pe_op op_add (pe_ix (ix_tupK (K := K) rfl) (pv 1) pe_int (fun _ _ => rfl)) (pv 2)) (pa_cons (pe_ix (ix_tupK (K := K) rfl) (pv 1) pe_int (fun _ _ => rfl)) pa_nil))) (pv 0) (by rfl)) (pw_and1 (pt_cmpR (op_outH h64) (pe_tup (pa_cons (pe_ix (ix_tupK (K := K) rfl) (pv 1) pe_int (fun _ _ => rfl)) (pa_cons (pe_op op_add (pe_ix (ix_tupK (K := K) rfl) (pv 1) pe_int (fun _ _ => rfl)) (pv 3)) pa_nil))) (pv 0) (by rfl)))))
          (pss_one (ps_ret pe_bl))
          pss_nil))
        pss_nil)))
      (pss_one (ps_ret pe_bl))), ?_⟩
    refine ⟨_, rfl, _, rfl, two_le, fun t1 h1 => ⟨_, rfl, two_le, fun t2 h2 => ⟨_, rfl, two_le, fun t3 h3 => ⟨two_le, fun t4 h4 => ⟨four_le, fun ll hll => ?_⟩⟩⟩⟩⟩
    have s1 := same_new (o := .tup [.int (-1), .int (-1)]) h1
    have s2 := same_new (o := .tup [.int (-1), .int 1]) h2
    have s3 := same_new (o := .tup [.int 1, .int (-1)]) h3
    have s4 := same_new (o := .tup [.int 1, .int 1]) h4
    have s5 := same_new (o := .lst [.ref t1, .ref t2, .ref t3, .ref t4]) hll
    have sA := (((s1.trans s2).trans s3).trans s4).trans s5
    have a1 : At _ t1 (-1, -1) := s5 _ _ (s4 _ _ (s3 _ _ (s2 _ _ (upd_same (H := H) (a := t1) (o := .tup [.int (-1), .int (-1)])))))
    have a2 : At _ t2 (-1, 1) := s5 _ _ (s4 _ _ (s3 _ _ (upd_same (H := upd H t1 (.tup [.int (-1), .int (-1)])) (a := t2) (o := .tup [.int (-1), .int 1]))))
    have a3 : At _ t3 (1, -1) := s5 _ _ (s4 _ _ (upd_same (H := upd (upd H t1 (.tup [.int (-1), .int (-1)])) t2 (.tup [.int (-1), .int 1])) (a := t3) (o := .tup [.int 1, .int (-1)])))
    have a4 : At _ t4 (1, 1) := s5 _ _ (upd_same (H := upd (upd (upd H t1 (.tup [.int (-1), .int (-1)])) t2 (.tup [.int (-1), .int 1])) t3 (.tup [.int 1, .int (-1)])) (a := t4) (o := .tup [.int 1, .int 1]))
    have el := upd_same (H := upd (upd (upd (upd H t1 (.tup [.int (-1), .int (-1)])) t2 (.tup [.int (-1), .int 1])) t3 (.tup [.int 1, .int (-1)])) t4 (.tup [.int 1, .int 1])) (a := ll) (o := .lst [.ref t1, .ref t2, .ref t3, .ref t4])
    generalize upd (upd (upd (upd (upd H t1 (.tup [.int (-1), .int (-1)])) t2 (.tup [.int (-1), .int 1])) t3 (.tup [.int 1, .int (-1)])) t4 (.tup [.int 1, .int 1])) ll (.lst [.ref t1, .ref t2, .ref t3, .ref t4]) = H1 at sA a1 a2 a3 a4 el
    have each : ∀ t ∈ [t1, t2, t3, t4], ∃ d : Cell, At H1 t d := fun t ht => by
      simp only [List.mem_cons, List.not_mem_nil, or_false] at ht
      rcases ht with rfl | rfl | rfl | rfl
      · exact ⟨_, a1⟩
      · exact ⟨_, a2⟩
      · exact ⟨_, a3⟩
      · exact ⟨_, a4⟩
    refine ⟨ll, rfl, ⟨_, SqL.of el⟩, ?_⟩
    refine for_list (K := K) (a := ll) (xs := [t1, t2, t3, t4].map V.ref) (fun i σ G => ∃ (v2 v3 : Option V), σ = [some (.ref l), some (.ref q), v2, v3] ∧ Same H1 G) ⟨none, none, rfl, same_refl⟩ (fun i σ G _ ⟨_, _, _, sm⟩ => SqL.of (sm _ _ el)) ?_ ?_
    · rintro i x σ G hi ⟨v2, v3, rfl, sm⟩
      rw [List.getElem?_map] at hi
      obtain ⟨t, ht, rfl⟩ := Option.map_eq_some_iff.mp hi
      obtain ⟨d, ad⟩ := each t (List.mem_of_getElem? ht)
      have ad : At G t d := sm _ _ ad
      have aq1 : At G q c := (aq.same sA).same sm
      have cl1 : CellsL G l L := cl.ek (.of (sA.trans sm))
      refine ⟨t, _, rfl, SqT.of ad, rfl, _, _, rfl, _, _, rfl, rfl, ?_⟩
      refine ⟨_, rfl, _, _, _, _, rfl, rfl, SqT.of aq1, at0, _, rfl, _, _, rfl, rfl, _, rfl, _, _, _, _, rfl, rfl, SqT.of aq1, at1, _, rfl, _, _, rfl, rfl, two_le, fun w1 hw1 => ?_⟩
      have u1 := same_new (o := .tup [.int (c.1 + d.1), .int (c.2 + d.2)]) hw1
      have b1 : At (upd G w1 (.tup [.int (c.1 + d.1), .int (c.2 + d.2)])) w1 (c.1 + d.1, c.2 + d.2) := upd_same
      generalize upd G w1 (.tup [.int (c.1 + d.1), .int (c.2 + d.2)]) = G1 at u1 b1
      refine ⟨_, rfl, w1, l, _, L, rfl, rfl, b1, cl1.ek (.of u1), _, rfl, ?_⟩
      refine ite2 (fun _ => ?_) (fun _ => ⟨_, _, rfl, sm.trans u1⟩)
      have aq2 := aq1.same u1
      refine ⟨_, rfl, _, _, _, _, rfl, rfl, SqT.of aq2, at0, _, rfl, _, _, rfl, rfl, _, rfl, _, _, _, _, rfl, rfl, SqT.of aq2, at1, two_le, fun w2 hw2 => ?_⟩
      have u2 := same_new (o := .tup [.int (c.1 + d.1), .int c.2]) hw2
      have b2 : At (upd G1 w2 (.tup [.int (c.1 + d.1), .int c.2])) w2 (c.1 + d.1, c.2) := upd_same
      generalize upd G1 w2 (.tup [.int (c.1 + d.1), .int c.2]) = G2 at u2 b2
      refine ⟨_, rfl, w2, l, _, L, rfl, rfl, b2, cl1.ek (.of (u1.trans u2)), _, rfl, ?_⟩
      refine ite2 (fun _ => ?_) (fun _ => ⟨_, _, rfl, (sm.trans u1).trans u2⟩)
      have aq3 := aq2.same u2
      refine ⟨_, rfl, _, _, _, _, rfl, rfl, SqT.of aq3, at0, _, rfl, _, _, _, _, rfl, rfl, SqT.of aq3, at1, _, rfl, _, _, rfl, rfl, two_le, fun w3 hw3 => ?_⟩
      have u3 := same_new (o := .tup [.int c.1, .int (c.2 + d.2)]) hw3
      have b3 : At (upd G2 w3 (.tup [.int c.1, .int (c.2 + d.2)])) w3 (c.1, c.2 + d.2) := upd_same
      generalize upd G2 w3 (.tup [.int c.1, .int (c.2 + d.2)]) = G3 at u3 b3
      refine ⟨_, rfl, w3, l, _, L, rfl, rfl, b3, cl1.ek (.of ((u1.trans u2).trans u3)), _, rfl, ?_⟩
      exact ite2 (fun _ => k _ _ ((sA.trans sm).trans ((u1.trans u2).trans u3))) (fun _ => ⟨_, _, rfl, ((sm.trans u1).trans u2).trans u3⟩)
    · rintro σ G ⟨v2, v3, rfl, sm⟩
      exact k _ _ (sA.trans sm)
end
end Sq

set_option Elab.async false
set_option linter.all false
set_option maxRecDepth 100000
set_option maxHeartbeats 4000000
/-! Bodies that some order lets grow; the cells beside them are few. -/
namespace Sq
open PySem PySem.Spec PyProof.Rows L2
def GrownP (A : List Cell) : Prop := ∃ B : List Cell, B.Perm A ∧ Grown B
theorem Grown.p {A : List Cell} (h : Grown A) : GrownP A := ⟨A, .refl _, h⟩
theorem GrownP.snoc {A : List Cell} {a x : Cell} (h : GrownP A) (ha : a ∈ A) (hx : x ∈ besideC a) : GrownP (A ++ [x]) := by
  obtain ⟨B, p, g⟩ := h
  exact ⟨B ++ [x], p.append_right _, g.snoc (p.mem_iff.mpr ha) hx⟩
/-- how many sides of the squares B lie open beside A -/
def rimN (A B : List Cell) : Nat := (B.map fun y => ((nbC y).filter fun x => !decide (x ∈ A)).length).sum
theorem rimN_mono {A C : List Cell} (h : ∀ x ∈ A, x ∈ C) : ∀ B : List Cell, rimN C B ≤ rimN A B
  | [] => Nat.le_refl _
  | y :: B => by
    have ih := rimN_mono h B
    have e1 : ∀ D : List Cell, rimN D (y :: B) = ((nbC y).filter fun x => !decide (x ∈ D)).length + rimN D B := fun D => by simp [rimN]
    rw [e1, e1]
    have : ((nbC y).filter fun x => !decide (x ∈ C)).length ≤ ((nbC y).filter fun x => !decide (x ∈ A)).length := by
      rw [← List.countP_eq_length_filter, ← List.countP_eq_length_filter]
      refine List.countP_mono_left fun x _ hx => ?_
      simp only [Bool.not_eq_true', decide_eq_false_iff_not] at hx ⊢
      exact fun m => hx (h x m)
    omega
theorem nb_nodup (c : Cell) : (nbC c).Nodup := by
  unfold nbC
  simp only [List.nodup_cons, List.mem_cons, List.not_mem_nil, or_false, Prod.mk.injEq, not_or, not_false_eq_true, List.nodup_nil, and_true, true_and]
  omega
/-- a square more shuts a side of its neighbour -/
theorem rimN_less {A : List Cell} {a x : Cell} (hx : x ∈ nbC a) (nx : x ∉ A) : ((nbC a).filter fun z => !decide (z ∈ A ++ [x])).length + 1 ≤ ((nbC a).filter fun z => !decide (z ∈ A)).length := by
  have p : (x :: (nbC a).filter fun z => !decide (z ∈ A ++ [x])).length ≤ ((nbC a).filter fun z => !decide (z ∈ A)).length := by
    refine len_le (List.nodup_cons.mpr ⟨fun m => ?_, (nb_nodup a).filter _⟩) fun z hz => ?_
    · have := (List.mem_filter.mp m).2
      simp at this
    · rcases List.mem_cons.mp hz with rfl | m
      · exact List.mem_filter.mpr ⟨hx, by simpa using nx⟩
      · obtain ⟨h1, h2⟩ := List.mem_filter.mp m
        refine List.mem_filter.mpr ⟨h1, ?_⟩
        simp only [Bool.not_eq_true', decide_eq_false_iff_not, List.mem_append, not_or] at h2 ⊢
        exact h2.1
  rwa [List.length_cons] at p
theorem rimN_grow {A : List Cell} {a x : Cell} (hx : x ∈ nbC a) (nx : x ∉ A) : ∀ B : List Cell, a ∈ B → rimN (A ++ [x]) B + 1 ≤ rimN A B
  | [], h => (nomatch h)
  | y :: B, h => by
    have e1 : ∀ D : List Cell, rimN D (y :: B) = ((nbC y).filter fun x => !decide (x ∈ D)).length + rimN D B := fun D => by simp [rimN]
    rw [e1, e1]
    have m0 : rimN (A ++ [x]) B ≤ rimN A B := rimN_mono (fun z hz => List.mem_append_left _ hz) B
    have one : ∀ y : Cell, ((nbC y).filter fun z => !decide (z ∈ A ++ [x])).length ≤ ((nbC y).filter fun z => !decide (z ∈ A)).length := fun y => by
      have := rimN_mono (A := A) (C := A ++ [x]) (fun z hz => List.mem_append_left _ hz) [y]
      simpa [rimN] using this
    rcases List.mem_cons.mp h with rfl | m
    · have := rimN_less hx nx
      omega
    · have := rimN_grow hx nx B m
      have := one y
      omega
theorem rimN_app (A : List Cell) : ∀ B C : List Cell, rimN A (B ++ C) = rimN A B + rimN A C := fun B C => by
  unfold rimN
  rw [List.map_append, List.sum_append]
theorem rimN_grown : ∀ (n : Nat) {B : List Cell}, B.length = n → Grown B → B.Nodup → rimN B B ≤ 2 * B.length + 2
  | 0, B, l, _, _ => by
    rw [List.eq_nil_of_length_eq_zero l]
    exact Nat.zero_le _
  | 1, B, l, _, _ => by
    match B, l with
    | [y], _ =>
      have : ((nbC y).filter fun z => !decide (z ∈ [y])).length ≤ 4 := List.length_filter_le _ _
      simpa [rimN] using this
  | n + 2, B, l, g, nd => by
    obtain ⟨A, x, rfl⟩ := snoc_inv (xs := B) (fun z => by rw [z] at l; cases l)
    have lA : A.length = n + 1 := by simpa using l
    have gA : Grown A := by
      have := g.take (n + 1)
      rwa [List.take_left' lA] at this
    obtain ⟨n1, _, n3⟩ := List.nodup_append.mp nd
    have nx : x ∉ A := fun m => n3 x m x (List.mem_singleton.mpr rfl) rfl
    obtain ⟨j, a, hj, ea, hb⟩ := g n x (by rw [List.getElem?_append_right (by omega), lA]; simp)
    have ha : a ∈ A := by
      rw [List.getElem?_append_left (by omega)] at ea
      exact List.mem_of_getElem? ea
    have ih := rimN_grown (n + 1) lA gA n1
    have h1 := rimN_grow (mem_nbC.mpr hb) nx A ha
    have back : a ∈ nbC x := by
      have := beside_iff.mp hb
      rw [mem_nbC, beside_iff]
      omega
    have h2 : ((nbC x).filter fun z => !decide (z ∈ A ++ [x])).length + 1 ≤ 4 := by
      have p : (a :: (nbC x).filter fun z => !decide (z ∈ A ++ [x])).length ≤ (nbC x).length := by
        refine len_le (List.nodup_cons.mpr ⟨fun m => ?_, (nb_nodup x).filter _⟩) fun z hz => ?_
        · have := (List.mem_filter.mp m).2
          simp [ha] at this
        · rcases List.mem_cons.mp hz with rfl | m
          · exact back
          · exact (List.mem_filter.mp m).1
      exact p
    rw [rimN_app, List.length_append, List.length_singleton]
    have e : rimN (A ++ [x]) [x] = ((nbC x).filter fun z => !decide (z ∈ A ++ [x])).length := by simp [rimN]
    rw [e]
    omega
theorem rimN_p {L : List Cell} (h : GrownP L) (nd : L.Nodup) : rimN L L ≤ 2 * L.length + 2 := by
  obtain ⟨B, p, g⟩ := h
  have q := rimN_grown B.length rfl g (p.nodup_iff.mpr nd)
  have e1 : rimN L L = rimN L B := by
    unfold rimN
    exact (p.map _).sum_nat.symm
  have e2 : rimN L B = rimN B B := by
    unfold rimN
    congr 1
    refine List.map_congr_left fun y _ => ?_
    congr 1
    refine List.filter_congr fun x _ => ?_
    rw [Bool.not_inj_iff]
    exact decide_eq_decide.mpr p.mem_iff.symm
  rw [e1, e2, ← p.length_eq]
  exact q
end Sq

set_option Elab.async false
set_option linter.all false
set_option maxRecDepth 100000
set_option maxHeartbeats 8000000
/-! The law: a body grown by some squares, up to forty. -/
namespace Sq
open PySem PySem.Spec PyProof.Rows L2
def spNGrown : Sp := fun vs H Q _ => ∃ (p c l : Addr) (n many : Nat) (way : Int) (A : List Cell), vs = [.ref p, .ref l, .int (many : Int), .int way] ∧ PenC H p c n ∧ CellsL H l A ∧ A.Nodup ∧ GrownP A ∧ A ≠ [] ∧ A.length ≤ many ∧ many ≤ 29 ∧ n < 900000 ∧
  ∀ l' H' L n', PenC H' p c n' → n' ≤ n + 2 * many → Kp [p] H H' → CellsL H' l' L → L.Nodup → GrownP L → L.length = many → (∀ a ∈ A, a ∈ L) → Q (.ref l') H'
abbrev ngN : List Str := ["_law_pen_here", "_law_body", "_law_many", "_law_way", "_law_cells", "_law_square", "_law_cell", "_law_lonely", "_law_one", "_law_some", "_law_cross"]
def whileB : Stmt → List Stmt
  | .While _ b _ _ => b
  | _ => []
def ngB : List Stmt := whileB ((defBody nGrown).getD 0 (.Pass ⟨0, 0, 0, 0⟩))
/-- empty cells beside a body -/
def RingC (A : List Cell) (x : Cell) : Prop := x ∉ A ∧ ∃ y ∈ A, x ∈ besideC y
section
variable {P : Program} {w : World} {K : PySem.W.Frag} {mg : Str → Option Value} {base : Heap}
theorem scNG : FnScope ngN ["_law_pen_here", "_law_body", "_law_many", "_law_way"] (defScope nGrown) := ⟨rfl, rfl, rfl, by decide +kernel, rfl, by decide +kernel, by decide +kernel⟩
variable {f : Addr} {cdv : Value} {A0 : Around} {outer : List Env} {s : Shared} {H0 : Hp} {E : XK}
/-- from the crossing ones on -/
theorem ng_tail (hr : Room 2 (cxOf CX0 P w K mg base ngN "_law_nb_grown" (defScope nGrown) f cdv A0 outer s H0 E).nox.A) (DP : Df P w K mg base CX0 2 "_law_pick" ["_law_pen_here", "_law_some"] (spPickC K)) (DC : Df P w K mg base CX0 1 "_law_nb_crosses" ["_law_body", "_law_cell"] spNCrosses) :
    ∃ t, PSs (cxOf CX0 P w K mg base ngN "_law_nb_grown" (defScope nGrown) f cdv A0 outer s H0 E).nox (ngB.drop 5) t ∧
      ∀ (D : Ends) (G : Hp) (p c l so : Addr) (n : Nat) (many : Int) (way : Int) (v4 v5 v6 v7 v8 v10 : Option V) (A ss : List Cell), PenC G p c n → n < 1000000 → CellsL G l A → A.length ≤ 100 → CellsL G so ss → ss ≠ [] → ss.length ≤ 1000 →
        (∀ l2 G2 x w4 w5 w6 w7 w8 w9 w10, PenC G2 p c (n + 1) → Kp [p] G G2 → x ∈ ss → CellsL G2 l2 (A ++ [x]) → D.nx [some (.ref p), some (.ref l2), some (.int many), some (.int way), w4, w5, w6, w7, w8, w9, w10] G2) →
        t D [some (.ref p), some (.ref l), some (.int many), some (.int way), v4, v5, v6, v7, v8, some (.ref so), v10] G := by
  have h64 := room64 hr
  refine ⟨_, (pss_cons (ps_setLc (i := 10) (own := [("_law_cell", 6)]) (g := gName 6) (by rfl) scNG.nd rfl rfl (sw_true rfl rfl rfl (by decide +kernel)) (pi_list (pv 9)) (blkOk_by (N := ngN) (sc := defScope nGrown) (by decide +kernel)) (fun _ _ _ _ _ => pg_name (i := 6) scNG.nd rfl (Or.inl rfl)) (fun _ _ _ _ _ => (pts_one (pt_val (pe_df DC hr (by rfl) pass0 (pa_cons (pv 1) (pa_cons (pv 6) pa_nil)))))) (fun _ _ _ _ _ => (pv 6)))
        (pss_one (ps_set (i := 1) scNG.nd rfl (.inr rfl) (pe_op op_cat (pv 1) (pe_lst (pa_cons (pe_df DP hr (by rfl) pass0 (pa_cons (pv 0) (pa_cons (pe_ifExp (PW.pt (pw_and (pt_cmpR op_eq (pv 3) pe_int (nomark _)) (pw_and1 (pt_cmpR (op_neK (K := K) rfl h64) (pv 10) (pe_lst pa_nil) (nomark _))))) (pv 10) (pv 9)) pa_nil))) pa_nil)))))), ?_⟩
  intro D G p c l so n many way v4 v5 v6 v7 v8 v10 A ss hp hn cl lA cs nes lss kD
  obtain ⟨qs, es, pq⟩ := id cs
  have lq : qs.length = ss.length := Paired.length pq
  refine ⟨_, rfl, so, rfl, ⟨_, SqL.of es⟩, fun D1 hD1 => ?_⟩
  refine lc_kindC (walk_list (K := K) (a := so) (xs := qs.map V.ref)) hD1 (fun x => x ∈ ss) (by rw [List.length_map]; omega) (fun i G2 _ sm => SqL.of (sm _ _ es)) ?_ ?_
  · rintro i x G1 G2 K1 K0 hi sm ⟨rfl, hx⟩ k1 k0
    rw [List.getElem?_map] at hx
    obtain ⟨q, hq, rfl⟩ := Option.map_eq_some_iff.mp hx
    obtain ⟨d, hd, ad⟩ := paired_get pq hq
    have ad : At G2 q d := ad.same sm
    refine ⟨rfl, _, rfl, _, rfl, l, q, A, d, rfl, cl.ek (.of sm), ad, fun b G3 s3 => ⟨_, rfl, ?_⟩⟩
    exact ite2 (fun _ => ⟨_, rfl, k1 q d _ s3 (ad.same s3) (List.mem_of_getElem? hd)⟩) (fun _ => k0 _ s3)
  intro G1 rs xs s1 e1 prx sub lx
  -- the pick
  have go : ∀ (G2 : Hp) (y : Addr) (ys : List Cell), Same G1 G2 → CellsL G2 y ys → ys ≠ [] → ys.length ≤ 1000 → (∀ x ∈ ys, x ∈ ss) → ∀ (Q : V → Hp → Prop), (∀ q x G3, PenC G3 p c (n + 1) → Kp [p] G G3 → x ∈ ss → At G3 q x → Q (.ref q) G3) → spPickC K [.ref p, .ref y] G2 Q (fun _ _ _ => False) := fun G2 y ys s2 cy ney ly sb Q kQ => by
    obtain ⟨us, ey, pu⟩ := id cy
    have lu : us.length = ys.length := Paired.length pu
    have sA := s1.trans s2
    have hp2 := hp.same sA
    have py : 0 < ys.length := List.length_pos_iff.mpr ney
    refine ⟨p, c, y, n, us.map V.ref, rfl, hp2, by omega, .inl (SqL.of ey), by rw [List.length_map]; omega, by rw [List.length_map]; omega, fun i x G3 hx hp3 hb => ?_⟩
    rw [List.getElem?_map] at hx
    obtain ⟨q, hq, rfl⟩ := Option.map_eq_some_iff.mp hx
    obtain ⟨d, hd, ad⟩ := paired_get pu hq
    have k3 := kp_pick hb
    exact kQ q d G3 hp3 ((Kp.of sA).trans k3) (sb d (List.mem_of_getElem? hd)) ((pen_ek hp2.at k3).at ad)
  have fin : ∀ q x G3, PenC G3 p c (n + 1) → Kp [p] G G3 → x ∈ ss → At G3 q x → (1 ≤ sizeLine ∧ ∀ l1, G3 l1 = none → ∃ a b us ws, V.ref l = V.ref a ∧ V.ref l1 = V.ref b ∧ upd G3 l1 (.lst [.ref q]) a = some (.lst us) ∧ upd G3 l1 (.lst [.ref q]) b = some (.lst ws) ∧ us.length + ws.length ≤ sizeLine ∧ ∀ l2, upd G3 l1 (.lst [.ref q]) l2 = none → D.nx [some (.ref p), some (.ref l2), some (.int many), some (.int way), v4, v5, v6, v7, v8, some (.ref so), some (.ref D1)] (upd (upd G3 l1 (.lst [.ref q])) l2 (.lst (us ++ ws)))) := fun q x G3 hp3 kp3 hx ax => by
    have ek3 := pen_ek hp.at kp3
    obtain ⟨as, el, pa⟩ := cl.ek ek3
    have la : as.length = A.length := Paired.length pa
    refine ⟨by rw [sizeLine_eq]; decide, fun l1 hl1 => ?_⟩
    have s4 := same_new (o := .lst [.ref q]) hl1
    have e4 := upd_same (H := G3) (a := l1) (o := .lst [.ref q])
    have el4 := s4 _ _ el
    generalize upd G3 l1 (.lst [.ref q]) = G4 at s4 e4 el4
    refine ⟨l, l1, _, _, rfl, rfl, el4, e4, by rw [List.length_map, la, sizeLine_eq]; show A.length + 1 ≤ 16777216; omega, fun l2 hl2 => ?_⟩
    have s5 := same_new (o := .lst (as.map V.ref ++ [.ref q])) hl2
    refine kD l2 _ x _ _ _ _ _ _ _ ((hp3.same s4).same s5) (kp3.trans (Kp.of (s4.trans s5))) hx ⟨as ++ [q], by rw [upd_same, List.map_append]; rfl, ?_⟩
    exact (paired_imp (fun _ _ h => (h.same s4).same s5) pa).snoc ((ax.same s4).same s5)
  have cs1 := cs.ek (.of s1)
  have lxs : xs.length ≤ 1000 := by rw [List.length_map, lq] at lx; omega
  refine ⟨_, rfl, _, rfl, ?_⟩
  refine ⟨_, rfl, rfl, _, rfl, ?_⟩
  refine ite2 (fun h1 => ?_) (fun h1 => ?_)
  · refine ⟨_, rfl, Nat.zero_le _, fun l0 hl0 => ?_⟩
    have s0 := same_new (o := .lst []) hl0
    refine ⟨.list (xs.map cD), .list [], .lst (SqL.of (s0 _ _ e1)) (cells_dps (paired_imp (fun _ _ h => At.same h s0) prx)), .lst (SqL.of upd_same) .nil, (lay_list (n := 1) fun d hd => by
      obtain ⟨z, _, rfl⟩ := List.mem_map.mp hd
      exact lay_cellH z).shaped (by decide), (lay_list (n := 0) (ds := []) (by simp)).shaped (by decide), _, rfl, ?_⟩
    rw [eqv_nilD]
    refine ite2 (fun h2 => ?_) (fun h2 => ?_)
    · have nex : xs ≠ [] := fun z => by rw [z] at h2; exact absurd h2 (by simp)
      exact ⟨_, rfl, go _ D1 xs s0 ⟨rs, s0 _ _ e1, paired_imp (fun _ _ h => At.same h s0) prx⟩ nex lxs sub _ fin⟩
    · exact ⟨_, rfl, go _ so ss s0 (cs1.ek (.of s0)) nes lss (fun _ h => h) _ fin⟩
  · exact ⟨_, rfl, go _ so ss same_refl cs1 nes lss (fun _ h => h) _ fin⟩
end
end Sq

set_option Elab.async false
set_option linter.all false
set_option maxRecDepth 100000
set_option maxHeartbeats 8000000
/-! The law: a body grown by some squares, the whole. -/
namespace Sq
open PySem PySem.Spec PyProof.Rows L2
def rimL (A B : List Cell) : List Cell := B.flatMap fun y => (nbC y).filter fun x => !decide (x ∈ A)
theorem rimL_mem {A : List Cell} {x : Cell} : x ∈ rimL A A ↔ RingC A x := by
  unfold rimL RingC
  rw [List.mem_flatMap]
  constructor
  · rintro ⟨y, hy, hx⟩
    obtain ⟨h1, h2⟩ := List.mem_filter.mp hx
    exact ⟨by simpa using h2, y, hy, mem_nbC.mp h1⟩
  · rintro ⟨h1, y, hy, h2⟩
    exact ⟨y, hy, List.mem_filter.mpr ⟨mem_nbC.mpr h2, by simpa using h1⟩⟩
theorem rimL_snoc {A B : List Cell} {y : Cell} : rimL A (B ++ [y]) = rimL A B ++ (nbC y).filter fun x => !decide (x ∈ A) := by
  unfold rimL
  rw [List.flatMap_append]
  simp
theorem rimL_len {A : List Cell} : ∀ B : List Cell, (rimL A B).length ≤ 4 * B.length
  | [] => Nat.zero_le _
  | y :: B => by
    have := rimL_len (A := A) B
    have e : rimL A (y :: B) = ((nbC y).filter fun x => !decide (x ∈ A)) ++ rimL A B := rfl
    have h : ((nbC y).filter fun x => !decide (x ∈ A)).length ≤ 4 := List.length_filter_le _ _
    rw [e, List.length_append, List.length_cons]
    omega
theorem rimL_eq {A : List Cell} : ∀ B : List Cell, (rimL A B).length = rimN A B
  | [] => rfl
  | y :: B => by
    have e : rimL A (y :: B) = ((nbC y).filter fun x => !decide (x ∈ A)) ++ rimL A B := rfl
    have e1 : rimN A (y :: B) = ((nbC y).filter fun x => !decide (x ∈ A)).length + rimN A B := by simp [rimN]
    rw [e, e1, List.length_append, rimL_eq B]
section
variable {P : Program} {w : World} {K : PySem.W.Frag} {mg : Str → Option Value} {base : Heap}
theorem ok_nGrown {f : Addr} {fd : FuncData} (F : FnP K "_law_nb_grown" nGrown f fd) (B : Bl mg) (DD : Df P w K mg base CX0 1 "_law_draw" ["_law_pen_here", "_law_many"] spDrawC) (DP : Df P w K mg base CX0 2 "_law_pick" ["_law_pen_here", "_law_some"] (spPickC K)) (DB : Df P w K mg base CX0 1 "_law_nb_beside" ["_law_cell"] spNBeside) (DC : Df P w K mg base CX0 1 "_law_nb_crosses" ["_law_body", "_law_cell"] spNCrosses) :
    FnOk P w K mg base CX0 3 f fd ["_law_pen_here", "_law_body", "_law_many", "_law_way"] spNGrown := by
  refine F.ok scNG (fun vs H Q E h => ?_) (fun cdv A0 outer s H vs Q E hr h => ?_)
  · obtain ⟨p, c, l, n, many, way, A, rfl, _⟩ := h
    rfl
  · obtain ⟨p, c, l, n, many, way, A, rfl, hp, cl, nA, gA, neA, lA, m16, hn, k⟩ := h
    have h64 := room64 hr
    obtain ⟨tl, htl, keyl⟩ := ng_tail (P := P) (w := w) (K := K) (mg := mg) (base := base) (f := f) (cdv := cdv) (A0 := A0) (outer := outer) (s := s) (H0 := H) (E := E) hr DP DC
    refine ⟨_, PSs.nox (pss_cons (ps_while PassesOwn.never (pt_cmpR op_lt (pe_callB call_len_seq (by rfl) B.len PySem.boot_len (pa_cons (pv 1) pa_nil)) (pv 2) (nomark _))
      (pss_cons (ps_set (i := 4) scNG.nd rfl (.inl rfl) (pe_lst pa_nil))
        (pss_cons (ps_for PassesOwn.never rfl (pi_list (pv 1)) (pg_name (i := 5) scNG.nd rfl (.inl rfl))
        (pss_one (ps_set (i := 4) scNG.nd rfl (.inl rfl) (pe_op op_cat (pv 4) (pe_lc (own := [("_law_cell", 6)]) (g := gName 6) rfl scNG.nd (pi_list (pe_df DB hr (by rfl) pass0 (pa_cons (pv 5) pa_nil))) (blkOk_by (N := ngN) (sc := defScope nGrown) (by decide +kernel)) (fun _ _ _ _ _ => pg_name (i := 6) scNG.nd rfl (Or.inl rfl)) (fun _ _ _ _ _ => (pts_one (pt_cmpR (op_outH h64) (pv 6) (pv 1) (by rfl)))) (fun _ _ _ _ _ => (pv 6)))))))
        (pss_cons (ps_set (i := 4) scNG.nd rfl (.inl rfl) (pe_callB (cr_sortedS rfl) (by rfl) B.sorted (by decide +kernel) (pa_cons (pe_callTy (cr_setOfT rfl h64) (by rfl) B.set (by decide +kernel) (pa_cons (pv 4) pa_nil)) pa_nil)))
        (pss_cons (ps_setLc (i := 7) (own := [("_law_cell", 6)]) (g := gName 6) (by rfl) scNG.nd rfl rfl (sw_true rfl rfl rfl (by decide +kernel)) (pi_list (pv 4)) (blkOk_by (N := ngN) (sc := defScope nGrown) (by decide +kernel)) (fun _ _ _ _ _ => pg_name (i := 6) scNG.nd rfl (Or.inl rfl)) (fun _ _ _ _ _ => (pts_one (pt_cmpR op_eq (pe_callB (call_lenX (K := K) rfl) (by rfl) B.len PySem.boot_len (pa_cons (pe_lc (own := [("_law_one", 8)]) (g := gName 8) rfl scNG.nd (pi_listX (K := K) rfl (pe_df DB hr (by rfl) pass0 (pa_cons (pv 6) pa_nil))) (blkOk_by (N := ngN) (sc := { kind := .function, names := [(".0", .local), ("_law_cell", .local), ("len", .globalImplicit), ("_law_nb_beside", .globalImplicit), ("_law_body", .cell)], isGenerator := false, isCoroutine := false }) (by decide +kernel)) (fun _ _ _ _ _ => pg_name (i := 8) scNG.nd rfl (Or.inl rfl)) (fun _ _ _ _ _ => (pts_one (pt_cmpR (op_inH h64) (pv 8) (pv 1) (by rfl)))) (fun _ _ _ _ _ => (pv 8))) pa_nil)) pe_int (nomark _)))) (fun _ _ _ _ _ => (pv 6)))
        (pss_cons (ps_set (i := 9) scNG.nd rfl (.inl rfl) (pe_ifExp (PW.pt (pw_and (pt_cmpR op_gt (pv 3) pe_int (nomark _)) (pw_and (pt_cmpR (op_neK (K := K) rfl h64) (pv 7) (pe_lst pa_nil) (nomark _)) (pw_and1 (pt_cmpR op_gt (pe_df DD hr (by rfl) pass0 (pa_cons (pv 0) (pa_cons pe_int pa_nil))) pe_int (nomark _)))))) (pv 7) (pv 4)))
        htl))))))
      (pss_one (ps_ret (pv 1)))), ?_⟩
    refine ⟨fun m σ G => ∃ (l : Addr) (n' : Nat) (L : List Cell) (v4 v5 v6 v7 v8 v9 v10 : Option V), m = many - L.length ∧ σ = [some (.ref p), some (.ref l), some (.int (many : Int)), some (.int way), v4, v5, v6, v7, v8, v9, v10] ∧ PenC G p c n' ∧ n' ≤ n + 2 * L.length ∧ Kp [p] H G ∧ CellsL G l L ∧ L.Nodup ∧ GrownP L ∧ L.length ≤ many ∧ (∀ a ∈ A, a ∈ L),
      ⟨_, l, n, A, none, none, none, none, none, none, none, rfl, rfl, hp, by omega, fun _ _ _ e => e, cl, nA, gA, lA, fun _ h => h⟩, ?_⟩
    rintro m σ G ⟨l, n', L, v4, v5, v6, v7, v8, v9, v10, rfl, rfl, hp1, hn1, kp1, cl1, nL, gL, lL, subA⟩
    obtain ⟨qs, el, pq⟩ := id cl1
    have lq : qs.length = L.length := Paired.length pq
    have neL : L ≠ [] := fun z => by
      obtain ⟨a, ha⟩ := List.exists_mem_of_ne_nil _ neA
      have := subA a ha
      rw [z] at this
      cases this
    refine ⟨_, rfl, l, _, rfl, .inl (SqL.of el), _, rfl, _, _, rfl, rfl, _, rfl, ?_⟩
    refine ite2 (fun h1 => ?_) (fun h1 => ?_)
    · have lt : L.length < many := by
        have := of_decide_eq_true h1
        rw [List.length_map, lq] at this
        omega
      refine ⟨fun σ' G' => ∃ m', m' < many - L.length ∧ _, fun _ _ h => h, ?_⟩
      refine ⟨Nat.zero_le _, fun l0 hl0 => ?_⟩
      have s0 := same_new (o := .lst []) hl0
      have e0 := upd_same (H := G) (a := l0) (o := .lst [])
      generalize upd G l0 (.lst []) = G0 at s0 e0
      refine ⟨_, rfl, l, rfl, ⟨_, SqL.of (s0 _ _ el)⟩, ?_⟩
      refine for_list (K := K) (a := l) (xs := qs.map V.ref) (fun j σ G1 => ∃ (l4 : Addr) (v5 v6 : Option V), σ = [some (.ref p), some (.ref l), some (.int (many : Int)), some (.int way), some (.ref l4), v5, v6, v7, v8, v9, v10] ∧ Same G G1 ∧ CellsL G1 l4 (rimL L (L.take j))) ⟨l0, v5, v6, rfl, s0, ⟨[], e0, .nil⟩⟩ (fun j σ G1 _ ⟨_, _, _, _, sm, _⟩ => SqL.of (sm _ _ el)) ?_ ?_
      · rintro j x σ G1 hj ⟨l4, v5, v6, rfl, sm, c4⟩
        rw [List.getElem?_map] at hj
        obtain ⟨q, hq, rfl⟩ := Option.map_eq_some_iff.mp hj
        obtain ⟨y, hy, ay⟩ := paired_get pq hq
        have ay : At G1 q y := ay.same sm
        have jL : j < L.length := (List.getElem?_eq_some_iff.mp hy).1
        obtain ⟨rs, e4, pr4⟩ := id c4
        have l4r : rs.length ≤ 4 * L.length := by
          rw [Paired.length pr4]
          have := rimL_len (A := L) (L.take j)
          rw [List.length_take] at this
          omega
        refine ⟨_, rfl, _, rfl, q, y, rfl, ay, fun lb G2 s2 hlb cb => ?_⟩
        obtain ⟨bs, eb, pb⟩ := cb
        have lbs : bs.length = 4 := Paired.length pb
        refine ⟨lb, rfl, ⟨_, SqL.of eb⟩, fun D hD => ?_⟩
        refine lc_cells (walk_list (K := K) (a := lb) (xs := bs.map V.ref)) hD (fun i => ((nbC y).take i).filter fun x => !decide (x ∈ L)) rfl (by rw [List.length_map]; omega) (fun i G3 _ sm3 => SqL.of (sm3 _ _ eb)) ?_ ?_
        · rintro i x G3 G3' K1 K0 hi sm3 ⟨rfl, hx⟩ k1 k0
          rw [List.getElem?_map] at hx
          obtain ⟨b, hb, rfl⟩ := Option.map_eq_some_iff.mp hx
          obtain ⟨d, hd, ad⟩ := paired_get pb hb
          have ad : At G3' b d := ad.same sm3
          have sn := take_snoc hd
          refine ⟨rfl, _, rfl, _, rfl, b, l, d, L, rfl, rfl, ad, cl1.ek (.of ((sm.trans s2).trans sm3)), _, rfl, ?_⟩
          refine ite2 (fun h2 => ?_) (fun h2 => ?_)
          · exact ⟨_, rfl, k1 b d _ same_refl ad (by rw [sn, filter_snoc, if_pos h2])⟩
          · exact k0 _ same_refl (by rw [sn, filter_snoc, if_neg h2, List.append_nil])
        intro G3 ds sm3 eD prd
        rw [List.length_map, lbs] at prd
        have prd : Paired (fun q c => At G3 q c) ds ((nbC y).filter fun x => !decide (x ∈ L)) := prd
        have ld : ds.length ≤ 4 := by
          rw [Paired.length prd]
          exact List.length_filter_le _ _
        have s23 := s2.trans sm3
        refine ⟨l4, D, _, _, rfl, rfl, s23 _ _ e4, eD, by rw [List.length_map, List.length_map, sizeLine_eq]; omega, fun l5 hl5 => ?_⟩
        have s5 := same_new (o := .lst (rs.map V.ref ++ ds.map V.ref)) hl5
        refine ⟨l5, _, _, rfl, (sm.trans s23).trans s5, rs ++ ds, by rw [upd_same, List.map_append], ?_⟩
        rw [take_snoc hy, rimL_snoc]
        exact paired_app (paired_imp (fun _ _ h => (At.same h s23).same s5) pr4) (paired_imp (fun _ _ h => At.same h s5) prd)
      rintro σ G1 ⟨l4, v5, v6, rfl, sm, c4⟩
      rw [List.length_map, lq, List.take_length] at c4
      obtain ⟨rs, e4, pr4⟩ := id c4
      have lrs : rs.length ≤ 60 := by
        rw [Paired.length pr4, rimL_eq]
        have := rimN_p gL nL
        omega
      obtain ⟨ks, ek, k1, k2⟩ := ks_of pr4
      have lks : ks.length = rs.length := by rw [← ek, List.length_map]
      refine ⟨_, rfl, l4, ks, rfl, SqL.of (by rw [e4]; congr 2; rw [show (ks.map fun p => V.ref p.1) = (ks.map (·.1)).map V.ref from by rw [List.map_map]; rfl, ek]), fun q hq => ?_, by omega, fun sa L0 hsa subL allL => ?_⟩
      · obtain ⟨c, _, ac, e⟩ := k1 q hq
        rw [e]
        exact SqT.of ac
      have u1 := same_new (o := SetTO P w sa L0) hsa
      obtain ⟨cs, pcs⟩ := cs_of (H := upd G1 sa (SetTO P w sa L0)) (L := L0) fun q hq => by
        obtain ⟨c, _, ac, e⟩ := k1 q (subL q hq)
        exact ⟨c, u1 _ _ ac, e⟩
      have mem : ∀ c, c ∈ cs ↔ RingC L c := fun c => by
        rw [← rimL_mem]
        constructor
        · intro hc
          obtain ⟨q, hq, aq, e⟩ := paired_memR pcs c hc
          obtain ⟨d, hd, ad, e2⟩ := k1 q (subL q hq)
          rw [e] at e2
          rw [pair_inj e2]
          exact hd
        · intro hc
          obtain ⟨q, hq, e⟩ := k2 c hc
          obtain ⟨q', hq', e'⟩ := List.mem_map.mp (allL q hq)
          obtain ⟨i, hi⟩ := List.mem_iff_getElem?.mp hq'
          obtain ⟨d, hd, _, e3⟩ := paired_get pcs hi
          have : c = d := pair_inj (e.symm.trans (e'.symm.trans e3))
          rw [this]
          exact List.mem_of_getElem? hd
      refine ⟨sa, L0, cs, rfl, upd_same, pcs, fun nd so qs' cs' prq pm asc hso => ?_⟩
      have u2 := same_new (o := .lst (qs'.map V.ref)) hso
      have es := upd_same (H := upd G1 sa (SetTO P w sa L0)) (a := so) (o := .lst (qs'.map V.ref))
      have prs : Paired (fun q c => At (upd (upd G1 sa (SetTO P w sa L0)) so (.lst (qs'.map V.ref))) q c) qs' cs' := paired_imp (fun x y (h : At _ x y) => u2 _ _ h) prq
      have sB := sm.trans (u1.trans u2)
      have memS : ∀ c, c ∈ cs' → RingC L c := fun c hc => (mem c).mp (pm.mem_iff.mp hc)
      have neS : cs' ≠ [] := fun z => by
        obtain ⟨s, hs, d, hd, nd⟩ := out_ex neL
        have := pm.mem_iff.mpr ((mem d).mpr ⟨nd, s, hs, hd⟩)
        rw [z] at this
        cases this
      have lcs' : cs'.length ≤ 1000 := by
        have h1 := len_le nd (ys := rimL L L) fun x hx => rimL_mem.mpr ((mem x).mp hx)
        have h2 := rimL_len (A := L) L
        rw [pm.length_eq]
        omega
      have lqs' : qs'.length = cs'.length := Paired.length prs
      have cl2 := cl1.ek (.of sB)
      -- the lonely ones
      refine ⟨_, rfl, so, rfl, ⟨_, SqL.of es⟩, fun D1 hD1 => ?_⟩
      refine lc_kindC (walk_list (K := K) (a := so) (xs := qs'.map V.ref)) hD1 (fun x => x ∈ cs') (by rw [List.length_map]; omega) (fun i G3 _ sm3 => SqL.of (sm3 _ _ es)) ?_ ?_
      · rintro i x G3 G4 K1 K0 hi sm3 ⟨rfl, hx⟩ k1 k0
        rw [List.getElem?_map] at hx
        obtain ⟨q, hq, rfl⟩ := Option.map_eq_some_iff.mp hx
        obtain ⟨d, hd, ad⟩ := paired_get prs hq
        have ad : At G4 q d := ad.same sm3
        refine ⟨rfl, _, rfl, q, d, rfl, ad, fun lb G5 s5 hlb cb => ?_⟩
        obtain ⟨bs, eb, pb⟩ := cb
        have lbs : bs.length = 4 := Paired.length pb
        refine ⟨lb, rfl, ⟨_, SqL.of eb⟩, fun D2 hD2 => ?_⟩
        refine lc_kindC (walk_list (K := K) (a := lb) (xs := bs.map V.ref)) hD2 (fun _ => True) (by rw [List.length_map]; omega) (fun i G6 _ sm6 => SqL.of (sm6 _ _ eb)) ?_ ?_
        · rintro j x G6 G7 K3 K2 hj sm6 ⟨rfl, hx2⟩ k3 k2
          rw [List.getElem?_map] at hx2
          obtain ⟨b, hb, rfl⟩ := Option.map_eq_some_iff.mp hx2
          obtain ⟨e, he, ae⟩ := paired_get pb hb
          have ae : At G7 b e := ae.same sm6
          refine ⟨rfl, _, rfl, _, rfl, b, l, e, L, rfl, rfl, ae, cl2.ek (.of ((sm3.trans s5).trans sm6)), _, rfl, ?_⟩
          exact ite2 (fun _ => ⟨_, rfl, k3 b e _ same_refl ae trivial⟩) (fun _ => k2 _ same_refl)
        intro G6 ds es6 sm6 eD2 _ _ _
        refine ⟨D2, _, rfl, .inl (SqL.of eD2), rfl, _, rfl, ?_⟩
        exact ite2 (fun _ => ⟨_, rfl, k1 q d _ (s5.trans sm6) ((ad.same s5).same sm6) (List.mem_of_getElem? hd)⟩) (fun _ => k0 _ (s5.trans sm6))
      intro G3 ds xs s3 e3 prx subx lx
      have sC := sB.trans s3
      have hp3 := hp1.same sC
      have cl3 := cl2.ek (.of s3)
      have cs3 : CellsL G3 so cs' := ⟨qs', s3 _ _ es, paired_imp (fun _ _ h => At.same h s3) prs⟩
      have lxs : xs.length ≤ 1000 := by rw [List.length_map] at lx; omega
      -- the rest of the turn
      have rest : ∀ (G4 : Hp) (so2 : Addr) (ss : List Cell) (n2 : Nat), PenC G4 p c n2 → n2 ≤ n' + 1 → Kp [p] G G4 → CellsL G4 l L → CellsL G4 so2 ss → ss ≠ [] → ss.length ≤ 1000 → (∀ x ∈ ss, RingC L x) → ∀ (D : Ends), (∀ (l2 : Addr) (n3 : Nat) (L2 : List Cell) (w4 w5 w6 w7 w8 w9 w10 : Option V) (G5 : Hp), PenC G5 p c n3 → n3 ≤ n + 2 * L2.length → Kp [p] H G5 → CellsL G5 l2 L2 → L2.Nodup → GrownP L2 → L2.length = L.length + 1 → (∀ a ∈ A, a ∈ L2) → D.nx [some (.ref p), some (.ref l2), some (.int (many : Int)), some (.int way), w4, w5, w6, w7, w8, w9, w10] G5) → ∀ v4 v5 v6 v7 v8 v10, tl D [some (.ref p), some (.ref l), some (.int (many : Int)), some (.int way), v4, v5, v6, v7, v8, some (.ref so2), v10] G4 := fun G4 so2 ss n2 hp4 hn4 kp4 cl4 cs4 ne4 l4 ring D kD v4 v5 v6 v7 v8 v10 => by
        refine keyl D G4 p c l so2 n2 many way v4 v5 v6 v7 v8 v10 L ss hp4 (by omega) cl4 (by omega) cs4 ne4 l4 fun l2 G5 x w4 w5 w6 w7 w8 w9 w10 hp5 kp5 hx cl5 => ?_
        obtain ⟨nx, y, hy, hb⟩ := ring x hx
        refine kD l2 _ (L ++ [x]) _ _ _ _ _ _ _ G5 hp5 (by rw [List.length_append]; show n2 + 1 ≤ n + 2 * (L.length + 1); omega) ((kp1.trans kp4).trans kp5) cl5 (nodup_snoc nL nx) (gL.snoc hy hb) (by rw [List.length_append]; rfl) fun a ha => List.mem_append_left _ (subA a ha)
      have kDn : ∀ (l2 : Addr) (n3 : Nat) (L2 : List Cell) (w4 w5 w6 w7 w8 w9 w10 : Option V) (G5 : Hp), PenC G5 p c n3 → n3 ≤ n + 2 * L2.length → Kp [p] H G5 → CellsL G5 l2 L2 → L2.Nodup → GrownP L2 → L2.length = L.length + 1 → (∀ a ∈ A, a ∈ L2) → ∃ m', m' < many - L.length ∧ ∃ (l : Addr) (n' : Nat) (L : List Cell) (v4 v5 v6 v7 v8 v9 v10 : Option V), m' = many - L.length ∧ [some (V.ref p), some (.ref l2), some (.int (many : Int)), some (.int way), w4, w5, w6, w7, w8, w9, w10] = [some (.ref p), some (.ref l), some (.int (many : Int)), some (.int way), v4, v5, v6, v7, v8, v9, v10] ∧ PenC G5 p c n' ∧ n' ≤ n + 2 * L.length ∧ Kp [p] H G5 ∧ CellsL G5 l L ∧ L.Nodup ∧ GrownP L ∧ L.length ≤ many ∧ (∀ a ∈ A, a ∈ L) := fun l2 n3 L2 w4 w5 w6 w7 w8 w9 w10 G5 h1 h2 h3 h4 h5 h6 h7 h8 => ⟨_, by omega, l2, n3, L2, w4, w5, w6, w7, w8, w9, w10, rfl, rfl, h1, h2, h3, h4, h5, h6, by omega, h8⟩
      refine ⟨_, rfl, _, _, rfl, rfl, _, rfl, ?_⟩
      refine ite2 (fun h2 => ?_) (fun h2 => ?_)
      · refine ⟨_, rfl, Nat.zero_le _, fun l6 hl6 => ?_⟩
        have s6 := same_new (o := .lst []) hl6
        refine ⟨.list (xs.map cD), .list [], .lst (SqL.of (s6 _ _ e3)) (cells_dps (paired_imp (fun _ _ h => At.same h s6) prx)), .lst (SqL.of upd_same) .nil, (lay_list (n := 1) fun d hd => by
          obtain ⟨z, _, rfl⟩ := List.mem_map.mp hd
          exact lay_cellH z).shaped (by decide), (lay_list (n := 0) (ds := []) (by simp)).shaped (by decide), _, rfl, ?_⟩
        rw [eqv_nilD]
        have sD := sC.trans s6
        refine ite2 (fun h3 => ?_) (fun h3 => ?_)
        · have nex : xs ≠ [] := fun z => by rw [z] at h3; exact absurd h3 (by simp)
          have hp6 := hp3.same s6
          refine ⟨_, rfl, p, c, n', 6, rfl, hp6, by decide, by decide, by omega, fun r G7 r0 r1 hp7 hb7 => ?_⟩
          have k7 := kp_pick hb7
          have ek7 := pen_ek hp6.at k7
          refine ⟨_, _, rfl, rfl, _, rfl, ?_⟩
          refine ite2 (fun _ => ?_) (fun _ => ?_)
          · exact ⟨_, rfl, rest G7 D1 xs (n' + 1) hp7 (Nat.le_refl _) ((Kp.of sD).trans k7) ((cl3.ek (.of s6)).ek ek7) (CellsL.ek ⟨ds, s6 _ _ e3, paired_imp (fun _ _ h => At.same h s6) prx⟩ ek7) nex lxs (fun x hx => memS x (subx x hx)) _ kDn _ _ _ _ _ _⟩
          · exact ⟨_, rfl, rest G7 so cs' (n' + 1) hp7 (Nat.le_refl _) ((Kp.of sD).trans k7) ((cl3.ek (.of s6)).ek ek7) ((cs3.ek (.of s6)).ek ek7) neS lcs' memS _ kDn _ _ _ _ _ _⟩
        · exact ⟨_, rfl, rest _ so cs' n' (hp3.same s6) (Nat.le_succ _) (Kp.of sD) (cl3.ek (.of s6)) (cs3.ek (.of s6)) neS lcs' memS _ kDn _ _ _ _ _ _⟩
      · exact ⟨_, rfl, rest G3 so cs' n' hp3 (Nat.le_succ _) (Kp.of sC) cl3 cs3 neS lcs' memS _ kDn _ _ _ _ _ _⟩
    · have e : L.length = many := by
        refine Nat.le_antisymm lL (Nat.le_of_not_lt fun z => h1 (decide_eq_true ?_))
        rw [List.length_map, lq]
        omega
      exact ⟨_, rfl, k l G L n' hp1 (by omega) kp1 cl1 nL gL e subA⟩
end
end Sq

set_option Elab.async false
set_option linter.all false
set_option maxRecDepth 100000
set_option maxHeartbeats 8000000
/-! Shapes one move away; layers of shapes. -/
namespace Sq
open PySem PySem.Spec PyProof.Rows L2
theorem bD_dps {K : PySem.W.Frag} {H : Hp} : ∀ {ts : List Addr} {Cs : List (List Cell)}, Paired (fun t p => CellsT H t p) ts Cs → DpAll K H (ts.map V.ref) (Cs.map bD)
  | _, _, .nil => .nil
  | _, _, .cons h t => .cons h.dp (bD_dps t)
theorem CellsTT.dp {K : PySem.W.Frag} {H : Hp} {t : Addr} {Cs : List (List Cell)} (h : CellsTT H t Cs) : Dp K H (.ref t) (.tuple (Cs.map bD)) := by
  obtain ⟨ts, e, pr⟩ := h
  exact .tup (SqT.of e) (bD_dps pr)
theorem CellsTT.ek {H G : Hp} {t : Addr} {Cs : List (List Cell)} (h : CellsTT H t Cs) (k : Ek H G) : CellsTT G t Cs := by
  obtain ⟨ts, e, pr⟩ := h
  exact ⟨ts, k.tup e, paired_imp (fun _ _ h => h.ek k) pr⟩
/-- the shape behind a move -/
def behC (B : List Cell) (s e : Cell) : List Cell := shp (without B s ++ [e])
def StepB (B C : List Cell) : Prop := ∃ s e, kindV B s e ≠ .non ∧ C = behC B s e
theorem hangs_grown : ∀ (n : Nat) {L : List Cell}, L.length = n → Hangs L → L.Nodup → ∃ A : List Cell, A.Perm L ∧ Grown A
  | 0, L, l, h, _ => absurd (List.length_eq_zero_iff.mp l) h.1
  | 1, L, l, h, _ => by
    match L, l with
    | [a], _ => exact ⟨[a], .refl _, fun i b hb => by simp at hb⟩
  | n + 2, L, l, h, nL => by
    obtain ⟨a, b, ha, hb, ne, h1, _⟩ := two_free nL h (by omega)
    have nW : (without L a).Nodup := nL.filter _
    have lW : (without L a).length = n + 1 := by
      have p : (a :: without L a).Perm L := by
        refine (List.perm_ext_iff_of_nodup (List.nodup_cons.mpr ⟨fun m => (mem_without.mp m).2 rfl, nW⟩) nL).mpr fun x => ?_
        rw [List.mem_cons, mem_without]
        constructor
        · rintro (rfl | z)
          · exact ha
          · exact z.1
        · intro z
          by_cases e : x = a
          · exact .inl e
          · exact .inr ⟨z, e⟩
      have := p.length_eq
      rw [List.length_cons] at this
      omega
    obtain ⟨A, pA, gA⟩ := hangs_grown (n + 1) lW h1 nW
    obtain ⟨y, yL, yb⟩ := near_ex h ha hb (Ne.symm ne)
    have yA : y ∈ A := pA.mem_iff.mpr (mem_without.mpr ⟨yL, beside_ne yb⟩)
    refine ⟨A ++ [a], (List.perm_ext_iff_of_nodup (nodup_snoc (pA.nodup_iff.mpr nW) fun m => (mem_without.mp (pA.mem_iff.mp m)).2 rfl) nL).mpr fun x => ?_, gA.snoc yA (beside_symm yb)⟩
    rw [List.mem_append, pA.mem_iff, mem_without, List.mem_singleton]
    constructor
    · rintro (z | rfl)
      · exact z.1
      · exact ha
    · intro z
      by_cases e : x = a
      · exact .inr e
      · exact .inl ⟨z, e⟩
theorem hangs_shape {L : List Cell} (h : Hangs L) (nL : L.Nodup) : IsShape L.length (shp L) := by
  obtain ⟨A, pA, gA⟩ := hangs_grown L.length rfl h nL
  have ne : A ≠ [] := fun z => h.1 (by rw [z] at pA; exact pA.symm.eq_nil)
  have := grown_shape A.length rfl gA (pA.nodup_iff.mpr nL) ne
  rw [pA.length_eq, shp_perm pA] at this
  exact this
/-- what stands behind a move, as a body -/
theorem behind_ok {B : List Cell} {s e : Cell} (k : kindV B s e ≠ .non) (nB : B.Nodup) : (without B s ++ [e]).Nodup ∧ (without B s ++ [e]).length = B.length ∧ Hangs (without B s ++ [e]) := by
  obtain ⟨k1, k2⟩ := kind_ne.mp k
  have I := byPlace_is k1
  have nW : (without B s).Nodup := nB.filter _
  have ne : e ∉ without B s := fun m => I.eL (mem_without.mp m).1
  obtain ⟨a, ha, hb⟩ := I.near
  refine ⟨nodup_snoc nW ne, ?_, hangs_snocX (hangsB_iff.mp k2) ha hb⟩
  have p : (s :: without B s).Perm B := by
    refine (List.perm_ext_iff_of_nodup (List.nodup_cons.mpr ⟨fun m => (mem_without.mp m).2 rfl, nW⟩) nB).mpr fun x => ?_
    rw [List.mem_cons, mem_without]
    constructor
    · rintro (rfl | z)
      · exact I.sL
      · exact z.1
    · intro z
      by_cases e : x = s
      · exact .inl e
      · exact .inr ⟨z, e⟩
  have := p.length_eq
  rw [List.length_cons] at this
  rw [List.length_append]
  exact this
theorem step_shape {n : Nat} {B C : List Cell} (h : IsShape n B) (k : StepB B C) : IsShape n C := by
  obtain ⟨s, e, k, rfl⟩ := k
  obtain ⟨h1, h2, h3⟩ := behind_ok k h.nd
  have := hangs_shape h3 h1
  rw [h2, h.len] at this
  exact this
/-- the layers from a layer on, what is met told -/
inductive LayF : List (List Cell) → List (List Cell) → List (List (List Cell)) → Prop
  | stop {met layer : List (List Cell)} : (∀ C, (∃ B ∈ layer, StepB B C) → C ∈ met) → LayF met layer [layer]
  | go {met layer met' new : List (List Cell)} {Ls : List (List (List Cell))} : new ≠ [] → new.Nodup → new.Pairwise bLe → (∀ C, C ∈ new ↔ (∃ B ∈ layer, StepB B C) ∧ C ∉ met) → (∀ C, C ∈ met' ↔ C ∈ met ∨ C ∈ new) → LayF met' new Ls → LayF met layer (layer :: Ls)
theorem LayF.uniq {met layer : List (List Cell)} {Ls : List (List (List Cell))} (h : LayF met layer Ls) : ∀ {met2 : List (List Cell)} {Ms : List (List (List Cell))}, (∀ C, C ∈ met ↔ C ∈ met2) → LayF met2 layer Ms → Ls = Ms := by
  induction h with
  | @stop met layer st =>
    intro met2 Ms em k
    cases k with
    | stop _ => rfl
    | @go _ _ _ new _ ne _ _ hn _ _ =>
      obtain ⟨C, hC⟩ := List.exists_mem_of_ne_nil _ ne
      obtain ⟨h1, h2⟩ := (hn C).mp hC
      exact absurd ((em C).mp (st C h1)) h2
  | @go met layer met' new Ls ne nd pw hn hm _ ih =>
    intro met2 Ms em k
    cases k with
    | stop st =>
      obtain ⟨C, hC⟩ := List.exists_mem_of_ne_nil _ ne
      obtain ⟨h1, h2⟩ := (hn C).mp hC
      exact absurd ((em C).mpr (st C h1)) h2
    | @go _ _ met3 new2 Ks ne2 nd2 pw2 hn2 hm2 k2 =>
      obtain rfl : new = new2 := bs_same nd nd2 pw pw2 fun C => by rw [hn, hn2, em]
      rw [ih (met2 := met3) (fun C => by rw [hm, hm2, em]) k2]
/-- everything that is met -/
theorem LayF.all {met layer : List (List Cell)} {Ls : List (List (List Cell))} (h : LayF met layer Ls) : (∀ B ∈ layer, B ∈ met) → (∀ B ∈ met, B ∉ layer → ∀ C, StepB B C → C ∈ met) → ∀ B, (B ∈ met ∨ ∃ L ∈ Ls, B ∈ L) → ∀ C, StepB B C → C ∈ met ∨ ∃ L ∈ Ls, C ∈ L := by
  induction h with
  | @stop met layer st =>
    intro sub cl B hB C k
    have hB : B ∈ met := hB.elim id fun ⟨L, hL, h⟩ => sub B (by rw [List.mem_singleton.mp hL] at h; exact h)
    by_cases m : B ∈ layer
    · exact .inl (st C ⟨B, m, k⟩)
    · exact .inl (cl B hB m C k)
  | @go met layer met' new Ls ne nd pw hn hm _ ih =>
    intro sub cl B hB C k
    have r := ih (fun B hB => (hm B).mpr (.inr hB)) (fun B hB nB C k => by
      rcases (hm B).mp hB with h | h
      · by_cases m : B ∈ layer
        · by_cases mC : C ∈ met
          · exact (hm C).mpr (.inl mC)
          · exact (hm C).mpr (.inr ((hn C).mpr ⟨⟨B, m, k⟩, mC⟩))
        · exact (hm C).mpr (.inl (cl B h m C k))
      · exact absurd h nB) B (by
      rcases hB with h | ⟨L, hL, h⟩
      · exact .inl ((hm B).mpr (.inl h))
      · rcases List.mem_cons.mp hL with e | e
        · rw [e] at h
          exact .inl ((hm B).mpr (.inl (sub B h)))
        · exact .inr ⟨L, e, h⟩) C k
    rcases r with h | ⟨L, hL, h⟩
    · rcases (hm C).mp h with h | h
      · exact .inl h
      · refine .inr ?_
        rename_i lf _
        cases lf with
        | stop _ => exact ⟨new, List.mem_cons_of_mem _ (List.mem_singleton.mpr rfl), h⟩
        | go _ _ _ _ _ _ => exact ⟨new, List.mem_cons_of_mem _ (List.mem_cons_self ..), h⟩
    · exact .inr ⟨L, List.mem_cons_of_mem _ hL, h⟩
/-- each layer's bodies are new, and of one kind -/
theorem LayF.each {n : Nat} {met layer : List (List Cell)} {Ls : List (List (List Cell))} (h : LayF met layer Ls) : (∀ B ∈ layer, IsShape n B) → layer.Nodup → (∀ B ∈ layer, B ∈ met) → (∀ L ∈ Ls, L.Nodup ∧ ∀ B ∈ L, IsShape n B) ∧ (∀ L ∈ Ls.drop 1, ∀ B ∈ L, B ∉ met) ∧ Ls.Pairwise (fun L M => ∀ B ∈ M, B ∉ L) := by
  induction h with
  | @stop met layer st =>
    intro h1 h2 _
    exact ⟨fun L hL => by rw [List.mem_singleton.mp hL]; exact ⟨h2, h1⟩, fun L hL => (nomatch hL), List.pairwise_singleton _ _⟩
  | @go met layer met' new Ls ne nd pw hn hm lf ih =>
    intro h1 h2 h3
    have hnew : ∀ B ∈ new, IsShape n B := fun B hB => by
      obtain ⟨⟨A, hA, k⟩, _⟩ := (hn B).mp hB
      exact step_shape (h1 A hA) k
    obtain ⟨q1, q2, q3⟩ := ih hnew nd fun B hB => (hm B).mpr (.inr hB)
    have q4 : ∀ L ∈ Ls, ∀ B ∈ L, B ∉ met := fun L hL B hB m => by
      have : L = new ∨ L ∈ Ls.drop 1 := by
        cases lf with
        | stop _ => exact .inl (List.mem_singleton.mp hL)
        | go _ _ _ _ _ _ => exact (List.mem_cons.mp hL).imp id id
      rcases this with rfl | z
      · exact ((hn B).mp hB).2 m
      · exact q2 L z B hB ((hm B).mpr (.inl m))
    refine ⟨fun L hL => ?_, q4, List.pairwise_cons.mpr ⟨fun M hM B hB m => q4 M hM B hB (h3 B m), q3⟩⟩
    rcases List.mem_cons.mp hL with rfl | z
    · exact ⟨h2, h1⟩
    · exact q1 L z
/-! ### there are finitely many shapes -/
end Sq

set_option Elab.async false
set_option linter.all false
set_option maxRecDepth 100000
set_option maxHeartbeats 8000000
/-! Shapes of up to six squares: moves lead from each to each. -/
namespace Sq
open PySem PySem.Spec PyProof.Rows L2
/-- steps lead from B to C -/
inductive StarB : List Cell → List Cell → Prop
  | refl {B : List Cell} : StarB B B
  | step {B C D : List Cell} : StepB B C → StarB C D → StarB B D
theorem StarB.trans {B C D : List Cell} (h : StarB B C) (k : StarB C D) : StarB B D := by
  induction h with
  | refl => exact k
  | step h1 _ ih => exact .step h1 (ih k)
end Sq

set_option Elab.async false
set_option linter.all false
set_option maxRecDepth 100000
set_option maxHeartbeats 8000000
/-! The bodies that are met while a layer is gone through. -/
namespace Sq
open PySem PySem.Spec PyProof.Rows L2
theorem nodup_snocB {S : List (List Cell)} {c : List Cell} (h : S.Nodup) (n : c ∉ S) : (S ++ [c]).Nodup := List.nodup_append.mpr ⟨h, List.pairwise_singleton _ _, fun a ha b hb z => n (List.mem_singleton.mp hb ▸ z ▸ ha)⟩
/-- what is met, and new, so far in a turn -/
structure GmI (P : Program) (w : World) (Ts : List Addr) (D A : Addr) (n : Nat) (M0 : List (List Cell)) (dn : List Cell → Prop) (G0 G : Hp) : Prop where
  kp : Kp (D :: A :: Ts) G0 G
  tg : TabsG Ts G
  ex : ∃ E Ms Fs, BDc P w G D E Ms ∧ Ms.Nodup ∧ (∀ B, B ∈ Ms ↔ B ∈ M0 ∨ dn B) ∧ CellsLL G A Fs ∧ Fs.Nodup ∧ (∀ B, B ∈ Fs ↔ dn B ∧ B ∉ M0)
  sh : ∀ B, dn B → IsShape n B
theorem dn_get {P : Program} {w : World} {Ts : List Addr} {H G : Hp} {a : Addr} {E : List NEnt} (h : DN P w H a E) (k : KT Ts H G) : DN P w G a E := by
  rcases h with e | ⟨z, e⟩
  · exact .inl (k.get e fun ps y => by cases y)
  · exact .inr ⟨z, k.get e fun ps y => by cases y⟩
theorem BDc.kt {P : Program} {w : World} {Ts : List Addr} {H G : Hp} {a : Addr} {E : List NEnt} {Bs : List (List Cell)} (h : BDc P w H a E Bs) (k : KT Ts H G) : BDc P w G a E Bs := ⟨dn_get h.1 k, paired_imp (fun _ _ ⟨c, e⟩ => ⟨c.ek k.ek, e⟩) h.2⟩
section
variable {P : Program} {w : World} {K : PySem.W.Frag} {Ts : List Addr} {D A : Addr} {n : Nat} {M0 : List (List Cell)} {dn dm : List Cell → Prop} {G0 G G' : Hp}
theorem GmI.kt (I : GmI P w Ts D A n M0 dn G0 G) (k : KT Ts G G') : GmI P w Ts D A n M0 dn G0 G' := by
  obtain ⟨E, Ms, Fs, h1, h2, h3, h4, h5⟩ := I.ex
  exact ⟨I.kp.trans (k.kp.mono fun b hb => List.mem_cons_of_mem _ (List.mem_cons_of_mem _ hb)), k.tb', ⟨E, Ms, Fs, h1.kt k, h2, h3, h4.ek k.ek, h5⟩, I.sh⟩
theorem GmI.weak (I : GmI P w Ts D A n M0 dn G0 G) (k : ∀ B, dn B ↔ dm B) : GmI P w Ts D A n M0 dm G0 G := by
  obtain ⟨E, Ms, Fs, h1, h2, h3, h4, h5, h6⟩ := I.ex
  exact ⟨I.kp, I.tg, ⟨E, Ms, Fs, h1, h2, fun B => (h3 B).trans (or_congr_right (k B)), h4, h5, fun B => (h6 B).trans (and_congr_left' (k B))⟩, fun B hB => I.sh B ((k B).mpr hB)⟩
/-- nothing new -/
theorem GmI.old (I : GmI P w Ts D A n M0 dn G0 G) {C : List Cell} {E : List NEnt} {Ms : List (List Cell)} (h : BDc P w G D E Ms) (hM : ∀ B, B ∈ Ms ↔ B ∈ M0 ∨ dn B) (hC : IsShape n C) (m : C ∈ Ms) : GmI P w Ts D A n M0 (fun B => dn B ∨ B = C) G0 G := by
  obtain ⟨E, Ms, Fs, h1, h2, h3, h4, h5, h6⟩ := I.ex
  have m := (hM C).mp m
  refine ⟨I.kp, I.tg, ⟨E, Ms, Fs, h1, h2, fun B => (h3 B).trans ⟨fun z => z.imp id .inl, fun z => ?_⟩, h4, h5, fun B => (h6 B).trans ⟨fun z => ⟨.inl z.1, z.2⟩, fun z => ?_⟩⟩, fun B hB => hB.elim (I.sh B) fun e => e ▸ hC⟩
  · rcases z with z | z | rfl
    · exact .inl z
    · exact .inr z
    · exact m
  · rcases z with ⟨z | rfl, y⟩
    · exact ⟨z, y⟩
    · exact ⟨m.resolve_left y, y⟩
/-- one that is new -/
theorem GmI.new (I : GmI P w Ts D A n M0 dn G0 G) (nDA : D ≠ A) {r : Addr} {C : List Cell} {E : List NEnt} {Ms Fs : List (List Cell)} {v : V} {fs : List Addr} (h : BDc P w G D E Ms) (ndM : Ms.Nodup) (hM : ∀ B, B ∈ Ms ↔ B ∈ M0 ∨ dn B) (eA : G A = some (.lst (fs.map V.ref))) (pF : Paired (fun t p => CellsT G t p) fs Fs) (ndF : Fs.Nodup) (hF : ∀ B, B ∈ Fs ↔ dn B ∧ B ∉ M0) (hC : IsShape n C) (nm : C ∉ Ms) (cr : CellsT G r C) :
    upd G D (DNO P w D (putN E r (keyB C) v)) A = some (.lst (fs.map V.ref)) ∧ GmI P w Ts D A n M0 (fun B => dn B ∨ B = C) G0 (upd (upd G D (DNO P w D (putN E r (keyB C) v))) A (.lst (fs.map V.ref ++ [V.ref r]))) := by
  have eD : ∃ u, G D = some u ∧ (∀ xs, u ≠ .tup xs) ∧ ∀ ps, u ≠ .tbl ps := by
    rcases h.1 with e | ⟨_, e⟩
    · exact ⟨_, e, (fun xs z => nomatch z), fun xs z => nomatch z⟩
    · exact ⟨_, e, (fun xs z => nomatch z), fun xs z => nomatch z⟩
  obtain ⟨u, eD, nu, nt⟩ := eD
  have hb := h.put (v := v) cr
  have t1 : Tk G (upd G D (DNO P w D (putN E r (keyB C) v))) := tk_upd eD nu
  have e1 : upd G D (DNO P w D (putN E r (keyB C) v)) A = some (.lst (fs.map V.ref)) := by rw [upd_ne (Ne.symm nDA)]; exact eA
  have kp1 : Kp (D :: A :: Ts) G (upd G D (DNO P w D (putN E r (keyB C) v))) := fun b o n2 e => by
    have nb : b ≠ D := fun z => n2 (by rw [z]; exact List.mem_cons_self ..)
    rw [upd_ne nb]
    exact e
  have tg1 : TabsG Ts (upd G D (DNO P w D (putN E r (keyB C) v))) := fun T hT => by
    obtain ⟨ps, e, t⟩ := I.tg T hT
    exact ⟨ps, by rw [upd_ne (fun z => by rw [z, eD] at e; exact nt ps (Option.some.inj e))]; exact e, t⟩
  generalize upd G D (DNO P w D (putN E r (keyB C) v)) = G1 at hb t1 e1 kp1 tg1
  refine ⟨e1, ?_⟩
  have t2 : Tk G1 (upd G1 A (.lst (fs.map V.ref ++ [V.ref r]))) := tk_upd e1 fun xs z => nomatch z
  have eDA : upd G1 A (.lst (fs.map V.ref ++ [V.ref r])) D = G1 D := upd_ne nDA
  refine ⟨I.kp.trans (kp1.trans fun b o n2 e => ?_), fun T hT => ?_, ⟨_, _, Fs ++ [C], hb.tk t2 eDA, putB_nd ndM, fun B => ?_, ⟨fs ++ [r], by rw [upd_same, List.map_append]; rfl, ?_⟩, nodup_snocB ndF fun m => nm ((hM C).mpr (.inr ((hF C).mp m).1)), fun B => ?_⟩, fun B hB => hB.elim (I.sh B) fun e => e ▸ hC⟩
  · have nb : b ≠ A := fun z => n2 (by rw [z]; exact List.mem_cons_of_mem _ (List.mem_cons_self ..))
    rw [upd_ne nb]
    exact e
  · obtain ⟨ps, e, t⟩ := tg1 T hT
    exact ⟨ps, by rw [upd_ne (fun z => by rw [z, e1] at e; cases e)]; exact e, t⟩
  · rw [putB_mem, hM]
    exact or_assoc
  · exact (paired_imp (fun _ _ h => cellsT_tu (cellsT_tu h t1) t2) pF).snoc (cellsT_tu (cellsT_tu cr t1) t2)
  · rw [List.mem_append, List.mem_singleton, hF]
    constructor
    · rintro (z | rfl)
      · exact ⟨.inl z.1, z.2⟩
      · exact ⟨.inr rfl, fun m => nm ((hM _).mpr (.inl m))⟩
    · rintro ⟨z | rfl, y⟩
      · exact .inl ⟨z, y⟩
      · exact .inr rfl
end
end Sq

set_option Elab.async false
set_option linter.all false
set_option maxRecDepth 100000
set_option maxHeartbeats 8000000
/-! The program: layers. -/
namespace Sq
open PySem PySem.Spec PyProof.Rows L2
section
variable {P : Program} {w : World} {K : PySem.W.Frag} {mg : Str → Option Value} {base : Heap} {Ts : List Addr}
end
end Sq

set_option Elab.async false
set_option linter.all false
set_option maxRecDepth 100000
set_option maxHeartbeats 8000000
/-! What is no body; layers of a body. -/
namespace Sq
open PySem PySem.Spec PyProof.Rows L2
theorem LayF.ne {met layer : List (List Cell)} {Ls : List (List (List Cell))} (h : LayF met layer Ls) : layer ≠ [] → ∀ L ∈ Ls, L ≠ [] := by
  induction h with
  | stop _ => exact fun ne L hL => by rw [List.mem_singleton.mp hL]; exact ne
  | go ne _ _ _ _ _ ih =>
    intro ne' L hL
    rcases List.mem_cons.mp hL with rfl | z
    · exact ne'
    · exact ih ne L z
section
variable {P : Program} {w : World} {K : PySem.W.Frag} {mg : Str → Option Value} {base : Heap} {Ts : List Addr}
end
end Sq

set_option Elab.async false
set_option linter.all false
set_option maxRecDepth 100000
set_option maxHeartbeats 8000000
/-! The law: lots by painting (mathematics, and dicts of cells). -/
namespace Sq
open PySem PySem.Spec PyProof.Rows L2
section
variable {α : Type} {k : α → Cell} {v : α → V}
def kvG (k : α → Cell) (v : α → V) (T : List α) : List (List Key × V) := T.map fun p => (cK (k p), v p)
theorem kv_len {T : List α} : (kvG k v T).length = T.length := List.length_map ..
theorem kv_no {c : Cell} : ∀ {T : List α}, c ∉ T.map k → valV (kvG k v T) (cK c) = none
  | [], _ => rfl
  | p :: T, h => by
    have h1 : k p ≠ c := fun e => h (by rw [← e]; exact List.mem_cons_self ..)
    show valV ((cK (k p), v p) :: kvG k v T) (cK c) = none
    rw [valV_neg (fun e => h1 (cK_inj e))]
    exact kv_no fun z => h (List.mem_cons_of_mem _ z)
theorem kv_yes {p : α} : ∀ {T : List α}, (T.map k).Nodup → p ∈ T → valV (kvG k v T) (cK (k p)) = some (v p)
  | [], _, h => by cases h
  | r :: T, nd, h => by
    have nd : (k r :: T.map k).Nodup := nd
    obtain ⟨n1, n2⟩ := List.nodup_cons.mp nd
    show valV ((cK (k r), v r) :: kvG k v T) (cK (k p)) = _
    rcases List.mem_cons.mp h with e | e
    · rw [← e, valV_pos rfl]
    · have h1 : k r ≠ k p := fun z => n1 (by rw [z]; exact List.mem_map.mpr ⟨_, e, rfl⟩)
      rw [valV_neg (fun z => h1 (cK_inj z))]
      exact kv_yes n2 e
theorem kv_is {T : List α} {c : Cell} (nd : (T.map k).Nodup) : (valV (kvG k v T) (cK c)).isSome = decide (c ∈ T.map k) := by
  by_cases m : c ∈ T.map k
  · obtain ⟨p, hp, rfl⟩ := List.mem_map.mp m
    rw [kv_yes nd hp, decide_eq_true m]
    rfl
  · rw [kv_no m, decide_eq_false m]
    rfl
theorem kv_put {T : List α} {p : α} (h : k p ∉ T.map k) : putK (kvG k v T) (cK (k p)) (v p) = kvG k v (T ++ [p]) := by
  rw [putK_new _ (kv_no h)]
  unfold kvG
  rw [List.map_append]
  rfl
theorem kv_keys {T : List α} : (kvG k v T).map Prod.fst = (T.map k).map cK := by
  unfold kvG
  rw [List.map_map, List.map_map]
  rfl
end
theorem keys_cells' {H : Hp} : ∀ {kvs : List (List Key × V)} {L : List Cell} {bs : List Addr}, kvs.map Prod.fst = L.map cK → IsKeys H kvs bs → Paired (fun q c => At H q c) bs L
  | _, [], _, e, .nil => .nil
  | _, _ :: _, _, e, .nil => by cases e
  | _, [], _, e, .cons h t => by cases e
  | _, c :: L, _, e, .cons h t => by
    rw [List.map_cons, List.map_cons, List.cons.injEq] at e
    exact .cons (by have h := h; rw [e.1] at h; exact h) (keys_cells' e.2 t)
def rSortDk : List V → Hp → VK → Prop := fun vs H Q => ∃ (a : Addr) (kvs : List (List Key × V)) (L : List Cell), vs = [V.ref a] ∧ H a = some (.dT kvs) ∧ kvs.map Prod.fst = L.map cK ∧ sortedK H L Q
theorem cr_sortedDk {X : Cx} (calm : X.calm = true) : CallR X (.builtin "sorted") rSortDk := by
  intro pins s σ H vs us Q I r h
  obtain ⟨a, kvs, L, rfl, ha, eL, k⟩ := h
  rw [Vals.ref1 r]
  obtain ⟨z, hs, ks, pr, o, es, ep, ho, hx, hdt, he, hn⟩ := (show ObjOk X.prog X.w H s.heap a (.dT kvs) from I.hok a _ ha)
  have l1 : es.size = ks.length := size_of_entries he
  have l2 : kvs.length = ks.length := Paired.length pr
  refine sorted_src (k := kVal H) (collect_src (kdl_raw hs hx hdt) (I.ok.hd calm) ho (by omega) fun h' tk acc hk it => ?_)
  have ea : acc.toList = (ks.map fun x => x.2.1).map Value.ref := by
    rw [List.map_map]
    refine List.ext_getElem? fun j => ?_
    rw [List.getElem?_map]
    have hl : acc.toList.length = ks.length := by rw [Array.length_toList, it.1, l1]
    cases hj : acc.toList[j]? with
    | none =>
      rw [List.getElem?_eq_none (by have := List.getElem?_eq_none_iff.mp hj; omega)]
      rfl
    | some v =>
      obtain ⟨en, hen, hv⟩ := it.2 j v (by rw [← Array.getElem?_toList]; exact hj)
      have e1 := entry_at he j
      rw [hen] at e1
      cases hb : ks[j]? with
      | none =>
        rw [hb] at e1
        exact nomatch (show some en = none from e1)
      | some b =>
        rw [hb] at e1
        have e2 : en = entryOfKey (tupleKind (mixKind X.prog X.w)) b := Option.some.inj e1
        rw [hv, e2]
        rfl
  rw [ea]
  refine sort_fin (I.kept (t' := tk) hk) (List.Perm.refl _) (keys_cells' eL (isKeys_of pr)) (by rw [List.length_map]; omega) (fun _ _ e => e) (Nat.le_refl _) rfl rfl k
/-! ### painting -/
abbrev Pnt : Type := List (Cell × Addr × Cell)
abbrev pnK (T : Pnt) : List (List Key × V) := kvG (fun p : Cell × Addr × Cell => p.1) (fun p => V.ref p.2.1) T
abbrev cellsP (T : Pnt) : List Cell := T.map fun p => p.1
structure PntOk (L : List Cell) (T : Pnt) : Prop where
  nd : (cellsP T).Nodup
  re : ∀ p ∈ T, p.2.2 ∈ L ∧ Reach L p.2.2 p.1
  cl : ∀ p ∈ T, ∀ y ∈ besideC p.1, y ∈ L → y ∈ cellsP T
  un : ∀ p ∈ T, ∀ r ∈ T, Reach L p.1 r.1 → p.2.2 = r.2.2
structure PntIn (L : List Cell) (T0 : Pnt) (q : Addr) (c x : Cell) (N : List Cell) (T : Pnt) (W : List Cell) : Prop where
  nd : (cellsP T).Nodup
  old : ∀ p ∈ T0, p ∈ T
  new : ∀ p ∈ T, p ∈ T0 ∨ (p.2 = (q, c) ∧ Reach L c p.1)
  has : (c, q, c) ∈ T
  ndW : W.Nodup
  wt : ∀ y ∈ W, y ∈ cellsP T ∧ Reach L c y
  cl : ∀ p ∈ T, p.1 ∉ W → p.1 ≠ x → ∀ y ∈ besideC p.1, y ∈ L → y ∈ cellsP T
  xW : x ∉ W
  clx : ∀ y ∈ N, y ∈ L → y ∈ cellsP T
  rx : Reach L c x
/-- between two cells of a flood -/
structure PntGo (L : List Cell) (T0 : Pnt) (q : Addr) (c : Cell) (T : Pnt) (W : List Cell) : Prop where
  nd : (cellsP T).Nodup
  old : ∀ p ∈ T0, p ∈ T
  new : ∀ p ∈ T, p ∈ T0 ∨ (p.2 = (q, c) ∧ Reach L c p.1)
  has : (c, q, c) ∈ T
  ndW : W.Nodup
  wt : ∀ y ∈ W, y ∈ cellsP T ∧ Reach L c y
  cl : ∀ p ∈ T, p.1 ∉ W → ∀ y ∈ besideC p.1, y ∈ L → y ∈ cellsP T
theorem PntOk.nil {L : List Cell} : PntOk L [] := ⟨List.nodup_nil, fun _ h => (nomatch h), fun _ h => (nomatch h), fun _ h => (nomatch h)⟩
theorem PntOk.go {L : List Cell} {T : Pnt} (h : PntOk L T) {q : Addr} {c : Cell} (nc : c ∉ cellsP T) : PntGo L T q c (T ++ [(c, q, c)]) [c] := by
  refine ⟨?_, fun p hp => List.mem_append_left _ hp, fun p hp => ?_, by simp, by simp, fun y hy => ?_, fun p hp n y hy yL => ?_⟩
  · show ((T ++ [(c, q, c)]).map _).Nodup
    rw [List.map_append]
    exact nodup_snoc h.nd nc
  · rcases List.mem_append.mp hp with z | z
    · exact .inl z
    · rw [List.mem_singleton.mp z]
      exact .inr ⟨rfl, .refl⟩
  · rw [List.mem_singleton.mp hy]
    exact ⟨by simp [cellsP], .refl⟩
  · rcases List.mem_append.mp hp with z | z
    · have := h.cl p z y hy yL
      show y ∈ (T ++ [(c, q, c)]).map _
      rw [List.map_append]
      exact List.mem_append_left _ this
    · rw [List.mem_singleton.mp z] at n
      exact absurd (List.mem_singleton.mpr rfl) n
theorem PntGo.pop {L : List Cell} {T0 T : Pnt} {q : Addr} {c x : Cell} {W : List Cell} (h : PntGo L T0 q c T (W ++ [x])) : PntIn L T0 q c x [] T W := by
  obtain ⟨n1, _, n3⟩ := List.nodup_append.mp h.ndW
  have xW : x ∉ W := fun m => n3 x m x (List.mem_singleton.mpr rfl) rfl
  refine ⟨h.nd, h.old, h.new, h.has, n1, fun y hy => h.wt y (List.mem_append_left _ hy), fun p hp n1 n2 => h.cl p hp fun m => ?_, xW, fun y hy => (nomatch hy), (h.wt x (by simp)).2⟩
  rcases List.mem_append.mp m with z | z
  · exact n1 z
  · exact n2 (List.mem_singleton.mp z)
theorem PntIn.end {L : List Cell} {T0 T : Pnt} {q : Addr} {c x : Cell} {W N : List Cell} (h : PntIn L T0 q c x N T W) (hN : ∀ y ∈ besideC x, y ∈ N) : PntGo L T0 q c T W := by
  refine ⟨h.nd, h.old, h.new, h.has, h.ndW, h.wt, fun p hp n y hy yL => ?_⟩
  by_cases e : p.1 = x
  · rw [e] at hy
    exact h.clx y (hN y hy) yL
  · exact h.cl p hp n e y hy yL
theorem PntIn.add {L : List Cell} {T0 T : Pnt} {q : Addr} {c x y : Cell} {W N : List Cell} (h : PntIn L T0 q c x N T W) (hy : y ∈ besideC x) (yL : y ∈ L) (ny : y ∉ cellsP T) : PntIn L T0 q c x (N ++ [y]) (T ++ [(y, q, c)]) (W ++ [y]) := by
  have ry : Reach L c y := .step h.rx hy yL
  have e : cellsP (T ++ [(y, q, c)]) = cellsP T ++ [y] := by
    show (T ++ [(y, q, c)]).map _ = _
    rw [List.map_append]
    rfl
  refine ⟨by rw [e]; exact nodup_snoc h.nd ny, fun p hp => List.mem_append_left _ (h.old p hp), fun p hp => ?_, List.mem_append_left _ h.has, nodup_snoc h.ndW fun m => ny (h.wt y m).1, fun z hz => ?_, fun p hp n1 n2 z hz zL => ?_, fun m => ?_, fun z hz zL => ?_, h.rx⟩
  · rcases List.mem_append.mp hp with z | z
    · exact h.new p z
    · rw [List.mem_singleton.mp z]
      exact .inr ⟨rfl, ry⟩
  · rw [e]
    rcases List.mem_append.mp hz with m | m
    · exact ⟨List.mem_append_left _ (h.wt z m).1, (h.wt z m).2⟩
    · rw [List.mem_singleton.mp m]
      exact ⟨by simp, ry⟩
  · rw [e]
    rcases List.mem_append.mp hp with m | m
    · exact List.mem_append_left _ (h.cl p m (fun w => n1 (List.mem_append_left _ w)) n2 z hz zL)
    · rw [List.mem_singleton.mp m] at n1
      exact absurd (by simp) n1
  · rcases List.mem_append.mp m with w | w
    · exact h.xW w
    · rw [List.mem_singleton.mp w] at hy
      exact beside_ne hy rfl
  · rw [e]
    rcases List.mem_append.mp hz with m | m
    · exact List.mem_append_left _ (h.clx z m zL)
    · exact List.mem_append_right _ m
theorem PntIn.skip {L : List Cell} {T0 T : Pnt} {q : Addr} {c x y : Cell} {W N : List Cell} (h : PntIn L T0 q c x N T W) (k : y ∈ L → y ∈ cellsP T) : PntIn L T0 q c x (N ++ [y]) T W :=
  ⟨h.nd, h.old, h.new, h.has, h.ndW, h.wt, h.cl, h.xW, fun z hz zL => by
    rcases List.mem_append.mp hz with m | m
    · exact h.clx z m zL
    · rw [List.mem_singleton.mp m] at zL ⊢
      exact k zL, h.rx⟩
theorem pnt_closed {L : List Cell} {T : Pnt} (cl : ∀ p ∈ T, ∀ y ∈ besideC p.1, y ∈ L → y ∈ cellsP T) {x y : Cell} (hx : x ∈ cellsP T) (r : Reach L x y) : y ∈ cellsP T := by
  induction r with
  | refl => exact hx
  | step _ hb hL ih =>
    obtain ⟨p, hp, rfl⟩ := List.mem_map.mp ih
    exact cl p hp _ hb hL
theorem PntGo.fin {L : List Cell} {T0 T : Pnt} {q : Addr} {c : Cell} (h : PntGo L T0 q c T []) (k : PntOk L T0) (cL : c ∈ L) (nc : c ∉ cellsP T0) : PntOk L T := by
  have mix : ∀ p ∈ T0, ∀ r ∈ T, (r.2 = (q, c) ∧ Reach L c r.1) → Reach L p.1 r.1 → False := fun p hp r hr ⟨_, rr⟩ k2 => by
    have m1 : r.1 ∈ cellsP T0 := pnt_closed k.cl (List.mem_map.mpr ⟨p, hp, rfl⟩) k2
    exact nc (pnt_closed k.cl m1 (rr.symm cL))
  refine ⟨h.nd, fun p hp => ?_, fun p hp y hy yL => h.cl p hp (by simp) y hy yL, fun p hp r hr k2 => ?_⟩
  · rcases h.new p hp with z | ⟨z1, z2⟩
    · exact k.re p z
    · rw [z1]
      exact ⟨cL, z2⟩
  · rcases h.new p hp with z | z
    · rcases h.new r hr with y | y
      · exact k.un p z r y k2
      · exact absurd k2 fun k2 => mix p z r hr y k2
    · rcases h.new r hr with y | y
      · have pL : p.1 ∈ L := z.2.mem cL
        exact absurd (k2.symm pL) fun k2 => mix r y p hp z k2
      · rw [z.1, y.1]
/-- colours, each once: one just if it hangs -/
theorem paint_one {L : List Cell} {T : Pnt} (h : PntOk L T) (cov : ∀ x ∈ L, x ∈ cellsP T) (sub : ∀ x ∈ cellsP T, x ∈ L) (ne : L ≠ []) {F : List Cell} (nF : F.Nodup) (hF : ∀ m, m ∈ F ↔ ∃ p ∈ T, p.2.2 = m) : F.length = 1 ↔ Hangs L := by
  constructor
  · intro l
    obtain ⟨m, rfl⟩ := List.length_eq_one_iff.mp l
    obtain ⟨p0, hp0, e0⟩ := (hF m).mp (List.mem_singleton.mpr rfl)
    have mL : m ∈ L := by rw [← e0]; exact (h.re p0 hp0).1
    refine (hangs_from mL).mpr fun b hb => ?_
    obtain ⟨p, hp, rfl⟩ := List.mem_map.mp (cov b hb)
    have : p.2.2 = m := List.mem_singleton.mp ((hF _).mpr ⟨p, hp, rfl⟩)
    rw [← this]
    exact (h.re p hp).2
  · intro k
    obtain ⟨x, hx⟩ := List.exists_mem_of_ne_nil _ ne
    obtain ⟨p0, hp0, rfl⟩ := List.mem_map.mp (cov x hx)
    have all : ∀ m ∈ F, m = p0.2.2 := fun m hm => by
      obtain ⟨p, hp, rfl⟩ := (hF m).mp hm
      have pL : p.1 ∈ L := sub _ (List.mem_map.mpr ⟨p, hp, rfl⟩)
      exact h.un p hp p0 hp0 (k.2 _ pL _ hx)
    have m0 : p0.2.2 ∈ F := (hF _).mpr ⟨p0, hp0, rfl⟩
    match F, nF, all, m0 with
    | [a], _, _, _ => rfl
    | a :: b :: F, nF, all, _ =>
      have e1 := all a (List.mem_cons_self ..)
      have e2 := all b (List.mem_cons_of_mem _ (List.mem_cons_self ..))
      rw [e1, e2] at nF
      exact absurd (List.mem_cons_self ..) (List.nodup_cons.mp nF).1
end Sq

set_option Elab.async false
set_option linter.all false
set_option maxRecDepth 100000
set_option maxHeartbeats 8000000
/-! The law: lots by painting. -/
namespace Sq
open PySem PySem.Spec PyProof.Rows L2
def spNLots : Sp := fun vs H Q _ => ∃ (a : Addr) (L : List Cell), vs = [.ref a] ∧ CellsL H a L ∧ L.Nodup ∧ L ≠ [] ∧ L.length ≤ 1000 ∧ ∀ r H' xs, Same H H' → H' r = some (.lst xs) → (xs.length = 1 ↔ Hangs L) → Q (.ref r) H'
abbrev nlN : List Str := ["_law_cells", "_law_paint", "_law_inside", "_law_cell", "_law_todo", "_law_other", "_law_found", "_law_first"]
theorem kp_tk {G H : Hp} {d : Addr} {kv : List (List Key × V)} (e : G d = some (.dT kv)) (k : Kp [d] G H) : Tk G H := fun b xs eb => k b _ (fun m => by rw [List.mem_singleton.mp m, e] at eb; cases eb) eb
theorem kp_same {H G G' : Hp} {d : Addr} (hd : H d = none) (s : Same H G) (k : Kp [d] G G') : Same H G' := fun b o e => k b o (fun m => by rw [List.mem_singleton.mp m, hd] at e; cases e) (s b o e)
/-- within the flood: B0 is the heap ahead of the painting, d the paint, t what is waiting -/
structure NlH (B0 : Hp) (d t : Addr) (T : Pnt) (W : List Cell) (G : Hp) : Prop where
  kp : Kp [d] B0 G
  gp : G d = some (.dT (pnK T))
  gt : CellsL G t W
section
variable {P : Program} {w : World} {K : PySem.W.Frag} {mg : Str → Option Value} {base : Heap}
theorem scNLo : FnScope nlN ["_law_cells"] (defScope nLots) := ⟨rfl, rfl, rfl, by decide +kernel, rfl, by decide +kernel, by decide +kernel⟩
variable {f : Addr} {cdv : Value} {A : Around} {outer : List Env} {s : Shared} {H0 : Hp} {E : XK}
/-- from the found lots on -/
theorem nl_tail (hr : Room 1 (cxOf CX0 P w K mg base nlN "_law_nb_lots" (defScope nLots) f cdv A outer s H0 E).nox.A) (B : Bl mg) :
    ∃ t, PSs (cxOf CX0 P w K mg base nlN "_law_nb_lots" (defScope nLots) f cdv A outer s H0 E).nox ((defBody nLots).drop 2) t ∧
      ∀ (D : Ends) (G : Hp) (a pd : Addr) (T : Pnt) (L : List Cell) (v2 v3 v4 v5 v6 v7 : Option V), CellsL G a L → L.length ≤ 1000 → G pd = some (.dT (pnK T)) → PntOk L T → (∀ x ∈ L, x ∈ cellsP T) → (∀ p ∈ T, At G p.2.1 p.2.2) → (∀ r H' xs, Same G H' → H' r = some (.lst xs) → ∀ F : List Cell, F.Nodup → (∀ m, m ∈ F ↔ ∃ p ∈ T, p.1 ∈ L ∧ p.2.2 = m) → xs.length = F.length → D.rt (.ref r) H') →
        t D [some (.ref a), some (.ref pd), v2, v3, v4, v5, v6, v7] G := by
  have hu := hu_of hr
  refine ⟨_, (pss_cons (ps_set (i := 6) scNLo.nd rfl (.inr rfl) pe_dnewT)
      (pss_cons (ps_for PassesOwn.never rfl (pi_list (pe_callB cr_sortedC (by rfl) B.sorted (by decide +kernel) (pa_cons (pv 0) pa_nil))) (pg_name (i := 3) scNLo.nd rfl (.inl rfl))
      (pss_one (ps_expr (pe_bm PySem.F.plainAttrs_list PySem.F.slot_list_append PySem.F.type_list_append mt_append (pe_setdT hu (pv 6) (pe_dget hu (pv 1) (pv 3) (fun _ _ => rfl)) (pe_lst pa_nil) ⟨rfl, rfl, rfl, rfl⟩) (pa_cons (pv 3) pa_nil)))))
      (pss_one (ps_ret (pe_lc (own := [("_law_first", 7)]) (g := gName 7) (tt := tYes) rfl scNLo.nd (pi_list (pe_callB (cr_sortedDk rfl) (by rfl) B.sorted (by decide +kernel) (pa_cons (pv 6) pa_nil))) (blkOk_by (N := nlN) (sc := defScope nLots) (by decide +kernel)) (fun _ _ _ _ _ => pg_name (i := 7) scNLo.nd rfl (Or.inl rfl)) (fun _ _ _ _ _ => pts_nil) (fun _ _ _ _ _ => (pe_dget hu (pv 6) (pv 7) (fun _ _ => rfl)))))))), ?_⟩
  intro D G a pd T L v2 v3 v4 v5 v6 v7 ⟨qs, ea, pq⟩ lL gp ok cov col k
  intro fd hfd
  have s0 := same_new (o := .dT []) hfd
  have e0 := upd_same (H := G) (a := fd) (o := .dT [])
  have npf : pd ≠ fd := ne_of_none gp hfd
  generalize upd G fd (.dT []) = G1 at s0 e0
  refine ⟨_, rfl, a, qs, L, rfl, SqL.of (s0 _ _ ea), paired_imp (fun _ _ h => s0 _ _ h) pq, fun so ss S prS pmS asc hso => ?_⟩
  have s1 := same_new (o := .lst (ss.map V.ref)) hso
  have eso := upd_same (H := G1) (a := so) (o := .lst (ss.map V.ref))
  have e1 := s1 _ _ e0
  have prS := paired_imp (fun q c (h : At G1 q c) => (s1 _ _ h : At (upd G1 so (.lst (ss.map V.ref))) q c)) prS
  generalize upd G1 so (.lst (ss.map V.ref)) = B0 at s1 eso e1 prS
  have sGB := s0.trans s1
  have gp0 := sGB _ _ gp
  have mS : ∀ x, x ∈ S ↔ x ∈ L := fun x => pmS.mem_iff
  have lS : S.length = L.length := pmS.length_eq
  refine ⟨so, rfl, ⟨_, SqL.of eso⟩, ?_⟩
  refine for_list (K := K) (a := so) (xs := ss.map V.ref) (fun i σ G => ∃ (v3 : Option V) (Fd : List (Cell × Addr)), σ = [some (.ref a), some (.ref pd), v2, v3, v4, v5, some (.ref fd), v7] ∧ Kp [fd] B0 G ∧ G fd = some (.dT (kvG (fun p : Cell × Addr => p.1) (fun p => V.ref p.2) Fd)) ∧ (Fd.map fun p => p.1).Nodup ∧ (∀ m, m ∈ Fd.map (fun p => p.1) ↔ ∃ p ∈ T, p.1 ∈ S.take i ∧ p.2.2 = m) ∧ Fd.length ≤ i ∧ ∀ p ∈ Fd, B0 p.2 = none ∧ ∃ xs, G p.2 = some (.lst xs) ∧ xs.length ≤ i)
    ⟨v3, [], rfl, fun b o _ e => e, e1, List.nodup_nil, fun m => by simp, Nat.le_refl _, fun p hp => (nomatch hp)⟩ (fun i σ G _ ⟨_, _, _, kp, _⟩ => SqL.of (kp _ _ (fun m => by rw [List.mem_singleton.mp m, e1] at eso; cases eso) eso)) ?_ ?_
  · rintro i x σ G2 hi ⟨v3, Fd, rfl, kp, gf, nf, mf, lf, lst⟩
    rw [List.getElem?_map] at hi
    obtain ⟨q, hq, rfl⟩ := Option.map_eq_some_iff.mp hi
    obtain ⟨c, hc, ac⟩ := paired_get prS hq
    have tk := kp_tk e1 kp
    have ac2 : At G2 q c := tk _ _ ac
    have cS : c ∈ S := List.mem_of_getElem? hc
    have cL : c ∈ L := (mS c).mp cS
    have il : i < L.length := by rw [← lS]; exact (List.getElem?_eq_some_iff.mp hc).1
    obtain ⟨p0, hp0, ep0⟩ := List.mem_map.mp (cov c cL)
    have ep0 : p0.1 = c := ep0
    have gp2 : G2 pd = some (.dT (pnK T)) := kp _ _ (fun m => npf (List.mem_singleton.mp m)) gp0
    have am : At G2 p0.2.1 p0.2.2 := tk _ _ (sGB _ _ (col p0 hp0))
    have val : valV (pnK T) (cK c) = some (.ref p0.2.1) := by rw [← ep0]; exact kv_yes ok.nd hp0
    refine ⟨_, rfl, fd, rfl, .inr ⟨_, .inl gf⟩, _, rfl, _, rfl, pd, .ref p0.2.1, rfl, (by rw [← val]; exact DGet.t gp2 ac2), Nat.zero_le _, fun z hz => ?_⟩
    have s3 := same_new (o := .lst []) hz
    have gf3 := s3 _ _ gf
    have am3 := s3 _ _ am
    have nfz : fd ≠ z := ne_of_none gf hz
    have lk : (kvG (fun p : Cell × Addr => p.1) (fun p => V.ref p.2) Fd).length < sizeLine := by rw [kv_len, sizeLine_eq]; omega
    have mem' : ∀ m, (∃ p ∈ T, p.1 ∈ S.take (i + 1) ∧ p.2.2 = m) ↔ (∃ p ∈ T, p.1 ∈ S.take i ∧ p.2.2 = m) ∨ m = p0.2.2 := fun m => by
      rw [take_snoc hc]
      constructor
      · rintro ⟨p, hp, h1, h2⟩
        rcases List.mem_append.mp h1 with y | y
        · exact .inl ⟨p, hp, y, h2⟩
        · refine .inr ?_
          rw [← h2]
          refine ok.un p hp p0 hp0 ?_
          rw [List.mem_singleton.mp y, ep0]
          exact .refl
      · rintro (⟨p, hp, h1, h2⟩ | h)
        · exact ⟨p, hp, List.mem_append_left _ h1, h2⟩
        · exact ⟨p0, hp0, List.mem_append_right _ (by rw [ep0]; exact List.mem_singleton.mpr rfl), h.symm⟩
    refine ⟨_, cK p0.2.2, p0.2.1, gf3, rfl, am3, lk, fun u hu' => ?_, fun hn => ?_⟩
    · -- the lot is there
      have mF : p0.2.2 ∈ Fd.map (fun p => p.1) := Classical.byContradiction fun n => by rw [kv_no n] at hu'; cases hu'
      obtain ⟨l0, hl0, el0⟩ := List.mem_map.mp mF
      have el0 : l0.1 = p0.2.2 := el0
      rw [← el0, kv_yes (p := l0) nf hl0] at hu'
      obtain rfl := Option.some.inj hu'
      obtain ⟨n0, xs, exs, lxs⟩ := lst l0 hl0
      have exs3 := s3 _ _ exs
      refine ⟨.inl ⟨rfl, _, SqL.of exs3⟩, _, rfl, l0.2, xs, _, rfl, rfl, exs3, by rw [sizeLine_eq]; omega, ?_⟩
      have nfl : fd ≠ l0.2 := fun y => by rw [← y, gf] at exs; cases exs
      refine ⟨_, Fd, rfl, fun b o nb e => ?_, by rw [upd_ne nfl]; exact gf3, nf, fun m => ?_, Nat.le_succ_of_le lf, fun p hp => ?_⟩
      · have nbl : b ≠ l0.2 := fun y => by rw [y, n0] at e; cases e
        rw [upd_ne nbl]
        exact s3 _ _ (kp b o nb e)
      · rw [mem', ← mf]
        constructor
        · exact .inl
        · rintro (h | rfl)
          · exact h
          · exact mF
      · obtain ⟨n1, ys, eys, lys⟩ := lst p hp
        refine ⟨n1, ?_⟩
        by_cases y : p.2 = l0.2
        · rw [y, upd_same]
          exact ⟨_, rfl, by rw [List.length_append]; show xs.length + 1 ≤ i + 1; omega⟩
        · rw [upd_ne y]
          exact ⟨ys, s3 _ _ eys, Nat.le_succ_of_le lys⟩
    · -- a new lot
      have mF : p0.2.2 ∉ Fd.map (fun p => p.1) := fun m => by
        obtain ⟨l0, hl0, el0⟩ := List.mem_map.mp m
        have el0 : l0.1 = p0.2.2 := el0
        rw [← el0, kv_yes (p := l0) nf hl0] at hn
        cases hn
      have ez : upd G2 z (.lst []) z = some (.lst []) := upd_same
      have put : putK (kvG (fun p : Cell × Addr => p.1) (fun p => V.ref p.2) Fd) (cK p0.2.2) (.ref z) = kvG (fun p : Cell × Addr => p.1) (fun p => V.ref p.2) (Fd ++ [(p0.2.2, z)]) := kv_put (p := ((p0.2.2, z) : Cell × Addr)) mF
      rw [put]
      have ez' : upd (upd G2 z (.lst [])) fd (.dT (kvG (fun p : Cell × Addr => p.1) (fun p => V.ref p.2) (Fd ++ [(p0.2.2, z)]))) z = some (.lst []) := by rw [upd_ne nfz.symm]; exact ez
      refine ⟨.inl ⟨rfl, _, SqL.of ez'⟩, _, rfl, z, [], _, rfl, rfl, ez', by show 0 < sizeLine; rw [sizeLine_eq]; decide, ?_⟩
      have zB : B0 z = none := by
        cases y : B0 z with
        | none => rfl
        | some o =>
          have := kp z o (fun m => nfz (List.mem_singleton.mp m).symm) y
          rw [hz] at this
          cases this
      refine ⟨_, Fd ++ [(p0.2.2, z)], rfl, fun b o nb e => ?_, by rw [upd_ne nfz, upd_same], ?_, fun m => ?_, by rw [List.length_append]; exact Nat.succ_le_succ lf, fun p hp => ?_⟩
      · have nbz : b ≠ z := fun y => by rw [y, zB] at e; cases e
        have nbf : b ≠ fd := fun y => nb (List.mem_singleton.mpr y)
        rw [upd_ne nbz, upd_ne nbf]
        exact s3 _ _ (kp b o nb e)
      · rw [List.map_append]
        exact nodup_snoc nf mF
      · rw [mem', ← mf, List.map_append, List.mem_append]
        show _ ∨ m ∈ [p0.2.2] ↔ _
        rw [List.mem_singleton]
      · rcases List.mem_append.mp hp with y | y
        · obtain ⟨n1, ys, eys, lys⟩ := lst p y
          have npz : p.2 ≠ z := ne_of_none eys hz
          have npf' : p.2 ≠ fd := fun w => by rw [w, gf] at eys; cases eys
          exact ⟨n1, ys, by rw [upd_ne npz, upd_ne npf']; exact s3 _ _ eys, Nat.le_succ_of_le lys⟩
        · rw [List.mem_singleton.mp y]
          exact ⟨zB, _, upd_same, by show 1 ≤ i + 1; omega⟩
  · rintro σ G2 ⟨v3, Fd, rfl, kp, gf, nf, mf, lf, lst⟩
    have el : (ss.map V.ref).length = S.length := by rw [List.length_map, Paired.length prS]
    rw [el, List.take_length] at mf
    rw [el] at lf
    have sG2 : Same G G2 := kp_same hfd sGB kp
    refine ⟨_, rfl, fd, _, Fd.map (fun p => p.1), rfl, gf, kv_keys, fun p qs' cs' prq pm asc' hp => ?_⟩
    have s4 := same_new (o := .lst (qs'.map V.ref)) hp
    have e4 := upd_same (H := G2) (a := p) (o := .lst (qs'.map V.ref))
    have prq := paired_imp (fun q c (h : At G2 q c) => (s4 _ _ h : At (upd G2 p (.lst (qs'.map V.ref))) q c)) prq
    have gf4 := s4 _ _ gf
    generalize upd G2 p (.lst (qs'.map V.ref)) = G4 at s4 e4 prq gf4
    have lqs : qs'.length = Fd.length := by rw [Paired.length prq, pm.length_eq, List.length_map]
    refine ⟨p, rfl, ⟨_, SqL.of e4⟩, fun D' hD' => ?_⟩
    refine lc_it (walk_list (K := K) (a := p) (xs := qs'.map V.ref)) (fun i G => Same G4 G ∧ ∃ xs : List V, G D' = some (.lst xs) ∧ xs.length = i) ⟨same_new hD', [], upd_same, rfl⟩ (fun i G _ p => SqL.of (p.1 _ _ e4)) ?_ ?_
    · rintro i x G5 G6 hi ⟨sm, xs, eD, lx⟩ ⟨rfl, hx⟩
      rw [List.getElem?_map] at hx
      obtain ⟨b, hb, rfl⟩ := Option.map_eq_some_iff.mp hx
      obtain ⟨c, hc, ac⟩ := paired_get prq hb
      have ac : At G6 b c := sm _ _ ac
      have cF : c ∈ Fd.map (fun p => p.1) := pm.mem_iff.mp (List.mem_of_getElem? hc)
      obtain ⟨l0, hl0, rfl⟩ := List.mem_map.mp cF
      have val := kv_yes (k := fun p : Cell × Addr => p.1) (v := fun p => V.ref p.2) nf hl0
      have lq : i < qs'.length := by rw [List.length_map] at hi; exact hi
      refine ⟨rfl, yesT ⟨_, rfl, _, rfl, fd, .ref l0.2, rfl, (by rw [← val]; exact DGet.t (sm _ _ gf4) ac), _, eD, by rw [sizeLine_eq]; omega, same_put sm hD', _, upd_same, by rw [List.length_append, lx]; rfl⟩⟩
    · rintro G5 ⟨sm, xs, eD, lx⟩
      refine k D' G5 xs ((sG2.trans s4).trans sm) eD (Fd.map (fun p => p.1)) nf (fun m => ?_) (by rw [lx, List.length_map, List.length_map, lqs])
      rw [mf]
      constructor
      · rintro ⟨p, hp, h1, h2⟩
        exact ⟨p, hp, (mS _).mp h1, h2⟩
      · rintro ⟨p, hp, h1, h2⟩
        exact ⟨p, hp, (mS _).mpr h1, h2⟩
theorem ok_nLots {fd : FuncData} (F : FnP K "_law_nb_lots" nLots f fd) (B : Bl mg) (gD : mg "dict" = none) (DB : Df P w K mg base CX0 1 "_law_nb_beside" ["_law_cell"] spNBeside) : FnOk P w K mg base CX0 2 f fd ["_law_cells"] spNLots := by
  refine F.ok scNLo (fun vs H Q E h => ?_) (fun cdv A outer s H vs Q E hr h => ?_)
  · obtain ⟨a, L, rfl, _⟩ := h
    rfl
  · obtain ⟨a, L, rfl, ca, nL, neL, lL, k⟩ := h
    have hu := hu_of hr
    have h64 := room64 hr
    have one_le : (1 : Nat) ≤ sizeLine := by rw [sizeLine_eq]; decide
    obtain ⟨tl, htl, key⟩ := nl_tail (P := P) (w := w) (K := K) (mg := mg) (base := base) (f := f) (cdv := cdv) (A := A) (outer := outer) (s := s) (H0 := H) (E := E) hr B
    refine ⟨_, PSs.nox (pss_cons (ps_par (i := 1) (j := 2) (by rfl) scNLo.nd rfl rfl (by decide) rfl rfl (pa_cons pe_dnewT (pa_cons (pe_callTy (call_dictT rfl h64) (by rfl) gD (by decide +kernel) (pa_cons (pe_lc (own := [("_law_cell", 3)]) (g := gName 3) (tt := tYes) rfl scNLo.nd (pi_list (pv 0)) (blkOk_by (N := nlN) (sc := defScope nLots) (by decide +kernel)) (fun _ _ _ _ _ => pg_name (i := 3) scNLo.nd rfl (Or.inl rfl)) (fun _ _ _ _ _ => pts_nil) (fun _ _ _ _ _ => (pe_tup (pa_cons (pv 3) (pa_cons pe_bl pa_nil))))) pa_nil)) pa_nil)) (by rfl))
      (pss_cons (ps_for PassesOwn.never rfl (pi_list (pe_callB cr_sortedC (by rfl) B.sorted (by decide +kernel) (pa_cons (pv 0) pa_nil))) (pg_name (i := 3) scNLo.nd rfl (.inl rfl))
      (pss_cons (ps_if (pt_cmp (pc_din hu (pv 3) (pv 1)))
        (pss_one ps_continue)
        pss_nil)
        (pss_cons (ps_asg (pe_tup (pa_cons (pv 3) (pa_cons (pe_lst (pa_cons (pv 3) pa_nil)) pa_nil))) (pg_tup (by rfl) (pgs_cons (pg_sub (pv 1) (pv 3) (set_dict hu)) (pgs_cons (pg_name (i := 4) scNLo.nd rfl (.inl rfl)) pgs_nil))))
        (pss_one (ps_while PassesOwn.never (pt_cmpR (op_neK (K := K) rfl h64) (pv 4) (pe_lst pa_nil) (nomark _))
        (pss_one (ps_for PassesOwn.never rfl (pi_list (pe_df DB hr (by rfl) pass0 (pa_cons (pe_bm0 PySem.F.plainAttrs_list PySem.F.slot_list_pop PySem.F.type_list_pop mt_pop (pv 4)) pa_nil))) (pg_name (i := 5) scNLo.nd rfl (.inl rfl))
          (pss_one (ps_if (PW.pt (pw_and (pt_cmp (pc_din hu (pv 5) (pv 2))) (pw_and1 (pt_cmp (pc_dnotin hu (pv 5) (pv 1))))))
            (pss_cons (ps_dput hu (pv 1) (pv 5) (pv 3) rfl)
            (pss_one (ps_expr (pe_bm PySem.F.plainAttrs_list PySem.F.slot_list_append PySem.F.type_list_append mt_append (pv 4) (pa_cons (pv 5) pa_nil)))))
            pss_nil)))))))))
      htl)), ?_⟩
    obtain ⟨qs, ea, pq⟩ := id ca
    have lqs : qs.length = L.length := Paired.length pq
    intro pd hpd
    have s0 := same_new (o := .dT []) hpd
    have e0 := upd_same (H := H) (a := pd) (o := .dT [])
    generalize upd H pd (.dT []) = H1 at s0 e0
    refine ⟨_, rfl, a, rfl, ⟨_, SqL.of (s0 _ _ ea)⟩, fun D hD => ?_⟩
    refine w_ofR (walk_list (K := K) (a := a) (xs := qs.map V.ref)) (fun n G => Same H1 G ∧ ∃ rs : List Addr, G D = some (.lst (rs.map V.ref)) ∧ rs.length = n ∧ Paired (fun r c => ∃ q, G r = some (.tup [.ref q, .bl true]) ∧ At G q c) rs (L.take n)) ⟨same_new hD, [], upd_same, rfl, .nil⟩ (fun n G _ p => SqL.of (p.1 _ _ (s0 _ _ ea))) ?_ ?_
    · rintro n x G G' hn ⟨sm, rs, gD, lrs, pr⟩ ⟨rfl, hx⟩
      rw [List.getElem?_map] at hx
      obtain ⟨q, hq, rfl⟩ := Option.map_eq_some_iff.mp hx
      obtain ⟨c, hc, ac⟩ := paired_get pq hq
      have hcl := (List.getElem?_eq_some_iff.mp hc).1
      refine ⟨rfl, yesT ⟨_, rfl, two_le, fun t ht => ?_⟩⟩
      have s1 := same_new (o := .tup [.ref q, .bl true]) ht
      have gD1 := s1 _ _ gD
      have tu := upd_tu (o' := .lst (rs.map V.ref ++ [V.ref t])) gD1 (by intro xs z; cases z)
      refine ⟨_, gD1, by rw [List.length_map, sizeLine_eq]; omega, same_put (sm.trans s1) hD, rs ++ [t], by rw [upd_same, List.map_append]; rfl, by rw [List.length_append, lrs]; rfl, ?_⟩
      rw [take_snoc hc]
      refine (paired_imp (fun r d h => ?_) pr).snoc ⟨q, tu _ _ upd_same, tu _ _ (s1 _ _ (sm _ _ (s0 _ _ ac)))⟩
      obtain ⟨z, e1, e2⟩ := h
      exact ⟨z, tu _ _ (s1 _ _ e1), tu _ _ (s1 _ _ e2)⟩
    rintro G ⟨sm, rs, gD, lrs, pr⟩
    rw [List.length_map, lqs, List.take_length] at pr
    refine ⟨D, rs, lotK L, rfl, SqL.of gD, dict_true (D := D) pr, lotK_keys L nL, fun ld hld => ?_⟩
    have s1 := same_new (o := .dT (lotK L)) hld
    have eld := upd_same (H := G) (a := ld) (o := .dT (lotK L))
    have epd := s1 _ _ (sm _ _ e0)
    have s2 := (s0.trans sm).trans s1
    generalize upd G ld (.dT (lotK L)) = G1 at s1 eld epd s2
    clear sm gD pr hD s0 s1 e0 hld
    refine ⟨_, _, rfl, ?_⟩
    have s4 := s2
    generalize G1 = G2 at s4 eld epd
    refine ⟨_, rfl, a, qs, L, rfl, SqL.of (s4 _ _ ea), paired_imp (fun _ _ h => s4 _ _ h) pq, fun so ss S prS pmS asc hso => ?_⟩
    have s5 := same_new (o := .lst (ss.map V.ref)) hso
    have eso := upd_same (H := G2) (a := so) (o := .lst (ss.map V.ref))
    have eld := s5 _ _ eld
    have epd := s5 _ _ epd
    have prS := paired_imp (fun q c (h : At G2 q c) => (s5 _ _ h : At (upd G2 so (.lst (ss.map V.ref))) q c)) prS
    have sB := s4.trans s5
    generalize upd G2 so (.lst (ss.map V.ref)) = B0 at sB eso eld epd prS
    clear s4 s5 hso
    have mS : ∀ x, x ∈ S ↔ x ∈ L := fun x => pmS.mem_iff
    have lS : S.length = L.length := pmS.length_eq
    have nlp : ld ≠ pd := fun z => by
      rw [z, epd] at eld
      have e := congrArg List.length (HO.dT.inj (Option.some.inj eld))
      rw [lot_len] at e
      exact neL (List.length_eq_zero_iff.mp e.symm)
    have nsp : so ≠ pd := fun z => by rw [z, epd] at eso; cases eso
    have npin : ∀ {b : Addr}, b ≠ pd → b ∉ [pd] := fun h m => h (List.mem_singleton.mp m)
    refine ⟨so, rfl, ⟨_, SqL.of eso⟩, ?_⟩
    refine for_list (K := K) (a := so) (xs := ss.map V.ref) (fun i σ G => ∃ (v3 v4 v5 : Option V) (T : Pnt), σ = [some (.ref a), some (.ref pd), some (.ref ld), v3, v4, v5, none, none] ∧ Kp [pd] B0 G ∧ G pd = some (.dT (pnK T)) ∧ PntOk L T ∧ (∀ x ∈ S.take i, x ∈ cellsP T) ∧ (∀ p ∈ T, At B0 p.2.1 p.2.2) ∧ (∀ x ∈ cellsP T, x ∈ L))
      ⟨none, none, none, [], rfl, fun b o _ e => e, epd, .nil, by simp, fun p hp => (nomatch hp), fun x hx => (nomatch hx)⟩ (fun i σ G _ ⟨_, _, _, _, _, kp, _⟩ => SqL.of (kp _ _ (npin nsp) eso)) ?_ ?_
    · rintro i x σ G hi ⟨v3, v4, v5, T, rfl, kp, gp, ok, cov, col, sub⟩
      rw [List.getElem?_map] at hi
      obtain ⟨q, hq, rfl⟩ := Option.map_eq_some_iff.mp hi
      obtain ⟨c, hc, ac⟩ := paired_get prS hq
      have cL : c ∈ L := (mS c).mp (List.mem_of_getElem? hc)
      have ac1 : At G q c := kp_tk epd kp _ _ ac
      refine ⟨_, rfl, _, rfl, pd, _, rfl, dget_c gp ac1, _, rfl, ?_⟩
      rw [kv_is ok.nd]
      refine ite2 (fun hp => ?_) (fun hp => ?_)
      · have m : c ∈ cellsP T := of_decide_eq_true hp
        refine ⟨_, _, _, T, rfl, kp, gp, ok, fun x hx => ?_, col, sub⟩
        rw [take_snoc hc] at hx
        rcases List.mem_append.mp hx with y | y
        · exact cov x y
        · rw [List.mem_singleton.mp y]
          exact m
      have nc : c ∉ cellsP T := fun m => hp (decide_eq_true m)
      have lT : T.length ≤ L.length := by
        have := len_le ok.nd sub
        rwa [List.length_map] at this
      refine ⟨_, rfl, _, rfl, one_le, fun wl hwl => ⟨two_le, fun t ht => ?_⟩⟩
      have s6 := same_new (o := .lst [.ref q]) hwl
      have s7 := same_new (o := .tup [.ref q, .ref wl]) ht
      have gp7 := s7 _ _ (s6 _ _ gp)
      have ac7 : At _ q c := s7 _ _ (s6 _ _ ac1)
      have nwp : wl ≠ pd := fun z => by rw [z, gp] at hwl; cases hwl
      have wB : B0 wl = none := by
        cases y : B0 wl with
        | none => rfl
        | some o =>
          have := kp wl o (npin nwp) y
          rw [hwl] at this
          cases this
      have put : putK (pnK T) (cK c) (.ref q) = pnK (T ++ [(c, q, c)]) := kv_put (p := ((c, q, c) : Cell × Addr × Cell)) nc
      have dp := dput_c (v := .ref q) gp7 ac7 (by rw [kv_len, sizeLine_eq]; omega)
      rw [put] at dp
      refine ⟨t, _, rfl, SqT.of upd_same, rfl, _, _, rfl, _, rfl, _, rfl, pd, _, rfl, dp, _, _, rfl, rfl, ?_⟩
      have ewl : upd (upd (upd G wl (.lst [.ref q])) t (.tup [.ref q, .ref wl])) pd (.dT (pnK (T ++ [(c, q, c)]))) wl = some (.lst [.ref q]) := by
        rw [upd_ne nwp]
        exact s7 _ _ upd_same
      have kp8 : Kp [pd] B0 (upd (upd (upd G wl (.lst [.ref q])) t (.tup [.ref q, .ref wl])) pd (.dT (pnK (T ++ [(c, q, c)])))) := fun b o nb e => by
        rw [upd_ne fun z => nb (List.mem_singleton.mpr z)]
        exact s7 _ _ (s6 _ _ (kp b o nb e))
      have gp8 := upd_same (H := upd (upd G wl (.lst [.ref q])) t (.tup [.ref q, .ref wl])) (a := pd) (o := .dT (pnK (T ++ [(c, q, c)])))
      have ac8 : At (upd (upd (upd G wl (.lst [.ref q])) t (.tup [.ref q, .ref wl])) pd (.dT (pnK (T ++ [(c, q, c)])))) q c := kp_tk epd kp8 _ _ ac
      generalize upd (upd (upd G wl (.lst [.ref q])) t (.tup [.ref q, .ref wl])) pd (.dT (pnK (T ++ [(c, q, c)]))) = G8 at ewl kp8 gp8 ac8
      refine ⟨fun m σ G => ∃ (v5 : Option V) (T' : Pnt) (W : List Cell), m = 2 * (L.length - T'.length) + W.length ∧ σ = [some (.ref a), some (.ref pd), some (.ref ld), some (.ref q), some (.ref wl), v5, none, none] ∧ NlH B0 pd wl T' W G ∧ PntGo L T q c T' W ∧ (∀ p ∈ T', At B0 p.2.1 p.2.2) ∧ (∀ x ∈ cellsP T', x ∈ L),
        ⟨_, v5, _, [c], rfl, rfl, ⟨kp8, gp8, [q], ewl, .cons ac8 .nil⟩, ok.go nc, fun p hp => (List.mem_append.mp hp).elim (col p) fun y => by rw [List.mem_singleton.mp y]; exact ac, fun x hx => ?_⟩, ?_⟩
      · have hx : x ∈ (T ++ [((c, q, c) : Cell × Addr × Cell)]).map (fun p => p.1) := hx
        rw [List.map_append] at hx
        rcases List.mem_append.mp hx with y | y
        · exact sub x y
        · rw [List.mem_singleton.mp y]
          exact cL
      rintro m σ G9 ⟨v5, T', W, rfl, rfl, ⟨kp9, gp9, ⟨ws, ews, pws⟩⟩, go, col9, sub9⟩
      have lT9 : T'.length ≤ L.length := by
        have := len_le go.nd sub9
        rwa [List.length_map] at this
      have lW9 : W.length ≤ L.length := len_le go.ndW fun y hy => sub9 y (go.wt y hy).1
      refine ⟨_, rfl, Nat.zero_le _, fun e8 he8 => ?_⟩
      have sA := same_new (o := .lst []) he8
      refine ⟨.list (W.map cD), .list [], (CellsL.dp ⟨ws, sA _ _ ews, paired_imp (fun _ _ h => sA _ _ h) pws⟩), .lst (SqL.of upd_same) .nil, lay_cells.shaped (by decide), (lay_list (n := 0) (ds := []) (by simp)).shaped (by decide), _, rfl, ?_⟩
      rw [eqv_nil]
      have kpA : Kp [pd] B0 (upd G9 e8 (.lst [])) := fun b o nb e => sA _ _ (kp9 b o nb e)
      have gpA := sA _ _ gp9
      have ewA := sA _ _ ews
      have pwA := paired_imp (fun q c (h : At G9 q c) => (sA _ _ h : At (upd G9 e8 (.lst [])) q c)) pws
      generalize upd G9 e8 (.lst []) = GA at kpA gpA ewA pwA
      by_cases hW : W = []
      · subst hW
        refine iteF ?_
        refine ⟨_, _, _, T', rfl, kpA, gpA, go.fin ok cL nc, fun x hx => ?_, col9, sub9⟩
        rw [take_snoc hc] at hx
        rcases List.mem_append.mp hx with y | y
        · obtain ⟨p, hp, rfl⟩ := List.mem_map.mp (cov x y)
          exact List.mem_map.mpr ⟨p, go.old p hp, rfl⟩
        · rw [List.mem_singleton.mp y]
          exact List.mem_map.mpr ⟨_, go.has, rfl⟩
      · rw [decide_eq_false hW]
        refine iteT ?_
        obtain ⟨W', x, rfl⟩ := snoc_inv hW
        have new : ws ≠ [] := fun z => by rw [z] at pwA; have l := Paired.length pwA; simp at l
        obtain ⟨ws', qx, rfl⟩ := snoc_inv new
        obtain ⟨pw', ax⟩ := paired_unsnoc pwA
        refine ⟨fun σ' G' => ∃ m', m' < 2 * (L.length - T'.length) + (W' ++ [x]).length ∧ _, fun _ _ h => h, ?_⟩
        refine ⟨_, rfl, .inl ⟨rfl, _, SqL.of ewA⟩, wl, _, .ref qx, rfl, rfl, ewA, by simp, ?_⟩
        have drop : (List.map V.ref (ws' ++ [qx])).dropLast = ws'.map V.ref := by simp
        rw [drop]
        have tkB : Tk GA (upd GA wl (.lst (ws'.map V.ref))) := tk_upd ewA fun _ z => nomatch z
        have kpB : Kp [pd] B0 (upd GA wl (.lst (ws'.map V.ref))) := fun b o nb e => by
          rw [upd_ne fun z => by rw [z, wB] at e; cases e]
          exact kpA b o nb e
        have gpB : upd GA wl (.lst (ws'.map V.ref)) pd = some (.dT (pnK T')) := by rw [upd_ne nwp.symm]; exact gpA
        have ewB := upd_same (H := GA) (a := wl) (o := .lst (ws'.map V.ref))
        have pwB := paired_imp (fun q c (h : At GA q c) => (tkB _ _ h : At (upd GA wl (.lst (ws'.map V.ref))) q c)) pw'
        have axB : At (upd GA wl (.lst (ws'.map V.ref))) qx x := tkB _ _ ax
        generalize upd GA wl (.lst (ws'.map V.ref)) = GB at kpB gpB ewB pwB axB
        refine ⟨qx, x, rfl, axB, fun lb GC sC hlb cb => ?_⟩
        obtain ⟨bs, eb, pb⟩ := cb
        have kpC : Kp [pd] B0 GC := fun b o nb e => sC _ _ (kpB b o nb e)
        have nbp : lb ≠ pd := fun z => by rw [z, gpB] at hlb; cases hlb
        have nbw : lb ≠ wl := fun z => by rw [z, ewB] at hlb; cases hlb
        have gp := go.pop
        refine ⟨lb, rfl, ⟨_, SqL.of eb⟩, ?_⟩
        refine for_list (K := K) (a := lb) (xs := bs.map V.ref) (fun j σ G => ∃ (v5 : Option V) (T2 : Pnt) (W2 : List Cell), σ = [some (.ref a), some (.ref pd), some (.ref ld), some (.ref q), some (.ref wl), v5, none, none] ∧ NlH B0 pd wl T2 W2 G ∧ Kp [pd, wl] GC G ∧ PntIn L T q c x ((nbC x).take j) T2 W2 ∧ (∀ p ∈ T2, At B0 p.2.1 p.2.2) ∧ (∀ x ∈ cellsP T2, x ∈ L) ∧ 2 * (L.length - T2.length) + W2.length ≤ 2 * (L.length - T'.length) + W'.length)
          ⟨v5, T', W', rfl, ⟨kpC, sC _ _ gpB, ws', sC _ _ ewB, paired_imp (fun _ _ h => sC _ _ h) pwB⟩, fun b o _ e => e, gp, col9, sub9, Nat.le_refl _⟩ (fun j σ G _ ⟨_, _, _, _, _, kp2, _⟩ => SqL.of (kp2 _ _ (by simp [nbp, nbw]) eb)) ?_ ?_
        · rintro j y σ GD hj ⟨v5, T2, W2, rfl, ⟨kpD, gpD, ⟨ws2, ew2, pw2⟩⟩, kp2, pin, col2, sub2, ms⟩
          rw [List.getElem?_map] at hj
          obtain ⟨qy, hqy, rfl⟩ := Option.map_eq_some_iff.mp hj
          obtain ⟨y, hy, ay⟩ := paired_get pb hqy
          have ayD : At GD qy y := kp2 _ _ (fun m => by
            rcases List.mem_cons.mp m with z | m
            · have e2 : GC qy = some (.dT (pnK T')) := by rw [z]; exact sC _ _ gpB
              have e3 : GC qy = some (.tup (cV y)) := ay
              rw [e2] at e3
              cases e3
            · have e2 : GC qy = some (.lst (ws'.map V.ref)) := by rw [List.mem_singleton.mp m]; exact sC _ _ ewB
              have e3 : GC qy = some (.tup (cV y)) := ay
              rw [e2] at e3
              cases e3) ay
          have yb : y ∈ besideC x := mem_nbC.mp (List.mem_of_getElem? hy)
          have eldD : GD ld = some (.dT (lotK L)) := kpD _ _ (npin nlp) eld
          refine ⟨_, rfl, _, rfl, ld, _, rfl, dget_lot eldD ayD, _, rfl, ?_⟩
          rw [lot_is]
          have skip : (y ∈ L → y ∈ cellsP T2) → PntIn L T q c x ((nbC x).take (j + 1)) T2 W2 := fun h => by
            rw [take_snoc hy]
            exact pin.skip h
          refine ite2 (fun hyL => ?_) (fun hyL => ?_)
          · have yL : y ∈ L := of_decide_eq_true hyL
            refine ⟨_, rfl, _, rfl, pd, _, rfl, dget_c gpD ayD, _, rfl, ?_⟩
            rw [kv_is pin.nd]
            refine ite2 (fun hn => ?_) (fun hn => ?_)
            · have ny : y ∉ cellsP T2 := by simpa using hn
              have put2 : putK (pnK T2) (cK y) (.ref q) = pnK (T2 ++ [(y, q, c)]) := kv_put (p := ((y, q, c) : Cell × Addr × Cell)) ny
              have pin' := pin.add yb yL ny
              have sub' : ∀ x ∈ cellsP (T2 ++ [((y, q, c) : Cell × Addr × Cell)]), x ∈ L := fun z hz => by
                have hz : z ∈ (T2 ++ [((y, q, c) : Cell × Addr × Cell)]).map (fun p => p.1) := hz
                rw [List.map_append] at hz
                rcases List.mem_append.mp hz with m | m
                · exact sub2 z m
                · rw [List.mem_singleton.mp m]
                  exact yL
              have lT2 : T2.length + 1 ≤ L.length := by
                have := len_le pin'.nd sub'
                rw [List.length_map, List.length_append] at this
                exact this
              have lW2 : W2.length ≤ L.length := len_le pin.ndW fun y hy => sub2 y (pin.wt y hy).1
              have lws2 : ws2.length = W2.length := Paired.length pw2
              have dp2 := dput_c (v := .ref q) gpD ayD (by rw [kv_len, sizeLine_eq]; omega)
              rw [put2] at dp2
              refine ⟨_, rfl, _, rfl, _, rfl, pd, _, rfl, dp2, ?_⟩
              have tkE : Tk GD (upd GD pd (.dT (pnK (T2 ++ [(y, q, c)])))) := tk_upd gpD fun _ z => nomatch z
              have ewE : upd GD pd (.dT (pnK (T2 ++ [(y, q, c)]))) wl = some (.lst (ws2.map V.ref)) := by rw [upd_ne nwp]; exact ew2
              refine ⟨_, rfl, .inl ⟨rfl, _, SqL.of ewE⟩, _, rfl, wl, _, _, rfl, rfl, ewE, by rw [List.length_map, sizeLine_eq]; omega, ?_⟩
              have tkF := tkE.trans (tk_upd (o' := .lst (ws2.map V.ref ++ [V.ref qy])) ewE fun _ z => nomatch z)
              refine ⟨_, _, W2 ++ [y], rfl, ⟨fun b o nb e => ?_, ?_, ws2 ++ [qy], by rw [upd_same, List.map_append]; rfl, (paired_imp (fun _ _ h => tkF _ _ h) pw2).snoc (tkF _ _ ayD)⟩, fun b o nb e => ?_, by rw [take_snoc hy]; exact pin', fun p hp => (List.mem_append.mp hp).elim (col2 p) fun m => by rw [List.mem_singleton.mp m]; exact ac, sub', by rw [List.length_append, List.length_append]; show 2 * (L.length - (T2.length + 1)) + (W2.length + 1) ≤ _; omega⟩
              · rw [upd_ne (fun z => by rw [z, wB] at e; cases e), upd_ne (fun z => nb (List.mem_singleton.mpr z))]
                exact kpD b o nb e
              · rw [upd_ne nwp.symm, upd_same]
              · rw [upd_ne (fun z => nb (by rw [z]; simp)), upd_ne (fun z => nb (by rw [z]; simp))]
                exact kp2 b o nb e
            · have my : y ∈ cellsP T2 := by simpa using hn
              exact ⟨_, T2, W2, rfl, ⟨kpD, gpD, ws2, ew2, pw2⟩, kp2, skip fun _ => my, col2, sub2, ms⟩
          · have yL : y ∉ L := fun m => hyL (decide_eq_true m)
            exact ⟨_, T2, W2, rfl, ⟨kpD, gpD, ws2, ew2, pw2⟩, kp2, skip fun m => absurd m yL, col2, sub2, ms⟩
        · rintro σ GD ⟨v5, T2, W2, rfl, nh, kp2, pin, col2, sub2, ms⟩
          rw [List.length_map, Paired.length pb, List.take_length] at pin
          exact ⟨_, by rw [List.length_append]; show _ < _ + (W'.length + 1); omega, _, T2, W2, rfl, rfl, nh, pin.end fun y hy => mem_nbC.mpr hy, col2, sub2⟩
    · rintro σ G ⟨v3, v4, v5, T, rfl, kp, gp, ok, cov, col, sub⟩
      rw [List.length_map, Paired.length prS, List.take_length] at cov
      have sHG : Same H G := kp_same hpd sB kp
      have tk := kp_tk epd kp
      refine key _ G a pd T L _ _ _ _ _ _ ⟨qs, sHG _ _ ea, paired_imp (fun _ _ h => sHG _ _ h) pq⟩ lL gp ok (fun x hx => cov x ((mS x).mpr hx)) (fun p hp => tk _ _ (col p hp)) fun r H' xs s9 er F nF hF lxs => ?_
      refine k r H' xs (sHG.trans s9) er ?_
      rw [lxs]
      refine paint_one ok (fun x hx => cov x ((mS x).mpr hx)) sub neL nF fun m => (hF m).trans ⟨fun ⟨p, hp, _, h⟩ => ⟨p, hp, h⟩, fun ⟨p, hp, h⟩ => ⟨p, hp, sub _ (List.mem_map.mpr ⟨p, hp, rfl⟩), h⟩⟩
end
end Sq

set_option Elab.async false
set_option linter.all false
set_option maxRecDepth 100000
set_option maxHeartbeats 8000000
/-! The law: free squares, ends beside a rest. -/
namespace Sq
open PySem PySem.Spec PyProof.Rows L2
def spNFree : Sp := fun vs H Q _ => ∃ (t : Addr) (B : List Cell), vs = [.ref t] ∧ CellsT H t B ∧ B.Nodup ∧ B.length ≤ 1000 ∧ ∀ l H', Same H H' → CellsL H' l (B.filter fun c => hangsB (without B c)) → Q (.ref l) H'
def offs9 : List Cell := [(-1, -1), (-1, 0), (-1, 1), (0, -1), (0, 0), (0, 1), (1, -1), (1, 0), (1, 1)]
def plusC (s d : Cell) : Cell := (s.1 + d.1, s.2 + d.2)
def stepOk (R : List Cell) (s d : Cell) : Bool := !decide (plusC s d ∈ R) && !decide (d = (0, 0)) && (if d.1 ≠ 0 ∧ d.2 ≠ 0 then turnsB R s (plusC s d) else (sideB R s (plusC s d) (d.2, d.1) || sideB R s (plusC s d) (-d.2, -d.1)))
def stepsN (R : List Cell) (s : Cell) : List Cell := (offs9.filter (stepOk R s)).map (plusC s)
theorem pi_tupK {X : Cx} {K : PySem.W.Frag} {tg e : Expr} {t : TE} (h : X.K = K) (he : PE X e t) : PI X tg e (iTup K t) := h ▸ pi_tup he
abbrev nstN : List Str := ["_law_rest", "_law_cell", "_law_found", "_law_across", "_law_up", "_law_end", "_law_corners", "_law_one", "_law_sides", "_law_x", "_law_y"]
section
variable {P : Program} {w : World} {K : PySem.W.Frag} {mg : Str → Option Value} {base : Heap}
theorem scNF : FnScope ["_law_body", "_law_square", "_law_cell"] ["_law_body"] (defScope nFree) := ⟨rfl, rfl, rfl, by decide +kernel, rfl, by decide +kernel, by decide +kernel⟩
theorem ok_nFree {f : Addr} {fd : FuncData} (F : FnP K "_law_nb_free" nFree f fd) (B : Bl mg) (DL : Df P w K mg base CX0 2 "_law_nb_lots" ["_law_cells"] spNLots) : FnOk P w K mg base CX0 3 f fd ["_law_body"] spNFree := by
  refine F.ok scNF (fun vs H Q E h => ?_) (fun cdv A outer s H vs Q E hr h => ?_)
  · obtain ⟨t, L, rfl, _⟩ := h
    rfl
  · obtain ⟨t, L, rfl, ct, nL, lL, k⟩ := h
    have h64 := room64 hr
    refine ⟨_, PSs.nox (pss_cons (ps_if (pt_cmpR op_lt (pe_callB call_len_seq (by rfl) B.len PySem.boot_len (pa_cons (pv 0) pa_nil)) pe_int (nomark _))
      (pss_one (ps_ret (pe_lst pa_nil)))
      pss_nil)
      (pss_one (ps_ret (pe_lc (own := [("_law_square", 1)]) (g := gName 1) rfl scNF.nd (pi_tup (pv 0)) (blkOk_by (N := ["_law_body", "_law_square", "_law_cell"]) (sc := defScope nFree) (by decide +kernel)) (fun _ _ _ _ _ => pg_name (i := 1) scNF.nd rfl (Or.inr rfl)) (fun _ _ _ _ _ => (pts_one (pt_cmpR op_eq (pe_callB (call_lenX (K := K) rfl) (by rfl) B.len PySem.boot_len (pa_cons (pe_df DL hr (by rfl) pass0 (pa_cons (pe_lc (own := [("_law_cell", 2)]) (g := gName 2) rfl scNF.nd (pi_tupK (K := K) rfl (pv 0)) (blkOk_by (N := ["_law_body", "_law_square", "_law_cell"]) (sc := { kind := .function, names := [(".0", .local), ("_law_square", .cell), ("len", .globalImplicit), ("_law_nb_lots", .globalImplicit), ("_law_body", .cell)], isGenerator := false, isCoroutine := false }) (by decide +kernel)) (fun _ _ _ _ _ => pg_name (i := 2) scNF.nd rfl (Or.inl rfl)) (fun _ _ _ _ _ => (pts_one (pt_cmpR (op_neK (K := K) rfl h64) (pv 2) (pv 1) (nomark _)))) (fun _ _ _ _ _ => (pv 2))) pa_nil)) pa_nil)) pe_int (nomark _)))) (fun _ _ _ _ _ => (pv 1)))))), ?_⟩
    obtain ⟨qs, et, pr⟩ := id ct
    have lqs : qs.length = L.length := Paired.length pr
    refine ⟨_, rfl, t, _, rfl, .inr (SqT.of et), _, _, rfl, rfl, _, rfl, ?_⟩
    refine ite2 (fun h2 => ?_) (fun h2 => ?_)
    · have lt := of_decide_eq_true h2
      rw [List.length_map, lqs] at lt
      refine ⟨Nat.zero_le _, fun l hl => k l _ (same_new hl) ⟨[], upd_same, ?_⟩⟩
      have e : (L.filter fun c => hangsB (without L c)) = [] := List.filter_eq_nil_iff.mpr fun c hc h => by
        obtain ⟨x, hx⟩ := List.exists_mem_of_ne_nil _ (hangsB_iff.mp h).1
        obtain ⟨h1, h2⟩ := mem_without.mp hx
        match L, lt, hc, h1 with
        | [a], _, hc, h1 => exact h2 ((List.mem_singleton.mp h1).trans (List.mem_singleton.mp hc).symm)
        | _ :: _ :: _, lt, _, _ => simp at lt; omega
      rw [e]
      exact .nil
    have l2 : 2 ≤ L.length := by
      have : ¬ ((L.length : Int) < 2) := fun z => h2 (decide_eq_true (by rw [List.length_map, lqs]; exact z))
      omega
    refine ⟨_, rfl, t, rfl, ⟨_, SqT.of et⟩, fun D hD => ?_⟩
    refine lc_cells (walk_tup (K := K) (a := t) (xs := qs.map V.ref)) hD (fun i => (L.take i).filter fun c => hangsB (without L c)) rfl (by rw [List.length_map, lqs]; omega) (fun i G' _ sm => SqT.of (sm _ _ et)) ?_ ?_
    · rintro i x G1 G' K1 K0 hi sm ⟨rfl, hx⟩ k1 k0
      rw [List.getElem?_map] at hx
      obtain ⟨q, hq, rfl⟩ := Option.map_eq_some_iff.mp hx
      obtain ⟨c, hc, ac⟩ := paired_get pr hq
      have ac : At G' q c := sm _ _ ac
      refine ⟨rfl, _, rfl, t, rfl, ⟨_, SqT.of (sm _ _ et)⟩, fun D2 hD2 => ?_⟩
      refine lc_cells (walk_tup (K := K) (a := t) (xs := qs.map V.ref)) hD2 (fun i => without (L.take i) c) rfl (by rw [List.length_map, lqs]; omega) (fun i G2 _ sm2 => SqT.of (sm2 _ _ (sm _ _ et))) ?_ ?_
      · rintro j x G2 G2' K3 K2 hj sm2 ⟨rfl, hx2⟩ k3 k2
        rw [List.getElem?_map] at hx2
        obtain ⟨b, hb, rfl⟩ := Option.map_eq_some_iff.mp hx2
        obtain ⟨e, he, ae⟩ := paired_get pr hb
        have ae' : At G2' b e := sm2 _ _ (sm _ _ ae)
        have ac' : At G2' q c := sm2 _ _ ac
        have st : without (L.take (j + 1)) c = if e = c then without (L.take j) c else without (L.take j) c ++ [e] := by rw [take_snoc he, without_snoc]
        refine ⟨rfl, _, rfl, _, rfl, cD e, cD c, ae'.dp, ac'.dp, cD_shaped e, cD_shaped c, _, rfl, ?_⟩
        rw [cD_eqv]
        refine ite2 (fun hc => ?_) (fun hc => ?_)
        · have ne : e ≠ c := by simpa using hc
          rw [if_neg ne] at st
          exact ⟨_, rfl, k3 b e _ same_refl ae' st⟩
        · have ec : e = c := by simpa using hc
          rw [if_pos ec] at st
          exact k2 _ same_refl st
      rintro G2 rs sm2 gD2 pr2
      rw [List.length_map, lqs, List.take_length] at pr2
      have cL : c ∈ L := List.mem_of_getElem? hc
      have lw : (without L c).length + 1 = L.length := by
        have p : (c :: without L c).Perm L := by
          refine (List.perm_ext_iff_of_nodup (List.nodup_cons.mpr ⟨fun m => (mem_without.mp m).2 rfl, nL.filter _⟩) nL).mpr fun x => ?_
          rw [List.mem_cons, mem_without]
          constructor
          · rintro (rfl | z)
            · exact cL
            · exact z.1
          · intro z
            by_cases e : x = c
            · exact .inl e
            · exact .inr ⟨z, e⟩
        have := p.length_eq
        rwa [List.length_cons] at this
      have new : without L c ≠ [] := fun z => by rw [z] at lw; simp at lw; omega
      refine ⟨D2, without L c, rfl, ⟨rs, gD2, pr2⟩, nL.filter _, new, Nat.le_trans (List.length_filter_le _ _) lL, fun r G3 xs s3 er one => ⟨r, xs, rfl, .inl (SqL.of er), rfl, _, rfl, ?_⟩⟩
      have s23 := sm2.trans s3
      have hb : decide (V.int (xs.length : Int) = V.int 1) = hangsB (without L c) := by
        rw [Bool.eq_iff_iff, decide_eq_true_iff, hangsB_iff, ← one]
        constructor
        · intro h
          have := V.int.inj h
          omega
        · intro h
          rw [h]
          rfl
      rw [hb]
      exact ite2 (fun h1 => ⟨_, rfl, k1 q c _ s23 (s23 _ _ ac) (filt_snoc hc h1)⟩) (fun h1 => k0 _ s23 (filt_skip hc h1))
    rintro G rs sm gD pr2
    rw [List.length_map, lqs, List.take_length] at pr2
    exact k D G sm ⟨rs, gD, pr2⟩
theorem scNBo : FnScope ["_law_rest", "_law_cell", "_law_end", "_law_x", "_law_y"] ["_law_rest", "_law_cell", "_law_end", "_law_x", "_law_y"] (defScope nBoth) := ⟨rfl, rfl, rfl, by decide +kernel, rfl, by decide +kernel, by decide +kernel⟩
end
end Sq

set_option Elab.async false
set_option linter.all false
set_option maxRecDepth 100000
set_option maxHeartbeats 8000000
/-! The law: where a square can go; moves. -/
namespace Sq
open PySem PySem.Spec PyProof.Rows L2
def stL (R : List Cell) (s : Cell) (n : Nat) : List Cell := ((offs9.take n).filter (stepOk R s)).map (plusC s)
theorem stL_next {R : List Cell} {s d : Cell} {n : Nat} (h : offs9[n]? = some d) : stL R s (n + 1) = if stepOk R s d = true then stL R s n ++ [plusC s d] else stL R s n := by
  unfold stL
  rw [take_snoc h, filter_snoc, List.map_append]
  by_cases c : stepOk R s d = true
  · rw [if_pos c, if_pos c]
    rfl
  · rw [if_neg c, if_neg c]
    exact List.append_nil _
theorem stL_len {R : List Cell} {s : Cell} {n : Nat} : (stL R s n).length ≤ 9 := by
  unfold stL
  rw [List.length_map]
  refine Nat.le_trans (List.length_filter_le _ _) ?_
  rw [List.length_take]
  exact Nat.min_le_right _ _
theorem offs_at : ∀ i : Nat, i < 3 → ∀ j : Nat, j < 3 → offs9[3 * i + j]? = some ((i : Int) - 1, (j : Int) - 1) := by decide +kernel
theorem ones_at {i : Nat} {x : V} (h : ([.int (-1), .int 0, .int 1] : List V)[i]? = some x) : i < 3 ∧ x = .int ((i : Int) - 1) := by
  match i, h with
  | 0, h => exact ⟨by decide, (Option.some.inj h).symm⟩
  | 1, h => exact ⟨by decide, (Option.some.inj h).symm⟩
  | 2, h => exact ⟨by decide, (Option.some.inj h).symm⟩
  | n + 3, h => simp at h
theorem turns_len {R : List Cell} {s e : Cell} : ([((e.1, s.2) : Cell), (s.1, e.2)].filter fun c => decide (c ∈ R)).length = 1 ↔ turnsB R s e = true := by
  unfold turnsB
  by_cases h1 : (e.1, s.2) ∈ R <;> by_cases h2 : (s.1, e.2) ∈ R <;> simp [List.filter_cons, h1, h2]
section
variable {P : Program} {w : World} {K : PySem.W.Frag} {mg : Str → Option Value} {base : Heap}
theorem scNSt : FnScope nstN ["_law_rest", "_law_cell"] (defScope nSteps) := ⟨rfl, rfl, rfl, by decide +kernel, rfl, by decide +kernel, by decide +kernel⟩
end
end Sq

set_option Elab.async false
set_option linter.all false
set_option maxRecDepth 100000
set_option maxHeartbeats 2000000
/-! Sides of empty cells, the walk along them, and that it meets all sides of a region. -/
namespace Sq
abbrev Side := Cell × Cell
/-- an empty cell beside a square -/
structure IsSide (R : List Cell) (e : Side) : Prop where
  out : e.1 ∉ R
  sq : e.2 ∈ R
  bs : e.2 ∈ besideC e.1
def aheadS (e : Side) : Cell := (e.1.1 - (e.2.2 - e.1.2), e.1.2 + (e.2.1 - e.1.1))
def beyondS (e : Side) : Cell := ((aheadS e).1 + (e.2.1 - e.1.1), (aheadS e).2 + (e.2.2 - e.1.2))
/-- the side behind this one -/
def nextS (R : List Cell) (e : Side) : Side := if aheadS e ∈ R then (e.1, aheadS e) else if beyondS e ∈ R then (aheadS e, beyondS e) else (beyondS e, e.2)
def backS (e : Side) : Cell := (e.1.1 + (e.2.2 - e.1.2), e.1.2 - (e.2.1 - e.1.1))
def backT (e : Side) : Cell := (e.2.1 + (e.2.2 - e.1.2), e.2.2 - (e.2.1 - e.1.1))
/-- the side ahead of this one -/
def prevS (R : List Cell) (e : Side) : Side := if backS e ∈ R then (e.1, backS e) else if backT e ∈ R then (backS e, backT e) else (backT e, e.2)
section
variable {R : List Cell} {e : Side}
theorem beside_or {c s : Cell} (h : s ∈ besideC c) : (s.1 - c.1 = -1 ∧ s.2 - c.2 = 0) ∨ (s.1 - c.1 = 0 ∧ s.2 - c.2 = -1) ∨ (s.1 - c.1 = 1 ∧ s.2 - c.2 = 0) ∨ (s.1 - c.1 = 0 ∧ s.2 - c.2 = 1) := by
  have := beside_iff.mp h
  omega
theorem next_side (h : IsSide R e) : IsSide R (nextS R e) := by
  obtain ⟨⟨c1, c2⟩, ⟨s1, s2⟩⟩ := e
  have hb := beside_or h.bs
  dsimp only at hb
  unfold nextS
  split
  · rename_i h1
    refine ⟨h.out, h1, ?_⟩
    rw [beside_iff]
    simp only [aheadS]
    omega
  · rename_i h1
    split
    · rename_i h2
      refine ⟨h1, h2, ?_⟩
      rw [beside_iff]
      simp only [beyondS, aheadS]
      omega
    · rename_i h2
      refine ⟨h2, h.sq, ?_⟩
      rw [beside_iff]
      simp only [beyondS, aheadS]
      omega
theorem prev_next (h : IsSide R e) : prevS R (nextS R e) = e := by
  obtain ⟨⟨c1, c2⟩, ⟨s1, s2⟩⟩ := e
  have ho : (c1, c2) ∉ R := h.out
  have hs : (s1, s2) ∈ R := h.sq
  unfold nextS
  split
  · rename_i h1
    have e1 : backS ((c1, c2), aheadS ((c1, c2), (s1, s2))) = (s1, s2) := Prod.ext (by simp only [backS, aheadS]; omega) (by simp only [backS, aheadS]; omega)
    unfold prevS
    rw [if_pos (by rw [e1]; exact hs), e1]
  · rename_i h1
    split
    · rename_i h2
      have e1 : backS (aheadS ((c1, c2), (s1, s2)), beyondS ((c1, c2), (s1, s2))) = (c1, c2) := Prod.ext (by simp only [backS, beyondS, aheadS]; omega) (by simp only [backS, beyondS, aheadS]; omega)
      have e2 : backT (aheadS ((c1, c2), (s1, s2)), beyondS ((c1, c2), (s1, s2))) = (s1, s2) := Prod.ext (by simp only [backT, beyondS, aheadS]; omega) (by simp only [backT, beyondS, aheadS]; omega)
      unfold prevS
      rw [if_neg (by rw [e1]; exact ho), if_pos (by rw [e2]; exact hs), e1, e2]
    · rename_i h2
      have e1 : backS (beyondS ((c1, c2), (s1, s2)), (s1, s2)) = aheadS ((c1, c2), (s1, s2)) := Prod.ext (by simp only [backS, beyondS, aheadS]; omega) (by simp only [backS, beyondS, aheadS]; omega)
      have e2 : backT (beyondS ((c1, c2), (s1, s2)), (s1, s2)) = (c1, c2) := Prod.ext (by simp only [backT, beyondS, aheadS]; omega) (by simp only [backT, beyondS, aheadS]; omega)
      unfold prevS
      dsimp only
      rw [if_neg (by rw [e1]; exact h1), if_neg (by rw [e2]; exact ho), e2]
theorem next_inj {e' : Side} (h : IsSide R e) (h' : IsSide R e') (k : nextS R e = nextS R e') : e = e' := by rw [← prev_next h, k, prev_next h']
end
/-! ### odd and even -/
def xorL (p : Side → Bool) : List Side → Bool
  | [] => false
  | e :: O => xor (p e) (xorL p O)
theorem xorL_xor (p q : Side → Bool) : ∀ O, xorL (fun e => xor (p e) (q e)) O = xor (xorL p O) (xorL q O)
  | [] => rfl
  | e :: O => by
    simp only [xorL, xorL_xor p q O]
    cases p e <;> cases q e <;> cases xorL p O <;> cases xorL q O <;> rfl
theorem xorL_perm {p : Side → Bool} {O O' : List Side} (h : O.Perm O') : xorL p O = xorL p O' := by
  induction h with
  | nil => rfl
  | cons _ _ ih => simp only [xorL, ih]
  | swap x y l =>
    simp only [xorL]
    cases p x <;> cases p y <;> cases xorL p l <;> rfl
  | trans _ _ a b => exact a.trans b
theorem xorL_map (p : Side → Bool) (f : Side → Side) : ∀ O : List Side, xorL p (O.map f) = xorL (fun e => p (f e)) O
  | [] => rfl
  | e :: O => by simp only [List.map_cons, xorL, xorL_map p f O]
theorem xorL_congr {p q : Side → Bool} : ∀ {O : List Side}, (∀ e ∈ O, p e = q e) → xorL p O = xorL q O
  | [], _ => rfl
  | e :: O, h => by simp only [xorL, h e (List.mem_cons_self ..), xorL_congr fun x hx => h x (List.mem_cons_of_mem _ hx)]
theorem xorL_none {p : Side → Bool} : ∀ {O : List Side}, (∀ e ∈ O, p e = false) → xorL p O = false
  | [], _ => rfl
  | e :: O, h => by
    simp only [xorL, h e (List.mem_cons_self ..), xorL_none fun x hx => h x (List.mem_cons_of_mem _ hx)]
    rfl
theorem xorL_one {p : Side → Bool} {a : Side} : ∀ {O : List Side}, O.Nodup → a ∈ O → p a = true → (∀ e ∈ O, p e = true → e = a) → xorL p O = true
  | e :: O, nd, ha, pa, one => by
    obtain ⟨n1, n2⟩ := List.nodup_cons.mp nd
    rcases List.mem_cons.mp ha with rfl | m
    · have : xorL p O = false := xorL_none fun x hx => by
        cases q : p x with
        | false => rfl
        | true => exact absurd (one x (List.mem_cons_of_mem _ hx) q ▸ hx) n1
      simp only [xorL, pa, this]
      rfl
    · have pe : p e = false := by
        cases q : p e with
        | false => rfl
        | true => exact absurd (one e (List.mem_cons_self ..) q ▸ m) n1
      simp only [xorL, pe, xorL_one n2 m pa fun x hx => one x (List.mem_cons_of_mem _ hx)]
      rfl
/-- the ends of a side's edge, all numbers doubled -/
def headV (e : Side) : Cell := (2 * e.1.1 + 1 + (e.2.1 - e.1.1) - (e.2.2 - e.1.2), 2 * e.1.2 + 1 + (e.2.2 - e.1.2) + (e.2.1 - e.1.1))
def tailV (e : Side) : Cell := (2 * e.1.1 + 1 + (e.2.1 - e.1.1) + (e.2.2 - e.1.2), 2 * e.1.2 + 1 + (e.2.2 - e.1.2) - (e.2.1 - e.1.1))
theorem tail_next (R : List Cell) (e : Side) : tailV (nextS R e) = headV e := by
  obtain ⟨⟨c1, c2⟩, ⟨s1, s2⟩⟩ := e
  unfold nextS
  split
  · exact Prod.ext (by simp only [tailV, headV, aheadS]; omega) (by simp only [tailV, headV, aheadS]; omega)
  · split
    · exact Prod.ext (by simp only [tailV, headV, beyondS, aheadS]; omega) (by simp only [tailV, headV, beyondS, aheadS]; omega)
    · exact Prod.ext (by simp only [tailV, headV, beyondS, aheadS]; omega) (by simp only [tailV, headV, beyondS, aheadS]; omega)
/-- the sides of a closed walk -/
structure Closed (R : List Cell) (O : List Side) : Prop where
  nd : O.Nodup
  sd : ∀ e ∈ O, IsSide R e
  nx : ∀ e ∈ O, nextS R e ∈ O
section
variable {R : List Cell} {O : List Side}
theorem Closed.perm (h : Closed R O) : (O.map (nextS R)).Perm O := by
  have nd : (O.map (nextS R)).Nodup := by
    refine List.pairwise_map.mpr (h.nd.imp_of_mem fun {x y} hx hy ne k => ne (next_inj (h.sd x hx) (h.sd y hy) k))
  refine (List.perm_ext_iff_of_nodup nd h.nd).mpr fun x => ⟨fun hx => ?_, fun hx => ?_⟩
  · obtain ⟨e, he, rfl⟩ := List.mem_map.mp hx
    exact h.nx e he
  · exact all_of_len nd (fun y hy => by
      obtain ⟨e, he, rfl⟩ := List.mem_map.mp hy
      exact h.nx e he) h.nd (List.length_map ..) x hx
/-- as many walks end at a place as begin there -/
theorem Closed.even (h : Closed R O) (p : Cell → Bool) : xorL (fun e => p (headV e)) O = xorL (fun e => p (tailV e)) O := by
  rw [← xorL_perm h.perm (p := fun e => p (tailV e)), xorL_map]
  exact xorL_congr fun e _ => by rw [tail_next]
/-- whether an odd number of walls lies to the east of a cell -/
def oddE (O : List Side) (z : Cell) : Bool := xorL (fun e => decide (e.2.2 = e.1.2 ∧ e.1.2 = z.2 ∧ 2 * z.1 + 1 < 2 * e.1.1 + 1 + (e.2.1 - e.1.1))) O
def betw (z y : Cell) (e : Side) : Bool := decide ((e.1 = z ∧ e.2 = y) ∨ (e.1 = y ∧ e.2 = z))
theorem xor_dec {a b : Prop} [Decidable a] [Decidable b] : (xor (decide a) (decide b) = true) ↔ ¬ (a ↔ b) := by
  by_cases x : a <;> by_cases y : b <;> simp [x, y]
theorem odd_east (h : Closed R O) (z : Cell) : xor (oddE O z) (oddE O (z.1 + 1, z.2)) = xorL (betw z (z.1 + 1, z.2)) O := by
  unfold oddE
  rw [← xorL_xor]
  refine xorL_congr fun e he => ?_
  obtain ⟨⟨c1, c2⟩, ⟨s1, s2⟩⟩ := e
  obtain ⟨z1, z2⟩ := z
  have hb := beside_or (h.sd _ he).bs
  dsimp only at hb
  simp only [betw, Prod.mk.injEq]
  rw [Bool.eq_iff_iff, xor_dec, decide_eq_true_iff]
  omega
theorem odd_north (h : Closed R O) (z : Cell) : xor (oddE O z) (oddE O (z.1, z.2 + 1)) = xorL (betw z (z.1, z.2 + 1)) O := by
  have ev := h.even fun v => decide (v.2 = 2 * z.2 + 2 ∧ 2 * z.1 + 1 < v.1)
  have key : xorL (fun e => xor (decide ((headV e).2 = 2 * z.2 + 2 ∧ 2 * z.1 + 1 < (headV e).1)) (decide ((tailV e).2 = 2 * z.2 + 2 ∧ 2 * z.1 + 1 < (tailV e).1))) O = false := by
    rw [xorL_xor, ev]
    cases xorL (fun e => decide ((tailV e).2 = 2 * z.2 + 2 ∧ 2 * z.1 + 1 < (tailV e).1)) O <;> rfl
  have key2 : xorL (fun e => xor (xor (decide (e.2.2 = e.1.2 ∧ e.1.2 = z.2 ∧ 2 * z.1 + 1 < 2 * e.1.1 + 1 + (e.2.1 - e.1.1))) (decide (e.2.2 = e.1.2 ∧ e.1.2 = z.2 + 1 ∧ 2 * z.1 + 1 < 2 * e.1.1 + 1 + (e.2.1 - e.1.1)))) (betw z (z.1, z.2 + 1) e)) O = false := by
    rw [← key]
    refine xorL_congr fun e he => ?_
    obtain ⟨⟨c1, c2⟩, ⟨s1, s2⟩⟩ := e
    obtain ⟨z1, z2⟩ := z
    have hb := beside_or (h.sd _ he).bs
    dsimp only at hb
    simp only [betw, headV, tailV, Prod.mk.injEq]
    have cases4 : ∀ (p q r u v : Prop) [Decidable p] [Decidable q] [Decidable r] [Decidable u] [Decidable v], (((¬(p ↔ q)) ↔ ¬ r) ↔ ¬ (u ↔ v)) → (xor (xor (decide p) (decide q)) (decide r) = xor (decide u) (decide v)) := fun p q r u v _ _ _ _ _ hh => by
      by_cases p <;> by_cases q <;> by_cases r <;> by_cases u <;> by_cases v <;> simp_all
    refine cases4 _ _ _ _ _ ?_
    rcases hb with ⟨h1, h2⟩ | ⟨h1, h2⟩ | ⟨h1, h2⟩ | ⟨h1, h2⟩
    · obtain ⟨a, ha⟩ : ∃ a, s1 = a := ⟨_, rfl⟩
      obtain rfl : c1 = a + 1 := by omega
      obtain rfl : c2 = s2 := by omega
      subst ha
      have f : ∀ x : Int, 2 * c2 + 1 + (c2 - c2) + (s1 - (s1 + 1)) = x ↔ 2 * c2 = x := fun x => by omega
      have g : ∀ x : Int, 2 * c2 + 1 + (c2 - c2) - (s1 - (s1 + 1)) = x ↔ 2 * c2 + 2 = x := fun x => by omega
      rw [f, g]
      by_cases e1 : c2 = z2
      · omega
      · by_cases e2 : c2 = z2 + 1
        · omega
        · omega
    · by_cases e1 : c2 = z2 + 1
      · omega
      · omega
    · obtain ⟨a, ha⟩ : ∃ a, s1 = a := ⟨_, rfl⟩
      obtain rfl : c1 = a - 1 := by omega
      obtain rfl : c2 = s2 := by omega
      subst ha
      by_cases e1 : c2 = z2
      · omega
      · by_cases e2 : c2 = z2 + 1
        · omega
        · omega
    · by_cases e1 : c2 = z2
      · omega
      · omega
  rw [xorL_xor, xorL_xor] at key2
  unfold oddE
  revert key2
  cases xorL (fun e => decide (e.2.2 = e.1.2 ∧ e.1.2 = z.2 ∧ 2 * z.1 + 1 < 2 * e.1.1 + 1 + (e.2.1 - e.1.1))) O <;> cases xorL (fun e => decide (e.2.2 = e.1.2 ∧ e.1.2 = z.2 + 1 ∧ 2 * z.1 + 1 < 2 * e.1.1 + 1 + (e.2.1 - e.1.1))) O <;> cases xorL (betw z (z.1, z.2 + 1)) O <;> simp
end
end Sq

set_option Elab.async false
set_option linter.all false
set_option maxRecDepth 100000
set_option maxHeartbeats 2000000
/-! A closed walk along a body that hangs together meets all sides of its region. -/
namespace Sq
/-- from cell to cell through what is empty -/
inductive Air (R : List Cell) (a : Cell) : Cell → Prop where
  | refl : Air R a a
  | step {b c : Cell} : Air R a b → c ∈ besideC b → c ∉ R → Air R a c
theorem Air.trans {R : List Cell} {a b c : Cell} (h : Air R a b) (k : Air R b c) : Air R a c := by
  induction k with
  | refl => exact h
  | step _ hb hc ih => exact .step ih hb hc
theorem Air.out {R : List Cell} {a b : Cell} (h : Air R a b) (ha : a ∉ R) : b ∉ R := by
  cases h with
  | refl => exact ha
  | step _ _ hc => exact hc
theorem Air.symm {R : List Cell} {a b : Cell} (h : Air R a b) (ha : a ∉ R) : Air R b a := by
  induction h with
  | refl => exact .refl
  | @step b c hab hb hc ih => exact (Air.step .refl (beside_symm hb) (hab.out ha)).trans ih
section
variable {R : List Cell} {O : List Side}
theorem betw_comm (z y : Cell) (e : Side) : betw z y e = betw y z e := by
  unfold betw
  exact decide_eq_decide.mpr or_comm
theorem odd_beside (h : Closed R O) {z y : Cell} (hy : y ∈ besideC z) : xor (oddE O z) (oddE O y) = xorL (betw z y) O := by
  obtain ⟨z1, z2⟩ := z
  obtain ⟨y1, y2⟩ := y
  have cm : ∀ a b : Bool, xor a b = xor b a := fun a b => by cases a <;> cases b <;> rfl
  rcases beside_iff.mp hy with ⟨e1, e2⟩ | ⟨e1, e2⟩ | ⟨e1, e2⟩ | ⟨e1, e2⟩ <;> dsimp only at e1 e2
  · have ez : ((z1, z2) : Cell) = (y1 + 1, y2) := Prod.ext (by dsimp only; omega) (by dsimp only; omega)
    rw [ez, cm, xorL_congr fun e _ => betw_comm _ _ e]
    exact odd_east h (y1, y2)
  · have ez : ((z1, z2) : Cell) = (y1, y2 + 1) := Prod.ext (by dsimp only; omega) (by dsimp only; omega)
    rw [ez, cm, xorL_congr fun e _ => betw_comm _ _ e]
    exact odd_north h (y1, y2)
  · have ez : ((y1, y2) : Cell) = (z1 + 1, z2) := Prod.ext (by dsimp only; omega) (by dsimp only; omega)
    rw [ez]
    exact odd_east h (z1, z2)
  · have ez : ((y1, y2) : Cell) = (z1, z2 + 1) := Prod.ext (by dsimp only; omega) (by dsimp only; omega)
    rw [ez]
    exact odd_north h (z1, z2)
theorem xor_eq {a b : Bool} (h : xor a b = false) : a = b := by cases a <;> cases b <;> simp_all
theorem odd_same (h : Closed R O) {z y : Cell} (hy : y ∈ besideC z) (no : (z, y) ∉ O) (no' : (y, z) ∉ O) : oddE O z = oddE O y := by
  refine xor_eq ?_
  rw [odd_beside h hy]
  refine xorL_none fun e he => ?_
  cases q : betw z y e with
  | false => rfl
  | true =>
    obtain ⟨c, s⟩ := e
    rcases of_decide_eq_true q with ⟨rfl, rfl⟩ | ⟨rfl, rfl⟩
    · exact absurd he no
    · exact absurd he no'
theorem odd_diff (h : Closed R O) {c s : Cell} (m : (c, s) ∈ O) : oddE O c ≠ oddE O s := by
  have sd := h.sd _ m
  have : xor (oddE O c) (oddE O s) = true := by
    rw [odd_beside h sd.bs]
    refine xorL_one h.nd m (decide_eq_true (.inl ⟨rfl, rfl⟩)) fun e he q => ?_
    obtain ⟨c', s'⟩ := e
    rcases of_decide_eq_true q with ⟨rfl, rfl⟩ | ⟨e1, e2⟩
    · rfl
    · dsimp only at e1 e2
      exact absurd (e1 ▸ sd.sq) (h.sd _ he).out
  intro e
  rw [e] at this
  cases q : oddE O s <;> rw [q] at this <;> cases this
theorem odd_squares (h : Closed R O) {a b : Cell} (ha : a ∈ R) (k : Reach R a b) : oddE O a = oddE O b := by
  induction k with
  | refl => rfl
  | @step b c hab hb hc ih =>
    rw [ih]
    exact odd_same h hb (fun m => (h.sd _ m).out (hab.mem ha)) fun m => (h.sd _ m).out hc
theorem odd_air (h : Closed R O) {a b : Cell} (ha : a ∉ R) (k : Air R a b) : oddE O a = oddE O b := by
  induction k with
  | refl => rfl
  | @step b c hab hb hc ih =>
    rw [ih]
    exact odd_same h hb (fun m => hc (h.sd _ m).sq) fun m => hab.out ha (h.sd _ m).sq
/-- all sides of the region are met -/
theorem ring_all (hR : Hangs R) (h : Closed R O) {e : Side} (he : e ∈ O) {c s : Cell} (k : Air R e.1 c) (sd : IsSide R (c, s)) : (c, s) ∈ O := by
  refine Classical.byContradiction fun no => ?_
  have sd0 := h.sd _ he
  have e1 : oddE O c = oddE O s := odd_same h sd.bs no fun m => (h.sd _ m).out sd.sq
  have e2 := odd_squares h sd.sq (hR.2 s sd.sq e.2 sd0.sq)
  have e3 := odd_air h sd0.out k
  exact odd_diff h (c := e.1) (s := e.2) he (by rw [e3, e1, e2])
end
/-! ### the walk from a side -/
def iterS (R : List Cell) (e : Side) : Nat → Side
  | 0 => e
  | k + 1 => nextS R (iterS R e k)
section
variable {R : List Cell} {e : Side}
theorem iter_side (h : IsSide R e) : ∀ k, IsSide R (iterS R e k)
  | 0 => h
  | k + 1 => next_side (iter_side h k)
theorem iter_air (h : IsSide R e) : ∀ k, Air R e.1 (iterS R e k).1
  | 0 => .refl
  | k + 1 => by
    refine (iter_air h k).trans ?_
    have sd := iter_side h k
    show Air R _ (nextS R (iterS R e k)).1
    generalize iterS R e k = x at sd
    obtain ⟨⟨c1, c2⟩, ⟨s1, s2⟩⟩ := x
    have hb := beside_or sd.bs
    dsimp only at hb
    unfold nextS
    split
    · exact .refl
    · rename_i h1
      have a1 : aheadS ((c1, c2), (s1, s2)) ∈ besideC (c1, c2) := by
        rw [beside_iff]
        simp only [aheadS]
        omega
      split
      · exact .step .refl a1 h1
      · rename_i h2
        refine .step (.step .refl a1 h1) ?_ h2
        rw [beside_iff]
        simp only [beyondS, aheadS]
        omega
/-- all sides of the squares -/
def sidesL (R : List Cell) : List Side := R.flatMap fun s => (besideC s).map fun c => (c, s)
theorem mem_sidesL (h : IsSide R e) : e ∈ sidesL R := List.mem_flatMap.mpr ⟨e.2, h.sq, List.mem_map.mpr ⟨e.1, beside_symm h.bs, rfl⟩⟩
theorem sidesL_len : ∀ R : List Cell, (sidesL R).length = 4 * R.length
  | [] => rfl
  | s :: R => by
    have e : sidesL (s :: R) = ((besideC s).map fun c => (c, s)) ++ sidesL R := rfl
    rw [e, List.length_append, List.length_map, sidesL_len R, List.length_cons]
    show 4 + _ = _
    omega
theorem iter_back (h : IsSide R e) : ∀ {i j : Nat}, iterS R e i = iterS R e (i + j) → iterS R e j = e
  | 0, j, k => by
    rw [Nat.zero_add] at k
    exact k.symm
  | i + 1, j, k => by
    refine iter_back h (i := i) ?_
    rw [show i + 1 + j = i + j + 1 by omega] at k
    exact next_inj (iter_side h i) (iter_side h (i + j)) k
/-- the walk comes back -/
theorem iter_ret (h : IsSide R e) : ∃ m, 1 ≤ m ∧ m ≤ 4 * R.length ∧ iterS R e m = e := by
  refine Classical.byContradiction fun no => ?_
  have inj : ∀ i j, i ≤ 4 * R.length → j ≤ 4 * R.length → iterS R e i = iterS R e j → i = j := fun i j hi hj k => by
    rcases Nat.lt_trichotomy i j with l | l | l
    · have := iter_back h (i := i) (j := j - i) (by rw [k]; congr 1; omega)
      exact absurd ⟨j - i, by omega, by omega, this⟩ no
    · exact l
    · have := iter_back h (i := j) (j := i - j) (by rw [← k]; congr 1; omega)
      exact absurd ⟨i - j, by omega, by omega, this⟩ no
  have nd : ((List.range (4 * R.length + 1)).map (iterS R e)).Nodup := by
    refine List.pairwise_map.mpr (List.nodup_range.imp_of_mem fun {x y} hx hy ne k => ne (inj x y ?_ ?_ k))
    · have := List.mem_range.mp hx; omega
    · have := List.mem_range.mp hy; omega
  have := len_le nd (ys := sidesL R) fun x hx => by
    obtain ⟨i, _, rfl⟩ := List.mem_map.mp hx
    exact mem_sidesL (iter_side h i)
  rw [List.length_map, List.length_range, sidesL_len] at this
  omega
/-- the ring: m sides, the first one e -/
structure RingOf (R : List Cell) (e : Side) (m : Nat) (O : List Side) : Prop where
  pos : 1 ≤ m
  ret : iterS R e m = e
  least : ∀ k, 1 ≤ k → k < m → iterS R e k ≠ e
  eq : O = (List.range m).map (iterS R e)
theorem RingOf.closed {m : Nat} {O : List Side} (h : IsSide R e) (r : RingOf R e m O) : Closed R O := by
  obtain ⟨pos, ret, least, rfl⟩ := r
  have inj : ∀ i j, i < m → j < m → iterS R e i = iterS R e j → i = j := fun i j hi hj k => by
    rcases Nat.lt_trichotomy i j with l | l | l
    · have := iter_back h (i := i) (j := j - i) (by rw [k]; congr 1; omega)
      exact absurd this (least _ (by omega) (by omega))
    · exact l
    · have := iter_back h (i := j) (j := i - j) (by rw [← k]; congr 1; omega)
      exact absurd this (least _ (by omega) (by omega))
  refine ⟨List.pairwise_map.mpr (List.nodup_range.imp_of_mem fun {x y} hx hy ne k => ne (inj x y (List.mem_range.mp hx) (List.mem_range.mp hy) k)), fun x hx => ?_, fun x hx => ?_⟩
  · obtain ⟨i, _, rfl⟩ := List.mem_map.mp hx
    exact iter_side h i
  · obtain ⟨i, hi, rfl⟩ := List.mem_map.mp hx
    have hi := List.mem_range.mp hi
    by_cases l : i + 1 = m
    · have e0 : nextS R (iterS R e i) = e := by
        have : iterS R e (i + 1) = e := by rw [l]; exact ret
        exact this
      rw [e0]
      exact List.mem_map.mpr ⟨0, List.mem_range.mpr (by omega), rfl⟩
    · exact List.mem_map.mpr ⟨i + 1, List.mem_range.mpr (by omega), rfl⟩
theorem RingOf.first {m : Nat} {O : List Side} (r : RingOf R e m O) : e ∈ O := by
  obtain ⟨pos, _, _, rfl⟩ := r
  exact List.mem_map.mpr ⟨0, List.mem_range.mpr (by omega), rfl⟩
theorem RingOf.mem {m : Nat} {O : List Side} (hR : Hangs R) (h : IsSide R e) (r : RingOf R e m O) {c s : Cell} : (c, s) ∈ O ↔ Air R e.1 c ∧ IsSide R (c, s) := by
  constructor
  · intro hm
    refine ⟨?_, (r.closed h).sd _ hm⟩
    obtain ⟨_, _, _, rfl⟩ := r
    obtain ⟨i, _, ei⟩ := List.mem_map.mp hm
    have := iter_air h i
    rw [ei] at this
    exact this
  · rintro ⟨k, sd⟩
    exact ring_all hR (r.closed h) r.first k sd
end
end Sq

set_option Elab.async false
set_option linter.all false
set_option maxRecDepth 100000
set_option maxHeartbeats 1000000
/-! The program's next_side, ring_from. -/
namespace Sq
open PySem PySem.Spec PyProof.Rows L2
def spNext : Sp := fun vs H Q _ => ∃ (d r : Addr) (R : List Cell) (e : Side), vs = [.ref d, .ref r] ∧ H d = some (.dT (lotK R)) ∧ PairAt H r e ∧ ∀ u G, Same H G → PairAt G u (nextS R e) → Q (.ref u) G
abbrev nxsN : List Str := ["lot", "side", "cell", "square", "across", "up", "ahead", "beyond"]
section
variable {P : Program} {w : World} {K : PySem.W.Frag} {mg : Str → Option Value} {base : Heap}
theorem scNxS : FnScope nxsN ["lot", "side"] (defScope gNextSide) := ⟨rfl, rfl, rfl, by decide +kernel, rfl, by decide +kernel, by decide +kernel⟩
theorem ok_next {f : Addr} {fd : FuncData} (F : FnP K "next_side" gNextSide f fd) : FnOk P w K mg base CX0 1 f fd ["lot", "side"] spNext := by
  refine F.ok scNxS (fun vs H Q E h => ?_) (fun cdv A outer s H vs Q E hr h => ?_)
  · obtain ⟨d, r, R, e, rfl, _⟩ := h
    rfl
  · obtain ⟨d, r, R, ⟨⟨c1, c2⟩, ⟨s1, s2⟩⟩, rfl, ed, ⟨q1, q2, er, a1, a2⟩, k⟩ := h
    have hu := hu_of hr
    refine ⟨_, PSs.nox (pss_cons (ps_asg (pv 1) (pg_tup (by rfl) (pgs_cons (pg_name (i := 2) scNxS.nd rfl (.inl rfl)) (pgs_cons (pg_name (i := 3) scNxS.nd rfl (.inl rfl)) pgs_nil))))
      (pss_cons (ps_set (i := 4) scNxS.nd rfl (.inl rfl) (pe_op op_sub (pe_ix (ix_tupK (K := K) rfl) (pv 3) pe_int (fun _ _ => rfl)) (pe_ix (ix_tupK (K := K) rfl) (pv 2) pe_int (fun _ _ => rfl))))
      (pss_cons (ps_set (i := 5) scNxS.nd rfl (.inl rfl) (pe_op op_sub (pe_ix (ix_tupK (K := K) rfl) (pv 3) pe_int (fun _ _ => rfl)) (pe_ix (ix_tupK (K := K) rfl) (pv 2) pe_int (fun _ _ => rfl))))
      (pss_cons (ps_set (i := 6) scNxS.nd rfl (.inl rfl) (pe_tup (pa_cons (pe_op op_sub (pe_ix (ix_tupK (K := K) rfl) (pv 2) pe_int (fun _ _ => rfl)) (pv 5)) (pa_cons (pe_op op_add (pe_ix (ix_tupK (K := K) rfl) (pv 2) pe_int (fun _ _ => rfl)) (pv 4)) pa_nil))))
      (pss_cons (ps_if (pt_cmp (pc_din hu (pv 6) (pv 0)))
      (pss_one (ps_ret (pe_tup (pa_cons (pv 2) (pa_cons (pv 6) pa_nil)))))
      pss_nil)
      (pss_cons (ps_set (i := 7) scNxS.nd rfl (.inl rfl) (pe_tup (pa_cons (pe_op op_add (pe_ix (ix_tupK (K := K) rfl) (pv 6) pe_int (fun _ _ => rfl)) (pv 4)) (pa_cons (pe_op op_add (pe_ix (ix_tupK (K := K) rfl) (pv 6) pe_int (fun _ _ => rfl)) (pv 5)) pa_nil))))
      (pss_cons (ps_if (pt_cmp (pc_din hu (pv 7) (pv 0)))
      (pss_one (ps_ret (pe_tup (pa_cons (pv 6) (pa_cons (pv 7) pa_nil)))))
      pss_nil)
      (pss_one (ps_ret (pe_tup (pa_cons (pv 7) (pa_cons (pv 3) pa_nil)))))))))))), ?_⟩
    refine ⟨_, rfl, r, _, rfl, SqT.of er, rfl, _, _, rfl, _, _, rfl, rfl, ?_⟩
    refine ⟨_, rfl, _, _, _, _, rfl, rfl, SqT.of a2, at0, _, rfl, _, _, _, _, rfl, rfl, SqT.of a1, at0, _, _, rfl, rfl, ?_⟩
    refine ⟨_, rfl, _, _, _, _, rfl, rfl, SqT.of a2, at1, _, rfl, _, _, _, _, rfl, rfl, SqT.of a1, at1, _, _, rfl, rfl, ?_⟩
    refine ⟨_, rfl, _, _, _, _, rfl, rfl, SqT.of a1, at0, _, rfl, _, _, rfl, rfl, _, rfl, _, _, _, _, rfl, rfl, SqT.of a1, at1, _, rfl, _, _, rfl, rfl, two_le, fun u hu1 => ?_⟩
    have t1 := same_new (o := .tup [.int (c1 - (s2 - c2)), .int (c2 + (s1 - c1))]) hu1
    have au : At (upd H u (.tup [.int (c1 - (s2 - c2)), .int (c2 + (s1 - c1))])) u (aheadS ((c1, c2), (s1, s2))) := upd_same
    generalize upd H u (.tup [.int (c1 - (s2 - c2)), .int (c2 + (s1 - c1))]) = G1 at t1 au
    refine ⟨_, rfl, _, rfl, d, _, rfl, dget_lot (t1 _ _ ed) au, _, rfl, ?_⟩
    rw [lot_is]
    refine ite2 (fun h1 => ?_) (fun h1 => ?_)
    · have m1 := of_decide_eq_true h1
      refine ⟨_, rfl, _, rfl, two_le, fun v hv => ?_⟩
      have t2 := same_new (o := .tup [.ref q1, .ref u]) hv
      refine k v _ (t1.trans t2) ⟨q1, u, upd_same, ?_, ?_⟩
      · rw [nextS, if_pos m1]
        exact t2 _ _ (t1 _ _ a1)
      · rw [nextS, if_pos m1]
        exact t2 _ _ au
    have m1 : aheadS ((c1, c2), (s1, s2)) ∉ R := fun z => h1 (decide_eq_true z)
    refine ⟨_, rfl, _, _, _, _, rfl, rfl, SqT.of au, at0, _, rfl, _, _, rfl, rfl, _, rfl, _, _, _, _, rfl, rfl, SqT.of au, at1, _, rfl, _, _, rfl, rfl, two_le, fun v hv => ?_⟩
    have t2 := same_new (o := .tup [.int ((aheadS ((c1, c2), (s1, s2))).1 + (s1 - c1)), .int ((aheadS ((c1, c2), (s1, s2))).2 + (s2 - c2))]) hv
    have av : At (upd G1 v (.tup [.int ((aheadS ((c1, c2), (s1, s2))).1 + (s1 - c1)), .int ((aheadS ((c1, c2), (s1, s2))).2 + (s2 - c2))])) v (beyondS ((c1, c2), (s1, s2))) := upd_same
    generalize upd G1 v (.tup [.int ((aheadS ((c1, c2), (s1, s2))).1 + (s1 - c1)), .int ((aheadS ((c1, c2), (s1, s2))).2 + (s2 - c2))]) = G2 at t2 av
    have t12 := t1.trans t2
    refine ⟨_, rfl, _, rfl, d, _, rfl, dget_lot (t12 _ _ ed) av, _, rfl, ?_⟩
    rw [lot_is]
    refine ite2 (fun h2 => ?_) (fun h2 => ?_)
    · have m2 := of_decide_eq_true h2
      refine ⟨_, rfl, _, rfl, two_le, fun x hx => ?_⟩
      have t3 := same_new (o := .tup [.ref u, .ref v]) hx
      refine k x _ (t12.trans t3) ⟨u, v, upd_same, ?_, ?_⟩
      · rw [nextS, if_neg m1, if_pos m2]
        exact t3 _ _ (t2 _ _ au)
      · rw [nextS, if_neg m1, if_pos m2]
        exact t3 _ _ av
    · have m2 : beyondS ((c1, c2), (s1, s2)) ∉ R := fun z => h2 (decide_eq_true z)
      refine ⟨_, rfl, _, rfl, two_le, fun x hx => ?_⟩
      have t3 := same_new (o := .tup [.ref v, .ref q2]) hx
      refine k x _ (t12.trans t3) ⟨v, q2, upd_same, ?_, ?_⟩
      · rw [nextS, if_neg m1, if_neg m2]
        exact t3 _ _ av
      · rw [nextS, if_neg m1, if_neg m2]
        exact t3 _ _ (t12 _ _ a2)
/-- ring_from -/
def spRing : Sp := fun vs H Q _ => ∃ (d r : Addr) (R : List Cell) (e : Side), vs = [.ref d, .ref r] ∧ H d = some (.dT (lotK R)) ∧ PairAt H r e ∧ IsSide R e ∧ R.length ≤ 1000 ∧ ∀ l G m O, Same H G → PairsL G l O → RingOf R e m O → Q (.ref l) G
abbrev rgfN : List Str := ["lot", "first", "ring", "side"]
theorem scRgF : FnScope rgfN ["lot", "first"] (defScope gRingFrom) := ⟨rfl, rfl, rfl, by decide +kernel, rfl, by decide +kernel, by decide +kernel⟩
theorem pair_dp {H : Hp} {r : Addr} {e : Side} (h : PairAt H r e) : Dp K H (.ref r) (.tuple [cD e.1, cD e.2]) := by
  obtain ⟨q1, q2, er, a1, a2⟩ := h
  exact .tup (SqT.of er) (.cons a1.dp (.cons a2.dp .nil))
theorem lay_pair (e : Side) : Lay 2 (.tuple [cD e.1, cD e.2]) := lay_bD [e.1, e.2]
theorem eqv_pair (e e' : Side) : PyData.eqv (.tuple [cD e.1, cD e.2]) (.tuple [cD e'.1, cD e'.2]) = decide (e = e') := by
  have := eqv_bD [e.1, e.2] [e'.1, e'.2]
  rw [show PyData.eqv (.tuple [cD e.1, cD e.2]) (.tuple [cD e'.1, cD e'.2]) = PyData.eqv (bD [e.1, e.2]) (bD [e'.1, e'.2]) from rfl, this]
  refine decide_eq_decide.mpr ⟨fun h => ?_, fun h => by rw [h]⟩
  have h := List.cons.inj h
  exact Prod.ext h.1 (List.cons.inj h.2).1
theorem ok_ring {f : Addr} {fd : FuncData} (F : FnP K "ring_from" gRingFrom f fd) (DN : Df P w K mg base CX0 1 "next_side" ["lot", "side"] spNext) : FnOk P w K mg base CX0 2 f fd ["lot", "first"] spRing := by
  refine F.ok scRgF (fun vs H Q E h => ?_) (fun cdv A outer s H vs Q E hr h => ?_)
  · obtain ⟨d, r, R, e, rfl, _⟩ := h
    rfl
  · obtain ⟨d, r, R, e, rfl, ed, pr, sd, lR, k⟩ := h
    have h64 := room64 hr
    have one_le : (1 : Nat) ≤ sizeLine := by rw [sizeLine_eq]; decide
    refine ⟨_, PSs.nox (pss_cons (ps_set (i := 2) scRgF.nd rfl (.inl rfl) (pe_lst (pa_cons (pv 1) pa_nil)))
      (pss_cons (ps_set (i := 3) scRgF.nd rfl (.inl rfl) (pe_df DN hr (by rfl) pass0 (pa_cons (pv 0) (pa_cons (pv 1) pa_nil))))
      (pss_cons (ps_while PassesOwn.never (pt_cmpR (op_neK (K := K) rfl h64) (pv 3) (pv 1) (nomark _))
      (pss_cons (ps_expr (pe_bm PySem.F.plainAttrs_list PySem.F.slot_list_append PySem.F.type_list_append mt_append (pv 2) (pa_cons (pv 3) pa_nil)))
        (pss_one (ps_set (i := 3) scRgF.nd rfl (.inl rfl) (pe_df DN hr (by rfl) pass0 (pa_cons (pv 0) (pa_cons (pv 3) pa_nil)))))))
      (pss_one (ps_ret (pv 2)))))), ?_⟩
    obtain ⟨m0, p0, l0, r0⟩ := iter_ret sd
    refine ⟨_, rfl, one_le, fun lr hlr => ?_⟩
    have s1 := same_new (o := .lst [.ref r]) hlr
    have er := upd_same (H := H) (a := lr) (o := .lst [.ref r])
    generalize upd H lr (.lst [.ref r]) = G1 at s1 er
    refine ⟨_, rfl, _, rfl, d, r, R, e, rfl, s1 _ _ ed, pr.same s1, fun u G2 s2 pu => ?_⟩
    have s12 := s1.trans s2
    refine ⟨fun q σ G => ∃ (j : Nat) (v : Addr) (rs : List Addr), q = m0 - j ∧ σ = [some (.ref d), some (.ref r), some (.ref lr), some (.ref v)] ∧ 1 ≤ j ∧ j ≤ m0 ∧ Kp [lr] G2 G ∧ PairAt G v (iterS R e j) ∧ (∀ i, 1 ≤ i → i < j → iterS R e i ≠ e) ∧ G lr = some (.lst (rs.map V.ref)) ∧ Paired (fun a x => PairAt G a x) rs ((List.range j).map (iterS R e)),
      ⟨m0 - 1, 1, u, [r], rfl, rfl, Nat.le_refl 1, p0, fun _ _ _ y => y, pu, fun i h1 h2 => by omega, s2 _ _ er, .cons (pr.same s12) .nil⟩, ?_⟩
    rintro q σ G ⟨j, v, rs, rfl, rfl, j1, jm, kp, pv', no, el, prs⟩
    have kH : ∀ {b : Addr} {o : HO}, H b = some o → G b = some o := fun {b o} y => kp _ _ (fun mm => by
      rw [List.mem_singleton.mp mm] at y
      rw [y] at hlr
      cases hlr) (s12 _ _ y)
    have sG : Same H G := fun b o y => kH y
    have lrs : rs.length = j := by rw [Paired.length prs, List.length_map, List.length_range]
    refine ⟨_, rfl, _, rfl, _, _, pair_dp pv', pair_dp (pr.same sG), (lay_pair _).shaped (by decide), (lay_pair _).shaped (by decide), _, rfl, ?_⟩
    rw [eqv_pair]
    refine ite2 (fun y => ?_) (fun y => ?_)
    · have ne : iterS R e j ≠ e := by simpa using y
      have lt : j < m0 := by
        by_cases z : j = m0
        · rw [z] at ne
          exact absurd r0 ne
        · omega
      refine ⟨fun σ' G' => ∃ m', m' < m0 - j ∧ _, fun _ _ h => h, ?_⟩
      refine ⟨_, rfl, .inl ⟨rfl, _, SqL.of el⟩, _, rfl, lr, _, _, rfl, rfl, el, by rw [List.length_map, sizeLine_eq]; omega, ?_⟩
      have tk : Tk G (upd G lr (.lst (rs.map V.ref ++ [V.ref v]))) := tk_upd el fun _ z => nomatch z
      have pT : ∀ {a : Addr} {x : Side}, PairAt G a x → PairAt (upd G lr (.lst (rs.map V.ref ++ [V.ref v]))) a x := fun ⟨q1, q2, y1, y2, y3⟩ => ⟨q1, q2, tk _ _ y1, tk _ _ y2, tk _ _ y3⟩
      have el3 := upd_same (H := G) (a := lr) (o := .lst (rs.map V.ref ++ [V.ref v]))
      have ed3 : upd G lr (.lst (rs.map V.ref ++ [V.ref v])) d = some (.dT (lotK R)) := by
        rw [upd_ne (fun z => by
          have := kH ed
          rw [z, el] at this
          cases this)]
        exact kH ed
      have pv3 := pT pv'
      have prs3 := (paired_imp (fun _ _ y => pT y) prs).snoc pv3
      have kp3 : Kp [lr] G2 (upd G lr (.lst (rs.map V.ref ++ [V.ref v]))) := fun b o nb y => by
        rw [upd_ne (fun z => nb (by rw [z]; exact List.mem_singleton.mpr rfl))]
        exact kp b o nb y
      generalize upd G lr (.lst (rs.map V.ref ++ [V.ref v])) = G3 at el3 ed3 pv3 prs3 kp3
      refine ⟨_, rfl, _, rfl, d, v, R, _, rfl, ed3, pv3, fun x G4 s4 px => ?_⟩
      refine ⟨m0 - (j + 1), by omega, j + 1, x, rs ++ [v], rfl, rfl, by omega, by omega, fun b o nb z => s4 _ _ (kp3 b o nb z), px, fun i i1 i2 => ?_, by rw [List.map_append]; exact s4 _ _ el3, ?_⟩
      · by_cases z : i = j
        · rw [z]
          exact ne
        · exact no i i1 (by omega)
      · rw [List.range_succ, List.map_append]
        exact paired_imp (fun _ _ y => PairAt.same y s4) prs3
    · have eq : iterS R e j = e := by simpa using y
      exact ⟨_, rfl, k lr G j _ sG ⟨rs, el, prs⟩ ⟨j1, eq, no, rfl⟩⟩
end
end Sq

set_option Elab.async false
set_option linter.all false
set_option maxRecDepth 100000
set_option maxHeartbeats 1000000
/-! Steps along a rest are just the pairs of neighbours in the ring. -/
namespace Sq
open PySem PySem.Spec PyProof.Rows L2
theorem step_iff {R : List Cell} {x y : Cell} : y ∈ stepsN R x ↔ ∃ d ∈ offs9, stepOk R x d = true ∧ plusC x d = y := by
  unfold stepsN
  rw [List.mem_map]
  constructor
  · rintro ⟨d, hd, rfl⟩
    obtain ⟨h1, h2⟩ := List.mem_filter.mp hd
    exact ⟨d, h1, h2, rfl⟩
  · rintro ⟨d, h1, h2, rfl⟩
    exact ⟨d, List.mem_filter.mpr ⟨h1, h2⟩, rfl⟩
theorem step_out {R : List Cell} {x y : Cell} (h : y ∈ stepsN R x) : y ∉ R ∧ y ≠ x := by
  obtain ⟨d, hd, ok, rfl⟩ := step_iff.mp h
  unfold stepOk at ok
  simp only [Bool.and_eq_true, Bool.not_eq_true', decide_eq_false_iff_not] at ok
  refine ⟨ok.1.1, fun z => ok.1.2 ?_⟩
  have z1 := congrArg Prod.fst z
  have z2 := congrArg Prod.snd z
  simp only [plusC] at z1 z2
  exact Prod.ext (by dsimp only; omega) (by dsimp only; omega)
def dirs4 : List Cell := [(1, 0), (0, 1), (-1, 0), (0, -1)]
def rotD (d : Cell) : Cell := (-d.2, d.1)
theorem side_dir {R : List Cell} {c s : Cell} (h : IsSide R (c, s)) : ∃ d ∈ dirs4, s = plusC c d := by
  have := beside_iff.mp h.bs
  dsimp only at this
  rcases this with ⟨e1, e2⟩ | ⟨e1, e2⟩ | ⟨e1, e2⟩ | ⟨e1, e2⟩
  · exact ⟨(-1, 0), by decide, Prod.ext (by dsimp only [plusC] <;> omega) (by dsimp only [plusC] <;> omega)⟩
  · exact ⟨(0, -1), by decide, Prod.ext (by dsimp only [plusC] <;> omega) (by dsimp only [plusC] <;> omega)⟩
  · exact ⟨(1, 0), by decide, Prod.ext (by dsimp only [plusC] <;> omega) (by dsimp only [plusC] <;> omega)⟩
  · exact ⟨(0, 1), by decide, Prod.ext (by dsimp only [plusC] <;> omega) (by dsimp only [plusC] <;> omega)⟩
theorem dir_side {R : List Cell} {c d : Cell} (hd : d ∈ dirs4) (hc : c ∉ R) (hs : plusC c d ∈ R) : IsSide R (c, plusC c d) := by
  refine ⟨hc, hs, ?_⟩
  simp only [dirs4, List.mem_cons, List.not_mem_nil, or_false] at hd
  rw [beside_iff]
  rcases hd with rfl | rfl | rfl | rfl <;> dsimp only [plusC] <;> omega
theorem ahead_dir (c d : Cell) : aheadS (c, plusC c d) = plusC c (rotD d) := Prod.ext (by simp only [aheadS, plusC, rotD]; omega) (by simp only [aheadS, plusC, rotD]; omega)
theorem beyond_dir (c d : Cell) : beyondS (c, plusC c d) = plusC (plusC c (rotD d)) d := Prod.ext (by simp only [beyondS, aheadS, plusC, rotD]; omega) (by simp only [beyondS, aheadS, plusC, rotD]; omega)
theorem pm1 (x : Int) : x + 1 + -1 = x := by omega
theorem mp1 (x : Int) : x + -1 + 1 = x := by omega
section
variable {R : List Cell} {c d : Cell}
theorem step_slide (hd : d ∈ dirs4) (hc : c ∉ R) (h1 : plusC c (rotD d) ∉ R) (h2 : plusC c d ∈ R) (h3 : plusC (plusC c (rotD d)) d ∈ R) : plusC c (rotD d) ∈ stepsN R c ∧ c ∈ stepsN R (plusC c (rotD d)) := by
  obtain ⟨c1, c2⟩ := c
  simp only [dirs4, List.mem_cons, List.not_mem_nil, or_false] at hd
  rcases hd with rfl | rfl | rfl | rfl
  · simp only [plusC, rotD, Int.neg_zero, Int.add_zero, Int.neg_neg, Int.add_neg_cancel_right, Int.neg_add_cancel_right] at h1 h2 h3 ⊢
    refine ⟨step_iff.mpr ⟨(0, 1), by decide, ?_, Prod.ext (by dsimp only [plusC] <;> omega) (by dsimp only [plusC] <;> omega)⟩, step_iff.mpr ⟨(0, -1), by decide, ?_, Prod.ext (by dsimp only [plusC] <;> omega) (by dsimp only [plusC] <;> omega)⟩⟩
    · simp [stepOk, plusC, sideB, turnsB, h1, h2, h3]
    · simp [stepOk, plusC, sideB, turnsB, hc, h2, h3, pm1, mp1]
  · simp only [plusC, rotD, Int.neg_zero, Int.add_zero, Int.neg_neg, Int.add_neg_cancel_right, Int.neg_add_cancel_right] at h1 h2 h3 ⊢
    refine ⟨step_iff.mpr ⟨(-1, 0), by decide, ?_, Prod.ext (by dsimp only [plusC] <;> omega) (by dsimp only [plusC] <;> omega)⟩, step_iff.mpr ⟨(1, 0), by decide, ?_, Prod.ext (by dsimp only [plusC] <;> omega) (by dsimp only [plusC] <;> omega)⟩⟩
    · simp [stepOk, plusC, sideB, turnsB, h1, h2, h3]
    · simp [stepOk, plusC, sideB, turnsB, hc, h2, h3, pm1, mp1]
  · simp only [plusC, rotD, Int.neg_zero, Int.add_zero, Int.neg_neg, Int.add_neg_cancel_right, Int.neg_add_cancel_right] at h1 h2 h3 ⊢
    refine ⟨step_iff.mpr ⟨(0, -1), by decide, ?_, Prod.ext (by dsimp only [plusC] <;> omega) (by dsimp only [plusC] <;> omega)⟩, step_iff.mpr ⟨(0, 1), by decide, ?_, Prod.ext (by dsimp only [plusC] <;> omega) (by dsimp only [plusC] <;> omega)⟩⟩
    · simp [stepOk, plusC, sideB, turnsB, h1, h2, h3]
    · simp [stepOk, plusC, sideB, turnsB, hc, h2, h3, pm1, mp1]
  · simp only [plusC, rotD, Int.neg_zero, Int.add_zero, Int.neg_neg, Int.add_neg_cancel_right, Int.neg_add_cancel_right] at h1 h2 h3 ⊢
    refine ⟨step_iff.mpr ⟨(1, 0), by decide, ?_, Prod.ext (by dsimp only [plusC] <;> omega) (by dsimp only [plusC] <;> omega)⟩, step_iff.mpr ⟨(-1, 0), by decide, ?_, Prod.ext (by dsimp only [plusC] <;> omega) (by dsimp only [plusC] <;> omega)⟩⟩
    · simp [stepOk, plusC, sideB, turnsB, h1, h2, h3]
    · simp [stepOk, plusC, sideB, turnsB, hc, h2, h3, pm1, mp1]
theorem step_turn (hd : d ∈ dirs4) (hc : c ∉ R) (h1 : plusC c (rotD d) ∉ R) (h2 : plusC c d ∈ R) (h3 : plusC (plusC c (rotD d)) d ∉ R) : plusC (plusC c (rotD d)) d ∈ stepsN R c ∧ c ∈ stepsN R (plusC (plusC c (rotD d)) d) := by
  obtain ⟨c1, c2⟩ := c
  simp only [dirs4, List.mem_cons, List.not_mem_nil, or_false] at hd
  rcases hd with rfl | rfl | rfl | rfl
  · simp only [plusC, rotD, Int.neg_zero, Int.add_zero, Int.neg_neg, Int.add_neg_cancel_right, Int.neg_add_cancel_right] at h1 h2 h3 ⊢
    refine ⟨step_iff.mpr ⟨(1, 1), by decide, ?_, Prod.ext (by dsimp only [plusC] <;> omega) (by dsimp only [plusC] <;> omega)⟩, step_iff.mpr ⟨(-1, -1), by decide, ?_, Prod.ext (by dsimp only [plusC] <;> omega) (by dsimp only [plusC] <;> omega)⟩⟩
    · simp [stepOk, plusC, sideB, turnsB, h1, h2, h3]
    · simp [stepOk, plusC, sideB, turnsB, hc, h1, h2, pm1, mp1]
  · simp only [plusC, rotD, Int.neg_zero, Int.add_zero, Int.neg_neg, Int.add_neg_cancel_right, Int.neg_add_cancel_right] at h1 h2 h3 ⊢
    refine ⟨step_iff.mpr ⟨(-1, 1), by decide, ?_, Prod.ext (by dsimp only [plusC] <;> omega) (by dsimp only [plusC] <;> omega)⟩, step_iff.mpr ⟨(1, -1), by decide, ?_, Prod.ext (by dsimp only [plusC] <;> omega) (by dsimp only [plusC] <;> omega)⟩⟩
    · simp [stepOk, plusC, sideB, turnsB, h1, h2, h3]
    · simp [stepOk, plusC, sideB, turnsB, hc, h1, h2, pm1, mp1]
  · simp only [plusC, rotD, Int.neg_zero, Int.add_zero, Int.neg_neg, Int.add_neg_cancel_right, Int.neg_add_cancel_right] at h1 h2 h3 ⊢
    refine ⟨step_iff.mpr ⟨(-1, -1), by decide, ?_, Prod.ext (by dsimp only [plusC] <;> omega) (by dsimp only [plusC] <;> omega)⟩, step_iff.mpr ⟨(1, 1), by decide, ?_, Prod.ext (by dsimp only [plusC] <;> omega) (by dsimp only [plusC] <;> omega)⟩⟩
    · simp [stepOk, plusC, sideB, turnsB, h1, h2, h3]
    · simp [stepOk, plusC, sideB, turnsB, hc, h1, h2, pm1, mp1]
  · simp only [plusC, rotD, Int.neg_zero, Int.add_zero, Int.neg_neg, Int.add_neg_cancel_right, Int.neg_add_cancel_right] at h1 h2 h3 ⊢
    refine ⟨step_iff.mpr ⟨(1, -1), by decide, ?_, Prod.ext (by dsimp only [plusC] <;> omega) (by dsimp only [plusC] <;> omega)⟩, step_iff.mpr ⟨(-1, 1), by decide, ?_, Prod.ext (by dsimp only [plusC] <;> omega) (by dsimp only [plusC] <;> omega)⟩⟩
    · simp [stepOk, plusC, sideB, turnsB, h1, h2, h3]
    · simp [stepOk, plusC, sideB, turnsB, hc, h1, h2, pm1, mp1]
theorem ring_step {e : Side} (sd : IsSide R e) (ne : (nextS R e).1 ≠ e.1) : (nextS R e).1 ∈ stepsN R e.1 ∧ e.1 ∈ stepsN R (nextS R e).1 := by
  obtain ⟨c, s⟩ := e
  obtain ⟨d, hd, rfl⟩ := side_dir sd
  have ho : c ∉ R := sd.out
  have hs : plusC c d ∈ R := sd.sq
  revert ne
  unfold nextS
  rw [ahead_dir, beyond_dir]
  split
  · exact fun ne => absurd rfl ne
  · rename_i h1
    split
    · rename_i h2
      exact fun _ => step_slide hd ho h1 hs h2
    · rename_i h2
      exact fun _ => step_turn hd ho h1 hs h2
/-- two cells that follow each other in the walk along the sides, in one of both orders -/
def Pairs2 (R : List Cell) (x y : Cell) : Prop := ∃ e, IsSide R e ∧ ((e.1 = x ∧ (nextS R e).1 = y) ∨ (e.1 = y ∧ (nextS R e).1 = x))
theorem pair_slide (hd : d ∈ dirs4) (hc : c ∉ R) (h1 : plusC c (rotD d) ∉ R) (h2 : plusC c d ∈ R) (h3 : plusC (plusC c (rotD d)) d ∈ R) : IsSide R (c, plusC c d) ∧ (nextS R (c, plusC c d)).1 = plusC c (rotD d) := by
  refine ⟨dir_side hd hc h2, ?_⟩
  unfold nextS
  rw [ahead_dir, beyond_dir, if_neg h1, if_pos h3]
theorem pair_turn (hd : d ∈ dirs4) (hc : c ∉ R) (h1 : plusC c (rotD d) ∉ R) (h2 : plusC c d ∈ R) (h3 : plusC (plusC c (rotD d)) d ∉ R) : IsSide R (c, plusC c d) ∧ (nextS R (c, plusC c d)).1 = plusC (plusC c (rotD d)) d := by
  refine ⟨dir_side hd hc h2, ?_⟩
  unfold nextS
  rw [ahead_dir, beyond_dir, if_neg h1, if_neg h3]
theorem step_pair {x y : Cell} (hx : x ∉ R) (h : y ∈ stepsN R x) : Pairs2 R x y := by
  have hy := (step_out h).1
  obtain ⟨o, ho, ok, rfl⟩ := step_iff.mp h
  obtain ⟨x1, x2⟩ := x
  simp only [offs9, List.mem_cons, List.not_mem_nil, or_false] at ho
  have fwd : ∀ {d y : Cell}, d ∈ dirs4 → plusC (x1, x2) (rotD d) = y → y ∉ R → plusC (x1, x2) d ∈ R → plusC y d ∈ R → Pairs2 R (x1, x2) y := fun {d y} hd e n1 n2 n3 => by
    subst e
    obtain ⟨a, b⟩ := pair_slide hd hx n1 n2 n3
    exact ⟨_, a, .inl ⟨rfl, b⟩⟩
  have bwd : ∀ {d y : Cell}, d ∈ dirs4 → plusC y (rotD d) = (x1, x2) → y ∉ R → plusC (x1, x2) d ∈ R → plusC y d ∈ R → Pairs2 R (x1, x2) y := fun {d y} hd e n1 n2 n3 => by
    obtain ⟨a, b⟩ := pair_slide hd n1 (by rw [e]; exact hx) n3 (by rw [e]; exact n2)
    exact ⟨_, a, .inr ⟨rfl, b.trans e⟩⟩
  have tfw : ∀ {d y : Cell}, d ∈ dirs4 → plusC (plusC (x1, x2) (rotD d)) d = y → y ∉ R → plusC (x1, x2) d ∈ R → plusC (x1, x2) (rotD d) ∉ R → Pairs2 R (x1, x2) y := fun {d y} hd e n1 n2 n3 => by
    subst e
    obtain ⟨a, b⟩ := pair_turn hd hx n3 n2 n1
    exact ⟨_, a, .inl ⟨rfl, b⟩⟩
  have tbw : ∀ {d y : Cell}, d ∈ dirs4 → plusC (plusC y (rotD d)) d = (x1, x2) → y ∉ R → plusC y d ∈ R → plusC y (rotD d) ∉ R → Pairs2 R (x1, x2) y := fun {d y} hd e n1 n2 n3 => by
    obtain ⟨a, b⟩ := pair_turn hd n1 n3 n2 (by rw [e]; exact hx)
    exact ⟨_, a, .inr ⟨rfl, b.trans e⟩⟩
  rcases ho with rfl | rfl | rfl | rfl | rfl | rfl | rfl | rfl | rfl
  · simp only [stepOk, Bool.and_eq_true, Bool.not_eq_true', decide_eq_false_iff_not] at ok
    obtain ⟨_, ok⟩ := ok
    rw [if_pos (by decide)] at ok
    unfold turnsB at ok
    have cs : ((x1, (plusC (x1, x2) (-1, -1)).2) ∈ R ∧ ((plusC (x1, x2) (-1, -1)).1, x2) ∉ R) ∨ ((x1, (plusC (x1, x2) (-1, -1)).2) ∉ R ∧ ((plusC (x1, x2) (-1, -1)).1, x2) ∈ R) := by
      by_cases p : (x1, (plusC (x1, x2) (-1, -1)).2) ∈ R <;> by_cases q : ((plusC (x1, x2) (-1, -1)).1, x2) ∈ R <;> simp_all
    rcases cs with ⟨k1, k2⟩ | ⟨k1, k2⟩
    · exact tbw (d := (1, 0)) (by decide) (Prod.ext (by dsimp only [plusC, rotD] <;> omega) (by dsimp only [plusC, rotD] <;> omega)) hy (by have e : plusC (plusC (x1, x2) (-1, -1)) (1, 0) = (x1 + 0, x2 + -1) := Prod.ext (by dsimp only [plusC, rotD] <;> omega) (by dsimp only [plusC, rotD] <;> omega); rw [e]; simpa [plusC] using k1) (by have e : plusC (plusC (x1, x2) (-1, -1)) (rotD (1, 0)) = (x1 + -1, x2 + 0) := Prod.ext (by dsimp only [plusC, rotD] <;> omega) (by dsimp only [plusC, rotD] <;> omega); rw [e]; simpa [plusC] using k2)
    · exact tfw (d := (-1, 0)) (by decide) (Prod.ext (by dsimp only [plusC, rotD] <;> omega) (by dsimp only [plusC, rotD] <;> omega)) hy (by simpa [plusC] using k2) (by simpa [plusC, rotD] using k1)
  · simp only [stepOk, Bool.and_eq_true, Bool.not_eq_true', decide_eq_false_iff_not] at ok
    obtain ⟨_, ok⟩ := ok
    rw [if_neg (by decide), Bool.or_eq_true] at ok
    rcases ok with ok | ok <;> (unfold sideB at ok; rw [Bool.and_eq_true, decide_eq_true_iff, decide_eq_true_iff] at ok; obtain ⟨k1, k2⟩ := ok)
    · exact bwd (d := (0, -1)) (by decide) (Prod.ext (by dsimp only [plusC, rotD] <;> omega) (by dsimp only [plusC, rotD] <;> omega)) hy (by simpa [plusC] using k1) (by simpa [plusC] using k2)
    · exact fwd (d := (0, 1)) (by decide) (Prod.ext (by dsimp only [plusC, rotD] <;> omega) (by dsimp only [plusC, rotD] <;> omega)) hy (by simpa [plusC] using k1) (by simpa [plusC] using k2)
  · simp only [stepOk, Bool.and_eq_true, Bool.not_eq_true', decide_eq_false_iff_not] at ok
    obtain ⟨_, ok⟩ := ok
    rw [if_pos (by decide)] at ok
    unfold turnsB at ok
    have cs : ((x1, (plusC (x1, x2) (-1, 1)).2) ∈ R ∧ ((plusC (x1, x2) (-1, 1)).1, x2) ∉ R) ∨ ((x1, (plusC (x1, x2) (-1, 1)).2) ∉ R ∧ ((plusC (x1, x2) (-1, 1)).1, x2) ∈ R) := by
      by_cases p : (x1, (plusC (x1, x2) (-1, 1)).2) ∈ R <;> by_cases q : ((plusC (x1, x2) (-1, 1)).1, x2) ∈ R <;> simp_all
    rcases cs with ⟨k1, k2⟩ | ⟨k1, k2⟩
    · exact tfw (d := (0, 1)) (by decide) (Prod.ext (by dsimp only [plusC, rotD] <;> omega) (by dsimp only [plusC, rotD] <;> omega)) hy (by simpa [plusC] using k1) (by simpa [plusC, rotD] using k2)
    · exact tbw (d := (0, -1)) (by decide) (Prod.ext (by dsimp only [plusC, rotD] <;> omega) (by dsimp only [plusC, rotD] <;> omega)) hy (by have e : plusC (plusC (x1, x2) (-1, 1)) (0, -1) = (x1 + -1, x2 + 0) := Prod.ext (by dsimp only [plusC, rotD] <;> omega) (by dsimp only [plusC, rotD] <;> omega); rw [e]; simpa [plusC] using k2) (by have e : plusC (plusC (x1, x2) (-1, 1)) (rotD (0, -1)) = (x1 + 0, x2 + 1) := Prod.ext (by dsimp only [plusC, rotD] <;> omega) (by dsimp only [plusC, rotD] <;> omega); rw [e]; simpa [plusC] using k1)
  · simp only [stepOk, Bool.and_eq_true, Bool.not_eq_true', decide_eq_false_iff_not] at ok
    obtain ⟨_, ok⟩ := ok
    rw [if_neg (by decide), Bool.or_eq_true] at ok
    rcases ok with ok | ok <;> (unfold sideB at ok; rw [Bool.and_eq_true, decide_eq_true_iff, decide_eq_true_iff] at ok; obtain ⟨k1, k2⟩ := ok)
    · exact fwd (d := (-1, 0)) (by decide) (Prod.ext (by dsimp only [plusC, rotD] <;> omega) (by dsimp only [plusC, rotD] <;> omega)) hy (by simpa [plusC] using k1) (by simpa [plusC] using k2)
    · exact bwd (d := (1, 0)) (by decide) (Prod.ext (by dsimp only [plusC, rotD] <;> omega) (by dsimp only [plusC, rotD] <;> omega)) hy (by simpa [plusC] using k1) (by simpa [plusC] using k2)
  · simp [stepOk] at ok
  · simp only [stepOk, Bool.and_eq_true, Bool.not_eq_true', decide_eq_false_iff_not] at ok
    obtain ⟨_, ok⟩ := ok
    rw [if_neg (by decide), Bool.or_eq_true] at ok
    rcases ok with ok | ok <;> (unfold sideB at ok; rw [Bool.and_eq_true, decide_eq_true_iff, decide_eq_true_iff] at ok; obtain ⟨k1, k2⟩ := ok)
    · exact fwd (d := (1, 0)) (by decide) (Prod.ext (by dsimp only [plusC, rotD] <;> omega) (by dsimp only [plusC, rotD] <;> omega)) hy (by simpa [plusC] using k1) (by simpa [plusC] using k2)
    · exact bwd (d := (-1, 0)) (by decide) (Prod.ext (by dsimp only [plusC, rotD] <;> omega) (by dsimp only [plusC, rotD] <;> omega)) hy (by simpa [plusC] using k1) (by simpa [plusC] using k2)
  · simp only [stepOk, Bool.and_eq_true, Bool.not_eq_true', decide_eq_false_iff_not] at ok
    obtain ⟨_, ok⟩ := ok
    rw [if_pos (by decide)] at ok
    unfold turnsB at ok
    have cs : ((x1, (plusC (x1, x2) (1, -1)).2) ∈ R ∧ ((plusC (x1, x2) (1, -1)).1, x2) ∉ R) ∨ ((x1, (plusC (x1, x2) (1, -1)).2) ∉ R ∧ ((plusC (x1, x2) (1, -1)).1, x2) ∈ R) := by
      by_cases p : (x1, (plusC (x1, x2) (1, -1)).2) ∈ R <;> by_cases q : ((plusC (x1, x2) (1, -1)).1, x2) ∈ R <;> simp_all
    rcases cs with ⟨k1, k2⟩ | ⟨k1, k2⟩
    · exact tfw (d := (0, -1)) (by decide) (Prod.ext (by dsimp only [plusC, rotD] <;> omega) (by dsimp only [plusC, rotD] <;> omega)) hy (by simpa [plusC] using k1) (by simpa [plusC, rotD] using k2)
    · exact tbw (d := (0, 1)) (by decide) (Prod.ext (by dsimp only [plusC, rotD] <;> omega) (by dsimp only [plusC, rotD] <;> omega)) hy (by have e : plusC (plusC (x1, x2) (1, -1)) (0, 1) = (x1 + 1, x2 + 0) := Prod.ext (by dsimp only [plusC, rotD] <;> omega) (by dsimp only [plusC, rotD] <;> omega); rw [e]; simpa [plusC] using k2) (by have e : plusC (plusC (x1, x2) (1, -1)) (rotD (0, 1)) = (x1 + 0, x2 + -1) := Prod.ext (by dsimp only [plusC, rotD] <;> omega) (by dsimp only [plusC, rotD] <;> omega); rw [e]; simpa [plusC] using k1)
  · simp only [stepOk, Bool.and_eq_true, Bool.not_eq_true', decide_eq_false_iff_not] at ok
    obtain ⟨_, ok⟩ := ok
    rw [if_neg (by decide), Bool.or_eq_true] at ok
    rcases ok with ok | ok <;> (unfold sideB at ok; rw [Bool.and_eq_true, decide_eq_true_iff, decide_eq_true_iff] at ok; obtain ⟨k1, k2⟩ := ok)
    · exact bwd (d := (0, 1)) (by decide) (Prod.ext (by dsimp only [plusC, rotD] <;> omega) (by dsimp only [plusC, rotD] <;> omega)) hy (by simpa [plusC] using k1) (by simpa [plusC] using k2)
    · exact fwd (d := (0, -1)) (by decide) (Prod.ext (by dsimp only [plusC, rotD] <;> omega) (by dsimp only [plusC, rotD] <;> omega)) hy (by simpa [plusC] using k1) (by simpa [plusC] using k2)
  · simp only [stepOk, Bool.and_eq_true, Bool.not_eq_true', decide_eq_false_iff_not] at ok
    obtain ⟨_, ok⟩ := ok
    rw [if_pos (by decide)] at ok
    unfold turnsB at ok
    have cs : ((x1, (plusC (x1, x2) (1, 1)).2) ∈ R ∧ ((plusC (x1, x2) (1, 1)).1, x2) ∉ R) ∨ ((x1, (plusC (x1, x2) (1, 1)).2) ∉ R ∧ ((plusC (x1, x2) (1, 1)).1, x2) ∈ R) := by
      by_cases p : (x1, (plusC (x1, x2) (1, 1)).2) ∈ R <;> by_cases q : ((plusC (x1, x2) (1, 1)).1, x2) ∈ R <;> simp_all
    rcases cs with ⟨k1, k2⟩ | ⟨k1, k2⟩
    · exact tbw (d := (-1, 0)) (by decide) (Prod.ext (by dsimp only [plusC, rotD] <;> omega) (by dsimp only [plusC, rotD] <;> omega)) hy (by have e : plusC (plusC (x1, x2) (1, 1)) (-1, 0) = (x1 + 0, x2 + 1) := Prod.ext (by dsimp only [plusC, rotD] <;> omega) (by dsimp only [plusC, rotD] <;> omega); rw [e]; simpa [plusC] using k1) (by have e : plusC (plusC (x1, x2) (1, 1)) (rotD (-1, 0)) = (x1 + 1, x2 + 0) := Prod.ext (by dsimp only [plusC, rotD] <;> omega) (by dsimp only [plusC, rotD] <;> omega); rw [e]; simpa [plusC] using k2)
    · exact tfw (d := (1, 0)) (by decide) (Prod.ext (by dsimp only [plusC, rotD] <;> omega) (by dsimp only [plusC, rotD] <;> omega)) hy (by simpa [plusC] using k2) (by simpa [plusC, rotD] using k1)
end
end Sq

set_option Elab.async false
set_option linter.all false
set_option maxRecDepth 100000
set_option maxHeartbeats 1000000
/-! Ways: a dict of lists of cells. -/
namespace Sq
open PySem PySem.Spec PyProof.Rows L2
abbrev WyE := Cell × Addr × List Cell
def wyK (T : List WyE) : List (List Key × V) := kvG (fun x : WyE => x.1) (fun x => V.ref x.2.1) T
def keysW (T : List WyE) : List Cell := T.map fun x => x.1
def nbW (T : List WyE) (x y : Cell) : Prop := ∃ e ∈ T, e.1 = x ∧ y ∈ e.2.2
/-- ways told by entries -/
structure WaysAt (G : Hp) (d : Addr) (T : List WyE) (n : Nat) : Prop where
  gd : G d = some (.dT (wyK T))
  nk : (keysW T).Nodup
  ls : ∀ e ∈ T, CellsL G e.2.1 e.2.2 ∧ e.2.2.length ≤ n
  ln : T.length ≤ n + 1
/-- ways while they grow: B the heap ahead, z0 the first list -/
structure Wys (B : Hp) (d z0 : Addr) (T : List WyE) (n : Nat) (G : Hp) : Prop where
  kp : Kp [d, z0] B G
  wa : WaysAt G d T n
  na : (T.map fun x => x.2.1).Nodup
  al : ∀ e ∈ T, e.2.1 = z0 ∨ B e.2.1 = none
  zz : ∃ e ∈ T, e.2.1 = z0
structure PutW (T T' : List WyE) (x y : Cell) : Prop where
  ky : ∀ c, c ∈ keysW T' ↔ c ∈ keysW T ∨ c = x
  nb : ∀ u v, nbW T' u v ↔ nbW T u v ∨ (u = x ∧ v = y)
theorem CellsL.tk {G H : Hp} {a : Addr} {cs : List Cell} (h : CellsL G a cs) (k : Tk G H) (e : H a = G a) : CellsL H a cs := by
  obtain ⟨qs, e1, pr⟩ := h
  exact ⟨qs, by rw [e]; exact e1, paired_imp (fun _ _ y => k _ _ y) pr⟩
section
variable {B G : Hp} {d z0 : Addr} {T : List WyE} {n : Nat}
theorem WaysAt.there (h : WaysAt G d T n) {x : Cell} {u : V} (e : valV (wyK T) (cK x) = some u) : ∃ l ∈ T, l.1 = x ∧ u = .ref l.2.1 := by
  have m : x ∈ keysW T := Classical.byContradiction fun nn => by
    have := kv_no (k := fun x : WyE => x.1) (v := fun x => V.ref x.2.1) nn
    rw [show valV (wyK T) (cK x) = none from this] at e
    cases e
  obtain ⟨l, hl, rfl⟩ := List.mem_map.mp m
  have := kv_yes (k := fun x : WyE => x.1) (v := fun x => V.ref x.2.1) h.nk hl
  rw [show valV (wyK T) (cK l.1) = some (.ref l.2.1) from this] at e
  exact ⟨l, hl, rfl, (Option.some.inj e).symm⟩
theorem WaysAt.val (h : WaysAt G d T n) {l : WyE} (hl : l ∈ T) : valV (wyK T) (cK l.1) = some (.ref l.2.1) := kv_yes (k := fun x : WyE => x.1) (v := fun x => V.ref x.2.1) h.nk hl
theorem WaysAt.gone (h : WaysAt G d T n) {x : Cell} (e : valV (wyK T) (cK x) = none) : x ∉ keysW T := fun m => by
  obtain ⟨l, hl, rfl⟩ := List.mem_map.mp m
  rw [h.val hl] at e
  cases e
theorem WaysAt.same {G' : Hp} (h : WaysAt G d T n) (s : Same G G') : WaysAt G' d T n := ⟨s _ _ h.gd, h.nk, fun e he => by
  obtain ⟨⟨qs, e1, pr⟩, l⟩ := h.ls e he
  exact ⟨⟨qs, s _ _ e1, paired_imp (fun _ _ y => s _ _ y) pr⟩, l⟩, h.ln⟩
theorem inj_of_nodup {α β : Type} {f : α → β} : ∀ {T : List α}, (T.map f).Nodup → ∀ {a b : α}, a ∈ T → b ∈ T → f a = f b → a = b
  | [], _, _, _, h, _, _ => nomatch h
  | t :: T, nd, a, b, ha, hb, e => by
    have nd : (f t :: T.map f).Nodup := nd
    obtain ⟨n1, n2⟩ := List.nodup_cons.mp nd
    rcases List.mem_cons.mp ha with ea | ha <;> rcases List.mem_cons.mp hb with eb | hb
    · rw [ea, eb]
    · rw [ea] at e
      exact absurd (List.mem_map.mpr ⟨b, hb, e.symm⟩) n1
    · rw [eb] at e
      exact absurd (List.mem_map.mpr ⟨a, ha, e⟩) n1
    · exact inj_of_nodup n2 ha hb e
theorem Wys.old (h : Wys B d z0 T n G) {z q : Addr} {y : Cell} (hz : G z = none) (aq : At G q y) {l : WyE} (hl : l ∈ T) {qs : List Addr} (eq : G l.2.1 = some (.lst (qs.map V.ref))) (pq : Paired (fun q c => At G q c) qs l.2.2) :
    ∃ T', Wys B d z0 T' (n + 1) (upd (upd G z (.lst [])) l.2.1 (.lst (qs.map V.ref ++ [V.ref q]))) ∧ PutW T T' l.1 y := by
  have nlz : l.2.1 ≠ z := fun e => by rw [e, hz] at eq; cases eq
  have nld : l.2.1 ≠ d := fun e => by have := h.wa.gd; rw [← e, eq] at this; cases this
  have ndz : d ≠ z := fun e => by have := h.wa.gd; rw [e, hz] at this; cases this
  have s3 := same_new (o := HO.lst []) hz
  have tk : Tk G (upd (upd G z (.lst [])) l.2.1 (.lst (qs.map V.ref ++ [V.ref q]))) := fun b xs e => by
    rw [upd_ne (fun w => by rw [w, eq] at e; cases e)]
    exact s3 _ _ e
  refine ⟨T.map fun e => if e.2.1 = l.2.1 then (e.1, e.2.1, e.2.2 ++ [y]) else e, ⟨fun b o nb e => ?_, ⟨?_, ?_, ?_, ?_⟩, ?_, ?_, ?_⟩, ?_, ?_⟩
  · have n1 : b ≠ l.2.1 := fun w => by
      rcases h.al l hl with a | a
      · exact nb (by rw [w, a]; simp)
      · rw [w, a] at e
        cases e
    rw [upd_ne n1]
    exact s3 _ _ (h.kp b o nb e)
  · rw [upd_ne nld.symm, upd_ne ndz, h.wa.gd]
    unfold wyK kvG
    rw [List.map_map]
    congr 2
    refine List.map_congr_left fun e he => ?_
    dsimp only [Function.comp]
    split <;> rfl
  · have : keysW (T.map fun e => if e.2.1 = l.2.1 then (e.1, e.2.1, e.2.2 ++ [y]) else e) = keysW T := by
      unfold keysW
      rw [List.map_map]
      refine List.map_congr_left fun e he => ?_
      dsimp only [Function.comp]
      split <;> rfl
    rw [this]
    exact h.wa.nk
  · intro e he
    obtain ⟨e0, h0, rfl⟩ := List.mem_map.mp he
    split
    · rename_i c
      obtain rfl := inj_of_nodup h.na h0 hl c
      refine ⟨⟨qs ++ [q], by rw [upd_same, List.map_append]; rfl, (paired_imp (fun _ _ w => tk _ _ w) pq).snoc (tk _ _ aq)⟩, ?_⟩
      rw [List.length_append]
      exact Nat.succ_le_succ (h.wa.ls _ h0).2
    · rename_i c
      obtain ⟨c1, c2⟩ := h.wa.ls e0 h0
      refine ⟨c1.tk tk ?_, Nat.le_succ_of_le c2⟩
      have ne : e0.2.1 ≠ z := fun w => by
        obtain ⟨_, c3, _⟩ := c1
        rw [w, hz] at c3
        cases c3
      rw [upd_ne c, upd_ne ne]
  · rw [List.length_map]
    exact Nat.le_succ_of_le h.wa.ln
  · have : (T.map fun e => if e.2.1 = l.2.1 then (e.1, e.2.1, e.2.2 ++ [y]) else e).map (fun x => x.2.1) = T.map fun x => x.2.1 := by
      rw [List.map_map]
      refine List.map_congr_left fun e he => ?_
      dsimp only [Function.comp]
      split <;> rfl
    rw [this]
    exact h.na
  · intro e he
    obtain ⟨e0, h0, rfl⟩ := List.mem_map.mp he
    split <;> exact h.al e0 h0
  · obtain ⟨e0, h0, e1⟩ := h.zz
    refine ⟨_, List.mem_map.mpr ⟨e0, h0, rfl⟩, ?_⟩
    split <;> exact e1
  · intro c
    have : keysW (T.map fun e => if e.2.1 = l.2.1 then (e.1, e.2.1, e.2.2 ++ [y]) else e) = keysW T := by
      unfold keysW
      rw [List.map_map]
      refine List.map_congr_left fun e he => ?_
      dsimp only [Function.comp]
      split <;> rfl
    rw [this]
    exact ⟨.inl, fun o => o.elim id fun w => by rw [w]; exact List.mem_map.mpr ⟨l, hl, rfl⟩⟩
  · intro u v
    constructor
    · rintro ⟨e, he, h1, h2⟩
      obtain ⟨e0, h0, rfl⟩ := List.mem_map.mp he
      split at h1
      · rename_i c
        obtain rfl := inj_of_nodup h.na h0 hl c
        rw [if_pos rfl] at h2
        rcases List.mem_append.mp h2 with w | w
        · exact .inl ⟨_, h0, h1, w⟩
        · exact .inr ⟨h1.symm, List.mem_singleton.mp w⟩
      · rename_i c
        rw [if_neg c] at h2
        exact .inl ⟨e0, h0, h1, h2⟩
    · rintro (⟨e, he, h1, h2⟩ | ⟨rfl, rfl⟩)
      · refine ⟨_, List.mem_map.mpr ⟨e, he, rfl⟩, ?_⟩
        split
        · exact ⟨h1, List.mem_append_left _ h2⟩
        · exact ⟨h1, h2⟩
      · refine ⟨_, List.mem_map.mpr ⟨l, hl, rfl⟩, ?_⟩
        rw [if_pos rfl]
        exact ⟨rfl, List.mem_append_right _ (List.mem_singleton.mpr rfl)⟩
theorem Wys.new (h : Wys B d z0 T n G) {z q : Addr} {x y : Cell} (hz : G z = none) (aq : At G q y) (nx : x ∉ keysW T) :
    ∃ T', Wys B d z0 T' (n + 1) (upd (upd (upd G z (.lst [])) d (.dT (putK (wyK T) (cK x) (.ref z)))) z (.lst ([] ++ [V.ref q]))) ∧ PutW T T' x y := by
  have ndz : d ≠ z := fun e => by have := h.wa.gd; rw [e, hz] at this; cases this
  have s3 := same_new (o := HO.lst []) hz
  have put : putK (wyK T) (cK x) (.ref z) = wyK (T ++ [(x, z, [y])]) := kv_put (k := fun x : WyE => x.1) (v := fun x => V.ref x.2.1) (p := ((x, z, [y]) : WyE)) nx
  rw [put]
  have off : ∀ {b : Addr} {o : HO}, b ≠ d → G b = some o → upd (upd (upd G z (.lst [])) d (.dT (wyK (T ++ [(x, z, [y])])))) z (.lst ([] ++ [V.ref q])) b = some o := fun {b o} nb e => by
    rw [upd_ne (fun w => by rw [w, hz] at e; cases e), upd_ne nb]
    exact s3 _ _ e
  have tk : Tk G (upd (upd (upd G z (.lst [])) d (.dT (wyK (T ++ [(x, z, [y])])))) z (.lst ([] ++ [V.ref q]))) := fun b xs e => off (fun w => by
    have := h.wa.gd
    rw [← w, e] at this
    cases this) e
  have zne : ∀ e ∈ T, e.2.1 ≠ z := fun e he w => by
    obtain ⟨⟨_, c3, _⟩, _⟩ := h.wa.ls e he
    rw [w, hz] at c3
    cases c3
  have dne : ∀ e ∈ T, e.2.1 ≠ d := fun e he w => by
    obtain ⟨⟨_, c3, _⟩, _⟩ := h.wa.ls e he
    have := h.wa.gd
    rw [← w, c3] at this
    cases this
  have zB : B z = none := by
    cases w : B z with
    | none => rfl
    | some o =>
      have := h.kp z o (fun m => by
        simp only [List.mem_cons, List.not_mem_nil, or_false] at m
        rcases m with m | m
        · exact ndz m.symm
        · obtain ⟨e0, h0, e1⟩ := h.zz
          exact zne e0 h0 (e1.trans m.symm)) w
      rw [hz] at this
      cases this
  refine ⟨T ++ [(x, z, [y])], ⟨fun b o nb e => ?_, ⟨?_, ?_, ?_, ?_⟩, ?_, ?_, ?_⟩, ?_, ?_⟩
  · exact off (fun w => nb (by rw [w]; simp)) (h.kp b o nb e)
  · rw [upd_ne ndz, upd_same]
  · unfold keysW
    rw [List.map_append]
    exact nodup_snoc h.wa.nk nx
  · intro e he
    rcases List.mem_append.mp he with w | w
    · obtain ⟨c1, c2⟩ := h.wa.ls e w
      refine ⟨c1.tk tk ?_, Nat.le_succ_of_le c2⟩
      rw [upd_ne (zne e w), upd_ne (dne e w), upd_ne (zne e w)]
    · rw [List.mem_singleton.mp w]
      exact ⟨⟨[q], upd_same, .cons (tk _ _ aq) .nil⟩, Nat.succ_le_succ (Nat.zero_le n)⟩
  · rw [List.length_append]
    exact Nat.succ_le_succ h.wa.ln
  · rw [List.map_append]
    refine List.nodup_append.mpr ⟨h.na, List.pairwise_singleton _ _, fun a ha b hb w => ?_⟩
    obtain ⟨e, he, rfl⟩ := List.mem_map.mp ha
    rw [List.mem_singleton.mp hb] at w
    exact zne e he w
  · intro e he
    rcases List.mem_append.mp he with w | w
    · exact h.al e w
    · rw [List.mem_singleton.mp w]
      exact .inr zB
  · obtain ⟨e0, h0, e1⟩ := h.zz
    exact ⟨e0, List.mem_append_left _ h0, e1⟩
  · intro c
    unfold keysW
    rw [List.map_append, List.mem_append]
    show _ ∨ c ∈ [x] ↔ _
    rw [List.mem_singleton]
  · intro u v
    constructor
    · rintro ⟨e, he, h1, h2⟩
      rcases List.mem_append.mp he with w | w
      · exact .inl ⟨e, w, h1, h2⟩
      · rw [List.mem_singleton.mp w] at h1 h2
        exact .inr ⟨h1.symm, List.mem_singleton.mp h2⟩
    · rintro (⟨e, he, h1, h2⟩ | ⟨rfl, rfl⟩)
      · exact ⟨e, List.mem_append_left _ he, h1, h2⟩
      · exact ⟨_, List.mem_append_right _ (List.mem_singleton.mpr rfl), rfl, List.mem_singleton.mpr rfl⟩
end
section
variable {P : Program} {w : World} {K : PySem.W.Frag} {mg : Str → Option Value} {base : Heap}
theorem ps_weak {X : Cx} {st : Stmt} {t t' : TS} (h : PS X st t) (k : ∀ D σ H, t' D σ H → t D σ H) : PS X st t' := ⟨fun pins s σ H D I a => h.run pins s σ H D I (k D σ H a)⟩
/-- ways.setdefault(x, []).append(y) -/
def tWay (a i j : Nat) : TS := fun D σ G => ∃ (d z0 : Addr) (B : Hp) (T : List WyE) (n : Nat) (qx qy : Addr) (x y : Cell), σ[a]? = some (some (.ref d)) ∧ σ[i]? = some (some (.ref qx)) ∧ σ[j]? = some (some (.ref qy)) ∧ Wys B d z0 T n G ∧ At G qx x ∧ At G qy y ∧ n ≤ 100000 ∧
  ∀ G' T', Wys B d z0 T' (n + 1) G' → PutW T T' x y → D.nx σ G'
/-- the side ahead of the j-th of a ring of m sides -/
def prS (R : List Cell) (e : Side) (m : Nat) : Nat → Side
  | 0 => iterS R e (m - 1)
  | j + 1 => iterS R e j
theorem prS_next {R : List Cell} {e : Side} {m : Nat} {O : List Side} (ro : RingOf R e m O) : ∀ j, nextS R (prS R e m j) = iterS R e j
  | 0 => by
    have := ro.ret
    have h1 : m = (m - 1) + 1 := by have := ro.pos; omega
    rw [h1] at this
    exact this
  | j + 1 => rfl
theorem prS_side {R : List Cell} {e : Side} {m : Nat} (sd : IsSide R e) : ∀ j, IsSide R (prS R e m j)
  | 0 => iter_side sd _
  | j + 1 => iter_side sd j
theorem prS_air {R : List Cell} {e : Side} {m : Nat} (sd : IsSide R e) : ∀ j, Air R e.1 (prS R e m j).1
  | 0 => iter_air sd _
  | j + 1 => iter_air sd j
theorem ring_ways {R : List Cell} {e : Side} {m : Nat} {O : List Side} (hR : Hangs R) (sd : IsSide R e) (ro : RingOf R e m O) (u v : Cell) :
    (∃ j, j < m ∧ (iterS R e j).1 ≠ (prS R e m j).1 ∧ ((u = (prS R e m j).1 ∧ v = (iterS R e j).1) ∨ (u = (iterS R e j).1 ∧ v = (prS R e m j).1))) ↔ Air R e.1 u ∧ v ∈ stepsN R u := by
  constructor
  · rintro ⟨j, hj, ne, hh⟩
    have st := ring_step (prS_side (m := m) sd j) (by rw [prS_next ro]; exact ne)
    rw [prS_next ro] at st
    rcases hh with ⟨rfl, rfl⟩ | ⟨rfl, rfl⟩
    · exact ⟨prS_air sd j, st.1⟩
    · exact ⟨iter_air sd j, st.2⟩
  · rintro ⟨au, hv⟩
    have uo := au.out sd.out
    obtain ⟨e', sd', hh⟩ := step_pair uo hv
    have ne := (step_out hv).2
    have ae : Air R e.1 e'.1 := by
      rcases hh with ⟨rfl, _⟩ | ⟨h1, h2⟩
      · exact au
      · have a1 : Air R e'.1 (nextS R e').1 := iter_air sd' 1
        rw [h2] at a1
        exact au.trans (a1.symm sd'.out)
    have mO : e' ∈ O := (ro.mem hR sd).mpr ⟨ae, sd'⟩
    rw [ro.eq] at mO
    obtain ⟨k, hk, ek⟩ := List.mem_map.mp mO
    have hk := List.mem_range.mp hk
    obtain ⟨j, hj, ej⟩ : ∃ j, j < m ∧ prS R e m j = e' := by
      by_cases z : k + 1 = m
      · refine ⟨0, ro.pos, ?_⟩
        show iterS R e (m - 1) = e'
        rw [← ek]
        congr 1
        omega
      · exact ⟨k + 1, by omega, ek⟩
    have ex := prS_next ro j
    rw [ej] at ex
    refine ⟨j, hj, ?_, ?_⟩
    · rw [← ex, ej]
      rcases hh with ⟨h1, h2⟩ | ⟨h1, h2⟩
      · rw [h1, h2]
        exact ne
      · rw [h1, h2]
        exact ne.symm
    · rw [← ex, ej]
      rcases hh with ⟨h1, h2⟩ | ⟨h1, h2⟩
      · exact .inl ⟨h1.symm, h2.symm⟩
      · exact .inr ⟨h2.symm, h1.symm⟩
theorem ring_small {R : List Cell} {e : Side} {m : Nat} {O : List Side} (sd : IsSide R e) (ro : RingOf R e m O) : m ≤ 4 * R.length := by
  obtain ⟨k, p, l, r⟩ := iter_ret sd
  by_cases h : k < m
  · exact absurd r (ro.least k p h)
  · omega
/-- the ways of the walks that begin at c: of each cell that is reached, its steps -/
structure WaysOf (R : List Cell) (c : Cell) (T : List WyE) : Prop where
  nb : ∀ x y, nbW T x y ↔ Air R c x ∧ y ∈ stepsN R x
  ky : ∀ x, x ∈ keysW T ↔ x = c ∨ ∃ y, nbW T x y
def spWays : Sp := fun vs H Q _ => ∃ (d q : Addr) (L : List Cell) (c : Cell), vs = [.ref d, .ref q] ∧ H d = some (.dT (lotK L)) ∧ L.Nodup ∧ L.length ≤ 1000 ∧ Hangs L ∧ c ∈ L ∧ At H q c ∧ ∀ w G T, Same H G → WaysAt G w T 8000 →
  (hangsB (without L c) = true → WaysOf (without L c) c T) → (hangsB (without L c) = false → (∀ x, x ∈ keysW T ↔ x = c) ∧ ∀ x y, ¬ nbW T x y) → Q (.ref w) G
abbrev wysN : List Str := ["lot", "start", "ways", "rest", "ring", "before", "cell", "square"]
theorem scWys : FnScope wysN ["lot", "start"] (defScope gWaysIn) := ⟨rfl, rfl, rfl, by decide +kernel, rfl, by decide +kernel, by decide +kernel⟩
theorem ok_ways {f : Addr} {fd : FuncData} (F : FnP K "ways_in" gWaysIn f fd) (DH : Df P w K mg base CX0 3 "hangs_without" ["lot", "cell"] spHangsW) (DW : Df P w K mg base CX0 1 "lot_without" ["lot", "cell"] spWithout) (DR : Df P w K mg base CX0 2 "ring_from" ["lot", "first"] spRing) (DN : Df P w K mg base CX0 2 "near_in" ["lot", "cell"] spNear) : FnOk P w K mg base CX0 4 f fd ["lot", "start"] spWays := by
  refine F.ok scWys (fun vs H Q E h => ?_) (fun cdv A outer s H vs Q E hr h => ?_)
  · obtain ⟨d, q, L, c, rfl, _⟩ := h
    rfl
  · obtain ⟨d, q, L, c, rfl, ed, nL, lL, hang, cL, aq, k⟩ := h
    have hu := hu_of hr
    have h64 := room64 hr
    refine ⟨_, PSs.nox (pss_cons (ps_set (i := 2) scWys.nd rfl (.inl rfl) (pe_disp1 (.inr rfl) hu (pv 1) (pe_lst pa_nil)))
      (pss_cons (ps_if (pt_not (pt_val (pe_df DH hr (by rfl) pass0 (pa_cons (pv 0) (pa_cons (pv 1) pa_nil)))))
      (pss_one (ps_ret (pv 2)))
      pss_nil)
      (pss_cons (ps_set (i := 3) scWys.nd rfl (.inl rfl) (pe_df DW hr (by rfl) pass0 (pa_cons (pv 0) (pa_cons (pv 1) pa_nil))))
      (pss_cons (ps_set (i := 4) scWys.nd rfl (.inl rfl) (pe_df DR hr (by rfl) pass0 (pa_cons (pv 3) (pa_cons (pe_tup (pa_cons (pv 1) (pa_cons (pe_ix (ix_listK (K := K) rfl) (pe_df DN hr (by rfl) pass0 (pa_cons (pv 3) (pa_cons (pv 1) pa_nil))) pe_int (fun _ _ => rfl)) pa_nil))) pa_nil))))
      (pss_cons (ps_set (i := 5) scWys.nd rfl (.inl rfl) (pe_ix (ix_tupK (K := K) rfl) (pe_ix (ix_listK (K := K) rfl) (pv 4) (pe_un un_neg pe_int) (fun _ _ => rfl)) pe_int (fun _ _ => rfl)))
      (pss_cons (ps_for PassesOwn.never rfl (pi_list (pv 4)) (pg_tup (by rfl) (pgs_cons (pg_name (i := 6) scWys.nd rfl (.inl rfl)) (pgs_cons (pg_name (i := 7) scWys.nd rfl (.inl rfl)) pgs_nil)))
      (pss_cons (ps_if (pt_cmpR (op_neK (K := K) rfl h64) (pv 6) (pv 5) (nomark _))
        (pss_cons (ps_weak (t' := tWay 2 5 6) (ps_expr (pe_bm PySem.F.plainAttrs_list PySem.F.slot_list_append PySem.F.type_list_append mt_append (pe_setdT hu (pv 2) (pv 5) (pe_lst pa_nil) ⟨rfl, rfl, rfl, rfl⟩) (pa_cons (pv 6) pa_nil))) ?wa)
          (pss_one (ps_weak (t' := tWay 2 6 5) (ps_expr (pe_bm PySem.F.plainAttrs_list PySem.F.slot_list_append PySem.F.type_list_append mt_append (pe_setdT hu (pv 2) (pv 6) (pe_lst pa_nil) ⟨rfl, rfl, rfl, rfl⟩) (pa_cons (pv 5) pa_nil))) ?wb)))
        pss_nil)
        (pss_one (ps_set (i := 5) scWys.nd rfl (.inl rfl) (pv 6)))))
      (pss_one (ps_ret (pv 2))))))))), ?main⟩
    case wa =>
      rintro D σ G ⟨w, z0, B, T, n, qx, qy, x, y, e2, ei, ej, hW, ax, ay, ln, kk⟩
      refine ⟨_, e2, w, rfl, .inr ⟨_, .inl hW.wa.gd⟩, _, ei, Nat.zero_le _, fun z hz => ?_⟩
      have s3 := same_new (o := HO.lst []) hz
      refine ⟨_, cK x, qx, s3 _ _ hW.wa.gd, rfl, s3 _ _ ax, (by unfold wyK; rw [kv_len, sizeLine_eq]; have := hW.wa.ln; omega), fun u hu' => ?_, fun hn => ?_⟩
      · obtain ⟨l, hl, rfl, rfl⟩ := hW.wa.there hu'
        obtain ⟨⟨qs, eq, pq⟩, ll⟩ := hW.wa.ls l hl
        have e3 := s3 _ _ eq
        obtain ⟨T', w', p'⟩ := hW.old hz ay hl eq pq
        exact ⟨.inl ⟨rfl, _, SqL.of e3⟩, _, ej, l.2.1, _, _, rfl, rfl, e3, by rw [List.length_map, Paired.length pq, sizeLine_eq]; omega, kk _ T' w' p'⟩
      · obtain ⟨T', w', p'⟩ := hW.new hz ay (hW.wa.gone hn)
        have nwz : w ≠ z := fun e => by have := hW.wa.gd; rw [e, hz] at this; cases this
        have ez' : upd (upd G z (.lst [])) w (.dT (putK (wyK T) (cK x) (.ref z))) z = some (.lst []) := by rw [upd_ne nwz.symm]; exact upd_same
        exact ⟨.inl ⟨rfl, _, SqL.of ez'⟩, _, ej, z, [], _, rfl, rfl, ez', by show 0 < sizeLine; rw [sizeLine_eq]; decide, kk _ T' w' p'⟩
    case wb =>
      rintro D σ G ⟨w, z0, B, T, n, qx, qy, x, y, e2, ei, ej, hW, ax, ay, ln, kk⟩
      refine ⟨_, e2, w, rfl, .inr ⟨_, .inl hW.wa.gd⟩, _, ei, Nat.zero_le _, fun z hz => ?_⟩
      have s3 := same_new (o := HO.lst []) hz
      refine ⟨_, cK x, qx, s3 _ _ hW.wa.gd, rfl, s3 _ _ ax, (by unfold wyK; rw [kv_len, sizeLine_eq]; have := hW.wa.ln; omega), fun u hu' => ?_, fun hn => ?_⟩
      · obtain ⟨l, hl, rfl, rfl⟩ := hW.wa.there hu'
        obtain ⟨⟨qs, eq, pq⟩, ll⟩ := hW.wa.ls l hl
        have e3 := s3 _ _ eq
        obtain ⟨T', w', p'⟩ := hW.old hz ay hl eq pq
        exact ⟨.inl ⟨rfl, _, SqL.of e3⟩, _, ej, l.2.1, _, _, rfl, rfl, e3, by rw [List.length_map, Paired.length pq, sizeLine_eq]; omega, kk _ T' w' p'⟩
      · obtain ⟨T', w', p'⟩ := hW.new hz ay (hW.wa.gone hn)
        have nwz : w ≠ z := fun e => by have := hW.wa.gd; rw [e, hz] at this; cases this
        have ez' : upd (upd G z (.lst [])) w (.dT (putK (wyK T) (cK x) (.ref z))) z = some (.lst []) := by rw [upd_ne nwz.symm]; exact upd_same
        exact ⟨.inl ⟨rfl, _, SqL.of ez'⟩, _, ej, z, [], _, rfl, rfl, ez', by show 0 < sizeLine; rw [sizeLine_eq]; decide, kk _ T' w' p'⟩
    case main =>
      intro w hw
      have s0 := same_new (o := .dT []) hw
      have e0 := upd_same (H := H) (a := w) (o := .dT [])
      refine ⟨_, rfl, Nat.zero_le _, fun z hz => ?_⟩
      have s1 := same_new (o := HO.lst []) hz
      have e1 := s1 _ _ e0
      have ez := upd_same (H := upd H w (.dT [])) (a := z) (o := HO.lst [])
      refine ⟨_, dput_c e1 ((aq.same s0).same s1) (by rw [sizeLine_eq]; decide), ?_⟩
      rw [show putK [] (cK c) (V.ref z) = wyK [(c, z, [])] from kv_put (k := fun x : WyE => x.1) (v := fun x => V.ref x.2.1) (T := []) (p := ((c, z, []) : WyE)) (by simp)]
      have nwz : w ≠ z := fun e => by rw [e, upd_same] at hz; cases hz
      have s01 : Same H (upd (upd (upd H w (.dT [])) z (.lst [])) w (.dT (wyK [(c, z, [])]))) := fun b o e => by
        rw [upd_ne (fun v => by rw [v, hw] at e; cases e)]
        exact s1 _ _ (s0 _ _ e)
      have gw := upd_same (H := upd (upd H w (.dT [])) z (.lst [])) (a := w) (o := .dT (wyK [(c, z, [])]))
      have gz : upd (upd (upd H w (.dT [])) z (.lst [])) w (.dT (wyK [(c, z, [])])) z = some (.lst []) := by rw [upd_ne nwz.symm]; exact ez
      generalize upd (upd (upd H w (.dT [])) z (.lst [])) w (.dT (wyK [(c, z, [])])) = G1 at s01 gw gz
      have wa1 : ∀ n, WaysAt G1 w [(c, z, [])] n := fun n => ⟨gw, by simp [keysW], fun e he => by rw [List.mem_singleton.mp he]; exact ⟨⟨[], gz, .nil⟩, Nat.zero_le _⟩, by simp⟩
      refine ⟨_, rfl, _, rfl, d, q, L, c, rfl, s01 _ _ ed, nL, lL, hang, cL, aq.same s01, fun G2 s2 => ⟨_, rfl, ?_⟩⟩
      have s02 := s01.trans s2
      refine ite2 (fun h1 => ?_) (fun h1 => ?_)
      · have hb : hangsB (without L c) = false := by simpa using h1
        exact ⟨_, rfl, k w G2 [(c, z, [])] s02 ((wa1 _).same s2) (fun y => by rw [hb] at y; cases y) fun _ => ⟨fun x => by simp [keysW], fun x y ⟨e, he, _, h3⟩ => by rw [List.mem_singleton.mp he] at h3; cases h3⟩⟩
      have hb : hangsB (without L c) = true := by simpa using h1
      have hR : Hangs (without L c) := hangsB_iff.mp hb
      have cR : c ∉ without L c := fun y => (mem_without.mp y).2 rfl
      have lR : (without L c).length ≤ 1000 := Nat.le_trans (without_len L c) lL
      refine ⟨_, rfl, _, rfl, d, q, L, c, rfl, s02 _ _ ed, nL, lL, aq.same s02, fun re G3 s3 _ er => ?_⟩
      have s03 := s02.trans s3
      refine ⟨_, rfl, _, rfl, _, rfl, _, rfl, re, q, _, c, rfl, er, aq.same s03, fun nl G4 s4 _ ⟨ns, en, pn⟩ => ?_⟩
      have nn : nearC (without L c) c ≠ [] := fun y => none_hangs hang cL (List.eq_nil_iff_forall_not_mem.mpr fun x hx => by
        obtain ⟨h1, h2⟩ := List.mem_filter.mp hx
        have : x ∈ nearC (without L c) c := List.mem_filter.mpr ⟨h1, decide_eq_true (mem_without.mpr ⟨of_decide_eq_true h2, fun z => beside_ne h1 z⟩)⟩
        rw [y] at this
        cases this) hR
      obtain ⟨sq, sqs, esq⟩ := List.exists_cons_of_ne_nil nn
      rw [esq] at pn
      obtain ⟨q1, ns', rfl, a1, pn'⟩ : ∃ q1 ns', ns = q1 :: ns' ∧ At G4 q1 sq ∧ Paired (fun q c => At G4 q c) ns' sqs := by
        cases pn with
        | cons a b => exact ⟨_, _, rfl, a, b⟩
      have msq : sq ∈ nearC (without L c) c := by rw [esq]; exact List.mem_cons_self ..
      have sd : IsSide (without L c) (c, sq) := ⟨cR, of_decide_eq_true (List.mem_filter.mp msq).2, (List.mem_filter.mp msq).1⟩
      refine ⟨_, _, _, _, rfl, rfl, SqL.of en, at0, two_le, fun u hu1 => ?_⟩
      have s5 := same_new (o := HO.tup [.ref q, .ref q1]) hu1
      have s05 := s03.trans (s4.trans s5)
      have pr5 : PairAt (upd G4 u (.tup [.ref q, .ref q1])) u (c, sq) := ⟨q, q1, upd_same, aq.same s05, a1.same s5⟩
      refine ⟨re, u, _, (c, sq), rfl, s5 _ _ (s4 _ _ er), pr5, sd, lR, fun lr B m O s6 ⟨rs, elr, prs⟩ ro => ?_⟩
      have s16 := (s2.trans s3).trans ((s4.trans s5).trans s6)
      have s06 := s01.trans s16
      have wB : Wys B w z [(c, z, [])] 0 B := ⟨fun b o _ e => e, (wa1 0).same s16, by simp, fun e he => by rw [List.mem_singleton.mp he]; exact .inl rfl, ⟨_, List.mem_singleton.mpr rfl, rfl⟩⟩
      have zB := s16 _ _ gz
      have lO : O.length = m := by rw [ro.eq, List.length_map, List.length_range]
      have lrs : rs.length = m := by rw [Paired.length prs, lO]
      have m4 : m ≤ 4000 := Nat.le_trans (ring_small sd ro) (by omega)
      have mp := ro.pos
      have atO : ∀ {j : Nat}, j < m → O[j]? = some (iterS (without L c) (c, sq) j) := fun {j} hj => by rw [ro.eq, List.getElem?_map, List.getElem?_range hj]; rfl
      obtain ⟨rl, hrl, prl⟩ := paired_getRW prs (atO (j := m - 1) (by omega))
      obtain ⟨l1, l2, el, al1, al2⟩ := prl
      refine ⟨_, rfl, _, rfl, _, _, _, _, rfl, rfl, SqL.of elr, neg_last (by rw [List.length_map, lrs, List.getElem?_map, hrl]; rfl), _, _, _, _, rfl, rfl, SqT.of el, at0, ?_⟩
      refine ⟨_, rfl, lr, rfl, ⟨_, SqL.of elr⟩, ?_⟩
      have lrz : lr ≠ z := fun y => by
        rw [y, zB] at elr
        have := List.nil_eq.mp (HO.lst.inj (Option.some.inj elr))
        have : (rs.map V.ref).length = 0 := by rw [this]; rfl
        rw [List.length_map, lrs] at this
        omega
      have lrw : lr ≠ w := fun y => by
        have := wB.wa.gd
        rw [← y, elr] at this
        cases this
      refine for_list (K := K) (a := lr) (xs := rs.map V.ref) (fun i σ G => ∃ (qb : Addr) (v6 v7 : Option V) (T : List WyE) (n : Nat), σ = [some (.ref d), some (.ref q), some (.ref w), some (.ref re), some (.ref lr), some (.ref qb), v6, v7] ∧ Wys B w z T n G ∧ n ≤ 2 * i ∧ At B qb (prS (without L c) (c, sq) m i).1 ∧
        (∀ u v, nbW T u v ↔ ∃ j, j < i ∧ (iterS (without L c) (c, sq) j).1 ≠ (prS (without L c) (c, sq) m j).1 ∧ ((u = (prS (without L c) (c, sq) m j).1 ∧ v = (iterS (without L c) (c, sq) j).1) ∨ (u = (iterS (without L c) (c, sq) j).1 ∧ v = (prS (without L c) (c, sq) m j).1))) ∧ ∀ x, x ∈ keysW T ↔ x = c ∨ ∃ y, nbW T x y)
        ⟨l1, none, none, _, 0, rfl, wB, Nat.zero_le _, al1, fun u v => ⟨fun ⟨e, he, _, h3⟩ => (by rw [List.mem_singleton.mp he] at h3; cases h3), fun ⟨j, hj, _⟩ => by omega⟩, fun x => ⟨fun y => .inl (by simpa [keysW] using y), fun y => y.elim (fun y => by simp [keysW, y]) fun ⟨_, e, he, _, h3⟩ => by rw [List.mem_singleton.mp he] at h3; cases h3⟩⟩
        (fun i σ G _ ⟨_, _, _, _, _, _, hW, _⟩ => SqL.of (hW.kp _ _ (by simp [lrz, lrw]) elr)) ?_ ?_
      · rintro i x σ G hi ⟨qb, v6, v7, T, n, rfl, hW, hn, ab, nbT, kyT⟩
        rw [List.getElem?_map] at hi
        obtain ⟨r, hr1, rfl⟩ := Option.map_eq_some_iff.mp hi
        have im : i < m := by rw [← lrs]; exact (List.getElem?_eq_some_iff.mp hr1).1
        obtain ⟨y, hy, ay⟩ := paired_get prs hr1
        rw [atO im] at hy
        obtain rfl := Option.some.inj hy
        obtain ⟨c1, c2, er1, ac1, ac2⟩ := ay
        have tk : Tk B G := fun b xs e => hW.kp b _ (fun mm => by
          simp only [List.mem_cons, List.not_mem_nil, or_false] at mm
          rcases mm with mm | mm
          · rw [mm, wB.wa.gd] at e
            cases e
          · rw [mm, zB] at e
            cases e) e
        have ac := ac1.tk tk
        have ab' := ab.tk tk
        refine ⟨r, _, rfl, SqT.of (tk _ _ er1), rfl, _, _, rfl, _, _, rfl, rfl, ?_⟩
        refine ⟨_, rfl, _, rfl, _, _, ac.dp, ab'.dp, cD_shaped _, cD_shaped _, _, rfl, ?_⟩
        rw [cD_eqv]
        refine ite2 (fun y => ?_) (fun y => ?_)
        · have ne : (iterS (without L c) (c, sq) i).1 ≠ (prS (without L c) (c, sq) m i).1 := by simpa using y
          refine ⟨w, z, B, T, n, qb, c1, _, _, rfl, rfl, rfl, hW, ab', ac, by omega, fun G' T' hW' pw => ?_⟩
          have tk1 : Tk B G' := fun b xs e => hW'.kp b _ (fun mm => by
            simp only [List.mem_cons, List.not_mem_nil, or_false] at mm
            rcases mm with mm | mm
            · rw [mm, wB.wa.gd] at e
              cases e
            · rw [mm, zB] at e
              cases e) e
          refine ⟨w, z, B, T', n + 1, c1, qb, _, _, rfl, rfl, rfl, hW', ac1.tk tk1, ab.tk tk1, by omega, fun G'' T'' hW'' pw' => ?_⟩
          refine ⟨_, rfl, c1, _, _, T'', n + 2, rfl, hW'', by omega, ac1, fun u v => ?_, fun x => ?_⟩
          · rw [pw'.nb, pw.nb, nbT]
            constructor
            · rintro ((⟨j, hj, hh⟩ | ⟨rfl, rfl⟩) | ⟨rfl, rfl⟩)
              · exact ⟨j, by omega, hh⟩
              · exact ⟨i, by omega, ne, .inl ⟨rfl, rfl⟩⟩
              · exact ⟨i, by omega, ne, .inr ⟨rfl, rfl⟩⟩
            · rintro ⟨j, hj, n1, hh⟩
              by_cases z : j = i
              · subst z
                rcases hh with hh | hh
                · exact .inl (.inr hh)
                · exact .inr hh
              · exact .inl (.inl ⟨j, by omega, n1, hh⟩)
          · rw [pw'.ky, pw.ky, kyT]
            constructor
            · rintro (((h | ⟨y, h⟩) | rfl) | rfl)
              · exact .inl h
              · exact .inr ⟨y, (pw'.nb _ _).mpr (.inl ((pw.nb _ _).mpr (.inl h)))⟩
              · exact .inr ⟨_, (pw'.nb _ _).mpr (.inl ((pw.nb _ _).mpr (.inr ⟨rfl, rfl⟩)))⟩
              · exact .inr ⟨_, (pw'.nb _ _).mpr (.inr ⟨rfl, rfl⟩)⟩
            · rintro (h | ⟨y, h⟩)
              · exact .inl (.inl (.inl h))
              · rcases (pw'.nb _ _).mp h with h | ⟨h, _⟩
                · rcases (pw.nb _ _).mp h with h | ⟨h, _⟩
                  · exact .inl (.inl (.inr ⟨y, h⟩))
                  · exact .inl (.inr h)
                · exact .inr h
        · have ne : (iterS (without L c) (c, sq) i).1 = (prS (without L c) (c, sq) m i).1 := by simpa using y
          refine ⟨_, rfl, c1, _, _, T, n, rfl, hW, by omega, ac1, fun u v => ?_, kyT⟩
          rw [nbT]
          constructor
          · rintro ⟨j, hj, hh⟩
            exact ⟨j, by omega, hh⟩
          · rintro ⟨j, hj, n1, hh⟩
            by_cases z : j = i
            · rw [z] at n1
              exact absurd ne n1
            · exact ⟨j, by omega, n1, hh⟩
      · rintro σ G ⟨qb, v6, v7, T, n, rfl, hW, hn, ab, nbT, kyT⟩
        rw [List.length_map, lrs] at hn nbT
        have sG : Same H G := fun b o e => hW.kp b o (fun mm => by
          simp only [List.mem_cons, List.not_mem_nil, or_false] at mm
          rcases mm with mm | mm
          · rw [mm, hw] at e
            cases e
          · have e2 := s0 _ _ e
            rw [mm, hz] at e2
            cases e2) (s06 _ _ e)
        have wa := hW.wa
        exact ⟨_, rfl, k w G T sG ⟨wa.gd, wa.nk, fun e he => ⟨(wa.ls e he).1, Nat.le_trans (wa.ls e he).2 (by omega)⟩, Nat.le_trans wa.ln (by omega)⟩ (fun _ => ⟨fun x y => by rw [nbT]; exact ring_ways hR sd ro x y, kyT⟩) (fun y => by rw [hb] at y; cases y)⟩
end
end Sq

set_option Elab.async false
set_option linter.all false
set_option maxRecDepth 100000
set_option maxHeartbeats 1000000
/-! Distances along the ways. -/
namespace Sq
open PySem PySem.Spec PyProof.Rows L2
def Wk (A : Cell → Cell → Prop) (e : Cell) : Nat → Cell → Prop
  | 0, x => x = e
  | n + 1, x => ∃ y, Wk A e n y ∧ A y x
def Dst (A : Cell → Cell → Prop) (e : Cell) (n : Nat) (x : Cell) : Prop := Wk A e n x ∧ ∀ k, k < n → ¬ Wk A e k x
section
variable {A : Cell → Cell → Prop} {e : Cell}
theorem Dst.uniq {n m : Nat} {x : Cell} (h : Dst A e n x) (k : Dst A e m x) : n = m := by
  rcases Nat.lt_trichotomy n m with l | l | l
  · exact absurd h.1 (k.2 _ l)
  · exact l
  · exact absurd k.1 (h.2 _ l)
theorem wk_dst : ∀ (n : Nat) {x : Cell}, Wk A e n x → ∃ m, m ≤ n ∧ Dst A e m x := fun n => by
  induction n using Nat.strongRecOn with
  | _ n ih =>
    intro x h
    by_cases c : ∃ k, k < n ∧ Wk A e k x
    · obtain ⟨k, l, hk⟩ := c
      obtain ⟨m, m1, m2⟩ := ih k l hk
      exact ⟨m, by omega, m2⟩
    · exact ⟨n, Nat.le_refl n, h, fun k l hk => c ⟨k, l, hk⟩⟩
theorem Dst.prev {n : Nat} {x : Cell} (h : Dst A e (n + 1) x) : ∃ y, Dst A e n y ∧ A y x := by
  obtain ⟨⟨y, wy, ay⟩, h2⟩ := h
  exact ⟨y, ⟨wy, fun k l hk => h2 (k + 1) (by omega) ⟨y, hk, ay⟩⟩, ay⟩
theorem Dst.next {n : Nat} {x y : Cell} (h : Dst A e n y) (a : A y x) : ∃ m, m ≤ n + 1 ∧ Dst A e m x := wk_dst _ ⟨y, h.1, a⟩
theorem Dst.zero : Dst A e 0 e := ⟨rfl, fun k l => by omega⟩
end
abbrev WdE := Cell × Nat
def wdK (F : List WdE) : List (List Key × V) := kvG (fun x : WdE => x.1) (fun x => V.int (x.2 : Int)) F
def keysD (F : List WdE) : List Cell := F.map fun x => x.1
structure FarAt (G : Hp) (d : Addr) (F : List WdE) : Prop where
  gd : G d = some (.dT (wdK F))
  nk : (keysD F).Nodup
theorem far_val {F : List WdE} (nk : (keysD F).Nodup) {x : Cell} {n : Nat} (h : (x, n) ∈ F) : valV (wdK F) (cK x) = some (.int (n : Int)) := kv_yes (k := fun x : WdE => x.1) (v := fun x => V.int (x.2 : Int)) (p := (x, n)) nk h
theorem far_is {F : List WdE} (nk : (keysD F).Nodup) (x : Cell) : (valV (wdK F) (cK x)).isSome = decide (x ∈ keysD F) := kv_is (k := fun x : WdE => x.1) (v := fun x => V.int (x.2 : Int)) nk
theorem mem_keysD {F : List WdE} {x : Cell} : x ∈ keysD F ↔ ∃ n, (x, n) ∈ F := by
  unfold keysD
  rw [List.mem_map]
  exact ⟨fun ⟨⟨a, n⟩, h, e⟩ => ⟨n, by rw [← e]; exact h⟩, fun ⟨n, h⟩ => ⟨_, h, rfl⟩⟩
theorem far_put {F : List WdE} {x : Cell} {n : Nat} (h : x ∉ keysD F) : putK (wdK F) (cK x) (.int (n : Int)) = wdK (F ++ [(x, n)]) := kv_put (k := fun x : WdE => x.1) (v := fun x => V.int (x.2 : Int)) (p := ((x, n) : WdE)) h
theorem len_in {F : List WdE} {T : List WyE} (nk : (keysD F).Nodup) (h : ∀ x ∈ keysD F, x ∈ keysW T) : F.length ≤ T.length := by
  have h2 := len_le nk h
  unfold keysD keysW at h2
  rwa [List.length_map, List.length_map] at h2
/-- while the next layer grows -/
structure Wd (H : Hp) (d af ly : Addr) (W : List Cell) (F : List WdE) (A : List Cell) (G : Hp) : Prop where
  sm : Same H G
  hd : H d = none
  ha : H af = none
  ne : ly ≠ af
  fa : FarAt G d F
  gl : CellsL G ly W
  ga : CellsL G af A
section
variable {H G : Hp} {d af ly : Addr} {W A : List Cell} {F : List WdE}
theorem Wd.put (h : Wd H d af ly W F A G) {x : Cell} {n : Nat} {q : Addr} (nx : x ∉ keysD F) (aq : At G q x) {qs : List Addr} (eq : G af = some (.lst (qs.map V.ref))) (pq : Paired (fun q c => At G q c) qs A) :
    Wd H d af ly W (F ++ [(x, n)]) (A ++ [x]) (upd (upd G d (.dT (wdK (F ++ [(x, n)])))) af (.lst (qs.map V.ref ++ [V.ref q]))) := by
  have gd := h.fa.gd
  have nda : d ≠ af := fun e => by rw [e, eq] at gd; cases gd
  have tk : Tk G (upd (upd G d (.dT (wdK (F ++ [(x, n)])))) af (.lst (qs.map V.ref ++ [V.ref q]))) := fun b xs e => by
    rw [upd_ne (fun w => by rw [w, eq] at e; cases e), upd_ne (fun w => by rw [w, gd] at e; cases e)]
    exact e
  refine ⟨fun b o e => ?_, h.hd, h.ha, h.ne, ⟨?_, ?_⟩, ?_, ?_⟩
  · rw [upd_ne (fun w => by have := h.ha; rw [← w, e] at this; cases this), upd_ne (fun w => by have := h.hd; rw [← w, e] at this; cases this)]
    exact h.sm b o e
  · rw [upd_ne nda, upd_same]
  · unfold keysD
    rw [List.map_append]
    exact nodup_snoc h.fa.nk nx
  · refine h.gl.tk tk ?_
    have nl : ly ≠ d := fun e => by
      obtain ⟨_, c, _⟩ := h.gl
      rw [e, gd] at c
      cases c
    rw [upd_ne h.ne, upd_ne nl]
  · exact ⟨qs ++ [q], by rw [upd_same, List.map_append]; rfl, (paired_imp (fun _ _ w => tk _ _ w) pq).snoc (tk _ _ aq)⟩
end
/-- what stands in distances while layer k is walked, S what was met -/
structure DsK (A : Cell → Cell → Prop) (e : Cell) (k : Nat) (S : Cell → Prop) (F : List WdE) (L : List Cell) : Prop where
  mf : ∀ x n, (x, n) ∈ F ↔ (Dst A e n x ∧ n ≤ k) ∨ (n = k + 1 ∧ x ∈ L)
  ml : ∀ x, x ∈ L ↔ Dst A e (k + 1) x ∧ S x
  ln : L.length ≤ F.length
section
variable {A : Cell → Cell → Prop} {e : Cell} {k : Nat} {S S' : Cell → Prop} {F : List WdE} {L : List Cell}
theorem DsK.new (h : DsK A e k S F L) {y x : Cell} (hy : Dst A e k y) (a : A y x) (nx : x ∉ keysD F) (hS : ∀ z, S' z ↔ S z ∨ z = x) : DsK A e k S' (F ++ [(x, k + 1)]) (L ++ [x]) := by
  obtain ⟨m, m1, m2⟩ := hy.next a
  have m3 : m = k + 1 := by
    by_cases l : m ≤ k
    · exact absurd (mem_keysD.mpr ⟨m, (h.mf _ _).mpr (.inl ⟨m2, l⟩)⟩) nx
    · omega
  rw [m3] at m2
  refine ⟨fun z n => ?_, fun z => ?_, ?_⟩
  · rw [List.mem_append, List.mem_append, h.mf, List.mem_singleton, List.mem_singleton, Prod.mk.injEq]
    constructor
    · rintro ((w | ⟨w1, w2⟩) | ⟨w1, w2⟩)
      · exact .inl w
      · exact .inr ⟨w1, .inl w2⟩
      · exact .inr ⟨w2, .inr w1⟩
    · rintro (w | ⟨w1, w2 | w2⟩)
      · exact .inl (.inl w)
      · exact .inl (.inr ⟨w1, w2⟩)
      · exact .inr ⟨w2, w1⟩
  · rw [List.mem_append, h.ml, List.mem_singleton, hS]
    constructor
    · rintro (⟨w1, w2⟩ | rfl)
      · exact ⟨w1, .inl w2⟩
      · exact ⟨m2, .inr rfl⟩
    · rintro ⟨w1, w2 | w2⟩
      · exact .inl ⟨w1, w2⟩
      · exact .inr w2
  · rw [List.length_append, List.length_append]
    exact Nat.succ_le_succ h.ln
theorem DsK.old (h : DsK A e k S F L) {x : Cell} (nx : x ∈ keysD F) (hS : ∀ z, S' z ↔ S z ∨ z = x) : DsK A e k S' F L := by
  refine ⟨h.mf, fun z => ?_, h.ln⟩
  rw [h.ml, hS]
  constructor
  · rintro ⟨w1, w2⟩
    exact ⟨w1, .inl w2⟩
  · rintro ⟨w1, w2 | rfl⟩
    · exact ⟨w1, w2⟩
    · obtain ⟨n, hn⟩ := mem_keysD.mp nx
      rcases (h.mf _ _).mp hn with ⟨w3, w4⟩ | ⟨w3, w4⟩
      · have := w3.uniq w1
        omega
      · exact (h.ml _).mp w4
theorem DsK.cong (h : DsK A e k S F L) (hS : ∀ z, S' z ↔ S z) : DsK A e k S' F L := ⟨h.mf, fun z => by rw [h.ml, hS], h.ln⟩
end
theorem nb_of {T : List WyE} (nk : (keysW T).Nodup) {l : WyE} (hl : l ∈ T) {x : Cell} : nbW T l.1 x ↔ x ∈ l.2.2 := by
  constructor
  · rintro ⟨e, he, h1, h2⟩
    rw [← inj_of_nodup (f := fun x : WyE => x.1) nk he hl h1]
    exact h2
  · exact fun h => ⟨l, hl, rfl, h⟩
def spDist : Sp := fun vs H Q _ => ∃ (w qe qs : Addr) (T : List WyE) (e st : Cell) (D : Nat), vs = [.ref w, .ref qe, .ref qs] ∧ WaysAt H w T 8000 ∧ (∀ x y, nbW T x y → y ∈ keysW T) ∧ At H qe e ∧ At H qs st ∧ e ∈ keysW T ∧ Dst (nbW T) e D st ∧
  ∀ d G F, Same H G → FarAt G d F → (∀ x n, (x, n) ∈ F ↔ Dst (nbW T) e n x ∧ n ≤ D) → Q (.ref d) G
theorem dst_key {T : List WyE} (cl : ∀ x y, nbW T x y → y ∈ keysW T) {e : Cell} (he : e ∈ keysW T) : ∀ {n : Nat} {x : Cell}, Dst (nbW T) e n x → x ∈ keysW T
  | 0, _, h => by
    have : _ = e := h.1
    rw [this]
    exact he
  | n + 1, x, h => by
    obtain ⟨y, _, a⟩ := h.prev
    exact cl _ _ a
section
variable {P : Program} {w : World} {K : PySem.W.Frag} {mg : Str → Option Value} {base : Heap}
abbrev dtoN : List Str := ["ways", "end", "start", "distances", "layer", "after", "cell", "near"]
theorem scDto : FnScope dtoN ["ways", "end", "start"] (defScope gDistancesTo) := ⟨rfl, rfl, rfl, by decide +kernel, rfl, by decide +kernel, by decide +kernel⟩
theorem ok_dist {f : Addr} {fd : FuncData} (F : FnP K "distances_to" gDistancesTo f fd) : FnOk P w K mg base CX0 1 f fd ["ways", "end", "start"] spDist := by
  refine F.ok scDto (fun vs H Q E h => ?_) (fun cdv A outer s H vs Q E hr h => ?_)
  · obtain ⟨w, qe, qs, T, e, s, D, rfl, _⟩ := h
    rfl
  · obtain ⟨w, qe, qs, T, e, st, D, rfl, wa, cl, ae, ast, ke, ds, k⟩ := h
    have hu := hu_of hr
    have one_le : (1 : Nat) ≤ sizeLine := by rw [sizeLine_eq]; decide
    refine ⟨_, PSs.nox (pss_cons (ps_set (i := 3) scDto.nd rfl (.inl rfl) (pe_disp1 (.inr rfl) hu (pv 1) pe_int))
      (pss_cons (ps_set (i := 4) scDto.nd rfl (.inl rfl) (pe_lst (pa_cons (pv 1) pa_nil)))
      (pss_cons (ps_while PassesOwn.never (pt_cmp (pc_dnotin hu (pv 2) (pv 3)))
      (pss_cons (ps_set (i := 5) scDto.nd rfl (.inl rfl) (pe_lst pa_nil))
        (pss_cons (ps_for PassesOwn.never rfl (pi_list (pv 4)) (pg_name (i := 6) scDto.nd rfl (.inl rfl))
        (pss_one (ps_for PassesOwn.never rfl (pi_list (pe_dget hu (pv 0) (pv 6) (fun _ _ => rfl))) (pg_name (i := 7) scDto.nd rfl (.inl rfl))
          (pss_one (ps_if (pt_cmp (pc_dnotin hu (pv 7) (pv 3)))
            (pss_cons (ps_dput hu (pv 3) (pv 7) (pe_op op_add (pe_dget hu (pv 3) (pv 6) (fun _ _ => rfl)) pe_int) rfl)
              (pss_one (ps_expr (pe_bm PySem.F.plainAttrs_list PySem.F.slot_list_append PySem.F.type_list_append mt_append (pv 5) (pa_cons (pv 7) pa_nil)))))
            pss_nil)))))
        (pss_one (ps_set (i := 4) scDto.nd rfl (.inl rfl) (pv 5))))))
      (pss_one (ps_ret (pv 3)))))), ?_⟩
    intro d hd
    have s0 := same_new (o := .dT []) hd
    have e0 := upd_same (H := H) (a := d) (o := .dT [])
    refine ⟨_, rfl, _, dput_c e0 (ae.same s0) (by rw [sizeLine_eq]; decide), ?_⟩
    rw [show putK [] (cK e) (V.int 0) = wdK [(e, 0)] from far_put (F := []) (n := 0) (by simp [keysD]), upd_upd]
    have s1 := same_new (o := .dT (wdK [(e, 0)])) hd
    have g1 := upd_same (H := H) (a := d) (o := .dT (wdK [(e, 0)]))
    generalize upd H d (.dT (wdK [(e, 0)])) = G1 at s1 g1
    refine ⟨_, rfl, one_le, fun l0 hl0 => ?_⟩
    have s2 := same_new (o := .lst [.ref qe]) hl0
    have g2 := upd_same (H := G1) (a := l0) (o := .lst [.ref qe])
    have g12 := s2 _ _ g1
    have s02 := s1.trans s2
    generalize upd G1 l0 (.lst [.ref qe]) = G2 at s2 g2 g12 s02
    refine ⟨fun q σ G => ∃ (n : Nat) (ly : Addr) (W : List Cell) (F : List WdE) (v5 v6 v7 : Option V), q = D - n ∧ σ = [some (.ref w), some (.ref qe), some (.ref qs), some (.ref d), some (.ref ly), v5, v6, v7] ∧ n ≤ D ∧ Same H G ∧ FarAt G d F ∧ CellsL G ly W ∧ (∀ x m, (x, m) ∈ F ↔ Dst (nbW T) e m x ∧ m ≤ n) ∧ (∀ x, x ∈ W ↔ Dst (nbW T) e n x),
      ⟨D, 0, l0, [e], [(e, 0)], none, none, none, rfl, rfl, Nat.zero_le _, s02, ⟨g12, by simp [keysD]⟩, ⟨[qe], g2, .cons (ae.same s02) .nil⟩, fun x m => ?_, fun x => ?_⟩, ?_⟩
    · rw [List.mem_singleton, Prod.mk.injEq]
      constructor
      · rintro ⟨rfl, rfl⟩
        exact ⟨Dst.zero, Nat.le_refl _⟩
      · rintro ⟨h1, h2⟩
        obtain rfl : m = 0 := by omega
        exact ⟨h1.1, rfl⟩
    · rw [List.mem_singleton]
      exact ⟨fun y => by rw [y]; exact Dst.zero, fun y => y.1⟩
    rintro q σ G ⟨n, ly, W, F, v5, v6, v7, rfl, rfl, nD, sG, fa, cw, mF, mW⟩
    refine ⟨_, rfl, _, rfl, d, _, rfl, DGet.t (k := cK st) fa.gd (ast.same sG), _, rfl, ?_⟩
    rw [far_is fa.nk]
    refine ite2 (fun h1 => ?_) (fun h1 => ?_)
    · have ns : st ∉ keysD F := by simpa using h1
      have lt : n < D := by
        by_cases z : n = D
        · exact absurd (mem_keysD.mpr ⟨D, (mF _ _).mpr ⟨ds, by omega⟩⟩) ns
        · omega
      refine ⟨fun σ' G' => ∃ m', m' < D - n ∧ _, fun _ _ h => h, ?_⟩
      refine ⟨Nat.zero_le _, fun af haf => ?_⟩
      have s3 := same_new (o := HO.lst []) haf
      have ga := upd_same (H := G) (a := af) (o := HO.lst [])
      have haH : H af = none := sG.free haf
      obtain ⟨ws, ew, pw⟩ := cw
      have base : Wd H d af ly W F [] (upd G af (.lst [])) := ⟨sG.trans s3, hd, haH, (fun y => by rw [y, haf] at ew; cases ew), ⟨s3 _ _ fa.gd, fa.nk⟩, ⟨ws, s3 _ _ ew, paired_imp (fun _ _ y => s3 _ _ y) pw⟩, ⟨[], ga, .nil⟩⟩
      have d0 : DsK (nbW T) e n (fun x => ∃ a ∈ W.take 0, nbW T a x) F [] := ⟨fun x m => by rw [mF]; simp, fun x => by simp, Nat.zero_le _⟩
      have ew3 := s3 _ _ ew
      have pw3 := paired_imp (fun _ _ (y : At G _ _) => s3 _ _ y) pw
      generalize upd G af (.lst []) = G3 at base ew3 pw3
      refine ⟨_, rfl, ly, rfl, ⟨_, SqL.of ew3⟩, ?_⟩
      refine for_list (K := K) (a := ly) (xs := ws.map V.ref) (fun i σ G => ∃ (v6 v7 : Option V) (F : List WdE) (A : List Cell), σ = [some (.ref w), some (.ref qe), some (.ref qs), some (.ref d), some (.ref ly), some (.ref af), v6, v7] ∧ Wd H d af ly W F A G ∧ G ly = some (.lst (ws.map V.ref)) ∧ Paired (fun q c => At G q c) ws W ∧ DsK (nbW T) e n (fun x => ∃ a ∈ W.take i, nbW T a x) F A)
        ⟨v6, v7, F, [], rfl, base, ew3, pw3, d0⟩ (fun i σ G _ ⟨_, _, _, _, _, _, y, _⟩ => SqL.of y) ?_ ?_
      · rintro i x σ G4 hi ⟨v6, v7, F4, A4, rfl, wd, ew4, pw4, dk⟩
        rw [List.getElem?_map] at hi
        obtain ⟨qa, hqa, rfl⟩ := Option.map_eq_some_iff.mp hi
        obtain ⟨a, ha, aa⟩ := paired_get pw4 hqa
        have da : Dst (nbW T) e n a := (mW a).mp (List.mem_of_getElem? ha)
        obtain ⟨l, hl, rfl⟩ := List.mem_map.mp (dst_key cl ke da)
        have wa4 := wa.same wd.sm
        obtain ⟨⟨ns', el, pl⟩, ll⟩ := wa4.ls l hl
        refine ⟨_, rfl, _, rfl, w, .ref l.2.1, rfl, (by rw [← wa4.val hl]; exact DGet.t (k := cK l.1) wa4.gd aa), l.2.1, rfl, ⟨_, SqL.of el⟩, ?_⟩
        have nb := fun x => nb_of (x := x) wa.nk hl
        refine for_list (K := K) (a := l.2.1) (xs := ns'.map V.ref) (fun j σ G => ∃ (v7 : Option V) (F : List WdE) (A : List Cell), σ = [some (.ref w), some (.ref qe), some (.ref qs), some (.ref d), some (.ref ly), some (.ref af), some (.ref qa), v7] ∧ Wd H d af ly W F A G ∧ G ly = some (.lst (ws.map V.ref)) ∧ Paired (fun q c => At G q c) ws W ∧ G l.2.1 = some (.lst (ns'.map V.ref)) ∧ Paired (fun q c => At G q c) ns' l.2.2 ∧ At G qa l.1 ∧ DsK (nbW T) e n (fun x => (∃ a ∈ W.take i, nbW T a x) ∨ x ∈ l.2.2.take j) F A)
          ⟨v7, F4, A4, rfl, wd, ew4, pw4, el, pl, aa, dk.cong fun z => by simp⟩ (fun i σ G _ ⟨_, _, _, _, _, _, _, y, _⟩ => SqL.of y) ?_ ?_
        · rintro j x σ G5 hj ⟨v7, F5, A5, rfl, wd5, ew5, pw5, el5, pl5, aa5, dk5⟩
          rw [List.getElem?_map] at hj
          obtain ⟨qb, hqb, rfl⟩ := Option.map_eq_some_iff.mp hj
          obtain ⟨b, hb, ab⟩ := paired_get pl5 hqb
          have nbb : nbW T l.1 b := (nb b).mpr (List.mem_of_getElem? hb)
          have hS : ∀ z, ((∃ a ∈ W.take i, nbW T a z) ∨ z ∈ l.2.2.take (j + 1)) ↔ ((∃ a ∈ W.take i, nbW T a z) ∨ z ∈ l.2.2.take j) ∨ z = b := fun z => by
            rw [take_snoc hb, List.mem_append, List.mem_singleton, or_assoc]
          refine ⟨_, rfl, _, rfl, d, _, rfl, DGet.t (k := cK b) wd5.fa.gd ab, _, rfl, ?_⟩
          rw [far_is wd5.fa.nk]
          refine ite2 (fun h2 => ?_) (fun h2 => ?_)
          · have nx : b ∉ keysD F5 := by simpa using h2
            have inF : (l.1, n) ∈ F5 := (dk5.mf _ _).mpr (.inl ⟨da, Nat.le_refl n⟩)
            have lF : F5.length ≤ 8001 := Nat.le_trans (len_in wd5.fa.nk fun x hx => by
              obtain ⟨m, hm⟩ := mem_keysD.mp hx
              rcases (dk5.mf _ _).mp hm with y | y
              · exact dst_key cl ke y.1
              · exact dst_key cl ke ((dk5.ml _).mp y.2).1) wa.ln
            obtain ⟨qs5, ea5, pa5⟩ := wd5.ga
            have nda : d ≠ af := fun y => by have := wd5.fa.gd; rw [y, ea5] at this; cases this
            have ea6 : upd G5 d (.dT (wdK (F5 ++ [(b, n + 1)]))) af = some (.lst (qs5.map V.ref)) := by rw [upd_ne nda.symm]; exact ea5
            have la : A5.length ≤ F5.length := dk5.ln
            refine ⟨_, rfl, _, rfl, d, .int (n : Int), rfl, (by rw [← far_val wd5.fa.nk inF]; exact DGet.t (k := cK l.1) wd5.fa.gd aa5), _, _, rfl, rfl, _, rfl, _, rfl, d, _, rfl, DPut.t (k := cK b) wd5.fa.gd ab (by unfold wdK; rw [kv_len, sizeLine_eq]; omega), ?_⟩
            rw [show putK (wdK F5) (cK b) (V.int ((n : Int) + 1)) = wdK (F5 ++ [(b, n + 1)]) from far_put nx]
            refine ⟨_, rfl, .inl ⟨rfl, _, SqL.of ea6⟩, _, rfl, af, _, _, rfl, rfl, ea6, by rw [List.length_map, Paired.length pa5, sizeLine_eq]; omega, ?_⟩
            have wd6 := wd5.put (n := n + 1) nx ab ea5 pa5
            have off : ∀ {r : Addr} {o : HO}, r ≠ d → r ≠ af → G5 r = some o → upd (upd G5 d (.dT (wdK (F5 ++ [(b, n + 1)])))) af (.lst (qs5.map V.ref ++ [V.ref qb])) r = some o := fun n1 n2 y => by
              rw [upd_ne n2, upd_ne n1]
              exact y
            have tup : ∀ {r : Addr} {c : Cell}, At G5 r c → At (upd (upd G5 d (.dT (wdK (F5 ++ [(b, n + 1)])))) af (.lst (qs5.map V.ref ++ [V.ref qb]))) r c := fun {r c} y => off (fun z => by
              have y2 : G5 r = some (.tup (cV c)) := y
              rw [z, wd5.fa.gd] at y2
              cases y2) (fun z => by
              have y2 : G5 r = some (.tup (cV c)) := y
              rw [z, ea5] at y2
              cases y2) y
            have lst : ∀ {r : Addr} {xs : List V}, r ≠ af → G5 r = some (.lst xs) → upd (upd G5 d (.dT (wdK (F5 ++ [(b, n + 1)])))) af (.lst (qs5.map V.ref ++ [V.ref qb])) r = some (.lst xs) := fun {r xs} n2 y => off (fun z => by
              rw [z, wd5.fa.gd] at y
              cases y) n2 y
            have nla : l.2.1 ≠ af := fun z => by
              obtain ⟨⟨_, y, _⟩, _⟩ := wa.ls l hl
              rw [z, haH] at y
              cases y
            exact ⟨_, _, _, rfl, wd6, lst wd5.ne ew5, paired_imp (fun _ _ y => tup y) pw5, lst nla el5, paired_imp (fun _ _ y => tup y) pl5, tup aa5, dk5.new da nbb nx hS⟩
          · have nx : b ∈ keysD F5 := by simpa using h2
            exact ⟨_, _, _, rfl, wd5, ew5, pw5, el5, pl5, aa5, dk5.old nx hS⟩
        · rintro σ G5 ⟨v7, F5, A5, rfl, wd5, ew5, pw5, el5, pl5, aa5, dk5⟩
          refine ⟨_, _, F5, A5, rfl, wd5, ew5, pw5, dk5.cong fun z => ?_⟩
          rw [take_snoc ha, List.length_map, Paired.length pl5, List.take_length]
          constructor
          · rintro ⟨a, h1, h2⟩
            rcases List.mem_append.mp h1 with y | y
            · exact .inl ⟨a, y, h2⟩
            · rw [List.mem_singleton.mp y] at h2
              exact .inr ((nb _).mp h2)
          · rintro (⟨a, h1, h2⟩ | h2)
            · exact ⟨a, List.mem_append_left _ h1, h2⟩
            · exact ⟨l.1, List.mem_append_right _ (List.mem_singleton.mpr rfl), (nb _).mpr h2⟩
      · rintro σ G4 ⟨v6, v7, F4, A4, rfl, wd, ew4, pw4, dk⟩
        rw [List.length_map, Paired.length pw4, List.take_length] at dk
        refine ⟨_, rfl, D - (n + 1), by omega, n + 1, af, A4, F4, _, _, _, rfl, rfl, by omega, wd.sm, wd.fa, wd.ga, fun x m => ?_, fun x => ?_⟩
        · rw [dk.mf]
          constructor
          · rintro (⟨y1, y2⟩ | ⟨y1, y2⟩)
            · exact ⟨y1, by omega⟩
            · rw [y1]
              exact ⟨((dk.ml _).mp y2).1, Nat.le_refl _⟩
          · rintro ⟨y1, y2⟩
            by_cases z : m ≤ n
            · exact .inl ⟨y1, z⟩
            · obtain rfl : m = n + 1 := by omega
              obtain ⟨a, a1, a2⟩ := y1.prev
              exact .inr ⟨rfl, (dk.ml _).mpr ⟨y1, a, (mW a).mpr a1, a2⟩⟩
        · rw [dk.ml]
          exact ⟨fun y => y.1, fun y => ⟨y, by
            obtain ⟨a, a1, a2⟩ := y.prev
            exact ⟨a, (mW a).mpr a1, a2⟩⟩⟩
    · have inF : st ∈ keysD F := by simpa using h1
      obtain ⟨m, hm⟩ := mem_keysD.mp inF
      obtain ⟨m1, m2⟩ := (mF _ _).mp hm
      obtain rfl := m1.uniq ds
      obtain rfl : n = m := by omega
      exact ⟨_, rfl, k d G F sG fa mF⟩
end
end Sq

set_option Elab.async false
set_option linter.all false
set_option maxRecDepth 100000
set_option maxHeartbeats 1000000
/-! The walk along the ways. -/
namespace Sq
open PySem PySem.Spec PyProof.Rows L2
theorem minD_cells : ∀ (cs : List Cell) (c : Cell), ∃ m ∈ c :: cs, PySem.W.minD (cD c) (cs.map cD) = cD m ∧ ∀ d ∈ c :: cs, cLt d m = false
  | [], c => ⟨c, List.mem_cons_self .., rfl, fun d hd => by
    rw [List.mem_singleton.mp hd]
    exact decide_eq_false (by omega)⟩
  | e :: cs, c => by
    have st : PySem.W.minD (cD c) ((e :: cs).map cD) = PySem.W.minD (cD (if cLt e c = true then e else c)) (cs.map cD) := by
      show List.foldl _ _ _ = List.foldl _ _ _
      rw [List.map_cons, List.foldl_cons, lt_cD]
      cases cLt e c <;> rfl
    obtain ⟨m, hm, em, le⟩ := minD_cells cs (if cLt e c = true then e else c)
    have h0 := le _ (List.mem_cons_self ..)
    rw [st]
    refine ⟨m, ?_, em, fun d hd => ?_⟩
    · rcases List.mem_cons.mp hm with z | z
      · rw [z]
        by_cases h : cLt e c = true
        · rw [if_pos h]
          exact List.mem_cons_of_mem _ (List.mem_cons_self ..)
        · rw [if_neg h]
          exact List.mem_cons_self ..
      · exact List.mem_cons_of_mem _ (List.mem_cons_of_mem _ z)
    · by_cases h : cLt e c = true
      · rw [if_pos h] at h0
        rcases List.mem_cons.mp hd with z | z
        · rw [z]
          have h := of_decide_eq_true h
          have h0 := of_decide_eq_false h0
          exact decide_eq_false (by omega)
        · rcases List.mem_cons.mp z with z | z
          · rw [z]
            exact h0
          · exact le d (List.mem_cons_of_mem _ z)
      · rw [if_neg h] at h0
        rcases List.mem_cons.mp hd with z | z
        · rw [z]
          exact h0
        · rcases List.mem_cons.mp z with z | z
          · rw [z]
            have h : cLt e c = false := by simpa using h
            have h := of_decide_eq_false h
            have h0 := of_decide_eq_false h0
            exact decide_eq_false (by omega)
          · exact le d (List.mem_cons_of_mem _ z)
section
variable {X : Cx}
/-- min of a list of cells: the least -/
def rMinLK (K : PySem.W.Frag) : List V → Hp → VK → Prop := fun vs H Q => ∃ (a : Addr) (qs : List Addr) (cs : List Cell), vs = [V.ref a] ∧ SqL K H a (qs.map V.ref) ∧ Paired (fun q c => At H q c) qs cs ∧ cs ≠ [] ∧ ∀ q c, c ∈ cs → (∀ d ∈ cs, cLt d c = false) → At H q c → Q (.ref q) H
theorem cr_minLK (hc : X.calm = true) (hu : X.A.units + 64 < cLine) : CallR X (.builtin "min") (rMinLK X.K) := by
  intro pins s σ H vs us Q I r h
  obtain ⟨a, qs, cs, rfl, hs, pr, ne, q⟩ := h
  obtain ⟨its, rv, hl, _⟩ := I.list hs
  rw [Vals.ref1 r]
  obtain ⟨as, ra⟩ := reads_cellsW I pr rv
  cases cs with
  | nil => exact absurd rfl ne
  | cons c cs =>
    obtain ⟨m, hm, em, le⟩ := minD_cells cs c
    refine PySem.W.min_list_data (I.ok.hd hc) hl.isList (x := cD c) (xs := cs.map cD) (as := as) (by simpa using ra) ⟨fun x hx y hy => ?_, fun x hx => ?_⟩ ?_ fun i v h' tk bs hi rm hk => ?_
    · obtain ⟨d, _, rfl⟩ := List.mem_map.mp (show x ∈ (c :: cs).map cD from hx)
      obtain ⟨e, _, rfl⟩ := List.mem_map.mp (show y ∈ (c :: cs).map cD from hy)
      exact alike_cD d e
    · obtain ⟨d, _, rfl⟩ := List.mem_map.mp (show x ∈ (c :: cs).map cD from hx)
      simp [cD]
    · have ds : PyData.depthAll (cD c :: cs.map cD) ≤ 1 := (lay_all (n := 1) (ds := (c :: cs).map cD) fun d hd => by
        obtain ⟨c, _, rfl⟩ := List.mem_map.mp hd
        exact lay_cell c).2
      show X.A.units + 1 + _ < cLine
      omega
    · have hv : its[i]? = some v := by simpa using hi
      obtain ⟨y, hy, ry⟩ := paired_getRW rv hv
      rw [List.getElem?_map] at hy
      obtain ⟨b, hb, rfl⟩ := Option.map_eq_some_iff.mp hy
      obtain ⟨d, hd, ad⟩ := paired_get pr hb
      have I2 : Inv X pins σ H { s with heap := h', toks := tk } := I.kept hk
      obtain ⟨bs2, r2⟩ := Dp.reads I2 (cD d) _ _ (At.dp (K := X.K) ad) ry
      rw [em] at rm
      have e : cD m = cD d := (Reads.unique rm _ _ r2).1
      have e : m = d := by simpa using of_decide_eq_true (show decide (m = d) = true by rw [← cD_eqv m d, e]; rw [cD_eqv]; simp)
      exact ⟨.ref b, H, I2, ry, q b d (List.mem_of_getElem? hd) (e ▸ le) ad⟩
end
end Sq

set_option Elab.async false
set_option linter.all false
set_option maxRecDepth 100000
set_option maxHeartbeats 1000000
/-! Walks as mathematics. -/
namespace Sq
open PySem PySem.Spec PyProof.Rows L2
theorem least_nat {p : Nat → Prop} : ∀ (n : Nat), p n → ∃ m, p m ∧ ∀ k, k < m → ¬ p k := fun n => by
  induction n using Nat.strongRecOn with
  | _ n ih =>
    intro h
    by_cases c : ∃ k, k < n ∧ p k
    · obtain ⟨k, l, hk⟩ := c
      exact ih k l hk
    · exact ⟨n, h, fun k l hk => c ⟨k, l, hk⟩⟩
theorem ring_ex {R : List Cell} {e : Side} (sd : IsSide R e) : ∃ m O, RingOf R e m O := by
  obtain ⟨m0, p0, _, r0⟩ := iter_ret sd
  obtain ⟨m, ⟨h1, h2⟩, h3⟩ := least_nat (p := fun m => 1 ≤ m ∧ iterS R e m = e) m0 ⟨p0, r0⟩
  exact ⟨m, _, h1, h2, fun k k1 k2 k3 => h3 k k2 ⟨k1, k3⟩, rfl⟩
theorem step_symm {R : List Cell} {x y : Cell} (hx : x ∉ R) (h : y ∈ stepsN R x) : x ∈ stepsN R y ∧ Air R x y := by
  obtain ⟨e, sd, hh⟩ := step_pair hx h
  have ne := (step_out h).2
  have a1 : Air R e.1 (nextS R e).1 := iter_air sd 1
  rcases hh with ⟨h1, h2⟩ | ⟨h1, h2⟩
  · have st := ring_step sd (by rw [h1, h2]; exact ne)
    rw [h1, h2] at st a1
    exact ⟨st.2, a1⟩
  · have st := ring_step sd (by rw [h1, h2]; exact ne.symm)
    have o1 := sd.out
    rw [h1, h2] at st a1
    rw [h1] at o1
    exact ⟨st.1, a1.symm o1⟩
/-- one step of a walk that begins at s: along what is left behind -/
def adjA (L : List Cell) (s x y : Cell) : Prop := hangsB (without L s) = true ∧ Air (without L s) s x ∧ y ∈ stepsN (without L s) x
theorem self_out (L : List Cell) (s : Cell) : s ∉ without L s := fun y => (mem_without.mp y).2 rfl
theorem adjA_symm {L : List Cell} {s x y : Cell} (h : adjA L s x y) : adjA L s y x := by
  obtain ⟨h1, h2, h3⟩ := h
  obtain ⟨a, b⟩ := step_symm (h2.out (self_out L s)) h3
  exact ⟨h1, h2.trans b, a⟩
section
variable {A : Cell → Cell → Prop}
theorem Wk.head {e f : Cell} (h : A e f) : ∀ {n : Nat} {x : Cell}, Wk A f n x → Wk A e (n + 1) x
  | 0, x, k => ⟨e, rfl, by rw [show x = f from k]; exact h⟩
  | n + 1, x, ⟨y, k, a⟩ => ⟨y, Wk.head h k, a⟩
theorem Wk.back (sy : ∀ x y, A x y → A y x) : ∀ {n : Nat} {e x : Cell}, Wk A e n x → Wk A x n e
  | 0, e, x, k => (show x = e from k).symm
  | n + 1, e, x, ⟨y, k, a⟩ => Wk.head (sy _ _ a) (Wk.back sy k)
theorem Dst.down {e : Cell} : ∀ {n : Nat} {x : Cell}, Dst A e n x → ∀ j, j ≤ n → ∃ y, Dst A e j y
  | n, x, h, j, hj => by
    induction n generalizing x with
    | zero => exact ⟨x, by rw [show j = 0 by omega]; exact h⟩
    | succ n ih =>
      by_cases z : j = n + 1
      · exact ⟨x, by rw [z]; exact h⟩
      · obtain ⟨y, hy, _⟩ := h.prev
        exact ih _ hy (by omega)
theorem Dst.cong {A' : Cell → Cell → Prop} (h : ∀ x y, A x y ↔ A' x y) {e : Cell} {n : Nat} {x : Cell} : Dst A e n x ↔ Dst A' e n x := by
  have : A = A' := funext fun x => funext fun y => propext (h x y)
  rw [this]
end
theorem start_side {L : List Cell} {c : Cell} (hang : Hangs L) (cL : c ∈ L) (hR : Hangs (without L c)) : ∃ sq, IsSide (without L c) (c, sq) := by
  have nn : nearC (without L c) c ≠ [] := fun y => none_hangs hang cL (List.eq_nil_iff_forall_not_mem.mpr fun x hx => by
    obtain ⟨h1, h2⟩ := List.mem_filter.mp hx
    have : x ∈ nearC (without L c) c := List.mem_filter.mpr ⟨h1, decide_eq_true (mem_without.mpr ⟨of_decide_eq_true h2, fun z => beside_ne h1 z⟩)⟩
    rw [y] at this
    cases this) hR
  obtain ⟨sq, sqs, esq⟩ := List.exists_cons_of_ne_nil nn
  have msq : sq ∈ nearC (without L c) c := by rw [esq]; exact List.mem_cons_self ..
  exact ⟨sq, self_out L c, of_decide_eq_true (List.mem_filter.mp msq).2, (List.mem_filter.mp msq).1⟩
theorem ring_wk {L : List Cell} {s sq : Cell} (hb : hangsB (without L s) = true) (sd : IsSide (without L s) (s, sq)) : ∀ k, ∃ n, Wk (adjA L s) s n (iterS (without L s) (s, sq) k).1
  | 0 => ⟨0, rfl⟩
  | k + 1 => by
    obtain ⟨n, hn⟩ := ring_wk hb sd k
    have sk := iter_side sd k
    by_cases z : (nextS (without L s) (iterS (without L s) (s, sq) k)).1 = (iterS (without L s) (s, sq) k).1
    · exact ⟨n, by rw [show iterS (without L s) (s, sq) (k + 1) = nextS (without L s) (iterS (without L s) (s, sq) k) from rfl, z]; exact hn⟩
    · exact ⟨n + 1, _, hn, hb, iter_air sd k, (ring_step sk z).1⟩
theorem key_reach {L : List Cell} {s e : Cell} (hang : Hangs L) (sL : s ∈ L) (h : e = s ∨ ∃ y, adjA L s e y) : ∃ D, Dst (adjA L s) e D s := by
  rcases h with rfl | ⟨y, hb, ae, hy⟩
  · exact ⟨0, Dst.zero⟩
  have hR := hangsB_iff.mp hb
  obtain ⟨sq, sd⟩ := start_side hang sL hR
  obtain ⟨m, O, ro⟩ := ring_ex sd
  obtain ⟨e', sd', hh⟩ := step_pair (ae.out (self_out L s)) hy
  have a1 : Air (without L s) e'.1 (nextS (without L s) e').1 := iter_air sd' 1
  have ae' : Air (without L s) s e'.1 := by
    rcases hh with ⟨h1, _⟩ | ⟨_, h2⟩
    · rw [h1]
      exact ae
    · rw [h2] at a1
      exact ae.trans (a1.symm sd'.out)
  have mO : e' ∈ O := (ro.mem hR sd).mpr ⟨ae', sd'⟩
  rw [ro.eq] at mO
  obtain ⟨k, _, ek⟩ := List.mem_map.mp mO
  have : ∃ j, (iterS (without L s) (s, sq) j).1 = e := by
    rcases hh with ⟨h1, _⟩ | ⟨_, h2⟩
    · exact ⟨k, by rw [ek]; exact h1⟩
    · exact ⟨k + 1, by rw [show iterS (without L s) (s, sq) (k + 1) = nextS (without L s) (iterS (without L s) (s, sq) k) from rfl, ek]; exact h2⟩
  obtain ⟨j, hj⟩ := this
  obtain ⟨n, hn⟩ := ring_wk hb sd j
  rw [hj] at hn
  obtain ⟨D, _, hD⟩ := wk_dst _ (hn.back fun _ _ => adjA_symm)
  exact ⟨D, hD⟩
/-- the least cell of a kind -/
def LeastC (S : Cell → Prop) (y : Cell) : Prop := S y ∧ ∀ z, S z → cLt z y = false
theorem LeastC.uniq {S : Cell → Prop} {y z : Cell} (h : LeastC S y) (k : LeastC S z) : y = z := cLt_tri (k.2 _ h.1) (h.2 _ k.1)
/-- the walk of n moves from x to e, always to the least cell that lies nearer -/
def WalkP (A : Cell → Cell → Prop) (e : Cell) : Nat → Cell → List CellP → Prop
  | 0, x, ms => x = e ∧ ms = []
  | n + 1, x, ms => ∃ y ms', LeastC (fun z => A x z ∧ Dst A e n z) y ∧ ms = (x, y) :: ms' ∧ WalkP A e n y ms'
theorem WalkP.len {A : Cell → Cell → Prop} {e : Cell} : ∀ {n : Nat} {x : Cell} {ms : List CellP}, WalkP A e n x ms → ms.length = n
  | 0, _, _, ⟨_, h⟩ => by rw [h]; rfl
  | n + 1, _, _, ⟨y, ms', _, h, k⟩ => by rw [h, List.length_cons, WalkP.len k]
theorem WalkP.uniq {A : Cell → Cell → Prop} {e : Cell} : ∀ {n : Nat} {x : Cell} {ms ms2 : List CellP}, WalkP A e n x ms → WalkP A e n x ms2 → ms = ms2
  | 0, _, _, _, ⟨_, h⟩, ⟨_, k⟩ => by rw [h, k]
  | n + 1, _, _, _, ⟨y, ms', l, h, w⟩, ⟨z, ms'', l2, k, w2⟩ => by
    obtain rfl := l.uniq l2
    rw [h, k, w.uniq w2]
end Sq

set_option Elab.async false
set_option linter.all false
set_option maxRecDepth 100000
set_option maxHeartbeats 1000000
/-! walk_in. -/
namespace Sq
open PySem PySem.Spec PyProof.Rows L2
def spWalkIn : Sp := fun vs H Q _ => ∃ (d qs qe : Addr) (L : List Cell) (s e : Cell), vs = [.ref d, .ref qs, .ref qe] ∧ H d = some (.dT (lotK L)) ∧ L.Nodup ∧ L.length ≤ 1000 ∧ Hangs L ∧ At H qs s ∧ At H qe e ∧
  (∀ G, Same H G → (s ∉ L ∨ ¬ (e = s ∨ ∃ y, adjA L s e y)) → Q .non G) ∧
  ∀ r G ms D, Same H G → s ∈ L → PairsT G r ms → Dst (adjA L s) e D s → D ≤ 8000 → WalkP (adjA L s) e D s ms → Q (.ref r) G
section
variable {P : Program} {w : World} {K : PySem.W.Frag} {mg : Str → Option Value} {base : Heap}
abbrev wlkN : List Str := ["lot", "start", "end", "ways", "distances", "moves", "place", "nearer", "after", "near"]
theorem scWlk : FnScope wlkN ["lot", "start", "end"] (defScope gWalkIn) := ⟨rfl, rfl, rfl, by decide +kernel, rfl, by decide +kernel, by decide +kernel⟩
theorem far_get {H : Hp} {F : List WdE} (nk : (keysD F).Nodup) (y : Cell) (m : Nat) : ∃ D : PyData, Dp K H ((valV (wdK F) (cK y)).getD .non) D ∧ SeqAt.shaped D = true ∧ PyData.eqv D (.int (m : Int)) = decide ((y, m) ∈ F) := by
  by_cases h : y ∈ keysD F
  · obtain ⟨n, hn⟩ := mem_keysD.mp h
    rw [far_val nk hn]
    refine ⟨_, .int _, rfl, ?_⟩
    rw [show PyData.eqv (.int (n : Int)) (.int (m : Int)) = decide ((n : Int) = (m : Int)) from rfl]
    refine decide_eq_decide.mpr ⟨fun z => by rw [← Int.ofNat.inj z]; exact hn, fun z => ?_⟩
    have := inj_of_nodup (f := fun x : WdE => x.1) nk hn z rfl
    rw [show n = m from congrArg Prod.snd this]
  · rw [show valV (wdK F) (cK y) = none from kv_no h]
    refine ⟨_, .non, rfl, ?_⟩
    rw [show PyData.eqv .none (.int (m : Int)) = false from rfl]
    exact (decide_eq_false fun z => h (mem_keysD.mpr ⟨m, z⟩)).symm
theorem ok_walkIn {f : Addr} {fd : FuncData} (F : FnP K "walk_in" gWalkIn f fd) (B : Bl mg) (DW : Df P w K mg base CX0 4 "ways_in" ["lot", "start"] spWays) (DD : Df P w K mg base CX0 1 "distances_to" ["ways", "end", "start"] spDist) : FnOk P w K mg base CX0 5 f fd ["lot", "start", "end"] spWalkIn := by
  refine F.ok scWlk (fun vs H Q E h => ?_) (fun cdv A outer s H vs Q E hr h => ?_)
  · obtain ⟨d, qs, qe, L, s, e, rfl, _⟩ := h
    rfl
  · obtain ⟨d, qs, qe, L, st, e, rfl, ed, nL, lL, hang, as, ae, kn, ky⟩ := h
    have hu := hu_of hr
    have h64 := room64 hr
    refine ⟨_, PSs.nox (pss_cons (ps_if (pt_cmp (pc_dnotin hu (pv 1) (pv 0)))
      (pss_one (ps_ret pe_non))
      pss_nil)
      (pss_cons (ps_set (i := 3) scWlk.nd rfl (.inl rfl) (pe_df DW hr (by rfl) pass0 (pa_cons (pv 0) (pa_cons (pv 1) pa_nil))))
      (pss_cons (ps_if (pt_cmp (pc_dnotin hu (pv 2) (pv 3)))
      (pss_one (ps_ret pe_non))
      pss_nil)
      (pss_cons (ps_set (i := 4) scWlk.nd rfl (.inr rfl) (pe_df DD hr (by rfl) pass0 (pa_cons (pv 3) (pa_cons (pv 2) (pa_cons (pv 1) pa_nil)))))
      (pss_cons (ps_set (i := 5) scWlk.nd rfl (.inl rfl) (pe_lst pa_nil))
      (pss_cons (ps_set (i := 6) scWlk.nd rfl (.inl rfl) (pv 1))
      (pss_cons (ps_while PassesOwn.never (pt_cmpR (op_neK (K := K) rfl h64) (pv 6) (pv 2) (nomark _))
      (pss_cons (ps_set (i := 7) scWlk.nd rfl (.inr rfl) (pe_op op_sub (pe_dget hu (pv 4) (pv 6) (fun _ _ => rfl)) pe_int))
        (pss_cons (ps_set (i := 8) scWlk.nd rfl (.inl rfl) (pe_callB (cr_minLK (by rfl) h64) (by rfl) B.min (by decide +kernel) (pa_cons (pe_lc (own := [("near", 9)]) (g := gName 9) rfl scWlk.nd (pi_list (pe_dget hu (pv 3) (pv 6) (fun _ _ => rfl))) (blkOk_by (N := wlkN) (sc := defScope gWalkIn) (by decide +kernel)) (fun _ _ _ _ _ => pg_name (i := 9) scWlk.nd rfl (Or.inl rfl)) (fun _ _ _ _ _ => (pts_one (pt_cmpR (op_eqK (K := K) rfl h64) (pe_dget1 hu (pv 4) (pv 9) ⟨rfl, rfl, rfl, rfl⟩) (pv 7) (nomark _)))) (fun _ _ _ _ _ => (pv 9))) pa_nil)))
        (pss_cons (ps_expr (pe_bm PySem.F.plainAttrs_list PySem.F.slot_list_append PySem.F.type_list_append mt_append (pv 5) (pa_cons (pe_tup (pa_cons (pv 6) (pa_cons (pv 8) pa_nil))) pa_nil)))
        (pss_one (ps_set (i := 6) scWlk.nd rfl (.inl rfl) (pv 8)))))))
      (pss_one (ps_ret (pe_tupleOf (by rfl) B.tuple (pv 5))))))))))), ?_⟩
    refine ⟨_, rfl, _, rfl, d, _, rfl, dget_lot ed as, _, rfl, ?_⟩
    rw [lot_is]
    refine ite2 (fun h1 => ?_) (fun h1 => ?_)
    · exact kn H same_refl (.inl (by simpa using h1))
    have sL : st ∈ L := by simpa using h1
    refine ⟨_, rfl, _, rfl, d, qs, L, st, rfl, ed, nL, lL, hang, sL, as, fun wy G1 T s1 wa hy hn => ?_⟩
    have nbA : ∀ x y, nbW T x y ↔ adjA L st x y := fun x y => by
      by_cases hb : hangsB (without L st) = true
      · rw [(hy hb).nb]
        exact ⟨fun z => ⟨hb, z⟩, fun z => z.2⟩
      · have hb' : hangsB (without L st) = false := by simpa using hb
        exact ⟨fun z => absurd z ((hn hb').2 x y), fun z => absurd z.1 hb⟩
    have keysA : ∀ x, x ∈ keysW T ↔ x = st ∨ ∃ y, adjA L st x y := fun x => by
      by_cases hb : hangsB (without L st) = true
      · rw [(hy hb).ky]
        simp only [nbA]
      · have hb' : hangsB (without L st) = false := by simpa using hb
        rw [(hn hb').1]
        exact ⟨.inl, fun z => z.elim id fun ⟨y, z⟩ => absurd z.1 hb⟩
    refine ⟨_, rfl, _, rfl, wy, _, rfl, DGet.t (k := cK e) wa.gd (ae.same s1), _, rfl, ?_⟩
    rw [show (valV (wyK T) (cK e)).isSome = decide (e ∈ keysW T) from kv_is wa.nk]
    refine ite2 (fun h2 => ?_) (fun h2 => ?_)
    · exact kn G1 s1 (.inr (by rw [← keysA]; simpa using h2))
    have eK : e ∈ keysW T := by simpa using h2
    obtain ⟨D, hD⟩ := key_reach hang sL ((keysA e).mp eK)
    have dA : ∀ {n : Nat} {x : Cell}, Dst (nbW T) e n x ↔ Dst (adjA L st) e n x := Dst.cong nbA
    have cl : ∀ x y, nbW T x y → y ∈ keysW T := fun x y z => (keysA y).mpr (.inr ⟨x, adjA_symm ((nbA x y).mp z)⟩)
    refine ⟨_, rfl, _, rfl, _, rfl, wy, qe, qs, T, e, st, D, rfl, wa, cl, ae.same s1, as.same s1, eK, dA.mpr hD, fun ds G2 F2 s2 fa mF => ?_⟩
    have s02 := s1.trans s2
    have wa2 := wa.same s2
    have mF : ∀ x n, (x, n) ∈ F2 ↔ Dst (adjA L st) e n x ∧ n ≤ D := fun x n => by rw [mF, dA]
    have D8 : D ≤ 8000 := by
      have l1 : F2.length ≤ 8001 := Nat.le_trans (len_in fa.nk fun x hx => by
        obtain ⟨m, hm⟩ := mem_keysD.mp hx
        exact dst_key cl eK (dA.mpr ((mF _ _).mp hm).1)) wa.ln
      have l2 : (List.range (D + 1)).length ≤ (F2.map fun x => x.2).length := len_le List.nodup_range fun j hj => by
        obtain ⟨y, hy⟩ := hD.down j (by have := List.mem_range.mp hj; omega)
        exact List.mem_map.mpr ⟨(y, j), (mF _ _).mpr ⟨hy, by have := List.mem_range.mp hj; omega⟩, rfl⟩
      rw [List.length_range, List.length_map] at l2
      omega
    refine ⟨Nat.zero_le _, fun mv hmv => ?_⟩
    have s3 := same_new (o := HO.lst []) hmv
    have em := upd_same (H := G2) (a := mv) (o := HO.lst [])
    generalize upd G2 mv (.lst []) = G3 at s3 em
    refine ⟨_, rfl, ?_⟩
    refine ⟨fun q σ G => ∃ (x : Cell) (px : Addr) (rs : List Addr) (ms : List CellP) (v7 v8 v9 : Option V), σ = [some (.ref d), some (.ref qs), some (.ref qe), some (.ref wy), some (.ref ds), some (.ref mv), some (.ref px), v7, v8, v9] ∧ Kp [mv] G3 G ∧ At G px x ∧ Dst (adjA L st) e q x ∧ q ≤ D ∧ G mv = some (.lst (rs.map V.ref)) ∧ Paired (fun r m => PairAt G r m) rs ms ∧ ms.length + q = D ∧ ∀ ms', WalkP (adjA L st) e q x ms' → WalkP (adjA L st) e D st (ms ++ ms'),
      ⟨D, st, qs, [], [], none, none, none, rfl, fun _ _ _ y => y, (as.same s02).same s3, hD, Nat.le_refl _, em, .nil, by simp, fun ms' y => y⟩, ?_⟩
    rintro q σ G ⟨x, px, rs, ms, v7, v8, v9, rfl, kp, ax, hx, qD, emv, prs, lms, wk⟩
    have kH : ∀ {b : Addr} {o : HO}, G2 b = some o → G b = some o := fun {b o} y => kp _ _ (fun mm => by
      rw [List.mem_singleton.mp mm, hmv] at y
      cases y) (s3 _ _ y)
    have s2G : Same G2 G := fun b o y => kH y
    have aeG : At G qe e := (ae.same s02).same s2G
    refine ⟨_, rfl, _, rfl, _, _, ax.dp, aeG.dp, cD_shaped _, cD_shaped _, _, rfl, ?_⟩
    rw [cD_eqv]
    refine ite2 (fun h3 => ?_) (fun h3 => ?_)
    · have ne : x ≠ e := by simpa using h3
      obtain ⟨n, rfl⟩ : ∃ n, q = n + 1 := by
        cases q with
        | zero => exact absurd hx.1 ne
        | succ n => exact ⟨n, rfl⟩
      refine ⟨fun σ' G' => ∃ m', m' < n + 1 ∧ _, fun _ _ h => h, ?_⟩
      have faG : FarAt G ds F2 := ⟨s2G _ _ fa.gd, fa.nk⟩
      have waG := wa2.same s2G
      have inF : (x, n + 1) ∈ F2 := (mF _ _).mpr ⟨hx, qD⟩
      have xK : x ∈ keysW T := dst_key cl eK (dA.mpr hx)
      obtain ⟨l, hl, rfl⟩ := List.mem_map.mp xK
      obtain ⟨⟨ns, el, pn⟩, ll⟩ := waG.ls l hl
      have nb := fun x => nb_of (x := x) wa.nk hl
      refine ⟨_, rfl, _, rfl, ds, .int ((n + 1 : Nat) : Int), rfl, (by rw [← far_val fa.nk inF]; exact DGet.t (k := cK l.1) faG.gd ax), _, _, rfl, rfl, ?_⟩
      rw [show (fun i j : Int => V.int (i - j)) ((n + 1 : Nat) : Int) 1 = V.int ((n : Nat) : Int) from by show V.int _ = V.int _; congr 1; omega]
      refine ⟨_, rfl, _, rfl, wy, .ref l.2.1, rfl, (by rw [← waG.val hl]; exact DGet.t (k := cK l.1) waG.gd ax), l.2.1, rfl, ⟨_, SqL.of el⟩, fun D' hD' => ?_⟩
      refine lc_it (walk_list (K := K) (a := l.2.1) (xs := ns.map V.ref)) (fun i G' => Same G G' ∧ ∃ cs : List Addr, G' D' = some (.lst (cs.map V.ref)) ∧ cs.length ≤ i ∧ Paired (fun r c => At G r c) cs ((l.2.2.take i).filter fun y => decide ((y, n) ∈ F2))) ⟨same_new hD', [], upd_same, Nat.le_refl _, .nil⟩ (fun i G' _ p => SqL.of (p.1 _ _ el)) ?_ ?_
      · rintro i y G4 G5 hi ⟨sm, cs, gD, ln, pp⟩ ⟨rfl, hy⟩
        rw [List.getElem?_map] at hy
        obtain ⟨p, hp, rfl⟩ := Option.map_eq_some_iff.mp hy
        obtain ⟨c, hc, ac⟩ := paired_get pn hp
        obtain ⟨Dd, d1, d2, d3⟩ := far_get (K := K) (H := G5) fa.nk c n
        have lq : i < ns.length := by rw [List.length_map] at hi; exact hi
        have ln8 : ns.length ≤ 8000 := by rw [Paired.length pn]; exact ll
        refine ⟨rfl, _, rfl, ds, rfl, .inr ⟨_, .inl (sm _ _ faG.gd)⟩, _, rfl, _, DGet.t (k := cK c) (sm _ _ faG.gd) (ac.same sm), _, rfl, Dd, .int (n : Int), d1, .int _, d2, rfl, _, rfl, ?_⟩
        rw [d3]
        refine ite2 (fun hc2 => ?_) (fun hc2 => ?_)
        · refine ⟨_, rfl, _, gD, by rw [List.length_map, sizeLine_eq]; omega, fun b o e2 => ?_, cs ++ [p], by rw [upd_same]; simp, by rw [List.length_append]; exact Nat.succ_le_succ ln, ?_⟩
          · rw [upd_ne (fun z => by rw [z, hD'] at e2; cases e2)]
            exact sm b o e2
          · rw [take_snoc hc, List.filter_append]
            simp only [List.filter_cons, hc2, if_true, List.filter_nil]
            exact pp.snoc ac
        · refine ⟨sm, cs, gD, Nat.le_succ_of_le ln, ?_⟩
          rw [take_snoc hc, List.filter_append]
          have hc' : decide ((c, n) ∈ F2) = false := Bool.eq_false_iff.mpr hc2
          simp only [List.filter_cons, hc', Bool.false_eq_true, if_false, List.filter_nil, List.append_nil]
          exact pp
      · rintro G4 ⟨sm, cs, gD, ln, pp⟩
        rw [List.length_map, Paired.length pn, List.take_length] at pp
        have mC : ∀ y, y ∈ (l.2.2.filter fun y => decide ((y, n) ∈ F2)) ↔ adjA L st l.1 y ∧ Dst (adjA L st) e n y := fun y => by
          rw [List.mem_filter, decide_eq_true_iff, mF, ← nb, nbA]
          exact ⟨fun z => ⟨z.1, z.2.1⟩, fun z => ⟨z.1, z.2, by omega⟩⟩
        obtain ⟨y0, y1, y2⟩ := hx.prev
        have ne0 : (l.2.2.filter fun y => decide ((y, n) ∈ F2)) ≠ [] := fun z => by
          have := (mC y0).mpr ⟨adjA_symm y2, y1⟩
          rw [z] at this
          cases this
        refine ⟨D', cs, _, rfl, SqL.of gD, paired_imp (fun _ _ y => y.same sm) pp, ne0, fun q c mc lc ac => ?_⟩
        have lst : LeastC (fun z => adjA L st l.1 z ∧ Dst (adjA L st) e n z) c := ⟨(mC c).mp mc, fun z hz => lc z ((mC z).mpr hz)⟩
        have emv4 := sm _ _ emv
        refine ⟨_, rfl, .inl ⟨rfl, _, SqL.of emv4⟩, _, rfl, _, rfl, two_le, fun u hu1 => ?_⟩
        have s5 := same_new (o := HO.tup [.ref px, .ref q]) hu1
        have s45 := sm.trans s5
        have emv5 := s5 _ _ emv4
        have lrs : rs.length = ms.length := Paired.length prs
        refine ⟨mv, _, _, rfl, rfl, emv5, by rw [List.length_map, sizeLine_eq]; omega, ?_⟩
        have tk : Tk (upd G4 u (.tup [.ref px, .ref q])) (upd (upd G4 u (.tup [.ref px, .ref q])) mv (.lst (rs.map V.ref ++ [V.ref u]))) := tk_upd emv5 fun _ z => nomatch z
        refine ⟨_, rfl, n, by omega, c, q, rs ++ [u], ms ++ [(l.1, c)], _, _, _, rfl, fun b o nb' y => ?_, (ac.same s5).tk tk, lst.1.2, by omega, by rw [upd_same, List.map_append]; rfl, ?_, by rw [List.length_append]; show ms.length + 1 + n = D; omega, fun ms' hm => ?_⟩
        · rw [upd_ne (fun z => nb' (by rw [z]; exact List.mem_singleton.mpr rfl))]
          exact s45 _ _ (kp b o nb' y)
        · exact (paired_imp (fun _ _ y => (PairAt.same y s45).keep tk) prs).snoc ⟨px, q, tk _ _ upd_same, (ax.same s45).tk tk, (ac.same s5).tk tk⟩
        · rw [List.append_assoc]
          exact wk _ ⟨c, ms', lst, rfl, hm⟩
    · have eq : x = e := by simpa using h3
      have q0 : q = 0 := by
        rw [eq] at hx
        exact hx.uniq Dst.zero
      rw [q0] at wk lms
      have wkE := wk [] ⟨eq, rfl⟩
      rw [List.append_nil] at wkE
      have lrs : rs.length = ms.length := Paired.length prs
      have sHG : Same H G := s02.trans s2G
      refine ⟨_, rfl, .inl ⟨mv, _, rfl, SqL.of emv, fun r hr => ?_⟩⟩
      have s9 := same_new (o := HO.tup (rs.map V.ref)) hr
      exact ky r _ ms D (sHG.trans s9) sL ⟨rs, upd_same, paired_imp (fun _ _ y => PairAt.same y s9) prs⟩ hD D8 wkE
end
end Sq

set_option Elab.async false
set_option linter.all false
set_option maxRecDepth 100000
set_option maxHeartbeats 1000000
/-! Walks are short; walks along what is left behind. -/
namespace Sq
open PySem PySem.Spec PyProof.Rows L2
theorem ring_wk2 {L : List Cell} {s sq : Cell} (hb : hangsB (without L s) = true) (sd : IsSide (without L s) (s, sq)) (j : Nat) : ∀ i, ∃ n, n ≤ i ∧ Wk (adjA L s) (iterS (without L s) (s, sq) j).1 n (iterS (without L s) (s, sq) (j + i)).1
  | 0 => ⟨0, Nat.le_refl _, rfl⟩
  | i + 1 => by
    obtain ⟨n, hn, hw⟩ := ring_wk2 hb sd j i
    have sk := iter_side sd (j + i)
    have e1 : iterS (without L s) (s, sq) (j + (i + 1)) = nextS (without L s) (iterS (without L s) (s, sq) (j + i)) := rfl
    by_cases z : (nextS (without L s) (iterS (without L s) (s, sq) (j + i))).1 = (iterS (without L s) (s, sq) (j + i)).1
    · exact ⟨n, by omega, by rw [e1, z]; exact hw⟩
    · exact ⟨n + 1, by omega, _, hw, hb, iter_air sd (j + i), (ring_step sk z).1⟩
theorem closed_len {R : List Cell} {O : List Side} (h : Closed R O) : O.length ≤ rimN R R := by
  have e : (R.flatMap fun y => ((nbC y).filter fun x => !decide (x ∈ R)).map fun c => ((c, y) : Side)).length = rimN R R := by
    have : ∀ B : List Cell, (B.flatMap fun y => ((nbC y).filter fun x => !decide (x ∈ R)).map fun c => ((c, y) : Side)).length = rimN R B := fun B => by
      induction B with
      | nil => rfl
      | cons y B ih =>
        rw [List.flatMap_cons, List.length_append, ih, List.length_map]
        simp [rimN]
    exact this R
  rw [← e]
  refine len_le h.nd fun x hx => ?_
  have sd := h.sd x hx
  refine List.mem_flatMap.mpr ⟨x.2, sd.sq, List.mem_map.mpr ⟨x.1, List.mem_filter.mpr ⟨mem_nbC.mpr (beside_symm sd.bs), ?_⟩, rfl⟩⟩
  simpa using sd.out
theorem without_lt {L : List Cell} {s : Cell} (nL : L.Nodup) (sL : s ∈ L) : (without L s).length + 1 ≤ L.length := by
  have nd : (s :: without L s).Nodup := List.nodup_cons.mpr ⟨self_out L s, nL.sublist List.filter_sublist⟩
  exact len_le nd fun x hx => by
    rcases List.mem_cons.mp hx with h | h
    · rw [h]
      exact sL
    · exact (mem_without.mp h).1
theorem dst_small {L : List Cell} {s e : Cell} {D : Nat} (nL : L.Nodup) (hang : Hangs L) (sL : s ∈ L) (h : Dst (adjA L s) e D s) : D ≤ L.length := by
  have k : e = s ∨ ∃ y, adjA L s e y := by
    cases D with
    | zero => exact .inl h.1.symm
    | succ D =>
      have := (h.1.back fun _ _ => adjA_symm)
      obtain ⟨y, _, a⟩ := this
      exact .inr ⟨y, adjA_symm a⟩
  rcases k with rfl | ⟨y, hb, ae, hy⟩
  · rw [h.uniq Dst.zero]
    exact Nat.zero_le _
  have hR := hangsB_iff.mp hb
  obtain ⟨sq, sd⟩ := start_side hang sL hR
  obtain ⟨m, O, ro⟩ := ring_ex sd
  obtain ⟨e', sd', hh⟩ := step_pair (ae.out (self_out L s)) hy
  have a1 : Air (without L s) e'.1 (nextS (without L s) e').1 := iter_air sd' 1
  have ae' : Air (without L s) s e'.1 := by
    rcases hh with ⟨h1, _⟩ | ⟨_, h2⟩
    · rw [h1]
      exact ae
    · rw [h2] at a1
      exact ae.trans (a1.symm sd'.out)
  have mO : e' ∈ O := (ro.mem hR sd).mpr ⟨ae', sd'⟩
  have eO := ro.eq
  rw [eO] at mO
  obtain ⟨i, hi, ek⟩ := List.mem_map.mp mO
  have hi := List.mem_range.mp hi
  obtain ⟨j, jm, hj⟩ : ∃ j, j ≤ m ∧ (iterS (without L s) (s, sq) j).1 = e := by
    rcases hh with ⟨h1, _⟩ | ⟨_, h2⟩
    · exact ⟨i, by omega, by rw [ek]; exact h1⟩
    · exact ⟨i + 1, by omega, by rw [show iterS (without L s) (s, sq) (i + 1) = nextS (without L s) (iterS (without L s) (s, sq) i) from rfl, ek]; exact h2⟩
  obtain ⟨n1, l1, w1⟩ := ring_wk2 hb sd 0 j
  obtain ⟨n2, l2, w2⟩ := ring_wk2 hb sd j (m - j)
  rw [Nat.zero_add, hj] at w1
  rw [hj, show j + (m - j) = m by omega, ro.ret] at w2
  have w1' : Wk (adjA L s) e n1 s := w1.back fun _ _ => adjA_symm
  have w2' : Wk (adjA L s) e n2 s := w2
  have d1 : D ≤ n1 := Nat.le_of_not_lt fun z => h.2 _ z w1'
  have d2 : D ≤ n2 := Nat.le_of_not_lt fun z => h.2 _ z w2'
  have nR : (without L s).Nodup := nL.sublist List.filter_sublist
  have lm : O.length = m := by rw [eO, List.length_map, List.length_range]
  have c1 := closed_len (ro.closed sd)
  have c2 := rimN_p (hangs_grown _ rfl hR nR : GrownP (without L s)) nR
  have c3 := without_lt nL sL
  omega
/-- steps along R -/
def stepA (R : List Cell) (x y : Cell) : Prop := y ∈ stepsN R x
theorem wk_air {R : List Cell} {e : Cell} (ho : e ∉ R) : ∀ {n : Nat} {x : Cell}, Wk (stepA R) e n x → Air R e x
  | 0, x, h => by rw [show x = e from h]; exact .refl
  | n + 1, x, ⟨y, h, a⟩ => by
    have ay := wk_air ho h
    exact ay.trans (step_symm (ay.out ho) a).2
theorem wk_steps {L : List Cell} {s e : Cell} (hb : hangsB (without L s) = true) (ho : e ∉ without L s) (ae : Air (without L s) s e) : ∀ {n : Nat} {x : Cell}, Wk (stepA (without L s)) e n x ↔ Wk (adjA L s) e n x
  | 0, x => Iff.rfl
  | n + 1, x => by
    constructor
    · rintro ⟨y, h, a⟩
      exact ⟨y, (wk_steps hb ho ae).mp h, hb, ae.trans (wk_air ho h), a⟩
    · rintro ⟨y, h, a⟩
      exact ⟨y, (wk_steps hb ho ae).mpr h, a.2.2⟩
end Sq

set_option Elab.async false
set_option linter.all false
set_option maxRecDepth 100000
set_option maxHeartbeats 1000000
/-! walk, walk_length. -/
namespace Sq
open PySem PySem.Spec PyProof.Rows L2
/-- there is a walk from s to e -/
def HasW (L : List Cell) (s e : Cell) : Prop := s ∈ L ∧ (e = s ∨ ∃ y, adjA L s e y)
/-- what a walk is asked for -/
def WalkArg (Ts : List Addr) (H : Hp) (vs : List V) (L : List Cell) (s e : Cell) : Prop := ∃ t qs qe : Addr, vs = [.ref t, .ref qs, .ref qe] ∧ CellsT H t L ∧ L.Nodup ∧ Asc L ∧ L.length ≤ 1000 ∧ Hangs L ∧ At H qs s ∧ At H qe e ∧ TabsG Ts H
/-- the walk itself -/
def WalkIs (L : List Cell) (s e : Cell) (ms : List CellP) : Prop := ∃ D, Dst (adjA L s) e D s ∧ WalkP (adjA L s) e D s ms
def spWalk (Ts : List Addr) : Sp := fun vs H Q _ => ∃ (L : List Cell) (s e : Cell), WalkArg Ts H vs L s e ∧ (∀ G, KT Ts H G → ¬ HasW L s e → Q .non G) ∧ ∀ r G ms, KT Ts H G → HasW L s e → PairsT G r ms → ms.length ≤ L.length → WalkIs L s e ms → Q (.ref r) G
def spWalkL (Ts : List Addr) : Sp := fun vs H Q _ => ∃ (L : List Cell) (s e : Cell), WalkArg Ts H vs L s e ∧ (∀ G, KT Ts H G → ¬ HasW L s e → Q .non G) ∧ ∀ G ms, KT Ts H G → HasW L s e → ms.length ≤ L.length → WalkIs L s e ms → Q (.int (ms.length : Int)) G
theorem WalkIs.uniq {L : List Cell} {s e : Cell} {ms ms2 : List CellP} (h : WalkIs L s e ms) (k : WalkIs L s e ms2) : ms = ms2 := by
  obtain ⟨D, d1, w1⟩ := h
  obtain ⟨D2, d2, w2⟩ := k
  obtain rfl := d1.uniq d2
  exact w1.uniq w2
section
variable {P : Program} {w : World} {K : PySem.W.Frag} {mg : Str → Option Value} {base : Heap} {Ts : List Addr}
abbrev wkN : List Str := ["body", "start", "end", "lot"]
abbrev wklN : List Str := ["body", "start", "end", "moves"]
theorem scWalk : FnScope wkN ["body", "start", "end"] (defScope gWalk) := ⟨rfl, rfl, rfl, by decide +kernel, rfl, by decide +kernel, by decide +kernel⟩
theorem scWalkL : FnScope wklN ["body", "start", "end"] (defScope gWalkLength) := ⟨rfl, rfl, rfl, by decide +kernel, rfl, by decide +kernel, by decide +kernel⟩
theorem ok_walkW {f CB : Addr} {fd : FuncData} (F : FnP K "walk" gWalk f fd) (DL : Df P w K mg base CX0 6 "lot_of_body" ["value"] (spLotB Ts)) (DC : Df P w K mg base (L2.CX P w) 3 "checked_cell" ["value"] (spChecked K CB)) (DI : Df P w K mg base CX0 5 "walk_in" ["lot", "start", "end"] spWalkIn) : FnOk P w K mg base CX0 7 f fd ["body", "start", "end"] (spWalk Ts) := by
  refine F.ok scWalk (fun vs H Q E h => ?_) (fun cdv A outer s H vs Q E hr h => ?_)
  · obtain ⟨L, s, e, ⟨t, qs, qe, rfl, _⟩, _⟩ := h
    rfl
  · obtain ⟨L, st, e, ⟨t, qs, qe, rfl, ct, nL, aL, lL, hang, as, ae, tg⟩, kn, ky⟩ := h
    refine ⟨_, PSs.nox (pss_cons (ps_set (i := 3) scWalk.nd rfl (.inl rfl) (pe_df DL hr (by rfl) pass0 (pa_cons (pv 0) pa_nil)))
      (pss_one (ps_ret (pe_df DI hr (by rfl) pass0 (pa_cons (pv 3) (pa_cons (pe_df DC hr (by rfl) (passes_call (W := fun _ _ _ _ => False) (E := fun _ _ _ => False) takes0 (fun _ _ _ _ h => h)) (pa_cons (pv 1) pa_nil)) (pa_cons (pe_df DC hr (by rfl) (passes_call (W := fun _ _ _ _ => False) (E := fun _ _ _ => False) takes0 (fun _ _ _ _ h => h)) (pa_cons (pv 2) pa_nil)) pa_nil))))))), ?_⟩
    refine ⟨_, rfl, t, L, rfl, ct, nL, aL, lL, hang, tg, fun d G1 k1 _ ed => ?_⟩
    refine ⟨_, rfl, _, rfl, .ref qs, rfl, .inl ⟨qs, st, rfl, k1.at as, fun u hu => ?_⟩⟩
    have s2 := same_new (o := HO.tup (cV st)) hu
    have au : At (upd G1 u (.tup (cV st))) u st := upd_same
    have ae1 : At (upd G1 u (.tup (cV st))) qe e := s2 _ _ (k1.at ae)
    have ed1 := s2 _ _ ed
    generalize upd G1 u (.tup (cV st)) = G2 at s2 au ae1 ed1
    refine ⟨_, rfl, .ref qe, rfl, .inl ⟨qe, e, rfl, ae1, fun v hv => ?_⟩⟩
    have s3 := same_new (o := HO.tup (cV e)) hv
    have av : At (upd G2 v (.tup (cV e))) v e := upd_same
    have k3 := k1.same (s2.trans s3)
    refine ⟨d, u, v, L, st, e, rfl, s3 _ _ ed1, nL, lL, hang, s3 _ _ au, av, fun G s4 no => ?_, fun r G ms D s4 sL pt hD D8 wp => ?_⟩
    · exact kn G (k3.same s4) fun y => no.elim (fun z => z y.1) fun z => z y.2
    · have hk : e = st ∨ ∃ y, adjA L st e y := by
        cases D with
        | zero => exact .inl (show st = e from hD.1).symm
        | succ D =>
          obtain ⟨y, _, a⟩ := hD.1.back fun _ _ => adjA_symm
          exact .inr ⟨y, adjA_symm a⟩
      exact ky r G ms (k3.same s4) ⟨sL, hk⟩ pt (by rw [wp.len]; exact dst_small nL hang sL hD) ⟨D, hD, wp⟩
theorem ok_walkL {f : Addr} {fd : FuncData} (F : FnP K "walk_length" gWalkLength f fd) (B : Bl mg) (DW : Df P w K mg base CX0 7 "walk" ["body", "start", "end"] (spWalk Ts)) : FnOk P w K mg base CX0 8 f fd ["body", "start", "end"] (spWalkL Ts) := by
  refine F.ok scWalkL (fun vs H Q E h => ?_) (fun cdv A outer s H vs Q E hr h => ?_)
  · obtain ⟨L, s, e, ⟨t, qs, qe, rfl, _⟩, _⟩ := h
    rfl
  · obtain ⟨L, st, e, ⟨t, qs, qe, rfl, wa⟩, kn, ky⟩ := h
    refine ⟨_, PSs.nox (pss_cons (ps_set (i := 3) scWalkL.nd rfl (.inl rfl) (pe_df DW hr (by rfl) pass0 (pa_cons (pv 0) (pa_cons (pv 1) (pa_cons (pv 2) pa_nil)))))
      (pss_one (ps_ret (pe_ifExp (pt_cmpR op_isN (pv 3) pe_non (nomark _)) pe_non (pe_callB call_len_seq (by rfl) B.len PySem.boot_len (pa_cons (pv 3) pa_nil)))))), ?_⟩
    refine ⟨_, rfl, _, rfl, _, rfl, L, st, e, ⟨t, qs, qe, rfl, wa⟩, fun G k1 no => ?_, fun r G ms k1 yes pt lm wi => ?_⟩
    · refine ⟨_, rfl, rfl, _, rfl, ?_⟩
      exact ite2 (fun _ => kn G k1 no) (fun z => absurd rfl z)
    · obtain ⟨ps, ep, pp⟩ := pt
      refine ⟨_, rfl, rfl, _, rfl, ?_⟩
      refine ite2 (fun z => nomatch z) (fun _ => ?_)
      refine ⟨_, rfl, r, _, rfl, .inr (SqT.of ep), ?_⟩
      rw [List.length_map, Paired.length pp]
      exact ky G ms k1 yes lm wi
end
end Sq

set_option Elab.async false
set_option linter.all false
set_option maxRecDepth 100000
set_option maxHeartbeats 8000000
/-! The law: rings and spirals. -/
namespace Sq
open PySem PySem.Spec PyProof.Rows L2
theorem op_mulBI {X : Cx} : OpR X (binaryOp .Mult) (fun x y H Q => ∃ b i, x = .bl b ∧ y = .int i ∧ Q (.int ((if b = true then (1 : Int) else 0) * i)) H) := by
  rintro pins s σ H x y v u Q I rx ry ⟨b, i, rfl, rfl, q⟩
  obtain rfl : v = Value.bool b := rx
  obtain ⟨t, rfl⟩ : ∃ t, u = Value.int i t := ry
  exact PySem.IntBool.mul_bool_int ⟨.int ((if b = true then (1 : Int) else 0) * i), H, I.tok _, ⟨_, rfl⟩, q⟩
def edgeB (w h c r : Nat) : Bool := (decide (c = 0) || decide (c = w - 1)) || (decide (r = 0) || decide (r = h - 1))
def ringCol (w h c : Nat) : List Cell := ((List.range h).filter (edgeB w h c)).map fun (r : Nat) => ((c : Int), (r : Int))
def ringC (w h : Nat) : List Cell := (List.range w).flatMap (ringCol w h)
def growsB (A : List Cell) : Bool := (List.range A.length).all fun i => match A[i + 1]? with
  | none => true
  | some b => (A.take (i + 1)).any fun a => decide (b ∈ besideC a)
theorem growsB_grown {A : List Cell} (h : growsB A = true) : Grown A := fun i b hb => by
  have li : i < A.length := by
    have := (List.getElem?_eq_some_iff.mp hb).1
    omega
  have := List.all_eq_true.mp h i (List.mem_range.mpr li)
  rw [hb] at this
  obtain ⟨a, ha, hab⟩ := List.any_eq_true.mp this
  obtain ⟨j, hj⟩ := List.mem_iff_getElem?.mp ha
  rw [List.getElem?_take] at hj
  split at hj
  · exact ⟨j, a, by omega, hj, of_decide_eq_true hab⟩
  · cases hj
/-- an order in which the squares grow -/
def orderC : Nat → List Cell → List Cell → List Cell
  | 0, done, _ => done
  | n + 1, done, rest => match rest.find? fun b => done.any fun a => decide (b ∈ besideC a) with
    | none => done
    | some b => orderC n (done ++ [b]) (rest.filter fun x => !decide (x = b))
def startC (A : List Cell) : List Cell := match A with
  | [] => []
  | a :: A => orderC A.length [a] A
def goodC (N : Nat) (A : List Cell) : Bool := decide A.Nodup && growsB (startC A) && (startC A).isPerm A && decide (A ≠ []) && decide (A.length ≤ N) && A.all fun c => decide (-10 ≤ c.1 ∧ c.1 ≤ 10 ∧ -10 ≤ c.2 ∧ c.2 ≤ 10)
structure Begin (N : Nat) (A : List Cell) : Prop where
  nd : A.Nodup
  gr : GrownP A
  ne : A ≠ []
  len : A.length ≤ N
  nr : ∀ c ∈ A, -10 ≤ c.1 ∧ c.1 ≤ 10 ∧ -10 ≤ c.2 ∧ c.2 ≤ 10
theorem begin_of {N : Nat} {A : List Cell} (h : goodC N A = true) : Begin N A := by
  unfold goodC at h
  simp only [Bool.and_eq_true, decide_eq_true_eq, List.all_eq_true] at h
  obtain ⟨⟨⟨⟨⟨h1, h2⟩, h3⟩, h4⟩, h5⟩, h6⟩ := h
  exact ⟨h1, ⟨_, List.isPerm_iff.mp h3, growsB_grown h2⟩, h4, h5, h6⟩
theorem ring_good : ∀ w ∈ [3, 4, 5], ∀ h ∈ [3, 4, 5], goodC 16 (ringC w h) = true ∧ ∀ x ∈ [((0 : Int), (0 : Int)), (((w : Nat) : Int) - 1, 0), (0, ((h : Nat) : Int) - 1), (((w : Nat) : Int) - 1, ((h : Nat) : Int) - 1)], goodC 16 (without (ringC w h) x) = true := by decide +kernel
def spiralL : List Cell := [(0, 0), (1, 0), (2, 0), (2, 1), (2, 2), (1, 2), (0, 2), (-1, 2), (-2, 2), (-2, 1), (-2, 0), (-2, -1), (-2, -2), (-1, -2), (0, -2), (1, -2), (2, -2), (3, -2), (4, -2), (4, -1), (4, 0), (4, 1), (4, 2), (4, 3), (4, 4)]
theorem spiral_good : ∀ m ∈ List.range 24, 2 ≤ m → goodC 23 (spiralL.take m) = true := by decide +kernel
def spNRing : Sp := fun vs H Q _ => ∃ w h : Nat, vs = [.int (w : Int), .int (h : Int)] ∧ 1 ≤ w ∧ w ≤ 40 ∧ 1 ≤ h ∧ h ≤ 40 ∧ ∀ l H', Same H H' → CellsL H' l (ringC w h) → Q (.ref l) H'
abbrev rgN : List Str := ["_law_wide", "_law_high", "_law_found", "_law_column", "_law_row"]
section
variable {P : Program} {w : World} {K : PySem.W.Frag} {mg : Str → Option Value} {base : Heap}
theorem scRg : FnScope rgN ["_law_wide", "_law_high"] (defScope nRing) := ⟨rfl, rfl, rfl, by decide +kernel, rfl, by decide +kernel, by decide +kernel⟩
theorem ok_nRing {f : Addr} {fd : FuncData} (F : FnP K "_law_nb_ring" nRing f fd) (B : Bl mg) : FnOk P w K mg base CX0 1 f fd ["_law_wide", "_law_high"] spNRing := by
  refine F.ok scRg (fun vs H Q E h => ?_) (fun cdv A outer s H vs Q E hr h => ?_)
  · obtain ⟨w, h, rfl, _⟩ := h
    rfl
  · obtain ⟨wd, hg, rfl, w1, w5, h1, h5, k⟩ := h
    refine ⟨_, PSs.nox (pss_cons (ps_set (i := 2) scRg.nd rfl (.inl rfl) (pe_lst pa_nil))
      (pss_cons (ps_for PassesOwn.never rfl (pi_range1 (by rfl) B.range (pa_cons (pv 0) pa_nil)) (pg_name (i := 3) scRg.nd rfl (.inr rfl))
      (pss_one (ps_set (i := 2) scRg.nd rfl (.inl rfl) (pe_op op_cat (pv 2) (pe_lc (own := [("_law_row", 4)]) (g := gName 4) rfl scRg.nd (pi_range1 (by rfl) B.range (pa_cons (pv 1) pa_nil)) (blkOk_by (N := rgN) (sc := defScope nRing) (by decide +kernel)) (fun _ _ _ _ _ => pg_name (i := 4) scRg.nd rfl (Or.inl rfl)) (fun _ _ _ _ _ => (pts_one (PW.pt (pw_or (pt_cmpR (op_in_seqK (K := K) rfl) (pv 3) (pe_lst (pa_cons pe_int (pa_cons (pe_op op_sub (pv 0) pe_int) pa_nil))) (by rfl)) (pw_or1 (pt_cmpR (op_in_seqK (K := K) rfl) (pv 4) (pe_lst (pa_cons pe_int (pa_cons (pe_op op_sub (pv 1) pe_int) pa_nil))) (by rfl))))))) (fun _ _ _ _ _ => (pe_tup (pa_cons (pv 3) (pa_cons (pv 4) pa_nil)))))))))
      (pss_one (ps_ret (pv 2))))), ?_⟩
    refine ⟨Nat.zero_le _, fun l0 hl0 => ?_⟩
    have s0 := same_new (o := .lst []) hl0
    refine ⟨_, rfl, (wd : Int), rfl, by omega, by omega, ?_⟩
    rw [show ((wd : Int)).toNat = wd from rfl]
    refine for_range (lo := 0) (n := wd) (fun i σ G => ∃ (l : Addr) (v3 : Option V), σ = [some (.int (wd : Int)), some (.int (hg : Int)), some (.ref l), v3, none] ∧ Same H G ∧ CellsL G l ((List.range i).flatMap (ringCol wd hg))) ⟨l0, none, rfl, s0, [], upd_same, .nil⟩ ?_ ?_
    · rintro i σ G hi ⟨l, v3, rfl, sm, qs, el, pq⟩
      rw [Int.zero_add]
      have len : ∀ j, ((List.range j).flatMap (ringCol wd hg)).length ≤ 40 * j := fun j => by
        induction j with
        | zero => exact Nat.zero_le _
        | succ j ih =>
          rw [List.range_succ, List.flatMap_append, List.length_append]
          have : (ringCol wd hg j).length ≤ hg := by
            unfold ringCol
            rw [List.length_map]
            exact Nat.le_trans (List.length_filter_le _ _) (Nat.le_of_eq List.length_range)
          simp only [List.flatMap_cons, List.flatMap_nil, List.append_nil]
          omega
      have li := len i
      refine ⟨_, rfl, _, rfl, (hg : Int), rfl, by omega, by omega, fun D hD => ?_⟩
      rw [show ((hg : Int)).toNat = hg from rfl]
      refine lc_cells (walk_range (lo := 0) (n := hg)) hD (fun r => ((List.range r).filter (edgeB wd hg i)).map fun (r : Nat) => ((i : Int), (r : Int))) rfl (by omega) (fun _ _ _ _ => trivial) ?_ ?_
      · rintro r x Ga Gb K1 K0 hr sa ⟨rfl, rfl⟩ k1 k0
        rw [show (fun i : Nat => V.int (0 + (i : Int))) r = V.int (r : Int) from congrArg V.int (Int.zero_add _)]
        have st : ((List.range (r + 1)).filter (edgeB wd hg i)).map (fun (r : Nat) => ((i : Int), (r : Int))) = ((List.range r).filter (edgeB wd hg i)).map (fun (r : Nat) => ((i : Int), (r : Int))) ++ (if edgeB wd hg i r = true then [((i : Int), (r : Int))] else []) := by
          rw [List.range_succ, List.filter_append, List.map_append]
          congr 1
          by_cases z : edgeB wd hg i r = true
          · rw [if_pos z, List.filter_cons, if_pos z]
            rfl
          · rw [if_neg z, List.filter_cons, if_neg z]
            rfl
        have yes : ∀ {Gc : Hp}, Same Gb Gc → edgeB wd hg i r = true → (2 ≤ sizeLine ∧ ∀ u, Gc u = none → K1 (.ref u) (upd Gc u (.tup [.int (i : Int), .int (r : Int)]))) := fun {Gc} sc z => ⟨two_le, fun u hu => k1 u ((i : Int), (r : Int)) _ (sc.trans (same_new hu)) upd_same (by rw [st, if_pos z])⟩
        have c1 : inV (.int (i : Int)) [.int 0, .int ((wd : Int) - 1)] = (decide (i = 0) || decide (i = wd - 1)) := by
          rw [Bool.eq_iff_iff]
          simp [inV, eqV]
          omega
        have c2 : inV (.int (r : Int)) [.int 0, .int ((hg : Int) - 1)] = (decide (r = 0) || decide (r = hg - 1)) := by
          rw [Bool.eq_iff_iff]
          simp [inV, eqV]
          omega
        refine ⟨rfl, _, rfl, _, rfl, _, _, rfl, rfl, two_le, fun u1 hu1 => ?_⟩
        have s1 := same_new (o := .lst [.int 0, .int ((wd : Int) - 1)]) hu1
        refine ⟨u1, _, rfl, .inl (SqL.of upd_same), rfl, rfl, _, rfl, ?_⟩
        rw [if_neg (by simp), c1]
        refine ite2 (fun z => ?_) (fun z => ?_)
        · have zz : edgeB wd hg i r = true := by unfold edgeB; rw [z]; rfl
          obtain ⟨y1, y2⟩ := yes s1 zz
          exact ⟨_, rfl, _, rfl, y1, y2⟩
        · refine ⟨_, rfl, _, rfl, _, _, rfl, rfl, two_le, fun u2 hu2 => ?_⟩
          have s2 := same_new (o := .lst [.int 0, .int ((hg : Int) - 1)]) hu2
          refine ⟨u2, _, rfl, .inl (SqL.of upd_same), rfl, rfl, _, rfl, ?_⟩
          rw [if_neg (by simp), c2]
          refine ite2 (fun y => ?_) (fun y => ?_)
          · have zz : edgeB wd hg i r = true := by unfold edgeB; rw [y, Bool.or_true]
            obtain ⟨y1, y2⟩ := yes (s1.trans s2) zz
            exact ⟨_, rfl, _, rfl, y1, y2⟩
          · have zz : ¬ edgeB wd hg i r = true := by
              unfold edgeB
              rw [Bool.or_eq_true]
              exact fun q => q.elim z y
            exact k0 _ (s1.trans s2) (by rw [st, if_neg zz, List.append_nil])
      rintro Ga rs sa gD pr
      have lr : rs.length ≤ hg := by
        rw [Paired.length pr, List.length_map]
        exact Nat.le_trans (List.length_filter_le _ _) (Nat.le_of_eq List.length_range)
      refine ⟨l, D, _, _, rfl, rfl, sa _ _ el, gD, by rw [List.length_map, List.length_map, sizeLine_eq, Paired.length pq]; omega, fun l2 hl2 => ?_⟩
      have s2 := same_new (o := .lst (qs.map V.ref ++ rs.map V.ref)) hl2
      refine ⟨l2, _, rfl, (sm.trans sa).trans s2, qs ++ rs, by rw [upd_same, List.map_append], ?_⟩
      rw [List.range_succ, List.flatMap_append]
      simp only [List.flatMap_cons, List.flatMap_nil, List.append_nil]
      exact paired_app (paired_imp (fun _ _ h => At.same (At.same h sa) s2) pq) (paired_imp (fun _ _ h => At.same h s2) pr)
    · rintro σ G ⟨l, v3, rfl, sm, cl⟩
      exact ⟨_, rfl, k l G sm cl⟩
def spNSpiral : Sp := fun vs H Q _ => ∃ (x : V) (m : Nat), vs = [x, .int (m : Int)] ∧ 2 ≤ m ∧ m ≤ 25 ∧ ∀ l H', Same H H' → CellsL H' l (spiralL.take m) → Q (.ref l) H'
abbrev spN : List Str := ["_law_pen_here", "_law_many", "_law_cell", "_law_step", "_law_arm", "_law_found", "_law_turn"]
theorem scSp : FnScope spN ["_law_pen_here", "_law_many"] (defScope nSpiral) := ⟨rfl, rfl, rfl, by decide +kernel, rfl, by decide +kernel, by decide +kernel⟩
theorem cells_takeL {H : Hp} {D : Addr} {C : List Cell} {X : PySem.W.Frag} (cD : CellsL H D C) {m : Nat} {Q : VK} (q : ∀ r G, Same H G → CellsL G r (C.take m) → Q (.ref r) G) : rSlL X (.ref D) none (some (m : Int)) H Q := by
  obtain ⟨rs, e, pr⟩ := cD
  refine ⟨D, _, rfl, SqL.of e, fun r hr => ?_⟩
  have e1 : cutV (rs.map V.ref) none (some (m : Int)) = (rs.take m).map V.ref := by
    rw [cut_take, List.map_take]
  have sm := same_new (o := .lst (cutV (rs.map V.ref) none (some (m : Int)))) hr
  refine q r _ sm ⟨rs.take m, by rw [upd_same, e1], ?_⟩
  have go : ∀ {xs : List Addr} {ys : List Cell} {k : Nat} {R : Addr → Cell → Prop}, Paired R xs ys → Paired R (xs.take k) (ys.take k) := by
    intro xs ys k R h
    induction h generalizing k with
    | nil => rw [List.take_nil, List.take_nil]; exact .nil
    | cons r _ ih =>
      cases k with
      | zero => exact .nil
      | succ k => exact .cons r ih
  exact go (paired_imp (fun _ _ h => sm _ _ h) pr)
def spiralSt : List (Cell × Cell × Nat × Nat) := [((0, 0), (1, 0), 2, 1), ((2, 0), (0, 1), 2, 3), ((2, 2), (-1, 0), 4, 5), ((-2, 2), (0, -1), 4, 9), ((-2, -2), (1, 0), 6, 13), ((4, -2), (0, 1), 6, 19), ((4, 4), (-1, 0), 8, 25)]
theorem spiral_step : ∀ z ∈ spiralSt, z.2.2.2 < 25 → (z.2.2.1 ≤ 6 ∧ 1 ≤ z.2.2.1) ∧ (∀ i ∈ List.range z.2.2.1, spiralL.take (z.2.2.2 + i + 1) = spiralL.take (z.2.2.2 + i) ++ [(z.1.1 + (i : Int) * z.2.1.1 + z.2.1.1, z.1.2 + (i : Int) * z.2.1.2 + z.2.1.2)]) ∧
    ((z.1.1 + (z.2.2.1 : Int) * z.2.1.1, z.1.2 + (z.2.2.1 : Int) * z.2.1.2), (-z.2.1.2, z.2.1.1), z.2.2.1 + (if z.2.1.1 = 0 then 2 else 0), z.2.2.2 + z.2.2.1) ∈ spiralSt := by decide +kernel
theorem spiral_len : ∀ z ∈ spiralSt, (spiralL.take z.2.2.2).length = z.2.2.2 ∧ z.2.2.2 ≤ 25 := by decide +kernel
theorem ok_nSpiral {f : Addr} {fd : FuncData} (F : FnP K "_law_nb_spiral" nSpiral f fd) (B : Bl mg) : FnOk P w K mg base CX0 1 f fd ["_law_pen_here", "_law_many"] spNSpiral := by
  refine F.ok scSp (fun vs H Q E h => ?_) (fun cdv A outer s H vs Q E hr h => ?_)
  · obtain ⟨x, m, rfl, _⟩ := h
    rfl
  · obtain ⟨x, m, rfl, m2, m9, k⟩ := h
    have one_le : (1 : Nat) ≤ sizeLine := by rw [sizeLine_eq]; decide
    refine ⟨_, PSs.nox (pss_cons (ps_asg (pe_tup (pa_cons (pe_tup (pa_cons pe_int (pa_cons pe_int pa_nil))) (pa_cons (pe_tup (pa_cons pe_int (pa_cons pe_int pa_nil))) (pa_cons pe_int (pa_cons (pe_lst (pa_cons (pe_tup (pa_cons pe_int (pa_cons pe_int pa_nil))) pa_nil)) pa_nil))))) (pg_tup (by rfl) (pgs_cons (pg_name (i := 2) scSp.nd rfl (.inl rfl)) (pgs_cons (pg_name (i := 3) scSp.nd rfl (.inl rfl)) (pgs_cons (pg_name (i := 4) scSp.nd rfl (.inl rfl)) (pgs_cons (pg_name (i := 5) scSp.nd rfl (.inl rfl)) pgs_nil))))))
      (pss_cons (ps_while PassesOwn.never (pt_cmpR op_lt (pe_callB call_len_seq (by rfl) B.len PySem.boot_len (pa_cons (pv 5) pa_nil)) (pv 1) (nomark _))
      (pss_cons (ps_for PassesOwn.never rfl (pi_range1 (by rfl) B.range (pa_cons (pv 4) pa_nil)) (pg_name (i := 6) scSp.nd rfl (.inl rfl))
        (pss_cons (ps_set (i := 2) scSp.nd rfl (.inl rfl) (pe_tup (pa_cons (pe_op op_add (pe_ix (ix_tupK (K := K) rfl) (pv 2) pe_int (fun _ _ => rfl)) (pe_ix (ix_tupK (K := K) rfl) (pv 3) pe_int (fun _ _ => rfl))) (pa_cons (pe_op op_add (pe_ix (ix_tupK (K := K) rfl) (pv 2) pe_int (fun _ _ => rfl)) (pe_ix (ix_tupK (K := K) rfl) (pv 3) pe_int (fun _ _ => rfl))) pa_nil))))
          (pss_one (ps_expr (pe_bm PySem.F.plainAttrs_list PySem.F.slot_list_append PySem.F.type_list_append mt_append (pv 5) (pa_cons (pv 2) pa_nil))))))
        (pss_cons (ps_set (i := 3) scSp.nd rfl (.inl rfl) (pe_tup (pa_cons (pe_un un_neg (pe_ix (ix_tupK (K := K) rfl) (pv 3) pe_int (fun _ _ => rfl))) (pa_cons (pe_ix (ix_tupK (K := K) rfl) (pv 3) pe_int (fun _ _ => rfl)) pa_nil))))
        (pss_one (ps_set (i := 4) scSp.nd rfl (.inl rfl) (pe_op op_add (pv 4) (pe_op op_mulBI (pe_cmpR op_eq (pe_ix (ix_tupK (K := K) rfl) (pv 3) pe_int (fun _ _ => rfl)) pe_int (nomark _)) pe_int)))))))
      (pss_one (ps_ret (pe_slice sl_list (pv 5) po_none (po_some (pv 1))))))), ?_⟩
    refine ⟨two_le, fun a1 h1 => ⟨two_le, fun a2 h2 => ⟨two_le, fun a3 h3 => ⟨one_le, fun a4 h4 => ?_⟩⟩⟩⟩
    have s1 := same_new (o := .tup [.int 0, .int 0]) h1
    have s2 := same_new (o := .tup [.int 1, .int 0]) h2
    have s3 := same_new (o := .tup [.int 0, .int 0]) h3
    have s4 := same_new (o := .lst [.ref a3]) h4
    have c1 : At _ a1 ((0 : Int), (0 : Int)) := s4 _ _ (s3 _ _ (s2 _ _ (upd_same (H := H) (a := a1) (o := .tup [.int 0, .int 0]))))
    have c2 : At _ a2 ((1 : Int), (0 : Int)) := s4 _ _ (s3 _ _ (upd_same (H := upd H a1 (.tup [.int 0, .int 0])) (a := a2) (o := .tup [.int 1, .int 0])))
    have c3 : At _ a3 ((0 : Int), (0 : Int)) := s4 _ _ (upd_same (H := upd (upd H a1 (.tup [.int 0, .int 0])) a2 (.tup [.int 1, .int 0])) (a := a3) (o := .tup [.int 0, .int 0]))
    have c4 := upd_same (H := upd (upd (upd H a1 (.tup [.int 0, .int 0])) a2 (.tup [.int 1, .int 0])) a3 (.tup [.int 0, .int 0])) (a := a4) (o := .lst [.ref a3])
    have sA := ((s1.trans s2).trans s3).trans s4
    have nf : H a4 = none := by
      cases q : H a4 with
      | none => rfl
      | some o =>
        have := ((s1.trans s2).trans s3) _ _ q
        rw [h4] at this
        cases this
    generalize upd (upd (upd (upd H a1 (.tup [.int 0, .int 0])) a2 (.tup [.int 1, .int 0])) a3 (.tup [.int 0, .int 0])) a4 (.lst [.ref a3]) = G0 at c1 c2 c3 c4 sA
    refine ⟨four_le, fun t ht => ?_⟩
    have s5 := same_new (o := .tup [.ref a1, .ref a2, .int 2, .ref a4]) ht
    refine ⟨t, _, rfl, SqT.of upd_same, rfl, _, _, rfl, _, _, rfl, _, _, rfl, _, _, rfl, rfl, ?_⟩
    have sB := sA.trans s5
    have c1 := c1.same s5
    have c2 := c2.same s5
    have cF : CellsL (upd G0 t (.tup [.ref a1, .ref a2, .int 2, .ref a4])) a4 (spiralL.take 1) := ⟨[a3], s5 _ _ c4, .cons (c3.same s5) .nil⟩
    generalize upd G0 t (.tup [.ref a1, .ref a2, .int 2, .ref a4]) = G1 at sB c1 c2 cF
    refine ⟨fun q σ G => ∃ (b1 b2 : Addr) (z : Cell × Cell × Nat × Nat) (v6 : Option V), q = 25 - z.2.2.2 ∧ z ∈ spiralSt ∧ σ = [some x, some (.int (m : Int)), some (.ref b1), some (.ref b2), some (.int (z.2.2.1 : Int)), some (.ref a4), v6] ∧ Kp [a4] G1 G ∧ At G b1 z.1 ∧ At G b2 z.2.1 ∧ CellsL G a4 (spiralL.take z.2.2.2), ⟨_, a1, a2, ((0, 0), (1, 0), 2, 1), none, rfl, by decide, rfl, fun _ _ _ e => e, c1, c2, cF⟩, ?_⟩
    rintro q σ G ⟨b1, b2, ⟨c, d, arm, n⟩, v6, rfl, hz, rfl, kp, e1, e2, cL⟩
    obtain ⟨ln, n9⟩ := spiral_len _ hz
    dsimp only at ln n9 e1 e2 cL
    obtain ⟨rs, el, pr⟩ := id cL
    have lr : rs.length = n := by rw [Paired.length pr, ln]
    refine ⟨_, rfl, a4, _, rfl, .inl (SqL.of el), _, rfl, _, _, rfl, rfl, _, rfl, ?_⟩
    refine ite2 (fun y => ?_) (fun y => ?_)
    · have lt : n < m := by
        have := of_decide_eq_true y
        rw [List.length_map, lr] at this
        omega
      obtain ⟨⟨ar4, ar1⟩, run, nxt⟩ := spiral_step _ hz (by show n < 25; omega)
      dsimp only at ar4 ar1 run nxt
      refine ⟨fun σ' G' => ∃ m', m' < 25 - n ∧ _, fun _ _ h => h, ?_⟩
      refine ⟨_, rfl, (arm : Int), rfl, by omega, by omega, ?_⟩
      rw [show ((arm : Int)).toNat = arm from rfl]
      refine for_range (lo := 0) (n := arm) (fun i σ G' => ∃ (b : Addr) (v6 : Option V), σ = [some x, some (.int (m : Int)), some (.ref b), some (.ref b2), some (.int (arm : Int)), some (.ref a4), v6] ∧ Kp [a4] G G' ∧ At G' b (c.1 + (i : Int) * d.1, c.2 + (i : Int) * d.2) ∧ CellsL G' a4 (spiralL.take (n + i))) ⟨b1, v6, rfl, fun _ _ _ e => e, by simpa using e1, cL⟩ ?_ ?_
      · rintro i σ G' hi ⟨b, v6, rfl, kp', eb, us, eu, pu⟩
        have e2' : At G' b2 d := kp' _ _ (fun mm => by
          have e2 : G b2 = some (.tup (cV d)) := e2
          rw [List.mem_singleton.mp mm, el] at e2
          cases e2) e2
        have lu : us.length ≤ 25 := by
          rw [Paired.length pu, List.length_take]
          exact Nat.min_le_right _ _
        refine ⟨_, rfl, _, _, _, _, rfl, rfl, SqT.of eb, at0, _, rfl, _, _, _, _, rfl, rfl, SqT.of e2', at0, _, _, rfl, rfl, _, rfl, _, _, _, _, rfl, rfl, SqT.of eb, at1, _, rfl, _, _, _, _, rfl, rfl, SqT.of e2', at1, _, _, rfl, rfl, two_le, fun u hu => ?_⟩
        have su := same_new (o := .tup [.int (c.1 + (i : Int) * d.1 + d.1), .int (c.2 + (i : Int) * d.2 + d.2)]) hu
        have au : At (upd G' u (.tup [.int (c.1 + (i : Int) * d.1 + d.1), .int (c.2 + (i : Int) * d.2 + d.2)])) u (c.1 + (i : Int) * d.1 + d.1, c.2 + (i : Int) * d.2 + d.2) := upd_same
        have eu' := su _ _ eu
        have pu' := paired_imp (fun _ _ h => su _ _ h) pu
        generalize upd G' u (.tup [.int (c.1 + (i : Int) * d.1 + d.1), .int (c.2 + (i : Int) * d.2 + d.2)]) = G2 at su au eu' pu'
        refine ⟨_, rfl, .inl ⟨rfl, _, SqL.of eu'⟩, _, rfl, a4, _, _, rfl, rfl, eu', by rw [List.length_map, sizeLine_eq]; omega, ?_⟩
        have off : ∀ {q : Addr} {e : Cell}, At G2 q e → At (upd G2 a4 (.lst (us.map V.ref ++ [V.ref u]))) q e := fun h => h.off eu' (by intro xs z; cases z)
        refine ⟨u, _, rfl, fun bb o nb e => ?_, ?_, us ++ [u], by rw [upd_same, List.map_append]; rfl, ?_⟩
        · rw [upd_ne (fun z => nb (by rw [z]; exact List.mem_singleton.mpr rfl))]
          exact su _ _ (kp' _ _ nb e)
        · have := off au
          have t1 : c.1 + ((i + 1 : Nat) : Int) * d.1 = c.1 + (i : Int) * d.1 + d.1 := by rw [Int.natCast_add, Int.add_mul]; omega
          have t2 : c.2 + ((i + 1 : Nat) : Int) * d.2 = c.2 + (i : Int) * d.2 + d.2 := by rw [Int.natCast_add, Int.add_mul]; omega
          rw [t1, t2]
          exact this
        · rw [← Nat.add_assoc, run i (List.mem_range.mpr hi)]
          exact (paired_imp (fun _ _ h => off h) pu').snoc (off au)
      · rintro σ G' ⟨b, v6, rfl, kp', eb, cL'⟩
        have e2' : At G' b2 d := kp' _ _ (fun mm => by
          have e2 : G b2 = some (.tup (cV d)) := e2
          rw [List.mem_singleton.mp mm, el] at e2
          cases e2) e2
        refine ⟨_, rfl, _, _, _, _, rfl, rfl, SqT.of e2', at1, _, rfl, _, rfl, _, _, _, _, rfl, rfl, SqT.of e2', at0, two_le, fun u hu => ?_⟩
        have su := same_new (o := .tup [.int (-d.2), .int d.1]) hu
        have au : At (upd G' u (.tup [.int (-d.2), .int d.1])) u (-d.2, d.1) := upd_same
        have eb' := eb.same su
        have cL2 := cL'.ek (.of su)
        generalize upd G' u (.tup [.int (-d.2), .int d.1]) = G2 at su au eb' cL2
        refine ⟨_, rfl, _, rfl, _, _, _, _, rfl, rfl, SqT.of au, at1, rfl, _, _, rfl, rfl, _, _, rfl, rfl, ?_⟩
        have ev : (arm : Int) + (if decide (V.int d.1 = V.int 0) = true then (1 : Int) else 0) * 2 = ((arm + (if d.1 = 0 then 2 else 0) : Nat) : Int) := by
          by_cases z : d.1 = 0
          · rw [if_pos z, if_pos (decide_eq_true (by rw [z]))]
            omega
          · rw [if_neg z, if_neg (by simpa using z)]
            omega
        refine ⟨25 - (n + arm), by omega, b, u, ((c.1 + (arm : Int) * d.1, c.2 + (arm : Int) * d.2), (-d.2, d.1), arm + (if d.1 = 0 then 2 else 0), n + arm), v6, rfl, nxt, ?_, ?_, eb', au, cL2⟩
        · show [some x, some (V.int m), some (V.ref b), some (V.ref u), some (V.int ((arm : Int) + (if decide (V.int d.1 = V.int 0) = true then (1 : Int) else 0) * 2)), some (V.ref a4), v6] = _
          rw [ev]
        · exact fun bb o nb e => su _ _ (kp' _ _ nb (kp _ _ nb e))
    · have nm : m ≤ n := by
        have : ¬ ((n : Int) < (m : Int)) := fun z => y (decide_eq_true (by rw [List.length_map, lr]; exact z))
        omega
      refine ⟨_, rfl, _, rfl, _, rfl, cells_takeL cL fun r G' s' c' => k r G' ?_ ?_⟩
      · have nG : ∀ b o, H b = some o → b ≠ a4 := fun b o e z => by
          rw [z, nf] at e
          cases e
        exact fun b o e => s' _ _ (kp _ _ (fun mm => nG b o e (List.mem_singleton.mp mm)) (sB _ _ e))
      · rw [List.take_take, Nat.min_eq_left nm] at c'
        exact c'
end
end Sq

set_option Elab.async false
set_option linter.all false
set_option maxRecDepth 100000
set_option maxHeartbeats 8000000
/-! The law: bodies, grown at random, spirals, rings. -/
namespace Sq
open PySem PySem.Spec PyProof.Rows L2
abbrev nbdN : List Str := ["_law_pen_here", "_law_many", "_law_way", "_law_body", "_law_wide", "_law_high", "_law_corner", "_law_cell", "_law_across", "_law_up", "_law_is_turned", "_law_x", "_law_y"]
/-- moved, or turned over and moved -/
def flipC (b : Bool) (u v : Int) (c : Cell) : Cell := if b = true then (c.1 + u, c.2 + v) else (c.2 + u, c.1 + v)
theorem flip_inj {b : Bool} {u v : Int} {c d : Cell} (h : flipC b u v c = flipC b u v d) : c = d := by
  obtain ⟨c1, c2⟩ := c
  obtain ⟨d1, d2⟩ := d
  cases b <;> simp only [flipC, if_true, Bool.false_eq_true, if_false, Prod.mk.injEq] at h ⊢ <;> omega
theorem flip_beside {b : Bool} {u v : Int} (c d : Cell) (h : d ∈ besideC c) : flipC b u v d ∈ besideC (flipC b u v c) := by
  have := beside_iff.mp h
  rw [beside_iff]
  cases b <;> simp only [flipC, if_true, Bool.false_eq_true, if_false] <;> omega
theorem GrownP.hangs {L : List Cell} (h : GrownP L) (ne : L ≠ []) : Hangs L := by
  obtain ⟨A, p, g⟩ := h
  have l : 0 < A.length := by
    rw [p.length_eq]
    exact List.length_pos_iff.mpr ne
  exact (hangs_perm fun x => p.mem_iff).mp (grown_hangs (A.length - 1) (by omega) g)
section
variable {P : Program} {w : World} {K : PySem.W.Frag} {mg : Str → Option Value} {base : Heap}
theorem scNBd : FnScope nbdN ["_law_pen_here", "_law_many"] (defScope nBody) := ⟨rfl, rfl, rfl, by decide +kernel, rfl, by decide +kernel, by decide +kernel⟩
variable {f : Addr} {cdv : Value} {A0 : Around} {outer : List Env} {s : Shared} {H0 : Hp} {E : XK}
theorem nbd_tail (hr : Room 3 (cxOf CX0 P w K mg base nbdN "_law_nb_body" (defScope nBody) f cdv A0 outer s H0 E).nox.A) (B : Bl mg) (DD : Df P w K mg base CX0 1 "_law_draw" ["_law_pen_here", "_law_many"] spDrawC) :
    ∃ t, PSs (cxOf CX0 P w K mg base nbdN "_law_nb_body" (defScope nBody) f cdv A0 outer s H0 E).nox ((defBody nBody).drop 2) t ∧
      ∀ (D : Ends) (G : Hp) (p c l : Addr) (n : Nat) (L : List Cell) (v1 v2 v4 v5 v6 : Option V), PenC G p c n → n < 100000 → CellsL G l L → L.Nodup → GrownP L → L ≠ [] → L.length ≤ 29 → (∀ c ∈ L, -40 ≤ c.1 ∧ c.1 ≤ 40 ∧ -40 ≤ c.2 ∧ c.2 ≤ 40) →
        (∀ t G' B, PenC G' p c (n + 3) → Kp [p] G G' → CellsT G' t B → B.Nodup → Asc B → Hangs B → B.length = L.length → (∀ c ∈ B, c.1.natAbs < 100 ∧ c.2.natAbs < 100) → D.rt (.ref t) G') → t D [some (.ref p), v1, v2, some (.ref l), v4, v5, v6, none, none, none, none, none, none] G := by
  have h64 := room64 hr
  refine ⟨_, (pss_cons (ps_asg (pe_tup (pa_cons (pe_op op_sub (pe_df DD hr (by rfl) pass0 (pa_cons (pv 0) (pa_cons pe_int pa_nil))) pe_int) (pa_cons (pe_op op_sub (pe_df DD hr (by rfl) pass0 (pa_cons (pv 0) (pa_cons pe_int pa_nil))) pe_int) (pa_cons (pe_cmpR op_eq (pe_df DD hr (by rfl) pass0 (pa_cons (pv 0) (pa_cons pe_int pa_nil))) pe_int (nomark _)) pa_nil)))) (pg_tup (by rfl) (pgs_cons (pg_name (i := 8) scNBd.nd rfl (.inr rfl)) (pgs_cons (pg_name (i := 9) scNBd.nd rfl (.inr rfl)) (pgs_cons (pg_name (i := 10) scNBd.nd rfl (.inr rfl)) pgs_nil)))))
      (pss_one (ps_ret (pe_tupleOf (by rfl) B.tuple (pe_callB cr_sortedC (by rfl) B.sorted (by decide +kernel) (pa_cons (pe_lc (own := [("_law_x", 11), ("_law_y", 12)]) (g := gTup K 2 (gCons (gName 11) (gCons (gName 12) gNil))) (tt := tYes) rfl scNBd.nd (pi_list (pe_callB (cr_sortedS rfl) (by rfl) B.sorted (by decide +kernel) (pa_cons (pe_callTy (cr_setOfT rfl h64) (by rfl) B.set (by decide +kernel) (pa_cons (pv 3) pa_nil)) pa_nil))) (blkOk_by (N := nbdN) (sc := defScope nBody) (by decide +kernel)) (fun _ _ _ _ _ => (pg_tup (by rfl) (pgs_cons (pg_name (i := 11) scNBd.nd rfl (Or.inl rfl)) (pgs_cons (pg_name (i := 12) scNBd.nd rfl (Or.inl rfl)) pgs_nil)))) (fun _ _ _ _ _ => pts_nil) (fun _ _ _ _ _ => (pe_ifExp (pt_val (pv 10)) (pe_tup (pa_cons (pe_op op_add (pv 11) (pv 8)) (pa_cons (pe_op op_add (pv 12) (pv 9)) pa_nil))) (pe_tup (pa_cons (pe_op op_add (pv 12) (pv 8)) (pa_cons (pe_op op_add (pv 11) (pv 9)) pa_nil)))))) pa_nil)))))), ?_⟩
  intro D G p c l n L v1 v2 v4 v5 v6 hp hn cl nL gL neL lL inL kD
  refine ⟨_, rfl, p, c, n, 9, rfl, hp, by decide, by decide, by omega, fun u G1 u0 u1 hp1 hb1 => ⟨_, _, rfl, rfl, ?_⟩⟩
  have k1 := kp_pick hb1
  refine ⟨_, rfl, p, c, n + 1, 9, rfl, hp1, by decide, by decide, by omega, fun v G2 w0 w1 hp2 hb2 => ⟨_, _, rfl, rfl, ?_⟩⟩
  have k2 := k1.trans (kp_pick hb2)
  refine ⟨_, rfl, p, c, n + 2, 2, rfl, hp2, by decide, by decide, by omega, fun x G3 x0 x1 hp3 hb3 => ⟨rfl, ?_⟩⟩
  have k3 := k2.trans (kp_pick hb3)
  have e3 := pen_ek hp.at k3
  have cl3 := cl.ek e3
  refine ⟨by show 3 ≤ sizeLine; rw [sizeLine_eq]; decide, fun t ht => ?_⟩
  have st := same_new (o := .tup [.int (u - 4), .int (v - 4), .bl (decide (V.int x = V.int 1))]) ht
  refine ⟨t, _, rfl, SqT.of upd_same, rfl, _, _, rfl, _, _, rfl, _, _, rfl, rfl, ?_⟩
  generalize decide (V.int x = V.int 1) = b at st
  have cl4 := cl3.ek (.of st)
  have hp4 := hp3.same st
  generalize upd G3 t (.tup [.int (u - 4), .int (v - 4), .bl b]) = G4 at st cl4 hp4
  obtain ⟨rs, e4, pr4⟩ := id cl4
  have lrs : rs.length = L.length := Paired.length pr4
  obtain ⟨ks, ek, q1, q2⟩ := ks_of pr4
  have lks : ks.length = rs.length := by rw [← ek, List.length_map]
  refine ⟨_, rfl, l, ks, rfl, SqL.of (by rw [e4]; congr 2; rw [show (ks.map fun p => V.ref p.1) = (ks.map (·.1)).map V.ref from by rw [List.map_map]; rfl, ek]), fun q hq => ?_, by omega, fun sa L0 hsa subL allL => ?_⟩
  · obtain ⟨c, _, ac, e⟩ := q1 q hq
    rw [e]
    exact SqT.of ac
  have y1 := same_new (o := SetTO P w sa L0) hsa
  obtain ⟨cs, pcs⟩ := cs_of (H := upd G4 sa (SetTO P w sa L0)) (L := L0) fun q hq => by
    obtain ⟨c, _, ac, e⟩ := q1 q (subL q hq)
    exact ⟨c, y1 _ _ ac, e⟩
  have mem : ∀ c, c ∈ cs ↔ c ∈ L := fun c => by
    constructor
    · intro hc
      obtain ⟨q, hq, aq, e⟩ := paired_memR pcs c hc
      obtain ⟨d, hd, ad, e2⟩ := q1 q (subL q hq)
      rw [e] at e2
      rw [pair_inj e2]
      exact hd
    · intro hc
      obtain ⟨q, hq, e⟩ := q2 c hc
      obtain ⟨q', hq', e'⟩ := List.mem_map.mp (allL q hq)
      obtain ⟨i, hi⟩ := List.mem_iff_getElem?.mp hq'
      obtain ⟨d, hd, _, e3⟩ := paired_get pcs hi
      have : c = d := pair_inj (e.symm.trans (e'.symm.trans e3))
      rw [this]
      exact List.mem_of_getElem? hd
  refine ⟨sa, L0, cs, rfl, upd_same, pcs, fun nd so qs' cs' prq pm asc hso => ?_⟩
  have y2 := same_new (o := .lst (qs'.map V.ref)) hso
  have es := upd_same (H := upd G4 sa (SetTO P w sa L0)) (a := so) (o := .lst (qs'.map V.ref))
  have prs : Paired (fun q c => At (upd (upd G4 sa (SetTO P w sa L0)) so (.lst (qs'.map V.ref))) q c) qs' cs' := paired_imp (fun x y (h : At _ x y) => y2 _ _ h) prq
  have sB := y1.trans y2
  have hp5 := hp4.same sB
  have k5 : Kp [p] G (upd (upd G4 sa (SetTO P w sa L0)) so (.lst (qs'.map V.ref))) := (k3.trans (Kp.of st)).trans (Kp.of sB)
  have pmL : cs'.Perm L := pm.trans ((List.perm_ext_iff_of_nodup nd nL).mpr mem)
  have lcs : cs'.length = L.length := pmL.length_eq
  have lqs : qs'.length = cs'.length := Paired.length prs
  refine ⟨so, rfl, ⟨_, SqL.of es⟩, fun D1 hD1 => ?_⟩
  refine lc_cells (walk_list (K := K) (a := so) (xs := qs'.map V.ref)) hD1 (fun i => (cs'.take i).map (flipC b (u - 4) (v - 4))) rfl (by rw [List.length_map]; omega) (fun i G _ sm => SqL.of (sm _ _ es)) ?_ ?_
  · rintro i x Ga Gb K1 K0 hi sm ⟨rfl, hx⟩ k1 k0
    rw [List.getElem?_map] at hx
    obtain ⟨q, hq, rfl⟩ := Option.map_eq_some_iff.mp hx
    obtain ⟨d, hd, ad⟩ := paired_get prs hq
    have ad : At Gb q d := ad.same sm
    have stp : (cs'.take (i + 1)).map (flipC b (u - 4) (v - 4)) = (cs'.take i).map (flipC b (u - 4) (v - 4)) ++ [flipC b (u - 4) (v - 4) d] := by rw [take_snoc hd, List.map_append]; rfl
    refine ⟨q, _, rfl, SqT.of ad, rfl, _, _, rfl, _, _, rfl, rfl, rfl, yesT ⟨_, rfl, _, rfl, ?_⟩⟩
    cases b with
    | true =>
      refine ite2 (fun _ => ?_) (fun h => absurd rfl h)
      exact ⟨_, rfl, _, rfl, _, _, rfl, rfl, _, rfl, _, rfl, _, _, rfl, rfl, two_le, fun r hr' => k1 r (d.1 + (u - 4), d.2 + (v - 4)) _ (same_new hr') upd_same stp⟩
    | false =>
      refine ite2 (fun h => nomatch h) (fun _ => ?_)
      exact ⟨_, rfl, _, rfl, _, _, rfl, rfl, _, rfl, _, rfl, _, _, rfl, rfl, two_le, fun r hr' => k1 r (d.2 + (u - 4), d.1 + (v - 4)) _ (same_new hr') upd_same stp⟩
  rintro G6 ps s6 gD6 prp
  rw [List.length_map, lqs, List.take_length] at prp
  refine ⟨D1, ps, _, rfl, SqL.of gD6, prp, fun so2 qs2 Bd prq2 pm2 asc2 hso2 => .inl ⟨so2, _, rfl, SqL.of upd_same, fun tp htp => ?_⟩⟩
  have z1 := same_new (o := .lst (qs2.map V.ref)) hso2
  have z2 := same_new (o := .tup (qs2.map V.ref)) htp
  have sZ := (s6.trans z1).trans z2
  have pmB : Bd.Perm (L.map (flipC b (u - 4) (v - 4))) := pm2.trans (pmL.map _)
  have nB : Bd.Nodup := pmB.nodup_iff.mpr (List.Pairwise.map _ (fun x y h e => h (flip_inj e)) nL)
  refine kD tp _ Bd (hp5.same sZ) (k5.trans (Kp.of sZ)) ⟨qs2, upd_same, paired_imp (fun _ _ h => z2 _ _ (z1 _ _ h)) prq2⟩ nB asc2 ((hangs_perm fun x => pmB.mem_iff).mpr (hangs_map flip_beside (gL.hangs neL))) (by rw [pmB.length_eq, List.length_map]) fun c hc => ?_
  obtain ⟨d, hd, rfl⟩ := List.mem_map.mp (pmB.mem_iff.mp hc)
  have := inL d hd
  cases b <;> simp only [flipC, if_true, Bool.false_eq_true, if_false] <;> omega
/-- a body is drawn -/
def spNBody : Sp := fun vs H Q _ => ∃ (p c : Addr) (n m : Nat), vs = [.ref p, .int (m : Int)] ∧ 1 ≤ m ∧ m ≤ 22 ∧ PenC H p c n ∧ n < 90000 ∧
  ∀ t G B n', PenC G p c n' → n' ≤ n + 100 → Kp [p] H G → CellsT G t B → B.Nodup → Asc B → Hangs B → B.length ≤ 29 → (∀ c ∈ B, c.1.natAbs < 100 ∧ c.2.natAbs < 100) → Q (.ref t) G
theorem near_ofP {A L : List Cell} (hA : A ≠ [] ∧ ∀ c ∈ A, -10 ≤ c.1 ∧ c.1 ≤ 10 ∧ -10 ≤ c.2 ∧ c.2 ≤ 10) (gL : GrownP L) (sub : ∀ a ∈ A, a ∈ L) (lL : L.length ≤ 29) : L ≠ [] ∧ ∀ c ∈ L, -40 ≤ c.1 ∧ c.1 ≤ 40 ∧ -40 ≤ c.2 ∧ c.2 ≤ 40 := by
  obtain ⟨a, ha⟩ := List.exists_mem_of_ne_nil _ hA.1
  have ne : L ≠ [] := fun z => by
    have := sub a ha
    rw [z] at this
    cases this
  refine ⟨ne, fun c hc => ?_⟩
  have sp := span (gL.hangs ne) (sub a ha) hc
  have := hA.2 a ha
  omega
theorem ok_nBody {f : Addr} {fd : FuncData} (F : FnP K "_law_nb_body" nBody f fd) (B : Bl mg) (DD : Df P w K mg base CX0 1 "_law_draw" ["_law_pen_here", "_law_many"] spDrawC) (DPk : Df P w K mg base CX0 2 "_law_pick" ["_law_pen_here", "_law_some"] (spPickC K)) (DG : Df P w K mg base CX0 3 "_law_nb_grown" ["_law_pen_here", "_law_body", "_law_many", "_law_way"] spNGrown) (DR : Df P w K mg base CX0 1 "_law_nb_ring" ["_law_wide", "_law_high"] spNRing) (DS : Df P w K mg base CX0 1 "_law_nb_spiral" ["_law_pen_here", "_law_many"] spNSpiral) :
    FnOk P w K mg base CX0 4 f fd ["_law_pen_here", "_law_many"] spNBody := by
  refine F.ok scNBd (fun vs H Q E h => ?_) (fun cdv A0 outer s H vs Q E hr h => ?_)
  · obtain ⟨p, c, n, m, rfl, _⟩ := h
    rfl
  · obtain ⟨p, c, n, m, rfl, m1, m22, hp, hn, k⟩ := h
    have h64 := room64 hr
    have one_le : (1 : Nat) ≤ sizeLine := by rw [sizeLine_eq]; decide
    have dv2 : Int.fdiv (m : Int) 2 = (m : Int) / 2 := Int.fdiv_eq_ediv_of_nonneg _ (by omega)
    obtain ⟨tl, htl, keyl⟩ := nbd_tail (P := P) (w := w) (K := K) (mg := mg) (base := base) (f := f) (cdv := cdv) (A0 := A0) (outer := outer) (s := s) (H0 := H) (E := E) hr B DD
    refine ⟨_, PSs.nox (pss_cons (ps_set (i := 2) scNBd.nd rfl (.inl rfl) (pe_df DD hr (by rfl) pass0 (pa_cons (pv 0) (pa_cons pe_int pa_nil))))
      (pss_cons (ps_if (pt_cmpR op_lt (pv 2) pe_int (nomark _))
      (pss_one (ps_set (i := 3) scNBd.nd rfl (.inl rfl) (pe_df DG hr (by rfl) pass0 (pa_cons (pv 0) (pa_cons (pe_lst (pa_cons (pe_tup (pa_cons pe_int (pa_cons pe_int pa_nil))) pa_nil)) (pa_cons (pe_op op_add pe_int (pe_df DD hr (by rfl) pass0 (pa_cons (pv 0) (pa_cons (pv 1) pa_nil)))) (pa_cons (pe_ifExp (pt_cmpR op_gt (pv 2) pe_int (nomark _)) (pe_op op_sub (pv 2) pe_int) pe_int) pa_nil)))))))
      (pss_one (ps_if (pt_cmpR op_eq (pv 2) pe_int (nomark _))
        (pss_one (ps_set (i := 3) scNBd.nd rfl (.inl rfl) (pe_df DS hr (by rfl) pass0 (pa_cons (pv 0) (pa_cons (pe_op op_add pe_int (pe_df DD hr (by rfl) pass0 (pa_cons (pv 0) (pa_cons (pv 1) pa_nil)))) pa_nil)))))
        (pss_cons (ps_par (i := 4) (j := 5) (by rfl) scNBd.nd rfl rfl (by decide) rfl rfl (pa_cons (pe_op op_add pe_int (pe_df DD hr (by rfl) pass0 (pa_cons (pv 0) (pa_cons pe_int pa_nil)))) (pa_cons (pe_op op_add pe_int (pe_df DD hr (by rfl) pass0 (pa_cons (pv 0) (pa_cons pe_int pa_nil)))) pa_nil)) (by rfl))
          (pss_cons (ps_set (i := 3) scNBd.nd rfl (.inl rfl) (pe_df DR hr (by rfl) pass0 (pa_cons (pv 4) (pa_cons (pv 5) pa_nil))))
          (pss_cons (ps_if (pt_cmpR op_eq (pv 2) pe_int (nomark _))
          (pss_cons (ps_set (i := 6) scNBd.nd rfl (.inr rfl) (pe_df DPk hr (by rfl) pass0 (pa_cons (pv 0) (pa_cons (pe_lst (pa_cons (pe_tup (pa_cons pe_int (pa_cons pe_int pa_nil))) (pa_cons (pe_tup (pa_cons (pe_op op_sub (pv 4) pe_int) (pa_cons pe_int pa_nil))) (pa_cons (pe_tup (pa_cons pe_int (pa_cons (pe_op op_sub (pv 5) pe_int) pa_nil))) (pa_cons (pe_tup (pa_cons (pe_op op_sub (pv 4) pe_int) (pa_cons (pe_op op_sub (pv 5) pe_int) pa_nil))) pa_nil))))) pa_nil))))
            (pss_one (ps_setLc (i := 3) (own := [("_law_cell", 7)]) (g := gName 7) (by rfl) scNBd.nd rfl rfl (sw_true rfl rfl rfl (by decide +kernel)) (pi_list (pv 3)) (blkOk_by (N := nbdN) (sc := defScope nBody) (by decide +kernel)) (fun _ _ _ _ _ => pg_name (i := 7) scNBd.nd rfl (Or.inl rfl)) (fun _ _ _ _ _ => (pts_one (pt_cmpR (op_neK (K := K) rfl h64) (pv 7) (pv 6) (nomark _)))) (fun _ _ _ _ _ => (pv 7)))))
          pss_nil)
          (pss_one (ps_set (i := 3) scNBd.nd rfl (.inl rfl) (pe_df DG hr (by rfl) pass0 (pa_cons (pv 0) (pa_cons (pv 3) (pa_cons (pe_op op_add (pe_callB call_len_seq (by rfl) B.len PySem.boot_len (pa_cons (pv 3) pa_nil)) (pe_df DD hr (by rfl) pass0 (pa_cons (pv 0) (pa_cons (pe_op op_add pe_int (pe_op op_fdiv (pv 1) pe_int)) pa_nil)))) (pa_cons (pe_df DD hr (by rfl) pass0 (pa_cons (pv 0) (pa_cons pe_int pa_nil))) pa_nil)))))))))))))
      htl)), ?_⟩
    have fin : ∀ {D : Ends} (G : Hp) (l : Addr) (n1 : Nat) (A L : List Cell) (v2 v4 v5 v6 : Option V), (∀ x G', Q x G' → D.rt x G') → PenC G p c n1 → n1 ≤ n + 90 → Kp [p] H G → CellsL G l L → L.Nodup → GrownP L → L.length ≤ 29 → (A ≠ [] ∧ ∀ c ∈ A, -10 ≤ c.1 ∧ c.1 ≤ 10 ∧ -10 ≤ c.2 ∧ c.2 ≤ 10) → (∀ a ∈ A, a ∈ L) → tl D [some (.ref p), some (.int (m : Int)), v2, some (.ref l), v4, v5, v6, none, none, none, none, none, none] G := fun {D} G l n1 A L v2 v4 v5 v6 hQ hp1 hn1 kp cl nL gL lL hA sub => by
      obtain ⟨ne, nr⟩ := near_ofP hA gL sub lL
      refine keyl D G p c l n1 L _ v2 v4 v5 v6 hp1 (by omega) cl nL gL ne lL nr fun t G' Bd hp2 kp2 ct nB aB hB lB sB => hQ _ _ ?_
      exact k t G' Bd _ hp2 (by omega) (kp.trans kp2) ct nB aB hB (by omega) sB
    refine ⟨_, rfl, p, c, n, 7, rfl, hp, by decide, by decide, by omega, fun r G1 r0 r1 hp1 hb1 => ⟨_, rfl, _, _, rfl, rfl, _, rfl, ?_⟩⟩
    have k1 := kp_pick hb1
    refine ite2 (fun y => ?_) (fun y => ?_)
    · refine ⟨_, rfl, two_le, fun u hu => ⟨one_le, fun l1 hl1 => ?_⟩⟩
      have s1 := same_new (o := .tup [.int 0, .int 0]) hu
      have s2 := same_new (o := .lst [.ref u]) hl1
      have c1 : CellsL (upd (upd G1 u (.tup [.int 0, .int 0])) l1 (.lst [.ref u])) l1 [((0 : Int), (0 : Int))] := ⟨[u], upd_same, .cons (s2 _ _ (upd_same (H := G1) (a := u) (o := .tup [.int 0, .int 0]))) .nil⟩
      have sA := s1.trans s2
      have hp2 := hp1.same sA
      have k2 := k1.trans (Kp.of sA)
      generalize upd (upd G1 u (.tup [.int 0, .int 0])) l1 (.lst [.ref u]) = G2 at c1 hp2 k2
      refine ⟨_, rfl, _, rfl, p, c, n + 1, m, rfl, hp2, by omega, by omega, by omega, fun q G3 q0 q1 hp3 hb3 => ⟨_, _, rfl, rfl, ?_⟩⟩
      have k3 := kp_pick hb3
      have c3 := c1.ek (pen_ek hp2.at k3)
      obtain ⟨q, rfl⟩ := Int.eq_ofNat_of_zero_le q0
      have b00 : Begin 16 [((0 : Int), (0 : Int))] := begin_of (N := 16) (by decide +kernel)
      refine ⟨_, rfl, _, _, rfl, rfl, _, rfl, ?_⟩
      refine ite2 (fun _ => ?_) (fun _ => ?_)
      · refine ⟨_, rfl, _, _, rfl, rfl, p, c, l1, n + 2, 1 + q, _, [(0, 0)], rfl, hp3, c3, b00.nd, b00.gr, b00.ne, by simp, by omega, by omega, fun l' G' L n' hp4 hn4 k4 cl nL gL lL sub => ?_⟩
        exact fin G' l' n' [(0, 0)] L _ _ _ _ (fun _ _ h => h) hp4 (by omega) ((k2.trans k3).trans k4) cl nL gL (by omega) ⟨b00.ne, b00.nr⟩ sub
      · refine ⟨p, c, l1, n + 2, 1 + q, _, [(0, 0)], rfl, hp3, c3, b00.nd, b00.gr, b00.ne, by simp, by omega, by omega, fun l' G' L n' hp4 hn4 k4 cl nL gL lL sub => ?_⟩
        exact fin G' l' n' [(0, 0)] L _ _ _ _ (fun _ _ h => h) hp4 (by omega) ((k2.trans k3).trans k4) cl nL gL (by omega) ⟨b00.ne, b00.nr⟩ sub
    refine ⟨_, rfl, rfl, _, rfl, ?_⟩
    refine ite2 (fun y4 => ?_) (fun y4 => ?_)
    · refine ⟨_, rfl, _, rfl, _, rfl, p, c, n + 1, m, rfl, hp1, by omega, by omega, by omega, fun q G3 q0 q1 hp3 hb3 => ⟨_, _, rfl, rfl, ?_⟩⟩
      have k3 := kp_pick hb3
      obtain ⟨q, rfl⟩ := Int.eq_ofNat_of_zero_le q0
      refine ⟨.ref p, 2 + q, rfl, by omega, by omega, fun l G4 s4 cl => ?_⟩
      have bg := begin_of (spiral_good (2 + q) (List.mem_range.mpr (by omega)) (by omega))
      exact fin G4 l _ _ _ _ _ _ _ (fun _ _ h => h) (hp3.same s4) (by omega) ((k1.trans k3).trans (Kp.of s4)) cl bg.nd bg.gr (by have := bg.len; omega) ⟨bg.ne, bg.nr⟩ fun _ h => h
    refine ⟨_, rfl, p, c, n + 1, 3, rfl, hp1, by decide, by decide, by omega, fun a G2 a0 a1 hp2 hb2 => ⟨_, _, rfl, rfl, ?_⟩⟩
    refine ⟨_, rfl, p, c, n + 2, 3, rfl, hp2, by decide, by decide, by omega, fun b G3 b0 b1 hp3 hb3 => ⟨_, _, rfl, rfl, _, _, rfl, ?_⟩⟩
    have k3 := (k1.trans (kp_pick hb2)).trans (kp_pick hb3)
    obtain ⟨a, rfl⟩ := Int.eq_ofNat_of_zero_le a0
    obtain ⟨b, rfl⟩ := Int.eq_ofNat_of_zero_le b0
    refine ⟨_, rfl, _, rfl, 3 + a, 3 + b, rfl, by omega, by omega, by omega, by omega, fun l G4 s4 cl => ?_⟩
    have hp4 := hp3.same s4
    have k4 := k3.trans (Kp.of s4)
    obtain ⟨rg1, rg2⟩ := ring_good (3 + a) (by simp only [List.mem_cons, List.not_mem_nil, or_false]; omega) (3 + b) (by simp only [List.mem_cons, List.not_mem_nil, or_false]; omega)
    obtain ⟨rs, el, pr⟩ := id cl
    have lrs : rs.length = (ringC (3 + a) (3 + b)).length := Paired.length pr
    have bg0 := begin_of rg1
    refine ⟨_, rfl, rfl, _, rfl, ?_⟩
    refine ite2 (fun y6 => ?_) (fun y6 => ?_)
    · refine ⟨_, rfl, two_le, fun t1 h1 => ⟨_, rfl, _, _, rfl, rfl, two_le, fun t2 h2 => ⟨_, rfl, _, _, rfl, rfl, two_le, fun t3 h3 => ⟨_, rfl, _, _, rfl, rfl, _, rfl, _, _, rfl, rfl, two_le, fun t4 h4 => ⟨four_le, fun l4 hl4 => ?_⟩⟩⟩⟩⟩
      have u1 := same_new (o := .tup [.int 0, .int 0]) h1
      have u2 := same_new (o := .tup [.int (3 + (a : Int) - 1), .int 0]) h2
      have u3 := same_new (o := .tup [.int 0, .int (3 + (b : Int) - 1)]) h3
      have u4 := same_new (o := .tup [.int (3 + (a : Int) - 1), .int (3 + (b : Int) - 1)]) h4
      have u5 := same_new (o := .lst [.ref t1, .ref t2, .ref t3, .ref t4]) hl4
      have b1 : At _ t1 ((0 : Int), (0 : Int)) := u5 _ _ (u4 _ _ (u3 _ _ (u2 _ _ upd_same)))
      have b2 : At _ t2 (((3 + a : Nat) : Int) - 1, (0 : Int)) := u5 _ _ (u4 _ _ (u3 _ _ upd_same))
      have b3 : At _ t3 ((0 : Int), ((3 + b : Nat) : Int) - 1) := u5 _ _ (u4 _ _ upd_same)
      have b4 : At _ t4 (((3 + a : Nat) : Int) - 1, ((3 + b : Nat) : Int) - 1) := u5 _ _ upd_same
      have uA := (((u1.trans u2).trans u3).trans u4).trans u5
      have ell := upd_same (H := upd (upd (upd (upd G4 t1 (.tup [.int 0, .int 0])) t2 (.tup [.int (3 + (a : Int) - 1), .int 0])) t3 (.tup [.int 0, .int (3 + (b : Int) - 1)])) t4 (.tup [.int (3 + (a : Int) - 1), .int (3 + (b : Int) - 1)])) (a := l4) (o := .lst [.ref t1, .ref t2, .ref t3, .ref t4])
      have hp5 := hp4.same uA
      have k5 := k4.trans (Kp.of uA)
      have cl5 := cl.ek (.of uA)
      refine ⟨p, c, l4, n + 3, [.ref t1, .ref t2, .ref t3, .ref t4], rfl, hp5, by omega, .inl (SqL.of ell), by show 1 ≤ 4; decide, by show 4 < 1073741824; decide, fun j x G6 hx hp6 hb6 => ?_⟩
      have ek6 := pen_ek hp5.at (kp_pick hb6)
      have k6 := k5.trans (kp_pick hb6)
      have cl6 := cl5.ek ek6
      obtain ⟨tk, corner, rfl, ak, mk⟩ : ∃ tk corner, x = .ref tk ∧ At G6 tk corner ∧ corner ∈ [((0 : Int), (0 : Int)), (((3 + a : Nat) : Int) - 1, 0), (0, ((3 + b : Nat) : Int) - 1), (((3 + a : Nat) : Int) - 1, ((3 + b : Nat) : Int) - 1)] := by
        have m := List.mem_of_getElem? hx
        simp only [List.mem_cons, List.not_mem_nil, or_false] at m
        rcases m with rfl | rfl | rfl | rfl
        · exact ⟨t1, _, rfl, ek6.at b1, List.mem_cons_self ..⟩
        · exact ⟨t2, _, rfl, ek6.at b2, List.mem_cons_of_mem _ (List.mem_cons_self ..)⟩
        · exact ⟨t3, _, rfl, ek6.at b3, List.mem_cons_of_mem _ (List.mem_cons_of_mem _ (List.mem_cons_self ..))⟩
        · exact ⟨t4, _, rfl, ek6.at b4, List.mem_cons_of_mem _ (List.mem_cons_of_mem _ (List.mem_cons_of_mem _ (List.mem_cons_self ..)))⟩
      have bg1 := begin_of (rg2 corner mk)
      obtain ⟨rs6, el6, pr6⟩ := id cl6
      have lrs6 : rs6.length = (ringC (3 + a) (3 + b)).length := Paired.length pr6
      have l16 := bg0.len
      refine ⟨_, rfl, l, rfl, ⟨_, SqL.of el6⟩, fun D2 hD2 => ?_⟩
      refine lc_cells (walk_list (K := K) (a := l) (xs := rs6.map V.ref)) hD2 (fun i => without ((ringC (3 + a) (3 + b)).take i) corner) rfl (by rw [List.length_map]; omega) (fun i G2 _ sm2 => SqL.of (sm2 _ _ el6)) ?_ ?_
      · rintro k2 x Ga Gc K3 K2 hk sm2 ⟨rfl, hx2⟩ k3' k2'
        rw [List.getElem?_map] at hx2
        obtain ⟨y, hy, rfl⟩ := Option.map_eq_some_iff.mp hx2
        obtain ⟨e, he, ae⟩ := paired_get pr6 hy
        have ae' : At Gc y e := sm2 _ _ ae
        have ac' : At Gc tk corner := sm2 _ _ ak
        have st : without ((ringC (3 + a) (3 + b)).take (k2 + 1)) corner = if e = corner then without ((ringC (3 + a) (3 + b)).take k2) corner else without ((ringC (3 + a) (3 + b)).take k2) corner ++ [e] := by rw [take_snoc he, without_snoc]
        refine ⟨rfl, _, rfl, _, rfl, cD e, cD corner, ae'.dp, ac'.dp, cD_shaped e, cD_shaped corner, _, rfl, ?_⟩
        rw [cD_eqv]
        refine ite2 (fun hc => ?_) (fun hc => ?_)
        · have ne : e ≠ corner := by simpa using hc
          rw [if_neg ne] at st
          exact ⟨_, rfl, k3' y e _ same_refl ae' st⟩
        · have ec : e = corner := by simpa using hc
          rw [if_pos ec] at st
          exact k2' _ same_refl st
      rintro G7 ws s7 gD7 prw
      rw [List.length_map, lrs6, List.take_length] at prw
      have lws : ws.length = (without (ringC (3 + a) (3 + b)) corner).length := Paired.length prw
      have cD7 : CellsL G7 D2 (without (ringC (3 + a) (3 + b)) corner) := ⟨ws, gD7, prw⟩
      have hp7 := hp6.same s7
      have k7 := k6.trans (Kp.of s7)
      refine ⟨_, rfl, _, rfl, _, rfl, D2, _, rfl, .inl (SqL.of gD7), ?_⟩
      refine ⟨_, rfl, _, rfl, _, _, rfl, rfl, (by unfold CDiv; decide), _, _, rfl, rfl, p, c, n + 4, _, rfl, hp7, (by omega), (by omega), by omega, fun q Gx q0 q1 hpx hbx => ⟨_, _, rfl, rfl, ?_⟩⟩
      have ekx := pen_ek (hp7).at (kp_pick hbx)
      have kx := (k7).trans (kp_pick hbx)
      obtain ⟨q, rfl⟩ := Int.eq_ofNat_of_zero_le q0
      refine ⟨_, rfl, p, c, n + 4 + 1, 3, rfl, hpx, by decide, by decide, by omega, fun w Gy w0 w1 hpy hby => ?_⟩
      have eky := ekx.trans (pen_ek hpx.at (kp_pick hby))
      have ky := kx.trans (kp_pick hby)
      have lb := (bg1).len
      refine ⟨p, c, D2, n + 4 + 1 + 1, (ws).length + q, w, without (ringC (3 + a) (3 + b)) corner, ?_, hpy, (cD7).ek eky, (bg1).nd, (bg1).gr, (bg1).ne, by omega, by omega, by omega, fun l' G' L n' hp8 hn8 k8 cl8 nL gL lL sub => ?_⟩
      · show [V.ref p, V.ref D2, V.int ((((ws).map V.ref).length : Nat) + (q : Int)), V.int w] = _
        rw [List.length_map]
        rfl
      exact fin G' l' n' (without (ringC (3 + a) (3 + b)) corner) L _ _ _ _ (fun _ _ h => h) hp8 (by omega) (ky.trans k8) cl8 nL gL (by omega) ⟨bg1.ne, bg1.nr⟩ sub
    · refine ⟨_, rfl, _, rfl, _, rfl, l, _, rfl, .inl (SqL.of el), ?_⟩
      refine ⟨_, rfl, _, rfl, _, _, rfl, rfl, (by unfold CDiv; decide), _, _, rfl, rfl, p, c, n + 3, _, rfl, hp4, (by omega), (by omega), by omega, fun q Gx q0 q1 hpx hbx => ⟨_, _, rfl, rfl, ?_⟩⟩
      have ekx := pen_ek (hp4).at (kp_pick hbx)
      have kx := (k4).trans (kp_pick hbx)
      obtain ⟨q, rfl⟩ := Int.eq_ofNat_of_zero_le q0
      refine ⟨_, rfl, p, c, n + 3 + 1, 3, rfl, hpx, by decide, by decide, by omega, fun w Gy w0 w1 hpy hby => ?_⟩
      have eky := ekx.trans (pen_ek hpx.at (kp_pick hby))
      have ky := kx.trans (kp_pick hby)
      have lb := (bg0).len
      refine ⟨p, c, l, n + 3 + 1 + 1, (rs).length + q, w, ringC (3 + a) (3 + b), ?_, hpy, (cl).ek eky, (bg0).nd, (bg0).gr, (bg0).ne, by omega, by omega, by omega, fun l' G' L n' hp8 hn8 k8 cl8 nL gL lL sub => ?_⟩
      · show [V.ref p, V.ref l, V.int ((((rs).map V.ref).length : Nat) + (q : Int)), V.int w] = _
        rw [List.length_map]
        rfl
      exact fin G' l' n' (ringC (3 + a) (3 + b)) L _ _ _ _ (fun _ _ h => h) hp8 (by omega) (ky.trans k8) cl8 nL gL (by omega) ⟨bg0.ne, bg0.nr⟩ sub
end
end Sq

set_option Elab.async false
set_option linter.all false
set_option maxRecDepth 100000
set_option maxHeartbeats 4000000
/-! The law: where a square can go, in order; how far each cell lies. -/
namespace Sq
open PySem PySem.Spec PyProof.Rows L2
section
variable {P : Program} {w : World} {K : PySem.W.Frag} {mg : Str → Option Value} {base : Heap}
end
end Sq

set_option Elab.async false
set_option linter.all false
set_option maxRecDepth 100000
set_option maxHeartbeats 1000000
/-! The law: how far each cell lies. -/
namespace Sq
open PySem PySem.Spec PyProof.Rows L2
def candL (R : List Cell) (e : Cell) : List Cell := e :: R.flatMap besideC
theorem cand_len (R : List Cell) (e : Cell) : (candL R e).length = 4 * R.length + 1 := by
  have : (R.flatMap besideC).length = 4 * R.length := by
    induction R with
    | nil => rfl
    | cons r R ih =>
      rw [List.flatMap_cons, List.length_append, ih, List.length_cons]
      have : (besideC r).length = 4 := rfl
      omega
  show _ + 1 = _
  rw [this]
theorem step_cand {R : List Cell} {x y : Cell} (hx : x ∉ R) (h : y ∈ stepsN R x) : y ∈ R.flatMap besideC := by
  obtain ⟨e, sd, hh⟩ := step_pair hx h
  rcases hh with ⟨_, h2⟩ | ⟨h1, _⟩
  · have sn := next_side sd
    exact List.mem_flatMap.mpr ⟨_, sn.sq, by rw [← h2]; exact beside_symm sn.bs⟩
  · exact List.mem_flatMap.mpr ⟨_, sd.sq, by rw [← h1]; exact beside_symm sd.bs⟩
theorem dst_cand {R : List Cell} {e : Cell} (ho : e ∉ R) : ∀ {n : Nat} {x : Cell}, Dst (stepA R) e n x → x ∈ candL R e
  | 0, x, h => by
    rw [show x = e from h.1]
    exact List.mem_cons_self ..
  | n + 1, x, h => by
    obtain ⟨y, hy, a⟩ := h.prev
    exact List.mem_cons_of_mem _ (step_cand ((wk_air ho hy.1).out ho) a)
abbrev nfrN : List Str := ["_law_rest", "_law_start", "_law_far", "_law_wave", "_law_many", "_law_more", "_law_cell", "_law_other"]
section
variable {P : Program} {w : World} {K : PySem.W.Frag} {mg : Str → Option Value} {base : Heap}
theorem scNFr : FnScope nfrN ["_law_rest", "_law_start"] (defScope nFar) := ⟨rfl, rfl, rfl, by decide +kernel, rfl, by decide +kernel, by decide +kernel⟩
end
end Sq

set_option Elab.async false
set_option linter.all false
set_option maxRecDepth 100000
set_option maxHeartbeats 1000000
/-! The law: a walk. -/
namespace Sq
open PySem PySem.Spec PyProof.Rows L2
section
variable {P : Program} {w : World} {K : PySem.W.Frag} {mg : Str → Option Value} {base : Heap}
variable {f : Addr} {cdv : Value} {A0 : Around} {outer : List Env} {sh : Shared} {H0 : Hp} {E : XK}
end
end Sq

set_option Elab.async false
set_option linter.all false
set_option maxRecDepth 100000
set_option maxHeartbeats 1000000
/-! The law: the cells around a body. -/
namespace Sq
open PySem PySem.Spec PyProof.Rows L2
abbrev nfdN : List Str := ["_law_body", "_law_wide", "_law_columns", "_law_rows", "_law_found", "_law_cell", "_law_inside", "_law_column", "_law_row"]
section
variable {P : Program} {w : World} {K : PySem.W.Frag} {mg : Str → Option Value} {base : Heap}
theorem scNFd : FnScope nfdN ["_law_body", "_law_wide"] (defScope nField) := ⟨rfl, rfl, rfl, by decide +kernel, rfl, by decide +kernel, by decide +kernel⟩
end
end Sq

set_option Elab.async false
set_option linter.all false
set_option maxRecDepth 100000
set_option maxHeartbeats 1000000
/-! Air within a window around a body. -/
namespace Sq
/-- within the window -/
def InW (l1 h1 l2 h2 : Int) (c : Cell) : Prop := (l1 ≤ c.1 ∧ c.1 ≤ h1) ∧ (l2 ≤ c.2 ∧ c.2 ≤ h2)
/-- the nearest place in the window -/
def clampI (l h x : Int) : Int := if x < l then l else if h < x then h else x
def clampC (l1 h1 l2 h2 : Int) (c : Cell) : Cell := (clampI l1 h1 c.1, clampI l2 h2 c.2)
section
variable {l1 h1 l2 h2 : Int}
theorem clamp_in {l h x : Int} (e : l ≤ h) : l ≤ clampI l h x ∧ clampI l h x ≤ h := by
  unfold clampI
  split
  · omega
  · split <;> omega
theorem clamp_id {l h x : Int} (h1 : l ≤ x) (h2 : x ≤ h) : clampI l h x = x := by
  unfold clampI
  rw [if_neg (by omega), if_neg (by omega)]
theorem clampC_id {c : Cell} (h : InW l1 h1 l2 h2 c) : clampC l1 h1 l2 h2 c = c := Prod.ext (clamp_id h.1.1 h.1.2) (clamp_id h.2.1 h.2.2)
theorem clampC_in {c : Cell} (e1 : l1 ≤ h1) (e2 : l2 ≤ h2) : InW l1 h1 l2 h2 (clampC l1 h1 l2 h2 c) := ⟨clamp_in e1, clamp_in e2⟩
theorem clamp_step {l h x y : Int} (e : l ≤ h) (s : y = x ∨ y = x + 1 ∨ y = x - 1) : clampI l h y = clampI l h x ∨ (clampI l h y = clampI l h x + 1 ∧ y = x + 1) ∨ (clampI l h y = clampI l h x - 1 ∧ y = x - 1) := by
  unfold clampI
  rcases s with rfl | rfl | rfl
  · exact .inl rfl
  · by_cases a : x + 1 < l
    · rw [if_pos a, if_pos (by omega : x < l)]
      exact .inl rfl
    · rw [if_neg a]
      by_cases b : x < l
      · rw [if_pos b]
        by_cases c : h < x + 1
        · rw [if_pos c]
          omega
        · rw [if_neg c]
          omega
      · rw [if_neg b]
        by_cases c : h < x + 1
        · rw [if_pos c]
          by_cases d : h < x
          · rw [if_pos d]
            exact .inl rfl
          · rw [if_neg d]
            omega
        · rw [if_neg c, if_neg (by omega : ¬ h < x)]
          omega
  · by_cases a : x < l
    · rw [if_pos a, if_pos (by omega : x - 1 < l)]
      exact .inl rfl
    · rw [if_neg a]
      by_cases b : x - 1 < l
      · rw [if_pos b]
        by_cases c : h < x
        · rw [if_pos c]
          omega
        · rw [if_neg c]
          omega
      · rw [if_neg b]
        by_cases c : h < x - 1
        · rw [if_pos c, if_pos (by omega : h < x)]
          exact .inl rfl
        · rw [if_neg c]
          by_cases d : h < x
          · rw [if_pos d]
            omega
          · rw [if_neg d]
            omega
theorem clampC_step {x y : Cell} (e1 : l1 ≤ h1) (e2 : l2 ≤ h2) (s : y ∈ besideC x) : clampC l1 h1 l2 h2 y = clampC l1 h1 l2 h2 x ∨ clampC l1 h1 l2 h2 y ∈ besideC (clampC l1 h1 l2 h2 x) := by
  have s := beside_iff.mp s
  have c1 := clamp_step (l := l1) (h := h1) (x := x.1) (y := y.1) e1 (by omega)
  have c2 := clamp_step (l := l2) (h := h2) (x := x.2) (y := y.2) e2 (by omega)
  by_cases z : clampI l1 h1 y.1 = clampI l1 h1 x.1 ∧ clampI l2 h2 y.2 = clampI l2 h2 x.2
  · exact .inl (Prod.ext z.1 z.2)
  · refine .inr (beside_iff.mpr ?_)
    show (clampI l1 h1 y.1 = clampI l1 h1 x.1 - 1 ∧ clampI l2 h2 y.2 = clampI l2 h2 x.2) ∨ (clampI l1 h1 y.1 = clampI l1 h1 x.1 ∧ clampI l2 h2 y.2 = clampI l2 h2 x.2 - 1) ∨ (clampI l1 h1 y.1 = clampI l1 h1 x.1 + 1 ∧ clampI l2 h2 y.2 = clampI l2 h2 x.2) ∨ (clampI l1 h1 y.1 = clampI l1 h1 x.1 ∧ clampI l2 h2 y.2 = clampI l2 h2 x.2 + 1)
    generalize clampI l1 h1 y.1 = A at *
    generalize clampI l1 h1 x.1 = B at *
    generalize clampI l2 h2 y.2 = C at *
    generalize clampI l2 h2 x.2 = D at *
    have t1 : ∀ {X Y : Int}, X = Y → Y = X := fun h => h.symm
    rcases s with ⟨s1, s2⟩ | ⟨s1, s2⟩ | ⟨s1, s2⟩ | ⟨s1, s2⟩
    · have d : C = D := by omega
      omega
    · have d : A = B := by omega
      omega
    · have d : C = D := by omega
      omega
    · have d : A = B := by omega
      omega
/-- a body that lies well within the window: the air that holds two of the window's cells together goes through the window -/
theorem air_window {L F : List Cell} (e1 : l1 ≤ h1) (e2 : l2 ≤ h2) (inn : ∀ c ∈ L, (l1 < c.1 ∧ c.1 < h1) ∧ (l2 < c.2 ∧ c.2 < h2)) (hF : ∀ c, c ∈ F ↔ InW l1 h1 l2 h2 c ∧ c ∉ L) {a b : Cell} (ha : a ∈ F) (h : Air L a b) : Reach F a (clampC l1 h1 l2 h2 b) := by
  induction h with
  | refl =>
    rw [clampC_id ((hF a).mp ha).1]
    exact .refl
  | @step b c hab hb hc ih =>
    have nc : clampC l1 h1 l2 h2 c ∉ L := fun m => by
      have i := inn _ m
      have u1 : clampI l1 h1 c.1 = c.1 := by
        have := i.1
        simp only [clampC] at this
        unfold clampI at this ⊢
        split at this
        · omega
        · split at this
          · omega
          · rename_i p q
            rw [if_neg p, if_neg q]
      have u2 : clampI l2 h2 c.2 = c.2 := by
        have := i.2
        simp only [clampC] at this
        unfold clampI at this ⊢
        split at this
        · omega
        · split at this
          · omega
          · rename_i p q
            rw [if_neg p, if_neg q]
      have : clampC l1 h1 l2 h2 c = c := Prod.ext u1 u2
      rw [this] at m
      exact hc m
    have mF : clampC l1 h1 l2 h2 c ∈ F := (hF _).mpr ⟨clampC_in e1 e2, nc⟩
    rcases clampC_step (x := b) (y := c) e1 e2 hb with z | z
    · rw [z]
      exact ih
    · exact .step ih z mF
theorem reach_air {L F : List Cell} (hF : ∀ c, c ∈ F → c ∉ L) {a b : Cell} (h : Reach F a b) : Air L a b := by
  induction h with
  | refl => exact .refl
  | step _ hb hc ih => exact .step ih hb (hF _ hc)
/-- within the window, air and being held together by the window's empty cells are one -/
theorem air_reach {L F : List Cell} (e1 : l1 ≤ h1) (e2 : l2 ≤ h2) (inn : ∀ c ∈ L, (l1 < c.1 ∧ c.1 < h1) ∧ (l2 < c.2 ∧ c.2 < h2)) (hF : ∀ c, c ∈ F ↔ InW l1 h1 l2 h2 c ∧ c ∉ L) {a b : Cell} (ha : a ∈ F) (hb : b ∈ F) : Air L a b ↔ Reach F a b := by
  constructor
  · intro h
    have := air_window e1 e2 inn hF ha h
    rw [clampC_id ((hF b).mp hb).1] at this
    exact this
  · exact reach_air fun c hc => ((hF c).mp hc).2
end
end Sq

set_option Elab.async false
set_option linter.all false
set_option maxRecDepth 100000
set_option maxHeartbeats 1000000
/-! Regions: straight ways through the air, what lies outside, the least cell of a region. -/
namespace Sq
section
variable {L : List Cell}
theorem air_east {c : Cell} : ∀ (k : Nat), (∀ i : Nat, i ≤ k → ((c.1 + (i : Int), c.2) : Cell) ∉ L) → Air L c (c.1 + (k : Int), c.2)
  | 0, _ => by
    have : ((c.1 + ((0 : Nat) : Int), c.2) : Cell) = c := Prod.ext (by show c.1 + ((0 : Nat) : Int) = c.1; omega) rfl
    rw [this]
    exact .refl
  | k + 1, h => .step (air_east k fun i hi => h i (by omega)) (beside_iff.mpr (.inr (.inr (.inl ⟨by show c.1 + ((k + 1 : Nat) : Int) = c.1 + (k : Int) + 1; omega, rfl⟩)))) (h (k + 1) (Nat.le_refl _))
theorem air_north {c : Cell} : ∀ (k : Nat), (∀ i : Nat, i ≤ k → ((c.1, c.2 + (i : Int)) : Cell) ∉ L) → Air L c (c.1, c.2 + (k : Int))
  | 0, _ => by
    have : ((c.1, c.2 + ((0 : Nat) : Int)) : Cell) = c := Prod.ext rfl (by show c.2 + ((0 : Nat) : Int) = c.2; omega)
    rw [this]
    exact .refl
  | k + 1, h => .step (air_north k fun i hi => h i (by omega)) (beside_iff.mpr (.inr (.inr (.inr ⟨rfl, by show c.2 + ((k + 1 : Nat) : Int) = c.2 + (k : Int) + 1; omega⟩)))) (h (k + 1) (Nat.le_refl _))
theorem air_row {x y v : Int} (le : x ≤ y) (h : ∀ z, x ≤ z → z ≤ y → ((z, v) : Cell) ∉ L) : Air L (x, v) (y, v) := by
  obtain ⟨k, hk⟩ := Int.eq_ofNat_of_zero_le (show 0 ≤ y - x by omega)
  have := air_east (L := L) (c := (x, v)) k fun i hi => h _ (by show x ≤ x + (i : Int); omega) (by show x + (i : Int) ≤ y; omega)
  rw [show ((x, v) : Cell).1 + (k : Int) = y by show x + (k : Int) = y; omega] at this
  exact this
theorem air_col {x u v : Int} (le : u ≤ v) (h : ∀ z, u ≤ z → z ≤ v → ((x, z) : Cell) ∉ L) : Air L (x, u) (x, v) := by
  obtain ⟨k, hk⟩ := Int.eq_ofNat_of_zero_le (show 0 ≤ v - u by omega)
  have := air_north (L := L) (c := (x, u)) k fun i hi => h _ (by show u ≤ u + (i : Int); omega) (by show u + (i : Int) ≤ v; omega)
  rw [show ((x, u) : Cell).2 + (k : Int) = v by show u + (k : Int) = v; omega] at this
  exact this
theorem air_row' {x y v : Int} (h : ∀ z, ((z, v) : Cell) ∉ L) : Air L (x, v) (y, v) := by
  by_cases le : x ≤ y
  · exact air_row le fun z _ _ => h z
  · exact (air_row (x := y) (y := x) (by omega) fun z _ _ => h z).symm (h y)
theorem air_col' {x u v : Int} (h : ∀ z, ((x, z) : Cell) ∉ L) : Air L (x, u) (x, v) := by
  by_cases le : u ≤ v
  · exact air_col le fun z _ _ => h z
  · exact (air_col (u := v) (v := u) (by omega) fun z _ _ => h z).symm (h v)
variable {l1 h1 l2 h2 : Int}
/-- all that lies outside is one region -/
theorem air_outside (box : ∀ c ∈ L, (l1 ≤ c.1 ∧ c.1 ≤ h1) ∧ (l2 ≤ c.2 ∧ c.2 ≤ h2)) {c : Cell} (h : c.1 < l1 ∨ h1 < c.1 ∨ c.2 < l2 ∨ h2 < c.2) : Air L (l1 - 1, l2 - 1) c := by
  have west : ∀ v : Int, Air L (l1 - 1, l2 - 1) (l1 - 1, v) := fun v => air_col' fun z m => by
    have := (box _ m).1.1
    dsimp only at this
    omega
  obtain ⟨x, y⟩ := c
  dsimp only at h
  rcases h with h | h | h | h
  · -- west of all
    refine (west y).trans ?_
    by_cases le : l1 - 1 ≤ x
    · exact air_row le fun z _ hz m => by
        have := (box _ m).1.1
        dsimp only at this
        omega
    · exact (air_row (x := x) (y := l1 - 1) (by omega) fun z _ hz m => by
        have := (box _ m).1.1
        dsimp only at this
        omega).symm fun m => by
        have := (box _ m).1.1
        dsimp only at this
        omega
  · -- east of all: along the lowest row, then up
    have s1 : Air L (l1 - 1, l2 - 1) (x, l2 - 1) := air_row' fun z m => by
      have := (box _ m).2.1
      dsimp only at this
      omega
    exact s1.trans (air_col' fun z m => by
      have := (box _ m).1.2
      dsimp only at this
      omega)
  · exact (west y).trans (air_row' fun z m => by
      have := (box _ m).2.1
      dsimp only at this
      omega)
  · exact (west y).trans (air_row' fun z m => by
      have := (box _ m).2.2
      dsimp only at this
      omega)
/-- the least cell of a region has a square to its west -/
theorem least_west {a c : Cell} (hc : Air L a c) (least : ∀ d, Air L a d → cLt d c = false) : ((c.1 - 1, c.2) : Cell) ∈ L := Classical.byContradiction fun n => by
  have hw : Air L a (c.1 - 1, c.2) := .step hc (beside_iff.mpr (.inl ⟨rfl, rfl⟩)) n
  have := least _ hw
  unfold cLt at this
  have := of_decide_eq_false this
  exact this (.inl (by show c.1 - 1 < c.1; omega))
theorem west_side {c : Cell} (ho : c ∉ L) (h : ((c.1 - 1, c.2) : Cell) ∈ L) : IsSide L (c, (c.1 - 1, c.2)) := ⟨ho, h, beside_iff.mpr (.inl ⟨rfl, rfl⟩)⟩
end
end Sq

set_option Elab.async false
set_option linter.all false
set_option maxRecDepth 100000
set_option maxHeartbeats 1000000
/-! The law: the cells around a body, told exactly. -/
namespace Sq
open PySem PySem.Spec PyProof.Rows L2
/-- the cells within wd of a body that lies between m and M, r and R -/
structure FieldIs (L : List Cell) (wd : Int) (m M r R : Int) (C : List Cell) : Prop where
  bx : ∀ c ∈ L, (m ≤ c.1 ∧ c.1 ≤ M) ∧ (r ≤ c.2 ∧ c.2 ≤ R)
  mm : ∃ c ∈ L, c.1 = m
  MM : ∃ c ∈ L, c.1 = M
  rr : ∃ c ∈ L, c.2 = r
  RR : ∃ c ∈ L, c.2 = R
  nd : C.Nodup
  asc : Asc C
  mem : ∀ c, c ∈ C ↔ InW (m - wd) (M + wd) (r - wd) (R + wd) c ∧ c ∉ L
def spNFieldX : Sp := fun vs H Q _ => ∃ (t : Addr) (L : List Cell) (wd : Nat), vs = [.ref t, .int (wd : Int)] ∧ 1 ≤ wd ∧ wd ≤ 5 ∧ CellsT H t L ∧ L.Nodup ∧ L ≠ [] ∧ L.length ≤ 1000 ∧ (∀ c ∈ L, c.1.natAbs < 100 ∧ c.2.natAbs < 100) ∧ ∀ l G C m M r R, Same H G → H l = none → CellsL G l C → FieldIs L (wd : Int) m M r R C → C.length ≤ 90000 → Q (.ref l) G
theorem min_of : ∀ {ns : List Int}, 0 < ns.length → ∃ m ∈ ns, ∀ y ∈ ns, m ≤ y
  | [a], _ => ⟨a, List.mem_cons_self .., fun y hy => by rw [List.mem_singleton.mp hy]; exact Int.le_refl _⟩
  | a :: b :: ns, _ => by
    obtain ⟨m, hm, lm⟩ := min_of (ns := b :: ns) (Nat.succ_pos _)
    by_cases h : a ≤ m
    · exact ⟨a, List.mem_cons_self .., fun y hy => by
        rcases List.mem_cons.mp hy with z | z
        · rw [z]
          exact Int.le_refl _
        · have := lm y z
          omega⟩
    · exact ⟨m, List.mem_cons_of_mem _ hm, fun y hy => by
        rcases List.mem_cons.mp hy with z | z
        · rw [z]
          omega
        · exact lm y z⟩
theorem max_of {ns : List Int} (h : 0 < ns.length) : ∃ m ∈ ns, ∀ y ∈ ns, y ≤ m := by
  obtain ⟨m, hm, lm⟩ := min_of (ns := ns.map fun x => -x) (by rw [List.length_map]; exact h)
  obtain ⟨x, hx, rfl⟩ := List.mem_map.mp hm
  exact ⟨x, hx, fun y hy => by
    have := lm _ (List.mem_map.mpr ⟨y, hy, rfl⟩)
    omega⟩
section
variable {P : Program} {w : World} {K : PySem.W.Frag} {mg : Str → Option Value} {base : Heap}
theorem ok_nFieldX {f : Addr} {fd : FuncData} (F : FnP K "_law_nb_field" nField f fd) (B : Bl mg) (gD : mg "dict" = none) : FnOk P w K mg base CX0 1 f fd ["_law_body", "_law_wide"] spNFieldX := by
  refine F.ok scNFd (fun vs H Q E h => ?_) (fun cdv A outer s H vs Q E hr h => ?_)
  · obtain ⟨t, L, wd, rfl, _⟩ := h
    rfl
  · obtain ⟨t, L, wd, rfl, w1, w5, ct, nL, neL, lL, inL, k⟩ := h
    have hu := hu_of hr
    have h64 := room64 hr
    refine ⟨_, PSs.nox (pss_cons (ps_par3 (i := 2) (j := 3) (l := 4) (by rfl) scNFd.nd rfl rfl rfl (by decide) (by decide) (by decide) rfl rfl rfl (pa_cons (pe_lc (own := [("_law_cell", 5)]) (g := gName 5) (tt := tYes) rfl scNFd.nd (pi_tup (pv 0)) (blkOk_by (N := nfdN) (sc := defScope nField) (by decide +kernel)) (fun _ _ _ _ _ => pg_name (i := 5) scNFd.nd rfl (Or.inl rfl)) (fun _ _ _ _ _ => pts_nil) (fun _ _ _ _ _ => (pe_ix (ix_tupK (K := K) rfl) (pv 5) pe_int (fun _ _ => rfl)))) (pa_cons (pe_lc (own := [("_law_cell", 5)]) (g := gName 5) (tt := tYes) rfl scNFd.nd (pi_tup (pv 0)) (blkOk_by (N := nfdN) (sc := defScope nField) (by decide +kernel)) (fun _ _ _ _ _ => pg_name (i := 5) scNFd.nd rfl (Or.inl rfl)) (fun _ _ _ _ _ => pts_nil) (fun _ _ _ _ _ => (pe_ix (ix_tupK (K := K) rfl) (pv 5) pe_int (fun _ _ => rfl)))) (pa_cons (pe_lst pa_nil) pa_nil))) (by rfl))
      (pss_cons (ps_set (i := 6) scNFd.nd rfl (.inl rfl) (pe_callTy (call_dictT rfl h64) (by rfl) gD (by decide +kernel) (pa_cons (pe_lc (own := [("_law_cell", 5)]) (g := gName 5) (tt := tYes) rfl scNFd.nd (pi_tup (pv 0)) (blkOk_by (N := nfdN) (sc := defScope nField) (by decide +kernel)) (fun _ _ _ _ _ => pg_name (i := 5) scNFd.nd rfl (Or.inl rfl)) (fun _ _ _ _ _ => pts_nil) (fun _ _ _ _ _ => (pe_tup (pa_cons (pv 5) (pa_cons pe_bl pa_nil))))) pa_nil)))
      (pss_cons (ps_for PassesOwn.never rfl (pi_range2 (by rfl) B.range (pa_cons (pe_op op_sub (pe_callB (cr_min (by rfl)) (by rfl) B.min (by decide +kernel) (pa_cons (pv 2) pa_nil)) (pv 1)) (pa_cons (pe_op op_add (pe_op op_add (pe_callB (cr_max (by rfl)) (by rfl) B.max (by decide +kernel) (pa_cons (pv 2) pa_nil)) (pv 1)) pe_int) pa_nil))) (pg_name (i := 7) scNFd.nd rfl (.inl rfl))
      (pss_one (ps_for PassesOwn.never rfl (pi_range2 (by rfl) B.range (pa_cons (pe_op op_sub (pe_callB (cr_min (by rfl)) (by rfl) B.min (by decide +kernel) (pa_cons (pv 3) pa_nil)) (pv 1)) (pa_cons (pe_op op_add (pe_op op_add (pe_callB (cr_max (by rfl)) (by rfl) B.max (by decide +kernel) (pa_cons (pv 3) pa_nil)) (pv 1)) pe_int) pa_nil))) (pg_name (i := 8) scNFd.nd rfl (.inl rfl))
        (pss_one (ps_if (pt_cmp (pc_dnotin hu (pe_tup (pa_cons (pv 7) (pa_cons (pv 8) pa_nil))) (pv 6)))
          (pss_one (ps_expr (pe_bm PySem.F.plainAttrs_list PySem.F.slot_list_append PySem.F.type_list_append mt_append (pv 4) (pa_cons (pe_tup (pa_cons (pv 7) (pa_cons (pv 8) pa_nil))) pa_nil))))
          pss_nil)))))
      (pss_one (ps_ret (pv 4)))))), ?_⟩
    obtain ⟨qs, et, pq⟩ := id ct
    have lqs : qs.length = L.length := Paired.length pq
    refine ⟨_, rfl, t, rfl, ⟨_, SqT.of et⟩, fun c1 hc1 => ?_⟩
    have Sc1 : Same H H := same_refl
    refine lc_it (walk_tup (K := K) (a := t) (xs := qs.map V.ref)) (fun i G => Same H G ∧ G c1 = some (.lst (((L.take i).map fun c => c.1).map V.int))) ⟨same_new hc1, upd_same⟩ (fun i G _ p => SqT.of (p.1 _ _ et)) ?_ ?_
    · rintro i x G G' hi ⟨sm, gD⟩ ⟨rfl, hx⟩
      rw [List.getElem?_map] at hx
      obtain ⟨q, hq, rfl⟩ := Option.map_eq_some_iff.mp hx
      obtain ⟨c, hc, ac⟩ := paired_get pq hq
      have li : i < L.length := (List.getElem?_eq_some_iff.mp hc).1
      refine ⟨rfl, yesT ⟨_, rfl, _, _, _, _, rfl, rfl, SqT.of (sm _ _ (Sc1 _ _ ac)), at0, _, gD, by rw [List.length_map, List.length_map, List.length_take, sizeLine_eq]; omega, same_put sm hc1, ?_⟩⟩
      rw [upd_same, take_snoc hc, List.map_append, List.map_append]
      rfl
    rintro G1 ⟨s1, e1⟩
    rw [List.length_map, lqs, List.take_length] at e1
    refine ⟨_, rfl, t, rfl, ⟨_, SqT.of (s1 _ _ et)⟩, fun c2 hc2 => ?_⟩
    have Sc2 : Same H G1 := s1
    refine lc_it (walk_tup (K := K) (a := t) (xs := qs.map V.ref)) (fun i G => Same G1 G ∧ G c2 = some (.lst (((L.take i).map fun c => c.2).map V.int))) ⟨same_new hc2, upd_same⟩ (fun i G _ p => SqT.of (p.1 _ _ (s1 _ _ et))) ?_ ?_
    · rintro i x G G' hi ⟨sm, gD⟩ ⟨rfl, hx⟩
      rw [List.getElem?_map] at hx
      obtain ⟨q, hq, rfl⟩ := Option.map_eq_some_iff.mp hx
      obtain ⟨c, hc, ac⟩ := paired_get pq hq
      have li : i < L.length := (List.getElem?_eq_some_iff.mp hc).1
      refine ⟨rfl, yesT ⟨_, rfl, _, _, _, _, rfl, rfl, SqT.of (sm _ _ (Sc2 _ _ ac)), at1, _, gD, by rw [List.length_map, List.length_map, List.length_take, sizeLine_eq]; omega, same_put sm hc2, ?_⟩⟩
      rw [upd_same, take_snoc hc, List.map_append, List.map_append]
      rfl
    rintro G2 ⟨s2, e2⟩
    rw [List.length_map, lqs, List.take_length] at e2
    have e1 := s2 _ _ e1
    have s02 := s1.trans s2
    refine ⟨Nat.zero_le _, fun fo hfo => ⟨_, _, _, rfl, ?_⟩⟩
    have s3 := same_new (o := HO.lst []) hfo
    have efo := upd_same (H := G2) (a := fo) (o := HO.lst [])
    have e1 := s3 _ _ e1
    have e2 := s3 _ _ e2
    have s03 := s02.trans s3
    have hfoH : H fo = none := s02.free hfo
    generalize upd G2 fo (.lst []) = G3 at s3 efo e1 e2 s03
    refine ⟨_, rfl, t, rfl, ⟨_, SqT.of (s03 _ _ et)⟩, fun D hD => ?_⟩
    refine w_ofR (walk_tup (K := K) (a := t) (xs := qs.map V.ref)) (fun n G => Same G3 G ∧ ∃ rs : List Addr, G D = some (.lst (rs.map V.ref)) ∧ rs.length = n ∧ Paired (fun r c => ∃ q, G r = some (.tup [.ref q, .bl true]) ∧ At G q c) rs (L.take n)) ⟨same_new hD, [], upd_same, rfl, .nil⟩ (fun n G _ p => SqT.of (p.1 _ _ (s03 _ _ et))) ?_ ?_
    · rintro n x G G' hn ⟨sm, rs, gD, lrs, pr⟩ ⟨rfl, hx⟩
      rw [List.getElem?_map] at hx
      obtain ⟨q, hq, rfl⟩ := Option.map_eq_some_iff.mp hx
      obtain ⟨c, hc, ac⟩ := paired_get pq hq
      have hcl := (List.getElem?_eq_some_iff.mp hc).1
      refine ⟨rfl, yesT ⟨_, rfl, two_le, fun u hu1 => ?_⟩⟩
      have s1 := same_new (o := HO.tup [.ref q, .bl true]) hu1
      have gD1 := s1 _ _ gD
      have tu := upd_tu (o' := .lst (rs.map V.ref ++ [V.ref u])) gD1 (by intro xs z; cases z)
      refine ⟨_, gD1, by rw [List.length_map, sizeLine_eq]; omega, same_put (sm.trans s1) hD, rs ++ [u], by rw [upd_same, List.map_append]; rfl, by rw [List.length_append, lrs]; rfl, ?_⟩
      rw [take_snoc hc]
      refine (paired_imp (fun r d h => ?_) pr).snoc ⟨q, tu _ _ upd_same, tu _ _ (s1 _ _ (sm _ _ (s03 _ _ ac)))⟩
      obtain ⟨z, e1, e2⟩ := h
      exact ⟨z, tu _ _ (s1 _ _ e1), tu _ _ (s1 _ _ e2)⟩
    rintro G ⟨sm, rs, gD1, lrs, pr⟩
    rw [List.length_map, lqs, List.take_length] at pr
    refine ⟨D, rs, lotK L, rfl, SqL.of gD1, dict_true (D := D) pr, lotK_keys L nL, fun ld hld => ?_⟩
    have s4 := same_new (o := .dT (lotK L)) hld
    have eld := upd_same (H := G) (a := ld) (o := .dT (lotK L))
    have s34 := sm.trans s4
    have efo := s34 _ _ efo
    have e1 := s34 _ _ e1
    have e2 := s34 _ _ e2
    have s04 := s03.trans s34
    generalize upd G ld (.dT (lotK L)) = G5 at s34 efo e1 e2 s04 eld
    have len1 : 0 < (L.map fun c => c.1).length := by rw [List.length_map]; exact List.length_pos_iff.mpr neL
    have len2 : 0 < (L.map fun c => c.2).length := by rw [List.length_map]; exact List.length_pos_iff.mpr neL
    have in1 : ∀ m ∈ L.map (fun c => c.1), -99 ≤ m ∧ m ≤ 99 := fun m hm => by
      obtain ⟨c, hc, rfl⟩ := List.mem_map.mp hm
      have := inL c hc
      omega
    have in2 : ∀ m ∈ L.map (fun c => c.2), -99 ≤ m ∧ m ≤ 99 := fun m hm => by
      obtain ⟨c, hc, rfl⟩ := List.mem_map.mp hm
      have := inL c hc
      omega
    refine ⟨_, rfl, c1, _, rfl, SqL.of e1, len1, fun m mm ml => ⟨_, rfl, _, _, rfl, rfl, ?_⟩⟩
    refine ⟨_, rfl, c1, _, rfl, SqL.of e1, len1, fun M MM MG => ⟨_, rfl, _, _, rfl, rfl, _, _, rfl, rfl, ?_⟩⟩
    have bm := in1 m mm
    have bM := in1 M MM
    have mM := ml M MM
    refine ⟨_, _, rfl, ⟨by omega, by omega, by omega, by omega⟩, ?_⟩
    obtain ⟨r0, r0m, r0l⟩ := min_of len2
    obtain ⟨R0, R0m, R0g⟩ := max_of len2
    have bx1 : ∀ c ∈ L, m ≤ c.1 ∧ c.1 ≤ M := fun c hc => ⟨ml _ (List.mem_map.mpr ⟨c, hc, rfl⟩), MG _ (List.mem_map.mpr ⟨c, hc, rfl⟩)⟩
    have bx2 : ∀ c ∈ L, r0 ≤ c.2 ∧ c.2 ≤ R0 := fun c hc => ⟨r0l _ (List.mem_map.mpr ⟨c, hc, rfl⟩), R0g _ (List.mem_map.mpr ⟨c, hc, rfl⟩)⟩
    have N1e : (((M + (wd : Int) + 1 - (m - (wd : Int))).toNat : Nat) : Int) = M + (wd : Int) + 1 - (m - (wd : Int)) := by omega
    have n1 : (M + (wd : Int) + 1 - (m - (wd : Int))).toNat ≤ 209 := by omega
    have n1p : 1 ≤ (M + (wd : Int) + 1 - (m - (wd : Int))).toNat := by omega
    generalize (M + (wd : Int) + 1 - (m - (wd : Int))).toNat = N1 at n1 n1p N1e
    refine for_range (lo := m - (wd : Int)) (n := N1) (fun i σ G => ∃ (v7 v8 : Option V) (C : List Cell), σ = [some (.ref t), some (.int (wd : Int)), some (.ref c1), some (.ref c2), some (.ref fo), none, some (.ref ld), v7, v8] ∧ Kp [fo] G5 G ∧ CellsL G fo C ∧ C.length ≤ 209 * i ∧ C.Nodup ∧ Asc C ∧ ∀ c, c ∈ C ↔ ((m - (wd : Int) ≤ c.1 ∧ c.1 < m - (wd : Int) + (i : Int)) ∧ (r0 - (wd : Int) ≤ c.2 ∧ c.2 ≤ R0 + (wd : Int))) ∧ c ∉ L) ⟨none, none, [], rfl, fun _ _ _ y => y, ⟨[], efo, .nil⟩, Nat.le_refl _, List.nodup_nil, List.Pairwise.nil, fun c => ⟨fun z => (nomatch z), fun z => by have := z.1.1; omega⟩⟩ ?_ ?_
    · rintro i σ G6 hi ⟨v7, v8, C, rfl, kp, cC, lC, ndC, ascC, memC⟩
      have nfo : ∀ {b : Addr} {o : HO}, G5 b = some o → (∀ xs, o ≠ .lst xs) → G6 b = some o := fun {b o} y no => kp _ _ (fun mm => by
        rw [List.mem_singleton.mp mm, efo] at y
        exact no _ (Option.some.inj y).symm) y
      have fo2 : c2 ≠ fo := fun y => by
        rw [y, efo] at e2
        have h0 := HO.lst.inj (Option.some.inj e2)
        rw [← List.length_map (f := V.int), ← h0] at len2
        exact absurd len2 (by simp)
      have e2' := kp _ _ (fun mm => fo2 (List.mem_singleton.mp mm)) e2
      refine ⟨_, rfl, c2, _, rfl, SqL.of e2', len2, fun r rr rl => ⟨_, rfl, _, _, rfl, rfl, ?_⟩⟩
      refine ⟨_, rfl, c2, _, rfl, SqL.of e2', len2, fun R RR RG => ⟨_, rfl, _, _, rfl, rfl, _, _, rfl, rfl, ?_⟩⟩
      have br := in2 r rr
      have bR := in2 R RR
      have rR := rl R RR
      refine ⟨_, _, rfl, ⟨by omega, by omega, by omega, by omega⟩, ?_⟩
      obtain rfl : r = r0 := Int.le_antisymm (rl _ r0m) (r0l _ rr)
      obtain rfl : R = R0 := Int.le_antisymm (R0g _ RR) (RG _ R0m)
      have N2e : (((R + (wd : Int) + 1 - (r - (wd : Int))).toNat : Nat) : Int) = R + (wd : Int) + 1 - (r - (wd : Int)) := by omega
      have n2 : (R + (wd : Int) + 1 - (r - (wd : Int))).toNat ≤ 209 := by omega
      have n2p : 1 ≤ (R + (wd : Int) + 1 - (r - (wd : Int))).toNat := by omega
      generalize (R + (wd : Int) + 1 - (r - (wd : Int))).toNat = N2 at n2 n2p N2e
      refine for_range (lo := r - (wd : Int)) (n := N2) (fun j σ G => ∃ (v8 : Option V) (C : List Cell), σ = [some (.ref t), some (.int (wd : Int)), some (.ref c1), some (.ref c2), some (.ref fo), none, some (.ref ld), some (.int (m - (wd : Int) + (i : Int))), v8] ∧ Kp [fo] G5 G ∧ CellsL G fo C ∧ C.length ≤ 209 * i + j ∧ C.Nodup ∧ Asc C ∧ ∀ c, c ∈ C ↔ ((((m - (wd : Int) ≤ c.1 ∧ c.1 < m - (wd : Int) + (i : Int)) ∧ (r - (wd : Int) ≤ c.2 ∧ c.2 ≤ R + (wd : Int))) ∨ (c.1 = m - (wd : Int) + (i : Int) ∧ r - (wd : Int) ≤ c.2 ∧ c.2 < r - (wd : Int) + (j : Int))) ∧ c ∉ L)) ⟨v8, C, rfl, kp, cC, lC, ndC, ascC, fun c => by
        rw [memC]
        constructor
        · exact fun z => ⟨.inl z.1, z.2⟩
        · rintro ⟨z | ⟨_, z1, z2⟩, n⟩
          · exact ⟨z, n⟩
          · omega⟩ ?_ ?_
      · rintro j σ G7 hj ⟨v8, C7, rfl, kp7, ⟨us, eu, pu⟩, lC7, nd7, asc7, mem7⟩
        have nfo7 : ∀ {b : Addr} {o : HO}, G5 b = some o → (∀ xs, o ≠ .lst xs) → G7 b = some o := fun {b o} y no => kp7 _ _ (fun mm => by
          rw [List.mem_singleton.mp mm, efo] at y
          exact no _ (Option.some.inj y).symm) y
        refine ⟨_, rfl, _, rfl, two_le, fun u hu1 => ⟨_, rfl, ld, ?_⟩⟩
        have sa := same_new (o := HO.tup [.int (m - (wd : Int) + (i : Int)), .int (r - (wd : Int) + (j : Int))]) hu1
        have au : At (upd G7 u (.tup [.int (m - (wd : Int) + (i : Int)), .int (r - (wd : Int) + (j : Int))])) u (m - (wd : Int) + (i : Int), r - (wd : Int) + (j : Int)) := upd_same
        have eu8 := sa _ _ eu
        have pu8 := paired_imp (fun q c (y : At G7 q c) => (sa _ _ y : At (upd G7 u (.tup [.int (m - (wd : Int) + (i : Int)), .int (r - (wd : Int) + (j : Int))])) q c)) pu
        have el8 := sa _ _ (nfo7 eld fun _ z => nomatch z)
        have kp8 : Kp [fo] G5 (upd G7 u (.tup [.int (m - (wd : Int) + (i : Int)), .int (r - (wd : Int) + (j : Int))])) := fun b o nb y => sa _ _ (kp7 b o nb y)
        generalize upd G7 u (.tup [.int (m - (wd : Int) + (i : Int)), .int (r - (wd : Int) + (j : Int))]) = G8 at au eu8 pu8 el8 kp8
        refine ⟨_, rfl, dget_lot el8 au, _, rfl, ?_⟩
        rw [lot_is]
        have lus : us.length = C7.length := Paired.length pu
        refine ite2 (fun h1 => ?_) (fun h1 => ?_)
        · refine ⟨_, rfl, .inl ⟨rfl, _, SqL.of eu8⟩, _, rfl, _, rfl, two_le, fun v hv => ?_⟩
          have sb := same_new (o := HO.tup [.int (m - (wd : Int) + (i : Int)), .int (r - (wd : Int) + (j : Int))]) hv
          have eu9 := sb _ _ eu8
          refine ⟨fo, _, _, rfl, rfl, eu9, by rw [List.length_map, sizeLine_eq]; omega, ?_⟩
          have tk : Tk (upd G8 v (.tup [.int (m - (wd : Int) + (i : Int)), .int (r - (wd : Int) + (j : Int))])) (upd (upd G8 v (.tup [.int (m - (wd : Int) + (i : Int)), .int (r - (wd : Int) + (j : Int))])) fo (.lst (us.map V.ref ++ [V.ref v]))) := tk_upd eu9 fun _ z => nomatch z
          refine ⟨_, C7 ++ [(m - (wd : Int) + (i : Int), r - (wd : Int) + (j : Int))], rfl, fun b o nb y => ?_, ⟨us ++ [v], by rw [upd_same, List.map_append]; rfl, (paired_imp (fun _ _ y => tk _ _ (sb _ _ y)) pu8).snoc (tk _ _ upd_same)⟩, by rw [List.length_append]; show C7.length + 1 ≤ _; omega, ?_, ?_, ?_⟩
          rotate_left
          · refine nodup_snoc nd7 fun y => ?_
            rcases (mem7 _).mp y with ⟨z | ⟨_, _, z⟩, _⟩
            · have := z.1.2
              dsimp only at this
              omega
            · dsimp only at z
              omega
          · refine List.pairwise_append.mpr ⟨asc7, List.pairwise_singleton _ _, fun x hx y hy => ?_⟩
            rw [List.mem_singleton.mp hy]
            refine decide_eq_false ?_
            rcases (mem7 _).mp hx with ⟨z | ⟨z1, _, z2⟩, _⟩
            · have := z.1.2
              dsimp only
              omega
            · dsimp only
              omega
          · intro x
            have nin : (m - (wd : Int) + (i : Int), r - (wd : Int) + (j : Int)) ∉ L := by simpa using h1
            rw [List.mem_append, List.mem_singleton, mem7]
            constructor
            · rintro (⟨z | ⟨z1, z2, z3⟩, n⟩ | rfl)
              · exact ⟨.inl z, n⟩
              · exact ⟨.inr ⟨z1, z2, by omega⟩, n⟩
              · exact ⟨.inr ⟨rfl, by dsimp only; omega, by dsimp only; omega⟩, nin⟩
            · rintro ⟨z | ⟨z1, z2, z3⟩, n⟩
              · exact .inl ⟨.inl z, n⟩
              · by_cases e : x.2 = r - (wd : Int) + (j : Int)
                · exact .inr (Prod.ext z1 e)
                · exact .inl ⟨.inr ⟨z1, z2, by omega⟩, n⟩
          rw [upd_ne (fun z => nb (by rw [z]; exact List.mem_singleton.mpr rfl))]
          exact sb _ _ (kp8 b o nb y)
        · have hin : (m - (wd : Int) + (i : Int), r - (wd : Int) + (j : Int)) ∈ L := by simpa using h1
          refine ⟨_, C7, rfl, kp8, ⟨us, eu8, pu8⟩, by omega, nd7, asc7, fun x => ?_⟩
          rw [mem7]
          constructor
          · rintro ⟨z | ⟨z1, z2, z3⟩, n⟩
            · exact ⟨.inl z, n⟩
            · exact ⟨.inr ⟨z1, z2, by omega⟩, n⟩
          · rintro ⟨z | ⟨z1, z2, z3⟩, n⟩
            · exact ⟨.inl z, n⟩
            · by_cases e : x.2 = r - (wd : Int) + (j : Int)
              · exact absurd (by rw [show x = (m - (wd : Int) + (i : Int), r - (wd : Int) + (j : Int)) from Prod.ext z1 e]; exact hin) n
              · exact ⟨.inr ⟨z1, z2, by omega⟩, n⟩
      · rintro σ G7 ⟨v8, C7, rfl, kp7, cC7, lC7, nd7, asc7, mem7⟩
        refine ⟨_, _, C7, rfl, kp7, cC7, by omega, nd7, asc7, fun x => ?_⟩
        rw [mem7]
        constructor
        · rintro ⟨⟨⟨z1, z2⟩, z3⟩ | ⟨z1, z2, z3⟩, n⟩
          · exact ⟨⟨⟨z1, by omega⟩, z3⟩, n⟩
          · exact ⟨⟨⟨by omega, by omega⟩, by omega, by omega⟩, n⟩
        · rintro ⟨⟨⟨z1, z2⟩, z3, z4⟩, n⟩
          by_cases e : x.1 = m - (wd : Int) + (i : Int)
          · exact ⟨.inr ⟨e, z3, by omega⟩, n⟩
          · exact ⟨.inl ⟨⟨z1, by omega⟩, z3, z4⟩, n⟩
    · rintro σ G6 ⟨v7, v8, C, rfl, kp, cC, lC, ndC, ascC, memC⟩
      obtain ⟨cr, hcr, ecr⟩ := List.mem_map.mp r0m
      obtain ⟨cR, hcR, ecR⟩ := List.mem_map.mp R0m
      obtain ⟨cm, hcm, ecm⟩ := List.mem_map.mp mm
      obtain ⟨cM, hcM, ecM⟩ := List.mem_map.mp MM
      refine ⟨_, rfl, k fo G6 C m M r0 R0 (fun b o y => kp _ _ (fun mm => by rw [List.mem_singleton.mp mm, hfoH] at y; cases y) (s04 _ _ y)) hfoH cC ⟨fun c hc => ⟨bx1 c hc, bx2 c hc⟩, ⟨cm, hcm, ecm⟩, ⟨cM, hcM, ecM⟩, ⟨cr, hcr, ecr⟩, ⟨cR, hcR, ecR⟩, ndC, ascC, fun c => ?_⟩ (by omega)⟩
      rw [memC]
      constructor
      · rintro ⟨⟨⟨z1, z2⟩, z3⟩, n⟩
        exact ⟨⟨⟨z1, by omega⟩, z3⟩, n⟩
      · rintro ⟨⟨⟨z1, z2⟩, z3⟩, n⟩
        exact ⟨⟨⟨z1, by omega⟩, z3⟩, n⟩
end
end Sq

set_option Elab.async false
set_option linter.all false
set_option maxRecDepth 100000
set_option maxHeartbeats 8000000
/-! The law: lots by painting, told exactly. -/
namespace Sq
open PySem PySem.Spec PyProof.Rows L2
/-- the paint of a cell -/
def pntC (T : Pnt) (x : Cell) : Cell := ((T.find? fun p => decide (p.1 = x)).map fun p => p.2.2).getD (0, 0)
theorem pntC_of {T : Pnt} (nd : (cellsP T).Nodup) {p : Cell × Addr × Cell} (h : p ∈ T) : pntC T p.1 = p.2.2 := by
  unfold pntC
  cases e : T.find? fun r => decide (r.1 = p.1) with
  | none =>
    have := List.find?_eq_none.mp e p h
    simp at this
  | some r =>
    have h1 : r.1 = p.1 := by simpa using List.find?_some e
    rw [inj_of_nodup (f := fun p : Cell × Addr × Cell => p.1) nd (List.mem_of_find?_eq_some e) h h1]
    rfl
theorem PntOk.closed {L : List Cell} {T : Pnt} (h : PntOk L T) {x c : Cell} (hx : x ∈ cellsP T) (r : Reach L x c) : c ∈ cellsP T := by
  induction r with
  | refl => exact hx
  | step _ hb hc ih =>
    obtain ⟨p, hp, e⟩ := List.mem_map.mp ih
    have e : p.1 = _ := e
    exact h.cl p hp _ (by rw [e]; exact hb) hc
/-- the lots of L: S its cells in order, firsts the least cells of the lots in order -/
structure LotsIs (L S firsts : List Cell) (T : Pnt) : Prop where
  pm : S.Perm L
  asc : Asc S
  fn : firsts.Nodup
  fa : Asc firsts
  fm : ∀ m, m ∈ firsts ↔ ∃ p ∈ T, p.1 ∈ L ∧ p.2.2 = m
def spNLotsX : Sp := fun vs H Q _ => ∃ (a : Addr) (L : List Cell), vs = [.ref a] ∧ CellsL H a L ∧ L.Nodup ∧ L ≠ [] ∧ L.length ≤ 90000 ∧ ∀ r H' rs S firsts T, Same H H' → H' r = some (.lst (rs.map V.ref)) → LotsIs L S firsts T → PntOk L T → (∀ x ∈ L, x ∈ cellsP T) → (∀ p ∈ T, ∀ x ∈ L, Reach L p.2.2 x → cLt x p.2.2 = false) →
  Paired (fun b m => CellsL H' b (S.filter fun x => decide (pntC T x = m))) rs firsts → Q (.ref r) H'
section
variable {P : Program} {w : World} {K : PySem.W.Frag} {mg : Str → Option Value} {base : Heap}
variable {f : Addr} {cdv : Value} {A : Around} {outer : List Env} {s : Shared} {H0 : Hp} {E : XK}
/-- from the found lots on -/
theorem nlx_tail (hr : Room 1 (cxOf CX0 P w K mg base nlN "_law_nb_lots" (defScope nLots) f cdv A outer s H0 E).nox.A) (B : Bl mg) :
    ∃ t, PSs (cxOf CX0 P w K mg base nlN "_law_nb_lots" (defScope nLots) f cdv A outer s H0 E).nox ((defBody nLots).drop 2) t ∧
      ∀ (D : Ends) (G : Hp) (a pd : Addr) (T : Pnt) (L : List Cell) (v2 v3 v4 v5 v6 v7 : Option V), CellsL G a L → L.length ≤ 90000 → G pd = some (.dT (pnK T)) → PntOk L T → (∀ x ∈ L, x ∈ cellsP T) → (∀ p ∈ T, At G p.2.1 p.2.2) → (∀ r H' rs S firsts, Same G H' → H' r = some (.lst (rs.map V.ref)) → LotsIs L S firsts T → Paired (fun b m => CellsL H' b (S.filter fun x => decide (pntC T x = m))) rs firsts → D.rt (.ref r) H') →
        t D [some (.ref a), some (.ref pd), v2, v3, v4, v5, v6, v7] G := by
  have hu := hu_of hr
  refine ⟨_, (pss_cons (ps_set (i := 6) scNLo.nd rfl (.inr rfl) pe_dnewT)
      (pss_cons (ps_for PassesOwn.never rfl (pi_list (pe_callB cr_sortedC (by rfl) B.sorted (by decide +kernel) (pa_cons (pv 0) pa_nil))) (pg_name (i := 3) scNLo.nd rfl (.inl rfl))
      (pss_one (ps_expr (pe_bm PySem.F.plainAttrs_list PySem.F.slot_list_append PySem.F.type_list_append mt_append (pe_setdT hu (pv 6) (pe_dget hu (pv 1) (pv 3) (fun _ _ => rfl)) (pe_lst pa_nil) ⟨rfl, rfl, rfl, rfl⟩) (pa_cons (pv 3) pa_nil)))))
      (pss_one (ps_ret (pe_lc (own := [("_law_first", 7)]) (g := gName 7) (tt := tYes) rfl scNLo.nd (pi_list (pe_callB (cr_sortedDk rfl) (by rfl) B.sorted (by decide +kernel) (pa_cons (pv 6) pa_nil))) (blkOk_by (N := nlN) (sc := defScope nLots) (by decide +kernel)) (fun _ _ _ _ _ => pg_name (i := 7) scNLo.nd rfl (Or.inl rfl)) (fun _ _ _ _ _ => pts_nil) (fun _ _ _ _ _ => (pe_dget hu (pv 6) (pv 7) (fun _ _ => rfl)))))))), ?_⟩
  intro D G a pd T L v2 v3 v4 v5 v6 v7 ⟨qs, ea, pq⟩ lL gp ok cov col k
  intro fd hfd
  have s0 := same_new (o := .dT []) hfd
  have e0 := upd_same (H := G) (a := fd) (o := .dT [])
  have npf : pd ≠ fd := ne_of_none gp hfd
  generalize upd G fd (.dT []) = G1 at s0 e0
  refine ⟨_, rfl, a, qs, L, rfl, SqL.of (s0 _ _ ea), paired_imp (fun _ _ h => s0 _ _ h) pq, fun so ss S prS pmS asc hso => ?_⟩
  have s1 := same_new (o := .lst (ss.map V.ref)) hso
  have eso := upd_same (H := G1) (a := so) (o := .lst (ss.map V.ref))
  have e1 := s1 _ _ e0
  have prS := paired_imp (fun q c (h : At G1 q c) => (s1 _ _ h : At (upd G1 so (.lst (ss.map V.ref))) q c)) prS
  generalize upd G1 so (.lst (ss.map V.ref)) = B0 at s1 eso e1 prS
  have sGB := s0.trans s1
  have gp0 := sGB _ _ gp
  have mS : ∀ x, x ∈ S ↔ x ∈ L := fun x => pmS.mem_iff
  have lS : S.length = L.length := pmS.length_eq
  refine ⟨so, rfl, ⟨_, SqL.of eso⟩, ?_⟩
  refine for_list (K := K) (a := so) (xs := ss.map V.ref) (fun i σ G => ∃ (v3 : Option V) (Fd : List (Cell × Addr)), σ = [some (.ref a), some (.ref pd), v2, v3, v4, v5, some (.ref fd), v7] ∧ Kp [fd] B0 G ∧ G fd = some (.dT (kvG (fun p : Cell × Addr => p.1) (fun p => V.ref p.2) Fd)) ∧ (Fd.map fun p => p.1).Nodup ∧ (∀ m, m ∈ Fd.map (fun p => p.1) ↔ ∃ p ∈ T, p.1 ∈ S.take i ∧ p.2.2 = m) ∧ Fd.length ≤ i ∧ (Fd.map fun p => p.2).Nodup ∧ ∀ p ∈ Fd, B0 p.2 = none ∧ CellsL G p.2 ((S.take i).filter fun x => decide (pntC T x = p.1)))
    ⟨v3, [], rfl, fun b o _ e => e, e1, List.nodup_nil, fun m => by simp, Nat.le_refl _, List.nodup_nil, fun p hp => (nomatch hp)⟩ (fun i σ G _ ⟨_, _, _, kp, _⟩ => SqL.of (kp _ _ (fun m => by rw [List.mem_singleton.mp m, e1] at eso; cases eso) eso)) ?_ ?_
  · rintro i x σ G2 hi ⟨v3, Fd, rfl, kp, gf, nf, mf, lf, na, lst⟩
    rw [List.getElem?_map] at hi
    obtain ⟨q, hq, rfl⟩ := Option.map_eq_some_iff.mp hi
    obtain ⟨c, hc, ac⟩ := paired_get prS hq
    have tk := kp_tk e1 kp
    have ac2 : At G2 q c := tk _ _ ac
    have cS : c ∈ S := List.mem_of_getElem? hc
    have cL : c ∈ L := (mS c).mp cS
    have il : i < L.length := by rw [← lS]; exact (List.getElem?_eq_some_iff.mp hc).1
    obtain ⟨p0, hp0, ep0⟩ := List.mem_map.mp (cov c cL)
    have ep0 : p0.1 = c := ep0
    have gp2 : G2 pd = some (.dT (pnK T)) := kp _ _ (fun m => npf (List.mem_singleton.mp m)) gp0
    have am : At G2 p0.2.1 p0.2.2 := tk _ _ (sGB _ _ (col p0 hp0))
    have val : valV (pnK T) (cK c) = some (.ref p0.2.1) := by rw [← ep0]; exact kv_yes ok.nd hp0
    refine ⟨_, rfl, fd, rfl, .inr ⟨_, .inl gf⟩, _, rfl, _, rfl, pd, .ref p0.2.1, rfl, (by rw [← val]; exact DGet.t gp2 ac2), Nat.zero_le _, fun z hz => ?_⟩
    have s3 := same_new (o := .lst []) hz
    have gf3 := s3 _ _ gf
    have am3 := s3 _ _ am
    have nfz : fd ≠ z := ne_of_none gf hz
    have lk : (kvG (fun p : Cell × Addr => p.1) (fun p => V.ref p.2) Fd).length < sizeLine := by rw [kv_len, sizeLine_eq]; omega
    have mem' : ∀ m, (∃ p ∈ T, p.1 ∈ S.take (i + 1) ∧ p.2.2 = m) ↔ (∃ p ∈ T, p.1 ∈ S.take i ∧ p.2.2 = m) ∨ m = p0.2.2 := fun m => by
      rw [take_snoc hc]
      constructor
      · rintro ⟨p, hp, h1, h2⟩
        rcases List.mem_append.mp h1 with y | y
        · exact .inl ⟨p, hp, y, h2⟩
        · refine .inr ?_
          rw [← h2]
          refine ok.un p hp p0 hp0 ?_
          rw [List.mem_singleton.mp y, ep0]
          exact .refl
      · rintro (⟨p, hp, h1, h2⟩ | h)
        · exact ⟨p, hp, List.mem_append_left _ h1, h2⟩
        · exact ⟨p0, hp0, List.mem_append_right _ (by rw [ep0]; exact List.mem_singleton.mpr rfl), h.symm⟩
    have pc : pntC T c = p0.2.2 := by rw [← ep0]; exact pntC_of ok.nd hp0
    have ac3 : At (upd G2 z (.lst [])) q c := s3 _ _ ac2
    have flt : ∀ m : Cell, ((S.take (i + 1)).filter fun x => decide (pntC T x = m)) = if p0.2.2 = m then ((S.take i).filter fun x => decide (pntC T x = m)) ++ [c] else ((S.take i).filter fun x => decide (pntC T x = m)) := fun m => by
      rw [take_snoc hc, List.filter_append, List.filter_cons]
      by_cases w : p0.2.2 = m
      · rw [if_pos w, if_pos (decide_eq_true (pc.trans w))]
        rfl
      · rw [if_neg w, if_neg (fun t => w (pc.symm.trans (of_decide_eq_true t)))]
        exact List.append_nil _
    refine ⟨_, cK p0.2.2, p0.2.1, gf3, rfl, am3, lk, fun u hu' => ?_, fun hn => ?_⟩
    · -- the lot is there
      have mF : p0.2.2 ∈ Fd.map (fun p => p.1) := Classical.byContradiction fun n => by rw [kv_no n] at hu'; cases hu'
      obtain ⟨l0, hl0, el0⟩ := List.mem_map.mp mF
      have el0 : l0.1 = p0.2.2 := el0
      rw [← el0, kv_yes (p := l0) nf hl0] at hu'
      obtain rfl := Option.some.inj hu'
      obtain ⟨n0, qs0, exs, pxs⟩ := lst l0 hl0
      have exs3 := s3 _ _ exs
      have lqs0 : qs0.length ≤ i := by
        rw [Paired.length pxs]
        refine Nat.le_trans (List.length_filter_le _ _) ?_
        rw [List.length_take]
        exact Nat.min_le_left _ _
      refine ⟨.inl ⟨rfl, _, SqL.of exs3⟩, _, rfl, l0.2, _, _, rfl, rfl, exs3, by rw [List.length_map, sizeLine_eq]; omega, ?_⟩
      have nfl : fd ≠ l0.2 := fun y => by rw [← y, gf] at exs; cases exs
      refine ⟨_, Fd, rfl, fun b o nb e => ?_, by rw [upd_ne nfl]; exact gf3, nf, fun m => ?_, Nat.le_succ_of_le lf, na, fun p hp => ?_⟩
      · have nbl : b ≠ l0.2 := fun y => by rw [y, n0] at e; cases e
        rw [upd_ne nbl]
        exact s3 _ _ (kp b o nb e)
      · rw [mem', ← mf]
        constructor
        · exact .inl
        · rintro (h | rfl)
          · exact h
          · exact mF
      · obtain ⟨n1, ys, eys, pys⟩ := lst p hp
        refine ⟨n1, ?_⟩
        have tk : Tk G2 (upd (upd G2 z (.lst [])) l0.2 (.lst (qs0.map V.ref ++ [V.ref q]))) := fun b xs e => by
          rw [upd_ne (fun w => by rw [w, exs] at e; cases e)]
          exact s3 _ _ e
        rw [flt]
        by_cases y : p.2 = l0.2
        · obtain rfl := inj_of_nodup (f := fun p : Cell × Addr => p.2) na hp hl0 y
          rw [if_pos el0.symm]
          exact ⟨qs0 ++ [q], by rw [upd_same, List.map_append]; rfl, (paired_imp (fun _ _ w => tk _ _ w) pxs).snoc (tk _ _ ac2)⟩
        · rw [if_neg (fun w => y (by rw [inj_of_nodup (f := fun p : Cell × Addr => p.1) nf hp hl0 (w.symm.trans el0.symm)]))]
          exact ⟨ys, by rw [upd_ne y]; exact s3 _ _ eys, paired_imp (fun _ _ w => tk _ _ w) pys⟩
    · -- a new lot
      have mF : p0.2.2 ∉ Fd.map (fun p => p.1) := fun m => by
        obtain ⟨l0, hl0, el0⟩ := List.mem_map.mp m
        have el0 : l0.1 = p0.2.2 := el0
        rw [← el0, kv_yes (p := l0) nf hl0] at hn
        cases hn
      have ez : upd G2 z (.lst []) z = some (.lst []) := upd_same
      have put : putK (kvG (fun p : Cell × Addr => p.1) (fun p => V.ref p.2) Fd) (cK p0.2.2) (.ref z) = kvG (fun p : Cell × Addr => p.1) (fun p => V.ref p.2) (Fd ++ [(p0.2.2, z)]) := kv_put (p := ((p0.2.2, z) : Cell × Addr)) mF
      rw [put]
      have ez' : upd (upd G2 z (.lst [])) fd (.dT (kvG (fun p : Cell × Addr => p.1) (fun p => V.ref p.2) (Fd ++ [(p0.2.2, z)]))) z = some (.lst []) := by rw [upd_ne nfz.symm]; exact ez
      refine ⟨.inl ⟨rfl, _, SqL.of ez'⟩, _, rfl, z, [], _, rfl, rfl, ez', by show 0 < sizeLine; rw [sizeLine_eq]; decide, ?_⟩
      have zB : B0 z = none := by
        cases y : B0 z with
        | none => rfl
        | some o =>
          have := kp z o (fun m => nfz (List.mem_singleton.mp m).symm) y
          rw [hz] at this
          cases this
      refine ⟨_, Fd ++ [(p0.2.2, z)], rfl, fun b o nb e => ?_, by rw [upd_ne nfz, upd_same], ?_, fun m => ?_, by rw [List.length_append]; exact Nat.succ_le_succ lf, ?_, fun p hp => ?_⟩
      · have nbz : b ≠ z := fun y => by rw [y, zB] at e; cases e
        have nbf : b ≠ fd := fun y => nb (List.mem_singleton.mpr y)
        rw [upd_ne nbz, upd_ne nbf]
        exact s3 _ _ (kp b o nb e)
      · rw [List.map_append]
        exact nodup_snoc nf mF
      · rw [mem', ← mf, List.map_append, List.mem_append]
        show _ ∨ m ∈ [p0.2.2] ↔ _
        rw [List.mem_singleton]
      · rw [List.map_append]
        refine List.nodup_append.mpr ⟨na, List.pairwise_singleton _ _, fun x hx y hy w => ?_⟩
        obtain ⟨p, hp, rfl⟩ := List.mem_map.mp hx
        obtain ⟨_, _, e, _⟩ := lst p hp
        rw [w, List.mem_singleton.mp hy, hz] at e
        cases e
      · have tk : Tk G2 (upd (upd (upd G2 z (.lst [])) fd (.dT (kvG (fun p : Cell × Addr => p.1) (fun p => V.ref p.2) (Fd ++ [(p0.2.2, z)])))) z (.lst ([] ++ [V.ref q]))) := fun b xs e => by
          rw [upd_ne (fun w => by rw [w, hz] at e; cases e), upd_ne (fun w => by rw [w, gf] at e; cases e)]
          exact s3 _ _ e
        rcases List.mem_append.mp hp with y | y
        · obtain ⟨n1, ys, eys, pys⟩ := lst p y
          have npz : p.2 ≠ z := ne_of_none eys hz
          have npf' : p.2 ≠ fd := fun w => by rw [w, gf] at eys; cases eys
          refine ⟨n1, ys, by rw [upd_ne npz, upd_ne npf']; exact s3 _ _ eys, ?_⟩
          rw [flt, if_neg (fun w => mF (by rw [w]; exact List.mem_map.mpr ⟨p, y, rfl⟩))]
          exact paired_imp (fun _ _ w => tk _ _ w) pys
        · rw [List.mem_singleton.mp y]
          have nil : ((S.take i).filter fun x => decide (pntC T x = p0.2.2)) = [] := List.filter_eq_nil_iff.mpr fun x hx w => by
            have w := of_decide_eq_true w
            have hxL : x ∈ L := (mS x).mp (List.mem_of_mem_take hx)
            obtain ⟨px, hpx, epx⟩ := List.mem_map.mp (cov x hxL)
            have epx : px.1 = x := epx
            refine mF ((mf _).mpr ⟨px, hpx, by rw [epx]; exact hx, ?_⟩)
            rw [← pntC_of ok.nd hpx, epx]
            exact w
          refine ⟨zB, [q], upd_same, ?_⟩
          show Paired _ [q] ((S.take (i + 1)).filter fun x => decide (pntC T x = p0.2.2))
          rw [flt, if_pos rfl, nil]
          exact .cons (tk _ _ ac2) .nil
  · rintro σ G2 ⟨v3, Fd, rfl, kp, gf, nf, mf, lf, na, lst⟩
    have el : (ss.map V.ref).length = S.length := by rw [List.length_map, Paired.length prS]
    rw [el, List.take_length] at mf
    rw [el] at lf
    rw [el, List.take_length] at lst
    have sG2 : Same G G2 := kp_same hfd sGB kp
    refine ⟨_, rfl, fd, _, Fd.map (fun p => p.1), rfl, gf, kv_keys, fun p qs' cs' prq pm asc' hp => ?_⟩
    have s4 := same_new (o := .lst (qs'.map V.ref)) hp
    have e4 := upd_same (H := G2) (a := p) (o := .lst (qs'.map V.ref))
    have prq := paired_imp (fun q c (h : At G2 q c) => (s4 _ _ h : At (upd G2 p (.lst (qs'.map V.ref))) q c)) prq
    have gf4 := s4 _ _ gf
    generalize upd G2 p (.lst (qs'.map V.ref)) = G4 at s4 e4 prq gf4
    have lqs : qs'.length = Fd.length := by rw [Paired.length prq, pm.length_eq, List.length_map]
    refine ⟨p, rfl, ⟨_, SqL.of e4⟩, fun D' hD' => ?_⟩
    have el2 : (S.take S.length) = S := List.take_length
    refine lc_it (walk_list (K := K) (a := p) (xs := qs'.map V.ref)) (fun i G => Same G4 G ∧ ∃ rs : List Addr, G D' = some (.lst (rs.map V.ref)) ∧ rs.length = i ∧ Paired (fun b m => CellsL G4 b (S.filter fun x => decide (pntC T x = m))) rs (cs'.take i)) ⟨same_new hD', [], upd_same, rfl, .nil⟩ (fun i G _ p => SqL.of (p.1 _ _ e4)) ?_ ?_
    · rintro i x G5 G6 hi ⟨sm, rs, eD, lx, prr⟩ ⟨rfl, hx⟩
      rw [List.getElem?_map] at hx
      obtain ⟨b, hb, rfl⟩ := Option.map_eq_some_iff.mp hx
      obtain ⟨c, hc, ac⟩ := paired_get prq hb
      have ac : At G6 b c := sm _ _ ac
      have cF : c ∈ Fd.map (fun p => p.1) := pm.mem_iff.mp (List.mem_of_getElem? hc)
      obtain ⟨l0, hl0, rfl⟩ := List.mem_map.mp cF
      have val := kv_yes (k := fun p : Cell × Addr => p.1) (v := fun p => V.ref p.2) nf hl0
      have lq : i < qs'.length := by rw [List.length_map] at hi; exact hi
      refine ⟨rfl, yesT ⟨_, rfl, _, rfl, fd, .ref l0.2, rfl, (by rw [← val]; exact DGet.t (sm _ _ gf4) ac), _, eD, by rw [List.length_map, sizeLine_eq]; omega, same_put sm hD', rs ++ [l0.2], by rw [upd_same, List.map_append]; rfl, by rw [List.length_append, lx]; rfl, ?_⟩⟩
      rw [take_snoc hc]
      exact prr.snoc ((lst l0 hl0).2.ek (.of s4))
    · rintro G5 ⟨sm, rs, eD, lx, prr⟩
      rw [List.length_map, Paired.length prq, List.take_length] at prr
      refine k D' G5 rs S cs' ((sG2.trans s4).trans sm) eD ⟨pmS, asc, pm.nodup_iff.mpr nf, asc', fun m => ?_⟩ (paired_imp (fun _ _ h => h.ek (.of sm)) prr)
      rw [pm.mem_iff, mf]
      constructor
      · rintro ⟨p, hp, h1, h2⟩
        exact ⟨p, hp, (mS _).mp h1, h2⟩
      · rintro ⟨p, hp, h1, h2⟩
        exact ⟨p, hp, (mS _).mpr h1, h2⟩
theorem ok_nLotsX {fd : FuncData} (F : FnP K "_law_nb_lots" nLots f fd) (B : Bl mg) (gD : mg "dict" = none) (DB : Df P w K mg base CX0 1 "_law_nb_beside" ["_law_cell"] spNBeside) : FnOk P w K mg base CX0 2 f fd ["_law_cells"] spNLotsX := by
  refine F.ok scNLo (fun vs H Q E h => ?_) (fun cdv A outer s H vs Q E hr h => ?_)
  · obtain ⟨a, L, rfl, _⟩ := h
    rfl
  · obtain ⟨a, L, rfl, ca, nL, neL, lL, k⟩ := h
    have hu := hu_of hr
    have h64 := room64 hr
    have one_le : (1 : Nat) ≤ sizeLine := by rw [sizeLine_eq]; decide
    obtain ⟨tl, htl, key⟩ := nlx_tail (P := P) (w := w) (K := K) (mg := mg) (base := base) (f := f) (cdv := cdv) (A := A) (outer := outer) (s := s) (H0 := H) (E := E) hr B
    refine ⟨_, PSs.nox (pss_cons (ps_par (i := 1) (j := 2) (by rfl) scNLo.nd rfl rfl (by decide) rfl rfl (pa_cons pe_dnewT (pa_cons (pe_callTy (call_dictT rfl h64) (by rfl) gD (by decide +kernel) (pa_cons (pe_lc (own := [("_law_cell", 3)]) (g := gName 3) (tt := tYes) rfl scNLo.nd (pi_list (pv 0)) (blkOk_by (N := nlN) (sc := defScope nLots) (by decide +kernel)) (fun _ _ _ _ _ => pg_name (i := 3) scNLo.nd rfl (Or.inl rfl)) (fun _ _ _ _ _ => pts_nil) (fun _ _ _ _ _ => (pe_tup (pa_cons (pv 3) (pa_cons pe_bl pa_nil))))) pa_nil)) pa_nil)) (by rfl))
      (pss_cons (ps_for PassesOwn.never rfl (pi_list (pe_callB cr_sortedC (by rfl) B.sorted (by decide +kernel) (pa_cons (pv 0) pa_nil))) (pg_name (i := 3) scNLo.nd rfl (.inl rfl))
      (pss_cons (ps_if (pt_cmp (pc_din hu (pv 3) (pv 1)))
        (pss_one ps_continue)
        pss_nil)
        (pss_cons (ps_asg (pe_tup (pa_cons (pv 3) (pa_cons (pe_lst (pa_cons (pv 3) pa_nil)) pa_nil))) (pg_tup (by rfl) (pgs_cons (pg_sub (pv 1) (pv 3) (set_dict hu)) (pgs_cons (pg_name (i := 4) scNLo.nd rfl (.inl rfl)) pgs_nil))))
        (pss_one (ps_while PassesOwn.never (pt_cmpR (op_neK (K := K) rfl h64) (pv 4) (pe_lst pa_nil) (nomark _))
        (pss_one (ps_for PassesOwn.never rfl (pi_list (pe_df DB hr (by rfl) pass0 (pa_cons (pe_bm0 PySem.F.plainAttrs_list PySem.F.slot_list_pop PySem.F.type_list_pop mt_pop (pv 4)) pa_nil))) (pg_name (i := 5) scNLo.nd rfl (.inl rfl))
          (pss_one (ps_if (PW.pt (pw_and (pt_cmp (pc_din hu (pv 5) (pv 2))) (pw_and1 (pt_cmp (pc_dnotin hu (pv 5) (pv 1))))))
            (pss_cons (ps_dput hu (pv 1) (pv 5) (pv 3) rfl)
            (pss_one (ps_expr (pe_bm PySem.F.plainAttrs_list PySem.F.slot_list_append PySem.F.type_list_append mt_append (pv 4) (pa_cons (pv 5) pa_nil)))))
            pss_nil)))))))))
      htl)), ?_⟩
    obtain ⟨qs, ea, pq⟩ := id ca
    have lqs : qs.length = L.length := Paired.length pq
    intro pd hpd
    have s0 := same_new (o := .dT []) hpd
    have e0 := upd_same (H := H) (a := pd) (o := .dT [])
    generalize upd H pd (.dT []) = H1 at s0 e0
    refine ⟨_, rfl, a, rfl, ⟨_, SqL.of (s0 _ _ ea)⟩, fun D hD => ?_⟩
    refine w_ofR (walk_list (K := K) (a := a) (xs := qs.map V.ref)) (fun n G => Same H1 G ∧ ∃ rs : List Addr, G D = some (.lst (rs.map V.ref)) ∧ rs.length = n ∧ Paired (fun r c => ∃ q, G r = some (.tup [.ref q, .bl true]) ∧ At G q c) rs (L.take n)) ⟨same_new hD, [], upd_same, rfl, .nil⟩ (fun n G _ p => SqL.of (p.1 _ _ (s0 _ _ ea))) ?_ ?_
    · rintro n x G G' hn ⟨sm, rs, gD, lrs, pr⟩ ⟨rfl, hx⟩
      rw [List.getElem?_map] at hx
      obtain ⟨q, hq, rfl⟩ := Option.map_eq_some_iff.mp hx
      obtain ⟨c, hc, ac⟩ := paired_get pq hq
      have hcl := (List.getElem?_eq_some_iff.mp hc).1
      refine ⟨rfl, yesT ⟨_, rfl, two_le, fun t ht => ?_⟩⟩
      have s1 := same_new (o := .tup [.ref q, .bl true]) ht
      have gD1 := s1 _ _ gD
      have tu := upd_tu (o' := .lst (rs.map V.ref ++ [V.ref t])) gD1 (by intro xs z; cases z)
      refine ⟨_, gD1, by rw [List.length_map, sizeLine_eq]; omega, same_put (sm.trans s1) hD, rs ++ [t], by rw [upd_same, List.map_append]; rfl, by rw [List.length_append, lrs]; rfl, ?_⟩
      rw [take_snoc hc]
      refine (paired_imp (fun r d h => ?_) pr).snoc ⟨q, tu _ _ upd_same, tu _ _ (s1 _ _ (sm _ _ (s0 _ _ ac)))⟩
      obtain ⟨z, e1, e2⟩ := h
      exact ⟨z, tu _ _ (s1 _ _ e1), tu _ _ (s1 _ _ e2)⟩
    rintro G ⟨sm, rs, gD, lrs, pr⟩
    rw [List.length_map, lqs, List.take_length] at pr
    refine ⟨D, rs, lotK L, rfl, SqL.of gD, dict_true (D := D) pr, lotK_keys L nL, fun ld hld => ?_⟩
    have s1 := same_new (o := .dT (lotK L)) hld
    have eld := upd_same (H := G) (a := ld) (o := .dT (lotK L))
    have epd := s1 _ _ (sm _ _ e0)
    have s2 := (s0.trans sm).trans s1
    generalize upd G ld (.dT (lotK L)) = G1 at s1 eld epd s2
    clear sm gD pr hD s0 s1 e0 hld
    refine ⟨_, _, rfl, ?_⟩
    have s4 := s2
    generalize G1 = G2 at s4 eld epd
    refine ⟨_, rfl, a, qs, L, rfl, SqL.of (s4 _ _ ea), paired_imp (fun _ _ h => s4 _ _ h) pq, fun so ss S prS pmS asc hso => ?_⟩
    have s5 := same_new (o := .lst (ss.map V.ref)) hso
    have eso := upd_same (H := G2) (a := so) (o := .lst (ss.map V.ref))
    have eld := s5 _ _ eld
    have epd := s5 _ _ epd
    have prS := paired_imp (fun q c (h : At G2 q c) => (s5 _ _ h : At (upd G2 so (.lst (ss.map V.ref))) q c)) prS
    have sB := s4.trans s5
    generalize upd G2 so (.lst (ss.map V.ref)) = B0 at sB eso eld epd prS
    clear s4 s5 hso
    have mS : ∀ x, x ∈ S ↔ x ∈ L := fun x => pmS.mem_iff
    have lS : S.length = L.length := pmS.length_eq
    have nlp : ld ≠ pd := fun z => by
      rw [z, epd] at eld
      have e := congrArg List.length (HO.dT.inj (Option.some.inj eld))
      rw [lot_len] at e
      exact neL (List.length_eq_zero_iff.mp e.symm)
    have nsp : so ≠ pd := fun z => by rw [z, epd] at eso; cases eso
    have npin : ∀ {b : Addr}, b ≠ pd → b ∉ [pd] := fun h m => h (List.mem_singleton.mp m)
    refine ⟨so, rfl, ⟨_, SqL.of eso⟩, ?_⟩
    refine for_list (K := K) (a := so) (xs := ss.map V.ref) (fun i σ G => ∃ (v3 v4 v5 : Option V) (T : Pnt), σ = [some (.ref a), some (.ref pd), some (.ref ld), v3, v4, v5, none, none] ∧ Kp [pd] B0 G ∧ G pd = some (.dT (pnK T)) ∧ PntOk L T ∧ (∀ x ∈ S.take i, x ∈ cellsP T) ∧ (∀ p ∈ T, At B0 p.2.1 p.2.2) ∧ (∀ x ∈ cellsP T, x ∈ L) ∧ (∀ p ∈ T, ∀ x ∈ L, Reach L p.2.2 x → cLt x p.2.2 = false))
      ⟨none, none, none, [], rfl, fun b o _ e => e, epd, .nil, by simp, fun p hp => (nomatch hp), fun x hx => (nomatch hx), fun p hp => (nomatch hp)⟩ (fun i σ G _ ⟨_, _, _, _, _, kp, _⟩ => SqL.of (kp _ _ (npin nsp) eso)) ?_ ?_
    · rintro i x σ G hi ⟨v3, v4, v5, T, rfl, kp, gp, ok, cov, col, sub, lst⟩
      rw [List.getElem?_map] at hi
      obtain ⟨q, hq, rfl⟩ := Option.map_eq_some_iff.mp hi
      obtain ⟨c, hc, ac⟩ := paired_get prS hq
      have cL : c ∈ L := (mS c).mp (List.mem_of_getElem? hc)
      have ac1 : At G q c := kp_tk epd kp _ _ ac
      refine ⟨_, rfl, _, rfl, pd, _, rfl, dget_c gp ac1, _, rfl, ?_⟩
      rw [kv_is ok.nd]
      refine ite2 (fun hp => ?_) (fun hp => ?_)
      · have m : c ∈ cellsP T := of_decide_eq_true hp
        refine ⟨_, _, _, T, rfl, kp, gp, ok, fun x hx => ?_, col, sub, lst⟩
        rw [take_snoc hc] at hx
        rcases List.mem_append.mp hx with y | y
        · exact cov x y
        · rw [List.mem_singleton.mp y]
          exact m
      have nc : c ∉ cellsP T := fun m => hp (decide_eq_true m)
      have lT : T.length ≤ L.length := by
        have := len_le ok.nd sub
        rwa [List.length_map] at this
      refine ⟨_, rfl, _, rfl, one_le, fun wl hwl => ⟨two_le, fun t ht => ?_⟩⟩
      have s6 := same_new (o := .lst [.ref q]) hwl
      have s7 := same_new (o := .tup [.ref q, .ref wl]) ht
      have gp7 := s7 _ _ (s6 _ _ gp)
      have ac7 : At _ q c := s7 _ _ (s6 _ _ ac1)
      have nwp : wl ≠ pd := fun z => by rw [z, gp] at hwl; cases hwl
      have wB : B0 wl = none := by
        cases y : B0 wl with
        | none => rfl
        | some o =>
          have := kp wl o (npin nwp) y
          rw [hwl] at this
          cases this
      have put : putK (pnK T) (cK c) (.ref q) = pnK (T ++ [(c, q, c)]) := kv_put (p := ((c, q, c) : Cell × Addr × Cell)) nc
      have dp := dput_c (v := .ref q) gp7 ac7 (by rw [kv_len, sizeLine_eq]; omega)
      rw [put] at dp
      refine ⟨t, _, rfl, SqT.of upd_same, rfl, _, _, rfl, _, rfl, _, rfl, pd, _, rfl, dp, _, _, rfl, rfl, ?_⟩
      have ewl : upd (upd (upd G wl (.lst [.ref q])) t (.tup [.ref q, .ref wl])) pd (.dT (pnK (T ++ [(c, q, c)]))) wl = some (.lst [.ref q]) := by
        rw [upd_ne nwp]
        exact s7 _ _ upd_same
      have kp8 : Kp [pd] B0 (upd (upd (upd G wl (.lst [.ref q])) t (.tup [.ref q, .ref wl])) pd (.dT (pnK (T ++ [(c, q, c)])))) := fun b o nb e => by
        rw [upd_ne fun z => nb (List.mem_singleton.mpr z)]
        exact s7 _ _ (s6 _ _ (kp b o nb e))
      have gp8 := upd_same (H := upd (upd G wl (.lst [.ref q])) t (.tup [.ref q, .ref wl])) (a := pd) (o := .dT (pnK (T ++ [(c, q, c)])))
      have ac8 : At (upd (upd (upd G wl (.lst [.ref q])) t (.tup [.ref q, .ref wl])) pd (.dT (pnK (T ++ [(c, q, c)])))) q c := kp_tk epd kp8 _ _ ac
      generalize upd (upd (upd G wl (.lst [.ref q])) t (.tup [.ref q, .ref wl])) pd (.dT (pnK (T ++ [(c, q, c)]))) = G8 at ewl kp8 gp8 ac8
      refine ⟨fun m σ G => ∃ (v5 : Option V) (T' : Pnt) (W : List Cell), m = 2 * (L.length - T'.length) + W.length ∧ σ = [some (.ref a), some (.ref pd), some (.ref ld), some (.ref q), some (.ref wl), v5, none, none] ∧ NlH B0 pd wl T' W G ∧ PntGo L T q c T' W ∧ (∀ p ∈ T', At B0 p.2.1 p.2.2) ∧ (∀ x ∈ cellsP T', x ∈ L),
        ⟨_, v5, _, [c], rfl, rfl, ⟨kp8, gp8, [q], ewl, .cons ac8 .nil⟩, ok.go nc, fun p hp => (List.mem_append.mp hp).elim (col p) fun y => by rw [List.mem_singleton.mp y]; exact ac, fun x hx => ?_⟩, ?_⟩
      · have hx : x ∈ (T ++ [((c, q, c) : Cell × Addr × Cell)]).map (fun p => p.1) := hx
        rw [List.map_append] at hx
        rcases List.mem_append.mp hx with y | y
        · exact sub x y
        · rw [List.mem_singleton.mp y]
          exact cL
      rintro m σ G9 ⟨v5, T', W, rfl, rfl, ⟨kp9, gp9, ⟨ws, ews, pws⟩⟩, go, col9, sub9⟩
      have lT9 : T'.length ≤ L.length := by
        have := len_le go.nd sub9
        rwa [List.length_map] at this
      have lW9 : W.length ≤ L.length := len_le go.ndW fun y hy => sub9 y (go.wt y hy).1
      refine ⟨_, rfl, Nat.zero_le _, fun e8 he8 => ?_⟩
      have sA := same_new (o := .lst []) he8
      refine ⟨.list (W.map cD), .list [], (CellsL.dp ⟨ws, sA _ _ ews, paired_imp (fun _ _ h => sA _ _ h) pws⟩), .lst (SqL.of upd_same) .nil, lay_cells.shaped (by decide), (lay_list (n := 0) (ds := []) (by simp)).shaped (by decide), _, rfl, ?_⟩
      rw [eqv_nil]
      have kpA : Kp [pd] B0 (upd G9 e8 (.lst [])) := fun b o nb e => sA _ _ (kp9 b o nb e)
      have gpA := sA _ _ gp9
      have ewA := sA _ _ ews
      have pwA := paired_imp (fun q c (h : At G9 q c) => (sA _ _ h : At (upd G9 e8 (.lst [])) q c)) pws
      generalize upd G9 e8 (.lst []) = GA at kpA gpA ewA pwA
      by_cases hW : W = []
      · subst hW
        refine iteF ?_
        have lstN : ∀ p ∈ T', ∀ x ∈ L, Reach L p.2.2 x → cLt x p.2.2 = false := fun p hp x hx r => by
          rcases go.new p hp with h | ⟨h, _⟩
          · exact lst p h x hx r
          · have e : p.2.2 = c := congrArg Prod.snd h
            rw [e] at r ⊢
            obtain ⟨j, hj⟩ := List.mem_iff_getElem?.mp ((mS x).mpr hx)
            rcases Nat.lt_trichotomy j i with l | l | l
            · have mt : x ∈ S.take i := List.mem_iff_getElem?.mpr ⟨j, by rw [List.getElem?_take, if_pos l]; exact hj⟩
              exact absurd (ok.closed (cov x mt) (r.symm cL)) nc
            · rw [l, hc] at hj
              rw [← Option.some.inj hj]
              exact cLt_irr c
            · obtain ⟨li, ei⟩ := List.getElem?_eq_some_iff.mp hc
              obtain ⟨lj, ej⟩ := List.getElem?_eq_some_iff.mp hj
              have := List.pairwise_iff_getElem.mp asc i j li lj l
              rw [ei, ej] at this
              exact this
        refine ⟨_, _, _, T', rfl, kpA, gpA, go.fin ok cL nc, fun x hx => ?_, col9, sub9, lstN⟩
        rw [take_snoc hc] at hx
        rcases List.mem_append.mp hx with y | y
        · obtain ⟨p, hp, rfl⟩ := List.mem_map.mp (cov x y)
          exact List.mem_map.mpr ⟨p, go.old p hp, rfl⟩
        · rw [List.mem_singleton.mp y]
          exact List.mem_map.mpr ⟨_, go.has, rfl⟩
      · rw [decide_eq_false hW]
        refine iteT ?_
        obtain ⟨W', x, rfl⟩ := snoc_inv hW
        have new : ws ≠ [] := fun z => by rw [z] at pwA; have l := Paired.length pwA; simp at l
        obtain ⟨ws', qx, rfl⟩ := snoc_inv new
        obtain ⟨pw', ax⟩ := paired_unsnoc pwA
        refine ⟨fun σ' G' => ∃ m', m' < 2 * (L.length - T'.length) + (W' ++ [x]).length ∧ _, fun _ _ h => h, ?_⟩
        refine ⟨_, rfl, .inl ⟨rfl, _, SqL.of ewA⟩, wl, _, .ref qx, rfl, rfl, ewA, by simp, ?_⟩
        have drop : (List.map V.ref (ws' ++ [qx])).dropLast = ws'.map V.ref := by simp
        rw [drop]
        have tkB : Tk GA (upd GA wl (.lst (ws'.map V.ref))) := tk_upd ewA fun _ z => nomatch z
        have kpB : Kp [pd] B0 (upd GA wl (.lst (ws'.map V.ref))) := fun b o nb e => by
          rw [upd_ne fun z => by rw [z, wB] at e; cases e]
          exact kpA b o nb e
        have gpB : upd GA wl (.lst (ws'.map V.ref)) pd = some (.dT (pnK T')) := by rw [upd_ne nwp.symm]; exact gpA
        have ewB := upd_same (H := GA) (a := wl) (o := .lst (ws'.map V.ref))
        have pwB := paired_imp (fun q c (h : At GA q c) => (tkB _ _ h : At (upd GA wl (.lst (ws'.map V.ref))) q c)) pw'
        have axB : At (upd GA wl (.lst (ws'.map V.ref))) qx x := tkB _ _ ax
        generalize upd GA wl (.lst (ws'.map V.ref)) = GB at kpB gpB ewB pwB axB
        refine ⟨qx, x, rfl, axB, fun lb GC sC hlb cb => ?_⟩
        obtain ⟨bs, eb, pb⟩ := cb
        have kpC : Kp [pd] B0 GC := fun b o nb e => sC _ _ (kpB b o nb e)
        have nbp : lb ≠ pd := fun z => by rw [z, gpB] at hlb; cases hlb
        have nbw : lb ≠ wl := fun z => by rw [z, ewB] at hlb; cases hlb
        have gp := go.pop
        refine ⟨lb, rfl, ⟨_, SqL.of eb⟩, ?_⟩
        refine for_list (K := K) (a := lb) (xs := bs.map V.ref) (fun j σ G => ∃ (v5 : Option V) (T2 : Pnt) (W2 : List Cell), σ = [some (.ref a), some (.ref pd), some (.ref ld), some (.ref q), some (.ref wl), v5, none, none] ∧ NlH B0 pd wl T2 W2 G ∧ Kp [pd, wl] GC G ∧ PntIn L T q c x ((nbC x).take j) T2 W2 ∧ (∀ p ∈ T2, At B0 p.2.1 p.2.2) ∧ (∀ x ∈ cellsP T2, x ∈ L) ∧ 2 * (L.length - T2.length) + W2.length ≤ 2 * (L.length - T'.length) + W'.length)
          ⟨v5, T', W', rfl, ⟨kpC, sC _ _ gpB, ws', sC _ _ ewB, paired_imp (fun _ _ h => sC _ _ h) pwB⟩, fun b o _ e => e, gp, col9, sub9, Nat.le_refl _⟩ (fun j σ G _ ⟨_, _, _, _, _, kp2, _⟩ => SqL.of (kp2 _ _ (by simp [nbp, nbw]) eb)) ?_ ?_
        · rintro j y σ GD hj ⟨v5, T2, W2, rfl, ⟨kpD, gpD, ⟨ws2, ew2, pw2⟩⟩, kp2, pin, col2, sub2, ms⟩
          rw [List.getElem?_map] at hj
          obtain ⟨qy, hqy, rfl⟩ := Option.map_eq_some_iff.mp hj
          obtain ⟨y, hy, ay⟩ := paired_get pb hqy
          have ayD : At GD qy y := kp2 _ _ (fun m => by
            rcases List.mem_cons.mp m with z | m
            · have e2 : GC qy = some (.dT (pnK T')) := by rw [z]; exact sC _ _ gpB
              have e3 : GC qy = some (.tup (cV y)) := ay
              rw [e2] at e3
              cases e3
            · have e2 : GC qy = some (.lst (ws'.map V.ref)) := by rw [List.mem_singleton.mp m]; exact sC _ _ ewB
              have e3 : GC qy = some (.tup (cV y)) := ay
              rw [e2] at e3
              cases e3) ay
          have yb : y ∈ besideC x := mem_nbC.mp (List.mem_of_getElem? hy)
          have eldD : GD ld = some (.dT (lotK L)) := kpD _ _ (npin nlp) eld
          refine ⟨_, rfl, _, rfl, ld, _, rfl, dget_lot eldD ayD, _, rfl, ?_⟩
          rw [lot_is]
          have skip : (y ∈ L → y ∈ cellsP T2) → PntIn L T q c x ((nbC x).take (j + 1)) T2 W2 := fun h => by
            rw [take_snoc hy]
            exact pin.skip h
          refine ite2 (fun hyL => ?_) (fun hyL => ?_)
          · have yL : y ∈ L := of_decide_eq_true hyL
            refine ⟨_, rfl, _, rfl, pd, _, rfl, dget_c gpD ayD, _, rfl, ?_⟩
            rw [kv_is pin.nd]
            refine ite2 (fun hn => ?_) (fun hn => ?_)
            · have ny : y ∉ cellsP T2 := by simpa using hn
              have put2 : putK (pnK T2) (cK y) (.ref q) = pnK (T2 ++ [(y, q, c)]) := kv_put (p := ((y, q, c) : Cell × Addr × Cell)) ny
              have pin' := pin.add yb yL ny
              have sub' : ∀ x ∈ cellsP (T2 ++ [((y, q, c) : Cell × Addr × Cell)]), x ∈ L := fun z hz => by
                have hz : z ∈ (T2 ++ [((y, q, c) : Cell × Addr × Cell)]).map (fun p => p.1) := hz
                rw [List.map_append] at hz
                rcases List.mem_append.mp hz with m | m
                · exact sub2 z m
                · rw [List.mem_singleton.mp m]
                  exact yL
              have lT2 : T2.length + 1 ≤ L.length := by
                have := len_le pin'.nd sub'
                rw [List.length_map, List.length_append] at this
                exact this
              have lW2 : W2.length ≤ L.length := len_le pin.ndW fun y hy => sub2 y (pin.wt y hy).1
              have lws2 : ws2.length = W2.length := Paired.length pw2
              have dp2 := dput_c (v := .ref q) gpD ayD (by rw [kv_len, sizeLine_eq]; omega)
              rw [put2] at dp2
              refine ⟨_, rfl, _, rfl, _, rfl, pd, _, rfl, dp2, ?_⟩
              have tkE : Tk GD (upd GD pd (.dT (pnK (T2 ++ [(y, q, c)])))) := tk_upd gpD fun _ z => nomatch z
              have ewE : upd GD pd (.dT (pnK (T2 ++ [(y, q, c)]))) wl = some (.lst (ws2.map V.ref)) := by rw [upd_ne nwp]; exact ew2
              refine ⟨_, rfl, .inl ⟨rfl, _, SqL.of ewE⟩, _, rfl, wl, _, _, rfl, rfl, ewE, by rw [List.length_map, sizeLine_eq]; omega, ?_⟩
              have tkF := tkE.trans (tk_upd (o' := .lst (ws2.map V.ref ++ [V.ref qy])) ewE fun _ z => nomatch z)
              refine ⟨_, _, W2 ++ [y], rfl, ⟨fun b o nb e => ?_, ?_, ws2 ++ [qy], by rw [upd_same, List.map_append]; rfl, (paired_imp (fun _ _ h => tkF _ _ h) pw2).snoc (tkF _ _ ayD)⟩, fun b o nb e => ?_, by rw [take_snoc hy]; exact pin', fun p hp => (List.mem_append.mp hp).elim (col2 p) fun m => by rw [List.mem_singleton.mp m]; exact ac, sub', by rw [List.length_append, List.length_append]; show 2 * (L.length - (T2.length + 1)) + (W2.length + 1) ≤ _; omega⟩
              · rw [upd_ne (fun z => by rw [z, wB] at e; cases e), upd_ne (fun z => nb (List.mem_singleton.mpr z))]
                exact kpD b o nb e
              · rw [upd_ne nwp.symm, upd_same]
              · rw [upd_ne (fun z => nb (by rw [z]; simp)), upd_ne (fun z => nb (by rw [z]; simp))]
                exact kp2 b o nb e
            · have my : y ∈ cellsP T2 := by simpa using hn
              exact ⟨_, T2, W2, rfl, ⟨kpD, gpD, ws2, ew2, pw2⟩, kp2, skip fun _ => my, col2, sub2, ms⟩
          · have yL : y ∉ L := fun m => hyL (decide_eq_true m)
            exact ⟨_, T2, W2, rfl, ⟨kpD, gpD, ws2, ew2, pw2⟩, kp2, skip fun m => absurd m yL, col2, sub2, ms⟩
        · rintro σ GD ⟨v5, T2, W2, rfl, nh, kp2, pin, col2, sub2, ms⟩
          rw [List.length_map, Paired.length pb, List.take_length] at pin
          exact ⟨_, by rw [List.length_append]; show _ < _ + (W'.length + 1); omega, _, T2, W2, rfl, rfl, nh, pin.end fun y hy => mem_nbC.mpr hy, col2, sub2⟩
    · rintro σ G ⟨v3, v4, v5, T, rfl, kp, gp, ok, cov, col, sub, lst⟩
      rw [List.length_map, Paired.length prS, List.take_length] at cov
      have sHG : Same H G := kp_same hpd sB kp
      have tk := kp_tk epd kp
      refine key _ G a pd T L _ _ _ _ _ _ ⟨qs, sHG _ _ ea, paired_imp (fun _ _ h => sHG _ _ h) pq⟩ lL gp ok (fun x hx => cov x ((mS x).mpr hx)) (fun p hp => tk _ _ (col p hp)) fun r H' rs S' firsts s9 er li pr2 => ?_
      exact k r H' rs S' firsts T (sHG.trans s9) er li ok (fun x hx => cov x ((mS x).mpr hx)) lst pr2
end
end Sq

set_option Elab.async false
set_option linter.all false
set_option maxRecDepth 100000
set_option maxHeartbeats 4000000
/-! The program's region_from: a flood through what is empty. -/
namespace Sq
open PySem PySem.Spec PyProof.Rows L2
section
variable {P : Program} {w : World} {K : PySem.W.Frag} {mg : Str → Option Value} {base : Heap}
end
end Sq

set_option Elab.async false
set_option linter.all false
set_option maxRecDepth 100000
set_option maxHeartbeats 4000000
/-! The program's west_end: going west up to a square. -/
namespace Sq
open PySem PySem.Spec PyProof.Rows L2
section
variable {P : Program} {w : World} {K : PySem.W.Frag} {mg : Str → Option Value} {base : Heap}
end
end Sq

set_option Elab.async false
set_option linter.all false
set_option maxRecDepth 100000
set_option maxHeartbeats 1000000
/-! Rings in the order of their least sides; the regions. -/
namespace Sq
def sideLt (a b : Side) : Prop := cLt a.1 b.1 = true ∨ (a.1 = b.1 ∧ cLt a.2 b.2 = true)
theorem cLt_total {a b : Cell} (h : cLt a b = false) : cLt b a = true ∨ a = b := by
  cases z : cLt b a
  · exact .inr (cLt_tri h z)
  · exact .inl rfl
theorem cLt_le_trans {a b c : Cell} (h : cLt a b = false) (k : cLt b c = false) : cLt a c = false := by
  cases z : cLt a c
  · rfl
  · exfalso
    rcases cLt_total h with y | y
    · rw [cLt_trans y z] at k
      cases k
    · rw [y, k] at z
      cases z
/-- the rings' first sides, in order -/
structure RingsIs (R : List Cell) (Es : List Side) : Prop where
  sd : ∀ e ∈ Es, IsSide R e
  least : ∀ e ∈ Es, ∀ e', Air R e.1 e'.1 → IsSide R e' → ¬ sideLt e' e
  all : ∀ e, IsSide R e → ∃ e0 ∈ Es, Air R e0.1 e.1
  apart : Es.Pairwise fun a b => ¬ Air R a.1 b.1
  asc : Es.Pairwise fun a b => ¬ sideLt b a
/-- reached from what lies west of all squares -/
def Outer (R : List Cell) (c : Cell) : Prop := ∃ d, Air R c d ∧ ∀ s ∈ R, d.1 < s.1
/-- the regions but the outer one: their least cells in order, their cells in order -/
structure RegIs (R : List Cell) (Ms : List Cell) (Cs : List (List Cell)) : Prop where
  nd : Ms.Nodup
  asc : Asc Ms
  mem : ∀ m, m ∈ Ms ↔ m ∉ R ∧ ¬ Outer R m ∧ ∀ d, Air R m d → cLt d m = false
  len : Cs.length = Ms.length
  pr : ∀ (i : Nat) m C, Ms[i]? = some m → Cs[i]? = some C → C.Nodup ∧ Asc C ∧ ∀ x, x ∈ C ↔ Air R m x
theorem ascU {A M : List Cell} (nA : A.Nodup) (nM : M.Nodup) (sa : Asc A) (sm : Asc M) (mem : ∀ x, x ∈ A ↔ x ∈ M) : A = M :=
  List.Perm.eq_of_pairwise (le := fun x y => cLt y x = false) (fun x y _ _ h k => cLt_tri k h) sa sm ((List.perm_ext_iff_of_nodup nA nM).mpr mem)
section
variable {R : List Cell} {Es : List Side} {Ms : List Cell} {Cs : List (List Cell)}
theorem RegIs.uniq {Ms' : List Cell} {Cs' : List (List Cell)} (h : RegIs R Ms Cs) (k : RegIs R Ms' Cs') : Ms = Ms' ∧ Cs = Cs' := by
  have e : Ms = Ms' := ascU h.nd k.nd h.asc k.asc fun x => (h.mem x).trans (k.mem x).symm
  subst e
  refine ⟨rfl, List.ext_getElem? fun i => ?_⟩
  by_cases lt : i < Ms.length
  · obtain ⟨m, hm⟩ : ∃ m, Ms[i]? = some m := ⟨_, List.getElem?_eq_getElem lt⟩
    obtain ⟨C, hC⟩ : ∃ C, Cs[i]? = some C := ⟨_, List.getElem?_eq_getElem (by rw [h.len]; exact lt)⟩
    obtain ⟨C', hC'⟩ : ∃ C, Cs'[i]? = some C := ⟨_, List.getElem?_eq_getElem (by rw [k.len]; exact lt)⟩
    obtain ⟨n1, a1, m1⟩ := h.pr i m C hm hC
    obtain ⟨n2, a2, m2⟩ := k.pr i m C' hm hC'
    rw [hC, hC', ascU n1 n2 a1 a2 fun x => (m1 x).trans (m2 x).symm]
  · rw [List.getElem?_eq_none (by rw [h.len]; omega), List.getElem?_eq_none (by rw [k.len]; omega)]
theorem Outer.of {a b : Cell} (h : Outer R b) (k : Air R a b) : Outer R a := by
  obtain ⟨d, h1, h2⟩ := h
  exact ⟨d, k.trans h1, h2⟩
theorem Outer.to {a b : Cell} (h : Outer R a) (ha : a ∉ R) (k : Air R a b) : Outer R b := h.of (k.symm ha)
/-- what lies outside is one region -/
theorem outer_one (ne : R ≠ []) {a b : Cell} (ha : a ∉ R) (h : Outer R a) (k : Outer R b) (hb : b ∉ R) : Air R a b := by
  obtain ⟨d, d1, d2⟩ := h
  obtain ⟨e, e1, e2⟩ := k
  obtain ⟨s, hs⟩ := List.exists_mem_of_ne_nil R ne
  have bnd : ∃ l1 h1 l2 h2 : Int, ∀ c ∈ R, (l1 ≤ c.1 ∧ c.1 ≤ h1) ∧ (l2 ≤ c.2 ∧ c.2 ≤ h2) := by
    clear hs ne d1 d2 e1 e2 ha hb
    induction R with
    | nil => exact ⟨0, 0, 0, 0, fun c hc => nomatch hc⟩
    | cons c R ih =>
      obtain ⟨l1, h1, l2, h2, h⟩ := ih
      refine ⟨min l1 c.1, max h1 c.1, min l2 c.2, max h2 c.2, fun x hx => ?_⟩
      rcases List.mem_cons.mp hx with z | z
      · subst z
        omega
      · have := h x z
        omega
  obtain ⟨l1, h1, l2, h2, box⟩ := bnd
  -- a common box whose west wall lies behind both
  have minb : ∃ lo : Int, (∀ c ∈ R, lo ≤ c.1) ∧ ∃ c ∈ R, c.1 = lo := by
    clear box d1 d2 e1 e2 ha hb hs s
    induction R with
    | nil => exact absurd rfl ne
    | cons c R ih =>
      by_cases z : R = []
      · subst z
        exact ⟨c.1, fun x hx => by rw [List.mem_singleton.mp hx]; exact Int.le_refl _, c, List.mem_cons_self .., rfl⟩
      · obtain ⟨lo, h1, x, hx, e⟩ := ih z
        by_cases l : c.1 ≤ lo
        · refine ⟨c.1, fun y hy => ?_, c, List.mem_cons_self .., rfl⟩
          rcases List.mem_cons.mp hy with w | w
          · rw [w]; exact Int.le_refl _
          · have := h1 y w; omega
        · refine ⟨lo, fun y hy => ?_, x, List.mem_cons_of_mem _ hx, e⟩
          rcases List.mem_cons.mp hy with w | w
          · rw [w]; omega
          · exact h1 y w
  obtain ⟨lo, lo1, c0, hc0, ec0⟩ := minb
  have box2 : ∀ c ∈ R, (lo ≤ c.1 ∧ c.1 ≤ h1) ∧ (l2 ≤ c.2 ∧ c.2 ≤ h2) := fun c hc => ⟨⟨lo1 c hc, (box c hc).1.2⟩, (box c hc).2⟩
  have d3 : d.1 < lo := by rw [← ec0]; exact d2 c0 hc0
  have e3 : e.1 < lo := by rw [← ec0]; exact e2 c0 hc0
  have nd : ((lo - 1, l2 - 1) : Cell) ∉ R := fun m => by
    have := (box2 _ m).1.1
    have : lo ≤ lo - 1 := this
    omega
  have r1 := air_outside box2 (c := d) (.inl d3)
  have r2 := air_outside box2 (c := e) (.inl e3)
  exact d1.trans ((r1.symm nd).trans (r2.trans (e1.symm hb)))
/-- what lies outside a box around the squares is outer -/
theorem outer_box {l1 h1 l2 h2 : Int} (box : ∀ c ∈ R, (l1 ≤ c.1 ∧ c.1 ≤ h1) ∧ (l2 ≤ c.2 ∧ c.2 ≤ h2)) {c : Cell} (h : c.1 < l1 ∨ h1 < c.1 ∨ c.2 < l2 ∨ h2 < c.2) : Outer R c := by
  have nd : ((l1 - 1, l2 - 1) : Cell) ∉ R := fun m => by
    have := (box _ m).1.1
    have : l1 ≤ l1 - 1 := this
    omega
  exact ⟨(l1 - 1, l2 - 1), (air_outside box h).symm nd, fun s hs => by
    have := (box s hs).1.1
    show l1 - 1 < s.1
    omega⟩
/-- the least cell of a region that has a least side -/
theorem least_ex {F : List Cell} (ne : F ≠ []) : ∃ m ∈ F, ∀ x ∈ F, cLt x m = false := by
  induction F with
  | nil => exact absurd rfl ne
  | cons c F ih =>
    by_cases z : F = []
    · subst z
      exact ⟨c, List.mem_cons_self .., fun x hx => by rw [List.mem_singleton.mp hx]; exact cLt_irr c⟩
    · obtain ⟨m, hm, l⟩ := ih z
      cases y : cLt c m
      · refine ⟨m, List.mem_cons_of_mem _ hm, fun x hx => ?_⟩
        rcases List.mem_cons.mp hx with w | w
        · rw [w]; exact y
        · exact l x w
      · refine ⟨c, List.mem_cons_self .., fun x hx => ?_⟩
        rcases List.mem_cons.mp hx with w | w
        · rw [w]; exact cLt_irr c
        · exact cLt_le_trans (l x w) (cLt_asym y)
theorem RingsIs.uniqE (h : RingsIs R Es) {i j : Nat} {a b : Side} (ha : Es[i]? = some a) (hb : Es[j]? = some b) (k : Air R a.1 b.1) : i = j := by
  obtain ⟨li, ei⟩ := List.getElem?_eq_some_iff.mp ha
  obtain ⟨lj, ej⟩ := List.getElem?_eq_some_iff.mp hb
  have ap := List.pairwise_iff_getElem.mp h.apart
  have na : a.1 ∉ R := (h.sd a (List.mem_of_getElem? ha)).out
  rcases Nat.lt_trichotomy i j with l | l | l
  · have := ap i j li lj l
    rw [ei, ej] at this
    exact absurd k this
  · exact l
  · have := ap j i lj li l
    rw [ei, ej] at this
    exact absurd (k.symm na) this
/-- the first ring is that of the outside -/
theorem RingsIs.outer (h : RingsIs R Es) (ne : R ≠ []) : ∃ e Es', Es = e :: Es' ∧ Outer R e.1 ∧ ∀ x ∈ Es', ¬ Outer R x.1 := by
  obtain ⟨z, hz, lz⟩ := least_ex ne
  have lo : ∀ s ∈ R, z.1 ≤ s.1 := fun s hs => by
    have := of_decide_eq_false (lz s hs)
    omega
  have nw : ((z.1 - 1, z.2) : Cell) ∉ R := fun m => by
    have := lo _ m
    have : z.1 ≤ z.1 - 1 := this
    omega
  have sw : IsSide R ((z.1 - 1, z.2), z) := ⟨nw, hz, beside_iff.mpr (.inr (.inr (.inl ⟨by show z.1 = z.1 - 1 + 1; omega, rfl⟩)))⟩
  obtain ⟨e0, he0, a0⟩ := h.all _ sw
  have na0 := (h.sd e0 he0).out
  have ow : Outer R (z.1 - 1, z.2) := ⟨_, .refl, fun s hs => by
    have := lo s hs
    show z.1 - 1 < s.1
    omega⟩
  have o0 : Outer R e0.1 := ow.of a0
  have le0 := h.least e0 he0 _ a0 sw
  have inn : ∀ x ∈ Es, Outer R x.1 → Air R e0.1 x.1 := fun x hx o => outer_one ne na0 o0 o (h.sd x hx).out
  cases hE : Es with
  | nil =>
    rw [hE] at he0
    cases he0
  | cons e Es' =>
    have hd : Es[0]? = some e := by rw [hE]; rfl
    have eq : e = e0 := by
      obtain ⟨j, hj⟩ := List.mem_iff_getElem?.mp he0
      by_cases zj : j = 0
      · rw [zj, hd] at hj
        exact Option.some.inj hj
      · exfalso
        obtain ⟨lj, ej⟩ := List.getElem?_eq_some_iff.mp hj
        have l0 : 0 < Es.length := by omega
        have as := List.pairwise_iff_getElem.mp h.asc 0 j l0 lj (by omega)
        have e00 : Es[0] = e := by
          have := List.getElem?_eq_getElem l0
          rw [hd] at this
          exact (Option.some.inj this).symm
        rw [ej, e00] at as
        have no : ¬ Outer R e.1 := fun o => by
          have := h.uniqE hj hd (inn e (List.mem_of_getElem? hd) o)
          omega
        have ge : z.1 ≤ e.1.1 := by
          refine Classical.byContradiction fun n => no ⟨e.1, .refl, fun s hs => ?_⟩
          have := lo s hs
          omega
        -- e0 stands ahead of the side west of z, that ahead of e
        have l1 : cLt e.1 e0.1 = false := by
          cases y : cLt e.1 e0.1
          · rfl
          · exfalso
            have y := of_decide_eq_true y
            have q : cLt (z.1 - 1, z.2) e0.1 = false := by
              cases w : cLt (z.1 - 1, z.2) e0.1
              · rfl
              · exact absurd (.inl w) le0
            have q := of_decide_eq_false q
            dsimp only at q
            omega
        have l2 : cLt e0.1 e.1 = false := by
          cases y : cLt e0.1 e.1
          · rfl
          · exact absurd (.inl y) as
        have ee := cLt_tri l1 l2
        rw [ee] at no
        exact no o0
    refine ⟨e, Es', rfl, by rw [eq]; exact o0, fun x hx o => ?_⟩
    obtain ⟨j, hj⟩ := List.mem_iff_getElem?.mp hx
    have hj' : Es[j + 1]? = some x := by rw [hE]; exact hj
    have := h.uniqE hd hj' (by rw [eq]; exact inn x (List.mem_of_getElem? hj') o)
    omega
/-- the first side of a bounded region has its least cell -/
theorem RingsIs.leastC (h : RingsIs R Es) {e : Side} (he : e ∈ Es) {F : List Cell} (fin : ∀ d, Air R e.1 d ↔ d ∈ F) : ∀ d, Air R e.1 d → cLt d e.1 = false := by
  have neF : F ≠ [] := List.ne_nil_of_mem ((fin e.1).mp .refl)
  obtain ⟨m, hm, lm⟩ := least_ex neF
  have am := (fin m).mpr hm
  have ne := (h.sd e he).out
  have w := least_west am fun d hd => lm d ((fin d).mp hd)
  have q := h.least e he (m, (m.1 - 1, m.2)) am (west_side (am.out ne) w)
  have q1 : cLt m e.1 = false := by
    cases y : cLt m e.1
    · rfl
    · exact absurd (.inl y) q
  have eq := cLt_tri q1 (lm e.1 ((fin e.1).mp .refl))
  intro d hd
  rw [← eq]
  exact lm d ((fin d).mp hd)
/-- the rings' firsts but the outer one's: the least cells of the regions -/
theorem RingsIs.ms {e : Side} {Es' : List Side} (h : RingsIs R (e :: Es')) (ho : Outer R e.1) (hn : ∀ x ∈ Es', ¬ Outer R x.1) (fin : ∀ c, c ∉ R → ¬ Outer R c → ∃ F : List Cell, ∀ d, Air R c d ↔ d ∈ F) :
    (Es'.map fun x => x.1).Nodup ∧ Asc (Es'.map fun x => x.1) ∧ ∀ m, m ∈ Es'.map (fun x => x.1) ↔ m ∉ R ∧ ¬ Outer R m ∧ ∀ d, Air R m d → cLt d m = false := by
  have lst : ∀ x ∈ Es', ∀ d, Air R x.1 d → cLt d x.1 = false := fun x hx => by
    have hx' := List.mem_cons_of_mem e hx
    obtain ⟨F, hF⟩ := fin x.1 (h.sd x hx').out (hn x hx)
    exact h.leastC hx' hF
  refine ⟨?_, ?_, fun m => ⟨fun hm => ?_, fun ⟨h1, h2, h3⟩ => ?_⟩⟩
  · refine List.pairwise_map.mpr ((List.pairwise_cons.mp h.apart).2.imp fun {a b} k e => k ?_)
    rw [e]
    exact .refl
  · refine List.pairwise_map.mpr ((List.pairwise_cons.mp h.asc).2.imp fun {a b} k => ?_)
    cases y : cLt b.1 a.1
    · rfl
    · exact absurd (.inl y) k
  · obtain ⟨x, hx, rfl⟩ := List.mem_map.mp hm
    exact ⟨(h.sd x (List.mem_cons_of_mem e hx)).out, hn x hx, lst x hx⟩
  · have w := least_west (a := m) .refl h3
    obtain ⟨x, hx, ax⟩ := h.all _ (west_side h1 w)
    have nx := (h.sd x hx).out
    rcases List.mem_cons.mp hx with z | z
    · rw [z] at ax
      exact absurd (ho.to (by rw [z] at nx; exact nx) ax) h2
    · have q1 := lst x z m ax
      have q2 := h3 x.1 (ax.symm nx)
      exact List.mem_map.mpr ⟨x, z, (cLt_tri q2 q1)⟩
theorem RingsIs.reg {e : Side} {Es' : List Side} (h : RingsIs R (e :: Es')) (ho : Outer R e.1) (hn : ∀ x ∈ Es', ¬ Outer R x.1) (fin : ∀ c, c ∉ R → ¬ Outer R c → ∃ F : List Cell, ∀ d, Air R c d ↔ d ∈ F)
    (len : Cs.length = Es'.length) (pr : ∀ (i : Nat) x C, Es'[i]? = some x → Cs[i]? = some C → C.Nodup ∧ Asc C ∧ ∀ y, y ∈ C ↔ Air R x.1 y) : RegIs R (Es'.map fun x => x.1) Cs := by
  obtain ⟨h1, h2, h3⟩ := h.ms ho hn fin
  refine ⟨h1, h2, h3, by rw [List.length_map]; exact len, fun i m C hm hC => ?_⟩
  rw [List.getElem?_map] at hm
  obtain ⟨x, hx, rfl⟩ := Option.map_eq_some_iff.mp hm
  exact pr i x C hx hC
/-- the number of the region of a cell -/
def NumOf (R Ms : List Cell) (c : Cell) (n : Nat) : Prop := (Outer R c ∧ n = 0) ∨ ∃ (i : Nat) (m : Cell), Ms[i]? = some m ∧ Air R m c ∧ n = i + 1
theorem NumOf.uniq (h : RegIs R Ms Cs) {c : Cell} {n k : Nat} (hc : c ∉ R) (a : NumOf R Ms c n) (b : NumOf R Ms c k) : n = k := by
  have no : ∀ {i : Nat} {m : Cell}, Ms[i]? = some m → Air R m c → ¬ Outer R c := fun {i m} e q o => ((h.mem m).mp (List.mem_of_getElem? e)).2.1 (o.of q)
  rcases a with ⟨o, rfl⟩ | ⟨i, m, e, q, rfl⟩ <;> rcases b with ⟨o', rfl⟩ | ⟨j, m', e', q', rfl⟩
  · rfl
  · exact absurd o (no e' q')
  · exact absurd o' (no e q)
  · have h1 := (h.mem m).mp (List.mem_of_getElem? e)
    have h2 := (h.mem m').mp (List.mem_of_getElem? e')
    have am : Air R m m' := q.trans (q'.symm h2.1)
    have em : m = m' := cLt_tri (h2.2.2 m (am.symm h1.1)) (h1.2.2 m' am)
    subst em
    obtain ⟨li, ei⟩ := List.getElem?_eq_some_iff.mp e
    obtain ⟨lj, ej⟩ := List.getElem?_eq_some_iff.mp e'
    have := (List.getElem_inj h.nd).mp (ei.trans ej.symm)
    omega
end
end Sq

set_option Elab.async false
set_option linter.all false
set_option maxRecDepth 100000
set_option maxHeartbeats 4000000
/-! The program's rings_in. -/
namespace Sq
open PySem PySem.Spec PyProof.Rows L2
theorem pLt {a b : CellP} (h : sideLt b a) : PySem.W.dataLe false pD a b = false := by
  unfold PySem.W.dataLe
  show (!PyProof.Rows.lexLt PyProof.Rows.itemOrd (PySem.W.keyToks (pD b)) (PySem.W.keyToks (pD a))) = false
  rw [pD_toks, pD_toks]
  unfold sideLt at h
  obtain ⟨⟨a1, a2⟩, a3, a4⟩ := a
  obtain ⟨⟨b1, b2⟩, b3, b4⟩ := b
  simp only [cLt, decide_eq_true_eq, Prod.mk.injEq] at h
  have at1 : ∀ (x y : Int) (r t : List (Int ⊕ List Nat)), PyProof.Rows.lexLt PyProof.Rows.itemOrd (.inl x :: r) (.inl y :: t) = (decide (x < y) || (!decide (y < x) && PyProof.Rows.lexLt PyProof.Rows.itemOrd r t)) := fun x y r t => PyProof.Rows.lex_cons (O := PyProof.Rows.itemOrd) (.inl x) (.inl y) r t
  have nil : PyProof.Rows.lexLt PyProof.Rows.itemOrd ([] : List (Int ⊕ List Nat)) [] = false := rfl
  simp only [at1, nil]
  simp
  omega
def pLeP (m n : CellP) : Prop := PySem.W.dataLt (pD n) (pD m) = false
theorem pLeP_trans {m n o : CellP} (h : pLeP m n) (k : pLeP n o) : pLeP m o :=
  PyProof.Rows.KeyOrd.kle_trans (O := PyProof.Rows.listOrd PyProof.Rows.itemOrd) (a := PySem.W.keyToks (pD m)) (b := PySem.W.keyToks (pD n)) (c := PySem.W.keyToks (pD o)) h k
theorem pLeP_total {m n : CellP} (h : ¬ pLeP m n) : pLeP n m :=
  PyProof.Rows.KeyOrd.klt_asymm (O := PyProof.Rows.listOrd PyProof.Rows.itemOrd) (a := PySem.W.keyToks (pD n)) (b := PySem.W.keyToks (pD m)) (by
    unfold pLeP at h
    show PySem.W.dataLt (pD n) (pD m) = true
    simpa using h)
theorem sides_sort (bs : List CellP) : (bs.mergeSort (PySem.W.dataLe false pD)).Pairwise fun a b => ¬ sideLt b a := by
  have pw := List.pairwise_mergeSort (le := PySem.W.dataLe false pD)
    (fun a b c h k => by
      have h : pLeP a b := by have h : (!PySem.W.dataLt (pD b) (pD a)) = true := h; show PySem.W.dataLt (pD b) (pD a) = false; simpa using h
      have k : pLeP b c := by have k : (!PySem.W.dataLt (pD c) (pD b)) = true := k; show PySem.W.dataLt (pD c) (pD b) = false; simpa using k
      show (!PySem.W.dataLt (pD c) (pD a)) = true
      rw [show PySem.W.dataLt (pD c) (pD a) = false from pLeP_trans h k]
      rfl)
    (fun a b => by
      by_cases h : pLeP a b
      · have : PySem.W.dataLe false pD a b = true := by
          show (!PySem.W.dataLt (pD b) (pD a)) = true
          rw [show PySem.W.dataLt (pD b) (pD a) = false from h]
          rfl
        rw [this]
        rfl
      · have : PySem.W.dataLe false pD b a = true := by
          show (!PySem.W.dataLt (pD a) (pD b)) = true
          rw [show PySem.W.dataLt (pD a) (pD b) = false from pLeP_total h]
          rfl
        rw [this, Bool.or_true]) bs
  exact pw.imp fun {a b} h k => by
    rw [pLt k] at h
    cases h
/-- while the sides are gone over -/
structure RgI (R : List Cell) (S : List Side) (i : Nat) (Es : List Side) : Prop where
  sub : ∀ e ∈ Es, e ∈ S.take i
  cov : ∀ e ∈ S.take i, ∃ e0 ∈ Es, Air R e0.1 e.1
  least : ∀ e ∈ Es, ∀ e' ∈ S, Air R e.1 e'.1 → ¬ sideLt e' e
  apart : Es.Pairwise fun a b => ¬ Air R a.1 b.1
  asc : Es.Pairwise fun a b => ¬ sideLt b a
section
variable {R : List Cell} {S : List Side} {i : Nat} {Es : List Side} {e : Side}
theorem sideLt_irr (e : Side) : ¬ sideLt e e := fun h => by
  rcases h with h | ⟨_, h⟩
  · rw [cLt_irr] at h
    cases h
  · rw [cLt_irr] at h
    cases h
theorem RgI.old (h : RgI R S i Es) (he : S[i]? = some e) (k : ∃ e0 ∈ Es, Air R e0.1 e.1) : RgI R S (i + 1) Es := by
  refine ⟨fun x hx => ?_, fun x hx => ?_, h.least, h.apart, h.asc⟩
  · rw [take_snoc he]
    exact List.mem_append_left _ (h.sub x hx)
  · rw [take_snoc he] at hx
    rcases List.mem_append.mp hx with m | m
    · exact h.cov x m
    · rw [List.mem_singleton.mp m]
      exact k
theorem RgI.new (h : RgI R S i Es) (hS : ∀ x ∈ S, IsSide R x) (pw : S.Pairwise fun a b => ¬ sideLt b a) (he : S[i]? = some e) (k : ¬ ∃ e0 ∈ Es, Air R e0.1 e.1) : RgI R S (i + 1) (Es ++ [e]) := by
  have ne := (hS e (List.mem_of_getElem? he)).out
  have pwi := List.pairwise_iff_getElem.mp pw
  obtain ⟨li, ei⟩ := List.getElem?_eq_some_iff.mp he
  have ahead : ∀ x ∈ S.take i, ¬ sideLt e x := fun x hx => by
    obtain ⟨j, hj⟩ := List.mem_iff_getElem?.mp hx
    have hl := (List.getElem?_eq_some_iff.mp hj).1
    rw [List.length_take] at hl
    rw [List.getElem?_take_of_lt (by omega)] at hj
    obtain ⟨lj, ej⟩ := List.getElem?_eq_some_iff.mp hj
    have := pwi j i lj li (by omega)
    rw [ei, ej] at this
    exact this
  refine ⟨fun x hx => ?_, fun x hx => ?_, fun x hx y hy a => ?_, ?_, ?_⟩
  · rw [take_snoc he]
    rcases List.mem_append.mp hx with m | m
    · exact List.mem_append_left _ (h.sub x m)
    · exact List.mem_append_right _ m
  · rw [take_snoc he] at hx
    rcases List.mem_append.mp hx with m | m
    · obtain ⟨e0, h0, a0⟩ := h.cov x m
      exact ⟨e0, List.mem_append_left _ h0, a0⟩
    · rw [List.mem_singleton.mp m]
      exact ⟨e, by simp, .refl⟩
  · rcases List.mem_append.mp hx with m | m
    · exact h.least x m y hy a
    · rw [List.mem_singleton.mp m] at a ⊢
      obtain ⟨j, hj⟩ := List.mem_iff_getElem?.mp hy
      obtain ⟨lj, ej⟩ := List.getElem?_eq_some_iff.mp hj
      rcases Nat.lt_trichotomy j i with l | l | l
      · exfalso
        have mt : y ∈ S.take i := List.mem_iff_getElem?.mpr ⟨j, by rw [List.getElem?_take_of_lt l]; exact hj⟩
        obtain ⟨e0, h0, a0⟩ := h.cov y mt
        exact k ⟨e0, h0, a0.trans (a.symm ne)⟩
      · subst l
        rw [ei] at ej
        rw [← ej]
        exact sideLt_irr e
      · have := pwi i j li lj l
        rw [ei, ej] at this
        exact this
  · refine List.pairwise_append.mpr ⟨h.apart, List.pairwise_singleton _ _, fun x hx y hy a => ?_⟩
    rw [List.mem_singleton.mp hy] at a
    exact k ⟨x, hx, a⟩
  · refine List.pairwise_append.mpr ⟨h.asc, List.pairwise_singleton _ _, fun x hx y hy => ?_⟩
    rw [List.mem_singleton.mp hy]
    exact ahead x (h.sub x hx)
theorem RgI.fin (h : RgI R S S.length Es) (hS : ∀ x, x ∈ S ↔ IsSide R x) : RingsIs R Es := by
  have e : S.take S.length = S := List.take_length
  refine ⟨fun x hx => (hS x).mp ?_, fun x hx y a sd => h.least x hx y ((hS y).mpr sd) a, fun x sd => h.cov x ?_, h.apart, h.asc⟩
  · have := h.sub x hx
    rw [e] at this
    exact this
  · rw [e]
    exact (hS x).mpr sd
theorem RingOf.len {m : Nat} {O : List Side} (h : IsSide R e) (r : RingOf R e m O) : O.length ≤ 4 * R.length := by
  have c := r.closed h
  have := len_le c.nd (ys := sidesL R) fun x hx => mem_sidesL (c.sd x hx)
  rwa [sidesL_len] at this
end
end Sq

set_option Elab.async false
set_option linter.all false
set_option maxRecDepth 100000
set_option maxHeartbeats 8000000
/-! The program's rings_in: the def. -/
namespace Sq
open PySem PySem.Spec PyProof.Rows L2
theorem cr_sortedDFK' {X : Cx} {K : PySem.W.Frag} (h : X.K = K) (hu : X.A.units + 64 < cLine) : CallR X (.builtin "sorted") (rSortDF K) := h ▸ cr_sortedDF hu
section
variable {P : Program} {w : World} {K : PySem.W.Frag} {mg : Str → Option Value} {base : Heap}
end
end Sq

set_option Elab.async false
set_option linter.all false
set_option maxRecDepth 100000
set_option maxHeartbeats 8000000
/-! The program's numbers_in: a dict of numbers. -/
namespace Sq
open PySem PySem.Spec PyProof.Rows L2
def keyC (c : Cell) : NK := nkD (cD c)
theorem keyC_inj {c d : Cell} (h : keyC c = keyC d) : c = d := by
  have e : keyB [c] = keyB [d] := by
    unfold keyB
    unfold keyC at h
    show nkD (.tuple [cD c]) = nkD (.tuple [cD d])
    simp only [nkD, nkAll]
    rw [h]
  exact (List.cons.inj (keyB_inj e)).1
theorem At.natC {K : PySem.W.Frag} {H : Hp} {q : Addr} {c : Cell} (h : At H q c) : NAt K H q (keyC c) := by
  exact ⟨⟨_, h.dp, rfl, rfl⟩, Nat.le_trans (show NestedKey.depthAll [.num c.1, .num c.2] + 1 ≤ 1 from Nat.le_refl 1) (by decide)⟩
theorem valN_put (E : List NEnt) (b : Addr) (k k' : NK) (v : V) : valN (putN E b k v) k' = if k' = k then some v else valN E k' := by
  unfold putN
  by_cases h : (E.any fun l => decide (l.2.1 = k)) = true
  · rw [if_pos h]
    rw [valN_any] at h
    unfold valN at h ⊢
    induction E with
    | nil => simp at h
    | cons l E ih =>
      rw [List.map_cons, List.find?_cons, List.find?_cons]
      rw [List.find?_cons] at h
      by_cases z : l.2.1 = k
      · rw [if_pos z]
        by_cases y : k' = k
        · rw [if_pos y]
          have : decide (l.2.1 = k') = true := decide_eq_true (z.trans y.symm)
          simp [this]
        · rw [if_neg y]
          have n1 : decide (l.2.1 = k') = false := decide_eq_false fun e => y (e.symm.trans z)
          simp only [n1]
          clear ih h
          induction E with
          | nil => rfl
          | cons l' E ih2 =>
            rw [List.map_cons, List.find?_cons, List.find?_cons]
            by_cases z' : l'.2.1 = k
            · rw [if_pos z']
              have n2 : decide (l'.2.1 = k') = false := decide_eq_false fun e => y (e.symm.trans z')
              simp only [n2]
              exact ih2
            · rw [if_neg z']
              cases w : decide (l'.2.1 = k')
              · exact ih2
              · rfl
      · rw [if_neg z]
        have n0 : decide (l.2.1 = k) = false := decide_eq_false z
        rw [n0] at h
        cases w : decide (l.2.1 = k')
        · exact ih h
        · have ne : k' ≠ k := fun e => z ((of_decide_eq_true w).trans e)
          rw [if_neg ne]
  · rw [if_neg h]
    have hn : ∀ l ∈ E, l.2.1 ≠ k := fun l hl e => h (List.any_eq_true.mpr ⟨l, hl, decide_eq_true e⟩)
    unfold valN
    rw [List.find?_append]
    by_cases y : k' = k
    · rw [if_pos y]
      have : E.find? (fun l => decide (l.2.1 = k')) = none := List.find?_eq_none.mpr fun l hl e => hn l hl ((of_decide_eq_true e).trans y)
      rw [this]
      simp [y]
    · rw [if_neg y]
      cases E.find? (fun l => decide (l.2.1 = k')) with
      | some l => rfl
      | none =>
        have : decide (k = k') = false := decide_eq_false fun e => y e.symm
        simp [this]
theorem putN_keys {E : List NEnt} {b : Addr} {k : NK} {v : V} {p : Addr → NK → Prop} (h : ∀ l ∈ E, p l.1 l.2.1) (hb : p b k) : ∀ l ∈ putN E b k v, p l.1 l.2.1 := by
  unfold putN
  split
  · intro l hl
    obtain ⟨l0, h0, rfl⟩ := List.mem_map.mp hl
    split
    · exact h l0 h0
    · exact h l0 h0
  · intro l hl
    rcases List.mem_append.mp hl with m | m
    · exact h l m
    · rw [List.mem_singleton.mp m]
      exact hb
/-- a dict of cells' numbers -/
structure NumD (P : Program) (w : World) (G : Hp) (D : Addr) (dn : Cell → Nat → Prop) (lim : Nat) (E : List NEnt) : Prop where
  dd : DN P w G D E
  ky : ∀ l ∈ E, ∃ c, At G l.1 c ∧ l.2.1 = keyC c
  va : ∀ c v, valN E (keyC c) = some v ↔ ∃ n : Nat, v = .int (n : Int) ∧ dn c n
  ln : E.length ≤ lim
section
variable {P : Program} {w : World} {G : Hp} {D : Addr} {dn : Cell → Nat → Prop} {lim : Nat} {E : List NEnt}
theorem NumD.nat {K : PySem.W.Frag} (h : NumD P w G D dn lim E) : ∀ l ∈ E, NAt K G l.1 l.2.1 := fun l hl => by
  obtain ⟨c, a, e⟩ := h.ky l hl
  rw [e]
  exact a.natC
theorem NumD.same {G' : Hp} (h : NumD P w G D dn lim E) (k : Same G G') : NumD P w G' D dn lim E := ⟨h.dd.same k, fun l hl => by
  obtain ⟨c, a, e⟩ := h.ky l hl
  exact ⟨c, a.same k, e⟩, h.va, h.ln⟩
theorem NumD.put {q : Addr} {c : Cell} {n : Nat} (h : NumD P w G D dn lim E) (a : At G q c) : Tk G (upd G D (DNO P w D (putN E q (keyC c) (.int (n : Int))))) ∧ NumD P w (upd G D (DNO P w D (putN E q (keyC c) (.int (n : Int))))) D (fun x m => (x = c ∧ m = n) ∨ (x ≠ c ∧ dn x m)) (lim + 1) (putN E q (keyC c) (.int (n : Int))) := by
  have tk : Tk G (upd G D (DNO P w D (putN E q (keyC c) (.int (n : Int))))) := by
    rcases h.dd with e | ⟨_, e⟩
    · exact tk_upd e fun xs z => nomatch z
    · exact tk_upd e fun xs z => nomatch z
  refine ⟨tk, .inl upd_same, ?_, fun x v => ?_, Nat.le_trans putN_len (Nat.succ_le_succ h.ln)⟩
  · exact putN_keys (p := fun a k => ∃ c, At _ a c ∧ k = keyC c) (fun l hl => by
      obtain ⟨c, a, e⟩ := h.ky l hl
      exact ⟨c, tk _ _ a, e⟩) ⟨c, tk _ _ a, rfl⟩
  · rw [valN_put]
    by_cases y : x = c
    · rw [if_pos (by rw [y])]
      constructor
      · intro e
        exact ⟨n, (Option.some.inj e).symm, .inl ⟨y, rfl⟩⟩
      · rintro ⟨m, rfl, ⟨_, rfl⟩ | ⟨z, _⟩⟩
        · rfl
        · exact absurd y z
    · rw [if_neg fun e => y (keyC_inj e), h.va]
      constructor
      · rintro ⟨m, e, k⟩
        exact ⟨m, e, .inr ⟨y, k⟩⟩
      · rintro ⟨m, e, ⟨z, _⟩ | ⟨_, k⟩⟩
        · exact absurd z y
        · exact ⟨m, e, k⟩
theorem NumD.weak {dm : Cell → Nat → Prop} {lin : Nat} (h : NumD P w G D dn lim E) (k : ∀ c n, dn c n ↔ dm c n) (l : lim ≤ lin) : NumD P w G D dm lin E :=
  ⟨h.dd, h.ky, fun c v => (h.va c v).trans ⟨fun ⟨n, e, z⟩ => ⟨n, e, (k c n).mp z⟩, fun ⟨n, e, z⟩ => ⟨n, e, (k c n).mpr z⟩⟩, Nat.le_trans h.ln l⟩
end
/-- the number of a cell beside a square -/
def NumE (R : List Cell) (Es : List Side) (c : Cell) (n : Nat) : Prop := ∃ e, Es[n]? = some e ∧ Air R e.1 c ∧ ∃ s, IsSide R (c, s)
theorem RingsIs.len {R : List Cell} {Es : List Side} (h : RingsIs R Es) : Es.length ≤ 4 * R.length := by
  have nd : Es.Nodup := h.apart.imp fun {a b} k e => k (by rw [e]; exact .refl)
  have := len_le nd (ys := sidesL R) fun x hx => mem_sidesL (h.sd x hx)
  rwa [sidesL_len] at this
theorem NumE.uniq {R : List Cell} {Es : List Side} (h : RingsIs R Es) {c : Cell} {n m : Nat} (a : NumE R Es c n) (b : NumE R Es c m) : n = m := by
  obtain ⟨e, he, ae, s, sd⟩ := a
  obtain ⟨e', he', ae', _⟩ := b
  exact h.uniqE he he' (ae.trans (ae'.symm (h.sd e' (List.mem_of_getElem? he')).out))
section
variable {P : Program} {w : World} {K : PySem.W.Frag} {mg : Str → Option Value} {base : Heap}
end
end Sq

set_option Elab.async false
set_option linter.all false
set_option maxRecDepth 100000
set_option maxHeartbeats 1000000
/-! A bounded region lies in a box. -/
namespace Sq
def boxW (a : Cell) (n : Nat) : List Cell := (List.range (2 * n + 1)).flatMap fun (i : Nat) => (List.range (2 * n + 1)).map fun (j : Nat) => ((a.1 - (n : Int) + (i : Int), a.2 - (n : Int) + (j : Int)) : Cell)
theorem flat_len {α β : Type} {f : α → List β} {n : Nat} : ∀ {xs : List α}, (∀ x ∈ xs, (f x).length = n) → (xs.flatMap f).length = n * xs.length
  | [], _ => rfl
  | x :: xs, h => by
    rw [List.flatMap_cons, List.length_append, h x (List.mem_cons_self ..), flat_len fun y hy => h y (List.mem_cons_of_mem _ hy), List.length_cons, Nat.mul_succ, Nat.add_comm]
theorem boxW_len (a : Cell) (n : Nat) : (boxW a n).length = (2 * n + 1) * (2 * n + 1) := by
  unfold boxW
  rw [flat_len (n := 2 * n + 1) fun x _ => by rw [List.length_map, List.length_range], List.length_range]
theorem mem_boxW {a c : Cell} {n : Nat} (h : (a.1 - (n : Int) ≤ c.1 ∧ c.1 ≤ a.1 + (n : Int)) ∧ (a.2 - (n : Int) ≤ c.2 ∧ c.2 ≤ a.2 + (n : Int))) : c ∈ boxW a n := by
  refine List.mem_flatMap.mpr ⟨(c.1 - a.1 + (n : Int)).toNat, List.mem_range.mpr (by omega), List.mem_map.mpr ⟨(c.2 - a.2 + (n : Int)).toNat, List.mem_range.mpr (by omega), Prod.ext ?_ ?_⟩⟩
  · show a.1 - (n : Int) + ((c.1 - a.1 + (n : Int)).toNat : Int) = c.1
    omega
  · show a.2 - (n : Int) + ((c.2 - a.2 + (n : Int)).toNat : Int) = c.2
    omega
/-- a bounded region lies within a list of cells -/
theorem fin_box {R : List Cell} {c : Cell} (hang : Hangs R) (lR : R.length ≤ 900) (hc : c ∉ R) (no : ¬ Outer R c) : ∃ W : List Cell, W.length ≤ 4000000 ∧ ∀ x, Air R c x → x ∈ W := by
  obtain ⟨a, ha⟩ := List.exists_mem_of_ne_nil R hang.1
  have box : ∀ s ∈ R, (a.1 - (R.length : Int) ≤ s.1 ∧ s.1 ≤ a.1 + (R.length : Int)) ∧ (a.2 - (R.length : Int) ≤ s.2 ∧ s.2 ≤ a.2 + (R.length : Int)) := fun s hs => by
    have := span hang ha hs
    omega
  refine ⟨boxW a R.length, ?_, fun x hx => mem_boxW ?_⟩
  · rw [boxW_len]
    have h : 2 * R.length + 1 ≤ 1801 := by omega
    exact Nat.le_trans (Nat.mul_le_mul h h) (by decide)
  · refine Classical.byContradiction fun n => no (Outer.of (outer_box box (c := x) ?_) hx)
    omega
theorem fin_set {R : List Cell} {c : Cell} (hang : Hangs R) (lR : R.length ≤ 900) (hc : c ∉ R) (no : ¬ Outer R c) : ∃ F : List Cell, ∀ x, Air R c x ↔ x ∈ F := by
  obtain ⟨W, _, h⟩ := fin_box hang lR hc no
  refine ⟨W.filter fun x => @decide (Air R c x) (Classical.propDecidable _), fun x => ⟨fun a => List.mem_filter.mpr ⟨h x a, ?_⟩, fun m => ?_⟩⟩
  · exact @decide_eq_true _ (Classical.propDecidable _) a
  · exact @of_decide_eq_true _ (Classical.propDecidable _) (List.mem_filter.mp m).2
end Sq

set_option Elab.async false
set_option linter.all false
set_option maxRecDepth 100000
set_option maxHeartbeats 8000000
/-! The program's regions. -/
namespace Sq
open PySem PySem.Spec PyProof.Rows L2
section
variable {P : Program} {w : World} {K : PySem.W.Frag} {mg : Str → Option Value} {base : Heap} {Ts : List Addr}
end
end Sq

set_option Elab.async false
set_option linter.all false
set_option maxRecDepth 100000
set_option maxHeartbeats 8000000
/-! The program's region_at. -/
namespace Sq
open PySem PySem.Spec PyProof.Rows L2
section
variable {P : Program} {w : World} {K : PySem.W.Frag} {mg : Str → Option Value} {base : Heap} {Ts : List Addr}
end
end Sq

set_option Elab.async false
set_option linter.all false
set_option maxRecDepth 100000
set_option maxHeartbeats 4000000
/-! The law: the lots of the cells around a body are its regions. -/
namespace Sq
open PySem PySem.Spec PyProof.Rows L2
theorem asc_head {X : List Cell} {m : Cell} (a : Asc X) (hm : m ∈ X) (l : ∀ x ∈ X, cLt x m = false) : X[0]? = some m := by
  cases X with
  | nil => cases hm
  | cons h t =>
    have l1 := l h (List.mem_cons_self ..)
    have l2 : cLt m h = false := by
      rcases List.mem_cons.mp hm with z | z
      · rw [z]
        exact cLt_irr h
      · exact (List.pairwise_cons.mp a).1 m z
    rw [cLt_tri l1 l2]
    rfl
section
variable {R C S firsts : List Cell} {T : Pnt} {m M r Rr : Int} {wd : Nat}
theorem paint_of (ok : PntOk C T) (cov : ∀ x ∈ C, x ∈ cellsP T) {x : Cell} (hx : x ∈ C) : pntC T x ∈ C ∧ Reach C (pntC T x) x ∧ ∃ p ∈ T, p.1 = x ∧ p.2.2 = pntC T x := by
  obtain ⟨p, hp, e⟩ := List.mem_map.mp (cov x hx)
  have e : p.1 = x := e
  have := pntC_of ok.nd hp
  rw [e] at this
  rw [this]
  have h := ok.re p hp
  rw [e] at h
  exact ⟨h.1, h.2, p, hp, e, rfl⟩
theorem paint_eq (ok : PntOk C T) (cov : ∀ x ∈ C, x ∈ cellsP T) {x y : Cell} (hx : x ∈ C) (hy : y ∈ C) (k : Reach C x y) : pntC T x = pntC T y := by
  obtain ⟨_, _, p, hp, e1, e2⟩ := paint_of ok cov hx
  obtain ⟨_, _, q, hq, f1, f2⟩ := paint_of ok cov hy
  rw [← e2, ← f2]
  exact ok.un p hp q hq (by rw [e1, f1]; exact k)
/-- in a field around a body: what is not outer lies in it -/
theorem FieldIs.inn (fi : FieldIs R (wd : Int) m M r Rr C) (w1 : 1 ≤ wd) {c : Cell} (hc : c ∉ R) (no : ¬ Outer R c) : c ∈ C := by
  refine (fi.mem c).mpr ⟨?_, hc⟩
  refine Classical.byContradiction fun n => no (outer_box fi.bx ?_)
  unfold InW at n
  omega
theorem FieldIs.air (fi : FieldIs R (wd : Int) m M r Rr C) (w1 : 1 ≤ wd) {a b : Cell} (ha : a ∈ C) (hb : b ∈ C) : Air R a b ↔ Reach C a b := by
  obtain ⟨x, hx, _⟩ := fi.mm
  have b1 := fi.bx x hx
  exact air_reach (l1 := m - (wd : Int)) (h1 := M + (wd : Int)) (l2 := r - (wd : Int)) (h2 := Rr + (wd : Int)) (by omega) (by omega) (fun c hc => by
    have := fi.bx c hc
    omega) fi.mem ha hb
theorem FieldIs.corner (fi : FieldIs R (wd : Int) m M r Rr C) (w1 : 1 ≤ wd) : C[0]? = some (m - (wd : Int), r - (wd : Int)) ∧ ((m - (wd : Int), r - (wd : Int)) : Cell) ∈ C ∧ Outer R (m - (wd : Int), r - (wd : Int)) := by
  obtain ⟨x, hx, _⟩ := fi.mm
  have b1 := fi.bx x hx
  have mc : ((m - (wd : Int), r - (wd : Int)) : Cell) ∈ C := (fi.mem _).mpr ⟨⟨⟨Int.le_refl _, by show m - (wd : Int) ≤ _; omega⟩, ⟨Int.le_refl _, by show r - (wd : Int) ≤ _; omega⟩⟩, fun h => by
    have := (fi.bx _ h).1.1
    have : m ≤ m - (wd : Int) := this
    omega⟩
  refine ⟨asc_head fi.asc mc fun x hx => ?_, mc, (m - (wd : Int), r - (wd : Int)), .refl, fun s hs => ?_⟩
  · have := ((fi.mem x).mp hx).1
    unfold InW at this
    refine decide_eq_false ?_
    dsimp only
    omega
  · have := fi.bx s hs
    show m - (wd : Int) < s.1
    omega
/-- the lots but the first: the regions -/
theorem lots_reg (fi : FieldIs R (wd : Int) m M r Rr C) (w1 : 1 ≤ wd) (ne : R ≠ []) (li : LotsIs C S firsts T) (ok : PntOk C T) (cov : ∀ x ∈ C, x ∈ cellsP T) (lst : ∀ p ∈ T, ∀ x ∈ C, Reach C p.2.2 x → cLt x p.2.2 = false) {f0 : Cell} (h0 : C[0]? = some f0) :
    RegIs R (firsts.filter fun m => !decide (m = f0)) ((firsts.filter fun m => !decide (m = f0)).map fun m => S.filter fun x => decide (pntC T x = m)) ∧ ∀ m ∈ firsts, (S.filter fun x => decide (pntC T x = m))[0]? = some m := by
  obtain ⟨hc, mc, oc⟩ := fi.corner w1
  have ef : f0 = (m - (wd : Int), r - (wd : Int)) := by
    rw [h0] at hc
    exact Option.some.inj hc
  rw [← ef] at mc oc
  have nf0 : f0 ∉ R := ((fi.mem f0).mp mc).2
  have inS : ∀ x, x ∈ S ↔ x ∈ C := fun x => li.pm.mem_iff
  have lf0 : ∀ x ∈ C, cLt x f0 = false := fun x hx => by
    have := ((fi.mem x).mp hx).1
    unfold InW at this
    rw [ef]
    refine decide_eq_false ?_
    dsimp only
    omega
  -- a first is its own paint
  have fst : ∀ q ∈ firsts, q ∈ C ∧ pntC T q = q ∧ ∀ x ∈ C, Reach C q x → cLt x q = false := fun q hq => by
    obtain ⟨p, hp, hpC, e⟩ := (li.fm q).mp hq
    obtain ⟨h1, h2⟩ := ok.re p hp
    have l := lst p hp
    rw [e] at h1 h2 l
    refine ⟨h1, ?_, l⟩
    have := paint_eq ok cov h1 hpC h2
    rw [this, pntC_of ok.nd hp, e]
  have leastIn : ∀ q ∈ C, (∀ x ∈ C, Reach C q x → cLt x q = false) → q ∈ firsts ∧ pntC T q = q := fun q hq l => by
    obtain ⟨p1, p2, p, hp, e1, e2⟩ := paint_of ok cov hq
    have a := l _ p1 (p2.symm p1)
    have b := lst p hp q hq (by rw [e2]; exact p2)
    rw [e2] at b
    have e := cLt_tri a b
    refine ⟨(li.fm q).mpr ⟨p, hp, by rw [e1]; exact hq, by rw [e2, e]⟩, e⟩
  have memC : ∀ q ∈ firsts, ∀ x, x ∈ S.filter (fun x => decide (pntC T x = q)) ↔ x ∈ C ∧ Reach C q x := fun q hq x => by
    obtain ⟨h1, h2, h3⟩ := fst q hq
    rw [List.mem_filter, inS, decide_eq_true_iff]
    constructor
    · rintro ⟨hx, e⟩
      have := (paint_of ok cov hx).2.1
      rw [e] at this
      exact ⟨hx, this⟩
    · rintro ⟨hx, k⟩
      refine ⟨hx, ?_⟩
      rw [← paint_eq ok cov h1 hx k, h2]
  refine ⟨⟨li.fn.sublist List.filter_sublist, li.fa.sublist List.filter_sublist, fun q => ?_, by rw [List.length_map], fun i q X hq hX => ?_⟩, fun q hq => ?_⟩
  · rw [List.mem_filter]
    constructor
    · rintro ⟨hq, ne0⟩
      have ne0 : q ≠ f0 := by simpa using ne0
      obtain ⟨h1, h2, h3⟩ := fst q hq
      have nq : q ∉ R := ((fi.mem q).mp h1).2
      have no : ¬ Outer R q := fun o => by
        have a := outer_one ne nq o oc nf0
        have k := (fi.air w1 h1 mc).mp a
        exact ne0 (cLt_tri (lf0 q h1) (h3 f0 mc k))
      refine ⟨nq, no, fun d hd => ?_⟩
      have dC := fi.inn w1 (hd.out nq) fun o => no (o.of hd)
      exact h3 d dC ((fi.air w1 h1 dC).mp hd)
    · rintro ⟨nq, no, l⟩
      have qC := fi.inn w1 nq no
      obtain ⟨h1, h2⟩ := leastIn q qC fun x hx k => l x ((fi.air w1 qC hx).mpr k)
      refine ⟨h1, ?_⟩
      have : q ≠ f0 := fun e => no (by rw [e]; exact oc)
      simpa using this
  · rw [List.getElem?_map, hq] at hX
    have hX : S.filter (fun x => decide (pntC T x = q)) = X := Option.some.inj hX
    have hqf := List.mem_filter.mp (List.mem_of_getElem? hq)
    have ne0 : q ≠ f0 := by simpa using hqf.2
    obtain ⟨h1, h2, h3⟩ := fst q hqf.1
    have nq : q ∉ R := ((fi.mem q).mp h1).2
    have no : ¬ Outer R q := fun o => by
      have a := outer_one ne nq o oc nf0
      have k := (fi.air w1 h1 mc).mp a
      exact ne0 (cLt_tri (lf0 q h1) (h3 f0 mc k))
    subst hX
    refine ⟨(li.pm.nodup_iff.mpr fi.nd).sublist List.filter_sublist, li.asc.sublist List.filter_sublist, fun x => ?_⟩
    rw [memC q hqf.1]
    constructor
    · rintro ⟨hx, k⟩
      exact (fi.air w1 h1 hx).mpr k
    · intro a
      have xC := fi.inn w1 (a.out nq) fun o => no (o.of a)
      exact ⟨xC, (fi.air w1 h1 xC).mp a⟩
  · obtain ⟨h1, h2, h3⟩ := fst q hq
    refine asc_head (li.asc.sublist List.filter_sublist) ((memC q hq q).mpr ⟨h1, .refl⟩) fun x hx => ?_
    obtain ⟨xC, k⟩ := (memC q hq x).mp hx
    exact h3 x xC k
end
theorem paired_mapR {α β γ : Type} {F : α → γ → Prop} (f : β → γ) : ∀ {xs : List α} {ys : List β}, Paired (fun a y => F a (f y)) xs ys → Paired F xs (ys.map f)
  | _, _, .nil => .nil
  | _, _, .cons h t => .cons h (paired_mapR f t)
/-- a list of lists of cells -/
def LotsLL (G : Hp) (l : Addr) (Cs : List (List Cell)) : Prop := ∃ rs : List Addr, G l = some (.lst (rs.map V.ref)) ∧ Paired (fun b C => CellsL G b C) rs Cs
def spNRegions : Sp := fun vs H Q _ => ∃ (t : Addr) (R : List Cell), vs = [.ref t] ∧ CellsT H t R ∧ R.Nodup ∧ R ≠ [] ∧ R.length ≤ 900 ∧ (∀ c ∈ R, c.1.natAbs < 100 ∧ c.2.natAbs < 100) ∧ ∀ l G Ms Cs, Same H G → H l = none → LotsLL G l Cs → RegIs R Ms Cs → (∀ C ∈ Cs, C.length ≤ 90000) → Cs.length ≤ 90000 → Q (.ref l) G
abbrev nrN : List Str := ["_law_body", "_law_field", "_law_lot"]
section
variable {P : Program} {w : World} {K : PySem.W.Frag} {mg : Str → Option Value} {base : Heap}
theorem scNRg : FnScope nrN ["_law_body"] (defScope nRegions) := ⟨rfl, rfl, rfl, by decide +kernel, rfl, by decide +kernel, by decide +kernel⟩
theorem ok_nRegions {f : Addr} {fd : FuncData} (F : FnP K "_law_nb_regions" nRegions f fd) (DF : Df P w K mg base CX0 1 "_law_nb_field" ["_law_body", "_law_wide"] spNFieldX) (DL : Df P w K mg base CX0 2 "_law_nb_lots" ["_law_cells"] spNLotsX) : FnOk P w K mg base CX0 3 f fd ["_law_body"] spNRegions := by
  refine F.ok scNRg (fun vs H Q E h => ?_) (fun cdv A outer s H vs Q E hr h => ?_)
  · obtain ⟨t, R, rfl, _⟩ := h
    rfl
  · obtain ⟨t, R, rfl, ct, nR, ne, lR, inn, k⟩ := h
    have h64 := room64 hr
    refine ⟨_, PSs.nox (pss_cons (ps_set (i := 1) scNRg.nd rfl (.inr rfl) (pe_df DF hr (by rfl) pass0 (pa_cons (pv 0) (pa_cons pe_int pa_nil))))
      (pss_one (ps_ret (pe_lc (own := [("_law_lot", 2)]) (g := gName 2) rfl scNRg.nd (pi_listX (K := K) rfl (pe_df DL hr (by rfl) pass0 (pa_cons (pv 1) pa_nil))) (blkOk_by (N := nrN) (sc := defScope nRegions) (by decide +kernel)) (fun _ _ _ _ _ => pg_name (i := 2) scNRg.nd rfl (Or.inl rfl)) (fun _ _ _ _ _ => (pts_one (pt_cmpR (op_neK (K := K) rfl h64) (pe_ix (ix_listK (K := K) rfl) (pv 2) pe_int (fun _ _ => rfl)) (pe_ix (ix_listK (K := K) rfl) (pv 1) pe_int (fun _ _ => rfl)) (nomark _)))) (fun _ _ _ _ _ => (pv 2)))))), ?_⟩
    refine ⟨_, rfl, t, R, 2, rfl, by decide, by decide, ct, nR, ne, by omega, inn, fun fl G1 C m M r Rr s1 _ cfl fi lC => ?_⟩
    obtain ⟨h0, mc, _⟩ := fi.corner (wd := 2) (by decide)
    have neC : C ≠ [] := List.ne_nil_of_mem mc
    refine ⟨_, rfl, fl, C, rfl, cfl, fi.nd, neC, lC, fun l G2 rs S firsts T s2 el li ok cov lst pr => ?_⟩
    obtain ⟨reg, hd⟩ := lots_reg (wd := 2) fi (by decide) ne li ok cov lst h0
    have lf : firsts.length ≤ C.length := len_le li.fn fun q hq => by
      obtain ⟨p, hp, _, e⟩ := (li.fm q).mp hq
      rw [← e]
      exact (ok.re p hp).1
    obtain ⟨cq, ec, pc⟩ := cfl
    obtain ⟨q0, hq0, aq0⟩ : ∃ q, (cq.map V.ref)[0]? = some (.ref q) ∧ At G2 q (m - ((2 : Nat) : Int), r - ((2 : Nat) : Int)) := by
      cases pc with
      | nil => cases h0
      | @cons q c cq C a _ =>
        have : c = _ := Option.some.inj h0
        rw [← this]
        exact ⟨q, rfl, s2 _ _ a⟩
    have ec2 := s2 _ _ ec
    generalize ((m - ((2 : Nat) : Int), r - ((2 : Nat) : Int)) : Cell) = f0 at h0 reg aq0
    have lrs : rs.length = firsts.length := Paired.length pr
    refine ⟨l, rfl, ⟨_, SqL.of el⟩, fun D hD => ?_⟩
    refine w_ofR (walk_list (K := K) (a := l) (xs := rs.map V.ref)) (fun i G => Same G2 G ∧ ∃ rs2 : List Addr, G D = some (.lst (rs2.map V.ref)) ∧ Paired (fun b q => CellsL G2 b (S.filter fun x => decide (pntC T x = q))) rs2 ((firsts.take i).filter fun q => !decide (q = f0))) ⟨same_new hD, [], upd_same, .nil⟩ (fun i G _ p => SqL.of (p.1 _ _ el)) ?_ ?_
    · rintro i x G G' hi ⟨sm, rs2, gD, pr2⟩ ⟨rfl, hx⟩
      rw [List.getElem?_map] at hx
      obtain ⟨b, hb, rfl⟩ := Option.map_eq_some_iff.mp hx
      obtain ⟨q, hq, cb⟩ := paired_get pr hb
      obtain ⟨bs, eb, pb⟩ := id cb
      obtain ⟨z, hz, az⟩ : ∃ z, (bs.map V.ref)[0]? = some (.ref z) ∧ At G' z q := by
        have h1 := hd q (List.mem_of_getElem? hq)
        generalize (S.filter fun x => decide (pntC T x = q)) = X at h1 pb
        cases pb with
        | nil => cases h1
        | @cons z c bs X a _ =>
          have : c = q := Option.some.inj h1
          rw [← this]
          exact ⟨z, rfl, sm _ _ a⟩
      have iF : i < firsts.length := (List.getElem?_eq_some_iff.mp hq).1
      have lr2 : rs2.length ≤ i := by
        rw [Paired.length pr2]
        refine Nat.le_trans (List.length_filter_le _ _) ?_
        rw [List.length_take]
        exact Nat.min_le_left _ _
      refine ⟨rfl, _, rfl, _, _, _, _, rfl, rfl, SqL.of (sm _ _ eb), atI_nat hz, _, rfl, _, _, _, _, rfl, rfl, SqL.of (sm _ _ ec2), atI_nat hq0, cD q, cD f0, az.dp, (aq0.same sm).dp, cD_shaped q, cD_shaped f0, _, rfl, ?_⟩
      rw [cD_eqv]
      refine ite2 (fun h1 => ?_) (fun h1 => ?_)
      · refine ⟨_, rfl, _, gD, by rw [List.length_map, sizeLine_eq]; omega, same_put sm hD, rs2 ++ [b], by rw [upd_same, List.map_append]; rfl, ?_⟩
        rw [take_snoc hq, List.filter_append, List.filter_cons, h1, if_pos rfl]
        exact pr2.snoc cb
      · refine ⟨sm, rs2, gD, ?_⟩
        rw [take_snoc hq, List.filter_append, List.filter_cons, if_neg h1]
        simpa using pr2
    · rintro G ⟨sm, rs2, gD, pr2⟩
      rw [List.length_map, lrs, List.take_length] at pr2
      refine k D G _ _ ((s1.trans s2).trans sm) (s1.free (s2.free hD)) ⟨rs2, gD, paired_mapR (fun q => S.filter fun x => decide (pntC T x = q)) (paired_imp (fun b q (h : CellsL G2 b _) => (show CellsL G b (S.filter fun x => decide (pntC T x = q)) from by
        obtain ⟨bs, eb, pb⟩ := h
        exact ⟨bs, sm _ _ eb, paired_imp (fun _ _ h => h.same sm) pb⟩)) pr2)⟩ reg (fun X hX => ?_) ?_
      · obtain ⟨q, _, rfl⟩ := List.mem_map.mp hX
        refine Nat.le_trans (List.length_filter_le _ _) ?_
        rw [li.pm.length_eq]
        exact lC
      · rw [List.length_map]
        exact Nat.le_trans (List.length_filter_le _ _) (Nat.le_trans lf lC)
end
end Sq

set_option Elab.async false
set_option linter.all false
set_option maxRecDepth 100000
set_option maxHeartbeats 4000000
/-! The law: the number of a cell's region. -/
namespace Sq
open PySem PySem.Spec PyProof.Rows L2
/-- the first list of Cs that has c, from 1 on, or 0 -/
def NumIn (Cs : List (List Cell)) (c : Cell) (n : Nat) : Prop := (n = 0 ∧ ∀ C ∈ Cs, c ∉ C) ∨ ∃ (i : Nat) (C : List Cell), Cs[i]? = some C ∧ c ∈ C ∧ n = i + 1
theorem numIn_of {R Ms : List Cell} {Cs : List (List Cell)} {c : Cell} {n : Nat} (h : RegIs R Ms Cs) (fin : ∀ c, c ∉ R → ¬ Outer R c → ∃ F : List Cell, ∀ d, Air R c d ↔ d ∈ F) (hc : c ∉ R) (k : NumIn Cs c n) : NumOf R Ms c n := by
  rcases k with ⟨rfl, no⟩ | ⟨i, C, hi, hC, rfl⟩
  · refine .inl ⟨Classical.byContradiction fun o => ?_, rfl⟩
    obtain ⟨F, hF⟩ := fin c hc o
    obtain ⟨m, hm, lm⟩ := least_ex (List.ne_nil_of_mem ((hF c).mp .refl))
    have am := (hF m).mpr hm
    have nm := am.out hc
    have mM : m ∈ Ms := (h.mem m).mpr ⟨nm, fun q => o (q.of am), fun d hd => lm d ((hF d).mp (am.trans hd))⟩
    obtain ⟨i, hi⟩ := List.mem_iff_getElem?.mp mM
    have li := (List.getElem?_eq_some_iff.mp hi).1
    obtain ⟨C, hC⟩ : ∃ C, Cs[i]? = some C := ⟨_, List.getElem?_eq_getElem (by rw [h.len]; exact li)⟩
    obtain ⟨_, _, mem⟩ := h.pr i m C hi hC
    exact no C (List.mem_of_getElem? hC) ((mem c).mpr (am.symm hc))
  · have li := (List.getElem?_eq_some_iff.mp hi).1
    rw [h.len] at li
    obtain ⟨m, hm⟩ : ∃ m, Ms[i]? = some m := ⟨_, List.getElem?_eq_getElem li⟩
    obtain ⟨_, _, mem⟩ := h.pr i m C hm hi
    exact .inr ⟨i, m, hm, (mem c).mp hC, rfl⟩
def nVi (n : Nat) : V := .int (n : Int)
def nDi (n : Nat) : PyData := .int (n : Int)
theorem dps_n {K : PySem.W.Frag} {H : Hp} : ∀ ns : List Nat, DpAll K H (ns.map nVi) (ns.map nDi)
  | [] => .nil
  | n :: ns => .cons (.int _) (dps_n ns)
theorem lay_n {ns : List Nat} : Lay 1 (.list (ns.map nDi)) := lay_list fun d hd => by
  obtain ⟨n, _, rfl⟩ := List.mem_map.mp hd
  exact lay_int _
theorem atI_natI {xs : List V} {i : Int} {n : Nat} {v : V} (e : i = (n : Int)) (h : xs[n]? = some v) : atI xs i = some v := by
  rw [e]
  exact atI_nat h
def spNNumber : Sp := fun vs H Q _ => ∃ (l q : Addr) (Cs : List (List Cell)) (c : Cell), vs = [.ref l, .ref q] ∧ LotsLL H l Cs ∧ At H q c ∧ Cs.length ≤ 1000000 ∧ ∀ G n, Same H G → NumIn Cs c n → Q (.int (n : Int)) G
abbrev nuN : List Str := ["_law_lots", "_law_cell", "_law_found", "_law_n"]
section
variable {P : Program} {w : World} {K : PySem.W.Frag} {mg : Str → Option Value} {base : Heap}
theorem scNNu : FnScope nuN ["_law_lots", "_law_cell"] (defScope nNumber) := ⟨rfl, rfl, rfl, by decide +kernel, rfl, by decide +kernel, by decide +kernel⟩
theorem ok_nNumber {f : Addr} {fd : FuncData} (F : FnP K "_law_nb_number" nNumber f fd) (B : Bl mg) : FnOk P w K mg base CX0 1 f fd ["_law_lots", "_law_cell"] spNNumber := by
  refine F.ok scNNu (fun vs H Q E h => ?_) (fun cdv A outer s H vs Q E hr h => ?_)
  · obtain ⟨l, q, Cs, c, rfl, _⟩ := h
    rfl
  · obtain ⟨l, q, Cs, c, rfl, ⟨rs, el, pr⟩, aq, lC, k⟩ := h
    have h64 := room64 hr
    refine ⟨_, PSs.nox (pss_cons (ps_setLc (i := 2) (own := [("_law_n", 3)]) (g := gName 3) (by rfl) scNNu.nd rfl rfl (sw_true rfl rfl rfl (by decide +kernel)) (pi_range1 (by rfl) B.range (pa_cons (pe_callB call_len_seq (by rfl) B.len PySem.boot_len (pa_cons (pv 0) pa_nil)) pa_nil)) (blkOk_by (N := nuN) (sc := defScope nNumber) (by decide +kernel)) (fun _ _ _ _ _ => pg_name (i := 3) scNNu.nd rfl (Or.inl rfl)) (fun _ _ _ _ _ => (pts_one (pt_cmpR (op_inH h64) (pv 1) (pe_ix (ix_listK (K := K) rfl) (pv 0) (pv 3) (fun _ _ => rfl)) (by rfl)))) (fun _ _ _ _ _ => (pv 3)))
      (pss_one (ps_ret (pe_ifExp (pt_cmpR (op_neK (K := K) rfl h64) (pv 2) (pe_lst pa_nil) (nomark _)) (pe_op op_add (pe_ix (ix_listK (K := K) rfl) (pv 2) pe_int (fun _ _ => rfl)) pe_int) pe_int)))), ?_⟩
    have lrs : rs.length = Cs.length := Paired.length pr
    refine ⟨_, rfl, l, _, rfl, .inl (SqL.of el), ?_⟩
    rw [List.length_map, lrs]
    refine ⟨_, rfl, by omega, by omega, fun D hD => ?_⟩
    refine w_ofR (walk_range (lo := 0) (n := ((Cs.length : Int)).toNat)) (fun i G => Same H G ∧ ∃ ns : List Nat, G D = some (.lst (ns.map nVi)) ∧ ns.length ≤ i ∧ (∀ n, n ∈ ns ↔ n < i ∧ ∃ C, Cs[n]? = some C ∧ c ∈ C)) ⟨same_new hD, [], upd_same, Nat.le_refl _, fun n => by simp⟩ (fun _ _ _ _ => trivial) ?_ ?_
    · rintro i x G G' hi ⟨sm, ns, gD, ln, mem⟩ ⟨rfl, rfl⟩
      have hi : i < Cs.length := by omega
      obtain ⟨C, hC⟩ : ∃ C, Cs[i]? = some C := ⟨_, List.getElem?_eq_getElem hi⟩
      obtain ⟨b, hb⟩ : ∃ b, rs[i]? = some b := ⟨_, List.getElem?_eq_getElem (by omega)⟩
      obtain ⟨C', hC', bs, eb, pb⟩ := paired_get pr hb
      obtain rfl : C' = C := by rw [hC] at hC'; exact (Option.some.inj hC').symm
      refine ⟨rfl, _, rfl, _, rfl, _, rfl, l, _, _, .ref b, rfl, rfl, SqL.of (sm _ _ el), atI_natI (n := i) (by omega) (by rw [List.getElem?_map, hb]; rfl), q, b, c, C', rfl, rfl, sm _ _ aq, ⟨bs, sm _ _ eb, paired_imp (fun _ _ h => sm _ _ h) pb⟩, _, rfl, ?_⟩
      refine ite2 (fun h1 => ?_) (fun h1 => ?_)
      · have cC := of_decide_eq_true h1
        refine ⟨_, rfl, _, gD, by rw [List.length_map, sizeLine_eq]; omega, same_put sm hD, ns ++ [i], by rw [upd_same, List.map_append]; show some (HO.lst (_ ++ [V.int (0 + (i : Int))])) = some (HO.lst (_ ++ [V.int ((i : Nat) : Int)])); rw [Int.zero_add], by rw [List.length_append]; exact Nat.succ_le_succ ln, fun n => ?_⟩
        rw [List.mem_append, mem, List.mem_singleton]
        constructor
        · rintro (⟨h, k⟩ | rfl)
          · exact ⟨by omega, k⟩
          · exact ⟨by omega, C', hC, cC⟩
        · rintro ⟨h, k⟩
          by_cases z : n = i
          · exact .inr z
          · exact .inl ⟨by omega, k⟩
      · have cC : c ∉ C' := fun z => h1 (decide_eq_true z)
        refine ⟨sm, ns, gD, Nat.le_succ_of_le ln, fun n => ?_⟩
        rw [mem]
        constructor
        · rintro ⟨h, k⟩
          exact ⟨by omega, k⟩
        · rintro ⟨h, k⟩
          by_cases z : n = i
          · obtain ⟨C2, h2, h3⟩ := k
            rw [z, hC] at h2
            rw [← Option.some.inj h2] at h3
            exact absurd h3 cC
          · exact ⟨by omega, k⟩
    rintro G ⟨sm, ns, gD, ln, mem⟩
    refine ⟨_, rfl, Nat.zero_le _, fun e he => ?_⟩
    have s2 := same_new (o := .lst []) he
    have gD2 := s2 _ _ gD
    refine ⟨.list (ns.map nDi), .list [], .lst (SqL.of gD2) (dps_n ns), .lst (SqL.of upd_same) .nil, lay_n.shaped (by decide), (lay_list (n := 0) (ds := []) (by simp)).shaped (by decide), _, rfl, ?_⟩
    rw [eqv_nilD]
    have sm2 := sm.trans s2
    generalize upd G e (.lst []) = G2 at gD2 sm2
    cases ns with
    | nil =>
      refine iteF ?_
      refine k G2 0 sm2 (.inl ⟨rfl, fun C hC cC => ?_⟩)
      obtain ⟨i, hi⟩ := List.mem_iff_getElem?.mp hC
      have := (mem i).mpr ⟨by have := (List.getElem?_eq_some_iff.mp hi).1; omega, C, hi, cC⟩
      cases this
    | cons n ns =>
      refine iteT ?_
      refine ⟨_, rfl, D, _, _, _, rfl, rfl, SqL.of gD2, at0, _, _, rfl, rfl, ?_⟩
      obtain ⟨_, C, hC, cC⟩ := (mem n).mp (List.mem_cons_self ..)
      exact k G2 (n + 1) sm2 (.inr ⟨n, C, hC, cC, rfl⟩)
end
end Sq

set_option Elab.async false
set_option linter.all false
set_option maxRecDepth 100000
set_option maxHeartbeats 1000000
/-! Great rings. -/
namespace Sq
open PySem PySem.Spec PyProof.Rows L2
end Sq

set_option Elab.async false
set_option linter.all false
set_option maxRecDepth 100000
set_option maxHeartbeats 4000000
/-! What the laws of regions need in common. -/
namespace Sq
open PySem PySem.Spec PyProof.Rows L2
/-- a body at t -/
structure BdAt (H : Hp) (t : Addr) (R : List Cell) : Prop where
  ct : CellsT H t R
  nd : R.Nodup
  asc : Asc R
  len : R.length ≤ 900
  hang : Hangs R
theorem BdAt.ek {H G : Hp} {t : Addr} {R : List Cell} (h : BdAt H t R) (k : Ek H G) : BdAt G t R := ⟨h.ct.ek k, h.nd, h.asc, h.len, h.hang⟩
theorem kt_penC11 {Ts : List Addr} {H G : Hp} {p c : Addr} {n : Nat} (k : KT Ts H G) (h : PenC H p c n) : PenC G p c n := by
  obtain ⟨zs, i, dg, fo, e1, e2, r⟩ := h.ex
  exact ⟨⟨zs, i, dg, fo, k.get e1 (fun _ z => nomatch z), k.get e2 (fun _ z => nomatch z), r⟩⟩
theorem RegIs.apart {R Ms : List Cell} {Cs : List (List Cell)} (h : RegIs R Ms Cs) {i j : Nat} {C C' : List Cell} {x : Cell} (hC : Cs[i]? = some C) (hC' : Cs[j]? = some C') (hx : x ∈ C) (hx' : x ∈ C') : i = j := by
  have li := (List.getElem?_eq_some_iff.mp hC).1
  have lj := (List.getElem?_eq_some_iff.mp hC').1
  rw [h.len] at li lj
  obtain ⟨m, hm⟩ : ∃ m, Ms[i]? = some m := ⟨_, List.getElem?_eq_getElem li⟩
  obtain ⟨m', hm'⟩ : ∃ m, Ms[j]? = some m := ⟨_, List.getElem?_eq_getElem lj⟩
  have a := ((h.pr i m C hm hC).2.2 x).mp hx
  have b := ((h.pr j m' C' hm' hC').2.2 x).mp hx'
  have h1 := (h.mem m).mp (List.mem_of_getElem? hm)
  have h2 := (h.mem m').mp (List.mem_of_getElem? hm')
  have am : Air R m m' := a.trans (b.symm h2.1)
  have em : m = m' := cLt_tri (h2.2.2 m (am.symm h1.1)) (h1.2.2 m' am)
  subst em
  exact (List.getElem?_inj li h.nd).mp (hm.trans hm'.symm)
/-- what is known of a region's list -/
theorem RegIs.at {R Ms : List Cell} {Cs : List (List Cell)} (h : RegIs R Ms Cs) {i : Nat} {C : List Cell} (hC : Cs[i]? = some C) : C ≠ [] ∧ ∀ x ∈ C, x ∉ R ∧ ∃ m, Ms[i]? = some m ∧ Air R m x := by
  have li := (List.getElem?_eq_some_iff.mp hC).1
  rw [h.len] at li
  obtain ⟨m, hm⟩ : ∃ m, Ms[i]? = some m := ⟨_, List.getElem?_eq_getElem li⟩
  obtain ⟨_, _, mem⟩ := h.pr i m C hm hC
  have h1 := (h.mem m).mp (List.mem_of_getElem? hm)
  refine ⟨List.ne_nil_of_mem ((mem m).mpr .refl), fun x hx => ?_⟩
  have a := (mem x).mp hx
  exact ⟨a.out h1.1, m, hm, a⟩
theorem lotsLL_ek {H G : Hp} {l : Addr} {Cs : List (List Cell)} (h : LotsLL H l Cs) (k : Ek H G) : LotsLL G l Cs := by
  obtain ⟨rs, e, pr⟩ := h
  exact ⟨rs, k _ _ (fun _ z => nomatch z) (fun _ z => nomatch z) e, paired_imp (fun _ _ (h : CellsL H _ _) => h.ek k) pr⟩
def lD (C : List Cell) : PyData := .list (C.map cD)
theorem eqv_lD (L M : List Cell) : PyData.eqv (lD L) (lD M) = decide (L = M) := eqv_bD L M
/-- regions are as few as the squares -/
theorem RegIs.few {R Ms : List Cell} {Cs : List (List Cell)} (h : RegIs R Ms Cs) : Cs.length ≤ R.length := by
  rw [h.len]
  have nd : (Ms.map fun m => ((m.1 - 1, m.2) : Cell)).Nodup := List.pairwise_map.mpr (h.nd.imp fun {a b} n e => n (Prod.ext (by
    have := (Prod.mk.inj e).1
    omega) (Prod.mk.inj e).2))
  have := len_le nd (ys := R) fun x hx => by
    obtain ⟨m, hm, rfl⟩ := List.mem_map.mp hx
    exact least_west (a := m) .refl ((h.mem m).mp hm).2.2
  rwa [List.length_map] at this
end Sq

set_option Elab.async false
set_option linter.all false
set_option maxRecDepth 100000
set_option maxHeartbeats 4000000
/-! The program's border. -/
namespace Sq
open PySem PySem.Spec PyProof.Rows L2
section
variable {P : Program} {w : World} {K : PySem.W.Frag} {mg : Str → Option Value} {base : Heap} {Ts : List Addr}
end
end Sq

set_option Elab.async false
set_option linter.all false
set_option maxRecDepth 100000
set_option maxHeartbeats 1000000
/-! The side that follows, by the ends of the walls. -/
namespace Sq
end Sq

set_option Elab.async false
set_option linter.all false
set_option maxRecDepth 100000
set_option maxHeartbeats 4000000
/-! The law: walls' ends, the side that follows. -/
namespace Sq
open PySem PySem.Spec PyProof.Rows L2
section
variable {P : Program} {w : World} {K : PySem.W.Frag} {mg : Str → Option Value} {base : Heap}
end
end Sq

set_option Elab.async false
set_option linter.all false
set_option maxRecDepth 100000
set_option maxHeartbeats 4000000
/-! The law: the sides of a region. -/
namespace Sq
open PySem PySem.Spec PyProof.Rows L2
/-- the sides with number n, in order -/
structure SidesIs (R Ms : List Cell) (n : Nat) (S : List Side) : Prop where
  nd : S.Nodup
  pw : S.Pairwise fun a b => ¬ sideLt b a
  mem : ∀ e, e ∈ S ↔ IsSide R e ∧ NumOf R Ms e.1 n
  len : S.length ≤ 4 * R.length
def spNSides : Sp := fun vs H Q _ => ∃ (t ll : Addr) (n : Nat) (R Ms : List Cell) (Cs : List (List Cell)), vs = [.ref t, .ref ll, .int (n : Int)] ∧ BdAt H t R ∧ LotsLL H ll Cs ∧ RegIs R Ms Cs ∧ ∀ l G S, Same H G → PairsL G l S → SidesIs R Ms n S → Q (.ref l) G
abbrev nsdN : List Str := ["_law_body", "_law_lots", "_law_number", "_law_found", "_law_square", "_law_cell"]
section
variable {P : Program} {w : World} {K : PySem.W.Frag} {mg : Str → Option Value} {base : Heap}
theorem scNSd : FnScope nsdN ["_law_body", "_law_lots", "_law_number"] (defScope nSides) := ⟨rfl, rfl, rfl, by decide +kernel, rfl, by decide +kernel, by decide +kernel⟩
theorem ok_nSides {f : Addr} {fd : FuncData} (F : FnP K "_law_nb_sides" nSides f fd) (B : Bl mg) (DB : Df P w K mg base CX0 1 "_law_nb_beside" ["_law_cell"] spNBeside) (DN : Df P w K mg base CX0 1 "_law_nb_number" ["_law_lots", "_law_cell"] spNNumber) : FnOk P w K mg base CX0 2 f fd ["_law_body", "_law_lots", "_law_number"] spNSides := by
  refine F.ok scNSd (fun vs H Q E h => ?_) (fun cdv A outer s H vs Q E hr h => ?_)
  · obtain ⟨t, ll, n, R, Ms, Cs, rfl, _⟩ := h
    rfl
  · obtain ⟨t, ll, n, R, Ms, Cs, rfl, bt, lo, reg, k⟩ := h
    have h64 := room64 hr
    refine ⟨_, PSs.nox (pss_cons (ps_set (i := 3) scNSd.nd rfl (.inl rfl) (pe_lst pa_nil))
      (pss_cons (ps_for PassesOwn.never rfl (pi_tup (pv 0)) (pg_name (i := 4) scNSd.nd rfl (.inl rfl))
      (pss_one (ps_for PassesOwn.never rfl (pi_list (pe_df DB hr (by rfl) pass0 (pa_cons (pv 4) pa_nil))) (pg_name (i := 5) scNSd.nd rfl (.inl rfl))
        (pss_one (ps_if (PW.pt (pw_and (pt_cmpR (op_outT h64) (pv 5) (pv 0) (by rfl)) (pw_and1 (pt_cmpR op_eq (pe_df DN hr (by rfl) pass0 (pa_cons (pv 1) (pa_cons (pv 5) pa_nil))) (pv 2) (nomark _)))))
          (pss_one (ps_expr (pe_bm PySem.F.plainAttrs_list PySem.F.slot_list_append PySem.F.type_list_append mt_append (pv 3) (pa_cons (pe_tup (pa_cons (pv 5) (pa_cons (pv 4) pa_nil))) pa_nil))))
          pss_nil)))))
      (pss_one (ps_ret (pe_callB (cr_sortedDFK' (K := K) rfl h64) (by rfl) B.sorted (by decide +kernel) (pa_cons (pv 3) pa_nil)))))), ?_⟩
    obtain ⟨qs, et, pq⟩ := id bt.ct
    have lqs : qs.length = R.length := Paired.length pq
    have lR := bt.len
    have nR := bt.nd
    have few := reg.few
    have fin : ∀ c, c ∉ R → ¬ Outer R c → ∃ F : List Cell, ∀ d, Air R c d ↔ d ∈ F := fun c hc hn => fin_set bt.hang bt.len hc hn
    refine ⟨Nat.zero_le _, fun fo hfo => ?_⟩
    have s0 := same_new (o := HO.lst []) hfo
    have e0 := upd_same (H := H) (a := fo) (o := HO.lst [])
    generalize upd H fo (.lst []) = H1 at s0 e0
    refine ⟨_, rfl, t, rfl, ⟨_, SqT.of (s0 _ _ et)⟩, ?_⟩
    refine for_tup (K := K) (a := t) (xs := qs.map V.ref) (fun i σ G => ∃ (v4 v5 : Option V) (rs : List Addr) (es : List Side), σ = [some (.ref t), some (.ref ll), some (.int (n : Int)), some (.ref fo), v4, v5] ∧ Same H G ∧ G fo = some (.lst (rs.map V.ref)) ∧ Paired (fun r e => PairAt G r e) rs es ∧ es.length ≤ 4 * i ∧ es.Nodup ∧ ∀ e, e ∈ es ↔ e.2 ∈ R.take i ∧ e.1 ∈ besideC e.2 ∧ e.1 ∉ R ∧ NumOf R Ms e.1 n)
      ⟨none, none, [], [], rfl, s0, e0, .nil, Nat.le_refl _, .nil, fun e => by simp⟩ (fun i σ G _ ⟨_, _, _, _, _, sm, _⟩ => SqT.of (sm _ _ et)) ?_ ?_
    · rintro i x σ G hi ⟨v4, v5, rs, es, rfl, sm, gF, prs, les, ndE, mem⟩
      rw [List.getElem?_map] at hi
      obtain ⟨q, hq, rfl⟩ := Option.map_eq_some_iff.mp hi
      obtain ⟨c, hc, ac⟩ := paired_get pq hq
      have iR : i < R.length := (List.getElem?_eq_some_iff.mp hc).1
      have cT : c ∉ R.take i := nodup_take nR hc
      refine ⟨_, rfl, q, c, rfl, sm _ _ ac, fun lb G2 s2 hlb ⟨bs, eb, pb⟩ => ?_⟩
      have nbf : lb ≠ fo := fun z => by rw [z, gF] at hlb; cases hlb
      have gF2 := s2 _ _ gF
      refine ⟨lb, rfl, ⟨_, SqL.of eb⟩, ?_⟩
      refine for_list (K := K) (a := lb) (xs := bs.map V.ref) (fun j σ G3 => ∃ (v5 : Option V) (rs2 : List Addr) (es2 : List Side), σ = [some (.ref t), some (.ref ll), some (.int (n : Int)), some (.ref fo), some (.ref q), v5] ∧ Same H G3 ∧ KpD fo G2 G3 ∧ Tk G2 G3 ∧ G3 fo = some (.lst (rs2.map V.ref)) ∧ Paired (fun r e => PairAt G3 r e) rs2 es2 ∧ es2.length ≤ 4 * i + j ∧ es2.Nodup ∧ ∀ e, e ∈ es2 ↔ e ∈ es ∨ (e.2 = c ∧ e.1 ∈ (nbC c).take j ∧ e.1 ∉ R ∧ NumOf R Ms e.1 n))
        ⟨v5, rs, es, rfl, sm.trans s2, fun _ _ _ e => e, fun _ _ e => e, gF2, paired_imp (fun _ _ (h : PairAt G _ _) => h.same s2) prs, les, ndE, fun e => by simp⟩ (fun j σ G3 _ ⟨_, _, _, _, _, kp, _⟩ => SqL.of (kp _ _ nbf eb)) ?_ ?_
      · rintro j x σ G3 hj ⟨v5, rs2, es2, rfl, sm3, kp3, tk3, gF3, prs2, les2, nd2, mem2⟩
        rw [List.getElem?_map] at hj
        obtain ⟨z, hz, rfl⟩ := Option.map_eq_some_iff.mp hj
        obtain ⟨y, hy, ay⟩ := paired_get pb hz
        have j4 : j < 4 := by
          have := (List.getElem?_eq_some_iff.mp hy).1
          exact this
        have ay3 : At G3 z y := tk3 _ _ ay
        have skip : (y ∉ R → ¬ NumOf R Ms y n) → ∀ e, e ∈ es2 ↔ e ∈ es ∨ (e.2 = c ∧ e.1 ∈ (nbC c).take (j + 1) ∧ e.1 ∉ R ∧ NumOf R Ms e.1 n) := fun ns e => by
          rw [mem2, take_snoc hy, List.mem_append, List.mem_singleton]
          refine or_congr Iff.rfl ⟨fun ⟨a, b, d⟩ => ⟨a, .inl b, d⟩, fun ⟨a, b, d1, d2⟩ => b.elim (fun b => ⟨a, b, d1, d2⟩) fun b => ?_⟩
          rw [b] at d1 d2
          exact absurd d2 (ns d1)
        refine ⟨_, rfl, _, rfl, z, t, y, R, rfl, rfl, ay3, bt.ct.ek (.of sm3), _, rfl, ?_⟩
        refine ite2 (fun h1 => ?_) (fun h1 => ?_)
        · have yR : y ∉ R := by simpa using h1
          refine ⟨_, rfl, _, rfl, ll, z, Cs, y, rfl, lotsLL_ek lo (.of sm3), ay3, by omega, fun G4 n2 s4 ni => ?_⟩
          have no := numIn_of reg fin yR ni
          have gF4 := s4 _ _ gF3
          have sm4 := sm3.trans s4
          have prs4 := paired_imp (fun _ _ (h : PairAt G3 _ _) => h.same s4) prs2
          have kp4 : KpD fo G2 G4 := fun b o nb e => s4 _ _ (kp3 b o nb e)
          have tk4 : Tk G2 G4 := fun b xs e => s4 _ _ (tk3 b xs e)
          have lrs2 : rs2.length = es2.length := Paired.length prs2
          refine ⟨_, rfl, rfl, _, rfl, ?_⟩
          refine ite2 (fun h2 => ?_) (fun h2 => ?_)
          · have e2 : n2 = n := by
              have := V.int.inj (of_decide_eq_true h2)
              omega
            subst e2
            refine ⟨_, rfl, .inl ⟨rfl, _, SqL.of gF4⟩, _, rfl, _, rfl, two_le, fun u hu => ?_⟩
            have s5 := same_new (o := HO.tup [.ref z, .ref q]) hu
            have gF5 := s5 _ _ gF4
            have nuf : fo ≠ u := ne_of_none gF4 hu
            refine ⟨fo, _, _, rfl, rfl, gF5, by rw [List.length_map, sizeLine_eq]; omega, ?_⟩
            have tk : Tk G4 (upd (upd G4 u (.tup [.ref z, .ref q])) fo (.lst (rs2.map V.ref ++ [V.ref u]))) := (tk_of s5).trans (tk_upd gF5 fun xs z => nomatch z)
            have ny : (y, c) ∉ es2 := fun m => by
              rcases (mem2 _).mp m with h | ⟨_, h, _⟩
              · exact cT ((mem _).mp h).1
              · have ndb : (nbC c).Nodup := by
                  unfold nbC
                  simp only [List.nodup_cons, List.mem_cons, List.not_mem_nil, or_false, Prod.mk.injEq, not_or, List.nodup_nil, and_true, not_false_eq_true]
                  omega
                exact nodup_take ndb hy h
            refine ⟨_, rs2 ++ [u], es2 ++ [(y, c)], rfl, same_put (sm4.trans s5) hfo, fun b o nb e => ?_, tk4.trans tk, by rw [upd_same, List.map_append]; rfl, (paired_imp (fun _ _ (h : PairAt G4 _ _) => h.keep tk) prs4).snoc ⟨z, q, by rw [upd_ne nuf.symm, upd_same], tk _ _ (s4 _ _ ay3), tk _ _ (sm4 _ _ ac)⟩, by rw [List.length_append]; show _ + 1 ≤ _; omega, List.nodup_append.mpr ⟨nd2, by simp, fun a ha b hb e => ny (by rw [List.mem_singleton.mp hb] at e; rw [← e]; exact ha)⟩, fun e => ?_⟩
            · rw [upd_ne nb]
              exact s5 _ _ (kp4 b o nb e)
            · rw [List.mem_append, mem2, List.mem_singleton, take_snoc hy, List.mem_append, List.mem_singleton]
              constructor
              · rintro ((h | ⟨a, b, d⟩) | rfl)
                · exact .inl h
                · exact .inr ⟨a, .inl b, d⟩
                · exact .inr ⟨rfl, .inr rfl, yR, no⟩
              · rintro (h | ⟨a, b | b, d⟩)
                · exact .inl (.inl h)
                · exact .inl (.inr ⟨a, b, d⟩)
                · exact .inr (Prod.ext b a)
          · have ne : n2 ≠ n := fun z => h2 (decide_eq_true (by rw [z]))
            exact ⟨_, rs2, es2, rfl, sm4, kp4, tk4, gF4, prs4, by omega, nd2, skip fun _ o => ne (no.uniq reg yR o)⟩
        · have yR : y ∈ R := by simpa using h1
          exact ⟨_, rs2, es2, rfl, sm3, kp3, tk3, gF3, prs2, by omega, nd2, skip fun n => absurd yR n⟩
      · rintro σ G3 ⟨v5, rs2, es2, rfl, sm3, kp3, tk3, gF3, prs2, les2, nd2, mem2⟩
        have e4 : (bs.map V.ref).length = 4 := by rw [List.length_map, Paired.length pb]; rfl
        rw [e4] at les2 mem2
        refine ⟨_, _, rs2, es2, rfl, sm3, gF3, prs2, by omega, nd2, fun e => ?_⟩
        rw [mem2, mem, take_snoc hc, List.mem_append, List.mem_singleton, show (nbC c).take 4 = nbC c from rfl, mem_nbC]
        constructor
        · rintro (⟨a, b⟩ | ⟨a, b, d⟩)
          · exact ⟨.inl a, b⟩
          · exact ⟨.inr a, by rw [a]; exact b, d⟩
        · rintro ⟨a | a, b, d⟩
          · exact .inl ⟨a, b, d⟩
          · exact .inr ⟨a, by rw [← a]; exact b, d⟩
    · rintro σ G ⟨v4, v5, rs, es, rfl, sm, gF, prs, les, ndE, mem⟩
      rw [List.length_map, lqs] at les
      rw [List.length_map, lqs, List.take_length] at mem
      refine ⟨_, rfl, fo, rs, CellP, pD, (fun r e => PairAt G r e), es, rfl, SqL.of gF, prs, fun x b h => h.dp, alike_pD, PySem.W.Sortable.tuples (fun b => ⟨_, _, rfl⟩), fun b _ => Nat.le_trans (lay_pD b).2 (by decide), fun ys so prY hso => ?_⟩
      have s6 := same_new (o := HO.lst (ys.map V.ref)) hso
      refine k so _ (es.mergeSort (PySem.W.dataLe false pD)) (sm.trans s6) ⟨ys, upd_same, paired_imp (fun _ _ (h : PairAt G _ _) => h.same s6) prY⟩ ⟨(List.mergeSort_perm _ _).nodup_iff.mpr ndE, sides_sort es, fun e => ?_, by rw [List.length_mergeSort]; exact les⟩
      rw [List.mem_mergeSort, mem]
      exact ⟨fun ⟨a, b, d1, d2⟩ => ⟨⟨d1, a, beside_symm b⟩, d2⟩, fun ⟨h, d⟩ => ⟨h.sq, beside_symm h.bs, h.out, d⟩⟩
end
end Sq

set_option Elab.async false
set_option linter.all false
set_option maxRecDepth 100000
set_option maxHeartbeats 4000000
/-! sorted(t), t a tuple of cells. -/
namespace Sq
open PySem PySem.Spec PyProof.Rows L2
section
variable {X : Cx}
def rSortCT (K : PySem.W.Frag) : List V → Hp → VK → Prop := fun vs H Q => ∃ (a : Addr) (qs : List Addr) (cs : List Cell), vs = [V.ref a] ∧ SqT K H a (qs.map V.ref) ∧ Paired (fun q c => At H q c) qs cs ∧ sortedK H cs Q
theorem cr_sortedCT : CallR X (.builtin "sorted") (rSortCT X.K) := by
  intro pins s σ H vs us Q I r h
  obtain ⟨a, qs, cs, rfl, hs, pr, k⟩ := h
  obtain ⟨its, rv, ⟨o, ho, hc, n, hd⟩, hz⟩ := I.tuple hs
  rw [Vals.ref1 r]
  have lz : its.length ≤ sizeLine := by rw [← rv.length]; exact hz
  obtain rfl := vals_ref rv
  refine sorted_src (k := kVal H) (wpAny_collect_seq a (.inr rfl) ho hc hd (fun h' kp => ?_) (by simpa using lz))
  have I1 := I.kept (t' := s.toks) kp
  exact sort_fin I1 (by simp) pr (by simpa using lz) (fun _ _ e => e) (Nat.le_refl _) rfl rfl k
end
end Sq

set_option Elab.async false
set_option linter.all false
set_option maxRecDepth 100000
set_option maxHeartbeats 4000000
/-! The law: steps and distances along a rest that is a tuple. -/
namespace Sq
open PySem PySem.Spec PyProof.Rows L2
def spNBothT : Sp := fun vs H Q _ => ∃ (l p q : Addr) (R : List Cell) (s e d : Cell), vs = [.ref l, .ref p, .ref q, .int d.1, .int d.2] ∧ CellsT H l R ∧ At H p s ∧ At H q e ∧ ∀ H', Same H H' → Q (.bl (sideB R s e d)) H'
def spNStepsT : Sp := fun vs H Q _ => ∃ (l p : Addr) (R : List Cell) (s : Cell), vs = [.ref l, .ref p] ∧ CellsT H l R ∧ At H p s ∧ ∀ r H' es, Same H H' → H r = none → CellsL H' r es → es.Perm (stepsN R s) → Asc es → Q (.ref r) H'
def spNFarT : Sp := fun vs H Q _ => ∃ (l q : Addr) (R : List Cell) (e : Cell), vs = [.ref l, .ref q] ∧ CellsT H l R ∧ R.length ≤ 1000 ∧ At H q e ∧ e ∉ R ∧ ∀ d G F, Same H G → FarAt G d F → (∀ x n, (x, n) ∈ F ↔ Dst (stepA R) e n x) → Q (.ref d) G
section
variable {P : Program} {w : World} {K : PySem.W.Frag} {mg : Str → Option Value} {base : Heap}
theorem ok_nBothT {f : Addr} {fd : FuncData} (F : FnP K "_law_nb_both" nBoth f fd) : FnOk P w K mg base CX0 1 f fd ["_law_rest", "_law_cell", "_law_end", "_law_x", "_law_y"] spNBothT := by
  refine F.ok scNBo (fun vs H Q E h => ?_) (fun cdv A outer s H vs Q E hr h => ?_)
  · obtain ⟨l, p, q, R, s, e, d, rfl, _⟩ := h
    rfl
  · obtain ⟨l, p, q, R, s, e, d, rfl, cl, ap, aq, k⟩ := h
    have h64 := room64 hr
    refine ⟨_, PSs.nox (pss_one (ps_ret (pe_and (pe_cmpR (op_inT h64) (pe_tup (pa_cons (pe_op op_add (pe_ix (ix_tupK (K := K) rfl) (pv 1) pe_int (fun _ _ => rfl)) (pv 3)) (pa_cons (pe_op op_add (pe_ix (ix_tupK (K := K) rfl) (pv 1) pe_int (fun _ _ => rfl)) (pv 4)) pa_nil))) (pv 0) (by rfl)) (pe_one (pe_cmpR (op_inT h64) (pe_tup (pa_cons (pe_op op_add (pe_ix (ix_tupK (K := K) rfl) (pv 2) pe_int (fun _ _ => rfl)) (pv 3)) (pa_cons (pe_op op_add (pe_ix (ix_tupK (K := K) rfl) (pv 2) pe_int (fun _ _ => rfl)) (pv 4)) pa_nil))) (pv 0) (by rfl)))))), ?_⟩
    refine ⟨_, rfl, _, _, _, _, rfl, rfl, SqT.of ap, at0, _, rfl, _, _, rfl, rfl, _, rfl, _, _, _, _, rfl, rfl, SqT.of ap, at1, _, rfl, _, _, rfl, rfl, two_le, fun w1 hw1 => ?_⟩
    have u1 := same_new (o := .tup [.int (s.1 + d.1), .int (s.2 + d.2)]) hw1
    have b1 : At (upd H w1 (.tup [.int (s.1 + d.1), .int (s.2 + d.2)])) w1 (s.1 + d.1, s.2 + d.2) := upd_same
    generalize upd H w1 (.tup [.int (s.1 + d.1), .int (s.2 + d.2)]) = G1 at u1 b1
    refine ⟨_, rfl, w1, l, _, R, rfl, rfl, b1, cl.ek (.of u1), _, rfl, ?_⟩
    have aq1 := aq.same u1
    refine ite2 (fun h => ?_) (fun h => ?_)
    · refine ⟨_, rfl, _, _, _, _, rfl, rfl, SqT.of aq1, at0, _, rfl, _, _, rfl, rfl, _, rfl, _, _, _, _, rfl, rfl, SqT.of aq1, at1, _, rfl, _, _, rfl, rfl, two_le, fun w2 hw2 => ?_⟩
      have u2 := same_new (o := .tup [.int (e.1 + d.1), .int (e.2 + d.2)]) hw2
      have b2 : At (upd G1 w2 (.tup [.int (e.1 + d.1), .int (e.2 + d.2)])) w2 (e.1 + d.1, e.2 + d.2) := upd_same
      generalize upd G1 w2 (.tup [.int (e.1 + d.1), .int (e.2 + d.2)]) = G2 at u2 b2
      refine ⟨_, rfl, w2, l, _, R, rfl, rfl, b2, cl.ek (.of (u1.trans u2)), ?_⟩
      have := k _ (u1.trans u2)
      unfold sideB at this
      rw [h, Bool.true_and] at this
      exact this
    · have := k _ u1
      unfold sideB at this
      have hf : decide ((s.1 + d.1, s.2 + d.2) ∈ R) = false := by simpa using h
      rw [hf, Bool.false_and] at this
      exact this

theorem ok_nStepsT {f : Addr} {fd : FuncData} (F : FnP K "_law_nb_steps" nSteps f fd) (B : Bl mg) (DB : Df P w K mg base CX0 1 "_law_nb_both" ["_law_rest", "_law_cell", "_law_end", "_law_x", "_law_y"] spNBothT) : FnOk P w K mg base CX0 2 f fd ["_law_rest", "_law_cell"] spNStepsT := by
  refine F.ok scNSt (fun vs H Q E h => ?_) (fun cdv A outer s0 H vs Q E hr h => ?_)
  · obtain ⟨l, p, R, s, rfl, _⟩ := h
    rfl
  · obtain ⟨l, p, R, s, rfl, cl, ap, k⟩ := h
    have h64 := room64 hr
    have one_le : (1 : Nat) ≤ sizeLine := by rw [sizeLine_eq]; decide
    have three_le : (3 : Nat) ≤ sizeLine := by rw [sizeLine_eq]; decide
    refine ⟨_, PSs.nox (pss_cons (ps_set (i := 2) scNSt.nd rfl (.inl rfl) (pe_lst pa_nil))
      (pss_cons (ps_for PassesOwn.never rfl (pi_list (pe_lst (pa_cons (pe_un un_neg pe_int) (pa_cons pe_int (pa_cons pe_int pa_nil))))) (pg_name (i := 3) scNSt.nd rfl (.inl rfl))
      (pss_one (ps_for PassesOwn.never rfl (pi_list (pe_lst (pa_cons (pe_un un_neg pe_int) (pa_cons pe_int (pa_cons pe_int pa_nil))))) (pg_name (i := 4) scNSt.nd rfl (.inl rfl))
        (pss_cons (ps_set (i := 5) scNSt.nd rfl (.inr rfl) (pe_tup (pa_cons (pe_op op_add (pe_ix (ix_tupK (K := K) rfl) (pv 1) pe_int (fun _ _ => rfl)) (pv 3)) (pa_cons (pe_op op_add (pe_ix (ix_tupK (K := K) rfl) (pv 1) pe_int (fun _ _ => rfl)) (pv 4)) pa_nil))))
          (pss_cons (ps_if (PW.pt (pw_or (pt_cmpR (op_inT h64) (pv 5) (pv 0) (by rfl)) (pw_or1 (pt_cmpR (op_eqK (K := K) rfl h64) (pe_tup (pa_cons (pv 3) (pa_cons (pv 4) pa_nil))) (pe_tup (pa_cons pe_int (pa_cons pe_int pa_nil))) (nomark _)))))
          (pss_one ps_continue)
          pss_nil)
          (pss_one (ps_if (PW.pt (pw_and (pt_cmpR op_ne (pv 3) pe_int (nomark _)) (pw_and1 (pt_cmpR op_ne (pv 4) pe_int (nomark _)))))
          (pss_cons (ps_set (i := 6) scNSt.nd rfl (.inl rfl) (pe_lst (pa_cons (pe_tup (pa_cons (pe_op op_add (pe_ix (ix_tupK (K := K) rfl) (pv 1) pe_int (fun _ _ => rfl)) (pv 3)) (pa_cons (pe_ix (ix_tupK (K := K) rfl) (pv 1) pe_int (fun _ _ => rfl)) pa_nil))) (pa_cons (pe_tup (pa_cons (pe_ix (ix_tupK (K := K) rfl) (pv 1) pe_int (fun _ _ => rfl)) (pa_cons (pe_op op_add (pe_ix (ix_tupK (K := K) rfl) (pv 1) pe_int (fun _ _ => rfl)) (pv 4)) pa_nil))) pa_nil))))
            (pss_one (ps_if (pt_cmpR op_eq (pe_callB call_len_seq (by rfl) B.len PySem.boot_len (pa_cons (pe_lc (own := [("_law_one", 7)]) (g := gName 7) rfl scNSt.nd (pi_list (pv 6)) (blkOk_by (N := nstN) (sc := defScope nSteps) (by decide +kernel)) (fun _ _ _ _ _ => pg_name (i := 7) scNSt.nd rfl (Or.inl rfl)) (fun _ _ _ _ _ => (pts_one (pt_cmpR (op_inT h64) (pv 7) (pv 0) (by rfl)))) (fun _ _ _ _ _ => (pv 7))) pa_nil)) pe_int (nomark _))
            (pss_one (ps_expr (pe_bm PySem.F.plainAttrs_list PySem.F.slot_list_append PySem.F.type_list_append mt_append (pv 2) (pa_cons (pv 5) pa_nil))))
            pss_nil)))
          (pss_cons (ps_set (i := 8) scNSt.nd rfl (.inl rfl) (pe_lst (pa_cons (pe_tup (pa_cons (pv 4) (pa_cons (pv 3) pa_nil))) (pa_cons (pe_tup (pa_cons (pe_un un_neg (pv 4)) (pa_cons (pe_un un_neg (pv 3)) pa_nil))) pa_nil))))
            (pss_one (ps_if (pt_cmpR (op_neK (K := K) rfl h64) (pe_lc (own := [("_law_x", 9), ("_law_y", 10)]) (g := gTup K 2 (gCons (gName 9) (gCons (gName 10) gNil))) rfl scNSt.nd (pi_list (pv 8)) (blkOk_by (N := nstN) (sc := defScope nSteps) (by decide +kernel)) (fun _ _ _ _ _ => (pg_tup (by rfl) (pgs_cons (pg_name (i := 9) scNSt.nd rfl (Or.inl rfl)) (pgs_cons (pg_name (i := 10) scNSt.nd rfl (Or.inl rfl)) pgs_nil)))) (fun _ _ _ _ _ => (pts_one (pt_val (pe_df DB hr (by rfl) pass0 (pa_cons (pv 0) (pa_cons (pv 1) (pa_cons (pv 5) (pa_cons (pv 9) (pa_cons (pv 10) pa_nil))))))))) (fun _ _ _ _ _ => pe_int)) (pe_lst pa_nil) (nomark _))
            (pss_one (ps_expr (pe_bm PySem.F.plainAttrs_list PySem.F.slot_list_append PySem.F.type_list_append mt_append (pv 2) (pa_cons (pv 5) pa_nil))))
            pss_nil))))))))))
      (pss_one (ps_ret (pe_callB cr_sortedC (by rfl) B.sorted (by decide +kernel) (pa_cons (pv 2) pa_nil)))))), ?_⟩
    refine ⟨Nat.zero_le _, fun fo hfo => ?_⟩
    have s1 := same_new (o := .lst []) hfo
    have ef1 := upd_same (H := H) (a := fo) (o := .lst [])
    generalize upd H fo (.lst []) = H1 at s1 ef1
    refine ⟨_, rfl, three_le, fun la hla => ?_⟩
    have s2 := same_new (o := .lst [.int (-1), .int 0, .int 1]) hla
    have ela := upd_same (H := H1) (a := la) (o := .lst [.int (-1), .int 0, .int 1])
    have ef2 := s2 _ _ ef1
    have nfa : la ≠ fo := (ne_of_none ef1 hla).symm
    have sB := s1.trans s2
    generalize upd H1 la (.lst [.int (-1), .int 0, .int 1]) = B0 at sB ela ef2
    clear s1 s2 ef1 hla
    refine ⟨la, rfl, ⟨_, SqL.of ela⟩, ?_⟩
    refine for_list (K := K) (a := la) (xs := [.int (-1), .int 0, .int 1]) (fun i σ G => ∃ (v3 v4 v5 v6 v7 v8 v9 v10 : Option V), σ = [some (.ref l), some (.ref p), some (.ref fo), v3, v4, v5, v6, v7, v8, v9, v10] ∧ Kp [fo] B0 G ∧ CellsL G fo (stL R s (3 * i)))
      ⟨none, none, none, none, none, none, none, none, rfl, fun b o _ e => e, [], ef2, .nil⟩ (fun i σ G _ ⟨_, _, _, _, _, _, _, _, _, kp, _⟩ => SqL.of (kp _ _ (fun m => nfa (List.mem_singleton.mp m)) ela)) ?_ ?_
    · rintro i x σ G hi ⟨v3, v4, v5, v6, v7, v8, v9, v10, rfl, kp, cf⟩
      obtain ⟨i3, rfl⟩ := ones_at hi
      refine ⟨_, rfl, three_le, fun lu hlu => ?_⟩
      have s3 := same_new (o := .lst [.int (-1), .int 0, .int 1]) hlu
      have elu := upd_same (H := G) (a := lu) (o := .lst [.int (-1), .int 0, .int 1])
      have kp1 : Kp [fo] B0 (upd G lu (.lst [.int (-1), .int 0, .int 1])) := fun b o nb e => s3 _ _ (kp b o nb e)
      have cf1 := cf.ek (.of s3)
      have nfu : lu ≠ fo := fun z => by
        obtain ⟨fs, e, _⟩ := cf
        rw [z, e] at hlu
        cases hlu
      generalize upd G lu (.lst [.int (-1), .int 0, .int 1]) = B1 at elu kp1 cf1
      refine ⟨lu, rfl, ⟨_, SqL.of elu⟩, ?_⟩
      refine for_list (K := K) (a := lu) (xs := [.int (-1), .int 0, .int 1]) (fun j σ G => ∃ (v4 v5 v6 v7 v8 v9 v10 : Option V), σ = [some (.ref l), some (.ref p), some (.ref fo), some (.int ((i : Int) - 1)), v4, v5, v6, v7, v8, v9, v10] ∧ Kp [fo] B1 G ∧ CellsL G fo (stL R s (3 * i + j)))
        ⟨v4, v5, v6, v7, v8, v9, v10, rfl, fun b o _ e => e, cf1⟩ (fun i σ G _ ⟨_, _, _, _, _, _, _, _, kp, _⟩ => SqL.of (kp _ _ (fun m => nfu (List.mem_singleton.mp m)) elu)) ?_ ?_
      · rintro j x σ G2 hj ⟨v4, v5, v6, v7, v8, v9, v10, rfl, kp2, fs, ef, pf⟩
        obtain ⟨j3, rfl⟩ := ones_at hj
        have hd := offs_at i i3 j j3
        generalize hdx : (i : Int) - 1 = dx at hd
        generalize hdy : (j : Int) - 1 = dy at hd
        have lfs : fs.length ≤ 9 := by rw [Paired.length pf]; exact stL_len
        have kpH : Kp [fo] B0 G2 := kp1.trans kp2
        have sH : Same H G2 := kp_same hfo sB kpH
        -- what is left at the end of a turn
        have skip : ∀ {G' : Hp} {w4 w5 w6 w7 w8 w9 w10 : Option V}, Same G2 G' → stepOk R s (dx, dy) = false → ∃ (v4 v5 v6 v7 v8 v9 v10 : Option V), [some (V.ref l), some (.ref p), some (.ref fo), some (.int dx), w4, w5, w6, w7, w8, w9, w10] = [some (.ref l), some (.ref p), some (.ref fo), some (.int dx), v4, v5, v6, v7, v8, v9, v10] ∧ Kp [fo] B1 G' ∧ CellsL G' fo (stL R s (3 * i + (j + 1))) := fun {G' w4 w5 w6 w7 w8 w9 w10} sm no => by
          refine ⟨_, _, _, _, _, _, _, rfl, fun b o nb e => sm _ _ (kp2 b o nb e), ?_⟩
          rw [← Nat.add_assoc, stL_next hd, no, if_neg (by simp)]
          exact CellsL.ek ⟨fs, ef, pf⟩ (.of sm)
        have app : ∀ {G' : Hp} {q : Addr} {w4 w5 w6 w7 w8 w9 w10 : Option V}, Same G2 G' → At G' q (plusC s (dx, dy)) → stepOk R s (dx, dy) = true → ∃ (v4 v5 v6 v7 v8 v9 v10 : Option V), [some (V.ref l), some (.ref p), some (.ref fo), some (.int dx), w4, w5, w6, w7, w8, w9, w10] = [some (.ref l), some (.ref p), some (.ref fo), some (.int dx), v4, v5, v6, v7, v8, v9, v10] ∧ Kp [fo] B1 (upd G' fo (.lst (fs.map V.ref ++ [V.ref q]))) ∧ CellsL (upd G' fo (.lst (fs.map V.ref ++ [V.ref q]))) fo (stL R s (3 * i + (j + 1))) := fun {G' q w4 w5 w6 w7 w8 w9 w10} sm aq yes => by
          have tk : Tk G' (upd G' fo (.lst (fs.map V.ref ++ [V.ref q]))) := tk_upd (sm _ _ ef) fun _ z => nomatch z
          refine ⟨_, _, _, _, _, _, _, rfl, fun b o nb e => ?_, fs ++ [q], by rw [upd_same, List.map_append]; rfl, ?_⟩
          · rw [upd_ne (fun z => nb (List.mem_singleton.mpr z))]
            exact sm _ _ (kp2 b o nb e)
          · rw [← Nat.add_assoc, stL_next hd, yes, if_pos rfl]
            exact (paired_imp (fun _ _ h => tk _ _ (sm _ _ h)) pf).snoc (tk _ _ aq)
        have ap2 := ap.same sH
        refine ⟨_, rfl, _, _, _, _, rfl, rfl, SqT.of ap2, at0, _, rfl, _, _, rfl, rfl, _, rfl, _, _, _, _, rfl, rfl, SqT.of ap2, at1, _, rfl, _, _, rfl, rfl, two_le, fun q hq => ?_⟩
        have u1 := same_new (o := .tup [.int (s.1 + dx), .int (s.2 + dy)]) hq
        have aq : At (upd G2 q (.tup [.int (s.1 + dx), .int (s.2 + dy)])) q (plusC s (dx, dy)) := upd_same
        generalize upd G2 q (.tup [.int (s.1 + dx), .int (s.2 + dy)]) = G3 at u1 aq
        have cl3 := cl.ek (.of (sH.trans u1))
        refine ⟨_, rfl, _, rfl, q, l, _, R, rfl, rfl, aq, cl3, _, rfl, ?_⟩
        refine ite2 (fun h1 => ?_) (fun h1 => ?_)
        · refine skip u1 ?_
          unfold stepOk
          rw [h1]
          rfl
        have n1 : decide (plusC s (dx, dy) ∈ R) = false := by simpa using h1
        refine ⟨_, rfl, _, rfl, two_le, fun t1 ht1 => ⟨two_le, fun t2 ht2 => ?_⟩⟩
        have u2 := same_new (o := .tup [.int dx, .int dy]) ht1
        have u3 := same_new (o := .tup [.int 0, .int 0]) ht2
        have a1 : At (upd (upd G3 t1 (.tup [.int dx, .int dy])) t2 (.tup [.int 0, .int 0])) t1 (dx, dy) := u3 _ _ upd_same
        have a2 : At (upd (upd G3 t1 (.tup [.int dx, .int dy])) t2 (.tup [.int 0, .int 0])) t2 (0, 0) := upd_same
        have u4 := (u1.trans u2).trans u3
        have aq4 := (aq.same u2).same u3
        generalize upd (upd G3 t1 (.tup [.int dx, .int dy])) t2 (.tup [.int 0, .int 0]) = G4 at u4 a1 a2 aq4
        clear u2 u3 ht1 ht2
        refine ⟨cD (dx, dy), cD (0, 0), a1.dp, a2.dp, cD_shaped _, cD_shaped _, _, rfl, ?_⟩
        rw [cD_eqv]
        refine ite2 (fun h2 => ?_) (fun h2 => ?_)
        · refine skip u4 ?_
          unfold stepOk
          rw [h2, n1]
          rfl
        have n2 : decide ((dx, dy) = ((0, 0) : Cell)) = false := by simpa using h2
        have ap4 := ap2.same u4
        have cl4 := cl.ek (.of (sH.trans u4))
        have ef4 := u4 _ _ ef
        have base : stepOk R s (dx, dy) = (if dx ≠ 0 ∧ dy ≠ 0 then turnsB R s (plusC s (dx, dy)) else (sideB R s (plusC s (dx, dy)) (dy, dx) || sideB R s (plusC s (dx, dy)) (-dy, -dx))) := by
          unfold stepOk
          rw [n1, n2]
          rfl
        refine ⟨_, rfl, rfl, _, rfl, ?_⟩
        refine ite2 (fun x0 => ⟨_, rfl, rfl, _, rfl, ite2 (fun y0 => ?_) (fun y0 => ?_)⟩) (fun x0 => ?_)
        · have x0 : dx ≠ 0 := by simpa using x0
          have y0 : dy ≠ 0 := by simpa using y0
          rw [if_pos ⟨x0, y0⟩] at base
          refine ⟨_, rfl, _, _, _, _, rfl, rfl, SqT.of ap4, at0, _, rfl, _, _, rfl, rfl, _, rfl, _, _, _, _, rfl, rfl, SqT.of ap4, at1, two_le, fun c1 hc1 => ?_⟩
          have w1 := same_new (o := .tup [.int (s.1 + dx), .int s.2]) hc1
          have b1 : At (upd G4 c1 (.tup [.int (s.1 + dx), .int s.2])) c1 (s.1 + dx, s.2) := upd_same
          generalize upd G4 c1 (.tup [.int (s.1 + dx), .int s.2]) = G5 at w1 b1
          have ap5 := ap4.same w1
          refine ⟨_, rfl, _, _, _, _, rfl, rfl, SqT.of ap5, at0, _, rfl, _, _, _, _, rfl, rfl, SqT.of ap5, at1, _, rfl, _, _, rfl, rfl, two_le, fun c2 hc2 => ⟨two_le, fun lc hlc => ?_⟩⟩
          have w2 := same_new (o := .tup [.int s.1, .int (s.2 + dy)]) hc2
          have w3 := same_new (o := .lst [.ref c1, .ref c2]) hlc
          have b1' := (b1.same w2).same w3
          have b2 : At (upd (upd G5 c2 (.tup [.int s.1, .int (s.2 + dy)])) lc (.lst [.ref c1, .ref c2])) c2 (s.1, s.2 + dy) := w3 _ _ upd_same
          have elc := upd_same (H := upd G5 c2 (.tup [.int s.1, .int (s.2 + dy)])) (a := lc) (o := .lst [.ref c1, .ref c2])
          have w4 := (w1.trans w2).trans w3
          generalize upd (upd G5 c2 (.tup [.int s.1, .int (s.2 + dy)])) lc (.lst [.ref c1, .ref c2]) = G6 at w4 b1' b2 elc
          clear w1 w2 w3 b1 hc1 hc2 hlc ap5
          have prc : Paired (fun q c => At G6 q c) [c1, c2] [((s.1 + dx, s.2) : Cell), (s.1, s.2 + dy)] := .cons b1' (.cons b2 .nil)
          have cl6 := cl4.ek (.of w4)
          refine ⟨_, rfl, lc, rfl, ⟨_, SqL.of elc⟩, fun D hD => ?_⟩
          refine lc_cells (walk_list (K := K) (a := lc) (xs := [c1, c2].map V.ref)) hD (fun i => ([((s.1 + dx, s.2) : Cell), (s.1, s.2 + dy)].take i).filter fun c => decide (c ∈ R)) rfl (by show 2 ≤ 1000000; decide) (fun i G' _ sm => SqL.of (sm _ _ elc)) ?_ ?_
          · rintro m x Ga Gb K1 K0 hm sm ⟨rfl, hx⟩ k1 k0
            rw [List.getElem?_map] at hx
            obtain ⟨b, hb, rfl⟩ := Option.map_eq_some_iff.mp hx
            obtain ⟨d, hd', ad⟩ := paired_get prc hb
            have ad : At Gb b d := ad.same sm
            refine ⟨rfl, _, rfl, _, rfl, b, l, d, R, rfl, rfl, ad, cl6.ek (.of sm), _, rfl, ?_⟩
            exact ite2 (fun h => ⟨_, rfl, k1 b d _ same_refl ad (filt_snoc hd' h)⟩) (fun h => k0 _ same_refl (filt_skip hd' h))
          rintro Ga rs sm gD pr2
          have pr2 : Paired (fun q c => At Ga q c) rs ([((s.1 + dx, s.2) : Cell), (s.1, s.2 + dy)].filter fun c => decide (c ∈ R)) := pr2
          have lrs := Paired.length pr2
          refine ⟨D, _, rfl, .inl (SqL.of gD), rfl, _, rfl, ?_⟩
          have hb : decide (V.int ((rs.map V.ref).length : Int) = V.int 1) = turnsB R s (plusC s (dx, dy)) := by
            rw [Bool.eq_iff_iff, decide_eq_true_iff, ← turns_len, List.length_map, lrs]
            constructor
            · intro h
              have h : ((([((s.1 + dx, s.2) : Cell), (s.1, s.2 + dy)].filter fun c => decide (c ∈ R)).length : Nat) : Int) = 1 := V.int.inj h
              show ([((s.1 + dx, s.2) : Cell), (s.1, s.2 + dy)].filter fun c => decide (c ∈ R)).length = 1
              omega
            · intro h
              have h : ([((s.1 + dx, s.2) : Cell), (s.1, s.2 + dy)].filter fun c => decide (c ∈ R)).length = 1 := h
              rw [h]
              rfl
          rw [hb, ← base]
          have wF := (u4.trans w4).trans sm
          refine ite2 (fun h => ?_) (fun h => ?_)
          · exact ⟨_, rfl, .inl ⟨rfl, _, SqL.of (wF _ _ ef)⟩, _, rfl, fo, _, _, rfl, rfl, wF _ _ ef, by rw [List.length_map, sizeLine_eq]; omega, app wF ((aq4.same w4).same sm) h⟩
          · exact skip wF (by simpa using h)
        all_goals
          have bs : stepOk R s (dx, dy) = (sideB R s (plusC s (dx, dy)) (dy, dx) || sideB R s (plusC s (dx, dy)) (-dy, -dx)) := by
            rw [base]
            refine if_neg fun z => ?_
            first
            | (simp at x0 y0; omega)
            | (simp at x0; omega)
          refine ⟨_, rfl, _, rfl, two_le, fun c1 hc1 => ⟨_, rfl, _, rfl, _, rfl, _, rfl, two_le, fun c2 hc2 => ⟨two_le, fun lc hlc => ?_⟩⟩⟩
          have w1 := same_new (o := .tup [.int dy, .int dx]) hc1
          have w2 := same_new (o := .tup [.int (-dy), .int (-dx)]) hc2
          have w3 := same_new (o := .lst [.ref c1, .ref c2]) hlc
          have b1 : At (upd (upd (upd G4 c1 (.tup [.int dy, .int dx])) c2 (.tup [.int (-dy), .int (-dx)])) lc (.lst [.ref c1, .ref c2])) c1 (dy, dx) := w3 _ _ (w2 _ _ upd_same)
          have b2 : At (upd (upd (upd G4 c1 (.tup [.int dy, .int dx])) c2 (.tup [.int (-dy), .int (-dx)])) lc (.lst [.ref c1, .ref c2])) c2 (-dy, -dx) := w3 _ _ upd_same
          have elc := upd_same (H := upd (upd G4 c1 (.tup [.int dy, .int dx])) c2 (.tup [.int (-dy), .int (-dx)])) (a := lc) (o := .lst [.ref c1, .ref c2])
          have w4 := (w1.trans w2).trans w3
          generalize upd (upd (upd G4 c1 (.tup [.int dy, .int dx])) c2 (.tup [.int (-dy), .int (-dx)])) lc (.lst [.ref c1, .ref c2]) = G6 at w4 b1 b2 elc
          clear w1 w2 w3 hc1 hc2 hlc
          have prc : Paired (fun q c => At G6 q c) [c1, c2] [((dy, dx) : Cell), (-dy, -dx)] := .cons b1 (.cons b2 .nil)
          have cl6 := cl4.ek (.of w4)
          have ap6 := ap4.same w4
          have aq6 := aq4.same w4
          refine ⟨_, rfl, lc, rfl, ⟨_, SqL.of elc⟩, fun D hD => ?_⟩
          refine lc_it (walk_list (K := K) (a := lc) (xs := [c1, c2].map V.ref)) (fun i G => Same G6 G ∧ ∃ k : Nat, G D = some (.lst (List.replicate k (.int 1))) ∧ (k = 0 ↔ (([((dy, dx) : Cell), (-dy, -dx)].take i).any (sideB R s (plusC s (dx, dy)))) = false) ∧ k ≤ i) ⟨same_new hD, 0, upd_same, by simp, Nat.le_refl _⟩ (fun i G _ p => SqL.of (p.1 _ _ elc)) ?_ ?_
          · rintro m x Ga Gb hm ⟨sm, kk, gD, hk, lk⟩ ⟨rfl, hx⟩
            rw [List.getElem?_map] at hx
            obtain ⟨b, hb, rfl⟩ := Option.map_eq_some_iff.mp hx
            obtain ⟨d, hd', ad⟩ := paired_get prc hb
            have ad : At Gb b d := ad.same sm
            have m2 : m < 2 := hm
            refine ⟨b, _, rfl, SqT.of ad, rfl, _, _, rfl, _, _, rfl, rfl, rfl, _, rfl, _, rfl, _, rfl, _, rfl, _, rfl, l, p, q, R, s, plusC s (dx, dy), d, rfl, cl6.ek (.of sm), ap6.same sm, aq6.same sm, fun Gc s7 => ⟨_, rfl, ?_⟩⟩
            refine ite2 (fun h => ?_) (fun h => ?_)
            · refine ⟨_, s7 _ _ gD, by rw [List.length_replicate, sizeLine_eq]; omega, same_put (sm.trans s7) hD, kk + 1, by rw [upd_same, List.replicate_succ'], ?_, by omega⟩
              rw [take_snoc hd', List.any_append]
              simp [h]
            · refine ⟨sm.trans s7, kk, s7 _ _ gD, ?_, by omega⟩
              rw [take_snoc hd', List.any_append, hk]
              simp [h]
          · rintro Ga ⟨sm, kk, gD, hk, lk⟩
            have hk : kk = 0 ↔ ([((dy, dx) : Cell), (-dy, -dx)].any (sideB R s (plusC s (dx, dy)))) = false := hk
            refine ⟨Nat.zero_le _, fun e8 he8 => ?_⟩
            have s8 := same_new (o := .lst []) he8
            have dps : ∀ n, DpAll K (upd Ga e8 (.lst [])) (List.replicate n (.int 1)) (List.replicate n (.int 1)) := fun n => by
              induction n with
              | zero => exact .nil
              | succ n ih => exact .cons (.int 1) ih
            refine ⟨.list (List.replicate kk (.int 1)), .list [], .lst (SqL.of (s8 _ _ gD)) (dps kk), .lst (SqL.of upd_same) .nil, (lay_list (n := 0) fun d hd => by rw [List.eq_of_mem_replicate hd]; exact lay_int 1).shaped (by decide), (lay_list (n := 0) (ds := []) (by simp)).shaped (by decide), _, rfl, ?_⟩
            rw [eqv_nilD]
            have hb : (!decide (List.replicate kk (PyData.int 1) = [])) = stepOk R s (dx, dy) := by
              rw [bs]
              have : (List.replicate kk (PyData.int 1) = []) ↔ kk = 0 := by cases kk <;> simp [List.replicate_succ]
              have e : decide (List.replicate kk (PyData.int 1) = []) = !([((dy, dx) : Cell), (-dy, -dx)].any (sideB R s (plusC s (dx, dy)))) := by
                cases h : [((dy, dx) : Cell), (-dy, -dx)].any (sideB R s (plusC s (dx, dy))) with
                | false => rw [decide_eq_true (this.mpr (hk.mpr h))]; rfl
                | true => rw [decide_eq_false (fun z => by have := hk.mp (this.mp z); rw [h] at this; cases this)]; rfl
              rw [e, Bool.not_not, List.any_cons, List.any_cons, List.any_nil, Bool.or_false]
            rw [hb]
            have wF := ((u4.trans w4).trans sm).trans s8
            refine ite2 (fun h => ?_) (fun h => ?_)
            · exact ⟨_, rfl, .inl ⟨rfl, _, SqL.of (wF _ _ ef)⟩, _, rfl, fo, _, _, rfl, rfl, wF _ _ ef, by rw [List.length_map, sizeLine_eq]; omega, app wF ((aq6.same sm).same s8) h⟩
            · exact skip wF (by simpa using h)
      · rintro σ G2 ⟨v4, v5, v6, v7, v8, v9, v10, rfl, kp2, cf2⟩
        exact ⟨_, _, _, _, _, _, _, _, rfl, kp1.trans kp2, cf2⟩
    · rintro σ G ⟨v3, v4, v5, v6, v7, v8, v9, v10, rfl, kp, fs, ef, pf⟩
      refine ⟨_, rfl, fo, fs, _, rfl, SqL.of ef, pf, fun so qs' cs' prq pm asc' hso => ?_⟩
      have s9 := same_new (o := .lst (qs'.map V.ref)) hso
      exact k so _ cs' ((kp_same hfo sB kp).trans s9) ((kp_same hfo sB kp).free hso) ⟨qs', upd_same, paired_imp (fun _ _ h => s9 _ _ h) prq⟩ pm asc'
theorem ok_nFarT {f : Addr} {fd : FuncData} (F : FnP K "_law_nb_far" nFar f fd) (DS : Df P w K mg base CX0 2 "_law_nb_steps" ["_law_rest", "_law_cell"] spNStepsT) : FnOk P w K mg base CX0 3 f fd ["_law_rest", "_law_start"] spNFarT := by
  refine F.ok scNFr (fun vs H Q E h => ?_) (fun cdv A outer s H vs Q E hr h => ?_)
  · obtain ⟨l, q, R, e, rfl, _⟩ := h
    rfl
  · obtain ⟨l, qe, R, e, rfl, cR, lR, ae, ho, k⟩ := h
    have hu := hu_of hr
    have h64 := room64 hr
    have one_le : (1 : Nat) ≤ sizeLine := by rw [sizeLine_eq]; decide
    have three_le : (3 : Nat) ≤ sizeLine := by rw [sizeLine_eq]; decide
    refine ⟨_, PSs.nox (pss_cons (ps_par3 (i := 2) (j := 3) (l := 4) (by rfl) scNFr.nd rfl rfl rfl (by decide) (by decide) (by decide) rfl rfl rfl (pa_cons (pe_disp1 (.inr rfl) hu (pv 1) pe_int) (pa_cons (pe_lst (pa_cons (pv 1) pa_nil)) (pa_cons pe_int pa_nil))) (by rfl))
      (pss_cons (ps_while PassesOwn.never (pt_cmpR (op_neK (K := K) rfl h64) (pv 3) (pe_lst pa_nil) (nomark _))
      (pss_cons (ps_par (i := 4) (j := 5) (by rfl) scNFr.nd rfl rfl (by decide) rfl rfl (pa_cons (pe_op op_add (pv 4) pe_int) (pa_cons (pe_lst pa_nil) pa_nil)) (by rfl))
        (pss_cons (ps_for PassesOwn.never rfl (pi_list (pv 3)) (pg_name (i := 6) scNFr.nd rfl (.inl rfl))
        (pss_one (ps_for PassesOwn.never rfl (pi_list (pe_df DS hr (by rfl) pass0 (pa_cons (pv 0) (pa_cons (pv 6) pa_nil)))) (pg_name (i := 7) scNFr.nd rfl (.inl rfl))
          (pss_one (ps_if (pt_cmp (pc_dnotin hu (pv 7) (pv 2)))
            (pss_cons (ps_dput hu (pv 2) (pv 7) (pv 4) rfl)
              (pss_one (ps_expr (pe_bm PySem.F.plainAttrs_list PySem.F.slot_list_append PySem.F.type_list_append mt_append (pv 5) (pa_cons (pv 7) pa_nil)))))
            pss_nil)))))
        (pss_one (ps_set (i := 3) scNFr.nd rfl (.inl rfl) (pv 5))))))
      (pss_one (ps_ret (pv 2))))), ?_⟩
    intro d hd
    have s0 := same_new (o := .dT []) hd
    have e0 := upd_same (H := H) (a := d) (o := .dT [])
    refine ⟨_, rfl, _, dput_c e0 (ae.same s0) (by rw [sizeLine_eq]; decide), ?_⟩
    rw [show putK [] (cK e) (V.int 0) = wdK [(e, 0)] from far_put (F := []) (n := 0) (by simp [keysD]), upd_upd]
    have s1 := same_new (o := .dT (wdK [(e, 0)])) hd
    have g1 := upd_same (H := H) (a := d) (o := .dT (wdK [(e, 0)]))
    generalize upd H d (.dT (wdK [(e, 0)])) = G1 at s1 g1
    refine ⟨_, rfl, one_le, fun l0 hl0 => ?_⟩
    have s2 := same_new (o := .lst [.ref qe]) hl0
    have g2 := upd_same (H := G1) (a := l0) (o := .lst [.ref qe])
    have g12 := s2 _ _ g1
    generalize upd G1 l0 (.lst [.ref qe]) = G2 at s2 g2 g12
    refine ⟨_, _, _, rfl, ?_⟩
    have s03 := s1.trans s2
    refine ⟨fun q σ G => ∃ (n : Nat) (ly : Addr) (W : List Cell) (F : List WdE) (v5 v6 v7 : Option V), q = 2 * ((candL R e).length - F.length) + (if W = [] then 0 else 1) ∧ σ = [some (.ref l), some (.ref qe), some (.ref d), some (.ref ly), some (.int (n : Int)), v5, v6, v7] ∧ Same H G ∧ FarAt G d F ∧ CellsL G ly W ∧ (∀ x m, (x, m) ∈ F ↔ Dst (stepA R) e m x ∧ m ≤ n) ∧ (∀ x, x ∈ W ↔ Dst (stepA R) e n x),
      ⟨_, 0, l0, [e], [(e, 0)], none, none, none, rfl, rfl, s03, ⟨g12, by simp [keysD]⟩, ⟨[qe], g2, .cons (ae.same s03) .nil⟩, fun x m => ?_, fun x => ?_⟩, ?_⟩
    · rw [List.mem_singleton, Prod.mk.injEq]
      constructor
      · rintro ⟨rfl, rfl⟩
        exact ⟨Dst.zero, Nat.le_refl _⟩
      · rintro ⟨h1, h2⟩
        obtain rfl : m = 0 := by omega
        exact ⟨h1.1, rfl⟩
    · rw [List.mem_singleton]
      exact ⟨fun y => by rw [y]; exact Dst.zero, fun y => y.1⟩
    rintro q σ G ⟨n, ly, W, F, v5, v6, v7, rfl, rfl, sG, fa, ⟨ws, ew, pw⟩, mF, mW⟩
    have bnd : ∀ {F' : List WdE} {G' : Hp}, FarAt G' d F' → (∀ x m, (x, m) ∈ F' → ∃ j, Dst (stepA R) e j x) → F'.length ≤ (candL R e).length := fun {F' G'} fa' h => by
      have := len_le fa'.nk (ys := candL R e) fun x hx => by
        obtain ⟨m, hm⟩ := mem_keysD.mp hx
        obtain ⟨j, hj⟩ := h x m hm
        exact dst_cand ho hj
      unfold keysD at this
      rwa [List.length_map] at this
    have cl4 := cand_len R e
    refine ⟨_, rfl, Nat.zero_le _, fun e8 he8 => ?_⟩
    have sA := same_new (o := HO.lst []) he8
    refine ⟨.list (W.map cD), .list [], (CellsL.dp ⟨ws, sA _ _ ew, paired_imp (fun _ _ h => sA _ _ h) pw⟩), .lst (SqL.of upd_same) .nil, lay_cells.shaped (by decide), (lay_list (n := 0) (ds := []) (by simp)).shaped (by decide), _, rfl, ?_⟩
    rw [eqv_nil]
    have sGA := sG.trans sA
    have faA : FarAt (upd G e8 (.lst [])) d F := ⟨sA _ _ fa.gd, fa.nk⟩
    have ewA := sA _ _ ew
    have pwA := paired_imp (fun q c (h : At G q c) => (sA _ _ h : At (upd G e8 (.lst [])) q c)) pw
    generalize upd G e8 (.lst []) = GA at sGA faA ewA pwA
    by_cases hW : W = []
    · rw [decide_eq_true hW]
      refine iteF ?_
      refine ⟨_, rfl, k d GA F sGA faA fun x m => ?_⟩
      rw [mF]
      refine ⟨fun y => y.1, fun y => ⟨y, ?_⟩⟩
      by_cases z : m ≤ n
      · exact z
      · obtain ⟨y0, h0⟩ := y.down n (by omega)
        have := (mW y0).mpr h0
        rw [hW] at this
        cases this
    · rw [decide_eq_false hW]
      refine iteT ?_
      rw [if_neg hW]
      refine ⟨fun σ' G' => ∃ m', m' < 2 * ((candL R e).length - F.length) + 1 ∧ _, fun _ _ h => h, ?_⟩
      refine ⟨_, rfl, _, _, rfl, rfl, Nat.zero_le _, fun af haf => ?_⟩
      refine ⟨_, _, rfl, ?_⟩
      have s3 := same_new (o := HO.lst []) haf
      have ga := upd_same (H := GA) (a := af) (o := HO.lst [])
      have haH : H af = none := sGA.free haf
      have base : Wd H d af ly W F [] (upd GA af (.lst [])) := ⟨sGA.trans s3, hd, haH, (fun y => by rw [y, haf] at ewA; cases ewA), ⟨s3 _ _ faA.gd, fa.nk⟩, ⟨ws, s3 _ _ ewA, paired_imp (fun _ _ y => s3 _ _ y) pwA⟩, ⟨[], ga, .nil⟩⟩
      have d0 : DsK (stepA R) e n (fun x => ∃ a ∈ W.take 0, stepA R a x) F [] := ⟨fun x m => by rw [mF]; simp, fun x => by simp, Nat.zero_le _⟩
      have ew3 := s3 _ _ ewA
      have pw3 := paired_imp (fun _ _ (y : At GA _ _) => s3 _ _ y) pwA
      generalize upd GA af (.lst []) = G3 at base ew3 pw3
      rw [show (fun i j : Int => V.int (i + j)) ((n : Nat) : Int) 1 = V.int ((n + 1 : Nat) : Int) from rfl]
      refine ⟨_, rfl, ly, rfl, ⟨_, SqL.of ew3⟩, ?_⟩
      refine for_list (K := K) (a := ly) (xs := ws.map V.ref) (fun i σ G => ∃ (v6 v7 : Option V) (F' : List WdE) (A : List Cell), σ = [some (.ref l), some (.ref qe), some (.ref d), some (.ref ly), some (.int ((n + 1 : Nat) : Int)), some (.ref af), v6, v7] ∧ Wd H d af ly W F' A G ∧ G ly = some (.lst (ws.map V.ref)) ∧ Paired (fun q c => At G q c) ws W ∧ DsK (stepA R) e n (fun x => ∃ a ∈ W.take i, stepA R a x) F' A ∧ F'.length = F.length + A.length)
        ⟨v6, v7, F, [], rfl, base, ew3, pw3, d0, rfl⟩ (fun i σ G _ ⟨_, _, _, _, _, _, y, _⟩ => SqL.of y) ?_ ?_
      · rintro i x σ G4 hi ⟨v6, v7, F4, A4, rfl, wd, ew4, pw4, dk, lnF⟩
        rw [List.getElem?_map] at hi
        obtain ⟨qa, hqa, rfl⟩ := Option.map_eq_some_iff.mp hi
        obtain ⟨a, ha, aa⟩ := paired_get pw4 hqa
        have da : Dst (stepA R) e n a := (mW a).mp (List.mem_of_getElem? ha)
        refine ⟨_, rfl, _, rfl, l, qa, R, a, rfl, cR.ek (.of wd.sm), aa, fun r G5 es s5 hr5 ⟨rs, er, pr⟩ pm asc => ?_⟩
        have memE : ∀ x, x ∈ es ↔ stepA R a x := fun x => pm.mem_iff
        obtain ⟨as5, ea5, pa5⟩ := wd.ga
        have nra : r ≠ af := fun y => by rw [y, ea5] at hr5; cases hr5
        have wd5 : Wd H d af ly W F4 A4 G5 := ⟨wd.sm.trans s5, wd.hd, wd.ha, wd.ne, ⟨s5 _ _ wd.fa.gd, wd.fa.nk⟩, wd.gl.ek (.of s5), wd.ga.ek (.of s5)⟩
        refine ⟨r, rfl, ⟨_, SqL.of er⟩, ?_⟩
        refine for_list (K := K) (a := r) (xs := rs.map V.ref) (fun j σ G => ∃ (v7 : Option V) (F' : List WdE) (A : List Cell), σ = [some (.ref l), some (.ref qe), some (.ref d), some (.ref ly), some (.int ((n + 1 : Nat) : Int)), some (.ref af), some (.ref qa), v7] ∧ Wd H d af ly W F' A G ∧ G ly = some (.lst (ws.map V.ref)) ∧ Paired (fun q c => At G q c) ws W ∧ G r = some (.lst (rs.map V.ref)) ∧ Paired (fun q c => At G q c) rs es ∧ DsK (stepA R) e n (fun x => (∃ a ∈ W.take i, stepA R a x) ∨ x ∈ es.take j) F' A ∧ F'.length = F.length + A.length)
          ⟨v7, F4, A4, rfl, wd5, s5 _ _ ew4, paired_imp (fun _ _ y => s5 _ _ y) pw4, er, pr, dk.cong fun z => by simp, lnF⟩ (fun i σ G _ ⟨_, _, _, _, _, _, _, y, _⟩ => SqL.of y) ?_ ?_
        · rintro j x σ G6 hj ⟨v7, F6, A6, rfl, wd6, ew6, pw6, er6, pr6, dk6, ln6⟩
          rw [List.getElem?_map] at hj
          obtain ⟨qb, hqb, rfl⟩ := Option.map_eq_some_iff.mp hj
          obtain ⟨b, hb, ab⟩ := paired_get pr6 hqb
          have nbb : stepA R a b := (memE b).mp (List.mem_of_getElem? hb)
          have hS : ∀ z, ((∃ a ∈ W.take i, stepA R a z) ∨ z ∈ es.take (j + 1)) ↔ ((∃ a ∈ W.take i, stepA R a z) ∨ z ∈ es.take j) ∨ z = b := fun z => by
            rw [take_snoc hb, List.mem_append, List.mem_singleton, or_assoc]
          refine ⟨_, rfl, _, rfl, d, _, rfl, DGet.t (k := cK b) wd6.fa.gd ab, _, rfl, ?_⟩
          rw [far_is wd6.fa.nk]
          refine ite2 (fun h2 => ?_) (fun h2 => ?_)
          · have nx : b ∉ keysD F6 := by simpa using h2
            have lF : F6.length ≤ (candL R e).length := bnd wd6.fa fun x m hm => by
              rcases (dk6.mf _ _).mp hm with y | y
              · exact ⟨_, y.1⟩
              · exact ⟨_, ((dk6.ml _).mp y.2).1⟩
            obtain ⟨qs6, ea6, pa6⟩ := wd6.ga
            have nda : d ≠ af := fun y => by have := wd6.fa.gd; rw [y, ea6] at this; cases this
            have ea7 : upd G6 d (.dT (wdK (F6 ++ [(b, n + 1)]))) af = some (.lst (qs6.map V.ref)) := by rw [upd_ne nda.symm]; exact ea6
            have la : A6.length ≤ F6.length := dk6.ln
            refine ⟨_, rfl, _, rfl, _, rfl, d, _, rfl, DPut.t (k := cK b) wd6.fa.gd ab (by unfold wdK; rw [kv_len, sizeLine_eq]; omega), ?_⟩
            rw [far_put (n := n + 1) nx]
            refine ⟨_, rfl, .inl ⟨rfl, _, SqL.of ea7⟩, _, rfl, af, _, _, rfl, rfl, ea7, by rw [List.length_map, Paired.length pa6, sizeLine_eq]; omega, ?_⟩
            have wd7 := wd6.put (n := n + 1) nx ab ea6 pa6
            have off : ∀ {r : Addr} {o : HO}, r ≠ d → r ≠ af → G6 r = some o → upd (upd G6 d (.dT (wdK (F6 ++ [(b, n + 1)])))) af (.lst (qs6.map V.ref ++ [V.ref qb])) r = some o := fun n1 n2 y => by
              rw [upd_ne n2, upd_ne n1]
              exact y
            have tup : ∀ {r : Addr} {c : Cell}, At G6 r c → At (upd (upd G6 d (.dT (wdK (F6 ++ [(b, n + 1)])))) af (.lst (qs6.map V.ref ++ [V.ref qb]))) r c := fun {r c} y => off (fun z => by
              have y2 : G6 r = some (.tup (cV c)) := y
              rw [z, wd6.fa.gd] at y2
              cases y2) (fun z => by
              have y2 : G6 r = some (.tup (cV c)) := y
              rw [z, ea6] at y2
              cases y2) y
            have lst : ∀ {r : Addr} {xs : List V}, r ≠ af → G6 r = some (.lst xs) → upd (upd G6 d (.dT (wdK (F6 ++ [(b, n + 1)])))) af (.lst (qs6.map V.ref ++ [V.ref qb])) r = some (.lst xs) := fun {r xs} n2 y => off (fun z => by
              rw [z, wd6.fa.gd] at y
              cases y) n2 y
            exact ⟨_, _, _, rfl, wd7, lst wd6.ne ew6, paired_imp (fun _ _ y => tup y) pw6, lst nra er6, paired_imp (fun _ _ y => tup y) pr6, dk6.new da nbb nx hS, by rw [List.length_append, List.length_append]; show F6.length + 1 = F.length + (A6.length + 1); omega⟩
          · have nx : b ∈ keysD F6 := by simpa using h2
            exact ⟨_, _, _, rfl, wd6, ew6, pw6, er6, pr6, dk6.old nx hS, ln6⟩
        · rintro σ G6 ⟨v7, F6, A6, rfl, wd6, ew6, pw6, er6, pr6, dk6, ln6⟩
          refine ⟨_, _, F6, A6, rfl, wd6, ew6, pw6, dk6.cong fun z => ?_, ln6⟩
          rw [take_snoc ha, List.length_map, Paired.length pr6, List.take_length]
          constructor
          · rintro ⟨a', h1, h2⟩
            rcases List.mem_append.mp h1 with y | y
            · exact .inl ⟨a', y, h2⟩
            · rw [List.mem_singleton.mp y] at h2
              exact .inr ((memE _).mpr h2)
          · rintro (⟨a', h1, h2⟩ | h2)
            · exact ⟨a', List.mem_append_left _ h1, h2⟩
            · exact ⟨a, List.mem_append_right _ (List.mem_singleton.mpr rfl), (memE _).mp h2⟩
      · rintro σ G4 ⟨v6, v7, F4, A4, rfl, wd, ew4, pw4, dk, lnF⟩
        rw [List.length_map, Paired.length pw4, List.take_length] at dk
        have lF4 : F4.length ≤ (candL R e).length := bnd wd.fa fun x m hm => by
          rcases (dk.mf _ _).mp hm with y | y
          · exact ⟨_, y.1⟩
          · exact ⟨_, ((dk.ml _).mp y.2).1⟩
        refine ⟨_, rfl, 2 * ((candL R e).length - F4.length) + (if A4 = [] then 0 else 1), ?_, n + 1, af, A4, F4, _, _, _, rfl, rfl, wd.sm, wd.fa, wd.ga, fun x m => ?_, fun x => ?_⟩
        · by_cases z : A4 = []
          · rw [if_pos z]
            omega
          · rw [if_neg z]
            have := List.length_pos_iff.mpr z
            omega
        · rw [dk.mf]
          constructor
          · rintro (⟨y1, y2⟩ | ⟨y1, y2⟩)
            · exact ⟨y1, by omega⟩
            · rw [y1]
              exact ⟨((dk.ml _).mp y2).1, Nat.le_refl _⟩
          · rintro ⟨y1, y2⟩
            by_cases z : m ≤ n
            · exact .inl ⟨y1, z⟩
            · obtain rfl : m = n + 1 := by omega
              obtain ⟨a, a1, a2⟩ := y1.prev
              exact .inr ⟨rfl, (dk.ml _).mpr ⟨y1, a, (mW a).mpr a1, a2⟩⟩
        · rw [dk.ml]
          exact ⟨fun y => y.1, fun y => ⟨y, by
            obtain ⟨a, a1, a2⟩ := y.prev
            exact ⟨a, (mW a).mpr a1, a2⟩⟩⟩
end
end Sq

set_option Elab.async false
set_option linter.all false
set_option maxRecDepth 100000
set_option maxHeartbeats 4000000
/-! The law: shuffled. -/
namespace Sq
open PySem PySem.Spec PyProof.Rows L2
theorem cut_drop (xs : List V) (k : Nat) : cutV xs (some (k : Int)) none = xs.drop k := by
  unfold cutV
  rw [HT.sIx_none, HT.sIx_nat]
  by_cases h : k ≤ xs.length
  · rw [Nat.min_eq_left h, List.take_of_length_le (by rw [List.length_drop]; exact Nat.le_refl _)]
  · rw [Nat.min_eq_right (by omega), Nat.sub_self, List.take_zero, List.drop_of_length_le (by omega)]
def spShuf : Sp := fun vs H Q _ => ∃ (p a : Addr) (n : Nat) (xs : List V), vs = [.ref p, .ref a] ∧ PenAt H p n ∧ n ≤ 800000 ∧ H a = some (.lst xs) ∧ xs.length ≤ 100 ∧
  ∀ l H' ys n', PenAt H' p n' → n' ≤ n + 100 → Kp [p] H H' → H' l = some (.lst ys) → (∀ y ∈ ys, y ∈ xs) → ys.length = xs.length → Q (.ref l) H'
abbrev shN : List Str := ["_law_pen_here", "_law_some", "_law_left", "_law_found", "_law_lap", "_law_k"]
section
variable {P : Program} {w : World} {K : PySem.W.Frag} {mg : Str → Option Value} {base : Heap}
theorem scShuf : FnScope shN ["_law_pen_here", "_law_some"] (defScope lShuffled) := ⟨rfl, rfl, rfl, by decide +kernel, rfl, by decide +kernel, by decide +kernel⟩
theorem ok_lShuf {f : Addr} {fd : FuncData} (F : FnP K "_law_shuffled" lShuffled f fd) (B : Bl mg) (DW : Df P w K mg base CX0 1 "_law_draw" ["_law_pen_here", "_law_many"] spDrawC) : FnOk P w K mg base CX0 2 f fd ["_law_pen_here", "_law_some"] spShuf := by
  refine F.ok scShuf (fun vs H Q E h => ?_) (fun cdv A outer s H vs Q E hr h => ?_)
  · obtain ⟨p, a, n, xs, rfl, _⟩ := h
    rfl
  · obtain ⟨p, a, n, xs, rfl, hp, hn, ea, lx, k⟩ := h
    refine ⟨_, PSs.nox (pss_cons (ps_par (i := 2) (j := 3) (by rfl) scShuf.nd rfl rfl (by decide) rfl rfl (pa_cons (pe_callTy call_list_of (by rfl) B.list PyProof.Rows.boot_list (pa_cons (pv 1) pa_nil)) (pa_cons (pe_lst pa_nil) pa_nil)) (by rfl))
      (pss_cons (ps_for PassesOwn.never rfl (pi_range1 (by rfl) B.range (pa_cons (pe_callB call_len_seq (by rfl) B.len PySem.boot_len (pa_cons (pv 1) pa_nil)) pa_nil)) (pg_name (i := 4) scShuf.nd rfl (.inl rfl))
      (pss_cons (ps_set (i := 5) scShuf.nd rfl (.inl rfl) (pe_df DW hr (by rfl) pass0 (pa_cons (pv 0) (pa_cons (pe_callB call_len_seq (by rfl) B.len PySem.boot_len (pa_cons (pv 2) pa_nil)) pa_nil))))
        (pss_cons (ps_expr (pe_bm PySem.F.plainAttrs_list PySem.F.slot_list_append PySem.F.type_list_append mt_append (pv 3) (pa_cons (pe_ix (ix_listK (K := K) rfl) (pv 2) (pv 5) (fun _ _ => rfl)) pa_nil)))
        (pss_one (ps_set (i := 2) scShuf.nd rfl (.inl rfl) (pe_op op_cat (pe_slice sl_list (pv 2) po_none (po_some (pv 5))) (pe_slice sl_list (pv 2) (po_some (pe_op op_add (pv 5) pe_int)) po_none)))))))
      (pss_one (ps_ret (pv 3))))), ?_⟩
    obtain ⟨c, hc⟩ := hp.c
    refine ⟨_, rfl, a, _, rfl, .inl (SqL.of ea), fun l1 hl1 => ⟨Nat.zero_le _, fun fo hfo => ⟨_, _, rfl, ?_⟩⟩⟩
    have t1 := same_new (o := .lst xs) hl1
    have t2 := same_new (o := .lst []) hfo
    have t12 := t1.trans t2
    have hfo0 : H fo = none := by
      cases q : H fo with
      | none => rfl
      | some o => rw [t1 _ _ q] at hfo; cases hfo
    have nl1 : l1 ≠ fo := fun z => by rw [← z, upd_same] at hfo; cases hfo
    have e1 := t2 _ _ (upd_same (H := H) (a := l1) (o := .lst xs))
    have ef := upd_same (H := upd H l1 (.lst xs)) (a := fo) (o := .lst [])
    generalize upd (upd H l1 (.lst xs)) fo (.lst []) = G0 at t12 e1 ef
    have hc0 := hc.same t12
    have np := hc.ne hfo0
    refine ⟨_, rfl, a, _, rfl, .inl (SqL.of (t12 _ _ ea)), _, rfl, by omega, by omega, ?_⟩
    refine for_range (lo := 0) (n := ((xs.length : Nat) : Int).toNat) (fun i σ G => ∃ (l : Addr) (ls fs : List V) (v4 v5 : Option V), σ = [some (.ref p), some (.ref a), some (.ref l), some (.ref fo), v4, v5] ∧ PenC G p c (n + i) ∧ Kp [p] H G ∧ l ≠ fo ∧ G l = some (.lst ls) ∧ G fo = some (.lst fs) ∧
      ls.length + i = xs.length ∧ fs.length = i ∧ (∀ y ∈ ls, y ∈ xs) ∧ ∀ y ∈ fs, y ∈ xs) ⟨l1, xs, [], none, none, rfl, hc0, Kp.of t12, nl1, e1, ef, rfl, rfl, fun _ h => h, fun _ h => (nomatch h)⟩ ?_ ?_
    · rintro i σ G hi ⟨l, ls, fs, v4, v5, rfl, hG, kp, nl, el, ef, len, lf, mem, memf⟩
      have hi : i < xs.length := hi
      rw [Int.zero_add]
      refine ⟨_, rfl, _, rfl, l, _, rfl, .inl (SqL.of el), p, c, n + i, _, rfl, hG, by omega, by omega, by omega, fun r1 G1 u0 u1 hp1 hb1 => ?_⟩
      have kp1 := kp_pick hb1
      have ek1 := pen_ek hG.at kp1
      obtain ⟨kk, rfl⟩ := Int.eq_ofNat_of_zero_le u0
      have hk : kk < ls.length := by omega
      have hx : ls[kk]? = some ls[kk] := List.getElem?_eq_getElem hk
      have el1 := ek1.lst el
      have ef1 := ek1.lst ef
      refine ⟨_, rfl, .inl ⟨rfl, _, SqL.of ef1⟩, _, rfl, _, rfl, _, _, _, _, rfl, rfl, SqL.of el1, atI_nat hx, fo, _, _, rfl, rfl, ef1, by rw [sizeLine_eq]; omega, ?_⟩
      have hp2 : PenC (upd G1 fo (.lst (fs ++ [ls[kk]]))) p c (n + i + 1) := hp1.off np.1 np.2
      have kp2 : Kp [p] H (upd G1 fo (.lst (fs ++ [ls[kk]]))) := (kp.trans kp1).put hfo0
      have el2 : upd G1 fo (.lst (fs ++ [ls[kk]])) l = some (.lst ls) := by rw [upd_ne nl]; exact el1
      have ef2 := upd_same (H := G1) (a := fo) (o := .lst (fs ++ [ls[kk]]))
      generalize upd G1 fo (.lst (fs ++ [ls[kk]])) = G2 at hp2 kp2 el2 ef2
      refine ⟨_, rfl, _, rfl, _, rfl, l, ls, rfl, SqL.of el2, fun m1 h1 => ?_⟩
      rw [cut_take]
      have t1 := same_new (o := .lst (ls.take kk)) h1
      refine ⟨_, rfl, _, rfl, _, _, rfl, rfl, ((kk + 1 : Nat) : Int), congrArg V.int (by omega), l, ls, rfl, SqL.of (t1 _ _ el2), fun m2 h2 => ?_⟩
      rw [cut_drop]
      have t2 := same_new (o := .lst (ls.drop (kk + 1))) h2
      refine ⟨m1, m2, _, _, rfl, rfl, t2 _ _ upd_same, upd_same, by rw [List.length_take, List.length_drop, sizeLine_eq]; omega, fun m3 h3 => ?_⟩
      have sm := (t1.trans t2).trans (same_new (o := .lst (ls.take kk ++ ls.drop (kk + 1))) h3)
      have n3 : m3 ≠ fo := fun z => by
        have := (t1.trans t2) _ _ ef2
        rw [z, this] at h3
        cases h3
      refine ⟨m3, _, fs ++ [ls[kk]], _, _, rfl, hp2.same sm, kp2.trans (Kp.of sm), n3, upd_same, sm _ _ ef2, ?_, by rw [List.length_append, lf]; rfl, fun y hy => ?_, fun y hy => ?_⟩
      · rw [List.length_append, List.length_take, List.length_drop]
        omega
      · rcases List.mem_append.mp hy with h | h
        · exact mem y (List.mem_of_mem_take h)
        · exact mem y (List.mem_of_mem_drop h)
      · rcases List.mem_append.mp hy with h | h
        · exact memf y h
        · rw [List.mem_singleton.mp h]
          exact mem _ (List.getElem_mem hk)
    · rintro σ G ⟨l, ls, fs, v4, v5, rfl, hG, kp, nl, el, ef, len, lf, mem, memf⟩
      exact ⟨_, rfl, k fo G fs _ hG.at (by have : ((xs.length : Nat) : Int).toNat = xs.length := rfl; omega) kp ef memf lf⟩
end
end Sq

set_option Elab.async false
set_option linter.all false
set_option maxRecDepth 100000
set_option maxHeartbeats 4000000
/-! The program's reach. -/
namespace Sq
open PySem PySem.Spec PyProof.Rows L2
/-- all the cells that a square can go to, in order -/
structure ReachIs (L : List Cell) (s : Cell) (C : List Cell) : Prop where
  nd : C.Nodup
  asc : Asc C
  mem : ∀ x, x ∈ C ↔ HasW L s x
theorem ReachIs.uniq {L : List Cell} {s : Cell} {C C' : List Cell} (h : ReachIs L s C) (k : ReachIs L s C') : C = C' := ascU h.nd k.nd h.asc k.asc fun x => (h.mem x).trans (k.mem x).symm
theorem ways_has {L : List Cell} {s : Cell} {T : List WyE} (sL : s ∈ L) (h1 : hangsB (without L s) = true → WaysOf (without L s) s T) (h2 : hangsB (without L s) = false → (∀ x, x ∈ keysW T ↔ x = s) ∧ ∀ x y, ¬ nbW T x y) (x : Cell) : x ∈ keysW T ↔ HasW L s x := by
  unfold HasW
  cases hb : hangsB (without L s) with
  | true =>
    obtain ⟨nb, ky⟩ := h1 hb
    rw [ky]
    constructor
    · rintro (h | ⟨y, h⟩)
      · exact ⟨sL, .inl h⟩
      · obtain ⟨a, b⟩ := (nb x y).mp h
        exact ⟨sL, .inr ⟨y, hb, a, b⟩⟩
    · rintro ⟨_, h | ⟨y, _, a, b⟩⟩
      · exact .inl h
      · exact .inr ⟨y, (nb x y).mpr ⟨a, b⟩⟩
  | false =>
    rw [(h2 hb).1]
    constructor
    · exact fun h => ⟨sL, .inl h⟩
    · rintro ⟨_, h | ⟨y, q, _⟩⟩
      · exact h
      · rw [hb] at q
        cases q
def spReach (Ts : List Addr) : Sp := fun vs H Q _ => ∃ (t q : Addr) (L : List Cell) (s : Cell), vs = [.ref t, .ref q] ∧ BdAt H t L ∧ At H q s ∧ TabsG Ts H ∧ ∀ r G C, KT Ts H G → CellsT G r C → ReachIs L s C → C.length ≤ 8001 → Q (.ref r) G
abbrev rcN : List Str := ["body", "start", "lot", "source"]
section
variable {P : Program} {w : World} {K : PySem.W.Frag} {mg : Str → Option Value} {base : Heap} {Ts : List Addr}
theorem scRc : FnScope rcN ["body", "start"] (defScope gReach) := ⟨rfl, rfl, rfl, by decide +kernel, rfl, by decide +kernel, by decide +kernel⟩
theorem ok_reach {f CB : Addr} {fd : FuncData} (F : FnP K "reach" gReach f fd) (B : Bl mg) (DL : Df P w K mg base CX0 6 "lot_of_body" ["value"] (spLotB Ts)) (DC : Df P w K mg base (L2.CX P w) 3 "checked_cell" ["value"] (spChecked K CB)) (DW : Df P w K mg base CX0 4 "ways_in" ["lot", "start"] spWays) : FnOk P w K mg base CX0 7 f fd ["body", "start"] (spReach Ts) := by
  refine F.ok scRc (fun vs H Q E h => ?_) (fun cdv A outer s0 H vs Q E hr h => ?_)
  · obtain ⟨t, q, L, s, rfl, _⟩ := h
    rfl
  · obtain ⟨t, q, L, st, rfl, bt, aq, tg, k⟩ := h
    have hu := hu_of hr
    refine ⟨_, PSs.nox (pss_cons (ps_set (i := 2) scRc.nd rfl (.inl rfl) (pe_df DL hr (by rfl) pass0 (pa_cons (pv 0) pa_nil)))
      (pss_cons (ps_set (i := 3) scRc.nd rfl (.inl rfl) (pe_df DC hr (by rfl) (passes_call (W := fun _ _ _ _ => False) (E := fun _ _ _ => False) takes0 (fun _ _ _ _ h => h)) (pa_cons (pv 1) pa_nil)))
      (pss_cons (ps_if (pt_cmp (pc_dnotin hu (pv 3) (pv 2)))
      (pss_one (ps_ret (pe_tup pa_nil)))
      pss_nil)
      (pss_one (ps_ret (pe_tupleOf (by rfl) B.tuple (pe_callB (cr_sortedDk rfl) (by rfl) B.sorted (by decide +kernel) (pa_cons (pe_df DW hr (by rfl) pass0 (pa_cons (pv 2) (pa_cons (pv 3) pa_nil))) pa_nil)))))))), ?_⟩
    refine ⟨_, rfl, t, L, rfl, bt.ct, bt.nd, bt.asc, (by have := bt.len; omega), bt.hang, tg, fun d G1 k1 hd ed => ?_⟩
    refine ⟨_, rfl, _, rfl, .inl ⟨q, st, rfl, k1.at aq, fun u hu1 => ?_⟩⟩
    have s2 := same_new (o := .tup (cV st)) hu1
    have au : At (upd G1 u (.tup (cV st))) u st := upd_same
    have ed2 := s2 _ _ ed
    have k2 := k1.same s2
    generalize upd G1 u (.tup (cV st)) = G2 at s2 au ed2 k2
    refine ⟨_, rfl, _, rfl, d, _, rfl, dget_lot ed2 au, _, rfl, ?_⟩
    rw [lot_is]
    refine ite2 (fun h1 => ?_) (fun h1 => ?_)
    · have no : st ∉ L := by simpa using h1
      refine ⟨Nat.zero_le _, fun r hr' => ?_⟩
      exact k r _ [] (k2.same (same_new hr')) ⟨[], upd_same, .nil⟩ ⟨.nil, .nil, fun x => ⟨fun h => (nomatch h), fun ⟨h, _⟩ => absurd h no⟩⟩ (Nat.zero_le _)
    · have sL : st ∈ L := by simpa using h1
      refine ⟨_, rfl, _, rfl, d, u, L, st, rfl, ed2, bt.nd, (by have := bt.len; omega), bt.hang, sL, au, fun wd G3 T s3 wa w1 w2 => ?_⟩
      refine ⟨wd, _, keysW T, rfl, wa.gd, kv_keys, fun p qs' cs' prq pm asc hp => ?_⟩
      have s4 := same_new (o := .lst (qs'.map V.ref)) hp
      refine .inl ⟨p, _, rfl, SqL.of upd_same, fun r hr' => ?_⟩
      have s5 := same_new (o := .tup (qs'.map V.ref)) hr'
      refine k r _ cs' (((k2.same s3).same s4).same s5) ⟨qs', upd_same, paired_imp (fun q c (h : At _ q c) => s5 _ _ (s4 _ _ h)) prq⟩ ⟨pm.nodup_iff.mpr wa.nk, asc, fun x => ?_⟩ ?_
      · rw [pm.mem_iff]
        exact ways_has sL w1 w2 x
      · rw [pm.length_eq]
        unfold keysW
        rw [List.length_map]
        exact wa.ln
end
end Sq

set_option Elab.async false
set_option linter.all false
set_option maxRecDepth 100000
set_option maxHeartbeats 8000000
/-! The law: a square's cells, there and back. -/
namespace Sq
open PySem PySem.Spec PyProof.Rows L2
section
variable {L : List Cell} {s : Cell}
/-- where a free square can go: the cells beside what is left behind, in its region -/
theorem has_due (hang : Hangs L) (sL : s ∈ L) (hb : hangsB (without L s) = true) {x : Cell} : HasW L s x ↔ Air (without L s) s x ∧ ∃ sq, IsSide (without L s) (x, sq) := by
  have hR := hangsB_iff.mp hb
  obtain ⟨sq0, sd0⟩ := start_side hang sL hR
  constructor
  · rintro ⟨_, h | ⟨y, _, a, st⟩⟩
    · rw [h]
      exact ⟨.refl, sq0, sd0⟩
    · refine ⟨a, ?_⟩
      have hx := a.out (self_out L s)
      have hy := (step_symm hx st)
      have ny := hy.2.out hx
      obtain ⟨sq, hsq, hbx⟩ := List.mem_flatMap.mp (step_cand ny hy.1)
      exact ⟨sq, hx, hsq, beside_symm hbx⟩
  · rintro ⟨a, sq, sd⟩
    refine ⟨sL, ?_⟩
    by_cases z : x = s
    · exact .inl z
    · refine .inr ?_
      obtain ⟨m, O, ro⟩ := ring_ex sd0
      have mO := (ro.mem hR sd0 (c := x) (s := sq)).mpr ⟨a, sd⟩
      rw [ro.eq] at mO
      obtain ⟨i, _, ei⟩ := List.mem_map.mp mO
      obtain ⟨n, hn⟩ := ring_wk hb sd0 i
      rw [ei] at hn
      cases n with
      | zero => exact absurd (show x = s from hn) z
      | succ n =>
        obtain ⟨y, _, ay⟩ := hn
        exact ⟨y, adjA_symm ay⟩
theorem has_steps (hang : Hangs L) (sL : s ∈ L) (hb : hangsB (without L s) = true) {x : Cell} : HasW L s x ↔ ∃ n, Dst (stepA (without L s)) s n x := by
  constructor
  · rintro ⟨_, h⟩
    obtain ⟨D, hD⟩ := key_reach hang sL h
    have w := hD.1.back fun _ _ => adjA_symm
    obtain ⟨n, _, hn⟩ := wk_dst _ ((wk_steps hb (self_out L s) .refl).mpr w)
    exact ⟨n, hn⟩
  · rintro ⟨n, hn⟩
    have w := (wk_steps hb (self_out L s) .refl).mp hn.1
    refine ⟨sL, ?_⟩
    cases n with
    | zero => exact .inl (show x = s from w)
    | succ n =>
      obtain ⟨y, _, ay⟩ := w
      exact .inr ⟨y, adjA_symm ay⟩
theorem dst_symm {A : Cell → Cell → Prop} (sy : ∀ x y, A x y → A y x) {e x : Cell} {n : Nat} (h : Dst A e n x) : Dst A x n e := ⟨h.1.back sy, fun k lk hk => h.2 k lk (hk.back sy)⟩
/-- there and back are as long -/
theorem back_len {B : List Cell} {e : Cell} {ms ms2 : List CellP} (eq : without B e = without L s) (a : Air (without L s) s e) (h : WalkIs L s e ms) (k : WalkIs B e s ms2) : ms2.length = ms.length := by
  obtain ⟨D, hD, w1⟩ := h
  obtain ⟨D2, hD2, w2⟩ := k
  have same : ∀ x y, adjA B e x y ↔ adjA L s x y := fun x y => by
    unfold adjA
    rw [eq]
    exact and_congr_right fun _ => and_congr_left fun _ => ⟨fun h => a.trans h, fun h => (a.symm (self_out L s)).trans h⟩
  have h1 := dst_symm (fun _ _ => adjA_symm) hD
  have h2 : Dst (adjA L s) s D2 e := (Dst.cong same).mp hD2
  rw [w2.len, w1.len]
  exact h2.uniq h1
theorem air_of_has (h : HasW L s x) : Air (without L s) s x := by
  obtain ⟨_, h | ⟨y, _, a, _⟩⟩ := h
  · rw [h]
    exact .refl
  · exact a
end
def forBody16 : Stmt → List Stmt
  | .For _ _ b _ _ => b
  | _ => []
def trnSq : List Stmt := forBody16 ((defBody lSquareRight).getD 4 (.Pass ⟨0, 0, 0, 0⟩))
abbrev sqN : List Str := ["_law_pen_here", "_law_body", "_law_start", "_law_rest", "_law_cell", "_law_lots", "_law_due", "_law_side", "_law_turn", "_law_end", "_law_behind", "_law_many"]
section
variable {P : Program} {w : World} {K : PySem.W.Frag} {mg : Str → Option Value} {base : Heap} {Ts : List Addr}
theorem scSq : FnScope sqN ["_law_pen_here", "_law_body", "_law_start"] (defScope lSquareRight) := ⟨rfl, rfl, rfl, by decide +kernel, rfl, by decide +kernel, by decide +kernel⟩
variable {f : Addr} {cdv : Value} {A : Around} {outer : List Env} {s0 : Shared} {H0 : Hp} {E : XK}
theorem sq_turn (hr : Room 8 (cxOf CX0 P w K mg base sqN "_law_square_right" (defScope lSquareRight) f cdv A outer s0 H0 E).nox.A) (B : Bl mg) (DPk : Df P w K mg base CX0 2 "_law_pick" ["_law_pen_here", "_law_some"] (spPickC K)) (DL : Df P w K mg base CX0 8 "walk_length" ["body", "start", "end"] (spWalkL Ts)) :
    ∃ t, PSs (cxOf CX0 P w K mg base sqN "_law_square_right" (defScope lSquareRight) f cdv A outer s0 H0 E).nox trnSq t ∧
      ∀ (D : Ends) (G : Hp) (p c t1 qs rt dl : Addr) (n : Nat) (L C : List Cell) (s : Cell) (v4 v5 v7 v8 v9 v10 v11 : Option V), PenC G p c n → n < 900000 → BdAt G t1 L → TabsG Ts G → At G qs s → CellsT G rt (without L s) → CellsL G dl C → C ≠ [] → C.length ≤ 100000 → s ∈ L → hangsB (without L s) = true → (∀ x ∈ C, HasW L s x) →
        (∀ G' w9 w10 w11, PenC G' p c (n + 1) → Ek G G' → TabsG Ts G' → D.nx [some (.ref p), some (.ref t1), some (.ref qs), some (.ref rt), v4, v5, some (.ref dl), v7, v8, w9, w10, w11] G') → t D [some (.ref p), some (.ref t1), some (.ref qs), some (.ref rt), v4, v5, some (.ref dl), v7, v8, v9, v10, v11] G := by
  have one_le : (1 : Nat) ≤ sizeLine := by rw [sizeLine_eq]; decide
  refine ⟨_, (pss_cons (ps_set (i := 9) scSq.nd rfl (.inl rfl) (pe_df DPk hr (by rfl) pass0 (pa_cons (pv 0) (pa_cons (pv 6) pa_nil))))
        (pss_cons (ps_set (i := 10) scSq.nd rfl (.inl rfl) (pe_tupleOf (by rfl) B.tuple (pe_callB cr_sortedCT (by rfl) B.sorted (by decide +kernel) (pa_cons (pe_op op_catA (pv 3) (pe_tup (pa_cons (pv 9) pa_nil))) pa_nil))))
        (pss_cons (ps_set (i := 11) scSq.nd rfl (.inl rfl) (pe_df DL hr (by rfl) pass0 (pa_cons (pv 1) (pa_cons (pv 2) (pa_cons (pv 9) pa_nil)))))
        (pss_one (ps_if (PW.pt (pw_or (pt_cmpR op_isN (pv 11) pe_non (nomark _)) (pw_or (pt_cmpR op_gt (pv 11) (pe_callB call_len_seq (by rfl) B.len PySem.boot_len (pa_cons (pv 1) pa_nil)) (nomark _)) (pw_or1 (pt_cmpR op_ne (pe_df DL hr (by rfl) pass0 (pa_cons (pv 10) (pa_cons (pv 9) (pa_cons (pv 2) pa_nil)))) (pv 11) (nomark _))))))
        (pss_one (ps_ret pe_bl))
        pss_nil))))), ?_⟩
  intro D G p c t1 qs rt dl n L C s v4 v5 v7 v8 v9 v10 v11 hp hn bt tg as cR cD neC lC sL hb has k
  have hR := hangsB_iff.mp hb
  have lL := bt.len
  have nL := bt.nd
  obtain ⟨ds, ed, pd⟩ := id cD
  have lds : ds.length = C.length := Paired.length pd
  have posC : 0 < C.length := List.length_pos_iff.mpr neC
  refine ⟨_, rfl, _, rfl, p, c, dl, n, _, rfl, hp, by omega, .inl (SqL.of ed), by rw [List.length_map]; omega, by rw [List.length_map]; omega, fun j x G1 hx hp1 hb1 => ?_⟩
  have k1 := kp_pick hb1
  have ek1 := pen_ek hp.at k1
  have tg1 := pen_tabs hp.at k1 tg
  rw [List.getElem?_map] at hx
  obtain ⟨qe, hq, rfl⟩ := Option.map_eq_some_iff.mp hx
  obtain ⟨e, he, ae⟩ := paired_get pd hq
  have hE := has e (List.mem_of_getElem? he)
  have ae1 := ek1.at ae
  have aE := air_of_has hE
  have nE := aE.out (self_out L s)
  obtain ⟨rs, er, prr⟩ := cR.ek ek1
  have lrs : rs.length = (without L s).length := Paired.length prr
  have lW := without_lt nL sL
  have neR : rs.map V.ref ≠ [] := fun z => hR.1 (List.length_eq_zero_iff.mp (by rw [← lrs, ← List.length_map (f := V.ref), z]; rfl))
  refine ⟨_, rfl, _, rfl, one_le, fun u1 hu1 => ?_⟩
  have s1 := same_new (o := HO.tup [.ref qe]) hu1
  have e1 := upd_same (H := G1) (a := u1) (o := HO.tup [.ref qe])
  generalize upd G1 u1 (HO.tup [.ref qe]) = G2 at s1 e1
  refine ⟨rt, u1, _, _, rfl, rfl, SqT.of (s1 _ _ er), SqT.of e1, by rw [List.length_map, lrs, sizeLine_eq]; show (without L s).length + 1 ≤ 16777216; omega, fun y => absurd y neR, fun _ y => (nomatch y), fun _ _ u2 hu2 => ?_⟩
  have s2 := same_new (o := HO.tup (rs.map V.ref ++ [V.ref qe])) hu2
  have e2 : upd G2 u2 (HO.tup (rs.map V.ref ++ [V.ref qe])) u2 = some (.tup ((rs ++ [qe]).map V.ref)) := by rw [upd_same, List.map_append]; rfl
  have s12 := s1.trans s2
  have pr2 := (paired_imp (fun _ _ (h : At G1 _ _) => h.same s12) prr).snoc (ae1.same s12)
  generalize upd G2 u2 (HO.tup (rs.map V.ref ++ [V.ref qe])) = G3 at s12 e2 pr2
  refine ⟨u2, rs ++ [qe], without L s ++ [e], rfl, SqT.of e2, pr2, fun so qs' B' prq pm asc hso => .inl ⟨so, _, rfl, SqL.of upd_same, fun tb htb => ?_⟩⟩
  have s3 := same_new (o := HO.lst (qs'.map V.ref)) hso
  have s4 := same_new (o := HO.tup (qs'.map V.ref)) htb
  have s14 := (s12.trans s3).trans s4
  have cB : CellsT (upd (upd G3 so (HO.lst (qs'.map V.ref))) tb (HO.tup (qs'.map V.ref))) tb B' := ⟨qs', upd_same, paired_imp (fun q c (h : At _ q c) => s4 _ _ (s3 _ _ h)) prq⟩
  generalize upd (upd G3 so (HO.lst (qs'.map V.ref))) tb (HO.tup (qs'.map V.ref)) = G4 at s14 cB
  have ek4 := ek1.trans (.of s14)
  have tg4 := tg1.same s14
  have hp4 := hp1.same s14
  have bt4 := bt.ek ek4
  have as4 := ek4.at as
  have ae4 := ae1.same s14
  refine ⟨_, rfl, _, rfl, _, rfl, L, s, e, ⟨t1, qs, qe, rfl, bt4.ct, nL, bt.asc, by omega, bt.hang, as4, ae4, tg4⟩, fun _ _ no => absurd hE no, fun G5 ms k5 _ lm wi => ?_⟩
  refine ⟨_, rfl, rfl, _, rfl, ?_⟩
  refine ite2 (fun z => nomatch z) (fun _ => ?_)
  obtain ⟨bs, eb, pb⟩ := bt4.ct.ek k5.ek
  have lb : bs.length = L.length := Paired.length pb
  refine ⟨_, rfl, _, rfl, t1, _, rfl, .inr (SqT.of eb), _, _, rfl, rfl, _, rfl, ?_⟩
  rw [List.length_map, lb]
  refine ite2 (fun z => ?_) (fun _ => ?_)
  · have z := of_decide_eq_true z
    omega
  -- the body behind
  have nW : (without L s).Nodup := nL.sublist List.filter_sublist
  have mB : ∀ x, x ∈ B' ↔ x ∈ without L s ∨ x = e := fun x => by
    rw [pm.mem_iff, List.mem_append, List.mem_singleton]
  have nB : B'.Nodup := pm.nodup_iff.mpr (List.nodup_append.mpr ⟨nW, by simp, fun a ha b hb z => by
    rw [List.mem_singleton.mp hb] at z
    rw [z] at ha
    exact nE ha⟩)
  have wB : without B' e = without L s := ascU (nB.sublist List.filter_sublist) nW (asc.sublist List.filter_sublist) (bt.asc.sublist List.filter_sublist) fun x => by
    rw [mem_without, mB]
    constructor
    · rintro ⟨h | h, ne⟩
      · exact h
      · exact absurd h ne
    · intro h
      exact ⟨.inl h, fun z => nE (by rw [← z]; exact h)⟩
  have eB : e ∈ B' := (mB e).mpr (.inr rfl)
  obtain ⟨_, sq, sd⟩ := (has_due bt.hang sL hb).mp hE
  have hB : Hangs B' := by
    have inc : ∀ {a b}, Reach (without L s) a b → Reach B' a b := fun {a b} r => by
      induction r with
      | refl => exact .refl
      | step _ hb hc ih => exact .step ih hb ((mB _).mpr (.inl hc))
    refine (hangs_from eB).mpr fun b hb' => ?_
    have to_sq : Reach B' e sq := .step .refl sd.bs ((mB sq).mpr (.inl sd.sq))
    rcases (mB b).mp hb' with h | h
    · exact to_sq.trans (inc (hR.2 sq sd.sq b h))
    · rw [h]
      exact .refl
  have lB : B'.length ≤ 1000 := by
    rw [pm.length_eq, List.length_append]
    show (without L s).length + 1 ≤ 1000
    omega
  have hb' : hangsB (without B' e) = true := by rw [wB]; exact hb
  have has2 : HasW B' e s := (has_due hB eB hb').mpr (by
    rw [wB]
    refine ⟨aE.symm (self_out L s), ?_⟩
    exact ((has_due bt.hang sL hb).mp ⟨sL, .inl rfl⟩).2)
  refine ⟨_, rfl, _, rfl, _, rfl, B', e, s, ⟨tb, qe, qs, rfl, cB.ek k5.ek, nB, asc, lB, hB, k5.at ae4, k5.at as4, k5.tb'⟩, fun _ _ no => absurd has2 no, fun G6 ms2 k6 _ _ wi2 => ?_⟩
  rw [back_len wB aE wi wi2]
  refine ⟨_, rfl, rfl, _, rfl, ?_⟩
  refine ite2 (fun z => absurd z (by simp)) (fun _ => ?_)
  have k46 := k5.trans k6
  exact k G6 _ _ _ (kt_penC11 k46 hp4) (ek4.trans k46.ek) k46.tb'
end
end Sq

set_option Elab.async false
set_option linter.all false
set_option maxRecDepth 100000
set_option maxHeartbeats 8000000
/-! The law: a free square reaches the border of its region. -/
namespace Sq
open PySem PySem.Spec PyProof.Rows L2
theorem num_air {R Ms : List Cell} {Cs : List (List Cell)} (h : RegIs R Ms Cs) (ne : R ≠ []) {s x : Cell} {n : Nat} (ns : s ∉ R) (nx : x ∉ R) (k : NumOf R Ms s n) : NumOf R Ms x n ↔ Air R s x := by
  constructor
  · intro j
    rcases k with ⟨o, rfl⟩ | ⟨i, m, hi, a, rfl⟩
    · rcases j with ⟨o2, _⟩ | ⟨_, _, _, _, q⟩
      · exact outer_one ne ns o o2 nx
      · cases q
    · rcases j with ⟨_, q⟩ | ⟨i2, m2, hi2, a2, q⟩
      · cases q
      · have : i2 = i := by omega
        subst this
        rw [hi] at hi2
        rw [← Option.some.inj hi2] at a2
        have nm := ((h.mem m).mp (List.mem_of_getElem? hi)).1
        exact (a.symm nm).trans a2
  · intro a
    rcases k with ⟨o, rfl⟩ | ⟨i, m, hi, b, rfl⟩
    · exact .inl ⟨o.of (a.symm ns), rfl⟩
    · exact .inr ⟨i, m, hi, b.trans a, rfl⟩
theorem sides_len {R : List Cell} {O : List Side} (nd : O.Nodup) (sd : ∀ e ∈ O, IsSide R e) : O.length ≤ rimN R R := by
  have e : (R.flatMap fun y => ((nbC y).filter fun x => !decide (x ∈ R)).map fun c => ((c, y) : Side)).length = rimN R R := by
    have : ∀ B : List Cell, (B.flatMap fun y => ((nbC y).filter fun x => !decide (x ∈ R)).map fun c => ((c, y) : Side)).length = rimN R B := fun B => by
      induction B with
      | nil => rfl
      | cons y B ih =>
        rw [List.flatMap_cons, List.length_append, ih, List.length_map]
        simp [rimN]
    exact this R
  rw [← e]
  refine len_le nd fun x hx => ?_
  have sd := sd x hx
  refine List.mem_flatMap.mpr ⟨x.2, sd.sq, List.mem_map.mpr ⟨x.1, List.mem_filter.mpr ⟨mem_nbC.mpr (beside_symm sd.bs), ?_⟩, rfl⟩⟩
  simpa using sd.out
def spSqR (Ts : List Addr) : Sp := fun vs H Q _ => ∃ (p c t qs : Addr) (n : Nat) (L : List Cell) (s : Cell), vs = [.ref p, .ref t, .ref qs] ∧ PenC H p c n ∧ n < 800000 ∧ BdAt H t L ∧ L.length ≤ 29 ∧ (∀ c ∈ L, c.1.natAbs < 100 ∧ c.2.natAbs < 100) ∧ TabsG Ts H ∧ At H qs s ∧ s ∈ L ∧ hangsB (without L s) = true ∧
  ∀ G, PenC G p c (n + 2) → Ek H G → TabsG Ts G → Q (.bl true) G
section
variable {P : Program} {w : World} {K : PySem.W.Frag} {mg : Str → Option Value} {base : Heap} {Ts : List Addr}
theorem ok_sqRight {f : Addr} {fd : FuncData} (F : FnP K "_law_square_right" lSquareRight f fd) (B : Bl mg) (DPk : Df P w K mg base CX0 2 "_law_pick" ["_law_pen_here", "_law_some"] (spPickC K)) (DL : Df P w K mg base CX0 8 "walk_length" ["body", "start", "end"] (spWalkL Ts))
    (DRg : Df P w K mg base CX0 3 "_law_nb_regions" ["_law_body"] spNRegions) (DS : Df P w K mg base CX0 2 "_law_nb_sides" ["_law_body", "_law_lots", "_law_number"] spNSides) (DN : Df P w K mg base CX0 1 "_law_nb_number" ["_law_lots", "_law_cell"] spNNumber) (DR : Df P w K mg base CX0 7 "reach" ["body", "start"] (spReach Ts)) (DF : Df P w K mg base CX0 3 "_law_nb_far" ["_law_rest", "_law_start"] spNFarT) :
    FnOk P w K mg base CX0 9 f fd ["_law_pen_here", "_law_body", "_law_start"] (spSqR Ts) := by
  refine F.ok scSq (fun vs H Q E h => ?_) (fun cdv A outer s0 H vs Q E hr h => ?_)
  · obtain ⟨p, c, t, qs, n, L, s, rfl, _⟩ := h
    rfl
  · obtain ⟨p, c, t, qs, n, L, s, rfl, hp, hn, bt, l29, inL, tg, as, sL, hb, k⟩ := h
    have h64 := room64 hr
    obtain ⟨tl, htl, keyt⟩ := sq_turn (P := P) (w := w) (K := K) (mg := mg) (base := base) (Ts := Ts) (f := f) (cdv := cdv) (A := A) (outer := outer) (s0 := s0) (H0 := H) (E := E) hr B DPk DL
    refine ⟨_, PSs.nox (pss_cons (ps_set (i := 3) scSq.nd rfl (.inl rfl) (pe_tupleOf (by rfl) B.tuple (pe_lc (own := [("_law_cell", 4)]) (g := gName 4) rfl scSq.nd (pi_tup (pv 1)) (blkOk_by (N := sqN) (sc := defScope lSquareRight) (by decide +kernel)) (fun _ _ _ _ _ => pg_name (i := 4) scSq.nd rfl (Or.inl rfl)) (fun _ _ _ _ _ => (pts_one (pt_cmpR (op_neK (K := K) rfl h64) (pv 4) (pv 2) (nomark _)))) (fun _ _ _ _ _ => (pv 4)))))
      (pss_cons (ps_set (i := 5) scSq.nd rfl (.inl rfl) (pe_df DRg hr (by rfl) pass0 (pa_cons (pv 3) pa_nil)))
      (pss_cons (ps_set (i := 6) scSq.nd rfl (.inl rfl) (pe_callB (cr_sortedS rfl) (by rfl) B.sorted (by decide +kernel) (pa_cons (pe_callTy (cr_setOfT rfl h64) (by rfl) B.set (by decide +kernel) (pa_cons (pe_lc (own := [("_law_side", 7)]) (g := gName 7) (tt := tYes) rfl scSq.nd (pi_list (pe_df DS hr (by rfl) pass0 (pa_cons (pv 3) (pa_cons (pv 5) (pa_cons (pe_df DN hr (by rfl) pass0 (pa_cons (pv 5) (pa_cons (pv 2) pa_nil))) pa_nil))))) (blkOk_by (N := sqN) (sc := defScope lSquareRight) (by decide +kernel)) (fun _ _ _ _ _ => pg_name (i := 7) scSq.nd rfl (Or.inl rfl)) (fun _ _ _ _ _ => pts_nil) (fun _ _ _ _ _ => (pe_ix (ix_tupK (K := K) rfl) (pv 7) pe_int (fun _ _ => rfl)))) pa_nil)) pa_nil)))
      (pss_cons (ps_if (PW.pt (pw_or (pt_cmpR (op_neK (K := K) rfl h64) (pe_df DR hr (by rfl) pass0 (pa_cons (pv 1) (pa_cons (pv 2) pa_nil))) (pe_tupleOf (by rfl) B.tuple (pv 6)) (nomark _)) (pw_or1 (pt_cmpR (op_neK (K := K) rfl h64) (pe_callB (cr_sortedDk rfl) (by rfl) B.sorted (by decide +kernel) (pa_cons (pe_df DF hr (by rfl) pass0 (pa_cons (pv 3) (pa_cons (pv 2) pa_nil))) pa_nil)) (pv 6) (nomark _)))))
      (pss_one (ps_ret pe_bl))
      pss_nil)
      (pss_cons (ps_for PassesOwn.never rfl (pi_range1 (by rfl) B.range (pa_cons pe_int pa_nil)) (pg_name (i := 8) scSq.nd rfl (.inl rfl)) htl)
      (pss_one (ps_ret pe_bl))))))), ?_⟩
    have hR := hangsB_iff.mp hb
    have lL := bt.len
    have nL := bt.nd
    have lW := without_lt nL sL
    have nW : (without L s).Nodup := nL.sublist List.filter_sublist
    have aW : Asc (without L s) := bt.asc.sublist List.filter_sublist
    obtain ⟨bs, et, pr⟩ := id bt.ct
    have lbs : bs.length = L.length := Paired.length pr
    refine ⟨_, rfl, t, rfl, ⟨_, SqT.of et⟩, fun D1 hD1 => ?_⟩
    refine lc_cells (walk_tup (K := K) (a := t) (xs := bs.map V.ref)) hD1 (fun i => without (L.take i) s) rfl (by rw [List.length_map, lbs]; omega) (fun i G2 _ sm2 => SqT.of (sm2 _ _ et)) ?_ ?_
    · rintro j x G2 G2' K3 K2 hj sm2 ⟨rfl, hx2⟩ k3 k2
      rw [List.getElem?_map] at hx2
      obtain ⟨b, hb, rfl⟩ := Option.map_eq_some_iff.mp hx2
      obtain ⟨e, he, ae⟩ := paired_get pr hb
      have ae' : At G2' b e := sm2 _ _ ae
      have ac' : At G2' qs s := sm2 _ _ as
      have st : without (L.take (j + 1)) s = if e = s then without (L.take j) s else without (L.take j) s ++ [e] := by rw [take_snoc he, without_snoc]
      refine ⟨rfl, _, rfl, _, rfl, cD e, cD s, ae'.dp, ac'.dp, cD_shaped e, cD_shaped s, _, rfl, ?_⟩
      rw [cD_eqv]
      refine ite2 (fun hc => ?_) (fun hc => ?_)
      · have ne : e ≠ s := by simpa using hc
        rw [if_neg ne] at st
        exact ⟨_, rfl, k3 b e _ same_refl ae' st⟩
      · have ec : e = s := by simpa using hc
        rw [if_pos ec] at st
        exact k2 _ same_refl st
    rintro G1 rs s1 gD1 pr1
    rw [List.length_map, lbs, List.take_length] at pr1
    refine .inl ⟨D1, _, rfl, SqL.of gD1, fun rt hrt => ?_⟩
    have z1 := same_new (o := HO.tup (rs.map V.ref)) hrt
    have s2 := s1.trans z1
    have cR : CellsT (upd G1 rt (HO.tup (rs.map V.ref))) rt (without L s) := ⟨rs, upd_same, paired_imp (fun _ _ h => z1 _ _ h) pr1⟩
    generalize upd G1 rt (HO.tup (rs.map V.ref)) = G2 at s2 cR
    have bR : BdAt G2 rt (without L s) := ⟨cR, nW, aW, by omega, hR⟩
    refine ⟨_, rfl, rt, _, rfl, cR, nW, hR.1, by omega, fun c hc => inL c (mem_without.mp hc).1, fun ll G3 Ms Cs s3 _ lo reg lC lCs => ?_⟩
    have few := reg.few
    have fin : ∀ c, c ∉ without L s → ¬ Outer (without L s) c → ∃ F : List Cell, ∀ d, Air (without L s) c d ↔ d ∈ F := fun c hc hn => fin_set hR (by omega) hc hn
    have as3 := (as.same s2).same s3
    have bR3 := bR.ek (.of s3)
    refine ⟨_, rfl, _, rfl, _, rfl, _, rfl, ll, qs, Cs, s, rfl, lo, as3, by omega, fun G4 nn s4 ni => ?_⟩
    have no := numIn_of reg fin (self_out L s) ni
    refine ⟨rt, ll, nn, _, Ms, Cs, rfl, bR3.ek (.of s4), lotsLL_ek lo (.of s4), reg, fun l G5 S s5 ⟨ps, el, pS⟩ si => ?_⟩
    have lps : ps.length = S.length := Paired.length pS
    have lS := sides_len si.nd fun e he => ((si.mem e).mp he).1
    have rim := rimN_p (hangs_grown _ rfl hR nW : GrownP (without L s)) nW
    refine ⟨l, rfl, ⟨_, SqL.of el⟩, fun D hD => ?_⟩
    refine lc_cells (walk_list (K := K) (a := l) (xs := ps.map V.ref)) hD (fun i => (S.take i).map (·.1)) rfl (by rw [List.length_map]; omega) (fun i G _ sm => SqL.of (sm _ _ el)) ?_ ?_
    · rintro i x Ga Gb K1 K0 hi sm ⟨rfl, hx⟩ k1 k0
      rw [List.getElem?_map] at hx
      obtain ⟨q, hq, rfl⟩ := Option.map_eq_some_iff.mp hx
      obtain ⟨e, he, q1, q2, ee, a1, a2⟩ := paired_get pS hq
      refine ⟨rfl, yesT ⟨_, rfl, _, _, _, _, rfl, rfl, SqT.of (sm _ _ ee), at0, k1 q1 e.1 _ same_refl (sm _ _ a1) ?_⟩⟩
      rw [take_snoc he, List.map_append]
      rfl
    rintro G6 cs0 s6 gD6 pr6
    rw [List.length_map, lps, List.take_length] at pr6
    obtain ⟨ks, ek, q1, q2⟩ := ks_of pr6
    have lks : ks.length = cs0.length := by rw [← ek, List.length_map]
    have lcs0 : cs0.length = S.length := by rw [Paired.length pr6, List.length_map]
    refine ⟨D, ks, rfl, SqL.of (by rw [gD6]; congr 2; rw [show (ks.map fun p => V.ref p.1) = (ks.map (·.1)).map V.ref from by rw [List.map_map]; rfl, ek]), fun q hq => ?_, by omega, fun sa L0 hsa subL allL => ?_⟩
    · obtain ⟨c, _, ac, e⟩ := q1 q hq
      rw [e]
      exact SqT.of ac
    have y1 := same_new (o := SetTO P w sa L0) hsa
    obtain ⟨cs, pcs⟩ := cs_of (H := upd G6 sa (SetTO P w sa L0)) (L := L0) fun q hq => by
      obtain ⟨c, _, ac, e⟩ := q1 q (subL q hq)
      exact ⟨c, y1 _ _ ac, e⟩
    have mem : ∀ c, c ∈ cs ↔ c ∈ S.map (·.1) := fun c => by
      constructor
      · intro hc
        obtain ⟨q, hq, aq, e⟩ := paired_memR pcs c hc
        obtain ⟨d, hd, ad, e2⟩ := q1 q (subL q hq)
        rw [e] at e2
        rw [pair_inj e2]
        exact hd
      · intro hc
        obtain ⟨q, hq, e⟩ := q2 c hc
        obtain ⟨q', hq', e'⟩ := List.mem_map.mp (allL q hq)
        obtain ⟨i, hi⟩ := List.mem_iff_getElem?.mp hq'
        obtain ⟨d, hd, _, e3⟩ := paired_get pcs hi
        have : c = d := pair_inj (e.symm.trans (e'.symm.trans e3))
        rw [this]
        exact List.mem_of_getElem? hd
    refine ⟨sa, L0, cs, rfl, upd_same, pcs, fun nd so qs' C prq pm asc hso => ?_⟩
    have y2 := same_new (o := .lst (qs'.map V.ref)) hso
    have es := upd_same (H := upd G6 sa (SetTO P w sa L0)) (a := so) (o := .lst (qs'.map V.ref))
    have sB := (((s3.trans s4).trans s5).trans s6).trans (y1.trans y2)
    have cD' : CellsL (upd (upd G6 sa (SetTO P w sa L0)) so (.lst (qs'.map V.ref))) so C := ⟨qs', es, paired_imp (fun x y (h : At _ x y) => y2 _ _ h) prq⟩
    have ndC : C.Nodup := pm.nodup_iff.mpr nd
    have memC : ∀ x, x ∈ C ↔ HasW L s x := fun x => by
      rw [pm.mem_iff, mem, List.mem_map, has_due bt.hang sL hb]
      constructor
      · rintro ⟨⟨a, q⟩, he, rfl⟩
        obtain ⟨h1, h2⟩ := (si.mem _).mp he
        exact ⟨(num_air reg hR.1 (self_out L s) h1.out no).mp h2, q, h1⟩
      · rintro ⟨a, q, h1⟩
        exact ⟨(x, q), (si.mem _).mpr ⟨h1, (num_air reg hR.1 (self_out L s) h1.out no).mpr a⟩, rfl⟩
    have rcC : ReachIs L s C := ⟨ndC, asc, memC⟩
    have lC' : C.length ≤ 8000 := by
      have := len_le ndC (ys := S.map (·.1)) fun x hx => (mem x).mp (pm.mem_iff.mp hx)
      rw [List.length_map] at this
      omega
    have neC : C ≠ [] := List.ne_nil_of_mem ((memC s).mpr ⟨sL, .inl rfl⟩)
    have s27 := s2.trans sB
    have bt7 := bt.ek (.of s27)
    have as7 := as.same s27
    refine ⟨_, rfl, _, rfl, t, qs, L, s, rfl, bt7, as7, tg.same s27, fun r G8 C2 k8 cC2 rc2 _ => ?_⟩
    obtain rfl : C2 = C := rc2.uniq rcC
    obtain ⟨ds8, ed8, pd8⟩ := cD'.ek k8.ek
    refine ⟨_, rfl, .inl ⟨so, _, rfl, SqL.of ed8, fun tb htb => ?_⟩⟩
    have w1 := same_new (o := HO.tup (ds8.map V.ref)) htb
    have cT : CellsT (upd G8 tb (HO.tup (ds8.map V.ref))) tb C2 := ⟨ds8, upd_same, paired_imp (fun _ _ h => w1 _ _ h) pd8⟩
    have cC3 := cC2.ek (.of w1)
    have k9 := k8.same w1
    generalize upd G8 tb (HO.tup (ds8.map V.ref)) = G9 at k9 cT cC3
    refine ⟨bD C2, bD C2, cC3.dp, cT.dp, (lay_bD C2).shaped (by decide), (lay_bD C2).shaped (by decide), _, rfl, ?_⟩
    rw [eqv_bD, decide_eq_true rfl]
    refine ite2 (fun z => nomatch z) (fun _ => ?_)
    have cR9 := (cR.ek (.of sB)).ek k9.ek
    have as9 := k9.at as7
    refine ⟨_, rfl, _, rfl, rt, qs, without L s, s, rfl, cR9, by omega, as9, self_out L s, fun d G10 F s10 fa mF => ?_⟩
    refine ⟨d, wdK F, keysD F, rfl, fa.gd, kv_keys, fun so2 qs2 cs2 prq2 pm2 asc2 hso2 => ?_⟩
    have w2 := same_new (o := HO.lst (qs2.map V.ref)) hso2
    have k11 := (k9.same s10).same w2
    have cR11 := (cR9.ek (.of s10)).ek (.of w2)
    have cF : CellsL (upd G10 so2 (HO.lst (qs2.map V.ref))) so2 cs2 := ⟨qs2, upd_same, paired_imp (fun _ _ h => w2 _ _ h) prq2⟩
    generalize upd G10 so2 (HO.lst (qs2.map V.ref)) = G11 at k11 cF cR11
    obtain rfl : cs2 = C2 := ascU (pm2.nodup_iff.mpr fa.nk) ndC asc2 asc fun x => by
      rw [pm2.mem_iff, mem_keysD, memC, has_steps bt.hang sL hb]
      exact exists_congr fun m => mF x m
    have cD11 := cD'.ek k11.ek
    refine ⟨_, rfl, lD cs2, lD cs2, cF.dp, cD11.dp, lay_cells.shaped (by decide), lay_cells.shaped (by decide), _, rfl, ?_⟩
    rw [eqv_lD, decide_eq_true rfl]
    refine ite2 (fun z => nomatch z) (fun _ => ?_)
    have hp11 := kt_penC11 k11 (hp.same s27)
    have ek11 : Ek H G11 := (Ek.of s27).trans k11.ek
    refine ⟨(2 : Int), rfl, by decide, by decide, ?_⟩
    refine for_range (lo := 0) (n := 2) (fun i σ G => ∃ (v8 v9 v10 v11 : Option V), σ = [some (.ref p), some (.ref t), some (.ref qs), some (.ref rt), none, some (.ref ll), some (.ref so), none, v8, v9, v10, v11] ∧ PenC G p c (n + i) ∧ Ek G11 G ∧ TabsG Ts G) ⟨none, none, none, none, rfl, hp11, .of same_refl, k11.tb'⟩ ?_ ?_
    · rintro i σ G hi ⟨v8, v9, v10, v11, rfl, hpG, ekG, tgG⟩
      refine keyt _ G p c t qs rt so (n + i) L cs2 s _ _ _ _ _ _ _ hpG (by omega) (bt.ek (ek11.trans ekG)) tgG (ekG.at (ek11.at as)) (cR11.ek ekG) (cD11.ek ekG) neC (by omega) sL hb (fun x hx => (memC x).mp hx) fun G' w9 w10 w11 hp' ek' tg' => ?_
      exact ⟨_, w9, w10, w11, rfl, hp', ekG.trans ek', tg'⟩
    · rintro σ G ⟨v8, v9, v10, v11, rfl, hpG, ekG, tgG⟩
      exact k G hpG (ek11.trans ekG) tgG
end
end Sq

set_option Elab.async false
set_option linter.all false
set_option maxRecDepth 100000
set_option maxHeartbeats 8000000
/-! The law k16, whole. -/
namespace Sq
open PySem PySem.Spec PyProof.Rows L2
abbrev l16N : List Str := ["_law_script", "_law_pen_here", "_law_lap", "_law_body", "_law_free", "_law_start"]
def spLaw (K : PySem.W.Frag) (Ts : List Addr) : Sp := fun vs H Q _ => ∃ (a : Addr) (zs : List Int), vs = [.ref a] ∧ SqL K H a (zs.map V.int) ∧ zs.length ≤ 63 ∧ TabsG Ts H ∧ ∀ H', Q (.bl true) H'
section
variable {P : Program} {w : World} {K : PySem.W.Frag} {mg : Str → Option Value} {base : Heap} {Ts : List Addr}
theorem scL16 : FnScope l16N ["_law_script"] (defScope sLaw) := ⟨rfl, rfl, rfl, by decide +kernel, rfl, by decide +kernel, by decide +kernel⟩
theorem ok_law {f : Addr} {fd : FuncData} (F : FnP K "law" sLaw f fd) (B : Bl mg) (D0 : Df P w K mg base CX0 1 "_law_pen" ["_law_script"] (spPen K)) (DPk : Df P w K mg base CX0 2 "_law_pick" ["_law_pen_here", "_law_some"] (spPickC K))
    (DSh : Df P w K mg base CX0 2 "_law_shuffled" ["_law_pen_here", "_law_some"] spShuf) (DBd : Df P w K mg base CX0 4 "_law_nb_body" ["_law_pen_here", "_law_many"] spNBody) (DFd : Df P w K mg base CX0 1 "_law_nb_field" ["_law_body", "_law_wide"] spNFieldX) (DFr : Df P w K mg base CX0 3 "_law_nb_free" ["_law_body"] spNFree)
    (DSq : Df P w K mg base CX0 9 "_law_square_right" ["_law_pen_here", "_law_body", "_law_start"] (spSqR Ts)) (DR : Df P w K mg base CX0 7 "reach" ["body", "start"] (spReach Ts)) :
    FnOk P w K mg base CX0 10 f fd ["_law_script"] (spLaw K Ts) := by
  refine F.ok scL16 (fun vs H Q E h => ?_) (fun cdv A outer s H vs Q E hr h => ?_)
  · obtain ⟨a, zs, rfl, _⟩ := h
    rfl
  · obtain ⟨a, zs, rfl, hS, hl, tg, k⟩ := h
    have h64 := room64 hr
    have one_le : (1 : Nat) ≤ sizeLine := by rw [sizeLine_eq]; decide
    refine ⟨_, PSs.nox (pss_cons (ps_set (i := 1) scL16.nd rfl (.inl rfl) (pe_df D0 hr (by rfl) pass0 (pa_cons (pv 0) pa_nil)))
      (pss_cons (ps_for PassesOwn.never rfl (pi_range1 (by rfl) B.range (pa_cons pe_int pa_nil)) (pg_name (i := 2) scL16.nd rfl (.inl rfl))
      (pss_cons (ps_set (i := 3) scL16.nd rfl (.inl rfl) (pe_df DBd hr (by rfl) pass0 (pa_cons (pv 1) (pa_cons pe_int pa_nil))))
        (pss_cons (ps_set (i := 4) scL16.nd rfl (.inl rfl) (pe_df DFr hr (by rfl) pass0 (pa_cons (pv 3) pa_nil)))
        (pss_cons (ps_for PassesOwn.never rfl (pi_listX (K := K) rfl (pe_slice sl_list (pe_df DSh hr (by rfl) pass0 (pa_cons (pv 1) (pa_cons (pe_callTy call_list_of (by rfl) B.list PyProof.Rows.boot_list (pa_cons (pv 3) pa_nil)) pa_nil))) po_none (po_some pe_int))) (pg_name (i := 5) scL16.nd rfl (.inl rfl))
          (pss_cons (ps_if (PW.pt (pw_and (pt_cmpR (op_inH h64) (pv 5) (pv 4) (by rfl)) (pw_and1 (pt_not (pt_val (pe_df DSq hr (by rfl) pass0 (pa_cons (pv 1) (pa_cons (pv 3) (pa_cons (pv 5) pa_nil)))))))))
            (pss_one (ps_ret pe_bl))
            pss_nil)
          (pss_one (ps_if (PW.pt (pw_and (pt_cmpR (op_outH h64) (pv 5) (pv 4) (by rfl)) (pw_and1 (pt_cmpR (op_neK (K := K) rfl h64) (pe_df DR hr (by rfl) pass0 (pa_cons (pv 3) (pa_cons (pv 5) pa_nil))) (pe_tup (pa_cons (pv 5) pa_nil)) (nomark _)))))
            (pss_one (ps_ret pe_bl))
            pss_nil))))
        (pss_one (ps_if (pt_cmpR (op_neK (K := K) rfl h64) (pe_df DR hr (by rfl) pass0 (pa_cons (pv 3) (pa_cons (pe_df DPk hr (by rfl) pass0 (pa_cons (pv 1) (pa_cons (pe_df DFd hr (by rfl) pass0 (pa_cons (pv 3) (pa_cons pe_int pa_nil))) pa_nil))) pa_nil))) (pe_tup pa_nil) (nomark _))
          (pss_one (ps_ret pe_bl))
          pss_nil))))))
      (pss_one (ps_ret pe_bl)))), ?_⟩
    refine ⟨_, rfl, a, zs, rfl, hS, hl, fun p H1 hp1 s1 np => ?_⟩
    have tg1 := tg.same s1
    refine ⟨(3 : Int), rfl, by decide, by decide, ?_⟩
    refine for_range (lo := 0) (n := 3) (fun i σ G => ∃ (n : Nat) (v2 v3 v4 v5 : Option V), σ = [some (.ref a), some (.ref p), v2, v3, v4, v5] ∧ PenAt G p n ∧ n ≤ 1000 * i ∧ TabsG Ts G) ⟨0, none, none, none, none, rfl, hp1, by omega, tg1⟩ ?_ ?_
    · rintro i σ G hi ⟨n, v2, v3, v4, v5, rfl, hp, hn, tgG⟩
      obtain ⟨c, hp⟩ := hp.c
      refine ⟨_, rfl, p, c, n, 16, rfl, by decide, by decide, hp, by omega, fun bt G2 L n2 hp2 hn2 k2 ct nL aL hL lL sL => ?_⟩
      have tg2 := pen_tabs hp.at k2 tgG
      have bt2 : BdAt G2 bt L := ⟨ct, nL, aL, by omega, hL⟩
      refine ⟨_, rfl, bt, L, rfl, ct, nL, by omega, fun fl G3 s3 cF => ?_⟩
      have bt3 := bt2.ek (.of s3)
      obtain ⟨bs, eb, pb⟩ := id bt3.ct
      have lbs : bs.length = L.length := Paired.length pb
      refine ⟨_, rfl, _, rfl, bt, _, rfl, .inr (SqT.of eb), fun l1 hl1 => ?_⟩
      have w1 := same_new (o := HO.lst (bs.map V.ref)) hl1
      have e1 := upd_same (H := G3) (a := l1) (o := HO.lst (bs.map V.ref))
      have bt4 := bt3.ek (.of w1)
      have cF4 := cF.ek (.of w1)
      have s4 := s3.trans w1
      have eb4 := w1 _ _ eb
      generalize upd G3 l1 (HO.lst (bs.map V.ref)) = G4 at e1 bt4 cF4 s4 eb4
      have hp4 := hp2.same s4
      have tg4 := tg2.same s4

      refine ⟨p, l1, n2, _, rfl, hp4.at, by omega, e1, by rw [List.length_map]; omega, fun l2 G5 ys n5 hp5 hn5 k5 e2 mem len => ?_⟩
      have ek5 := pen_ek hp4.at k5
      have tg5 := pen_tabs hp4.at k5 tg4
      have bt5 := bt4.ek ek5
      have cF5 := cF4.ek ek5
      refine ⟨_, rfl, l2, ys, rfl, SqL.of e2, fun l3 hl3 => ?_⟩
      have w3 := same_new (o := HO.lst (cutV ys none (some 8))) hl3
      have e3 := upd_same (H := G5) (a := l3) (o := HO.lst (cutV ys none (some 8)))
      rw [show cutV ys none (some 8) = ys.take 8 from cut_take ys 8] at w3 e3 ⊢
      have eb6' := w3 _ _ (ek5 bt (.tup (bs.map V.ref)) (fun _ z => nomatch z) (fun _ z => nomatch z) eb4)
      have bt6 := bt5.ek (.of w3)
      have cF6 := cF5.ek (.of w3)
      have hp6 : PenAt (upd G5 l3 (HO.lst (ys.take 8))) p n5 := hp5.same w3
      have tg6 := tg5.same w3
      generalize upd G5 l3 (HO.lst (ys.take 8)) = G6 at e3 bt6 cF6 hp6 tg6 eb6'
      obtain ⟨bs6, eb6, pb6⟩ := id bt6.ct
      have ebs : bs6.map V.ref = bs.map V.ref := by
        rw [eb6] at eb6'
        exact HO.tup.inj (Option.some.inj eb6')
      refine ⟨l3, rfl, ⟨_, SqL.of e3⟩, ?_⟩
      refine for_list (K := K) (a := l3) (xs := ys.take 8) (fun j σ G => ∃ (n : Nat) (v5 : Option V), σ = [some (.ref a), some (.ref p), some (.int (0 + (i : Int))), some (.ref bt), some (.ref fl), v5] ∧ PenAt G p n ∧ n ≤ n5 + 2 * j ∧ Ek G6 G ∧ TabsG Ts G) ⟨n5, v5, rfl, hp6, by omega, .of same_refl, tg6⟩ (fun j σ G _ ⟨_, _, _, _, _, ek, _⟩ => SqL.of (ek.lst e3)) ?_ ?_
      · rintro j x σ G7 hj ⟨m, v5, rfl, hp7, hm, ek7, tg7⟩
        have jl : j < 8 := by
          have := (List.getElem?_eq_some_iff.mp hj).1
          rw [List.length_take] at this
          omega
        have hx : x ∈ bs6.map V.ref := by
          rw [ebs]
          exact mem x (List.mem_of_mem_take (List.mem_of_getElem? hj))
        obtain ⟨q, hq, rfl⟩ := List.mem_map.mp hx
        obtain ⟨jj, hjj⟩ := List.mem_iff_getElem?.mp hq
        obtain ⟨st, hst, aq6⟩ := paired_get pb6 hjj
        have sL' : st ∈ L := List.mem_of_getElem? hst
        have aq7 := ek7.at aq6
        have bt7 := bt6.ek ek7
        have cF7 := cF6.ek ek7
        obtain ⟨c7, hp7⟩ := hp7.c
        refine ⟨_, rfl, _, rfl, q, fl, st, _, rfl, rfl, aq7, cF7, _, rfl, ?_⟩
        have memF : st ∈ L.filter (fun c => hangsB (without L c)) ↔ hangsB (without L st) = true := by
          rw [List.mem_filter]
          exact and_iff_right sL'
        have rest : ∀ (G8 : Hp) (m8 : Nat), PenAt G8 p m8 → m8 ≤ m + 2 → Ek G6 G8 → TabsG Ts G8 → ∃ (n : Nat) (v5 : Option V), [some (V.ref a), some (.ref p), some (.int (0 + (i : Int))), some (.ref bt), some (.ref fl), some (.ref q)] = [some (.ref a), some (.ref p), some (.int (0 + (i : Int))), some (.ref bt), some (.ref fl), v5] ∧ PenAt G8 p n ∧ n ≤ n5 + 2 * (j + 1) ∧ Ek G6 G8 ∧ TabsG Ts G8 := fun G8 m8 h1 h2 h3 h4 => ⟨m8, _, rfl, h1, by omega, h3, h4⟩
        refine ite2 (fun h1 => ?_) (fun h1 => ?_)
        · have inF := of_decide_eq_true h1
          have hb := memF.mp inF
          refine ⟨_, rfl, _, rfl, _, rfl, p, c7, bt, q, m, L, st, rfl, hp7, by omega, bt7, lL, sL, tg7, aq7, sL', hb, fun G8 hp8 ek8 tg8 => ?_⟩
          refine ⟨_, rfl, ite2 (fun z => nomatch z) (fun _ => ?_)⟩
          refine ⟨_, rfl, _, rfl, q, fl, st, _, rfl, rfl, ek8.at aq7, cF7.ek ek8, _, rfl, ?_⟩
          refine ite2 (fun z => ?_) (fun _ => ?_)
          · rw [decide_eq_true inF] at z
            cases z
          · exact rest G8 _ hp8.at (Nat.le_refl _) (ek7.trans ek8) tg8
        · have nF : st ∉ L.filter (fun c => hangsB (without L c)) := fun z => h1 (decide_eq_true z)
          have hb : hangsB (without L st) = false := by
            cases q : hangsB (without L st) with
            | false => rfl
            | true => exact absurd (memF.mpr q) nF
          refine ⟨_, rfl, _, rfl, q, fl, st, _, rfl, rfl, aq7, cF7, _, rfl, ?_⟩
          refine ite2 (fun _ => ?_) (fun z => absurd (by rw [decide_eq_false nF]; rfl) z)
          refine ⟨_, rfl, _, rfl, bt, q, L, st, rfl, bt7, aq7, tg7, fun r G8 C k8 cC rc _ => ⟨_, rfl, one_le, fun u hu => ?_⟩⟩
          obtain rfl : C = [st] := rc.uniq ⟨by simp, by simp [Asc], fun x => by
            unfold HasW
            rw [List.mem_singleton]
            exact ⟨fun h => ⟨sL', .inl h⟩, fun ⟨_, h⟩ => h.elim id fun ⟨_, h, _⟩ => by rw [hb] at h; cases h⟩⟩
          have w8 := same_new (o := HO.tup [V.ref q]) hu
          have k9 := k8.same w8
          have c1 : CellsT (upd G8 u (HO.tup [V.ref q])) u [st] := ⟨[q], upd_same, .cons (w8 _ _ (k8.at aq7)) .nil⟩
          have c2 := cC.ek (.of w8)
          generalize upd G8 u (HO.tup [V.ref q]) = G9 at k9 c1 c2
          refine ⟨bD [st], bD [st], c2.dp, c1.dp, (lay_bD _).shaped (by decide), (lay_bD _).shaped (by decide), _, rfl, ?_⟩
          rw [eqv_bD, decide_eq_true rfl]
          refine ite2 (fun z => nomatch z) (fun _ => ?_)
          exact rest G9 _ (kt_penC11 k9 hp7).at (by omega) (ek7.trans k9.ek) k9.tb'
      · rintro σ G7 ⟨m, v5, rfl, hp7, hm, ek7, tg7⟩
        have lm : (ys.take 8).length ≤ 8 := by
          rw [List.length_take]
          omega
        have bt7 := bt6.ek ek7
        obtain ⟨c7, hp7⟩ := hp7.c
        refine ⟨_, rfl, _, rfl, _, rfl, bt, L, 1, rfl, by decide, by decide, bt7.ct, nL, hL.1, by omega, sL, fun l G8 C mm MM rr RR s8 _ cC fi lC => ?_⟩
        obtain ⟨_, mc, _⟩ := fi.corner (wd := 1) (by decide)
        obtain ⟨cs, ec, pc⟩ := cC
        have lcs : cs.length = C.length := Paired.length pc
        have posC : 0 < C.length := List.length_pos_iff.mpr (List.ne_nil_of_mem mc)
        refine ⟨p, c7, l, m, _, rfl, hp7.same s8, by omega, .inl (SqL.of ec), by rw [List.length_map]; omega, by rw [List.length_map]; omega, fun jj x G9 hx hp9 hb9 => ?_⟩
        have k9 := kp_pick hb9
        have ek9 := pen_ek (hp7.same s8).at k9
        have tg9 := pen_tabs (hp7.same s8).at k9 (tg7.same s8)
        rw [List.getElem?_map] at hx
        obtain ⟨q, hq, rfl⟩ := Option.map_eq_some_iff.mp hx
        obtain ⟨e, he, ae⟩ := paired_get pc hq
        have nE := ((fi.mem e).mp (List.mem_of_getElem? he)).2
        refine ⟨bt, q, L, e, rfl, (bt7.ek (.of s8)).ek ek9, ek9.at ae, tg9, fun r G10 C2 k10 cC2 rc2 _ => ⟨Nat.zero_le _, fun u hu => ?_⟩⟩
        obtain rfl : C2 = [] := rc2.uniq ⟨.nil, .nil, fun x => ⟨fun h => (nomatch h), fun ⟨h, _⟩ => absurd h nE⟩⟩
        have w11 := same_new (o := HO.tup []) hu
        have k11 := k10.same w11
        have c1 : CellsT (upd G10 u (HO.tup [])) u [] := ⟨[], upd_same, .nil⟩
        have c2 := cC2.ek (.of w11)
        generalize upd G10 u (HO.tup []) = G11 at k11 c1 c2
        refine ⟨bD [], bD [], c2.dp, c1.dp, (lay_bD _).shaped (by decide), (lay_bD _).shaped (by decide), _, rfl, ?_⟩
        rw [eqv_bD, decide_eq_true rfl]
        refine ite2 (fun z => nomatch z) (fun _ => ?_)
        exact ⟨m + 1, _, _, _, _, rfl, (kt_penC11 k11 hp9).at, by omega, k11.tb'⟩
    · rintro σ G ⟨n, v2, v3, v4, v5, rfl, hp, hn, tgG⟩
      exact k G
end
end Sq

set_option Elab.async false
set_option linter.all false
set_option maxRecDepth 100000
set_option maxHeartbeats 4000000
/-! What the head must tell of the errors' classes, as a Bool and a datum. -/
namespace Sq
open PySem PySem.Spec PyProof.Rows L2
/-! ### the text of an __init__ -/
structure ITxt (st : Stmt) (ns : List Str) : Prop where
  ex : ∃ (msg : Str) (j : Nat) (p0 p1 p2 p3 p4 p5 : Pos) (ps : List Ps) (ar : Arg), defBody st = supS msg j p0 p1 p2 p3 p4 p5 :: (ns.zip ps).map (fun z => keepS z.1 z.2) ∧ ns.length ≤ ps.length ∧ ((defArgs st).posonlyargs ++ (defArgs st).args).head? = some ar ∧
    ar.arg = "self" ∧ (p2.endLine == p4.line) = true
  bind : ∀ (name qual : Str) (kV doc pm cdv ct : Value) (an : Option Addr) (cc : Addr) (s : Shared) (us : List Value), us.length = ns.length + 1 →
    BindsTo s (PySem.W.ksFn name qual (defArgs st) (defBody st) (defScope st) .none kV doc pm an cdv ct cc) ⟨us, []⟩ ((("self" : Str) :: ns).zip us)
  sup : (defScope st).names.lookup ("super" : Str) = some .globalImplicit
  cls : (defScope st).names.lookup ("__class__" : Str) = some .free
  loc : ∀ x ∈ (("self" : Str) :: ns), (defScope st).names.lookup x = some .local
  dbg : ∀ x ∈ ns, (x == ("__debug__" : Str)) = false
  cell : ∀ x ∈ (defScope st).names, x.2 ≠ .cell
  co : (defScope st).isCoroutine = false
  gen : (defScope st).isGenerator = false
  kind : (defScope st).kind = .function
  nd : ns.Nodup
  noSelf : ("self" : Str) ∉ ns
  len : ns.length ≤ 900
abbrev sI (j : Nat) : Stmt := inClass (top j) 0
theorem iBadCell : ITxt (sI 2) ["cell"] := ⟨⟨_, _, _, _, _, _, _, _, [⟨_, _, _, _⟩], _, rfl, by decide, rfl, rfl, rfl⟩, fun _ _ _ _ _ _ _ _ _ _ us hl => (match us, hl with | [_, _], _ => .of_eq rfl), rfl, rfl, by decide +kernel, by decide +kernel, by decide +kernel, rfl, rfl, rfl, by decide +kernel, by decide +kernel, by decide⟩
theorem iBadBody : ITxt (sI 3) ["cells"] := ⟨⟨_, _, _, _, _, _, _, _, [⟨_, _, _, _⟩], _, rfl, by decide, rfl, rfl, rfl⟩, fun _ _ _ _ _ _ _ _ _ _ us hl => (match us, hl with | [_, _], _ => .of_eq rfl), rfl, rfl, by decide +kernel, by decide +kernel, by decide +kernel, rfl, rfl, rfl, by decide +kernel, by decide +kernel, by decide⟩
/-! ### what is looked at -/
abbrev FnI : Type := Option (Str × Str × Arguments × FuncBody × Scope × Addr × List Str × Addr)
def obsI (K : PySem.W.Frag) (x : Str) : FnI := match K.lookup (He.ma K (He.ga K x) "__init__") with
  | some ⟨_, _, .func fd, _⟩ => some (fd.name, fd.qualname, fd.params, fd.body, fd.scope, fd.globals, fd.closure.map (·.1), fd.builtins)
  | _ => none
def valI (x : Str) (st : Stmt) : FnI := some ("__init__", x ++ ".__init__", defArgs st, .stmts (defBody st), defScope st, mainGlobals, ["__class__"], builtinsNs)
/-- the __init__'s function: no defaults, its code of this file, its cell the class -/
def fnB (file : Str) (K : PySem.W.Frag) (C fI : Addr) (qual : Str) : Bool := match K.lookup fI with
  | some ⟨_, _, .func fd, _⟩ => (match fd.defaults with
      | .none => true
      | _ => false) && (match fd.code with
      | .ref c => PySem.W.codeIn K (.ref c) qual && (match K.lookup c with
        | some ⟨_, _, .fields vs, _⟩ => (match (vs[2]? : Option Value) with
          | some (.str z _) => decide (z = file)
          | _ => false)
        | _ => false)
      | _ => false) && (match fd.closure with
      | [(_, cc)] => (match K.lookup cc with
        | some ⟨_, _, .cell (some (.ref D)), _⟩ => Nat.beq D C
        | _ => false)
      | _ => false)
  | _ => false
/-- the class's object -/
def clB (K : PySem.W.Frag) (C : Addr) : Bool := match K.lookup C with
  | some ⟨.type T, _, .cls cd, sl⟩ => decide (T = "type") && (match cd.mro, sl.toList with
      | .ref C0 :: tl, [_, _, _, _, some (.builtin nw), _] => Nat.beq C0 C && (decide (nw = "ValueError.__new__") && (!cd.hasDel && (cd.hasDict && (PySem.HandSPX.refsVE tl && He.eqO (PySem.W.alongIn K "__init__" tl) (some (some (.builtin "ValueError.__init__")))))))
      | _, _ => false)
  | _ => false
def obB (a b : Option Bool) : Bool := decide (a = b)
def errB (file : Str) (K : PySem.W.Frag) (x : Str) (ns : List Str) : Bool :=
  clB K (He.ga K x) && (fnB file K (He.ga K x) (He.ma K (He.ga K x) "__init__") (x ++ ".__init__") && (He.eqO (PySem.W.findIn K (.ref (He.ga K x)) "__setattr__") (some (some (.builtin "object.__setattr__"))) &&
  (He.eqO (PySem.W.findIn K (.ref (He.ga K x)) "__init__") (some (some (.ref (He.ma K (He.ga K x) "__init__")))) && (decide (PySem.W.typeIn K (.ref (He.ma K (He.ga K x) "__init__")) = some (.type "function")) && (PySem.W.keepIn K (.ref (He.ga K x)) &&
  (obB (PySem.W.subIn K (.ref (He.ga K x)) (.type "ValueError")) (some true) && (obB (PySem.W.mroIn K (He.ga K x) (.ref (He.ga K x))) (some true) && (ns.all fun f => He.eqO (PySem.W.findIn K (.ref (He.ga K x)) f) (some none)) &&
  (He.eqO (PySem.W.findIn K (.ref (He.ga K x)) "__getattribute__") (some (some (.builtin "BaseException.__getattribute__"))) && (He.eqO (PySem.W.findIn K (.ref (He.ga K x)) "__getattr__") (some none) &&
  (obB (PySem.W.subIn K (.ref (He.ga K x)) (.type "BaseException")) (some true) && (PySem.W.hasDictIn K (He.ga K x) && (He.eqO (PySem.W.findIn K (.ref (He.ga K x)) "__class__") (some (some (.builtin "object.__class__"))) &&
  (obB (PySem.W.mroIn K (He.ga K x) (.type "object")) (some true) && He.eqO (PySem.W.nsIn K mainGlobals x) (some (some (.ref (He.ga K x)))))))))))))))))
/-- what is common to all -/
def comB (K : PySem.W.Frag) : Bool := He.eqO (PySem.W.nsIn K PySem.cStatics "thirdparty.any") (some none) && (He.eqO (PySem.W.nsIn K mainGlobals "super") (some none) &&
  (He.eqO (PySem.W.specialIn K (.builtin "object.__class__") "__get__") (some (some (.builtin "getset_descriptor.__get__"))) && obB (PySem.W.takesIn K (.builtin "object.__class__")) (some true)))
theorem ba {a b : Bool} (h : (a && b) = true) : a = true ∧ b = true := Bool.and_eq_true_iff.mp h
theorem clB_ok {K : PySem.W.Frag} {C : Addr} (h : clB K C = true) : ∃ nm q N bs bm sn sub ab col dd k0 k1 k2 k3 k5, K.lookup C = some (excClassObj nm q C N bs bm true sn sub ab col dd k0 k1 k2 k3 k5 "ValueError.__new__") ∧ PySem.HandSPX.refsVE bm = true ∧
    PySem.W.alongIn K "__init__" bm = some (some (.builtin "ValueError.__init__")) := by
  unfold clB at h
  split at h
  · rename_i T dd cd sl ho
    obtain ⟨hT, h⟩ := ba h
    split at h
    · rename_i C0 tl k0 k1 k2 k3 nw k5 hm hs
      obtain ⟨g1, h⟩ := ba h
      obtain ⟨g2, h⟩ := ba h
      obtain ⟨g3, h⟩ := ba h
      obtain ⟨g4, h⟩ := ba h
      obtain ⟨g5, g6⟩ := ba h
      have e1 : C0 = C := Nat.eq_of_beq_eq_true g1
      have e2 : nw = "ValueError.__new__" := of_decide_eq_true g2
      have e0 : T = "type" := of_decide_eq_true hT
      subst e1 e2 e0
      obtain ⟨nm, bs, mro, nsp, qn, hd, sn, sub, ab, col, del⟩ := cd
      dsimp only at hm g3 g4
      have e3 : del = false := by simpa using g3
      subst hm e3 g4
      have hsl : sl = #[k0, k1, k2, k3, some (.builtin "ValueError.__new__"), k5] := by
        obtain ⟨l⟩ := sl
        exact congrArg Array.mk hs
      subst hsl
      exact ⟨nm, qn, nsp, bs, tl, sn, sub, ab, col, dd, k0, k1, k2, k3, k5, ho, g5, He.eqO_ok g6⟩
    · cases h
  · cases h
theorem fnB_ok {file : Str} {K : PySem.W.Frag} {C fI : Addr} {qual : Str} {fd : FuncData} {oc : Value} {od : Option Addr} {osl : Array (Option Value)} (lk : K.lookup fI = some ⟨oc, od, .func fd, osl⟩) (h : fnB file K C fI qual = true) :
    fd.defaults = .none ∧ ∃ (cda : Addr) (n : Str) (cc : Addr) (ccl cl : Value) (cdd cld : Option Addr) (ccs csl : Array (Option Value)) (vs : Array Value) (tf : Tok), fd.code = .ref cda ∧ PySem.W.codeIn K (.ref cda) qual = true ∧ fd.closure = [(n, cc)] ∧
      K.lookup cda = some ⟨ccl, cdd, .fields vs, ccs⟩ ∧ vs[2]? = some (.str file tf) ∧ K.lookup cc = some ⟨cl, cld, .cell (some (.ref C)), csl⟩ := by
  unfold fnB at h
  rw [lk] at h
  obtain ⟨h, h3⟩ := ba h
  obtain ⟨h1, h2⟩ := ba h
  have g1 : fd.defaults = .none := by
    split at h1
    · assumption
    · cases h1
  refine ⟨g1, ?_⟩
  split at h2
  · rename_i c hc
    obtain ⟨g2, h2⟩ := ba h2
    split at h2
    · rename_i ccl cdd vs ccs hcl
      split at h2
      · rename_i z tf hz
        have e := of_decide_eq_true h2
        subst e
        split at h3
        · rename_i n cc hcc
          split at h3
          · rename_i cl cld D csl hD
            have e := Nat.eq_of_beq_eq_true h3
            subst e
            exact ⟨c, n, cc, ccl, cl, cdd, cld, ccs, csl, vs, tf, hc, g2, hcc, hcl, hz, hD⟩
          · cases h3
        · cases h3
      · cases h2
    · cases h2
  · cases h2
/-- all that is told of one class -/
structure ErrOk (P : Program) (K : PySem.W.Frag) (x : Str) (ns : List Str) : Prop where
  s : SErr P K (He.ga K x) (He.ma K (He.ga K x) "__init__") ns
  xf : XfC K (He.ga K x)
  ce : ClsE K (He.ga K x)
  gl : PySem.W.nsIn K mainGlobals x = some (some (.ref (He.ga K x)))
theorem errB_ok {P : Program} {K : PySem.W.Frag} {x : Str} {st : Stmt} {ns : List Str} (htop : (P.main.scope.names.lookup ("super" : Str)).isSome = false) (I : ITxt st ns) (ho : obsI K x = valI x st) (h : errB P.main.file K x ns = true) (hc : comB K = true) : ErrOk P K x ns := by
  unfold errB at h
  obtain ⟨a1, h⟩ := ba h
  obtain ⟨a2, h⟩ := ba h
  obtain ⟨a3, h⟩ := ba h
  obtain ⟨a4, h⟩ := ba h
  obtain ⟨a5, h⟩ := ba h
  obtain ⟨a6, h⟩ := ba h
  obtain ⟨a7, h⟩ := ba h
  obtain ⟨a89, h⟩ := ba h
  obtain ⟨a8, a9⟩ := ba a89
  obtain ⟨b1, h⟩ := ba h
  obtain ⟨b2, h⟩ := ba h
  obtain ⟨b3, h⟩ := ba h
  obtain ⟨b4, h⟩ := ba h
  obtain ⟨b5, h⟩ := ba h
  obtain ⟨b6, b7⟩ := ba h
  unfold comB at hc
  obtain ⟨c1, hc⟩ := ba hc
  obtain ⟨c2, hc⟩ := ba hc
  obtain ⟨c3, c4⟩ := ba hc
  have ob : ∀ {a b : Option Bool}, obB a b = true → a = b := fun q => of_decide_eq_true q
  refine ⟨⟨clB_ok a1, He.eqO_ok a3, He.eqO_ok a4, of_decide_eq_true a5, a6, ob a7, ob a8, He.eqO_ok c1, He.eqO_ok c2, fun f hf => He.eqO_ok (List.all_eq_true.mp a9 f hf), I.nd, I.len, I.noSelf, htop, ?_⟩, ⟨He.eqO_ok b1, He.eqO_ok b2, ob b3, b4⟩,
    ⟨He.eqO_ok b1, He.eqO_ok b2, ob b3, b4, He.eqO_ok b5, He.eqO_ok c3, ob c4, ob b6⟩, He.eqO_ok b7⟩
  unfold obsI at ho
  split at ho
  · rename_i oc od fd osl lk
    obtain ⟨q1, cda, n, cc, ccl, cl, cdd, cld, ccs, csl, vs, tf, q2, q3, q4, q5, q6, q7⟩ := fnB_ok lk a2
    obtain ⟨n1, n2, n3, n4, n5, n6, n7, n8, n9, n10, n11, n12, n13, n14, n15⟩ := fd
    dsimp only at q1 q2 q4
    unfold valI at ho
    simp only [Option.some.injEq, Prod.mk.injEq] at ho
    obtain ⟨r1, r2, r3, r4, r5, r6, r7, r8⟩ := ho
    rw [q4] at r7
    have en : n = "__class__" := by simpa using r7
    subst r1 r2 r3 r4 r5 r6 r8 q1 q2 q4 en
    obtain ⟨msg, j, p0, p1, p2, p3, p4, p5, ps, ar, e1, e2, e3, e4, e5⟩ := I.ex
    have bb := I.bind
    rw [e1] at lk bb
    exact ⟨oc, od, osl, _, _, _, _, _, _, _, _, _, cda, cc, ar, msg, j, p0, p1, p2, p3, p4, p5, ps, ccl, cl, cdd, cld, ccs, csl, vs, tf, lk, e2, e3, e4, q3, q5, q6, q7, fun s us hu => bb _ _ _ _ _ _ _ _ _ s us hu, I.sup, I.cls, I.loc, e5, I.dbg, I.cell, I.co, I.gen, I.kind⟩
  · cases ho
end Sq

set_option Elab.async false
set_option linter.all false
set_option maxRecDepth 100000
set_option maxHeartbeats 0
/-! The head. -/
namespace Sq
open PySem PySem.Spec PyProof.Rows L2
def dd (x : Str) (st : Stmt) : He.DefD := ⟨(x, none), x, x, defArgs st, defBody st, defScope st, [], []⟩
def fn0 : List He.DefD := [dd "is_whole" gWhole, dd "is_cell" gIsCell, dd "checked_cell" gChecked, dd "plain_cell" gPlain, dd "four_beside" gFour, dd "lot_of" gLot, dd "lot_without" gWithout, dd "near_in" gNear, dd "flood" gFlood, dd "lot_hangs" gHangs, dd "hangs_without" gHangsW, dd "links_around" gLinks, dd "is_body" gIsBody, dd "lot_of_body" gLotB, dd "next_side" gNextSide, dd "ring_from" gRingFrom, dd "reach" gReach, dd "walk" gWalk, dd "walk_length" gWalkLength, dd "walk_in" gWalkIn, dd "ways_in" gWaysIn, dd "distances_to" gDistancesTo, dd "_law_pen" sPen, dd "_law_draw" sDraw, dd "_law_pick" sPick, dd "_law_shuffled" lShuffled, dd "_law_nb_beside" nBeside, dd "_law_nb_lots" nLots, dd "_law_nb_field" nField, dd "_law_nb_regions" nRegions, dd "_law_nb_number" nNumber, dd "_law_nb_sides" nSides, dd "_law_nb_free" nFree, dd "_law_nb_steps" nSteps, dd "_law_nb_both" nBoth, dd "_law_nb_far" nFar, dd "_law_nb_grown" nGrown, dd "_law_nb_crosses" nCrosses, dd "_law_nb_ring" nRing, dd "_law_nb_spiral" nSpiral, dd "_law_nb_body" nBody, dd "_law_square_right" lSquareRight, dd "law" sLaw]
def md (x : Str) (st : Stmt) : He.DefD := ⟨(x, some "__init__"), "__init__", x ++ ".__init__", defArgs st, defBody st, defScope st, [], []⟩
def fn : List He.DefD := fn0 ++ []
def clsF : List He.Fa := []
def frees : List Str := ["int", "len", "list", "tuple", "bool", "isinstance", "range", "sorted", "abs", "min", "max", "set", "any", "all", "dict"]
def errN : List (Str × List Str) := [("BadCell", ["cell"]), ("BadBody", ["cells"])]
def exms : List He.Fa := []
def glos : List He.Fa := [.glo "CROSSWISE"]
def intF : List He.Fa := []
def fa : List He.Fa := fn0.map (fun d => .glo d.name) ++ (frees.map .free ++ (exms ++ (glos ++ (clsF ++ intF))))
abbrev R : PySem.W.OpenRow := PySem.W.OpenLaw.row PySem.Challenge.rw_slideinto_k16_whole_reach
abbrev fileS : Str := PySem.Challenge.pw_slideinto_k16_whole_reach.main.file
def initSt : List (Str × Stmt) := [("BadCell", sI 2), ("BadBody", sI 3)]
def tyB (K : PySem.W.Frag) (x : Str) : Bool := decide (PySem.W.typeIn K (.ref (He.ga K x)) = some (.type "type"))
/-- a tuple of cells at module level -/
def eachC (K : PySem.W.Frag) : List Value → List Cell → Bool
  | [], [] => true
  | .ref r :: vs, d :: ds => (match K.lookup r with
    | some ⟨.type T, _, .seq its _, _⟩ => decide (T = "tuple") && (decide (its.size ≤ sizeLine) && (match its.toList with
      | [.int i _, .int j _] => decide (i = d.1) && decide (j = d.2)
      | _ => false))
    | _ => false) && eachC K vs ds
  | _, _ => false
def tupC (K : PySem.W.Frag) (x : Str) (ds : List Cell) : Bool := match K.lookup (He.ga K x) with
  | some ⟨.type T, _, .seq its _, _⟩ => decide (T = "tuple") && (decide (its.size ≤ sizeLine) && eachC K its.toList ds)
  | _ => false
def conB (K : PySem.W.Frag) : Bool := (tupC K "CROSSWISE" crossL)
def allB (K : PySem.W.Frag) : Bool := comB K && ((errN.all fun p => errB fileS K p.1 p.2 && tyB K p.1) && conB K)
def tabDs : List He.Defn := [("is_body", none)]
abbrev AlS : Type := He.AlD × (List FnI × Bool)
def obsS (K : PySem.W.Frag) : AlS := (He.obsD fa fn K, initSt.map (fun p => obsI K p.1), allB K)
def valS : AlS := (He.valD fn, initSt.map (fun p => valI p.1 p.2), true)
def kOf (g : Addr → Option Obj) : PySem.W.Frag := He.frT g (PySem.cStatics :: He.asD g 5)
abbrev AlK : Type := AlS × Bool
def obsK (g : Addr → Option Obj) : AlK := (obsS (kOf g), He.tabsB g tabDs (kOf g))
/-- what is told -/
structure SaysK (h : Heap) (K : PySem.W.Frag) : Prop where
  s : obsS K = valS
  t : ∀ t ∈ tabDs, PySem.W.codeHdIn K (He.cT K t).1 (He.cT K t).2 = true ∧ K.lookup (He.cT K t).2 = none ∧ h.get? (He.cT K t).2 = some { cls := .none, data := .fields #[] }
theorem says_of {h : Heap} (e : obsK h.get? = (valS, true)) : SaysK h (kOf h.get?) := by
  have e1 : obsS (kOf h.get?) = valS := congrArg (fun z : AlK => z.1) e
  have e2 : He.tabsB h.get? tabDs (kOf h.get?) = true := congrArg (fun z : AlK => z.2) e
  refine ⟨e1, fun t ht => ?_⟩
  obtain ⟨h3, h4⟩ := ba (List.all_eq_true.mp e2 t ht)
  cases q : h.get? (He.cT (kOf h.get?) t).2 with
  | none =>
    rw [q] at h4
    cases h4
  | some o =>
    rw [q] at h4
    exact ⟨h3, He.frT_none q h4, by rw [He.emptyTab_eq h4]⟩
def hk : PySem.W.Hook where
  α := AlK
  obs := fun s => obsK s.heap.get?
  val := fun _ => (valS, true)
  says := fun _ h => ∃ K : PySem.W.Frag, K.In h ∧ SaysK h K
  of := fun _ _ e => ⟨_, He.frT_in, says_of e⟩
  keeps := fun _ _ _ ⟨K, hK, c⟩ k => ⟨K, PySem.W.Frag.In.keeps hK k, ⟨c.s, fun t ht => ⟨(c.t t ht).1, (c.t t ht).2.1, k _ _ (c.t t ht).2.2⟩⟩⟩
def ob (s : PySem.W.SharedT) : AlK := obsK (HandSHeadRun.getT s)
theorem ob_eq (s : PySem.W.SharedT) : ob s = hk.obs s.abs := by
  have e : HandSHeadRun.getT s = s.abs.heap.get? := funext (HandSHeadRun.getT_eq s)
  show obsK _ = obsK _
  rw [e]
def loose1 : List Str := ["SlideError", "BadCell", "BadBody", "is_whole", "is_cell", "checked_cell", "plain_cell", "four_beside", "lot_of", "lot_without", "near_in", "flood", "lot_hangs", "hangs_without", "links_around", "is_body", "lot_of_body", "next_side", "ring_from", "reach", "walk", "walk_length", "walk_in"]
def loose2 : List Str := ["ways_in", "distances_to", "_law_pen", "_law_draw", "_law_pick", "_law_shuffled", "_law_nb_beside", "_law_nb_lots", "_law_nb_field", "_law_nb_regions", "_law_nb_number", "_law_nb_sides", "_law_nb_free", "_law_nb_steps", "_law_nb_both", "_law_nb_far", "_law_nb_grown", "_law_nb_crosses", "_law_nb_ring", "_law_nb_spiral", "_law_nb_body", "_law_square_right", "CROSSWISE"]
def loose : List Str := loose1 ++ loose2
theorem run (w : World) : HandSHeadRun.RunEq R (PySem.W.view R.prog [52]) hk ob 9000 loose w := by
  intro os
  kernel_rfl
end Sq

set_option Elab.async false
set_option linter.all false
set_option maxRecDepth 100000
set_option maxHeartbeats 4000000
/-! All facts together. -/
namespace Sq
open PySem PySem.Spec PyProof.Rows L2
theorem Df.mk' {P : Program} {w : World} {K : PySem.W.Frag} {mg : Str → Option Value} {base : Heap} {CX : CXT} {k : Nat} {x : Str} {st : Stmt} {f : Addr} {fd : FuncData} {ps : List Str} {sp : Sp} (F : FnP K x st f fd) (g : mg x = some (.ref f)) (b : Binds K fd ps []) (o : FnOk P w K mg base CX k f fd ps sp) : Df P w K mg base CX k x ps sp := ⟨f, fd, g, F.kp, b, o⟩
theorem err_c {P : Program} {K : PySem.W.Frag} {h : Heap} {mg : Str → Option Value} {x : Str} {ns : List Str} (X : K.In h) (G : h.Ns mainGlobals mg) (E : ErrOk P K x ns) (t : tyB K x = true) : ErrC P K mg x (He.ga K x) (He.ma K (He.ga K x) "__init__") ns :=
  ⟨E.s, PySem.W.mg_of X G E.gl, E.xf.exC, of_decide_eq_true t⟩
theorem eachC_ok {K : PySem.W.Frag} : ∀ {vs : List Value} {ds : List Cell}, eachC K vs ds = true → ∃ rs : List Addr, vs = rs.map Value.ref ∧ Paired (fun r d => ∀ H, SqT K H r (cV d)) rs ds
  | [], [], _ => ⟨[], rfl, .nil⟩
  | .ref r :: vs, d :: ds, h => by
    unfold eachC at h
    obtain ⟨h1, h2⟩ := ba h
    obtain ⟨rs, rfl, pr⟩ := eachC_ok h2
    refine ⟨r :: rs, rfl, .cons (fun H => ?_) pr⟩
    split at h1
    · rename_i T dd its n sl q
      obtain ⟨e1, h1⟩ := ba h1
      obtain ⟨e2, h1⟩ := ba h1
      split at h1
      · rename_i i t j u e
        obtain ⟨e3, e4⟩ := ba h1
        refine .inr ⟨_, its, n, q, congrArg Value.type (of_decide_eq_true e1), rfl, of_decide_eq_true e2, ?_⟩
        obtain ⟨d1, d2⟩ := d
        have k1 : i = d1 := of_decide_eq_true e3
        have k2 : j = d2 := of_decide_eq_true e4
        subst k1 k2
        rw [e]
        exact .cons ⟨t, rfl⟩ (.cons ⟨u, rfl⟩ .nil)
      · cases h1
    · cases h1
theorem vals_refs : ∀ rs : List Addr, Vals (rs.map V.ref) (rs.map Value.ref)
  | [] => .nil
  | _ :: rs => .cons rfl (vals_refs rs)
theorem tupC_ok {K : PySem.W.Frag} {x : Str} {ds : List Cell} (h : tupC K x ds = true) : ∃ rs : List Addr, (∀ H, SqT K H (He.ga K x) (rs.map V.ref)) ∧ Paired (fun r d => ∀ H, SqT K H r (cV d)) rs ds := by
  unfold tupC at h
  split at h
  · rename_i T dd its n sl q
    obtain ⟨e1, h⟩ := ba h
    obtain ⟨e2, h⟩ := ba h
    obtain ⟨rs, e, pr⟩ := eachC_ok h
    refine ⟨rs, fun H => .inr ⟨_, its, n, q, congrArg Value.type (of_decide_eq_true e1), rfl, of_decide_eq_true e2, ?_⟩, pr⟩
    rw [e]
    exact vals_refs rs
  · cases h
theorem fun_c {K : PySem.W.Frag} {x q : Str} {params : Arguments} {body : List Stmt} {scope : Scope} {fd : FuncData} (F : FunD K x q params body scope [] [] (He.fAd K (x, none)) fd) : FunC K x q params body scope (He.codeOf K (x, none)) (He.fAd K (x, none)) fd := by
  obtain ⟨⟨oc, od, dV, kV, doc, pm, an, cdv, ct, osl, e, lk, hc, h1, h2⟩, kp⟩ := F
  obtain ⟨c, rfl⟩ := He.codeIn_ref hc
  have ec : He.codeOf K (x, none) = c := He.codeOf_eq lk (by rw [e])
  rw [ec]
  exact ⟨⟨oc, od, dV, kV, doc, pm, an, ct, osl, e, lk, hc, h1, h2⟩, kp⟩
def TsOf (K : PySem.W.Frag) : List Addr := tabDs.map fun t => (He.cT K t).2
theorem facts {P : Program} {w : World} {K : PySem.W.Frag} {h : Heap} {mg : Str → Option Value} {f : Addr} (X : K.In h) (G : h.Ns mainGlobals mg) (hfa : mg ("law" : Str) = some (.ref f)) (htop : (P.main.scope.names.lookup ("super" : Str)).isSome = false) (hfile : P.main.file = fileS) (c : obsS K = valS) :
    ∃ fd : FuncData, (∀ (s : Shared) (v : Value), BindsTo s fd ⟨[v], []⟩ [("_law_script", v)]) ∧ ∀ base : Heap, K.In base → base.Ns mainGlobals mg → (∀ t ∈ tabDs, LamX.TabB base mg (He.cT K t).1 (He.cT K t).2) → FnOk P w K mg base CX0 10 f fd ["_law_script"] (spLaw K (TsOf K)) := by
  have c1 : He.SaysD fa fn K := congrArg (fun z : AlS => z.1) c
  have c2 : initSt.map (fun p => obsI K p.1) = initSt.map (fun p => valI p.1 p.2) := congrArg (fun z : AlS => z.2.1) c
  have c3 : allB K = true := congrArg (fun z : AlS => z.2.2) c
  unfold allB at c3
  obtain ⟨d1, d2⟩ := ba c3
  obtain ⟨d2, d3⟩ := ba d2
  have o : ∀ (i : Nat) (x : Str) (st : Stmt), initSt[i]? = some (x, st) → obsI K x = valI x st := fun i x st h => by
    have y := congrArg (fun l => l[i]?) c2
    simp only [List.getElem?_map, h, Option.map_some, Option.some.injEq] at y
    exact y
  have ge : ∀ (i : Nat) (x : Str) (ns : List Str), errN[i]? = some (x, ns) → errB P.main.file K x ns = true ∧ tyB K x = true := fun i x ns h => by
    rw [hfile]
    exact ba (List.all_eq_true.mp d2 (x, ns) (List.mem_of_getElem? h))
  have exm : ∀ (i : Nat) (x y : Str) (b : Bool), fa[i]? = some (.exm x y b) → PySem.W.exmOne K (.ref (He.ga K x)) (.ref (He.ga K y)) = some b := fun i x y b h => of_decide_eq_true (c1.fact i h)
  have eBadCell := errB_ok htop iBadCell (o 0 _ _ rfl) (ge 0 _ _ rfl).1 d1
  have bBadCell := err_c X G eBadCell (ge 0 _ _ rfl).2
  have eBadBody := errB_ok htop iBadBody (o 1 _ _ rfl) (ge 1 _ _ rfl).1 d1
  have bBadBody := err_c X G eBadBody (ge 1 _ _ rfl).2
  unfold conB at d3
  obtain ⟨rsCROSSWISE, tCROSSWISE, pCROSSWISE⟩ := tupC_ok d3
  have CCROSSWISE : CrossC K mg (He.ga K "CROSSWISE") rsCROSSWISE := ⟨He.glo_ok X G (c1.fact 58 (f := .glo "CROSSWISE") rfl), tCROSSWISE, pCROSSWISE⟩
  obtain ⟨d0, E0⟩ := c1.def_ 0 (d := dd "is_whole" gWhole) rfl
  have F0 : FnP K "is_whole" gWhole (He.ga K "is_whole") d0 := E0
  have g0 := He.glo_ok X G (c1.fact 0 (f := .glo "is_whole") rfl)
  have b0 : Binds K d0 ["value"] [] := FunD.bindsN F0 fun _ _ _ _ _ _ us hl => match us, hl with | [_], _ => rfl
  obtain ⟨d1, E1⟩ := c1.def_ 1 (d := dd "is_cell" gIsCell) rfl
  have F1 : FnP K "is_cell" gIsCell (He.ga K "is_cell") d1 := E1
  have g1 := He.glo_ok X G (c1.fact 1 (f := .glo "is_cell") rfl)
  have b1 : Binds K d1 ["value"] [] := FunD.bindsN F1 fun _ _ _ _ _ _ us hl => match us, hl with | [_], _ => rfl
  obtain ⟨d2, E2⟩ := c1.def_ 2 (d := dd "checked_cell" gChecked) rfl
  have F2 : FnP K "checked_cell" gChecked (He.ga K "checked_cell") d2 := E2
  have g2 := He.glo_ok X G (c1.fact 2 (f := .glo "checked_cell") rfl)
  have b2 : Binds K d2 ["value"] [] := FunD.bindsN F2 fun _ _ _ _ _ _ us hl => match us, hl with | [_], _ => rfl
  obtain ⟨d3, E3⟩ := c1.def_ 3 (d := dd "plain_cell" gPlain) rfl
  have F3 : FnP K "plain_cell" gPlain (He.ga K "plain_cell") d3 := E3
  have g3 := He.glo_ok X G (c1.fact 3 (f := .glo "plain_cell") rfl)
  have b3 : Binds K d3 ["cell"] [] := FunD.bindsN F3 fun _ _ _ _ _ _ us hl => match us, hl with | [_], _ => rfl
  obtain ⟨d4, E4⟩ := c1.def_ 4 (d := dd "four_beside" gFour) rfl
  have F4 : FnP K "four_beside" gFour (He.ga K "four_beside") d4 := E4
  have g4 := He.glo_ok X G (c1.fact 4 (f := .glo "four_beside") rfl)
  have b4 : Binds K d4 ["cell"] [] := FunD.bindsN F4 fun _ _ _ _ _ _ us hl => match us, hl with | [_], _ => rfl
  obtain ⟨d5, E5⟩ := c1.def_ 5 (d := dd "lot_of" gLot) rfl
  have F5 : FnP K "lot_of" gLot (He.ga K "lot_of") d5 := E5
  have g5 := He.glo_ok X G (c1.fact 5 (f := .glo "lot_of") rfl)
  have b5 : Binds K d5 ["cells"] [] := FunD.bindsN F5 fun _ _ _ _ _ _ us hl => match us, hl with | [_], _ => rfl
  obtain ⟨d6, E6⟩ := c1.def_ 6 (d := dd "lot_without" gWithout) rfl
  have F6 : FnP K "lot_without" gWithout (He.ga K "lot_without") d6 := E6
  have g6 := He.glo_ok X G (c1.fact 6 (f := .glo "lot_without") rfl)
  have b6 : Binds K d6 ["lot", "cell"] [] := FunD.bindsN F6 fun _ _ _ _ _ _ us hl => match us, hl with | [_, _], _ => rfl
  obtain ⟨d7, E7⟩ := c1.def_ 7 (d := dd "near_in" gNear) rfl
  have F7 : FnP K "near_in" gNear (He.ga K "near_in") d7 := E7
  have g7 := He.glo_ok X G (c1.fact 7 (f := .glo "near_in") rfl)
  have b7 : Binds K d7 ["lot", "cell"] [] := FunD.bindsN F7 fun _ _ _ _ _ _ us hl => match us, hl with | [_, _], _ => rfl
  obtain ⟨d8, E8⟩ := c1.def_ 8 (d := dd "flood" gFlood) rfl
  have F8 : FnP K "flood" gFlood (He.ga K "flood") d8 := E8
  have g8 := He.glo_ok X G (c1.fact 8 (f := .glo "flood") rfl)
  have b8 : Binds K d8 ["lot", "first"] [] := FunD.bindsN F8 fun _ _ _ _ _ _ us hl => match us, hl with | [_, _], _ => rfl
  obtain ⟨d9, E9⟩ := c1.def_ 9 (d := dd "lot_hangs" gHangs) rfl
  have F9 : FnP K "lot_hangs" gHangs (He.ga K "lot_hangs") d9 := E9
  have g9 := He.glo_ok X G (c1.fact 9 (f := .glo "lot_hangs") rfl)
  have b9 : Binds K d9 ["lot"] [] := FunD.bindsN F9 fun _ _ _ _ _ _ us hl => match us, hl with | [_], _ => rfl
  obtain ⟨d10, E10⟩ := c1.def_ 10 (d := dd "hangs_without" gHangsW) rfl
  have F10 : FnP K "hangs_without" gHangsW (He.ga K "hangs_without") d10 := E10
  have g10 := He.glo_ok X G (c1.fact 10 (f := .glo "hangs_without") rfl)
  have b10 : Binds K d10 ["lot", "cell"] [] := FunD.bindsN F10 fun _ _ _ _ _ _ us hl => match us, hl with | [_, _], _ => rfl
  obtain ⟨d11, E11⟩ := c1.def_ 11 (d := dd "links_around" gLinks) rfl
  have F11 : FnP K "links_around" gLinks (He.ga K "links_around") d11 := E11
  have g11 := He.glo_ok X G (c1.fact 11 (f := .glo "links_around") rfl)
  have b11 : Binds K d11 ["lot", "cell"] [] := FunD.bindsN F11 fun _ _ _ _ _ _ us hl => match us, hl with | [_, _], _ => rfl
  obtain ⟨d12, E12⟩ := c1.def_ 12 (d := dd "is_body" gIsBody) rfl
  have F12 : FnP K "is_body" gIsBody (He.ga K "is_body") d12 := E12
  have g12 := He.glo_ok X G (c1.fact 12 (f := .glo "is_body") rfl)
  have b12 : Binds K d12 ["value"] [] := FunD.bindsN F12 fun _ _ _ _ _ _ us hl => match us, hl with | [_], _ => rfl
  obtain ⟨d13, E13⟩ := c1.def_ 13 (d := dd "lot_of_body" gLotB) rfl
  have F13 : FnP K "lot_of_body" gLotB (He.ga K "lot_of_body") d13 := E13
  have g13 := He.glo_ok X G (c1.fact 13 (f := .glo "lot_of_body") rfl)
  have b13 : Binds K d13 ["value"] [] := FunD.bindsN F13 fun _ _ _ _ _ _ us hl => match us, hl with | [_], _ => rfl
  obtain ⟨d14, E14⟩ := c1.def_ 14 (d := dd "next_side" gNextSide) rfl
  have F14 : FnP K "next_side" gNextSide (He.ga K "next_side") d14 := E14
  have g14 := He.glo_ok X G (c1.fact 14 (f := .glo "next_side") rfl)
  have b14 : Binds K d14 ["lot", "side"] [] := FunD.bindsN F14 fun _ _ _ _ _ _ us hl => match us, hl with | [_, _], _ => rfl
  obtain ⟨d15, E15⟩ := c1.def_ 15 (d := dd "ring_from" gRingFrom) rfl
  have F15 : FnP K "ring_from" gRingFrom (He.ga K "ring_from") d15 := E15
  have g15 := He.glo_ok X G (c1.fact 15 (f := .glo "ring_from") rfl)
  have b15 : Binds K d15 ["lot", "first"] [] := FunD.bindsN F15 fun _ _ _ _ _ _ us hl => match us, hl with | [_, _], _ => rfl
  obtain ⟨d16, E16⟩ := c1.def_ 16 (d := dd "reach" gReach) rfl
  have F16 : FnP K "reach" gReach (He.ga K "reach") d16 := E16
  have g16 := He.glo_ok X G (c1.fact 16 (f := .glo "reach") rfl)
  have b16 : Binds K d16 ["body", "start"] [] := FunD.bindsN F16 fun _ _ _ _ _ _ us hl => match us, hl with | [_, _], _ => rfl
  obtain ⟨d17, E17⟩ := c1.def_ 17 (d := dd "walk" gWalk) rfl
  have F17 : FnP K "walk" gWalk (He.ga K "walk") d17 := E17
  have g17 := He.glo_ok X G (c1.fact 17 (f := .glo "walk") rfl)
  have b17 : Binds K d17 ["body", "start", "end"] [] := FunD.bindsN F17 fun _ _ _ _ _ _ us hl => match us, hl with | [_, _, _], _ => rfl
  obtain ⟨d18, E18⟩ := c1.def_ 18 (d := dd "walk_length" gWalkLength) rfl
  have F18 : FnP K "walk_length" gWalkLength (He.ga K "walk_length") d18 := E18
  have g18 := He.glo_ok X G (c1.fact 18 (f := .glo "walk_length") rfl)
  have b18 : Binds K d18 ["body", "start", "end"] [] := FunD.bindsN F18 fun _ _ _ _ _ _ us hl => match us, hl with | [_, _, _], _ => rfl
  obtain ⟨d19, E19⟩ := c1.def_ 19 (d := dd "walk_in" gWalkIn) rfl
  have F19 : FnP K "walk_in" gWalkIn (He.ga K "walk_in") d19 := E19
  have g19 := He.glo_ok X G (c1.fact 19 (f := .glo "walk_in") rfl)
  have b19 : Binds K d19 ["lot", "start", "end"] [] := FunD.bindsN F19 fun _ _ _ _ _ _ us hl => match us, hl with | [_, _, _], _ => rfl
  obtain ⟨d20, E20⟩ := c1.def_ 20 (d := dd "ways_in" gWaysIn) rfl
  have F20 : FnP K "ways_in" gWaysIn (He.ga K "ways_in") d20 := E20
  have g20 := He.glo_ok X G (c1.fact 20 (f := .glo "ways_in") rfl)
  have b20 : Binds K d20 ["lot", "start"] [] := FunD.bindsN F20 fun _ _ _ _ _ _ us hl => match us, hl with | [_, _], _ => rfl
  obtain ⟨d21, E21⟩ := c1.def_ 21 (d := dd "distances_to" gDistancesTo) rfl
  have F21 : FnP K "distances_to" gDistancesTo (He.ga K "distances_to") d21 := E21
  have g21 := He.glo_ok X G (c1.fact 21 (f := .glo "distances_to") rfl)
  have b21 : Binds K d21 ["ways", "end", "start"] [] := FunD.bindsN F21 fun _ _ _ _ _ _ us hl => match us, hl with | [_, _, _], _ => rfl
  obtain ⟨d22, E22⟩ := c1.def_ 22 (d := dd "_law_pen" sPen) rfl
  have F22 : FnP K "_law_pen" sPen (He.ga K "_law_pen") d22 := E22
  have g22 := He.glo_ok X G (c1.fact 22 (f := .glo "_law_pen") rfl)
  have b22 : Binds K d22 ["_law_script"] [] := FunD.bindsN F22 fun _ _ _ _ _ _ us hl => match us, hl with | [_], _ => rfl
  obtain ⟨d23, E23⟩ := c1.def_ 23 (d := dd "_law_draw" sDraw) rfl
  have F23 : FnP K "_law_draw" sDraw (He.ga K "_law_draw") d23 := E23
  have g23 := He.glo_ok X G (c1.fact 23 (f := .glo "_law_draw") rfl)
  have b23 : Binds K d23 ["_law_pen_here", "_law_many"] [] := FunD.bindsN F23 fun _ _ _ _ _ _ us hl => match us, hl with | [_, _], _ => rfl
  obtain ⟨d24, E24⟩ := c1.def_ 24 (d := dd "_law_pick" sPick) rfl
  have F24 : FnP K "_law_pick" sPick (He.ga K "_law_pick") d24 := E24
  have g24 := He.glo_ok X G (c1.fact 24 (f := .glo "_law_pick") rfl)
  have b24 : Binds K d24 ["_law_pen_here", "_law_some"] [] := FunD.bindsN F24 fun _ _ _ _ _ _ us hl => match us, hl with | [_, _], _ => rfl
  obtain ⟨d25, E25⟩ := c1.def_ 25 (d := dd "_law_shuffled" lShuffled) rfl
  have F25 : FnP K "_law_shuffled" lShuffled (He.ga K "_law_shuffled") d25 := E25
  have g25 := He.glo_ok X G (c1.fact 25 (f := .glo "_law_shuffled") rfl)
  have b25 : Binds K d25 ["_law_pen_here", "_law_some"] [] := FunD.bindsN F25 fun _ _ _ _ _ _ us hl => match us, hl with | [_, _], _ => rfl
  obtain ⟨d26, E26⟩ := c1.def_ 26 (d := dd "_law_nb_beside" nBeside) rfl
  have F26 : FnP K "_law_nb_beside" nBeside (He.ga K "_law_nb_beside") d26 := E26
  have g26 := He.glo_ok X G (c1.fact 26 (f := .glo "_law_nb_beside") rfl)
  have b26 : Binds K d26 ["_law_cell"] [] := FunD.bindsN F26 fun _ _ _ _ _ _ us hl => match us, hl with | [_], _ => rfl
  obtain ⟨d27, E27⟩ := c1.def_ 27 (d := dd "_law_nb_lots" nLots) rfl
  have F27 : FnP K "_law_nb_lots" nLots (He.ga K "_law_nb_lots") d27 := E27
  have g27 := He.glo_ok X G (c1.fact 27 (f := .glo "_law_nb_lots") rfl)
  have b27 : Binds K d27 ["_law_cells"] [] := FunD.bindsN F27 fun _ _ _ _ _ _ us hl => match us, hl with | [_], _ => rfl
  obtain ⟨d28, E28⟩ := c1.def_ 28 (d := dd "_law_nb_field" nField) rfl
  have F28 : FnP K "_law_nb_field" nField (He.ga K "_law_nb_field") d28 := E28
  have g28 := He.glo_ok X G (c1.fact 28 (f := .glo "_law_nb_field") rfl)
  have b28 : Binds K d28 ["_law_body", "_law_wide"] [] := FunD.bindsN F28 fun _ _ _ _ _ _ us hl => match us, hl with | [_, _], _ => rfl
  obtain ⟨d29, E29⟩ := c1.def_ 29 (d := dd "_law_nb_regions" nRegions) rfl
  have F29 : FnP K "_law_nb_regions" nRegions (He.ga K "_law_nb_regions") d29 := E29
  have g29 := He.glo_ok X G (c1.fact 29 (f := .glo "_law_nb_regions") rfl)
  have b29 : Binds K d29 ["_law_body"] [] := FunD.bindsN F29 fun _ _ _ _ _ _ us hl => match us, hl with | [_], _ => rfl
  obtain ⟨d30, E30⟩ := c1.def_ 30 (d := dd "_law_nb_number" nNumber) rfl
  have F30 : FnP K "_law_nb_number" nNumber (He.ga K "_law_nb_number") d30 := E30
  have g30 := He.glo_ok X G (c1.fact 30 (f := .glo "_law_nb_number") rfl)
  have b30 : Binds K d30 ["_law_lots", "_law_cell"] [] := FunD.bindsN F30 fun _ _ _ _ _ _ us hl => match us, hl with | [_, _], _ => rfl
  obtain ⟨d31, E31⟩ := c1.def_ 31 (d := dd "_law_nb_sides" nSides) rfl
  have F31 : FnP K "_law_nb_sides" nSides (He.ga K "_law_nb_sides") d31 := E31
  have g31 := He.glo_ok X G (c1.fact 31 (f := .glo "_law_nb_sides") rfl)
  have b31 : Binds K d31 ["_law_body", "_law_lots", "_law_number"] [] := FunD.bindsN F31 fun _ _ _ _ _ _ us hl => match us, hl with | [_, _, _], _ => rfl
  obtain ⟨d32, E32⟩ := c1.def_ 32 (d := dd "_law_nb_free" nFree) rfl
  have F32 : FnP K "_law_nb_free" nFree (He.ga K "_law_nb_free") d32 := E32
  have g32 := He.glo_ok X G (c1.fact 32 (f := .glo "_law_nb_free") rfl)
  have b32 : Binds K d32 ["_law_body"] [] := FunD.bindsN F32 fun _ _ _ _ _ _ us hl => match us, hl with | [_], _ => rfl
  obtain ⟨d33, E33⟩ := c1.def_ 33 (d := dd "_law_nb_steps" nSteps) rfl
  have F33 : FnP K "_law_nb_steps" nSteps (He.ga K "_law_nb_steps") d33 := E33
  have g33 := He.glo_ok X G (c1.fact 33 (f := .glo "_law_nb_steps") rfl)
  have b33 : Binds K d33 ["_law_rest", "_law_cell"] [] := FunD.bindsN F33 fun _ _ _ _ _ _ us hl => match us, hl with | [_, _], _ => rfl
  obtain ⟨d34, E34⟩ := c1.def_ 34 (d := dd "_law_nb_both" nBoth) rfl
  have F34 : FnP K "_law_nb_both" nBoth (He.ga K "_law_nb_both") d34 := E34
  have g34 := He.glo_ok X G (c1.fact 34 (f := .glo "_law_nb_both") rfl)
  have b34 : Binds K d34 ["_law_rest", "_law_cell", "_law_end", "_law_x", "_law_y"] [] := FunD.bindsN F34 fun _ _ _ _ _ _ us hl => match us, hl with | [_, _, _, _, _], _ => rfl
  obtain ⟨d35, E35⟩ := c1.def_ 35 (d := dd "_law_nb_far" nFar) rfl
  have F35 : FnP K "_law_nb_far" nFar (He.ga K "_law_nb_far") d35 := E35
  have g35 := He.glo_ok X G (c1.fact 35 (f := .glo "_law_nb_far") rfl)
  have b35 : Binds K d35 ["_law_rest", "_law_start"] [] := FunD.bindsN F35 fun _ _ _ _ _ _ us hl => match us, hl with | [_, _], _ => rfl
  obtain ⟨d36, E36⟩ := c1.def_ 36 (d := dd "_law_nb_grown" nGrown) rfl
  have F36 : FnP K "_law_nb_grown" nGrown (He.ga K "_law_nb_grown") d36 := E36
  have g36 := He.glo_ok X G (c1.fact 36 (f := .glo "_law_nb_grown") rfl)
  have b36 : Binds K d36 ["_law_pen_here", "_law_body", "_law_many", "_law_way"] [] := FunD.bindsN F36 fun _ _ _ _ _ _ us hl => match us, hl with | [_, _, _, _], _ => rfl
  obtain ⟨d37, E37⟩ := c1.def_ 37 (d := dd "_law_nb_crosses" nCrosses) rfl
  have F37 : FnP K "_law_nb_crosses" nCrosses (He.ga K "_law_nb_crosses") d37 := E37
  have g37 := He.glo_ok X G (c1.fact 37 (f := .glo "_law_nb_crosses") rfl)
  have b37 : Binds K d37 ["_law_body", "_law_cell"] [] := FunD.bindsN F37 fun _ _ _ _ _ _ us hl => match us, hl with | [_, _], _ => rfl
  obtain ⟨d38, E38⟩ := c1.def_ 38 (d := dd "_law_nb_ring" nRing) rfl
  have F38 : FnP K "_law_nb_ring" nRing (He.ga K "_law_nb_ring") d38 := E38
  have g38 := He.glo_ok X G (c1.fact 38 (f := .glo "_law_nb_ring") rfl)
  have b38 : Binds K d38 ["_law_wide", "_law_high"] [] := FunD.bindsN F38 fun _ _ _ _ _ _ us hl => match us, hl with | [_, _], _ => rfl
  obtain ⟨d39, E39⟩ := c1.def_ 39 (d := dd "_law_nb_spiral" nSpiral) rfl
  have F39 : FnP K "_law_nb_spiral" nSpiral (He.ga K "_law_nb_spiral") d39 := E39
  have g39 := He.glo_ok X G (c1.fact 39 (f := .glo "_law_nb_spiral") rfl)
  have b39 : Binds K d39 ["_law_pen_here", "_law_many"] [] := FunD.bindsN F39 fun _ _ _ _ _ _ us hl => match us, hl with | [_, _], _ => rfl
  obtain ⟨d40, E40⟩ := c1.def_ 40 (d := dd "_law_nb_body" nBody) rfl
  have F40 : FnP K "_law_nb_body" nBody (He.ga K "_law_nb_body") d40 := E40
  have g40 := He.glo_ok X G (c1.fact 40 (f := .glo "_law_nb_body") rfl)
  have b40 : Binds K d40 ["_law_pen_here", "_law_many"] [] := FunD.bindsN F40 fun _ _ _ _ _ _ us hl => match us, hl with | [_, _], _ => rfl
  obtain ⟨d41, E41⟩ := c1.def_ 41 (d := dd "_law_square_right" lSquareRight) rfl
  have F41 : FnP K "_law_square_right" lSquareRight (He.ga K "_law_square_right") d41 := E41
  have g41 := He.glo_ok X G (c1.fact 41 (f := .glo "_law_square_right") rfl)
  have b41 : Binds K d41 ["_law_pen_here", "_law_body", "_law_start"] [] := FunD.bindsN F41 fun _ _ _ _ _ _ us hl => match us, hl with | [_, _, _], _ => rfl
  obtain ⟨d42, E42⟩ := c1.def_ 42 (d := dd "law" sLaw) rfl
  have F42 : FnP K "law" sLaw (He.ga K "law") d42 := E42
  have g42 := He.glo_ok X G (c1.fact 42 (f := .glo "law") rfl)
  have f_int := He.free_ok X G (c1.fact 43 (f := .free "int") rfl)
  have f_len := He.free_ok X G (c1.fact 44 (f := .free "len") rfl)
  have f_list := He.free_ok X G (c1.fact 45 (f := .free "list") rfl)
  have f_tuple := He.free_ok X G (c1.fact 46 (f := .free "tuple") rfl)
  have f_bool := He.free_ok X G (c1.fact 47 (f := .free "bool") rfl)
  have f_isinstance := He.free_ok X G (c1.fact 48 (f := .free "isinstance") rfl)
  have f_range := He.free_ok X G (c1.fact 49 (f := .free "range") rfl)
  have f_sorted := He.free_ok X G (c1.fact 50 (f := .free "sorted") rfl)
  have f_abs := He.free_ok X G (c1.fact 51 (f := .free "abs") rfl)
  have f_min := He.free_ok X G (c1.fact 52 (f := .free "min") rfl)
  have f_max := He.free_ok X G (c1.fact 53 (f := .free "max") rfl)
  have f_set := He.free_ok X G (c1.fact 54 (f := .free "set") rfl)
  have f_any := He.free_ok X G (c1.fact 55 (f := .free "any") rfl)
  have f_all := He.free_ok X G (c1.fact 56 (f := .free "all") rfl)
  have f_dict := He.free_ok X G (c1.fact 57 (f := .free "dict") rfl)
  have B : Bl mg := ⟨f_int, f_len, f_list, f_tuple, f_bool, f_isinstance, f_range, f_sorted, f_abs, f_min, f_max, f_set, f_any⟩
  have e := hfa.symm.trans g42
  cases e
  have b42 := FunD.bindsA (ps := ["_law_script"]) F42 fun _ _ _ _ _ _ us hl => match us, hl with | [_], _ => rfl
  refine ⟨d42, fun s v => b42 s [v] rfl, fun base _ _ tbs => ?_⟩
  have tbis_body := tbs ("is_body", none) (by simp [tabDs])
  have TBis_body : GxR.TabB base mg (He.codeOf K ("is_body", none)) (He.cT K ("is_body", none)).2 := ⟨tbis_body.code, tbis_body.bm, tbis_body.gP⟩
  have mTis_body : (He.cT K ("is_body", none)).2 ∈ TsOf K := List.mem_map_of_mem (f := fun t => (He.cT K t).2) (by simp [tabDs])
  have D0 := Df.mk' (P := P) (w := w) (base := base) F0 g0 b0 (ok_whole F0 B.isinstance B.int B.bool)
  have D2 := Df.mk' (P := P) (w := w) (base := base) F2 g2 b2 (ok_checked F2 F1 F0 F3 bBadCell g1 g3 g0 B.isinstance B.int B.bool B.tuple B.len)
  have D4 := Df.mk' (P := P) (w := w) (base := base) F4 g4 b4 (ok_four F4)
  have D5 := Df.mk' (P := P) (w := w) (base := base) F5 g5 b5 (ok_lot F5 F3 g3 B.int)
  have D1 := Df.mk' (P := P) (w := w) (base := base) F1 g1 b1 (ok_isCell F1 F0 g0 B.isinstance B.int B.bool B.tuple B.len)
  have D3 := Df.mk' (P := P) (w := w) (base := base) F3 g3 b3 (ok_plain F3 B.int)
  have D7 := Df.mk' (P := P) (w := w) (base := base) F7 g7 b7 (ok_near F7 F4 g4)
  have D8 := Df.mk' (P := P) (w := w) (base := base) F8 g8 b8 (ok_flood F8 D7)
  have D9 := Df.mk' (P := P) (w := w) (base := base) F9 g9 b9 (ok_hangs F9 B D8)
  have D12 := Df.mk' (P := P) (w := w) (base := base) F12 g12 b12 (ok_isBody (fun_c (x := "is_body") F12) TBis_body mTis_body B f_all D1 D5 D9)
  have D13 := Df.mk' (P := P) (w := w) (base := base) F13 g13 b13 (ok_lotOfBody F13 bBadBody D12 D5)
  have D11 := Df.mk' (P := P) (w := w) (base := base) F11 g11 b11 (ok_links F11 CCROSSWISE)
  have D10 := Df.mk' (P := P) (w := w) (base := base) F10 g10 b10 (ok_hangsW F10 B D7 D11)
  have D6 := Df.mk' (P := P) (w := w) (base := base) F6 g6 b6 (ok_without F6)
  have D14 := Df.mk' (P := P) (w := w) (base := base) F14 g14 b14 (ok_next F14)
  have D15 := Df.mk' (P := P) (w := w) (base := base) F15 g15 b15 (ok_ring F15 D14)
  have D20 := Df.mk' (P := P) (w := w) (base := base) F20 g20 b20 (ok_ways F20 D10 D6 D15 D7)
  have D21 := Df.mk' (P := P) (w := w) (base := base) F21 g21 b21 (ok_dist F21)
  have D19 := Df.mk' (P := P) (w := w) (base := base) F19 g19 b19 (ok_walkIn F19 B D20 D21)
  have D17 := Df.mk' (P := P) (w := w) (base := base) F17 g17 b17 (ok_walkW F17 D13 D2 D19)
  have D18 := Df.mk' (P := P) (w := w) (base := base) F18 g18 b18 (ok_walkL F18 B D17)
  have D16 := Df.mk' (P := P) (w := w) (base := base) F16 g16 b16 (ok_reach F16 B D13 D2 D20)
  have D22 := Df.mk' (P := P) (w := w) (base := base) F22 g22 b22 (ok_pen F22 B.int B.list)
  have D23C := Df.mk' (P := P) (w := w) (base := base) F23 g23 b23 (ok_drawC F23 B.int B.len)
  have D24C := Df.mk' (P := P) (w := w) (base := base) F24 g24 b24 (ok_pickC F24 D23C B.len)
  have D25 := Df.mk' (P := P) (w := w) (base := base) F25 g25 b25 (ok_lShuf F25 B D23C)
  have D26 := Df.mk' (P := P) (w := w) (base := base) F26 g26 b26 (ok_nBeside F26)
  have D37 := Df.mk' (P := P) (w := w) (base := base) F37 g37 b37 (ok_nCrosses F37)
  have D36 := Df.mk' (P := P) (w := w) (base := base) F36 g36 b36 (ok_nGrown F36 B D23C D24C D26 D37)
  have D27 := Df.mk' (P := P) (w := w) (base := base) F27 g27 b27 (ok_nLotsX F27 B f_dict D26)
  have D28 := Df.mk' (P := P) (w := w) (base := base) F28 g28 b28 (ok_nFieldX F28 B f_dict)
  have D29 := Df.mk' (P := P) (w := w) (base := base) F29 g29 b29 (ok_nRegions F29 D28 D27)
  have D30 := Df.mk' (P := P) (w := w) (base := base) F30 g30 b30 (ok_nNumber F30 B)
  have D38 := Df.mk' (P := P) (w := w) (base := base) F38 g38 b38 (ok_nRing F38 B)
  have D39 := Df.mk' (P := P) (w := w) (base := base) F39 g39 b39 (ok_nSpiral F39 B)
  have D40 := Df.mk' (P := P) (w := w) (base := base) F40 g40 b40 (ok_nBody F40 B D23C D24C D36 D38 D39)
  have D27N := Df.mk' (P := P) (w := w) (base := base) F27 g27 b27 (ok_nLots F27 B f_dict D26)
  have D32 := Df.mk' (P := P) (w := w) (base := base) F32 g32 b32 (ok_nFree F32 B D27N)
  have D31 := Df.mk' (P := P) (w := w) (base := base) F31 g31 b31 (ok_nSides F31 B D26 D30)
  have D34 := Df.mk' (P := P) (w := w) (base := base) F34 g34 b34 (ok_nBothT F34)
  have D33 := Df.mk' (P := P) (w := w) (base := base) F33 g33 b33 (ok_nStepsT F33 B D34)
  have D35 := Df.mk' (P := P) (w := w) (base := base) F35 g35 b35 (ok_nFarT F35 D33)
  have D41 := Df.mk' (P := P) (w := w) (base := base) F41 g41 b41 (ok_sqRight F41 B D24C D18 D29 D31 D30 D16 D35)
  exact ok_law F42 B D22 D24C D25 D40 D28 D32 D41 D16
end Sq

set_option Elab.async false
set_option linter.all false
set_option maxRecDepth 100000
set_option maxHeartbeats 4000000
open PySem PySem.W PySem.Calls PyProof.Rows
set_option maxRecDepth 100000 in
set_option maxHeartbeats 8000000 in
theorem PySem.Challenge.cw_slideinto_k16_whole_reach_holds : PySem.Challenge.rw_slideinto_k16_whole_reach.Holds := by
  w_on; o_law
  refine HandSHeadRun.head_any (r := OpenLaw.row PySem.Challenge.rw_slideinto_k16_whole_reach) (q := view (OpenLaw.row PySem.Challenge.rw_slideinto_k16_whole_reach).prog [52]) (H := Sq.hk) (ob := Sq.ob) (M := 9000) (loose := Sq.loose) (d := HandSHeadRun.topDef (OpenLaw.row PySem.Challenge.rw_slideinto_k16_whole_reach).prog 52) (kwd := []) Sq.ob_eq
    (by kernel_rfl) (fun s => by kernel_rfl) Sq.run (by kernel_rfl) (by kernel_rfl) (by kernel_rfl) (by rfl) (by first | assumption | decide +kernel) (by decide +kernel) ⟨rfl, rfl, rfl, rfl, rfl, by decide +kernel⟩ ?hw ?hc
  case hw => w_witness2
  case hc =>
    refine LamX.walk_ofTsE (l := PySem.Challenge.rw_slideinto_k16_whole_reach) (n := 63) (k := 10) (x := "_law_script") (CX := fun _ => L2.CX0) rfl (by decide) (by kernel_rfl) ⟨rfl, by decide, by decide⟩ ?F (fun _ _ _ _ _ z => z)
    intro w mg fa h Y G hmg0
    obtain ⟨K, KX, c⟩ := Y
    have hmg : mg ("law" : PySem.Str) = some (.ref fa) := by
      have e : (HandSHeadRun.topDef (OpenLaw.row PySem.Challenge.rw_slideinto_k16_whole_reach).prog 52).name = ("law" : PySem.Str) := by kernel_rfl
      rw [← e]
      exact hmg0
    obtain ⟨fd, hb, hF⟩ := Sq.facts (P := (PySem.Challenge.rw_slideinto_k16_whole_reach).prog) (w := w) KX G hmg (by decide +kernel) rfl c.s
    have inT : ∀ p ∈ Sq.tabDs.map (He.cT K), ∃ t ∈ Sq.tabDs, p = He.cT K t := fun p hp => by
      obtain ⟨t, ht, e⟩ := List.mem_map.mp hp
      exact ⟨t, ht, e.symm⟩
    refine ⟨K, KX, fd, Sq.tabDs.map (He.cT K), Sq.spLaw K (Sq.TsOf K), fun p hp => ?_, fun p hp => ?_, fun p hp => ?_, hb, fun H a zs hl _ hT hS => ?_, fun base hK hG tb => hF base hK hG fun t ht => tb _ (List.mem_map_of_mem ht)⟩
    · obtain ⟨t, ht, rfl⟩ := inT p hp
      exact (c.t t ht).2.2
    · obtain ⟨t, ht, rfl⟩ := inT p hp
      exact (c.t t ht).2.1
    · obtain ⟨t, ht, rfl⟩ := inT p hp
      exact PySem.W.codeHd_of_K KX (c.t t ht).1
    · refine ⟨a, zs, rfl, hS, hl, fun T hm => ?_, fun _ => rfl⟩
      obtain ⟨t, ht, rfl⟩ := List.mem_map.mp hm
      exact ⟨#[], hT _ (List.mem_map_of_mem ht), by first | trivial | simp [TriplesOk] | exact List.forall_mem_nil _⟩
