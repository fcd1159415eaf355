import PyProof.Rows.All
import Wide.All
import OpenK.AllK
import Wide.FinOn
import KE.KExcSuper
import HandS.ForMost
import HandS.ExcInit
import HandS.HeadWalk
import HandS.ExcField
import HandS.ExcIs
import HandS.ExcValue
import HandS.IsInst
import HandS.EndBits
import HandS.Defaults
import HandS.Iter
import HandS.DictComp
import HandS.Conv
import HandS.AnyAll
import HandS.GenOver
import HandS.GenList
import HandS.Walk
import KE.DataMinMax
import HandS.DictTup
import HandS.Star
import PyProof.DictMoreH
import HandS.TryMany
import PyProof.Rows.TupDisplay
import HandS.SortRule
import HandS.TupSets
import HandS.TupLen
import KE.SortData
import KE.KDictWalk
import KE.GoesEnum
import HandS.SortKw
import HandS.EndTab
import PyProof.ReprLen
import KE.KDictKeyed
import KE.KDictCopyH
import KE.KEqDict
import HandS.RaiseMore
import HandS.DeepEq
import KE.KEqNest
import HandS.SetKeys
import HandS.SortInts
import PyProof.TupleOfSeq
import HandS.Style
import KE.KRevSl
import PySem.Challenge.RW_slideinto_k27_whole_row_to_row
import HandS.Deep
import HandS.Rev
import HandS.WordsExc
import HandS.TupAny
import HandS.Small
import HandS.Words
import HandS.HeadHook1
import HandS.HeadHook2
import HandS.HeadHook3
import HandS.HeadHook4
import KE.KStateDown
import Lean
import HandS.Head0
import HandS.Head1
import HandS.Head2
import HandS.HeadEnd
import HandS.NestedK
set_option Elab.async false
set_option linter.all false
set_option maxRecDepth 100000
set_option maxHeartbeats 4000000
/-! Errors of one's own whose __init__ begins with super().__init__(text) and then keeps its parameters. -/
namespace Sq
open PySem PySem.W PySem.Calls PyProof.Rows PySem.HandSPX
/-! ### the statements of such an __init__ -/
def supS (msg : Str) (j : Nat) (p0 p1 p2 p3 p4 p5 : Pos) : Stmt :=
  .Expr (.Call (.Attribute (.Call (.Name "super" p0) [] [] p1) "__init__" p2) [.Constant (.str msg) j p3] [] p4) p5
structure Ps where
  a : Pos
  b : Pos
  c : Pos
  d : Pos
def keepS (f : Str) (p : Ps) : Stmt := .Assign [.Attribute (.Name "self" p.a) f p.b] (.Name f p.c) p.d
section
variable {prog : Program} {w : World} {A : Around} {E : Value → Shared → Prop} {h : Heap} {g : Array GenState} {d : Drawn} {t : Nat} {os : OsState}
variable {nm q : Str} {C N : Addr} {bs bm : List Value} {sn : List Str} {sub : List Value} {ab : Bool} {col : Option Bool} {dd : Option Addr} {k0 k1 k2 k3 k5 : Option Value}
/-- the bound ValueError.__init__ is called -/
theorem bw_call {u x t0 : Addr} {rest : List Value} {Q : Value → Shared → Prop}
    (hC : h.get? C = some (excClassObj nm q C N bs bm true sn sub ab col dd k0 k1 k2 k3 k5 "ValueError.__new__"))
    (he : h.get? x = some (excO C t0)) (hu : h.get? u = some (kxs_mw "ValueError.__init__" x)) (hz : rest.length ≤ sizeLine)
    (hq : ∀ h' t1, (∀ b o, b ≠ x → h.get? b = some o → h'.get? b = some o) → h'.get? x = some (excO C t1) → Q .none ⟨h', g, d, t, os⟩) :
    wpAny (model prog w) A (call (.ref u) rest) Q E ⟨h, g, d, t, os⟩ := by
  refine wpAny_call (codeAny_of_tree ?_)
  show wpAny _ A.in1 (callAny (.ref u) { pos := rest, kw := [] }) _ _ _
  simp only [callAny]
  refine wpAny_bind (wpAny_load hu ?_)
  have hm : (Value.type "method-wrapper" == Value.type "method" || Value.type "method-wrapper" == Value.type "builtin_function_or_method" || Value.type "method-wrapper" == Value.type "method-wrapper") = true := by decide
  simp only [kxs_mw, hm, if_true]
  refine KFB.if_so (by decide) ?_
  refine wpAny_bind (check_bound_init F.excBase_ValueError.toExcCallFacts hC he rfl ?_)
  refine wpAny_bind (wpAny_pure (wpAny_pure ?_))
  refine ⟨plainId_quiet F.excBase_ValueError.init.plain _, codeAny_builtin F.excBase_ValueError.initEntry ?_⟩
  exact exc_init_tree (cls := .ref C) (t0 := t0) (dv := none) (c2 := .none) (c3 := .none) (b4 := .bool false) he hz fun h' k e' _ => hq h' _ k e'
end
/-- what the written part says of such a class C and of its __init__ at fI; ns: its parameters behind self, kept as fields -/
structure SErr (prog : Program) (K : Frag) (C fI : Addr) (ns : List Str) : Prop where
  cls : ∃ nm q N bs bm sn sub ab col dd k0 k1 k2 k3 k5, K.lookup C = some (excClassObj nm q C N bs bm true sn sub ab col dd k0 k1 k2 k3 k5 "ValueError.__new__") ∧ refsVE bm = true ∧
    alongIn K "__init__" bm = some (some (.builtin "ValueError.__init__"))
  sa : findIn K (.ref C) "__setattr__" = some (some (.builtin "object.__setattr__"))
  iC : findIn K (.ref C) "__init__" = some (some (.ref fI))
  tI : typeIn K (.ref fI) = some (.type "function")
  kC : keepIn K (.ref C) = true
  veC : subIn K (.ref C) (.type "ValueError") = some true
  self : mroIn K C (.ref C) = some true
  opq : nsIn K cStatics "thirdparty.any" = some none
  sup : nsIn K mainGlobals "super" = some none
  no : ∀ f ∈ ns, findIn K (.ref C) f = some none
  nd : ns.Nodup
  len : ns.length ≤ 900
  noSelf : ("self" : Str) ∉ ns
  top : (prog.main.scope.names.lookup ("super" : Str)).isSome = false
  fn : ∃ (oc : Value) (od : Option Addr) (osl : Array (Option Value)) (name qual : Str) (params : Arguments) (scope : Scope) (kV doc pm ct : Value) (an : Option Addr) (cda cc : Addr) (ar : Arg)
      (msg : Str) (j : Nat) (p0 p1 p2 p3 p4 p5 : Pos) (ps : List Ps) (ccl cl : Value) (cdd cld : Option Addr) (ccs csl : Array (Option Value)) (vs : Array Value) (tf : Tok),
    K.lookup fI = some ⟨oc, od, .func (ksFn name qual params (supS msg j p0 p1 p2 p3 p4 p5 :: (ns.zip ps).map fun z => keepS z.1 z.2) scope .none kV doc pm an (.ref cda) ct cc), osl⟩ ∧
    ns.length ≤ ps.length ∧ (params.posonlyargs ++ params.args).head? = some ar ∧ ar.arg = "self" ∧ codeIn K (.ref cda) qual = true ∧
    K.lookup cda = some ⟨ccl, cdd, .fields vs, ccs⟩ ∧ vs[2]? = some (.str prog.main.file tf) ∧ K.lookup cc = some ⟨cl, cld, .cell (some (.ref C)), csl⟩ ∧
    (∀ (s : Shared) (us : List Value), us.length = ns.length + 1 → BindsTo s (ksFn name qual params (supS msg j p0 p1 p2 p3 p4 p5 :: (ns.zip ps).map fun z => keepS z.1 z.2) scope .none kV doc pm an (.ref cda) ct cc) ⟨us, []⟩ ((("self" : Str) :: ns).zip us)) ∧
    scope.names.lookup ("super" : Str) = some .globalImplicit ∧ scope.names.lookup ("__class__" : Str) = some .free ∧ (∀ x ∈ (("self" : Str) :: ns), scope.names.lookup x = some .local) ∧
    (p2.endLine == p4.line) = true ∧ (∀ x ∈ ns, (x == ("__debug__" : Str)) = false) ∧ (∀ x ∈ scope.names, x.2 ≠ .cell) ∧ scope.isCoroutine = false ∧ scope.isGenerator = false ∧ scope.kind = .function
end Sq

set_option Elab.async false
set_option linter.all false
set_option maxRecDepth 100000
set_option maxHeartbeats 4000000
namespace Sq
open PySem PySem.W PySem.Calls PyProof.Rows PySem.HandSPX
/-- what such an __init__ leaves of a fresh error at x; fs: its fields, the last one first -/
structure InitE (h h' : Heap) (x C : Addr) (fs : List (Str × Value)) : Prop where
  keep : ∀ b o, b ≠ x → h.get? b = some o → h'.get? b = some o
  obj : ∃ t1 : Addr, (fs = [] ∧ h'.get? x = some (excO C t1)) ∨ ∃ dx : Addr, fs ≠ [] ∧ h.objs.size ≤ dx ∧ dx ≠ x ∧ h'.get? x = some ({ cls := .ref C, dict := some dx, data := .fields #[.ref t1, .none, .none, .none, .bool false, .none] } : Obj) ∧
    h'.Ns1 dx fun f => fs.lookup f
theorem lookup_one {κ : Type} [BEq κ] [LawfulBEq κ] [DecidableEq κ] {α : Type} (f g : κ) (y : α) (fs : List (κ × α)) : ((f, y) :: fs).lookup g = if g = f then some y else fs.lookup g := by
  by_cases z : g = f
  · subst z
    simp [List.lookup]
  · have e : (g == f) = false := by simpa using z
    rw [if_neg z]
    simp [List.lookup, e]
theorem lookup_within {fs : List (Str × Value)} : Within (fun f => fs.lookup f) (fs.map (·.1)) := by
  intro y hy
  induction fs with
  | nil => exact absurd rfl hy
  | cons p l ih =>
    obtain ⟨f, z⟩ := p
    by_cases e : y = f
    · rw [e]
      exact List.mem_cons_self ..
    · refine List.mem_cons_of_mem _ (ih fun q => hy ?_)
      show ((f, z) :: l).lookup y = none
      rw [lookup_one, if_neg e]
      exact q
section
variable {prog : Program} {w : World} {A : Around} {E : Value → Shared → Prop} {s : Shared} {K : Frag} {C fI : Addr} {ns : List Str} {R : Result → Shared → Prop}
/-- the rows self.f = f, one after the other -/
theorem keeps_run (T : SErr prog K C fI ns) {env : Env} {L x : Addr} {m : Str → Option Value} {h0 : Heap} (X0 : K.In h0) (hKx : K.lookup x = none) (hk : env.scope.kind = .function) (hL : env.locals = L) (hself : env.kindOf "self" = some .local)
    (mx : m "self" = some (.ref x)) (hLx : L ≠ x) :
    ∀ (zs : List (Str × Ps)) (fs : List (Str × Value)) (us : List Value) (h : Heap) (tk : Nat) (t1 : Addr) (Q : Flow → Shared → Prop), zs.length = us.length → h.Ns L m →
      (∀ (i : Nat) (z : Str × Ps), zs[i]? = some z → z.1 ∈ ns ∧ env.kindOf z.1 = some .local ∧ (z.1 == ("__debug__" : Str)) = false ∧ m z.1 = us[i]?) → fs.length + zs.length ≤ 900 →
      (∀ b o, b ≠ x → h0.get? b = some o → h.get? b = some o) →
      ((fs = [] ∧ h0.objs.size ≤ h.objs.size ∧ h.get? x = some (excO C t1)) ∨ ∃ dx : Addr, fs ≠ [] ∧ h0.objs.size ≤ dx ∧ dx ≠ x ∧ dx ≠ L ∧ h.get? x = some ({ cls := .ref C, dict := some dx, data := .fields #[.ref t1, .none, .none, .none, .bool false, .none] } : Obj) ∧ h.Ns1 dx fun f => fs.lookup f) →
      (∀ h' tk', InitE h0 h' x C (((zs.map (·.1)).zip us).reverse ++ fs) → Q .next { s with heap := h', toks := tk' }) →
      wpAny (model prog w) A (execs (zs.map fun z => keepS z.1 z.2) env) Q E { s with heap := h, toks := tk }
  | [], fs, us, h, tk, t1, Q, hl, hn, hz, h9, kp, ho, hq => by
    have e : us = [] := List.length_eq_zero_iff.mp hl.symm
    subst e
    refine wpAny_execs_nil (hq h tk ⟨kp, t1, ?_⟩)
    rcases ho with ⟨ho, _, hx⟩ | ⟨dx, d0, d1, d2, _, d4, d5⟩
    · exact .inl ⟨ho, hx⟩
    · exact .inr ⟨dx, d0, d1, d2, d4, d5⟩
  | (f, p) :: zs, fs, [], h, tk, t1, Q, hl, hn, hz, h9, kp, ho, hq => by cases hl
  | (f, p) :: zs, fs, u :: us, h, tk, t1, Q, hl, hn, hz, h9, kp, ho, hq => by
    obtain ⟨nm, q, N, bs, bm, sn, sub, ab, col, dd, k0, k1, k2, k3, k5, hC, hbm, _⟩ := T.cls
    have hcl : clsIn K C = some { name := nm, bases := bs, mro := .ref C :: bm, ns := N, qualname := q, hasDict := true, slotNames := sn, subclasses := sub, abstract := ab, collection := col, hasDel := false } := by
      unfold clsIn
      rw [hC] <;> rfl
    have X : K.In h := fun b o e => kp b o (fun z => by rw [z, hKx] at e; cases e) (X0 b o e)
    obtain ⟨hf, hloc, hdb, hm⟩ := hz 0 (f, p) rfl
    have hm' : m f = some u := hm
    have hno := T.no f hf
    have hnL : h.Ns env.locals m := by rw [hL]; exact hn
    have hz' : ∀ (i : Nat) (z : Str × Ps), zs[i]? = some z → z.1 ∈ ns ∧ env.kindOf z.1 = some .local ∧ (z.1 == ("__debug__" : Str)) = false ∧ m z.1 = us[i]? := fun i z hi => by
      have y := hz (i + 1) z (by simpa using hi)
      simpa using y
    have hl' : zs.length = us.length := by simpa using hl
    have h9' : ((f, u) :: fs).length + zs.length ≤ 900 := by
      have y : fs.length + (zs.length + 1) ≤ 900 := by simpa using h9
      show fs.length + 1 + zs.length ≤ 900
      omega
    have eqf : (((zs.map (·.1)).zip us).reverse ++ (f, u) :: fs) = (((((f, p) :: zs).map (·.1)).zip (u :: us)).reverse ++ fs) := by simp
    have efs : ∀ y, (if y = f then some u else fs.lookup y) = ((f, u) :: fs).lookup y := fun y => (lookup_one f y u fs).symm
    obtain ⟨oL, es, ep, hoL, hrL⟩ := id hn
    show wpAny _ _ (execs (keepS f p :: zs.map fun z => keepS z.1 z.2) env) _ _ _
    refine wpAny_execs_cons (plainObj_wpAny_Assign_Attribute ?_)
    refine wpAny_Name (wpAny_loadName_local hk hloc hnL hm' ?_) hdb
    refine wpAny_Name (wpAny_loadName_local hk hself hnL mx ?_) (by decide)
    rcases ho with ⟨e0, hsz, ho⟩ | ⟨dx, d0, d1, d2, d3, d4, d5⟩
    · subst e0
      refine set_plain X (ox := excO C t1) (od := none) ⟨ho, rfl, rfl, trivial⟩ T.sa ?_
      refine exc_osa X ho hcl (show refsVE (.ref C :: bm) = true from hbm) rfl hno (fun h' tk' dx k dn dne hx hns => ?_)
      show wpAny _ _ (execs _ _) _ _ _
      have hdL : dx ≠ L := fun z => by
        rw [z] at dn
        exact absurd (Heap.lt_size hoL) (Nat.not_lt_of_le dn)
      refine keeps_run T X0 hKx hk hL hself mx hLx zs [(f, u)] us h' tk' t1 Q hl' ⟨oL, es, ep, k _ _ hLx hoL, hrL⟩ hz' h9' (fun b o hb e => k b o hb (kp b o hb e)) (.inr ⟨dx, List.cons_ne_nil _ _, Nat.le_trans hsz dn, dne, hdL, hx, ?_⟩) fun h2 tk2 Z => hq h2 tk2 (eqf ▸ Z)
      have ee : (fun y => if y = f then some u else none) = fun y => List.lookup y [(f, u)] := funext fun y => by
        rw [lookup_one]
        rfl
      rw [← ee]
      exact hns
    · obtain ⟨oD, _, _, hoD, _, _⟩ := d5.count lookup_within
      refine set_plain X (ox := { cls := .ref C, dict := some dx, data := .fields #[.ref t1, .none, .none, .none, .bool false, .none] }) (od := some oD) ⟨d4, rfl, rfl, hoD⟩ T.sa ?_
      refine PySem.OEX.osa_old X d4 d5 lookup_within (by rw [List.length_map]; have y : fs.length + (zs.length + 1) ≤ 900 := (by simpa using h9); omega) hcl (show refsVE (.ref C :: bm) = true from hbm) rfl hno (fun h' tk' k hns => ?_)
      show wpAny _ _ (execs _ _) _ _ _
      refine keeps_run T X0 hKx hk hL hself mx hLx zs ((f, u) :: fs) us h' tk' t1 Q hl' ⟨oL, es, ep, k _ _ (Ne.symm d3) hoL, hrL⟩ hz' h9' (fun b o hb e => k b o (fun z => ?_) (kp b o hb e)) (.inr ⟨dx, List.cons_ne_nil _ _, d1, d2, d3, k _ _ (Ne.symm d2) d4, ?_⟩) fun h2 tk2 Z => hq h2 tk2 (eqf ▸ Z)
      · rw [z] at e
        exact absurd (Heap.lt_size e) (Nat.not_lt_of_le d1)
      · have ee : (fun y => if y = f then some u else fs.lookup y) = fun y => List.lookup y ((f, u) :: fs) := funext efs
        rw [← ee]
        exact hns
end
end Sq

set_option Elab.async false
set_option linter.all false
set_option maxRecDepth 100000
set_option maxHeartbeats 4000000
namespace Sq
open PySem PySem.W PySem.Calls PyProof.Rows PySem.HandSPX
section
variable {prog : Program} {w : World} {A : Around} {E : Value → Shared → Prop} {s : Shared} {K : Frag} {C fI : Addr} {ns : List Str} {R : Result → Shared → Prop} {mg mb : Str → Option Value}
theorem look_rev {α : Type} : ∀ (xs : List Str) (us : List α) (i : Nat) (f : Str), xs.Nodup → xs.length ≤ us.length → xs[i]? = some f → (xs.zip us).reverse.lookup f = us[i]?
  | [], us, i, f, _, _, h => by simp at h
  | x :: xs, [], i, f, _, h, _ => by simp at h
  | x :: xs, u :: us, i, f, nd, hl, h => by
    have nd1 := List.nodup_cons.mp nd
    have ez : ((x :: xs).zip (u :: us)).reverse = (xs.zip us).reverse ++ [(x, u)] := by simp
    rw [ez, List.lookup_append]
    cases i with
    | zero =>
      have e : x = f := by simpa using h
      subst e
      have e0 : (xs.zip us).reverse.lookup x = none := by
        rw [List.lookup_eq_none_iff]
        intro p hp
        have y := List.of_mem_zip (List.mem_reverse.mp hp)
        simp only [bne_iff_ne, ne_eq]
        rintro rfl
        exact nd1.1 y.1
      rw [e0]
      simp
    | succ i =>
      have h' : xs[i]? = some f := by simpa using h
      have hl' : xs.length ≤ us.length := by simpa using hl
      have y := look_rev xs us i f nd1.2 hl' h'
      rw [y]
      have hi := (List.getElem?_eq_some_iff.mp h').1
      have e1 : us[i]? = some (us[i]'(by omega)) := List.getElem?_eq_getElem (by omega)
      simp [e1]
theorem init_run (T : SErr prog K C fI ns) {x t0 : Addr} {us : List Value} (X : K.In s.heap) (hKx : K.lookup x = none) (hG : s.heap.Ns mainGlobals mg) (hB : s.heap.Ns builtinsNs mb) (hbs : mb "super" = some (.type "super")) (hlim : s.heap.NoLimit)
    (hx : s.heap.get? x = some (excO C t0)) (hus : us.length = ns.length) (hroom : A.depth < recursionLimit)
    (hq : ∀ h' tk, InitE s.heap h' x C ((ns.zip us).reverse) → R (.ok (.ret .none)) { s with heap := h', toks := tk }) :
    codeAny (model prog w) A (.call (.ref fI) ⟨.ref x :: us, []⟩) R s := by
  obtain ⟨nm, q, N, bs, bm, sn, sub, ab, col, dd, k0, k1', k2, k3, k5, hC, hbm, hal⟩ := T.cls
  have hcl : clsIn K C = some { name := nm, bases := bs, mro := .ref C :: bm, ns := N, qualname := q, hasDict := true, slotNames := sn, subclasses := sub, abstract := ab, collection := col, hasDel := false } := by
    unfold clsIn
    rw [hC] <;> rfl
  obtain ⟨oc, od, osl, name, qual, params, scope, kV, doc, pm, ct, an, cda, cc, ar, msg, j, p0, p1, p2, p3, p4, p5, ps, ccl, cl, cdd, cld, ccs, csl, vs, tf, lk, hps, har, hars, hcd, hcda, hvs, hcc, hbind, ksup, kcls, kloc, hpl, kdb, hcell, hco, hgen, hkind⟩ := T.fn
  have hlen : (Value.ref x :: us).length = ns.length + 1 := by simp [hus]
  have hne : ∀ b o, K.lookup b = some o → b ≠ x := fun b o e z => by
    rw [z, hKx] at e
    cases e
  refine ks_codeAny_call_defAt (fd := ksFn name qual params (supS msg j p0 p1 p2 p3 p4 p5 :: (ns.zip ps).map fun z => keepS z.1 z.2) scope .none kV doc pm an (.ref cda) ct cc) (binds := (("self" : Str) :: ns).zip (.ref x :: us)) hroom (X _ _ lk) rfl hlim (codeRec_of X hcd) rfl (hbind s (.ref x :: us) hlen) hcell (fun y hy => kloc _ (List.of_mem_zip hy).1) (fun h0 hns hk0 => ?_) hco hgen hkind
  show PySem.wpAt (model prog w) (A.deeper (ksEnv qual scope s.heap.objs.size fI (.ref cda) cc)) (.func (supS msg j p0 p1 p2 p3 p4 p5 :: (ns.zip ps).map fun z => keepS z.1 z.2) (ksEnv qual scope s.heap.objs.size fI (.ref cda) cc))
    (execs (supS msg j p0 p1 p2 p3 p4 p5 :: (ns.zip ps).map fun z => keepS z.1 z.2) (ksEnv qual scope s.heap.objs.size fI (.ref cda) cc)) _ _ _
  have hxL : s.heap.objs.size ≠ x := Nat.ne_of_gt (Heap.lt_size hx)
  have hx0 := hk0 _ _ hx
  have mself : ((("self" : Str) :: ns).zip (Value.ref x :: us)).reverse.lookup ("self" : Str) = some (.ref x) :=
    look_rev (("self" : Str) :: ns) (Value.ref x :: us) 0 "self" (List.nodup_cons.mpr ⟨T.noSelf, T.nd⟩) (by simp [hus]) rfl
  have mns : ∀ (i : Nat) (f : Str), ns[i]? = some f → ((("self" : Str) :: ns).zip (Value.ref x :: us)).reverse.lookup f = us[i]? := fun i f hf =>
    look_rev (("self" : Str) :: ns) (Value.ref x :: us) (i + 1) f (List.nodup_cons.mpr ⟨T.noSelf, T.nd⟩) (by simp [hus]) (by simpa using hf)
  refine ks_wpAt_execs_cons ?_
  show PySem.wpAt _ _ _ (exec (.Expr (.Call (.Attribute (.Call (.Name "super" p0) [] [] p1) "__init__" p2) [.Constant (.str msg) j p3] [] p4) p5) (ksEnv qual scope s.heap.objs.size fI (.ref cda) cc)) _ _ _
  have hint : interactive (ksEnv qual scope s.heap.objs.size fI (.ref cda) cc) = false := by
    show (scope.kind == .module && _) = false
    rw [hkind]
    rfl
  refine ks_wpAt_Expr_any ?_ hint
  have he : eval (.Call (.Attribute (.Call (.Name "super" p0) [] [] p1) "__init__" p2) [.Constant (.str msg) j p3] [] p4) (ksEnv qual scope s.heap.objs.size fI (.ref cda) cc) = (do
      let ov ← attributeBase (.Call (.Name "super" p0) [] [] p1) "__init__" (ksEnv qual scope s.heap.objs.size fI (.ref cda) cc) (eval (.Call (.Name "super" p0) [] [] p1) (ksEnv qual scope s.heap.objs.size fI (.ref cda) cc))
      standAt p2.atName
      let (f, first) ← holding [ov] (getMethod ov "__init__" (L2.plainOf (.Call (.Name "super" p0) [] [] p1) (ksEnv qual scope s.heap.objs.size fI (.ref cda) cc)))
      callWith p4 f first (backTo p4 (starEach [.Constant (.str msg) j p3] (ksEnv qual scope s.heap.objs.size fI (.ref cda) cc))) []) := by
    rw [arm_eval_Call]
    refine congrArg (fun k => attributeBase (.Call (.Name "super" p0) [] [] p1) "__init__" (ksEnv qual scope s.heap.objs.size fI (.ref cda) cc) (eval (.Call (.Name "super" p0) [] [] p1) (ksEnv qual scope s.heap.objs.size fI (.ref cda) cc)) >>= k) (funext fun ov => ?_)
    exact congrArg (fun k => standAt p2.atName >>= fun _ => k) (L2.mcall_line (by rfl) hpl)
  refine ks_wpAt_MethodCall ?_ he
  obtain ⟨oC, hoC, hdC⟩ : ∃ oC, s.heap.get? C = some oC ∧ oC.data = .cls { name := nm, bases := bs, mro := .ref C :: bm, ns := N, qualname := q, hasDict := true, slotNames := sn, subclasses := sub, abstract := ab, collection := col, hasDel := false } := ⟨_, X _ _ hC, rfl⟩
  have X0 : K.In h0 := fun b o e => hk0 b o (X b o e)
  have I0 : InstAt h0 x (excO C t0) C none := ⟨hx0, rfl, rfl, trivial⟩
  refine ks_wpAt_super_base (env := ksEnv qual scope s.heap.objs.size fI (.ref cda) cc) ksup kcls (by decide) rfl (X0 _ _ lk) rfl har rfl (X0 _ _ hcda) rfl hvs (by simp) T.top ?_
  refine ks_loadName_global hkind ksup (loadGlobal_builtin (env := ksEnv qual scope s.heap.objs.size fI (.ref cda) cc) (hG.keeps hk0) (mg_none_of X hG T.sup) (hB.keeps hk0) hbs ⟨rfl, ?_⟩)
  refine wpAny_loadName_free (env := ksEnv qual scope s.heap.objs.size fI (.ref cda) cc) hkind kcls rfl ⟨_, X0 _ _ hcc, rfl⟩ ?_
  rw [hars]
  refine wpAny_loadName_local (env := ksEnv qual scope s.heap.objs.size fI (.ref cda) cc) hkind (kloc _ (List.mem_cons_self ..)) hns mself ?_
  refine ks_wpAny_isType_cls (hk0 _ _ hoC) hdC ⟨rfl, ?_⟩
  refine ks_wpAny_call_super (hk0 _ _ hoC) hdC hx0 rfl (fun c z => by cases z) (looks_mroIn X0 T.self) (fun h1 e1 k1 => ?_)
  have X1 : K.In h1 := fun b o e => k1 b o (X0 b o e)
  have hx1 := k1 _ _ hx0
  have I1 : InstAt h1 x (excO C t0) C none := ⟨hx1, rfl, rfl, trivial⟩
  have hI : Looks (model prog w) h1 (isInstance (.ref x) (.type "ValueError")) true := I1.type.andThen (looks_subIn X1 T.veC)
  have hmro : Looks (model prog w) h1 (mroOf (.ref C)) (.ref C :: bm) := (looks_clsIn X1 hcl).andThen .now
  have hdrop : ((Value.ref C :: bm).dropWhile (· != .ref C)).drop 1 = bm := by simp [List.dropWhile_cons]
  refine kxs_getMethod (D := C) kxs_ValueError e1 (looks_opaque X1 T.opq) hmro hdrop X1 hal hI (ks_ne X1 I1 hcl) (by decide) ?_
  have kk : ∀ b o, h0.get? b = some o → (h1.push (kxs_mw "ValueError.__init__" x)).get? b = some o := fun b o e => Heap.get?_push_of_some _ (k1 b o e)
  have hu : (h1.push (kxs_mw "ValueError.__init__" x)).get? h1.objs.size = some (kxs_mw "ValueError.__init__" x) := Heap.get?_push_at rfl rfl
  refine kxs_callWith (i := "ValueError.__init__") (x := x) (by rfl) ?_
  refine evalArgs_plain (spliced_cons ?_)
  show wpAny _ _ (eval (.Constant (.str msg) j p3) (ksEnv qual scope s.heap.objs.size fI (.ref cda) cc)) _ _ _
  refine Constant_str ?_
  refine spliced_nil ⟨hu, ?_⟩
  have hC2 : (h1.push (kxs_mw "ValueError.__init__" x)).get? C = some (excClassObj nm q C N bs bm true sn sub ab col dd k0 k1' k2 k3 k5 "ValueError.__new__") := kk _ _ (hk0 _ _ (X _ _ hC))
  refine bw_call hC2 (kk _ _ hx0) hu (by rw [sizeLine_eq]; exact (by decide : 1 ≤ 16777216)) (fun h2 t1 k2' e2 => ?_)
  refine wpAt_of_wpAny ?_
  have hlz : (ns.zip ps).length = us.length := by rw [List.length_zip, hus]; omega
  obtain ⟨oL, es, ep, hoL, hrL⟩ := id hns
  have hsz : s.heap.objs.size < h0.objs.size := Heap.lt_size hoL
  refine keeps_run (s := s) (x := x) (L := s.heap.objs.size) (h0 := s.heap) T X hKx (env := ksEnv qual scope s.heap.objs.size fI (.ref cda) cc) hkind rfl (kloc _ (List.mem_cons_self ..)) mself hxL (ns.zip ps) [] us h2 _ t1 _ hlz ⟨oL, es, ep, k2' _ _ hxL (kk _ _ hoL), hrL⟩ (fun i z hz => ?_) ?_ (fun b o hb e => k2' b o hb (kk b o (hk0 b o e))) (.inl ⟨rfl, ?_, e2⟩) fun h' tk' Z => ?_
  · have z1 : ns[i]? = some z.1 := by
      have y := congrArg (Option.map Prod.fst) hz
      rw [List.getElem?_zip_eq_some.mp hz |>.1]
    have hm := List.mem_of_getElem? z1
    exact ⟨hm, kloc _ (List.mem_cons_of_mem _ hm), kdb _ hm, mns i z.1 z1⟩
  · have := T.len
    rw [hlz, hus]
    show 0 + ns.length ≤ 900
    omega
  · exact Nat.le_of_lt (Heap.lt_size (k2' _ _ hxL (kk _ _ hoL)))
  · have ez : ((ns.zip ps).map (·.1)) = ns := by
      rw [List.map_fst_zip]
      omega
    rw [ez, List.append_nil] at Z
    exact hq h' tk' Z
end
end Sq

set_option Elab.async false
set_option linter.all false
set_option maxRecDepth 100000
set_option maxHeartbeats 4000000
/-! Such errors as values: made, their fields read, isinstance of them. -/
namespace Sq
open PySem PySem.Spec PyProof.Rows L2
section
variable {fs ex : List Addr} {H : Hp} {h h' : Heap} {a b : Addr} {o u : HO}
end
theorem rev_rel : ∀ (ns : List Str) {vs : List V} {us : List Value}, Vals vs us → ∀ f, RelO ((ns.zip vs).reverse.lookup f) ((ns.zip us).reverse.lookup f)
  | [], _, _, _, _ => True.intro
  | n :: ns, _, _, .nil, _ => True.intro
  | n :: ns, _ :: vs, _ :: us, .cons (a := x) (b := y) r t, f => by
    rw [List.zip_cons_cons, List.zip_cons_cons, List.reverse_cons, List.reverse_cons, List.lookup_append, List.lookup_append]
    have q := rev_rel ns t f
    cases e1 : (ns.zip vs).reverse.lookup f with
    | some v =>
      rw [e1] at q
      cases e2 : (ns.zip us).reverse.lookup f with
      | some v' =>
        rw [e2] at q
        exact q
      | none =>
        rw [e2] at q
        exact q.elim
    | none =>
      rw [e1] at q
      cases e2 : (ns.zip us).reverse.lookup f with
      | some v' =>
        rw [e2] at q
        exact q.elim
      | none =>
        rw [Option.none_or, Option.none_or, lookup_one, lookup_one]
        by_cases e : f = n
        · rw [if_pos e, if_pos e]
          exact r
        · rw [if_neg e, if_neg e]
          exact True.intro
section
variable {X : Cx} {pins : List (Addr × Obj)} {σ : L2.St} {H : Hp} {s : Shared} {C fI : Addr} {ns : List Str}
/-! ### a field of such an error -/
end
end Sq

set_option Elab.async false
set_option linter.all false
set_option maxRecDepth 100000
set_option maxHeartbeats 4000000
/-! isinstance of such errors, whether they have a dict or not. -/
namespace Sq
open PySem PySem.W PySem.Spec PySem.Calls PyProof.Rows
section
variable {prog : Program} {w : World} {A : Around} {E : Value → Shared → Prop} {s : Shared} {K : Frag} {y D : Addr} {oy : Obj} {od : Option Obj}
/-- what the class says of __class__ -/
structure ClsE (K : Frag) (D : Addr) : Prop where
  ga : findIn K (.ref D) "__getattribute__" = some (some (.builtin "BaseException.__getattribute__"))
  gt : findIn K (.ref D) "__getattr__" = some none
  be : subIn K (.ref D) (.type "BaseException") = some true
  hd : hasDictIn K D = true
  ca : findIn K (.ref D) "__class__" = some (some (.builtin "object.__class__"))
  cg : specialIn K (.builtin "object.__class__") "__get__" = some (some (.builtin "getset_descriptor.__get__"))
  ct : takesIn K (.builtin "object.__class__") = some true
  mo : mroIn K D (.type "object") = some true
end
end Sq
namespace Sq
open PySem PySem.Spec PyProof.Rows L2
end Sq

set_option Elab.async false
set_option linter.all false
set_option maxRecDepth 100000
set_option maxHeartbeats 4000000
/-! A def that is run while no guard stands (so that repr is not under way), the end of such a law, repr of data. -/
namespace Sq
open PySem PySem.Spec PyProof.Rows L2
section
variable {P : Program} {w : World} {K : PySem.W.Frag} {mg : Str → Option Value} {base : Heap} {x qual : Str} {params : Arguments} {body : List Stmt} {scope : Scope} {dvs : List V} {kws : List (Str × V)} {f : Addr} {fd : FuncData}
end
/-! ### repr of data -/
end Sq

set_option Elab.async false
set_option linter.all false
set_option maxRecDepth 100000
set_option maxHeartbeats 4000000
/-! Dict comprehensions whose keys may be tuples, and may be made by calls. -/
namespace Sq
open PySem PySem.Spec PyProof.Rows L2
/-- the store of a comprehension, by either kind of keys -/
theorem dc_put {X : Cx} {ps : List (Addr × Obj)} {τ : L2.St} {G G' : Hp} {z : Shared} {Er : Value → Shared → Prop} {a : Addr} {y v : V} {u r : Value} {Qp : Unit → Shared → Prop} (hu : X.A.units + 1 < cLine) (J : Inv X ps τ G z)
    (g : DPut G a y v G') (ru : RelV y u) (rr : RelV v r) (q : ∀ z', Inv X ps τ G' z' → Qp () z') : wpAny (model X.prog X.w) X.A (dictSet a u r) Qp Er z := by
  rcases g with ⟨kvs, k, ea, rfl, hl, rfl⟩ | ⟨kvs, k, b, ea, rfl, eb, hl, rfl⟩
  · exact d_dictSet J ea hl ru rr q
  · obtain rfl : u = Value.ref b := ru
    obtain ⟨hz, hsys, xs, kt, dd⟩ := dt_of J.hok ea
    have hxs : xs.length ≤ sizeLine := by rw [← Paired.length kt]; exact hz
    have hnew : (putK kvs k v).length ≤ sizeLine := Nat.le_trans (length_putK kvs k v) hl
    refine wpAny_dictSet_heap (hsz := hxs) (show (tupleKind (mixKind X.prog X.w)).room X.A from Nat.lt_of_succ_lt hu) (key_of J.hok eb) dd fun h2 dd2 same => q _ ?_
    obtain ⟨o2, en, ep, eo, c2, c3, c4, _, c5⟩ := dd2
    refine d_write J (by rw [ea]; exact True.intro) same ⟨o2, eo⟩ ⟨hnew, hsys, _, (kt.put k eb rr).keeps fun c ys ec => ?_, o2, en, ep, eo, c2, c3, c4, c5⟩
    rw [upd_ne (ne_of ec ea (fun t => nomatch t))]
    exact ec
/-- {k: v for target in walked if ..}; o0: the empty dict of either kind -/
def tDct (o0 : HO) (wi : TI) (g : TG) (tt : TT) (tk tv : TE) (vs : List Nat) : TE := fun σ H Q => wi σ H fun J H1 => ∀ D, H1 D = none → ∃ W : Nat → Nat → Hp → Prop, (∃ m, W 0 m (upd H1 D o0)) ∧ ∀ i m H, W i m H →
  (J.stop i H ∧ Q (.ref D) H) ∨ (J.go i H ∧ ∃ Nx : Hp → Prop, (∀ H', Nx H' → ∃ m', m' < m ∧ W (i + 1) m' H') ∧ ∀ x H', J.yld i H x H' → g x (wipe σ vs) H' fun σ2 H2 => wipe σ2 vs = wipe σ vs ∧ tt σ2 H2 fun b H3 =>
    if b = true then tk σ2 H3 fun y H4 => tv σ2 H4 fun z H5 => ∃ H6, DPut H5 D y z H6 ∧ Nx H6 else Nx H3)
section
variable {X : Cx}
theorem pe_dct {o0 : HO} {kx vx tg it0 : Expr} {ifs : List Expr} {sc : Scope} {own : List (Str × Nat)} {pos : Pos} {wi : TI} {g : TG} {tt : TT} {tk tv : TE} (ho : o0 = .dK [] ∨ o0 = .dT []) (calm : X.calm = true) (hu : X.A.units + 1 < cLine) (nd : X.N.Nodup) (hi : PI X tg it0 wi)
    (bo : BlkOk X.N X.env.scope sc own)
    (hg : ∀ (s : Shared) (H : Hp) (C : Addr) (cl : List (Str × Addr)) (fp : List Addr), PG (X.blk s H sc (compEnvC sc cl C X.env) fp) tg g)
    (ht : ∀ (s : Shared) (H : Hp) (C : Addr) (cl : List (Str × Addr)) (fp : List Addr), PTs (X.blk s H sc (compEnvC sc cl C X.env) fp) ifs tt)
    (hk : ∀ (s : Shared) (H : Hp) (C : Addr) (cl : List (Str × Addr)) (fp : List Addr), PE (X.blk s H sc (compEnvC sc cl C X.env) fp) kx tk)
    (hv : ∀ (s : Shared) (H : Hp) (C : Addr) (cl : List (Str × Addr)) (fp : List Addr), PE (X.blk s H sc (compEnvC sc cl C X.env) fp) vx tv)
    (hf : ∀ x, foldedSetIterable it0 X.env x = pure x := by intro _; rfl) : PE X (.DictComp kx vx [⟨tg, it0, ifs, 0⟩] sc pos) (tDct o0 wi g tt tk tv (own.map (·.2))) := by
  refine ⟨fun pins z0 σ H Q I0 asked => ?_⟩
  rw [arm_eval_DictComp]
  have caught : ∀ y ∈ sc.names, y.2 = .free → ∃ c, X.env.cells.lookup y.1 = some c := fun y hy e => I0.ok.has _ (bo.free y hy e)
  refine wpAny_comprehension_free (use := none) rfl hf (closure_ok caught) bo.kind (fun y hy e => by rw [bo.uniq y hy, e]) (thn (hi.run pins z0 σ H _ I0 asked) fun xv z1 hx => thn hx fun iv z2 made => ?_)
  obtain ⟨wk, fp, tn, J, H2, rfl, I2, T, at2, fp2, want⟩ := made
  refine wpAny_newObj_type (newEnv_comp ?_)
  obtain ⟨D, eD⟩ : ∃ D, D = z2.heap.objs.size := ⟨_, rfl⟩
  have freeD : H2 D = none := I2.hok.fresh (Nat.le_of_eq eD.symm)
  obtain ⟨W, ⟨m0, first⟩, each⟩ := want D freeD
  obtain ⟨z3, e3⟩ : ∃ z3 : Shared, z3 = { z2 with heap := z2.heap.push { cls := .type "dict", data := .dict #[] } } := ⟨_, rfl⟩
  have heap3 : z3.heap = z2.heap.push { cls := .type "dict", data := .dict #[] } := by rw [e3]
  have I3 : Inv X pins σ (upd H2 D o0) z3 := by
    rw [e3]
    refine I2.laid (t' := z2.toks) (fun b o e => Heap.get?_push_of_some _ e) (Nat.le_of_eq eD.symm) ?_
    rw [eD]
    rcases ho with rfl | rfl
    · exact dk_empty z2.heap I2.big
    · exact dt_empty z2.heap I2.big
  have old : ∀ b ∈ fp, b < z2.heap.objs.size := fun b hb => (T.obj _ _ at2 b hb).elim fun o r => Heap.lt_size r.1
  have fp3 : ∀ b ∈ fp, FpOk X pins (upd H2 D o0) b ∧ b < z3.heap.objs.size := fun b hb => by
    have lt := old b hb
    have ne : b ≠ D := by rw [eD]; exact Nat.ne_of_lt lt
    exact ⟨⟨by rw [upd_ne ne]; exact (fp2 b hb).1, (fp2 b hb).2⟩, by rw [heap3, Heap.size_push]; exact Nat.lt_succ_of_lt lt⟩
  have at3 : tn 0 z3.heap := T.keep _ _ _ at2 fun b _ o e => by rw [heap3]; exact Heap.get?_push_of_some _ e
  have I4 := block_start I3 bo nd fp3
  have PG4 := hg z3 (upd H2 D o0) z3.heap.objs.size (cellsFrom (z3.heap.objs.size + 1) sc.names (cloFrom X.env.cells sc.names [])) fp
  have PT4 := ht z3 (upd H2 D o0) z3.heap.objs.size (cellsFrom (z3.heap.objs.size + 1) sc.names (cloFrom X.env.cells sc.names [])) fp
  have PK4 := hk z3 (upd H2 D o0) z3.heap.objs.size (cellsFrom (z3.heap.objs.size + 1) sc.names (cloFrom X.env.cells sc.names [])) fp
  have PV4 := hv z3 (upd H2 D o0) z3.heap.objs.size (cellsFrom (z3.heap.objs.size + 1) sc.names (cloFrom X.env.cells sc.names [])) fp
  rw [← e3, ← eD]
  show codeAny _ _ (.compStart (.DictComp kx vx [⟨tg, it0, ifs, 0⟩] sc pos) 0 (.ref wk) (.ref D) (compEnvC sc (cellsFrom (z3.heap.objs.size + 1) sc.names (cloFrom X.env.cells sc.names [])) z3.heap.objs.size X.env))
    (compPost (model X.prog X.w) X.A X.xe none _ (.ref D) z3.heap.objs.size) { z3 with heap := pushCells (z3.heap.push { cls := .type "dict", data := .dict #[] }) sc.names }
  have none3 : ∀ b ∈ fp, upd H2 D o0 b = none := fun b hb => (fp3 b hb).1.1
  generalize ec : compEnvC sc (cellsFrom (z3.heap.objs.size + 1) sc.names (cloFrom X.env.cells sc.names [])) z3.heap.objs.size X.env = ce at I4 PG4 PT4 PK4 PV4 ⊢
  have locs : ce.locals = z3.heap.objs.size := by rw [← ec]; rfl
  generalize eG : upd H2 D o0 = G3 at I3 I4 PG4 PT4 PK4 PV4 first none3 fp3
  generalize e4 : ({ z3 with heap := pushCells (z3.heap.push { cls := .type "dict", data := .dict #[] }) sc.names } : Shared) = z4 at I4 ⊢
  have at4 : tn 0 z4.heap := T.keep _ _ _ at3 fun b _ o e => by rw [← e4]; exact pushCells_keeps _ _ _ _ (Heap.get?_push_of_some _ e)
  have still : ∀ {τ : L2.St} {G : Hp} {z : Shared}, Inv (X.blk z3 G3 sc ce fp) [] τ G z → (∀ b ∈ fp, G b = none) → ∀ b ∈ fp, FpOk (X.blk z3 G3 sc ce fp) [] G b := fun {τ G z} J1 n1 b hb =>
    ⟨n1 b hb, (J1.ok.exf b hb).1, J1.ok.exfs b hb, .inl hb, fun x c e => (J1.ok.exf b hb).2 x c e, fun p hp => absurd (show p ∈ ([] : List (Addr × Obj)) ++ [] from hp) (by simp)⟩
  have turns : codeAny (model X.prog X.w) X.A (.compLoop (.DictComp kx vx [⟨tg, it0, ifs, 0⟩] sc pos) 0 (.ref wk) (.ref D) ce) (compPost (model X.prog X.w) X.A X.xe none (fun v z' => ∃ x H', Inv X pins σ H' z' ∧ RelV x v ∧ Q x H') (.ref D) z3.heap.objs.size) z4 := by
    refine compLoop_anyD (fun n z => ∃ i G, Inv (X.blk z3 G3 sc ce fp) [] (wipe σ (own.map (·.2))) G z ∧ tn i z.heap ∧ (∀ b ∈ fp, G b = none) ∧ W i n G) ?_ m0 ⟨0, G3, I4, at4, none3, first⟩
    rintro n z5 ⟨i, G5, I5, at5, n5, w5⟩
    rcases each i n G5 w5 with ⟨stops, goal⟩ | ⟨goes, Nx, less, turn⟩
    · refine thnF (T.done (X.blk z3 G3 sc ce fp) rfl rfl rfl calm i [] z5 _ G5 (fun _ _ => False) I5 (still I5 n5) at5 stops) fun r z6 ⟨er, I6⟩ => ?_
      subst er
      have I7 : Inv X pins σ G5 z6 := I3.call' (ch := fp) I6.os I6.base I6.hok I6.bare fun b hb => ⟨(fp3 b hb).1.2.2.2.1, (fp3 b hb).1.2.1, (fp3 b hb).1.2.2.2.2.1, (fp3 b hb).1.2.2.2.2.2⟩
      have n6 : G5 z3.heap.objs.size = none := by
        have q : G5 ce.locals = none := I6.free
        rwa [locs] at q
      obtain ⟨mm, hm, _⟩ := I6.loc
      have hm' : z6.heap.Ns ce.locals mm := hm
      rw [locs] at hm'
      obtain ⟨g0, g1, g2, g3, g4, g5⟩ := I3.fpOk (Nat.le_refl _) n6
      exact ⟨mm, hm', fun h9 sb => ⟨.ref D, G5, I7.turned (t' := z6.toks) (fun b o hb e => (sb.2 b hb).trans e) g0 g1 g3 g4 g5, rfl, goal⟩⟩
    · refine thnF (T.item (X.blk z3 G3 sc ce fp) rfl rfl rfl calm i [] z5 _ G5 (fun _ _ => False) I5 (still I5 n5) at5 goes) fun r z6 ⟨u, er, h6⟩ => ?_
      subst er
      refine thnF h6 fun _ z7 ⟨x, G7, I7, rx, hy, at7, n7⟩ => ?_
      refine thnF (PG4.run _ z7 _ G7 x u _ (I7.pinned (still I7 n7) (T.obj _ _ at7)) rx (turn x G7 hy)) fun _ z8 ⟨τ8, G8, I8, same8, q8⟩ => ?_
      refine thnF (PT4.run _ z8 τ8 G8 _ I8 q8) fun b z9 ⟨G9, I9, q9⟩ => ?_
      have close : ∀ {z : Shared} {G : Hp}, Inv (X.blk z3 G3 sc ce fp) ([] ++ pinsAt fp z7.heap) τ8 G z → Nx G → ∃ m, m < n ∧ ∃ i G, Inv (X.blk z3 G3 sc ce fp) [] (wipe σ (own.map (·.2))) G z ∧ tn i z.heap ∧ (∀ b ∈ fp, G b = none) ∧ W i m G := fun {z G} J1 nx => by
        obtain ⟨m1, lt1, w1⟩ := less G nx
        have kept : ∀ b ∈ fp, ∀ o, z7.heap.get? b = some o → z.heap.get? b = some o ∧ G b = none := fun b hb o e => by
          have t := J1.pin (b, o) (List.mem_append_right _ (List.mem_append_right _ (mem_pinsAt hb e)))
          exact ⟨t.1, t.2.1⟩
        refine ⟨m1, lt1, i + 1, G, (J1.unpinned (pins := [])).weak (by rw [← same8, wipe_length]) (fun j v e => by rw [← same8] at e; exact (wipe_some e).1), T.keep _ _ _ at7 fun b hb o e => (kept b hb o e).1, fun b hb => ?_, w1⟩
        obtain ⟨o, e, _⟩ := T.obj _ _ at7 b hb
        exact (kept b hb o e).2
      cases b with
      | false =>
        simp only [Bool.false_eq_true, if_false] at q9 ⊢
        exact close I9 q9
      | true =>
        simp only [if_true] at q9 ⊢
        refine thnF (PK4.run _ z9 τ8 G9 _ I9 q9) fun k1 z10 ⟨yk, G10, I10, rk, q10⟩ => ?_
        refine thnF (PV4.run _ z10 τ8 G10 _ I10 q10) fun v1 z11 ⟨yv, G11, I11, rv, G12, put, nx⟩ => ?_
        exact dc_put (X := X.blk z3 G3 sc ce fp) hu I11 put rk rv fun z12 I12 => close I12 nx
  exact codeAny_compStart_dict turns (T.self X.A 0 _ _ _ at4 turns)
end
end Sq

set_option Elab.async false
set_option linter.all false
set_option maxRecDepth 100000
set_option maxHeartbeats 4000000
/-! any and all of a generator expression whose element is any expression of the hand layer. -/
namespace Sq
open PySem PySem.Spec PyProof.Rows L2
/-- a generator expression's scope within a def's -/
structure GenB (N : List Str) (sc scope : Scope) (own : List (Str × Nat)) : Prop where
  blk : BlkOk N sc scope own
  co : scope.isCoroutine = false
  cell : ∀ y ∈ scope.names, y.2 ≠ .cell
  dot : scope.names.lookup (".0" : Str) = some NameKind.local
/-- the context of the generator's frame: made at z, H -/
def genX (X : Cx) (Ag : Around) (z : Shared) (H : Hp) (ge : Env) (fp : List Addr) : Cx :=
  { X with A := Ag, s_0 := z, H_0 := H, env := ge, outer := X.stack, stack := ge :: X.stack, ex := fp, fn := fun _ => false, calm := true, pn := [], xe := fun _ _ => False }
section
variable {X : Cx} {pins : List (Addr × Obj)} {σ : L2.St} {H : Hp} {z : Shared}
end
end Sq

set_option Elab.async false
set_option linter.all false
set_option maxRecDepth 100000
set_option maxHeartbeats 4000000
/-! The generator's own turns. -/
namespace Sq
open PySem PySem.Spec PyProof.Rows L2
def gF (X : Cx) (pl : List (Addr × Obj)) (Qe : Hp → Prop) : Nat → Shared → Shared → Prop := fun _ _ s => ∃ τ G, Inv X pl τ G s ∧ Qe G
def gR (X : Cx) (pl : List (Addr × Obj)) (Qe : Hp → Prop) : GenEnd := fun n s₀ r s => ((r = .ok (.ret .none) ∨ r = .ok .next) ∧ gF X pl Qe n s₀ s) ∨ ∃ e, r = .error e ∧ False
section
variable {Xg : Cx} {elt tg iter : Expr} {ifs : List Expr} {scope : Scope} {pos : Pos} {g : TG} {tt : TT} {te : TE} {J : It} {fp : List Addr} {it : Addr} {tn : Nat → Heap → Prop} {Ax : Around} {vs : List Nat} {σ : L2.St} {stop : Bool} {Qs Qe : Hp → Prop}
  {W : Nat → Nat → Hp → Prop} {pl : List (Addr × Obj)}
end
end Sq

set_option Elab.async false
set_option linter.all false
set_option maxRecDepth 100000
set_option maxHeartbeats 4000000
/-! any and all draw from such a generator. -/
namespace Sq
open PySem PySem.Spec PyProof.Rows L2
section
variable {Xg : Cx} {stop : Bool} {Qs Qe : Hp → Prop} {a : Addr} {go : Obj} {g : Nat} {A : Around} {R : Result → Shared → Prop}
variable (hh : A.handled = none) (hd : A.depth < recursionLimit) (isg : ∀ s : Shared, s.heap.get? a = some go → s.heap.IsGen a g) (fin : ∀ c τ G s, Inv Xg [(a, go)] τ G s → (if c = stop then Qs G else Qe G) → R (.ok (.ret (.bool c))) s)
include hh hd isg fin
end
end Sq

set_option Elab.async false
set_option linter.all false
set_option maxRecDepth 100000
set_option maxHeartbeats 4000000
/-! any(test for target in walked if ..), all(..). -/
namespace Sq
open PySem PySem.Spec PyProof.Rows L2
section
variable {X : Cx} {elt tg iter : Expr} {ifs : List Expr} {scope : Scope} {gpos : Pos} {g : TG} {tt : TT} {te : TE} {own : List (Str × Nat)} {wi : TI} {k : Nat} {c P : Addr} {stop : Bool}
section
variable (calm : X.calm = true) (hr : Room (k + 1) X.A) (nd : X.N.Nodup) (TB : GxR.TabB X.base X.mg c P) (hcode : X.env.code = .ref c) (ok : GenB X.N X.env.scope scope own) (hi : PI X tg iter wi)
  (hg : ∀ (A : Around) (z : Shared) (G : Hp) (cl : List (Str × Addr)) (C : Addr) (cd : Value) (fp : List Addr), PG (genX X A z G (genEnv scope cl C cd builtinsNs X.env) fp) tg g)
  (ht : ∀ (A : Around) (z : Shared) (G : Hp) (cl : List (Str × Addr)) (C : Addr) (cd : Value) (fp : List Addr), Room k A → PTs (genX X A z G (genEnv scope cl C cd builtinsNs X.env) fp) ifs tt)
  (he : ∀ (A : Around) (z : Shared) (G : Hp) (cl : List (Str × Addr)) (C : Addr) (cd : Value) (fp : List Addr), Room k A → PE (genX X A z G (genEnv scope cl C cd builtinsNs X.env) fp) elt te)
  (hs : ∀ v, genFold iter X.env v = pure v)
include calm hr nd TB hcode ok hi hg ht he hs
end
end
end Sq

set_option Elab.async false
set_option linter.all false
set_option maxRecDepth 100000
set_option maxHeartbeats 4000000
/-! Walks under any, all and dict comprehensions. -/
namespace Sq
open PySem PySem.Spec PyProof.Rows L2
section
variable {J : It} {n : Nat} {Gd : Hp → Prop} {Y : Nat → Hp → V → Hp → Prop} {g : TG} {tt : TT} {vs : List Nat} {σ : L2.St}
theorem dct_it (w : Walk J n Gd Y) {o0 : HO} {tk tv : TE} {H1 : Hp} {D : Addr} {Qd : Hp → Prop} (Pv : Nat → Hp → Prop) (h0 : Pv 0 (upd H1 D o0)) (hG : ∀ i H, i ≤ n → Pv i H → Gd H)
    (hs : ∀ i x H H', i < n → Pv i H → Y i H x H' → g x (wipe σ vs) H' fun σ2 H2 => wipe σ2 vs = wipe σ vs ∧ tt σ2 H2 fun b H3 => if b = true then tk σ2 H3 fun y H4 => tv σ2 H4 fun z H5 => ∃ H6, DPut H5 D y z H6 ∧ Pv (i + 1) H6 else Pv (i + 1) H3)
    (hd : ∀ H, Pv n H → Qd H) : ∃ W : Nat → Nat → Hp → Prop, (∃ m, W 0 m (upd H1 D o0)) ∧ ∀ i m H, W i m H →
      (J.stop i H ∧ Qd H) ∨ (J.go i H ∧ ∃ Nx : Hp → Prop, (∀ H', Nx H' → ∃ m', m' < m ∧ W (i + 1) m' H') ∧ ∀ x H', J.yld i H x H' → g x (wipe σ vs) H' fun σ2 H2 => wipe σ2 vs = wipe σ vs ∧ tt σ2 H2 fun b H3 =>
        if b = true then tk σ2 H3 fun y H4 => tv σ2 H4 fun z H5 => ∃ H6, DPut H5 D y z H6 ∧ Nx H6 else Nx H3) := by
  refine ⟨fun i m H => m = n - i ∧ i ≤ n ∧ Pv i H, ⟨n, rfl, Nat.zero_le _, h0⟩, ?_⟩
  rintro i m H ⟨rfl, hi, p⟩
  by_cases lt : i < n
  · exact .inr ⟨w.goes i H lt (hG i H hi p), Pv (i + 1), fun H' p' => ⟨n - (i + 1), by omega, rfl, lt, p'⟩, fun x H' y => hs i x H H' lt p (w.yields i H x H' lt (hG i H hi p) y)⟩
  · obtain rfl : i = n := Nat.le_antisymm hi (Nat.le_of_not_lt lt)
    exact .inl ⟨w.stops H (hG i H hi p), hd H p⟩
end
end Sq

set_option Elab.async false
set_option linter.all false
set_option maxRecDepth 100000
set_option maxHeartbeats 4000000
/-! Cells: pairs of whole numbers as tuples, as keys; their order; min of a dict of cells. -/
namespace Sq
open PySem PySem.Spec PyProof.Rows L2
abbrev Cell := Int × Int
def cV (c : Cell) : List V := [.int c.1, .int c.2]
def cK (c : Cell) : List Key := [.inl c.1, .inl c.2]
theorem cK_inj {c d : Cell} (h : cK c = cK d) : c = d := by
  obtain ⟨c1, c2⟩ := c
  obtain ⟨d1, d2⟩ := d
  have h : ([.inl c1, .inl c2] : List Key) = [.inl d1, .inl d2] := h
  simp only [List.cons.injEq, Sum.inl.injEq, and_true] at h
  rw [h.1, h.2]
/-- the cell c stands at q -/
def At (H : Hp) (q : Addr) (c : Cell) : Prop := H q = some (.tup (cV c))
theorem At.new {H : Hp} {q p : Addr} {c : Cell} {o : HO} (h : At H q c) (hp : H p = none) : At (upd H p o) q c := by
  unfold At
  rw [upd_ne (ne_of_none h hp)]
  exact h
theorem At.off {H : Hp} {q p : Addr} {c : Cell} {o u : HO} (h : At H q c) (hp : H p = some u) (hu : ∀ xs, u ≠ .tup xs) : At (upd H p o) q c := by
  unfold At
  rw [upd_ne (ne_of h hp (fun e => hu _ e.symm))]
  exact h
theorem At.sqT {K : PySem.W.Frag} {H : Hp} {q : Addr} {c : Cell} (h : At H q c) : SqT K H q (cV c) := SqT.of h
/-- the cells' order -/
def cLt (a b : Cell) : Bool := decide (a.1 < b.1 ∨ (a.1 = b.1 ∧ a.2 < b.2))
theorem cLt_irr (a : Cell) : cLt a a = false := decide_eq_false (by omega)
theorem cLt_trans {a b c : Cell} (h1 : cLt a b = true) (h2 : cLt b c = true) : cLt a c = true := by
  have h1 := of_decide_eq_true h1
  have h2 := of_decide_eq_true h2
  exact decide_eq_true (by omega)
theorem cLt_tri {a b : Cell} (h1 : cLt a b = false) (h2 : cLt b a = false) : a = b := by
  have h1 := of_decide_eq_false h1
  have h2 := of_decide_eq_false h2
  exact Prod.ext (by omega) (by omega)
theorem cLt_asym {a b : Cell} (h1 : cLt a b = true) : cLt b a = false := by
  have h1 := of_decide_eq_true h1
  exact decide_eq_false (by omega)
section
variable {X : Cx}
end
end Sq

set_option Elab.async false
set_option linter.all false
set_option maxRecDepth 100000
set_option maxHeartbeats 4000000
/-! *d in a list display, d a dict whose keys are tuples. -/
namespace Sq
open PySem PySem.Spec PyProof.Rows L2
section
variable {X : Cx} {pins : List (Addr × Obj)} {σ : L2.St} {H : Hp} {s : Shared}
end
end Sq

set_option Elab.async false
set_option linter.all false
set_option maxRecDepth 100000
set_option maxHeartbeats 4000000
/-! d.pop(k), the key a tuple that is there. -/
namespace Sq
open PySem PySem.Spec PyProof.Rows L2
end Sq

set_option Elab.async false
set_option linter.all false
set_option maxRecDepth 100000
set_option maxHeartbeats 4000000
/-! raise C(e, ..), C an error that keeps its parameters. -/
namespace Sq
open PySem PySem.Spec PyProof.Rows L2
def tRz (C : Addr) (ns : List Str) (ta : TA) : L2.St → Hp → XK → Prop := fun σ H Q => ta σ H fun vs H1 => vs.length = ns.length ∧ ns ≠ [] ∧ ∀ d, H1 d = none → Q (.ref C) (some d) (upd H1 d (.xd (ns.zip vs).reverse))
section
variable {X : Cx} {C fI : Addr} {ns : List Str}
theorem mk_err {pins : List (Addr × Obj)} {σ : L2.St} {H : Hp} {s : Shared} {us : List Value} {vs : List V} {Q : XK} (T : SErr X.prog X.K C fI ns) (rz : Raises X (.ref C)) (hr : Room 1 X.A) (I : Inv X pins σ H s) (r : Vals vs us) (hl : vs.length = ns.length) (ne : ns ≠ [])
    (q : ∀ d, H d = none → Q (.ref C) (some d) (upd H d (.xd (ns.zip vs).reverse))) : wpAny (model X.prog X.w) X.A (call (.ref C) us) (MkP X pins σ Q) X.xe s := by
  obtain ⟨nm, q0, N, bs, bm, sn, sub, ab, col, dd, k0, k1, k2, k3, k5, hC, hbm, _⟩ := T.cls
  obtain ⟨mb, hmb, hbb⟩ := I.mod.blt
  have hlim := I.nolimit
  have hul : us.length = ns.length := by rw [← r.length]; exact hl
  have hdp := hr.dp
  obtain ⟨hp, g, dr, tk, os⟩ := s
  generalize e2 : (hp.push (PySem.W.kdv_tup us)).push (PySem.HandSPX.excO C hp.objs.size) = hp2
  have kk : ∀ b o, hp.get? b = some o → hp2.get? b = some o := fun b o e => by rw [← e2]; exact Heap.get?_push_of_some _ (Heap.get?_push_of_some _ e)
  have hget : hp2.get? (hp.objs.size + 1) = some (PySem.HandSPX.excO C hp.objs.size) := by rw [← e2]; heap_get
  have sz2 : hp2.objs.size = hp.objs.size + 2 := by rw [← e2, Heap.size_push, Heap.size_push]
  have KX : X.K.In hp := I.kIn
  have hKx : X.K.lookup (hp.objs.size + 1) = none := by
    cases e : X.K.lookup (hp.objs.size + 1) with
    | none => rfl
    | some o => exact absurd (Nat.lt_of_succ_lt (Heap.lt_size (KX _ _ e))) (Nat.lt_irrefl _)
  have hus : us.length ≤ sizeLine := by
    have := T.len
    rw [hul, sizeLine_eq]
    omega
  refine wpAny_call (PySem.HandSPX.call_own F.excBase_ValueError (fun Y => PySem.HandSPX.refsVE_contains Y bm hbm) (KX _ _ hC) (PySem.W.looks_findIn KX T.iC) (fun self => PySem.W.bind_fn KX self T.tI) hus ?_)
  rw [e2]
  refine init_run (s := ⟨hp2, g, dr, tk, os⟩) (mg := X.mg) (mb := mb) T (PySem.W.Frag.In.keeps KX kk) hKx (I.mod.glob.keeps fun b o e => kk b o (I.bk b o e)) (hmb.keeps fun b o e => kk b o (I.bk b o e))
    ((hbb _ (by decide +kernel)).trans (by first | boot_by_name | kernel_rfl)) (hlim.keeps kk) hget hul (by show X.A.depth + 1 < recursionLimit; omega) (fun h' tk' Z => ⟨rfl, ?_⟩)
  have na : H (hp.objs.size + 1) = none := I.hok.fresh (Nat.le_succ _)
  obtain ⟨t1, ⟨e, _⟩ | ⟨dx, _, d1, d2, d3, d4⟩⟩ := Z.obj
  · have z := congrArg List.length e
    rw [List.length_reverse, List.length_zip, hul, Nat.min_self] at z
    exact absurd (List.length_eq_zero_iff.mp z) ne
  have d1 : hp2.objs.size ≤ dx := d1
  have d1' : hp.objs.size ≤ dx := by
    rw [sz2] at d1
    exact Nat.le_trans (Nat.le_add_right _ 2) d1
  have nd : H dx = none := I.hok.fresh d1'
  have old : ∀ b o, hp.get? b = some o → h'.get? b = some o := fun b o e => Z.keep b o (Nat.ne_of_lt (Nat.lt_succ_of_lt (Heap.lt_size e))) (kk b o e)
  have ob1 : HOk X.prog X.w (upd H dx (exd dx (ns.zip vs).reverse)) h' := I.hok.laid old d1' (exd_ok d4 (rev_rel ns r))
  have na' : upd H dx (exd dx (ns.zip vs).reverse) (hp.objs.size + 1) = none := by
    rw [upd_ne (Ne.symm d2)]
    exact na
  have ob2 : HOk X.prog X.w (upd (upd H dx (exd dx (ns.zip vs).reverse)) (hp.objs.size + 1) (exo (hp.objs.size + 1) C (some dx))) h' := ob1.laidN (fun _ _ q => q) na' (exo_ok d3)
  have nedx : ∀ b o, hp2.get? b = some o → b ≠ dx := fun b o e z => by
    rw [z] at e
    exact absurd (Heap.lt_size e) (Nat.not_lt_of_le d1)
  have same : ∀ b, b ≠ hp.objs.size + 1 → b ≠ dx → upd (upd H dx (exd dx (ns.zip vs).reverse)) (hp.objs.size + 1) (exo (hp.objs.size + 1) C (some dx)) b = H b := fun b h1 h2 => by rw [upd_ne h1, upd_ne h2]
  have was : ∀ b u, upd H (hp.objs.size + 1) (exo (hp.objs.size + 1) C none) b = some u → (∀ dd, u ≠ exo (hp.objs.size + 1) C dd) → b ≠ hp.objs.size + 1 ∧ b ≠ dx ∧ H b = some u := fun b u e hu => by
    have h1 : b ≠ hp.objs.size + 1 := fun z => by
      rw [z, upd_same] at e
      exact hu _ (Option.some.inj e).symm
    rw [upd_ne h1] at e
    exact ⟨h1, fun z => (by rw [z, nd] at e; cases e), e⟩
  have un : Un (frs X.stack) [] (upd H (hp.objs.size + 1) (exo (hp.objs.size + 1) C none)) (upd (upd H dx (exd dx (ns.zip vs).reverse)) (hp.objs.size + 1) (exo (hp.objs.size + 1) C (some dx))) hp2 h' := by
    have neA : ∀ b, upd H (hp.objs.size + 1) (exo (hp.objs.size + 1) C none) b = none → b ≠ hp.objs.size + 1 := fun b n z => by
      rw [z, upd_same] at n
      cases n
    refine ⟨fun b o e n _ _ => Z.keep b o (neA b n) e, fun b o e n _ _ => ⟨o.slots, Z.keep b o (neA b n) e⟩, fun b o e n _ => ?_, fun b o e _ => ?_, fun b xs e => ?_, fun b o u e => ?_, fun b ps e => ?_⟩
    · rw [same b (neA b n) (nedx b o e), ← n, upd_ne (neA b n)]
    · by_cases hb : b = hp.objs.size + 1
      · rw [hb]
        exact ⟨_, d3⟩
      · exact ⟨o, Z.keep b o hb e⟩
    · obtain ⟨h1, h2, h3⟩ := was b _ e fun dd z => exo_tup z.symm
      rw [same b h1 h2, h3]
    · obtain ⟨h1, h2, h3⟩ := was b _ e fun dd z => exo_frz z.symm
      rw [same b h1 h2, h3]
    · obtain ⟨h1, h2, h3⟩ := was b _ e fun dd z => exo_tbl z.symm
      exact ⟨#[], by rw [same b h1 h2, h3]; simp⟩
  refine mk_end rz I (Nat.le_succ _) kk un ob2 rfl I.bare upd_same (by rw [upd_ne d2]; exact upd_same) nd ?_
  have eH : upd (del (upd (upd H dx (exd dx (ns.zip vs).reverse)) (hp.objs.size + 1) (exo (hp.objs.size + 1) C (some dx))) (hp.objs.size + 1)) dx (.xd (ns.zip vs).reverse) = upd H dx (.xd (ns.zip vs).reverse) := by
    funext b
    by_cases hb : b = dx
    · rw [hb, upd_same, upd_same]
    · rw [upd_ne hb, upd_ne hb]
      by_cases ha : b = hp.objs.size + 1
      · rw [ha, del_same, na]
      · rw [del_ne ha, same b ha hb]
  rw [eH]
  exact q dx nd
theorem pmk_err {x : Str} {e : Expr} {es : List Expr} {ta : TA} {p pos : Pos} (T : SErr X.prog X.K C fI ns) (rz : Raises X (.ref C)) (hr : Room 1 X.A) (hm : X.mg x = some (.ref C)) (ha : PA X (e :: es) ta) (hg : Gl X x := by rfl)
    (hdb : (x == ("__debug__" : Str)) = false := by decide) (he : starEach (e :: es) X.env = (false, eval e X.env) :: starEach es X.env := by rfl) (hpl : (backTo pos (starEach es X.env)).any (·.1) = false := by rfl) :
    PMk X (.Call (.Name x p) (e :: es) [] pos) (tRz C ns ta) := by
  intro pins s σ H Q I h
  refine wpAny_Call_Name_kw (ld_glob I hg hm ?_ hdb)
  exact PySem.W.callWith_K (h₀ := X.base) I.ok.mod.kin T.kC (thn (ha.run pos pins s σ H _ I h) fun us s1 ⟨vs, H1, I1, r1, hl, ne, q1⟩ => ⟨I1.kIn, mk_err T rz hr I1 r1 hl ne q1⟩) he hpl
end
end Sq

set_option Elab.async false
set_option linter.all false
set_option maxRecDepth 100000
set_option maxHeartbeats 4000000
/-! {k: v}, one pair, the key of any kind. -/
namespace Sq
open PySem PySem.Spec PyProof.Rows L2
def tDisp1 (o0 : HO) (tk tv : TE) : TE := fun σ H Q => ∀ p, H p = none → tk σ (upd H p o0) fun x H1 => tv σ H1 fun y H2 => ∃ H3, DPut H2 p x y H3 ∧ Q (.ref p) H3
def onePair (q : V → V → Hp → Prop) : List (V × V) → Hp → Prop
  | [p], H => q p.1 p.2 H
  | _, _ => False
theorem onePair_of {q : V → V → Hp → Prop} {H : Hp} : ∀ {ps : List (V × V)}, onePair q ps H → ∃ x y, ps = [(x, y)] ∧ q x y H
  | [p], h => ⟨p.1, p.2, rfl, h⟩
theorem pe_disp1 {X : Cx} {o0 : HO} {k v : Expr} {pos : Pos} {tk tv : TE} (ho : o0 = .dK [] ∨ o0 = .dT []) (hu : X.A.units + 1 < cLine) (hk : PE X k tk) (hv : PE X v tv) : PE X (.Dict [some k] [v] pos) (tDisp1 o0 tk tv) := by
  refine ⟨fun pins s σ H Q I h => ?_⟩
  have fresh := I.hok.fresh (Nat.le_refl s.heap.objs.size)
  have I1 : Inv X pins σ (upd H s.heap.objs.size o0) { s with heap := s.heap.push { cls := .type "dict", data := .dict #[] } } := by
    refine I.laid (t' := s.toks) (fun _ _ q => Heap.get?_push_of_some _ q) (Nat.le_refl _) ?_
    rcases ho with rfl | rfl
    · exact dk_empty s.heap I.big
    · exact dt_empty s.heap I.big
  refine wpAny_Dict_any rfl rfl (List.cons_ne_nil _ _) (by show 1 ≤ 15; decide) ?_
  refine thn ((pps_cons hk hv pps_nil).run pins _ σ _ (onePair fun x y H2 => ∃ H3, DPut H2 s.heap.objs.size x y H3 ∧ Q (.ref s.heap.objs.size) H3) I1 (h _ fresh)) fun vs z hz => ?_
  obtain ⟨ps, H2, I2, rel, q⟩ := hz
  obtain ⟨x, y, rfl, H3, put, q⟩ := onePair_of q
  cases rel with
  | cons rr r0 =>
    cases r0
    unfold storeAll
    rw [List.forIn_cons]
    refine wpAny_bind (wpAny_bind (dc_put hu I2 put rr.1 rr.2 fun z' I3 => wpAny_pure ?_))
    show wpAny _ _ (forIn ([] : List (Value × Value)) PUnit.unit _) _ _ _
    rw [List.forIn_nil]
    exact wpAny_pure ⟨.ref s.heap.objs.size, H3, I3, rfl, q⟩
end Sq

set_option Elab.async false
set_option linter.all false
set_option maxRecDepth 100000
set_option maxHeartbeats 4000000
/-! The mathematics of hanging together. -/
namespace Sq
/-- the four beside a cell -/
def besideC (c : Cell) : List Cell := [(c.1 - 1, c.2), (c.1, c.2 - 1), (c.1 + 1, c.2), (c.1, c.2 + 1)]
theorem beside_iff {c d : Cell} : d ∈ besideC c ↔ (d.1 = c.1 - 1 ∧ d.2 = c.2) ∨ (d.1 = c.1 ∧ d.2 = c.2 - 1) ∨ (d.1 = c.1 + 1 ∧ d.2 = c.2) ∨ (d.1 = c.1 ∧ d.2 = c.2 + 1) := by
  obtain ⟨c1, c2⟩ := c
  obtain ⟨d1, d2⟩ := d
  simp [besideC]
theorem beside_symm {c d : Cell} (h : d ∈ besideC c) : c ∈ besideC d := by
  rw [beside_iff] at h ⊢
  omega
theorem beside_ne {c d : Cell} (h : d ∈ besideC c) : d ≠ c := fun e => by
  subst e
  rw [beside_iff] at h
  omega
/-- what is reached from a within L -/
inductive Reach (L : List Cell) (a : Cell) : Cell → Prop where
  | refl : Reach L a a
  | step {b c : Cell} : Reach L a b → c ∈ besideC b → c ∈ L → Reach L a c
theorem Reach.trans {L : List Cell} {a b c : Cell} (h : Reach L a b) (k : Reach L b c) : Reach L a c := by
  induction k with
  | refl => exact h
  | step _ hb hc ih => exact .step ih hb hc
theorem Reach.mem {L : List Cell} {a b : Cell} (h : Reach L a b) (ha : a ∈ L) : b ∈ L := by
  cases h with
  | refl => exact ha
  | step _ _ hc => exact hc
theorem Reach.symm {L : List Cell} {a b : Cell} (h : Reach L a b) (ha : a ∈ L) : Reach L b a := by
  induction h with
  | refl => exact .refl
  | @step b c hab hb hc ih => exact (Reach.step .refl (beside_symm hb) (hab.mem ha)).trans ih
/-- the cells hang together -/
def Hangs (L : List Cell) : Prop := L ≠ [] ∧ ∀ a ∈ L, ∀ b ∈ L, Reach L a b
theorem hangs_from {L : List Cell} {m : Cell} (hm : m ∈ L) : Hangs L ↔ ∀ b ∈ L, Reach L m b :=
  ⟨fun h b hb => h.2 m hm b hb, fun h => ⟨List.ne_nil_of_mem hm, fun a ha b hb => ((h a ha).symm hm).trans (h b hb)⟩⟩
theorem len_le {α : Type} [DecidableEq α] : ∀ {xs ys : List α}, xs.Nodup → (∀ x ∈ xs, x ∈ ys) → xs.length ≤ ys.length
  | [], _, _, _ => Nat.zero_le _
  | x :: xs, ys, nd, h => by
    have nd1 := List.nodup_cons.mp nd
    have m := h x (List.mem_cons_self ..)
    have k := len_le (ys := ys.erase x) nd1.2 fun y hy => (List.mem_erase_of_ne (fun e => nd1.1 (by rw [← e]; exact hy))).mpr (h y (List.mem_cons_of_mem _ hy))
    rw [List.length_erase_of_mem m] at k
    have p : 0 < ys.length := List.length_pos_of_mem m
    show xs.length + 1 ≤ _
    omega
/-- as many, and within: the same -/
theorem all_of_len {α : Type} [DecidableEq α] {xs ys : List α} (nd : xs.Nodup) (h : ∀ x ∈ xs, x ∈ ys) (ny : ys.Nodup) (l : xs.length = ys.length) : ∀ y ∈ ys, y ∈ xs := fun y hy => by
  by_cases m : y ∈ xs
  · exact m
  · have k := len_le (xs := y :: xs) (ys := ys) (List.nodup_cons.mpr ⟨m, nd⟩) fun z hz => (List.mem_cons.mp hz).elim (fun e => e ▸ hy) (h z)
    have k : xs.length + 1 ≤ ys.length := k
    omega
theorem hangs_len {L F : List Cell} {m : Cell} (hm : m ∈ L) (nL : L.Nodup) (nF : F.Nodup) (hF : ∀ x, x ∈ F ↔ Reach L m x) : F.length = L.length ↔ Hangs L := by
  rw [hangs_from hm]
  have sub : ∀ x ∈ F, x ∈ L := fun x hx => ((hF x).mp hx).mem hm
  constructor
  · exact fun l b hb => (hF b).mp (all_of_len nF sub nL l b hb)
  · exact fun h => Nat.le_antisymm (len_le nF sub) (len_le nL fun x hx => (hF x).mpr (h x hx))
theorem hangs_perm {L M : List Cell} (h : ∀ x, x ∈ L ↔ x ∈ M) : Hangs L ↔ Hangs M := by
  have r : ∀ {L M : List Cell}, (∀ x, x ∈ L ↔ x ∈ M) → ∀ {a b}, Reach L a b → Reach M a b := fun {L M} h {a b} k => by
    induction k with
    | refl => exact .refl
    | step _ hb hc ih => exact .step ih hb ((h _).mp hc)
  have one : ∀ {L M : List Cell}, (∀ x, x ∈ L ↔ x ∈ M) → Hangs L → Hangs M := fun {L M} h k => by
    refine ⟨fun e => ?_, fun a ha b hb => r h (k.2 a ((h a).mpr ha) b ((h b).mpr hb))⟩
    obtain ⟨x, hx⟩ := List.exists_mem_of_ne_nil _ k.1
    have q := (h x).mp hx
    rw [e] at q
    cases q
  exact ⟨one h, one fun x => (h x).symm⟩
end Sq

set_option Elab.async false
set_option linter.all false
set_option maxRecDepth 100000
set_option maxHeartbeats 4000000
/-! Bundles: a def of the module with its promise; the built-ins' names; a while by what may be hidden. -/
namespace Sq
open PySem PySem.Spec PyProof.Rows L2
/-- the built-ins' names are the module's own nowhere -/
structure Bl (mg : Str → Option Value) : Prop where
  int : mg "int" = none
  len : mg "len" = none
  list : mg "list" = none
  tuple : mg "tuple" = none
  bool : mg "bool" = none
  isinstance : mg "isinstance" = none
  range : mg "range" = none
  sorted : mg "sorted" = none
  abs : mg "abs" = none
  min : mg "min" = none
  max : mg "max" = none
  set : mg "set" = none
  any : mg "any" = none
/-- the module's def x keeps the promise sp -/
structure Df (P : Program) (w : World) (K : PySem.W.Frag) (mg : Str → Option Value) (base : Heap) (CX : CXT) (k : Nat) (x : Str) (ps : List Str) (sp : Sp) : Prop where
  ex : ∃ f fd, mg x = some (.ref f) ∧ PySem.W.keepIn K (.ref f) = true ∧ Binds K fd ps [] ∧ FnOk P w K mg base CX k f fd ps sp
section
variable {X : Cx} {CX : CXT} {j k : Nat} {x : Str} {ps : List Str} {sp : Sp} {E : XK} {p pos : Pos} {e : Expr} {es : List Expr} {t : TA}
theorem pe_df (D : Df X.prog X.w X.K X.mg X.base CX k x ps sp) (hr : Room j X.A) (hg : Gl X x) (hx : Passes CX X E) (ha : PA X (e :: es) t) (hkj : k ≤ j := by decide) (hdb : (x == ("__debug__" : Str)) = false := by decide)
    (he : starEach (e :: es) X.env = (false, eval e X.env) :: starEach es X.env := by rfl) (hpl : (backTo pos (starEach es X.env)).any (·.1) = false := by rfl) : PE X (.Call (.Name x p) (e :: es) [] pos) (tCall sp [] E t) := by
  obtain ⟨f, fd, g, kp, b, F⟩ := D.ex
  exact pe_call F (hr.mono hkj) hg g kp b .nil hx ha hdb he hpl
end
/-- all but what stands at S stays -/
def Kp (S : List Addr) (H H' : Hp) : Prop := ∀ b o, b ∉ S → H b = some o → H' b = some o
theorem Kp.refl {S : List Addr} {H : Hp} : Kp S H H := fun _ _ _ e => e
theorem Kp.trans {S : List Addr} {H H1 H2 : Hp} (h : Kp S H H1) (k : Kp S H1 H2) : Kp S H H2 := fun b o n e => k b o n (h b o n e)
theorem Kp.mono {S T : List Addr} {H H' : Hp} (h : Kp S H H') (k : ∀ b ∈ S, b ∈ T) : Kp T H H' := fun b o n e => h b o (fun m => n (k b m)) e
theorem Kp.of {S : List Addr} {H H' : Hp} (h : Same H H') : Kp S H H' := fun b o _ e => h b o e
theorem Kp.but {S : List Addr} {H H' : Hp} {p : Addr} (hp : p ∈ S) (h : ∀ b, b ≠ p → H' b = H b) : Kp S H H' := fun b o n e => by
  rw [h b (fun z => n (z ▸ hp))]
  exact e
/-- what is new in H is put on -/
theorem Kp.put {S : List Addr} {H0 H : Hp} {p : Addr} {o : HO} (h : Kp S H0 H) (hp : H0 p = none) : Kp S H0 (upd H p o) := fun b u n e => by
  rw [upd_ne (ne_of_none e hp)]
  exact h b u n e
theorem same_put {H0 H : Hp} {p : Addr} {o : HO} (h : Same H0 H) (hp : H0 p = none) : Same H0 (upd H p o) := fun b u e => by
  rw [upd_ne (ne_of_none e hp)]
  exact h b u e
theorem same_refl {H : Hp} : Same H H := fun _ _ e => e
end Sq
namespace Sq
open PySem PySem.Spec PyProof.Rows L2
/-- a def of the text whose code object is known -/
structure FunC (K : PySem.W.Frag) (x qual : Str) (params : Arguments) (body : List Stmt) (scope : Scope) (c f : Addr) (fd : FuncData) : Prop where
  ex : ∃ (oc : Value) (od : Option Addr) (dV kV doc pm : Value) (an : Option Addr) (ct : Value) (osl : Array (Option Value)),
    fd = PySem.W.fnOf x qual params body scope dV kV doc pm an (.ref c) ct ∧ K.lookup f = some ⟨oc, od, .func fd, osl⟩ ∧ PySem.W.codeIn K (.ref c) qual = true ∧ DflV K dV [] ∧ KwdV K kV []
  kp : PySem.W.keepIn K (.ref f) = true
section
variable {P : Program} {w : World} {K : PySem.W.Frag} {mg : Str → Option Value} {base : Heap} {x qual : Str} {params : Arguments} {body : List Stmt} {scope : Scope} {c f : Addr} {fd : FuncData}
theorem FunC.d (F : FunC K x qual params body scope c f fd) : FunD K x qual params body scope [] [] f fd := by
  obtain ⟨oc, od, dV, kV, doc, pm, an, ct, osl, r⟩ := F.ex
  exact ⟨⟨oc, od, dV, kV, doc, pm, an, _, ct, osl, r⟩, F.kp⟩
theorem FunC.ok {CX : CXT} {N ps : List Str} {k : Nat} {sp : Sp} (F : FunC K x qual params body scope c f fd) (S : FnScope N ps scope) (len : ∀ vs H Q E, sp vs H Q E → vs.length = ps.length)
    (run : ∀ (A : Around) (outer : List Env) (s : Shared) (H : Hp) (vs : List V) (Q : VK) (E : XK), Room k (A.deeper (envOfC qual scope s.heap.objs.size f (.ref c))) → sp vs H Q E →
      ∃ t, PSs (cxOf CX P w K mg base N qual scope f (.ref c) A outer s H E) body t ∧ t { nx := fun _ H' => Q .non H', rt := Q } (L2.start N vs) H) : FnOk P w K mg base CX (k + 1) f fd ps sp := by
  obtain ⟨oc, od, dV, kV, doc, pm, an, ct, osl, rfl, lk, hcd, _, _⟩ := F.ex
  exact fn_of lk hcd S len fun A outer s H vs Q E hr hsp => run A outer s H vs Q E hr hsp
end
/-- tables stand at all of Ts -/
def TabsG (Ts : List Addr) (H : Hp) : Prop := ∀ T ∈ Ts, GxR.TabG H T
/-- all but the tables stays, and these are tables still -/
structure KT (Ts : List Addr) (H G : Hp) : Prop where
  kp : Kp Ts H G
  tb : TabsG Ts H
  tb' : TabsG Ts G
theorem KT.get {Ts : List Addr} {H G : Hp} {b : Addr} {o : HO} (h : KT Ts H G) (e : H b = some o) (ho : ∀ ps, o ≠ .tbl ps) : G b = some o := by
  refine h.kp b o (fun m => ?_) e
  obtain ⟨ps, e2, _⟩ := h.tb b m
  rw [e2] at e
  exact ho ps (Option.some.inj e).symm
theorem KT.at {Ts : List Addr} {H G : Hp} {q : Addr} {c : Cell} (h : KT Ts H G) (e : At H q c) : At G q c := h.get e (fun _ z => nomatch z)
theorem KT.lot {Ts : List Addr} {H G : Hp} {d : Addr} {L : List (List Key × V)} (h : KT Ts H G) (e : H d = some (.dT L)) : G d = some (.dT L) := h.get e (fun _ z => nomatch z)
theorem KT.tup {Ts : List Addr} {H G : Hp} {d : Addr} {L : List V} (h : KT Ts H G) (e : H d = some (.tup L)) : G d = some (.tup L) := h.get e (fun _ z => nomatch z)
theorem KT.lst {Ts : List Addr} {H G : Hp} {d : Addr} {L : List V} (h : KT Ts H G) (e : H d = some (.lst L)) : G d = some (.lst L) := h.get e (fun _ z => nomatch z)
theorem tabG_same {H G : Hp} {P : Addr} (hP : GxR.TabG H P) (h : Same H G) : GxR.TabG G P := by
  obtain ⟨ps, e, t⟩ := hP
  exact ⟨ps, h _ _ e, t⟩
theorem TabsG.same {Ts : List Addr} {H G : Hp} (hT : TabsG Ts H) (h : Same H G) : TabsG Ts G := fun T m => tabG_same (hT T m) h
theorem KT.of {Ts : List Addr} {H G : Hp} (hT : TabsG Ts H) (h : Same H G) : KT Ts H G := ⟨Kp.of h, hT, hT.same h⟩
theorem KT.refl {Ts : List Addr} {H : Hp} (hT : TabsG Ts H) : KT Ts H H := ⟨Kp.refl, hT, hT⟩
theorem KT.trans {Ts : List Addr} {H G I : Hp} (h : KT Ts H G) (k : KT Ts G I) : KT Ts H I := ⟨h.kp.trans k.kp, h.tb, k.tb'⟩
theorem KT.same {Ts : List Addr} {H G I : Hp} (h : KT Ts H G) (k : Same G I) : KT Ts H I := h.trans (.of h.tb' k)
theorem KT.free {Ts : List Addr} {H G : Hp} {a : Addr} (h : KT Ts H G) (e : G a = none) : H a = none := by
  cases q : H a with
  | none => rfl
  | some o =>
    by_cases m : a ∈ Ts
    · obtain ⟨ps, e2, _⟩ := h.tb' a m
      rw [e] at e2
      cases e2
    · rw [h.kp a o m q] at e
      cases e
noncomputable def hangsB (L : List Cell) : Bool := @decide (Hangs L) (Classical.propDecidable _)
theorem hangsB_iff {L : List Cell} : hangsB L = true ↔ Hangs L := by
  unfold hangsB
  exact @decide_eq_true_iff (Hangs L) (Classical.propDecidable _)
theorem hangsB_of {L : List Cell} {b : Bool} (h : b = true ↔ Hangs L) : b = hangsB L := by
  cases e : hangsB L with
  | true => exact h.mpr (hangsB_iff.mp e)
  | false =>
    cases b with
    | false => rfl
    | true => exact absurd (hangsB_iff.mpr (h.mp rfl)) (by rw [e]; simp)
end Sq
namespace Sq
open PySem PySem.Spec PyProof.Rows L2
theorem ix_tupK {X : Cx} {K : PySem.W.Frag} (h : X.K = K) : IxR X (rIxT K) := h ▸ ix_tup
theorem ix_listK {X : Cx} {K : PySem.W.Frag} (h : X.K = K) : IxR X (rIxL K) := h ▸ ix_list
end Sq

set_option Elab.async false
set_option linter.all false
set_option maxRecDepth 100000
set_option maxHeartbeats 4000000
/-! sorted of cells: out of a list, a dict's keys, a set. -/
namespace Sq
open PySem PySem.Spec PyProof.Rows L2
/-- the cell that stands at q, if one does -/
def cellAt (H : Hp) (q : Addr) : Cell := match H q with
  | some (.tup [.int i, .int j]) => (i, j)
  | _ => (0, 0)
theorem At.cell {H : Hp} {q : Addr} {c : Cell} (h : At H q c) : cellAt H q = c := by
  unfold cellAt
  rw [show H q = some (.tup [.int c.1, .int c.2]) from h]
theorem paired_cells {H : Hp} : ∀ {qs : List Addr} {cs : List Cell}, Paired (fun q c => At H q c) qs cs → cs = qs.map (cellAt H)
  | _, _, .nil => rfl
  | _, _, .cons h t => by rw [List.map_cons, h.cell, ← paired_cells t]
theorem paired_of {H : Hp} : ∀ {qs : List Addr}, (∀ q ∈ qs, At H q (cellAt H q)) → Paired (fun q c => At H q c) qs (qs.map (cellAt H))
  | [], _ => .nil
  | q :: qs, h => .cons (h q (List.mem_cons_self ..)) (paired_of fun r hr => h r (List.mem_cons_of_mem _ hr))
theorem paired_at {H : Hp} {qs : List Addr} {cs : List Cell} (h : Paired (fun q c => At H q c) qs cs) : ∀ q ∈ qs, At H q (cellAt H q) := by
  induction h with
  | nil => intro q hq; cases hq
  | cons a _ ih =>
    intro q hq
    rcases List.mem_cons.mp hq with e | e
    · rw [e, a.cell]
      exact a
    · exact ih q e
/-- what stands at refs, as pairs -/
def kC (H : Hp) : V → Int × Int
  | .ref q => cellAt H q
  | _ => (0, 0)
theorem lexB_cLt (a b : Cell) : SrtO.lexB a b = cLt a b := by
  cases h : cLt a b with
  | true => exact SrtO.lexB_iff.mpr (of_decide_eq_true h)
  | false => exact SrtO.lexB_no.mpr (of_decide_eq_false h)
/-- cells in their order -/
def Asc (cs : List Cell) : Prop := cs.Pairwise fun x y => cLt y x = false
/-- what a sorting of cells hands back -/
def sortedK (H : Hp) (cs : List Cell) (Q : VK) : Prop := ∀ (p : Addr) (qs' : List Addr) (cs' : List Cell), Paired (fun q c => At H q c) qs' cs' → cs'.Perm cs → Asc cs' → H p = none → Q (.ref p) (upd H p (.lst (qs'.map V.ref)))
theorem refs_perm {ys : List V} {qs : List Addr} (h : ys.Perm (qs.map V.ref)) : ∃ qs' : List Addr, ys = qs'.map V.ref ∧ qs'.Perm qs := by
  let un : V → Addr := fun v => match v with | .ref a => a | _ => 0
  have e0 : (qs.map V.ref).map un = qs := by
    rw [List.map_map]
    exact List.map_id' _
  refine ⟨ys.map un, ?_, ?_⟩
  · rw [List.map_map]
    have all : ∀ y ∈ ys, (V.ref ∘ un) y = y := fun y hy => by
      obtain ⟨q, _, rfl⟩ := List.mem_map.mp (h.mem_iff.mp hy)
      rfl
    rw [List.map_congr_left all]
    exact (List.map_id' _).symm
  · have := h.map un
    rwa [e0] at this
section
variable {X : Cx}
def rSortC (K : PySem.W.Frag) : List V → Hp → VK → Prop := fun vs H Q => ∃ (a : Addr) (qs : List Addr) (cs : List Cell), vs = [V.ref a] ∧ SqL K H a (qs.map V.ref) ∧ Paired (fun q c => At H q c) qs cs ∧ sortedK H cs Q
theorem sorted_end {H : Hp} {qs : List Addr} {cs : List Cell} {Q : VK} (pr : Paired (fun q c => At H q c) qs cs) (k : sortedK H cs Q) {ys : List V} {p : Addr} (hs : SrtO.Srtd (ltP (kC H)) ys) (hp : ys.Perm (qs.map V.ref)) (hn : H p = none) : Q (.ref p) (upd H p (.lst ys)) := by
  obtain ⟨qs', rfl, pm⟩ := refs_perm hp
  have al := paired_at pr
  refine k p qs' (qs'.map (cellAt H)) (paired_of fun q hq => al q (pm.mem_iff.mp hq)) ?_ ?_ hn
  · rw [paired_cells pr]
    exact pm.map _
  · unfold Asc
    rw [List.pairwise_map]
    refine (List.pairwise_map.mp hs).imp fun {a b} h => ?_
    rw [← lexB_cLt]
    exact h
theorem cr_sortedC : CallR X (.builtin "sorted") (rSortC X.K) := by
  intro pins s σ H vs us Q I r h
  obtain ⟨a, qs, cs, rfl, hs, pr, k⟩ := h
  refine cr_sortedPO pins s σ H _ us Q I r ⟨a, _, kC H, rfl, hs, fun x hx => ?_, fun ys p h1 h2 hn => sorted_end pr k h1 h2.perm hn⟩
  obtain ⟨q, hq, rfl⟩ := List.mem_map.mp hx
  exact ⟨q, rfl, paired_at pr q hq⟩
end
end Sq

set_option Elab.async false
set_option linter.all false
set_option maxRecDepth 100000
set_option maxHeartbeats 4000000
/-! sorted of a set of cells, of a dict whose keys are cells. -/
namespace Sq
open PySem PySem.Spec PyProof.Rows L2
section
variable {X : Cx} {pins : List (Addr × Obj)} {σ : L2.St} {H : Hp} {s s1 : Shared}
/-- a cell's object in the true heap -/
theorem At.pair (I : Inv X pins σ H s) {q : Addr} {c : Cell} (h : At H q c) : Srt.IsPair s.heap (.ref q) c.1 c.2 := by
  obtain ⟨_, its2, r2, o, ho, hc, n, hd⟩ := I.hok _ _ h
  obtain ⟨u1, u2, rfl, ri, rj⟩ := vals2 r2
  obtain ⟨t1, rfl⟩ := ri
  obtain ⟨t2, rfl⟩ := rj
  exact ⟨q, o, t1, t2, n, rfl, ho, hc, hd⟩
theorem paired_imp0 {α β : Type} {F G : α → β → Prop} (k : ∀ a b, F a b → G a b) : ∀ {xs : List α} {ys : List β}, Paired F xs ys → Paired G xs ys
  | _, _, .nil => .nil
  | _, _, .cons h t => .cons (k _ _ h) (paired_imp0 k t)
end
end Sq

set_option Elab.async false
set_option linter.all false
set_option maxRecDepth 100000
set_option maxHeartbeats 4000000
/-! The mathematics of a search in depth: which cells can be taken away. -/
namespace Sq
abbrev TwigC : Type := Cell × Option Cell
/-- a is v, or lies on the way that led to v -/
inductive Anc (T : List TwigC) (a : Cell) : Cell → Prop where
  | refl : Anc T a a
  | step {y v : Cell} : Anc T a y → (v, some y) ∈ T → Anc T a v
theorem Anc.mono {T U : List TwigC} {a v : Cell} (h : Anc T a v) (k : ∀ x ∈ T, x ∈ U) : Anc U a v := by
  induction h with
  | refl => exact .refl
  | step _ m ih => exact ih.step (k _ m)
theorem Anc.trans {T : List TwigC} {a b c : Cell} (h : Anc T a b) (k : Anc T b c) : Anc T a c := by
  induction k with
  | refl => exact h
  | step _ m ih => exact ih.step m
abbrev keysT (T : List TwigC) : List Cell := T.map (·.1)
/-- what a search in depth leaves: each cell with the one that led to it; a cell's neighbours that were met ahead of it lie on its way -/
inductive DTree (L : List Cell) : List TwigC → Prop where
  | root {r : Cell} (h : r ∈ L) : DTree L [(r, none)]
  | snoc {T : List TwigC} {v y : Cell} (t : DTree L T) (hy : y ∈ keysT T) (hv : v ∈ L) (nv : v ∉ keysT T) (b : v ∈ besideC y) (anc : ∀ u ∈ keysT T, v ∈ besideC u → Anc T u y) : DTree L (T ++ [(v, some y)])
section
variable {L : List Cell} {T : List TwigC}
theorem keys_snoc {T : List TwigC} {v : Cell} {o : Option Cell} : keysT (T ++ [(v, o)]) = keysT T ++ [v] := by simp [keysT]
theorem DTree.nodup (h : DTree L T) : (keysT T).Nodup := by
  induction h with
  | root => simp [keysT]
  | snoc _ _ _ nv _ _ ih =>
    rw [keys_snoc, List.nodup_append]
    refine ⟨ih, by simp, fun a ha b hb e => ?_⟩
    rw [List.mem_singleton.mp hb] at e
    exact nv (e ▸ ha)
theorem DTree.sub (h : DTree L T) : ∀ v ∈ keysT T, v ∈ L := by
  induction h with
  | root h =>
    intro v hv
    simp [keysT] at hv
    exact hv ▸ h
  | snoc _ _ hv _ _ _ ih =>
    intro u hu
    rw [keys_snoc] at hu
    rcases List.mem_append.mp hu with m | m
    · exact ih u m
    · rw [List.mem_singleton.mp m]; exact hv
/-- the place of a cell -/
def numT (T : List TwigC) (v : Cell) : Nat := (keysT T).idxOf v
theorem num_lt {v : Cell} : numT T v < (keysT T).length ↔ v ∈ keysT T := List.idxOf_lt_length_iff
theorem num_inj {v u : Cell} (hv : v ∈ keysT T) (hu : u ∈ keysT T) (h : numT T v = numT T u) : v = u := by
  have e1 := List.getElem_idxOf (num_lt.mpr hv)
  have e2 := List.getElem_idxOf (num_lt.mpr hu)
  unfold numT at h
  rw [← e1, ← e2]
  congr 1
theorem num_old {v w : Cell} {o : Option Cell} (hv : v ∈ keysT T) : numT (T ++ [(w, o)]) v = numT T v := by
  unfold numT
  rw [keys_snoc, List.idxOf_append, if_pos hv]
theorem num_new {w : Cell} {o : Option Cell} (hw : w ∉ keysT T) : numT (T ++ [(w, o)]) w = (keysT T).length := by
  unfold numT
  rw [keys_snoc, List.idxOf_append, if_neg hw]
  simp
/-- a twig's cells -/
theorem DTree.twig (h : DTree L T) {v y : Cell} (m : (v, some y) ∈ T) : v ∈ keysT T ∧ y ∈ keysT T ∧ v ∈ besideC y ∧ numT T y < numT T v := by
  induction h with
  | root => simp at m
  | @snoc T v' y' t hy hv nv b anc ih =>
    rw [keys_snoc]
    rcases List.mem_append.mp m with m | m
    · obtain ⟨h1, h2, h3, h4⟩ := ih m
      exact ⟨List.mem_append_left _ h1, List.mem_append_left _ h2, h3, by rw [num_old h1, num_old h2]; exact h4⟩
    · have e := List.mem_singleton.mp m
      obtain ⟨rfl, e2⟩ := Prod.mk.inj e
      have e2 := Option.some.inj e2
      subst e2
      exact ⟨by simp, List.mem_append_left _ hy, b, by rw [num_old hy, num_new nv]; exact num_lt.mpr hy⟩
theorem DTree.uniq (h : DTree L T) {v : Cell} {o o' : Option Cell} (m : (v, o) ∈ T) (m' : (v, o') ∈ T) : o = o' := by
  have nd := h.nodup
  obtain ⟨i, hi, e1⟩ := List.mem_iff_getElem.mp m
  obtain ⟨j, hj, e2⟩ := List.mem_iff_getElem.mp m'
  have k1 : (keysT T)[i]'(by simpa [keysT] using hi) = v := by simp [keysT, e1]
  have k2 : (keysT T)[j]'(by simpa [keysT] using hj) = v := by simp [keysT, e2]
  have ij : i = j := (List.getElem_inj nd).mp (k1.trans k2.symm)
  subst ij
  rw [e1] at e2
  exact (Prod.mk.inj e2).2
theorem DTree.anc_num (h : DTree L T) {a v : Cell} (k : Anc T a v) : numT T a ≤ numT T v := by
  induction k with
  | refl => exact Nat.le_refl _
  | step _ m ih => exact Nat.le_trans ih (Nat.le_of_lt (h.twig m).2.2.2)
/-- two neighbours: the one that was met first lies on the other one's way -/
theorem DTree.edge (h : DTree L T) : ∀ {u w : Cell}, u ∈ keysT T → w ∈ keysT T → w ∈ besideC u → numT T u < numT T w → Anc T u w := by
  induction h with
  | root =>
    intro u w hu hw b _
    simp [keysT] at hu hw
    rw [hu, hw] at b
    exact absurd rfl (beside_ne b)
  | @snoc T v y t hy hv nv b anc ih =>
    intro u w hu hw bw lt
    have sub : ∀ x ∈ T, x ∈ T ++ [(v, some y)] := fun x hx => List.mem_append_left _ hx
    have hu2 : u ∈ keysT T ∨ u = v := by
      rw [keys_snoc] at hu
      exact (List.mem_append.mp hu).imp id List.mem_singleton.mp
    have hw2 : w ∈ keysT T ∨ w = v := by
      rw [keys_snoc] at hw
      exact (List.mem_append.mp hw).imp id List.mem_singleton.mp
    rcases hu2 with hu2 | rfl
    · rcases hw2 with hw2 | rfl
      · rw [num_old hu2, num_old hw2] at lt
        exact (ih hu2 hw2 bw lt).mono sub
      · exact ((anc u hu2 bw).mono sub).step (by simp)
    · rcases hw2 with hw2 | rfl
      · rw [num_old hw2, num_new nv] at lt
        exact absurd (num_lt.mpr hw2) (by omega)
      · omega
/-- the ways to one cell: one lies on the other -/
theorem DTree.chain (h : DTree L T) {a b v : Cell} (k : Anc T a v) (l : Anc T b v) : Anc T a b ∨ Anc T b a := by
  induction k with
  | refl => exact .inr l
  | @step y v k m ih =>
    cases l with
    | refl => exact .inl (k.step m)
    | @step y' _ l m' =>
      have e := Option.some.inj (h.uniq m m')
      subst e
      exact ih l
/-- below v, but not v: below one child of it -/
theorem DTree.child_of (h : DTree L T) {v x : Cell} (k : Anc T v x) : x = v ∨ ∃ c, (c, some v) ∈ T ∧ Anc T c x := by
  induction k with
  | refl => exact .inl rfl
  | @step y x k m ih =>
    rcases ih with rfl | ⟨c, mc, kc⟩
    · exact .inr ⟨x, m, .refl⟩
    · exact .inr ⟨c, mc, kc.step m⟩
/-- the root -/
theorem DTree.root_ex (h : DTree L T) : ∃ r T', T = (r, none) :: T' ∧ r ∈ L := by
  induction h with
  | @root r hr => exact ⟨r, [], rfl, hr⟩
  | snoc _ _ _ _ _ _ ih =>
    obtain ⟨r, T', rfl, hr⟩ := ih
    exact ⟨r, T' ++ _, rfl, hr⟩
theorem DTree.other (h : DTree L T) {r : Cell} (hr : (r, none) ∈ T) : ∀ v ∈ keysT T, v = r ∨ ∃ y, (v, some y) ∈ T := by
  induction h with
  | root =>
    intro v hv
    simp [keysT] at hv hr
    exact .inl (hv.trans hr.symm)
  | @snoc T w y t hy hw nw b anc ih =>
    have hr : (r, none) ∈ T := by
      rcases List.mem_append.mp hr with m | m
      · exact m
      · simp at m
    intro v hv
    rw [keys_snoc] at hv
    rcases List.mem_append.mp hv with m | m
    · rcases ih hr v m with e | ⟨z, hz⟩
      · exact .inl e
      · exact .inr ⟨z, List.mem_append_left _ hz⟩
    · exact .inr ⟨y, by rw [List.mem_singleton.mp m]; simp⟩
theorem DTree.from_root (h : DTree L T) {r : Cell} (hr : (r, none) ∈ T) : ∀ v ∈ keysT T, Anc T r v := by
  have key : ∀ n v, numT T v ≤ n → v ∈ keysT T → Anc T r v := by
    intro n
    induction n with
    | zero =>
      intro v hn hv
      rcases h.other hr v hv with e | ⟨y, m⟩
      · rw [e]; exact .refl
      · have := (h.twig m).2.2.2
        omega
    | succ n ih =>
      intro v hn hv
      rcases h.other hr v hv with e | ⟨y, m⟩
      · rw [e]; exact .refl
      · have t := h.twig m
        exact (ih y (by omega) t.2.1).step m
  exact fun v hv => key _ v (Nat.le_refl _) hv
end
end Sq

set_option Elab.async false
set_option linter.all false
set_option maxRecDepth 100000
set_option maxHeartbeats 4000000
/-! A search in depth tells which cells can be taken away: the least numbers that are met. -/
namespace Sq
/-- what low tells -/
structure LowOk (L : List Cell) (T : List TwigC) (low : Cell → Nat) : Prop where
  le : ∀ v ∈ keysT T, ∀ w ∈ L, w ∈ besideC v → low v ≤ if (w, some v) ∈ T then low w else numT T w
  at_ : ∀ v ∈ keysT T, low v = numT T v ∨ ∃ w ∈ L, w ∈ besideC v ∧ low v = if (w, some v) ∈ T then low w else numT T w
section
variable {L : List Cell} {T : List TwigC} {low : Cell → Nat}
theorem LowOk.anc (lo : LowOk L T low) (h : DTree L T) {a v : Cell} (k : Anc T a v) : low a ≤ low v := by
  induction k with
  | refl => exact Nat.le_refl _
  | @step y v k m ih =>
    have t := h.twig m
    have := lo.le y t.2.1 v (h.sub v t.1) t.2.2.1
    rw [if_pos m] at this
    exact Nat.le_trans ih this
theorem LowOk.all (lo : LowOk L T low) (h : DTree L T) {c d w : Cell} (k : Anc T c d) (hd : d ∈ keysT T) (hw : w ∈ L) (b : w ∈ besideC d) (n : (w, some d) ∉ T) : low c ≤ numT T w := by
  have := lo.le d hd w hw b
  rw [if_neg n] at this
  exact Nat.le_trans (lo.anc h k) this
theorem LowOk.met (lo : LowOk L T low) (h : DTree L T) : ∀ c ∈ keysT T, low c = numT T c ∨ ∃ d w, Anc T c d ∧ d ∈ keysT T ∧ w ∈ L ∧ w ∈ besideC d ∧ low c = numT T w := by
  have key : ∀ n c, (keysT T).length - numT T c ≤ n → c ∈ keysT T → low c = numT T c ∨ ∃ d w, Anc T c d ∧ d ∈ keysT T ∧ w ∈ L ∧ w ∈ besideC d ∧ low c = numT T w := by
    intro n
    induction n with
    | zero =>
      intro c hn hc
      have := num_lt.mpr hc
      omega
    | succ n ih =>
      intro c hn hc
      rcases lo.at_ c hc with e | ⟨w, hw, b, e⟩
      · exact .inl e
      · by_cases m : (w, some c) ∈ T
        · rw [if_pos m] at e
          have t := h.twig m
          have l1 := num_lt.mpr hc
          have l2 := num_lt.mpr t.1
          rcases ih w (by omega) t.1 with e2 | ⟨d, z, k, hd, hz, bz, e2⟩
          · exact .inr ⟨c, w, .refl, hc, hw, b, e.trans e2⟩
          · exact .inr ⟨d, z, (Anc.refl.step m).trans k, hd, hz, bz, e.trans e2⟩
        · rw [if_neg m] at e
          exact .inr ⟨c, w, .refl, hc, hw, b, e⟩
  exact fun c hc => key _ c (Nat.le_refl _) hc
/-- a child meets nothing ahead of its parent, just if its number is the parent's -/
theorem LowOk.child (lo : LowOk L T low) (h : DTree L T) {c v : Cell} (m : (c, some v) ∈ T) : low c = numT T v ↔ ∀ d w, Anc T c d → d ∈ keysT T → w ∈ L → w ∈ besideC d → numT T v ≤ numT T w := by
  have t := h.twig m
  have up : low c ≤ numT T v := lo.all h .refl t.1 (h.sub v t.2.1) (beside_symm t.2.2.1) fun z => by
    have := (h.twig z).2.2.2
    omega
  constructor
  · intro e d w k hd hw b
    by_cases z : (w, some d) ∈ T
    · have h1 := (h.twig z).2.2.2
      have h2 := h.anc_num k
      omega
    · have := lo.all h k hd hw b z
      omega
  · intro all
    rcases lo.met h c t.1 with e | ⟨d, w, k, hd, hw, b, e⟩
    · omega
    · have := all d w k hd hw b
      omega
/-- all but v -/
abbrev but (L : List Cell) (v : Cell) : List Cell := L.filter fun d => decide (d ≠ v)
theorem mem_but {L : List Cell} {v x : Cell} : x ∈ but L v ↔ x ∈ L ∧ x ≠ v := by simp [but]
theorem DTree.down (h : DTree L T) {c v : Cell} (m : (c, some v) ∈ T) {d : Cell} (k : Anc T c d) : Reach (but L v) c d := by
  induction k with
  | refl => exact .refl
  | @step y x k mx ih =>
    have t := h.twig mx
    have n1 := h.anc_num k
    have n2 := (h.twig m).2.2.2
    exact ih.step t.2.2.1 (mem_but.mpr ⟨h.sub x t.1, fun e => by rw [e] at t; omega⟩)
theorem DTree.out (h : DTree L T) {r v x : Cell} (k : Anc T r x) (n : ¬ Anc T v x) : Reach (but L v) r x := by
  induction k with
  | refl => exact .refl
  | @step y x k m ih =>
    have t := h.twig m
    exact (ih fun z => n (z.step m)).step t.2.2.1 (mem_but.mpr ⟨h.sub x t.1, fun e => n (by rw [e]; exact .refl)⟩)
theorem LowOk.closed (lo : LowOk L T low) (h : DTree L T) (span : ∀ x ∈ L, x ∈ keysT T) {c v x : Cell} (m : (c, some v) ∈ T) (e : low c = numT T v) (k : Reach (but L v) c x) : Anc T c x := by
  have all := (lo.child h m).mp e
  have t := h.twig m
  induction k with
  | refl => exact .refl
  | @step d w k b hw ih =>
    obtain ⟨wL, wv⟩ := mem_but.mp hw
    have hd : d ∈ keysT T := by
      cases k with
      | refl => exact t.1
      | step _ _ z => exact span _ (mem_but.mp z).1
    have hwk := span w wL
    have ge := all d w ih hd wL b
    rcases Nat.lt_trichotomy (numT T d) (numT T w) with lt | eq | lt
    · exact ih.trans (h.edge hd hwk b lt)
    · exact absurd (num_inj hd hwk eq).symm (beside_ne b)
    · have a := h.edge hwk hd (beside_symm b) lt
      rcases h.chain ih a with z | z
      · exact z
      · cases z with
        | refl => exact .refl
        | @step y _ z mz =>
          have ev := Option.some.inj (h.uniq mz m)
          subst ev
          have := h.anc_num z
          exact absurd (num_inj hwk t.2.1 (by omega)) wv
end
end Sq

set_option Elab.async false
set_option linter.all false
set_option maxRecDepth 100000
set_option maxHeartbeats 4000000
/-! The steps of a search in depth. -/
namespace Sq
/-- what lies ahead: neighbours of cells that were met, each on the way of the ones above it -/
inductive StkOk (L : List Cell) : List TwigC → List TwigC → Prop where
  | start {m : Cell} (h : m ∈ L) : StkOk L [] [(m, none)]
  | go {T S : List TwigC} (t : DTree L T) (ent : ∀ a ∈ S, ∃ y, a.2 = some y ∧ y ∈ keysT T ∧ a.1 ∈ L ∧ a.1 ∈ besideC y) (ch : S.Pairwise fun a b => ∀ y z, a.2 = some y → b.2 = some z → Anc T y z)
      (all : ∀ u ∈ keysT T, ∀ w ∈ L, w ∈ besideC u → w ∉ keysT T → (w, some u) ∈ S) : StkOk L T S
def nextC (L : List Cell) (T : List TwigC) (x : Cell) : List Cell := ((besideC x).filter fun w => decide (w ∈ L)).filter fun w => decide (w ∉ keysT T)
section
variable {L : List Cell} {T S : List TwigC} {x : Cell} {o : Option Cell}
theorem StkOk.skip (h : StkOk L T (S ++ [(x, o)])) (hx : x ∈ keysT T) : StkOk L T S := by
  generalize e : S ++ [(x, o)] = S2 at h
  cases h with
  | start => cases hx
  | go t ent ch all =>
    subst e
    refine .go t (fun a ha => ent a (List.mem_append_left _ ha)) (List.pairwise_append.mp ch).1 fun u hu w hw b nw => ?_
    rcases List.mem_append.mp (all u hu w hw b nw) with m | m
    · exact m
    · have e := (Prod.mk.inj (List.mem_singleton.mp m)).1
      exact absurd (e ▸ hx) nw
theorem StkOk.tree (h : StkOk L T (S ++ [(x, o)])) (nx : x ∉ keysT T) : DTree L (T ++ [(x, o)]) := by
  generalize e : S ++ [(x, o)] = S2 at h
  cases h with
  | @start m hm =>
    have e2 : S = [] ∧ (x, o) = (m, none) := by
      cases S with
      | nil => exact ⟨rfl, (List.cons.inj e).1⟩
      | cons a S =>
        have := congrArg List.length e
        simp at this
    obtain ⟨_, e3⟩ := e2
    obtain ⟨rfl, rfl⟩ := Prod.mk.inj e3
    exact .root hm
  | go t ent ch all =>
    subst e
    obtain ⟨y, ey, hy, hx, b⟩ := ent (x, o) (by simp)
    have ey : o = some y := ey
    subst ey
    refine .snoc t hy hx nx b fun u hu bu => ?_
    rcases List.mem_append.mp (all u hu x hx bu nx) with m | m
    · exact (List.pairwise_append.mp ch).2.2 _ m _ (List.mem_singleton.mpr rfl) u y rfl rfl
    · have e := Option.some.inj (Prod.mk.inj (List.mem_singleton.mp m)).2
      rw [e]
      exact .refl
theorem StkOk.visit (h : StkOk L T (S ++ [(x, o)])) (nx : x ∉ keysT T) : StkOk L (T ++ [(x, o)]) (S ++ (nextC L (T ++ [(x, o)]) x).map fun w => (w, some x)) := by
  have tr := h.tree nx
  have mem : ∀ w, w ∈ nextC L (T ++ [(x, o)]) x ↔ w ∈ besideC x ∧ w ∈ L ∧ w ∉ keysT (T ++ [(x, o)]) := fun w => by
    unfold nextC
    rw [List.mem_filter, List.mem_filter, decide_eq_true_iff, decide_eq_true_iff, and_assoc]
  have xk : x ∈ keysT (T ++ [(x, o)]) := by rw [keys_snoc]; simp
  have fresh : ∀ a ∈ (nextC L (T ++ [(x, o)]) x).map fun w => ((w, some x) : TwigC), ∃ y, a.2 = some y ∧ y ∈ keysT (T ++ [(x, o)]) ∧ a.1 ∈ L ∧ a.1 ∈ besideC y := fun a ha => by
    obtain ⟨w, hw, rfl⟩ := List.mem_map.mp ha
    obtain ⟨b, l, _⟩ := (mem w).mp hw
    exact ⟨x, rfl, xk, l, b⟩
  have self : ((nextC L (T ++ [(x, o)]) x).map fun w => ((w, some x) : TwigC)).Pairwise fun a b => ∀ y z, a.2 = some y → b.2 = some z → Anc (T ++ [(x, o)]) y z := by
    refine List.pairwise_iff_forall_sublist.mpr fun {a b} sub y z e1 e2 => ?_
    have ha := sub.subset (List.mem_cons_self ..)
    have hb := sub.subset (List.mem_cons_of_mem _ (List.mem_cons_self ..))
    obtain ⟨w, _, rfl⟩ := List.mem_map.mp ha
    obtain ⟨w2, _, rfl⟩ := List.mem_map.mp hb
    rw [← Option.some.inj e1, ← Option.some.inj e2]
    exact .refl
  have own : ∀ w ∈ L, w ∈ besideC x → w ∉ keysT (T ++ [(x, o)]) → ((w, some x) : TwigC) ∈ (nextC L (T ++ [(x, o)]) x).map fun w => (w, some x) := fun w hw b nw => List.mem_map.mpr ⟨w, (mem w).mpr ⟨b, hw, nw⟩, rfl⟩
  generalize e : S ++ [(x, o)] = S2 at h
  cases h with
  | @start m hm =>
    have e2 : S = [] := by
      cases S with
      | nil => rfl
      | cons a S =>
        have := congrArg List.length e
        simp at this
    subst e2
    refine .go tr fresh self fun u hu w hw b nw => ?_
    rw [keys_snoc] at hu
    have e3 : u = x := by simpa [keysT] using hu
    subst e3
    exact own w hw b nw
  | go t ent ch all =>
    subst e
    obtain ⟨y, ey, hy, hx, b⟩ := ent (x, o) (by simp)
    have ey : o = some y := ey
    subst ey
    have sub : ∀ z ∈ T, z ∈ T ++ [((x, some y) : TwigC)] := fun z hz => List.mem_append_left _ hz
    refine .go tr (fun a ha => ?_) ?_ fun u hu w hw bw nw => ?_
    · rcases List.mem_append.mp ha with m | m
      · obtain ⟨z, e1, e2, e3, e4⟩ := ent a (List.mem_append_left _ m)
        exact ⟨z, e1, by rw [keys_snoc]; exact List.mem_append_left _ e2, e3, e4⟩
      · exact fresh a m
    · refine List.pairwise_append.mpr ⟨(List.pairwise_append.mp ch).1.imp fun r y z e1 e2 => (r y z e1 e2).mono sub, self, fun a ha b hb u z e1 e2 => ?_⟩
      obtain ⟨w, _, rfl⟩ := List.mem_map.mp hb
      rw [← Option.some.inj e2]
      exact (((List.pairwise_append.mp ch).2.2 a ha _ (List.mem_singleton.mpr rfl) u y e1 rfl).mono sub).step (by simp)
    · rw [keys_snoc] at hu
      rcases List.mem_append.mp hu with m | m
      · have nT : w ∉ keysT T := fun z => nw (by rw [keys_snoc]; exact List.mem_append_left _ z)
        rcases List.mem_append.mp (all u m w hw bw nT) with k | k
        · exact List.mem_append_left _ k
        · have e := (Prod.mk.inj (List.mem_singleton.mp k)).1
          exact absurd (by rw [keys_snoc, e]; simp) nw
      · rw [List.mem_singleton.mp m] at bw ⊢
        exact List.mem_append_right _ (own w hw bw nw)
theorem StkOk.fin (h : StkOk L T []) (hL : Hangs L) : DTree L T ∧ ∀ x ∈ L, x ∈ keysT T := by
  cases h with
  | go t ent ch all =>
    refine ⟨t, fun x hx => ?_⟩
    obtain ⟨r, T', e, rL⟩ := t.root_ex
    have rk : r ∈ keysT T := by rw [e]; simp [keysT]
    have k := hL.2 r rL x hx
    induction k with
    | refl => exact rk
    | @step b c k hb hc ih =>
      have bk := ih (by
        cases k with
        | refl => exact rL
        | step _ _ z => exact z)
      by_cases z : c ∈ keysT T
      · exact z
      · exact absurd (all b bk c hc hb z) (by simp)
theorem StkOk.keys (h : StkOk L T S) : (keysT T).Nodup ∧ ∀ v ∈ keysT T, v ∈ L := by
  cases h with
  | start => exact ⟨List.nodup_nil, fun v hv => nomatch hv⟩
  | go t _ _ _ => exact ⟨t.nodup, t.sub⟩
end
end Sq

set_option Elab.async false
set_option linter.all false
set_option maxRecDepth 100000
set_option maxHeartbeats 4000000
/-! Two squares or more: two free ones. -/
namespace Sq
theorem tree_ex {L : List Cell} (hL : Hangs L) : ∃ T, DTree L T ∧ ∀ x ∈ L, x ∈ keysT T := by
  have key : ∀ n T S, StkOk L T S → S.length + 5 * (L.length - T.length) ≤ n → ∃ T, DTree L T ∧ ∀ x ∈ L, x ∈ keysT T := by
    intro n
    induction n with
    | zero =>
      intro T S h l
      have e : S = [] := List.length_eq_zero_iff.mp (by omega)
      subst e
      exact ⟨T, h.fin hL⟩
    | succ n ih =>
      intro T S h l
      rcases List.eq_nil_or_concat S with e | ⟨S', x, e⟩
      · subst e
        exact ⟨T, h.fin hL⟩
      · rw [List.concat_eq_append] at e
        subst e
        obtain ⟨c, o⟩ := x
        rw [List.length_append] at l
        by_cases m : c ∈ keysT T
        · exact ih T S' (h.skip m) (by simp only [List.length_cons, List.length_nil] at l; omega)
        · have tr := h.tree m
          have l2 : T.length + 1 ≤ L.length := by
            have := len_le tr.nodup tr.sub
            simpa [keysT] using this
          have l4 : (nextC L (T ++ [(c, o)]) c).length ≤ 4 := Nat.le_trans (List.length_filter_le _ _) (List.length_filter_le _ _)
          refine ih _ _ (h.visit m) ?_
          rw [List.length_append, List.length_map, List.length_append]
          simp only [List.length_cons, List.length_nil] at l ⊢
          omega
  obtain ⟨m, hm⟩ := List.exists_mem_of_ne_nil _ hL.1
  exact key _ [] _ (.start hm) (Nat.le_refl _)
section
variable {L : List Cell} {T : List TwigC}
/-- the last one below c has no child -/
theorem DTree.leaf (h : DTree L T) {c : Cell} (hc : c ∈ keysT T) : ∃ x ∈ keysT T, Anc T c x ∧ ∀ z, (z, some x) ∉ T := by
  have key : ∀ n x, (keysT T).length - numT T x ≤ n → x ∈ keysT T → Anc T c x → ∃ x ∈ keysT T, Anc T c x ∧ ∀ z, (z, some x) ∉ T := by
    intro n
    induction n with
    | zero =>
      intro x l hx _
      have := num_lt.mpr hx
      omega
    | succ n ih =>
      intro x l hx k
      by_cases e : ∃ z, (z, some x) ∈ T
      · obtain ⟨z, m⟩ := e
        have t := h.twig m
        exact ih z (by omega) t.1 (k.step m)
      · exact ⟨x, hx, k, fun z m => e ⟨z, m⟩⟩
  exact key _ c (Nat.le_refl _) hc .refl
theorem DTree.leaf_free (h : DTree L T) (span : ∀ x ∈ L, x ∈ keysT T) {r x : Cell} (hr : (r, none) ∈ T) (rL : r ∈ L) (ne : x ≠ r) (no : ∀ z, (z, some x) ∉ T) : Hangs (but L x) := by
  refine (hangs_from (mem_but.mpr ⟨rL, fun e => ne e.symm⟩)).mpr fun b hb => ?_
  obtain ⟨bL, bx⟩ := mem_but.mp hb
  refine h.out (h.from_root hr b (span b bL)) fun k => ?_
  rcases h.child_of k with e | ⟨c, m, _⟩
  · exact bx e
  · exact no c m
theorem two_free (nL : L.Nodup) (hL : Hangs L) (l : 1 < L.length) : ∃ a b, a ∈ L ∧ b ∈ L ∧ a ≠ b ∧ Hangs (but L a) ∧ Hangs (but L b) := by
  obtain ⟨T, h, span⟩ := tree_ex hL
  obtain ⟨r, T', e, rL⟩ := h.root_ex
  have hr : (r, none) ∈ T := by rw [e]; exact List.mem_cons_self ..
  have ex : ∃ u ∈ L, u ≠ r := Classical.byContradiction fun z => by
    have := len_le nL (ys := [r]) fun x hx => List.mem_singleton.mpr (Classical.byContradiction fun e => z ⟨x, hx, e⟩)
    simp at this
    omega
  obtain ⟨u, hu, ur⟩ := ex
  have child : ∀ x ∈ L, x ≠ r → ∃ c, (c, some r) ∈ T ∧ Anc T c x := fun x hx ne => (h.child_of (h.from_root hr x (span x hx))).resolve_left ne
  obtain ⟨c, m, _⟩ := child u hu ur
  have below : ∀ {c x : Cell}, (c, some r) ∈ T → Anc T c x → x ≠ r := fun {c x} m k e => by
    have h1 := h.anc_num k
    have h2 := (h.twig m).2.2.2
    rw [e] at h1
    omega
  obtain ⟨x, hx, kx, nox⟩ := h.leaf (h.twig m).1
  have xr := below m kx
  have fx := h.leaf_free span hr rL xr nox
  by_cases one : ∀ c', (c', some r) ∈ T → c' = c
  · refine ⟨r, x, rL, h.sub x hx, xr.symm, ?_, fx⟩
    have cM : c ∈ but L r := mem_but.mpr ⟨h.sub c (h.twig m).1, below m .refl⟩
    refine (hangs_from cM).mpr fun b hb => ?_
    obtain ⟨bL, br⟩ := mem_but.mp hb
    obtain ⟨c', m', k⟩ := child b bL br
    rw [one c' m'] at k
    exact h.down m k
  · obtain ⟨c', hc'⟩ := Classical.not_forall.mp one
    obtain ⟨m', ne⟩ := Classical.not_imp.mp hc'
    obtain ⟨y, hy, ky, noy⟩ := h.leaf (h.twig m').1
    have yr := below m' ky
    have off : ∀ {a b : Cell}, (a, some r) ∈ T → (b, some r) ∈ T → Anc T a b → a = b := fun {a b} ma mb k => by
      cases k with
      | refl => rfl
      | @step z _ k mk =>
        have ev := Option.some.inj (h.uniq mk mb)
        subst ev
        have h1 := h.anc_num k
        have h2 := (h.twig ma).2.2.2
        omega
    refine ⟨x, y, h.sub x hx, h.sub y hy, fun e => ?_, fx, h.leaf_free span hr rL yr noy⟩
    subst e
    rcases h.chain kx ky with k | k
    · exact ne (off m m' k).symm
    · exact ne (off m' m k)
end
end Sq

set_option Elab.async false
set_option linter.all false
set_option maxRecDepth 100000
set_option maxHeartbeats 4000000
/-! Hanging together without a square, by its neighbours. -/
namespace Sq
open PySem PySem.Spec PyProof.Rows L2
/-- the others hang together just if all neighbours come to one of them -/
theorem rest_hangs {L : List Cell} (hL : Hangs L) {c a : Cell} (hc : c ∈ L) (ha : a ∈ L) (ac : a ∈ besideC c) : Hangs (but L c) ↔ ∀ x ∈ L, x ∈ besideC c → Reach (but L c) a x := by
  have am : a ∈ but L c := mem_but.mpr ⟨ha, beside_ne ac⟩
  constructor
  · intro h x hx hb
    exact h.2 a am x (mem_but.mpr ⟨hx, beside_ne hb⟩)
  · intro h
    refine (hangs_from am).mpr fun b hb => ?_
    obtain ⟨bL, bc⟩ := mem_but.mp hb
    have key : ∀ b, Reach L c b → b = c ∨ Reach (but L c) a b := fun b r => by
      induction r with
      | refl => exact .inl rfl
      | @step b x _ hx xL ih =>
        by_cases e : x = c
        · exact .inl e
        · rcases ih with rfl | ih
          · exact .inr (h x xL hx)
          · exact .inr (ih.step hx (mem_but.mpr ⟨xL, e⟩))
    rcases key b (hL.2 c hc b bL) with e | r
    · exact absurd e bc
    · exact r
/-- a square of more has a neighbour -/
theorem near_ex {L : List Cell} (hL : Hangs L) {c d : Cell} (hc : c ∈ L) (hd : d ∈ L) (ne : d ≠ c) : ∃ a ∈ L, a ∈ besideC c := by
  have r := hL.2 d hd c hc
  cases r with
  | refl => exact absurd rfl ne
  | @step b x h hx _ => exact ⟨b, h.mem hd, beside_symm hx⟩
theorem bes {a b c d : Int} (h : (a = c - 1 ∧ b = d) ∨ (a = c ∧ b = d - 1) ∨ (a = c + 1 ∧ b = d) ∨ (a = c ∧ b = d + 1)) : (a, b) ∈ besideC (c, d) := beside_iff.mpr h
def crossL : List Cell := [(-1, -1), (1, -1), (1, 1), (-1, 1)]
/-- the cell crosswise from c lies in L between two neighbours of c -/
def linkB (L : List Cell) (c d : Cell) : Bool := decide ((c.1 + d.1, c.2 + d.2) ∈ L) && (decide ((c.1 + d.1, c.2) ∈ L) && decide ((c.1, c.2 + d.2) ∈ L))
def linksN (L : List Cell) (c : Cell) : Nat := (crossL.filter (linkB L c)).length
def b2n (b : Bool) : Nat := if b = true then 1 else 0
theorem ring4 : ∀ p0 p1 p2 p3 l0 l1 l2 l3 : Bool, (!l0 || (p0 && p1)) && (!l1 || (p1 && p2)) && (!l2 || (p2 && p3)) && (!l3 || (p3 && p0)) = true → 2 ≤ b2n p0 + b2n p1 + b2n p2 + b2n p3 → b2n p0 + b2n p1 + b2n p2 + b2n p3 ≤ b2n l0 + b2n l1 + b2n l2 + b2n l3 + 1 →
    ((p0 && p1) = true → (l0 || (l1 && l2 && l3)) = true) ∧ ((p1 && p2) = true → (l1 || (l2 && l3 && l0)) = true) ∧ ((p2 && p3) = true → (l2 || (l3 && l0 && l1)) = true) ∧ ((p3 && p0) = true → (l3 || (l0 && l1 && l2)) = true) ∧ ((p0 && p2) = true → ((l0 && l1) || (l2 && l3)) = true) ∧ ((p1 && p3) = true → ((l1 && l2) || (l3 && l0)) = true) := by decide +kernel
theorem filt4 {p : Cell → Bool} {a b c d : Cell} : ([a, b, c, d].filter p).length = b2n (p a) + b2n (p b) + b2n (p c) + b2n (p d) := by
  simp only [List.filter_cons, List.filter_nil, b2n]
  cases p a <;> cases p b <;> cases p c <;> cases p d <;> rfl
theorem links_reach {L : List Cell} {c : Cell} (h2 : 2 ≤ ((besideC c).filter fun d => decide (d ∈ L)).length) (hl : ((besideC c).filter fun d => decide (d ∈ L)).length ≤ linksN L c + 1) :
    ∀ x ∈ L, x ∈ besideC c → ∀ y ∈ L, y ∈ besideC c → Reach (but L c) x y := by
  obtain ⟨c1, c2⟩ := c
  have W : ∀ {x y : Cell}, x ∈ L → x ≠ (c1, c2) → y ∈ L → y ≠ (c1, c2) → ∀ z ∈ L, z ≠ (c1, c2) → z ∈ besideC x → y ∈ besideC z → Reach (but L (c1, c2)) x y := fun {x y} _ _ yL yn z zL zn h k => (Reach.step .refl h (mem_but.mpr ⟨zL, zn⟩)).step k (mem_but.mpr ⟨yL, yn⟩)
  have neq : ∀ {a b : Int}, (a, b) ≠ (c1, c2) ↔ a ≠ c1 ∨ b ≠ c2 := fun {a b} => by rw [Ne, Prod.mk.injEq]; omega
  have L0 : linkB L (c1, c2) (-1, -1) = true → Reach (but L (c1, c2)) (c1 - 1, c2) (c1, c2 - 1) := fun h => by
    simp only [linkB, Bool.and_eq_true, decide_eq_true_eq] at h
    obtain ⟨h1, h2, h3⟩ := h
    refine W h2 (neq.mpr (by omega)) h3 (neq.mpr (by omega)) _ h1 (neq.mpr (by omega)) (bes (by omega)) (bes (by omega))
  have L1 : linkB L (c1, c2) (1, -1) = true → Reach (but L (c1, c2)) (c1, c2 - 1) (c1 + 1, c2) := fun h => by
    simp only [linkB, Bool.and_eq_true, decide_eq_true_eq] at h
    obtain ⟨h1, h2, h3⟩ := h
    refine W h3 (neq.mpr (by omega)) h2 (neq.mpr (by omega)) _ h1 (neq.mpr (by omega)) (bes (by omega)) (bes (by omega))
  have L2 : linkB L (c1, c2) (1, 1) = true → Reach (but L (c1, c2)) (c1 + 1, c2) (c1, c2 + 1) := fun h => by
    simp only [linkB, Bool.and_eq_true, decide_eq_true_eq] at h
    obtain ⟨h1, h2, h3⟩ := h
    refine W h2 (neq.mpr (by omega)) h3 (neq.mpr (by omega)) _ h1 (neq.mpr (by omega)) (bes (by omega)) (bes (by omega))
  have L3 : linkB L (c1, c2) (-1, 1) = true → Reach (but L (c1, c2)) (c1, c2 + 1) (c1 - 1, c2) := fun h => by
    simp only [linkB, Bool.and_eq_true, decide_eq_true_eq] at h
    obtain ⟨h1, h2, h3⟩ := h
    refine W h3 (neq.mpr (by omega)) h2 (neq.mpr (by omega)) _ h1 (neq.mpr (by omega)) (bes (by omega)) (bes (by omega))
  have sy : ∀ {x y : Cell}, x ∈ L → x ∈ besideC (c1, c2) → Reach (but L (c1, c2)) x y → Reach (but L (c1, c2)) y x := fun {x y} xL hb r => r.symm (mem_but.mpr ⟨xL, beside_ne hb⟩)
  unfold besideC at h2 hl
  unfold linksN crossL at hl
  rw [filt4] at h2 hl
  rw [filt4] at hl
  have q := ring4 (decide ((c1 - 1, c2) ∈ L)) (decide ((c1, c2 - 1) ∈ L)) (decide ((c1 + 1, c2) ∈ L)) (decide ((c1, c2 + 1) ∈ L)) (linkB L (c1, c2) (-1, -1)) (linkB L (c1, c2) (1, -1)) (linkB L (c1, c2) (1, 1)) (linkB L (c1, c2) (-1, 1)) ?_ h2 hl
  · obtain ⟨q01, q12, q23, q30, q02, q13⟩ := q
    simp only [Bool.and_eq_true, Bool.or_eq_true, decide_eq_true_eq] at q01 q12 q23 q30 q02 q13
    have b0 : (c1 - 1, c2) ∈ besideC (c1, c2) := by simp [besideC]
    have b1 : (c1, c2 - 1) ∈ besideC (c1, c2) := by simp [besideC]
    have b2 : (c1 + 1, c2) ∈ besideC (c1, c2) := by simp [besideC]
    have b3 : (c1, c2 + 1) ∈ besideC (c1, c2) := by simp [besideC]
    have r01 : (c1 - 1, c2) ∈ L → (c1, c2 - 1) ∈ L → Reach (but L (c1, c2)) (c1 - 1, c2) (c1, c2 - 1) := fun m0 m1 => (q01 ⟨m0, m1⟩).elim L0 fun ⟨⟨h1, h2⟩, h3⟩ => sy m1 b1 (((L1 h1).trans (L2 h2)).trans (L3 h3))
    have r12 : (c1, c2 - 1) ∈ L → (c1 + 1, c2) ∈ L → Reach (but L (c1, c2)) (c1, c2 - 1) (c1 + 1, c2) := fun m0 m1 => (q12 ⟨m0, m1⟩).elim L1 fun ⟨⟨h1, h2⟩, h3⟩ => sy m1 b2 (((L2 h1).trans (L3 h2)).trans (L0 h3))
    have r23 : (c1 + 1, c2) ∈ L → (c1, c2 + 1) ∈ L → Reach (but L (c1, c2)) (c1 + 1, c2) (c1, c2 + 1) := fun m0 m1 => (q23 ⟨m0, m1⟩).elim L2 fun ⟨⟨h1, h2⟩, h3⟩ => sy m1 b3 (((L3 h1).trans (L0 h2)).trans (L1 h3))
    have r30 : (c1, c2 + 1) ∈ L → (c1 - 1, c2) ∈ L → Reach (but L (c1, c2)) (c1, c2 + 1) (c1 - 1, c2) := fun m0 m1 => (q30 ⟨m0, m1⟩).elim L3 fun ⟨⟨h1, h2⟩, h3⟩ => sy m1 b0 (((L0 h1).trans (L1 h2)).trans (L2 h3))
    have r02 : (c1 - 1, c2) ∈ L → (c1 + 1, c2) ∈ L → Reach (but L (c1, c2)) (c1 - 1, c2) (c1 + 1, c2) := fun m0 m1 => (q02 ⟨m0, m1⟩).elim (fun ⟨h1, h2⟩ => (L0 h1).trans (L1 h2)) fun ⟨h1, h2⟩ => sy m1 b2 ((L2 h1).trans (L3 h2))
    have r13 : (c1, c2 - 1) ∈ L → (c1, c2 + 1) ∈ L → Reach (but L (c1, c2)) (c1, c2 - 1) (c1, c2 + 1) := fun m0 m1 => (q13 ⟨m0, m1⟩).elim (fun ⟨h1, h2⟩ => (L1 h1).trans (L2 h2)) fun ⟨h1, h2⟩ => sy m1 b3 ((L3 h1).trans (L0 h2))
    intro x xL xb y yL yb
    simp only [besideC, List.mem_cons, List.not_mem_nil, or_false] at xb yb
    rcases xb with rfl | rfl | rfl | rfl <;> rcases yb with rfl | rfl | rfl | rfl
    · exact .refl
    · exact r01 xL yL
    · exact r02 xL yL
    · exact sy yL b3 (r30 yL xL)
    · exact sy yL b0 (r01 yL xL)
    · exact .refl
    · exact r12 xL yL
    · exact r13 xL yL
    · exact sy yL b0 (r02 yL xL)
    · exact sy yL b1 (r12 yL xL)
    · exact .refl
    · exact r23 xL yL
    · exact r30 xL yL
    · exact sy yL b1 (r13 yL xL)
    · exact sy yL b2 (r23 yL xL)
    · exact .refl
  · have e1 : ∀ x : Int, x + -1 = x - 1 := fun x => rfl
    simp only [linkB, e1]
    cases decide ((c1 - 1, c2) ∈ L) <;> cases decide ((c1, c2 - 1) ∈ L) <;> cases decide ((c1 + 1, c2) ∈ L) <;> cases decide ((c1, c2 + 1) ∈ L) <;> simp
/-- a square with one neighbour alone -/
theorem one_hangs {L : List Cell} (hL : Hangs L) {c a : Cell} (hc : c ∈ L) (h : ((besideC c).filter fun d => decide (d ∈ L)) = [a]) : Hangs (but L c) := by
  have m : ∀ x, x ∈ besideC c → x ∈ L → x = a := fun x hx hxL => List.mem_singleton.mp (h ▸ List.mem_filter.mpr ⟨hx, decide_eq_true hxL⟩)
  have am : a ∈ (besideC c).filter fun d => decide (d ∈ L) := by rw [h]; exact List.mem_singleton.mpr rfl
  obtain ⟨ab, al⟩ := List.mem_filter.mp am
  refine (rest_hangs hL hc (of_decide_eq_true al) ab).mpr fun x hx hb => ?_
  rw [m x hb hx]
  exact .refl
theorem none_hangs {L : List Cell} (hL : Hangs L) {c : Cell} (hc : c ∈ L) (h : ((besideC c).filter fun d => decide (d ∈ L)) = []) : ¬ Hangs (but L c) := fun k => by
  obtain ⟨d, hd⟩ := List.exists_mem_of_ne_nil _ k.1
  obtain ⟨dL, dc⟩ := mem_but.mp hd
  obtain ⟨a, aL, ab⟩ := near_ex hL hc dL dc
  have : a ∈ (besideC c).filter fun d => decide (d ∈ L) := List.mem_filter.mpr ⟨ab, decide_eq_true aL⟩
  rw [h] at this
  cases this
/-- by links enough -/
theorem links_hangs {L : List Cell} (hL : Hangs L) {c : Cell} (hc : c ∈ L) (h2 : 2 ≤ ((besideC c).filter fun d => decide (d ∈ L)).length) (hl : ((besideC c).filter fun d => decide (d ∈ L)).length ≤ linksN L c + 1) : Hangs (but L c) := by
  cases e : (besideC c).filter fun d => decide (d ∈ L) with
  | nil => rw [e] at h2; simp at h2
  | cons a t =>
    have am : a ∈ (besideC c).filter fun d => decide (d ∈ L) := by rw [e]; exact List.mem_cons_self ..
    obtain ⟨ab, al⟩ := List.mem_filter.mp am
    exact (rest_hangs hL hc (of_decide_eq_true al) ab).mpr fun x hx hb => links_reach h2 hl a (of_decide_eq_true al) ab x hx hb
/-- a flood without c that has all there is -/
theorem flood_rest {L F : List Cell} {c a : Cell} (hF : ∀ x ∈ F, x = c ∨ Reach (but L c) a x) (aF : a ∈ F) (ac : a ≠ c) (cl : ∀ x ∈ F, x ≠ c → ∀ y ∈ besideC x, y ∈ L → y ∈ F) : ∀ x, x ≠ c → (x ∈ F ↔ Reach (but L c) a x) := fun x nx => by
  constructor
  · exact fun h => (hF x h).elim (fun e => absurd e nx) id
  · intro r
    clear nx
    induction r with
    | refl => exact aF
    | @step b y hb h hy ih =>
      refine cl b ih ?_ y h (mem_but.mp hy).1
      cases hb with
      | refl => exact ac
      | step _ _ hm => exact (mem_but.mp hm).2
end Sq

set_option Elab.async false
set_option linter.all false
set_option maxRecDepth 100000
set_option maxHeartbeats 4000000
/-! sorted of a list of data of any depth. -/
namespace Sq
open PySem PySem.Spec PyProof.Rows L2
section
variable {X : Cx}
end
end Sq

set_option Elab.async false
set_option linter.all false
set_option maxRecDepth 100000
set_option maxHeartbeats 4000000
/-! Comprehensions that make lists of cells. -/
namespace Sq
open PySem PySem.Spec PyProof.Rows L2
theorem paired_app {α β : Type} {F : α → β → Prop} {xs xs' : List α} {ys ys' : List β} (h : Paired F xs ys) (k : Paired F xs' ys') : Paired F (xs ++ xs') (ys ++ ys') := by
  induction h with
  | nil => exact k
  | cons a _ ih => exact .cons a ih
theorem lc_cells {J : It} {n : Nat} {Gd : Hp → Prop} {Y : Nat → Hp → V → Hp → Prop} (w : Walk J n Gd Y) {g : TG} {tt : TT} {te : TE} {vs : List Nat} {σ : L2.St} {H1 : Hp} {D : Addr} {Qd : Hp → Prop} (hD : H1 D = none) (res : Nat → List Cell) (r0 : res 0 = []) (hn : n ≤ 1000000)
    (hG : ∀ i G, i ≤ n → Same H1 G → Gd G)
    (hs : ∀ i x G G' (K1 : V → Hp → Prop) (K0 : Hp → Prop), i < n → Same H1 G → Y i G x G' → (∀ r c H4, Same G H4 → At H4 r c → res (i + 1) = res i ++ [c] → K1 (.ref r) H4) → (∀ H3, Same G H3 → res (i + 1) = res i → K0 H3) →
      g x (wipe σ vs) G' fun σ2 H2 => wipe σ2 vs = wipe σ vs ∧ tt σ2 H2 fun b H3 => if b = true then te σ2 H3 K1 else K0 H3)
    (hd : ∀ G rs, Same H1 G → G D = some (.lst (rs.map V.ref)) → Paired (fun q c => At G q c) rs (res n) → Qd G) :
    ∃ W : Nat → Nat → Hp → Prop, (∃ m, W 0 m (upd H1 D (.lst []))) ∧ ∀ i m H, W i m H →
      (J.stop i H ∧ Qd H) ∨ (J.go i H ∧ ∃ Nx : Hp → Prop, (∀ H', Nx H' → ∃ m', m' < m ∧ W (i + 1) m' H') ∧ ∀ x H', J.yld i H x H' → g x (wipe σ vs) H' fun σ2 H2 => wipe σ2 vs = wipe σ vs ∧ tt σ2 H2 fun b H3 =>
        if b = true then te σ2 H3 fun y H4 => ∃ acc, H4 D = some (.lst acc) ∧ acc.length < sizeLine ∧ Nx (upd H4 D (.lst (acc ++ [y]))) else Nx H3) := by
  refine lc_it w (fun i G => Same H1 G ∧ ∃ rs : List Addr, G D = some (.lst (rs.map V.ref)) ∧ rs.length ≤ i ∧ Paired (fun q c => At G q c) rs (res i)) ⟨?_, [], upd_same, Nat.le_refl _, by rw [r0]; exact .nil⟩ (fun i G hi p => hG i G hi p.1) ?_ ?_
  · exact same_put same_refl hD
  · rintro i x G G' hi ⟨sm, rs, gD, ln, pr⟩ y
    refine hs i x G G' _ _ hi sm y (fun r c H4 s4 a4 e => ?_) (fun H3 s3 e => ?_)
    · refine ⟨_, s4 _ _ gD, by rw [List.length_map, sizeLine_eq]; omega, same_put (sm.trans s4) hD, rs ++ [r], by rw [upd_same, List.map_append]; rfl, by rw [List.length_append]; exact Nat.succ_le_succ ln, ?_⟩
      have off : ∀ {q : Addr} {c : Cell}, At H4 q c → At (upd H4 D (.lst (rs.map V.ref ++ [V.ref r]))) q c := fun h => h.off (s4 _ _ gD) (by intro xs z; cases z)
      rw [e]
      exact (paired_imp0 (fun _ _ h => off (s4 _ _ h)) pr).snoc (off a4)
    · refine ⟨sm.trans s3, rs, s3 _ _ gD, Nat.le_succ_of_le ln, ?_⟩
      rw [e]
      exact paired_imp0 (fun _ _ h => s3 _ _ h) pr
  · rintro G ⟨sm, rs, gD, _, pr⟩
    exact hd G rs sm gD pr
end Sq

set_option Elab.async false
set_option linter.all false
set_option maxRecDepth 100000
set_option maxHeartbeats 4000000
/-! Data that can be compared: lists and tuples of such. -/
namespace Sq
open PySem PySem.Spec PyProof.Rows L2
/-- d can be laid, n deep at most -/
def Lay (n : Nat) (d : PyData) : Prop := d.canLay0 = true ∧ d.depth ≤ n
theorem lay_all {n : Nat} : ∀ {ds : List PyData}, (∀ d ∈ ds, Lay n d) → PyData.canLayAll0 ds = true ∧ PyData.depthAll ds ≤ n
  | [], _ => ⟨by first | rfl | simp [PyData.canLayAll0], Nat.zero_le _⟩
  | d :: ds, h => by
    obtain ⟨h1, h2⟩ := lay_all (ds := ds) fun e he => h e (List.mem_cons_of_mem _ he)
    obtain ⟨k1, k2⟩ := h d (List.mem_cons_self ..)
    refine ⟨?_, ?_⟩
    · rw [PyData.canLayAll0, k1, h1]
      rfl
    · rw [PyData.depthAll]
      exact Nat.max_le.mpr ⟨k2, h2⟩
theorem lay_list {n : Nat} {ds : List PyData} (h : ∀ d ∈ ds, Lay n d) : Lay (n + 1) (.list ds) := by
  obtain ⟨h1, h2⟩ := lay_all h
  refine ⟨by rw [PyData.canLay0]; exact h1, ?_⟩
  rw [PyData.depth]
  exact Nat.succ_le_succ h2
theorem lay_tuple {n : Nat} {ds : List PyData} (h : ∀ d ∈ ds, Lay n d) : Lay (n + 1) (.tuple ds) := by
  obtain ⟨h1, h2⟩ := lay_all h
  refine ⟨by rw [PyData.canLay0]; exact h1, ?_⟩
  rw [PyData.depth]
  exact Nat.succ_le_succ h2
theorem Lay.mono {n m : Nat} {d : PyData} (h : Lay n d) (k : n ≤ m) : Lay m d := ⟨h.1, Nat.le_trans h.2 k⟩
theorem Lay.shaped {n : Nat} {d : PyData} (h : Lay n d) (k : n ≤ 64) : SeqAt.shaped d = true := by
  unfold SeqAt.shaped
  rw [h.1, decide_eq_true (Nat.le_trans h.2 k)]
  rfl
theorem lay_int (i : Int) : Lay 0 (.int i) := ⟨by first | rfl | simp [PyData.canLay0], Nat.le_refl _⟩
end Sq

set_option Elab.async false
set_option linter.all false
set_option maxRecDepth 100000
set_option maxHeartbeats 4000000
/-! Several except clauses that all bind one name. -/
namespace Sq
open PySem PySem.Spec PyProof.Rows L2
abbrev Su := Addr → Value → Option Addr → TS
/-- the ends of a suite behind which the name at i goes -/
def gone (i : Nat) (D : Ends) : Ends := { nx := fun σ H => D.nx (σ.set i none) H, rt := D.rt, bk := fun σ H => D.bk (σ.set i none) H, ct := fun σ H => D.ct (σ.set i none) H }
section
variable {X : Cx} {body : List Stmt} {h0 : ExceptHandler} {hs : List ExceptHandler} {l : List (Value × Su)} {pos : Pos} {tb : WX → TS} {Wo : WX} {n : Str} {i : Nat}
end
end Sq

set_option Elab.async false
set_option linter.all false
set_option maxRecDepth 100000
set_option maxHeartbeats 4000000
/-! {k: v, l: u}, the keys of any kind; del d[k], the key a tuple that is there. -/
namespace Sq
open PySem PySem.Spec PyProof.Rows L2
def tDisp2 (o0 : HO) (tk tv tl tu : TE) : TE := fun σ H Q => ∀ p, H p = none → tk σ (upd H p o0) fun x H1 => tv σ H1 fun y H2 => tl σ H2 fun x' H3 => tu σ H3 fun y' H4 => ∃ H5 H6, DPut H4 p x y H5 ∧ DPut H5 p x' y' H6 ∧ Q (.ref p) H6
def twoPairs (q : V → V → V → V → Hp → Prop) : List (V × V) → Hp → Prop
  | [p, r], H => q p.1 p.2 r.1 r.2 H
  | _, _ => False
theorem twoPairs_of {q : V → V → V → V → Hp → Prop} {H : Hp} : ∀ {ps : List (V × V)}, twoPairs q ps H → ∃ x y x' y', ps = [(x, y), (x', y')] ∧ q x y x' y' H
  | [p, r], h => ⟨p.1, p.2, r.1, r.2, rfl, h⟩
theorem pe_disp2 {X : Cx} {o0 : HO} {k v l u : Expr} {pos : Pos} {tk tv tl tu : TE} (ho : o0 = .dK [] ∨ o0 = .dT []) (hu : X.A.units + 1 < cLine) (hk : PE X k tk) (hv : PE X v tv) (hl : PE X l tl) (hw : PE X u tu) : PE X (.Dict [some k, some l] [v, u] pos) (tDisp2 o0 tk tv tl tu) := by
  refine ⟨fun pins s σ H Q I h => ?_⟩
  have fresh := I.hok.fresh (Nat.le_refl s.heap.objs.size)
  have I1 : Inv X pins σ (upd H s.heap.objs.size o0) { s with heap := s.heap.push { cls := .type "dict", data := .dict #[] } } := by
    refine I.laid (t' := s.toks) (fun _ _ q => Heap.get?_push_of_some _ q) (Nat.le_refl _) ?_
    rcases ho with rfl | rfl
    · exact dk_empty s.heap I.big
    · exact dt_empty s.heap I.big
  refine wpAny_Dict_any rfl rfl (List.cons_ne_nil _ _) (by show 2 ≤ 15; decide) ?_
  refine thn ((pps_cons hk hv (pps_cons hl hw pps_nil)).run pins _ σ _ (twoPairs fun x y x' y' H4 => ∃ H5 H6, DPut H4 s.heap.objs.size x y H5 ∧ DPut H5 s.heap.objs.size x' y' H6 ∧ Q (.ref s.heap.objs.size) H6) I1 (h _ fresh)) fun vs z hz => ?_
  obtain ⟨ps, H2, I2, rel, q⟩ := hz
  obtain ⟨x, y, x', y', rfl, H5, H6, put, put', q⟩ := twoPairs_of q
  cases rel with
  | cons rr r0 =>
    cases r0 with
    | cons rs r1 =>
      cases r1
      unfold storeAll
      rw [List.forIn_cons]
      refine wpAny_bind (wpAny_bind (dc_put hu I2 put rr.1 rr.2 fun z' I3 => wpAny_pure ?_))
      show wpAny _ _ (forIn (_ :: _ : List (Value × Value)) PUnit.unit _) _ _ _
      rw [List.forIn_cons]
      refine wpAny_bind (wpAny_bind (dc_put hu I3 put' rs.1 rs.2 fun z' I4 => wpAny_pure ?_))
      show wpAny _ _ (forIn ([] : List (Value × Value)) PUnit.unit _) _ _ _
      rw [List.forIn_nil]
      exact wpAny_pure ⟨.ref s.heap.objs.size, H6, I4, rfl, q⟩
/-- del d[y] -/
def sDelT (td ty : TE) : TS := fun D σ H => td σ H fun x H1 => ty σ H1 fun y H2 => ∃ (a : Addr) (kvs : List (List Key × V)) (k : List Key) (b : Addr), x = .ref a ∧ y = .ref b ∧ H2 a = some (.dT kvs) ∧ H2 b = some (.tup (k.map kV)) ∧ (valV kvs k).isSome = true ∧ D.nx σ (upd H2 a (.dT (dropK kvs k)))
theorem ps_ddelT {X : Cx} {o i : Expr} {td ty : TE} {pos tpos : Pos} (hu : X.A.units + 1 < cLine) (ho : PE X o td) (hi : PE X i ty) : PS X (.Delete [.Subscript o i tpos] pos) (sDelT td ty) := by
  refine ⟨fun pins s σ H D I h => ?_⟩
  refine wpAny_Delete (wpAny_deleteEach_cons (wpAny_delete_Subscript (thn (ho.run pins s σ H _ I h) fun u s1 ⟨x, H1, I1, rx, q1⟩ => thn (hi.run pins s1 σ H1 _ I1 q1) fun iv s2 ⟨y, H2, I2, ry, a, kvs, k, b, ex, ey, e, eb, l, q2⟩ => ?_)))
  subst ex ey
  obtain rfl : u = Value.ref a := rx
  obtain rfl : iv = Value.ref b := ry
  obtain ⟨z, hsys, ys, rel, dd⟩ := dt_of I2.hok e
  have hz : ys.length ≤ sizeLine := by rw [← Paired.length rel]; exact z
  have r := rel.val k
  cases ep : atKey ys k with
  | none =>
    rw [ep] at r
    cases hv : valV kvs k with
    | none => rw [hv] at l; cases l
    | some v => rw [hv] at r; exact r.elim
  | some p =>
    refine wpAny_delItem_heap (hsz := hz) (tupleKind_room_in1 hu) (key_of I2.hok eb) hsys dd ep fun h' dd' same => ?_
    obtain ⟨o2, en, e0, eo, c2, c3, c4, c5, c6⟩ := dd'
    refine wpAny_deleteEach_nil ⟨σ, _, d_write (ob := .dT (dropK kvs k)) I2 (by rw [e]; exact True.intro) same ⟨o2, eo⟩ ⟨Nat.le_trans (dropK_le kvs k) z, hsys, _, (DX.KT_drop k rel).keeps fun c ws ec => ?_, o2, en, e0, eo, c2, c3, c4, c6⟩, q2⟩
    rw [upd_ne (ne_of ec e (fun t => nomatch t))]
    exact ec
end Sq

set_option Elab.async false
set_option linter.all false
set_option maxRecDepth 100000
set_option maxHeartbeats 4000000
/-! The parts of a lot: what they are. -/
namespace Sq
/-- cells, each once, as a dict keeps them -/
def addC (L : List Cell) (c : Cell) : List Cell := if c ∈ L then L else L ++ [c]
def uniq (cs : List Cell) : List Cell := cs.foldl addC []
/-- the parts of cells, in their order -/
structure IsParts (cs : List Cell) (ps : List (List Cell)) : Prop where
  asc : ∀ p ∈ ps, Asc p ∧ p.Nodup ∧ p ≠ []
  cls : ∀ p ∈ ps, ∀ x ∈ p, x ∈ cs ∧ ∀ y, y ∈ p ↔ Reach cs x y
  cov : ∀ x ∈ cs, ∃ p ∈ ps, x ∈ p
  ord : ps.Pairwise fun p q => ∃ a b, p.head? = some a ∧ q.head? = some b ∧ cLt a b = true
end Sq

set_option Elab.async false
set_option linter.all false
set_option maxRecDepth 100000
set_option maxHeartbeats 4000000
/-! Growing blobs; dicts from cells to numbers. -/
namespace Sq
open PySem PySem.Spec PyProof.Rows L2
theorem Reach.mono {L M : List Cell} (h : ∀ x ∈ L, x ∈ M) {a b : Cell} (k : Reach L a b) : Reach M a b := by
  induction k with
  | refl => exact .refl
  | step _ hb hc ih => exact ih.step hb (h _ hc)
theorem hangs_snoc {A : List Cell} {a x : Cell} (h : Hangs A) (ha : a ∈ A) (hx : x ∈ besideC a) : Hangs (A ++ [x]) := by
  have m : a ∈ A ++ [x] := List.mem_append_left _ ha
  refine (hangs_from m).mpr fun b hb => ?_
  rcases List.mem_append.mp hb with k | k
  · exact (h.2 a ha b k).mono fun y hy => List.mem_append_left _ hy
  · rw [List.mem_singleton.mp k]
    exact Reach.refl.step hx (by simp)
theorem hangs_one (c : Cell) : Hangs [c] := ⟨by simp, fun a ha b hb => by rw [List.mem_singleton.mp ha, List.mem_singleton.mp hb]; exact .refl⟩
/-- a dict from these cells to numbers -/
structure IntD (kvs : List (List Key × V)) (Cs : List Cell) : Prop where
  keys : kvs.map (·.1) = Cs.map cK
  nums : ∀ kv ∈ kvs, ∃ i : Int, kv.2 = .int i
theorem IntD.get {kvs : List (List Key × V)} {Cs : List Cell} (h : IntD kvs Cs) (c : Cell) : (c ∈ Cs ∧ ∃ i : Int, valV kvs (cK c) = some (.int i)) ∨ (c ∉ Cs ∧ valV kvs (cK c) = none) := by
  obtain ⟨hk, hi⟩ := h
  induction kvs generalizing Cs with
  | nil =>
    cases Cs with
    | nil => exact .inr ⟨by simp, rfl⟩
    | cons d Cs => cases hk
  | cons kv kvs ih =>
    cases Cs with
    | nil => cases hk
    | cons d Cs =>
      rw [List.map_cons, List.map_cons] at hk
      injection hk with h1 h2
      by_cases e : d = c
      · subst e
        obtain ⟨i, ei⟩ := hi kv (List.mem_cons_self ..)
        refine .inl ⟨List.mem_cons_self .., i, ?_⟩
        rw [valV_pos h1, ei]
      · rw [valV_neg (by rw [h1]; exact fun z => e (cK_inj z))]
        rcases ih h2 (fun kv hkv => hi kv (List.mem_cons_of_mem _ hkv)) with ⟨m, r⟩ | ⟨m, r⟩
        · exact .inl ⟨List.mem_cons_of_mem _ m, r⟩
        · exact .inr ⟨fun z => (List.mem_cons.mp z).elim (fun q => e q.symm) m, r⟩
theorem IntD.put {kvs : List (List Key × V)} {Cs : List Cell} (h : IntD kvs Cs) (c : Cell) (j : Int) : IntD (putK kvs (cK c) (.int j)) (addC Cs c) := by
  have keyc : ∀ kv ∈ kvs, ∃ d ∈ Cs, kv.1 = cK d := fun kv hkv => by
    have : kv.1 ∈ Cs.map cK := by rw [← h.keys]; exact List.mem_map.mpr ⟨kv, hkv, rfl⟩
    obtain ⟨d, hd, e⟩ := List.mem_map.mp this
    exact ⟨d, hd, e.symm⟩
  unfold putK addC
  by_cases m : c ∈ Cs
  · have an : (kvs.any fun kv => decide (kv.1 = cK c)) = true := by
      have : cK c ∈ kvs.map (·.1) := by rw [h.keys]; exact List.mem_map.mpr ⟨c, m, rfl⟩
      obtain ⟨kv, hkv, e⟩ := List.mem_map.mp this
      exact List.any_eq_true.mpr ⟨kv, hkv, decide_eq_true e⟩
    rw [if_pos an, if_pos m]
    refine ⟨?_, fun kv hkv => ?_⟩
    · rw [List.map_map, ← h.keys]
      refine List.map_congr_left fun kv _ => ?_
      show (if kv.1 = cK c then (kv.1, V.int j) else kv).1 = kv.1
      split <;> rfl
    · obtain ⟨kv0, h0, e⟩ := List.mem_map.mp hkv
      rw [← e]
      by_cases q : kv0.1 = cK c
      · rw [if_pos q]
        exact ⟨j, rfl⟩
      · rw [if_neg q]
        exact h.nums kv0 h0
  · have an : ¬ (kvs.any fun kv => decide (kv.1 = cK c)) = true := fun z => by
      obtain ⟨kv, hkv, e⟩ := List.any_eq_true.mp z
      obtain ⟨d, hd, e2⟩ := keyc kv hkv
      rw [of_decide_eq_true e] at e2
      rw [cK_inj e2] at m
      exact m hd
    rw [if_neg an, if_neg m]
    refine ⟨by rw [List.map_append, List.map_append, h.keys]; rfl, fun kv hkv => ?_⟩
    rcases List.mem_append.mp hkv with q | q
    · exact h.nums kv q
    · rw [List.mem_singleton.mp q]
      exact ⟨j, rfl⟩
theorem IntD.len {kvs : List (List Key × V)} {Cs : List Cell} (h : IntD kvs Cs) : kvs.length = Cs.length := by
  have := congrArg List.length h.keys
  rwa [List.length_map, List.length_map] at this
end Sq

set_option Elab.async false
set_option linter.all false
set_option maxRecDepth 100000
set_option maxHeartbeats 4000000
/-! The pairs of a dict whose keys are tuples, gone through. -/
namespace Sq
open PySem PySem.Spec PyProof.Rows L2
section
variable {X : Cx} {pins : List (Addr × Obj)} {σ : L2.St} {H : Hp} {s : Shared} {d : Addr} {o : Obj}
end
end Sq

set_option Elab.async false
set_option linter.all false
set_option maxRecDepth 100000
set_option maxHeartbeats 4000000
/-! enumerate over a dict whose keys are tuples. -/
namespace Sq
open PySem PySem.Spec PyProof.Rows L2
section
variable {prog : Program} {w : World} {A : Around} {E : Value → Shared → Prop} {s : Shared} {it d : Addr} {i ep : Nat} {es : Array DictEntry}
end
end Sq

set_option Elab.async false
set_option linter.all false
set_option maxRecDepth 100000
set_option maxHeartbeats 4000000
/-! min(xs, default=d), xs a list of ints. -/
namespace Sq
open PySem PySem.Spec PyProof.Rows L2
section
variable {prog : Program} {w : World} {A : Around} {R : Result → Shared → Prop} {it : Addr} {fp wr : List Addr} {n : Nat} {P : Nat → Value → Prop} {St : Nat → Heap → Prop} {d : Value}
end
section
variable {prog : Program} {w : World} {A : Around} {E : Value → Shared → Prop} {s : Shared}
end
end Sq

set_option Elab.async false
set_option linter.all false
set_option maxRecDepth 100000
set_option maxHeartbeats 4000000
/-! name = {k: v for ..}, the name a local. -/
namespace Sq
open PySem PySem.Spec PyProof.Rows L2
section
variable {X : Cx}
end
end Sq

set_option Elab.async false
set_option linter.all false
set_option maxRecDepth 100000
set_option maxHeartbeats 4000000
/-! A lot that hangs together is no wider than it has cells. -/
namespace Sq
open PySem PySem.Spec PyProof.Rows L2
theorem reach_between {L : List Cell} {f : Cell → Int} (hf : ∀ c d, d ∈ besideC c → f d - f c ≤ 1 ∧ f c - f d ≤ 1) {a x : Cell} (h : Reach L a x) (ha : a ∈ L) : ∀ k : Int, (f a ≤ k ∧ k ≤ f x) ∨ (f x ≤ k ∧ k ≤ f a) → ∃ y ∈ L, f y = k := by
  induction h with
  | refl => exact fun k hk => ⟨a, ha, by omega⟩
  | @step b x r hx xL ih =>
    intro k hk
    obtain ⟨h1, h2⟩ := hf b x hx
    by_cases e : f x = k
    · exact ⟨x, xL, e⟩
    · exact ih k (by omega)
theorem span_of {L : List Cell} {f : Cell → Int} (hf : ∀ c d, d ∈ besideC c → f d - f c ≤ 1 ∧ f c - f d ≤ 1) (hL : Hangs L) {a x : Cell} (ha : a ∈ L) (hx : x ∈ L) (le : f a ≤ f x) : f x - f a < L.length := by
  have r := reach_between hf (hL.2 a ha x hx) ha
  obtain ⟨d, hd⟩ := Int.eq_ofNat_of_zero_le (show 0 ≤ f x - f a by omega)
  have nd : ((List.range (d + 1)).map fun i : Nat => f a + (i : Int)).Nodup := by
    refine List.pairwise_map.mpr ((List.nodup_range (n := d + 1)).imp ?_)
    intro i j h h'
    exact h (by omega)
  have sub : ∀ y ∈ (List.range (d + 1)).map fun i : Nat => f a + (i : Int), y ∈ L.map f := fun y hy => by
    obtain ⟨i, hi, rfl⟩ := List.mem_map.mp hy
    have := List.mem_range.mp hi
    obtain ⟨z, hz, e⟩ := r (f a + (i : Int)) (by omega)
    exact List.mem_map.mpr ⟨z, hz, e⟩
  have l := len_le nd sub
  rw [List.length_map, List.length_map, List.length_range] at l
  omega
theorem beside_col (c d : Cell) (h : d ∈ besideC c) : d.1 - c.1 ≤ 1 ∧ c.1 - d.1 ≤ 1 := by
  have := beside_iff.mp h
  omega
theorem beside_row (c d : Cell) (h : d ∈ besideC c) : d.2 - c.2 ≤ 1 ∧ c.2 - d.2 ≤ 1 := by
  have := beside_iff.mp h
  omega
theorem span {L : List Cell} (hL : Hangs L) {a x : Cell} (ha : a ∈ L) (hx : x ∈ L) : x.1 - a.1 < L.length ∧ a.1 - x.1 < L.length ∧ x.2 - a.2 < L.length ∧ a.2 - x.2 < L.length := by
  have c1 := fun h => span_of (f := fun c => c.1) beside_col hL ha hx h
  have c2 := fun h => span_of (f := fun c => c.1) beside_col hL hx ha h
  have r1 := fun h => span_of (f := fun c => c.2) beside_row hL ha hx h
  have r2 := fun h => span_of (f := fun c => c.2) beside_row hL hx ha h
  refine ⟨?_, ?_, ?_, ?_⟩
  · by_cases h : a.1 ≤ x.1
    · exact c1 h
    · have := Int.natCast_nonneg L.length
      omega
  · by_cases h : x.1 ≤ a.1
    · exact c2 h
    · have := Int.natCast_nonneg L.length
      omega
  · by_cases h : a.2 ≤ x.2
    · exact r1 h
    · have := Int.natCast_nonneg L.length
      omega
  · by_cases h : x.2 ≤ a.2
    · exact r2 h
    · have := Int.natCast_nonneg L.length
      omega
end Sq

set_option Elab.async false
set_option linter.all false
set_option maxRecDepth 100000
set_option maxHeartbeats 4000000
/-! A call of a def that is run while no guard stands; the end of a law whose def is told so, with tables. -/
namespace Sq
open PySem PySem.Spec PyProof.Rows L2
section
variable {X : Cx} {CX : CXT} {j k : Nat} {f : Addr} {fd : FuncData} {ps : List Str} {sp : Sp} {E : XK}
end
/-- where a law begins: its script and its tables stand apart -/
structure Beg (P : Program) (w : World) (K : PySem.W.Frag) (ts : List Addr) (z : Shared) (a : Addr) (H : Hp) : Prop where
  tb : ∀ t ∈ ts, H t = some (.tbl #[])
  kinds : ∀ b, H b = none ∨ b ∈ ts ∨ ∃ o xs, H b = some (.frz o (.lst xs))
  ok : HOk P w H z.heap
  sup : ∀ b, H b ≠ none → b = a ∨ b ∈ ts
  ka : H a ≠ none → K.lookup a = none
/-- what of the heap is not tracked -/
theorem Beg.free {P : Program} {w : World} {K : PySem.W.Frag} {ts : List Addr} {z : Shared} {a : Addr} {H : Hp} {vs : List Value} (B : Beg P w K ts z a H) (ha : z.heap.get? a = some { cls := .type "list", data := .seq vs.toArray }) (ht : ∀ t ∈ ts, z.heap.get? t = some { cls := .none, data := .fields #[] })
    {b : Addr} {o : Obj} (e : z.heap.get? b = some o) (n1 : ∀ us m, o.data ≠ .seq us m) (n2 : o.data ≠ .fields #[]) : H b = none := by
  refine Classical.byContradiction fun n => ?_
  rcases B.sup b n with rfl | m
  · have y := Option.some.inj (ha.symm.trans e)
    subst y
    exact n1 _ _ rfl
  · have y := Option.some.inj ((ht b m).symm.trans e)
    subst y
    exact n2 rfl
end Sq

set_option Elab.async false
set_option linter.all false
set_option maxRecDepth 100000
set_option maxHeartbeats 4000000
/-! What repr shows, in few signs. -/
namespace Sq
open PySem PySem.Spec PyProof.Rows L2
/-- d is shown in n signs at most, nested m deep at most -/
structure Sh (m n : Nat) (d : PyData) : Prop where
  sh : d.showable = true
  nd : d.hasDict = false
  dp : d.depth ≤ m
  ln : d.shown.length ≤ n
theorem Sh.mono {m n m' n' : Nat} {d : PyData} (h : Sh m n d) (hm : m ≤ m') (hn : n ≤ n') : Sh m' n' d := ⟨h.sh, h.nd, Nat.le_trans h.dp hm, Nat.le_trans h.ln hn⟩
theorem Sh.d50 {m n : Nat} {d : PyData} (s : Sh m n d) (hm : m ≤ 50 := by decide) : d.depth ≤ 50 := Nat.le_trans s.dp hm
theorem Sh.fits {m n : Nat} {d : PyData} (s : Sh m n d) (hn : n ≤ 16777216 := by decide) : d.shown.length ≤ sizeLine := by
  rw [sizeLine_eq]
  exact Nat.le_trans s.ln hn
/-- coordinates that are not great -/
def Small (c : Cell) : Prop := c.1.natAbs < 10 ^ 40 ∧ c.2.natAbs < 10 ^ 40
end Sq

set_option Elab.async false
set_option linter.all false
set_option maxRecDepth 100000
set_option maxHeartbeats 4000000
/-! enumerate over a tuple. -/
namespace Sq
open PySem PySem.Spec PyProof.Rows L2
end Sq

set_option Elab.async false
set_option linter.all false
set_option maxRecDepth 100000
set_option maxHeartbeats 4000000
/-! The parts are told by the cells alone. -/
namespace Sq
open PySem PySem.Spec PyProof.Rows L2
theorem asc_memU {A M : List Cell} (nA : A.Nodup) (nM : M.Nodup) (sa : Asc A) (sm : Asc M) (mem : ∀ x, x ∈ A ↔ x ∈ M) : A = M :=
  List.Perm.eq_of_pairwise (le := fun x y => cLt y x = false) (fun x y _ _ h k => cLt_tri k h) sa sm ((List.perm_ext_iff_of_nodup nA nM).mpr mem)
theorem IsParts.sub {cs : List Cell} {ps qs : List (List Cell)} (h : IsParts cs ps) (k : IsParts cs qs) : ∀ p ∈ ps, p ∈ qs := fun p hp => by
  obtain ⟨ap, np, ne⟩ := h.asc p hp
  obtain ⟨x, hx⟩ := List.exists_mem_of_ne_nil _ ne
  obtain ⟨xc, cp⟩ := h.cls p hp x hx
  obtain ⟨q, hq, xq⟩ := k.cov x xc
  obtain ⟨aq, nq, _⟩ := k.asc q hq
  have e : p = q := asc_memU np nq ap aq fun y => by rw [cp y, (k.cls q hq x xq).2 y]
  exact e ▸ hq
theorem IsParts.nodup {cs : List Cell} {ps : List (List Cell)} (h : IsParts cs ps) : ps.Nodup := h.ord.imp fun {p q} ⟨a, b, ha, hb, lt⟩ e => by
  subst e
  rw [ha] at hb
  have := Option.some.inj hb
  subst this
  rw [cLt_irr] at lt
  cases lt
end Sq

set_option Elab.async false
set_option linter.all false
set_option maxRecDepth 100000
set_option maxHeartbeats 4000000
/-! A value that is locked for good behind its making; in, for a text and a list of texts. -/
namespace Sq
open PySem PySem.Spec PyProof.Rows L2
end Sq

set_option Elab.async false
set_option linter.all false
set_option maxRecDepth 100000
set_option maxHeartbeats 4000000
/-! dict(pairs) of a list of pairs of unlike tuples and values. -/
namespace Sq
open PySem PySem.Spec PyProof PyProof.Rows L2
/-- a walk as the comprehensions ask for it -/
theorem w_ofR {J : It} {n : Nat} {Gd : Hp → Prop} {Y : Nat → Hp → V → Hp → Prop} (w : Walk J n Gd Y) {H1 : Hp} {Qd : Hp → Prop} {St : V → Hp → (Hp → Prop) → Prop} (Pv : Nat → Hp → Prop) (h0 : Pv 0 H1) (hG : ∀ i G, i ≤ n → Pv i G → Gd G)
    (hs : ∀ i x G G', i < n → Pv i G → Y i G x G' → St x G' (Pv (i + 1))) (hd : ∀ G, Pv n G → Qd G) : ∃ W : Nat → Nat → Hp → Prop, (∃ m, W 0 m H1) ∧ ∀ i m H, W i m H →
      (J.stop i H ∧ Qd H) ∨ (J.go i H ∧ ∃ Nx : Hp → Prop, (∀ H', Nx H' → ∃ m', m' < m ∧ W (i + 1) m' H') ∧ ∀ x H', J.yld i H x H' → St x H' Nx) := by
  refine ⟨fun i m H => m = n - i ∧ i ≤ n ∧ Pv i H, ⟨n, rfl, Nat.zero_le _, h0⟩, ?_⟩
  rintro i m H ⟨rfl, hi, p⟩
  by_cases lt : i < n
  · exact .inr ⟨w.goes i H lt (hG i H hi p), Pv (i + 1), fun H' p' => ⟨n - (i + 1), by omega, rfl, lt, p'⟩, fun x H' y => hs i x H H' lt p (w.yields i H x H' lt (hG i H hi p) y)⟩
  · obtain rfl : i = n := Nat.le_antisymm hi (Nat.le_of_not_lt lt)
    exact .inl ⟨w.stops H (hG i H hi p), hd H p⟩
theorem storedAll_new {xs : List (List Key × Addr × Value)} : ∀ {ps acc : List (List Key × Addr × Value)}, ((acc ++ ps).map (·.1)).Nodup → PySem.storedAllH acc ps = acc ++ ps
  | [], acc, _ => (List.append_nil acc).symm
  | p :: ps, acc, nd => by
    have n1 : p.1 ∉ acc.map (·.1) := fun m => by
      rw [List.map_append, List.map_cons] at nd
      exact (List.nodup_append.mp nd).2.2 _ m _ (List.mem_cons_self ..) rfl
    have e : PySem.atKey acc p.1 = none := by
      unfold PySem.atKey
      rw [Option.map_eq_none_iff, List.find?_eq_none]
      intro x hx q
      exact n1 (List.mem_map.mpr ⟨x, hx, of_decide_eq_true q⟩)
    have e2 : acc ++ p :: ps = (acc ++ [p]) ++ ps := by rw [List.append_assoc]; rfl
    rw [e2]
    refine Eq.trans ?_ (storedAll_new (xs := xs) (ps := ps) (acc := acc ++ [p]) (by rw [← e2]; exact nd))
    show PySem.storedAllH (PySem.storedH acc p.1 p.2.1 p.2.2) ps = _
    rw [PySem.storedH_new e]
/-- a new pair of a tuple of keys and a value -/
def PrAt (H : Hp) (p : Addr) (kv : List Key × V) : Prop := ∃ q : Addr, H p = some (.tup [.ref q, kv.2]) ∧ H q = some (.tup (kv.1.map kV))
/-- dict(l) -/
def rDictT (K : PySem.W.Frag) : List V → Hp → VK → Prop := fun vs H Q => ∃ (a : Addr) (ps : List Addr) (kvs : List (List Key × V)), vs = [V.ref a] ∧ SqL K H a (ps.map V.ref) ∧ Paired (fun p kv => PrAt H p kv) ps kvs ∧ (kvs.map Prod.fst).Nodup ∧
  ∀ p, H p = none → Q (.ref p) (upd H p (.dT kvs))
section
variable {X : Cx}
theorem vals_two {x y : V} {us : List Value} (h : Vals [x, y] us) : ∃ u v, us = [u, v] ∧ RelV x u ∧ RelV y v := by
  cases h with
  | cons a t =>
    cases t with
    | cons b t2 =>
      cases t2
      exact ⟨_, _, rfl, a, b⟩
theorem vals_ref : ∀ {ps : List Addr} {us : List Value}, Vals (ps.map V.ref) us → us = ps.map Value.ref
  | [], us, h => by
    cases h
    rfl
  | p :: ps, us, h => by
    cases h with
    | cons r t => rw [show _ = Value.ref p from r, vals_ref t]; rfl
theorem pairs_at {pins : List (Addr × Obj)} {s : Shared} {σ : L2.St} {H : Hp} (I : Inv X pins σ H s) : ∀ {ps : List Addr} {kvs : List (List Key × V)}, Paired (fun p kv => PrAt H p kv) ps kvs →
    ∃ xs : List (List Key × Addr × Value), L2.KT H kvs xs ∧ xs.length = ps.length ∧ ∀ (j : Nat) (x : List Key × Addr × Value), xs[j]? = some x → ∃ p : Addr, ps[j]? = some p ∧ PySem.PairAt s.heap p (.ref x.2.1) x.2.2
  | [], [], .nil => ⟨[], .nil, rfl, by simp⟩
  | p :: ps, kv :: kvs, .cons h t => by
    obtain ⟨xs, kt, l, at_⟩ := pairs_at I t
    obtain ⟨q, e1, e2⟩ := h
    obtain ⟨its, rv, pl, hz⟩ := I.tuple (SqT.of e1)
    obtain ⟨u1, u, rfl, r1, r2⟩ := vals_two rv
    obtain rfl : u1 = Value.ref q := r1
    refine ⟨(kv.1, q, u) :: xs, .cons ⟨rfl, e2, r2⟩ kt, by rw [List.length_cons, l, List.length_cons], fun j x hj => ?_⟩
    cases j with
    | zero =>
      obtain rfl : (kv.1, q, u) = x := by simpa using hj
      exact ⟨p, rfl, .inl pl⟩
    | succ j =>
      obtain ⟨p', hp', e'⟩ := at_ j x (by simpa using hj)
      exact ⟨p', by simpa using hp', e'⟩
theorem kt_keys {H : Hp} : ∀ {kvs : List (List Key × V)} {xs : List (List Key × Addr × Value)}, L2.KT H kvs xs → kvs.map Prod.fst = xs.map (·.1)
  | [], [], .nil => rfl
  | _ :: _, _ :: _, .cons h t => by rw [List.map_cons, List.map_cons, kt_keys t, h.1]
theorem kt_mem {H : Hp} : ∀ {kvs : List (List Key × V)} {xs : List (List Key × Addr × Value)}, L2.KT H kvs xs → ∀ x ∈ xs, ∃ kv : List Key × V, kv.1 = x.1 ∧ H x.2.1 = some (.tup (kv.1.map kV))
  | [], [], .nil, x, m => by cases m
  | p :: _, q :: _, .cons h t, x, m => by
    rcases List.mem_cons.mp m with rfl | m
    · exact ⟨p, h.1, h.2.1⟩
    · exact kt_mem t x m
theorem call_dictT (calm : X.calm = true) (hu : X.A.units + 64 < cLine) : CallR X (.type "dict") (rDictT X.K) := by
  intro pins s σ H vs us Q I r h
  obtain ⟨a, ps, kvs, rfl, hs, pr, nd, q⟩ := h
  rw [Vals.ref1 r]
  obtain ⟨its, rv, pl, hz⟩ := I.list hs
  have ei := vals_ref rv
  subst ei
  rw [List.length_map] at hz
  obtain ⟨xs, kt, lx, at_⟩ := pairs_at I pr
  obtain ⟨o, n, ho, hc, hd, hdat⟩ := pl
  have ndx : (xs.map (·.1)).Nodup := by
    rw [← kt_keys kt]
    exact nd
  have hx : ∀ x ∈ xs, (tupleKind (mixKind X.prog X.w)).is s.heap x.1 x.2.1 := fun x hx => by
    obtain ⟨kv, e1, e2⟩ := kt_mem kt x hx
    exact key_of I.hok (by rw [← e1]; exact e2)
  have lk : kvs.length = xs.length := by
    have := congrArg List.length (kt_keys kt)
    rwa [List.length_map, List.length_map] at this
  have room : (tupleKind (mixKind X.prog X.w)).room X.A.in1.in1 := tupleKind_room_in1 (A := X.A.in1) (by
    have e : X.A.in1.units = X.A.units + 1 := rfl
    omega)
  let Ts : Nat → Addr := fun j => ps.getD j 0
  have items : PySem.PairItems s.heap (ps.map Value.ref).toArray Ts (xs.map fun x => (Value.ref x.2.1, x.2.2)) := by
    refine ⟨by simp [lx], fun j k v hj => ?_⟩
    rw [List.getElem?_map] at hj
    obtain ⟨x, hx, e⟩ := Option.map_eq_some_iff.mp hj
    obtain ⟨p, hp, pa⟩ := at_ j x hx
    have e1 : Ts j = p := by
      show ps.getD j 0 = p
      rw [List.getD_eq_getElem?_getD, hp]
      rfl
    obtain ⟨rfl, rfl⟩ := Prod.mk.inj e
    rw [e1]
    exact ⟨by simp [hp], pa⟩
  refine PySem.call_dict_pairsH (knd := tupleKind (mixKind X.prog X.w)) (ps := xs) (PySem.PairArg.list a _ Ts _) (I.ok.hd calm) room ⟨⟨o, n, ho, hc, hd, hdat⟩, items⟩ ⟨by rw [List.length_map], fun i key v hr => ?_⟩ (fun h' hk x hm => ?_) (by rw [List.length_map, lx]; exact hz) fun h' tk hd' hk => ?_
  · have hr : (xs.map fun x => (Value.ref x.2.1, x.2.2))[i]? = some (key, v) := hr
    rw [List.getElem?_map] at hr
    obtain ⟨x, hx, e⟩ := Option.map_eq_some_iff.mp hr
    obtain ⟨rfl, rfl⟩ := Prod.mk.inj e
    exact ⟨x.1, x.2.1, hx, rfl⟩
  · exact (PySem.tupleKind_stays (knd := mixKind X.prog X.w)).stays (fun b o vs n e _ => hk b o (Nat.ne_of_lt (Heap.lt_size e)) (by simp) e) (hx x hm)
  · rw [storedAll_new (xs := []) (by simpa using ndx)] at hd'
    obtain ⟨o', es, ep, e1, e2, e3, e4, _, _⟩ := hd'
    have hm : (s.heap.objs.size == sysModules) = false := beq_eq_false_iff_ne.mpr (Nat.ne_of_gt I.big)
    have kt' : L2.KT (upd H s.heap.objs.size (.dT kvs)) kvs xs := L2.Paired.mapP kt fun a b h => ⟨h.1, by
      rw [upd_ne (fun z => by
        have := I.hok.fresh (a := s.heap.objs.size) (Nat.le_refl _)
        rw [← z, h.2.1] at this
        cases this)]
      exact h.2.1, h.2.2⟩
    exact ⟨.ref s.heap.objs.size, upd H s.heap.objs.size (.dT kvs), I.laid (t' := tk) (fun b o e => hk b o (by simp) e) (Nat.le_refl _) (show ObjOk X.prog X.w _ _ _ (.dT kvs) from ⟨by omega, hm, xs, kt', o', es, ep, e1, e2, e3, e4, ndx⟩), rfl, q _ (I.hok.fresh (Nat.le_refl _))⟩
end
end Sq

set_option Elab.async false
set_option linter.all false
set_option maxRecDepth 100000
set_option maxHeartbeats 4000000
/-! list(d.keys()), d a dict with tuples as keys. -/
namespace Sq
open PySem PySem.Spec PySem.Calls PyProof PyProof.Rows L2
/-- the keys of the dict at d, seen by the object at v -/
def KeysO (v d : Addr) : HO := .ext fun h => PySem.W.KdlKeysView h v d
section
variable {X : Cx} {e : Expr} {td : TE} {apos cpos : Pos}
def tKeysV (td : TE) : TE := fun σ H Q => td σ H fun x H1 => ∃ (d : Addr) (kvs : List (List Key × V)), x = .ref d ∧ H1 d = some (.dT kvs) ∧ ∀ v, H1 v = none → Q (.ref v) (upd H1 v (KeysO v d))
theorem pe_keysV (he : PE X e td) (hbase : attributeBase e "keys" X.env (eval e X.env) = eval e X.env := by rfl) (hline : (apos.endLine == cpos.line) = true := by rfl) : PE X (.Call (.Attribute e "keys" apos) [] [] cpos) (tKeysV td) := by
  refine ⟨fun pins s σ H Q I h => ?_⟩
  refine wpAny_Call_method (T := "dict") (id := "dict.keys") hbase rfl hline F.plainAttrs_dict F.slot_dict_keys F.type_dict_keys (thn (he.run pins s σ H _ I h) fun u s1 ⟨x, H1, I1, rx, d, kvs, ex, hd, q⟩ => ?_)
  subst ex
  obtain rfl : u = Value.ref d := rx
  obtain ⟨z, hs, ks, pr, o, es, ep, ho, hx, hdt, he2, hn⟩ := (show ObjOk X.prog X.w H1 s1.heap d (.dT kvs) from I1.hok d _ hd)
  have hm : s1.heap.DictRaw d es ep := ⟨o, ho, hx, hdt⟩
  refine ⟨hm.typeIs, fun a ea => ⟨o, by cases ea; exact ho, hx.2.1⟩, ?_⟩
  show wpAny _ _ (callWith cpos (.builtin "dict.keys") [.ref d] [] []) _ X.xe s1
  refine method_meetsIn F.slot_dict_keys F.entry_dict_keys rfl (PySem.evalArgs_none ⟨rfl, hm.typeIs, F.args_dict_keys_1 _, _, PySem.meets_dict_keys_raw d hs, ⟨es, ep, hm⟩, ?_⟩)
  have hnone := I1.hok.fresh (a := s1.heap.objs.size) (Nat.le_refl _)
  refine ⟨.ref s1.heap.objs.size, upd H1 s1.heap.objs.size (KeysO s1.heap.objs.size d), I1.laid (t' := s1.toks) (fun b o e => Heap.get?_push_of_some _ e) (Nat.le_refl _) ?_, rfl, q _ hnone⟩
  refine ⟨⟨_, Heap.get?_push_size _ rfl, rfl, rfl⟩, ⟨_, Heap.get?_push_size _ rfl⟩, fun h1 h2 ⟨o, e, r⟩ k => ⟨o, k _ e, r⟩⟩
theorem call_list_keys (hc : X.calm = true) : CallR X (.type "list") (fun xs H Q => ∃ (v d : Addr) (kvs : List (List Key × V)), xs = [V.ref v] ∧ H v = some (KeysO v d) ∧ H d = some (.dT kvs) ∧ ∀ p bs, H p = none → IsKeys H kvs bs → Q (.ref p) (upd H p (.lst (bs.map V.ref)))) := by
  intro pins s σ H xs us Q I r h
  obtain ⟨v, d, kvs, rfl, hv, hd, q⟩ := h
  obtain ⟨u, rfl, rx⟩ := r.one
  cases rx
  obtain ⟨hvw, _, _⟩ := (show ObjOk X.prog X.w H s.heap v (KeysO v d) from I.hok v _ hv)
  obtain ⟨z, hs, ks, pr, o, es, ep, ho, hx, hdt, he, hn⟩ := (show ObjOk X.prog X.w H s.heap d (.dT kvs) from I.hok d _ hd)
  have hm : s.heap.DictRaw d es ep := ⟨o, ho, hx, hdt⟩
  have l1 : es.size = ks.length := by
    have := congrArg List.length he
    simpa using this
  have l2 : kvs.length = ks.length := Paired.length pr
  refine PySem.W.kdl_call (PySem.KdlSrc.rawKeys) (I.ok.hd hc) ⟨hvw, hm⟩ (by omega) fun h' tk acc' c' kp e it => ?_
  have ea : acc'.toList = ks.map fun x => Value.ref x.2.1 := by
    have hl : acc'.toList.length = ks.length := by rw [Array.length_toList, it.1]; exact l1
    apply List.ext_getElem?
    intro j
    rw [List.getElem?_map]
    cases hj : acc'.toList[j]? with
    | none =>
      have h1 := List.getElem?_eq_none_iff.mp hj
      rw [List.getElem?_eq_none (by omega)]
      all_goals rfl
    | some v =>
      obtain ⟨hi, hv⟩ := it.2 j v (by rw [← Array.getElem?_toList]; exact hj)
      have qe := entry_at he j
      rw [Array.getElem?_eq_getElem hi] at qe
      cases hb : ks[j]? with
      | none =>
        rw [hb] at qe
        exact nomatch qe
      | some b =>
        rw [hb] at qe
        have e2 : es[j] = entryOfKey (tupleKind (mixKind X.prog X.w)) b := Option.some.inj qe
        rw [hv, e2]
        all_goals rfl
  have eb : acc'.toList = (ks.map fun x => x.2.1).map Value.ref := by rw [ea, List.map_map]; all_goals rfl
  have rv : Vals ((ks.map fun x => x.2.1).map V.ref) acc'.toList := by rw [eb]; exact L2.vals_refs _
  have hz : ((ks.map fun x => x.2.1).map V.ref).length ≤ sizeLine := by rw [List.length_map, List.length_map]; omega
  refine ⟨.ref s.heap.objs.size, _, I.laid (t' := tk) (o := .lst ((ks.map fun x => x.2.1).map V.ref)) kp (Nat.le_refl _) ?_, rfl, q _ _ (I.hok.fresh (Nat.le_refl _)) (isKeys_of pr)⟩
  exact ⟨hz, acc'.toList, c', rv, by rw [Array.toArray_toList]; exact e⟩
end
end Sq

set_option Elab.async false
set_option linter.all false
set_option maxRecDepth 100000
set_option maxHeartbeats 4000000
/-! d == {}, d a dict with tuples as keys. -/
namespace Sq
open PySem PySem.Spec PySem.Calls PyProof PyProof.Rows L2
section
variable {prog : Program} {w : World} {A : Around} {E : Value → Shared → Prop} {s : Shared}
/-- the entries of a dict, raw -/
def RawD (h : Heap) (a : Addr) (n : Nat) : Prop := ∃ (o : Obj) (es : Array DictEntry) (ep : Nat), h.get? a = some o ∧ o.ExactDict ∧ o.data = .dict es ep ∧ es.size = n
theorem RawD.typeIs {a : Addr} {n : Nat} (h : RawD s.heap a n) : s.TypeIs (.ref a) "dict" := by
  obtain ⟨o, es, ep, ho, hx, _⟩ := h
  exact ⟨o, ho, hx.1⟩
theorem pairs_empty {nm : String} {a b : Addr} {n : Nat} {Q : Bool → Shared → Prop} (ha : (a == sysModules) = false) (hb : (b == sysModules) = false) (da : RawD s.heap a n) (db : RawD s.heap b 0) (h : Q (decide (n = 0)) s) :
    wpAny (model prog w) A (Builtin.Dict.samePairs nm a b) Q E s := by
  obtain ⟨oa, es, ep, hoa, _, hda, rfl⟩ := da
  obtain ⟨ob, es', ep', hob, _, hdb, hz⟩ := db
  unfold Builtin.Dict.samePairs Builtin.Dict.showsAll
  rw [if_neg (show ¬ (a == sysModules) = true by rw [ha]; exact Bool.false_ne_true), if_neg (show ¬ (b == sysModules) = true by rw [hb]; exact Bool.false_ne_true)]
  refine wpAny_bind (wpAny_pure (wpAny_bind (wpAny_pure ?_)))
  refine wpAny_bind (wpAny_dictEntries hoa hda ?_)
  dsimp only
  refine wpAny_bind (wpAny_dictEntries hob hdb ?_)
  rw [hz]
  by_cases hsz : es.size = 0
  case neg =>
    rw [if_pos (by simpa using hsz)]
    rw [decide_eq_false hsz] at h
    exact wpAny_bind (wpAny_rule (wpAny_pure h))
  case pos =>
    rw [decide_eq_true hsz] at h
    rw [if_neg (by rw [hsz]; simp)]
    refine wpAny_bind (wpAny_dictEpoch hoa hda ?_)
    refine wpAny_bind ?_
    rw [Std.Legacy.Range.forIn_eq_forIn_range']
    simp only [Std.Legacy.Range.size, Nat.sub_zero, Nat.add_sub_cancel, Nat.div_one, hsz]
    exact wpAny_pure (wpAny_pure h)
end
section
variable {X : Cx}
def rEqE : R2 := fun x y H Q => ∃ (a b : Addr) (kvs : List (List Key × V)), x = .ref a ∧ y = .ref b ∧ H a = some (.dT kvs) ∧ H b = some (.dT []) ∧ Q (.bl (decide (kvs = []))) H
theorem raw_dT {pins : List (Addr × Obj)} {s : Shared} {σ : L2.St} {H : Hp} {a : Addr} {kvs : List (List Key × V)} (I : Inv X pins σ H s) (e : H a = some (.dT kvs)) : (a == sysModules) = false ∧ RawD s.heap a kvs.length := by
  obtain ⟨_, y, xs, r, o, es, ep, h1, h2, h3, h4, _⟩ := (show ObjOk X.prog X.w H s.heap a (.dT kvs) from I.hok a _ e)
  refine ⟨y, o, es, ep, h1, h2, h3, ?_⟩
  have l1 := congrArg List.length h4
  rw [List.length_map] at l1
  have l2 := Paired.length r
  simpa [l2] using l1
theorem op_eqE (hu : X.A.units + 64 < cLine) : OpR X (compareOp .Eq) rEqE := by
  intro pins s σ H x y v u Q I rx ry h
  obtain ⟨a, b, kvs, rfl, rfl, ea, eb, q⟩ := h
  obtain rfl : v = Value.ref a := rx
  obtain rfl : u = Value.ref b := ry
  obtain ⟨ya, da⟩ := raw_dT I ea
  obtain ⟨yb, db⟩ := raw_dT I eb
  have hu2 : X.A.units < cLine := by omega
  refine wpAny_richCompare_same_room (op := .Eq) da.typeIs db.typeIs PySem.F.slot_dict_eq (wpAny_call_entry PySem.F.slot_dict_eq da.typeIs PySem.F.entry_dict_eq ?_ (PySem.F.args_dict_eq_2 _ _)) hu2
  show wpAny _ _ (Builtin.Dict.dictSlotArgs "__eq__" ⟨[.ref a, .ref b], []⟩ >>= _) _ _ s
  refine wpAny_bind ?_
  unfold Builtin.Dict.dictSlotArgs
  refine wpAny_bind (wpAny_notOrdered_dict da.typeIs ?_)
  show wpAny _ _ (pure (Value.ref a, Value.ref b)) _ _ s
  refine wpAny_pure ?_
  refine wpAny_bind (wpAny_isInstance (T := "dict") db.typeIs PySem.F.sub_dict_dict ?_)
  simp only [Bool.not_true, Bool.false_eq_true, if_false]
  refine wpAny_bind (wpAny_pure (wpAny_bind (wpAny_pure ?_)))
  refine wpAny_bind (pairs_empty ya yb da db ?_)
  refine wpAny_pure ⟨_, rfl, ?_, ?_⟩
  · exact fun x => nomatch x
  · exact fin_bl I q (by simp)
end
end Sq

set_option Elab.async false
set_option linter.all false
set_option maxRecDepth 100000
set_option maxHeartbeats 4000000
/-! A body of two squares or more has a free square with an empty cell at one of its sides. -/
namespace Sq
open PySem PySem.Spec PyProof.Rows L2
end Sq

set_option Elab.async false
set_option linter.all false
set_option maxRecDepth 100000
set_option maxHeartbeats 4000000
/-! Dicts whose keys are nested tuples. -/
namespace Sq
open PySem PySem.Spec PyProof.Rows L2
abbrev NK := NestedKey
mutual
/-- the key that a datum is -/
def nkD : PyData → NK
  | .none => .none
  | .bool b => .num (if b = true then 1 else 0)
  | .int i => .num i
  | .str x => .text x
  | .tuple ds => .tup (nkAll ds)
  | .list _ => .none
  | .dict _ => .none
def nkAll : List PyData → List NK
  | [] => []
  | d :: ds => nkD d :: nkAll ds
end
mutual
def keyD : PyData → Bool
  | .list _ => false
  | .dict _ => false
  | .tuple ds => keyAll ds
  | _ => true
def keyAll : List PyData → Bool
  | [] => true
  | d :: ds => keyD d && keyAll ds
end
/-- the tuple at b is the key k -/
structure NAt (K : PySem.W.Frag) (H : Hp) (b : Addr) (k : NK) : Prop where
  ex : ∃ d, Dp K H (.ref b) d ∧ keyD d = true ∧ nkD d = k
  dep : k.depth ≤ 8
abbrev NEnt := Addr × NK × V
def ofN (P : Program) (w : World) (l : NEnt) (x : NK × Addr × Value) : Prop := x.1 = l.2.1 ∧ x.2.1 = l.1 ∧ RelV l.2.2 x.2.2
/-- a dict with these entries stands at a -/
def DNO (P : Program) (w : World) (a : Addr) (L : List NEnt) : HO := .ext fun h => L.length ≤ sizeLine ∧ (a == sysModules) = false ∧ ∃ (xs : List (NK × Addr × Value)) (o : Obj) (es : Array DictEntry) (ep : Nat), Paired (ofN P w) L xs ∧ h.get? a = some o ∧ o.ExactDict ∧ o.data = .dict es ep ∧ es.toList = xs.map (entryOfKey (nestedKind P w)) ∧ (xs.map (·.1)).Nodup
def DN (P : Program) (w : World) (H : Hp) (a : Addr) (L : List NEnt) : Prop := H a = some (DNO P w a L) ∨ (L = [] ∧ H a = some (.dT []))
def valN (L : List NEnt) (k : NK) : Option V := (L.find? fun l => decide (l.2.1 = k)).map (·.2.2)
def putN (L : List NEnt) (b : Addr) (k : NK) (v : V) : List NEnt := if (L.any fun l => decide (l.2.1 = k)) = true then L.map fun l => if l.2.1 = k then (l.1, l.2.1, v) else l else L ++ [(b, k, v)]
theorem valN_any {L : List NEnt} {k : NK} : (L.any fun l => decide (l.2.1 = k)) = (valN L k).isSome := by
  unfold valN
  rw [Option.isSome_map]
  induction L with
  | nil => rfl
  | cons l L ih =>
    rw [List.any_cons, List.find?_cons]
    by_cases h : l.2.1 = k
    · rw [decide_eq_true h]
      rfl
    · rw [decide_eq_false h, Bool.false_or]
      exact ih
theorem putN_len {L : List NEnt} {b : Addr} {k : NK} {v : V} : (putN L b k v).length ≤ L.length + 1 := by
  unfold putN
  split
  · rw [List.length_map]
    exact Nat.le_succ _
  · rw [List.length_append]
    exact Nat.le_refl _
section
variable {X : Cx} {pins : List (Addr × Obj)} {σ : L2.St} {H : Hp} {s : Shared} {a b : Addr} {k : NK} {L : List NEnt}
end
end Sq

set_option Elab.async false
set_option linter.all false
set_option maxRecDepth 100000
set_option maxHeartbeats 4000000
/-! Dicts whose keys are nested tuples: gone through, made, sorted. -/
namespace Sq
open PySem PySem.Spec PyProof.Rows L2
section
variable {X : Cx} {pins : List (Addr × Obj)} {σ : L2.St} {H : Hp} {s : Shared} {d : Addr} {o : Obj}
end
/-! ### sorted -/
section
variable {X : Cx}
end
end Sq

set_option Elab.async false
set_option linter.all false
set_option maxRecDepth 100000
set_option maxHeartbeats 4000000
/-! repr of any value. -/
namespace Sq
open PySem PySem.Spec PyProof.Rows L2
end Sq

set_option Elab.async false
set_option linter.all false
set_option maxRecDepth 100000
set_option maxHeartbeats 4000000
/-! == of two tuples of the same simple values. -/
namespace Sq
open PySem PySem.Spec PyProof.Rows L2
end Sq

set_option Elab.async false
set_option linter.all false
set_option maxRecDepth 100000
set_option maxHeartbeats 4000000
/-! sorted of a list of data, what its values are kept. -/
namespace Sq
open PySem PySem.Spec PyProof.Rows L2
section
variable {X : Cx}
end
end Sq

set_option Elab.async false
set_option linter.all false
set_option maxRecDepth 100000
set_option maxHeartbeats 8000000
/-! name = {k: v for .. for ..}, the name a local. -/
namespace Sq
open PySem PySem.Spec PyProof.Rows L2
section
variable {prog : Program} {w : World} {A : Around} {R : Result → Shared → Prop} {kx vx t0 i0 t1 i1 : Expr} {c0 c1 : List Expr} {sc : Scope} {pos : Pos} {wk acc : Value} {env : Env}
end
section
variable {X : Cx}
end
end Sq

set_option Elab.async false
set_option linter.all false
set_option maxRecDepth 100000
set_option maxHeartbeats 4000000
/-! setdefault of a dict with tuples as keys. -/
namespace Sq
open PySem PySem.Spec PyProof.Rows L2
theorem dt_setd {X : Cx} {ps : List (Addr × Obj)} {τ : L2.St} {G : Hp} {z : Shared} {Ar : Around} {Er : Value → Shared → Prop} {a b : Addr} {r : Value} {y : V} {k : List Key} {kvs : List (List Key × V)} {Qp : Value → Shared → Prop} (room : Ar.units + 1 < cLine) (J : Inv X ps τ G z)
    (ea : G a = some (.dT kvs)) (eb : G b = some (.tup (k.map kV))) (ry : RelV y r) (few : kvs.length < sizeLine) (old : ∀ v, valV kvs k = some v → ∀ u z', Inv X ps τ G z' → RelV v u → Qp u z') (new : valV kvs k = none → ∀ u z', Inv X ps τ (upd G a (.dT (putK kvs k y))) z' → RelV y u → Qp u z') :
    wpAny (model X.prog X.w) Ar (call (.builtin "dict.setdefault") [.ref a, .ref b, r]) Qp Er z := by
  obtain ⟨hz, hsys, xs, kt, dd⟩ := dt_of J.hok ea
  have hxs : xs.length ≤ sizeLine := by rw [← Paired.length kt]; exact hz
  have there := kt.val k
  refine call_meetsIn PySem.F.slot_dict_setdefault dd.typeIs PySem.F.entry_dict_setdefault (PySem.F.args_dict_setdefault_3 _ _ _) (meetsH_dict_setdefault (tupleKind (mixKind X.prog X.w)) a b hsys r)
    ⟨tupleKind_room_in1 room, k, xs, key_of J.hok eb, dd, hxs, fun p hp => ?_, fun hn h2 dd2 same => ?_⟩
  · rw [hp] at there
    cases q : valV kvs k with
    | none => rw [q] at there; exact (show False from there).elim
    | some v => rw [q] at there; exact old v q _ _ (J.tok _) there
  · rw [hn] at there
    cases q : valV kvs k with
    | some v => rw [q] at there; exact (show False from there).elim
    | none =>
      have fits : (putK kvs k y).length ≤ sizeLine := Nat.le_trans (length_putK kvs k y) few
      obtain ⟨o2, en, ep, eo, c2, c3, c4, _, c5⟩ := dd2
      refine new q _ _ (d_write J (by rw [ea]; exact True.intro) same ⟨o2, eo⟩ ⟨fits, hsys, _, (kt.put k eb ry).keeps fun c ys ec => ?_, o2, en, ep, eo, c2, c3, c4, c5⟩) ry
      rw [upd_ne (ne_of ec ea (fun t => nomatch t))]
      exact ec
/-- d.setdefault(y, z), d a dict with tuples as keys -/
def tSetdT (td ty tx : TE) : TE := fun σ H Q => td σ H fun x H1 => ∃ a, x = V.ref a ∧ IsD H1 a ∧ ty σ H1 fun y H2 => tx σ H2 fun z H3 => ∃ (kvs : List (List Key × V)) (k : List Key) (b : Addr),
  H3 a = some (.dT kvs) ∧ y = V.ref b ∧ H3 b = some (.tup (k.map kV)) ∧ kvs.length < sizeLine ∧ (∀ v, valV kvs k = some v → Q v H3) ∧ (valV kvs k = none → Q z (upd H3 a (.dT (putK kvs k z))))
section
variable {X : Cx}
theorem pe_setdT {o e f : Expr} {td ty tx : TE} {apos cpos : Pos} (room : X.A.units + 1 < cLine) (po : PE X o td) (pe : PE X e ty) (pf : PE X f tx) (m : M2 X o "setdefault" apos e f cpos) : PE X (.Call (.Attribute o "setdefault" apos) [e, f] [] cpos) (tSetdT td ty tx) := by
  refine ⟨fun pins s σ H Q I asked => ?_⟩
  refine wpAny_Call_method m.base m.few m.line PySem.F.plainAttrs_dict PySem.F.slot_dict_setdefault PySem.F.type_dict_setdefault (thn (po.run pins s σ H _ I asked) fun u s1 ⟨x, H1, I1, rx, a, ex, isd, q1⟩ => ?_)
  subst ex
  obtain rfl : u = Value.ref a := rx
  obtain ⟨ty1, ty2, _⟩ := isD_at I1 isd
  refine ⟨ty1, ty2, ?_⟩
  rw [m.trees]
  refine Calls.callWith_builtin rfl (Calls.evalArgs_plain (Calls.spliced_cons (thn (pe.run pins s1 σ H1 _ I1 q1) fun iv s2 ⟨y, H2, I2, ry, q2⟩ => Calls.spliced_cons (thn (pf.run pins s2 σ H2 _ I2 q2) fun fv s3 ⟨z, H3, I3, rz, kvs, k, b, ea, ey, eb, few, q3, q4⟩ => Calls.spliced_nil ?_))))
  subst ey
  obtain rfl : iv = Value.ref b := ry
  exact dt_setd room I3 ea eb rz few (fun v hv u z' J ru => ⟨v, _, J, ru, q3 v hv⟩) fun hn u z' J ru => ⟨z, _, J, ru, q4 hn⟩
end
end Sq

set_option Elab.async false
set_option linter.all false
set_option maxRecDepth 100000
set_option maxHeartbeats 2000000
/-! Sides of empty cells, the walk along them, and that it meets all sides of a region. -/
namespace Sq
abbrev Side := Cell × Cell
/-- an empty cell beside a square -/
structure IsSide (R : List Cell) (e : Side) : Prop where
  out : e.1 ∉ R
  sq : e.2 ∈ R
  bs : e.2 ∈ besideC e.1
def aheadS (e : Side) : Cell := (e.1.1 - (e.2.2 - e.1.2), e.1.2 + (e.2.1 - e.1.1))
def beyondS (e : Side) : Cell := ((aheadS e).1 + (e.2.1 - e.1.1), (aheadS e).2 + (e.2.2 - e.1.2))
/-- the side behind this one -/
def nextS (R : List Cell) (e : Side) : Side := if aheadS e ∈ R then (e.1, aheadS e) else if beyondS e ∈ R then (aheadS e, beyondS e) else (beyondS e, e.2)
def backS (e : Side) : Cell := (e.1.1 + (e.2.2 - e.1.2), e.1.2 - (e.2.1 - e.1.1))
def backT (e : Side) : Cell := (e.2.1 + (e.2.2 - e.1.2), e.2.2 - (e.2.1 - e.1.1))
/-- the side ahead of this one -/
def prevS (R : List Cell) (e : Side) : Side := if backS e ∈ R then (e.1, backS e) else if backT e ∈ R then (backS e, backT e) else (backT e, e.2)
section
variable {R : List Cell} {e : Side}
theorem beside_or {c s : Cell} (h : s ∈ besideC c) : (s.1 - c.1 = -1 ∧ s.2 - c.2 = 0) ∨ (s.1 - c.1 = 0 ∧ s.2 - c.2 = -1) ∨ (s.1 - c.1 = 1 ∧ s.2 - c.2 = 0) ∨ (s.1 - c.1 = 0 ∧ s.2 - c.2 = 1) := by
  have := beside_iff.mp h
  omega
theorem next_side (h : IsSide R e) : IsSide R (nextS R e) := by
  obtain ⟨⟨c1, c2⟩, ⟨s1, s2⟩⟩ := e
  have hb := beside_or h.bs
  dsimp only at hb
  unfold nextS
  split
  · rename_i h1
    refine ⟨h.out, h1, ?_⟩
    rw [beside_iff]
    simp only [aheadS]
    omega
  · rename_i h1
    split
    · rename_i h2
      refine ⟨h1, h2, ?_⟩
      rw [beside_iff]
      simp only [beyondS, aheadS]
      omega
    · rename_i h2
      refine ⟨h2, h.sq, ?_⟩
      rw [beside_iff]
      simp only [beyondS, aheadS]
      omega
theorem prev_next (h : IsSide R e) : prevS R (nextS R e) = e := by
  obtain ⟨⟨c1, c2⟩, ⟨s1, s2⟩⟩ := e
  have ho : (c1, c2) ∉ R := h.out
  have hs : (s1, s2) ∈ R := h.sq
  unfold nextS
  split
  · rename_i h1
    have e1 : backS ((c1, c2), aheadS ((c1, c2), (s1, s2))) = (s1, s2) := Prod.ext (by simp only [backS, aheadS]; omega) (by simp only [backS, aheadS]; omega)
    unfold prevS
    rw [if_pos (by rw [e1]; exact hs), e1]
  · rename_i h1
    split
    · rename_i h2
      have e1 : backS (aheadS ((c1, c2), (s1, s2)), beyondS ((c1, c2), (s1, s2))) = (c1, c2) := Prod.ext (by simp only [backS, beyondS, aheadS]; omega) (by simp only [backS, beyondS, aheadS]; omega)
      have e2 : backT (aheadS ((c1, c2), (s1, s2)), beyondS ((c1, c2), (s1, s2))) = (s1, s2) := Prod.ext (by simp only [backT, beyondS, aheadS]; omega) (by simp only [backT, beyondS, aheadS]; omega)
      unfold prevS
      rw [if_neg (by rw [e1]; exact ho), if_pos (by rw [e2]; exact hs), e1, e2]
    · rename_i h2
      have e1 : backS (beyondS ((c1, c2), (s1, s2)), (s1, s2)) = aheadS ((c1, c2), (s1, s2)) := Prod.ext (by simp only [backS, beyondS, aheadS]; omega) (by simp only [backS, beyondS, aheadS]; omega)
      have e2 : backT (beyondS ((c1, c2), (s1, s2)), (s1, s2)) = (c1, c2) := Prod.ext (by simp only [backT, beyondS, aheadS]; omega) (by simp only [backT, beyondS, aheadS]; omega)
      unfold prevS
      dsimp only
      rw [if_neg (by rw [e1]; exact h1), if_neg (by rw [e2]; exact ho), e2]
theorem next_inj {e' : Side} (h : IsSide R e) (h' : IsSide R e') (k : nextS R e = nextS R e') : e = e' := by rw [← prev_next h, k, prev_next h']
end
/-! ### odd and even -/
def xorL (p : Side → Bool) : List Side → Bool
  | [] => false
  | e :: O => xor (p e) (xorL p O)
theorem xorL_xor (p q : Side → Bool) : ∀ O, xorL (fun e => xor (p e) (q e)) O = xor (xorL p O) (xorL q O)
  | [] => rfl
  | e :: O => by
    simp only [xorL, xorL_xor p q O]
    cases p e <;> cases q e <;> cases xorL p O <;> cases xorL q O <;> rfl
theorem xorL_perm {p : Side → Bool} {O O' : List Side} (h : O.Perm O') : xorL p O = xorL p O' := by
  induction h with
  | nil => rfl
  | cons _ _ ih => simp only [xorL, ih]
  | swap x y l =>
    simp only [xorL]
    cases p x <;> cases p y <;> cases xorL p l <;> rfl
  | trans _ _ a b => exact a.trans b
theorem xorL_map (p : Side → Bool) (f : Side → Side) : ∀ O : List Side, xorL p (O.map f) = xorL (fun e => p (f e)) O
  | [] => rfl
  | e :: O => by simp only [List.map_cons, xorL, xorL_map p f O]
theorem xorL_congr {p q : Side → Bool} : ∀ {O : List Side}, (∀ e ∈ O, p e = q e) → xorL p O = xorL q O
  | [], _ => rfl
  | e :: O, h => by simp only [xorL, h e (List.mem_cons_self ..), xorL_congr fun x hx => h x (List.mem_cons_of_mem _ hx)]
theorem xorL_none {p : Side → Bool} : ∀ {O : List Side}, (∀ e ∈ O, p e = false) → xorL p O = false
  | [], _ => rfl
  | e :: O, h => by
    simp only [xorL, h e (List.mem_cons_self ..), xorL_none fun x hx => h x (List.mem_cons_of_mem _ hx)]
    rfl
theorem xorL_one {p : Side → Bool} {a : Side} : ∀ {O : List Side}, O.Nodup → a ∈ O → p a = true → (∀ e ∈ O, p e = true → e = a) → xorL p O = true
  | e :: O, nd, ha, pa, one => by
    obtain ⟨n1, n2⟩ := List.nodup_cons.mp nd
    rcases List.mem_cons.mp ha with rfl | m
    · have : xorL p O = false := xorL_none fun x hx => by
        cases q : p x with
        | false => rfl
        | true => exact absurd (one x (List.mem_cons_of_mem _ hx) q ▸ hx) n1
      simp only [xorL, pa, this]
      rfl
    · have pe : p e = false := by
        cases q : p e with
        | false => rfl
        | true => exact absurd (one e (List.mem_cons_self ..) q ▸ m) n1
      simp only [xorL, pe, xorL_one n2 m pa fun x hx => one x (List.mem_cons_of_mem _ hx)]
      rfl
/-- the ends of a side's edge, all numbers doubled -/
def headV (e : Side) : Cell := (2 * e.1.1 + 1 + (e.2.1 - e.1.1) - (e.2.2 - e.1.2), 2 * e.1.2 + 1 + (e.2.2 - e.1.2) + (e.2.1 - e.1.1))
def tailV (e : Side) : Cell := (2 * e.1.1 + 1 + (e.2.1 - e.1.1) + (e.2.2 - e.1.2), 2 * e.1.2 + 1 + (e.2.2 - e.1.2) - (e.2.1 - e.1.1))
theorem tail_next (R : List Cell) (e : Side) : tailV (nextS R e) = headV e := by
  obtain ⟨⟨c1, c2⟩, ⟨s1, s2⟩⟩ := e
  unfold nextS
  split
  · exact Prod.ext (by simp only [tailV, headV, aheadS]; omega) (by simp only [tailV, headV, aheadS]; omega)
  · split
    · exact Prod.ext (by simp only [tailV, headV, beyondS, aheadS]; omega) (by simp only [tailV, headV, beyondS, aheadS]; omega)
    · exact Prod.ext (by simp only [tailV, headV, beyondS, aheadS]; omega) (by simp only [tailV, headV, beyondS, aheadS]; omega)
/-- the sides of a closed walk -/
structure Closed (R : List Cell) (O : List Side) : Prop where
  nd : O.Nodup
  sd : ∀ e ∈ O, IsSide R e
  nx : ∀ e ∈ O, nextS R e ∈ O
section
variable {R : List Cell} {O : List Side}
theorem Closed.perm (h : Closed R O) : (O.map (nextS R)).Perm O := by
  have nd : (O.map (nextS R)).Nodup := by
    refine List.pairwise_map.mpr (h.nd.imp_of_mem fun {x y} hx hy ne k => ne (next_inj (h.sd x hx) (h.sd y hy) k))
  refine (List.perm_ext_iff_of_nodup nd h.nd).mpr fun x => ⟨fun hx => ?_, fun hx => ?_⟩
  · obtain ⟨e, he, rfl⟩ := List.mem_map.mp hx
    exact h.nx e he
  · exact all_of_len nd (fun y hy => by
      obtain ⟨e, he, rfl⟩ := List.mem_map.mp hy
      exact h.nx e he) h.nd (List.length_map ..) x hx
/-- as many walks end at a place as begin there -/
theorem Closed.even (h : Closed R O) (p : Cell → Bool) : xorL (fun e => p (headV e)) O = xorL (fun e => p (tailV e)) O := by
  rw [← xorL_perm h.perm (p := fun e => p (tailV e)), xorL_map]
  exact xorL_congr fun e _ => by rw [tail_next]
/-- whether an odd number of walls lies to the east of a cell -/
def oddE (O : List Side) (z : Cell) : Bool := xorL (fun e => decide (e.2.2 = e.1.2 ∧ e.1.2 = z.2 ∧ 2 * z.1 + 1 < 2 * e.1.1 + 1 + (e.2.1 - e.1.1))) O
def betw (z y : Cell) (e : Side) : Bool := decide ((e.1 = z ∧ e.2 = y) ∨ (e.1 = y ∧ e.2 = z))
theorem xor_dec {a b : Prop} [Decidable a] [Decidable b] : (xor (decide a) (decide b) = true) ↔ ¬ (a ↔ b) := by
  by_cases x : a <;> by_cases y : b <;> simp [x, y]
theorem odd_east (h : Closed R O) (z : Cell) : xor (oddE O z) (oddE O (z.1 + 1, z.2)) = xorL (betw z (z.1 + 1, z.2)) O := by
  unfold oddE
  rw [← xorL_xor]
  refine xorL_congr fun e he => ?_
  obtain ⟨⟨c1, c2⟩, ⟨s1, s2⟩⟩ := e
  obtain ⟨z1, z2⟩ := z
  have hb := beside_or (h.sd _ he).bs
  dsimp only at hb
  simp only [betw, Prod.mk.injEq]
  rw [Bool.eq_iff_iff, xor_dec, decide_eq_true_iff]
  omega
theorem odd_north (h : Closed R O) (z : Cell) : xor (oddE O z) (oddE O (z.1, z.2 + 1)) = xorL (betw z (z.1, z.2 + 1)) O := by
  have ev := h.even fun v => decide (v.2 = 2 * z.2 + 2 ∧ 2 * z.1 + 1 < v.1)
  have key : xorL (fun e => xor (decide ((headV e).2 = 2 * z.2 + 2 ∧ 2 * z.1 + 1 < (headV e).1)) (decide ((tailV e).2 = 2 * z.2 + 2 ∧ 2 * z.1 + 1 < (tailV e).1))) O = false := by
    rw [xorL_xor, ev]
    cases xorL (fun e => decide ((tailV e).2 = 2 * z.2 + 2 ∧ 2 * z.1 + 1 < (tailV e).1)) O <;> rfl
  have key2 : xorL (fun e => xor (xor (decide (e.2.2 = e.1.2 ∧ e.1.2 = z.2 ∧ 2 * z.1 + 1 < 2 * e.1.1 + 1 + (e.2.1 - e.1.1))) (decide (e.2.2 = e.1.2 ∧ e.1.2 = z.2 + 1 ∧ 2 * z.1 + 1 < 2 * e.1.1 + 1 + (e.2.1 - e.1.1)))) (betw z (z.1, z.2 + 1) e)) O = false := by
    rw [← key]
    refine xorL_congr fun e he => ?_
    obtain ⟨⟨c1, c2⟩, ⟨s1, s2⟩⟩ := e
    obtain ⟨z1, z2⟩ := z
    have hb := beside_or (h.sd _ he).bs
    dsimp only at hb
    simp only [betw, headV, tailV, Prod.mk.injEq]
    have cases4 : ∀ (p q r u v : Prop) [Decidable p] [Decidable q] [Decidable r] [Decidable u] [Decidable v], (((¬(p ↔ q)) ↔ ¬ r) ↔ ¬ (u ↔ v)) → (xor (xor (decide p) (decide q)) (decide r) = xor (decide u) (decide v)) := fun p q r u v _ _ _ _ _ hh => by
      by_cases p <;> by_cases q <;> by_cases r <;> by_cases u <;> by_cases v <;> simp_all
    refine cases4 _ _ _ _ _ ?_
    rcases hb with ⟨h1, h2⟩ | ⟨h1, h2⟩ | ⟨h1, h2⟩ | ⟨h1, h2⟩
    · obtain ⟨a, ha⟩ : ∃ a, s1 = a := ⟨_, rfl⟩
      obtain rfl : c1 = a + 1 := by omega
      obtain rfl : c2 = s2 := by omega
      subst ha
      have f : ∀ x : Int, 2 * c2 + 1 + (c2 - c2) + (s1 - (s1 + 1)) = x ↔ 2 * c2 = x := fun x => by omega
      have g : ∀ x : Int, 2 * c2 + 1 + (c2 - c2) - (s1 - (s1 + 1)) = x ↔ 2 * c2 + 2 = x := fun x => by omega
      rw [f, g]
      by_cases e1 : c2 = z2
      · omega
      · by_cases e2 : c2 = z2 + 1
        · omega
        · omega
    · by_cases e1 : c2 = z2 + 1
      · omega
      · omega
    · obtain ⟨a, ha⟩ : ∃ a, s1 = a := ⟨_, rfl⟩
      obtain rfl : c1 = a - 1 := by omega
      obtain rfl : c2 = s2 := by omega
      subst ha
      by_cases e1 : c2 = z2
      · omega
      · by_cases e2 : c2 = z2 + 1
        · omega
        · omega
    · by_cases e1 : c2 = z2
      · omega
      · omega
  rw [xorL_xor, xorL_xor] at key2
  unfold oddE
  revert key2
  cases xorL (fun e => decide (e.2.2 = e.1.2 ∧ e.1.2 = z.2 ∧ 2 * z.1 + 1 < 2 * e.1.1 + 1 + (e.2.1 - e.1.1))) O <;> cases xorL (fun e => decide (e.2.2 = e.1.2 ∧ e.1.2 = z.2 + 1 ∧ 2 * z.1 + 1 < 2 * e.1.1 + 1 + (e.2.1 - e.1.1))) O <;> cases xorL (betw z (z.1, z.2 + 1)) O <;> simp
end
end Sq

set_option Elab.async false
set_option linter.all false
set_option maxRecDepth 100000
set_option maxHeartbeats 2000000
/-! A closed walk along a body that hangs together meets all sides of its region. -/
namespace Sq
/-- from cell to cell through what is empty -/
inductive Air (R : List Cell) (a : Cell) : Cell → Prop where
  | refl : Air R a a
  | step {b c : Cell} : Air R a b → c ∈ besideC b → c ∉ R → Air R a c
theorem Air.trans {R : List Cell} {a b c : Cell} (h : Air R a b) (k : Air R b c) : Air R a c := by
  induction k with
  | refl => exact h
  | step _ hb hc ih => exact .step ih hb hc
theorem Air.out {R : List Cell} {a b : Cell} (h : Air R a b) (ha : a ∉ R) : b ∉ R := by
  cases h with
  | refl => exact ha
  | step _ _ hc => exact hc
theorem Air.symm {R : List Cell} {a b : Cell} (h : Air R a b) (ha : a ∉ R) : Air R b a := by
  induction h with
  | refl => exact .refl
  | @step b c hab hb hc ih => exact (Air.step .refl (beside_symm hb) (hab.out ha)).trans ih
section
variable {R : List Cell} {O : List Side}
theorem betw_comm (z y : Cell) (e : Side) : betw z y e = betw y z e := by
  unfold betw
  exact decide_eq_decide.mpr or_comm
theorem odd_beside (h : Closed R O) {z y : Cell} (hy : y ∈ besideC z) : xor (oddE O z) (oddE O y) = xorL (betw z y) O := by
  obtain ⟨z1, z2⟩ := z
  obtain ⟨y1, y2⟩ := y
  have cm : ∀ a b : Bool, xor a b = xor b a := fun a b => by cases a <;> cases b <;> rfl
  rcases beside_iff.mp hy with ⟨e1, e2⟩ | ⟨e1, e2⟩ | ⟨e1, e2⟩ | ⟨e1, e2⟩ <;> dsimp only at e1 e2
  · have ez : ((z1, z2) : Cell) = (y1 + 1, y2) := Prod.ext (by dsimp only; omega) (by dsimp only; omega)
    rw [ez, cm, xorL_congr fun e _ => betw_comm _ _ e]
    exact odd_east h (y1, y2)
  · have ez : ((z1, z2) : Cell) = (y1, y2 + 1) := Prod.ext (by dsimp only; omega) (by dsimp only; omega)
    rw [ez, cm, xorL_congr fun e _ => betw_comm _ _ e]
    exact odd_north h (y1, y2)
  · have ez : ((y1, y2) : Cell) = (z1 + 1, z2) := Prod.ext (by dsimp only; omega) (by dsimp only; omega)
    rw [ez]
    exact odd_east h (z1, z2)
  · have ez : ((y1, y2) : Cell) = (z1, z2 + 1) := Prod.ext (by dsimp only; omega) (by dsimp only; omega)
    rw [ez]
    exact odd_north h (z1, z2)
theorem xor_eq {a b : Bool} (h : xor a b = false) : a = b := by cases a <;> cases b <;> simp_all
theorem odd_same (h : Closed R O) {z y : Cell} (hy : y ∈ besideC z) (no : (z, y) ∉ O) (no' : (y, z) ∉ O) : oddE O z = oddE O y := by
  refine xor_eq ?_
  rw [odd_beside h hy]
  refine xorL_none fun e he => ?_
  cases q : betw z y e with
  | false => rfl
  | true =>
    obtain ⟨c, s⟩ := e
    rcases of_decide_eq_true q with ⟨rfl, rfl⟩ | ⟨rfl, rfl⟩
    · exact absurd he no
    · exact absurd he no'
theorem odd_diff (h : Closed R O) {c s : Cell} (m : (c, s) ∈ O) : oddE O c ≠ oddE O s := by
  have sd := h.sd _ m
  have : xor (oddE O c) (oddE O s) = true := by
    rw [odd_beside h sd.bs]
    refine xorL_one h.nd m (decide_eq_true (.inl ⟨rfl, rfl⟩)) fun e he q => ?_
    obtain ⟨c', s'⟩ := e
    rcases of_decide_eq_true q with ⟨rfl, rfl⟩ | ⟨e1, e2⟩
    · rfl
    · dsimp only at e1 e2
      exact absurd (e1 ▸ sd.sq) (h.sd _ he).out
  intro e
  rw [e] at this
  cases q : oddE O s <;> rw [q] at this <;> cases this
theorem odd_squares (h : Closed R O) {a b : Cell} (ha : a ∈ R) (k : Reach R a b) : oddE O a = oddE O b := by
  induction k with
  | refl => rfl
  | @step b c hab hb hc ih =>
    rw [ih]
    exact odd_same h hb (fun m => (h.sd _ m).out (hab.mem ha)) fun m => (h.sd _ m).out hc
theorem odd_air (h : Closed R O) {a b : Cell} (ha : a ∉ R) (k : Air R a b) : oddE O a = oddE O b := by
  induction k with
  | refl => rfl
  | @step b c hab hb hc ih =>
    rw [ih]
    exact odd_same h hb (fun m => hc (h.sd _ m).sq) fun m => hab.out ha (h.sd _ m).sq
/-- all sides of the region are met -/
theorem ring_all (hR : Hangs R) (h : Closed R O) {e : Side} (he : e ∈ O) {c s : Cell} (k : Air R e.1 c) (sd : IsSide R (c, s)) : (c, s) ∈ O := by
  refine Classical.byContradiction fun no => ?_
  have sd0 := h.sd _ he
  have e1 : oddE O c = oddE O s := odd_same h sd.bs no fun m => (h.sd _ m).out sd.sq
  have e2 := odd_squares h sd.sq (hR.2 s sd.sq e.2 sd0.sq)
  have e3 := odd_air h sd0.out k
  exact odd_diff h (c := e.1) (s := e.2) he (by rw [e3, e1, e2])
end
/-! ### the walk from a side -/
def iterS (R : List Cell) (e : Side) : Nat → Side
  | 0 => e
  | k + 1 => nextS R (iterS R e k)
section
variable {R : List Cell} {e : Side}
theorem iter_side (h : IsSide R e) : ∀ k, IsSide R (iterS R e k)
  | 0 => h
  | k + 1 => next_side (iter_side h k)
theorem iter_air (h : IsSide R e) : ∀ k, Air R e.1 (iterS R e k).1
  | 0 => .refl
  | k + 1 => by
    refine (iter_air h k).trans ?_
    have sd := iter_side h k
    show Air R _ (nextS R (iterS R e k)).1
    generalize iterS R e k = x at sd
    obtain ⟨⟨c1, c2⟩, ⟨s1, s2⟩⟩ := x
    have hb := beside_or sd.bs
    dsimp only at hb
    unfold nextS
    split
    · exact .refl
    · rename_i h1
      have a1 : aheadS ((c1, c2), (s1, s2)) ∈ besideC (c1, c2) := by
        rw [beside_iff]
        simp only [aheadS]
        omega
      split
      · exact .step .refl a1 h1
      · rename_i h2
        refine .step (.step .refl a1 h1) ?_ h2
        rw [beside_iff]
        simp only [beyondS, aheadS]
        omega
/-- all sides of the squares -/
def sidesL (R : List Cell) : List Side := R.flatMap fun s => (besideC s).map fun c => (c, s)
theorem mem_sidesL (h : IsSide R e) : e ∈ sidesL R := List.mem_flatMap.mpr ⟨e.2, h.sq, List.mem_map.mpr ⟨e.1, beside_symm h.bs, rfl⟩⟩
theorem sidesL_len : ∀ R : List Cell, (sidesL R).length = 4 * R.length
  | [] => rfl
  | s :: R => by
    have e : sidesL (s :: R) = ((besideC s).map fun c => (c, s)) ++ sidesL R := rfl
    rw [e, List.length_append, List.length_map, sidesL_len R, List.length_cons]
    show 4 + _ = _
    omega
theorem iter_back (h : IsSide R e) : ∀ {i j : Nat}, iterS R e i = iterS R e (i + j) → iterS R e j = e
  | 0, j, k => by
    rw [Nat.zero_add] at k
    exact k.symm
  | i + 1, j, k => by
    refine iter_back h (i := i) ?_
    rw [show i + 1 + j = i + j + 1 by omega] at k
    exact next_inj (iter_side h i) (iter_side h (i + j)) k
/-- the walk comes back -/
theorem iter_ret (h : IsSide R e) : ∃ m, 1 ≤ m ∧ m ≤ 4 * R.length ∧ iterS R e m = e := by
  refine Classical.byContradiction fun no => ?_
  have inj : ∀ i j, i ≤ 4 * R.length → j ≤ 4 * R.length → iterS R e i = iterS R e j → i = j := fun i j hi hj k => by
    rcases Nat.lt_trichotomy i j with l | l | l
    · have := iter_back h (i := i) (j := j - i) (by rw [k]; congr 1; omega)
      exact absurd ⟨j - i, by omega, by omega, this⟩ no
    · exact l
    · have := iter_back h (i := j) (j := i - j) (by rw [← k]; congr 1; omega)
      exact absurd ⟨i - j, by omega, by omega, this⟩ no
  have nd : ((List.range (4 * R.length + 1)).map (iterS R e)).Nodup := by
    refine List.pairwise_map.mpr (List.nodup_range.imp_of_mem fun {x y} hx hy ne k => ne (inj x y ?_ ?_ k))
    · have := List.mem_range.mp hx; omega
    · have := List.mem_range.mp hy; omega
  have := len_le nd (ys := sidesL R) fun x hx => by
    obtain ⟨i, _, rfl⟩ := List.mem_map.mp hx
    exact mem_sidesL (iter_side h i)
  rw [List.length_map, List.length_range, sidesL_len] at this
  omega
/-- the ring: m sides, the first one e -/
structure RingOf (R : List Cell) (e : Side) (m : Nat) (O : List Side) : Prop where
  pos : 1 ≤ m
  ret : iterS R e m = e
  least : ∀ k, 1 ≤ k → k < m → iterS R e k ≠ e
  eq : O = (List.range m).map (iterS R e)
theorem RingOf.closed {m : Nat} {O : List Side} (h : IsSide R e) (r : RingOf R e m O) : Closed R O := by
  obtain ⟨pos, ret, least, rfl⟩ := r
  have inj : ∀ i j, i < m → j < m → iterS R e i = iterS R e j → i = j := fun i j hi hj k => by
    rcases Nat.lt_trichotomy i j with l | l | l
    · have := iter_back h (i := i) (j := j - i) (by rw [k]; congr 1; omega)
      exact absurd this (least _ (by omega) (by omega))
    · exact l
    · have := iter_back h (i := j) (j := i - j) (by rw [← k]; congr 1; omega)
      exact absurd this (least _ (by omega) (by omega))
  refine ⟨List.pairwise_map.mpr (List.nodup_range.imp_of_mem fun {x y} hx hy ne k => ne (inj x y (List.mem_range.mp hx) (List.mem_range.mp hy) k)), fun x hx => ?_, fun x hx => ?_⟩
  · obtain ⟨i, _, rfl⟩ := List.mem_map.mp hx
    exact iter_side h i
  · obtain ⟨i, hi, rfl⟩ := List.mem_map.mp hx
    have hi := List.mem_range.mp hi
    by_cases l : i + 1 = m
    · have e0 : nextS R (iterS R e i) = e := by
        have : iterS R e (i + 1) = e := by rw [l]; exact ret
        exact this
      rw [e0]
      exact List.mem_map.mpr ⟨0, List.mem_range.mpr (by omega), rfl⟩
    · exact List.mem_map.mpr ⟨i + 1, List.mem_range.mpr (by omega), rfl⟩
theorem RingOf.first {m : Nat} {O : List Side} (r : RingOf R e m O) : e ∈ O := by
  obtain ⟨pos, _, _, rfl⟩ := r
  exact List.mem_map.mpr ⟨0, List.mem_range.mpr (by omega), rfl⟩
theorem RingOf.mem {m : Nat} {O : List Side} (hR : Hangs R) (h : IsSide R e) (r : RingOf R e m O) {c s : Cell} : (c, s) ∈ O ↔ Air R e.1 c ∧ IsSide R (c, s) := by
  constructor
  · intro hm
    refine ⟨?_, (r.closed h).sd _ hm⟩
    obtain ⟨_, _, _, rfl⟩ := r
    obtain ⟨i, _, ei⟩ := List.mem_map.mp hm
    have := iter_air h i
    rw [ei] at this
    exact this
  · rintro ⟨k, sd⟩
    exact ring_all hR (r.closed h) r.first k sd
end
end Sq

set_option Elab.async false
set_option linter.all false
set_option maxRecDepth 100000
set_option maxHeartbeats 1000000
/-! Air within a window around a body. -/
namespace Sq
section
variable {l1 h1 l2 h2 : Int}
end
end Sq

set_option Elab.async false
set_option linter.all false
set_option maxRecDepth 100000
set_option maxHeartbeats 1000000
/-! Regions: straight ways through the air, what lies outside, the least cell of a region. -/
namespace Sq
section
variable {L : List Cell}
theorem air_east {c : Cell} : ∀ (k : Nat), (∀ i : Nat, i ≤ k → ((c.1 + (i : Int), c.2) : Cell) ∉ L) → Air L c (c.1 + (k : Int), c.2)
  | 0, _ => by
    have : ((c.1 + ((0 : Nat) : Int), c.2) : Cell) = c := Prod.ext (by show c.1 + ((0 : Nat) : Int) = c.1; omega) rfl
    rw [this]
    exact .refl
  | k + 1, h => .step (air_east k fun i hi => h i (by omega)) (beside_iff.mpr (.inr (.inr (.inl ⟨by show c.1 + ((k + 1 : Nat) : Int) = c.1 + (k : Int) + 1; omega, rfl⟩)))) (h (k + 1) (Nat.le_refl _))
theorem air_north {c : Cell} : ∀ (k : Nat), (∀ i : Nat, i ≤ k → ((c.1, c.2 + (i : Int)) : Cell) ∉ L) → Air L c (c.1, c.2 + (k : Int))
  | 0, _ => by
    have : ((c.1, c.2 + ((0 : Nat) : Int)) : Cell) = c := Prod.ext rfl (by show c.2 + ((0 : Nat) : Int) = c.2; omega)
    rw [this]
    exact .refl
  | k + 1, h => .step (air_north k fun i hi => h i (by omega)) (beside_iff.mpr (.inr (.inr (.inr ⟨rfl, by show c.2 + ((k + 1 : Nat) : Int) = c.2 + (k : Int) + 1; omega⟩)))) (h (k + 1) (Nat.le_refl _))
theorem air_row {x y v : Int} (le : x ≤ y) (h : ∀ z, x ≤ z → z ≤ y → ((z, v) : Cell) ∉ L) : Air L (x, v) (y, v) := by
  obtain ⟨k, hk⟩ := Int.eq_ofNat_of_zero_le (show 0 ≤ y - x by omega)
  have := air_east (L := L) (c := (x, v)) k fun i hi => h _ (by show x ≤ x + (i : Int); omega) (by show x + (i : Int) ≤ y; omega)
  rw [show ((x, v) : Cell).1 + (k : Int) = y by show x + (k : Int) = y; omega] at this
  exact this
theorem air_col {x u v : Int} (le : u ≤ v) (h : ∀ z, u ≤ z → z ≤ v → ((x, z) : Cell) ∉ L) : Air L (x, u) (x, v) := by
  obtain ⟨k, hk⟩ := Int.eq_ofNat_of_zero_le (show 0 ≤ v - u by omega)
  have := air_north (L := L) (c := (x, u)) k fun i hi => h _ (by show u ≤ u + (i : Int); omega) (by show u + (i : Int) ≤ v; omega)
  rw [show ((x, u) : Cell).2 + (k : Int) = v by show u + (k : Int) = v; omega] at this
  exact this
theorem air_row' {x y v : Int} (h : ∀ z, ((z, v) : Cell) ∉ L) : Air L (x, v) (y, v) := by
  by_cases le : x ≤ y
  · exact air_row le fun z _ _ => h z
  · exact (air_row (x := y) (y := x) (by omega) fun z _ _ => h z).symm (h y)
theorem air_col' {x u v : Int} (h : ∀ z, ((x, z) : Cell) ∉ L) : Air L (x, u) (x, v) := by
  by_cases le : u ≤ v
  · exact air_col le fun z _ _ => h z
  · exact (air_col (u := v) (v := u) (by omega) fun z _ _ => h z).symm (h v)
variable {l1 h1 l2 h2 : Int}
/-- all that lies outside is one region -/
theorem air_outside (box : ∀ c ∈ L, (l1 ≤ c.1 ∧ c.1 ≤ h1) ∧ (l2 ≤ c.2 ∧ c.2 ≤ h2)) {c : Cell} (h : c.1 < l1 ∨ h1 < c.1 ∨ c.2 < l2 ∨ h2 < c.2) : Air L (l1 - 1, l2 - 1) c := by
  have west : ∀ v : Int, Air L (l1 - 1, l2 - 1) (l1 - 1, v) := fun v => air_col' fun z m => by
    have := (box _ m).1.1
    dsimp only at this
    omega
  obtain ⟨x, y⟩ := c
  dsimp only at h
  rcases h with h | h | h | h
  · -- west of all
    refine (west y).trans ?_
    by_cases le : l1 - 1 ≤ x
    · exact air_row le fun z _ hz m => by
        have := (box _ m).1.1
        dsimp only at this
        omega
    · exact (air_row (x := x) (y := l1 - 1) (by omega) fun z _ hz m => by
        have := (box _ m).1.1
        dsimp only at this
        omega).symm fun m => by
        have := (box _ m).1.1
        dsimp only at this
        omega
  · -- east of all: along the lowest row, then up
    have s1 : Air L (l1 - 1, l2 - 1) (x, l2 - 1) := air_row' fun z m => by
      have := (box _ m).2.1
      dsimp only at this
      omega
    exact s1.trans (air_col' fun z m => by
      have := (box _ m).1.2
      dsimp only at this
      omega)
  · exact (west y).trans (air_row' fun z m => by
      have := (box _ m).2.1
      dsimp only at this
      omega)
  · exact (west y).trans (air_row' fun z m => by
      have := (box _ m).2.2
      dsimp only at this
      omega)
/-- the least cell of a region has a square to its west -/
theorem least_west {a c : Cell} (hc : Air L a c) (least : ∀ d, Air L a d → cLt d c = false) : ((c.1 - 1, c.2) : Cell) ∈ L := Classical.byContradiction fun n => by
  have hw : Air L a (c.1 - 1, c.2) := .step hc (beside_iff.mpr (.inl ⟨rfl, rfl⟩)) n
  have := least _ hw
  unfold cLt at this
  have := of_decide_eq_false this
  exact this (.inl (by show c.1 - 1 < c.1; omega))
theorem west_side {c : Cell} (ho : c ∉ L) (h : ((c.1 - 1, c.2) : Cell) ∈ L) : IsSide L (c, (c.1 - 1, c.2)) := ⟨ho, h, beside_iff.mpr (.inl ⟨rfl, rfl⟩)⟩
end
end Sq

set_option Elab.async false
set_option linter.all false
set_option maxRecDepth 100000
set_option maxHeartbeats 1000000
/-! Rings in the order of their least sides; the regions. -/
namespace Sq
def sideLt (a b : Side) : Prop := cLt a.1 b.1 = true ∨ (a.1 = b.1 ∧ cLt a.2 b.2 = true)
theorem cLt_total {a b : Cell} (h : cLt a b = false) : cLt b a = true ∨ a = b := by
  cases z : cLt b a
  · exact .inr (cLt_tri h z)
  · exact .inl rfl
theorem cLt_le_trans {a b c : Cell} (h : cLt a b = false) (k : cLt b c = false) : cLt a c = false := by
  cases z : cLt a c
  · rfl
  · exfalso
    rcases cLt_total h with y | y
    · rw [cLt_trans y z] at k
      cases k
    · rw [y, k] at z
      cases z
/-- the rings' first sides, in order -/
structure RingsIs (R : List Cell) (Es : List Side) : Prop where
  sd : ∀ e ∈ Es, IsSide R e
  least : ∀ e ∈ Es, ∀ e', Air R e.1 e'.1 → IsSide R e' → ¬ sideLt e' e
  all : ∀ e, IsSide R e → ∃ e0 ∈ Es, Air R e0.1 e.1
  apart : Es.Pairwise fun a b => ¬ Air R a.1 b.1
  asc : Es.Pairwise fun a b => ¬ sideLt b a
/-- reached from what lies west of all squares -/
def Outer (R : List Cell) (c : Cell) : Prop := ∃ d, Air R c d ∧ ∀ s ∈ R, d.1 < s.1
/-- the regions but the outer one: their least cells in order, their cells in order -/
structure RegIs (R : List Cell) (Ms : List Cell) (Cs : List (List Cell)) : Prop where
  nd : Ms.Nodup
  asc : Asc Ms
  mem : ∀ m, m ∈ Ms ↔ m ∉ R ∧ ¬ Outer R m ∧ ∀ d, Air R m d → cLt d m = false
  len : Cs.length = Ms.length
  pr : ∀ (i : Nat) m C, Ms[i]? = some m → Cs[i]? = some C → C.Nodup ∧ Asc C ∧ ∀ x, x ∈ C ↔ Air R m x
theorem ascU {A M : List Cell} (nA : A.Nodup) (nM : M.Nodup) (sa : Asc A) (sm : Asc M) (mem : ∀ x, x ∈ A ↔ x ∈ M) : A = M :=
  List.Perm.eq_of_pairwise (le := fun x y => cLt y x = false) (fun x y _ _ h k => cLt_tri k h) sa sm ((List.perm_ext_iff_of_nodup nA nM).mpr mem)
section
variable {R : List Cell} {Es : List Side} {Ms : List Cell} {Cs : List (List Cell)}
theorem RegIs.uniq {Ms' : List Cell} {Cs' : List (List Cell)} (h : RegIs R Ms Cs) (k : RegIs R Ms' Cs') : Ms = Ms' ∧ Cs = Cs' := by
  have e : Ms = Ms' := ascU h.nd k.nd h.asc k.asc fun x => (h.mem x).trans (k.mem x).symm
  subst e
  refine ⟨rfl, List.ext_getElem? fun i => ?_⟩
  by_cases lt : i < Ms.length
  · obtain ⟨m, hm⟩ : ∃ m, Ms[i]? = some m := ⟨_, List.getElem?_eq_getElem lt⟩
    obtain ⟨C, hC⟩ : ∃ C, Cs[i]? = some C := ⟨_, List.getElem?_eq_getElem (by rw [h.len]; exact lt)⟩
    obtain ⟨C', hC'⟩ : ∃ C, Cs'[i]? = some C := ⟨_, List.getElem?_eq_getElem (by rw [k.len]; exact lt)⟩
    obtain ⟨n1, a1, m1⟩ := h.pr i m C hm hC
    obtain ⟨n2, a2, m2⟩ := k.pr i m C' hm hC'
    rw [hC, hC', ascU n1 n2 a1 a2 fun x => (m1 x).trans (m2 x).symm]
  · rw [List.getElem?_eq_none (by rw [h.len]; omega), List.getElem?_eq_none (by rw [k.len]; omega)]
theorem Outer.of {a b : Cell} (h : Outer R b) (k : Air R a b) : Outer R a := by
  obtain ⟨d, h1, h2⟩ := h
  exact ⟨d, k.trans h1, h2⟩
theorem Outer.to {a b : Cell} (h : Outer R a) (ha : a ∉ R) (k : Air R a b) : Outer R b := h.of (k.symm ha)
/-- what lies outside is one region -/
theorem outer_one (ne : R ≠ []) {a b : Cell} (ha : a ∉ R) (h : Outer R a) (k : Outer R b) (hb : b ∉ R) : Air R a b := by
  obtain ⟨d, d1, d2⟩ := h
  obtain ⟨e, e1, e2⟩ := k
  obtain ⟨s, hs⟩ := List.exists_mem_of_ne_nil R ne
  have bnd : ∃ l1 h1 l2 h2 : Int, ∀ c ∈ R, (l1 ≤ c.1 ∧ c.1 ≤ h1) ∧ (l2 ≤ c.2 ∧ c.2 ≤ h2) := by
    clear hs ne d1 d2 e1 e2 ha hb
    induction R with
    | nil => exact ⟨0, 0, 0, 0, fun c hc => nomatch hc⟩
    | cons c R ih =>
      obtain ⟨l1, h1, l2, h2, h⟩ := ih
      refine ⟨min l1 c.1, max h1 c.1, min l2 c.2, max h2 c.2, fun x hx => ?_⟩
      rcases List.mem_cons.mp hx with z | z
      · subst z
        omega
      · have := h x z
        omega
  obtain ⟨l1, h1, l2, h2, box⟩ := bnd
  -- a common box whose west wall lies behind both
  have minb : ∃ lo : Int, (∀ c ∈ R, lo ≤ c.1) ∧ ∃ c ∈ R, c.1 = lo := by
    clear box d1 d2 e1 e2 ha hb hs s
    induction R with
    | nil => exact absurd rfl ne
    | cons c R ih =>
      by_cases z : R = []
      · subst z
        exact ⟨c.1, fun x hx => by rw [List.mem_singleton.mp hx]; exact Int.le_refl _, c, List.mem_cons_self .., rfl⟩
      · obtain ⟨lo, h1, x, hx, e⟩ := ih z
        by_cases l : c.1 ≤ lo
        · refine ⟨c.1, fun y hy => ?_, c, List.mem_cons_self .., rfl⟩
          rcases List.mem_cons.mp hy with w | w
          · rw [w]; exact Int.le_refl _
          · have := h1 y w; omega
        · refine ⟨lo, fun y hy => ?_, x, List.mem_cons_of_mem _ hx, e⟩
          rcases List.mem_cons.mp hy with w | w
          · rw [w]; omega
          · exact h1 y w
  obtain ⟨lo, lo1, c0, hc0, ec0⟩ := minb
  have box2 : ∀ c ∈ R, (lo ≤ c.1 ∧ c.1 ≤ h1) ∧ (l2 ≤ c.2 ∧ c.2 ≤ h2) := fun c hc => ⟨⟨lo1 c hc, (box c hc).1.2⟩, (box c hc).2⟩
  have d3 : d.1 < lo := by rw [← ec0]; exact d2 c0 hc0
  have e3 : e.1 < lo := by rw [← ec0]; exact e2 c0 hc0
  have nd : ((lo - 1, l2 - 1) : Cell) ∉ R := fun m => by
    have := (box2 _ m).1.1
    have : lo ≤ lo - 1 := this
    omega
  have r1 := air_outside box2 (c := d) (.inl d3)
  have r2 := air_outside box2 (c := e) (.inl e3)
  exact d1.trans ((r1.symm nd).trans (r2.trans (e1.symm hb)))
/-- what lies outside a box around the squares is outer -/
theorem outer_box {l1 h1 l2 h2 : Int} (box : ∀ c ∈ R, (l1 ≤ c.1 ∧ c.1 ≤ h1) ∧ (l2 ≤ c.2 ∧ c.2 ≤ h2)) {c : Cell} (h : c.1 < l1 ∨ h1 < c.1 ∨ c.2 < l2 ∨ h2 < c.2) : Outer R c := by
  have nd : ((l1 - 1, l2 - 1) : Cell) ∉ R := fun m => by
    have := (box _ m).1.1
    have : l1 ≤ l1 - 1 := this
    omega
  exact ⟨(l1 - 1, l2 - 1), (air_outside box h).symm nd, fun s hs => by
    have := (box s hs).1.1
    show l1 - 1 < s.1
    omega⟩
/-- the least cell of a region that has a least side -/
theorem least_ex {F : List Cell} (ne : F ≠ []) : ∃ m ∈ F, ∀ x ∈ F, cLt x m = false := by
  induction F with
  | nil => exact absurd rfl ne
  | cons c F ih =>
    by_cases z : F = []
    · subst z
      exact ⟨c, List.mem_cons_self .., fun x hx => by rw [List.mem_singleton.mp hx]; exact cLt_irr c⟩
    · obtain ⟨m, hm, l⟩ := ih z
      cases y : cLt c m
      · refine ⟨m, List.mem_cons_of_mem _ hm, fun x hx => ?_⟩
        rcases List.mem_cons.mp hx with w | w
        · rw [w]; exact y
        · exact l x w
      · refine ⟨c, List.mem_cons_self .., fun x hx => ?_⟩
        rcases List.mem_cons.mp hx with w | w
        · rw [w]; exact cLt_irr c
        · exact cLt_le_trans (l x w) (cLt_asym y)
theorem RingsIs.uniqE (h : RingsIs R Es) {i j : Nat} {a b : Side} (ha : Es[i]? = some a) (hb : Es[j]? = some b) (k : Air R a.1 b.1) : i = j := by
  obtain ⟨li, ei⟩ := List.getElem?_eq_some_iff.mp ha
  obtain ⟨lj, ej⟩ := List.getElem?_eq_some_iff.mp hb
  have ap := List.pairwise_iff_getElem.mp h.apart
  have na : a.1 ∉ R := (h.sd a (List.mem_of_getElem? ha)).out
  rcases Nat.lt_trichotomy i j with l | l | l
  · have := ap i j li lj l
    rw [ei, ej] at this
    exact absurd k this
  · exact l
  · have := ap j i lj li l
    rw [ei, ej] at this
    exact absurd (k.symm na) this
/-- the first ring is that of the outside -/
theorem RingsIs.outer (h : RingsIs R Es) (ne : R ≠ []) : ∃ e Es', Es = e :: Es' ∧ Outer R e.1 ∧ ∀ x ∈ Es', ¬ Outer R x.1 := by
  obtain ⟨z, hz, lz⟩ := least_ex ne
  have lo : ∀ s ∈ R, z.1 ≤ s.1 := fun s hs => by
    have := of_decide_eq_false (lz s hs)
    omega
  have nw : ((z.1 - 1, z.2) : Cell) ∉ R := fun m => by
    have := lo _ m
    have : z.1 ≤ z.1 - 1 := this
    omega
  have sw : IsSide R ((z.1 - 1, z.2), z) := ⟨nw, hz, beside_iff.mpr (.inr (.inr (.inl ⟨by show z.1 = z.1 - 1 + 1; omega, rfl⟩)))⟩
  obtain ⟨e0, he0, a0⟩ := h.all _ sw
  have na0 := (h.sd e0 he0).out
  have ow : Outer R (z.1 - 1, z.2) := ⟨_, .refl, fun s hs => by
    have := lo s hs
    show z.1 - 1 < s.1
    omega⟩
  have o0 : Outer R e0.1 := ow.of a0
  have le0 := h.least e0 he0 _ a0 sw
  have inn : ∀ x ∈ Es, Outer R x.1 → Air R e0.1 x.1 := fun x hx o => outer_one ne na0 o0 o (h.sd x hx).out
  cases hE : Es with
  | nil =>
    rw [hE] at he0
    cases he0
  | cons e Es' =>
    have hd : Es[0]? = some e := by rw [hE]; rfl
    have eq : e = e0 := by
      obtain ⟨j, hj⟩ := List.mem_iff_getElem?.mp he0
      by_cases zj : j = 0
      · rw [zj, hd] at hj
        exact Option.some.inj hj
      · exfalso
        obtain ⟨lj, ej⟩ := List.getElem?_eq_some_iff.mp hj
        have l0 : 0 < Es.length := by omega
        have as := List.pairwise_iff_getElem.mp h.asc 0 j l0 lj (by omega)
        have e00 : Es[0] = e := by
          have := List.getElem?_eq_getElem l0
          rw [hd] at this
          exact (Option.some.inj this).symm
        rw [ej, e00] at as
        have no : ¬ Outer R e.1 := fun o => by
          have := h.uniqE hj hd (inn e (List.mem_of_getElem? hd) o)
          omega
        have ge : z.1 ≤ e.1.1 := by
          refine Classical.byContradiction fun n => no ⟨e.1, .refl, fun s hs => ?_⟩
          have := lo s hs
          omega
        -- e0 stands ahead of the side west of z, that ahead of e
        have l1 : cLt e.1 e0.1 = false := by
          cases y : cLt e.1 e0.1
          · rfl
          · exfalso
            have y := of_decide_eq_true y
            have q : cLt (z.1 - 1, z.2) e0.1 = false := by
              cases w : cLt (z.1 - 1, z.2) e0.1
              · rfl
              · exact absurd (.inl w) le0
            have q := of_decide_eq_false q
            dsimp only at q
            omega
        have l2 : cLt e0.1 e.1 = false := by
          cases y : cLt e0.1 e.1
          · rfl
          · exact absurd (.inl y) as
        have ee := cLt_tri l1 l2
        rw [ee] at no
        exact no o0
    refine ⟨e, Es', rfl, by rw [eq]; exact o0, fun x hx o => ?_⟩
    obtain ⟨j, hj⟩ := List.mem_iff_getElem?.mp hx
    have hj' : Es[j + 1]? = some x := by rw [hE]; exact hj
    have := h.uniqE hd hj' (by rw [eq]; exact inn x (List.mem_of_getElem? hj') o)
    omega
/-- the first side of a bounded region has its least cell -/
theorem RingsIs.leastC (h : RingsIs R Es) {e : Side} (he : e ∈ Es) {F : List Cell} (fin : ∀ d, Air R e.1 d ↔ d ∈ F) : ∀ d, Air R e.1 d → cLt d e.1 = false := by
  have neF : F ≠ [] := List.ne_nil_of_mem ((fin e.1).mp .refl)
  obtain ⟨m, hm, lm⟩ := least_ex neF
  have am := (fin m).mpr hm
  have ne := (h.sd e he).out
  have w := least_west am fun d hd => lm d ((fin d).mp hd)
  have q := h.least e he (m, (m.1 - 1, m.2)) am (west_side (am.out ne) w)
  have q1 : cLt m e.1 = false := by
    cases y : cLt m e.1
    · rfl
    · exact absurd (.inl y) q
  have eq := cLt_tri q1 (lm e.1 ((fin e.1).mp .refl))
  intro d hd
  rw [← eq]
  exact lm d ((fin d).mp hd)
/-- the rings' firsts but the outer one's: the least cells of the regions -/
theorem RingsIs.ms {e : Side} {Es' : List Side} (h : RingsIs R (e :: Es')) (ho : Outer R e.1) (hn : ∀ x ∈ Es', ¬ Outer R x.1) (fin : ∀ c, c ∉ R → ¬ Outer R c → ∃ F : List Cell, ∀ d, Air R c d ↔ d ∈ F) :
    (Es'.map fun x => x.1).Nodup ∧ Asc (Es'.map fun x => x.1) ∧ ∀ m, m ∈ Es'.map (fun x => x.1) ↔ m ∉ R ∧ ¬ Outer R m ∧ ∀ d, Air R m d → cLt d m = false := by
  have lst : ∀ x ∈ Es', ∀ d, Air R x.1 d → cLt d x.1 = false := fun x hx => by
    have hx' := List.mem_cons_of_mem e hx
    obtain ⟨F, hF⟩ := fin x.1 (h.sd x hx').out (hn x hx)
    exact h.leastC hx' hF
  refine ⟨?_, ?_, fun m => ⟨fun hm => ?_, fun ⟨h1, h2, h3⟩ => ?_⟩⟩
  · refine List.pairwise_map.mpr ((List.pairwise_cons.mp h.apart).2.imp fun {a b} k e => k ?_)
    rw [e]
    exact .refl
  · refine List.pairwise_map.mpr ((List.pairwise_cons.mp h.asc).2.imp fun {a b} k => ?_)
    cases y : cLt b.1 a.1
    · rfl
    · exact absurd (.inl y) k
  · obtain ⟨x, hx, rfl⟩ := List.mem_map.mp hm
    exact ⟨(h.sd x (List.mem_cons_of_mem e hx)).out, hn x hx, lst x hx⟩
  · have w := least_west (a := m) .refl h3
    obtain ⟨x, hx, ax⟩ := h.all _ (west_side h1 w)
    have nx := (h.sd x hx).out
    rcases List.mem_cons.mp hx with z | z
    · rw [z] at ax
      exact absurd (ho.to (by rw [z] at nx; exact nx) ax) h2
    · have q1 := lst x z m ax
      have q2 := h3 x.1 (ax.symm nx)
      exact List.mem_map.mpr ⟨x, z, (cLt_tri q2 q1)⟩
/-- the number of the region of a cell -/
def NumOf (R Ms : List Cell) (c : Cell) (n : Nat) : Prop := (Outer R c ∧ n = 0) ∨ ∃ (i : Nat) (m : Cell), Ms[i]? = some m ∧ Air R m c ∧ n = i + 1
theorem NumOf.uniq (h : RegIs R Ms Cs) {c : Cell} {n k : Nat} (hc : c ∉ R) (a : NumOf R Ms c n) (b : NumOf R Ms c k) : n = k := by
  have no : ∀ {i : Nat} {m : Cell}, Ms[i]? = some m → Air R m c → ¬ Outer R c := fun {i m} e q o => ((h.mem m).mp (List.mem_of_getElem? e)).2.1 (o.of q)
  rcases a with ⟨o, rfl⟩ | ⟨i, m, e, q, rfl⟩ <;> rcases b with ⟨o', rfl⟩ | ⟨j, m', e', q', rfl⟩
  · rfl
  · exact absurd o (no e' q')
  · exact absurd o' (no e q)
  · have h1 := (h.mem m).mp (List.mem_of_getElem? e)
    have h2 := (h.mem m').mp (List.mem_of_getElem? e')
    have am : Air R m m' := q.trans (q'.symm h2.1)
    have em : m = m' := cLt_tri (h2.2.2 m (am.symm h1.1)) (h1.2.2 m' am)
    subst em
    obtain ⟨li, ei⟩ := List.getElem?_eq_some_iff.mp e
    obtain ⟨lj, ej⟩ := List.getElem?_eq_some_iff.mp e'
    have := (List.getElem_inj h.nd).mp (ei.trans ej.symm)
    omega
end
end Sq

set_option Elab.async false
set_option linter.all false
set_option maxRecDepth 100000
set_option maxHeartbeats 4000000
/-! max(xs, default=d), xs a list of ints. -/
namespace Sq
open PySem PySem.Spec PyProof.Rows L2
end Sq

set_option Elab.async false
set_option linter.all false
set_option maxRecDepth 100000
set_option maxHeartbeats 4000000
/-! sorted(t), t a tuple of ints. -/
namespace Sq
open PySem PySem.Spec PyProof.Rows L2
section
variable {X : Cx}
end
end Sq

set_option Elab.async false
set_option linter.all false
set_option maxRecDepth 100000
set_option maxHeartbeats 4000000
/-! sorted(t), t a tuple of cells. -/
namespace Sq
open PySem PySem.Spec PyProof.Rows L2
section
variable {X : Cx}
end
end Sq

set_option Elab.async false
set_option linter.all false
set_option maxRecDepth 100000
set_option maxHeartbeats 1000000
/-! xs.extend(t), t a tuple. -/
namespace Sq
open PySem PySem.Spec PySem.Calls PyProof PyProof.Rows L2
theorem meets_extend_tup (l : Addr) (items : Array Value) (n : Nat) (b : Addr) (items2 : Array Value) (hs0 : ¬(!items.isEmpty && Builtin.List.listTooLong (items.size + items2.size)) = true) (hs1 : items.size ≤ sizeLine) (hs2 : items.size + items2.size ≤ sizeLine + 1) :
    Meets (Builtin.«list.extend» ⟨[.ref l, .ref b], []⟩) (fun _ R s => s.heap.get? l = some { cls := .type "list", dict := none, data := .seq items n, slots := #[] } ∧ IsTup s.heap b items2 ∧ R (.ok (.ret Value.none)) { s with heap := s.heap.update l (Obj.mapSeq fun x => x ++ items2), toks := s.toks }) :=
  .of_wp fun prog w A R s h => by
    obtain ⟨hl, ⟨o, ho, hc, n2, hd⟩, h⟩ := h
    have hz' : (items ++ items2).size ≤ sizeLine + 1 := by rw [Array.size_append]; exact hs2
    show wpAny _ A.in1 (Builtin.List.listExtendWith (.ref l) (.ref b) .none) _ _ s
    unfold Builtin.List.listExtendWith
    refine wpAny_bind (wpAny_typeOf ⟨o, ho, hc⟩ ?_)
    have h1 : (Builtin.List.listSameRef (.ref l) (.ref b) || Value.type "tuple" == Value.type "list" || Value.type "tuple" == Value.type "tuple") = true := by simp
    simp only [h1, if_true]
    refine wpAny_bind ?_
    unfold Builtin.List.listItems
    refine wpAny_bind (wpAny_seqItems ho hd (wpAny_pure ?_))
    refine wpAny_bind ?_
    refine wpAny_bind (wpAny_seqItems hl rfl (wpAny_pure ?_))
    rw [if_neg hs0]
    show wpAny _ A.in1 (updateSeq l (· ++ items2) >>= fun _ => ret .none) _ _ s
    refine wpAny_bind (wpAny_updateSeq hl rfl (hz := hs1) (_hz' := hz') ?_)
    exact wpAny_pure ⟨_, rfl, h⟩
def rExtendT : V → List V → Hp → VK → Prop := fun x vs H Q => ∃ l b xs zs, x = .ref l ∧ vs = [.ref b] ∧ H l = some (.lst xs) ∧ H b = some (.tup zs) ∧ xs.length + zs.length ≤ sizeLine ∧ Q .non (upd H l (.lst (xs ++ zs)))
theorem mt_extendT {X : Cx} : MtM X "list.extend" rExtendT := by
  intro pins s σ H x vs v us Q I rx rv h
  obtain ⟨l, b, xs, zs, rfl, rfl, hH, hB, hz, q⟩ := h
  cases rx
  obtain ⟨u, rfl, ru⟩ := rv.one
  cases ru
  obtain ⟨z, its, n, r, hl, e⟩ := I.lstM hH
  obtain ⟨z2, its2, r2, t2⟩ := (show ObjOk X.prog X.w H s.heap b (.tup zs) from I.hok b _ hB)
  have hl2 := r2.length
  have hsz : its.toArray.size + its2.toArray.size ≤ sizeLine := by rw [List.size_toArray, List.size_toArray]; omega
  have hlong : ¬ (!its.toArray.isEmpty && Builtin.List.listTooLong (its.toArray.size + its2.toArray.size)) = true := by
    rw [notLongL hsz, Bool.and_false]
    exact Bool.false_ne_true
  refine call_meets F.slot_list_extend ⟨_, e, rfl⟩ F.entry_list_extend (F.args_list_extend_2 _ _)
    (meets_extend_tup l its.toArray n b its2.toArray hlong (by rw [List.size_toArray]; omega) (by omega)) ⟨e, t2, ?_⟩
  refine ⟨.non, _, I.lset (its' := its ++ its2) hH e (by simp) (r.append r2) ?_, rfl, q⟩
  rw [List.length_append]
  omega
end Sq

set_option Elab.async false
set_option linter.all false
set_option maxRecDepth 100000
set_option maxHeartbeats 4000000
/-! t[::-1], t a tuple; an expression told in two ways. -/
namespace Sq
open PySem PySem.Spec PyProof.Rows L2
theorem PE.or {X : Cx} {e : Expr} {t1 t2 : TE} (h1 : PE X e t1) (h2 : PE X e t2) : PE X e (fun σ H Q => t1 σ H Q ∨ t2 σ H Q) := ⟨fun pins s σ H Q I h => h.elim (h1.run pins s σ H Q I) (h2.run pins s σ H Q I)⟩
theorem adjust_back (n : Nat) : Builtin.Slice.sliceAdjust none none (-1) (n : Int) = ((n : Int) - 1, -1) := by
  unfold Builtin.Slice.sliceAdjust
  simp
theorem places_back (n : Nat) : Builtin.Slice.slicePlaces ((n : Int) - 1) (-1) (-1) = n := by
  unfold Builtin.Slice.slicePlaces
  have h1 : ¬ ((-1 : Int) > 0) := by omega
  have h2 : (- -1 : Int) = 1 := by decide
  simp only [h1, if_false, h2, Int.ediv_one]
  split <;> omega
theorem pick_back (xs : Array Value) : ((List.range xs.size).filterMap fun (m : Nat) => xs[(((xs.size : Int) - 1) + (m : Int) * (-1)).toNat]?).toArray = xs.toList.reverse.toArray := by
  have e : ((List.range xs.size).filterMap fun (m : Nat) => xs[(((xs.size : Int) - 1) + (m : Int) * (-1)).toNat]?) = ((List.range xs.size).map fun k => xs.size - 1 - k).filterMap (xs[·]?) := by
    rw [List.filterMap_map]
    congr 1
    funext m
    show xs[_]? = xs[_]?
    congr 1
    show (((xs.size : Int) - 1) + (m : Int) * (-1)).toNat = xs.size - 1 - m
    omega
  rw [e, PySem.W.krv_range, List.filterMap_reverse, PySem.W.krv_all]
section
variable {prog : Program} {w : World} {A : Around} {E : Value → Shared → Prop} {s : Shared}
theorem getItem_tuple_back {t sl : Addr} {items : Array Value} {vl vu vs : Value} {Q : Value → Shared → Prop} (ht : IsTup s.heap t items) (hs : s.heap.IsSliceOf sl vl vu vs) (pl : IsPart vl none) (pu : IsPart vu none) (ps : IsPart vs (some (-1)))
    (h : Q (.ref s.heap.objs.size) { s with heap := s.heap.push { cls := .type "tuple", data := .seq items.toList.reverse.toArray } }) (hsz : items.size ≤ sizeLine) : wpAny (model prog w) A (getItem (.ref t) (.ref sl)) Q E s := by
  have htake : sizeOk (.seq items.toList.reverse.toArray) := by
    show items.toList.reverse.toArray.size ≤ sizeLine
    rw [List.size_toArray, List.length_reverse, Array.length_toList]
    exact hsz
  obtain ⟨os, hos, hcs, hds⟩ := id hs
  have hTs : s.TypeIs (.ref sl) "slice" := ⟨os, hos, hcs⟩
  unfold getItem
  try with_reducible refine wpAny_holding ?_
  first | refine wpAny_bind (wpAny_pure ?_) | skip
  refine wpAny_bind (wpAny_sequenceKey ht.typeIs (by decide) ?_)
  refine wpAny_bind (wpAny_callSpecial?_slot (name := Str.ofString "__getitem__") ht.typeIs PyProof.Rows.slot_tuple_getitem
    (wpAny_call_entry PyProof.Rows.slot_tuple_getitem ht.typeIs entry_tuple_getitem ?_ (args_tuple_getitem _ _)))
  show wpAny _ _ (Builtin.Tuple.tupleItemsOf (.ref t) >>= _) _ _ s
  refine wpAny_bind (tupleItemsOf_ ht ?_)
  refine wpAny_bind (wpAny_typeOf hTs ?_)
  rw [if_pos (by decide)]
  refine wpAny_bind ?_
  unfold Builtin.Slice.sliceApplied Builtin.Slice.sliceFields
  refine wpAny_bind (wpAny_bind (wpAny_field hos hds (x := vl) rfl (wpAny_bind (wpAny_field hos hds (x := vu) rfl (wpAny_bind (wpAny_field hos hds (x := vs) rfl (wpAny_pure ?_)))))))
  refine wpAny_bind (HT.slicePart_ ps ?_)
  show wpAny _ _ (if ((-1 : Int) == 0) = true then _ else _) _ _ s
  rw [if_neg (by decide)]
  refine wpAny_bind (HT.slicePart_ pl (wpAny_bind (HT.slicePart_ pu (wpAny_bind (wpAny_pure ?_)))))
  show wpAny _ _ (match Builtin.Slice.sliceAdjust none none (-1) (items.size : Int) with | (lo, hi) => pure (lo, (-1 : Int), Builtin.Slice.slicePlaces lo hi (-1))) _ _ s
  rw [adjust_back]
  show wpAny _ _ (pure (((items.size : Int) - 1), (-1 : Int), Builtin.Slice.slicePlaces ((items.size : Int) - 1) (-1) (-1))) _ _ s
  rw [places_back]
  refine wpAny_pure ?_
  have hno : ¬ ((((items.size : Int) - 1) == 0 && (-1 : Int) == 1 && items.size == items.size) = true) := by
    rw [show ((-1 : Int) == 1) = false from rfl, Bool.and_false, Bool.false_and]
    exact Bool.false_ne_true
  show wpAny _ _ (if ((((items.size : Int) - 1) == 0 && (-1 : Int) == 1 && items.size == items.size) = true) then _ else _) _ _ s
  rw [if_neg hno, pick_back]
  first
    | exact wpAny_bind (m := Builtin.Tuple.tupleExact _) (wpAny_newObj_type (wpAny_pure ⟨_, rfl, wpAny_pure h⟩) htake)
    | exact wpAny_bind (m := Builtin.Tuple.tupleExact _) (wpAny_newObj_type (wpAny_bind (wpAny_pure (wpAny_pure ⟨_, rfl, wpAny_pure h⟩))) htake)
    | exact wpAny_bind (wpAny_bind (m := Builtin.Tuple.tupleExact _) (wpAny_newObj_type (wpAny_pure (wpAny_pure ⟨_, rfl, wpAny_pure h⟩)) htake))
    | exact wpAny_bind (wpAny_bind (m := Builtin.Tuple.tupleExact _) (wpAny_newObj_type (wpAny_pure ⟨_, rfl, wpAny_pure h⟩) htake))
end
def tRevT (K : PySem.W.Frag) (te : TE) : TE := fun σ H Q => te σ H fun x H1 => ∃ a xs, x = .ref a ∧ SqT K H1 a xs ∧ ∀ p, H1 p = none → Q (.ref p) (upd H1 p (.tup xs.reverse))
theorem pe_revT {X : Cx} {e : Expr} {te : TE} {k : Nat} {p1 p2 p3 pos : Pos} (he : PE X e te) : PE X (.Subscript e (.Slice none none (some (.UnaryOp .USub (.Constant (.int 1) k p1) p2)) p3) pos) (tRevT X.K te) := by
  refine ⟨fun pins s σ H Q I h => ?_⟩
  refine Subscript_ (thn (he.run pins s σ H _ I h) fun v s1 ⟨x, H1, I1, r1, q1⟩ => ?_)
  obtain ⟨a, xs, ex, hx, q⟩ := q1
  subst ex
  cases r1
  have hst : PO X (some (.UnaryOp .USub (.Constant (.int 1) k p1) p2)) (tPart (tUn (rU fun i => .int (-i)) (tC (.int 1)))) := po_some (pe_un un_neg pe_int)
  refine wpAny_Slice (thn (po_none.run pins s1 σ H1 (fun o H2 => o = none ∧ H2 = H1) I1 ⟨rfl, rfl⟩) fun vl s2 ⟨l, H2, I2, pl, el, e2⟩ => ?_)
  subst el e2
  refine thn (po_none.run pins s2 σ H2 (fun o H3 => o = none ∧ H3 = H2) I2 ⟨rfl, rfl⟩) fun vu s3 ⟨u, H3, I3, pu, eu, e3⟩ => ?_
  subst eu e3
  refine thn (hst.run pins s3 σ H3 (fun o H4 => o = some (-1) ∧ H4 = H3) I3 ⟨1, rfl, -1, rfl, rfl, rfl⟩) fun vs s4 ⟨o, H4, I4, ps, eo, e4⟩ => ?_
  subst eo e4
  have I5 : Inv X pins σ H4 { s4 with heap := s4.heap.push { cls := .type "slice", data := .fields #[vl, vu, vs] } } := I4.kept (t' := s4.toks) fun b ob q => Heap.get?_push_of_some _ q
  obtain ⟨its, r, ht, hz⟩ := I5.tuple hx
  have hlen := r.length
  show wpAny (model X.prog X.w) X.A (subscriptTail e (.Slice none none (some (.UnaryOp .USub (.Constant (.int 1) k p1) p2)) p3) (.ref a) (.ref s4.heap.objs.size)) (EP X pins σ Q) X.xe { s4 with heap := s4.heap.push { cls := .type "slice", data := .fields #[vl, vu, vs] } }
  refine tail_any (ops := [.ref a, .ref s4.heap.objs.size]) ht.typeIs (PyProof.Rows.slot_tuple_getitem.lookup) ?_ (by with_unfolding_all rfl)
  refine getItem_tuple_back ht (Heap.IsSliceOf.new _ vl vu vs) pl pu ps ?_ (by rw [List.size_toArray]; omega)
  refine ⟨.ref _, _, I5.laid (t' := s4.toks) (o := .tup xs.reverse) (fun b ob q => Heap.get?_push_of_some _ q) (Nat.le_refl _) ?_, rfl, q _ (I5.hok.fresh (Nat.le_refl _))⟩
  exact ⟨by rw [List.length_reverse]; exact hz, _, r.reverse, IsTup.new _ _⟩
end Sq

set_option Elab.async false
set_option linter.all false
set_option maxRecDepth 100000
set_option maxHeartbeats 4000000
/-! The places of the program's and the law's defs. -/
namespace Sq
open PySem PySem.Spec PyProof.Rows L2
def top (i : Nat) : Stmt := PySem.Challenge.pw_slideinto_k27_whole_row_to_row.main.body.getD i (.Pass ⟨0, 0, 0, 0⟩)
abbrev gWhole : Stmt := top 8
abbrev gIsCell : Stmt := top 9
abbrev gChecked : Stmt := top 10
abbrev gPlain : Stmt := top 11
abbrev gShifted : Stmt := top 12
abbrev gFour : Stmt := top 13
abbrev gLot : Stmt := top 14
abbrev gWithout : Stmt := top 15
abbrev gPut : Stmt := top 16
abbrev gNear : Stmt := top 17
abbrev gHangsW : Stmt := top 18
abbrev gLinks : Stmt := top 19
abbrev gBack : Stmt := top 21
abbrev gMovedPlan : Stmt := top 22
abbrev gMovedCell : Stmt := top 23
abbrev gPlainValue : Stmt := top 24
abbrev gNextSide : Stmt := top 26
abbrev gRingFrom : Stmt := top 27
abbrev gWalkIn : Stmt := top 30
abbrev gWaysIn : Stmt := top 31
abbrev gDistancesTo : Stmt := top 32
abbrev gCrawl : Stmt := top 34
abbrev gClimb : Stmt := top 35
abbrev gStand : Stmt := top 36
abbrev gLie : Stmt := top 37
abbrev gRowPlan : Stmt := top 38
abbrev gCheckedMany : Stmt := top 39
abbrev gCheckedBy : Stmt := top 40
abbrev gLineFrom : Stmt := top 41
abbrev gAlong : Stmt := top 42
abbrev gUpwardPlan : Stmt := top 43
abbrev sPen : Stmt := top 45
abbrev sDraw : Stmt := top 46
abbrev sPick : Stmt := top 47
abbrev lWBeside : Stmt := top 48
abbrev lWHangs : Stmt := top 49
abbrev lWMay : Stmt := top 50
abbrev lWMoved : Stmt := top 51
abbrev lT4goes : Stmt := top 52
abbrev lT4both : Stmt := top 53
abbrev lT4walk : Stmt := top 54
abbrev lT4walks : Stmt := top 55
abbrev lT4row : Stmt := top 56
abbrev lT4column : Stmt := top 57
abbrev lT4along : Stmt := top 58
abbrev lT4rows : Stmt := top 59
abbrev lT4back : Stmt := top 60
abbrev lT4bodies : Stmt := top 61
abbrev lT4leads : Stmt := top 62
abbrev lT4stretches : Stmt := top 63
abbrev sLaw : Stmt := top 64
abbrev cTrail : Stmt := top 29
abbrev FnP (K : PySem.W.Frag) (x : Str) (st : Stmt) (f : Addr) (fd : FuncData) : Prop := FunD K x x (defArgs st) (defBody st) (defScope st) [] [] f fd
end Sq

set_option Elab.async false
set_option linter.all false
set_option maxRecDepth 100000
set_option maxHeartbeats 4000000
/-! What is a cell; cells made plain, shifted; the four beside. -/
namespace Sq
open PySem PySem.Spec PyProof.Rows L2
def kinds : List String := ["NoneType", "bool", "int", "str", "tuple", "list"]
/-- x is of the built-in kind T -/
structure Kd (K : PySem.W.Frag) (H : Hp) (x : V) (T : String) : Prop where
  ty : TyX K H x (.type T)
  mem : T ∈ kinds
theorem kd_isi {K : PySem.W.Frag} {T U : String} (h : T ∈ kinds) (hU : U ∈ ["int", "bool", "tuple"]) : PySem.W.kitOne K (.type T) (.type U) = some (T == U || (T == "bool" && U == "int")) := by
  refine kit_ty ?_
  simp only [kinds, List.mem_cons, List.not_mem_nil, or_false] at h hU
  rcases h with rfl | rfl | rfl | rfl | rfl | rfl <;> rcases hU with rfl | rfl | rfl <;> decide +kernel
/-- whether x is a cell -/
inductive CellQ (K : PySem.W.Frag) (H : Hp) : V → Bool → Prop where
  | other {x : V} {T : String} (k : Kd K H x T) (n : T ≠ "tuple") : CellQ K H x false
  | len {p : Addr} {xs : List V} (e : H p = some (.tup xs)) (n : xs.length ≠ 2) : CellQ K H (.ref p) false
  | two {p : Addr} {y z : V} {T U : String} (e : H p = some (.tup [y, z])) (ky : Kd K H y T) (kz : Kd K H z U) (n : T ≠ "int" ∨ U ≠ "int") : CellQ K H (.ref p) false
  | cell {p : Addr} {c : Cell} (e : At H p c) : CellQ K H (.ref p) true
theorem Kd.tup {K : PySem.W.Frag} {H : Hp} {p : Addr} {xs : List V} (e : H p = some (.tup xs)) : Kd K H (.ref p) "tuple" := ⟨.base (.tup e), by decide⟩
theorem Kd.int {K : PySem.W.Frag} {H : Hp} {i : Int} : Kd K H (.int i) "int" := ⟨.base (.int i), by decide⟩
theorem at0 {x : V} {xs : List V} : atI (x :: xs) 0 = some x := atI_nat (j := 0) rfl
theorem at1 {x y : V} {xs : List V} : atI (x :: y :: xs) 1 = some y := atI_nat (j := 1) rfl
section
variable {P : Program} {w : World} {K : PySem.W.Frag} {mg : Str → Option Value} {base : Heap}
def spWhole (K : PySem.W.Frag) : Sp := fun vs H Q _ => ∃ (x : V) (T : String), vs = [x] ∧ Kd K H x T ∧ Q (.bl (T == "int")) H
theorem scW : FnScope ["value"] ["value"] (defScope gWhole) := ⟨rfl, rfl, rfl, by decide +kernel, rfl, by decide +kernel, by decide +kernel⟩
theorem ok_whole {f : Addr} {fd : FuncData} (F : FnP K "is_whole" gWhole f fd) (gIs : mg "isinstance" = none) (gI : mg "int" = none) (gB : mg "bool" = none) : FnOk P w K mg base CX0 1 f fd ["value"] (spWhole K) := by
  refine F.ok scW (fun vs H Q E h => ?_) (fun cdv A outer s H vs Q E hr h => ?_)
  · obtain ⟨x, T, rfl, _⟩ := h
    rfl
  · obtain ⟨x, T, rfl, k, q⟩ := h
    refine ⟨_, PSs.nox (pss_one (ps_ret (pe_and (pe_callB call_isi (by rfl) gIs PyProof.Rows.boot_isinstance (pa_cons (pv 0) (pa_cons (pe_bltn (v := .ty "int") (by rfl) gI PyProof.Rows.boot_int rfl) pa_nil)))
      (pe_one (pe_not (pe_callB call_isi (by rfl) gIs PyProof.Rows.boot_isinstance (pa_cons (pv 0) (pa_cons (pe_bltn (v := .ty "bool") (by rfl) gB PyProof.Rows.boot_bool rfl) pa_nil)))))))), ?_⟩
    refine ⟨_, rfl, _, _, _, _, _, rfl, .ty "int", k.ty, kd_isi k.mem (by decide), _, rfl, ?_⟩
    have m := k.mem
    refine ite2 (fun hc => ⟨_, rfl, _, _, _, _, _, rfl, .ty "bool", k.ty, kd_isi k.mem (by decide), _, rfl, ?_⟩) (fun hc => ?_)
    · simp only [kinds, List.mem_cons, List.not_mem_nil, or_false] at m
      rcases m with rfl | rfl | rfl | rfl | rfl | rfl <;> first | exact absurd hc (by decide) | exact q
    · simp only [kinds, List.mem_cons, List.not_mem_nil, or_false] at m
      rcases m with rfl | rfl | rfl | rfl | rfl | rfl <;> first | exact absurd rfl hc | exact q
def spIsCell (K : PySem.W.Frag) : Sp := fun vs H Q _ => ∃ (x : V) (b : Bool), vs = [x] ∧ CellQ K H x b ∧ Q (.bl b) H
theorem scIC : FnScope ["value"] ["value"] (defScope gIsCell) := ⟨rfl, rfl, rfl, by decide +kernel, rfl, by decide +kernel, by decide +kernel⟩
theorem ok_isCell {f fW : Addr} {fd fdW : FuncData} (F : FnP K "is_cell" gIsCell f fd) (FW : FnP K "is_whole" gWhole fW fdW) (gW : mg "is_whole" = some (.ref fW)) (gIs : mg "isinstance" = none) (gI : mg "int" = none) (gB : mg "bool" = none) (gT : mg "tuple" = none) (gL : mg "len" = none) :
    FnOk P w K mg base CX0 2 f fd ["value"] (spIsCell K) := by
  have GW : FnOk P w K mg base CX0 1 fW fdW ["value"] (spWhole K) := ok_whole FW gIs gI gB
  have bW : Binds K fdW ["value"] [] := FW.bindsN fun _ _ _ _ _ _ us hl => match us, hl with | [_], _ => rfl
  refine F.ok scIC (fun vs H Q E h => ?_) (fun cdv A outer s H vs Q E hr h => ?_)
  · obtain ⟨x, b, rfl, _⟩ := h
    rfl
  · obtain ⟨x, b, rfl, k, q⟩ := h
    refine ⟨_, PSs.nox (pss_cons (ps_if (PW.pt (pw_or (pt_not (pt_val (pe_callB call_isi (by rfl) gIs PyProof.Rows.boot_isinstance (pa_cons (pv 0) (pa_cons (pe_bltn (v := .ty "tuple") (by rfl) gT PyProof.Rows.boot_tuple rfl) pa_nil)))))
        (pw_or1 (pt_cmpR op_ne (pe_callB call_len_seq (by rfl) gL PySem.boot_len (pa_cons (pv 0) pa_nil)) pe_int (nomark _)))))
        (pss_one (ps_ret pe_bl)) pss_nil)
      (pss_one (ps_ret (pe_and (pe_call GW hr rfl gW FW.kp bW .nil pass0 (pa_cons (pe_ix ix_tup (pv 0) pe_int (fun _ _ => rfl)) pa_nil)) (pe_one (pe_call GW hr rfl gW FW.kp bW .nil pass0 (pa_cons (pe_ix ix_tup (pv 0) pe_int (fun _ _ => rfl)) pa_nil))))))), ?_⟩
    cases k with
    | other k n =>
      refine ⟨_, rfl, _, _, _, _, _, rfl, .ty "tuple", k.ty, kd_isi k.mem (by decide), _, rfl, ?_⟩
      have m := k.mem
      simp only [kinds, List.mem_cons, List.not_mem_nil, or_false] at m
      rcases m with rfl | rfl | rfl | rfl | rfl | rfl <;> first | exact absurd rfl n | exact q
    | @len p xs e n =>
      refine ⟨_, rfl, _, _, _, _, _, rfl, .ty "tuple", (Kd.tup (K := K) e).ty, kd_isi (T := "tuple") (by decide) (by decide), _, rfl, ?_⟩
      refine ⟨_, rfl, _, _, rfl, .inr (SqT.of e), ?_⟩
      refine ⟨rfl, _, rfl, ite2 (fun _ => q) fun hc => ?_⟩
      have hc : (xs.length : Int) = 2 := by simpa using hc
      exact absurd (by omega) n
    | two e ky kz n =>
      refine ⟨_, rfl, _, _, _, _, _, rfl, .ty "tuple", (Kd.tup (K := K) e).ty, kd_isi (T := "tuple") (by decide) (by decide), _, rfl, ?_⟩
      refine ⟨_, rfl, _, _, rfl, .inr (SqT.of e), ?_⟩
      refine ⟨rfl, _, rfl, ite2 (fun hc => absurd hc (by simp)) fun _ => ?_⟩
      refine ⟨_, rfl, _, _, _, _, rfl, rfl, SqT.of e, at0, _, _, rfl, ky, _, rfl, ite2 (fun h1 => ?_) fun _ => q⟩
      refine ⟨_, rfl, _, _, _, _, rfl, rfl, SqT.of e, at1, _, _, rfl, kz, ?_⟩
      have e1 := eq_of_beq h1
      rcases n with n | n
      · exact absurd e1 n
      · rw [beq_false_of_ne n]
        exact q
    | cell e =>
      refine ⟨_, rfl, _, _, _, _, _, rfl, .ty "tuple", (Kd.tup (K := K) e).ty, kd_isi (T := "tuple") (by decide) (by decide), _, rfl, ?_⟩
      refine ⟨_, rfl, _, _, rfl, .inr (SqT.of e), ?_⟩
      refine ⟨rfl, _, rfl, ite2 (fun hc => absurd hc (by simp [cV])) fun _ => ?_⟩
      refine ⟨_, rfl, _, _, _, _, rfl, rfl, SqT.of e, at0, _, _, rfl, Kd.int, _, rfl, ite2 (fun h1 => ?_) fun h1 => absurd rfl h1⟩
      exact ⟨_, rfl, _, _, _, _, rfl, rfl, SqT.of e, at1, _, _, rfl, Kd.int, q⟩
/-- plain_cell(cell) -/
def spPlain : Sp := fun vs H Q _ => ∃ (p : Addr) (c : Cell), vs = [.ref p] ∧ At H p c ∧ ∀ q, H q = none → Q (.ref q) (upd H q (.tup (cV c)))
theorem scPl : FnScope ["cell"] ["cell"] (defScope gPlain) := ⟨rfl, rfl, rfl, by decide +kernel, rfl, by decide +kernel, by decide +kernel⟩
theorem two_le : (2 : Nat) ≤ sizeLine := by rw [sizeLine_eq]; decide
theorem four_le : (4 : Nat) ≤ sizeLine := by rw [sizeLine_eq]; decide
theorem ok_plain {f : Addr} {fd : FuncData} (F : FnP K "plain_cell" gPlain f fd) (gI : mg "int" = none) : FnOk P w K mg base CX0 1 f fd ["cell"] spPlain := by
  refine F.ok scPl (fun vs H Q E h => ?_) (fun cdv A outer s H vs Q E hr h => ?_)
  · obtain ⟨p, c, rfl, _⟩ := h
    rfl
  · obtain ⟨p, c, rfl, e, k⟩ := h
    refine ⟨_, PSs.nox (pss_one (ps_ret (pe_tup (pa_cons (pe_callTy call_int1 (by rfl) gI PyProof.Rows.boot_int (pa_cons (pe_ix ix_tup (pv 0) pe_int (fun _ _ => rfl)) pa_nil)) (pa_cons (pe_callTy call_int1 (by rfl) gI PyProof.Rows.boot_int (pa_cons (pe_ix ix_tup (pv 0) pe_int (fun _ _ => rfl)) pa_nil)) pa_nil))))), ?_⟩
    exact ⟨_, rfl, _, _, _, _, rfl, rfl, SqT.of e, at0, .inl ⟨_, rfl, _, rfl, _, _, _, _, rfl, rfl, SqT.of e, at1, .inl ⟨_, rfl, two_le, fun q hq => k q hq⟩⟩⟩
/-- shifted(cell, by) -/
def spShifted : Sp := fun vs H Q _ => ∃ (p r : Addr) (c d : Cell), vs = [.ref p, .ref r] ∧ At H p c ∧ At H r d ∧ ∀ q, H q = none → Q (.ref q) (upd H q (.tup (cV (c.1 + d.1, c.2 + d.2))))
theorem scSh : FnScope ["cell", "by"] ["cell", "by"] (defScope gShifted) := ⟨rfl, rfl, rfl, by decide +kernel, rfl, by decide +kernel, by decide +kernel⟩
theorem ok_shifted {f : Addr} {fd : FuncData} (F : FnP K "shifted" gShifted f fd) : FnOk P w K mg base CX0 1 f fd ["cell", "by"] spShifted := by
  refine F.ok scSh (fun vs H Q E h => ?_) (fun cdv A outer s H vs Q E hr h => ?_)
  · obtain ⟨p, r, c, d, rfl, _⟩ := h
    rfl
  · obtain ⟨p, r, c, d, rfl, e1, e2, k⟩ := h
    refine ⟨_, PSs.nox (pss_one (ps_ret (pe_tup (pa_cons (pe_op op_add (pe_ix ix_tup (pv 0) pe_int (fun _ _ => rfl)) (pe_ix ix_tup (pv 1) pe_int (fun _ _ => rfl))) (pa_cons (pe_op op_add (pe_ix ix_tup (pv 0) pe_int (fun _ _ => rfl)) (pe_ix ix_tup (pv 1) pe_int (fun _ _ => rfl))) pa_nil))))), ?_⟩
    exact ⟨_, rfl, _, _, _, _, rfl, rfl, SqT.of e1, at0, _, rfl, _, _, _, _, rfl, rfl, SqT.of e2, at0, _, _, rfl, rfl, _, rfl, _, _, _, _, rfl, rfl, SqT.of e1, at1, _, rfl, _, _, _, _, rfl, rfl, SqT.of e2, at1, _, _, rfl, rfl, two_le, fun q hq => k q hq⟩
/-- checked_cell(value): its cell, or BadCell(value) -/
def spChecked (K : PySem.W.Frag) (CB : Addr) : Sp := fun vs H Q E => ∃ (x : V), vs = [x] ∧ ((∃ p c, x = .ref p ∧ At H p c ∧ ∀ q, H q = none → Q (.ref q) (upd H q (.tup (cV c)))) ∨ (CellQ K H x false ∧ ∀ d, H d = none → E (.ref CB) (some d) (upd H d (.xd [("cell", x)]))))
theorem scCh : FnScope ["value"] ["value"] (defScope gChecked) := ⟨rfl, rfl, rfl, by decide +kernel, rfl, by decide +kernel, by decide +kernel⟩
/-- what is known of an error class of the program -/
structure ErrC (P : Program) (K : PySem.W.Frag) (mg : Str → Option Value) (x : Str) (C fI : Addr) (ns : List Str) : Prop where
  s : SErr P K C fI ns
  g : mg x = some (.ref C)
  ex : PySem.W.subIn K (.ref C) (.type "BaseException") = some true
  ty : PySem.W.typeIn K (.ref C) = some (.type "type")
theorem ok_checked {f fI fW fP CB fB : Addr} {fd fdI fdW fdP : FuncData} (F : FnP K "checked_cell" gChecked f fd) (FI : FnP K "is_cell" gIsCell fI fdI) (FW : FnP K "is_whole" gWhole fW fdW) (FP : FnP K "plain_cell" gPlain fP fdP) (B : ErrC P K mg "BadCell" CB fB ["cell"])
    (gC : mg "is_cell" = some (.ref fI)) (gP : mg "plain_cell" = some (.ref fP)) (gW : mg "is_whole" = some (.ref fW)) (gIs : mg "isinstance" = none) (gI : mg "int" = none) (gB : mg "bool" = none) (gT : mg "tuple" = none) (gL : mg "len" = none) :
    FnOk P w K mg base (L2.CX P w) 3 f fd ["value"] (spChecked K CB) := by
  have GI : FnOk P w K mg base CX0 2 fI fdI ["value"] (spIsCell K) := ok_isCell FI FW gW gIs gI gB gT gL
  have bI : Binds K fdI ["value"] [] := FI.bindsN fun _ _ _ _ _ _ us hl => match us, hl with | [_], _ => rfl
  have GP : FnOk P w K mg base CX0 1 fP fdP ["cell"] spPlain := ok_plain FP gI
  have bP : Binds K fdP ["cell"] [] := FP.bindsN fun _ _ _ _ _ _ us hl => match us, hl with | [_], _ => rfl
  refine F.ok scCh (fun vs H Q E h => ?_) (fun cdv A outer s H vs Q E hr h => ?_)
  · obtain ⟨x, rfl, _⟩ := h
    rfl
  · have hr1 : Room 1 _ := hr.mono (by decide)
    refine ⟨_, pss_cons (ps_if (pt_not (pt_val (pe_call GI hr rfl gC FI.kp bI .nil pass0 (pa_cons (pv 0) pa_nil))))
        (pss_one (ps_raise rfl (takes_of rfl rfl rfl rfl) (pmk_err B.s (raises_own B.ex B.ty) hr1 B.g (pa_cons (pv 0) pa_nil)))) pss_nil)
      (pss_one (ps_ret (pe_call GP hr1 rfl gP FP.kp bP .nil pass0 (pa_cons (pv 0) pa_nil)))), ?_⟩
    obtain ⟨x, rfl, ⟨p, c, rfl, e, k⟩ | ⟨k, q⟩⟩ := h
    · exact ⟨_, rfl, _, _, rfl, .cell e, _, rfl, _, rfl, p, c, rfl, e, k⟩
    · exact ⟨_, rfl, _, _, rfl, k, _, rfl, _, rfl, rfl, List.cons_ne_nil _ _, q⟩
/-- t holds a tuple of these cells -/
def CellsT (H : Hp) (t : Addr) (cs : List Cell) : Prop := ∃ qs : List Addr, H t = some (.tup (qs.map V.ref)) ∧ Paired (fun q c => At H q c) qs cs
def spFour : Sp := fun vs H Q _ => ∃ (p : Addr) (c : Cell), vs = [.ref p] ∧ At H p c ∧ ∀ t H', Same H H' → H t = none → CellsT H' t (besideC c) → Q (.ref t) H'
theorem scFo : FnScope ["cell", "column", "row"] ["cell"] (defScope gFour) := ⟨rfl, rfl, rfl, by decide +kernel, rfl, by decide +kernel, by decide +kernel⟩
end
end Sq

set_option Elab.async false
set_option linter.all false
set_option maxRecDepth 100000
set_option maxHeartbeats 4000000
/-! The four beside a cell; a lot of cells, without one, near ones. -/
namespace Sq
open PySem PySem.Spec PyProof.Rows L2
theorem same_new {H : Hp} {p : Addr} {o : HO} (h : H p = none) : Same H (upd H p o) := fun b u e => by
  rw [upd_ne (ne_of_none e h)]
  exact e
theorem At.same {H H' : Hp} {q : Addr} {c : Cell} (h : At H q c) (k : Same H H') : At H' q c := k _ _ h
theorem paired_imp {α β : Type} {F G : α → β → Prop} (k : ∀ a b, F a b → G a b) : ∀ {xs : List α} {ys : List β}, Paired F xs ys → Paired G xs ys
  | _, _, .nil => .nil
  | _, _, .cons h t => .cons (k _ _ h) (paired_imp k t)
theorem CellsT.same {H H' : Hp} {t : Addr} {cs : List Cell} (h : CellsT H t cs) (k : Same H H') : CellsT H' t cs := by
  obtain ⟨qs, e, r⟩ := h
  exact ⟨qs, k _ _ e, paired_imp (fun _ _ a => At.same a k) r⟩
section
variable {P : Program} {w : World} {K : PySem.W.Frag} {mg : Str → Option Value} {base : Heap}
theorem ok_four {f : Addr} {fd : FuncData} (F : FnP K "four_beside" gFour f fd) : FnOk P w K mg base CX0 1 f fd ["cell"] spFour := by
  refine F.ok scFo (fun vs H Q E h => ?_) (fun cdv A outer s H vs Q E hr h => ?_)
  · obtain ⟨p, c, rfl, _⟩ := h
    rfl
  · obtain ⟨p, c, rfl, e, k⟩ := h
    refine ⟨_, PSs.nox (pss_cons (ps_asg (pv 0) (pg_tup (by rfl) (pgs_cons (pg_name (i := 1) scFo.nd rfl (.inl rfl)) (pgs_cons (pg_name (i := 2) scFo.nd rfl (.inl rfl)) pgs_nil))))
      (pss_one (ps_ret (pe_tup (pa_cons (pe_tup (pa_cons (pe_op op_sub (pv 1) pe_int) (pa_cons (pv 2) pa_nil))) (pa_cons (pe_tup (pa_cons (pv 1) (pa_cons (pe_op op_sub (pv 2) pe_int) pa_nil)))
        (pa_cons (pe_tup (pa_cons (pe_op op_add (pv 1) pe_int) (pa_cons (pv 2) pa_nil))) (pa_cons (pe_tup (pa_cons (pv 1) (pa_cons (pe_op op_add (pv 2) pe_int) pa_nil))) pa_nil)))))))), ?_⟩
    refine ⟨_, rfl, p, _, rfl, SqT.of e, rfl, _, _, rfl, _, _, rfl, rfl, ?_⟩
    refine ⟨_, rfl, _, _, rfl, rfl, _, rfl, two_le, fun t1 h1 => ?_⟩
    refine ⟨_, rfl, _, rfl, _, _, rfl, rfl, two_le, fun t2 h2 => ?_⟩
    refine ⟨_, rfl, _, _, rfl, rfl, _, rfl, two_le, fun t3 h3 => ?_⟩
    refine ⟨_, rfl, _, rfl, _, _, rfl, rfl, two_le, fun t4 h4 => ?_⟩
    refine ⟨four_le, fun t5 h5 => ?_⟩
    have s1 := same_new (o := .tup [.int (c.1 - 1), .int c.2]) h1
    have s2 := same_new (o := .tup [.int c.1, .int (c.2 - 1)]) h2
    have s3 := same_new (o := .tup [.int (c.1 + 1), .int c.2]) h3
    have s4 := same_new (o := .tup [.int c.1, .int (c.2 + 1)]) h4
    have s5 := same_new (o := .tup [.ref t1, .ref t2, .ref t3, .ref t4]) h5
    refine k t5 _ (((s1.trans s2).trans s3).trans s4 |>.trans s5) (s1.free (s2.free (s3.free (s4.free h5)))) ⟨[t1, t2, t3, t4], upd_same, ?_⟩
    refine .cons ?_ (.cons ?_ (.cons ?_ (.cons ?_ .nil)))
    · exact s5 _ _ (s4 _ _ (s3 _ _ (s2 _ _ upd_same)))
    · exact s5 _ _ (s4 _ _ (s3 _ _ upd_same))
    · exact s5 _ _ (s4 _ _ upd_same)
    · exact s5 _ _ upd_same
end
/-- a lot of cells as a dict's pairs -/
def lotK (L : List Cell) : List (List Key × V) := L.map fun c => (cK c, .bl true)
theorem lot_val (c : Cell) : ∀ L : List Cell, valV (lotK L) (cK c) = if c ∈ L then some (.bl true) else none
  | [] => by rw [if_neg (by simp)]; rfl
  | d :: L => by
    show valV ((cK d, V.bl true) :: lotK L) (cK c) = _
    by_cases h : d = c
    · subst h
      rw [valV_pos rfl, if_pos (List.mem_cons_self ..)]
    · rw [valV_neg (fun e => h (cK_inj e)), lot_val c L]
      by_cases m : c ∈ L
      · rw [if_pos m, if_pos (List.mem_cons_of_mem _ m)]
      · rw [if_neg m, if_neg (fun w => (List.mem_cons.mp w).elim (fun e => h e.symm) m)]
theorem lot_is (c : Cell) (L : List Cell) : (valV (lotK L) (cK c)).isSome = decide (c ∈ L) := by
  rw [lot_val]
  by_cases m : c ∈ L
  · rw [if_pos m, decide_eq_true m]
    rfl
  · rw [if_neg m, decide_eq_false m]
    rfl
theorem lot_put {c : Cell} {L : List Cell} (n : c ∉ L) : putK (lotK L) (cK c) (.bl true) = lotK (L ++ [c]) := by
  rw [putK_new _ (by rw [lot_val, if_neg n])]
  simp [lotK]
theorem lot_len (L : List Cell) : (lotK L).length = L.length := by simp [lotK]
/-- in, for a cell and a lot -/
theorem dget_lot {H : Hp} {d q : Addr} {L : List Cell} {c : Cell} (hd : H d = some (.dT (lotK L))) (hq : At H q c) : DGet H d (.ref q) (valV (lotK L) (cK c)) := DGet.t hd hq
theorem dput_lot {H : Hp} {d q : Addr} {L : List Cell} {c : Cell} (hd : H d = some (.dT (lotK L))) (hq : At H q c) (n : c ∉ L) (hl : L.length < sizeLine) : DPut H d (.ref q) (.bl true) (upd H d (.dT (lotK (L ++ [c])))) := lot_put n ▸ DPut.t hd hq (by rw [lot_len]; exact hl)
theorem paired_get {α β : Type} {F : α → β → Prop} {i : Nat} {x : α} : ∀ {xs : List α} {ys : List β}, Paired F xs ys → xs[i]? = some x → ∃ y, ys[i]? = some y ∧ F x y
  | _, _, .nil, e => by simp at e
  | _ :: _, _ :: _, .cons h t, e => by
    cases i with
    | zero =>
      simp only [List.getElem?_cons_zero, Option.some.injEq] at e
      exact ⟨_, rfl, e ▸ h⟩
    | succ i =>
      simp only [List.getElem?_cons_succ] at e ⊢
      exact paired_get t e
theorem yesT {σ : L2.St} {H : Hp} {A B : Hp → Prop} (h : A H) : tYes σ H fun b H3 => if b = true then A H3 else B H3 := by
  show if true = true then A H else B H
  rw [if_pos rfl]
  exact h
theorem nodup_take {α : Type} {xs : List α} {i : Nat} {x : α} (nd : xs.Nodup) (h : xs[i]? = some x) : x ∉ xs.take i := fun m => by
  obtain ⟨j, hj⟩ := List.mem_iff_getElem?.mp m
  have hl := (List.getElem?_eq_some_iff.mp hj).1
  rw [List.length_take] at hl
  have hji : j < i := by omega
  rw [List.getElem?_take_of_lt hji] at hj
  have e : j = i := (List.getElem?_inj (List.getElem?_eq_some_iff.mp hj).1 nd).mp (hj.trans h.symm)
  omega
def spLot : Sp := fun vs H Q _ => ∃ (t : Addr) (cs : List Cell), vs = [.ref t] ∧ CellsT H t cs ∧ cs.Nodup ∧ cs.length ≤ 1000 ∧ ∀ d H', Same H H' → H d = none → H' d = some (.dT (lotK cs)) → Q (.ref d) H'
theorem take_snoc {α : Type} {xs : List α} {i : Nat} {x : α} (h : xs[i]? = some x) : xs.take (i + 1) = xs.take i ++ [x] := by
  rw [List.take_succ, h]
  rfl
section
variable {P : Program} {w : World} {K : PySem.W.Frag} {mg : Str → Option Value} {base : Heap}
theorem scLo : FnScope ["cells", "cell"] ["cells"] (defScope gLot) := ⟨rfl, rfl, rfl, by decide +kernel, rfl, by decide +kernel, by decide +kernel⟩
theorem ok_lot {f fP : Addr} {fd fdP : FuncData} (F : FnP K "lot_of" gLot f fd) (FP : FnP K "plain_cell" gPlain fP fdP) (gP : mg "plain_cell" = some (.ref fP)) (gI : mg "int" = none) : FnOk P w K mg base CX0 2 f fd ["cells"] spLot := by
  have GP : FnOk P w K mg base CX0 1 fP fdP ["cell"] spPlain := ok_plain FP gI
  have bP : Binds K fdP ["cell"] [] := FP.bindsN fun _ _ _ _ _ _ us hl => match us, hl with | [_], _ => rfl
  refine F.ok scLo (fun vs H Q E h => ?_) (fun cdv A outer s H vs Q E hr h => ?_)
  · obtain ⟨t, cs, rfl, _⟩ := h
    rfl
  · obtain ⟨t, cs, rfl, ⟨qs, et, pr⟩, nd, big, k⟩ := h
    refine ⟨_, PSs.nox (pss_one (ps_ret (pe_dct (o0 := .dT []) (own := [("cell", 1)]) (g := gName 1) (tt := tYes) (.inr rfl) rfl (hu_of hr) scLo.nd (pi_tup (pv 0)) (blkOk_by (N := ["cells", "cell"]) (sc := defScope gLot) (by decide +kernel)) (fun _ _ _ _ _ => pg_name (i := 1) scLo.nd rfl (Or.inl rfl)) (fun _ _ _ _ _ => pts_nil)
      (fun _ _ _ _ _ => pe_call GP hr rfl gP FP.kp bP .nil pass0 (pa_cons (pv 1) pa_nil)) (fun _ _ _ _ _ => pe_bl)))), ?_⟩
    refine ⟨_, rfl, t, rfl, ⟨_, SqT.of et⟩, fun D hD => dct_it (walk_tup (K := K) (a := t) (xs := qs.map V.ref)) (fun i G => Same H G ∧ G D = some (.dT (lotK (cs.take i)))) ⟨same_new hD, upd_same⟩ (fun i G _ p => SqT.of (p.1 _ _ et)) ?_ ?_⟩
    · rintro i x G G' hi ⟨sm, gd⟩ ⟨rfl, hx⟩
      rw [List.getElem?_map] at hx
      obtain ⟨q, hq, rfl⟩ := Option.map_eq_some_iff.mp hx
      obtain ⟨c, hc, ac⟩ := paired_get pr hq
      refine ⟨rfl, yesT ⟨_, rfl, q, c, rfl, ac.same sm, fun p hp => ?_⟩⟩
      have hne : D ≠ p := ne_of_none gd hp
      have gd' : upd G' p (.tup (cV c)) D = some (.dT (lotK (cs.take i))) := by rw [upd_ne hne]; exact gd
      have out : c ∉ cs.take i := nodup_take nd hc
      refine ⟨_, dput_lot gd' upd_same out (by rw [List.length_take, sizeLine_eq]; omega), fun b u e => ?_, ?_⟩
      · have hb : b ≠ D := fun z => by rw [z, hD] at e; cases e
        rw [upd_ne hb]
        exact (sm.trans (same_new hp)) b u e
      · rw [upd_same, take_snoc hc]
    · rintro G ⟨sm, gd⟩
      have el : (qs.map V.ref).length = cs.length := by rw [List.length_map]; exact Paired.length pr
      rw [el, List.take_length] at gd
      exact k D G sm hD gd
end
end Sq

set_option Elab.async false
set_option linter.all false
set_option maxRecDepth 100000
set_option maxHeartbeats 4000000
/-! A lot without a cell; the near ones in a lot. -/
namespace Sq
open PySem PySem.Spec PyProof.Rows L2
theorem room64 {k : Nat} {A : Around} (hr : Room k A) : A.units + 64 < cLine := by have := hr.un; omega
theorem op_neK {X : Cx} {K : PySem.W.Frag} (hK : X.K = K) (hu : X.A.units + 64 < cLine) : OpR X (compareOp .NotEq) (rNeD K) := hK ▸ op_neD hu
theorem op_eqK {X : Cx} {K : PySem.W.Frag} (hK : X.K = K) (hu : X.A.units + 64 < cLine) : OpR X (compareOp .Eq) (rEqD K) := hK ▸ op_eqD hu
/-- a cell as data -/
def cD (c : Cell) : PyData := .tuple [.int c.1, .int c.2]
theorem At.dp {K : PySem.W.Frag} {H : Hp} {q : Addr} {c : Cell} (h : At H q c) : Dp K H (.ref q) (cD c) := .tup (SqT.of h) (.cons (.int _) (.cons (.int _) .nil))
theorem cD_eqv (c d : Cell) : PyData.eqv (cD c) (cD d) = decide (c = d) := by
  obtain ⟨c1, c2⟩ := c
  obtain ⟨d1, d2⟩ := d
  simp only [cD, PyData.eqv, PyData.eqvAll, Bool.and_true, Prod.mk.injEq, Bool.decide_and]
  rw [show (c1 == d1) = decide (c1 = d1) from rfl, show (c2 == d2) = decide (c2 = d2) from rfl]
theorem cD_shaped (c : Cell) : SeqAt.shaped (cD c) = true := by
  obtain ⟨c1, c2⟩ := c
  rfl
def without (L : List Cell) (c : Cell) : List Cell := L.filter fun d => decide (d ≠ c)
theorem without_snoc (L : List Cell) (c d : Cell) : without (L ++ [d]) c = if d = c then without L c else without L c ++ [d] := by
  unfold without
  rw [List.filter_append]
  by_cases h : d = c
  · simp [h]
  · simp [h]
def spWithout : Sp := fun vs H Q _ => ∃ (d q : Addr) (L : List Cell) (c : Cell), vs = [.ref d, .ref q] ∧ H d = some (.dT (lotK L)) ∧ L.Nodup ∧ L.length ≤ 1000 ∧ At H q c ∧ ∀ e H', Same H H' → H e = none → H' e = some (.dT (lotK (without L c))) → Q (.ref e) H'
section
variable {P : Program} {w : World} {K : PySem.W.Frag} {mg : Str → Option Value} {base : Heap}
theorem scWo : FnScope ["lot", "cell", "other"] ["lot", "cell"] (defScope gWithout) := ⟨rfl, rfl, rfl, by decide +kernel, rfl, by decide +kernel, by decide +kernel⟩
theorem ok_without {f : Addr} {fd : FuncData} (F : FnP K "lot_without" gWithout f fd) : FnOk P w K mg base CX0 1 f fd ["lot", "cell"] spWithout := by
  refine F.ok scWo (fun vs H Q E h => ?_) (fun cdv A outer s H vs Q E hr h => ?_)
  · obtain ⟨d, q, L, c, rfl, _⟩ := h
    rfl
  · obtain ⟨d, q, L, c, rfl, ed, nd, big, aq, k⟩ := h
    have h64 := room64 hr
    refine ⟨_, PSs.nox (pss_one (ps_ret (pe_lock (pe_dct (o0 := .dT []) (own := [("other", 2)]) (g := gName 2) (.inr rfl) rfl (hu_of hr) scWo.nd (pi_keys (pv 0)) (blkOk_by (N := ["lot", "cell", "other"]) (sc := defScope gWithout) (by decide +kernel)) (fun _ _ _ _ _ => pg_name (i := 2) scWo.nd rfl (Or.inl rfl))
      (fun _ _ _ _ _ => pts_one (pt_cmpR (op_neK (K := K) rfl h64) (pv 2) (pv 1) (nomark _))) (fun _ _ _ _ _ => pv 2) (fun _ _ _ _ _ => pe_bl))))), ?_⟩
    refine ⟨d, _, ed, trivial, fun od => ⟨_, rfl, d, od, rfl, .inr ⟨_, upd_same, fun D hD => ?_⟩⟩⟩
    have hDd : D ≠ d := fun z => by rw [z, upd_same] at hD; cases hD
    have hD0 : H D = none := by rw [upd_ne hDd] at hD; exact hD
    refine dct_it walk_keysT (fun i G => (∀ b o, b ≠ d → H b = some o → G b = some o) ∧ G d = some (.frz od (.dT (lotK L))) ∧ G D = some (.dT (lotK (without (L.take i) c)))) ⟨fun b o hb e => ?_, ?_, upd_same⟩ (fun i G _ p => p.2.1) ?_ ?_
    · rw [upd_ne (ne_of_none e hD0), upd_ne hb]
      exact e
    · rw [upd_ne (Ne.symm hDd)]
      exact upd_same
    · rintro i x G G' hi ⟨kp, gd, gD⟩ ⟨rfl, ky, v, p, hk, rfl, hp⟩
      obtain ⟨e, he, ek⟩ : ∃ e, L[i]? = some e ∧ (cK e, V.bl true) = (ky, v) := by
        unfold lotK at hk
        rw [List.getElem?_map] at hk
        exact Option.map_eq_some_iff.mp hk
      cases ek
      have ae : At G' p e := hp
      have ac : At G' q c := kp _ _ (fun z => nomatch (show some (HO.tup (cV c)) = some (.dT (lotK L)) from by rw [← ed, ← z]; exact aq.symm)) aq
      refine ⟨rfl, _, rfl, _, rfl, cD e, cD c, ae.dp, ac.dp, cD_shaped e, cD_shaped c, _, rfl, ?_⟩
      rw [cD_eqv]
      refine ite2 (fun hc => ?_) (fun hc => ?_)
      · have ne : e ≠ c := by simpa using hc
        have out : e ∉ without (L.take i) c := fun m => nodup_take nd he (List.mem_filter.mp m).1
        have len : (without (L.take i) c).length ≤ 1000 := Nat.le_trans (List.length_filter_le _ _) (Nat.le_trans (by rw [List.length_take]; exact Nat.min_le_right _ _) big)
        refine ⟨_, rfl, _, dput_lot gD ae out (by rw [sizeLine_eq]; omega), fun b o hb e2 => ?_, ?_, ?_⟩
        · rw [upd_ne (fun z => by rw [z, hD0] at e2; cases e2)]
          exact kp b o hb e2
        · rw [upd_ne (Ne.symm hDd)]
          exact gd
        · rw [upd_same, take_snoc he, without_snoc, if_neg ne]
      · have ec : e = c := by simpa using hc
        refine ⟨kp, gd, ?_⟩
        rw [take_snoc he, without_snoc, if_pos ec]
        exact gD
    · rintro G ⟨kp, gd, gD⟩
      rw [lot_len, List.take_length] at gD
      refine ⟨gd, k D _ (fun b o e => ?_) hD0 ?_⟩
      · by_cases hb : b = d
        · rw [hb, upd_same]
          rw [hb, ed] at e
          exact e
        · rw [upd_ne hb]
          exact kp b o hb e
      · rw [upd_ne hDd]
        exact gD
end
end Sq

set_option Elab.async false
set_option linter.all false
set_option maxRecDepth 100000
set_option maxHeartbeats 4000000
/-! The near ones; the flood; hanging together. -/
namespace Sq
open PySem PySem.Spec PyProof.Rows L2
/-- l holds a list of these cells -/
def CellsL (H : Hp) (l : Addr) (cs : List Cell) : Prop := ∃ qs : List Addr, H l = some (.lst (qs.map V.ref)) ∧ Paired (fun q c => At H q c) qs cs
def nearC (L : List Cell) (c : Cell) : List Cell := (besideC c).filter fun d => decide (d ∈ L)
def spNear : Sp := fun vs H Q _ => ∃ (d q : Addr) (L : List Cell) (c : Cell), vs = [.ref d, .ref q] ∧ H d = some (.dT (lotK L)) ∧ At H q c ∧ ∀ l H', Same H H' → H l = none → CellsL H' l (nearC L c) → Q (.ref l) H'
section
variable {P : Program} {w : World} {K : PySem.W.Frag} {mg : Str → Option Value} {base : Heap}
theorem scNe : FnScope ["lot", "cell", "near"] ["lot", "cell"] (defScope gNear) := ⟨rfl, rfl, rfl, by decide +kernel, rfl, by decide +kernel, by decide +kernel⟩
theorem ok_near {f fF : Addr} {fd fdF : FuncData} (F : FnP K "near_in" gNear f fd) (FF : FnP K "four_beside" gFour fF fdF) (gF : mg "four_beside" = some (.ref fF)) : FnOk P w K mg base CX0 2 f fd ["lot", "cell"] spNear := by
  have GF : FnOk P w K mg base CX0 1 fF fdF ["cell"] spFour := ok_four FF
  have bF : Binds K fdF ["cell"] [] := FF.bindsN fun _ _ _ _ _ _ us hl => match us, hl with | [_], _ => rfl
  refine F.ok scNe (fun vs H Q E h => ?_) (fun cdv A outer s H vs Q E hr h => ?_)
  · obtain ⟨d, q, L, c, rfl, _⟩ := h
    rfl
  · obtain ⟨d, q, L, c, rfl, ed, aq, k⟩ := h
    have hu := hu_of hr
    refine ⟨_, PSs.nox (pss_one (ps_ret (pe_lc (own := [("near", 2)]) (g := gName 2) rfl scNe.nd (pi_tup (pe_call GF hr rfl gF FF.kp bF .nil pass0 (pa_cons (pv 1) pa_nil))) (blkOk_by (N := ["lot", "cell", "near"]) (sc := defScope gNear) (by decide +kernel)) (fun _ _ _ _ _ => pg_name (i := 2) scNe.nd rfl (Or.inl rfl))
      (fun _ _ _ _ _ => pts_one (pt_cmp (pc_din hu (pv 2) (pv 0)))) (fun _ _ _ _ _ => pv 2)))), ?_⟩
    refine ⟨_, rfl, q, c, rfl, aq, fun t H1 s1 ht ⟨qs, et, pr⟩ => ⟨t, rfl, ⟨_, SqT.of et⟩, fun D hD => ?_⟩⟩
    refine lc_it (walk_tup (K := K) (a := t) (xs := qs.map V.ref)) (fun i G => Same H1 G ∧ ∃ rs : List Addr, G D = some (.lst (rs.map V.ref)) ∧ rs.length ≤ i ∧ Paired (fun r e => At H1 r e) rs (((besideC c).take i).filter fun e => decide (e ∈ L))) ⟨same_new hD, [], upd_same, Nat.le_refl _, .nil⟩ (fun i G _ p => SqT.of (p.1 _ _ et)) ?_ ?_
    · rintro i x G G' hi ⟨sm, rs, gD, ln, pp⟩ ⟨rfl, hx⟩
      rw [List.getElem?_map] at hx
      obtain ⟨p, hp, rfl⟩ := Option.map_eq_some_iff.mp hx
      obtain ⟨e, he, ae⟩ := paired_get pr hp
      have le : (qs.map V.ref).length = 4 := by rw [List.length_map]; exact Paired.length pr
      refine ⟨rfl, _, rfl, _, rfl, d, _, rfl, dget_lot (sm _ _ (s1 _ _ ed)) (ae.same sm), _, rfl, ?_⟩
      rw [lot_is]
      refine ite2 (fun hc => ?_) (fun hc => ?_)
      · refine ⟨_, rfl, _, gD, by rw [List.length_map, sizeLine_eq]; omega, fun b o e2 => ?_, rs ++ [p], by rw [upd_same]; simp, by rw [List.length_append]; exact Nat.succ_le_succ ln, ?_⟩
        · rw [upd_ne (fun z => by rw [z, hD] at e2; cases e2)]
          exact sm b o e2
        · rw [take_snoc he, List.filter_append]
          simp only [List.filter_cons, hc, if_true, List.filter_nil]
          exact pp.snoc ae
      · refine ⟨sm, rs, gD, Nat.le_succ_of_le ln, ?_⟩
        rw [take_snoc he, List.filter_append]
        have hc' : decide (e ∈ L) = false := Bool.eq_false_iff.mpr hc
        simp only [List.filter_cons, hc', Bool.false_eq_true, if_false, List.filter_nil, List.append_nil]
        exact pp
    · rintro G ⟨sm, rs, gD, _, pp⟩
      have le : (qs.map V.ref).length = (besideC c).length := by rw [List.length_map]; exact Paired.length pr
      rw [le, List.take_length] at pp
      exact k D G (s1.trans sm) (s1.free hD) ⟨rs, gD, paired_imp (fun _ _ a => a.same sm) pp⟩
end
end Sq

set_option Elab.async false
set_option linter.all false
set_option maxRecDepth 100000
set_option maxHeartbeats 4000000
/-! The flood. -/
namespace Sq
open PySem PySem.Spec PyProof.Rows L2
theorem snoc_inv {α : Type} {xs : List α} (h : xs ≠ []) : ∃ ys y, xs = ys ++ [y] := ⟨xs.dropLast, xs.getLast h, (List.dropLast_concat_getLast h).symm⟩
theorem paired_unsnoc {α β : Type} {F : α → β → Prop} {xs : List α} {x : α} {ys : List β} {y : β} (h : Paired F (xs ++ [x]) (ys ++ [y])) : Paired F xs ys ∧ F x y := by
  induction xs generalizing ys with
  | nil =>
    cases ys with
    | nil =>
      cases h with
      | cons a _ => exact ⟨.nil, a⟩
    | cons z zs =>
      have l := Paired.length h
      simp at l
  | cons a xs ih =>
    cases ys with
    | nil =>
      have l := Paired.length h
      simp at l
    | cons z zs =>
      cases h with
      | cons p t =>
        obtain ⟨h1, h2⟩ := ih t
        exact ⟨.cons p h1, h2⟩
section
variable {P : Program} {w : World} {K : PySem.W.Frag} {mg : Str → Option Value} {base : Heap}
end
end Sq

set_option Elab.async false
set_option linter.all false
set_option maxRecDepth 100000
set_option maxHeartbeats 4000000
/-! Hanging together; what is near a move. -/
namespace Sq
open PySem PySem.Spec PyProof.Rows L2
def turnsB (L : List Cell) (s e : Cell) : Bool := decide ((s.1, e.2) ∈ L) != decide ((e.1, s.2) ∈ L)
def sideB (L : List Cell) (s e d : Cell) : Bool := decide ((s.1 + d.1, s.2 + d.2) ∈ L) && decide ((e.1 + d.1, e.2 + d.2) ∈ L)
def slidesB (L : List Cell) (s e : Cell) : Bool := sideB L s e (e.2 - s.2, e.1 - s.1) || sideB L s e (-(e.2 - s.2), -(e.1 - s.1))
section
variable {P : Program} {w : World} {K : PySem.W.Frag} {mg : Str → Option Value} {base : Heap}
end
end Sq

set_option Elab.async false
set_option linter.all false
set_option maxRecDepth 100000
set_option maxHeartbeats 4000000
/-! slides: any of a generator expression. -/
namespace Sq
open PySem PySem.Spec PyProof.Rows L2
section
variable {P : Program} {w : World} {K : PySem.W.Frag} {mg : Str → Option Value} {base : Heap}
end
end Sq

set_option Elab.async false
set_option linter.all false
set_option maxRecDepth 100000
set_option maxHeartbeats 4000000
/-! The links around a cell. -/
namespace Sq
open PySem PySem.Spec PyProof.Rows L2
structure CrossC (K : PySem.W.Frag) (mg : Str → Option Value) (a : Addr) (rs : List Addr) : Prop where
  g : mg "CROSSWISE" = some (.ref a)
  t : ∀ H, SqT K H a (rs.map V.ref)
  e : Paired (fun r d => ∀ H, SqT K H r (cV d)) rs crossL
def spLinks : Sp := fun vs H Q _ => ∃ (d q : Addr) (L : List Cell) (c : Cell), vs = [.ref d, .ref q] ∧ H d = some (.dT (lotK L)) ∧ At H q c ∧ ∀ H', Same H H' → Q (.int (linksN L c : Int)) H'
theorem links_snoc {L : List Cell} {c d : Cell} {i : Nat} (h : crossL[i]? = some d) : (((crossL.take (i + 1)).filter (linkB L c)).length : Int) = ((crossL.take i).filter (linkB L c)).length + (if linkB L c d = true then 1 else 0) := by
  rw [take_snoc h, List.filter_append, List.length_append]
  by_cases e : linkB L c d = true
  · rw [if_pos e]
    simp [List.filter_cons, e]
  · rw [if_neg e]
    simp [List.filter_cons, e]
section
variable {P : Program} {w : World} {K : PySem.W.Frag} {mg : Str → Option Value} {base : Heap}
theorem scLi : FnScope ["lot", "cell", "column", "row", "links", "across", "up", "crosswise"] ["lot", "cell"] (defScope gLinks) := ⟨rfl, rfl, rfl, by decide +kernel, rfl, by decide +kernel, by decide +kernel⟩
theorem ok_links {f sa : Addr} {srs : List Addr} {fd : FuncData} (F : FnP K "links_around" gLinks f fd) (ST : CrossC K mg sa srs) : FnOk P w K mg base CX0 1 f fd ["lot", "cell"] spLinks := by
  refine F.ok scLi (fun vs H Q E h => ?_) (fun cdv A outer s H vs Q E hr h => ?_)
  · obtain ⟨d, q, L, c, rfl, _⟩ := h
    rfl
  · obtain ⟨d, q, L, c, rfl, ed, aq, k⟩ := h
    have hu := hu_of hr
    refine ⟨_, PSs.nox (pss_cons (ps_asg (pv 1) (pg_tup (by rfl) (pgs_cons (pg_name (i := 2) scLi.nd rfl (.inl rfl)) (pgs_cons (pg_name (i := 3) scLi.nd rfl (.inl rfl)) pgs_nil))))
      (pss_cons (ps_set (i := 4) scLi.nd rfl (.inl rfl) pe_int)
      (pss_cons (ps_for PassesOwn.never rfl (pi_tup (pe_glob (v := .ref sa) (by rfl) ST.g rfl)) (pg_tup (by rfl) (pgs_cons (pg_name (i := 5) scLi.nd rfl (.inl rfl)) (pgs_cons (pg_name (i := 6) scLi.nd rfl (.inl rfl)) pgs_nil)))
      (pss_cons (ps_set (i := 7) scLi.nd rfl (.inl rfl) (pe_tup (pa_cons (pe_op op_add (pv 2) (pv 5)) (pa_cons (pe_op op_add (pv 3) (pv 6)) pa_nil))))
        (pss_one (ps_if (PW.pt (pw_and (pt_cmp (pc_din hu (pv 7) (pv 0))) (pw_and (pt_cmp (pc_din hu (pe_tup (pa_cons (pe_ix (ix_tupK (K := K) rfl) (pv 7) pe_int (fun _ _ => rfl)) (pa_cons (pv 3) pa_nil))) (pv 0))) (pw_and1 (pt_cmp (pc_din hu (pe_tup (pa_cons (pv 2) (pa_cons (pe_ix (ix_tupK (K := K) rfl) (pv 7) pe_int (fun _ _ => rfl)) pa_nil))) (pv 0)))))))
        (pss_one (ps_aug (i := 4) scLi.nd rfl (.inl rfl) pe_int ip_add))
        pss_nil))))
      (pss_one (ps_ret (pv 4)))))), ?_⟩
    refine ⟨_, rfl, q, _, rfl, SqT.of aq, rfl, _, _, rfl, _, _, rfl, rfl, ?_⟩
    refine ⟨sa, rfl, ⟨_, ST.t _⟩, ?_⟩
    refine for_tup (K := K) (a := sa) (xs := srs.map V.ref) (fun i σ G => ∃ (v5 v6 v7 : Option V), σ = [some (.ref d), some (.ref q), some (.int c.1), some (.int c.2), some (.int (((crossL.take i).filter (linkB L c)).length : Int)), v5, v6, v7] ∧ Same H G)
      ⟨none, none, none, rfl, same_refl⟩ (fun _ _ _ _ _ => ST.t _) ?_ ?_
    · rintro i x σ G hi ⟨v5, v6, v7, rfl, sm⟩
      rw [List.getElem?_map] at hi
      obtain ⟨r, hr2, rfl⟩ := Option.map_eq_some_iff.mp hi
      obtain ⟨e, he, ae⟩ := paired_get ST.e hr2
      refine ⟨r, _, rfl, ae _, rfl, _, _, rfl, _, _, rfl, rfl, ?_⟩
      refine ⟨_, rfl, _, rfl, _, _, rfl, rfl, _, rfl, _, rfl, _, _, rfl, rfl, two_le, fun t1 h1 => ?_⟩
      have s1 := same_new (o := .tup [.int (c.1 + e.1), .int (c.2 + e.2)]) h1
      have a1 : At (upd G t1 (.tup [.int (c.1 + e.1), .int (c.2 + e.2)])) t1 (c.1 + e.1, c.2 + e.2) := upd_same
      refine ⟨_, rfl, _, rfl, d, _, rfl, dget_lot (c := (c.1 + e.1, c.2 + e.2)) (s1 _ _ (sm _ _ ed)) a1, _, rfl, ?_⟩
      rw [lot_is]
      have sm1 := sm.trans s1
      have done : ∀ {G' : Hp}, Same H G' → linkB L c e = false → ∃ v5 v6 v7, [some (V.ref d), some (.ref q), some (.int c.1), some (.int c.2), some (.int (((crossL.take i).filter (linkB L c)).length : Int)), some (.int e.1), some (.int e.2), some (.ref t1)] = [some (.ref d), some (.ref q), some (.int c.1), some (.int c.2), some (.int (((crossL.take (i + 1)).filter (linkB L c)).length : Int)), v5, v6, v7] ∧ Same H G' := fun s l => by
        rw [links_snoc he, if_neg (by rw [l]; exact Bool.false_ne_true), Int.add_zero]
        exact ⟨_, _, _, rfl, s⟩
      refine ite2 (fun hc => ?_) (fun hc => ?_)
      · refine ⟨_, rfl, _, _, _, _, rfl, rfl, SqT.of a1, at0, _, rfl, two_le, fun t2 h2 => ?_⟩
        have s2 := same_new (o := .tup [.int (c.1 + e.1), .int c.2]) h2
        refine ⟨_, rfl, d, _, rfl, dget_lot (c := (c.1 + e.1, c.2)) (s2 _ _ (sm1 _ _ ed)) upd_same, _, rfl, ?_⟩
        rw [lot_is]
        have sm2 := sm1.trans s2
        refine ite2 (fun hc2 => ?_) (fun hc2 => ?_)
        · refine ⟨_, rfl, _, rfl, _, _, _, _, rfl, rfl, SqT.of (s2 _ _ a1), at1, two_le, fun t3 h3 => ?_⟩
          have s3 := same_new (o := .tup [.int c.1, .int (c.2 + e.2)]) h3
          refine ⟨_, rfl, d, _, rfl, dget_lot (c := (c.1, c.2 + e.2)) (s3 _ _ (sm2 _ _ ed)) upd_same, _, rfl, ?_⟩
          rw [lot_is]
          refine ite2 (fun hc3 => ?_) (fun hc3 => ?_)
          · refine ⟨_, rfl, _, _, rfl, rfl, ?_⟩
            have l : linkB L c e = true := by simp only [linkB, hc, hc2, hc3, Bool.and_self]
            refine ⟨some (.int e.1), some (.int e.2), some (.ref t1), ?_, sm2.trans s3⟩
            rw [links_snoc he, if_pos l]
            rfl
          · exact done (sm2.trans s3) (by simp only [linkB, Bool.eq_false_iff.mpr hc3, Bool.and_false])
        · exact done sm2 (by simp only [linkB, Bool.eq_false_iff.mpr hc2, Bool.and_false, Bool.false_and])
      · exact done sm1 (by simp only [linkB, Bool.eq_false_iff.mpr hc, Bool.false_and])
    · rintro σ G ⟨v5, v6, v7, rfl, sm⟩
      have ls : (srs.map V.ref).length = 4 := by rw [List.length_map, Paired.length ST.e]; rfl
      rw [ls]
      exact ⟨_, rfl, k G sm⟩
end
end Sq

set_option Elab.async false
set_option linter.all false
set_option maxRecDepth 100000
set_option maxHeartbeats 4000000
/-! What stays of values; the kind of a move. -/
namespace Sq
open PySem PySem.Spec PyProof.Rows L2
/-- all but tables and the dicts with plain keys (the pen) stays -/
def Ek (H H' : Hp) : Prop := ∀ b o, (∀ ps, o ≠ HO.tbl ps) → (∀ kvs, o ≠ HO.dK kvs) → H b = some o → H' b = some o
theorem Ek.refl {H : Hp} : Ek H H := fun _ _ _ _ e => e
theorem Ek.trans {H G I : Hp} (h : Ek H G) (k : Ek G I) : Ek H I := fun b o n m e => k b o n m (h b o n m e)
theorem Ek.of {H G : Hp} (h : Same H G) : Ek H G := fun b o _ _ e => h b o e
theorem KT.ek {Ts : List Addr} {H G : Hp} (h : KT Ts H G) : Ek H G := fun _ _ n _ e => h.get e n
theorem Ek.at {H G : Hp} {q : Addr} {c : Cell} (h : Ek H G) (e : At H q c) : At G q c := h _ _ (fun _ z => nomatch z) (fun _ z => nomatch z) e
theorem Ek.tup {H G : Hp} {q : Addr} {xs : List V} (h : Ek H G) (e : H q = some (.tup xs)) : G q = some (.tup xs) := h _ _ (fun _ z => nomatch z) (fun _ z => nomatch z) e
theorem Ek.lst {H G : Hp} {q : Addr} {xs : List V} (h : Ek H G) (e : H q = some (.lst xs)) : G q = some (.lst xs) := h _ _ (fun _ z => nomatch z) (fun _ z => nomatch z) e
theorem Ek.dT {H G : Hp} {q : Addr} {xs : List (List Key × V)} (h : Ek H G) (e : H q = some (.dT xs)) : G q = some (.dT xs) := h _ _ (fun _ z => nomatch z) (fun _ z => nomatch z) e
theorem Ek.cells {H G : Hp} {qs : List Addr} {cs : List Cell} (h : Ek H G) (e : Paired (fun q c => At H q c) qs cs) : Paired (fun q c => At G q c) qs cs := paired_imp (fun _ _ a => h.at a) e
theorem CellsT.ek {H G : Hp} {t : Addr} {cs : List Cell} (h : CellsT H t cs) (k : Ek H G) : CellsT G t cs := by
  obtain ⟨qs, e, r⟩ := h
  exact ⟨qs, k.tup e, k.cells r⟩
theorem CellsL.ek {H G : Hp} {t : Addr} {cs : List Cell} (h : CellsL H t cs) (k : Ek H G) : CellsL G t cs := by
  obtain ⟨qs, e, r⟩ := h
  exact ⟨qs, k.lst e, k.cells r⟩
theorem Kd.ek {K : PySem.W.Frag} {H G : Hp} {x : V} {T : String} (h : Kd K H x T) (k : Ek H G) : Kd K G x T := by
  have m := h.mem
  have t := h.ty
  refine ⟨?_, m⟩
  have nd : T ≠ "dict" := fun z => by rw [z] at m; exact absurd m (by decide)
  have ns : T ≠ "set" := fun z => by rw [z] at m; exact absurd m (by decide)
  generalize e : (Value.type T) = u at t
  cases t with
  | base b =>
    cases b with
    | non => exact .base .non
    | bl y => exact .base (.bl y)
    | int i => exact .base (.int i)
    | str y => exact .base (.str y)
    | flt y => exact .base (.flt y)
    | lst ea => exact .base (.lst (k.lst ea))
    | frz ea => exact .base (.frz (k _ _ (fun _ z => nomatch z) (fun _ z => nomatch z) ea))
    | tup ea => exact .base (.tup (k.tup ea))
    | dK ea => exact absurd (Value.type.inj e) nd
    | dT ea => exact absurd (Value.type.inj e) nd
    | ins _ _ _ _ _ _ => cases e
  | byt b => exact .byt b
  | set ea => exact absurd (Value.type.inj e) ns
  | kList ea c => exact .kList ea c
  | kTuple ea c => exact .kTuple ea c
  | kDict ea c => exact .kDict ea c
  | fTuple ea => exact .fTuple (k _ _ (fun _ z => nomatch z) (fun _ z => nomatch z) ea)
  | fDict ea => exact absurd (Value.type.inj e) nd
theorem CellQ.ek {K : PySem.W.Frag} {H G : Hp} {x : V} {b : Bool} (h : CellQ K H x b) (k : Ek H G) : CellQ K G x b := by
  cases h with
  | other kd n => exact .other (kd.ek k) n
  | len e n => exact .len (k.tup e) n
  | two e ky kz n => exact .two (k.tup e) (ky.ek k) (kz.ek k) n
  | cell e => exact .cell (k.at e)
/-- as call_abs says it -/
def absI (i : Int) : Int := if i < 0 then -i else i
/-- the kind by the cells around -/
def byPlace (L : List Cell) (s e : Cell) : V :=
  if decide (s ∈ L) = false ∨ decide (e ∈ L) = true then .non
  else if absI (e.1 - s.1) + absI (e.2 - s.2) = 1 then (if slidesB L s e = true then .str "slide" else .non)
  else if absI (e.1 - s.1) = 1 ∧ absI (e.2 - s.2) = 1 then (if turnsB L s e = true then .str "turn" else .non) else .non
noncomputable def kindV (L : List Cell) (s e : Cell) : V := if byPlace L s e = .non ∨ hangsB (without L s) = false then .non else byPlace L s e
section
variable {P : Program} {w : World} {K : PySem.W.Frag} {mg : Str → Option Value} {base : Heap} {Ts : List Addr}
end
end Sq

set_option Elab.async false
set_option linter.all false
set_option maxRecDepth 100000
set_option maxHeartbeats 4000000
/-! Data stay where all but tables and the pen stays. -/
namespace Sq
open PySem PySem.Spec PyProof.Rows L2
section
variable {K : PySem.W.Frag} {H H' : Hp}
theorem Ek.rd (k : Ek H H') {l : Addr} {u : HO} (h1 : ∀ ps, u ≠ .tbl ps) (h2 : ∀ kvs, u ≠ .dK kvs) (h : Rd H l u) : Rd H' l u := by
  rcases h with h | ⟨o, h⟩
  · exact .inl (k l _ h1 h2 h)
  · exact .inr ⟨o, k l _ (fun _ z => nomatch z) (fun _ z => nomatch z) h⟩
theorem Ek.sqL (k : Ek H H') {l : Addr} {xs : List V} (h : SqL K H l xs) : SqL K H' l xs := h.elim (fun z => .inl (k.rd (fun _ q => nomatch q) (fun _ q => nomatch q) z)) .inr
theorem Ek.sqT (k : Ek H H') {l : Addr} {xs : List V} (h : SqT K H l xs) : SqT K H' l xs := h.elim (fun z => .inl (k.rd (fun _ q => nomatch q) (fun _ q => nomatch q) z)) .inr
mutual
theorem Ek.dp (k : Ek H H') : ∀ (d : PyData) (x : V), Dp K H x d → Dp K H' x d
  | .none, _, h => by
    cases h
    exact .non
  | .bool b, _, h => by
    cases h
    exact .bl b
  | .int i, _, h => by
    cases h
    exact .int i
  | .str s, _, h => by
    cases h
    exact .str s
  | .list ds, _, h => by
    cases h with
    | lst h1 h2 => exact .lst (k.sqL h1) (k.dps ds _ h2)
  | .tuple ds, _, h => by
    cases h with
    | tup h1 h2 => exact .tup (k.sqT h1) (k.dps ds _ h2)
  | .dict _, _, h => by cases h
theorem Ek.dps (k : Ek H H') : ∀ (ds : List PyData) (xs : List V), DpAll K H xs ds → DpAll K H' xs ds
  | [], _, h => by
    cases h
    exact .nil
  | d :: ds, _, h => by
    cases h with
    | cons h1 h2 => exact .cons (k.dp d _ h1) (k.dps ds _ h2)
end
/-- cells as data -/
theorem cells_dps : ∀ {qs : List Addr} {cs : List Cell}, Paired (fun q c => At H q c) qs cs → DpAll K H (qs.map V.ref) (cs.map cD)
  | _, _, .nil => .nil
  | _, _, .cons h t => .cons h.dp (cells_dps t)
theorem CellsT.dp {t : Addr} {cs : List Cell} (h : CellsT H t cs) : Dp K H (.ref t) (.tuple (cs.map cD)) := by
  obtain ⟨qs, e, pr⟩ := h
  exact .tup (SqT.of e) (cells_dps pr)
theorem CellsL.dp {t : Addr} {cs : List Cell} (h : CellsL H t cs) : Dp K H (.ref t) (.list (cs.map cD)) := by
  obtain ⟨qs, e, pr⟩ := h
  exact .lst (SqL.of e) (cells_dps pr)
end
end Sq

set_option Elab.async false
set_option linter.all false
set_option maxRecDepth 100000
set_option maxHeartbeats 4000000
/-! Hanging together without a cell. -/
namespace Sq
open PySem PySem.Spec PyProof.Rows L2
/-- in, for a cell and a list of cells -/
def rInH : R2 := fun x y H Q => ∃ (p t : Addr) (c : Cell) (L : List Cell), x = .ref p ∧ y = .ref t ∧ At H p c ∧ CellsL H t L ∧ Q (.bl (decide (c ∈ L))) H
theorem any_cellH (c : Cell) : ∀ L : List Cell, (L.map cD).any (fun z => PyData.eqv z (cD c)) = decide (c ∈ L)
  | [] => by simp
  | d :: L => by
    rw [List.map_cons, List.any_cons, any_cellH c L, cD_eqv]
    by_cases h : d = c
    · subst h
      simp
    · have h' : ¬ c = d := fun z => h z.symm
      simp [h, h']
theorem lay_cellH (c : Cell) : Lay 1 (cD c) := lay_tuple fun d hd => by
  simp only [List.mem_cons, List.not_mem_nil, or_false] at hd
  rcases hd with rfl | rfl
  · exact lay_int _
  · exact lay_int _
theorem cells_canH (L : List Cell) : PyData.canLayAll0 (L.map cD) = true := (lay_all (n := 1) fun d hd => by
  obtain ⟨c, _, rfl⟩ := List.mem_map.mp hd
  exact lay_cellH c).1
theorem op_inH {X : Cx} (hu : X.A.units + 64 < cLine) : OpR X (compareOp .In) rInH := by
  rintro pins s σ H x y v u Q I rx ry ⟨p, t, c, L, rfl, rfl, ap, ct, q⟩
  obtain ⟨as, r1⟩ := Dp.reads I (cD c) _ v ap.dp rx
  obtain ⟨bs, r2⟩ := Dp.reads I (.list (L.map cD)) _ u ct.dp ry
  have l1 := lay_cellH c
  refine SeqAt.in_list_reads r2 r1 (cells_canH L) l1.1 ?_ ⟨.bl _, H, I, rfl, ?_⟩
  · have m : min (PyData.depthAll (L.map cD)) (cD c).depth ≤ 1 := Nat.le_trans (Nat.min_le_right _ _) l1.2
    omega
  · rw [any_cellH]
    exact q
/-- how many of N are not met -/
def missN (N F : List Cell) : Nat := (N.filter fun x => !decide (x ∈ F)).length
theorem miss_put {F : List Cell} {y : Cell} (h : y ∉ F) : ∀ {N : List Cell}, N.Nodup → missN N (F ++ [y]) + (if y ∈ N then 1 else 0) = missN N F
  | [], _ => rfl
  | x :: N, nN => by
    obtain ⟨nx, nN⟩ := List.nodup_cons.mp nN
    have ih := miss_put h nN
    unfold missN at ih ⊢
    rw [List.filter_cons, List.filter_cons]
    by_cases e : x = y
    · subst e
      rw [if_neg nx] at ih
      have a : (!decide (x ∈ F ++ [x])) = false := by simp
      have b : (!decide (x ∈ F)) = true := by simp [h]
      rw [a, b, if_pos (List.mem_cons_self ..), if_pos rfl, if_neg (by simp), List.length_cons]
      omega
    · have a : decide (x ∈ F ++ [y]) = decide (x ∈ F) := by simp [e]
      have b : (y ∈ x :: N) ↔ y ∈ N := by simp [Ne.symm e]
      rw [a]
      have c : (if y ∈ x :: N then 1 else 0) = (if y ∈ N then 1 else 0 : Nat) := by simp only [b]
      rw [c]
      by_cases g : x ∈ F
      · simpa [g] using ih
      · simp only [g, decide_false, Bool.not_false, if_true, List.length_cons]
        omega
theorem miss_zero {N F : List Cell} : missN N F = 0 ↔ ∀ x ∈ N, x ∈ F := by
  unfold missN
  rw [List.length_eq_zero_iff, List.filter_eq_nil_iff]
  simp
theorem beside_nodup (c : Cell) : (besideC c).Nodup := by
  obtain ⟨a, b⟩ := c
  simp [besideC]
  omega
theorem near_nodup {L : List Cell} (c : Cell) : (nearC L c).Nodup := (beside_nodup c).sublist List.filter_sublist
structure Hw (H : Hp) (L : List Cell) (c a : Cell) (fo ah : Addr) (F A : List Cell) (G : Hp) : Prop where
  same : Same H G
  gf : G fo = some (.dT (lotK F))
  ga : CellsL G ah A
  nd : F.Nodup
  cF : c ∈ F
  aF : a ∈ F
  re : ∀ x ∈ F, x = c ∨ Reach (but L c) a x
  sub : ∀ x ∈ A, x ∈ F ∧ x ≠ c
  len : A.length ≤ F.length
def HwW (H : Hp) (L : List Cell) (c a : Cell) (d q ar fo ah : Addr) (m : Nat) (σ : L2.St) (G : Hp) : Prop := ∃ (F A : List Cell) (v6 v7 : Option V), m = 2 * (L.length - F.length) + A.length ∧ σ = [some (.ref d), some (.ref q), some (.ref ar), some (.ref fo), some (.ref ah), some (.int (missN (nearC L c) F : Int)), v6, v7] ∧ Hw H L c a fo ah F A G ∧
      ∀ x ∈ F, x ∉ A → x ≠ c → ∀ y ∈ besideC x, y ∈ L → y ∈ F
theorem one_lt : (1 : Nat) < sizeLine := by rw [sizeLine_eq]; decide
theorem one_le : (1 : Nat) ≤ sizeLine := by rw [sizeLine_eq]; decide
def spHangsW : Sp := fun vs H Q _ => ∃ (d q : Addr) (L : List Cell) (c : Cell), vs = [.ref d, .ref q] ∧ H d = some (.dT (lotK L)) ∧ L.Nodup ∧ L.length ≤ 1000 ∧ Hangs L ∧ c ∈ L ∧ At H q c ∧ ∀ H', Same H H' → Q (.bl (hangsB (without L c))) H'
theorem hangs_decide {L : List Cell} {p : Prop} [Decidable p] (h : p ↔ Hangs L) : (decide p) = hangsB L := hangsB_of (by rw [decide_eq_true_iff]; exact h)
section
variable {P : Program} {w : World} {K : PySem.W.Frag} {mg : Str → Option Value} {base : Heap}
theorem scHw : FnScope ["lot", "cell", "around", "found", "ahead", "missing", "place", "near"] ["lot", "cell"] (defScope gHangsW) := ⟨rfl, rfl, rfl, by decide +kernel, rfl, by decide +kernel, by decide +kernel⟩
theorem ok_hangsW {f : Addr} {fd : FuncData} (F : FnP K "hangs_without" gHangsW f fd) (B : Bl mg) (DN : Df P w K mg base CX0 2 "near_in" ["lot", "cell"] spNear) (DL : Df P w K mg base CX0 1 "links_around" ["lot", "cell"] spLinks) : FnOk P w K mg base CX0 3 f fd ["lot", "cell"] spHangsW := by
  refine F.ok scHw (fun vs H Q E h => ?_) (fun cdv A outer s H vs Q E hr h => ?_)
  · obtain ⟨d, q, L, c, rfl, _⟩ := h
    rfl
  · obtain ⟨d, q, L, c, rfl, ed, nL, lL, hang, cL, aq, k⟩ := h
    have hu := hu_of hr
    have h64 := room64 hr
    refine ⟨_, PSs.nox (pss_cons (ps_set (i := 2) scHw.nd rfl (.inl rfl) (pe_df DN hr (by rfl) pass0 (pa_cons (pv 0) (pa_cons (pv 1) pa_nil))))
      (pss_cons (ps_if (PW.pt (pw_or (pt_cmpR op_lt (pe_callB call_len_seq (by rfl) B.len PySem.boot_len (pa_cons (pv 2) pa_nil)) pe_int (nomark _)) (pw_or1 (pt_cmpR op_ge (pe_df DL hr (by rfl) pass0 (pa_cons (pv 0) (pa_cons (pv 1) pa_nil))) (pe_op op_sub (pe_callB call_len_seq (by rfl) B.len PySem.boot_len (pa_cons (pv 2) pa_nil)) pe_int) (nomark _)))))
      (pss_one (ps_ret (pe_cmpR op_gt (pe_callB call_len_seq (by rfl) B.len PySem.boot_len (pa_cons (pv 2) pa_nil)) pe_int (nomark _))))
      pss_nil)
      (pss_cons (ps_set (i := 3) scHw.nd rfl (.inl rfl) (pe_disp2 (.inr rfl) hu (pv 1) pe_bl (pe_ix (ix_listK (K := K) rfl) (pv 2) pe_int (fun _ _ => rfl)) pe_bl))
      (pss_cons (ps_set (i := 4) scHw.nd rfl (.inl rfl) (pe_lst (pa_cons (pe_ix (ix_listK (K := K) rfl) (pv 2) pe_int (fun _ _ => rfl)) pa_nil)))
      (pss_cons (ps_set (i := 5) scHw.nd rfl (.inl rfl) (pe_op op_sub (pe_callB call_len_seq (by rfl) B.len PySem.boot_len (pa_cons (pv 2) pa_nil)) pe_int))
      (pss_cons (ps_while PassesOwn.never (PW.pt (pw_and (pt_truth (pv 4) (by intro _; rfl)) (pw_and1 (pt_cmpR op_gt (pv 5) pe_int (nomark _)))))
      (pss_cons (ps_set (i := 6) scHw.nd rfl (.inl rfl) (pe_bm0 PySem.F.plainAttrs_list PySem.F.slot_list_pop PySem.F.type_list_pop mt_pop (pv 4)))
        (pss_one (ps_for PassesOwn.never rfl (pi_list (pe_df DN hr (by rfl) pass0 (pa_cons (pv 0) (pa_cons (pv 6) pa_nil)))) (pg_name (i := 7) scHw.nd rfl (.inl rfl))
        (pss_one (ps_if (pt_cmp (pc_dnotin hu (pv 7) (pv 3)))
          (pss_cons (ps_dput hu (pv 3) (pv 7) pe_bl rfl)
            (pss_cons (ps_expr (pe_bm PySem.F.plainAttrs_list PySem.F.slot_list_append PySem.F.type_list_append mt_append (pv 4) (pa_cons (pv 7) pa_nil)))
            (pss_one (ps_if (pt_cmpR (op_inH h64) (pv 7) (pv 2) (by rfl))
            (pss_one (ps_aug (i := 5) scHw.nd rfl (.inl rfl) pe_int ip_sub))
            pss_nil))))
          pss_nil))))))
      (pss_one (ps_ret (pe_cmpR op_eq (pv 5) pe_int (nomark _)))))))))), ?_⟩
    refine ⟨_, rfl, _, rfl, d, q, L, c, rfl, ed, aq, fun ar H1 s1 har clr => ?_⟩
    obtain ⟨ns0, ear, prr⟩ := id clr
    have lns : ns0.length = (nearC L c).length := Paired.length prr
    have l4 : (nearC L c).length ≤ 4 := Nat.le_trans (List.length_filter_le ..) (Nat.le_refl 4)
    have mem2 : ∀ {x : Cell}, x ∈ nearC L c → x ∈ besideC c ∧ x ∈ L := fun h => ⟨(List.mem_filter.mp h).1, of_decide_eq_true (List.mem_filter.mp h).2⟩
    refine ⟨_, rfl, ar, _, rfl, .inl (SqL.of ear), _, _, rfl, rfl, _, rfl, ?_⟩
    rw [List.length_map, lns]
    -- both returns that come early
    have early : ∀ G, Same H G → (nearC L c).length < 2 ∨ (nearC L c).length ≤ linksN L c + 1 → Q (.bl (decide ((0 : Int) < ((nearC L c).length : Int)))) G := fun G sm h => by
      have e : decide ((0 : Int) < ((nearC L c).length : Int)) = hangsB (without L c) := hangs_decide (by
        by_cases z : nearC L c = []
        · exact ⟨fun h => absurd h (by rw [z]; simp), fun h => absurd h (none_hangs hang cL z)⟩
        · have pos : 0 < (nearC L c).length := List.length_pos_iff.mpr z
          refine ⟨fun _ => ?_, fun _ => by omega⟩
          by_cases one : (nearC L c).length = 1
          · obtain ⟨x, hx⟩ := List.length_eq_one_iff.mp one
            exact one_hangs hang cL hx
          · exact links_hangs hang cL (by show 2 ≤ (nearC L c).length; omega) (by show (nearC L c).length ≤ _; omega))
      rw [e]
      exact k G sm
    refine ite2 (fun hc => ?_) (fun hc => ?_)
    · have hc : ((nearC L c).length : Int) < 2 := of_decide_eq_true hc
      refine ⟨_, rfl, ar, _, rfl, .inl (SqL.of ear), _, _, rfl, rfl, ?_⟩
      rw [List.length_map, lns]
      exact early H1 s1 (.inl (by omega))
    have hc : ¬ (((nearC L c).length : Int) < 2) := fun h => hc (decide_eq_true h)
    refine ⟨_, rfl, _, rfl, d, q, L, c, rfl, s1 _ _ ed, s1 _ _ aq, fun H2 s2 => ?_⟩
    have ear2 := s2 _ _ ear
    refine ⟨_, rfl, ar, _, rfl, .inl (SqL.of ear2), _, _, rfl, rfl, _, _, rfl, rfl, _, rfl, ?_⟩
    rw [List.length_map, lns]
    have s12 := s1.trans s2
    refine ite2 (fun hc2 => ?_) (fun hc2 => ?_)
    · have hc2 : ((nearC L c).length : Int) - 1 ≤ (linksN L c : Int) := of_decide_eq_true hc2
      refine ⟨_, rfl, ar, _, rfl, .inl (SqL.of ear2), _, _, rfl, rfl, ?_⟩
      rw [List.length_map, lns]
      exact early H2 s12 (.inr (by omega))
    clear hc2 early
    obtain ⟨a, N', eN⟩ : ∃ a N', nearC L c = a :: N' := by
      cases e : nearC L c with
      | nil => rw [e] at hc; exact absurd (by decide) hc
      | cons a t => exact ⟨a, t, rfl⟩
    obtain ⟨qa, ns', ens⟩ : ∃ qa ns', ns0 = qa :: ns' := by
      cases e : ns0 with
      | nil => rw [e, eN] at lns; simp at lns
      | cons a t => exact ⟨a, t, rfl⟩
    have aN : a ∈ nearC L c := by rw [eN]; exact List.mem_cons_self ..
    obtain ⟨aB, aL⟩ := mem2 aN
    have ac : a ≠ c := beside_ne aB
    have aa : At H1 qa a := by
      rw [ens, eN] at prr
      cases prr with
      | cons h _ => exact h
    intro fo hfo
    have s3 := same_new (o := .dT []) hfo
    have aq3 := s3 _ _ (s12 _ _ aq)
    have aa3 : At (upd H2 fo (.dT [])) qa a := s3 _ _ (s2 _ _ aa)
    subst ens
    have e5 : (upd H2 fo (.dT [])) fo = some (.dT (lotK [])) := upd_same
    refine ⟨_, rfl, _, rfl, _, _, _, _, rfl, rfl, SqL.of (s3 _ _ ear2), at0, _, _, dput_lot (L := []) e5 aq3 (by simp) (by rw [sizeLine_eq]; decide), dput_lot (L := [c]) (c := a) upd_same ?_ (by simp [ac]) one_lt, ?_⟩
    · exact aa3.off upd_same (by intro xs z; cases z)
    rw [upd_upd, upd_upd]
    have s4 := same_new (o := .dT (lotK ([c] ++ [a]))) hfo
    have ear4 := s4 _ _ ear2
    refine ⟨_, rfl, _, _, _, _, rfl, rfl, SqL.of ear4, at0, one_le, fun ah hah => ?_⟩
    have nah : ah ≠ fo := fun z => by rw [z, upd_same] at hah; cases hah
    have hah2 : H2 ah = none := by rw [upd_ne nah] at hah; exact hah
    have s5 := same_new (o := .lst [.ref qa]) hah
    have ear5 := s5 _ _ ear4
    refine ⟨_, rfl, ar, _, rfl, .inl (SqL.of ear5), _, _, rfl, rfl, ?_⟩
    have m0 : ((((qa :: ns').map V.ref).length : Int) - 1) = (missN (nearC L c) ([c] ++ [a]) : Int) := by
      have e1 := miss_put (F := [c]) (y := a) (by simp [ac]) (near_nodup (L := L) c)
      have e0 : missN (nearC L c) [c] = (nearC L c).length := by
        unfold missN
        rw [List.filter_eq_self.mpr]
        intro x hx
        simp [beside_ne (mem2 hx).1]
      rw [if_pos aN, e0] at e1
      rw [List.length_map, lns]
      omega
    have k2 : ∀ H', Same H2 H' → Q (.bl (hangsB (without L c))) H' := fun H' s => k H' (s12.trans s)
    have ed2 := s12 _ _ ed
    have prr2 : Paired (fun q c => At H2 q c) (qa :: ns') (nearC L c) := paired_imp (fun _ _ h => At.same h s2) prr
    have clr2 : CellsL H2 ar (nearC L c) := ⟨_, ear2, prr2⟩
    refine ⟨HwW H2 L c a d q ar fo ah, ⟨_, [c] ++ [a], [a], none, none, rfl, congrArg (fun z : Int => [some (V.ref d), some (V.ref q), some (V.ref ar), some (V.ref fo), some (V.ref ah), some (V.int z), none, none]) m0, ⟨?_, ?_, ?_, ?_, by simp, by simp, ?_, ?_, by simp⟩, ?_⟩, ?_⟩
    · exact s4.trans s5
    · rw [upd_ne (Ne.symm nah)]
      exact upd_same
    · exact ⟨[qa], upd_same, .cons (s5 _ _ (s4 _ _ (s2 _ _ aa))) .nil⟩
    · simp [Ne.symm ac]
    · intro x hx
      simp only [List.cons_append, List.nil_append, List.mem_cons, List.not_mem_nil, or_false] at hx
      rcases hx with rfl | rfl
      · exact .inl rfl
      · exact .inr .refl
    · intro x hx
      rw [List.mem_singleton.mp hx]
      exact ⟨by simp, ac⟩
    · intro x hx nx xc
      simp only [List.cons_append, List.nil_append, List.mem_cons, List.not_mem_nil, or_false] at hx
      rcases hx with rfl | rfl
      · exact absurd rfl xc
      · exact absurd (List.mem_singleton.mpr rfl) nx
    · rintro m σ G ⟨F, A, v6, v7, rfl, rfl, I, cl⟩
      obtain ⟨qs, ea, pa⟩ := I.ga
      -- the end
      have fin : (A = [] ∨ missN (nearC L c) F = 0) → Q (.bl (decide (V.int (missN (nearC L c) F : Int) = V.int 0))) G := fun h => by
        have e : decide (V.int (missN (nearC L c) F : Int) = V.int 0) = hangsB (without L c) := hangs_decide (by
          have e1 : (V.int (missN (nearC L c) F : Int) = V.int 0) ↔ ∀ x ∈ nearC L c, x ∈ F := by
            rw [V.int.injEq, ← miss_zero]
            omega
          rw [e1]
          show _ ↔ Hangs (but L c)
          rw [rest_hangs hang cL aL aB]
          constructor
          · intro h x xL xb
            have xF := h x (List.mem_filter.mpr ⟨xb, decide_eq_true xL⟩)
            exact (I.re x xF).elim (fun e => absurd e (beside_ne xb)) id
          · intro h2 x xN
            rcases h with rfl | h
            · have fr := flood_rest I.re I.aF ac (fun x hx xc => cl x hx (by simp) xc)
              exact (fr x (beside_ne (mem2 xN).1)).mpr (h2 x (mem2 xN).2 (mem2 xN).1)
            · exact miss_zero.mp h x xN)
        rw [e]
        exact k2 G I.same
      refine ⟨_, rfl, _, .inl ⟨_, SqL.of ea, rfl⟩, ?_⟩
      by_cases hA : A = []
      · subst hA
        cases pa
        exact ⟨_, rfl, rfl, fin (.inl rfl)⟩
      obtain ⟨A', p, eA⟩ := snoc_inv (xs := A) hA
      have ne : qs ≠ [] := fun z => by rw [z, eA] at pa; have l := Paired.length pa; simp at l
      obtain ⟨qs', qc, eq⟩ := snoc_inv ne
      subst eA eq
      obtain ⟨pa', ap⟩ := paired_unsnoc pa
      have isE : (List.map V.ref (qs' ++ [qc])).isEmpty = false := by simp
      rw [isE]
      refine ⟨_, rfl, _, _, rfl, rfl, _, rfl, ?_⟩
      refine ite2 (fun hm => ?_) (fun hm => ?_)
      rotate_left
      · have hm : ¬ ((0 : Int) < (missN (nearC L c) F : Int)) := fun z => hm (decide_eq_true z)
        exact ⟨_, rfl, rfl, fin (.inr (by omega))⟩
      clear hm fin
      refine ⟨fun σ' G' => ∃ m', m' < 2 * (L.length - F.length) + (A' ++ [p]).length ∧ HwW H2 L c a d q ar fo ah m' σ' G', fun _ _ h => h, ?_⟩
      obtain ⟨pF, pc⟩ := I.sub p (by simp)
      have FL : ∀ {F2 : List Cell}, (∀ x ∈ F2, x = c ∨ Reach (but L c) a x) → ∀ x ∈ F2, x ∈ L := fun h x hx => (h x hx).elim (fun e => e ▸ cL) fun r => (mem_but.mp (r.mem (mem_but.mpr ⟨aL, ac⟩))).1
      have pLm : p ∈ L := FL I.re p pF
      have lenF : F.length ≤ L.length := len_le I.nd (FL I.re)
      refine ⟨_, rfl, .inl ⟨rfl, _, SqL.of ea⟩, ah, _, .ref qc, rfl, rfl, ea, by simp, ?_⟩
      have drop : (List.map V.ref (qs' ++ [qc])).dropLast = qs'.map V.ref := by simp
      rw [drop]
      have nfo : fo ≠ ah := Ne.symm nah
      have s6 : Same H2 (upd G ah (.lst (qs'.map V.ref))) := same_put I.same hah2
      have offA : ∀ {b : Addr} {x : Cell}, At G b x → At (upd G ah (.lst (qs'.map V.ref))) b x := fun h => h.off ea (by intro xs z; cases z)
      refine ⟨_, rfl, _, rfl, d, qc, L, p, rfl, s6 _ _ ed2, offA ap, fun l G2 s7 hl ⟨ns, el, pn⟩ => ?_⟩
      refine ⟨l, rfl, ⟨_, SqL.of el⟩, ?_⟩
      have lah : l ≠ ah := fun z => by rw [z, upd_same] at hl; cases hl
      have lfo : l ≠ fo := fun z => by rw [z, upd_ne nfo, I.gf] at hl; cases hl
      refine for_list (K := K) (a := l) (xs := ns.map V.ref) (fun i σ G => ∃ (F2 A2 : List Cell) (v7 : Option V), 2 * (L.length - F2.length) + A2.length < 2 * (L.length - F.length) + (A' ++ [p]).length ∧ σ = [some (.ref d), some (.ref q), some (.ref ar), some (.ref fo), some (.ref ah), some (.int (missN (nearC L c) F2 : Int)), some (.ref qc), v7] ∧
        Hw H2 L c a fo ah F2 A2 G ∧ p ∈ F2 ∧ G l = some (.lst (ns.map V.ref)) ∧ Paired (fun b x => At G b x) ns (nearC L p) ∧ (∀ x ∈ F2, x ∉ A2 → x ≠ c → x ≠ p → ∀ y ∈ besideC x, y ∈ L → y ∈ F2) ∧ ∀ y ∈ (nearC L p).take i, y ∈ F2) ?_ ?_ ?_ ?_
      · refine ⟨F, A', v7, ?_, rfl, ⟨s6.trans s7, ?_, ⟨qs', ?_, ?_⟩, I.nd, I.cF, I.aF, I.re, fun x hx => I.sub x (List.mem_append_left _ hx), ?_⟩, pF, el, pn, ?_, by simp⟩
        · rw [List.length_append]
          show _ < _ + (_ + 1)
          omega
        · refine s7 _ _ ?_
          rw [upd_ne nfo]
          exact I.gf
        · exact s7 _ _ upd_same
        · exact paired_imp (fun _ _ h => (offA h).same s7) pa'
        · have := I.len
          rw [List.length_append] at this
          omega
        · intro x hx nx xc np
          refine cl x hx (fun m => ?_) xc
          rcases List.mem_append.mp m with m | m
          · exact nx m
          · exact np (List.mem_singleton.mp m)
      · rintro i σ G hi ⟨F2, A2, v, _, _, _, _, e, _⟩
        exact SqL.of e
      · rintro i x σ G hi ⟨F2, A2, v, lt, rfl, J, p2, gl, pn2, cl2, tk⟩
        rw [List.getElem?_map] at hi
        obtain ⟨b, hb, rfl⟩ := Option.map_eq_some_iff.mp hi
        obtain ⟨y, hy, ay⟩ := paired_get pn2 hb
        have lF2 : F2.length ≤ L.length := len_le J.nd (FL J.re)
        have yN : y ∈ nearC L p := List.mem_of_getElem? hy
        have yL : y ∈ L := of_decide_eq_true (List.mem_filter.mp yN).2
        have yB : y ∈ besideC p := (List.mem_filter.mp yN).1
        refine ⟨_, rfl, _, rfl, fo, _, rfl, dget_lot J.gf ay, _, rfl, ?_⟩
        rw [lot_is]
        refine ite2 (fun hc => ?_) (fun hc => ?_)
        · have nF : y ∉ F2 := by simpa using hc
          have yc : y ≠ c := fun z => nF (z ▸ J.cF)
          have lt2 : F2.length + 1 ≤ L.length := len_le (xs := y :: F2) (List.nodup_cons.mpr ⟨nF, J.nd⟩) fun x hx => (List.mem_cons.mp hx).elim (fun e => e ▸ yL) (FL J.re x)
          obtain ⟨qs2, ea2, pa2⟩ := J.ga
          have lq : qs2.length = A2.length := Paired.length pa2
          refine ⟨_, rfl, _, rfl, fo, _, rfl, dput_lot J.gf ay nF (by rw [sizeLine_eq]; omega), ?_⟩
          have ea3 : upd G fo (.dT (lotK (F2 ++ [y]))) ah = some (.lst (qs2.map V.ref)) := by rw [upd_ne nah]; exact ea2
          have offF : ∀ {b : Addr} {x : Cell}, At G b x → At (upd G fo (.dT (lotK (F2 ++ [y])))) b x := fun h => h.off J.gf (by intro xs z; cases z)
          have offB : ∀ {b : Addr} {x : Cell}, At G b x → At (upd (upd G fo (.dT (lotK (F2 ++ [y])))) ah (.lst (qs2.map V.ref ++ [V.ref b]))) b x := fun h => (offF h).off ea3 (by intro xs z; cases z)
          refine ⟨_, rfl, .inl ⟨rfl, _, SqL.of ea3⟩, _, rfl, ah, _, _, rfl, rfl, ea3, by rw [List.length_map, sizeLine_eq]; have := J.len; omega, ?_⟩
          have sJ : Same H2 (upd (upd G fo (.dT (lotK (F2 ++ [y])))) ah (.lst (qs2.map V.ref ++ [V.ref b]))) := same_put (same_put J.same hfo) hah2
          refine ⟨_, rfl, _, rfl, b, ar, y, nearC L c, rfl, rfl, offB ay, clr2.ek (.of sJ), _, rfl, ?_⟩
          have rest : ∃ (F3 A3 : List Cell), 2 * (L.length - F3.length) + A3.length < 2 * (L.length - F.length) + (A' ++ [p]).length ∧ F3 = F2 ++ [y] ∧ Hw H2 L c a fo ah F3 A3 (upd (upd G fo (.dT (lotK (F2 ++ [y])))) ah (.lst (qs2.map V.ref ++ [V.ref b]))) ∧ p ∈ F3 ∧ upd (upd G fo (.dT (lotK (F2 ++ [y])))) ah (.lst (qs2.map V.ref ++ [V.ref b])) l = some (.lst (ns.map V.ref)) ∧
              Paired (fun b' x => At (upd (upd G fo (.dT (lotK (F2 ++ [y])))) ah (.lst (qs2.map V.ref ++ [V.ref b]))) b' x) ns (nearC L p) ∧ (∀ x ∈ F3, x ∉ A3 → x ≠ c → x ≠ p → ∀ y ∈ besideC x, y ∈ L → y ∈ F3) ∧ ∀ z ∈ (nearC L p).take (i + 1), z ∈ F3 := by
            refine ⟨F2 ++ [y], A2 ++ [y], ?_, rfl, ⟨sJ, ?_, ⟨qs2 ++ [b], ?_, ?_⟩, ?_, List.mem_append_left _ J.cF, List.mem_append_left _ J.aF, ?_, ?_, ?_⟩, List.mem_append_left _ p2, ?_, ?_, ?_, ?_⟩
            · rw [List.length_append, List.length_append]
              show 2 * (L.length - (F2.length + 1)) + (A2.length + 1) < _
              omega
            · rw [upd_ne nfo]
              exact upd_same
            · rw [upd_same, List.map_append]
              rfl
            · exact (paired_imp (fun _ _ h => (offF h).off ea3 (by intro xs z; cases z)) pa2).snoc (offB ay)
            · exact List.nodup_append.mpr ⟨J.nd, by simp, fun a ha b hb => by rw [List.mem_singleton.mp hb]; exact fun z => nF (z ▸ ha)⟩
            · intro x hx
              rcases List.mem_append.mp hx with h | h
              · exact J.re x h
              · rw [List.mem_singleton.mp h]
                refine .inr ?_
                rcases J.re p p2 with e | r
                · exact absurd e pc
                · exact r.step yB (mem_but.mpr ⟨yL, yc⟩)
            · intro x hx
              rcases List.mem_append.mp hx with h | h
              · exact ⟨List.mem_append_left _ (J.sub x h).1, (J.sub x h).2⟩
              · rw [List.mem_singleton.mp h]
                exact ⟨by simp, yc⟩
            · rw [List.length_append, List.length_append]
              exact Nat.succ_le_succ J.len
            · rw [upd_ne lah, upd_ne lfo]
              exact gl
            · exact paired_imp (fun _ _ h => (offF h).off ea3 (by intro xs z; cases z)) pn2
            · intro x hx nx xc np z hz zL
              rcases List.mem_append.mp hx with h | h
              · exact List.mem_append_left _ (cl2 x h (fun m => nx (List.mem_append_left _ m)) xc np z hz zL)
              · exact absurd (List.mem_append_right _ h) nx
            · intro z hz
              rw [take_snoc hy] at hz
              rcases List.mem_append.mp hz with h | h
              · exact List.mem_append_left _ (tk z h)
              · exact List.mem_append_right _ h
          obtain ⟨F3, A3, r1, rfl, r3, r4, r5, r6, r7, r8⟩ := rest
          have mp := miss_put nF (near_nodup (L := L) c)
          refine ite2 (fun hy2 => ?_) (fun hy2 => ?_)
          · have hy2 : y ∈ nearC L c := of_decide_eq_true hy2
            rw [if_pos hy2] at mp
            have e9 : (missN (nearC L c) F2 : Int) - 1 = (missN (nearC L c) (F2 ++ [y]) : Int) := by omega
            refine ⟨_, rfl, _, _, rfl, rfl, F2 ++ [y], A3, some (.ref b), r1, ?_, r3, r4, r5, r6, r7, r8⟩
            exact congrArg (fun z : Int => [some (V.ref d), some (V.ref q), some (V.ref ar), some (V.ref fo), some (V.ref ah), some (V.int z), some (.ref qc), some (.ref b)]) e9
          · have hy2 : y ∉ nearC L c := fun z => hy2 (decide_eq_true z)
            rw [if_neg hy2, Nat.add_zero] at mp
            refine ⟨F2 ++ [y], A3, some (.ref b), r1, ?_, r3, r4, r5, r6, r7, r8⟩
            rw [mp]
            rfl
        · have yF : y ∈ F2 := by simpa using hc
          refine ⟨F2, A2, _, lt, rfl, J, p2, gl, pn2, cl2, fun z hz => ?_⟩
          rw [take_snoc hy] at hz
          rcases List.mem_append.mp hz with h | h
          · exact tk z h
          · rw [List.mem_singleton.mp h]
            exact yF
      · rintro σ G ⟨F2, A2, v, lt, rfl, J, p2, gl, pn2, cl2, tk⟩
        refine ⟨_, lt, F2, A2, _, _, rfl, rfl, J, fun x hx nx xc y hy yL => ?_⟩
        by_cases hxc : x = p
        · subst hxc
          refine tk y ?_
          have e : (ns.map V.ref).length = (nearC L x).length := by rw [List.length_map]; exact Paired.length pn2
          rw [e, List.take_length]
          exact List.mem_filter.mpr ⟨hy, decide_eq_true yL⟩
        · exact cl2 x hx nx xc hxc y hy yL
end
end Sq

set_option Elab.async false
set_option linter.all false
set_option maxRecDepth 100000
set_option maxHeartbeats 4000000
/-! sorted of a lot of cells. -/
namespace Sq
open PySem PySem.Spec PyProof.Rows L2
section
variable {X : Cx}
end
end Sq

set_option Elab.async false
set_option linter.all false
set_option maxRecDepth 100000
set_option maxHeartbeats 4000000
/-! A square put elsewhere; the body of a lot; the kind of a move. -/
namespace Sq
open PySem PySem.Spec PyProof.Rows L2
theorem lot_dropW (c : Cell) (L : List Cell) : dropK (lotK L) (cK c) = lotK (without L c) := by
  unfold dropK lotK without
  rw [List.filter_map]
  congr 1
  refine List.filter_congr fun x _ => ?_
  show decide (cK x ≠ cK c) = decide (x ≠ c)
  by_cases h : x = c
  · simp [h]
  · have ne : ¬ cK x = cK c := fun z => h (cK_inj z)
    simp [h, ne]
theorem without_len (L : List Cell) (c : Cell) : (without L c).length ≤ L.length := List.length_filter_le _ _
theorem mem_without {L : List Cell} {c x : Cell} : x ∈ without L c ↔ x ∈ L ∧ x ≠ c := mem_but
/-- put(lot, start, end) -/
def spPut : Sp := fun vs H Q _ => ∃ (d p q : Addr) (L : List Cell) (s e : Cell), vs = [.ref d, .ref p, .ref q] ∧ H d = some (.dT (lotK L)) ∧ L.Nodup ∧ L.length ≤ 1000 ∧ s ∈ L ∧ e ∉ L ∧ At H p s ∧ At H q e ∧ Q .non (upd H d (.dT (lotK (without L s ++ [e]))))
section
variable {P : Program} {w : World} {K : PySem.W.Frag} {mg : Str → Option Value} {base : Heap} {Ts : List Addr}
theorem scPu : FnScope ["lot", "start", "end"] ["lot", "start", "end"] (defScope gPut) := ⟨rfl, rfl, rfl, by decide +kernel, rfl, by decide +kernel, by decide +kernel⟩
theorem ok_put {f : Addr} {fd : FuncData} (F : FnP K "put" gPut f fd) : FnOk P w K mg base CX0 1 f fd ["lot", "start", "end"] spPut := by
  refine F.ok scPu (fun vs H Q E h => ?_) (fun cdv A outer s H vs Q E hr h => ?_)
  · obtain ⟨d, p, q, L, s, e, rfl, _⟩ := h
    rfl
  · obtain ⟨d, p, q, L, a, b, rfl, ed, nL, lL, aL, bL, ap, aq, k⟩ := h
    have hu := hu_of hr
    refine ⟨_, PSs.nox (pss_cons (ps_ddelT hu (pv 0) (pv 1))
      (pss_one (ps_dput hu (pv 0) (pv 2) pe_bl rfl))), ?_⟩
    refine ⟨_, rfl, _, rfl, d, _, cK a, p, rfl, rfl, ed, ap, by rw [lot_is]; exact decide_eq_true aL, ?_⟩
    rw [lot_dropW a L]
    have e1 : (upd H d (.dT (lotK (without L a)))) d = some (.dT (lotK (without L a))) := upd_same
    have aq1 : At (upd H d (.dT (lotK (without L a)))) q b := aq.off ed (by intro xs z; cases z)
    refine ⟨_, rfl, _, rfl, d, _, rfl, dput_lot e1 aq1 (fun m => bL (mem_without.mp m).1) (by have := without_len L a; rw [sizeLine_eq]; omega), ?_⟩
    rw [upd_upd]
    exact k
theorem byPlace_mem {L : List Cell} {s e : Cell} (h : byPlace L s e ≠ .non) : s ∈ L ∧ e ∉ L := by
  unfold byPlace at h
  by_cases c : decide (s ∈ L) = false ∨ decide (e ∈ L) = true
  · rw [if_pos c] at h
    exact absurd rfl h
  · constructor
    · exact Classical.byContradiction fun n => c (.inl (decide_eq_false n))
    · exact fun n => c (.inr (decide_eq_true n))
end
end Sq

set_option Elab.async false
set_option linter.all false
set_option maxRecDepth 100000
set_option maxHeartbeats 4000000
/-! kind_of and done, with their errors. -/
namespace Sq
open PySem PySem.Spec PyProof.Rows L2
/-- an own error of the class at C is on its way, with these fields; all but tables stays -/
def Way (Ts : List Addr) (H : Hp) (C : Addr) (fs : List (Str × V)) (E : XK) : Prop := ∀ (dd : Addr) (H' : Hp), KT Ts H H' → H dd = none → H' dd = some (.xd fs) → E (.ref C) (some dd) H'
theorem Way.from {Ts : List Addr} {H G : Hp} {C : Addr} {fs : List (Str × V)} {E : XK} (h : Way Ts H C fs E) (k : KT Ts H G) : ∀ d, G d = none → E (.ref C) (some d) (upd G d (.xd fs)) := fun d hd =>
  h d _ (k.same (same_new hd)) (k.free hd) upd_same
section
variable {P : Program} {w : World} {K : PySem.W.Frag} {mg : Str → Option Value} {base : Heap} {Ts : List Addr}
end
end Sq

set_option Elab.async false
set_option linter.all false
set_option maxRecDepth 100000
set_option maxHeartbeats 4000000
/-! The pen: made, drawn from; a pick. -/
namespace Sq
open PySem PySem.Spec PyProof.Rows L2
abbrev kCells : Key := .inr "cells"
abbrev kAt : Key := .inr "at"
abbrev kDig : Key := .inr "digits"
abbrev kCnt : Key := .inr "count"
abbrev kFold : Key := .inr "fold"
/-- the pen's pairs -/
def penK (c : Addr) (i dg n fo : Int) : List (Key × V) := [(kCells, .ref c), (kAt, .int i), (kDig, .int dg), (kCnt, .int n), (kFold, .int fo)]
theorem pen_cells {c : Addr} {i dg n fo : Int} : valV (penK c i dg n fo) kCells = some (.ref c) := by kernel_rfl
theorem pen_at {c : Addr} {i dg n fo : Int} : valV (penK c i dg n fo) kAt = some (.int i) := by kernel_rfl
theorem pen_dig {c : Addr} {i dg n fo : Int} : valV (penK c i dg n fo) kDig = some (.int dg) := by kernel_rfl
theorem pen_cnt {c : Addr} {i dg n fo : Int} : valV (penK c i dg n fo) kCnt = some (.int n) := by kernel_rfl
theorem pen_fold {c : Addr} {i dg n fo : Int} : valV (penK c i dg n fo) kFold = some (.int fo) := by kernel_rfl
theorem put_at {c : Addr} {i dg n fo z : Int} : putK (penK c i dg n fo) kAt (.int z) = penK c z dg n fo := by kernel_rfl
theorem put_dig {c : Addr} {i dg n fo z : Int} : putK (penK c i dg n fo) kDig (.int z) = penK c i z n fo := by kernel_rfl
theorem put_cnt {c : Addr} {i dg n fo z : Int} : putK (penK c i dg n fo) kCnt (.int z) = penK c i dg z fo := by kernel_rfl
theorem put_fold {c : Addr} {i dg n fo z : Int} : putK (penK c i dg n fo) kFold (.int z) = penK c i dg n z := by kernel_rfl
theorem pen_disp {c : Addr} {fo : Int} : mergeK [] (penK c 0 0 0 fo) = penK c 0 0 0 fo := by kernel_rfl
theorem pen_len {c : Addr} {i dg n fo : Int} : (penK c i dg n fo).length < sizeLine := Nat.lt_of_le_of_lt (Nat.le_refl 5) (by rw [sizeLine_eq]; decide)
theorem dget_of {H : Hp} {p : Addr} {kvs : List (Key × V)} {k : Key} {v : V} (e : H p = some (.dK kvs)) (hv : valV kvs k = some v) : DGet H p (kV k) (some v) := hv ▸ DGet.k (k := k) e
theorem dput_of {H : Hp} {p c : Addr} {i dg n fo : Int} {kvs' : List (Key × V)} {k : Key} {v : V} (e : H p = some (.dK (penK c i dg n fo))) (hk : putK (penK c i dg n fo) k v = kvs') : DPut H p (kV k) v (upd H p (.dK kvs')) := hk ▸ DPut.k e pen_len
/-- a pen stands at p, n numbers were drawn -/
structure PenAt (H : Hp) (p : Addr) (n : Nat) : Prop where
  ex : ∃ (c : Addr) (zs : List Int) (i : Nat) (dg fo : Int), H p = some (.dK (penK c i dg n fo)) ∧ H c = some (.lst (zs.map V.int)) ∧ i ≤ zs.length ∧ zs.length ≤ 63 ∧ 0 ≤ dg ∧ 0 ≤ fo ∧ fo < 2147483648
/-- _law_pen(script): a new pen -/
def spPen (K : PySem.W.Frag) : Sp := fun vs H Q _ => ∃ (a : Addr) (zs : List Int), vs = [.ref a] ∧ SqL K H a (zs.map V.int) ∧ zs.length ≤ 63 ∧ ∀ (p : Addr) (H' : Hp), PenAt H' p 0 → Same H H' → H p = none → Q (.ref p) H'
section
variable {P : Program} {w : World} {K : PySem.W.Frag} {mg : Str → Option Value} {base : Heap}
theorem scP : FnScope ["_law_script", "_law_fold", "_law_cell"] ["_law_script"] (defScope sPen) := ⟨rfl, rfl, rfl, by decide +kernel, rfl, by decide +kernel, by decide +kernel⟩
theorem ok_pen {f : Addr} {fd : FuncData} (F : FnP K "_law_pen" sPen f fd) (gI : mg "int" = none) (gL : mg "list" = none) : FnOk P w K mg base CX0 1 f fd ["_law_script"] (spPen K) := by
  refine F.ok scP (fun vs H Q E h => ?_) (fun cdv A outer s H vs Q E hr h => ?_)
  · obtain ⟨a, zs, rfl, _⟩ := h
    rfl
  · obtain ⟨a, zs, rfl, hS, hl, k⟩ := h
    refine ⟨_, PSs.nox (pss_cons (ps_set (i := 1) scP.nd rfl (.inl rfl) pe_int)
      (pss_cons (ps_for PassesOwn.never rfl (pi_list (pv 0)) (pg_name (i := 2) scP.nd rfl (.inl rfl))
        (pss_one (ps_set (i := 1) scP.nd rfl (.inl rfl) (pe_op op_mod (pe_callTy call_int1 (by rfl) gI PyProof.Rows.boot_int (pa_cons (pe_op op_add (pe_op op_mul (pv 1) pe_int) (pv 2)) pa_nil)) pe_int))))
      (pss_one (ps_ret (pe_disp (pps_cons pe_str (pe_callTy call_list_of (by rfl) gL PyProof.Rows.boot_list (pa_cons (pv 0) pa_nil)) (pps_cons pe_str pe_int (pps_cons pe_str pe_int (pps_cons pe_str pe_int (pps_cons pe_str (pv 1) pps_nil))))) rfl rfl (by simp) (by decide)))))), ?_⟩
    -- the loop
    refine ⟨_, rfl, a, rfl, ⟨_, hS⟩, for_list (K := K) (a := a) (xs := zs.map V.int) (fun i σ H2 => ∃ (fo : Int) (v : Option V), σ = [some (.ref a), some (.int fo), v] ∧ H2 = H ∧ 0 ≤ fo ∧ fo < 1000000007)
      ⟨0, none, rfl, rfl, by decide, by decide⟩ (fun i σ H2 _ ⟨_, _, _, e, _⟩ => by rw [e]; exact hS) ?_ ?_⟩
    · rintro i y σ H2 hi ⟨fo, v, rfl, rfl, h0, h1⟩
      obtain ⟨z, rfl⟩ : ∃ z, y = V.int z := by
        rw [List.getElem?_map] at hi
        cases e : zs[i]? with
        | none =>
          rw [e] at hi
          cases hi
        | some z =>
          rw [e] at hi
          exact ⟨z, (Option.some.inj hi).symm⟩
      refine ⟨_, rfl, _, _, rfl, rfl, .inl ⟨by omega, by omega⟩, _, rfl, _, _, rfl, rfl, .inl ⟨_, rfl, ?_⟩⟩
      refine ⟨_, _, rfl, rfl, (by show (0 : Int) < 1000000007; decide), _, _, rfl, rfl, ?_, ?_⟩
      · exact Int.emod_nonneg _ (by decide)
      · exact Int.emod_lt_of_pos _ (by decide)
    · rintro σ H2 ⟨fo, v, rfl, rfl, h0, h1⟩
      intro p hp
      refine ⟨_, rfl, a, zs.map V.int, rfl, .inl ?_, fun c hc => ?_⟩
      · exact (same_new hp).seq hS
      · have np : c ≠ p := fun z => by
          rw [z, upd_same] at hc
          cases hc
        have nc : H2 c = none := by
          rw [upd_ne np] at hc
          exact hc
        refine ⟨_, rfl, ?_, [(kCells, .ref c), (kAt, .int 0), (kDig, .int 0), (kCnt, .int 0), (kFold, .int fo)], rfl, by simp, ?_⟩
        · rw [upd_ne (Ne.symm np), upd_same]
        · refine k p _ ⟨⟨c, zs, 0, 0, fo, ?_, ?_, Nat.zero_le _, hl, by decide, h0, by omega⟩⟩ ?_ hp
          · rw [upd_same]
            exact congrArg (fun z => some (HO.dK z)) pen_disp
          · rw [upd_ne np, upd_same]
          · intro b u e
            rw [upd_ne (ne_of_none e hp), upd_ne (ne_of_none e nc), upd_ne (ne_of_none e hp)]
            exact e
theorem scD : FnScope ["_law_pen_here", "_law_many", "_law_cell", "_law_digit", "_law_blend"] ["_law_pen_here", "_law_many"] (defScope sDraw) := ⟨rfl, rfl, rfl, by decide +kernel, rfl, by decide +kernel, by decide +kernel⟩
end
theorem rd_but {H H' : Hp} {p l : Addr} {kvs : List (Key × V)} {u : HO} (hp : H p = some (.dK kvs)) (k : ∀ b, b ≠ p → H' b = H b) (hu : ∀ kvs, u ≠ .dK kvs) (h : Rd H l u) : Rd H' l u := by
  rcases h with h | ⟨o, h⟩
  · exact .inl ((k l (ne_of h hp (hu _))).trans h)
  · exact .inr ⟨o, (k l (ne_of h hp (by intro z; cases z))).trans h⟩
theorem sqL_but {K : PySem.W.Frag} {H H' : Hp} {p l : Addr} {kvs : List (Key × V)} {xs : List V} (hp : H p = some (.dK kvs)) (k : ∀ b, b ≠ p → H' b = H b) (h : SqL K H l xs) : SqL K H' l xs := by
  rcases h with h | h
  · exact .inl (rd_but hp k (fun _ z => by cases z) h)
  · exact .inr h
theorem sqT_but {K : PySem.W.Frag} {H H' : Hp} {p l : Addr} {kvs : List (Key × V)} {xs : List V} (hp : H p = some (.dK kvs)) (k : ∀ b, b ≠ p → H' b = H b) (h : SqT K H l xs) : SqT K H' l xs := by
  rcases h with h | h
  · exact .inl (rd_but hp k (fun _ z => by cases z) h)
  · exact .inr h
theorem PenAt.same {H H' : Hp} {p : Addr} {n : Nat} (h : PenAt H p n) (k : Same H H') : PenAt H' p n := by
  obtain ⟨c, zs, i, dg, fo, e1, e2, r⟩ := h.ex
  exact ⟨⟨c, zs, i, dg, fo, k _ _ e1, k _ _ e2, r⟩⟩
section
variable {P : Program} {w : World} {K : PySem.W.Frag} {mg : Str → Option Value} {base : Heap}
theorem scK : FnScope ["_law_pen_here", "_law_some"] ["_law_pen_here", "_law_some"] (defScope sPick) := ⟨rfl, rfl, rfl, by decide +kernel, rfl, by decide +kernel, by decide +kernel⟩
end
end Sq

set_option Elab.async false
set_option linter.all false
set_option maxRecDepth 100000
set_option maxHeartbeats 4000000
/-! The law's small defs: cells, beside, around, squares. -/
namespace Sq
open PySem PySem.Spec PyProof.Rows L2
def spLBeside : Sp := fun vs H Q _ => ∃ (p : Addr) (c : Cell), vs = [.ref p] ∧ At H p c ∧ ∀ l H', Same H H' → H l = none → CellsL H' l (besideC c) → Q (.ref l) H'
/-- the eight around -/
def aroundC (c : Cell) : List Cell := [(c.1 - 1, c.2 - 1), (c.1 - 1, c.2), (c.1 - 1, c.2 + 1), (c.1, c.2 - 1), (c.1, c.2 + 1), (c.1 + 1, c.2 - 1), (c.1 + 1, c.2), (c.1 + 1, c.2 + 1)]
section
variable {P : Program} {w : World} {K : PySem.W.Frag} {mg : Str → Option Value} {base : Heap}
end
end Sq

set_option Elab.async false
set_option linter.all false
set_option maxRecDepth 100000
set_option maxHeartbeats 4000000
/-! The law's around, free's rest, done. -/
namespace Sq
open PySem PySem.Spec PyProof.Rows L2
section
variable {P : Program} {w : World} {K : PySem.W.Frag} {mg : Str → Option Value} {base : Heap}
end
end Sq

set_option Elab.async false
set_option linter.all false
set_option maxRecDepth 100000
set_option maxHeartbeats 4000000
/-! The law's parts. -/
namespace Sq
open PySem PySem.Spec PyProof.Rows L2
/-- l holds a list of tuples of these cells -/
def CellsLL (H : Hp) (l : Addr) (ps : List (List Cell)) : Prop := ∃ ts : List Addr, H l = some (.lst (ts.map V.ref)) ∧ Paired (fun t p => CellsT H t p) ts ps
section
variable {P : Program} {w : World} {K : PySem.W.Frag} {mg : Str → Option Value} {base : Heap}
theorem PI.or {X : Cx} {tg e : Expr} {w1 w2 : TI} (h1 : PI X tg e w1) (h2 : PI X tg e w2) : PI X tg e (fun σ H R => w1 σ H R ∨ w2 σ H R) := ⟨fun pins s σ H R I h => h.elim (h1.run pins s σ H R I) (h2.run pins s σ H R I)⟩
end
end Sq

set_option Elab.async false
set_option linter.all false
set_option maxRecDepth 100000
set_option maxHeartbeats 4000000
/-! The law's hangs, free, supports, kind. -/
namespace Sq
open PySem PySem.Spec PyProof.Rows L2
theorem lay_cell (c : Cell) : Lay 1 (cD c) := lay_tuple fun d hd => by
  rcases List.mem_cons.mp hd with e | e
  · rw [e]; exact lay_int _
  · rw [List.mem_singleton.mp e]; exact lay_int _
section
variable {P : Program} {w : World} {K : PySem.W.Frag} {mg : Str → Option Value} {base : Heap}
end
end Sq

set_option Elab.async false
set_option linter.all false
set_option maxRecDepth 100000
set_option maxHeartbeats 4000000
/-! The law's supports. -/
namespace Sq
open PySem PySem.Spec PyProof.Rows L2
abbrev CellP := Cell × Cell
def pD (p : CellP) : PyData := .tuple [cD p.1, cD p.2]
theorem alike_cD (c d : Cell) : PySem.W.alike (cD c) (cD d) = true := by
  simp only [cD, PySem.W.alike, PySem.W.alikeAll, Bool.and_true]
theorem lay_pD (p : CellP) : Lay 2 (pD p) := lay_tuple fun d hd => by
  rcases List.mem_cons.mp hd with e | e
  · rw [e]; exact lay_cell _
  · rw [List.mem_singleton.mp e]; exact lay_cell _
/-- a pair of cells stands at r -/
def PairAt (H : Hp) (r : Addr) (b : CellP) : Prop := ∃ q1 q2 : Addr, H r = some (.tup [.ref q1, .ref q2]) ∧ At H q1 b.1 ∧ At H q2 b.2
theorem PairAt.same {H G : Hp} {r : Addr} {b : CellP} (h : PairAt H r b) (k : Same H G) : PairAt G r b := by
  obtain ⟨q1, q2, e, a1, a2⟩ := h
  exact ⟨q1, q2, k _ _ e, k _ _ a1, k _ _ a2⟩
theorem PairAt.off {H : Hp} {r p : Addr} {b : CellP} {o u : HO} (h : PairAt H r b) (hp : H p = some u) (hu : ∀ xs, u ≠ .tup xs) : PairAt (upd H p o) r b := by
  obtain ⟨q1, q2, e, a1, a2⟩ := h
  exact ⟨q1, q2, by rw [upd_ne (ne_of e hp (fun z => hu _ z.symm))]; exact e, a1.off hp hu, a2.off hp hu⟩
theorem PairAt.dp {K : PySem.W.Frag} {H : Hp} {r : Addr} {b : CellP} (h : PairAt H r b) : Dp K H (.ref r) (pD b) := by
  obtain ⟨q1, q2, e, a1, a2⟩ := h
  exact .tup (SqT.of e) (.cons a1.dp (.cons a2.dp .nil))
theorem nb {p : Prop} [Decidable p] : (!decide p) = true ↔ ¬ p := by simp
section
variable {P : Program} {w : World} {K : PySem.W.Frag} {mg : Str → Option Value} {base : Heap}
end
end Sq

set_option Elab.async false
set_option linter.all false
set_option maxRecDepth 100000
set_option maxHeartbeats 4000000
/-! The law's done; odd cells. -/
namespace Sq
open PySem PySem.Spec PyProof.Rows L2
def spLDone : Sp := fun vs H Q _ => ∃ (t p q : Addr) (L : List Cell) (s e : Cell), vs = [.ref t, .ref p, .ref q] ∧ CellsT H t L ∧ L.length ≤ 1000 ∧ At H p s ∧ At H q e ∧ ∀ r H' cs, Same H H' → CellsT H' r cs → cs.Perm (without L s ++ [e]) → Asc cs → Q (.ref r) H'
/-- x is no cell, and can be compared -/
structure OddQ (K : PySem.W.Frag) (H : Hp) (x : V) (d : PyData) : Prop where
  cq : CellQ K H x false
  dp : Dp K H x d
  ly : Lay 3 d
theorem OddQ.ek {K : PySem.W.Frag} {H G : Hp} {x : V} {d : PyData} (h : OddQ K H x d) (k : Ek H G) : OddQ K G x d := ⟨h.cq.ek k, k.dp _ _ h.dp, h.ly⟩
theorem pen_ek {H H' : Hp} {p : Addr} {n : Nat} (hp : PenAt H p n) (h : Kp [p] H H') : Ek H H' := fun b o _ n2 e => h b o (fun m => by
  obtain ⟨c, zs, i, dg, fo, e2, _⟩ := hp.ex
  rw [List.mem_singleton.mp m, e2] at e
  exact n2 _ (Option.some.inj e).symm) e
/-- what a pen's def does -/
theorem kp_pick {H H' : Hp} {p : Addr} (h : ∀ b, b ≠ p → H' b = H b) : Kp [p] H H' := Kp.but (List.mem_singleton.mpr rfl) h
def AllOdd (K : PySem.W.Frag) (H : Hp) (xs : List V) : Prop := ∀ x ∈ xs, ∃ d, OddQ K H x d
theorem AllOdd.more {K : PySem.W.Frag} {H G : Hp} {xs : List V} {x : V} {d : PyData} (h : AllOdd K H xs) (k : Same H G) (o : OddQ K G x d) : AllOdd K G (x :: xs) := fun y hy => (List.mem_cons.mp hy).elim (fun e => ⟨d, e ▸ o⟩) fun m => by
  obtain ⟨d, z⟩ := h y m
  exact ⟨d, z.ek (.of k)⟩
theorem AllOdd.same {K : PySem.W.Frag} {H G : Hp} {xs : List V} (h : AllOdd K H xs) (k : Same H G) : AllOdd K G xs := fun y m => by
  obtain ⟨d, z⟩ := h y m
  exact ⟨d, z.ek (.of k)⟩
section
variable {P : Program} {w : World} {K : PySem.W.Frag} {mg : Str → Option Value} {base : Heap}
end
end Sq

set_option Elab.async false
set_option linter.all false
set_option maxRecDepth 100000
set_option maxHeartbeats 4000000
/-! The law's blobs. -/
namespace Sq
open PySem PySem.Spec PyProof.Rows L2
/-- the state of a blob that grows: known and counts, and so on -/
structure Bb (H : Hp) (p ce kn co : Addr) (i : Nat) (A Cs : List Cell) (n : Nat) (G : Hp) : Prop where
  pen : PenAt G p n
  kp : Kp [p] H G
  gc : CellsL G ce A
  gk : G kn = some (.dT (lotK A))
  go : ∃ kvs, G co = some (.dT kvs) ∧ IntD kvs Cs
  nd : A.Nodup
  hangs : Hangs A
  ndC : Cs.Nodup
  len : A.length = i + 1
  sub : ∀ x ∈ Cs, ∃ a ∈ A, x ∈ besideC a
  hd : A.head? = some (0, 0)
theorem Bb.ek {H : Hp} {p ce kn co : Addr} {i n n' : Nat} {A Cs : List Cell} {G G1 : Hp} (I : Bb H p ce kn co i A Cs n G) (k : Kp [p] G G1) (hp : PenAt G1 p n') : Bb H p ce kn co i A Cs n' G1 := by
  have ek := pen_ek I.pen k
  obtain ⟨kvs, e, d⟩ := I.go
  exact ⟨hp, I.kp.trans k, I.gc.ek ek, ek.dT I.gk, ⟨kvs, ek.dT e, d⟩, I.nd, I.hangs, I.ndC, I.len, I.sub, I.hd⟩
theorem eqv_nil (F : List Cell) : PyData.eqv (.list (F.map cD)) (.list []) = decide (F = []) := by
  cases F with
  | nil => rfl
  | cons x xs => rw [decide_eq_false (by simp)]; rfl
theorem lay_cells {F : List Cell} : Lay 2 (.list (F.map cD)) := lay_list fun d hd => by
  obtain ⟨c, _, rfl⟩ := List.mem_map.mp hd
  exact lay_cell c
theorem neg_last {α : Type} {xs : List α} {v : α} (h : xs[xs.length - 1]? = some v) : atI xs (-1) = some v := by
  have ne : xs ≠ [] := fun z => by rw [z] at h; cases h
  obtain ⟨ys, y, rfl⟩ := snoc_inv ne
  have : (ys ++ [y])[(ys ++ [y]).length - 1]? = some y := by simp
  rw [this] at h
  rw [Option.some.inj h]
  exact atI_last ys v
section
variable {P : Program} {w : World} {K : PySem.W.Frag} {mg : Str → Option Value} {base : Heap}
end
end Sq

set_option Elab.async false
set_option linter.all false
set_option maxRecDepth 100000
set_option maxHeartbeats 4000000
/-! The law's ways. -/
namespace Sq
open PySem PySem.Spec PyProof.Rows L2
/-- each cell lies beside the one ahead of it -/
def Path (A : List Cell) : Prop := ∀ i a b, A[i]? = some a → A[i + 1]? = some b → b ∈ besideC a
theorem Path.take {A : List Cell} (h : Path A) (n : Nat) : Path (A.take n) := fun i a b ha hb => by
  have l1 := (List.getElem?_eq_some_iff.mp hb).1
  rw [List.length_take] at l1
  rw [List.getElem?_take_of_lt (by omega)] at ha hb
  exact h i a b ha hb
theorem Path.snoc {A : List Cell} {c x : Cell} (h : Path (A ++ [c])) (hx : x ∈ besideC c) : Path (A ++ [c] ++ [x]) := fun i a b ha hb => by
  have l1 := (List.getElem?_eq_some_iff.mp hb).1
  rw [List.length_append] at l1
  have l1 : i + 1 < (A ++ [c]).length + 1 := l1
  by_cases e : i + 1 < (A ++ [c]).length
  · rw [List.getElem?_append_left e] at hb
    rw [List.getElem?_append_left (by omega)] at ha
    exact h i a b ha hb
  · have e1 : i + 1 = (A ++ [c]).length := by omega
    rw [List.getElem?_append_left (by omega)] at ha
    rw [e1] at hb
    have e2 : ((A ++ [c]) ++ [x])[(A ++ [c]).length]? = some x := by simp
    rw [e2] at hb
    have e3 : i = A.length := by rw [List.length_append] at e1; simp at e1; exact e1
    rw [e3] at ha
    have e4 : (A ++ [c])[A.length]? = some c := by simp
    rw [e4] at ha
    rw [← Option.some.inj ha, ← Option.some.inj hb]
    exact hx
theorem path_hangs : ∀ (n : Nat) {A : List Cell}, A.length = n + 1 → Path A → Hangs A
  | 0, A, l, _ => by
    match A, l with
    | [c], _ => exact hangs_one c
  | n + 1, A, l, p => by
    obtain ⟨B, x, rfl⟩ := snoc_inv (xs := A) (fun z => by rw [z] at l; cases l)
    have lB : B.length = n + 1 := by rw [List.length_append] at l; simp at l; exact l
    obtain ⟨C, c, rfl⟩ := snoc_inv (xs := B) (fun z => by rw [z] at lB; cases lB)
    have pB : Path (C ++ [c]) := by
      have := p.take (C ++ [c]).length
      rwa [List.take_left] at this
    refine hangs_snoc (path_hangs n lB pB) (a := c) (by simp) (p C.length c x ?_ ?_)
    · rw [List.getElem?_append_left (by simp)]
      simp
    · have e : C.length + 1 = (C ++ [c]).length := by simp
      rw [e]
      simp
theorem Path.hangs {A : List Cell} (p : Path A) (ne : A ≠ []) : Hangs A := by
  cases A with
  | nil => exact absurd rfl ne
  | cons c A => exact path_hangs A.length rfl p
section
variable {P : Program} {w : World} {K : PySem.W.Frag} {mg : Str → Option Value} {base : Heap}
end
end Sq

set_option Elab.async false
set_option linter.all false
set_option maxRecDepth 100000
set_option maxHeartbeats 4000000
/-! Lists of cells each of which lies beside one ahead of it. -/
namespace Sq
open PySem PySem.Spec PyProof.Rows L2
def Grown (A : List Cell) : Prop := ∀ i b, A[i + 1]? = some b → ∃ j a, j ≤ i ∧ A[j]? = some a ∧ b ∈ besideC a
theorem Path.grown {A : List Cell} (h : Path A) : Grown A := fun i b hb => by
  have l := (List.getElem?_eq_some_iff.mp hb).1
  exact ⟨i, A[i], Nat.le_refl _, List.getElem?_eq_getElem (by omega), h i _ b (List.getElem?_eq_getElem (by omega)) hb⟩
theorem Grown.take {A : List Cell} (h : Grown A) (n : Nat) : Grown (A.take n) := fun i b hb => by
  have l := (List.getElem?_eq_some_iff.mp hb).1
  rw [List.length_take] at l
  rw [List.getElem?_take_of_lt (by omega)] at hb
  obtain ⟨j, a, hj, ha, hb⟩ := h i b hb
  exact ⟨j, a, hj, by rw [List.getElem?_take_of_lt (by omega)]; exact ha, hb⟩
theorem Grown.snoc {A : List Cell} {a x : Cell} (h : Grown A) (ha : a ∈ A) (hx : x ∈ besideC a) : Grown (A ++ [x]) := fun i b hb => by
  have l := (List.getElem?_eq_some_iff.mp hb).1
  rw [List.length_append] at l
  have l : i + 1 < A.length + 1 := l
  by_cases e : i + 1 < A.length
  · rw [List.getElem?_append_left e] at hb
    obtain ⟨j, c, hj, hc, hb⟩ := h i b hb
    exact ⟨j, c, hj, by rw [List.getElem?_append_left (by omega)]; exact hc, hb⟩
  · have e1 : i + 1 = A.length := by omega
    rw [e1] at hb
    have e2 : (A ++ [x])[A.length]? = some x := by simp
    rw [e2] at hb
    obtain ⟨j, hj⟩ := List.mem_iff_getElem?.mp ha
    have lj := (List.getElem?_eq_some_iff.mp hj).1
    exact ⟨j, a, by omega, by rw [List.getElem?_append_left lj]; exact hj, by rw [← Option.some.inj hb]; exact hx⟩
theorem grown_hangs : ∀ (n : Nat) {A : List Cell}, A.length = n + 1 → Grown A → Hangs A
  | 0, A, l, _ => by
    match A, l with
    | [c], _ => exact hangs_one c
  | n + 1, A, l, g => by
    obtain ⟨B, x, rfl⟩ := snoc_inv (xs := A) (fun z => by rw [z] at l; cases l)
    have lB : B.length = n + 1 := by rw [List.length_append] at l; simp at l; exact l
    have gB : Grown B := by
      have := g.take B.length
      rwa [List.take_left] at this
    have hx : (B ++ [x])[n + 1]? = some x := by rw [← lB]; simp
    obtain ⟨j, a, hj, ha, hb⟩ := g n x hx
    rw [List.getElem?_append_left (by omega)] at ha
    exact hangs_snoc (grown_hangs n lB gB) (List.mem_of_getElem? ha) hb
theorem Grown.hangs {A : List Cell} (p : Grown A) (ne : A ≠ []) : Hangs A := by
  cases A with
  | nil => exact absurd rfl ne
  | cons c A => exact grown_hangs A.length rfl p
theorem CellsL.cut {H : Hp} {qs : List Addr} {cs : List Cell} (pr : Paired (fun q c => At H q c) qs cs) (k : Nat) : Paired (fun q c => At H q c) (qs.take k) (cs.take k) := by
  induction pr generalizing k with
  | nil =>
    rw [List.take_nil, List.take_nil]
    exact .nil
  | cons h _ ih =>
    cases k with
    | zero => exact .nil
    | succ k => exact .cons h (ih k)
end Sq

set_option Elab.async false
set_option linter.all false
set_option maxRecDepth 100000
set_option maxHeartbeats 4000000
/-! The law's lists of cells. -/
namespace Sq
open PySem PySem.Spec PyProof.Rows L2
section
variable {P : Program} {w : World} {K : PySem.W.Frag} {mg : Str → Option Value} {base : Heap}
end
end Sq

set_option Elab.async false
set_option linter.all false
set_option maxRecDepth 100000
set_option maxHeartbeats 4000000
/-! The law's bodies. -/
namespace Sq
open PySem PySem.Spec PyProof.Rows L2
theorem hangs_map {A : List Cell} {g : Cell → Cell} (k : ∀ a b, b ∈ besideC a → g b ∈ besideC (g a)) (h : Hangs A) : Hangs (A.map g) := by
  have r : ∀ {a b : Cell}, Reach A a b → Reach (A.map g) (g a) (g b) := fun {a b} z => by
    induction z with
    | refl => exact .refl
    | step _ hb hc ih => exact ih.step (k _ _ hb) (List.mem_map.mpr ⟨_, hc, rfl⟩)
  refine ⟨fun z => h.1 (List.map_eq_nil_iff.mp z), fun x hx y hy => ?_⟩
  obtain ⟨a, ha, rfl⟩ := List.mem_map.mp hx
  obtain ⟨b, hb, rfl⟩ := List.mem_map.mp hy
  exact r (h.2 a ha b hb)
theorem paired_memL {α β : Type} {F : α → β → Prop} {xs : List α} {ys : List β} (h : Paired F xs ys) : ∀ x ∈ xs, ∃ y ∈ ys, F x y := by
  induction h with
  | nil => intro y hy; cases hy
  | cons a _ ih =>
    intro y hy
    rcases List.mem_cons.mp hy with z | z
    · exact ⟨_, List.mem_cons_self .., z ▸ a⟩
    · obtain ⟨x, hx, f⟩ := ih y z
      exact ⟨x, List.mem_cons_of_mem _ hx, f⟩
section
variable {P : Program} {w : World} {K : PySem.W.Frag} {mg : Str → Option Value} {base : Heap}
end
end Sq

set_option Elab.async false
set_option linter.all false
set_option maxRecDepth 100000
set_option maxHeartbeats 4000000
/-! The search in depth, as it runs. -/
namespace Sq
open PySem PySem.Spec PyProof.Rows L2
/-- all tuples stay -/
def Tk (H G : Hp) : Prop := ∀ b xs, H b = some (.tup xs) → G b = some (.tup xs)
theorem Tk.of {H G : Hp} (h : Same H G) : Tk H G := fun b xs e => h b _ e
theorem Tk.trans {H G I : Hp} (h : Tk H G) (k : Tk G I) : Tk H I := fun b xs e => k b xs (h b xs e)
theorem Tk.refl {H : Hp} : Tk H H := fun _ _ e => e
theorem tk_upd {H : Hp} {a : Addr} {o o' : HO} (e : H a = some o) (n : ∀ xs, o ≠ .tup xs) : Tk H (upd H a o') := fun b xs q => by
  rw [upd_ne (fun z => by rw [z, e] at q; exact n xs (Option.some.inj q))]
  exact q
theorem At.tk {H G : Hp} {q : Addr} {c : Cell} (h : At H q c) (k : Tk H G) : At G q c := k _ _ h
/-- the value that stands for what led to a cell -/
def TwV (H : Hp) (v : V) : Option Cell → Prop
  | none => v = .non
  | some y => ∃ q, v = .ref q ∧ At H q y
theorem TwV.tk {H G : Hp} {v : V} {o : Option Cell} (h : TwV H v o) (k : Tk H G) : TwV G v o := by
  cases o with
  | none => exact h
  | some y =>
    obtain ⟨q, e, a⟩ := h
    exact ⟨q, e, a.tk k⟩
def TwL (H : Hp) (kvs : List (List Key × V)) (T : List TwigC) : Prop := Paired (fun p t => p.1 = cK t.1 ∧ TwV H p.2 t.2) kvs T
theorem TwL.tk {H G : Hp} {kvs : List (List Key × V)} {T : List TwigC} (h : TwL H kvs T) (k : Tk H G) : TwL G kvs T := paired_imp (fun _ _ z => ⟨z.1, z.2.tk k⟩) h
def EntA (H : Hp) (q : Addr) (t : TwigC) : Prop := ∃ b v, H q = some (.tup [.ref b, v]) ∧ At H b t.1 ∧ TwV H v t.2
theorem EntA.tk {H G : Hp} {q : Addr} {t : TwigC} (h : EntA H q t) (k : Tk H G) : EntA G q t := by
  obtain ⟨b, v, e, a, w⟩ := h
  exact ⟨b, v, k _ _ e, a.tk k, w.tk k⟩
theorem dput_c {H : Hp} {d q : Addr} {c : Cell} {v : V} {kvs : List (List Key × V)} (hd : H d = some (.dT kvs)) (hq : At H q c) (hl : kvs.length < sizeLine) : DPut H d (.ref q) v (upd H d (.dT (putK kvs (cK c) v))) := DPut.t hd hq hl
section
variable {P : Program} {w : World} {K : PySem.W.Frag} {mg : Str → Option Value} {base : Heap}
end
end Sq

set_option Elab.async false
set_option linter.all false
set_option maxRecDepth 100000
set_option maxHeartbeats 4000000
/-! The least numbers that are met, as they are told. -/
namespace Sq
open PySem PySem.Spec PyProof.Rows L2
def lowV (T : List TwigC) (low : Cell → Nat) (v w : Cell) : Nat := if (w, some v) ∈ T then low w else numT T w
def LowAt (L : List Cell) (T : List TwigC) (low : Cell → Nat) (v : Cell) : Prop := (∀ w ∈ L, w ∈ besideC v → low v ≤ lowV T low v w) ∧ (low v = numT T v ∨ ∃ w ∈ L, w ∈ besideC v ∧ low v = lowV T low v w)
def putL (low : Cell → Nat) (c : Cell) (m : Nat) : Cell → Nat := fun x => if x = c then m else low x
theorem putL_same {low : Cell → Nat} {c : Cell} {m : Nat} : putL low c m c = m := if_pos rfl
theorem putL_other {low : Cell → Nat} {c x : Cell} {m : Nat} (h : x ≠ c) : putL low c m x = low x := if_neg h
/-- told for the last i cells -/
structure LmI (L : List Cell) (T : List TwigC) (i : Nat) (lk : List (List Key × V)) (low : Cell → Nat) : Prop where
  val : ∀ v ∈ keysT T, (keysT T).length ≤ numT T v + i → valV lk (cK v) = some (.int (low v : Int))
  ok : ∀ v ∈ keysT T, (keysT T).length ≤ numT T v + i → LowAt L T low v
  len : lk.length ≤ i
theorem LmI.next {L : List Cell} {T : List TwigC} {i m : Nat} {lk : List (List Key × V)} {low : Cell → Nat} {c : Cell} (h : DTree L T) (I : LmI L T i lk low) (hc : c ∈ keysT T) (nc : numT T c + (i + 1) = (keysT T).length)
    (le : ∀ w ∈ L, w ∈ besideC c → m ≤ lowV T low c w) (at_ : m = numT T c ∨ ∃ w ∈ L, w ∈ besideC c ∧ m = lowV T low c w) : LmI L T (i + 1) (putK lk (cK c) (.int (m : Int))) (putL low c m) := by
  have cases1 : ∀ v ∈ keysT T, (keysT T).length ≤ numT T v + (i + 1) → v = c ∨ (v ≠ c ∧ (keysT T).length ≤ numT T v + i) := fun v hv l => by
    by_cases e : v = c
    · exact .inl e
    · refine .inr ⟨e, ?_⟩
      have : numT T v ≠ numT T c := fun z => e (num_inj hv hc z)
      omega
  have same : ∀ v ∈ keysT T, numT T c ≤ numT T v → ∀ w, lowV T (putL low c m) v w = lowV T low v w := fun v hv l w => by
    unfold lowV
    by_cases z : (w, some v) ∈ T
    · rw [if_pos z, if_pos z]
      have t := (h.twig z).2.2.2
      have ne : w ≠ c := fun e => by rw [e] at t; omega
      exact putL_other ne
    · rw [if_neg z, if_neg z]
  refine ⟨fun v hv l => ?_, fun v hv l => ?_, ?_⟩
  · rcases cases1 v hv l with rfl | ⟨ne, l⟩
    · rw [putL_same, valV_put, if_pos rfl]
    · rw [putL_other ne, valV_put, if_neg (fun e => ne (cK_inj e))]
      exact I.val v hv l
  · rcases cases1 v hv l with rfl | ⟨ne, l⟩
    · refine ⟨fun w hw b => ?_, ?_⟩
      · rw [same v hv (Nat.le_refl _), putL_same]
        exact le w hw b
      · rw [putL_same]
        rcases at_ with e | ⟨w, hw, b, e⟩
        · exact .inl e
        · exact .inr ⟨w, hw, b, by rw [same v hv (Nat.le_refl _)]; exact e⟩
    · have l2 : numT T c ≤ numT T v := by omega
      obtain ⟨a1, a2⟩ := I.ok v hv l
      refine ⟨fun w hw b => ?_, ?_⟩
      · rw [same v hv l2, putL_other ne]
        exact a1 w hw b
      · rw [putL_other ne]
        rcases a2 with e | ⟨w, hw, b, e⟩
        · exact .inl e
        · exact .inr ⟨w, hw, b, by rw [same v hv l2]; exact e⟩
  · exact Nat.le_trans (length_putK _ _ _) (Nat.succ_le_succ I.len)
theorem LmI.all {L : List Cell} {T : List TwigC} {lk : List (List Key × V)} {low : Cell → Nat} (I : LmI L T (keysT T).length lk low) : LowOk L T low :=
  ⟨fun v hv => (I.ok v hv (Nat.le_add_left _ _)).1, fun v hv => (I.ok v hv (Nat.le_add_left _ _)).2⟩
section
variable {P : Program} {w : World} {K : PySem.W.Frag} {mg : Str → Option Value} {base : Heap}
end
end Sq

set_option Elab.async false
set_option linter.all false
set_option maxRecDepth 100000
set_option maxHeartbeats 4000000
/-! Into how many parts the rest falls, as it is told. -/
namespace Sq
open PySem PySem.Spec PyProof.Rows L2
/-- all but what stands at d stays -/
def KpD (d : Addr) (H G : Hp) : Prop := ∀ b o, b ≠ d → H b = some o → G b = some o
theorem KpD.at {d : Addr} {H G : Hp} (k : KpD d H G) {u : HO} (hd : H d = some u) (nu : ∀ xs, u ≠ .tup xs) : Tk H G := fun b xs e => k b _ (fun z => by rw [z, hd] at e; exact nu xs (Option.some.inj e)) e
theorem KpD.put {d D : Addr} {H G : Hp} {o : HO} (k : KpD d H G) (h : H D = none) : KpD d H (upd G D o) := fun b u nb e => by
  rw [upd_ne (ne_of_none e h)]
  exact k b u nb e
theorem KpD.new {d t : Addr} {H G : Hp} {o : HO} (k : KpD d H G) (h : G t = none) : KpD d H (upd G t o) := fun b u nb e => by
  have := k b u nb e
  rw [upd_ne (ne_of_none this h)]
  exact this
theorem KpD.back {d : Addr} {H G : Hp} {u : HO} (k : KpD d H G) (hd : H d = some u) : Same H (upd G d u) := fun b o e => by
  by_cases z : b = d
  · subst z
    rw [upd_same]
    exact hd.symm.trans e
  · rw [upd_ne z]
    exact k b o z e
section
variable {P : Program} {w : World} {K : PySem.W.Frag} {mg : Str → Option Value} {base : Heap}
end
end Sq

set_option Elab.async false
set_option linter.all false
set_option maxRecDepth 100000
set_option maxHeartbeats 4000000
/-! Free squares, cut squares, neighbours. -/
namespace Sq
open PySem PySem.Spec PyProof.Rows L2
section
variable {P : Program} {w : World} {K : PySem.W.Frag} {mg : Str → Option Value} {base : Heap}
end
end Sq

set_option Elab.async false
set_option linter.all false
set_option maxRecDepth 100000
set_option maxHeartbeats 4000000
/-! moves_of. -/
namespace Sq
open PySem PySem.Spec PyProof.Rows L2
/-- the module's eight steps -/
def stepL : List Cell := [(-1, -1), (-1, 0), (-1, 1), (0, -1), (0, 1), (1, -1), (1, 0), (1, 1)]
theorem asc_same {A M : List Cell} (nA : A.Nodup) (nM : M.Nodup) (sa : Asc A) (sm : Asc M) (mem : ∀ x, x ∈ A ↔ x ∈ M) : A = M :=
  List.Perm.eq_of_pairwise (le := fun x y => cLt y x = false) (fun x y _ _ h k => cLt_tri k h) sa sm ((List.perm_ext_iff_of_nodup nA nM).mpr mem)
theorem PairAt.keep {H G : Hp} {p : Addr} {m : Cell × Cell} (h : PairAt H p m) (k : Tk H G) : PairAt G p m := by
  obtain ⟨x, y, e, ax, ay⟩ := h
  exact ⟨x, y, k _ _ e, k _ _ ax, k _ _ ay⟩
def PairsT (H : Hp) (t : Addr) (ms : List (Cell × Cell)) : Prop := ∃ ps : List Addr, H t = some (.tup (ps.map V.ref)) ∧ Paired (fun p m => PairAt H p m) ps ms
theorem KT.put {Ts : List Addr} {H G : Hp} {D : Addr} {xs : List V} {o : HO} (k : KT Ts H G) (hD : H D = none) (gD : G D = some (.lst xs)) : KT Ts H (upd G D o) := by
  refine ⟨fun b u n e => ?_, k.tb, fun T m => ?_⟩
  · by_cases z : b = D
    · rw [z, hD] at e
      cases e
    · rw [upd_ne z]
      exact k.kp b u n e
  · obtain ⟨ps, e, t⟩ := k.tb' T m
    refine ⟨ps, ?_, t⟩
    by_cases z : T = D
    · rw [z, gD] at e
      cases e
    · rw [upd_ne z]
      exact e
/-- shifted(cell, by), by a tuple of the file or of the run -/
def spShiftK (K : PySem.W.Frag) : Sp := fun vs H Q _ => ∃ (p r : Addr) (c d : Cell), vs = [.ref p, .ref r] ∧ At H p c ∧ SqT K H r (cV d) ∧ ∀ q, H q = none → Q (.ref q) (upd H q (.tup (cV (c.1 + d.1, c.2 + d.2))))
section
variable {P : Program} {w : World} {K : PySem.W.Frag} {mg : Str → Option Value} {base : Heap} {Ts : List Addr}
theorem ok_shiftK {f : Addr} {fd : FuncData} (F : FnP K "shifted" gShifted f fd) : FnOk P w K mg base CX0 1 f fd ["cell", "by"] (spShiftK K) := by
  refine F.ok scSh (fun vs H Q E h => ?_) (fun cdv A outer s H vs Q E hr h => ?_)
  · obtain ⟨p, r, c, d, rfl, _⟩ := h
    rfl
  · obtain ⟨p, r, c, d, rfl, e1, e2, k⟩ := h
    refine ⟨_, PSs.nox (pss_one (ps_ret (pe_tup (pa_cons (pe_op op_add (pe_ix (ix_tupK (K := K) rfl) (pv 0) pe_int (fun _ _ => rfl)) (pe_ix (ix_tupK (K := K) rfl) (pv 1) pe_int (fun _ _ => rfl))) (pa_cons (pe_op op_add (pe_ix (ix_tupK (K := K) rfl) (pv 0) pe_int (fun _ _ => rfl)) (pe_ix (ix_tupK (K := K) rfl) (pv 1) pe_int (fun _ _ => rfl))) pa_nil))))), ?_⟩
    exact ⟨_, rfl, _, _, _, _, rfl, rfl, SqT.of e1, at0, _, rfl, _, _, _, _, rfl, rfl, e2, at0, _, _, rfl, rfl, _, rfl, _, _, _, _, rfl, rfl, SqT.of e1, at1, _, rfl, _, _, _, _, rfl, rfl, e2, at1, _, _, rfl, rfl, two_le, fun q hq => k q hq⟩
end
end Sq

set_option Elab.async false
set_option linter.all false
set_option maxRecDepth 100000
set_option maxHeartbeats 4000000
/-! The law's moves. -/
namespace Sq
open PySem PySem.Spec PyProof.Rows L2
section
variable {X : Cx}
end
/-- a comprehension whose items are pairs of cells -/
theorem lc_pairs {J : It} {n : Nat} {Gd : Hp → Prop} {Y : Nat → Hp → V → Hp → Prop} (w : Walk J n Gd Y) {g : TG} {tt : TT} {te : TE} {vs : List Nat} {σ : L2.St} {H1 : Hp} {D : Addr} {Qd : Hp → Prop} (hD : H1 D = none) (res : Nat → List CellP) (r0 : res 0 = []) (hn : n ≤ 1000000)
    (hG : ∀ i G, i ≤ n → Same H1 G → Gd G)
    (hs : ∀ i x G G' (K1 : V → Hp → Prop) (K0 : Hp → Prop), i < n → Same H1 G → Y i G x G' → (∀ r c H4, Same G H4 → PairAt H4 r c → res (i + 1) = res i ++ [c] → K1 (.ref r) H4) → (∀ H3, Same G H3 → res (i + 1) = res i → K0 H3) →
      g x (wipe σ vs) G' fun σ2 H2 => wipe σ2 vs = wipe σ vs ∧ tt σ2 H2 fun b H3 => if b = true then te σ2 H3 K1 else K0 H3)
    (hd : ∀ G rs, Same H1 G → G D = some (.lst (rs.map V.ref)) → Paired (fun q c => PairAt G q c) rs (res n) → Qd G) :
    ∃ W : Nat → Nat → Hp → Prop, (∃ m, W 0 m (upd H1 D (.lst []))) ∧ ∀ i m H, W i m H →
      (J.stop i H ∧ Qd H) ∨ (J.go i H ∧ ∃ Nx : Hp → Prop, (∀ H', Nx H' → ∃ m', m' < m ∧ W (i + 1) m' H') ∧ ∀ x H', J.yld i H x H' → g x (wipe σ vs) H' fun σ2 H2 => wipe σ2 vs = wipe σ vs ∧ tt σ2 H2 fun b H3 =>
        if b = true then te σ2 H3 fun y H4 => ∃ acc, H4 D = some (.lst acc) ∧ acc.length < sizeLine ∧ Nx (upd H4 D (.lst (acc ++ [y]))) else Nx H3) := by
  refine lc_it w (fun i G => Same H1 G ∧ ∃ rs : List Addr, G D = some (.lst (rs.map V.ref)) ∧ rs.length ≤ i ∧ Paired (fun q c => PairAt G q c) rs (res i)) ⟨?_, [], upd_same, Nat.le_refl _, by rw [r0]; exact .nil⟩ (fun i G hi p => hG i G hi p.1) ?_ ?_
  · exact same_put same_refl hD
  · rintro i x G G' hi ⟨sm, rs, gD, ln, pr⟩ y
    refine hs i x G G' _ _ hi sm y (fun r c H4 s4 a4 e => ?_) (fun H3 s3 e => ?_)
    · refine ⟨_, s4 _ _ gD, by rw [List.length_map, sizeLine_eq]; omega, same_put (sm.trans s4) hD, rs ++ [r], by rw [upd_same, List.map_append]; rfl, by rw [List.length_append]; exact Nat.succ_le_succ ln, ?_⟩
      have off : ∀ {q : Addr} {c : CellP}, PairAt H4 q c → PairAt (upd H4 D (.lst (rs.map V.ref ++ [V.ref r]))) q c := fun h => h.off (s4 _ _ gD) (by intro xs z; cases z)
      rw [e]
      exact (paired_imp (fun _ _ h => off (h.same s4)) pr).snoc (off a4)
    · refine ⟨sm.trans s3, rs, s3 _ _ gD, Nat.le_succ_of_le ln, ?_⟩
      rw [e]
      exact paired_imp (fun _ _ h => h.same s3) pr
  · rintro G ⟨sm, rs, gD, _, pr⟩
    exact hd G rs sm gD pr
theorem filt_snoc {L : List Cell} {p : Cell → Bool} {i : Nat} {c : Cell} (h : L[i]? = some c) (hp : p c = true) : (L.take (i + 1)).filter p = (L.take i).filter p ++ [c] := by
  rw [take_snoc h, List.filter_append]
  simp only [List.filter_cons, hp, if_true, List.filter_nil]
theorem filt_skip {L : List Cell} {p : Cell → Bool} {i : Nat} {c : Cell} (h : L[i]? = some c) (hp : p c ≠ true) : (L.take (i + 1)).filter p = (L.take i).filter p := by
  rw [take_snoc h, List.filter_append]
  simp only [List.filter_cons, hp, if_false, List.filter_nil, List.append_nil]
  simp
def PairsL (H : Hp) (t : Addr) (ms : List CellP) : Prop := ∃ ps : List Addr, H t = some (.lst (ps.map V.ref)) ∧ Paired (fun p m => PairAt H p m) ps ms
section
variable {P : Program} {w : World} {K : PySem.W.Frag} {mg : Str → Option Value} {base : Heap}
end
end Sq

set_option Elab.async false
set_option linter.all false
set_option maxRecDepth 100000
set_option maxHeartbeats 4000000
/-! sorted of a lot of cells; is_body. -/
namespace Sq
open PySem PySem.Spec PyProof.Rows L2
theorem iteN {c : Prop} [Decidable c] {p q : Prop} (h : ¬c) (k : q) : if c then p else q := by
  rw [if_neg h]
  exact k
section
variable {P : Program} {w : World} {K : PySem.W.Frag} {mg : Str → Option Value} {base : Heap}
end
end Sq

set_option Elab.async false
set_option linter.all false
set_option maxRecDepth 100000
set_option maxHeartbeats 4000000
/-! in, for a pair of cells and a tuple of such pairs. -/
namespace Sq
open PySem PySem.Spec PyProof.Rows L2
theorem pairs_dps {K : PySem.W.Frag} {H : Hp} : ∀ {ps : List Addr} {ms : List CellP}, Paired (fun p m => PairAt H p m) ps ms → DpAll K H (ps.map V.ref) (ms.map pD)
  | _, _, .nil => .nil
  | _, _, .cons h t => .cons h.dp (pairs_dps t)
theorem PairsT.dp {K : PySem.W.Frag} {H : Hp} {t : Addr} {ms : List CellP} (h : PairsT H t ms) : Dp K H (.ref t) (.tuple (ms.map pD)) := by
  obtain ⟨ps, e, pr⟩ := h
  exact .tup (SqT.of e) (pairs_dps pr)
theorem PairsL.dp {K : PySem.W.Frag} {H : Hp} {t : Addr} {ms : List CellP} (h : PairsL H t ms) : Dp K H (.ref t) (.list (ms.map pD)) := by
  obtain ⟨ps, e, pr⟩ := h
  exact .lst (SqL.of e) (pairs_dps pr)
end Sq

set_option Elab.async false
set_option linter.all false
set_option maxRecDepth 100000
set_option maxHeartbeats 4000000
/-! What a move is, as mathematics. -/
namespace Sq
open PySem PySem.Spec PyProof.Rows L2
theorem abs_one {i : Int} : absI i = 1 ↔ i = 1 ∨ i = -1 := by
  unfold absI
  split <;> omega
theorem abs_zero {i : Int} : absI i = 0 ↔ i = 0 := by
  unfold absI
  split <;> omega
theorem abs_nn (i : Int) : 0 ≤ absI i := by
  unfold absI
  split <;> omega
/-- what lies behind a kind -/
structure IsMv (L : List Cell) (s e : Cell) : Prop where
  sL : s ∈ L
  eL : e ∉ L
  ar : e ∈ aroundC s
  near : ∃ a ∈ without L s, e ∈ besideC a
theorem around_iff {s e : Cell} : e ∈ aroundC s ↔ (e.1 - s.1 = -1 ∨ e.1 - s.1 = 0 ∨ e.1 - s.1 = 1) ∧ (e.2 - s.2 = -1 ∨ e.2 - s.2 = 0 ∨ e.2 - s.2 = 1) ∧ ¬ (e.1 = s.1 ∧ e.2 = s.2) := by
  obtain ⟨e1, e2⟩ := e
  obtain ⟨s1, s2⟩ := s
  simp only [aroundC, List.mem_cons, List.not_mem_nil, or_false, Prod.mk.injEq]
  omega
theorem byPlace_is {L : List Cell} {s e : Cell} (h : byPlace L s e ≠ .non) : IsMv L s e := by
  obtain ⟨sL, eL⟩ := byPlace_mem h
  have key : e ∈ aroundC s ∧ ∃ a ∈ without L s, e ∈ besideC a := by
    unfold byPlace at h
    rw [if_neg (by simp [sL, eL])] at h
    obtain ⟨e1, e2⟩ := e
    obtain ⟨s1, s2⟩ := s
    by_cases c1 : absI (e1 - s1) + absI (e2 - s2) = 1
    · rw [if_pos c1] at h
      have hs : slidesB L (s1, s2) (e1, e2) = true := by
        refine Classical.byContradiction fun n => h ?_
        rw [if_neg n]
      have n1 := abs_nn (e1 - s1)
      have n2 := abs_nn (e2 - s2)
      have cs : (e1 - s1 = 0 ∧ (e2 - s2 = 1 ∨ e2 - s2 = -1)) ∨ ((e1 - s1 = 1 ∨ e1 - s1 = -1) ∧ e2 - s2 = 0) := by
        by_cases z : absI (e1 - s1) = 0
        · exact .inl ⟨abs_zero.mp z, abs_one.mp (by omega)⟩
        · exact .inr ⟨abs_one.mp (by omega), abs_zero.mp (by omega)⟩
      refine ⟨around_iff.mpr ⟨?_, ?_, ?_⟩, ?_⟩
      · simp only
        omega
      · simp only
        omega
      · simp only
        omega
      · unfold slidesB sideB at hs
        simp only [Bool.or_eq_true, Bool.and_eq_true, decide_eq_true_eq] at hs
        rcases hs with ⟨_, hm⟩ | ⟨_, hm⟩
        · refine ⟨_, mem_without.mpr ⟨hm, fun z => ?_⟩, bes (by omega)⟩
          obtain ⟨z1, z2⟩ := Prod.mk.inj z
          omega
        · refine ⟨_, mem_without.mpr ⟨hm, fun z => ?_⟩, bes (by omega)⟩
          obtain ⟨z1, z2⟩ := Prod.mk.inj z
          omega
    · rw [if_neg c1] at h
      by_cases c2 : absI (e1 - s1) = 1 ∧ absI (e2 - s2) = 1
      · rw [if_pos c2] at h
        have hs : turnsB L (s1, s2) (e1, e2) = true := by
          refine Classical.byContradiction fun n => h ?_
          rw [if_neg n]
        have d1 := abs_one.mp c2.1
        have d2 := abs_one.mp c2.2
        refine ⟨around_iff.mpr ⟨?_, ?_, ?_⟩, ?_⟩
        · simp only
          omega
        · simp only
          omega
        · simp only
          omega
        · have hm : (s1, e2) ∈ L ∨ (e1, s2) ∈ L := by
            unfold turnsB at hs
            by_cases m : (s1, e2) ∈ L
            · exact .inl m
            · by_cases m2 : (e1, s2) ∈ L
              · exact .inr m2
              · simp [m, m2] at hs
          rcases hm with hm | hm
          · refine ⟨_, mem_without.mpr ⟨hm, fun z => ?_⟩, bes (by omega)⟩
            obtain ⟨z1, z2⟩ := Prod.mk.inj z
            omega
          · refine ⟨_, mem_without.mpr ⟨hm, fun z => ?_⟩, bes (by omega)⟩
            obtain ⟨z1, z2⟩ := Prod.mk.inj z
            omega
      · rw [if_neg c2] at h
        exact absurd rfl h
  exact ⟨sL, eL, key.1, key.2⟩
theorem kind_ne {L : List Cell} {s e : Cell} : kindV L s e ≠ .non ↔ byPlace L s e ≠ .non ∧ hangsB (without L s) = true := by
  unfold kindV
  constructor
  · intro h
    refine ⟨fun z => h (by rw [if_pos (.inl z)]), ?_⟩
    refine Classical.byContradiction fun n => h ?_
    rw [if_pos (.inr (Bool.eq_false_iff.mpr n))]
  · rintro ⟨h1, h2⟩
    rw [if_neg (fun z => z.elim h1 fun y => by rw [h2] at y; cases y)]
    exact h1
/-- behind a move the body hangs together, and has as many squares -/
theorem behind {L cs : List Cell} {s e : Cell} (nL : L.Nodup) (h : kindV L s e ≠ .non) (pm : cs.Perm (without L s ++ [e])) : Hangs cs ∧ cs.Nodup ∧ cs.length = L.length := by
  obtain ⟨h1, h2⟩ := kind_ne.mp h
  obtain ⟨sL, eL, ar, a, ha, hb⟩ := byPlace_is h1
  have hh : Hangs (without L s ++ [e]) := hangs_snoc (hangsB_iff.mp h2) ha hb
  have nd : (without L s ++ [e]).Nodup := List.nodup_append.mpr ⟨nL.sublist List.filter_sublist, by simp, fun a ha b hb => by
    rw [List.mem_singleton.mp hb]
    exact fun z => eL (z ▸ (mem_without.mp ha).1)⟩
  refine ⟨(hangs_perm fun x => pm.mem_iff).mpr hh, pm.nodup_iff.mpr nd, ?_⟩
  rw [pm.length_eq, List.length_append]
  have l1 : (without L s).length + 1 = L.length := by
    have p1 : L.Perm (s :: without L s) := by
      refine (List.perm_ext_iff_of_nodup nL (List.nodup_cons.mpr ⟨fun m => (mem_without.mp m).2 rfl, nL.sublist List.filter_sublist⟩)).mpr fun x => ?_
      rw [List.mem_cons, mem_without]
      by_cases z : x = s
      · subst z
        simp [sL]
      · simp [z]
    have := p1.length_eq
    rw [List.length_cons] at this
    omega
  exact l1
theorem KT.pen {Ts : List Addr} {H G : Hp} {p : Addr} {n : Nat} (k : KT Ts H G) (h : PenAt H p n) : PenAt G p n := by
  obtain ⟨c, zs, i, dg, fo, e1, e2, r⟩ := h.ex
  exact ⟨⟨c, zs, i, dg, fo, k.get e1 (fun _ z => nomatch z), k.get e2 (fun _ z => nomatch z), r⟩⟩
theorem PairAt.ek {H G : Hp} {p : Addr} {m : CellP} (h : PairAt H p m) (k : Ek H G) : PairAt G p m := by
  obtain ⟨x, y, e, ax, ay⟩ := h
  exact ⟨x, y, k.tup e, k.at ax, k.at ay⟩
theorem PairsT.ek {H G : Hp} {t : Addr} {ms : List CellP} (h : PairsT H t ms) (k : Ek H G) : PairsT G t ms := by
  obtain ⟨ps, e, pr⟩ := h
  exact ⟨ps, k.tup e, paired_imp (fun _ _ a => PairAt.ek a k) pr⟩
theorem PairsL.ek {H G : Hp} {t : Addr} {ms : List CellP} (h : PairsL H t ms) (k : Ek H G) : PairsL G t ms := by
  obtain ⟨ps, e, pr⟩ := h
  exact ⟨ps, k.lst e, paired_imp (fun _ _ a => PairAt.ek a k) pr⟩
theorem ne_same {v : V} (h : scal v v = true) {H : Hp} {Q : VK} (q : Q (.bl false) H) : rNe v v H Q := ⟨h, by rw [decide_eq_true rfl]; exact q⟩
theorem ne_eq {i j : Int} (h : i = j) {H : Hp} {Q : VK} (q : Q (.bl false) H) : rNe (.int i) (.int j) H Q := by
  subst h
  exact ne_same rfl q
end Sq

set_option Elab.async false
set_option linter.all false
set_option maxRecDepth 100000
set_option maxHeartbeats 4000000
/-! is_move_in: whether a pair of a plan is a move. -/
namespace Sq
open PySem PySem.Spec PyProof.Rows L2
/-- a value: a cell, or none -/
def CellO (K : PySem.W.Frag) (H : Hp) (x : V) : Option Cell → Prop
  | none => CellQ K H x false
  | some c => ∃ p, x = .ref p ∧ At H p c
theorem CellO.ek {K : PySem.W.Frag} {H G : Hp} {x : V} {o : Option Cell} (h : CellO K H x o) (k : Ek H G) : CellO K G x o := by
  cases o with
  | none => exact CellQ.ek (show CellQ K H x false from h) k
  | some c =>
    obtain ⟨p, e, a⟩ := h
    exact ⟨p, e, k.at a⟩
/-- what is_cell says of it -/
theorem CellO.q {K : PySem.W.Frag} {H : Hp} {x : V} {o : Option Cell} (h : CellO K H x o) : CellQ K H x o.isSome := by
  cases o with
  | none => exact h
  | some c =>
    obtain ⟨p, rfl, a⟩ := h
    exact .cell a
abbrev MvO := Option Cell × Option Cell
/-- a pair of a plan -/
def MvAt (K : PySem.W.Frag) (H : Hp) (q : Addr) (m : MvO) : Prop := ∃ x y, H q = some (.tup [x, y]) ∧ CellO K H x m.1 ∧ CellO K H y m.2
theorem MvAt.ek {K : PySem.W.Frag} {H G : Hp} {q : Addr} {m : MvO} (h : MvAt K H q m) (k : Ek H G) : MvAt K G q m := by
  obtain ⟨x, y, e, a, b⟩ := h
  exact ⟨x, y, k.tup e, a.ek k, b.ek k⟩
section
variable {P : Program} {w : World} {K : PySem.W.Frag} {mg : Str → Option Value} {base : Heap} {Ts : List Addr}
end
end Sq

set_option Elab.async false
set_option linter.all false
set_option maxRecDepth 100000
set_option maxHeartbeats 4000000
/-! first_wrong. -/
namespace Sq
open PySem PySem.Spec PyProof.Rows L2
/-- the lot behind a pair -/
def stepC (L : List Cell) : MvO → List Cell
  | (some a, some b) => without L a ++ [b]
  | _ => L
/-- the lot ahead of the pair at i -/
def lotAt (L : List Cell) (ms : List MvO) (i : Nat) : List Cell := (ms.take i).foldl stepC L
/-- a plan: a list or a tuple of pairs -/
def PlanAt (K : PySem.W.Frag) (H : Hp) (pl : Addr) (ms : List MvO) : Prop := ∃ qs : List Addr, (H pl = some (.lst (qs.map V.ref)) ∨ H pl = some (.tup (qs.map V.ref))) ∧ Paired (fun q m => MvAt K H q m) qs ms
theorem PlanAt.ek {K : PySem.W.Frag} {H G : Hp} {pl : Addr} {ms : List MvO} (h : PlanAt K H pl ms) (k : Ek H G) : PlanAt K G pl ms := by
  obtain ⟨qs, e, pr⟩ := h
  exact ⟨qs, e.elim (fun e => .inl (k.lst e)) fun e => .inr (k.tup e), paired_imp (fun _ _ h => h.ek k) pr⟩
section
variable {P : Program} {w : World} {K : PySem.W.Frag} {mg : Str → Option Value} {base : Heap} {Ts : List Addr}
end
end Sq

set_option Elab.async false
set_option linter.all false
set_option maxRecDepth 100000
set_option maxHeartbeats 4000000
/-! checked_moves. -/
namespace Sq
open PySem PySem.Spec PyProof.Rows L2
section
variable {P : Program} {w : World} {K : PySem.W.Frag} {mg : Str → Option Value} {base : Heap} {Ts : List Addr}
end
end Sq

set_option Elab.async false
set_option linter.all false
set_option maxRecDepth 100000
set_option maxHeartbeats 4000000
/-! bodies_behind, bodies_of, end_of. -/
namespace Sq
open PySem PySem.Spec PyProof.Rows L2
theorem cellsT_tu {H G : Hp} {t : Addr} {L : List Cell} (h : CellsT H t L) (k : ∀ b xs, H b = some (.tup xs) → G b = some (.tup xs)) : CellsT G t L := by
  obtain ⟨qs, e, pr⟩ := h
  exact ⟨qs, k _ _ e, paired_imp (fun _ _ a => k _ _ a) pr⟩
theorem upd_tu {G : Hp} {d : Addr} {o o' : HO} (hd : G d = some o) (n : ∀ xs, o ≠ .tup xs) : ∀ b xs, G b = some (.tup xs) → upd G d o' b = some (.tup xs) := fun b xs e => by
  rw [upd_ne (fun z => by rw [z, hd] at e; exact n xs (Option.some.inj e))]
  exact e
/-- the bodies of a plan, up to the n-th -/
def BsOk (L : List Cell) (ms : List MvO) (n : Nat) (Bs : List (List Cell)) : Prop := Bs.length = n + 1 ∧ ∀ j B, Bs[j]? = some B → B.Perm (lotAt L ms j) ∧ Asc B
theorem BsOk.snoc {L B : List Cell} {ms : List MvO} {n : Nat} {Bs : List (List Cell)} (h : BsOk L ms n Bs) (p : B.Perm (lotAt L ms (n + 1))) (a : Asc B) : BsOk L ms (n + 1) (Bs ++ [B]) := by
  refine ⟨by rw [List.length_append, h.1]; rfl, fun j X e => ?_⟩
  by_cases hj : j < Bs.length
  · rw [List.getElem?_append_left hj] at e
    exact h.2 j X e
  · have hj' : j = Bs.length := by
      have := (List.getElem?_eq_some_iff.mp e).1
      rw [List.length_append] at this
      have : j < Bs.length + 1 := this
      omega
    subst hj'
    rw [List.getElem?_append_right (Nat.le_refl _), Nat.sub_self] at e
    have := Option.some.inj e
    subst this
    rw [h.1]
    exact ⟨p, a⟩
section
variable {P : Program} {w : World} {K : PySem.W.Frag} {mg : Str → Option Value} {base : Heap} {Ts : List Addr}
end
end Sq

set_option Elab.async false
set_option linter.all false
set_option maxRecDepth 100000
set_option maxHeartbeats 4000000
/-! checked_lot of cells; parts_of. -/
namespace Sq
open PySem PySem.Spec PyProof.Rows L2
/-- t holds a tuple of tuples of these cells -/
def CellsTT (H : Hp) (t : Addr) (ps : List (List Cell)) : Prop := ∃ ts : List Addr, H t = some (.tup (ts.map V.ref)) ∧ Paired (fun t p => CellsT H t p) ts ps
section
variable {P : Program} {w : World} {K : PySem.W.Frag} {mg : Str → Option Value} {base : Heap}
end
end Sq

set_option Elab.async false
set_option linter.all false
set_option maxRecDepth 100000
set_option maxHeartbeats 4000000
/-! bodies_of, end_of. -/
namespace Sq
open PySem PySem.Spec PyProof.Rows L2
section
variable {P : Program} {w : World} {K : PySem.W.Frag} {mg : Str → Option Value} {base : Heap} {Ts : List Addr}
end
end Sq

set_option Elab.async false
set_option linter.all false
set_option maxRecDepth 100000
set_option maxHeartbeats 4000000
/-! The law's first_wrong. -/
namespace Sq
open PySem PySem.Spec PyProof.Rows L2
theorem hangsB_cong {L M : List Cell} (h : ∀ x, x ∈ L ↔ x ∈ M) : hangsB L = hangsB M := by
  rw [Bool.eq_iff_iff, hangsB_iff, hangsB_iff]
  exact hangs_perm h
def byF (s e : Cell) (f : Cell → Bool) : V :=
  if f s = false ∨ f e = true then .non
  else if absI (e.1 - s.1) + absI (e.2 - s.2) = 1 then (if ((f (s.1 + (e.2 - s.2), s.2 + (e.1 - s.1)) && f (e.1 + (e.2 - s.2), e.2 + (e.1 - s.1))) || (f (s.1 + -(e.2 - s.2), s.2 + -(e.1 - s.1)) && f (e.1 + -(e.2 - s.2), e.2 + -(e.1 - s.1)))) = true then .str "slide" else .non)
  else if absI (e.1 - s.1) = 1 ∧ absI (e.2 - s.2) = 1 then (if (f (s.1, e.2) != f (e.1, s.2)) = true then .str "turn" else .non) else .non
theorem byPlace_cong {L M : List Cell} {s e : Cell} (h : ∀ x, x ∈ L ↔ x ∈ M) : byPlace L s e = byPlace M s e := by
  have hf : (fun c => decide (c ∈ L)) = (fun c => decide (c ∈ M)) := funext fun c => by
    rw [Bool.eq_iff_iff, decide_eq_true_iff, decide_eq_true_iff]
    exact h c
  have key : ∀ L, byPlace L s e = byF s e (fun c => decide (c ∈ L)) := fun _ => rfl
  rw [key L, key M, hf]
theorem kindV_cong {L M : List Cell} {s e : Cell} (h : ∀ x, x ∈ L ↔ x ∈ M) : kindV L s e = kindV M s e := by
  unfold kindV
  rw [byPlace_cong h, hangsB_cong (L := without L s) (M := without M s) fun x => by rw [mem_without, mem_without, h]]
section
variable {P : Program} {w : World} {K : PySem.W.Frag} {mg : Str → Option Value} {base : Heap} {Ts : List Addr}
end
end Sq

set_option Elab.async false
set_option linter.all false
set_option maxRecDepth 100000
set_option maxHeartbeats 4000000
/-! What the law asks of bodies_of and end_of. -/
namespace Sq
open PySem PySem.Spec PyProof.Rows L2
section
variable {P : Program} {w : World} {K : PySem.W.Frag} {mg : Str → Option Value} {base : Heap} {Ts : List Addr}
end
end Sq

set_option Elab.async false
set_option linter.all false
set_option maxRecDepth 100000
set_option maxHeartbeats 4000000
/-! draw and pick again: the pen's list stays where it is. -/
namespace Sq
open PySem PySem.Spec PyProof.Rows L2
/-- a pen stands at p, its list at c, n numbers were drawn -/
structure PenC (H : Hp) (p c : Addr) (n : Nat) : Prop where
  ex : ∃ (zs : List Int) (i : Nat) (dg fo : Int), H p = some (.dK (penK c i dg n fo)) ∧ H c = some (.lst (zs.map V.int)) ∧ i ≤ zs.length ∧ zs.length ≤ 63 ∧ 0 ≤ dg ∧ 0 ≤ fo ∧ fo < 2147483648
theorem PenC.at {H : Hp} {p c : Addr} {n : Nat} (h : PenC H p c n) : PenAt H p n := ⟨⟨c, h.ex⟩⟩
theorem PenAt.c {H : Hp} {p : Addr} {n : Nat} (h : PenAt H p n) : ∃ c, PenC H p c n := by
  obtain ⟨c, r⟩ := h.ex
  exact ⟨c, ⟨r⟩⟩
theorem PenC.same {H H' : Hp} {p c : Addr} {n : Nat} (h : PenC H p c n) (k : Same H H') : PenC H' p c n := by
  obtain ⟨zs, i, dg, fo, e1, e2, r⟩ := h.ex
  exact ⟨⟨zs, i, dg, fo, k _ _ e1, k _ _ e2, r⟩⟩
/-- what is put elsewhere -/
theorem PenC.off {H : Hp} {p c q : Addr} {n : Nat} {o : HO} (h : PenC H p c n) (np : p ≠ q) (nc : c ≠ q) : PenC (upd H q o) p c n := by
  obtain ⟨zs, i, dg, fo, e1, e2, r⟩ := h.ex
  exact ⟨⟨zs, i, dg, fo, by rw [upd_ne np]; exact e1, by rw [upd_ne nc]; exact e2, r⟩⟩
theorem PenC.ne {H : Hp} {p c q : Addr} {n : Nat} (h : PenC H p c n) (hq : H q = none) : p ≠ q ∧ c ≠ q := by
  obtain ⟨zs, i, dg, fo, e1, e2, r⟩ := h.ex
  exact ⟨ne_of_none e1 hq, ne_of_none e2 hq⟩
def spDrawC : Sp := fun vs H Q _ => ∃ (p c : Addr) (n : Nat) (m : Int), vs = [.ref p, .int m] ∧ PenC H p c n ∧ 1 ≤ m ∧ m < 1073741824 ∧ n < 1000000 ∧
  ∀ (r : Int) (H' : Hp), 0 ≤ r → r < m → PenC H' p c (n + 1) → (∀ b, b ≠ p → H' b = H b) → Q (.int r) H'
def spPickC (K : PySem.W.Frag) : Sp := fun vs H Q _ => ∃ (p c l : Addr) (n : Nat) (xs : List V), vs = [.ref p, .ref l] ∧ PenC H p c n ∧ n < 1000000 ∧ (SqL K H l xs ∨ SqT K H l xs) ∧ 1 ≤ xs.length ∧ xs.length < 1073741824 ∧
  ∀ (i : Nat) (x : V) (H' : Hp), xs[i]? = some x → PenC H' p c (n + 1) → (∀ b, b ≠ p → H' b = H b) → Q x H'
section
variable {P : Program} {w : World} {K : PySem.W.Frag} {mg : Str → Option Value} {base : Heap}
theorem ok_drawC {f : Addr} {fd : FuncData} (F : FnP K "_law_draw" sDraw f fd) (gI : mg "int" = none) (gL : mg "len" = none) : FnOk P w K mg base CX0 1 f fd ["_law_pen_here", "_law_many"] spDrawC := by
  refine F.ok scD (fun vs H Q E h => ?_) (fun cdv A outer s H vs Q E hr h => ?_)
  · obtain ⟨p, c, n, m, rfl, _⟩ := h
    rfl
  · obtain ⟨p, c, n, m, rfl, ⟨zs, i, dg, fo, hp, hc, hi, hl, hd, f0, f1⟩, m1, m2, hn, k⟩ := h
    have hu := hu_of hr
    have cp : c ≠ p := ne_of hc hp (by intro z; cases z)
    -- what stands behind the first if
    obtain ⟨tt, htt, key⟩ : ∃ t, PSs (cxOf CX0 P w K mg base ["_law_pen_here", "_law_many", "_law_cell", "_law_digit", "_law_blend"] "_law_draw" (defScope sDraw) f cdv A outer s H E).nox ((defBody sDraw).drop 2) t ∧
        ∀ (D : Ends) (v : Option V) (i' : Nat) (dg' fo' : Int) (H1 : Hp), H1 p = some (.dK (penK c i' dg' ((n : Int) + 1) fo')) → H1 c = some (.lst (zs.map V.int)) → (∀ b, b ≠ p → H1 b = H b) → i' ≤ zs.length → 0 ≤ dg' → 0 ≤ fo' → fo' < 2147483648 →
          (∀ (r : Int) (H' : Hp), 0 ≤ r → r < m → PenC H' p c (n + 1) → (∀ b, b ≠ p → H' b = H b) → D.rt (.int r) H') → t D [some (.ref p), some (.int m), v, none, none] H1 := by
      refine ⟨_, pss_cons (ps_if (pt_cmpR op_gt (pe_dget hu (pv 0) pe_str (fun _ _ => rfl)) pe_int (nomark _))
        (pss_cons (ps_set (i := 3) scD.nd rfl (.inl rfl) (pe_op op_mod (pe_callTy call_int1 (by rfl) gI PyProof.Rows.boot_int (pa_cons (pe_dget hu (pv 0) pe_str (fun _ _ => rfl)) pa_nil)) (pv 1)))
        (pss_cons (ps_dput hu (pv 0) pe_str (pe_op op_fdiv (pe_dget hu (pv 0) pe_str (fun _ _ => rfl)) (pv 1)) rfl)
        (pss_one (ps_ret (pv 3)))))
        pss_nil)
        (pss_cons (ps_set (i := 4) scD.nd rfl (.inl rfl) (pe_op op_add (pe_op op_add (pe_dget hu (pv 0) pe_str (fun _ _ => rfl)) (pe_op op_mul (pe_dget hu (pv 0) pe_str (fun _ _ => rfl)) pe_int)) pe_int))
        (pss_one (ps_ret (pe_op op_mod (pe_op op_fdiv (pe_callTy call_int1 (by rfl) gI PyProof.Rows.boot_int (pa_cons (pe_op op_mod (pe_op op_pow (pv 4) pe_int) pe_int) pa_nil)) pe_int) (pv 1))))), ?_⟩
      intro D v i' dg' fo' H1 e1 e2 e3 h1 h2 h3 h4 kD
      refine ⟨_, rfl, p, _, rfl, dget_of e1 pen_dig, _, _, rfl, rfl, _, rfl, ?_⟩
      refine ite2 (fun hd => ?_) (fun hd => ?_)
      · refine ⟨_, rfl, p, _, rfl, dget_of e1 pen_dig, .inl ⟨_, rfl, _, rfl, _, _, rfl, rfl, (by show 0 < m; omega), ?_⟩⟩
        refine ⟨_, rfl, p, _, rfl, dget_of e1 pen_dig, _, rfl, _, _, rfl, rfl, ⟨by omega, m2⟩, _, rfl, p, _, rfl, dput_of e1 put_dig, ?_⟩
        refine ⟨_, rfl, ?_⟩
        refine kD _ _ (Int.emod_nonneg _ (by omega)) (Int.emod_lt_of_pos _ (by omega)) ⟨⟨zs, i', dg' / m, fo', ?_, ?_, h1, hl, Int.ediv_nonneg h2 (by omega), h3, h4⟩⟩ fun b hb => ?_
        · rw [upd_same]
          rfl
        · rw [upd_ne cp]
          exact e2
        · rw [upd_ne hb]
          exact e3 b hb
      · refine ⟨_, rfl, p, _, rfl, dget_of e1 pen_fold, _, rfl, p, _, rfl, dget_of e1 pen_cnt, _, _, rfl, rfl, .inr ⟨by decide, by decide⟩, _, _, rfl, rfl, _, _, rfl, rfl, ?_⟩
        refine ⟨_, rfl, _, _, rfl, rfl, ⟨by decide, by decide, ?_⟩, _, _, rfl, rfl, (by show (0 : Int) < 2305843009213693951; decide), .inl ⟨_, rfl, _, _, rfl, rfl, ⟨by decide, by decide⟩, _, rfl, _, _, rfl, rfl, (by show 0 < m; omega), ?_⟩⟩
        · show (fo' + ((n : Int) + 1) * 7907 + 37).natAbs < 18446744073709551616
          omega
        · exact kD _ _ (Int.emod_nonneg _ (by omega)) (Int.emod_lt_of_pos _ (by omega)) ⟨⟨zs, i', dg', fo', e1, e2, h1, hl, h2, h3, h4⟩⟩ e3
    refine ⟨_, PSs.nox (pss_cons (ps_dput hu (pv 0) pe_str (pe_op op_add (pe_dget hu (pv 0) pe_str (fun _ _ => rfl)) pe_int) rfl)
      (pss_cons (ps_if (PW.pt (pw_and (pt_cmpR op_eq (pe_dget hu (pv 0) pe_str (fun _ _ => rfl)) pe_int (nomark _)) (pw_and1 (pt_cmpR op_lt (pe_dget hu (pv 0) pe_str (fun _ _ => rfl)) (pe_callB call_len_seq (by rfl) gL PySem.boot_len (pa_cons (pe_dget hu (pv 0) pe_str (fun _ _ => rfl)) pa_nil)) (nomark _)))))
        (pss_cons (ps_set (i := 2) scD.nd rfl (.inl rfl) (pe_ix ix_list (pe_dget hu (pv 0) pe_str (fun _ _ => rfl)) (pe_dget hu (pv 0) pe_str (fun _ _ => rfl)) (fun _ _ => rfl)))
        (pss_cons (ps_dput hu (pv 0) pe_str (pe_op op_add (pe_dget hu (pv 0) pe_str (fun _ _ => rfl)) pe_int) rfl)
        (pss_one (ps_if (pt_cmpR op_ge (pv 2) (pe_op op_pow pe_int pe_int) (nomark _))
          (pss_one (ps_dput hu (pv 0) pe_str (pe_op op_sub (pv 2) (pe_op op_pow pe_int pe_int)) rfl))
          (pss_one (ps_dput hu (pv 0) pe_str (pe_op op_mod (pe_callTy call_int1 (by rfl) gI PyProof.Rows.boot_int (pa_cons (pe_op op_add (pe_op op_mul (pe_dget hu (pv 0) pe_str (fun _ _ => rfl)) pe_int) (pv 2)) pa_nil)) pe_int) rfl))))))
        pss_nil)
      htt)), ?_⟩
    refine ⟨_, rfl, p, _, rfl, dget_of hp pen_cnt, _, _, rfl, rfl, _, rfl, p, _, rfl, dput_of hp put_cnt, ?_⟩
    have hc1 : ∀ o, upd H p o c = some (.lst (zs.map V.int)) := fun o => by
      rw [upd_ne cp]
      exact hc
    have far : ∀ (o : HO) (b : Addr), b ≠ p → upd H p o b = H b := fun o b hb => upd_ne hb
    refine ⟨_, rfl, p, _, rfl, dget_of upd_same pen_dig, rfl, _, rfl, ?_⟩
    refine ite2 (fun _ => ?_) (fun _ => ?_)
    · refine ⟨_, rfl, p, _, rfl, dget_of upd_same pen_at, _, rfl, p, _, rfl, dget_of upd_same pen_cells, c, _, rfl, .inl (SqL.of (hc1 _)), _, _, rfl, rfl, _, rfl, ?_⟩
      refine ite2 (fun hlt => ?_) (fun _ => ?_)
      · have hlt' : (i : Int) < ((zs.map V.int).length : Int) := of_decide_eq_true hlt
        rw [List.length_map] at hlt'
        have hiz : i < zs.length := by omega
        have hat : atI (zs.map V.int) (i : Int) = some (.int zs[i]) := atI_nat (by rw [List.getElem?_map, List.getElem?_eq_getElem hiz]; rfl)
        refine ⟨_, rfl, p, _, rfl, dget_of upd_same pen_cells, _, rfl, p, _, rfl, dget_of upd_same pen_at, c, _, _, _, rfl, rfl, SqL.of (hc1 _), hat, ?_⟩
        refine ⟨_, rfl, p, _, rfl, dget_of upd_same pen_at, _, _, rfl, rfl, _, rfl, p, _, rfl, dput_of upd_same put_at, ?_⟩
        rw [upd_upd]
        refine ⟨_, rfl, _, _, rfl, rfl, ⟨by decide, by decide, by decide⟩, _, _, rfl, rfl, _, rfl, ?_⟩
        refine ite2 (fun hbig => ?_) (fun _ => ?_)
        · have hbig' : (10 : Int) ^ 18 ≤ zs[i] := of_decide_eq_true hbig
          refine ⟨_, rfl, _, _, rfl, rfl, ⟨by decide, by decide, by decide⟩, _, _, rfl, rfl, _, rfl, p, _, rfl, dput_of upd_same put_dig, ?_⟩
          rw [upd_upd]
          have e10 : (10 : Int) ^ 18 = 1000000000000000000 := by decide
          refine key _ _ (i + 1) _ fo _ upd_same (hc1 _) (far _) (by omega) ?_ f0 f1 k
          show 0 ≤ zs[i] - (10 : Int) ^ 18
          omega
        · refine ⟨_, rfl, p, _, rfl, dget_of upd_same pen_fold, _, _, rfl, rfl, .inr ⟨by decide, by decide⟩, _, rfl, _, _, rfl, rfl, .inl ⟨_, rfl, _, _, rfl, rfl, (by show (0 : Int) < 2147483587; decide), _, rfl, p, _, rfl, dput_of upd_same put_fold, ?_⟩⟩
          rw [upd_upd]
          refine key _ _ (i + 1) dg _ _ upd_same (hc1 _) (far _) (by omega) hd ?_ ?_ k
          · exact Int.emod_nonneg _ (by decide)
          · exact Int.lt_trans (Int.emod_lt_of_pos _ (by decide)) (by decide)
      · exact key _ _ i dg fo _ upd_same (hc1 _) (far _) hi hd f0 f1 k
    · exact key _ _ i dg fo _ upd_same (hc1 _) (far _) hi hd f0 f1 k
theorem ok_pickC {f : Addr} {fd : FuncData} (F : FnP K "_law_pick" sPick f fd) (DD : Df P w K mg base CX0 1 "_law_draw" ["_law_pen_here", "_law_many"] spDrawC) (gL : mg "len" = none) : FnOk P w K mg base CX0 2 f fd ["_law_pen_here", "_law_some"] (spPickC K) := by
  refine F.ok scK (fun vs H Q E h => ?_) (fun cdv A outer s H vs Q E hr h => ?_)
  · obtain ⟨p, c, l, n, xs, rfl, _⟩ := h
    rfl
  · obtain ⟨p, c, l, n, xs, rfl, hp, hn, hS, h1, h2, k⟩ := h
    obtain ⟨zs, i0, dg, fo, ep, _⟩ := hp.ex
    refine ⟨_, PSs.nox (pss_one (ps_ret (pe_ix (IxR.or ix_list ix_tup) (pv 1) (pe_df DD hr (by rfl) pass0 (pa_cons (pv 0) (pa_cons (pe_callB call_len_seq (by rfl) gL PySem.boot_len (pa_cons (pv 1) pa_nil)) pa_nil))) (fun _ _ => rfl)))), ?_⟩
    refine ⟨_, rfl, _, rfl, _, rfl, l, xs, rfl, hS, p, c, n, (xs.length : Int), rfl, hp, by omega, by omega, hn, fun r H' r0 r1 hp' hb => ?_⟩
    obtain ⟨j, rfl⟩ := Int.eq_ofNat_of_zero_le r0
    have hj : j < xs.length := by omega
    have hat : atI xs (j : Int) = some xs[j] := atI_nat (List.getElem?_eq_getElem hj)
    rcases hS with hS | hS
    · exact .inl ⟨l, xs, _, _, rfl, rfl, sqL_but ep hb hS, hat, k j _ H' (List.getElem?_eq_getElem hj) hp' hb⟩
    · exact .inr ⟨l, xs, _, _, rfl, rfl, sqT_but ep hb hS, hat, k j _ H' (List.getElem?_eq_getElem hj) hp' hb⟩
end
end Sq

set_option Elab.async false
set_option linter.all false
set_option maxRecDepth 100000
set_option maxHeartbeats 4000000
/-! The law's plans. -/
namespace Sq
open PySem PySem.Spec PyProof.Rows L2
end Sq

set_option Elab.async false
set_option linter.all false
set_option maxRecDepth 100000
set_option maxHeartbeats 8000000
/-! The law's beside, moved, hangs (the w-family). -/
namespace Sq
open PySem PySem.Spec PyProof.Rows L2
noncomputable def wHangs (cs : List Cell) : Bool := decide (cs = []) || hangsB cs
def spWHangs : Sp := fun vs H Q _ => ∃ (a : Addr) (cs : List Cell), vs = [.ref a] ∧ CellsL H a cs ∧ cs.Nodup ∧ cs.length ≤ 1000 ∧ ∀ H', Same H H' → Q (.bl (wHangs cs)) H'
abbrev whN : List Str := ["_law_cells", "_law_left", "_law_cell", "_law_seen", "_law_waiting", "_law_other"]
theorem keys_lot {H : Hp} : ∀ {L : List Cell} {bs : List Addr}, IsKeys H (lotK L) bs → Paired (fun b c => At H b c) bs L
  | [], [], .nil => .nil
  | c :: L, b :: bs, .cons h t => .cons h (keys_lot t)
theorem lotK_keys (L : List Cell) (nd : L.Nodup) : ((lotK L).map Prod.fst).Nodup := by
  have e : (lotK L).map Prod.fst = L.map cK := by
    unfold lotK
    rw [List.map_map]
    rfl
  rw [e]
  exact nd.map _ fun a b h k => h (cK_inj k)
theorem cut_lastW (xs : List V) : cutV xs none (some (-1)) = xs.take (xs.length - 1) := by
  unfold cutV
  have e : HT.sIx xs.length xs.length (some (-1)) = xs.length - 1 := by
    show (if (-1 : Int) < 0 then ((-1 : Int) + (xs.length : Int)).toNat else min (-1 : Int).toNat xs.length) = xs.length - 1
    rw [if_pos (by decide)]
    omega
  rw [HT.sIx_none, e, List.drop_zero, Nat.sub_zero]
section
variable {P : Program} {w : World} {K : PySem.W.Frag} {mg : Str → Option Value} {base : Heap} {Ts : List Addr}
theorem scWB : FnScope ["_law_cell"] ["_law_cell"] (defScope lWBeside) := ⟨rfl, rfl, rfl, by decide +kernel, rfl, by decide +kernel, by decide +kernel⟩
theorem ok_wBeside {f : Addr} {fd : FuncData} (F : FnP K "_law_w_beside" lWBeside f fd) : FnOk P w K mg base CX0 1 f fd ["_law_cell"] spLBeside := by
  refine F.ok scWB (fun vs H Q E h => ?_) (fun cdv A outer s H vs Q E hr h => ?_)
  · obtain ⟨p, c, rfl, _⟩ := h
    rfl
  · obtain ⟨p, c, rfl, e, k⟩ := h
    refine ⟨_, PSs.nox (pss_one (ps_ret (pe_lst (pa_cons (pe_tup (pa_cons (pe_op op_sub (pe_ix ix_tup (pv 0) pe_int (fun _ _ => rfl)) pe_int) (pa_cons (pe_ix ix_tup (pv 0) pe_int (fun _ _ => rfl)) pa_nil))) (pa_cons (pe_tup (pa_cons (pe_ix ix_tup (pv 0) pe_int (fun _ _ => rfl)) (pa_cons (pe_op op_sub (pe_ix ix_tup (pv 0) pe_int (fun _ _ => rfl)) pe_int) pa_nil))) (pa_cons (pe_tup (pa_cons (pe_op op_add (pe_ix ix_tup (pv 0) pe_int (fun _ _ => rfl)) pe_int) (pa_cons (pe_ix ix_tup (pv 0) pe_int (fun _ _ => rfl)) pa_nil))) (pa_cons (pe_tup (pa_cons (pe_ix ix_tup (pv 0) pe_int (fun _ _ => rfl)) (pa_cons (pe_op op_add (pe_ix ix_tup (pv 0) pe_int (fun _ _ => rfl)) pe_int) pa_nil))) pa_nil))))))), ?_⟩
    refine ⟨_, rfl, _, _, _, _, rfl, rfl, SqT.of e, at0, _, _, rfl, rfl, _, rfl, _, _, _, _, rfl, rfl, SqT.of e, at1, two_le, fun t1 h1 => ?_⟩
    have s1 := same_new (o := .tup [.int (c.1 - 1), .int c.2]) h1
    refine ⟨_, rfl, _, _, _, _, rfl, rfl, SqT.of (s1 _ _ e), at0, _, rfl, _, _, _, _, rfl, rfl, SqT.of (s1 _ _ e), at1, _, _, rfl, rfl, two_le, fun t2 h2 => ?_⟩
    have s2 := same_new (o := .tup [.int c.1, .int (c.2 - 1)]) h2
    have e2 := s2 _ _ (s1 _ _ e)
    refine ⟨_, rfl, _, _, _, _, rfl, rfl, SqT.of e2, at0, _, _, rfl, rfl, _, rfl, _, _, _, _, rfl, rfl, SqT.of e2, at1, two_le, fun t3 h3 => ?_⟩
    have s3 := same_new (o := .tup [.int (c.1 + 1), .int c.2]) h3
    have e3 := s3 _ _ e2
    refine ⟨_, rfl, _, _, _, _, rfl, rfl, SqT.of e3, at0, _, rfl, _, _, _, _, rfl, rfl, SqT.of e3, at1, _, _, rfl, rfl, two_le, fun t4 h4 => ?_⟩
    have s4 := same_new (o := .tup [.int c.1, .int (c.2 + 1)]) h4
    refine ⟨four_le, fun t5 h5 => ?_⟩
    have s5 := same_new (o := .lst [.ref t1, .ref t2, .ref t3, .ref t4]) h5
    refine k t5 _ (((s1.trans s2).trans s3).trans s4 |>.trans s5) (s1.free (s2.free (s3.free (s4.free h5)))) ⟨[t1, t2, t3, t4], upd_same, ?_⟩
    refine .cons ?_ (.cons ?_ (.cons ?_ (.cons ?_ .nil)))
    · exact s5 _ _ (s4 _ _ (s3 _ _ (s2 _ _ upd_same)))
    · exact s5 _ _ (s4 _ _ (s3 _ _ upd_same))
    · exact s5 _ _ (s4 _ _ upd_same)
    · exact s5 _ _ upd_same
theorem scWM : FnScope ["_law_cells", "_law_start", "_law_end", "_law_cell"] ["_law_cells", "_law_start", "_law_end"] (defScope lWMoved) := ⟨rfl, rfl, rfl, by decide +kernel, rfl, by decide +kernel, by decide +kernel⟩
theorem ok_wMoved {f : Addr} {fd : FuncData} (F : FnP K "_law_w_moved" lWMoved f fd) (B : Bl mg) : FnOk P w K mg base CX0 1 f fd ["_law_cells", "_law_start", "_law_end"] spLDone := by
  refine F.ok scWM (fun vs H Q E h => ?_) (fun cdv A outer s H vs Q E hr h => ?_)
  · obtain ⟨t, p, q, L, a, b, rfl, _⟩ := h
    rfl
  · obtain ⟨t, p, q, L, a, b, rfl, ⟨qs, et, pr⟩, lL, ap, aq, k⟩ := h
    have h64 := room64 hr
    refine ⟨_, PSs.nox (pss_one (ps_ret (pe_tupleOf (by rfl) B.tuple (pe_callB cr_sortedC (by rfl) B.sorted (by decide +kernel) (pa_cons (pe_op op_cat (pe_lc (own := [("_law_cell", 3)]) (g := gName 3) rfl scWM.nd (pi_tup (pv 0)) (blkOk_by (N := ["_law_cells", "_law_start", "_law_end", "_law_cell"]) (sc := defScope lWMoved) (by decide +kernel)) (fun _ _ _ _ _ => pg_name (i := 3) scWM.nd rfl (Or.inl rfl)) (fun _ _ _ _ _ => (pts_one (pt_cmpR (op_neK (K := K) rfl h64) (pv 3) (pv 1) (nomark _)))) (fun _ _ _ _ _ => (pv 3))) (pe_lst (pa_cons (pv 2) pa_nil))) pa_nil))))), ?_⟩
    refine ⟨_, rfl, t, rfl, ⟨_, SqT.of et⟩, fun D hD => ?_⟩
    refine lc_cells (walk_tup (K := K) (a := t) (xs := qs.map V.ref)) hD (fun i => without (L.take i) a) rfl (by rw [List.length_map, Paired.length pr]; omega) (fun i G _ sm => SqT.of (sm _ _ et)) ?_ ?_
    · rintro i x G G' K1 K0 hi sm ⟨rfl, hx⟩ k1 k0
      rw [List.getElem?_map] at hx
      obtain ⟨b, hb, rfl⟩ := Option.map_eq_some_iff.mp hx
      obtain ⟨e, he, ae⟩ := paired_get pr hb
      have ae' : At G' b e := sm _ _ ae
      have ap' : At G' p a := sm _ _ ap
      have st : without (L.take (i + 1)) a = if e = a then without (L.take i) a else without (L.take i) a ++ [e] := by rw [take_snoc he, without_snoc]
      refine ⟨rfl, _, rfl, _, rfl, cD e, cD a, ae'.dp, ap'.dp, cD_shaped e, cD_shaped a, _, rfl, ?_⟩
      rw [cD_eqv]
      refine ite2 (fun hc => ?_) (fun hc => ?_)
      · have ne : e ≠ a := by simpa using hc
        rw [if_neg ne] at st
        exact ⟨_, rfl, k1 b e _ same_refl ae' st⟩
      · have ec : e = a := by simpa using hc
        rw [if_pos ec] at st
        exact k0 _ same_refl st
    · rintro G rs sm gD pr2
      have e : L.take (qs.map V.ref).length = L := by rw [List.length_map, Paired.length pr, List.take_length]
      rw [e] at pr2
      have lw : (without L a).length ≤ 1000 := Nat.le_trans (List.length_filter_le _ _) lL
      have lr : rs.length = (without L a).length := Paired.length pr2
      refine ⟨_, rfl, (by show 1 ≤ sizeLine; rw [sizeLine_eq]; decide), fun l1 hl1 => ?_⟩
      have s1 := same_new (o := .lst [.ref q]) hl1
      refine ⟨D, l1, _, _, rfl, rfl, s1 _ _ gD, upd_same, by rw [List.length_map, sizeLine_eq]; show rs.length + 1 ≤ _; omega, fun l2 hl2 => ?_⟩
      have s2 := same_new (o := .lst (rs.map V.ref ++ [.ref q])) hl2
      have sA := s1.trans s2
      refine ⟨l2, rs ++ [q], without L a ++ [b], rfl, SqL.of (by rw [upd_same, List.map_append]; rfl), (paired_imp (fun _ _ h => sA _ _ h) pr2).snoc (sA _ _ (sm _ _ aq)), fun so qs' cs' prq pm asc hso => .inl ⟨so, _, rfl, SqL.of upd_same, fun tp htp => ?_⟩⟩
      have s3 := same_new (o := .lst (qs'.map V.ref)) hso
      have s4 := same_new (o := .tup (qs'.map V.ref)) htp
      exact k tp _ cs' (((sm.trans sA).trans s3).trans s4) ⟨qs', upd_same, paired_imp (fun q c (h : At _ q c) => s4 _ _ (s3 _ _ h)) prq⟩ pm asc
theorem scWHg : FnScope whN ["_law_cells"] (defScope lWHangs) := ⟨rfl, rfl, rfl, by decide +kernel, rfl, by decide +kernel, by decide +kernel⟩
/-- dict([(cell, True) for cell in cells]), told -/
theorem dict_true {H : Hp} {D : Addr} {rs : List Addr} {cs : List Cell} (pr : Paired (fun r c => ∃ q, H r = some (.tup [.ref q, .bl true]) ∧ At H q c) rs cs) : Paired (fun p kv => PrAt H p kv) rs (lotK cs) := by
  induction pr with
  | nil => exact .nil
  | cons h _ ih =>
    obtain ⟨q, e, a⟩ := h
    exact .cons ⟨q, e, a⟩ ih
theorem ok_wHangs {f : Addr} {fd : FuncData} (F : FnP K "_law_w_hangs" lWHangs f fd) (B : Bl mg) (gD : mg "dict" = none) (DB : Df P w K mg base CX0 1 "_law_w_beside" ["_law_cell"] spLBeside) : FnOk P w K mg base CX0 2 f fd ["_law_cells"] spWHangs := by
  refine F.ok scWHg (fun vs H Q E h => ?_) (fun cdv A outer s H vs Q E hr h => ?_)
  · obtain ⟨a, cs, rfl, _⟩ := h
    rfl
  · obtain ⟨a, cs, rfl, ca, nd, lcs, k⟩ := h
    have hu := hu_of hr
    have h64 := room64 hr
    refine ⟨_, PSs.nox (pss_cons (ps_set (i := 1) scWHg.nd rfl (.inr rfl) (pe_callTy (call_dictT rfl h64) (by rfl) gD (by decide +kernel) (pa_cons (pe_lc (own := [("_law_cell", 2)]) (g := gName 2) (tt := tYes) rfl scWHg.nd (pi_list (pv 0)) (blkOk_by (N := whN) (sc := defScope lWHangs) (by decide +kernel)) (fun _ _ _ _ _ => pg_name (i := 2) scWHg.nd rfl (Or.inl rfl)) (fun _ _ _ _ _ => pts_nil) (fun _ _ _ _ _ => (pe_tup (pa_cons (pv 2) (pa_cons pe_bl pa_nil))))) pa_nil)))
      (pss_cons (ps_if (pt_cmpR (op_eqE h64) (pv 1) pe_dnewT (nomark _))
      (pss_one (ps_ret pe_bl))
      pss_nil)
      (pss_cons (ps_set (i := 3) scWHg.nd rfl (.inr rfl) pe_dnewT)
      (pss_cons (ps_set (i := 4) scWHg.nd rfl (.inl rfl) (pe_lst (pa_cons (pe_ix (ix_listK (K := K) rfl) (pe_callB cr_sortedC (by rfl) B.sorted (by decide +kernel) (pa_cons (pe_callTy (call_list_keys rfl) (by rfl) B.list PyProof.Rows.boot_list (pa_cons (pe_keysV (pv 1)) pa_nil)) pa_nil)) pe_int (fun _ _ => rfl)) pa_nil)))
      (pss_cons (ps_while PassesOwn.never (pt_cmpR (op_neK (K := K) rfl h64) (pv 4) (pe_lst pa_nil) (nomark _))
      (pss_cons (ps_set (i := 2) scWHg.nd rfl (.inl rfl) (pe_ix (ix_listK (K := K) rfl) (pv 4) (pe_un un_neg pe_int) (fun _ _ => rfl)))
        (pss_cons (ps_set (i := 4) scWHg.nd rfl (.inl rfl) (pe_slice sl_list (pv 4) po_none (po_some (pe_un un_neg pe_int))))
        (pss_cons (ps_if (pt_cmp (pc_din hu (pv 2) (pv 3)))
        (pss_one ps_continue)
        pss_nil)
        (pss_cons (ps_dput hu (pv 3) (pv 2) pe_bl rfl)
        (pss_one (ps_set (i := 4) scWHg.nd rfl (.inl rfl) (pe_op op_cat (pv 4) (pe_lc (own := [("_law_other", 5)]) (g := gName 5) rfl scWHg.nd (pi_list (pe_df DB hr (by rfl) pass0 (pa_cons (pv 2) pa_nil))) (blkOk_by (N := whN) (sc := defScope lWHangs) (by decide +kernel)) (fun _ _ _ _ _ => pg_name (i := 5) scWHg.nd rfl (Or.inl rfl)) (fun _ _ _ _ _ => (pts_one (PW.pt (pw_and (pt_cmp (pc_din hu (pv 5) (pv 1))) (pw_and1 (pt_cmp (pc_dnotin hu (pv 5) (pv 3)))))))) (fun _ _ _ _ _ => (pv 5)))))))))))
      (pss_one (ps_ret (pe_cmpR op_eq (pe_callB call_len_dT (by rfl) B.len PySem.boot_len (pa_cons (pv 3) pa_nil)) (pe_callB call_len_dT (by rfl) B.len PySem.boot_len (pa_cons (pv 1) pa_nil)) (nomark _))))))))), ?_⟩
    obtain ⟨qs0, ea, pr0⟩ := ca
    have lqs0 : qs0.length = cs.length := Paired.length pr0
    refine ⟨_, rfl, a, rfl, ⟨_, SqL.of ea⟩, fun D hD => ?_⟩
    refine w_ofR (walk_list (K := K) (a := a) (xs := qs0.map V.ref)) (fun n G => Same H G ∧ ∃ rs : List Addr, G D = some (.lst (rs.map V.ref)) ∧ rs.length = n ∧ Paired (fun r c => ∃ q, G r = some (.tup [.ref q, .bl true]) ∧ At G q c) rs (cs.take n)) ⟨same_new hD, [], upd_same, rfl, .nil⟩ (fun n G _ p => SqL.of (p.1 _ _ ea)) ?_ ?_
    · rintro n x G G' hn ⟨sm, rs, gD, lrs, pr⟩ ⟨rfl, hx⟩
      rw [List.getElem?_map] at hx
      obtain ⟨q, hq, rfl⟩ := Option.map_eq_some_iff.mp hx
      obtain ⟨c, hc, ac⟩ := paired_get pr0 hq
      have hcl := (List.getElem?_eq_some_iff.mp hc).1
      refine ⟨rfl, yesT ⟨_, rfl, two_le, fun t ht => ?_⟩⟩
      have s1 := same_new (o := .tup [.ref q, .bl true]) ht
      have gD1 := s1 _ _ gD
      have tu := upd_tu (o' := .lst (rs.map V.ref ++ [V.ref t])) gD1 (by intro xs z; cases z)
      refine ⟨_, gD1, by rw [List.length_map, sizeLine_eq]; omega, same_put (sm.trans s1) hD, rs ++ [t], by rw [upd_same, List.map_append]; rfl, by rw [List.length_append, lrs]; rfl, ?_⟩
      rw [take_snoc hc]
      refine (paired_imp (fun r d h => ?_) pr).snoc ⟨q, tu _ _ upd_same, tu _ _ (s1 _ _ (sm _ _ ac))⟩
      obtain ⟨z, e1, e2⟩ := h
      exact ⟨z, tu _ _ (s1 _ _ e1), tu _ _ (s1 _ _ e2)⟩
    rintro G ⟨sm, rs, gD, lrs, pr⟩
    rw [List.length_map, lqs0, List.take_length] at pr
    refine ⟨D, rs, lotK cs, rfl, SqL.of gD, dict_true (D := D) pr, lotK_keys cs nd, fun ld hld => ?_⟩
    have s1 := same_new (o := .dT (lotK cs)) hld
    have sm1 := sm.trans s1
    have eld := upd_same (H := G) (a := ld) (o := .dT (lotK cs))
    generalize upd G ld (.dT (lotK cs)) = G1 at s1 sm1 eld
    refine ⟨_, rfl, fun e2 he2 => ?_⟩
    have s2 := same_new (o := .dT []) he2
    refine ⟨ld, e2, lotK cs, rfl, rfl, s2 _ _ eld, upd_same, _, rfl, ?_⟩
    have sm2 := sm1.trans s2
    have eld2 := s2 _ _ eld
    generalize upd G1 e2 (.dT []) = G2 at s2 sm2 eld2
    refine ite2 (fun h1 => ?_) (fun h1 => ?_)
    · have e : cs = [] := List.map_eq_nil_iff.mp (of_decide_eq_true h1)
      subst e
      exact k G2 sm2
    have ne : cs ≠ [] := fun z => h1 (decide_eq_true (by rw [z]; rfl))
    have eW : wHangs cs = hangsB cs := by
      unfold wHangs
      rw [decide_eq_false ne, Bool.false_or]
    rw [eW] at k
    intro sd hsd
    have s3 := same_new (o := .dT []) hsd
    have sm3 := sm2.trans s3
    have hsdH : H sd = none := sm2.free hsd
    have eld3 := s3 _ _ eld2
    have esd := upd_same (H := G2) (a := sd) (o := .dT [])
    have nls : ld ≠ sd := fun z => by rw [← z, eld2] at hsd; cases hsd
    generalize upd G2 sd (.dT []) = G3 at s3 sm3 eld3 esd
    refine ⟨_, rfl, ld, lotK cs, rfl, eld3, fun v hv => ?_⟩
    have s4 := same_new (o := KeysO v ld) hv
    refine ⟨v, ld, lotK cs, rfl, upd_same, s4 _ _ eld3, fun p bs hp keys => ?_⟩
    have s5 := same_new (o := .lst (bs.map V.ref)) hp
    have prk := keys_lot keys
    refine ⟨p, bs, cs, rfl, SqL.of upd_same, paired_imp (fun _ _ h => s5 _ _ h) prk, fun so qs' cs' prq pm asc hso => ?_⟩
    have s6 := same_new (o := .lst (qs'.map V.ref)) hso
    have s46 := (s4.trans s5).trans s6
    have eso := upd_same (H := upd (upd G3 v (KeysO v ld)) p (.lst (bs.map V.ref))) (a := so) (o := .lst (qs'.map V.ref))
    have prq := paired_imp (fun _ _ (h : At _ _ _) => s6 _ _ h) prq
    generalize upd (upd (upd G3 v (KeysO v ld)) p (.lst (bs.map V.ref))) so (.lst (qs'.map V.ref)) = G6 at s46 eso prq
    cases prq with
    | nil => exact absurd pm.length_eq (fun z => ne (List.length_eq_zero_iff.mp z.symm))
    | @cons q0 c0 qs'' cs'' a0 prt =>
      have a0 : At G6 q0 c0 := a0
      have c0m : c0 ∈ cs := pm.mem_iff.mp (List.mem_cons_self ..)
      refine ⟨_, _, _, _, rfl, rfl, SqL.of eso, at0, one_le, fun wa hwa => ?_⟩
      have s7 := same_new (o := .lst [.ref q0]) hwa
      have sm7 := (sm3.trans s46).trans s7
      refine ⟨fun m σ G => ∃ (v2 v5 : Option V) (wa : Addr) (F A : List Cell) (qs : List Addr), m = 5 * (cs.length - F.length) + A.length ∧ σ = [some (.ref a), some (.ref ld), v2, some (.ref sd), some (.ref wa), v5] ∧ Same H G ∧ G ld = some (.dT (lotK cs)) ∧ G sd = some (.dT (lotK F)) ∧ G wa = some (.lst (qs.map V.ref)) ∧ Paired (fun b x => At G b x) qs A ∧
        F.Nodup ∧ (∀ x ∈ F, Reach cs c0 x) ∧ (∀ x ∈ A, Reach cs c0 x) ∧ (c0 ∈ F ∨ c0 ∈ A) ∧ (∀ x ∈ F, ∀ y ∈ besideC x, y ∈ cs → y ∈ F ∨ y ∈ A) ∧ A.length ≤ 4 * F.length + 1, ⟨_, _, _, wa, [], [c0], [q0], rfl, rfl, sm7, (s46.trans s7) _ _ eld3, (s46.trans s7) _ _ esd, upd_same, .cons (s7 _ _ a0) .nil, .nil, by simp, fun x hx => by rw [List.mem_singleton.mp hx]; exact .refl, .inr (by simp), by simp, by simp⟩, ?_⟩
      rintro m σ G ⟨v2, v5, wa, F, A, qs, rfl, rfl, smG, eld, esd, ewa, prA, nF, rF, rA, c0in, cl, lA⟩
      have lF : F.length ≤ cs.length := len_le nF fun x hx => (rF x hx).mem c0m
      refine ⟨_, rfl, Nat.zero_le _, fun e8 he8 => ?_⟩
      have s8 := same_new (o := .lst []) he8
      refine ⟨.list (A.map cD), .list [], (CellsL.dp ⟨qs, s8 _ _ ewa, paired_imp (fun _ _ h => s8 _ _ h) prA⟩), .lst (SqL.of upd_same) .nil, lay_cells.shaped (by decide), (lay_list (n := 0) (ds := []) (by simp)).shaped (by decide), _, rfl, ?_⟩
      rw [eqv_nil]
      have smG8 := smG.trans s8
      have eld8 := s8 _ _ eld
      have esd8 := s8 _ _ esd
      have ewa8 := s8 _ _ ewa
      have prA8 := paired_imp (fun _ _ (h : At G _ _) => s8 _ _ h) prA
      generalize upd G e8 (.lst []) = G8 at smG8 eld8 esd8 ewa8 prA8
      by_cases hA : A = []
      · subst hA
        refine iteF ?_
        refine ⟨_, rfl, sd, _, rfl, esd8, _, rfl, ld, _, rfl, eld8, rfl, ?_⟩
        have hF : ∀ x, x ∈ F ↔ Reach cs c0 x := fun x => ⟨rF x, fun r => by
          induction r with
          | refl => exact c0in.resolve_right (by simp)
          | step _ hb hc ih => exact (cl _ ih _ hb hc).resolve_right (by simp)⟩
        have eq : decide ((V.int ((lotK F).length : Int)) = V.int ((lotK cs).length : Int)) = hangsB cs := hangsB_of (by
          rw [decide_eq_true_iff, lot_len, lot_len, V.int.injEq, ← hangs_len c0m nd nF hF]
          omega)
        show Q (.bl (decide _)) G8
        rw [eq]
        exact k G8 smG8
      · obtain ⟨A', c, eA⟩ := snoc_inv (xs := A) hA
        have neq : qs ≠ [] := fun z => by rw [z, eA] at prA8; have l := Paired.length prA8; simp at l
        obtain ⟨qs', qc, eq⟩ := snoc_inv neq
        subst eA eq
        obtain ⟨pa', ac⟩ := paired_unsnoc prA8
        have ac : At G8 qc c := ac
        rw [decide_eq_false hA]
        refine ⟨fun σ' G' => ∃ m', m' < 5 * (cs.length - F.length) + (A' ++ [c]).length ∧ _, fun _ _ h => h, ?_⟩
        have rc : Reach cs c0 c := rA c (by simp)
        have cin : c ∈ cs := rc.mem c0m
        have ewa9 : G8 wa = some (.lst (qs'.map V.ref ++ [V.ref qc])) := by rw [ewa8, List.map_append]; rfl
        refine ⟨_, rfl, _, rfl, _, _, _, _, rfl, rfl, SqL.of ewa9, atI_last _ _, ?_⟩
        refine ⟨_, rfl, _, rfl, (-1 : Int), rfl, wa, _, rfl, SqL.of ewa9, fun w9 hw9 => ?_⟩
        rw [cut_lastW, show (qs'.map V.ref ++ [V.ref qc]).take ((qs'.map V.ref ++ [V.ref qc]).length - 1) = qs'.map V.ref from by simp]
        have s9 := same_new (o := .lst (qs'.map V.ref)) hw9
        have smG9 := smG8.trans s9
        have eld9 := s9 _ _ eld8
        have esd9 := s9 _ _ esd8
        have ew9 := upd_same (H := G8) (a := w9) (o := .lst (qs'.map V.ref))
        have pa9 := paired_imp (fun _ _ (h : At G8 _ _) => s9 _ _ h) pa'
        have ac9 := s9 _ _ ac
        generalize upd G8 w9 (.lst (qs'.map V.ref)) = G9 at smG9 eld9 esd9 ew9 pa9 ac9
        refine ⟨_, rfl, _, rfl, sd, _, rfl, dget_lot esd9 ac9, _, rfl, ?_⟩
        rw [lot_is]
        refine ite2 (fun hc => ?_) (fun hc => ?_)
        · have cF : c ∈ F := of_decide_eq_true hc
          refine ⟨5 * (cs.length - F.length) + A'.length, by rw [List.length_append]; simp, _, v5, w9, F, A', qs', rfl, rfl, smG9, eld9, esd9, ew9, pa9, nF, rF, fun x hx => rA x (List.mem_append_left _ hx), ?_, fun x hx y hy hyc => ?_, by rw [List.length_append] at lA; omega⟩
          · rcases c0in with h | h
            · exact .inl h
            · rcases List.mem_append.mp h with h | h
              · exact .inr h
              · exact .inl (List.mem_singleton.mp h ▸ cF)
          · rcases cl x hx y hy hyc with h | h
            · exact .inl h
            · rcases List.mem_append.mp h with h | h
              · exact .inr h
              · exact .inl (List.mem_singleton.mp h ▸ cF)
        · have cF : c ∉ F := by simpa using hc
          have lF2 : F.length + 1 ≤ cs.length := len_le (xs := c :: F) (List.nodup_cons.mpr ⟨cF, nF⟩) fun x hx => (List.mem_cons.mp hx).elim (fun e => e ▸ cin) (fun h => (rF x h).mem c0m)
          refine ⟨_, rfl, _, rfl, sd, _, rfl, dput_lot esd9 ac9 cF (by rw [sizeLine_eq]; omega), ?_⟩
          have off : ∀ {b : Addr} {x : Cell}, At G9 b x → At (upd G9 sd (.dT (lotK (F ++ [c])))) b x := fun h => h.off esd9 (by intro xs z; cases z)
          have smX : Same H (upd G9 sd (.dT (lotK (F ++ [c])))) := same_put smG9 hsdH
          have eldX : upd G9 sd (.dT (lotK (F ++ [c]))) ld = some (.dT (lotK cs)) := by rw [upd_ne nls]; exact eld9
          have ewX : upd G9 sd (.dT (lotK (F ++ [c]))) w9 = some (.lst (qs'.map V.ref)) := by rw [upd_ne (fun z => by rw [z, esd9] at ew9; cases ew9)]; exact ew9
          have paX := paired_imp (fun _ _ (h : At G9 _ _) => off h) pa9
          have acX := off ac9
          have esX := upd_same (H := G9) (a := sd) (o := .dT (lotK (F ++ [c])))
          generalize upd G9 sd (.dT (lotK (F ++ [c]))) = GX at smX eldX ewX paX acX esX
          refine ⟨_, rfl, _, rfl, qc, c, rfl, acX, fun l GY sY hl ⟨ns, el, pn⟩ => ?_⟩
          refine ⟨l, rfl, ⟨_, SqL.of el⟩, fun DZ hDZ => ?_⟩
          refine lc_cells (walk_list (K := K) (a := l) (xs := ns.map V.ref)) hDZ (fun i => ((besideC c).take i).filter fun y => decide (y ∈ cs) && !decide (y ∈ F ++ [c])) rfl (by rw [List.length_map, Paired.length pn]; show 4 ≤ 1000000; decide) (fun i G _ s => SqL.of (s _ _ el)) ?_ ?_
          · rintro i x G10 G10' K1 K0 hi s10 ⟨rfl, hx⟩ k1 k0
            rw [List.getElem?_map] at hx
            obtain ⟨b, hb, rfl⟩ := Option.map_eq_some_iff.mp hx
            obtain ⟨y, hy, ay⟩ := paired_get pn hb
            have ay1 : At G10' b y := s10 _ _ ay
            have st : ((besideC c).take (i + 1)).filter (fun y => decide (y ∈ cs) && !decide (y ∈ F ++ [c])) = ((besideC c).take i).filter (fun y => decide (y ∈ cs) && !decide (y ∈ F ++ [c])) ++ if (decide (y ∈ cs) && !decide (y ∈ F ++ [c])) = true then [y] else [] := by
              rw [take_snoc hy, List.filter_append, List.filter_cons, List.filter_nil]
            refine ⟨rfl, _, rfl, _, rfl, ld, _, rfl, dget_lot (s10 _ _ (sY _ _ eldX)) ay1, _, rfl, ?_⟩
            rw [lot_is]
            refine ite2 (fun hy1 => ?_) (fun hy1 => ?_)
            · refine ⟨_, rfl, _, rfl, sd, _, rfl, dget_lot (s10 _ _ (sY _ _ esX)) ay1, _, rfl, ?_⟩
              rw [lot_is]
              refine ite2 (fun hy2 => ?_) (fun hy2 => ?_)
              · exact ⟨_, rfl, k1 b y _ same_refl ay1 (by rw [st, if_pos (by rw [hy1, hy2]; rfl)])⟩
              · exact k0 _ same_refl (by rw [st, if_neg (by rw [hy1]; simpa using hy2), List.append_nil])
            · exact k0 _ same_refl (by rw [st, if_neg (by simp at hy1; simp [hy1]), List.append_nil])
          rintro G11 bs2 s11 gDZ prZ
          rw [List.length_map, Paired.length pn, show (besideC c).take (besideC c).length = besideC c from List.take_length] at prZ
          have sX11 := sY.trans s11
          have lZ : ((besideC c).filter fun y => decide (y ∈ cs) && !decide (y ∈ F ++ [c])).length ≤ 4 := List.length_filter_le _ (besideC c)
          have lbs2 : bs2.length ≤ 4 := by rw [Paired.length prZ]; exact lZ
          have lqs' : qs'.length = A'.length := Paired.length paX
          rw [List.length_append, List.length_singleton] at lA
          refine ⟨w9, DZ, _, _, rfl, rfl, sX11 _ _ ewX, gDZ, by rw [List.length_map, List.length_map, sizeLine_eq]; omega, fun w12 hw12 => ?_⟩
          have s12 := same_new (o := .lst (qs'.map V.ref ++ bs2.map V.ref)) hw12
          have sX12 := sX11.trans s12
          refine ⟨5 * (cs.length - (F ++ [c]).length) + (A' ++ ((besideC c).filter fun y => decide (y ∈ cs) && !decide (y ∈ F ++ [c]))).length, ?_, _, v5, w12, F ++ [c], A' ++ (besideC c).filter (fun y => decide (y ∈ cs) && !decide (y ∈ F ++ [c])), qs' ++ bs2, rfl, rfl, smX.trans sX12, sX12 _ _ eldX, sX12 _ _ esX, by rw [upd_same, List.map_append], paired_app (paired_imp (fun _ _ h => sX12 _ _ h) paX) (paired_imp (fun _ _ h => s12 _ _ h) prZ), ?_, ?_, ?_, ?_, ?_, ?_⟩
          · rw [List.length_append, List.length_append, List.length_append]
            simp only [List.length_singleton]
            omega
          · exact List.nodup_append.mpr ⟨nF, by simp, fun a ha b hb => by rw [List.mem_singleton.mp hb]; exact fun z => cF (z ▸ ha)⟩
          · intro x hx
            rcases List.mem_append.mp hx with h | h
            · exact rF x h
            · exact List.mem_singleton.mp h ▸ rc
          · intro x hx
            rcases List.mem_append.mp hx with h | h
            · exact rA x (List.mem_append_left _ h)
            · obtain ⟨h1, h2⟩ := List.mem_filter.mp h
              have h3 : x ∈ cs := by simp at h2; exact h2.1
              exact rc.step h1 h3
          · rcases c0in with h | h
            · exact .inl (List.mem_append_left _ h)
            · rcases List.mem_append.mp h with h | h
              · exact .inr (List.mem_append_left _ h)
              · exact .inl (List.mem_append_right _ h)
          · intro x hx y hy hyc
            by_cases yF : y ∈ F ++ [c]
            · exact .inl yF
            · rcases List.mem_append.mp hx with h | h
              · rcases cl x h y hy hyc with h | h
                · exact absurd (List.mem_append_left _ h) yF
                · rcases List.mem_append.mp h with h | h
                  · exact .inr (List.mem_append_left _ h)
                  · exact absurd (List.mem_append_right _ h) yF
              · obtain rfl := List.mem_singleton.mp h
                exact .inr (List.mem_append_right _ (List.mem_filter.mpr ⟨hy, by rw [decide_eq_true hyc, decide_eq_false yF]; rfl⟩))
          · rw [List.length_append, List.length_append, List.length_singleton]
            omega
end
end Sq

set_option Elab.async false
set_option linter.all false
set_option maxRecDepth 100000
set_option maxHeartbeats 8000000
/-! The law's may (the w-family). -/
namespace Sq
open PySem PySem.Spec PyProof.Rows L2
noncomputable def mayW (L : List Cell) (s e : Cell) : Bool := !decide (kindV L s e = .non)
theorem fm_two {c d : CellP} {f : CellP → Bool} : (([c, d] : List CellP).filterMap (fun c => if f c = true then some c.1 else none) = []) ↔ (f c || f d) = false := by
  cases h1 : f c <;> cases h2 : f d <;> simp [List.filterMap_cons, h1, h2]
def spWMay : Sp := fun vs H Q _ => ∃ (t p q : Addr) (L : List Cell) (s e : Cell), vs = [.ref t, .ref p, .ref q] ∧ CellsT H t L ∧ L.Nodup ∧ L.length ≤ 1000 ∧ At H p s ∧ At H q e ∧ ∀ H', Same H H' → Q (.bl (mayW L s e)) H'
abbrev wyN : List Str := ["_law_cells", "_law_start", "_law_end", "_law_inside", "_law_cell", "_law_across", "_law_up", "_law_pairs", "_law_good", "_law_one", "_law_two"]
theorem place_rest {L : List Cell} {s e : Cell} (h : byPlace L s e ≠ .non) : without L s ≠ [] := fun z => by
  have all : ∀ x ∈ L, x = s := fun x hx => Classical.byContradiction fun n => by
    have := mem_without.mpr ⟨hx, n⟩
    rw [z] at this
    cases this
  have side : ∀ d : Cell, sideB L s e d = true → d.1 = 0 ∧ d.2 = 0 := fun d hd => by
    unfold sideB at hd
    rw [Bool.and_eq_true, decide_eq_true_iff, decide_eq_true_iff] at hd
    have := all _ hd.1
    obtain ⟨a, b⟩ := Prod.mk.inj this
    omega
  unfold byPlace at h
  split at h
  · exact h rfl
  · split at h
    · rename_i _ h1
      split at h
      · rename_i hs
        unfold slidesB at hs
        rw [Bool.or_eq_true] at hs
        have k : e.1 - s.1 = 0 ∧ e.2 - s.2 = 0 := by
          rcases hs with hs | hs
          · have := side _ hs
            exact ⟨this.2, this.1⟩
          · have := side _ hs
            dsimp only at this
            omega
        unfold absI at h1
        rw [k.1, k.2] at h1
        simp at h1
      · exact h rfl
    · split at h
      · rename_i _ h1
        split at h
        · rename_i ht
          unfold turnsB at ht
          have k : (s.1, e.2) ∈ L ∨ (e.1, s.2) ∈ L := by
            by_cases a : (s.1, e.2) ∈ L
            · exact .inl a
            · by_cases b : (e.1, s.2) ∈ L
              · exact .inr b
              · rw [decide_eq_false a, decide_eq_false b] at ht
                cases ht
          unfold absI at h1
          rcases k with k | k
          · have := congrArg Prod.snd (all _ k)
            dsimp only at this
            rw [this] at h1
            simp at h1
          · have := congrArg Prod.fst (all _ k)
            dsimp only at this
            rw [this] at h1
            simp at h1
        · exact h rfl
      · exact h rfl
theorem may_place {L : List Cell} {s e : Cell} : mayW L s e = (!decide (byPlace L s e = .non) && hangsB (without L s)) := by
  unfold mayW kindV
  by_cases h : byPlace L s e = .non
  · rw [if_pos (.inl h), decide_eq_true h]
    rfl
  · cases hh : hangsB (without L s) with
    | false =>
      rw [if_pos (.inr rfl)]
      simp
    | true =>
      rw [if_neg (fun z => z.elim h fun z => by cases z), decide_eq_false h]
      rfl
section
variable {P : Program} {w : World} {K : PySem.W.Frag} {mg : Str → Option Value} {base : Heap} {Ts : List Addr}
theorem scWY : FnScope wyN ["_law_cells", "_law_start", "_law_end"] (defScope lWMay) := ⟨rfl, rfl, rfl, by decide +kernel, rfl, by decide +kernel, by decide +kernel⟩
theorem may_tail {f : Addr} {cdv : Value} {A : Around} {outer : List Env} {s : Shared} {H0 : Hp} {E : XK} (hr : Room 2 (cxOf CX0 P w K mg base wyN "_law_w_may" (defScope lWMay) f cdv A outer s H0 E).nox.A) (DH : Df P w K mg base CX0 2 "_law_w_hangs" ["_law_cells"] spWHangs) :
    ∃ t, PSs (cxOf CX0 P w K mg base wyN "_law_w_may" (defScope lWMay) f cdv A outer s H0 E).nox ((defBody lWMay).drop 4) t ∧
      ∀ (D : Ends) (G : Hp) (v2 v3 v4 v5 v6 v7 v9 v10 : Option V) (t0 p : Addr) (L : List Cell) (a b : Cell), CellsT G t0 L → L.Nodup → L.length ≤ 1000 → At G p a → (∀ G', Same G G' → D.rt (.bl (mayW L a b)) G') →
        t D [some (.ref t0), some (.ref p), v2, v3, v4, v5, v6, v7, some (.bl (!decide (byPlace L a b = .non))), v9, v10] G := by
  have h64 := room64 hr
  refine ⟨_, (pss_one (ps_ret (pe_and (pv 8) (pe_one (pe_df DH hr (by rfl) pass0 (pa_cons (pe_lc (own := [("_law_cell", 4)]) (g := gName 4) rfl scWY.nd (pi_tup (pv 0)) (blkOk_by (N := wyN) (sc := defScope lWMay) (by decide +kernel)) (fun _ _ _ _ _ => pg_name (i := 4) scWY.nd rfl (Or.inl rfl)) (fun _ _ _ _ _ => (pts_one (pt_cmpR (op_neK (K := K) rfl h64) (pv 4) (pv 1) (nomark _)))) (fun _ _ _ _ _ => (pv 4))) pa_nil)))))), ?_⟩
  intro D G v2 v3 v4 v5 v6 v7 v9 v10 t0 p L a b ⟨qs, et, pr⟩ nL lL ap k
  refine ⟨_, rfl, _, rfl, ?_⟩
  rw [may_place] at k
  by_cases h : byPlace L a b = .non
  · rw [decide_eq_true h]
    refine iteF ?_
    have := k G same_refl
    rw [decide_eq_true h] at this
    exact this
  · rw [decide_eq_false h]
    refine iteT ?_
    refine ⟨_, rfl, t0, rfl, ⟨_, SqT.of et⟩, fun D0 hD => ?_⟩
    refine lc_cells (walk_tup (K := K) (a := t0) (xs := qs.map V.ref)) hD (fun i => without (L.take i) a) rfl (by rw [List.length_map, Paired.length pr]; omega) (fun i G _ sm => SqT.of (sm _ _ et)) ?_ ?_
    · rintro i x G G' K1 K0 hi sm ⟨rfl, hx⟩ k1 k0
      rw [List.getElem?_map] at hx
      obtain ⟨b, hb, rfl⟩ := Option.map_eq_some_iff.mp hx
      obtain ⟨e, he, ae⟩ := paired_get pr hb
      have ae' : At G' b e := sm _ _ ae
      have ap' : At G' p a := sm _ _ ap
      have st : without (L.take (i + 1)) a = if e = a then without (L.take i) a else without (L.take i) a ++ [e] := by rw [take_snoc he, without_snoc]
      refine ⟨rfl, _, rfl, _, rfl, cD e, cD a, ae'.dp, ap'.dp, cD_shaped e, cD_shaped a, _, rfl, ?_⟩
      rw [cD_eqv]
      refine ite2 (fun hc => ?_) (fun hc => ?_)
      · have ne : e ≠ a := by simpa using hc
        rw [if_neg ne] at st
        exact ⟨_, rfl, k1 b e _ same_refl ae' st⟩
      · have ec : e = a := by simpa using hc
        rw [if_pos ec] at st
        exact k0 _ same_refl st
    · rintro G1 rs sm gD pr2
      have e : L.take (qs.map V.ref).length = L := by rw [List.length_map, Paired.length pr, List.take_length]
      rw [e] at pr2
      have lw : (without L a).length ≤ 1000 := Nat.le_trans (List.length_filter_le _ _) lL
      refine ⟨D0, without L a, rfl, ⟨rs, gD, pr2⟩, nL.filter _, lw, fun G2 s2 => ?_⟩
      have ne := place_rest h
      have eW : wHangs (without L a) = hangsB (without L a) := by
        unfold wHangs
        rw [decide_eq_false ne, Bool.false_or]
      rw [eW]
      have := k G2 (sm.trans s2)
      rw [decide_eq_false h] at this
      exact this
theorem ok_wMay {f : Addr} {fd : FuncData} (F : FnP K "_law_w_may" lWMay f fd) (B : Bl mg) (gD : mg "dict" = none) (DH : Df P w K mg base CX0 2 "_law_w_hangs" ["_law_cells"] spWHangs) : FnOk P w K mg base CX0 3 f fd ["_law_cells", "_law_start", "_law_end"] spWMay := by
  refine F.ok scWY (fun vs H Q E h => ?_) (fun cdv A outer s H vs Q E hr h => ?_)
  · obtain ⟨t, p, q, L, a, b, rfl, _⟩ := h
    rfl
  · obtain ⟨t, p, q, L, a, b, rfl, ct, nL, lL, ap, aq, k⟩ := h
    have hu := hu_of hr
    have h64 := room64 hr
    obtain ⟨t2, ht2, key2⟩ := may_tail (P := P) (w := w) (K := K) (mg := mg) (base := base) (f := f) (cdv := cdv) (A := A) (outer := outer) (s := s) (H0 := H) (E := E) hr DH
    refine ⟨_, PSs.nox (pss_cons (ps_set (i := 3) scWY.nd rfl (.inr rfl) (pe_callTy (call_dictT rfl h64) (by rfl) gD (by decide +kernel) (pa_cons (pe_lc (own := [("_law_cell", 4)]) (g := gName 4) (tt := tYes) rfl scWY.nd (pi_tup (pv 0)) (blkOk_by (N := wyN) (sc := defScope lWMay) (by decide +kernel)) (fun _ _ _ _ _ => pg_name (i := 4) scWY.nd rfl (Or.inl rfl)) (fun _ _ _ _ _ => pts_nil) (fun _ _ _ _ _ => (pe_tup (pa_cons (pv 4) (pa_cons pe_bl pa_nil))))) pa_nil)))
      (pss_cons (ps_if (PW.pt (pw_or (pt_cmp (pc_dnotin hu (pv 1) (pv 3))) (pw_or1 (pt_cmp (pc_din hu (pv 2) (pv 3))))))
      (pss_one (ps_ret pe_bl))
      pss_nil)
      (pss_cons (ps_par (i := 5) (j := 6) (by rfl) scWY.nd rfl rfl (by decide) rfl rfl (pa_cons (pe_op op_sub (pe_ix (ix_tupK (K := K) rfl) (pv 2) pe_int (fun _ _ => rfl)) (pe_ix (ix_tupK (K := K) rfl) (pv 1) pe_int (fun _ _ => rfl))) (pa_cons (pe_op op_sub (pe_ix (ix_tupK (K := K) rfl) (pv 2) pe_int (fun _ _ => rfl)) (pe_ix (ix_tupK (K := K) rfl) (pv 1) pe_int (fun _ _ => rfl))) pa_nil)) (by rfl))
      (pss_cons (ps_if (pt_cmpR op_eq (pe_op op_add (pe_callB call_abs (by rfl) B.abs (by decide +kernel) (pa_cons (pv 5) pa_nil)) (pe_callB call_abs (by rfl) B.abs (by decide +kernel) (pa_cons (pv 6) pa_nil))) pe_int (nomark _))
      (pss_cons (ps_set (i := 7) scWY.nd rfl (.inl rfl) (pe_lst (pa_cons (pe_tup (pa_cons (pe_tup (pa_cons (pe_op op_add (pe_ix (ix_tupK (K := K) rfl) (pv 1) pe_int (fun _ _ => rfl)) (pv 6)) (pa_cons (pe_op op_add (pe_ix (ix_tupK (K := K) rfl) (pv 1) pe_int (fun _ _ => rfl)) (pv 5)) pa_nil))) (pa_cons (pe_tup (pa_cons (pe_op op_add (pe_ix (ix_tupK (K := K) rfl) (pv 2) pe_int (fun _ _ => rfl)) (pv 6)) (pa_cons (pe_op op_add (pe_ix (ix_tupK (K := K) rfl) (pv 2) pe_int (fun _ _ => rfl)) (pv 5)) pa_nil))) pa_nil))) pa_nil)))
        (pss_cons (ps_expr (pe_bm PySem.F.plainAttrs_list PySem.F.slot_list_append PySem.F.type_list_append mt_append (pv 7) (pa_cons (pe_tup (pa_cons (pe_tup (pa_cons (pe_op op_sub (pe_ix (ix_tupK (K := K) rfl) (pv 1) pe_int (fun _ _ => rfl)) (pv 6)) (pa_cons (pe_op op_sub (pe_ix (ix_tupK (K := K) rfl) (pv 1) pe_int (fun _ _ => rfl)) (pv 5)) pa_nil))) (pa_cons (pe_tup (pa_cons (pe_op op_sub (pe_ix (ix_tupK (K := K) rfl) (pv 2) pe_int (fun _ _ => rfl)) (pv 6)) (pa_cons (pe_op op_sub (pe_ix (ix_tupK (K := K) rfl) (pv 2) pe_int (fun _ _ => rfl)) (pv 5)) pa_nil))) pa_nil))) pa_nil)))
        (pss_one (ps_set (i := 8) scWY.nd rfl (.inl rfl) (pe_cmpR (op_neK (K := K) rfl h64) (pe_lc (own := [("_law_one", 9), ("_law_two", 10)]) (g := gTup K 2 (gCons (gName 9) (gCons (gName 10) gNil))) rfl scWY.nd (pi_list (pv 7)) (blkOk_by (N := wyN) (sc := defScope lWMay) (by decide +kernel)) (fun _ _ _ _ _ => (pg_tup (by rfl) (pgs_cons (pg_name (i := 9) scWY.nd rfl (.inl rfl)) (pgs_cons (pg_name (i := 10) scWY.nd rfl (.inl rfl)) pgs_nil)))) (fun _ _ _ _ _ => (pts_one (PW.pt (pw_and (pt_cmp (pc_din hu (pv 9) (pv 3))) (pw_and1 (pt_cmp (pc_din hu (pv 10) (pv 3)))))))) (fun _ _ _ _ _ => (pv 9))) (pe_lst pa_nil) (nomark _))))))
      (pss_one (ps_if (PW.pt (pw_and (pt_cmpR op_eq (pe_callB call_abs (by rfl) B.abs (by decide +kernel) (pa_cons (pv 5) pa_nil)) pe_int (nomark _)) (pw_and1 (pt_cmpR op_eq (pe_callB call_abs (by rfl) B.abs (by decide +kernel) (pa_cons (pv 6) pa_nil)) pe_int (nomark _)))))
        (pss_cons (ps_par (i := 9) (j := 10) (by rfl) scWY.nd rfl rfl (by decide) rfl rfl (pa_cons (pe_tup (pa_cons (pe_op op_add (pe_ix (ix_tupK (K := K) rfl) (pv 1) pe_int (fun _ _ => rfl)) (pv 5)) (pa_cons (pe_ix (ix_tupK (K := K) rfl) (pv 1) pe_int (fun _ _ => rfl)) pa_nil))) (pa_cons (pe_tup (pa_cons (pe_ix (ix_tupK (K := K) rfl) (pv 1) pe_int (fun _ _ => rfl)) (pa_cons (pe_op op_add (pe_ix (ix_tupK (K := K) rfl) (pv 1) pe_int (fun _ _ => rfl)) (pv 6)) pa_nil))) pa_nil)) (by rfl))
          (pss_one (ps_set (i := 8) scWY.nd rfl (.inl rfl) (pe_cmpR op_ne (pe_cmp (pc_din hu (pv 9) (pv 3)) rfl) (pe_cmp (pc_din hu (pv 10) (pv 3)) rfl) (nomark _)))))
        (pss_one (ps_set (i := 8) scWY.nd rfl (.inl rfl) pe_bl)))))
      ht2)))), ?_⟩
    obtain ⟨qs0, ea, pr0⟩ := id ct
    have lqs0 : qs0.length = L.length := Paired.length pr0
    refine ⟨_, rfl, t, rfl, ⟨_, SqT.of ea⟩, fun D hD => ?_⟩
    refine w_ofR (walk_tup (K := K) (a := t) (xs := qs0.map V.ref)) (fun n G => Same H G ∧ ∃ rs : List Addr, G D = some (.lst (rs.map V.ref)) ∧ rs.length = n ∧ Paired (fun r c => ∃ q, G r = some (.tup [.ref q, .bl true]) ∧ At G q c) rs (L.take n)) ⟨same_new hD, [], upd_same, rfl, .nil⟩ (fun n G _ p => SqT.of (p.1 _ _ ea)) ?_ ?_
    · rintro n x G G' hn ⟨sm, rs, gD, lrs, pr⟩ ⟨rfl, hx⟩
      rw [List.getElem?_map] at hx
      obtain ⟨q, hq, rfl⟩ := Option.map_eq_some_iff.mp hx
      obtain ⟨c, hc, ac⟩ := paired_get pr0 hq
      have hcl := (List.getElem?_eq_some_iff.mp hc).1
      refine ⟨rfl, yesT ⟨_, rfl, two_le, fun t ht => ?_⟩⟩
      have s1 := same_new (o := .tup [.ref q, .bl true]) ht
      have gD1 := s1 _ _ gD
      have tu := upd_tu (o' := .lst (rs.map V.ref ++ [V.ref t])) gD1 (by intro xs z; cases z)
      refine ⟨_, gD1, by rw [List.length_map, sizeLine_eq]; omega, same_put (sm.trans s1) hD, rs ++ [t], by rw [upd_same, List.map_append]; rfl, by rw [List.length_append, lrs]; rfl, ?_⟩
      rw [take_snoc hc]
      refine (paired_imp (fun r d h => ?_) pr).snoc ⟨q, tu _ _ upd_same, tu _ _ (s1 _ _ (sm _ _ ac))⟩
      obtain ⟨z, e1, e2⟩ := h
      exact ⟨z, tu _ _ (s1 _ _ e1), tu _ _ (s1 _ _ e2)⟩
    rintro G ⟨sm, rs, gD, lrs, pr⟩
    rw [List.length_map, lqs0, List.take_length] at pr
    refine ⟨D, rs, lotK L, rfl, SqL.of gD, dict_true (D := D) pr, lotK_keys L nL, fun ld hld => ?_⟩
    have s1 := same_new (o := .dT (lotK L)) hld
    have sm1 := sm.trans s1
    have eld := upd_same (H := G) (a := ld) (o := .dT (lotK L))
    generalize upd G ld (.dT (lotK L)) = G1 at s1 sm1 eld
    have ap1 : At G1 p a := sm1 _ _ ap
    have aq1 : At G1 q b := sm1 _ _ aq
    have no : ∀ {G' : Hp}, Same G1 G' → byPlace L a b = .non → Q (.bl false) G' := fun s h => by
      have := k _ (sm1.trans s)
      rw [may_place, decide_eq_true h] at this
      exact this
    refine ⟨_, rfl, _, rfl, ld, _, rfl, dget_lot eld ap1, _, rfl, ?_⟩
    rw [lot_is]
    refine ite2 (fun hc => ?_) (fun hc => ?_)
    · have hc : decide (a ∈ L) = false := by simpa using hc
      exact no same_refl (by unfold byPlace; rw [if_pos (.inl hc)])
    have hc : decide (a ∈ L) = true := by simpa using hc
    refine ⟨_, rfl, _, rfl, ld, _, rfl, dget_lot eld aq1, _, rfl, ?_⟩
    rw [lot_is]
    refine ite2 (fun hc2 => ?_) (fun hc2 => ?_)
    · exact no same_refl (by unfold byPlace; rw [if_pos (.inr hc2)])
    have hno : ¬ (decide (a ∈ L) = false ∨ decide (b ∈ L) = true) := fun z => z.elim (fun y => by rw [hc] at y; cases y) hc2
    refine ⟨_, rfl, _, _, _, _, rfl, rfl, SqT.of aq1, at0, _, rfl, _, _, _, _, rfl, rfl, SqT.of ap1, at0, _, _, rfl, rfl, _, rfl, _, _, _, _, rfl, rfl, SqT.of aq1, at1, _, rfl, _, _, _, _, rfl, rfl, SqT.of ap1, at1, _, _, rfl, rfl, _, _, rfl, ?_⟩
    refine ⟨_, rfl, _, rfl, _, rfl, _, rfl, _, _, rfl, rfl, rfl, _, rfl, ?_⟩
    refine ite2 (fun h1 => ?_) (fun h1 => ?_)
    · have h1 : absI (b.1 - a.1) + absI (b.2 - a.2) = 1 := V.int.inj (of_decide_eq_true h1)
      have eB : byPlace L a b = if slidesB L a b = true then .str "slide" else .non := by
        unfold byPlace
        rw [if_neg hno, if_pos h1]
      -- the pairs
      refine ⟨_, rfl, _, _, _, _, rfl, rfl, SqT.of ap1, at0, _, rfl, _, _, rfl, rfl, _, rfl, _, _, _, _, rfl, rfl, SqT.of ap1, at1, _, rfl, _, _, rfl, rfl, two_le, fun t1 ht1 => ?_⟩
      have u1 := same_new (o := .tup [.int (a.1 + (b.2 - a.2)), .int (a.2 + (b.1 - a.1))]) ht1
      have aq2 := aq1.same u1
      refine ⟨_, rfl, _, _, _, _, rfl, rfl, SqT.of aq2, at0, _, rfl, _, _, rfl, rfl, _, rfl, _, _, _, _, rfl, rfl, SqT.of aq2, at1, _, rfl, _, _, rfl, rfl, two_le, fun t2' ht2' => ?_⟩
      have u2 := same_new (o := .tup [.int (b.1 + (b.2 - a.2)), .int (b.2 + (b.1 - a.1))]) ht2'
      refine ⟨two_le, fun t3 ht3 => ⟨one_le, fun pl hpl => ?_⟩⟩
      have u3 := same_new (o := .tup [.ref t1, .ref t2']) ht3
      have u4 := same_new (o := .lst [.ref t3]) hpl
      have u14 := (u1.trans u2).trans (u3.trans u4)
      have at1' : At (upd (upd (upd (upd G1 t1 (.tup [.int (a.1 + (b.2 - a.2)), .int (a.2 + (b.1 - a.1))])) t2' (.tup [.int (b.1 + (b.2 - a.2)), .int (b.2 + (b.1 - a.1))])) t3 (.tup [.ref t1, .ref t2'])) pl (.lst [.ref t3])) t1 (a.1 + (b.2 - a.2), a.2 + (b.1 - a.1)) := u4 _ _ (u3 _ _ (u2 _ _ upd_same))
      have at2' : At (upd (upd (upd (upd G1 t1 (.tup [.int (a.1 + (b.2 - a.2)), .int (a.2 + (b.1 - a.1))])) t2' (.tup [.int (b.1 + (b.2 - a.2)), .int (b.2 + (b.1 - a.1))])) t3 (.tup [.ref t1, .ref t2'])) pl (.lst [.ref t3])) t2' (b.1 + (b.2 - a.2), b.2 + (b.1 - a.1)) := u4 _ _ (u3 _ _ upd_same)
      have et3 := u4 _ _ (upd_same (H := upd (upd G1 t1 (.tup [.int (a.1 + (b.2 - a.2)), .int (a.2 + (b.1 - a.1))])) t2' (.tup [.int (b.1 + (b.2 - a.2)), .int (b.2 + (b.1 - a.1))])) (a := t3) (o := .tup [.ref t1, .ref t2']))
      have epl := upd_same (H := upd (upd (upd G1 t1 (.tup [.int (a.1 + (b.2 - a.2)), .int (a.2 + (b.1 - a.1))])) t2' (.tup [.int (b.1 + (b.2 - a.2)), .int (b.2 + (b.1 - a.1))])) t3 (.tup [.ref t1, .ref t2'])) (a := pl) (o := .lst [.ref t3])
      have hplG : G1 pl = none := (u1.trans (u2.trans u3)).free hpl
      generalize upd (upd (upd (upd G1 t1 (.tup [.int (a.1 + (b.2 - a.2)), .int (a.2 + (b.1 - a.1))])) t2' (.tup [.int (b.1 + (b.2 - a.2)), .int (b.2 + (b.1 - a.1))])) t3 (.tup [.ref t1, .ref t2'])) pl (.lst [.ref t3]) = G2 at u14 at1' at2' et3 epl
      have ap2 := ap1.same u14
      have aq2 := aq1.same u14
      refine ⟨_, rfl, .inl ⟨rfl, _, SqL.of epl⟩, ?_⟩
      refine ⟨_, rfl, _, _, _, _, rfl, rfl, SqT.of ap2, at0, _, rfl, _, _, rfl, rfl, _, rfl, _, _, _, _, rfl, rfl, SqT.of ap2, at1, _, rfl, _, _, rfl, rfl, two_le, fun t5 ht5 => ?_⟩
      have u5 := same_new (o := .tup [.int (a.1 - (b.2 - a.2)), .int (a.2 - (b.1 - a.1))]) ht5
      have aq3 := aq2.same u5
      refine ⟨_, rfl, _, _, _, _, rfl, rfl, SqT.of aq3, at0, _, rfl, _, _, rfl, rfl, _, rfl, _, _, _, _, rfl, rfl, SqT.of aq3, at1, _, rfl, _, _, rfl, rfl, two_le, fun t6 ht6 => ?_⟩
      have u6 := same_new (o := .tup [.int (b.1 - (b.2 - a.2)), .int (b.2 - (b.1 - a.1))]) ht6
      refine ⟨two_le, fun t7 ht7 => ?_⟩
      have u7 := same_new (o := .tup [.ref t5, .ref t6]) ht7
      have u57 := (u5.trans u6).trans u7
      have at5' : At (upd (upd (upd G2 t5 (.tup [.int (a.1 - (b.2 - a.2)), .int (a.2 - (b.1 - a.1))])) t6 (.tup [.int (b.1 - (b.2 - a.2)), .int (b.2 - (b.1 - a.1))])) t7 (.tup [.ref t5, .ref t6])) t5 (a.1 - (b.2 - a.2), a.2 - (b.1 - a.1)) := u7 _ _ (u6 _ _ upd_same)
      have at6' : At (upd (upd (upd G2 t5 (.tup [.int (a.1 - (b.2 - a.2)), .int (a.2 - (b.1 - a.1))])) t6 (.tup [.int (b.1 - (b.2 - a.2)), .int (b.2 - (b.1 - a.1))])) t7 (.tup [.ref t5, .ref t6])) t6 (b.1 - (b.2 - a.2), b.2 - (b.1 - a.1)) := u7 _ _ upd_same
      have et7 := upd_same (H := upd (upd G2 t5 (.tup [.int (a.1 - (b.2 - a.2)), .int (a.2 - (b.1 - a.1))])) t6 (.tup [.int (b.1 - (b.2 - a.2)), .int (b.2 - (b.1 - a.1))])) (a := t7) (o := .tup [.ref t5, .ref t6])
      generalize upd (upd (upd G2 t5 (.tup [.int (a.1 - (b.2 - a.2)), .int (a.2 - (b.1 - a.1))])) t6 (.tup [.int (b.1 - (b.2 - a.2)), .int (b.2 - (b.1 - a.1))])) t7 (.tup [.ref t5, .ref t6]) = G3 at u57 at5' at6' et7
      have epl3 := u57 _ _ epl
      refine ⟨pl, _, _, rfl, rfl, epl3, (by rw [sizeLine_eq]; show 1 < _; decide), ?_⟩
      have tu := upd_tu (o' := .lst ([.ref t3] ++ [.ref t7])) epl3 (by intro xs z; cases z)
      have ppr : Paired (fun q c => PairAt (upd G3 pl (.lst ([.ref t3] ++ [.ref t7]))) q c) [t3, t7] [((a.1 + (b.2 - a.2), a.2 + (b.1 - a.1)), (b.1 + (b.2 - a.2), b.2 + (b.1 - a.1))), ((a.1 - (b.2 - a.2), a.2 - (b.1 - a.1)), (b.1 - (b.2 - a.2), b.2 - (b.1 - a.1)))] :=
        .cons ⟨t1, t2', tu _ _ (u57 _ _ et3), tu _ _ (u57 _ _ at1'), tu _ _ (u57 _ _ at2')⟩ (.cons ⟨t5, t6, tu _ _ et7, tu _ _ at5', tu _ _ at6'⟩ .nil)
      have smP : Same G1 (upd G3 pl (.lst ([.ref t3] ++ [.ref t7]))) := same_put (u14.trans u57) hplG
      have eplP : upd G3 pl (.lst ([.ref t3] ++ [.ref t7])) pl = some (.lst ([t3, t7].map V.ref)) := upd_same
      generalize upd G3 pl (.lst ([.ref t3] ++ [.ref t7])) = GP at ppr smP eplP
      have eldP := smP _ _ eld
      -- is there a pair
      refine ⟨_, rfl, pl, rfl, ⟨_, SqL.of eplP⟩, fun DC hDC => ?_⟩
      have side2 : ∀ (n : Nat) (c : CellP), [((a.1 + (b.2 - a.2), a.2 + (b.1 - a.1)), (b.1 + (b.2 - a.2), b.2 + (b.1 - a.1))), ((a.1 - (b.2 - a.2), a.2 - (b.1 - a.1)), (b.1 - (b.2 - a.2), b.2 - (b.1 - a.1)))][n]? = some c → n < 2 := fun n c h => (List.getElem?_eq_some_iff.mp h).1
      refine lc_cells (walk_list (K := K) (a := pl) (xs := [t3, t7].map V.ref)) hDC (fun n => (([((a.1 + (b.2 - a.2), a.2 + (b.1 - a.1)), (b.1 + (b.2 - a.2), b.2 + (b.1 - a.1))), ((a.1 - (b.2 - a.2), a.2 - (b.1 - a.1)), (b.1 - (b.2 - a.2), b.2 - (b.1 - a.1)))] : List CellP).take n).filterMap fun c => if (decide (c.1 ∈ L) && decide (c.2 ∈ L)) = true then some c.1 else none) rfl (by show 2 ≤ 1000000; decide) (fun i G _ s => SqL.of (s _ _ eplP)) ?_ ?_
      · rintro i x G G' K1 K0 hi s10 ⟨rfl, hx⟩ k1 k0
        rw [List.getElem?_map] at hx
        obtain ⟨r, hr2, rfl⟩ := Option.map_eq_some_iff.mp hx
        obtain ⟨c, hc3, x1, x2, e1, e2, e3⟩ := paired_get ppr hr2
        have e1' := s10 _ _ e1
        have e2' : At G' x1 c.1 := s10 _ _ e2
        have e3' : At G' x2 c.2 := s10 _ _ e3
        have eld' := s10 _ _ eldP
        have stp : ∀ f : CellP → Option Cell, (([((a.1 + (b.2 - a.2), a.2 + (b.1 - a.1)), (b.1 + (b.2 - a.2), b.2 + (b.1 - a.1))), ((a.1 - (b.2 - a.2), a.2 - (b.1 - a.1)), (b.1 - (b.2 - a.2), b.2 - (b.1 - a.1)))] : List CellP).take (i + 1)).filterMap f = (([((a.1 + (b.2 - a.2), a.2 + (b.1 - a.1)), (b.1 + (b.2 - a.2), b.2 + (b.1 - a.1))), ((a.1 - (b.2 - a.2), a.2 - (b.1 - a.1)), (b.1 - (b.2 - a.2), b.2 - (b.1 - a.1)))] : List CellP).take i).filterMap f ++ [c].filterMap f := fun f => by rw [take_snoc hc3, List.filterMap_append]
        refine ⟨r, _, rfl, SqT.of e1', rfl, _, _, rfl, _, _, rfl, rfl, rfl, ?_⟩
        refine ⟨_, rfl, _, rfl, ld, _, rfl, dget_lot eld' e2', _, rfl, ?_⟩
        rw [lot_is]
        refine ite2 (fun hy1 => ?_) (fun hy1 => ?_)
        · refine ⟨_, rfl, _, rfl, ld, _, rfl, dget_lot eld' e3', _, rfl, ?_⟩
          rw [lot_is]
          refine ite2 (fun hy2 => ?_) (fun hy2 => ?_)
          · exact ⟨_, rfl, k1 x1 c.1 _ same_refl e2' (by rw [stp, List.filterMap_cons, if_pos (by rw [hy1, hy2]; rfl)]; rfl)⟩
          · exact k0 _ same_refl (by rw [stp, List.filterMap_cons, if_neg (by rw [hy1]; simpa using hy2)]; simp)
        · exact k0 _ same_refl (by rw [stp, List.filterMap_cons, if_neg (by simp at hy1; simp [hy1])]; simp)
      rintro G4 zs s4 gDC prz
      refine ⟨Nat.zero_le _, fun e9 he9 => ?_⟩
      have s9 := same_new (o := .lst []) he9
      refine ⟨_, .list [], (CellsL.dp ⟨zs, s9 _ _ gDC, paired_imp (fun _ _ h => s9 _ _ h) prz⟩), .lst (SqL.of upd_same) .nil, lay_cells.shaped (by decide), (lay_list (n := 0) (ds := []) (by simp)).shaped (by decide), ?_⟩
      rw [eqv_nil]
      have smF := (sm1.trans smP).trans (s4.trans s9)
      have eG : (!decide ((([((a.1 + (b.2 - a.2), a.2 + (b.1 - a.1)), (b.1 + (b.2 - a.2), b.2 + (b.1 - a.1))), ((a.1 - (b.2 - a.2), a.2 - (b.1 - a.1)), (b.1 - (b.2 - a.2), b.2 - (b.1 - a.1)))] : List CellP).take ([t3, t7].map V.ref).length).filterMap (fun c => if (decide (c.1 ∈ L) && decide (c.2 ∈ L)) = true then some c.1 else none) = [])) = !decide (byPlace L a b = .non) := by
        rw [eB]
        show (!decide ((([((a.1 + (b.2 - a.2), a.2 + (b.1 - a.1)), (b.1 + (b.2 - a.2), b.2 + (b.1 - a.1))), ((a.1 - (b.2 - a.2), a.2 - (b.1 - a.1)), (b.1 - (b.2 - a.2), b.2 - (b.1 - a.1)))] : List CellP).filterMap (fun c => if (fun c : CellP => decide (c.1 ∈ L) && decide (c.2 ∈ L)) c = true then some c.1 else none)) = [])) = _
        have fm := fm_two (c := ((a.1 + (b.2 - a.2), a.2 + (b.1 - a.1)), (b.1 + (b.2 - a.2), b.2 + (b.1 - a.1)))) (d := ((a.1 - (b.2 - a.2), a.2 - (b.1 - a.1)), (b.1 - (b.2 - a.2), b.2 - (b.1 - a.1)))) (f := fun c : CellP => decide (c.1 ∈ L) && decide (c.2 ∈ L))
        have e : slidesB L a b = ((fun c : CellP => decide (c.1 ∈ L) && decide (c.2 ∈ L)) ((a.1 + (b.2 - a.2), a.2 + (b.1 - a.1)), (b.1 + (b.2 - a.2), b.2 + (b.1 - a.1))) || (fun c : CellP => decide (c.1 ∈ L) && decide (c.2 ∈ L)) ((a.1 - (b.2 - a.2), a.2 - (b.1 - a.1)), (b.1 - (b.2 - a.2), b.2 - (b.1 - a.1)))) := rfl
        rw [← e] at fm
        by_cases hs : slidesB L a b = true
        · rw [if_pos hs, decide_eq_false (fun z => by rw [fm.mp z] at hs; cases hs)]
          rfl
        · rw [if_neg hs, decide_eq_true (fm.mpr (by simpa using hs))]
          rfl
      rw [eG]
      exact key2 _ _ _ _ _ _ _ _ _ _ _ _ L a b (ct.ek (.of smF)) nL lL (ap.same smF) fun G' s' => k G' (smF.trans s')
    · have h1 : ¬ absI (b.1 - a.1) + absI (b.2 - a.2) = 1 := fun z => h1 (decide_eq_true (congrArg V.int z))
      have none_ : ¬ (absI (b.1 - a.1) = 1 ∧ absI (b.2 - a.2) = 1) → byPlace L a b = .non := fun h2 => by
        unfold byPlace
        rw [if_neg hno, if_neg h1, if_neg h2]
      have fin0 : ∀ (Dd : Ends) {v2 v3 v4 v5 v6 v7 v9 v10 : Option V}, (∀ v H', Q v H' → Dd.rt v H') → byPlace L a b = .non → t2 Dd [some (.ref t), some (.ref p), v2, v3, v4, v5, v6, v7, some (.bl false), v9, v10] G1 := fun Dd {v2 v3 v4 v5 v6 v7 v9 v10} hQ h => by
        have := key2 Dd G1 v2 v3 v4 v5 v6 v7 v9 v10 t p L a b (ct.ek (.of sm1)) nL lL ap1 fun G' s' => hQ _ _ (k G' (sm1.trans s'))
        rw [decide_eq_true h] at this
        exact this
      refine ⟨_, rfl, _, rfl, rfl, _, rfl, ?_⟩
      refine ite2 (fun h2 => ?_) (fun h2 => ?_)
      · have h2 : absI (b.1 - a.1) = 1 := V.int.inj (of_decide_eq_true h2)
        refine ⟨_, rfl, _, rfl, rfl, _, rfl, ?_⟩
        refine ite2 (fun h3 => ?_) (fun h3 => ?_)
        · have h3 : absI (b.2 - a.2) = 1 := V.int.inj (of_decide_eq_true h3)
          refine ⟨_, rfl, _, _, _, _, rfl, rfl, SqT.of ap1, at0, _, rfl, _, _, rfl, rfl, _, rfl, _, _, _, _, rfl, rfl, SqT.of ap1, at1, two_le, fun t1 ht1 => ?_⟩
          have u1 := same_new (o := .tup [.int (a.1 + (b.1 - a.1)), .int a.2]) ht1
          have ap2 := ap1.same u1
          refine ⟨_, rfl, _, _, _, _, rfl, rfl, SqT.of ap2, at0, _, rfl, _, _, _, _, rfl, rfl, SqT.of ap2, at1, _, rfl, _, _, rfl, rfl, two_le, fun t2' ht2' => ?_⟩
          have u2 := same_new (o := .tup [.int a.1, .int (a.2 + (b.2 - a.2))]) ht2'
          have u12 := u1.trans u2
          have e1 : a.1 + (b.1 - a.1) = b.1 := by omega
          have e2 : a.2 + (b.2 - a.2) = b.2 := by omega
          have at1' : At (upd (upd G1 t1 (.tup [.int (a.1 + (b.1 - a.1)), .int a.2])) t2' (.tup [.int a.1, .int (a.2 + (b.2 - a.2))])) t1 (b.1, a.2) := by
            have q : At (upd (upd G1 t1 (.tup [.int (a.1 + (b.1 - a.1)), .int a.2])) t2' (.tup [.int a.1, .int (a.2 + (b.2 - a.2))])) t1 (a.1 + (b.1 - a.1), a.2) := u2 _ _ upd_same
            rw [show ((b.1, a.2) : Cell) = (a.1 + (b.1 - a.1), a.2) from by rw [e1]]
            exact q
          have at2' : At (upd (upd G1 t1 (.tup [.int (a.1 + (b.1 - a.1)), .int a.2])) t2' (.tup [.int a.1, .int (a.2 + (b.2 - a.2))])) t2' (a.1, b.2) := by
            have q : At (upd (upd G1 t1 (.tup [.int (a.1 + (b.1 - a.1)), .int a.2])) t2' (.tup [.int a.1, .int (a.2 + (b.2 - a.2))])) t2' (a.1, a.2 + (b.2 - a.2)) := upd_same
            rw [show ((a.1, b.2) : Cell) = (a.1, a.2 + (b.2 - a.2)) from by rw [e2]]
            exact q
          refine ⟨_, _, rfl, ?_⟩
          generalize upd (upd G1 t1 (.tup [.int (a.1 + (b.1 - a.1)), .int a.2])) t2' (.tup [.int a.1, .int (a.2 + (b.2 - a.2))]) = G2 at u12 at1' at2'
          refine ⟨_, rfl, _, rfl, ld, _, rfl, dget_lot (u12 _ _ eld) at1', ?_⟩
          refine ⟨_, rfl, _, rfl, ld, _, rfl, dget_lot (u12 _ _ eld) at2', rfl, ?_⟩
          have smF := sm1.trans u12
          have fin : ∀ (Dd : Ends) {v2 v3 v4 v5 v6 v7 v9 v10 : Option V}, (∀ v H', Q v H' → Dd.rt v H') → t2 Dd [some (.ref t), some (.ref p), v2, v3, v4, v5, v6, v7, some (.bl (!decide (byPlace L a b = .non))), v9, v10] G2 := fun Dd {v2 v3 v4 v5 v6 v7 v9 v10} hQ => key2 Dd G2 v2 v3 v4 v5 v6 v7 v9 v10 t p L a b (ct.ek (.of smF)) nL lL (ap.same smF) fun G' s' => hQ _ _ (k G' (smF.trans s'))
          have eB : (!decide (byPlace L a b = .non)) = turnsB L a b := by
            unfold byPlace
            rw [if_neg hno, if_neg h1, if_pos ⟨h2, h3⟩]
            cases turnsB L a b <;> rfl
          rw [eB] at fin
          unfold turnsB at fin
          rw [lot_is, lot_is]
          cases x : decide ((a.1, b.2) ∈ L) <;> cases y : decide ((b.1, a.2) ∈ L) <;> rw [x, y] at fin <;> exact fin _ (fun _ _ h => h)
        · exact fin0 _ (fun _ _ h => h) (none_ fun z => h3 (decide_eq_true (congrArg V.int z.2)))
      · exact fin0 _ (fun _ _ h => h) (none_ fun z => h2 (decide_eq_true (congrArg V.int z.1)))
end
end Sq

set_option Elab.async false
set_option linter.all false
set_option maxRecDepth 100000
set_option maxHeartbeats 8000000
/-! The law's moves (the w-family). -/
namespace Sq
open PySem PySem.Spec PyProof.Rows L2
theorem eight_le : (8 : Nat) ≤ sizeLine := by rw [sizeLine_eq]; decide
section
variable {P : Program} {w : World} {K : PySem.W.Frag} {mg : Str → Option Value} {base : Heap} {Ts : List Addr}
end
end Sq

set_option Elab.async false
set_option linter.all false
set_option maxRecDepth 100000
set_option maxHeartbeats 8000000
/-! The largest cell of a list. -/
namespace Sq
open PySem PySem.Spec PyProof.Rows L2
theorem lt_cD (a b : Cell) : PySem.W.dataLt (cD a) (cD b) = cLt a b := by
  show PyProof.Rows.lexLt PyProof.Rows.itemOrd (PySem.W.keyToks (cD a)) (PySem.W.keyToks (cD b)) = _
  have tk : ∀ c : Cell, PySem.W.keyToks (cD c) = [.inl 1, .inl c.1, .inl 1, .inl c.2, .inl 0] := fun c => by simp [cD, PySem.W.keyToks, PySem.W.keyToksAll]
  rw [tk, tk]
  obtain ⟨a1, a2⟩ := a
  obtain ⟨b1, b2⟩ := b
  have at1 : ∀ (x y : Int) (r t : List (Int ⊕ List Nat)), PyProof.Rows.lexLt PyProof.Rows.itemOrd (.inl x :: r) (.inl y :: t) = (decide (x < y) || (!decide (y < x) && PyProof.Rows.lexLt PyProof.Rows.itemOrd r t)) := fun x y r t => PyProof.Rows.lex_cons (O := PyProof.Rows.itemOrd) (.inl x) (.inl y) r t
  have nil : PyProof.Rows.lexLt PyProof.Rows.itemOrd ([] : List (Int ⊕ List Nat)) [] = false := rfl
  simp only [at1, nil, cLt]
  rw [Bool.eq_iff_iff]
  simp
  omega
section
variable {X : Cx}
theorem paired_getRW {α β : Type} {F : α → β → Prop} {i : Nat} {y : β} : ∀ {xs : List α} {ys : List β}, Paired F xs ys → ys[i]? = some y → ∃ x, xs[i]? = some x ∧ F x y
  | _, _, .nil, e => by simp at e
  | _ :: _, _ :: _, .cons h t, e => by
    cases i with
    | zero =>
      obtain rfl := Option.some.inj e
      exact ⟨_, rfl, h⟩
    | succ i =>
      obtain ⟨x, hx, f⟩ := paired_getRW (i := i) t (by simpa using e)
      exact ⟨x, by simpa using hx, f⟩
theorem reads_cellsW {pins : List (Addr × Obj)} {σ : L2.St} {H : Hp} {s : Shared} (I : Inv X pins σ H s) {qs : List Addr} {cs : List Cell} (pr : Paired (fun q c => At H q c) qs cs) : ∀ {us : List Value}, Vals (qs.map V.ref) us → ∃ as, ReadsAll s.heap us (cs.map cD) as := by
  induction pr with
  | nil =>
    intro us r
    cases r
    exact ⟨_, .nil⟩
  | cons a _ ih =>
    intro us r
    cases r with
    | cons r t =>
      obtain ⟨as, h⟩ := ih t
      obtain ⟨bs, h1⟩ := Dp.reads I (cD _) _ _ (At.dp (K := X.K) a) r
      exact ⟨_, .cons h1 h⟩
end
end Sq

set_option Elab.async false
set_option linter.all false
set_option maxRecDepth 100000
set_option maxHeartbeats 8000000
/-! The law's bodies: the state, a cell is put. -/
namespace Sq
open PySem PySem.Spec PyProof.Rows L2
def ringL : List Cell := [(0, 0), (1, 0), (2, 0), (2, 1), (2, 2), (1, 2), (0, 2), (0, 1)]
/-- the state of a body that grows -/
structure WbI (H : Hp) (p c fl la : Addr) (way : Int) (m n : Nat) (qs : List Addr) (A : List Cell) (G : Hp) : Prop where
  pen : PenC G p c n
  kp : Kp [p] H G
  nf : H fl = none
  nc : c ≠ fl
  ef : G fl = some (.lst (qs.map V.ref))
  pr : Paired (fun q c => At G q c) qs A
  nd : A.Nodup
  gr : Grown A
  l1 : 1 ≤ A.length
  le : A.length ≤ m
  sm : ∀ x ∈ A, x.1.natAbs ≤ 2 * A.length ∧ x.2.natAbs ≤ 2 * A.length
  rg : way = 4 → A.length ≤ 8 → A = ringL.take A.length
  al : ∃ x ∈ A, At G la x
theorem WbI.ek {H : Hp} {p c fl la : Addr} {way : Int} {m n n' : Nat} {qs : List Addr} {A : List Cell} {G G' : Hp} (I : WbI H p c fl la way m n qs A G) (k : Kp [p] G G') (hp : PenC G' p c n') : WbI H p c fl la way m n' qs A G' := by
  have e := pen_ek I.pen.at k
  obtain ⟨x, hx, ax⟩ := I.al
  exact ⟨hp, I.kp.trans k, I.nf, I.nc, e.lst I.ef, paired_imp (fun _ _ h => e.at h) I.pr, I.nd, I.gr, I.l1, I.le, I.sm, I.rg, x, hx, e.at ax⟩
theorem WbI.same {H : Hp} {p c fl la : Addr} {way : Int} {m n : Nat} {qs : List Addr} {A : List Cell} {G G' : Hp} (I : WbI H p c fl la way m n qs A G) (k : Same G G') : WbI H p c fl la way m n qs A G' := I.ek (Kp.of k) (I.pen.same k)
theorem WbI.last {H : Hp} {p c fl la lb : Addr} {way : Int} {m n : Nat} {qs : List Addr} {A : List Cell} {G : Hp} (I : WbI H p c fl la way m n qs A G) (h : ∃ x ∈ A, At G lb x) : WbI H p c fl lb way m n qs A G := ⟨I.pen, I.kp, I.nf, I.nc, I.ef, I.pr, I.nd, I.gr, I.l1, I.le, I.sm, I.rg, h⟩
/-- one more cell -/
theorem WbI.grow {H : Hp} {p c fl la e : Addr} {way : Int} {m n : Nat} {qs : List Addr} {A : List Cell} {G : Hp} {x : Cell} (I : WbI H p c fl la way m n qs A G) (ae : At G e x) (nx : x ∉ A) (bs : ∃ y ∈ A, x ∈ besideC y) (lt : A.length < m) (rg : way = 4 → A.length < 8 → ringL[A.length]? = some x) :
    WbI H p c fl e way m n (qs ++ [e]) (A ++ [x]) (upd G fl (.lst (qs.map V.ref ++ [V.ref e]))) := by
  obtain ⟨y, hy, hb⟩ := bs
  have np : p ≠ fl := fun z => by
    obtain ⟨zs, i0, dg, fo, e1, _⟩ := I.pen.ex
    rw [z, I.ef] at e1
    cases e1
  have off : ∀ {q : Addr} {c : Cell}, At G q c → At (upd G fl (.lst (qs.map V.ref ++ [V.ref e]))) q c := fun h => h.off I.ef (by intro xs z; cases z)
  have ll : (A ++ [x]).length = A.length + 1 := by rw [List.length_append]; rfl
  refine ⟨I.pen.off np I.nc, I.kp.put I.nf, I.nf, I.nc, by rw [upd_same, List.map_append]; rfl, (paired_imp (fun _ _ h => off h) I.pr).snoc (off ae), (List.nodup_append.mpr ⟨I.nd, List.pairwise_singleton _ x, fun a ha b hb z => nx (List.mem_singleton.mp hb ▸ z ▸ ha)⟩), I.gr.snoc hy hb, by rw [ll]; omega, by rw [ll]; omega, fun z hz => ?_, fun w4 l8 => ?_, x, List.mem_append_right _ (List.mem_singleton.mpr rfl), off ae⟩
  · rw [ll]
    rcases List.mem_append.mp hz with h | h
    · have := I.sm z h
      omega
    · rw [List.mem_singleton.mp h]
      have := I.sm y hy
      rw [beside_iff] at hb
      omega
  · rw [ll] at l8 ⊢
    have e := I.rg w4 (by omega)
    have e2 := rg w4 (by omega)
    rw [take_snoc e2, ← e]
section
variable {P : Program} {w : World} {K : PySem.W.Frag} {mg : Str → Option Value} {base : Heap} {Ts : List Addr}
variable {f : Addr} {cdv : Value} {A0 : Around} {outer : List Env} {s : Shared} {H0 : Hp} {E : XK}
end
end Sq

set_option Elab.async false
set_option linter.all false
set_option maxRecDepth 100000
set_option maxHeartbeats 8000000
/-! The law's bodies: a lap. -/
namespace Sq
open PySem PySem.Spec PyProof.Rows L2
section
variable {P : Program} {w : World} {K : PySem.W.Frag} {mg : Str → Option Value} {base : Heap} {Ts : List Addr}
variable {f : Addr} {cdv : Value} {A0 : Around} {outer : List Env} {s : Shared} {H0 : Hp} {E : XK}
end
end Sq

set_option Elab.async false
set_option linter.all false
set_option maxRecDepth 100000
set_option maxHeartbeats 8000000
/-! The law's bodies (the w-family). -/
namespace Sq
open PySem PySem.Spec PyProof.Rows L2
theorem WbI.free {H : Hp} {p c fl la : Addr} {way : Int} {m n : Nat} {qs : List Addr} {A : List Cell} {G : Hp} (I : WbI H p c fl la way m n qs A G) : WbI H p c fl la 0 m n qs A G := ⟨I.pen, I.kp, I.nf, I.nc, I.ef, I.pr, I.nd, I.gr, I.l1, I.le, I.sm, (fun z => by cases z), I.al⟩
section
variable {P : Program} {w : World} {K : PySem.W.Frag} {mg : Str → Option Value} {base : Heap} {Ts : List Addr}
end
end Sq

set_option Elab.async false
set_option linter.all false
set_option maxRecDepth 100000
set_option maxHeartbeats 8000000
/-! The program: a body's lot, moves that are moves. -/
namespace Sq
open PySem PySem.Spec PyProof.Rows L2
/-- a move done -/
def stepM (L : List Cell) (m : CellP) : List Cell := without L m.1 ++ [m.2]
def goL (L : List Cell) (ms : List CellP) : List Cell := ms.foldl stepM L
noncomputable def goB : List Cell → List CellP → Bool
  | _, [] => true
  | L, m :: ms => mayW L m.1 m.2 && goB (stepM L m) ms
theorem goL_app (L : List Cell) (a b : List CellP) : goL L (a ++ b) = goL (goL L a) b := List.foldl_append ..
theorem goB_app : ∀ (L : List Cell) (a b : List CellP), goB L (a ++ b) = (goB L a && goB (goL L a) b)
  | L, [], b => by
    show _ = (true && _)
    rw [Bool.true_and]
    rfl
  | L, m :: a, b => by
    show (mayW L m.1 m.2 && goB (stepM L m) (a ++ b)) = ((mayW L m.1 m.2 && goB (stepM L m) a) && goB (goL (stepM L m) a) b)
    rw [goB_app (stepM L m) a b, Bool.and_assoc]
theorem may_kind {L : List Cell} {s e : Cell} : mayW L s e = true ↔ kindV L s e ≠ .non := by
  unfold mayW
  simp
theorem may_step {L : List Cell} {m : CellP} (nL : L.Nodup) (h : mayW L m.1 m.2 = true) : Hangs (stepM L m) ∧ (stepM L m).Nodup ∧ (stepM L m).length = L.length := behind nL (may_kind.mp h) (.refl _)
theorem go_ok : ∀ {ms : List CellP} {L : List Cell}, L.Nodup → Hangs L → goB L ms = true → Hangs (goL L ms) ∧ (goL L ms).Nodup ∧ (goL L ms).length = L.length
  | [], _, n, h, _ => ⟨h, n, rfl⟩
  | m :: ms, L, n, h, g => by
    have g : (mayW L m.1 m.2 && goB (stepM L m) ms) = true := g
    rw [Bool.and_eq_true] at g
    obtain ⟨a, b, c⟩ := may_step n g.1
    obtain ⟨a2, b2, c2⟩ := go_ok b a g.2
    exact ⟨a2, b2, c2.trans c⟩
theorem may_in {L : List Cell} {s e : Cell} (h : mayW L s e = true) : s ∈ L ∧ e ∉ L := by
  rw [may_place, Bool.and_eq_true] at h
  exact byPlace_mem fun z => by rw [decide_eq_true z] at h; cases h.1
section
variable {P : Program} {w : World} {K : PySem.W.Frag} {mg : Str → Option Value} {base : Heap} {Ts : List Addr}
end
end Sq

set_option Elab.async false
set_option linter.all false
set_option maxRecDepth 100000
set_option maxHeartbeats 8000000
/-! The program: pairs of moves by place. -/
namespace Sq
open PySem PySem.Spec PyProof.Rows L2
abbrev P2 := CellP × CellP
def P2At (H : Hp) (r : Addr) (m : P2) : Prop := ∃ a b : Addr, H r = some (.tup [.ref a, .ref b]) ∧ PairAt H a m.1 ∧ PairAt H b m.2
theorem P2At.keep {H G : Hp} {r : Addr} {m : P2} (h : P2At H r m) (k : Tk H G) : P2At G r m := by
  obtain ⟨a, b, e, h1, h2⟩ := h
  exact ⟨a, b, k _ _ e, h1.keep k, h2.keep k⟩
/-- both squares change places: the k-th to the m-th -/
def pr2 (gone come : List Cell) (k m : Nat) : P2 := ((gone.getD k (0, 0), come.getD m (0, 0)), (gone.getD (1 - k) (0, 0), come.getD (1 - m) (0, 0)))
section
variable {P : Program} {w : World} {K : PySem.W.Frag} {mg : Str → Option Value} {base : Heap} {Ts : List Addr}
end
end Sq

set_option Elab.async false
set_option linter.all false
set_option maxRecDepth 100000
set_option maxHeartbeats 8000000
/-! The program: few_between. -/
namespace Sq
open PySem PySem.Spec PyProof.Rows L2
def p2D (m : P2) : PyData := .tuple [pD m.1, pD m.2]
theorem P2At.dp {K : PySem.W.Frag} {H : Hp} {r : Addr} {m : P2} (h : P2At H r m) : Dp K H (.ref r) (p2D m) := by
  obtain ⟨a, b, e, a1, a2⟩ := h
  exact .tup (SqT.of e) (.cons a1.dp (.cons a2.dp .nil))
section
variable {P : Program} {w : World} {K : PySem.W.Frag} {mg : Str → Option Value} {base : Heap} {Ts : List Addr}
end
end Sq

set_option Elab.async false
set_option linter.all false
set_option maxRecDepth 100000
set_option maxHeartbeats 8000000
/-! The least of the shortest plans; few_moves. -/
namespace Sq
open PySem PySem.Spec PyProof.Rows L2
def EqC (L G : List Cell) : Prop := ∀ x, x ∈ L ↔ x ∈ G
theorem mem_step {L : List Cell} {m : CellP} {x : Cell} : x ∈ stepM L m ↔ (x ∈ L ∧ x ≠ m.1) ∨ x = m.2 := by
  unfold stepM
  rw [List.mem_append, mem_without, List.mem_singleton]
section
variable {P : Program} {w : World} {K : PySem.W.Frag} {mg : Str → Option Value} {base : Heap} {Ts : List Addr}
end
end Sq

set_option Elab.async false
set_option linter.all false
set_option maxRecDepth 100000
set_option maxHeartbeats 8000000
/-! The law's all_few. -/
namespace Sq
open PySem PySem.Spec PyProof.Rows L2
theorem cs_eqvW : ∀ S T : List Cell, PyData.eqv (.tuple (S.map cD)) (.tuple (T.map cD)) = decide (S = T) := by
  have all : ∀ S T : List Cell, PyData.eqvAll (S.map cD) (T.map cD) = decide (S = T) := by
    intro S
    induction S with
    | nil =>
      intro T
      cases T with
      | nil => simp [PyData.eqvAll]
      | cons y T => simp [PyData.eqvAll]
    | cons x S ih =>
      intro T
      cases T with
      | nil => simp [PyData.eqvAll]
      | cons y T =>
        show (PyData.eqv (cD x) (cD y) && PyData.eqvAll (S.map cD) (T.map cD)) = _
        rw [cD_eqv, ih, Bool.eq_iff_iff]
        simp
  intro S T
  have e : PyData.eqv (.tuple (S.map cD)) (.tuple (T.map cD)) = PyData.eqvAll (S.map cD) (T.map cD) := by simp [PyData.eqv]
  rw [e, all]
theorem lay_cellsTW {cs : List Cell} : Lay 2 (.tuple (cs.map cD)) := lay_tuple fun d hd => by
  obtain ⟨c, _, rfl⟩ := List.mem_map.mp hd
  exact lay_cell c
theorem asc_eq {M G : List Cell} (nM : M.Nodup) (nG : G.Nodup) (aM : Asc M) (aG : Asc G) : M = G ↔ EqC M G :=
  ⟨fun e x => by rw [e], fun h => asc_same nM nG aM aG h⟩
theorem may_cong {L M : List Cell} (h : EqC L M) {s e : Cell} : mayW L s e = mayW M s e := by
  unfold mayW
  rw [kindV_cong h]
theorem step_cong {L M : List Cell} (h : EqC L M) (m : CellP) : EqC (stepM L m) (stepM M m) := fun x => by rw [mem_step, mem_step, h x]
theorem eqC_trans {A B C : List Cell} (h : EqC A B) (k : EqC B C) : EqC A C := fun x => (h x).trans (k x)
theorem eqC_symm {A B : List Cell} (h : EqC A B) : EqC B A := fun x => (h x).symm
def bestV (H : Hp) (v : V) : Option P2 → Prop
  | none => v = .non
  | some b => ∃ r, v = .ref r ∧ PairsT H r [b.1, b.2]
theorem PairsT.same {H G : Hp} {r : Addr} {ms : List CellP} (h : PairsT H r ms) (k : Same H G) : PairsT G r ms := by
  obtain ⟨ps, e, pr⟩ := h
  exact ⟨ps, k _ _ e, paired_imp (fun _ _ h => h.same k) pr⟩
theorem bestV.same {H G : Hp} {v : V} {o : Option P2} (h : bestV H v o) (k : Same H G) : bestV G v o := by
  cases o with
  | none => exact h
  | some b =>
    obtain ⟨r, e, q⟩ := h
    exact ⟨r, e, q.same k⟩
section
variable {P : Program} {w : World} {K : PySem.W.Frag} {mg : Str → Option Value} {base : Heap} {Ts : List Addr}
end
end Sq

set_option Elab.async false
set_option linter.all false
set_option maxRecDepth 100000
set_option maxHeartbeats 4000000
/-! A body of two squares or more has a move; moves back; moves of a moved body. -/
namespace Sq
open PySem PySem.Spec PyProof.Rows L2
def side4 (d : Cell) : Prop := (d.1 = 0 ∧ (d.2 = 1 ∨ d.2 = -1)) ∨ ((d.1 = 1 ∨ d.1 = -1) ∧ d.2 = 0)
theorem byPlace_slide {L : List Cell} {s e : Cell} (sL : s ∈ L) (eL : e ∉ L) (h : side4 (e.1 - s.1, e.2 - s.2)) (hs : slidesB L s e = true) : byPlace L s e = .str "slide" := by
  unfold byPlace
  rw [if_neg (by simp [sL, eL])]
  have h1 : absI (e.1 - s.1) + absI (e.2 - s.2) = 1 := by
    rcases h with ⟨h1, h2⟩ | ⟨h1, h2⟩
    · rw [abs_zero.mpr h1, abs_one.mpr h2]
      rfl
    · rw [abs_one.mpr h1, abs_zero.mpr h2]
      rfl
  rw [if_pos h1, if_pos hs]
theorem byPlace_turn {L : List Cell} {s e : Cell} (sL : s ∈ L) (eL : e ∉ L) (h1 : e.1 - s.1 = 1 ∨ e.1 - s.1 = -1) (h2 : e.2 - s.2 = 1 ∨ e.2 - s.2 = -1) (ht : turnsB L s e = true) : byPlace L s e = .str "turn" := by
  unfold byPlace
  rw [if_neg (by simp [sL, eL])]
  have a1 := abs_one.mpr h1
  have a2 := abs_one.mpr h2
  rw [if_neg (by omega), if_pos ⟨a1, a2⟩, if_pos ht]
/-! ### back -/
theorem abs_swap (a b : Int) : absI (a - b) = absI (b - a) := by
  unfold absI
  split <;> split <;> omega
theorem hangsB_mem {L M : List Cell} (h : ∀ x, x ∈ L ↔ x ∈ M) : hangsB L = hangsB M := by
  rw [Bool.eq_iff_iff, hangsB_iff, hangsB_iff]
  exact hangs_perm h
theorem kind_back {L M : List Cell} {s e : Cell} (k : kindV L s e ≠ .non) (hM : ∀ x, x ∈ M ↔ (x ∈ L ∧ x ≠ s) ∨ x = e) : kindV M e s = kindV L s e := by
  obtain ⟨k1, k2⟩ := kind_ne.mp k
  have I := byPlace_is k1
  have eM : e ∈ M := (hM e).mpr (.inr rfl)
  have se : s ≠ e := fun z => I.eL (z ▸ I.sL)
  have sM : s ∉ M := fun m => ((hM s).mp m).elim (fun h => h.2 rfl) se
  have mem : ∀ x, x ≠ s → x ≠ e → decide (x ∈ M) = decide (x ∈ L) := fun x h1 h2 => by
    rw [Bool.eq_iff_iff, decide_eq_true_iff, decide_eq_true_iff, hM]
    simp [h1, h2]
  have h2 : hangsB (without M e) = true := by
    rw [← k2]
    refine hangsB_mem fun x => ?_
    rw [mem_without, mem_without, hM]
    constructor
    · rintro ⟨h | h, ne⟩
      · exact h
      · exact absurd h ne
    · intro h
      exact ⟨.inl h, fun z => I.eL (z ▸ h.1)⟩
  have bp : byPlace M e s = byPlace L s e := by
    unfold byPlace
    have q1 : ¬ (decide (e ∈ M) = false ∨ decide (s ∈ M) = true) := by simp [eM, sM]
    have q2 : ¬ (decide (s ∈ L) = false ∨ decide (e ∈ L) = true) := by
      have := I.sL
      have := I.eL
      simp_all
    rw [if_neg q1, if_neg q2, abs_swap s.1 e.1, abs_swap s.2 e.2]
    have ar := around_iff.mp I.ar
    obtain ⟨s1, s2⟩ := s
    obtain ⟨e1, e2⟩ := e
    simp only at ar mem ⊢
    have prj : ∀ {a b c d : Int}, (a, b) ≠ ((c, d) : Cell) ↔ a ≠ c ∨ b ≠ d := fun {a b c d} => by rw [Ne, Prod.mk.injEq]; omega
    by_cases c1 : absI (e1 - s1) + absI (e2 - s2) = 1
    · rw [if_pos c1, if_pos c1]
      have n1 := abs_nn (e1 - s1)
      have n2 := abs_nn (e2 - s2)
      have cs : (e1 - s1 = 0 ∧ (e2 - s2 = 1 ∨ e2 - s2 = -1)) ∨ ((e1 - s1 = 1 ∨ e1 - s1 = -1) ∧ e2 - s2 = 0) := by
        by_cases z : absI (e1 - s1) = 0
        · exact .inl ⟨abs_zero.mp z, abs_one.mp (by omega)⟩
        · exact .inr ⟨abs_one.mp (by omega), abs_zero.mp (by omega)⟩
      have sl : slidesB M (e1, e2) (s1, s2) = slidesB L (s1, s2) (e1, e2) := by
        unfold slidesB sideB
        simp only
        have a1 : s2 - e2 = -(e2 - s2) := by omega
        have a2 : s1 - e1 = -(e1 - s1) := by omega
        rw [a1, a2, Int.neg_neg, Int.neg_neg]
        rw [mem (e1 + -(e2 - s2), e2 + -(e1 - s1)) (prj.mpr (by omega)) (prj.mpr (by omega)), mem (s1 + -(e2 - s2), s2 + -(e1 - s1)) (prj.mpr (by omega)) (prj.mpr (by omega)),
          mem (e1 + (e2 - s2), e2 + (e1 - s1)) (prj.mpr (by omega)) (prj.mpr (by omega)), mem (s1 + (e2 - s2), s2 + (e1 - s1)) (prj.mpr (by omega)) (prj.mpr (by omega))]
        cases decide ((e1 + -(e2 - s2), e2 + -(e1 - s1)) ∈ L) <;> cases decide ((s1 + -(e2 - s2), s2 + -(e1 - s1)) ∈ L) <;> cases decide ((e1 + (e2 - s2), e2 + (e1 - s1)) ∈ L) <;> cases decide ((s1 + (e2 - s2), s2 + (e1 - s1)) ∈ L) <;> rfl
      rw [sl]
    · rw [if_neg c1, if_neg c1]
      by_cases c2 : absI (e1 - s1) = 1 ∧ absI (e2 - s2) = 1
      · rw [if_pos c2, if_pos c2]
        have d1 := abs_one.mp c2.1
        have d2 := abs_one.mp c2.2
        have tu : turnsB M (e1, e2) (s1, s2) = turnsB L (s1, s2) (e1, e2) := by
          unfold turnsB
          simp only
          rw [mem (e1, s2) (prj.mpr (by omega)) (prj.mpr (by omega)), mem (s1, e2) (prj.mpr (by omega)) (prj.mpr (by omega))]
          cases decide ((e1, s2) ∈ L) <;> cases decide ((s1, e2) ∈ L) <;> rfl
        rw [tu]
      · rw [if_neg c2, if_neg c2]
  unfold kindV
  rw [bp, h2, k2]
/-! ### moved -/
def shC (b c : Cell) : Cell := (c.1 + b.1, c.2 + b.2)
theorem shC_inj {b c d : Cell} (h : shC b c = shC b d) : c = d := by
  obtain ⟨c1, c2⟩ := c
  obtain ⟨d1, d2⟩ := d
  obtain ⟨h1, h2⟩ := Prod.mk.inj h
  have h1 : c1 + b.1 = d1 + b.1 := h1
  have h2 : c2 + b.2 = d2 + b.2 := h2
  rw [Prod.mk.injEq]
  omega
theorem mem_sh {L : List Cell} {b c : Cell} : shC b c ∈ L.map (shC b) ↔ c ∈ L := by
  rw [List.mem_map]
  constructor
  · rintro ⟨d, hd, e⟩
    exact shC_inj e ▸ hd
  · exact fun h => ⟨c, h, rfl⟩
theorem sh_beside {b c d : Cell} (h : d ∈ besideC c) : shC b d ∈ besideC (shC b c) := by
  have := beside_iff.mp h
  refine bes ?_
  omega
theorem sh_back (b : Cell) (L : List Cell) : (L.map (shC b)).map (shC (-b.1, -b.2)) = L := by
  rw [List.map_map]
  have e : (shC (-b.1, -b.2)) ∘ (shC b) = id := by
    funext c
    obtain ⟨c1, c2⟩ := c
    simp only [Function.comp, shC, id, Prod.mk.injEq]
    omega
  rw [e, List.map_id]
theorem hangs_sh {L : List Cell} {b : Cell} : Hangs (L.map (shC b)) ↔ Hangs L := by
  constructor
  · intro h
    have := hangs_map (g := shC (-b.1, -b.2)) (fun _ _ => sh_beside) h
    rw [sh_back] at this
    exact this
  · exact hangs_map (g := shC b) (fun _ _ => sh_beside)
theorem cLt_sh {b x y : Cell} : cLt (shC b x) (shC b y) = cLt x y := by
  unfold cLt shC
  rw [Bool.eq_iff_iff, decide_eq_true_iff, decide_eq_true_iff]
  simp only
  omega
theorem asc_sh {L : List Cell} {b : Cell} (h : Asc L) : Asc (L.map (shC b)) := by
  unfold Asc at h ⊢
  rw [List.pairwise_map]
  exact h.imp fun {x y} q => by rw [cLt_sh]; exact q
theorem nodup_sh {L : List Cell} {b : Cell} (h : L.Nodup) : (L.map (shC b)).Nodup := List.pairwise_map.mpr (h.imp fun {x y} q z => q (shC_inj z))
end Sq

set_option Elab.async false
set_option linter.all false
set_option maxRecDepth 100000
set_option maxHeartbeats 4000000
/-! moved; what the laws ask of cells and moves. -/
namespace Sq
open PySem PySem.Spec PyProof.Rows L2
/-- an own error is on its way -/
def WayS (H : Hp) (C : Addr) (fs : List (Str × V)) (E : XK) : Prop := ∀ (dd : Addr) (H' : Hp), Same H H' → H dd = none → H' dd = some (.xd fs) → E (.ref C) (some dd) H'
theorem WayS.from {H G : Hp} {C : Addr} {fs : List (Str × V)} {E : XK} (h : WayS H C fs E) (k : Same H G) : ∀ d, G d = none → E (.ref C) (some d) (upd G d (.xd fs)) := fun d hd =>
  h d _ (k.trans (same_new hd)) (k.free hd) upd_same
section
variable {P : Program} {w : World} {K : PySem.W.Frag} {mg : Str → Option Value} {base : Heap}
end
theorem lay_pairsT {ms : List CellP} : Lay 3 (.tuple (ms.map pD)) := lay_tuple fun d hd => by
  obtain ⟨m, _, rfl⟩ := List.mem_map.mp hd
  exact lay_pD m
theorem lay_cellsT7 {cs : List Cell} : Lay 2 (.tuple (cs.map cD)) := lay_tuple fun d hd => by
  obtain ⟨c, _, rfl⟩ := List.mem_map.mp hd
  exact lay_cellH c
theorem eqv_self {n : Nat} {d : PyData} (h : Lay n d) (k : n ≤ 64 := by decide) : PyData.eqv d d = true := SeqAt.eqv_refl _ (SeqAt.canLay_of_shaped (h.shaped k))
end Sq

set_option Elab.async false
set_option linter.all false
set_option maxRecDepth 100000
set_option maxHeartbeats 8000000
/-! The law's apart, free. -/
namespace Sq
open PySem PySem.Spec PyProof.Rows L2
def spT4bodies : Sp := fun vs H Q _ => ∃ (t pl : Addr) (L : List Cell) (ms : List CellP), vs = [.ref t, .ref pl] ∧ CellsT H t L ∧ L.Nodup ∧ Asc L ∧ Hangs L ∧ L.length ≤ 1000 ∧ PairsT H pl ms ∧ ms.length ≤ 1000 ∧ goB L ms = true ∧
  ∀ l H' ts r cs, Same H H' → H' l = some (.lst (ts ++ [V.ref r])) → CellsT H' r cs → cs.Nodup → Asc cs → EqC cs (goL L ms) → Q (.ref l) H'
def spT4leads : Sp := fun vs H Q _ => ∃ (t pl u : Addr) (L G : List Cell) (ms : List CellP), vs = [.ref t, .ref pl, .ref u] ∧ CellsT H t L ∧ L.Nodup ∧ Asc L ∧ Hangs L ∧ L.length ≤ 1000 ∧ CellsT H u G ∧ G.Nodup ∧ Asc G ∧ PairsT H pl ms ∧ ms.length ≤ 1000 ∧ goB L ms = true ∧ EqC (goL L ms) G ∧ ∀ H', Same H H' → Q (.bl true) H'
theorem goL_snoc {L : List Cell} {ms : List CellP} {m : CellP} : goL L (ms ++ [m]) = stepM (goL L ms) m := by rw [goL_app]; rfl
section
variable {P : Program} {w : World} {K : PySem.W.Frag} {mg : Str → Option Value} {base : Heap} {Ts : List Addr}
end
end Sq

set_option Elab.async false
set_option linter.all false
set_option maxRecDepth 100000
set_option maxHeartbeats 8000000
/-! The law's t4few. -/
namespace Sq
open PySem PySem.Spec PyProof.Rows L2
section
variable {P : Program} {w : World} {K : PySem.W.Frag} {mg : Str → Option Value} {base : Heap} {Ts : List Addr}
section
variable {f : Addr} {cdv : Value} {A : Around} {outer : List Env} {s : Shared} {H0 : Hp} {E : XK}
end
end
end Sq

set_option Elab.async false
set_option linter.all false
set_option maxRecDepth 100000
set_option maxHeartbeats 8000000
/-! The law's t4bodies, t4leads. -/
namespace Sq
open PySem PySem.Spec PyProof.Rows L2
abbrev tbNW : List Str := ["_law_cells", "_law_plan", "_law_found", "_law_start", "_law_end"]
theorem call_lenKW {X : Cx} {K : PySem.W.Frag} (h : X.K = K) : CallR X (.builtin "len") (fun xs H Q => ∃ p ys, xs = [V.ref p] ∧ (SqL K H p ys ∨ SqT K H p ys) ∧ Q (.int (ys.length : Int)) H) := h ▸ call_len_seq
theorem call_isiKW {X : Cx} {K : PySem.W.Frag} (h : X.K = K) : CallR X (.builtin "isinstance") (rIsi K) := h ▸ call_isi
abbrev tlN : List Str := ["_law_cells", "_law_plan", "_law_other", "_law_pair", "_law_bodies"]
section
variable {P : Program} {w : World} {K : PySem.W.Frag} {mg : Str → Option Value} {base : Heap} {Ts : List Addr}
theorem scT4b : FnScope tbNW ["_law_cells", "_law_plan"] (defScope lT4bodies) := ⟨rfl, rfl, rfl, by decide +kernel, rfl, by decide +kernel, by decide +kernel⟩
theorem ok_t4bodies {f : Addr} {fd : FuncData} (F : FnP K "_law_t4bodies" lT4bodies f fd) (B : Bl mg) (DD : Df P w K mg base CX0 1 "_law_w_moved" ["_law_cells", "_law_start", "_law_end"] spLDone) (DM : Df P w K mg base CX0 3 "_law_w_may" ["_law_cells", "_law_start", "_law_end"] spWMay) :
    FnOk P w K mg base CX0 4 f fd ["_law_cells", "_law_plan"] spT4bodies := by
  refine F.ok scT4b (fun vs H Q E h => ?_) (fun cdv A outer s H vs Q E hr h => ?_)
  · obtain ⟨t, pl, L, ms, rfl, _⟩ := h
    rfl
  · obtain ⟨t, pl, L, ms, rfl, ct, nL, aL, hL, lL, ⟨qs, epl, prm⟩, lms, gb, k⟩ := h
    refine ⟨_, PSs.nox (pss_cons (ps_set (i := 2) scT4b.nd rfl (.inl rfl) (pe_lst (pa_cons (pe_tupleOf (by rfl) B.tuple (pv 0)) pa_nil)))
      (pss_cons (ps_for PassesOwn.never rfl (pi_tup (pv 1)) (pg_tup (by rfl) (pgs_cons (pg_name (i := 3) scT4b.nd rfl (.inl rfl)) (pgs_cons (pg_name (i := 4) scT4b.nd rfl (.inl rfl)) pgs_nil)))
      (pss_cons (ps_if (pt_not (pt_val (pe_df DM hr (by rfl) pass0 (pa_cons (pe_ix (ix_listK (K := K) rfl) (pv 2) (pe_un un_neg pe_int) (fun _ _ => rfl)) (pa_cons (pv 3) (pa_cons (pv 4) pa_nil))))))
        (pss_one (ps_ret pe_non))
        pss_nil)
        (pss_one (ps_expr (pe_bm PySem.F.plainAttrs_list PySem.F.slot_list_append PySem.F.type_list_append mt_append (pv 2) (pa_cons (pe_df DD hr (by rfl) pass0 (pa_cons (pe_ix (ix_listK (K := K) rfl) (pv 2) (pe_un un_neg pe_int) (fun _ _ => rfl)) (pa_cons (pv 3) (pa_cons (pv 4) pa_nil)))) pa_nil))))))
      (pss_one (ps_ret (pv 2))))), ?_⟩
    have lq : qs.length = ms.length := Paired.length prm
    obtain ⟨tq, et, prt⟩ := id ct
    refine ⟨_, rfl, .inr ⟨t, _, rfl, SqT.of et, one_le, fun fl hfl => ?_⟩⟩
    have s0 := same_new (o := .lst [.ref t]) hfl
    have e0 : upd H fl (.lst [.ref t]) fl = some (.lst ([] ++ [V.ref t])) := upd_same
    generalize upd H fl (.lst [.ref t]) = H1 at s0 e0
    refine ⟨_, rfl, pl, rfl, ⟨_, SqT.of (s0 _ _ epl)⟩, ?_⟩
    refine for_tup (K := K) (a := pl) (xs := qs.map V.ref) (fun i σ G => ∃ (v3 v4 : Option V) (ts : List V) (r : Addr) (cs : List Cell), σ = [some (.ref t), some (.ref pl), some (.ref fl), v3, v4] ∧ Same H G ∧ G fl = some (.lst (ts ++ [V.ref r])) ∧ ts.length ≤ i ∧ CellsT G r cs ∧ cs.Nodup ∧ Asc cs ∧ EqC cs (goL L (ms.take i)) ∧ cs.length ≤ 1000)
      ⟨none, none, [], t, L, rfl, s0, e0, Nat.le_refl _, ct.ek (.of s0), nL, aL, fun x => Iff.rfl, lL⟩ (fun i σ G _ ⟨_, _, _, _, _, _, sm, _⟩ => SqT.of (sm _ _ epl)) ?_ ?_
    · rintro i x σ G hi ⟨v3, v4, ts, r, cs, rfl, sm, ef, lts, cc, nC, aC, eC, lC⟩
      rw [List.getElem?_map] at hi
      obtain ⟨q, hq, rfl⟩ := Option.map_eq_some_iff.mp hi
      obtain ⟨⟨a, b⟩, hm, q1, q2, e0, e1, e2⟩ := paired_get prm hq
      have im : i < ms.length := (List.getElem?_eq_some_iff.mp hm).1
      have e1 : At G q1 a := sm _ _ e1
      have e2 : At G q2 b := sm _ _ e2
      have st : ms.take (i + 1) = ms.take i ++ [(a, b)] := take_snoc hm
      have mvL : mayW (goL L (ms.take i)) a b = true := by
        rw [← List.take_append_drop (i + 1) ms, st, goB_app, goB_app] at gb
        simp only [Bool.and_eq_true] at gb
        have := gb.1.2
        have : (mayW (goL L (ms.take i)) a b && true) = true := this
        rwa [Bool.and_true] at this
      have mv : mayW cs a b = true := by rw [may_cong eC]; exact mvL
      refine ⟨q, _, rfl, SqT.of (sm _ _ e0), rfl, _, _, rfl, _, _, rfl, rfl, ?_⟩
      refine ⟨_, rfl, _, rfl, fl, _, _, _, rfl, rfl, SqL.of ef, atI_last _ _, _, rfl, _, rfl, r, q1, q2, cs, a, b, rfl, cc, nC, lC, e1, e2, fun G2 s2 => ?_⟩
      rw [mv]
      refine ⟨_, rfl, iteF ?_⟩
      have ef2 := s2 _ _ ef
      refine ⟨_, rfl, .inl ⟨rfl, _, SqL.of ef2⟩, _, rfl, _, rfl, fl, _, _, _, rfl, rfl, SqL.of ef2, atI_last _ _, _, rfl, _, rfl, r, q1, q2, cs, a, b, rfl, cc.ek (.of s2), lC, s2 _ _ e1, s2 _ _ e2, fun r3 G3 ds s3 cd pm asc => ?_⟩
      have ef3 := s3 _ _ ef2
      have sm3 := (sm.trans s2).trans s3
      obtain ⟨_, nS, lS⟩ := may_step (m := (a, b)) nC mv
      refine ⟨fl, _, _, rfl, rfl, ef3, by rw [List.length_append, sizeLine_eq]; show ts.length + 1 < _; omega, ?_⟩
      have tu : Tk G3 (upd G3 fl (.lst ((ts ++ [V.ref r]) ++ [V.ref r3]))) := upd_tu ef3 (by intro xs z; cases z)
      obtain ⟨dq, ed, prd⟩ := cd
      refine ⟨_, _, ts ++ [V.ref r], r3, ds, rfl, same_put sm3 hfl, upd_same, by rw [List.length_append]; exact Nat.succ_le_succ lts, ⟨dq, tu _ _ ed, paired_imp (fun _ _ h => At.tk h tu) prd⟩, pm.nodup_iff.mpr nS, asc, fun x => ?_, by rw [pm.length_eq]; exact lS ▸ lC⟩
      rw [st, goL_snoc, ← step_cong eC (a, b) x]
      exact pm.mem_iff
    · rintro σ G ⟨v3, v4, ts, r, cs, rfl, sm, ef, lts, cc, nC, aC, eC, lC⟩
      rw [List.length_map, lq, List.take_length] at eC
      exact ⟨_, rfl, k fl G ts r cs sm ef cc nC aC eC⟩
theorem scT4l : FnScope tlN ["_law_cells", "_law_plan", "_law_other"] (defScope lT4leads) := ⟨rfl, rfl, rfl, by decide +kernel, rfl, by decide +kernel, by decide +kernel⟩
theorem ok_t4leads {f : Addr} {fd : FuncData} (F : FnP K "_law_t4leads" lT4leads f fd) (B : Bl mg) (DB : Df P w K mg base CX0 4 "_law_t4bodies" ["_law_cells", "_law_plan"] spT4bodies) :
    FnOk P w K mg base CX0 5 f fd ["_law_cells", "_law_plan", "_law_other"] spT4leads := by
  refine F.ok scT4l (fun vs H Q E h => ?_) (fun cdv A outer s H vs Q E hr h => ?_)
  · obtain ⟨t, pl, u, L, G, ms, rfl, _⟩ := h
    rfl
  · obtain ⟨t, pl, u, L, G, ms, rfl, ct, nL, aL, hL, lL, cu, nG, aG, pp, lms, gb, eq, k⟩ := h
    have h64 := room64 hr
    refine ⟨_, PSs.nox (pss_cons (ps_if (PW.pt (pw_or (pt_not (pt_val (pe_callB call_isi (by rfl) B.isinstance PyProof.Rows.boot_isinstance (pa_cons (pv 1) (pa_cons (pe_bltn (v := .ty "tuple") (by rfl) B.tuple PyProof.Rows.boot_tuple rfl) pa_nil))))) (pw_or1 (pt_cmpR (op_neK (K := K) rfl h64) (pe_lc (own := [("_law_pair", 3)]) (g := gName 3) rfl scT4l.nd (pi_tup (pv 1)) (blkOk_by (N := tlN) (sc := defScope lT4leads) (by decide +kernel)) (fun _ _ _ _ _ => pg_name (i := 3) scT4l.nd rfl (Or.inl rfl)) (fun _ _ _ _ _ => (pts_one (PW.pt (pw_or (pt_not (pt_val (pe_callB (call_isiKW (K := K) rfl) (by rfl) B.isinstance PyProof.Rows.boot_isinstance (pa_cons (pv 3) (pa_cons (pe_bltn (v := .ty "tuple") (by rfl) B.tuple PyProof.Rows.boot_tuple rfl) pa_nil))))) (pw_or1 (pt_cmpR op_ne (pe_callB (call_lenKW (K := K) rfl) (by rfl) B.len PySem.boot_len (pa_cons (pv 3) pa_nil)) pe_int (nomark _))))))) (fun _ _ _ _ _ => (pv 3))) (pe_lst pa_nil) (nomark _)))))
      (pss_one (ps_ret pe_bl))
      pss_nil)
      (pss_cons (ps_set (i := 4) scT4l.nd rfl (.inl rfl) (pe_df DB hr (by rfl) pass0 (pa_cons (pv 0) (pa_cons (pv 1) pa_nil))))
      (pss_one (ps_ret (pe_and (pe_cmpR op_notN (pv 4) pe_non (nomark _)) (pe_one (pe_cmpR (op_eqK (K := K) rfl h64) (pe_ix (ix_listK (K := K) rfl) (pv 4) (pe_un un_neg pe_int) (fun _ _ => rfl)) (pe_tupleOf (by rfl) B.tuple (pv 2)) (nomark _)))))))), ?_⟩
    obtain ⟨qs, epl, prm⟩ := id pp
    have lq : qs.length = ms.length := Paired.length prm
    refine ⟨_, rfl, _, _, _, _, _, rfl, .ty "tuple", (Kd.tup (K := K) epl).ty, kd_isi (T := "tuple") (by decide) (by decide), _, rfl, ?_⟩
    refine ⟨_, rfl, pl, rfl, ⟨_, SqT.of epl⟩, fun D hD => ?_⟩
    refine lc_cells (walk_tup (K := K) (a := pl) (xs := qs.map V.ref)) hD (fun i => []) rfl (by rw [List.length_map]; omega) (fun i G' _ sm => SqT.of (sm _ _ epl)) ?_ ?_
    · rintro i x G1 G' K1 K0 hi sm ⟨rfl, hx⟩ k1 k0
      rw [List.getElem?_map] at hx
      obtain ⟨q, hq, rfl⟩ := Option.map_eq_some_iff.mp hx
      obtain ⟨m, hm, q1, q2, e0, e1, e2⟩ := paired_get prm hq
      have e0' := sm _ _ e0
      refine ⟨rfl, _, rfl, _, _, _, _, _, rfl, .ty "tuple", (Kd.tup (K := K) e0').ty, kd_isi (T := "tuple") (by decide) (by decide), _, rfl, ?_⟩
      refine ⟨_, rfl, q, _, rfl, .inr (SqT.of e0'), rfl, _, rfl, ?_⟩
      exact k0 _ same_refl rfl
    rintro G1 rs sm gD pr2
    have pr2 : Paired (fun q c => At G1 q c) rs ([] : List Cell) := pr2
    have ers : rs = [] := by
      have := Paired.length pr2
      exact List.length_eq_zero_iff.mp this
    refine ⟨Nat.zero_le _, fun e8 he8 => ?_⟩
    have s8 := same_new (o := .lst []) he8
    refine ⟨.list [], .list [], .lst (SqL.of (by rw [s8 _ _ gD, ers]; rfl)) .nil, .lst (SqL.of upd_same) .nil, (lay_list (n := 0) (ds := []) (by simp)).shaped (by decide), (lay_list (n := 0) (ds := []) (by simp)).shaped (by decide), _, rfl, ?_⟩
    have sm8 := sm.trans s8
    generalize upd G1 e8 (.lst []) = G8 at sm8
    refine iteF ?_
    refine ⟨_, rfl, _, rfl, t, pl, L, ms, rfl, ct.ek (.of sm8), nL, aL, hL, lL, pp.same sm8, lms, gb, fun l G2 ts r cs s2 el cc nC aC eC => ?_⟩
    have e : cs = G := (asc_eq nC nG aC aG).mpr (eqC_trans eC eq)
    subst e
    have sm2 := sm8.trans s2
    obtain ⟨uq, eu, pru⟩ := id cu
    refine ⟨_, rfl, rfl, _, rfl, iteT ?_⟩
    refine ⟨_, rfl, _, rfl, l, _, _, _, rfl, rfl, SqL.of el, atI_last _ _, _, rfl, .inr ⟨u, _, rfl, SqT.of (sm2 _ _ eu), ?_⟩⟩
    refine ⟨.tuple (cs.map cD), .tuple (cs.map cD), cc.dp, (cu.ek (.of sm2)).dp, lay_cellsTW.shaped (by decide), lay_cellsTW.shaped (by decide), ?_⟩
    rw [cs_eqvW, decide_eq_true rfl]
    exact k G2 sm2
end
end Sq

set_option Elab.async false
set_option linter.all false
set_option maxRecDepth 100000
set_option maxHeartbeats 4000000
/-! Bodies as keys and as data; dicts of bodies. -/
namespace Sq
open PySem PySem.Spec PyProof.Rows L2
def bD (L : List Cell) : PyData := .tuple (L.map cD)
def keyB (L : List Cell) : NK := nkD (bD L)
theorem nkB_all : ∀ L : List Cell, keyAll (L.map cD) = true ∧ NestedKey.depthAll (nkAll (L.map cD)) ≤ 1
  | [] => ⟨rfl, Nat.zero_le _⟩
  | c :: L => by
    obtain ⟨h1, h2⟩ := nkB_all L
    refine ⟨?_, ?_⟩
    · show (keyD (cD c) && keyAll (L.map cD)) = true
      rw [h1]
      rfl
    · show max (NestedKey.depth (nkD (cD c))) (NestedKey.depthAll (nkAll (L.map cD))) ≤ 1
      exact Nat.max_le.mpr ⟨by show NestedKey.depthAll [.num c.1, .num c.2] + 1 ≤ 1; exact Nat.le_refl 1, h2⟩
theorem nkB_inj : ∀ {L M : List Cell}, nkAll (L.map cD) = nkAll (M.map cD) → L = M
  | [], [], _ => rfl
  | [], _ :: _, h => by
    have h : ([] : List NK) = nkD _ :: nkAll _ := h
    cases h
  | _ :: _, [], h => by
    have h : nkD _ :: nkAll _ = ([] : List NK) := h
    cases h
  | c :: L, d :: M, h => by
    have h : (NestedKey.tup [.num c.1, .num c.2]) :: nkAll (L.map cD) = (NestedKey.tup [.num d.1, .num d.2]) :: nkAll (M.map cD) := h
    obtain ⟨h1, h2⟩ := List.cons.inj h
    have h1 := NestedKey.tup.inj h1
    obtain ⟨e1, h1⟩ := List.cons.inj h1
    obtain ⟨e2, _⟩ := List.cons.inj h1
    rw [nkB_inj h2, show c = d from Prod.ext (NestedKey.num.inj e1) (NestedKey.num.inj e2)]
theorem keyB_inj {L M : List Cell} (h : keyB L = keyB M) : L = M := by
  have h : NestedKey.tup (nkAll (L.map cD)) = NestedKey.tup (nkAll (M.map cD)) := h
  exact nkB_inj (NestedKey.tup.inj h)
theorem keyB_depth (L : List Cell) : (keyB L).depth ≤ 8 := by
  show NestedKey.depthAll (nkAll (L.map cD)) + 1 ≤ 8
  have h1 := (nkB_all L).2
  omega
theorem CellsT.natB {K : PySem.W.Frag} {H : Hp} {t : Addr} {L : List Cell} (h : CellsT H t L) : NAt K H t (keyB L) := ⟨⟨_, h.dp, (nkB_all L).1, rfl⟩, keyB_depth L⟩
theorem lay_bD (L : List Cell) : Lay 2 (bD L) := lay_cellsT7
theorem eqv_bD (L M : List Cell) : PyData.eqv (bD L) (bD M) = decide (L = M) := by
  by_cases h : L = M
  · subst h
    rw [eqv_self (lay_bD L), decide_eq_true rfl]
  · rw [decide_eq_false h]
    refine Bool.eq_false_iff.mpr fun e => h ?_
    have key : ∀ L M : List Cell, PyData.eqvAll (L.map cD) (M.map cD) = true → L = M := by
      intro L
      induction L with
      | nil =>
        intro M e
        cases M with
        | nil => rfl
        | cons d M => exact absurd e (by simp [PyData.eqvAll])
      | cons c L ih =>
        intro M e
        cases M with
        | nil => exact absurd e (by simp [PyData.eqvAll])
        | cons d M =>
          have e : (PyData.eqv (cD c) (cD d) && PyData.eqvAll (L.map cD) (M.map cD)) = true := e
          rw [Bool.and_eq_true, cD_eqv, decide_eq_true_iff] at e
          rw [e.1, ih M e.2]
    have e : PyData.eqvAll (L.map cD) (M.map cD) = true := e
    exact key L M e
/-! ### their order -/
/-- A stands ahead of M, or is M -/
def bLe (A M : List Cell) : Prop := PySem.W.dataLt (bD M) (bD A) = false
theorem toksB_inj : ∀ {L M : List Cell}, PySem.W.keyToksAll (L.map cD) = PySem.W.keyToksAll (M.map cD) → L = M
  | [], [], _ => rfl
  | [], d :: M, h => by
    have tk : PySem.W.keyToks (cD d) = [.inl 1, .inl d.1, .inl 1, .inl d.2, .inl 0] := by simp [cD, PySem.W.keyToks, PySem.W.keyToksAll]
    simp [PySem.W.keyToksAll, tk] at h
  | c :: L, [], h => by
    have tk : PySem.W.keyToks (cD c) = [.inl 1, .inl c.1, .inl 1, .inl c.2, .inl 0] := by simp [cD, PySem.W.keyToks, PySem.W.keyToksAll]
    simp [PySem.W.keyToksAll, tk] at h
  | c :: L, d :: M, h => by
    have tk : ∀ c : Cell, PySem.W.keyToks (cD c) = [.inl 1, .inl c.1, .inl 1, .inl c.2, .inl 0] := fun c => by simp [cD, PySem.W.keyToks, PySem.W.keyToksAll]
    rw [List.map_cons, List.map_cons, PySem.W.keyToksAll, PySem.W.keyToksAll, tk, tk] at h
    simp at h
    obtain ⟨h1, h2, h3⟩ := h
    rw [toksB_inj h3, show c = d from Prod.ext h1 h2]
theorem bLe_anti {m n : List Cell} (h : bLe m n) (k : bLe n m) : m = n := by
  have e := PyProof.Rows.KeyOrd.kle_antisymm (O := PyProof.Rows.listOrd PyProof.Rows.itemOrd) (a := PySem.W.keyToks (bD m)) (b := PySem.W.keyToks (bD n)) h k
  have e : PySem.W.keyToks (.tuple (m.map cD)) = PySem.W.keyToks (.tuple (n.map cD)) := e
  rw [PySem.W.keyToks, PySem.W.keyToks] at e
  exact toksB_inj (by simpa using e)
theorem bs_same {A M : List (List Cell)} (nA : A.Nodup) (nM : M.Nodup) (sa : A.Pairwise bLe) (sm : M.Pairwise bLe) (mem : ∀ x, x ∈ A ↔ x ∈ M) : A = M :=
  List.Perm.eq_of_pairwise (le := bLe) (fun x y _ _ h k => bLe_anti h k) sa sm ((List.perm_ext_iff_of_nodup nA nM).mpr mem)
/-! ### dicts of bodies -/
/-- a dict whose keys are these bodies -/
def BDc (P : Program) (w : World) (H : Hp) (a : Addr) (E : List NEnt) (Bs : List (List Cell)) : Prop := DN P w H a E ∧ Paired (fun l B => CellsT H l.1 B ∧ l.2.1 = keyB B) E Bs
theorem BDc.nat {P : Program} {w : World} {K : PySem.W.Frag} {H : Hp} {a : Addr} {E : List NEnt} {Bs : List (List Cell)} (h : BDc P w H a E Bs) : ∀ l ∈ E, NAt K H l.1 l.2.1 := fun l hl => by
  obtain ⟨B, _, c, e⟩ := paired_memL h.2 l hl
  rw [e]
  exact c.natB
theorem DN.same {P : Program} {w : World} {H G : Hp} {a : Addr} {E : List NEnt} (h : DN P w H a E) (k : Same H G) : DN P w G a E := by
  rcases h with e | ⟨z, e⟩
  · exact .inl (k _ _ e)
  · exact .inr ⟨z, k _ _ e⟩
theorem BDc.same {P : Program} {w : World} {H G : Hp} {a : Addr} {E : List NEnt} {Bs : List (List Cell)} (h : BDc P w H a E Bs) (k : Same H G) : BDc P w G a E Bs :=
  ⟨h.1.same k, paired_imp (fun _ _ ⟨c, e⟩ => ⟨c.same k, e⟩) h.2⟩
theorem BDc.val {P : Program} {w : World} {H : Hp} {a : Addr} {E : List NEnt} {Bs : List (List Cell)} (h : BDc P w H a E Bs) (B : List Cell) : (valN E (keyB B)).isSome = decide (B ∈ Bs) := by
  have pr := h.2
  clear h
  unfold valN
  rw [Option.isSome_map]
  induction pr with
  | nil => rfl
  | @cons l M E Bs r _ ih =>
    rw [List.find?_cons]
    by_cases z : l.2.1 = keyB B
    · rw [decide_eq_true z]
      have : B = M := keyB_inj (z.symm.trans r.2)
      rw [this, decide_eq_true (List.mem_cons_self ..)]
      rfl
    · rw [decide_eq_false z]
      have ne : B ≠ M := fun q => z (by rw [r.2, q])
      dsimp only
      rw [ih, Bool.eq_iff_iff, decide_eq_true_iff, decide_eq_true_iff]
      simp [ne]
/-- one more body -/
def putB (Bs : List (List Cell)) (B : List Cell) : List (List Cell) := if B ∈ Bs then Bs else Bs ++ [B]
theorem putB_len (Bs : List (List Cell)) (B : List Cell) : (putB Bs B).length ≤ Bs.length + 1 := by
  unfold putB
  split
  · exact Nat.le_succ _
  · rw [List.length_append]
    exact Nat.le_refl _
theorem putB_mem {Bs : List (List Cell)} {B M : List Cell} : M ∈ putB Bs B ↔ M ∈ Bs ∨ M = B := by
  unfold putB
  split
  · rename_i h
    exact ⟨.inl, fun z => z.elim id fun q => q ▸ h⟩
  · simp
theorem putB_nd {Bs : List (List Cell)} {B : List Cell} (h : Bs.Nodup) : (putB Bs B).Nodup := by
  unfold putB
  split
  · exact h
  · rename_i n
    exact List.nodup_append.mpr ⟨h, List.pairwise_singleton _ _, fun a ha b hb z => n (List.mem_singleton.mp hb ▸ z ▸ ha)⟩
theorem BDc.put {P : Program} {w : World} {H : Hp} {a b : Addr} {E : List NEnt} {Bs : List (List Cell)} {B : List Cell} {v : V} (h : BDc P w H a E Bs) (cb : CellsT H b B) : BDc P w (upd H a (DNO P w a (putN E b (keyB B) v))) a (putN E b (keyB B) v) (putB Bs B) := by
  have tk : Tk H (upd H a (DNO P w a (putN E b (keyB B) v))) := by
    rcases h.1 with e | ⟨_, e⟩
    · exact tk_upd e fun xs z => nomatch z
    · exact tk_upd e fun xs z => nomatch z
  generalize eU : upd H a (DNO P w a (putN E b (keyB B) v)) = U at tk
  have pr : Paired (fun l B => CellsT U l.1 B ∧ l.2.1 = keyB B) E Bs := paired_imp (fun _ _ ⟨c, e⟩ => ⟨cellsT_tu c tk, e⟩) h.2
  refine ⟨.inl (by rw [← eU]; exact upd_same), ?_⟩
  have hv := h.val B
  unfold putN putB
  rw [valN_any, hv]
  by_cases m : B ∈ Bs
  · rw [decide_eq_true m, if_pos rfl, if_pos m]
    clear hv m h eU
    induction pr with
    | nil => exact .nil
    | @cons l M E Bs r _ ih =>
      refine .cons ?_ ih
      dsimp only
      split
      · exact r
      · exact r
  · rw [decide_eq_false m, if_neg (by simp), if_neg m]
    exact pr.snoc ⟨cellsT_tu cb tk, rfl⟩
theorem BDc.len {P : Program} {w : World} {H : Hp} {a : Addr} {E : List NEnt} {Bs : List (List Cell)} (h : BDc P w H a E Bs) : E.length = Bs.length := Paired.length h.2
theorem BDc.dps {P : Program} {w : World} {K : PySem.W.Frag} {H : Hp} {a : Addr} {E : List NEnt} {Bs : List (List Cell)} (h : BDc P w H a E Bs) : Paired (fun l b => CellsT H l.1 b ∧ Dp K H (.ref l.1) (bD b)) E Bs := paired_imp (fun _ _ ⟨c, _⟩ => ⟨c, c.dp⟩) h.2
end Sq

set_option Elab.async false
set_option linter.all false
set_option maxRecDepth 100000
set_option maxHeartbeats 4000000
/-! Shapes: bodies moved to the corner; how they grow. -/
namespace Sq
open PySem PySem.Spec PyProof.Rows L2
/-- the least of some numbers -/
def loI : List Int → Int
  | [] => 0
  | [x] => x
  | x :: y :: xs => if x ≤ loI (y :: xs) then x else loI (y :: xs)
theorem loI_is : ∀ {xs : List Int}, xs ≠ [] → loI xs ∈ xs ∧ ∀ x ∈ xs, loI xs ≤ x
  | [], h => absurd rfl h
  | [x], _ => ⟨List.mem_singleton.mpr rfl, fun y hy => by rw [List.mem_singleton.mp hy]; exact Int.le_refl _⟩
  | x :: y :: xs, _ => by
    obtain ⟨h1, h2⟩ := loI_is (xs := y :: xs) (by simp)
    unfold loI
    by_cases h : x ≤ loI (y :: xs)
    · rw [if_pos h]
      refine ⟨List.mem_cons_self .., fun z hz => ?_⟩
      rcases List.mem_cons.mp hz with e | e
      · rw [e]; exact Int.le_refl _
      · exact Int.le_trans h (h2 z e)
    · rw [if_neg h]
      refine ⟨List.mem_cons_of_mem _ h1, fun z hz => ?_⟩
      rcases List.mem_cons.mp hz with e | e
      · rw [e]; omega
      · exact h2 z e
theorem loI_of {xs : List Int} {m : Int} (hm : m ∈ xs) (h : ∀ x ∈ xs, m ≤ x) : loI xs = m := by
  obtain ⟨h1, h2⟩ := loI_is (xs := xs) (List.ne_nil_of_mem hm)
  exact Int.le_antisymm (h2 m hm) (h _ h1)
theorem loI_mem {xs ys : List Int} (h : ∀ x, x ∈ xs ↔ x ∈ ys) : loI xs = loI ys := by
  cases ys with
  | nil =>
    cases xs with
    | nil => rfl
    | cons x xs => exact absurd ((h x).mp (List.mem_cons_self ..)) (by simp)
  | cons y ys =>
    obtain ⟨h1, h2⟩ := loI_is (xs := y :: ys) (by simp)
    exact loI_of ((h _).mpr h1) fun x hx => h2 x ((h x).mp hx)
theorem loI_add {xs : List Int} {b : Int} (ne : xs ≠ []) : loI (xs.map (· + b)) = loI xs + b := by
  obtain ⟨h1, h2⟩ := loI_is ne
  refine loI_of (List.mem_map.mpr ⟨_, h1, rfl⟩) fun x hx => ?_
  obtain ⟨y, hy, rfl⟩ := List.mem_map.mp hx
  have := h2 y hy
  omega
/-- by what a body comes to the corner -/
def cornC (L : List Cell) : Cell := (-loI (L.map (·.1)), -loI (L.map (·.2)))
def ascC (L : List Cell) : List Cell := L.mergeSort fun a b => !cLt b a
theorem ascC_perm (L : List Cell) : (ascC L).Perm L := List.mergeSort_perm L _
theorem ascC_asc (L : List Cell) : Asc (ascC L) := by
  have pw := List.pairwise_mergeSort (le := fun a b : Cell => !cLt b a)
    (fun a b c h k => by
      have h : cLt b a = false := by simpa using h
      have k : cLt c b = false := by simpa using k
      have h := of_decide_eq_false h
      have k := of_decide_eq_false k
      show (!cLt c a) = true
      rw [show cLt c a = false from decide_eq_false (by omega)]
      rfl)
    (fun a b => by
      cases h : cLt b a with
      | false => rfl
      | true =>
        rw [cLt_asym h]
        rfl) L
  exact pw.imp fun {a b} h => by simpa using h
theorem ascC_of {A L : List Cell} (h : A.Perm L) (asc : Asc A) : A = ascC L :=
  List.Perm.eq_of_pairwise (le := fun x y => cLt y x = false) (fun x y _ _ h k => cLt_tri k h) asc (ascC_asc L) (h.trans (ascC_perm L).symm)
theorem ascC_eq {A L : List Cell} (h : A.Perm L) : ascC A = ascC L := ascC_of ((ascC_perm A).trans h) (ascC_asc A)
/-- the shape -/
def shp (L : List Cell) : List Cell := ascC (L.map (shC (cornC L)))
theorem cornC_mem {L M : List Cell} (h : ∀ x, x ∈ L ↔ x ∈ M) : cornC L = cornC M := by
  unfold cornC
  have e : ∀ f : Cell → Int, loI (L.map f) = loI (M.map f) := fun f => loI_mem fun x => by
    simp only [List.mem_map, h]
  rw [e, e]
theorem shp_perm {L M : List Cell} (h : L.Perm M) : shp L = shp M := by
  unfold shp
  rw [cornC_mem fun x => h.mem_iff]
  exact ascC_eq (h.map _)
theorem shp_asc {L : List Cell} (h : Asc L) : L.map (shC (cornC L)) = shp L := ascC_of (List.Perm.refl _) (asc_sh h)
theorem shp_len (L : List Cell) : (shp L).length = L.length := by
  unfold shp
  rw [(ascC_perm _).length_eq, List.length_map]
theorem shp_mem {L : List Cell} {x : Cell} : x ∈ shp L ↔ x ∈ L.map (shC (cornC L)) := (ascC_perm _).mem_iff
theorem shp_nd {L : List Cell} (h : L.Nodup) : (shp L).Nodup := (ascC_perm _).nodup_iff.mpr (nodup_sh h)
theorem shp_isAsc (L : List Cell) : Asc (shp L) := ascC_asc _
theorem shp_perm_self (L : List Cell) : (shp L).Perm (L.map (shC (cornC L))) := ascC_perm _
theorem cornC_sh {L : List Cell} {b : Cell} (ne : L ≠ []) : cornC (L.map (shC b)) = ((cornC L).1 - b.1, (cornC L).2 - b.2) := by
  unfold cornC
  have e1 : (L.map (shC b)).map (·.1) = (L.map (·.1)).map (· + b.1) := by rw [List.map_map, List.map_map]; rfl
  have e2 : (L.map (shC b)).map (·.2) = (L.map (·.2)).map (· + b.2) := by rw [List.map_map, List.map_map]; rfl
  have n1 : L.map (·.1) ≠ [] := fun z => ne (List.map_eq_nil_iff.mp z)
  have n2 : L.map (·.2) ≠ [] := fun z => ne (List.map_eq_nil_iff.mp z)
  rw [e1, e2, loI_add n1, loI_add n2]
  exact Prod.ext (by dsimp only; omega) (by dsimp only; omega)
theorem shC_shC (a b : Cell) (L : List Cell) : (L.map (shC a)).map (shC b) = L.map (shC (a.1 + b.1, a.2 + b.2)) := by
  rw [List.map_map]
  refine List.map_congr_left fun c _ => ?_
  unfold shC
  exact Prod.ext (by dsimp only [Function.comp]; omega) (by dsimp only [Function.comp]; omega)
theorem shp_sh {L : List Cell} {b : Cell} : shp (L.map (shC b)) = shp L := by
  by_cases ne : L = []
  · subst ne
    rfl
  unfold shp
  rw [cornC_sh ne, shC_shC]
  congr 2
  refine congrArg shC (Prod.ext ?_ ?_)
  · dsimp only; omega
  · dsimp only; omega
theorem shp_shp (L : List Cell) : shp (shp L) = shp L := by rw [shp_perm (shp_perm_self L), shp_sh]
theorem shp_hangs {L : List Cell} (h : Hangs L) : Hangs (shp L) := (hangs_perm fun x => shp_mem).mpr (hangs_sh.mpr h)
/-- the shapes of n squares -/
inductive IsShape : Nat → List Cell → Prop
  | one : IsShape 1 [(0, 0)]
  | more {n : Nat} {S : List Cell} {s c : Cell} : IsShape n S → s ∈ S → c ∈ besideC s → c ∉ S → IsShape (n + 1) (shp (S ++ [c]))
theorem IsShape.pos {n : Nat} {S : List Cell} (h : IsShape n S) : 1 ≤ n := by
  induction h with
  | one => exact Nat.le_refl _
  | more _ _ _ _ ih => exact Nat.le_succ_of_le ih
theorem nodup_snoc {S : List Cell} {c : Cell} (h : S.Nodup) (n : c ∉ S) : (S ++ [c]).Nodup := List.nodup_append.mpr ⟨h, List.pairwise_singleton _ _, fun a ha b hb z => n (List.mem_singleton.mp hb ▸ z ▸ ha)⟩
theorem IsShape.len {n : Nat} {S : List Cell} (h : IsShape n S) : S.length = n := by
  induction h with
  | one => rfl
  | more _ _ _ _ ih => rw [shp_len, List.length_append, ih]; rfl
theorem IsShape.nd {n : Nat} {S : List Cell} (h : IsShape n S) : S.Nodup := by
  induction h with
  | one => exact List.pairwise_singleton _ _
  | more _ _ _ nc ih => exact shp_nd (nodup_snoc ih nc)
theorem IsShape.asc {n : Nat} {S : List Cell} (h : IsShape n S) : Asc S := by
  cases h with
  | one => exact List.pairwise_singleton _ _
  | more _ _ _ _ => exact shp_isAsc _
theorem IsShape.ne {n : Nat} {S : List Cell} (h : IsShape n S) : S ≠ [] := fun z => by
  have := h.len
  have := h.pos
  rw [z] at *
  simp at *
  omega
theorem shp_one (a : Cell) : shp [a] = [(0, 0)] := by
  refine (shp_asc (List.pairwise_singleton _ a)).symm.trans ?_
  show [shC (-a.1, -a.2) a] = _
  unfold shC
  congr 1
  exact Prod.ext (by dsimp only; omega) (by dsimp only; omega)
theorem IsShape.shp {n : Nat} {S : List Cell} (h : IsShape n S) : shp S = S := by
  cases h with
  | one => exact shp_one _
  | more _ _ _ _ => exact shp_shp _
theorem hangs_snocX {S : List Cell} {s c : Cell} (h : Hangs S) (hs : s ∈ S) (hc : c ∈ besideC s) : Hangs (S ++ [c]) := by
  have r : ∀ {a b : Cell}, Reach S a b → Reach (S ++ [c]) a b := fun {a b} z => by
    induction z with
    | refl => exact .refl
    | step _ hb hc ih => exact ih.step hb (List.mem_append_left _ hc)
  have one : ∀ x ∈ S ++ [c], Reach (S ++ [c]) s x ∧ Reach (S ++ [c]) x s := fun x hx => by
    rcases List.mem_append.mp hx with m | m
    · exact ⟨r (h.2 s hs x m), r (h.2 x m s hs)⟩
    · rw [List.mem_singleton.mp m]
      refine ⟨Reach.refl.step hc (List.mem_append_right _ (List.mem_singleton.mpr rfl)), ?_⟩
      refine Reach.refl.step ?_ (List.mem_append_left _ hs)
      rw [beside_iff] at hc ⊢
      omega
  refine ⟨by simp, fun x hx y hy => ?_⟩
  have t : ∀ {a b d : Cell}, Reach (S ++ [c]) a b → Reach (S ++ [c]) b d → Reach (S ++ [c]) a d := fun {a b d} h1 h2 => by
    induction h2 with
    | refl => exact h1
    | step _ hb hc ih => exact ih.step hb hc
  exact t (one x hx).2 (one y hy).1
theorem IsShape.hangs {n : Nat} {S : List Cell} (h : IsShape n S) : Hangs S := by
  induction h with
  | one => exact ⟨by simp, fun x hx y hy => by rw [List.mem_singleton.mp hx, List.mem_singleton.mp hy]; exact .refl⟩
  | more _ hs hc _ ih => exact shp_hangs (hangs_snocX ih hs hc)
/-- what grows has such a shape -/
theorem grown_shape : ∀ (n : Nat) {A : List Cell}, A.length = n → Grown A → A.Nodup → A ≠ [] → IsShape A.length (shp A)
  | 0, A, l, _, _, ne => absurd (List.length_eq_zero_iff.mp l) ne
  | n + 1, A, l, g, nd, ne => by
    obtain ⟨A', x, rfl⟩ := snoc_inv ne
    have l' : A'.length = n := by rw [List.length_append] at l; exact Nat.succ.inj l
    by_cases z : A' = []
    · subst z
      rw [List.nil_append, shp_one]
      exact .one
    have nd' : A'.Nodup := (List.nodup_append.mp nd).1
    have nx : x ∉ A' := fun m => (List.nodup_append.mp nd).2.2 x m x (List.mem_singleton.mpr rfl) rfl
    have g' : Grown A' := by
      have := g.take A'.length
      rwa [List.take_left'  rfl] at this
    have ih := grown_shape n l' g' nd' z
    have lp : 0 < A'.length := List.length_pos_iff.mpr z
    obtain ⟨j, y, hj, hy, hb⟩ := g (A'.length - 1) x (by rw [Nat.sub_add_cancel lp]; simp)
    have hy' : y ∈ A' := by
      rw [List.getElem?_append_left (by omega)] at hy
      exact List.mem_of_getElem? hy
    have e : shp (A' ++ [x]) = shp (shp A' ++ [shC (cornC A') x]) := by
      rw [← shp_sh (L := A' ++ [x]) (b := cornC A'), List.map_append]
      exact shp_perm ((shp_perm_self A').symm.append_right _)
    rw [e, List.length_append]
    refine ih.more (s := shC (cornC A') y) (shp_mem.mpr (mem_sh.mpr hy')) (sh_beside hb) fun m => nx (mem_sh.mp (shp_mem.mp m))
/-- what comes out of some shapes by one square more -/
def GrowB (Bs : List (List Cell)) (B : List Cell) : Prop := ∃ S ∈ Bs, ∃ s ∈ S, ∃ c ∈ besideC s, c ∉ S ∧ B = shp (S ++ [c])
/-- all shapes of n squares, each once -/
structure AllSh (n : Nat) (Bs : List (List Cell)) : Prop where
  nd : Bs.Nodup
  mem : ∀ B, B ∈ Bs ↔ IsShape n B
theorem AllSh.grow {n : Nat} {Bs Cs : List (List Cell)} (h : AllSh n Bs) (n1 : 1 ≤ n) (nd : Cs.Nodup) (mem : ∀ B, B ∈ Cs ↔ GrowB Bs B) : AllSh (n + 1) Cs := by
  refine ⟨nd, fun B => (mem B).trans ⟨?_, fun k => ?_⟩⟩
  · rintro ⟨S, hS, s, hs, c, hc, nc, rfl⟩
    exact ((h.mem S).mp hS).more hs hc nc
  · cases k with
    | one => omega
    | more k hs hc nc => exact ⟨_, (h.mem _).mpr k, _, hs, _, hc, nc, rfl⟩
end Sq

set_option Elab.async false
set_option linter.all false
set_option maxRecDepth 100000
set_option maxHeartbeats 4000000
/-! frame_of, shape_of. -/
namespace Sq
open PySem PySem.Spec PyProof.Rows L2
section
variable {P : Program} {w : World} {K : PySem.W.Frag} {mg : Str → Option Value} {base : Heap}
end
end Sq

set_option Elab.async false
set_option linter.all false
set_option maxRecDepth 100000
set_option maxHeartbeats 8000000
/-! All shapes, as the program finds them. -/
namespace Sq
open PySem PySem.Spec PyProof.Rows L2
/-- a dict of bodies that is being filled: what is in it so far -/
structure GsI (P : Program) (w : World) (H : Hp) (D : Addr) (dn : List Cell → Prop) (lim : Nat) (G : Hp) : Prop where
  sm : Same H G
  ex : ∃ E Fs, BDc P w G D E Fs ∧ Fs.Nodup ∧ (∀ B, B ∈ Fs ↔ dn B) ∧ Fs.length ≤ lim
theorem GsI.same {P : Program} {w : World} {H G G' : Hp} {D : Addr} {dn : List Cell → Prop} {lim : Nat} (I : GsI P w H D dn lim G) (k : Same G G') : GsI P w H D dn lim G' := by
  obtain ⟨E, Fs, h1, h2⟩ := I.ex
  exact ⟨I.sm.trans k, E, Fs, h1.same k, h2⟩
theorem GsI.weak {P : Program} {w : World} {H G : Hp} {D : Addr} {dn dm : List Cell → Prop} {lim lin : Nat} (I : GsI P w H D dn lim G) (k : ∀ B, dn B ↔ dm B) (l : lim ≤ lin) : GsI P w H D dm lin G := by
  obtain ⟨E, Fs, h1, h2, h3, h4⟩ := I.ex
  exact ⟨I.sm, E, Fs, h1, h2, fun B => (h3 B).trans (k B), Nat.le_trans h4 l⟩
theorem GsI.put {P : Program} {w : World} {K : PySem.W.Frag} {H G : Hp} {D r : Addr} {dn : List Cell → Prop} {lim : Nat} {B : List Cell} {v : V} {nx : Hp → Prop} (hD : H D = none) (I : GsI P w H D dn lim G) (big : lim < 16000000) (cr : CellsT G r B) (k : ∀ G', GsI P w H D (fun M => dn M ∨ M = B) (lim + 1) G' → Tk G G' → KpD D G G' → nx G') :
    ∃ (a b : Addr) (k : NK) (L : List NEnt), V.ref D = .ref a ∧ V.ref r = .ref b ∧ DN P w G a L ∧ (∀ l ∈ L, NAt K G l.1 l.2.1) ∧ NAt K G b k ∧ (putN L b k v).length ≤ sizeLine ∧ nx (upd G a (DNO P w a (putN L b k v))) := by
  obtain ⟨E, Fs, h1, h2, h3, h4⟩ := I.ex
  have tk : Tk G (upd G D (DNO P w D (putN E r (keyB B) v))) := by
    rcases h1.1 with e | ⟨_, e⟩
    · exact tk_upd e fun xs z => nomatch z
    · exact tk_upd e fun xs z => nomatch z
  refine ⟨D, r, keyB B, E, rfl, rfl, h1.1, h1.nat, cr.natB, ?_, k _ ⟨fun b o e => ?_, _, _, h1.put cr, putB_nd h2, fun M => ?_, ?_⟩ tk (fun b o nb e => by rw [upd_ne nb]; exact e)⟩
  · have := putN_len (L := E) (b := r) (k := keyB B) (v := v)
    have := h1.len
    rw [sizeLine_eq]
    omega
  · rw [upd_ne (fun z => by rw [z, hD] at e; cases e)]
    exact I.sm _ _ e
  · rw [putB_mem, h3]
  · have := putB_len Fs B
    omega
theorem CellsLL.ek {H G : Hp} {l : Addr} {Bs : List (List Cell)} (h : CellsLL H l Bs) (k : Ek H G) : CellsLL G l Bs := by
  obtain ⟨ts, e, pr⟩ := h
  exact ⟨ts, k.lst e, paired_imp (fun _ _ h => h.ek k) pr⟩
section
variable {P : Program} {w : World} {K : PySem.W.Frag} {mg : Str → Option Value} {base : Heap}
end
end Sq

set_option Elab.async false
set_option linter.all false
set_option maxRecDepth 100000
set_option maxHeartbeats 8000000
/-! All shapes of a number of squares; numbers that are none. -/
namespace Sq
open PySem PySem.Spec PyProof.Rows L2
section
variable {P : Program} {w : World} {K : PySem.W.Frag} {mg : Str → Option Value} {base : Heap}
end
end Sq

set_option Elab.async false
set_option linter.all false
set_option maxRecDepth 100000
set_option maxHeartbeats 8000000
/-! The law: cells beside, the shape. -/
namespace Sq
open PySem PySem.Spec PyProof.Rows L2
/-- the cells beside, in another order -/
def nbC (c : Cell) : List Cell := [(c.1 - 1, c.2), (c.1, c.2 - 1), (c.1, c.2 + 1), (c.1 + 1, c.2)]
theorem mem_nbC {c d : Cell} : d ∈ nbC c ↔ d ∈ besideC c := by
  unfold nbC besideC
  simp only [List.mem_cons, List.not_mem_nil, or_false]
  constructor
  · rintro (h | h | h | h) <;> simp [h]
  · rintro (h | h | h | h) <;> simp [h]
section
variable {P : Program} {w : World} {K : PySem.W.Frag} {mg : Str → Option Value} {base : Heap}
end
end Sq

set_option Elab.async false
set_option linter.all false
set_option maxRecDepth 100000
set_option maxHeartbeats 8000000
/-! The law: all shapes. -/
namespace Sq
open PySem PySem.Spec PyProof.Rows L2
theorem BDc.tk {P : Program} {w : World} {H G : Hp} {a : Addr} {E : List NEnt} {Bs : List (List Cell)} (h : BDc P w H a E Bs) (k : Tk H G) (e : G a = H a) : BDc P w G a E Bs :=
  ⟨by unfold DN; rw [e]; exact h.1, paired_imp (fun _ _ ⟨c, e⟩ => ⟨cellsT_tu c k, e⟩) h.2⟩
section
variable {P : Program} {w : World} {K : PySem.W.Frag} {mg : Str → Option Value} {base : Heap}
end
end Sq

set_option Elab.async false
set_option linter.all false
set_option maxRecDepth 100000
set_option maxHeartbeats 8000000
/-! The law: bodies that grow. -/
namespace Sq
open PySem PySem.Spec PyProof.Rows L2
section
variable {P : Program} {w : World} {K : PySem.W.Frag} {mg : Str → Option Value} {base : Heap}
end
end Sq

set_option Elab.async false
set_option linter.all false
set_option maxRecDepth 100000
set_option maxHeartbeats 4000000
/-! Bodies that some order lets grow; the cells beside them are few. -/
namespace Sq
open PySem PySem.Spec PyProof.Rows L2
def GrownP (A : List Cell) : Prop := ∃ B : List Cell, B.Perm A ∧ Grown B
theorem Grown.p {A : List Cell} (h : Grown A) : GrownP A := ⟨A, .refl _, h⟩
theorem GrownP.snoc {A : List Cell} {a x : Cell} (h : GrownP A) (ha : a ∈ A) (hx : x ∈ besideC a) : GrownP (A ++ [x]) := by
  obtain ⟨B, p, g⟩ := h
  exact ⟨B ++ [x], p.append_right _, g.snoc (p.mem_iff.mpr ha) hx⟩
/-- how many sides of the squares B lie open beside A -/
def rimN (A B : List Cell) : Nat := (B.map fun y => ((nbC y).filter fun x => !decide (x ∈ A)).length).sum
theorem rimN_mono {A C : List Cell} (h : ∀ x ∈ A, x ∈ C) : ∀ B : List Cell, rimN C B ≤ rimN A B
  | [] => Nat.le_refl _
  | y :: B => by
    have ih := rimN_mono h B
    have e1 : ∀ D : List Cell, rimN D (y :: B) = ((nbC y).filter fun x => !decide (x ∈ D)).length + rimN D B := fun D => by simp [rimN]
    rw [e1, e1]
    have : ((nbC y).filter fun x => !decide (x ∈ C)).length ≤ ((nbC y).filter fun x => !decide (x ∈ A)).length := by
      rw [← List.countP_eq_length_filter, ← List.countP_eq_length_filter]
      refine List.countP_mono_left fun x _ hx => ?_
      simp only [Bool.not_eq_true', decide_eq_false_iff_not] at hx ⊢
      exact fun m => hx (h x m)
    omega
theorem nb_nodup (c : Cell) : (nbC c).Nodup := by
  unfold nbC
  simp only [List.nodup_cons, List.mem_cons, List.not_mem_nil, or_false, Prod.mk.injEq, not_or, not_false_eq_true, List.nodup_nil, and_true, true_and]
  omega
/-- a square more shuts a side of its neighbour -/
theorem rimN_less {A : List Cell} {a x : Cell} (hx : x ∈ nbC a) (nx : x ∉ A) : ((nbC a).filter fun z => !decide (z ∈ A ++ [x])).length + 1 ≤ ((nbC a).filter fun z => !decide (z ∈ A)).length := by
  have p : (x :: (nbC a).filter fun z => !decide (z ∈ A ++ [x])).length ≤ ((nbC a).filter fun z => !decide (z ∈ A)).length := by
    refine len_le (List.nodup_cons.mpr ⟨fun m => ?_, (nb_nodup a).filter _⟩) fun z hz => ?_
    · have := (List.mem_filter.mp m).2
      simp at this
    · rcases List.mem_cons.mp hz with rfl | m
      · exact List.mem_filter.mpr ⟨hx, by simpa using nx⟩
      · obtain ⟨h1, h2⟩ := List.mem_filter.mp m
        refine List.mem_filter.mpr ⟨h1, ?_⟩
        simp only [Bool.not_eq_true', decide_eq_false_iff_not, List.mem_append, not_or] at h2 ⊢
        exact h2.1
  rwa [List.length_cons] at p
theorem rimN_grow {A : List Cell} {a x : Cell} (hx : x ∈ nbC a) (nx : x ∉ A) : ∀ B : List Cell, a ∈ B → rimN (A ++ [x]) B + 1 ≤ rimN A B
  | [], h => (nomatch h)
  | y :: B, h => by
    have e1 : ∀ D : List Cell, rimN D (y :: B) = ((nbC y).filter fun x => !decide (x ∈ D)).length + rimN D B := fun D => by simp [rimN]
    rw [e1, e1]
    have m0 : rimN (A ++ [x]) B ≤ rimN A B := rimN_mono (fun z hz => List.mem_append_left _ hz) B
    have one : ∀ y : Cell, ((nbC y).filter fun z => !decide (z ∈ A ++ [x])).length ≤ ((nbC y).filter fun z => !decide (z ∈ A)).length := fun y => by
      have := rimN_mono (A := A) (C := A ++ [x]) (fun z hz => List.mem_append_left _ hz) [y]
      simpa [rimN] using this
    rcases List.mem_cons.mp h with rfl | m
    · have := rimN_less hx nx
      omega
    · have := rimN_grow hx nx B m
      have := one y
      omega
theorem rimN_app (A : List Cell) : ∀ B C : List Cell, rimN A (B ++ C) = rimN A B + rimN A C := fun B C => by
  unfold rimN
  rw [List.map_append, List.sum_append]
theorem rimN_grown : ∀ (n : Nat) {B : List Cell}, B.length = n → Grown B → B.Nodup → rimN B B ≤ 2 * B.length + 2
  | 0, B, l, _, _ => by
    rw [List.eq_nil_of_length_eq_zero l]
    exact Nat.zero_le _
  | 1, B, l, _, _ => by
    match B, l with
    | [y], _ =>
      have : ((nbC y).filter fun z => !decide (z ∈ [y])).length ≤ 4 := List.length_filter_le _ _
      simpa [rimN] using this
  | n + 2, B, l, g, nd => by
    obtain ⟨A, x, rfl⟩ := snoc_inv (xs := B) (fun z => by rw [z] at l; cases l)
    have lA : A.length = n + 1 := by simpa using l
    have gA : Grown A := by
      have := g.take (n + 1)
      rwa [List.take_left' lA] at this
    obtain ⟨n1, _, n3⟩ := List.nodup_append.mp nd
    have nx : x ∉ A := fun m => n3 x m x (List.mem_singleton.mpr rfl) rfl
    obtain ⟨j, a, hj, ea, hb⟩ := g n x (by rw [List.getElem?_append_right (by omega), lA]; simp)
    have ha : a ∈ A := by
      rw [List.getElem?_append_left (by omega)] at ea
      exact List.mem_of_getElem? ea
    have ih := rimN_grown (n + 1) lA gA n1
    have h1 := rimN_grow (mem_nbC.mpr hb) nx A ha
    have back : a ∈ nbC x := by
      have := beside_iff.mp hb
      rw [mem_nbC, beside_iff]
      omega
    have h2 : ((nbC x).filter fun z => !decide (z ∈ A ++ [x])).length + 1 ≤ 4 := by
      have p : (a :: (nbC x).filter fun z => !decide (z ∈ A ++ [x])).length ≤ (nbC x).length := by
        refine len_le (List.nodup_cons.mpr ⟨fun m => ?_, (nb_nodup x).filter _⟩) fun z hz => ?_
        · have := (List.mem_filter.mp m).2
          simp [ha] at this
        · rcases List.mem_cons.mp hz with rfl | m
          · exact back
          · exact (List.mem_filter.mp m).1
      exact p
    rw [rimN_app, List.length_append, List.length_singleton]
    have e : rimN (A ++ [x]) [x] = ((nbC x).filter fun z => !decide (z ∈ A ++ [x])).length := by simp [rimN]
    rw [e]
    omega
theorem rimN_p {L : List Cell} (h : GrownP L) (nd : L.Nodup) : rimN L L ≤ 2 * L.length + 2 := by
  obtain ⟨B, p, g⟩ := h
  have q := rimN_grown B.length rfl g (p.nodup_iff.mpr nd)
  have e1 : rimN L L = rimN L B := by
    unfold rimN
    exact (p.map _).sum_nat.symm
  have e2 : rimN L B = rimN B B := by
    unfold rimN
    congr 1
    refine List.map_congr_left fun y _ => ?_
    congr 1
    refine List.filter_congr fun x _ => ?_
    rw [Bool.not_inj_iff]
    exact decide_eq_decide.mpr p.mem_iff.symm
  rw [e1, e2, ← p.length_eq]
  exact q
end Sq

set_option Elab.async false
set_option linter.all false
set_option maxRecDepth 100000
set_option maxHeartbeats 8000000
/-! The law: a body grown by some squares, up to forty. -/
namespace Sq
open PySem PySem.Spec PyProof.Rows L2
section
variable {P : Program} {w : World} {K : PySem.W.Frag} {mg : Str → Option Value} {base : Heap}
variable {f : Addr} {cdv : Value} {A0 : Around} {outer : List Env} {s : Shared} {H0 : Hp} {E : XK}
end
end Sq

set_option Elab.async false
set_option linter.all false
set_option maxRecDepth 100000
set_option maxHeartbeats 8000000
/-! The law: a body grown by some squares, the whole. -/
namespace Sq
open PySem PySem.Spec PyProof.Rows L2
section
variable {P : Program} {w : World} {K : PySem.W.Frag} {mg : Str → Option Value} {base : Heap}
end
end Sq

set_option Elab.async false
set_option linter.all false
set_option maxRecDepth 100000
set_option maxHeartbeats 8000000
/-! Shapes one move away; layers of shapes. -/
namespace Sq
open PySem PySem.Spec PyProof.Rows L2
theorem bD_dps {K : PySem.W.Frag} {H : Hp} : ∀ {ts : List Addr} {Cs : List (List Cell)}, Paired (fun t p => CellsT H t p) ts Cs → DpAll K H (ts.map V.ref) (Cs.map bD)
  | _, _, .nil => .nil
  | _, _, .cons h t => .cons h.dp (bD_dps t)
theorem CellsTT.dp {K : PySem.W.Frag} {H : Hp} {t : Addr} {Cs : List (List Cell)} (h : CellsTT H t Cs) : Dp K H (.ref t) (.tuple (Cs.map bD)) := by
  obtain ⟨ts, e, pr⟩ := h
  exact .tup (SqT.of e) (bD_dps pr)
theorem CellsTT.ek {H G : Hp} {t : Addr} {Cs : List (List Cell)} (h : CellsTT H t Cs) (k : Ek H G) : CellsTT G t Cs := by
  obtain ⟨ts, e, pr⟩ := h
  exact ⟨ts, k.tup e, paired_imp (fun _ _ h => h.ek k) pr⟩
/-- the shape behind a move -/
def behC (B : List Cell) (s e : Cell) : List Cell := shp (without B s ++ [e])
def StepB (B C : List Cell) : Prop := ∃ s e, kindV B s e ≠ .non ∧ C = behC B s e
theorem hangs_grown : ∀ (n : Nat) {L : List Cell}, L.length = n → Hangs L → L.Nodup → ∃ A : List Cell, A.Perm L ∧ Grown A
  | 0, L, l, h, _ => absurd (List.length_eq_zero_iff.mp l) h.1
  | 1, L, l, h, _ => by
    match L, l with
    | [a], _ => exact ⟨[a], .refl _, fun i b hb => by simp at hb⟩
  | n + 2, L, l, h, nL => by
    obtain ⟨a, b, ha, hb, ne, h1, _⟩ := two_free nL h (by omega)
    have nW : (without L a).Nodup := nL.filter _
    have lW : (without L a).length = n + 1 := by
      have p : (a :: without L a).Perm L := by
        refine (List.perm_ext_iff_of_nodup (List.nodup_cons.mpr ⟨fun m => (mem_without.mp m).2 rfl, nW⟩) nL).mpr fun x => ?_
        rw [List.mem_cons, mem_without]
        constructor
        · rintro (rfl | z)
          · exact ha
          · exact z.1
        · intro z
          by_cases e : x = a
          · exact .inl e
          · exact .inr ⟨z, e⟩
      have := p.length_eq
      rw [List.length_cons] at this
      omega
    obtain ⟨A, pA, gA⟩ := hangs_grown (n + 1) lW h1 nW
    obtain ⟨y, yL, yb⟩ := near_ex h ha hb (Ne.symm ne)
    have yA : y ∈ A := pA.mem_iff.mpr (mem_without.mpr ⟨yL, beside_ne yb⟩)
    refine ⟨A ++ [a], (List.perm_ext_iff_of_nodup (nodup_snoc (pA.nodup_iff.mpr nW) fun m => (mem_without.mp (pA.mem_iff.mp m)).2 rfl) nL).mpr fun x => ?_, gA.snoc yA (beside_symm yb)⟩
    rw [List.mem_append, pA.mem_iff, mem_without, List.mem_singleton]
    constructor
    · rintro (z | rfl)
      · exact z.1
      · exact ha
    · intro z
      by_cases e : x = a
      · exact .inr e
      · exact .inl ⟨z, e⟩
theorem hangs_shape {L : List Cell} (h : Hangs L) (nL : L.Nodup) : IsShape L.length (shp L) := by
  obtain ⟨A, pA, gA⟩ := hangs_grown L.length rfl h nL
  have ne : A ≠ [] := fun z => h.1 (by rw [z] at pA; exact pA.symm.eq_nil)
  have := grown_shape A.length rfl gA (pA.nodup_iff.mpr nL) ne
  rw [pA.length_eq, shp_perm pA] at this
  exact this
/-- what stands behind a move, as a body -/
theorem behind_ok {B : List Cell} {s e : Cell} (k : kindV B s e ≠ .non) (nB : B.Nodup) : (without B s ++ [e]).Nodup ∧ (without B s ++ [e]).length = B.length ∧ Hangs (without B s ++ [e]) := by
  obtain ⟨k1, k2⟩ := kind_ne.mp k
  have I := byPlace_is k1
  have nW : (without B s).Nodup := nB.filter _
  have ne : e ∉ without B s := fun m => I.eL (mem_without.mp m).1
  obtain ⟨a, ha, hb⟩ := I.near
  refine ⟨nodup_snoc nW ne, ?_, hangs_snocX (hangsB_iff.mp k2) ha hb⟩
  have p : (s :: without B s).Perm B := by
    refine (List.perm_ext_iff_of_nodup (List.nodup_cons.mpr ⟨fun m => (mem_without.mp m).2 rfl, nW⟩) nB).mpr fun x => ?_
    rw [List.mem_cons, mem_without]
    constructor
    · rintro (rfl | z)
      · exact I.sL
      · exact z.1
    · intro z
      by_cases e : x = s
      · exact .inl e
      · exact .inr ⟨z, e⟩
  have := p.length_eq
  rw [List.length_cons] at this
  rw [List.length_append]
  exact this
theorem step_shape {n : Nat} {B C : List Cell} (h : IsShape n B) (k : StepB B C) : IsShape n C := by
  obtain ⟨s, e, k, rfl⟩ := k
  obtain ⟨h1, h2, h3⟩ := behind_ok k h.nd
  have := hangs_shape h3 h1
  rw [h2, h.len] at this
  exact this
/-- the layers from a layer on, what is met told -/
inductive LayF : List (List Cell) → List (List Cell) → List (List (List Cell)) → Prop
  | stop {met layer : List (List Cell)} : (∀ C, (∃ B ∈ layer, StepB B C) → C ∈ met) → LayF met layer [layer]
  | go {met layer met' new : List (List Cell)} {Ls : List (List (List Cell))} : new ≠ [] → new.Nodup → new.Pairwise bLe → (∀ C, C ∈ new ↔ (∃ B ∈ layer, StepB B C) ∧ C ∉ met) → (∀ C, C ∈ met' ↔ C ∈ met ∨ C ∈ new) → LayF met' new Ls → LayF met layer (layer :: Ls)
theorem LayF.uniq {met layer : List (List Cell)} {Ls : List (List (List Cell))} (h : LayF met layer Ls) : ∀ {met2 : List (List Cell)} {Ms : List (List (List Cell))}, (∀ C, C ∈ met ↔ C ∈ met2) → LayF met2 layer Ms → Ls = Ms := by
  induction h with
  | @stop met layer st =>
    intro met2 Ms em k
    cases k with
    | stop _ => rfl
    | @go _ _ _ new _ ne _ _ hn _ _ =>
      obtain ⟨C, hC⟩ := List.exists_mem_of_ne_nil _ ne
      obtain ⟨h1, h2⟩ := (hn C).mp hC
      exact absurd ((em C).mp (st C h1)) h2
  | @go met layer met' new Ls ne nd pw hn hm _ ih =>
    intro met2 Ms em k
    cases k with
    | stop st =>
      obtain ⟨C, hC⟩ := List.exists_mem_of_ne_nil _ ne
      obtain ⟨h1, h2⟩ := (hn C).mp hC
      exact absurd ((em C).mpr (st C h1)) h2
    | @go _ _ met3 new2 Ks ne2 nd2 pw2 hn2 hm2 k2 =>
      obtain rfl : new = new2 := bs_same nd nd2 pw pw2 fun C => by rw [hn, hn2, em]
      rw [ih (met2 := met3) (fun C => by rw [hm, hm2, em]) k2]
/-- everything that is met -/
theorem LayF.all {met layer : List (List Cell)} {Ls : List (List (List Cell))} (h : LayF met layer Ls) : (∀ B ∈ layer, B ∈ met) → (∀ B ∈ met, B ∉ layer → ∀ C, StepB B C → C ∈ met) → ∀ B, (B ∈ met ∨ ∃ L ∈ Ls, B ∈ L) → ∀ C, StepB B C → C ∈ met ∨ ∃ L ∈ Ls, C ∈ L := by
  induction h with
  | @stop met layer st =>
    intro sub cl B hB C k
    have hB : B ∈ met := hB.elim id fun ⟨L, hL, h⟩ => sub B (by rw [List.mem_singleton.mp hL] at h; exact h)
    by_cases m : B ∈ layer
    · exact .inl (st C ⟨B, m, k⟩)
    · exact .inl (cl B hB m C k)
  | @go met layer met' new Ls ne nd pw hn hm _ ih =>
    intro sub cl B hB C k
    have r := ih (fun B hB => (hm B).mpr (.inr hB)) (fun B hB nB C k => by
      rcases (hm B).mp hB with h | h
      · by_cases m : B ∈ layer
        · by_cases mC : C ∈ met
          · exact (hm C).mpr (.inl mC)
          · exact (hm C).mpr (.inr ((hn C).mpr ⟨⟨B, m, k⟩, mC⟩))
        · exact (hm C).mpr (.inl (cl B h m C k))
      · exact absurd h nB) B (by
      rcases hB with h | ⟨L, hL, h⟩
      · exact .inl ((hm B).mpr (.inl h))
      · rcases List.mem_cons.mp hL with e | e
        · rw [e] at h
          exact .inl ((hm B).mpr (.inl (sub B h)))
        · exact .inr ⟨L, e, h⟩) C k
    rcases r with h | ⟨L, hL, h⟩
    · rcases (hm C).mp h with h | h
      · exact .inl h
      · refine .inr ?_
        rename_i lf _
        cases lf with
        | stop _ => exact ⟨new, List.mem_cons_of_mem _ (List.mem_singleton.mpr rfl), h⟩
        | go _ _ _ _ _ _ => exact ⟨new, List.mem_cons_of_mem _ (List.mem_cons_self ..), h⟩
    · exact .inr ⟨L, List.mem_cons_of_mem _ hL, h⟩
/-- each layer's bodies are new, and of one kind -/
theorem LayF.each {n : Nat} {met layer : List (List Cell)} {Ls : List (List (List Cell))} (h : LayF met layer Ls) : (∀ B ∈ layer, IsShape n B) → layer.Nodup → (∀ B ∈ layer, B ∈ met) → (∀ L ∈ Ls, L.Nodup ∧ ∀ B ∈ L, IsShape n B) ∧ (∀ L ∈ Ls.drop 1, ∀ B ∈ L, B ∉ met) ∧ Ls.Pairwise (fun L M => ∀ B ∈ M, B ∉ L) := by
  induction h with
  | @stop met layer st =>
    intro h1 h2 _
    exact ⟨fun L hL => by rw [List.mem_singleton.mp hL]; exact ⟨h2, h1⟩, fun L hL => (nomatch hL), List.pairwise_singleton _ _⟩
  | @go met layer met' new Ls ne nd pw hn hm lf ih =>
    intro h1 h2 h3
    have hnew : ∀ B ∈ new, IsShape n B := fun B hB => by
      obtain ⟨⟨A, hA, k⟩, _⟩ := (hn B).mp hB
      exact step_shape (h1 A hA) k
    obtain ⟨q1, q2, q3⟩ := ih hnew nd fun B hB => (hm B).mpr (.inr hB)
    have q4 : ∀ L ∈ Ls, ∀ B ∈ L, B ∉ met := fun L hL B hB m => by
      have : L = new ∨ L ∈ Ls.drop 1 := by
        cases lf with
        | stop _ => exact .inl (List.mem_singleton.mp hL)
        | go _ _ _ _ _ _ => exact (List.mem_cons.mp hL).imp id id
      rcases this with rfl | z
      · exact ((hn B).mp hB).2 m
      · exact q2 L z B hB ((hm B).mpr (.inl m))
    refine ⟨fun L hL => ?_, q4, List.pairwise_cons.mpr ⟨fun M hM B hB m => q4 M hM B hB (h3 B m), q3⟩⟩
    rcases List.mem_cons.mp hL with rfl | z
    · exact ⟨h2, h1⟩
    · exact q1 L z
/-! ### there are finitely many shapes -/
end Sq

set_option Elab.async false
set_option linter.all false
set_option maxRecDepth 100000
set_option maxHeartbeats 8000000
/-! Shapes of up to six squares: moves lead from each to each. -/
namespace Sq
open PySem PySem.Spec PyProof.Rows L2
/-- steps lead from B to C -/
inductive StarB : List Cell → List Cell → Prop
  | refl {B : List Cell} : StarB B B
  | step {B C D : List Cell} : StepB B C → StarB C D → StarB B D
theorem StarB.trans {B C D : List Cell} (h : StarB B C) (k : StarB C D) : StarB B D := by
  induction h with
  | refl => exact k
  | step h1 _ ih => exact .step h1 (ih k)
end Sq

set_option Elab.async false
set_option linter.all false
set_option maxRecDepth 100000
set_option maxHeartbeats 8000000
/-! The bodies that are met while a layer is gone through. -/
namespace Sq
open PySem PySem.Spec PyProof.Rows L2
theorem nodup_snocB {S : List (List Cell)} {c : List Cell} (h : S.Nodup) (n : c ∉ S) : (S ++ [c]).Nodup := List.nodup_append.mpr ⟨h, List.pairwise_singleton _ _, fun a ha b hb z => n (List.mem_singleton.mp hb ▸ z ▸ ha)⟩
/-- what is met, and new, so far in a turn -/
structure GmI (P : Program) (w : World) (Ts : List Addr) (D A : Addr) (n : Nat) (M0 : List (List Cell)) (dn : List Cell → Prop) (G0 G : Hp) : Prop where
  kp : Kp (D :: A :: Ts) G0 G
  tg : TabsG Ts G
  ex : ∃ E Ms Fs, BDc P w G D E Ms ∧ Ms.Nodup ∧ (∀ B, B ∈ Ms ↔ B ∈ M0 ∨ dn B) ∧ CellsLL G A Fs ∧ Fs.Nodup ∧ (∀ B, B ∈ Fs ↔ dn B ∧ B ∉ M0)
  sh : ∀ B, dn B → IsShape n B
theorem dn_get {P : Program} {w : World} {Ts : List Addr} {H G : Hp} {a : Addr} {E : List NEnt} (h : DN P w H a E) (k : KT Ts H G) : DN P w G a E := by
  rcases h with e | ⟨z, e⟩
  · exact .inl (k.get e fun ps y => by cases y)
  · exact .inr ⟨z, k.get e fun ps y => by cases y⟩
theorem BDc.kt {P : Program} {w : World} {Ts : List Addr} {H G : Hp} {a : Addr} {E : List NEnt} {Bs : List (List Cell)} (h : BDc P w H a E Bs) (k : KT Ts H G) : BDc P w G a E Bs := ⟨dn_get h.1 k, paired_imp (fun _ _ ⟨c, e⟩ => ⟨c.ek k.ek, e⟩) h.2⟩
section
variable {P : Program} {w : World} {K : PySem.W.Frag} {Ts : List Addr} {D A : Addr} {n : Nat} {M0 : List (List Cell)} {dn dm : List Cell → Prop} {G0 G G' : Hp}
theorem GmI.kt (I : GmI P w Ts D A n M0 dn G0 G) (k : KT Ts G G') : GmI P w Ts D A n M0 dn G0 G' := by
  obtain ⟨E, Ms, Fs, h1, h2, h3, h4, h5⟩ := I.ex
  exact ⟨I.kp.trans (k.kp.mono fun b hb => List.mem_cons_of_mem _ (List.mem_cons_of_mem _ hb)), k.tb', ⟨E, Ms, Fs, h1.kt k, h2, h3, h4.ek k.ek, h5⟩, I.sh⟩
theorem GmI.weak (I : GmI P w Ts D A n M0 dn G0 G) (k : ∀ B, dn B ↔ dm B) : GmI P w Ts D A n M0 dm G0 G := by
  obtain ⟨E, Ms, Fs, h1, h2, h3, h4, h5, h6⟩ := I.ex
  exact ⟨I.kp, I.tg, ⟨E, Ms, Fs, h1, h2, fun B => (h3 B).trans (or_congr_right (k B)), h4, h5, fun B => (h6 B).trans (and_congr_left' (k B))⟩, fun B hB => I.sh B ((k B).mpr hB)⟩
/-- nothing new -/
theorem GmI.old (I : GmI P w Ts D A n M0 dn G0 G) {C : List Cell} {E : List NEnt} {Ms : List (List Cell)} (h : BDc P w G D E Ms) (hM : ∀ B, B ∈ Ms ↔ B ∈ M0 ∨ dn B) (hC : IsShape n C) (m : C ∈ Ms) : GmI P w Ts D A n M0 (fun B => dn B ∨ B = C) G0 G := by
  obtain ⟨E, Ms, Fs, h1, h2, h3, h4, h5, h6⟩ := I.ex
  have m := (hM C).mp m
  refine ⟨I.kp, I.tg, ⟨E, Ms, Fs, h1, h2, fun B => (h3 B).trans ⟨fun z => z.imp id .inl, fun z => ?_⟩, h4, h5, fun B => (h6 B).trans ⟨fun z => ⟨.inl z.1, z.2⟩, fun z => ?_⟩⟩, fun B hB => hB.elim (I.sh B) fun e => e ▸ hC⟩
  · rcases z with z | z | rfl
    · exact .inl z
    · exact .inr z
    · exact m
  · rcases z with ⟨z | rfl, y⟩
    · exact ⟨z, y⟩
    · exact ⟨m.resolve_left y, y⟩
/-- one that is new -/
theorem GmI.new (I : GmI P w Ts D A n M0 dn G0 G) (nDA : D ≠ A) {r : Addr} {C : List Cell} {E : List NEnt} {Ms Fs : List (List Cell)} {v : V} {fs : List Addr} (h : BDc P w G D E Ms) (ndM : Ms.Nodup) (hM : ∀ B, B ∈ Ms ↔ B ∈ M0 ∨ dn B) (eA : G A = some (.lst (fs.map V.ref))) (pF : Paired (fun t p => CellsT G t p) fs Fs) (ndF : Fs.Nodup) (hF : ∀ B, B ∈ Fs ↔ dn B ∧ B ∉ M0) (hC : IsShape n C) (nm : C ∉ Ms) (cr : CellsT G r C) :
    upd G D (DNO P w D (putN E r (keyB C) v)) A = some (.lst (fs.map V.ref)) ∧ GmI P w Ts D A n M0 (fun B => dn B ∨ B = C) G0 (upd (upd G D (DNO P w D (putN E r (keyB C) v))) A (.lst (fs.map V.ref ++ [V.ref r]))) := by
  have eD : ∃ u, G D = some u ∧ (∀ xs, u ≠ .tup xs) ∧ ∀ ps, u ≠ .tbl ps := by
    rcases h.1 with e | ⟨_, e⟩
    · exact ⟨_, e, (fun xs z => nomatch z), fun xs z => nomatch z⟩
    · exact ⟨_, e, (fun xs z => nomatch z), fun xs z => nomatch z⟩
  obtain ⟨u, eD, nu, nt⟩ := eD
  have hb := h.put (v := v) cr
  have t1 : Tk G (upd G D (DNO P w D (putN E r (keyB C) v))) := tk_upd eD nu
  have e1 : upd G D (DNO P w D (putN E r (keyB C) v)) A = some (.lst (fs.map V.ref)) := by rw [upd_ne (Ne.symm nDA)]; exact eA
  have kp1 : Kp (D :: A :: Ts) G (upd G D (DNO P w D (putN E r (keyB C) v))) := fun b o n2 e => by
    have nb : b ≠ D := fun z => n2 (by rw [z]; exact List.mem_cons_self ..)
    rw [upd_ne nb]
    exact e
  have tg1 : TabsG Ts (upd G D (DNO P w D (putN E r (keyB C) v))) := fun T hT => by
    obtain ⟨ps, e, t⟩ := I.tg T hT
    exact ⟨ps, by rw [upd_ne (fun z => by rw [z, eD] at e; exact nt ps (Option.some.inj e))]; exact e, t⟩
  generalize upd G D (DNO P w D (putN E r (keyB C) v)) = G1 at hb t1 e1 kp1 tg1
  refine ⟨e1, ?_⟩
  have t2 : Tk G1 (upd G1 A (.lst (fs.map V.ref ++ [V.ref r]))) := tk_upd e1 fun xs z => nomatch z
  have eDA : upd G1 A (.lst (fs.map V.ref ++ [V.ref r])) D = G1 D := upd_ne nDA
  refine ⟨I.kp.trans (kp1.trans fun b o n2 e => ?_), fun T hT => ?_, ⟨_, _, Fs ++ [C], hb.tk t2 eDA, putB_nd ndM, fun B => ?_, ⟨fs ++ [r], by rw [upd_same, List.map_append]; rfl, ?_⟩, nodup_snocB ndF fun m => nm ((hM C).mpr (.inr ((hF C).mp m).1)), fun B => ?_⟩, fun B hB => hB.elim (I.sh B) fun e => e ▸ hC⟩
  · have nb : b ≠ A := fun z => n2 (by rw [z]; exact List.mem_cons_of_mem _ (List.mem_cons_self ..))
    rw [upd_ne nb]
    exact e
  · obtain ⟨ps, e, t⟩ := tg1 T hT
    exact ⟨ps, by rw [upd_ne (fun z => by rw [z, e1] at e; cases e)]; exact e, t⟩
  · rw [putB_mem, hM]
    exact or_assoc
  · exact (paired_imp (fun _ _ h => cellsT_tu (cellsT_tu h t1) t2) pF).snoc (cellsT_tu (cellsT_tu cr t1) t2)
  · rw [List.mem_append, List.mem_singleton, hF]
    constructor
    · rintro (z | rfl)
      · exact ⟨.inl z.1, z.2⟩
      · exact ⟨.inr rfl, fun m => nm ((hM _).mpr (.inl m))⟩
    · rintro ⟨z | rfl, y⟩
      · exact .inl ⟨z, y⟩
      · exact .inr rfl
end
end Sq

set_option Elab.async false
set_option linter.all false
set_option maxRecDepth 100000
set_option maxHeartbeats 8000000
/-! The program: layers. -/
namespace Sq
open PySem PySem.Spec PyProof.Rows L2
section
variable {P : Program} {w : World} {K : PySem.W.Frag} {mg : Str → Option Value} {base : Heap} {Ts : List Addr}
end
end Sq

set_option Elab.async false
set_option linter.all false
set_option maxRecDepth 100000
set_option maxHeartbeats 8000000
/-! What is no body; layers of a body. -/
namespace Sq
open PySem PySem.Spec PyProof.Rows L2
theorem LayF.ne {met layer : List (List Cell)} {Ls : List (List (List Cell))} (h : LayF met layer Ls) : layer ≠ [] → ∀ L ∈ Ls, L ≠ [] := by
  induction h with
  | stop _ => exact fun ne L hL => by rw [List.mem_singleton.mp hL]; exact ne
  | go ne _ _ _ _ _ ih =>
    intro ne' L hL
    rcases List.mem_cons.mp hL with rfl | z
    · exact ne'
    · exact ih ne L z
section
variable {P : Program} {w : World} {K : PySem.W.Frag} {mg : Str → Option Value} {base : Heap} {Ts : List Addr}
end
end Sq

set_option Elab.async false
set_option linter.all false
set_option maxRecDepth 100000
set_option maxHeartbeats 8000000
/-! The law: lots by painting (mathematics, and dicts of cells). -/
namespace Sq
open PySem PySem.Spec PyProof.Rows L2
section
variable {α : Type} {k : α → Cell} {v : α → V}
def kvG (k : α → Cell) (v : α → V) (T : List α) : List (List Key × V) := T.map fun p => (cK (k p), v p)
theorem kv_len {T : List α} : (kvG k v T).length = T.length := List.length_map ..
theorem kv_no {c : Cell} : ∀ {T : List α}, c ∉ T.map k → valV (kvG k v T) (cK c) = none
  | [], _ => rfl
  | p :: T, h => by
    have h1 : k p ≠ c := fun e => h (by rw [← e]; exact List.mem_cons_self ..)
    show valV ((cK (k p), v p) :: kvG k v T) (cK c) = none
    rw [valV_neg (fun e => h1 (cK_inj e))]
    exact kv_no fun z => h (List.mem_cons_of_mem _ z)
theorem kv_yes {p : α} : ∀ {T : List α}, (T.map k).Nodup → p ∈ T → valV (kvG k v T) (cK (k p)) = some (v p)
  | [], _, h => by cases h
  | r :: T, nd, h => by
    have nd : (k r :: T.map k).Nodup := nd
    obtain ⟨n1, n2⟩ := List.nodup_cons.mp nd
    show valV ((cK (k r), v r) :: kvG k v T) (cK (k p)) = _
    rcases List.mem_cons.mp h with e | e
    · rw [← e, valV_pos rfl]
    · have h1 : k r ≠ k p := fun z => n1 (by rw [z]; exact List.mem_map.mpr ⟨_, e, rfl⟩)
      rw [valV_neg (fun z => h1 (cK_inj z))]
      exact kv_yes n2 e
theorem kv_is {T : List α} {c : Cell} (nd : (T.map k).Nodup) : (valV (kvG k v T) (cK c)).isSome = decide (c ∈ T.map k) := by
  by_cases m : c ∈ T.map k
  · obtain ⟨p, hp, rfl⟩ := List.mem_map.mp m
    rw [kv_yes nd hp, decide_eq_true m]
    rfl
  · rw [kv_no m, decide_eq_false m]
    rfl
theorem kv_put {T : List α} {p : α} (h : k p ∉ T.map k) : putK (kvG k v T) (cK (k p)) (v p) = kvG k v (T ++ [p]) := by
  rw [putK_new _ (kv_no h)]
  unfold kvG
  rw [List.map_append]
  rfl
end
/-! ### painting -/
abbrev Pnt : Type := List (Cell × Addr × Cell)
abbrev cellsP (T : Pnt) : List Cell := T.map fun p => p.1
structure PntOk (L : List Cell) (T : Pnt) : Prop where
  nd : (cellsP T).Nodup
  re : ∀ p ∈ T, p.2.2 ∈ L ∧ Reach L p.2.2 p.1
  cl : ∀ p ∈ T, ∀ y ∈ besideC p.1, y ∈ L → y ∈ cellsP T
  un : ∀ p ∈ T, ∀ r ∈ T, Reach L p.1 r.1 → p.2.2 = r.2.2
structure PntIn (L : List Cell) (T0 : Pnt) (q : Addr) (c x : Cell) (N : List Cell) (T : Pnt) (W : List Cell) : Prop where
  nd : (cellsP T).Nodup
  old : ∀ p ∈ T0, p ∈ T
  new : ∀ p ∈ T, p ∈ T0 ∨ (p.2 = (q, c) ∧ Reach L c p.1)
  has : (c, q, c) ∈ T
  ndW : W.Nodup
  wt : ∀ y ∈ W, y ∈ cellsP T ∧ Reach L c y
  cl : ∀ p ∈ T, p.1 ∉ W → p.1 ≠ x → ∀ y ∈ besideC p.1, y ∈ L → y ∈ cellsP T
  xW : x ∉ W
  clx : ∀ y ∈ N, y ∈ L → y ∈ cellsP T
  rx : Reach L c x
/-- between two cells of a flood -/
structure PntGo (L : List Cell) (T0 : Pnt) (q : Addr) (c : Cell) (T : Pnt) (W : List Cell) : Prop where
  nd : (cellsP T).Nodup
  old : ∀ p ∈ T0, p ∈ T
  new : ∀ p ∈ T, p ∈ T0 ∨ (p.2 = (q, c) ∧ Reach L c p.1)
  has : (c, q, c) ∈ T
  ndW : W.Nodup
  wt : ∀ y ∈ W, y ∈ cellsP T ∧ Reach L c y
  cl : ∀ p ∈ T, p.1 ∉ W → ∀ y ∈ besideC p.1, y ∈ L → y ∈ cellsP T
theorem PntOk.nil {L : List Cell} : PntOk L [] := ⟨List.nodup_nil, fun _ h => (nomatch h), fun _ h => (nomatch h), fun _ h => (nomatch h)⟩
theorem PntOk.go {L : List Cell} {T : Pnt} (h : PntOk L T) {q : Addr} {c : Cell} (nc : c ∉ cellsP T) : PntGo L T q c (T ++ [(c, q, c)]) [c] := by
  refine ⟨?_, fun p hp => List.mem_append_left _ hp, fun p hp => ?_, by simp, by simp, fun y hy => ?_, fun p hp n y hy yL => ?_⟩
  · show ((T ++ [(c, q, c)]).map _).Nodup
    rw [List.map_append]
    exact nodup_snoc h.nd nc
  · rcases List.mem_append.mp hp with z | z
    · exact .inl z
    · rw [List.mem_singleton.mp z]
      exact .inr ⟨rfl, .refl⟩
  · rw [List.mem_singleton.mp hy]
    exact ⟨by simp [cellsP], .refl⟩
  · rcases List.mem_append.mp hp with z | z
    · have := h.cl p z y hy yL
      show y ∈ (T ++ [(c, q, c)]).map _
      rw [List.map_append]
      exact List.mem_append_left _ this
    · rw [List.mem_singleton.mp z] at n
      exact absurd (List.mem_singleton.mpr rfl) n
theorem PntGo.pop {L : List Cell} {T0 T : Pnt} {q : Addr} {c x : Cell} {W : List Cell} (h : PntGo L T0 q c T (W ++ [x])) : PntIn L T0 q c x [] T W := by
  obtain ⟨n1, _, n3⟩ := List.nodup_append.mp h.ndW
  have xW : x ∉ W := fun m => n3 x m x (List.mem_singleton.mpr rfl) rfl
  refine ⟨h.nd, h.old, h.new, h.has, n1, fun y hy => h.wt y (List.mem_append_left _ hy), fun p hp n1 n2 => h.cl p hp fun m => ?_, xW, fun y hy => (nomatch hy), (h.wt x (by simp)).2⟩
  rcases List.mem_append.mp m with z | z
  · exact n1 z
  · exact n2 (List.mem_singleton.mp z)
theorem PntIn.end {L : List Cell} {T0 T : Pnt} {q : Addr} {c x : Cell} {W N : List Cell} (h : PntIn L T0 q c x N T W) (hN : ∀ y ∈ besideC x, y ∈ N) : PntGo L T0 q c T W := by
  refine ⟨h.nd, h.old, h.new, h.has, h.ndW, h.wt, fun p hp n y hy yL => ?_⟩
  by_cases e : p.1 = x
  · rw [e] at hy
    exact h.clx y (hN y hy) yL
  · exact h.cl p hp n e y hy yL
theorem PntIn.skip {L : List Cell} {T0 T : Pnt} {q : Addr} {c x y : Cell} {W N : List Cell} (h : PntIn L T0 q c x N T W) (k : y ∈ L → y ∈ cellsP T) : PntIn L T0 q c x (N ++ [y]) T W :=
  ⟨h.nd, h.old, h.new, h.has, h.ndW, h.wt, h.cl, h.xW, fun z hz zL => by
    rcases List.mem_append.mp hz with m | m
    · exact h.clx z m zL
    · rw [List.mem_singleton.mp m] at zL ⊢
      exact k zL, h.rx⟩
theorem pnt_closed {L : List Cell} {T : Pnt} (cl : ∀ p ∈ T, ∀ y ∈ besideC p.1, y ∈ L → y ∈ cellsP T) {x y : Cell} (hx : x ∈ cellsP T) (r : Reach L x y) : y ∈ cellsP T := by
  induction r with
  | refl => exact hx
  | step _ hb hL ih =>
    obtain ⟨p, hp, rfl⟩ := List.mem_map.mp ih
    exact cl p hp _ hb hL
theorem PntGo.fin {L : List Cell} {T0 T : Pnt} {q : Addr} {c : Cell} (h : PntGo L T0 q c T []) (k : PntOk L T0) (cL : c ∈ L) (nc : c ∉ cellsP T0) : PntOk L T := by
  have mix : ∀ p ∈ T0, ∀ r ∈ T, (r.2 = (q, c) ∧ Reach L c r.1) → Reach L p.1 r.1 → False := fun p hp r hr ⟨_, rr⟩ k2 => by
    have m1 : r.1 ∈ cellsP T0 := pnt_closed k.cl (List.mem_map.mpr ⟨p, hp, rfl⟩) k2
    exact nc (pnt_closed k.cl m1 (rr.symm cL))
  refine ⟨h.nd, fun p hp => ?_, fun p hp y hy yL => h.cl p hp (by simp) y hy yL, fun p hp r hr k2 => ?_⟩
  · rcases h.new p hp with z | ⟨z1, z2⟩
    · exact k.re p z
    · rw [z1]
      exact ⟨cL, z2⟩
  · rcases h.new p hp with z | z
    · rcases h.new r hr with y | y
      · exact k.un p z r y k2
      · exact absurd k2 fun k2 => mix p z r hr y k2
    · rcases h.new r hr with y | y
      · have pL : p.1 ∈ L := z.2.mem cL
        exact absurd (k2.symm pL) fun k2 => mix r y p hp z k2
      · rw [z.1, y.1]
end Sq

set_option Elab.async false
set_option linter.all false
set_option maxRecDepth 100000
set_option maxHeartbeats 8000000
/-! The law: lots by painting. -/
namespace Sq
open PySem PySem.Spec PyProof.Rows L2
section
variable {P : Program} {w : World} {K : PySem.W.Frag} {mg : Str → Option Value} {base : Heap}
variable {f : Addr} {cdv : Value} {A : Around} {outer : List Env} {s : Shared} {H0 : Hp} {E : XK}
end
end Sq

set_option Elab.async false
set_option linter.all false
set_option maxRecDepth 100000
set_option maxHeartbeats 8000000
/-! The law: free squares, ends beside a rest. -/
namespace Sq
open PySem PySem.Spec PyProof.Rows L2
def offs9 : List Cell := [(-1, -1), (-1, 0), (-1, 1), (0, -1), (0, 0), (0, 1), (1, -1), (1, 0), (1, 1)]
def plusC (s d : Cell) : Cell := (s.1 + d.1, s.2 + d.2)
def stepOk (R : List Cell) (s d : Cell) : Bool := !decide (plusC s d ∈ R) && !decide (d = (0, 0)) && (if d.1 ≠ 0 ∧ d.2 ≠ 0 then turnsB R s (plusC s d) else (sideB R s (plusC s d) (d.2, d.1) || sideB R s (plusC s d) (-d.2, -d.1)))
def stepsN (R : List Cell) (s : Cell) : List Cell := (offs9.filter (stepOk R s)).map (plusC s)
theorem steps_len {R : List Cell} {s : Cell} : (stepsN R s).length ≤ 9 := by
  unfold stepsN
  rw [List.length_map]
  exact List.length_filter_le _ _
section
variable {P : Program} {w : World} {K : PySem.W.Frag} {mg : Str → Option Value} {base : Heap}
end
end Sq

set_option Elab.async false
set_option linter.all false
set_option maxRecDepth 100000
set_option maxHeartbeats 8000000
/-! The law: where a square can go; moves. -/
namespace Sq
open PySem PySem.Spec PyProof.Rows L2
section
variable {P : Program} {w : World} {K : PySem.W.Frag} {mg : Str → Option Value} {base : Heap}
end
end Sq

set_option Elab.async false
set_option linter.all false
set_option maxRecDepth 100000
set_option maxHeartbeats 1000000
/-! The program's next_side, ring_from. -/
namespace Sq
open PySem PySem.Spec PyProof.Rows L2
def spNext : Sp := fun vs H Q _ => ∃ (d r : Addr) (R : List Cell) (e : Side), vs = [.ref d, .ref r] ∧ H d = some (.dT (lotK R)) ∧ PairAt H r e ∧ ∀ u G, Same H G → PairAt G u (nextS R e) → Q (.ref u) G
abbrev nxsN : List Str := ["lot", "side", "cell", "square", "across", "up", "ahead", "beyond"]
section
variable {P : Program} {w : World} {K : PySem.W.Frag} {mg : Str → Option Value} {base : Heap}
theorem scNxS : FnScope nxsN ["lot", "side"] (defScope gNextSide) := ⟨rfl, rfl, rfl, by decide +kernel, rfl, by decide +kernel, by decide +kernel⟩
theorem ok_next {f : Addr} {fd : FuncData} (F : FnP K "next_side" gNextSide f fd) : FnOk P w K mg base CX0 1 f fd ["lot", "side"] spNext := by
  refine F.ok scNxS (fun vs H Q E h => ?_) (fun cdv A outer s H vs Q E hr h => ?_)
  · obtain ⟨d, r, R, e, rfl, _⟩ := h
    rfl
  · obtain ⟨d, r, R, ⟨⟨c1, c2⟩, ⟨s1, s2⟩⟩, rfl, ed, ⟨q1, q2, er, a1, a2⟩, k⟩ := h
    have hu := hu_of hr
    refine ⟨_, PSs.nox (pss_cons (ps_asg (pv 1) (pg_tup (by rfl) (pgs_cons (pg_name (i := 2) scNxS.nd rfl (.inl rfl)) (pgs_cons (pg_name (i := 3) scNxS.nd rfl (.inl rfl)) pgs_nil))))
      (pss_cons (ps_set (i := 4) scNxS.nd rfl (.inl rfl) (pe_op op_sub (pe_ix (ix_tupK (K := K) rfl) (pv 3) pe_int (fun _ _ => rfl)) (pe_ix (ix_tupK (K := K) rfl) (pv 2) pe_int (fun _ _ => rfl))))
      (pss_cons (ps_set (i := 5) scNxS.nd rfl (.inl rfl) (pe_op op_sub (pe_ix (ix_tupK (K := K) rfl) (pv 3) pe_int (fun _ _ => rfl)) (pe_ix (ix_tupK (K := K) rfl) (pv 2) pe_int (fun _ _ => rfl))))
      (pss_cons (ps_set (i := 6) scNxS.nd rfl (.inl rfl) (pe_tup (pa_cons (pe_op op_sub (pe_ix (ix_tupK (K := K) rfl) (pv 2) pe_int (fun _ _ => rfl)) (pv 5)) (pa_cons (pe_op op_add (pe_ix (ix_tupK (K := K) rfl) (pv 2) pe_int (fun _ _ => rfl)) (pv 4)) pa_nil))))
      (pss_cons (ps_if (pt_cmp (pc_din hu (pv 6) (pv 0)))
      (pss_one (ps_ret (pe_tup (pa_cons (pv 2) (pa_cons (pv 6) pa_nil)))))
      pss_nil)
      (pss_cons (ps_set (i := 7) scNxS.nd rfl (.inl rfl) (pe_tup (pa_cons (pe_op op_add (pe_ix (ix_tupK (K := K) rfl) (pv 6) pe_int (fun _ _ => rfl)) (pv 4)) (pa_cons (pe_op op_add (pe_ix (ix_tupK (K := K) rfl) (pv 6) pe_int (fun _ _ => rfl)) (pv 5)) pa_nil))))
      (pss_cons (ps_if (pt_cmp (pc_din hu (pv 7) (pv 0)))
      (pss_one (ps_ret (pe_tup (pa_cons (pv 6) (pa_cons (pv 7) pa_nil)))))
      pss_nil)
      (pss_one (ps_ret (pe_tup (pa_cons (pv 7) (pa_cons (pv 3) pa_nil)))))))))))), ?_⟩
    refine ⟨_, rfl, r, _, rfl, SqT.of er, rfl, _, _, rfl, _, _, rfl, rfl, ?_⟩
    refine ⟨_, rfl, _, _, _, _, rfl, rfl, SqT.of a2, at0, _, rfl, _, _, _, _, rfl, rfl, SqT.of a1, at0, _, _, rfl, rfl, ?_⟩
    refine ⟨_, rfl, _, _, _, _, rfl, rfl, SqT.of a2, at1, _, rfl, _, _, _, _, rfl, rfl, SqT.of a1, at1, _, _, rfl, rfl, ?_⟩
    refine ⟨_, rfl, _, _, _, _, rfl, rfl, SqT.of a1, at0, _, rfl, _, _, rfl, rfl, _, rfl, _, _, _, _, rfl, rfl, SqT.of a1, at1, _, rfl, _, _, rfl, rfl, two_le, fun u hu1 => ?_⟩
    have t1 := same_new (o := .tup [.int (c1 - (s2 - c2)), .int (c2 + (s1 - c1))]) hu1
    have au : At (upd H u (.tup [.int (c1 - (s2 - c2)), .int (c2 + (s1 - c1))])) u (aheadS ((c1, c2), (s1, s2))) := upd_same
    generalize upd H u (.tup [.int (c1 - (s2 - c2)), .int (c2 + (s1 - c1))]) = G1 at t1 au
    refine ⟨_, rfl, _, rfl, d, _, rfl, dget_lot (t1 _ _ ed) au, _, rfl, ?_⟩
    rw [lot_is]
    refine ite2 (fun h1 => ?_) (fun h1 => ?_)
    · have m1 := of_decide_eq_true h1
      refine ⟨_, rfl, _, rfl, two_le, fun v hv => ?_⟩
      have t2 := same_new (o := .tup [.ref q1, .ref u]) hv
      refine k v _ (t1.trans t2) ⟨q1, u, upd_same, ?_, ?_⟩
      · rw [nextS, if_pos m1]
        exact t2 _ _ (t1 _ _ a1)
      · rw [nextS, if_pos m1]
        exact t2 _ _ au
    have m1 : aheadS ((c1, c2), (s1, s2)) ∉ R := fun z => h1 (decide_eq_true z)
    refine ⟨_, rfl, _, _, _, _, rfl, rfl, SqT.of au, at0, _, rfl, _, _, rfl, rfl, _, rfl, _, _, _, _, rfl, rfl, SqT.of au, at1, _, rfl, _, _, rfl, rfl, two_le, fun v hv => ?_⟩
    have t2 := same_new (o := .tup [.int ((aheadS ((c1, c2), (s1, s2))).1 + (s1 - c1)), .int ((aheadS ((c1, c2), (s1, s2))).2 + (s2 - c2))]) hv
    have av : At (upd G1 v (.tup [.int ((aheadS ((c1, c2), (s1, s2))).1 + (s1 - c1)), .int ((aheadS ((c1, c2), (s1, s2))).2 + (s2 - c2))])) v (beyondS ((c1, c2), (s1, s2))) := upd_same
    generalize upd G1 v (.tup [.int ((aheadS ((c1, c2), (s1, s2))).1 + (s1 - c1)), .int ((aheadS ((c1, c2), (s1, s2))).2 + (s2 - c2))]) = G2 at t2 av
    have t12 := t1.trans t2
    refine ⟨_, rfl, _, rfl, d, _, rfl, dget_lot (t12 _ _ ed) av, _, rfl, ?_⟩
    rw [lot_is]
    refine ite2 (fun h2 => ?_) (fun h2 => ?_)
    · have m2 := of_decide_eq_true h2
      refine ⟨_, rfl, _, rfl, two_le, fun x hx => ?_⟩
      have t3 := same_new (o := .tup [.ref u, .ref v]) hx
      refine k x _ (t12.trans t3) ⟨u, v, upd_same, ?_, ?_⟩
      · rw [nextS, if_neg m1, if_pos m2]
        exact t3 _ _ (t2 _ _ au)
      · rw [nextS, if_neg m1, if_pos m2]
        exact t3 _ _ av
    · have m2 : beyondS ((c1, c2), (s1, s2)) ∉ R := fun z => h2 (decide_eq_true z)
      refine ⟨_, rfl, _, rfl, two_le, fun x hx => ?_⟩
      have t3 := same_new (o := .tup [.ref v, .ref q2]) hx
      refine k x _ (t12.trans t3) ⟨v, q2, upd_same, ?_, ?_⟩
      · rw [nextS, if_neg m1, if_neg m2]
        exact t3 _ _ av
      · rw [nextS, if_neg m1, if_neg m2]
        exact t3 _ _ (t12 _ _ a2)
/-- ring_from -/
def spRing : Sp := fun vs H Q _ => ∃ (d r : Addr) (R : List Cell) (e : Side), vs = [.ref d, .ref r] ∧ H d = some (.dT (lotK R)) ∧ PairAt H r e ∧ IsSide R e ∧ R.length ≤ 1000 ∧ ∀ l G m O, Same H G → PairsL G l O → RingOf R e m O → Q (.ref l) G
abbrev rgfN : List Str := ["lot", "first", "ring", "side"]
theorem scRgF : FnScope rgfN ["lot", "first"] (defScope gRingFrom) := ⟨rfl, rfl, rfl, by decide +kernel, rfl, by decide +kernel, by decide +kernel⟩
theorem pair_dp {H : Hp} {r : Addr} {e : Side} (h : PairAt H r e) : Dp K H (.ref r) (.tuple [cD e.1, cD e.2]) := by
  obtain ⟨q1, q2, er, a1, a2⟩ := h
  exact .tup (SqT.of er) (.cons a1.dp (.cons a2.dp .nil))
theorem lay_pair (e : Side) : Lay 2 (.tuple [cD e.1, cD e.2]) := lay_bD [e.1, e.2]
theorem eqv_pair (e e' : Side) : PyData.eqv (.tuple [cD e.1, cD e.2]) (.tuple [cD e'.1, cD e'.2]) = decide (e = e') := by
  have := eqv_bD [e.1, e.2] [e'.1, e'.2]
  rw [show PyData.eqv (.tuple [cD e.1, cD e.2]) (.tuple [cD e'.1, cD e'.2]) = PyData.eqv (bD [e.1, e.2]) (bD [e'.1, e'.2]) from rfl, this]
  refine decide_eq_decide.mpr ⟨fun h => ?_, fun h => by rw [h]⟩
  have h := List.cons.inj h
  exact Prod.ext h.1 (List.cons.inj h.2).1
theorem ok_ring {f : Addr} {fd : FuncData} (F : FnP K "ring_from" gRingFrom f fd) (DN : Df P w K mg base CX0 1 "next_side" ["lot", "side"] spNext) : FnOk P w K mg base CX0 2 f fd ["lot", "first"] spRing := by
  refine F.ok scRgF (fun vs H Q E h => ?_) (fun cdv A outer s H vs Q E hr h => ?_)
  · obtain ⟨d, r, R, e, rfl, _⟩ := h
    rfl
  · obtain ⟨d, r, R, e, rfl, ed, pr, sd, lR, k⟩ := h
    have h64 := room64 hr
    have one_le : (1 : Nat) ≤ sizeLine := by rw [sizeLine_eq]; decide
    refine ⟨_, PSs.nox (pss_cons (ps_set (i := 2) scRgF.nd rfl (.inl rfl) (pe_lst (pa_cons (pv 1) pa_nil)))
      (pss_cons (ps_set (i := 3) scRgF.nd rfl (.inl rfl) (pe_df DN hr (by rfl) pass0 (pa_cons (pv 0) (pa_cons (pv 1) pa_nil))))
      (pss_cons (ps_while PassesOwn.never (pt_cmpR (op_neK (K := K) rfl h64) (pv 3) (pv 1) (nomark _))
      (pss_cons (ps_expr (pe_bm PySem.F.plainAttrs_list PySem.F.slot_list_append PySem.F.type_list_append mt_append (pv 2) (pa_cons (pv 3) pa_nil)))
        (pss_one (ps_set (i := 3) scRgF.nd rfl (.inl rfl) (pe_df DN hr (by rfl) pass0 (pa_cons (pv 0) (pa_cons (pv 3) pa_nil)))))))
      (pss_one (ps_ret (pv 2)))))), ?_⟩
    obtain ⟨m0, p0, l0, r0⟩ := iter_ret sd
    refine ⟨_, rfl, one_le, fun lr hlr => ?_⟩
    have s1 := same_new (o := .lst [.ref r]) hlr
    have er := upd_same (H := H) (a := lr) (o := .lst [.ref r])
    generalize upd H lr (.lst [.ref r]) = G1 at s1 er
    refine ⟨_, rfl, _, rfl, d, r, R, e, rfl, s1 _ _ ed, pr.same s1, fun u G2 s2 pu => ?_⟩
    have s12 := s1.trans s2
    refine ⟨fun q σ G => ∃ (j : Nat) (v : Addr) (rs : List Addr), q = m0 - j ∧ σ = [some (.ref d), some (.ref r), some (.ref lr), some (.ref v)] ∧ 1 ≤ j ∧ j ≤ m0 ∧ Kp [lr] G2 G ∧ PairAt G v (iterS R e j) ∧ (∀ i, 1 ≤ i → i < j → iterS R e i ≠ e) ∧ G lr = some (.lst (rs.map V.ref)) ∧ Paired (fun a x => PairAt G a x) rs ((List.range j).map (iterS R e)),
      ⟨m0 - 1, 1, u, [r], rfl, rfl, Nat.le_refl 1, p0, fun _ _ _ y => y, pu, fun i h1 h2 => by omega, s2 _ _ er, .cons (pr.same s12) .nil⟩, ?_⟩
    rintro q σ G ⟨j, v, rs, rfl, rfl, j1, jm, kp, pv', no, el, prs⟩
    have kH : ∀ {b : Addr} {o : HO}, H b = some o → G b = some o := fun {b o} y => kp _ _ (fun mm => by
      rw [List.mem_singleton.mp mm] at y
      rw [y] at hlr
      cases hlr) (s12 _ _ y)
    have sG : Same H G := fun b o y => kH y
    have lrs : rs.length = j := by rw [Paired.length prs, List.length_map, List.length_range]
    refine ⟨_, rfl, _, rfl, _, _, pair_dp pv', pair_dp (pr.same sG), (lay_pair _).shaped (by decide), (lay_pair _).shaped (by decide), _, rfl, ?_⟩
    rw [eqv_pair]
    refine ite2 (fun y => ?_) (fun y => ?_)
    · have ne : iterS R e j ≠ e := by simpa using y
      have lt : j < m0 := by
        by_cases z : j = m0
        · rw [z] at ne
          exact absurd r0 ne
        · omega
      refine ⟨fun σ' G' => ∃ m', m' < m0 - j ∧ _, fun _ _ h => h, ?_⟩
      refine ⟨_, rfl, .inl ⟨rfl, _, SqL.of el⟩, _, rfl, lr, _, _, rfl, rfl, el, by rw [List.length_map, sizeLine_eq]; omega, ?_⟩
      have tk : Tk G (upd G lr (.lst (rs.map V.ref ++ [V.ref v]))) := tk_upd el fun _ z => nomatch z
      have pT : ∀ {a : Addr} {x : Side}, PairAt G a x → PairAt (upd G lr (.lst (rs.map V.ref ++ [V.ref v]))) a x := fun ⟨q1, q2, y1, y2, y3⟩ => ⟨q1, q2, tk _ _ y1, tk _ _ y2, tk _ _ y3⟩
      have el3 := upd_same (H := G) (a := lr) (o := .lst (rs.map V.ref ++ [V.ref v]))
      have ed3 : upd G lr (.lst (rs.map V.ref ++ [V.ref v])) d = some (.dT (lotK R)) := by
        rw [upd_ne (fun z => by
          have := kH ed
          rw [z, el] at this
          cases this)]
        exact kH ed
      have pv3 := pT pv'
      have prs3 := (paired_imp (fun _ _ y => pT y) prs).snoc pv3
      have kp3 : Kp [lr] G2 (upd G lr (.lst (rs.map V.ref ++ [V.ref v]))) := fun b o nb y => by
        rw [upd_ne (fun z => nb (by rw [z]; exact List.mem_singleton.mpr rfl))]
        exact kp b o nb y
      generalize upd G lr (.lst (rs.map V.ref ++ [V.ref v])) = G3 at el3 ed3 pv3 prs3 kp3
      refine ⟨_, rfl, _, rfl, d, v, R, _, rfl, ed3, pv3, fun x G4 s4 px => ?_⟩
      refine ⟨m0 - (j + 1), by omega, j + 1, x, rs ++ [v], rfl, rfl, by omega, by omega, fun b o nb z => s4 _ _ (kp3 b o nb z), px, fun i i1 i2 => ?_, by rw [List.map_append]; exact s4 _ _ el3, ?_⟩
      · by_cases z : i = j
        · rw [z]
          exact ne
        · exact no i i1 (by omega)
      · rw [List.range_succ, List.map_append]
        exact paired_imp (fun _ _ y => PairAt.same y s4) prs3
    · have eq : iterS R e j = e := by simpa using y
      exact ⟨_, rfl, k lr G j _ sG ⟨rs, el, prs⟩ ⟨j1, eq, no, rfl⟩⟩
end
end Sq

set_option Elab.async false
set_option linter.all false
set_option maxRecDepth 100000
set_option maxHeartbeats 1000000
/-! Steps along a rest are just the pairs of neighbours in the ring. -/
namespace Sq
open PySem PySem.Spec PyProof.Rows L2
theorem step_iff {R : List Cell} {x y : Cell} : y ∈ stepsN R x ↔ ∃ d ∈ offs9, stepOk R x d = true ∧ plusC x d = y := by
  unfold stepsN
  rw [List.mem_map]
  constructor
  · rintro ⟨d, hd, rfl⟩
    obtain ⟨h1, h2⟩ := List.mem_filter.mp hd
    exact ⟨d, h1, h2, rfl⟩
  · rintro ⟨d, h1, h2, rfl⟩
    exact ⟨d, List.mem_filter.mpr ⟨h1, h2⟩, rfl⟩
theorem step_out {R : List Cell} {x y : Cell} (h : y ∈ stepsN R x) : y ∉ R ∧ y ≠ x := by
  obtain ⟨d, hd, ok, rfl⟩ := step_iff.mp h
  unfold stepOk at ok
  simp only [Bool.and_eq_true, Bool.not_eq_true', decide_eq_false_iff_not] at ok
  refine ⟨ok.1.1, fun z => ok.1.2 ?_⟩
  have z1 := congrArg Prod.fst z
  have z2 := congrArg Prod.snd z
  simp only [plusC] at z1 z2
  exact Prod.ext (by dsimp only; omega) (by dsimp only; omega)
def dirs4 : List Cell := [(1, 0), (0, 1), (-1, 0), (0, -1)]
def rotD (d : Cell) : Cell := (-d.2, d.1)
theorem side_dir {R : List Cell} {c s : Cell} (h : IsSide R (c, s)) : ∃ d ∈ dirs4, s = plusC c d := by
  have := beside_iff.mp h.bs
  dsimp only at this
  rcases this with ⟨e1, e2⟩ | ⟨e1, e2⟩ | ⟨e1, e2⟩ | ⟨e1, e2⟩
  · exact ⟨(-1, 0), by decide, Prod.ext (by dsimp only [plusC] <;> omega) (by dsimp only [plusC] <;> omega)⟩
  · exact ⟨(0, -1), by decide, Prod.ext (by dsimp only [plusC] <;> omega) (by dsimp only [plusC] <;> omega)⟩
  · exact ⟨(1, 0), by decide, Prod.ext (by dsimp only [plusC] <;> omega) (by dsimp only [plusC] <;> omega)⟩
  · exact ⟨(0, 1), by decide, Prod.ext (by dsimp only [plusC] <;> omega) (by dsimp only [plusC] <;> omega)⟩
theorem dir_side {R : List Cell} {c d : Cell} (hd : d ∈ dirs4) (hc : c ∉ R) (hs : plusC c d ∈ R) : IsSide R (c, plusC c d) := by
  refine ⟨hc, hs, ?_⟩
  simp only [dirs4, List.mem_cons, List.not_mem_nil, or_false] at hd
  rw [beside_iff]
  rcases hd with rfl | rfl | rfl | rfl <;> dsimp only [plusC] <;> omega
theorem ahead_dir (c d : Cell) : aheadS (c, plusC c d) = plusC c (rotD d) := Prod.ext (by simp only [aheadS, plusC, rotD]; omega) (by simp only [aheadS, plusC, rotD]; omega)
theorem beyond_dir (c d : Cell) : beyondS (c, plusC c d) = plusC (plusC c (rotD d)) d := Prod.ext (by simp only [beyondS, aheadS, plusC, rotD]; omega) (by simp only [beyondS, aheadS, plusC, rotD]; omega)
theorem pm1 (x : Int) : x + 1 + -1 = x := by omega
theorem mp1 (x : Int) : x + -1 + 1 = x := by omega
section
variable {R : List Cell} {c d : Cell}
theorem step_slide (hd : d ∈ dirs4) (hc : c ∉ R) (h1 : plusC c (rotD d) ∉ R) (h2 : plusC c d ∈ R) (h3 : plusC (plusC c (rotD d)) d ∈ R) : plusC c (rotD d) ∈ stepsN R c ∧ c ∈ stepsN R (plusC c (rotD d)) := by
  obtain ⟨c1, c2⟩ := c
  simp only [dirs4, List.mem_cons, List.not_mem_nil, or_false] at hd
  rcases hd with rfl | rfl | rfl | rfl
  · simp only [plusC, rotD, Int.neg_zero, Int.add_zero, Int.neg_neg, Int.add_neg_cancel_right, Int.neg_add_cancel_right] at h1 h2 h3 ⊢
    refine ⟨step_iff.mpr ⟨(0, 1), by decide, ?_, Prod.ext (by dsimp only [plusC] <;> omega) (by dsimp only [plusC] <;> omega)⟩, step_iff.mpr ⟨(0, -1), by decide, ?_, Prod.ext (by dsimp only [plusC] <;> omega) (by dsimp only [plusC] <;> omega)⟩⟩
    · simp [stepOk, plusC, sideB, turnsB, h1, h2, h3]
    · simp [stepOk, plusC, sideB, turnsB, hc, h2, h3, pm1, mp1]
  · simp only [plusC, rotD, Int.neg_zero, Int.add_zero, Int.neg_neg, Int.add_neg_cancel_right, Int.neg_add_cancel_right] at h1 h2 h3 ⊢
    refine ⟨step_iff.mpr ⟨(-1, 0), by decide, ?_, Prod.ext (by dsimp only [plusC] <;> omega) (by dsimp only [plusC] <;> omega)⟩, step_iff.mpr ⟨(1, 0), by decide, ?_, Prod.ext (by dsimp only [plusC] <;> omega) (by dsimp only [plusC] <;> omega)⟩⟩
    · simp [stepOk, plusC, sideB, turnsB, h1, h2, h3]
    · simp [stepOk, plusC, sideB, turnsB, hc, h2, h3, pm1, mp1]
  · simp only [plusC, rotD, Int.neg_zero, Int.add_zero, Int.neg_neg, Int.add_neg_cancel_right, Int.neg_add_cancel_right] at h1 h2 h3 ⊢
    refine ⟨step_iff.mpr ⟨(0, -1), by decide, ?_, Prod.ext (by dsimp only [plusC] <;> omega) (by dsimp only [plusC] <;> omega)⟩, step_iff.mpr ⟨(0, 1), by decide, ?_, Prod.ext (by dsimp only [plusC] <;> omega) (by dsimp only [plusC] <;> omega)⟩⟩
    · simp [stepOk, plusC, sideB, turnsB, h1, h2, h3]
    · simp [stepOk, plusC, sideB, turnsB, hc, h2, h3, pm1, mp1]
  · simp only [plusC, rotD, Int.neg_zero, Int.add_zero, Int.neg_neg, Int.add_neg_cancel_right, Int.neg_add_cancel_right] at h1 h2 h3 ⊢
    refine ⟨step_iff.mpr ⟨(1, 0), by decide, ?_, Prod.ext (by dsimp only [plusC] <;> omega) (by dsimp only [plusC] <;> omega)⟩, step_iff.mpr ⟨(-1, 0), by decide, ?_, Prod.ext (by dsimp only [plusC] <;> omega) (by dsimp only [plusC] <;> omega)⟩⟩
    · simp [stepOk, plusC, sideB, turnsB, h1, h2, h3]
    · simp [stepOk, plusC, sideB, turnsB, hc, h2, h3, pm1, mp1]
theorem step_turn (hd : d ∈ dirs4) (hc : c ∉ R) (h1 : plusC c (rotD d) ∉ R) (h2 : plusC c d ∈ R) (h3 : plusC (plusC c (rotD d)) d ∉ R) : plusC (plusC c (rotD d)) d ∈ stepsN R c ∧ c ∈ stepsN R (plusC (plusC c (rotD d)) d) := by
  obtain ⟨c1, c2⟩ := c
  simp only [dirs4, List.mem_cons, List.not_mem_nil, or_false] at hd
  rcases hd with rfl | rfl | rfl | rfl
  · simp only [plusC, rotD, Int.neg_zero, Int.add_zero, Int.neg_neg, Int.add_neg_cancel_right, Int.neg_add_cancel_right] at h1 h2 h3 ⊢
    refine ⟨step_iff.mpr ⟨(1, 1), by decide, ?_, Prod.ext (by dsimp only [plusC] <;> omega) (by dsimp only [plusC] <;> omega)⟩, step_iff.mpr ⟨(-1, -1), by decide, ?_, Prod.ext (by dsimp only [plusC] <;> omega) (by dsimp only [plusC] <;> omega)⟩⟩
    · simp [stepOk, plusC, sideB, turnsB, h1, h2, h3]
    · simp [stepOk, plusC, sideB, turnsB, hc, h1, h2, pm1, mp1]
  · simp only [plusC, rotD, Int.neg_zero, Int.add_zero, Int.neg_neg, Int.add_neg_cancel_right, Int.neg_add_cancel_right] at h1 h2 h3 ⊢
    refine ⟨step_iff.mpr ⟨(-1, 1), by decide, ?_, Prod.ext (by dsimp only [plusC] <;> omega) (by dsimp only [plusC] <;> omega)⟩, step_iff.mpr ⟨(1, -1), by decide, ?_, Prod.ext (by dsimp only [plusC] <;> omega) (by dsimp only [plusC] <;> omega)⟩⟩
    · simp [stepOk, plusC, sideB, turnsB, h1, h2, h3]
    · simp [stepOk, plusC, sideB, turnsB, hc, h1, h2, pm1, mp1]
  · simp only [plusC, rotD, Int.neg_zero, Int.add_zero, Int.neg_neg, Int.add_neg_cancel_right, Int.neg_add_cancel_right] at h1 h2 h3 ⊢
    refine ⟨step_iff.mpr ⟨(-1, -1), by decide, ?_, Prod.ext (by dsimp only [plusC] <;> omega) (by dsimp only [plusC] <;> omega)⟩, step_iff.mpr ⟨(1, 1), by decide, ?_, Prod.ext (by dsimp only [plusC] <;> omega) (by dsimp only [plusC] <;> omega)⟩⟩
    · simp [stepOk, plusC, sideB, turnsB, h1, h2, h3]
    · simp [stepOk, plusC, sideB, turnsB, hc, h1, h2, pm1, mp1]
  · simp only [plusC, rotD, Int.neg_zero, Int.add_zero, Int.neg_neg, Int.add_neg_cancel_right, Int.neg_add_cancel_right] at h1 h2 h3 ⊢
    refine ⟨step_iff.mpr ⟨(1, -1), by decide, ?_, Prod.ext (by dsimp only [plusC] <;> omega) (by dsimp only [plusC] <;> omega)⟩, step_iff.mpr ⟨(-1, 1), by decide, ?_, Prod.ext (by dsimp only [plusC] <;> omega) (by dsimp only [plusC] <;> omega)⟩⟩
    · simp [stepOk, plusC, sideB, turnsB, h1, h2, h3]
    · simp [stepOk, plusC, sideB, turnsB, hc, h1, h2, pm1, mp1]
theorem ring_step {e : Side} (sd : IsSide R e) (ne : (nextS R e).1 ≠ e.1) : (nextS R e).1 ∈ stepsN R e.1 ∧ e.1 ∈ stepsN R (nextS R e).1 := by
  obtain ⟨c, s⟩ := e
  obtain ⟨d, hd, rfl⟩ := side_dir sd
  have ho : c ∉ R := sd.out
  have hs : plusC c d ∈ R := sd.sq
  revert ne
  unfold nextS
  rw [ahead_dir, beyond_dir]
  split
  · exact fun ne => absurd rfl ne
  · rename_i h1
    split
    · rename_i h2
      exact fun _ => step_slide hd ho h1 hs h2
    · rename_i h2
      exact fun _ => step_turn hd ho h1 hs h2
/-- two cells that follow each other in the walk along the sides, in one of both orders -/
def Pairs2 (R : List Cell) (x y : Cell) : Prop := ∃ e, IsSide R e ∧ ((e.1 = x ∧ (nextS R e).1 = y) ∨ (e.1 = y ∧ (nextS R e).1 = x))
theorem pair_slide (hd : d ∈ dirs4) (hc : c ∉ R) (h1 : plusC c (rotD d) ∉ R) (h2 : plusC c d ∈ R) (h3 : plusC (plusC c (rotD d)) d ∈ R) : IsSide R (c, plusC c d) ∧ (nextS R (c, plusC c d)).1 = plusC c (rotD d) := by
  refine ⟨dir_side hd hc h2, ?_⟩
  unfold nextS
  rw [ahead_dir, beyond_dir, if_neg h1, if_pos h3]
theorem pair_turn (hd : d ∈ dirs4) (hc : c ∉ R) (h1 : plusC c (rotD d) ∉ R) (h2 : plusC c d ∈ R) (h3 : plusC (plusC c (rotD d)) d ∉ R) : IsSide R (c, plusC c d) ∧ (nextS R (c, plusC c d)).1 = plusC (plusC c (rotD d)) d := by
  refine ⟨dir_side hd hc h2, ?_⟩
  unfold nextS
  rw [ahead_dir, beyond_dir, if_neg h1, if_neg h3]
theorem step_pair {x y : Cell} (hx : x ∉ R) (h : y ∈ stepsN R x) : Pairs2 R x y := by
  have hy := (step_out h).1
  obtain ⟨o, ho, ok, rfl⟩ := step_iff.mp h
  obtain ⟨x1, x2⟩ := x
  simp only [offs9, List.mem_cons, List.not_mem_nil, or_false] at ho
  have fwd : ∀ {d y : Cell}, d ∈ dirs4 → plusC (x1, x2) (rotD d) = y → y ∉ R → plusC (x1, x2) d ∈ R → plusC y d ∈ R → Pairs2 R (x1, x2) y := fun {d y} hd e n1 n2 n3 => by
    subst e
    obtain ⟨a, b⟩ := pair_slide hd hx n1 n2 n3
    exact ⟨_, a, .inl ⟨rfl, b⟩⟩
  have bwd : ∀ {d y : Cell}, d ∈ dirs4 → plusC y (rotD d) = (x1, x2) → y ∉ R → plusC (x1, x2) d ∈ R → plusC y d ∈ R → Pairs2 R (x1, x2) y := fun {d y} hd e n1 n2 n3 => by
    obtain ⟨a, b⟩ := pair_slide hd n1 (by rw [e]; exact hx) n3 (by rw [e]; exact n2)
    exact ⟨_, a, .inr ⟨rfl, b.trans e⟩⟩
  have tfw : ∀ {d y : Cell}, d ∈ dirs4 → plusC (plusC (x1, x2) (rotD d)) d = y → y ∉ R → plusC (x1, x2) d ∈ R → plusC (x1, x2) (rotD d) ∉ R → Pairs2 R (x1, x2) y := fun {d y} hd e n1 n2 n3 => by
    subst e
    obtain ⟨a, b⟩ := pair_turn hd hx n3 n2 n1
    exact ⟨_, a, .inl ⟨rfl, b⟩⟩
  have tbw : ∀ {d y : Cell}, d ∈ dirs4 → plusC (plusC y (rotD d)) d = (x1, x2) → y ∉ R → plusC y d ∈ R → plusC y (rotD d) ∉ R → Pairs2 R (x1, x2) y := fun {d y} hd e n1 n2 n3 => by
    obtain ⟨a, b⟩ := pair_turn hd n1 n3 n2 (by rw [e]; exact hx)
    exact ⟨_, a, .inr ⟨rfl, b.trans e⟩⟩
  rcases ho with rfl | rfl | rfl | rfl | rfl | rfl | rfl | rfl | rfl
  · simp only [stepOk, Bool.and_eq_true, Bool.not_eq_true', decide_eq_false_iff_not] at ok
    obtain ⟨_, ok⟩ := ok
    rw [if_pos (by decide)] at ok
    unfold turnsB at ok
    have cs : ((x1, (plusC (x1, x2) (-1, -1)).2) ∈ R ∧ ((plusC (x1, x2) (-1, -1)).1, x2) ∉ R) ∨ ((x1, (plusC (x1, x2) (-1, -1)).2) ∉ R ∧ ((plusC (x1, x2) (-1, -1)).1, x2) ∈ R) := by
      by_cases p : (x1, (plusC (x1, x2) (-1, -1)).2) ∈ R <;> by_cases q : ((plusC (x1, x2) (-1, -1)).1, x2) ∈ R <;> simp_all
    rcases cs with ⟨k1, k2⟩ | ⟨k1, k2⟩
    · exact tbw (d := (1, 0)) (by decide) (Prod.ext (by dsimp only [plusC, rotD] <;> omega) (by dsimp only [plusC, rotD] <;> omega)) hy (by have e : plusC (plusC (x1, x2) (-1, -1)) (1, 0) = (x1 + 0, x2 + -1) := Prod.ext (by dsimp only [plusC, rotD] <;> omega) (by dsimp only [plusC, rotD] <;> omega); rw [e]; simpa [plusC] using k1) (by have e : plusC (plusC (x1, x2) (-1, -1)) (rotD (1, 0)) = (x1 + -1, x2 + 0) := Prod.ext (by dsimp only [plusC, rotD] <;> omega) (by dsimp only [plusC, rotD] <;> omega); rw [e]; simpa [plusC] using k2)
    · exact tfw (d := (-1, 0)) (by decide) (Prod.ext (by dsimp only [plusC, rotD] <;> omega) (by dsimp only [plusC, rotD] <;> omega)) hy (by simpa [plusC] using k2) (by simpa [plusC, rotD] using k1)
  · simp only [stepOk, Bool.and_eq_true, Bool.not_eq_true', decide_eq_false_iff_not] at ok
    obtain ⟨_, ok⟩ := ok
    rw [if_neg (by decide), Bool.or_eq_true] at ok
    rcases ok with ok | ok <;> (unfold sideB at ok; rw [Bool.and_eq_true, decide_eq_true_iff, decide_eq_true_iff] at ok; obtain ⟨k1, k2⟩ := ok)
    · exact bwd (d := (0, -1)) (by decide) (Prod.ext (by dsimp only [plusC, rotD] <;> omega) (by dsimp only [plusC, rotD] <;> omega)) hy (by simpa [plusC] using k1) (by simpa [plusC] using k2)
    · exact fwd (d := (0, 1)) (by decide) (Prod.ext (by dsimp only [plusC, rotD] <;> omega) (by dsimp only [plusC, rotD] <;> omega)) hy (by simpa [plusC] using k1) (by simpa [plusC] using k2)
  · simp only [stepOk, Bool.and_eq_true, Bool.not_eq_true', decide_eq_false_iff_not] at ok
    obtain ⟨_, ok⟩ := ok
    rw [if_pos (by decide)] at ok
    unfold turnsB at ok
    have cs : ((x1, (plusC (x1, x2) (-1, 1)).2) ∈ R ∧ ((plusC (x1, x2) (-1, 1)).1, x2) ∉ R) ∨ ((x1, (plusC (x1, x2) (-1, 1)).2) ∉ R ∧ ((plusC (x1, x2) (-1, 1)).1, x2) ∈ R) := by
      by_cases p : (x1, (plusC (x1, x2) (-1, 1)).2) ∈ R <;> by_cases q : ((plusC (x1, x2) (-1, 1)).1, x2) ∈ R <;> simp_all
    rcases cs with ⟨k1, k2⟩ | ⟨k1, k2⟩
    · exact tfw (d := (0, 1)) (by decide) (Prod.ext (by dsimp only [plusC, rotD] <;> omega) (by dsimp only [plusC, rotD] <;> omega)) hy (by simpa [plusC] using k1) (by simpa [plusC, rotD] using k2)
    · exact tbw (d := (0, -1)) (by decide) (Prod.ext (by dsimp only [plusC, rotD] <;> omega) (by dsimp only [plusC, rotD] <;> omega)) hy (by have e : plusC (plusC (x1, x2) (-1, 1)) (0, -1) = (x1 + -1, x2 + 0) := Prod.ext (by dsimp only [plusC, rotD] <;> omega) (by dsimp only [plusC, rotD] <;> omega); rw [e]; simpa [plusC] using k2) (by have e : plusC (plusC (x1, x2) (-1, 1)) (rotD (0, -1)) = (x1 + 0, x2 + 1) := Prod.ext (by dsimp only [plusC, rotD] <;> omega) (by dsimp only [plusC, rotD] <;> omega); rw [e]; simpa [plusC] using k1)
  · simp only [stepOk, Bool.and_eq_true, Bool.not_eq_true', decide_eq_false_iff_not] at ok
    obtain ⟨_, ok⟩ := ok
    rw [if_neg (by decide), Bool.or_eq_true] at ok
    rcases ok with ok | ok <;> (unfold sideB at ok; rw [Bool.and_eq_true, decide_eq_true_iff, decide_eq_true_iff] at ok; obtain ⟨k1, k2⟩ := ok)
    · exact fwd (d := (-1, 0)) (by decide) (Prod.ext (by dsimp only [plusC, rotD] <;> omega) (by dsimp only [plusC, rotD] <;> omega)) hy (by simpa [plusC] using k1) (by simpa [plusC] using k2)
    · exact bwd (d := (1, 0)) (by decide) (Prod.ext (by dsimp only [plusC, rotD] <;> omega) (by dsimp only [plusC, rotD] <;> omega)) hy (by simpa [plusC] using k1) (by simpa [plusC] using k2)
  · simp [stepOk] at ok
  · simp only [stepOk, Bool.and_eq_true, Bool.not_eq_true', decide_eq_false_iff_not] at ok
    obtain ⟨_, ok⟩ := ok
    rw [if_neg (by decide), Bool.or_eq_true] at ok
    rcases ok with ok | ok <;> (unfold sideB at ok; rw [Bool.and_eq_true, decide_eq_true_iff, decide_eq_true_iff] at ok; obtain ⟨k1, k2⟩ := ok)
    · exact fwd (d := (1, 0)) (by decide) (Prod.ext (by dsimp only [plusC, rotD] <;> omega) (by dsimp only [plusC, rotD] <;> omega)) hy (by simpa [plusC] using k1) (by simpa [plusC] using k2)
    · exact bwd (d := (-1, 0)) (by decide) (Prod.ext (by dsimp only [plusC, rotD] <;> omega) (by dsimp only [plusC, rotD] <;> omega)) hy (by simpa [plusC] using k1) (by simpa [plusC] using k2)
  · simp only [stepOk, Bool.and_eq_true, Bool.not_eq_true', decide_eq_false_iff_not] at ok
    obtain ⟨_, ok⟩ := ok
    rw [if_pos (by decide)] at ok
    unfold turnsB at ok
    have cs : ((x1, (plusC (x1, x2) (1, -1)).2) ∈ R ∧ ((plusC (x1, x2) (1, -1)).1, x2) ∉ R) ∨ ((x1, (plusC (x1, x2) (1, -1)).2) ∉ R ∧ ((plusC (x1, x2) (1, -1)).1, x2) ∈ R) := by
      by_cases p : (x1, (plusC (x1, x2) (1, -1)).2) ∈ R <;> by_cases q : ((plusC (x1, x2) (1, -1)).1, x2) ∈ R <;> simp_all
    rcases cs with ⟨k1, k2⟩ | ⟨k1, k2⟩
    · exact tfw (d := (0, -1)) (by decide) (Prod.ext (by dsimp only [plusC, rotD] <;> omega) (by dsimp only [plusC, rotD] <;> omega)) hy (by simpa [plusC] using k1) (by simpa [plusC, rotD] using k2)
    · exact tbw (d := (0, 1)) (by decide) (Prod.ext (by dsimp only [plusC, rotD] <;> omega) (by dsimp only [plusC, rotD] <;> omega)) hy (by have e : plusC (plusC (x1, x2) (1, -1)) (0, 1) = (x1 + 1, x2 + 0) := Prod.ext (by dsimp only [plusC, rotD] <;> omega) (by dsimp only [plusC, rotD] <;> omega); rw [e]; simpa [plusC] using k2) (by have e : plusC (plusC (x1, x2) (1, -1)) (rotD (0, 1)) = (x1 + 0, x2 + -1) := Prod.ext (by dsimp only [plusC, rotD] <;> omega) (by dsimp only [plusC, rotD] <;> omega); rw [e]; simpa [plusC] using k1)
  · simp only [stepOk, Bool.and_eq_true, Bool.not_eq_true', decide_eq_false_iff_not] at ok
    obtain ⟨_, ok⟩ := ok
    rw [if_neg (by decide), Bool.or_eq_true] at ok
    rcases ok with ok | ok <;> (unfold sideB at ok; rw [Bool.and_eq_true, decide_eq_true_iff, decide_eq_true_iff] at ok; obtain ⟨k1, k2⟩ := ok)
    · exact bwd (d := (0, 1)) (by decide) (Prod.ext (by dsimp only [plusC, rotD] <;> omega) (by dsimp only [plusC, rotD] <;> omega)) hy (by simpa [plusC] using k1) (by simpa [plusC] using k2)
    · exact fwd (d := (0, -1)) (by decide) (Prod.ext (by dsimp only [plusC, rotD] <;> omega) (by dsimp only [plusC, rotD] <;> omega)) hy (by simpa [plusC] using k1) (by simpa [plusC] using k2)
  · simp only [stepOk, Bool.and_eq_true, Bool.not_eq_true', decide_eq_false_iff_not] at ok
    obtain ⟨_, ok⟩ := ok
    rw [if_pos (by decide)] at ok
    unfold turnsB at ok
    have cs : ((x1, (plusC (x1, x2) (1, 1)).2) ∈ R ∧ ((plusC (x1, x2) (1, 1)).1, x2) ∉ R) ∨ ((x1, (plusC (x1, x2) (1, 1)).2) ∉ R ∧ ((plusC (x1, x2) (1, 1)).1, x2) ∈ R) := by
      by_cases p : (x1, (plusC (x1, x2) (1, 1)).2) ∈ R <;> by_cases q : ((plusC (x1, x2) (1, 1)).1, x2) ∈ R <;> simp_all
    rcases cs with ⟨k1, k2⟩ | ⟨k1, k2⟩
    · exact tbw (d := (-1, 0)) (by decide) (Prod.ext (by dsimp only [plusC, rotD] <;> omega) (by dsimp only [plusC, rotD] <;> omega)) hy (by have e : plusC (plusC (x1, x2) (1, 1)) (-1, 0) = (x1 + 0, x2 + 1) := Prod.ext (by dsimp only [plusC, rotD] <;> omega) (by dsimp only [plusC, rotD] <;> omega); rw [e]; simpa [plusC] using k1) (by have e : plusC (plusC (x1, x2) (1, 1)) (rotD (-1, 0)) = (x1 + 1, x2 + 0) := Prod.ext (by dsimp only [plusC, rotD] <;> omega) (by dsimp only [plusC, rotD] <;> omega); rw [e]; simpa [plusC] using k2)
    · exact tfw (d := (1, 0)) (by decide) (Prod.ext (by dsimp only [plusC, rotD] <;> omega) (by dsimp only [plusC, rotD] <;> omega)) hy (by simpa [plusC] using k2) (by simpa [plusC, rotD] using k1)
end
end Sq

set_option Elab.async false
set_option linter.all false
set_option maxRecDepth 100000
set_option maxHeartbeats 1000000
/-! Ways: a dict of lists of cells. -/
namespace Sq
open PySem PySem.Spec PyProof.Rows L2
abbrev WyE := Cell × Addr × List Cell
def wyK (T : List WyE) : List (List Key × V) := kvG (fun x : WyE => x.1) (fun x => V.ref x.2.1) T
def keysW (T : List WyE) : List Cell := T.map fun x => x.1
def nbW (T : List WyE) (x y : Cell) : Prop := ∃ e ∈ T, e.1 = x ∧ y ∈ e.2.2
/-- ways told by entries -/
structure WaysAt (G : Hp) (d : Addr) (T : List WyE) (n : Nat) : Prop where
  gd : G d = some (.dT (wyK T))
  nk : (keysW T).Nodup
  ls : ∀ e ∈ T, CellsL G e.2.1 e.2.2 ∧ e.2.2.length ≤ n
  ln : T.length ≤ n + 1
/-- ways while they grow: B the heap ahead, z0 the first list -/
structure Wys (B : Hp) (d z0 : Addr) (T : List WyE) (n : Nat) (G : Hp) : Prop where
  kp : Kp [d, z0] B G
  wa : WaysAt G d T n
  na : (T.map fun x => x.2.1).Nodup
  al : ∀ e ∈ T, e.2.1 = z0 ∨ B e.2.1 = none
  zz : ∃ e ∈ T, e.2.1 = z0
structure PutW (T T' : List WyE) (x y : Cell) : Prop where
  ky : ∀ c, c ∈ keysW T' ↔ c ∈ keysW T ∨ c = x
  nb : ∀ u v, nbW T' u v ↔ nbW T u v ∨ (u = x ∧ v = y)
theorem CellsL.tk {G H : Hp} {a : Addr} {cs : List Cell} (h : CellsL G a cs) (k : Tk G H) (e : H a = G a) : CellsL H a cs := by
  obtain ⟨qs, e1, pr⟩ := h
  exact ⟨qs, by rw [e]; exact e1, paired_imp (fun _ _ y => k _ _ y) pr⟩
section
variable {B G : Hp} {d z0 : Addr} {T : List WyE} {n : Nat}
theorem WaysAt.there (h : WaysAt G d T n) {x : Cell} {u : V} (e : valV (wyK T) (cK x) = some u) : ∃ l ∈ T, l.1 = x ∧ u = .ref l.2.1 := by
  have m : x ∈ keysW T := Classical.byContradiction fun nn => by
    have := kv_no (k := fun x : WyE => x.1) (v := fun x => V.ref x.2.1) nn
    rw [show valV (wyK T) (cK x) = none from this] at e
    cases e
  obtain ⟨l, hl, rfl⟩ := List.mem_map.mp m
  have := kv_yes (k := fun x : WyE => x.1) (v := fun x => V.ref x.2.1) h.nk hl
  rw [show valV (wyK T) (cK l.1) = some (.ref l.2.1) from this] at e
  exact ⟨l, hl, rfl, (Option.some.inj e).symm⟩
theorem WaysAt.val (h : WaysAt G d T n) {l : WyE} (hl : l ∈ T) : valV (wyK T) (cK l.1) = some (.ref l.2.1) := kv_yes (k := fun x : WyE => x.1) (v := fun x => V.ref x.2.1) h.nk hl
theorem WaysAt.gone (h : WaysAt G d T n) {x : Cell} (e : valV (wyK T) (cK x) = none) : x ∉ keysW T := fun m => by
  obtain ⟨l, hl, rfl⟩ := List.mem_map.mp m
  rw [h.val hl] at e
  cases e
theorem WaysAt.same {G' : Hp} (h : WaysAt G d T n) (s : Same G G') : WaysAt G' d T n := ⟨s _ _ h.gd, h.nk, fun e he => by
  obtain ⟨⟨qs, e1, pr⟩, l⟩ := h.ls e he
  exact ⟨⟨qs, s _ _ e1, paired_imp (fun _ _ y => s _ _ y) pr⟩, l⟩, h.ln⟩
theorem inj_of_nodup {α β : Type} {f : α → β} : ∀ {T : List α}, (T.map f).Nodup → ∀ {a b : α}, a ∈ T → b ∈ T → f a = f b → a = b
  | [], _, _, _, h, _, _ => nomatch h
  | t :: T, nd, a, b, ha, hb, e => by
    have nd : (f t :: T.map f).Nodup := nd
    obtain ⟨n1, n2⟩ := List.nodup_cons.mp nd
    rcases List.mem_cons.mp ha with ea | ha <;> rcases List.mem_cons.mp hb with eb | hb
    · rw [ea, eb]
    · rw [ea] at e
      exact absurd (List.mem_map.mpr ⟨b, hb, e.symm⟩) n1
    · rw [eb] at e
      exact absurd (List.mem_map.mpr ⟨a, ha, e⟩) n1
    · exact inj_of_nodup n2 ha hb e
theorem Wys.old (h : Wys B d z0 T n G) {z q : Addr} {y : Cell} (hz : G z = none) (aq : At G q y) {l : WyE} (hl : l ∈ T) {qs : List Addr} (eq : G l.2.1 = some (.lst (qs.map V.ref))) (pq : Paired (fun q c => At G q c) qs l.2.2) :
    ∃ T', Wys B d z0 T' (n + 1) (upd (upd G z (.lst [])) l.2.1 (.lst (qs.map V.ref ++ [V.ref q]))) ∧ PutW T T' l.1 y := by
  have nlz : l.2.1 ≠ z := fun e => by rw [e, hz] at eq; cases eq
  have nld : l.2.1 ≠ d := fun e => by have := h.wa.gd; rw [← e, eq] at this; cases this
  have ndz : d ≠ z := fun e => by have := h.wa.gd; rw [e, hz] at this; cases this
  have s3 := same_new (o := HO.lst []) hz
  have tk : Tk G (upd (upd G z (.lst [])) l.2.1 (.lst (qs.map V.ref ++ [V.ref q]))) := fun b xs e => by
    rw [upd_ne (fun w => by rw [w, eq] at e; cases e)]
    exact s3 _ _ e
  refine ⟨T.map fun e => if e.2.1 = l.2.1 then (e.1, e.2.1, e.2.2 ++ [y]) else e, ⟨fun b o nb e => ?_, ⟨?_, ?_, ?_, ?_⟩, ?_, ?_, ?_⟩, ?_, ?_⟩
  · have n1 : b ≠ l.2.1 := fun w => by
      rcases h.al l hl with a | a
      · exact nb (by rw [w, a]; simp)
      · rw [w, a] at e
        cases e
    rw [upd_ne n1]
    exact s3 _ _ (h.kp b o nb e)
  · rw [upd_ne nld.symm, upd_ne ndz, h.wa.gd]
    unfold wyK kvG
    rw [List.map_map]
    congr 2
    refine List.map_congr_left fun e he => ?_
    dsimp only [Function.comp]
    split <;> rfl
  · have : keysW (T.map fun e => if e.2.1 = l.2.1 then (e.1, e.2.1, e.2.2 ++ [y]) else e) = keysW T := by
      unfold keysW
      rw [List.map_map]
      refine List.map_congr_left fun e he => ?_
      dsimp only [Function.comp]
      split <;> rfl
    rw [this]
    exact h.wa.nk
  · intro e he
    obtain ⟨e0, h0, rfl⟩ := List.mem_map.mp he
    split
    · rename_i c
      obtain rfl := inj_of_nodup h.na h0 hl c
      refine ⟨⟨qs ++ [q], by rw [upd_same, List.map_append]; rfl, (paired_imp (fun _ _ w => tk _ _ w) pq).snoc (tk _ _ aq)⟩, ?_⟩
      rw [List.length_append]
      exact Nat.succ_le_succ (h.wa.ls _ h0).2
    · rename_i c
      obtain ⟨c1, c2⟩ := h.wa.ls e0 h0
      refine ⟨c1.tk tk ?_, Nat.le_succ_of_le c2⟩
      have ne : e0.2.1 ≠ z := fun w => by
        obtain ⟨_, c3, _⟩ := c1
        rw [w, hz] at c3
        cases c3
      rw [upd_ne c, upd_ne ne]
  · rw [List.length_map]
    exact Nat.le_succ_of_le h.wa.ln
  · have : (T.map fun e => if e.2.1 = l.2.1 then (e.1, e.2.1, e.2.2 ++ [y]) else e).map (fun x => x.2.1) = T.map fun x => x.2.1 := by
      rw [List.map_map]
      refine List.map_congr_left fun e he => ?_
      dsimp only [Function.comp]
      split <;> rfl
    rw [this]
    exact h.na
  · intro e he
    obtain ⟨e0, h0, rfl⟩ := List.mem_map.mp he
    split <;> exact h.al e0 h0
  · obtain ⟨e0, h0, e1⟩ := h.zz
    refine ⟨_, List.mem_map.mpr ⟨e0, h0, rfl⟩, ?_⟩
    split <;> exact e1
  · intro c
    have : keysW (T.map fun e => if e.2.1 = l.2.1 then (e.1, e.2.1, e.2.2 ++ [y]) else e) = keysW T := by
      unfold keysW
      rw [List.map_map]
      refine List.map_congr_left fun e he => ?_
      dsimp only [Function.comp]
      split <;> rfl
    rw [this]
    exact ⟨.inl, fun o => o.elim id fun w => by rw [w]; exact List.mem_map.mpr ⟨l, hl, rfl⟩⟩
  · intro u v
    constructor
    · rintro ⟨e, he, h1, h2⟩
      obtain ⟨e0, h0, rfl⟩ := List.mem_map.mp he
      split at h1
      · rename_i c
        obtain rfl := inj_of_nodup h.na h0 hl c
        rw [if_pos rfl] at h2
        rcases List.mem_append.mp h2 with w | w
        · exact .inl ⟨_, h0, h1, w⟩
        · exact .inr ⟨h1.symm, List.mem_singleton.mp w⟩
      · rename_i c
        rw [if_neg c] at h2
        exact .inl ⟨e0, h0, h1, h2⟩
    · rintro (⟨e, he, h1, h2⟩ | ⟨rfl, rfl⟩)
      · refine ⟨_, List.mem_map.mpr ⟨e, he, rfl⟩, ?_⟩
        split
        · exact ⟨h1, List.mem_append_left _ h2⟩
        · exact ⟨h1, h2⟩
      · refine ⟨_, List.mem_map.mpr ⟨l, hl, rfl⟩, ?_⟩
        rw [if_pos rfl]
        exact ⟨rfl, List.mem_append_right _ (List.mem_singleton.mpr rfl)⟩
theorem Wys.new (h : Wys B d z0 T n G) {z q : Addr} {x y : Cell} (hz : G z = none) (aq : At G q y) (nx : x ∉ keysW T) :
    ∃ T', Wys B d z0 T' (n + 1) (upd (upd (upd G z (.lst [])) d (.dT (putK (wyK T) (cK x) (.ref z)))) z (.lst ([] ++ [V.ref q]))) ∧ PutW T T' x y := by
  have ndz : d ≠ z := fun e => by have := h.wa.gd; rw [e, hz] at this; cases this
  have s3 := same_new (o := HO.lst []) hz
  have put : putK (wyK T) (cK x) (.ref z) = wyK (T ++ [(x, z, [y])]) := kv_put (k := fun x : WyE => x.1) (v := fun x => V.ref x.2.1) (p := ((x, z, [y]) : WyE)) nx
  rw [put]
  have off : ∀ {b : Addr} {o : HO}, b ≠ d → G b = some o → upd (upd (upd G z (.lst [])) d (.dT (wyK (T ++ [(x, z, [y])])))) z (.lst ([] ++ [V.ref q])) b = some o := fun {b o} nb e => by
    rw [upd_ne (fun w => by rw [w, hz] at e; cases e), upd_ne nb]
    exact s3 _ _ e
  have tk : Tk G (upd (upd (upd G z (.lst [])) d (.dT (wyK (T ++ [(x, z, [y])])))) z (.lst ([] ++ [V.ref q]))) := fun b xs e => off (fun w => by
    have := h.wa.gd
    rw [← w, e] at this
    cases this) e
  have zne : ∀ e ∈ T, e.2.1 ≠ z := fun e he w => by
    obtain ⟨⟨_, c3, _⟩, _⟩ := h.wa.ls e he
    rw [w, hz] at c3
    cases c3
  have dne : ∀ e ∈ T, e.2.1 ≠ d := fun e he w => by
    obtain ⟨⟨_, c3, _⟩, _⟩ := h.wa.ls e he
    have := h.wa.gd
    rw [← w, c3] at this
    cases this
  have zB : B z = none := by
    cases w : B z with
    | none => rfl
    | some o =>
      have := h.kp z o (fun m => by
        simp only [List.mem_cons, List.not_mem_nil, or_false] at m
        rcases m with m | m
        · exact ndz m.symm
        · obtain ⟨e0, h0, e1⟩ := h.zz
          exact zne e0 h0 (e1.trans m.symm)) w
      rw [hz] at this
      cases this
  refine ⟨T ++ [(x, z, [y])], ⟨fun b o nb e => ?_, ⟨?_, ?_, ?_, ?_⟩, ?_, ?_, ?_⟩, ?_, ?_⟩
  · exact off (fun w => nb (by rw [w]; simp)) (h.kp b o nb e)
  · rw [upd_ne ndz, upd_same]
  · unfold keysW
    rw [List.map_append]
    exact nodup_snoc h.wa.nk nx
  · intro e he
    rcases List.mem_append.mp he with w | w
    · obtain ⟨c1, c2⟩ := h.wa.ls e w
      refine ⟨c1.tk tk ?_, Nat.le_succ_of_le c2⟩
      rw [upd_ne (zne e w), upd_ne (dne e w), upd_ne (zne e w)]
    · rw [List.mem_singleton.mp w]
      exact ⟨⟨[q], upd_same, .cons (tk _ _ aq) .nil⟩, Nat.succ_le_succ (Nat.zero_le n)⟩
  · rw [List.length_append]
    exact Nat.succ_le_succ h.wa.ln
  · rw [List.map_append]
    refine List.nodup_append.mpr ⟨h.na, List.pairwise_singleton _ _, fun a ha b hb w => ?_⟩
    obtain ⟨e, he, rfl⟩ := List.mem_map.mp ha
    rw [List.mem_singleton.mp hb] at w
    exact zne e he w
  · intro e he
    rcases List.mem_append.mp he with w | w
    · exact h.al e w
    · rw [List.mem_singleton.mp w]
      exact .inr zB
  · obtain ⟨e0, h0, e1⟩ := h.zz
    exact ⟨e0, List.mem_append_left _ h0, e1⟩
  · intro c
    unfold keysW
    rw [List.map_append, List.mem_append]
    show _ ∨ c ∈ [x] ↔ _
    rw [List.mem_singleton]
  · intro u v
    constructor
    · rintro ⟨e, he, h1, h2⟩
      rcases List.mem_append.mp he with w | w
      · exact .inl ⟨e, w, h1, h2⟩
      · rw [List.mem_singleton.mp w] at h1 h2
        exact .inr ⟨h1.symm, List.mem_singleton.mp h2⟩
    · rintro (⟨e, he, h1, h2⟩ | ⟨rfl, rfl⟩)
      · exact ⟨e, List.mem_append_left _ he, h1, h2⟩
      · exact ⟨_, List.mem_append_right _ (List.mem_singleton.mpr rfl), rfl, List.mem_singleton.mpr rfl⟩
end
section
variable {P : Program} {w : World} {K : PySem.W.Frag} {mg : Str → Option Value} {base : Heap}
theorem ps_weak {X : Cx} {st : Stmt} {t t' : TS} (h : PS X st t) (k : ∀ D σ H, t' D σ H → t D σ H) : PS X st t' := ⟨fun pins s σ H D I a => h.run pins s σ H D I (k D σ H a)⟩
/-- ways.setdefault(x, []).append(y) -/
def tWay (a i j : Nat) : TS := fun D σ G => ∃ (d z0 : Addr) (B : Hp) (T : List WyE) (n : Nat) (qx qy : Addr) (x y : Cell), σ[a]? = some (some (.ref d)) ∧ σ[i]? = some (some (.ref qx)) ∧ σ[j]? = some (some (.ref qy)) ∧ Wys B d z0 T n G ∧ At G qx x ∧ At G qy y ∧ n ≤ 100000 ∧
  ∀ G' T', Wys B d z0 T' (n + 1) G' → PutW T T' x y → D.nx σ G'
/-- the side ahead of the j-th of a ring of m sides -/
def prS (R : List Cell) (e : Side) (m : Nat) : Nat → Side
  | 0 => iterS R e (m - 1)
  | j + 1 => iterS R e j
theorem prS_next {R : List Cell} {e : Side} {m : Nat} {O : List Side} (ro : RingOf R e m O) : ∀ j, nextS R (prS R e m j) = iterS R e j
  | 0 => by
    have := ro.ret
    have h1 : m = (m - 1) + 1 := by have := ro.pos; omega
    rw [h1] at this
    exact this
  | j + 1 => rfl
theorem prS_side {R : List Cell} {e : Side} {m : Nat} (sd : IsSide R e) : ∀ j, IsSide R (prS R e m j)
  | 0 => iter_side sd _
  | j + 1 => iter_side sd j
theorem prS_air {R : List Cell} {e : Side} {m : Nat} (sd : IsSide R e) : ∀ j, Air R e.1 (prS R e m j).1
  | 0 => iter_air sd _
  | j + 1 => iter_air sd j
theorem ring_ways {R : List Cell} {e : Side} {m : Nat} {O : List Side} (hR : Hangs R) (sd : IsSide R e) (ro : RingOf R e m O) (u v : Cell) :
    (∃ j, j < m ∧ (iterS R e j).1 ≠ (prS R e m j).1 ∧ ((u = (prS R e m j).1 ∧ v = (iterS R e j).1) ∨ (u = (iterS R e j).1 ∧ v = (prS R e m j).1))) ↔ Air R e.1 u ∧ v ∈ stepsN R u := by
  constructor
  · rintro ⟨j, hj, ne, hh⟩
    have st := ring_step (prS_side (m := m) sd j) (by rw [prS_next ro]; exact ne)
    rw [prS_next ro] at st
    rcases hh with ⟨rfl, rfl⟩ | ⟨rfl, rfl⟩
    · exact ⟨prS_air sd j, st.1⟩
    · exact ⟨iter_air sd j, st.2⟩
  · rintro ⟨au, hv⟩
    have uo := au.out sd.out
    obtain ⟨e', sd', hh⟩ := step_pair uo hv
    have ne := (step_out hv).2
    have ae : Air R e.1 e'.1 := by
      rcases hh with ⟨rfl, _⟩ | ⟨h1, h2⟩
      · exact au
      · have a1 : Air R e'.1 (nextS R e').1 := iter_air sd' 1
        rw [h2] at a1
        exact au.trans (a1.symm sd'.out)
    have mO : e' ∈ O := (ro.mem hR sd).mpr ⟨ae, sd'⟩
    rw [ro.eq] at mO
    obtain ⟨k, hk, ek⟩ := List.mem_map.mp mO
    have hk := List.mem_range.mp hk
    obtain ⟨j, hj, ej⟩ : ∃ j, j < m ∧ prS R e m j = e' := by
      by_cases z : k + 1 = m
      · refine ⟨0, ro.pos, ?_⟩
        show iterS R e (m - 1) = e'
        rw [← ek]
        congr 1
        omega
      · exact ⟨k + 1, by omega, ek⟩
    have ex := prS_next ro j
    rw [ej] at ex
    refine ⟨j, hj, ?_, ?_⟩
    · rw [← ex, ej]
      rcases hh with ⟨h1, h2⟩ | ⟨h1, h2⟩
      · rw [h1, h2]
        exact ne
      · rw [h1, h2]
        exact ne.symm
    · rw [← ex, ej]
      rcases hh with ⟨h1, h2⟩ | ⟨h1, h2⟩
      · exact .inl ⟨h1.symm, h2.symm⟩
      · exact .inr ⟨h2.symm, h1.symm⟩
theorem ring_small {R : List Cell} {e : Side} {m : Nat} {O : List Side} (sd : IsSide R e) (ro : RingOf R e m O) : m ≤ 4 * R.length := by
  obtain ⟨k, p, l, r⟩ := iter_ret sd
  by_cases h : k < m
  · exact absurd r (ro.least k p h)
  · omega
/-- the ways of the walks that begin at c: of each cell that is reached, its steps -/
structure WaysOf (R : List Cell) (c : Cell) (T : List WyE) : Prop where
  nb : ∀ x y, nbW T x y ↔ Air R c x ∧ y ∈ stepsN R x
  ky : ∀ x, x ∈ keysW T ↔ x = c ∨ ∃ y, nbW T x y
def spWays : Sp := fun vs H Q _ => ∃ (d q : Addr) (L : List Cell) (c : Cell), vs = [.ref d, .ref q] ∧ H d = some (.dT (lotK L)) ∧ L.Nodup ∧ L.length ≤ 1000 ∧ Hangs L ∧ c ∈ L ∧ At H q c ∧ ∀ w G T, Same H G → WaysAt G w T 8000 →
  (hangsB (without L c) = true → WaysOf (without L c) c T) → (hangsB (without L c) = false → (∀ x, x ∈ keysW T ↔ x = c) ∧ ∀ x y, ¬ nbW T x y) → Q (.ref w) G
abbrev wysN : List Str := ["lot", "start", "ways", "rest", "ring", "before", "cell", "square"]
theorem scWys : FnScope wysN ["lot", "start"] (defScope gWaysIn) := ⟨rfl, rfl, rfl, by decide +kernel, rfl, by decide +kernel, by decide +kernel⟩
theorem ok_ways {f : Addr} {fd : FuncData} (F : FnP K "ways_in" gWaysIn f fd) (DH : Df P w K mg base CX0 3 "hangs_without" ["lot", "cell"] spHangsW) (DW : Df P w K mg base CX0 1 "lot_without" ["lot", "cell"] spWithout) (DR : Df P w K mg base CX0 2 "ring_from" ["lot", "first"] spRing) (DN : Df P w K mg base CX0 2 "near_in" ["lot", "cell"] spNear) : FnOk P w K mg base CX0 4 f fd ["lot", "start"] spWays := by
  refine F.ok scWys (fun vs H Q E h => ?_) (fun cdv A outer s H vs Q E hr h => ?_)
  · obtain ⟨d, q, L, c, rfl, _⟩ := h
    rfl
  · obtain ⟨d, q, L, c, rfl, ed, nL, lL, hang, cL, aq, k⟩ := h
    have hu := hu_of hr
    have h64 := room64 hr
    refine ⟨_, PSs.nox (pss_cons (ps_set (i := 2) scWys.nd rfl (.inl rfl) (pe_disp1 (.inr rfl) hu (pv 1) (pe_lst pa_nil)))
      (pss_cons (ps_if (pt_not (pt_val (pe_df DH hr (by rfl) pass0 (pa_cons (pv 0) (pa_cons (pv 1) pa_nil)))))
      (pss_one (ps_ret (pv 2)))
      pss_nil)
      (pss_cons (ps_set (i := 3) scWys.nd rfl (.inl rfl) (pe_df DW hr (by rfl) pass0 (pa_cons (pv 0) (pa_cons (pv 1) pa_nil))))
      (pss_cons (ps_set (i := 4) scWys.nd rfl (.inl rfl) (pe_df DR hr (by rfl) pass0 (pa_cons (pv 3) (pa_cons (pe_tup (pa_cons (pv 1) (pa_cons (pe_ix (ix_listK (K := K) rfl) (pe_df DN hr (by rfl) pass0 (pa_cons (pv 3) (pa_cons (pv 1) pa_nil))) pe_int (fun _ _ => rfl)) pa_nil))) pa_nil))))
      (pss_cons (ps_set (i := 5) scWys.nd rfl (.inl rfl) (pe_ix (ix_tupK (K := K) rfl) (pe_ix (ix_listK (K := K) rfl) (pv 4) (pe_un un_neg pe_int) (fun _ _ => rfl)) pe_int (fun _ _ => rfl)))
      (pss_cons (ps_for PassesOwn.never rfl (pi_list (pv 4)) (pg_tup (by rfl) (pgs_cons (pg_name (i := 6) scWys.nd rfl (.inl rfl)) (pgs_cons (pg_name (i := 7) scWys.nd rfl (.inl rfl)) pgs_nil)))
      (pss_cons (ps_if (pt_cmpR (op_neK (K := K) rfl h64) (pv 6) (pv 5) (nomark _))
        (pss_cons (ps_weak (t' := tWay 2 5 6) (ps_expr (pe_bm PySem.F.plainAttrs_list PySem.F.slot_list_append PySem.F.type_list_append mt_append (pe_setdT hu (pv 2) (pv 5) (pe_lst pa_nil) ⟨rfl, rfl, rfl, rfl⟩) (pa_cons (pv 6) pa_nil))) ?wa)
          (pss_one (ps_weak (t' := tWay 2 6 5) (ps_expr (pe_bm PySem.F.plainAttrs_list PySem.F.slot_list_append PySem.F.type_list_append mt_append (pe_setdT hu (pv 2) (pv 6) (pe_lst pa_nil) ⟨rfl, rfl, rfl, rfl⟩) (pa_cons (pv 5) pa_nil))) ?wb)))
        pss_nil)
        (pss_one (ps_set (i := 5) scWys.nd rfl (.inl rfl) (pv 6)))))
      (pss_one (ps_ret (pv 2))))))))), ?main⟩
    case wa =>
      rintro D σ G ⟨w, z0, B, T, n, qx, qy, x, y, e2, ei, ej, hW, ax, ay, ln, kk⟩
      refine ⟨_, e2, w, rfl, .inr ⟨_, .inl hW.wa.gd⟩, _, ei, Nat.zero_le _, fun z hz => ?_⟩
      have s3 := same_new (o := HO.lst []) hz
      refine ⟨_, cK x, qx, s3 _ _ hW.wa.gd, rfl, s3 _ _ ax, (by unfold wyK; rw [kv_len, sizeLine_eq]; have := hW.wa.ln; omega), fun u hu' => ?_, fun hn => ?_⟩
      · obtain ⟨l, hl, rfl, rfl⟩ := hW.wa.there hu'
        obtain ⟨⟨qs, eq, pq⟩, ll⟩ := hW.wa.ls l hl
        have e3 := s3 _ _ eq
        obtain ⟨T', w', p'⟩ := hW.old hz ay hl eq pq
        exact ⟨.inl ⟨rfl, _, SqL.of e3⟩, _, ej, l.2.1, _, _, rfl, rfl, e3, by rw [List.length_map, Paired.length pq, sizeLine_eq]; omega, kk _ T' w' p'⟩
      · obtain ⟨T', w', p'⟩ := hW.new hz ay (hW.wa.gone hn)
        have nwz : w ≠ z := fun e => by have := hW.wa.gd; rw [e, hz] at this; cases this
        have ez' : upd (upd G z (.lst [])) w (.dT (putK (wyK T) (cK x) (.ref z))) z = some (.lst []) := by rw [upd_ne nwz.symm]; exact upd_same
        exact ⟨.inl ⟨rfl, _, SqL.of ez'⟩, _, ej, z, [], _, rfl, rfl, ez', by show 0 < sizeLine; rw [sizeLine_eq]; decide, kk _ T' w' p'⟩
    case wb =>
      rintro D σ G ⟨w, z0, B, T, n, qx, qy, x, y, e2, ei, ej, hW, ax, ay, ln, kk⟩
      refine ⟨_, e2, w, rfl, .inr ⟨_, .inl hW.wa.gd⟩, _, ei, Nat.zero_le _, fun z hz => ?_⟩
      have s3 := same_new (o := HO.lst []) hz
      refine ⟨_, cK x, qx, s3 _ _ hW.wa.gd, rfl, s3 _ _ ax, (by unfold wyK; rw [kv_len, sizeLine_eq]; have := hW.wa.ln; omega), fun u hu' => ?_, fun hn => ?_⟩
      · obtain ⟨l, hl, rfl, rfl⟩ := hW.wa.there hu'
        obtain ⟨⟨qs, eq, pq⟩, ll⟩ := hW.wa.ls l hl
        have e3 := s3 _ _ eq
        obtain ⟨T', w', p'⟩ := hW.old hz ay hl eq pq
        exact ⟨.inl ⟨rfl, _, SqL.of e3⟩, _, ej, l.2.1, _, _, rfl, rfl, e3, by rw [List.length_map, Paired.length pq, sizeLine_eq]; omega, kk _ T' w' p'⟩
      · obtain ⟨T', w', p'⟩ := hW.new hz ay (hW.wa.gone hn)
        have nwz : w ≠ z := fun e => by have := hW.wa.gd; rw [e, hz] at this; cases this
        have ez' : upd (upd G z (.lst [])) w (.dT (putK (wyK T) (cK x) (.ref z))) z = some (.lst []) := by rw [upd_ne nwz.symm]; exact upd_same
        exact ⟨.inl ⟨rfl, _, SqL.of ez'⟩, _, ej, z, [], _, rfl, rfl, ez', by show 0 < sizeLine; rw [sizeLine_eq]; decide, kk _ T' w' p'⟩
    case main =>
      intro w hw
      have s0 := same_new (o := .dT []) hw
      have e0 := upd_same (H := H) (a := w) (o := .dT [])
      refine ⟨_, rfl, Nat.zero_le _, fun z hz => ?_⟩
      have s1 := same_new (o := HO.lst []) hz
      have e1 := s1 _ _ e0
      have ez := upd_same (H := upd H w (.dT [])) (a := z) (o := HO.lst [])
      refine ⟨_, dput_c e1 ((aq.same s0).same s1) (by rw [sizeLine_eq]; decide), ?_⟩
      rw [show putK [] (cK c) (V.ref z) = wyK [(c, z, [])] from kv_put (k := fun x : WyE => x.1) (v := fun x => V.ref x.2.1) (T := []) (p := ((c, z, []) : WyE)) (by simp)]
      have nwz : w ≠ z := fun e => by rw [e, upd_same] at hz; cases hz
      have s01 : Same H (upd (upd (upd H w (.dT [])) z (.lst [])) w (.dT (wyK [(c, z, [])]))) := fun b o e => by
        rw [upd_ne (fun v => by rw [v, hw] at e; cases e)]
        exact s1 _ _ (s0 _ _ e)
      have gw := upd_same (H := upd (upd H w (.dT [])) z (.lst [])) (a := w) (o := .dT (wyK [(c, z, [])]))
      have gz : upd (upd (upd H w (.dT [])) z (.lst [])) w (.dT (wyK [(c, z, [])])) z = some (.lst []) := by rw [upd_ne nwz.symm]; exact ez
      generalize upd (upd (upd H w (.dT [])) z (.lst [])) w (.dT (wyK [(c, z, [])])) = G1 at s01 gw gz
      have wa1 : ∀ n, WaysAt G1 w [(c, z, [])] n := fun n => ⟨gw, by simp [keysW], fun e he => by rw [List.mem_singleton.mp he]; exact ⟨⟨[], gz, .nil⟩, Nat.zero_le _⟩, by simp⟩
      refine ⟨_, rfl, _, rfl, d, q, L, c, rfl, s01 _ _ ed, nL, lL, hang, cL, aq.same s01, fun G2 s2 => ⟨_, rfl, ?_⟩⟩
      have s02 := s01.trans s2
      refine ite2 (fun h1 => ?_) (fun h1 => ?_)
      · have hb : hangsB (without L c) = false := by simpa using h1
        exact ⟨_, rfl, k w G2 [(c, z, [])] s02 ((wa1 _).same s2) (fun y => by rw [hb] at y; cases y) fun _ => ⟨fun x => by simp [keysW], fun x y ⟨e, he, _, h3⟩ => by rw [List.mem_singleton.mp he] at h3; cases h3⟩⟩
      have hb : hangsB (without L c) = true := by simpa using h1
      have hR : Hangs (without L c) := hangsB_iff.mp hb
      have cR : c ∉ without L c := fun y => (mem_without.mp y).2 rfl
      have lR : (without L c).length ≤ 1000 := Nat.le_trans (without_len L c) lL
      refine ⟨_, rfl, _, rfl, d, q, L, c, rfl, s02 _ _ ed, nL, lL, aq.same s02, fun re G3 s3 _ er => ?_⟩
      have s03 := s02.trans s3
      refine ⟨_, rfl, _, rfl, _, rfl, _, rfl, re, q, _, c, rfl, er, aq.same s03, fun nl G4 s4 _ ⟨ns, en, pn⟩ => ?_⟩
      have nn : nearC (without L c) c ≠ [] := fun y => none_hangs hang cL (List.eq_nil_iff_forall_not_mem.mpr fun x hx => by
        obtain ⟨h1, h2⟩ := List.mem_filter.mp hx
        have : x ∈ nearC (without L c) c := List.mem_filter.mpr ⟨h1, decide_eq_true (mem_without.mpr ⟨of_decide_eq_true h2, fun z => beside_ne h1 z⟩)⟩
        rw [y] at this
        cases this) hR
      obtain ⟨sq, sqs, esq⟩ := List.exists_cons_of_ne_nil nn
      rw [esq] at pn
      obtain ⟨q1, ns', rfl, a1, pn'⟩ : ∃ q1 ns', ns = q1 :: ns' ∧ At G4 q1 sq ∧ Paired (fun q c => At G4 q c) ns' sqs := by
        cases pn with
        | cons a b => exact ⟨_, _, rfl, a, b⟩
      have msq : sq ∈ nearC (without L c) c := by rw [esq]; exact List.mem_cons_self ..
      have sd : IsSide (without L c) (c, sq) := ⟨cR, of_decide_eq_true (List.mem_filter.mp msq).2, (List.mem_filter.mp msq).1⟩
      refine ⟨_, _, _, _, rfl, rfl, SqL.of en, at0, two_le, fun u hu1 => ?_⟩
      have s5 := same_new (o := HO.tup [.ref q, .ref q1]) hu1
      have s05 := s03.trans (s4.trans s5)
      have pr5 : PairAt (upd G4 u (.tup [.ref q, .ref q1])) u (c, sq) := ⟨q, q1, upd_same, aq.same s05, a1.same s5⟩
      refine ⟨re, u, _, (c, sq), rfl, s5 _ _ (s4 _ _ er), pr5, sd, lR, fun lr B m O s6 ⟨rs, elr, prs⟩ ro => ?_⟩
      have s16 := (s2.trans s3).trans ((s4.trans s5).trans s6)
      have s06 := s01.trans s16
      have wB : Wys B w z [(c, z, [])] 0 B := ⟨fun b o _ e => e, (wa1 0).same s16, by simp, fun e he => by rw [List.mem_singleton.mp he]; exact .inl rfl, ⟨_, List.mem_singleton.mpr rfl, rfl⟩⟩
      have zB := s16 _ _ gz
      have lO : O.length = m := by rw [ro.eq, List.length_map, List.length_range]
      have lrs : rs.length = m := by rw [Paired.length prs, lO]
      have m4 : m ≤ 4000 := Nat.le_trans (ring_small sd ro) (by omega)
      have mp := ro.pos
      have atO : ∀ {j : Nat}, j < m → O[j]? = some (iterS (without L c) (c, sq) j) := fun {j} hj => by rw [ro.eq, List.getElem?_map, List.getElem?_range hj]; rfl
      obtain ⟨rl, hrl, prl⟩ := paired_getRW prs (atO (j := m - 1) (by omega))
      obtain ⟨l1, l2, el, al1, al2⟩ := prl
      refine ⟨_, rfl, _, rfl, _, _, _, _, rfl, rfl, SqL.of elr, neg_last (by rw [List.length_map, lrs, List.getElem?_map, hrl]; rfl), _, _, _, _, rfl, rfl, SqT.of el, at0, ?_⟩
      refine ⟨_, rfl, lr, rfl, ⟨_, SqL.of elr⟩, ?_⟩
      have lrz : lr ≠ z := fun y => by
        rw [y, zB] at elr
        have := List.nil_eq.mp (HO.lst.inj (Option.some.inj elr))
        have : (rs.map V.ref).length = 0 := by rw [this]; rfl
        rw [List.length_map, lrs] at this
        omega
      have lrw : lr ≠ w := fun y => by
        have := wB.wa.gd
        rw [← y, elr] at this
        cases this
      refine for_list (K := K) (a := lr) (xs := rs.map V.ref) (fun i σ G => ∃ (qb : Addr) (v6 v7 : Option V) (T : List WyE) (n : Nat), σ = [some (.ref d), some (.ref q), some (.ref w), some (.ref re), some (.ref lr), some (.ref qb), v6, v7] ∧ Wys B w z T n G ∧ n ≤ 2 * i ∧ At B qb (prS (without L c) (c, sq) m i).1 ∧
        (∀ u v, nbW T u v ↔ ∃ j, j < i ∧ (iterS (without L c) (c, sq) j).1 ≠ (prS (without L c) (c, sq) m j).1 ∧ ((u = (prS (without L c) (c, sq) m j).1 ∧ v = (iterS (without L c) (c, sq) j).1) ∨ (u = (iterS (without L c) (c, sq) j).1 ∧ v = (prS (without L c) (c, sq) m j).1))) ∧ ∀ x, x ∈ keysW T ↔ x = c ∨ ∃ y, nbW T x y)
        ⟨l1, none, none, _, 0, rfl, wB, Nat.zero_le _, al1, fun u v => ⟨fun ⟨e, he, _, h3⟩ => (by rw [List.mem_singleton.mp he] at h3; cases h3), fun ⟨j, hj, _⟩ => by omega⟩, fun x => ⟨fun y => .inl (by simpa [keysW] using y), fun y => y.elim (fun y => by simp [keysW, y]) fun ⟨_, e, he, _, h3⟩ => by rw [List.mem_singleton.mp he] at h3; cases h3⟩⟩
        (fun i σ G _ ⟨_, _, _, _, _, _, hW, _⟩ => SqL.of (hW.kp _ _ (by simp [lrz, lrw]) elr)) ?_ ?_
      · rintro i x σ G hi ⟨qb, v6, v7, T, n, rfl, hW, hn, ab, nbT, kyT⟩
        rw [List.getElem?_map] at hi
        obtain ⟨r, hr1, rfl⟩ := Option.map_eq_some_iff.mp hi
        have im : i < m := by rw [← lrs]; exact (List.getElem?_eq_some_iff.mp hr1).1
        obtain ⟨y, hy, ay⟩ := paired_get prs hr1
        rw [atO im] at hy
        obtain rfl := Option.some.inj hy
        obtain ⟨c1, c2, er1, ac1, ac2⟩ := ay
        have tk : Tk B G := fun b xs e => hW.kp b _ (fun mm => by
          simp only [List.mem_cons, List.not_mem_nil, or_false] at mm
          rcases mm with mm | mm
          · rw [mm, wB.wa.gd] at e
            cases e
          · rw [mm, zB] at e
            cases e) e
        have ac := ac1.tk tk
        have ab' := ab.tk tk
        refine ⟨r, _, rfl, SqT.of (tk _ _ er1), rfl, _, _, rfl, _, _, rfl, rfl, ?_⟩
        refine ⟨_, rfl, _, rfl, _, _, ac.dp, ab'.dp, cD_shaped _, cD_shaped _, _, rfl, ?_⟩
        rw [cD_eqv]
        refine ite2 (fun y => ?_) (fun y => ?_)
        · have ne : (iterS (without L c) (c, sq) i).1 ≠ (prS (without L c) (c, sq) m i).1 := by simpa using y
          refine ⟨w, z, B, T, n, qb, c1, _, _, rfl, rfl, rfl, hW, ab', ac, by omega, fun G' T' hW' pw => ?_⟩
          have tk1 : Tk B G' := fun b xs e => hW'.kp b _ (fun mm => by
            simp only [List.mem_cons, List.not_mem_nil, or_false] at mm
            rcases mm with mm | mm
            · rw [mm, wB.wa.gd] at e
              cases e
            · rw [mm, zB] at e
              cases e) e
          refine ⟨w, z, B, T', n + 1, c1, qb, _, _, rfl, rfl, rfl, hW', ac1.tk tk1, ab.tk tk1, by omega, fun G'' T'' hW'' pw' => ?_⟩
          refine ⟨_, rfl, c1, _, _, T'', n + 2, rfl, hW'', by omega, ac1, fun u v => ?_, fun x => ?_⟩
          · rw [pw'.nb, pw.nb, nbT]
            constructor
            · rintro ((⟨j, hj, hh⟩ | ⟨rfl, rfl⟩) | ⟨rfl, rfl⟩)
              · exact ⟨j, by omega, hh⟩
              · exact ⟨i, by omega, ne, .inl ⟨rfl, rfl⟩⟩
              · exact ⟨i, by omega, ne, .inr ⟨rfl, rfl⟩⟩
            · rintro ⟨j, hj, n1, hh⟩
              by_cases z : j = i
              · subst z
                rcases hh with hh | hh
                · exact .inl (.inr hh)
                · exact .inr hh
              · exact .inl (.inl ⟨j, by omega, n1, hh⟩)
          · rw [pw'.ky, pw.ky, kyT]
            constructor
            · rintro (((h | ⟨y, h⟩) | rfl) | rfl)
              · exact .inl h
              · exact .inr ⟨y, (pw'.nb _ _).mpr (.inl ((pw.nb _ _).mpr (.inl h)))⟩
              · exact .inr ⟨_, (pw'.nb _ _).mpr (.inl ((pw.nb _ _).mpr (.inr ⟨rfl, rfl⟩)))⟩
              · exact .inr ⟨_, (pw'.nb _ _).mpr (.inr ⟨rfl, rfl⟩)⟩
            · rintro (h | ⟨y, h⟩)
              · exact .inl (.inl (.inl h))
              · rcases (pw'.nb _ _).mp h with h | ⟨h, _⟩
                · rcases (pw.nb _ _).mp h with h | ⟨h, _⟩
                  · exact .inl (.inl (.inr ⟨y, h⟩))
                  · exact .inl (.inr h)
                · exact .inr h
        · have ne : (iterS (without L c) (c, sq) i).1 = (prS (without L c) (c, sq) m i).1 := by simpa using y
          refine ⟨_, rfl, c1, _, _, T, n, rfl, hW, by omega, ac1, fun u v => ?_, kyT⟩
          rw [nbT]
          constructor
          · rintro ⟨j, hj, hh⟩
            exact ⟨j, by omega, hh⟩
          · rintro ⟨j, hj, n1, hh⟩
            by_cases z : j = i
            · rw [z] at n1
              exact absurd ne n1
            · exact ⟨j, by omega, n1, hh⟩
      · rintro σ G ⟨qb, v6, v7, T, n, rfl, hW, hn, ab, nbT, kyT⟩
        rw [List.length_map, lrs] at hn nbT
        have sG : Same H G := fun b o e => hW.kp b o (fun mm => by
          simp only [List.mem_cons, List.not_mem_nil, or_false] at mm
          rcases mm with mm | mm
          · rw [mm, hw] at e
            cases e
          · have e2 := s0 _ _ e
            rw [mm, hz] at e2
            cases e2) (s06 _ _ e)
        have wa := hW.wa
        exact ⟨_, rfl, k w G T sG ⟨wa.gd, wa.nk, fun e he => ⟨(wa.ls e he).1, Nat.le_trans (wa.ls e he).2 (by omega)⟩, Nat.le_trans wa.ln (by omega)⟩ (fun _ => ⟨fun x y => by rw [nbT]; exact ring_ways hR sd ro x y, kyT⟩) (fun y => by rw [hb] at y; cases y)⟩
end
end Sq

set_option Elab.async false
set_option linter.all false
set_option maxRecDepth 100000
set_option maxHeartbeats 1000000
/-! Distances along the ways. -/
namespace Sq
open PySem PySem.Spec PyProof.Rows L2
def Wk (A : Cell → Cell → Prop) (e : Cell) : Nat → Cell → Prop
  | 0, x => x = e
  | n + 1, x => ∃ y, Wk A e n y ∧ A y x
def Dst (A : Cell → Cell → Prop) (e : Cell) (n : Nat) (x : Cell) : Prop := Wk A e n x ∧ ∀ k, k < n → ¬ Wk A e k x
section
variable {A : Cell → Cell → Prop} {e : Cell}
theorem Dst.uniq {n m : Nat} {x : Cell} (h : Dst A e n x) (k : Dst A e m x) : n = m := by
  rcases Nat.lt_trichotomy n m with l | l | l
  · exact absurd h.1 (k.2 _ l)
  · exact l
  · exact absurd k.1 (h.2 _ l)
theorem wk_dst : ∀ (n : Nat) {x : Cell}, Wk A e n x → ∃ m, m ≤ n ∧ Dst A e m x := fun n => by
  induction n using Nat.strongRecOn with
  | _ n ih =>
    intro x h
    by_cases c : ∃ k, k < n ∧ Wk A e k x
    · obtain ⟨k, l, hk⟩ := c
      obtain ⟨m, m1, m2⟩ := ih k l hk
      exact ⟨m, by omega, m2⟩
    · exact ⟨n, Nat.le_refl n, h, fun k l hk => c ⟨k, l, hk⟩⟩
theorem Dst.prev {n : Nat} {x : Cell} (h : Dst A e (n + 1) x) : ∃ y, Dst A e n y ∧ A y x := by
  obtain ⟨⟨y, wy, ay⟩, h2⟩ := h
  exact ⟨y, ⟨wy, fun k l hk => h2 (k + 1) (by omega) ⟨y, hk, ay⟩⟩, ay⟩
theorem Dst.next {n : Nat} {x y : Cell} (h : Dst A e n y) (a : A y x) : ∃ m, m ≤ n + 1 ∧ Dst A e m x := wk_dst _ ⟨y, h.1, a⟩
theorem Dst.zero : Dst A e 0 e := ⟨rfl, fun k l => by omega⟩
end
abbrev WdE := Cell × Nat
def wdK (F : List WdE) : List (List Key × V) := kvG (fun x : WdE => x.1) (fun x => V.int (x.2 : Int)) F
def keysD (F : List WdE) : List Cell := F.map fun x => x.1
structure FarAt (G : Hp) (d : Addr) (F : List WdE) : Prop where
  gd : G d = some (.dT (wdK F))
  nk : (keysD F).Nodup
theorem far_val {F : List WdE} (nk : (keysD F).Nodup) {x : Cell} {n : Nat} (h : (x, n) ∈ F) : valV (wdK F) (cK x) = some (.int (n : Int)) := kv_yes (k := fun x : WdE => x.1) (v := fun x => V.int (x.2 : Int)) (p := (x, n)) nk h
theorem far_is {F : List WdE} (nk : (keysD F).Nodup) (x : Cell) : (valV (wdK F) (cK x)).isSome = decide (x ∈ keysD F) := kv_is (k := fun x : WdE => x.1) (v := fun x => V.int (x.2 : Int)) nk
theorem mem_keysD {F : List WdE} {x : Cell} : x ∈ keysD F ↔ ∃ n, (x, n) ∈ F := by
  unfold keysD
  rw [List.mem_map]
  exact ⟨fun ⟨⟨a, n⟩, h, e⟩ => ⟨n, by rw [← e]; exact h⟩, fun ⟨n, h⟩ => ⟨_, h, rfl⟩⟩
theorem far_put {F : List WdE} {x : Cell} {n : Nat} (h : x ∉ keysD F) : putK (wdK F) (cK x) (.int (n : Int)) = wdK (F ++ [(x, n)]) := kv_put (k := fun x : WdE => x.1) (v := fun x => V.int (x.2 : Int)) (p := ((x, n) : WdE)) h
theorem len_in {F : List WdE} {T : List WyE} (nk : (keysD F).Nodup) (h : ∀ x ∈ keysD F, x ∈ keysW T) : F.length ≤ T.length := by
  have h2 := len_le nk h
  unfold keysD keysW at h2
  rwa [List.length_map, List.length_map] at h2
/-- while the next layer grows -/
structure Wd (H : Hp) (d af ly : Addr) (W : List Cell) (F : List WdE) (A : List Cell) (G : Hp) : Prop where
  sm : Same H G
  hd : H d = none
  ha : H af = none
  ne : ly ≠ af
  fa : FarAt G d F
  gl : CellsL G ly W
  ga : CellsL G af A
section
variable {H G : Hp} {d af ly : Addr} {W A : List Cell} {F : List WdE}
theorem Wd.put (h : Wd H d af ly W F A G) {x : Cell} {n : Nat} {q : Addr} (nx : x ∉ keysD F) (aq : At G q x) {qs : List Addr} (eq : G af = some (.lst (qs.map V.ref))) (pq : Paired (fun q c => At G q c) qs A) :
    Wd H d af ly W (F ++ [(x, n)]) (A ++ [x]) (upd (upd G d (.dT (wdK (F ++ [(x, n)])))) af (.lst (qs.map V.ref ++ [V.ref q]))) := by
  have gd := h.fa.gd
  have nda : d ≠ af := fun e => by rw [e, eq] at gd; cases gd
  have tk : Tk G (upd (upd G d (.dT (wdK (F ++ [(x, n)])))) af (.lst (qs.map V.ref ++ [V.ref q]))) := fun b xs e => by
    rw [upd_ne (fun w => by rw [w, eq] at e; cases e), upd_ne (fun w => by rw [w, gd] at e; cases e)]
    exact e
  refine ⟨fun b o e => ?_, h.hd, h.ha, h.ne, ⟨?_, ?_⟩, ?_, ?_⟩
  · rw [upd_ne (fun w => by have := h.ha; rw [← w, e] at this; cases this), upd_ne (fun w => by have := h.hd; rw [← w, e] at this; cases this)]
    exact h.sm b o e
  · rw [upd_ne nda, upd_same]
  · unfold keysD
    rw [List.map_append]
    exact nodup_snoc h.fa.nk nx
  · refine h.gl.tk tk ?_
    have nl : ly ≠ d := fun e => by
      obtain ⟨_, c, _⟩ := h.gl
      rw [e, gd] at c
      cases c
    rw [upd_ne h.ne, upd_ne nl]
  · exact ⟨qs ++ [q], by rw [upd_same, List.map_append]; rfl, (paired_imp (fun _ _ w => tk _ _ w) pq).snoc (tk _ _ aq)⟩
end
/-- what stands in distances while layer k is walked, S what was met -/
structure DsK (A : Cell → Cell → Prop) (e : Cell) (k : Nat) (S : Cell → Prop) (F : List WdE) (L : List Cell) : Prop where
  mf : ∀ x n, (x, n) ∈ F ↔ (Dst A e n x ∧ n ≤ k) ∨ (n = k + 1 ∧ x ∈ L)
  ml : ∀ x, x ∈ L ↔ Dst A e (k + 1) x ∧ S x
  ln : L.length ≤ F.length
section
variable {A : Cell → Cell → Prop} {e : Cell} {k : Nat} {S S' : Cell → Prop} {F : List WdE} {L : List Cell}
theorem DsK.new (h : DsK A e k S F L) {y x : Cell} (hy : Dst A e k y) (a : A y x) (nx : x ∉ keysD F) (hS : ∀ z, S' z ↔ S z ∨ z = x) : DsK A e k S' (F ++ [(x, k + 1)]) (L ++ [x]) := by
  obtain ⟨m, m1, m2⟩ := hy.next a
  have m3 : m = k + 1 := by
    by_cases l : m ≤ k
    · exact absurd (mem_keysD.mpr ⟨m, (h.mf _ _).mpr (.inl ⟨m2, l⟩)⟩) nx
    · omega
  rw [m3] at m2
  refine ⟨fun z n => ?_, fun z => ?_, ?_⟩
  · rw [List.mem_append, List.mem_append, h.mf, List.mem_singleton, List.mem_singleton, Prod.mk.injEq]
    constructor
    · rintro ((w | ⟨w1, w2⟩) | ⟨w1, w2⟩)
      · exact .inl w
      · exact .inr ⟨w1, .inl w2⟩
      · exact .inr ⟨w2, .inr w1⟩
    · rintro (w | ⟨w1, w2 | w2⟩)
      · exact .inl (.inl w)
      · exact .inl (.inr ⟨w1, w2⟩)
      · exact .inr ⟨w2, w1⟩
  · rw [List.mem_append, h.ml, List.mem_singleton, hS]
    constructor
    · rintro (⟨w1, w2⟩ | rfl)
      · exact ⟨w1, .inl w2⟩
      · exact ⟨m2, .inr rfl⟩
    · rintro ⟨w1, w2 | w2⟩
      · exact .inl ⟨w1, w2⟩
      · exact .inr w2
  · rw [List.length_append, List.length_append]
    exact Nat.succ_le_succ h.ln
theorem DsK.old (h : DsK A e k S F L) {x : Cell} (nx : x ∈ keysD F) (hS : ∀ z, S' z ↔ S z ∨ z = x) : DsK A e k S' F L := by
  refine ⟨h.mf, fun z => ?_, h.ln⟩
  rw [h.ml, hS]
  constructor
  · rintro ⟨w1, w2⟩
    exact ⟨w1, .inl w2⟩
  · rintro ⟨w1, w2 | rfl⟩
    · exact ⟨w1, w2⟩
    · obtain ⟨n, hn⟩ := mem_keysD.mp nx
      rcases (h.mf _ _).mp hn with ⟨w3, w4⟩ | ⟨w3, w4⟩
      · have := w3.uniq w1
        omega
      · exact (h.ml _).mp w4
theorem DsK.cong (h : DsK A e k S F L) (hS : ∀ z, S' z ↔ S z) : DsK A e k S' F L := ⟨h.mf, fun z => by rw [h.ml, hS], h.ln⟩
end
theorem nb_of {T : List WyE} (nk : (keysW T).Nodup) {l : WyE} (hl : l ∈ T) {x : Cell} : nbW T l.1 x ↔ x ∈ l.2.2 := by
  constructor
  · rintro ⟨e, he, h1, h2⟩
    rw [← inj_of_nodup (f := fun x : WyE => x.1) nk he hl h1]
    exact h2
  · exact fun h => ⟨l, hl, rfl, h⟩
def spDist : Sp := fun vs H Q _ => ∃ (w qe qs : Addr) (T : List WyE) (e st : Cell) (D : Nat), vs = [.ref w, .ref qe, .ref qs] ∧ WaysAt H w T 8000 ∧ (∀ x y, nbW T x y → y ∈ keysW T) ∧ At H qe e ∧ At H qs st ∧ e ∈ keysW T ∧ Dst (nbW T) e D st ∧
  ∀ d G F, Same H G → FarAt G d F → (∀ x n, (x, n) ∈ F ↔ Dst (nbW T) e n x ∧ n ≤ D) → Q (.ref d) G
theorem dst_key {T : List WyE} (cl : ∀ x y, nbW T x y → y ∈ keysW T) {e : Cell} (he : e ∈ keysW T) : ∀ {n : Nat} {x : Cell}, Dst (nbW T) e n x → x ∈ keysW T
  | 0, _, h => by
    have : _ = e := h.1
    rw [this]
    exact he
  | n + 1, x, h => by
    obtain ⟨y, _, a⟩ := h.prev
    exact cl _ _ a
section
variable {P : Program} {w : World} {K : PySem.W.Frag} {mg : Str → Option Value} {base : Heap}
abbrev dtoN : List Str := ["ways", "end", "start", "distances", "layer", "after", "cell", "near"]
theorem scDto : FnScope dtoN ["ways", "end", "start"] (defScope gDistancesTo) := ⟨rfl, rfl, rfl, by decide +kernel, rfl, by decide +kernel, by decide +kernel⟩
theorem ok_dist {f : Addr} {fd : FuncData} (F : FnP K "distances_to" gDistancesTo f fd) : FnOk P w K mg base CX0 1 f fd ["ways", "end", "start"] spDist := by
  refine F.ok scDto (fun vs H Q E h => ?_) (fun cdv A outer s H vs Q E hr h => ?_)
  · obtain ⟨w, qe, qs, T, e, s, D, rfl, _⟩ := h
    rfl
  · obtain ⟨w, qe, qs, T, e, st, D, rfl, wa, cl, ae, ast, ke, ds, k⟩ := h
    have hu := hu_of hr
    have one_le : (1 : Nat) ≤ sizeLine := by rw [sizeLine_eq]; decide
    refine ⟨_, PSs.nox (pss_cons (ps_set (i := 3) scDto.nd rfl (.inl rfl) (pe_disp1 (.inr rfl) hu (pv 1) pe_int))
      (pss_cons (ps_set (i := 4) scDto.nd rfl (.inl rfl) (pe_lst (pa_cons (pv 1) pa_nil)))
      (pss_cons (ps_while PassesOwn.never (pt_cmp (pc_dnotin hu (pv 2) (pv 3)))
      (pss_cons (ps_set (i := 5) scDto.nd rfl (.inl rfl) (pe_lst pa_nil))
        (pss_cons (ps_for PassesOwn.never rfl (pi_list (pv 4)) (pg_name (i := 6) scDto.nd rfl (.inl rfl))
        (pss_one (ps_for PassesOwn.never rfl (pi_list (pe_dget hu (pv 0) (pv 6) (fun _ _ => rfl))) (pg_name (i := 7) scDto.nd rfl (.inl rfl))
          (pss_one (ps_if (pt_cmp (pc_dnotin hu (pv 7) (pv 3)))
            (pss_cons (ps_dput hu (pv 3) (pv 7) (pe_op op_add (pe_dget hu (pv 3) (pv 6) (fun _ _ => rfl)) pe_int) rfl)
              (pss_one (ps_expr (pe_bm PySem.F.plainAttrs_list PySem.F.slot_list_append PySem.F.type_list_append mt_append (pv 5) (pa_cons (pv 7) pa_nil)))))
            pss_nil)))))
        (pss_one (ps_set (i := 4) scDto.nd rfl (.inl rfl) (pv 5))))))
      (pss_one (ps_ret (pv 3)))))), ?_⟩
    intro d hd
    have s0 := same_new (o := .dT []) hd
    have e0 := upd_same (H := H) (a := d) (o := .dT [])
    refine ⟨_, rfl, _, dput_c e0 (ae.same s0) (by rw [sizeLine_eq]; decide), ?_⟩
    rw [show putK [] (cK e) (V.int 0) = wdK [(e, 0)] from far_put (F := []) (n := 0) (by simp [keysD]), upd_upd]
    have s1 := same_new (o := .dT (wdK [(e, 0)])) hd
    have g1 := upd_same (H := H) (a := d) (o := .dT (wdK [(e, 0)]))
    generalize upd H d (.dT (wdK [(e, 0)])) = G1 at s1 g1
    refine ⟨_, rfl, one_le, fun l0 hl0 => ?_⟩
    have s2 := same_new (o := .lst [.ref qe]) hl0
    have g2 := upd_same (H := G1) (a := l0) (o := .lst [.ref qe])
    have g12 := s2 _ _ g1
    have s02 := s1.trans s2
    generalize upd G1 l0 (.lst [.ref qe]) = G2 at s2 g2 g12 s02
    refine ⟨fun q σ G => ∃ (n : Nat) (ly : Addr) (W : List Cell) (F : List WdE) (v5 v6 v7 : Option V), q = D - n ∧ σ = [some (.ref w), some (.ref qe), some (.ref qs), some (.ref d), some (.ref ly), v5, v6, v7] ∧ n ≤ D ∧ Same H G ∧ FarAt G d F ∧ CellsL G ly W ∧ (∀ x m, (x, m) ∈ F ↔ Dst (nbW T) e m x ∧ m ≤ n) ∧ (∀ x, x ∈ W ↔ Dst (nbW T) e n x),
      ⟨D, 0, l0, [e], [(e, 0)], none, none, none, rfl, rfl, Nat.zero_le _, s02, ⟨g12, by simp [keysD]⟩, ⟨[qe], g2, .cons (ae.same s02) .nil⟩, fun x m => ?_, fun x => ?_⟩, ?_⟩
    · rw [List.mem_singleton, Prod.mk.injEq]
      constructor
      · rintro ⟨rfl, rfl⟩
        exact ⟨Dst.zero, Nat.le_refl _⟩
      · rintro ⟨h1, h2⟩
        obtain rfl : m = 0 := by omega
        exact ⟨h1.1, rfl⟩
    · rw [List.mem_singleton]
      exact ⟨fun y => by rw [y]; exact Dst.zero, fun y => y.1⟩
    rintro q σ G ⟨n, ly, W, F, v5, v6, v7, rfl, rfl, nD, sG, fa, cw, mF, mW⟩
    refine ⟨_, rfl, _, rfl, d, _, rfl, DGet.t (k := cK st) fa.gd (ast.same sG), _, rfl, ?_⟩
    rw [far_is fa.nk]
    refine ite2 (fun h1 => ?_) (fun h1 => ?_)
    · have ns : st ∉ keysD F := by simpa using h1
      have lt : n < D := by
        by_cases z : n = D
        · exact absurd (mem_keysD.mpr ⟨D, (mF _ _).mpr ⟨ds, by omega⟩⟩) ns
        · omega
      refine ⟨fun σ' G' => ∃ m', m' < D - n ∧ _, fun _ _ h => h, ?_⟩
      refine ⟨Nat.zero_le _, fun af haf => ?_⟩
      have s3 := same_new (o := HO.lst []) haf
      have ga := upd_same (H := G) (a := af) (o := HO.lst [])
      have haH : H af = none := sG.free haf
      obtain ⟨ws, ew, pw⟩ := cw
      have base : Wd H d af ly W F [] (upd G af (.lst [])) := ⟨sG.trans s3, hd, haH, (fun y => by rw [y, haf] at ew; cases ew), ⟨s3 _ _ fa.gd, fa.nk⟩, ⟨ws, s3 _ _ ew, paired_imp (fun _ _ y => s3 _ _ y) pw⟩, ⟨[], ga, .nil⟩⟩
      have d0 : DsK (nbW T) e n (fun x => ∃ a ∈ W.take 0, nbW T a x) F [] := ⟨fun x m => by rw [mF]; simp, fun x => by simp, Nat.zero_le _⟩
      have ew3 := s3 _ _ ew
      have pw3 := paired_imp (fun _ _ (y : At G _ _) => s3 _ _ y) pw
      generalize upd G af (.lst []) = G3 at base ew3 pw3
      refine ⟨_, rfl, ly, rfl, ⟨_, SqL.of ew3⟩, ?_⟩
      refine for_list (K := K) (a := ly) (xs := ws.map V.ref) (fun i σ G => ∃ (v6 v7 : Option V) (F : List WdE) (A : List Cell), σ = [some (.ref w), some (.ref qe), some (.ref qs), some (.ref d), some (.ref ly), some (.ref af), v6, v7] ∧ Wd H d af ly W F A G ∧ G ly = some (.lst (ws.map V.ref)) ∧ Paired (fun q c => At G q c) ws W ∧ DsK (nbW T) e n (fun x => ∃ a ∈ W.take i, nbW T a x) F A)
        ⟨v6, v7, F, [], rfl, base, ew3, pw3, d0⟩ (fun i σ G _ ⟨_, _, _, _, _, _, y, _⟩ => SqL.of y) ?_ ?_
      · rintro i x σ G4 hi ⟨v6, v7, F4, A4, rfl, wd, ew4, pw4, dk⟩
        rw [List.getElem?_map] at hi
        obtain ⟨qa, hqa, rfl⟩ := Option.map_eq_some_iff.mp hi
        obtain ⟨a, ha, aa⟩ := paired_get pw4 hqa
        have da : Dst (nbW T) e n a := (mW a).mp (List.mem_of_getElem? ha)
        obtain ⟨l, hl, rfl⟩ := List.mem_map.mp (dst_key cl ke da)
        have wa4 := wa.same wd.sm
        obtain ⟨⟨ns', el, pl⟩, ll⟩ := wa4.ls l hl
        refine ⟨_, rfl, _, rfl, w, .ref l.2.1, rfl, (by rw [← wa4.val hl]; exact DGet.t (k := cK l.1) wa4.gd aa), l.2.1, rfl, ⟨_, SqL.of el⟩, ?_⟩
        have nb := fun x => nb_of (x := x) wa.nk hl
        refine for_list (K := K) (a := l.2.1) (xs := ns'.map V.ref) (fun j σ G => ∃ (v7 : Option V) (F : List WdE) (A : List Cell), σ = [some (.ref w), some (.ref qe), some (.ref qs), some (.ref d), some (.ref ly), some (.ref af), some (.ref qa), v7] ∧ Wd H d af ly W F A G ∧ G ly = some (.lst (ws.map V.ref)) ∧ Paired (fun q c => At G q c) ws W ∧ G l.2.1 = some (.lst (ns'.map V.ref)) ∧ Paired (fun q c => At G q c) ns' l.2.2 ∧ At G qa l.1 ∧ DsK (nbW T) e n (fun x => (∃ a ∈ W.take i, nbW T a x) ∨ x ∈ l.2.2.take j) F A)
          ⟨v7, F4, A4, rfl, wd, ew4, pw4, el, pl, aa, dk.cong fun z => by simp⟩ (fun i σ G _ ⟨_, _, _, _, _, _, _, y, _⟩ => SqL.of y) ?_ ?_
        · rintro j x σ G5 hj ⟨v7, F5, A5, rfl, wd5, ew5, pw5, el5, pl5, aa5, dk5⟩
          rw [List.getElem?_map] at hj
          obtain ⟨qb, hqb, rfl⟩ := Option.map_eq_some_iff.mp hj
          obtain ⟨b, hb, ab⟩ := paired_get pl5 hqb
          have nbb : nbW T l.1 b := (nb b).mpr (List.mem_of_getElem? hb)
          have hS : ∀ z, ((∃ a ∈ W.take i, nbW T a z) ∨ z ∈ l.2.2.take (j + 1)) ↔ ((∃ a ∈ W.take i, nbW T a z) ∨ z ∈ l.2.2.take j) ∨ z = b := fun z => by
            rw [take_snoc hb, List.mem_append, List.mem_singleton, or_assoc]
          refine ⟨_, rfl, _, rfl, d, _, rfl, DGet.t (k := cK b) wd5.fa.gd ab, _, rfl, ?_⟩
          rw [far_is wd5.fa.nk]
          refine ite2 (fun h2 => ?_) (fun h2 => ?_)
          · have nx : b ∉ keysD F5 := by simpa using h2
            have inF : (l.1, n) ∈ F5 := (dk5.mf _ _).mpr (.inl ⟨da, Nat.le_refl n⟩)
            have lF : F5.length ≤ 8001 := Nat.le_trans (len_in wd5.fa.nk fun x hx => by
              obtain ⟨m, hm⟩ := mem_keysD.mp hx
              rcases (dk5.mf _ _).mp hm with y | y
              · exact dst_key cl ke y.1
              · exact dst_key cl ke ((dk5.ml _).mp y.2).1) wa.ln
            obtain ⟨qs5, ea5, pa5⟩ := wd5.ga
            have nda : d ≠ af := fun y => by have := wd5.fa.gd; rw [y, ea5] at this; cases this
            have ea6 : upd G5 d (.dT (wdK (F5 ++ [(b, n + 1)]))) af = some (.lst (qs5.map V.ref)) := by rw [upd_ne nda.symm]; exact ea5
            have la : A5.length ≤ F5.length := dk5.ln
            refine ⟨_, rfl, _, rfl, d, .int (n : Int), rfl, (by rw [← far_val wd5.fa.nk inF]; exact DGet.t (k := cK l.1) wd5.fa.gd aa5), _, _, rfl, rfl, _, rfl, _, rfl, d, _, rfl, DPut.t (k := cK b) wd5.fa.gd ab (by unfold wdK; rw [kv_len, sizeLine_eq]; omega), ?_⟩
            rw [show putK (wdK F5) (cK b) (V.int ((n : Int) + 1)) = wdK (F5 ++ [(b, n + 1)]) from far_put nx]
            refine ⟨_, rfl, .inl ⟨rfl, _, SqL.of ea6⟩, _, rfl, af, _, _, rfl, rfl, ea6, by rw [List.length_map, Paired.length pa5, sizeLine_eq]; omega, ?_⟩
            have wd6 := wd5.put (n := n + 1) nx ab ea5 pa5
            have off : ∀ {r : Addr} {o : HO}, r ≠ d → r ≠ af → G5 r = some o → upd (upd G5 d (.dT (wdK (F5 ++ [(b, n + 1)])))) af (.lst (qs5.map V.ref ++ [V.ref qb])) r = some o := fun n1 n2 y => by
              rw [upd_ne n2, upd_ne n1]
              exact y
            have tup : ∀ {r : Addr} {c : Cell}, At G5 r c → At (upd (upd G5 d (.dT (wdK (F5 ++ [(b, n + 1)])))) af (.lst (qs5.map V.ref ++ [V.ref qb]))) r c := fun {r c} y => off (fun z => by
              have y2 : G5 r = some (.tup (cV c)) := y
              rw [z, wd5.fa.gd] at y2
              cases y2) (fun z => by
              have y2 : G5 r = some (.tup (cV c)) := y
              rw [z, ea5] at y2
              cases y2) y
            have lst : ∀ {r : Addr} {xs : List V}, r ≠ af → G5 r = some (.lst xs) → upd (upd G5 d (.dT (wdK (F5 ++ [(b, n + 1)])))) af (.lst (qs5.map V.ref ++ [V.ref qb])) r = some (.lst xs) := fun {r xs} n2 y => off (fun z => by
              rw [z, wd5.fa.gd] at y
              cases y) n2 y
            have nla : l.2.1 ≠ af := fun z => by
              obtain ⟨⟨_, y, _⟩, _⟩ := wa.ls l hl
              rw [z, haH] at y
              cases y
            exact ⟨_, _, _, rfl, wd6, lst wd5.ne ew5, paired_imp (fun _ _ y => tup y) pw5, lst nla el5, paired_imp (fun _ _ y => tup y) pl5, tup aa5, dk5.new da nbb nx hS⟩
          · have nx : b ∈ keysD F5 := by simpa using h2
            exact ⟨_, _, _, rfl, wd5, ew5, pw5, el5, pl5, aa5, dk5.old nx hS⟩
        · rintro σ G5 ⟨v7, F5, A5, rfl, wd5, ew5, pw5, el5, pl5, aa5, dk5⟩
          refine ⟨_, _, F5, A5, rfl, wd5, ew5, pw5, dk5.cong fun z => ?_⟩
          rw [take_snoc ha, List.length_map, Paired.length pl5, List.take_length]
          constructor
          · rintro ⟨a, h1, h2⟩
            rcases List.mem_append.mp h1 with y | y
            · exact .inl ⟨a, y, h2⟩
            · rw [List.mem_singleton.mp y] at h2
              exact .inr ((nb _).mp h2)
          · rintro (⟨a, h1, h2⟩ | h2)
            · exact ⟨a, List.mem_append_left _ h1, h2⟩
            · exact ⟨l.1, List.mem_append_right _ (List.mem_singleton.mpr rfl), (nb _).mpr h2⟩
      · rintro σ G4 ⟨v6, v7, F4, A4, rfl, wd, ew4, pw4, dk⟩
        rw [List.length_map, Paired.length pw4, List.take_length] at dk
        refine ⟨_, rfl, D - (n + 1), by omega, n + 1, af, A4, F4, _, _, _, rfl, rfl, by omega, wd.sm, wd.fa, wd.ga, fun x m => ?_, fun x => ?_⟩
        · rw [dk.mf]
          constructor
          · rintro (⟨y1, y2⟩ | ⟨y1, y2⟩)
            · exact ⟨y1, by omega⟩
            · rw [y1]
              exact ⟨((dk.ml _).mp y2).1, Nat.le_refl _⟩
          · rintro ⟨y1, y2⟩
            by_cases z : m ≤ n
            · exact .inl ⟨y1, z⟩
            · obtain rfl : m = n + 1 := by omega
              obtain ⟨a, a1, a2⟩ := y1.prev
              exact .inr ⟨rfl, (dk.ml _).mpr ⟨y1, a, (mW a).mpr a1, a2⟩⟩
        · rw [dk.ml]
          exact ⟨fun y => y.1, fun y => ⟨y, by
            obtain ⟨a, a1, a2⟩ := y.prev
            exact ⟨a, (mW a).mpr a1, a2⟩⟩⟩
    · have inF : st ∈ keysD F := by simpa using h1
      obtain ⟨m, hm⟩ := mem_keysD.mp inF
      obtain ⟨m1, m2⟩ := (mF _ _).mp hm
      obtain rfl := m1.uniq ds
      obtain rfl : n = m := by omega
      exact ⟨_, rfl, k d G F sG fa mF⟩
end
end Sq

set_option Elab.async false
set_option linter.all false
set_option maxRecDepth 100000
set_option maxHeartbeats 1000000
/-! The walk along the ways. -/
namespace Sq
open PySem PySem.Spec PyProof.Rows L2
theorem minD_cells : ∀ (cs : List Cell) (c : Cell), ∃ m ∈ c :: cs, PySem.W.minD (cD c) (cs.map cD) = cD m ∧ ∀ d ∈ c :: cs, cLt d m = false
  | [], c => ⟨c, List.mem_cons_self .., rfl, fun d hd => by
    rw [List.mem_singleton.mp hd]
    exact decide_eq_false (by omega)⟩
  | e :: cs, c => by
    have st : PySem.W.minD (cD c) ((e :: cs).map cD) = PySem.W.minD (cD (if cLt e c = true then e else c)) (cs.map cD) := by
      show List.foldl _ _ _ = List.foldl _ _ _
      rw [List.map_cons, List.foldl_cons, lt_cD]
      cases cLt e c <;> rfl
    obtain ⟨m, hm, em, le⟩ := minD_cells cs (if cLt e c = true then e else c)
    have h0 := le _ (List.mem_cons_self ..)
    rw [st]
    refine ⟨m, ?_, em, fun d hd => ?_⟩
    · rcases List.mem_cons.mp hm with z | z
      · rw [z]
        by_cases h : cLt e c = true
        · rw [if_pos h]
          exact List.mem_cons_of_mem _ (List.mem_cons_self ..)
        · rw [if_neg h]
          exact List.mem_cons_self ..
      · exact List.mem_cons_of_mem _ (List.mem_cons_of_mem _ z)
    · by_cases h : cLt e c = true
      · rw [if_pos h] at h0
        rcases List.mem_cons.mp hd with z | z
        · rw [z]
          have h := of_decide_eq_true h
          have h0 := of_decide_eq_false h0
          exact decide_eq_false (by omega)
        · rcases List.mem_cons.mp z with z | z
          · rw [z]
            exact h0
          · exact le d (List.mem_cons_of_mem _ z)
      · rw [if_neg h] at h0
        rcases List.mem_cons.mp hd with z | z
        · rw [z]
          exact h0
        · rcases List.mem_cons.mp z with z | z
          · rw [z]
            have h : cLt e c = false := by simpa using h
            have h := of_decide_eq_false h
            have h0 := of_decide_eq_false h0
            exact decide_eq_false (by omega)
          · exact le d (List.mem_cons_of_mem _ z)
section
variable {X : Cx}
/-- min of a list of cells: the least -/
def rMinLK (K : PySem.W.Frag) : List V → Hp → VK → Prop := fun vs H Q => ∃ (a : Addr) (qs : List Addr) (cs : List Cell), vs = [V.ref a] ∧ SqL K H a (qs.map V.ref) ∧ Paired (fun q c => At H q c) qs cs ∧ cs ≠ [] ∧ ∀ q c, c ∈ cs → (∀ d ∈ cs, cLt d c = false) → At H q c → Q (.ref q) H
theorem cr_minLK (hc : X.calm = true) (hu : X.A.units + 64 < cLine) : CallR X (.builtin "min") (rMinLK X.K) := by
  intro pins s σ H vs us Q I r h
  obtain ⟨a, qs, cs, rfl, hs, pr, ne, q⟩ := h
  obtain ⟨its, rv, hl, _⟩ := I.list hs
  rw [Vals.ref1 r]
  obtain ⟨as, ra⟩ := reads_cellsW I pr rv
  cases cs with
  | nil => exact absurd rfl ne
  | cons c cs =>
    obtain ⟨m, hm, em, le⟩ := minD_cells cs c
    refine PySem.W.min_list_data (I.ok.hd hc) hl.isList (x := cD c) (xs := cs.map cD) (as := as) (by simpa using ra) ⟨fun x hx y hy => ?_, fun x hx => ?_⟩ ?_ fun i v h' tk bs hi rm hk => ?_
    · obtain ⟨d, _, rfl⟩ := List.mem_map.mp (show x ∈ (c :: cs).map cD from hx)
      obtain ⟨e, _, rfl⟩ := List.mem_map.mp (show y ∈ (c :: cs).map cD from hy)
      exact alike_cD d e
    · obtain ⟨d, _, rfl⟩ := List.mem_map.mp (show x ∈ (c :: cs).map cD from hx)
      simp [cD]
    · have ds : PyData.depthAll (cD c :: cs.map cD) ≤ 1 := (lay_all (n := 1) (ds := (c :: cs).map cD) fun d hd => by
        obtain ⟨c, _, rfl⟩ := List.mem_map.mp hd
        exact lay_cell c).2
      show X.A.units + 1 + _ < cLine
      omega
    · have hv : its[i]? = some v := by simpa using hi
      obtain ⟨y, hy, ry⟩ := paired_getRW rv hv
      rw [List.getElem?_map] at hy
      obtain ⟨b, hb, rfl⟩ := Option.map_eq_some_iff.mp hy
      obtain ⟨d, hd, ad⟩ := paired_get pr hb
      have I2 : Inv X pins σ H { s with heap := h', toks := tk } := I.kept hk
      obtain ⟨bs2, r2⟩ := Dp.reads I2 (cD d) _ _ (At.dp (K := X.K) ad) ry
      rw [em] at rm
      have e : cD m = cD d := (Reads.unique rm _ _ r2).1
      have e : m = d := by simpa using of_decide_eq_true (show decide (m = d) = true by rw [← cD_eqv m d, e]; rw [cD_eqv]; simp)
      exact ⟨.ref b, H, I2, ry, q b d (List.mem_of_getElem? hd) (e ▸ le) ad⟩
end
end Sq

set_option Elab.async false
set_option linter.all false
set_option maxRecDepth 100000
set_option maxHeartbeats 1000000
/-! Walks as mathematics. -/
namespace Sq
open PySem PySem.Spec PyProof.Rows L2
theorem least_nat {p : Nat → Prop} : ∀ (n : Nat), p n → ∃ m, p m ∧ ∀ k, k < m → ¬ p k := fun n => by
  induction n using Nat.strongRecOn with
  | _ n ih =>
    intro h
    by_cases c : ∃ k, k < n ∧ p k
    · obtain ⟨k, l, hk⟩ := c
      exact ih k l hk
    · exact ⟨n, h, fun k l hk => c ⟨k, l, hk⟩⟩
theorem ring_ex {R : List Cell} {e : Side} (sd : IsSide R e) : ∃ m O, RingOf R e m O := by
  obtain ⟨m0, p0, _, r0⟩ := iter_ret sd
  obtain ⟨m, ⟨h1, h2⟩, h3⟩ := least_nat (p := fun m => 1 ≤ m ∧ iterS R e m = e) m0 ⟨p0, r0⟩
  exact ⟨m, _, h1, h2, fun k k1 k2 k3 => h3 k k2 ⟨k1, k3⟩, rfl⟩
theorem step_symm {R : List Cell} {x y : Cell} (hx : x ∉ R) (h : y ∈ stepsN R x) : x ∈ stepsN R y ∧ Air R x y := by
  obtain ⟨e, sd, hh⟩ := step_pair hx h
  have ne := (step_out h).2
  have a1 : Air R e.1 (nextS R e).1 := iter_air sd 1
  rcases hh with ⟨h1, h2⟩ | ⟨h1, h2⟩
  · have st := ring_step sd (by rw [h1, h2]; exact ne)
    rw [h1, h2] at st a1
    exact ⟨st.2, a1⟩
  · have st := ring_step sd (by rw [h1, h2]; exact ne.symm)
    have o1 := sd.out
    rw [h1, h2] at st a1
    rw [h1] at o1
    exact ⟨st.1, a1.symm o1⟩
/-- one step of a walk that begins at s: along what is left behind -/
def adjA (L : List Cell) (s x y : Cell) : Prop := hangsB (without L s) = true ∧ Air (without L s) s x ∧ y ∈ stepsN (without L s) x
theorem self_out (L : List Cell) (s : Cell) : s ∉ without L s := fun y => (mem_without.mp y).2 rfl
theorem adjA_symm {L : List Cell} {s x y : Cell} (h : adjA L s x y) : adjA L s y x := by
  obtain ⟨h1, h2, h3⟩ := h
  obtain ⟨a, b⟩ := step_symm (h2.out (self_out L s)) h3
  exact ⟨h1, h2.trans b, a⟩
section
variable {A : Cell → Cell → Prop}
theorem Wk.head {e f : Cell} (h : A e f) : ∀ {n : Nat} {x : Cell}, Wk A f n x → Wk A e (n + 1) x
  | 0, x, k => ⟨e, rfl, by rw [show x = f from k]; exact h⟩
  | n + 1, x, ⟨y, k, a⟩ => ⟨y, Wk.head h k, a⟩
theorem Wk.back (sy : ∀ x y, A x y → A y x) : ∀ {n : Nat} {e x : Cell}, Wk A e n x → Wk A x n e
  | 0, e, x, k => (show x = e from k).symm
  | n + 1, e, x, ⟨y, k, a⟩ => Wk.head (sy _ _ a) (Wk.back sy k)
theorem Dst.down {e : Cell} : ∀ {n : Nat} {x : Cell}, Dst A e n x → ∀ j, j ≤ n → ∃ y, Dst A e j y
  | n, x, h, j, hj => by
    induction n generalizing x with
    | zero => exact ⟨x, by rw [show j = 0 by omega]; exact h⟩
    | succ n ih =>
      by_cases z : j = n + 1
      · exact ⟨x, by rw [z]; exact h⟩
      · obtain ⟨y, hy, _⟩ := h.prev
        exact ih _ hy (by omega)
theorem Dst.cong {A' : Cell → Cell → Prop} (h : ∀ x y, A x y ↔ A' x y) {e : Cell} {n : Nat} {x : Cell} : Dst A e n x ↔ Dst A' e n x := by
  have : A = A' := funext fun x => funext fun y => propext (h x y)
  rw [this]
end
theorem start_side {L : List Cell} {c : Cell} (hang : Hangs L) (cL : c ∈ L) (hR : Hangs (without L c)) : ∃ sq, IsSide (without L c) (c, sq) := by
  have nn : nearC (without L c) c ≠ [] := fun y => none_hangs hang cL (List.eq_nil_iff_forall_not_mem.mpr fun x hx => by
    obtain ⟨h1, h2⟩ := List.mem_filter.mp hx
    have : x ∈ nearC (without L c) c := List.mem_filter.mpr ⟨h1, decide_eq_true (mem_without.mpr ⟨of_decide_eq_true h2, fun z => beside_ne h1 z⟩)⟩
    rw [y] at this
    cases this) hR
  obtain ⟨sq, sqs, esq⟩ := List.exists_cons_of_ne_nil nn
  have msq : sq ∈ nearC (without L c) c := by rw [esq]; exact List.mem_cons_self ..
  exact ⟨sq, self_out L c, of_decide_eq_true (List.mem_filter.mp msq).2, (List.mem_filter.mp msq).1⟩
theorem ring_wk {L : List Cell} {s sq : Cell} (hb : hangsB (without L s) = true) (sd : IsSide (without L s) (s, sq)) : ∀ k, ∃ n, Wk (adjA L s) s n (iterS (without L s) (s, sq) k).1
  | 0 => ⟨0, rfl⟩
  | k + 1 => by
    obtain ⟨n, hn⟩ := ring_wk hb sd k
    have sk := iter_side sd k
    by_cases z : (nextS (without L s) (iterS (without L s) (s, sq) k)).1 = (iterS (without L s) (s, sq) k).1
    · exact ⟨n, by rw [show iterS (without L s) (s, sq) (k + 1) = nextS (without L s) (iterS (without L s) (s, sq) k) from rfl, z]; exact hn⟩
    · exact ⟨n + 1, _, hn, hb, iter_air sd k, (ring_step sk z).1⟩
theorem key_reach {L : List Cell} {s e : Cell} (hang : Hangs L) (sL : s ∈ L) (h : e = s ∨ ∃ y, adjA L s e y) : ∃ D, Dst (adjA L s) e D s := by
  rcases h with rfl | ⟨y, hb, ae, hy⟩
  · exact ⟨0, Dst.zero⟩
  have hR := hangsB_iff.mp hb
  obtain ⟨sq, sd⟩ := start_side hang sL hR
  obtain ⟨m, O, ro⟩ := ring_ex sd
  obtain ⟨e', sd', hh⟩ := step_pair (ae.out (self_out L s)) hy
  have a1 : Air (without L s) e'.1 (nextS (without L s) e').1 := iter_air sd' 1
  have ae' : Air (without L s) s e'.1 := by
    rcases hh with ⟨h1, _⟩ | ⟨_, h2⟩
    · rw [h1]
      exact ae
    · rw [h2] at a1
      exact ae.trans (a1.symm sd'.out)
  have mO : e' ∈ O := (ro.mem hR sd).mpr ⟨ae', sd'⟩
  rw [ro.eq] at mO
  obtain ⟨k, _, ek⟩ := List.mem_map.mp mO
  have : ∃ j, (iterS (without L s) (s, sq) j).1 = e := by
    rcases hh with ⟨h1, _⟩ | ⟨_, h2⟩
    · exact ⟨k, by rw [ek]; exact h1⟩
    · exact ⟨k + 1, by rw [show iterS (without L s) (s, sq) (k + 1) = nextS (without L s) (iterS (without L s) (s, sq) k) from rfl, ek]; exact h2⟩
  obtain ⟨j, hj⟩ := this
  obtain ⟨n, hn⟩ := ring_wk hb sd j
  rw [hj] at hn
  obtain ⟨D, _, hD⟩ := wk_dst _ (hn.back fun _ _ => adjA_symm)
  exact ⟨D, hD⟩
/-- the least cell of a kind -/
def LeastC (S : Cell → Prop) (y : Cell) : Prop := S y ∧ ∀ z, S z → cLt z y = false
theorem LeastC.uniq {S : Cell → Prop} {y z : Cell} (h : LeastC S y) (k : LeastC S z) : y = z := cLt_tri (k.2 _ h.1) (h.2 _ k.1)
/-- the walk of n moves from x to e, always to the least cell that lies nearer -/
def WalkP (A : Cell → Cell → Prop) (e : Cell) : Nat → Cell → List CellP → Prop
  | 0, x, ms => x = e ∧ ms = []
  | n + 1, x, ms => ∃ y ms', LeastC (fun z => A x z ∧ Dst A e n z) y ∧ ms = (x, y) :: ms' ∧ WalkP A e n y ms'
theorem WalkP.len {A : Cell → Cell → Prop} {e : Cell} : ∀ {n : Nat} {x : Cell} {ms : List CellP}, WalkP A e n x ms → ms.length = n
  | 0, _, _, ⟨_, h⟩ => by rw [h]; rfl
  | n + 1, _, _, ⟨y, ms', _, h, k⟩ => by rw [h, List.length_cons, WalkP.len k]
theorem WalkP.uniq {A : Cell → Cell → Prop} {e : Cell} : ∀ {n : Nat} {x : Cell} {ms ms2 : List CellP}, WalkP A e n x ms → WalkP A e n x ms2 → ms = ms2
  | 0, _, _, _, ⟨_, h⟩, ⟨_, k⟩ => by rw [h, k]
  | n + 1, _, _, _, ⟨y, ms', l, h, w⟩, ⟨z, ms'', l2, k, w2⟩ => by
    obtain rfl := l.uniq l2
    rw [h, k, w.uniq w2]
end Sq

set_option Elab.async false
set_option linter.all false
set_option maxRecDepth 100000
set_option maxHeartbeats 1000000
/-! walk_in. -/
namespace Sq
open PySem PySem.Spec PyProof.Rows L2
def spWalkIn : Sp := fun vs H Q _ => ∃ (d qs qe : Addr) (L : List Cell) (s e : Cell), vs = [.ref d, .ref qs, .ref qe] ∧ H d = some (.dT (lotK L)) ∧ L.Nodup ∧ L.length ≤ 1000 ∧ Hangs L ∧ At H qs s ∧ At H qe e ∧
  (∀ G, Same H G → (s ∉ L ∨ ¬ (e = s ∨ ∃ y, adjA L s e y)) → Q .non G) ∧
  ∀ r G ms D, Same H G → s ∈ L → PairsT G r ms → Dst (adjA L s) e D s → D ≤ 8000 → WalkP (adjA L s) e D s ms → Q (.ref r) G
section
variable {P : Program} {w : World} {K : PySem.W.Frag} {mg : Str → Option Value} {base : Heap}
abbrev wlkN : List Str := ["lot", "start", "end", "ways", "distances", "moves", "place", "nearer", "after", "near"]
theorem scWlk : FnScope wlkN ["lot", "start", "end"] (defScope gWalkIn) := ⟨rfl, rfl, rfl, by decide +kernel, rfl, by decide +kernel, by decide +kernel⟩
theorem far_get {H : Hp} {F : List WdE} (nk : (keysD F).Nodup) (y : Cell) (m : Nat) : ∃ D : PyData, Dp K H ((valV (wdK F) (cK y)).getD .non) D ∧ SeqAt.shaped D = true ∧ PyData.eqv D (.int (m : Int)) = decide ((y, m) ∈ F) := by
  by_cases h : y ∈ keysD F
  · obtain ⟨n, hn⟩ := mem_keysD.mp h
    rw [far_val nk hn]
    refine ⟨_, .int _, rfl, ?_⟩
    rw [show PyData.eqv (.int (n : Int)) (.int (m : Int)) = decide ((n : Int) = (m : Int)) from rfl]
    refine decide_eq_decide.mpr ⟨fun z => by rw [← Int.ofNat.inj z]; exact hn, fun z => ?_⟩
    have := inj_of_nodup (f := fun x : WdE => x.1) nk hn z rfl
    rw [show n = m from congrArg Prod.snd this]
  · rw [show valV (wdK F) (cK y) = none from kv_no h]
    refine ⟨_, .non, rfl, ?_⟩
    rw [show PyData.eqv .none (.int (m : Int)) = false from rfl]
    exact (decide_eq_false fun z => h (mem_keysD.mpr ⟨m, z⟩)).symm
theorem ok_walkIn {f : Addr} {fd : FuncData} (F : FnP K "walk_in" gWalkIn f fd) (B : Bl mg) (DW : Df P w K mg base CX0 4 "ways_in" ["lot", "start"] spWays) (DD : Df P w K mg base CX0 1 "distances_to" ["ways", "end", "start"] spDist) : FnOk P w K mg base CX0 5 f fd ["lot", "start", "end"] spWalkIn := by
  refine F.ok scWlk (fun vs H Q E h => ?_) (fun cdv A outer s H vs Q E hr h => ?_)
  · obtain ⟨d, qs, qe, L, s, e, rfl, _⟩ := h
    rfl
  · obtain ⟨d, qs, qe, L, st, e, rfl, ed, nL, lL, hang, as, ae, kn, ky⟩ := h
    have hu := hu_of hr
    have h64 := room64 hr
    refine ⟨_, PSs.nox (pss_cons (ps_if (pt_cmp (pc_dnotin hu (pv 1) (pv 0)))
      (pss_one (ps_ret pe_non))
      pss_nil)
      (pss_cons (ps_set (i := 3) scWlk.nd rfl (.inl rfl) (pe_df DW hr (by rfl) pass0 (pa_cons (pv 0) (pa_cons (pv 1) pa_nil))))
      (pss_cons (ps_if (pt_cmp (pc_dnotin hu (pv 2) (pv 3)))
      (pss_one (ps_ret pe_non))
      pss_nil)
      (pss_cons (ps_set (i := 4) scWlk.nd rfl (.inr rfl) (pe_df DD hr (by rfl) pass0 (pa_cons (pv 3) (pa_cons (pv 2) (pa_cons (pv 1) pa_nil)))))
      (pss_cons (ps_set (i := 5) scWlk.nd rfl (.inl rfl) (pe_lst pa_nil))
      (pss_cons (ps_set (i := 6) scWlk.nd rfl (.inl rfl) (pv 1))
      (pss_cons (ps_while PassesOwn.never (pt_cmpR (op_neK (K := K) rfl h64) (pv 6) (pv 2) (nomark _))
      (pss_cons (ps_set (i := 7) scWlk.nd rfl (.inr rfl) (pe_op op_sub (pe_dget hu (pv 4) (pv 6) (fun _ _ => rfl)) pe_int))
        (pss_cons (ps_set (i := 8) scWlk.nd rfl (.inl rfl) (pe_callB (cr_minLK (by rfl) h64) (by rfl) B.min (by decide +kernel) (pa_cons (pe_lc (own := [("near", 9)]) (g := gName 9) rfl scWlk.nd (pi_list (pe_dget hu (pv 3) (pv 6) (fun _ _ => rfl))) (blkOk_by (N := wlkN) (sc := defScope gWalkIn) (by decide +kernel)) (fun _ _ _ _ _ => pg_name (i := 9) scWlk.nd rfl (Or.inl rfl)) (fun _ _ _ _ _ => (pts_one (pt_cmpR (op_eqK (K := K) rfl h64) (pe_dget1 hu (pv 4) (pv 9) ⟨rfl, rfl, rfl, rfl⟩) (pv 7) (nomark _)))) (fun _ _ _ _ _ => (pv 9))) pa_nil)))
        (pss_cons (ps_expr (pe_bm PySem.F.plainAttrs_list PySem.F.slot_list_append PySem.F.type_list_append mt_append (pv 5) (pa_cons (pe_tup (pa_cons (pv 6) (pa_cons (pv 8) pa_nil))) pa_nil)))
        (pss_one (ps_set (i := 6) scWlk.nd rfl (.inl rfl) (pv 8)))))))
      (pss_one (ps_ret (pe_tupleOf (by rfl) B.tuple (pv 5))))))))))), ?_⟩
    refine ⟨_, rfl, _, rfl, d, _, rfl, dget_lot ed as, _, rfl, ?_⟩
    rw [lot_is]
    refine ite2 (fun h1 => ?_) (fun h1 => ?_)
    · exact kn H same_refl (.inl (by simpa using h1))
    have sL : st ∈ L := by simpa using h1
    refine ⟨_, rfl, _, rfl, d, qs, L, st, rfl, ed, nL, lL, hang, sL, as, fun wy G1 T s1 wa hy hn => ?_⟩
    have nbA : ∀ x y, nbW T x y ↔ adjA L st x y := fun x y => by
      by_cases hb : hangsB (without L st) = true
      · rw [(hy hb).nb]
        exact ⟨fun z => ⟨hb, z⟩, fun z => z.2⟩
      · have hb' : hangsB (without L st) = false := by simpa using hb
        exact ⟨fun z => absurd z ((hn hb').2 x y), fun z => absurd z.1 hb⟩
    have keysA : ∀ x, x ∈ keysW T ↔ x = st ∨ ∃ y, adjA L st x y := fun x => by
      by_cases hb : hangsB (without L st) = true
      · rw [(hy hb).ky]
        simp only [nbA]
      · have hb' : hangsB (without L st) = false := by simpa using hb
        rw [(hn hb').1]
        exact ⟨.inl, fun z => z.elim id fun ⟨y, z⟩ => absurd z.1 hb⟩
    refine ⟨_, rfl, _, rfl, wy, _, rfl, DGet.t (k := cK e) wa.gd (ae.same s1), _, rfl, ?_⟩
    rw [show (valV (wyK T) (cK e)).isSome = decide (e ∈ keysW T) from kv_is wa.nk]
    refine ite2 (fun h2 => ?_) (fun h2 => ?_)
    · exact kn G1 s1 (.inr (by rw [← keysA]; simpa using h2))
    have eK : e ∈ keysW T := by simpa using h2
    obtain ⟨D, hD⟩ := key_reach hang sL ((keysA e).mp eK)
    have dA : ∀ {n : Nat} {x : Cell}, Dst (nbW T) e n x ↔ Dst (adjA L st) e n x := Dst.cong nbA
    have cl : ∀ x y, nbW T x y → y ∈ keysW T := fun x y z => (keysA y).mpr (.inr ⟨x, adjA_symm ((nbA x y).mp z)⟩)
    refine ⟨_, rfl, _, rfl, _, rfl, wy, qe, qs, T, e, st, D, rfl, wa, cl, ae.same s1, as.same s1, eK, dA.mpr hD, fun ds G2 F2 s2 fa mF => ?_⟩
    have s02 := s1.trans s2
    have wa2 := wa.same s2
    have mF : ∀ x n, (x, n) ∈ F2 ↔ Dst (adjA L st) e n x ∧ n ≤ D := fun x n => by rw [mF, dA]
    have D8 : D ≤ 8000 := by
      have l1 : F2.length ≤ 8001 := Nat.le_trans (len_in fa.nk fun x hx => by
        obtain ⟨m, hm⟩ := mem_keysD.mp hx
        exact dst_key cl eK (dA.mpr ((mF _ _).mp hm).1)) wa.ln
      have l2 : (List.range (D + 1)).length ≤ (F2.map fun x => x.2).length := len_le List.nodup_range fun j hj => by
        obtain ⟨y, hy⟩ := hD.down j (by have := List.mem_range.mp hj; omega)
        exact List.mem_map.mpr ⟨(y, j), (mF _ _).mpr ⟨hy, by have := List.mem_range.mp hj; omega⟩, rfl⟩
      rw [List.length_range, List.length_map] at l2
      omega
    refine ⟨Nat.zero_le _, fun mv hmv => ?_⟩
    have s3 := same_new (o := HO.lst []) hmv
    have em := upd_same (H := G2) (a := mv) (o := HO.lst [])
    generalize upd G2 mv (.lst []) = G3 at s3 em
    refine ⟨_, rfl, ?_⟩
    refine ⟨fun q σ G => ∃ (x : Cell) (px : Addr) (rs : List Addr) (ms : List CellP) (v7 v8 v9 : Option V), σ = [some (.ref d), some (.ref qs), some (.ref qe), some (.ref wy), some (.ref ds), some (.ref mv), some (.ref px), v7, v8, v9] ∧ Kp [mv] G3 G ∧ At G px x ∧ Dst (adjA L st) e q x ∧ q ≤ D ∧ G mv = some (.lst (rs.map V.ref)) ∧ Paired (fun r m => PairAt G r m) rs ms ∧ ms.length + q = D ∧ ∀ ms', WalkP (adjA L st) e q x ms' → WalkP (adjA L st) e D st (ms ++ ms'),
      ⟨D, st, qs, [], [], none, none, none, rfl, fun _ _ _ y => y, (as.same s02).same s3, hD, Nat.le_refl _, em, .nil, by simp, fun ms' y => y⟩, ?_⟩
    rintro q σ G ⟨x, px, rs, ms, v7, v8, v9, rfl, kp, ax, hx, qD, emv, prs, lms, wk⟩
    have kH : ∀ {b : Addr} {o : HO}, G2 b = some o → G b = some o := fun {b o} y => kp _ _ (fun mm => by
      rw [List.mem_singleton.mp mm, hmv] at y
      cases y) (s3 _ _ y)
    have s2G : Same G2 G := fun b o y => kH y
    have aeG : At G qe e := (ae.same s02).same s2G
    refine ⟨_, rfl, _, rfl, _, _, ax.dp, aeG.dp, cD_shaped _, cD_shaped _, _, rfl, ?_⟩
    rw [cD_eqv]
    refine ite2 (fun h3 => ?_) (fun h3 => ?_)
    · have ne : x ≠ e := by simpa using h3
      obtain ⟨n, rfl⟩ : ∃ n, q = n + 1 := by
        cases q with
        | zero => exact absurd hx.1 ne
        | succ n => exact ⟨n, rfl⟩
      refine ⟨fun σ' G' => ∃ m', m' < n + 1 ∧ _, fun _ _ h => h, ?_⟩
      have faG : FarAt G ds F2 := ⟨s2G _ _ fa.gd, fa.nk⟩
      have waG := wa2.same s2G
      have inF : (x, n + 1) ∈ F2 := (mF _ _).mpr ⟨hx, qD⟩
      have xK : x ∈ keysW T := dst_key cl eK (dA.mpr hx)
      obtain ⟨l, hl, rfl⟩ := List.mem_map.mp xK
      obtain ⟨⟨ns, el, pn⟩, ll⟩ := waG.ls l hl
      have nb := fun x => nb_of (x := x) wa.nk hl
      refine ⟨_, rfl, _, rfl, ds, .int ((n + 1 : Nat) : Int), rfl, (by rw [← far_val fa.nk inF]; exact DGet.t (k := cK l.1) faG.gd ax), _, _, rfl, rfl, ?_⟩
      rw [show (fun i j : Int => V.int (i - j)) ((n + 1 : Nat) : Int) 1 = V.int ((n : Nat) : Int) from by show V.int _ = V.int _; congr 1; omega]
      refine ⟨_, rfl, _, rfl, wy, .ref l.2.1, rfl, (by rw [← waG.val hl]; exact DGet.t (k := cK l.1) waG.gd ax), l.2.1, rfl, ⟨_, SqL.of el⟩, fun D' hD' => ?_⟩
      refine lc_it (walk_list (K := K) (a := l.2.1) (xs := ns.map V.ref)) (fun i G' => Same G G' ∧ ∃ cs : List Addr, G' D' = some (.lst (cs.map V.ref)) ∧ cs.length ≤ i ∧ Paired (fun r c => At G r c) cs ((l.2.2.take i).filter fun y => decide ((y, n) ∈ F2))) ⟨same_new hD', [], upd_same, Nat.le_refl _, .nil⟩ (fun i G' _ p => SqL.of (p.1 _ _ el)) ?_ ?_
      · rintro i y G4 G5 hi ⟨sm, cs, gD, ln, pp⟩ ⟨rfl, hy⟩
        rw [List.getElem?_map] at hy
        obtain ⟨p, hp, rfl⟩ := Option.map_eq_some_iff.mp hy
        obtain ⟨c, hc, ac⟩ := paired_get pn hp
        obtain ⟨Dd, d1, d2, d3⟩ := far_get (K := K) (H := G5) fa.nk c n
        have lq : i < ns.length := by rw [List.length_map] at hi; exact hi
        have ln8 : ns.length ≤ 8000 := by rw [Paired.length pn]; exact ll
        refine ⟨rfl, _, rfl, ds, rfl, .inr ⟨_, .inl (sm _ _ faG.gd)⟩, _, rfl, _, DGet.t (k := cK c) (sm _ _ faG.gd) (ac.same sm), _, rfl, Dd, .int (n : Int), d1, .int _, d2, rfl, _, rfl, ?_⟩
        rw [d3]
        refine ite2 (fun hc2 => ?_) (fun hc2 => ?_)
        · refine ⟨_, rfl, _, gD, by rw [List.length_map, sizeLine_eq]; omega, fun b o e2 => ?_, cs ++ [p], by rw [upd_same]; simp, by rw [List.length_append]; exact Nat.succ_le_succ ln, ?_⟩
          · rw [upd_ne (fun z => by rw [z, hD'] at e2; cases e2)]
            exact sm b o e2
          · rw [take_snoc hc, List.filter_append]
            simp only [List.filter_cons, hc2, if_true, List.filter_nil]
            exact pp.snoc ac
        · refine ⟨sm, cs, gD, Nat.le_succ_of_le ln, ?_⟩
          rw [take_snoc hc, List.filter_append]
          have hc' : decide ((c, n) ∈ F2) = false := Bool.eq_false_iff.mpr hc2
          simp only [List.filter_cons, hc', Bool.false_eq_true, if_false, List.filter_nil, List.append_nil]
          exact pp
      · rintro G4 ⟨sm, cs, gD, ln, pp⟩
        rw [List.length_map, Paired.length pn, List.take_length] at pp
        have mC : ∀ y, y ∈ (l.2.2.filter fun y => decide ((y, n) ∈ F2)) ↔ adjA L st l.1 y ∧ Dst (adjA L st) e n y := fun y => by
          rw [List.mem_filter, decide_eq_true_iff, mF, ← nb, nbA]
          exact ⟨fun z => ⟨z.1, z.2.1⟩, fun z => ⟨z.1, z.2, by omega⟩⟩
        obtain ⟨y0, y1, y2⟩ := hx.prev
        have ne0 : (l.2.2.filter fun y => decide ((y, n) ∈ F2)) ≠ [] := fun z => by
          have := (mC y0).mpr ⟨adjA_symm y2, y1⟩
          rw [z] at this
          cases this
        refine ⟨D', cs, _, rfl, SqL.of gD, paired_imp (fun _ _ y => y.same sm) pp, ne0, fun q c mc lc ac => ?_⟩
        have lst : LeastC (fun z => adjA L st l.1 z ∧ Dst (adjA L st) e n z) c := ⟨(mC c).mp mc, fun z hz => lc z ((mC z).mpr hz)⟩
        have emv4 := sm _ _ emv
        refine ⟨_, rfl, .inl ⟨rfl, _, SqL.of emv4⟩, _, rfl, _, rfl, two_le, fun u hu1 => ?_⟩
        have s5 := same_new (o := HO.tup [.ref px, .ref q]) hu1
        have s45 := sm.trans s5
        have emv5 := s5 _ _ emv4
        have lrs : rs.length = ms.length := Paired.length prs
        refine ⟨mv, _, _, rfl, rfl, emv5, by rw [List.length_map, sizeLine_eq]; omega, ?_⟩
        have tk : Tk (upd G4 u (.tup [.ref px, .ref q])) (upd (upd G4 u (.tup [.ref px, .ref q])) mv (.lst (rs.map V.ref ++ [V.ref u]))) := tk_upd emv5 fun _ z => nomatch z
        refine ⟨_, rfl, n, by omega, c, q, rs ++ [u], ms ++ [(l.1, c)], _, _, _, rfl, fun b o nb' y => ?_, (ac.same s5).tk tk, lst.1.2, by omega, by rw [upd_same, List.map_append]; rfl, ?_, by rw [List.length_append]; show ms.length + 1 + n = D; omega, fun ms' hm => ?_⟩
        · rw [upd_ne (fun z => nb' (by rw [z]; exact List.mem_singleton.mpr rfl))]
          exact s45 _ _ (kp b o nb' y)
        · exact (paired_imp (fun _ _ y => (PairAt.same y s45).keep tk) prs).snoc ⟨px, q, tk _ _ upd_same, (ax.same s45).tk tk, (ac.same s5).tk tk⟩
        · rw [List.append_assoc]
          exact wk _ ⟨c, ms', lst, rfl, hm⟩
    · have eq : x = e := by simpa using h3
      have q0 : q = 0 := by
        rw [eq] at hx
        exact hx.uniq Dst.zero
      rw [q0] at wk lms
      have wkE := wk [] ⟨eq, rfl⟩
      rw [List.append_nil] at wkE
      have lrs : rs.length = ms.length := Paired.length prs
      have sHG : Same H G := s02.trans s2G
      refine ⟨_, rfl, .inl ⟨mv, _, rfl, SqL.of emv, fun r hr => ?_⟩⟩
      have s9 := same_new (o := HO.tup (rs.map V.ref)) hr
      exact ky r _ ms D (sHG.trans s9) sL ⟨rs, upd_same, paired_imp (fun _ _ y => PairAt.same y s9) prs⟩ hD D8 wkE
end
end Sq

set_option Elab.async false
set_option linter.all false
set_option maxRecDepth 100000
set_option maxHeartbeats 1000000
/-! Walks are short; walks along what is left behind. -/
namespace Sq
open PySem PySem.Spec PyProof.Rows L2
theorem ring_wk2 {L : List Cell} {s sq : Cell} (hb : hangsB (without L s) = true) (sd : IsSide (without L s) (s, sq)) (j : Nat) : ∀ i, ∃ n, n ≤ i ∧ Wk (adjA L s) (iterS (without L s) (s, sq) j).1 n (iterS (without L s) (s, sq) (j + i)).1
  | 0 => ⟨0, Nat.le_refl _, rfl⟩
  | i + 1 => by
    obtain ⟨n, hn, hw⟩ := ring_wk2 hb sd j i
    have sk := iter_side sd (j + i)
    have e1 : iterS (without L s) (s, sq) (j + (i + 1)) = nextS (without L s) (iterS (without L s) (s, sq) (j + i)) := rfl
    by_cases z : (nextS (without L s) (iterS (without L s) (s, sq) (j + i))).1 = (iterS (without L s) (s, sq) (j + i)).1
    · exact ⟨n, by omega, by rw [e1, z]; exact hw⟩
    · exact ⟨n + 1, by omega, _, hw, hb, iter_air sd (j + i), (ring_step sk z).1⟩
theorem closed_len {R : List Cell} {O : List Side} (h : Closed R O) : O.length ≤ rimN R R := by
  have e : (R.flatMap fun y => ((nbC y).filter fun x => !decide (x ∈ R)).map fun c => ((c, y) : Side)).length = rimN R R := by
    have : ∀ B : List Cell, (B.flatMap fun y => ((nbC y).filter fun x => !decide (x ∈ R)).map fun c => ((c, y) : Side)).length = rimN R B := fun B => by
      induction B with
      | nil => rfl
      | cons y B ih =>
        rw [List.flatMap_cons, List.length_append, ih, List.length_map]
        simp [rimN]
    exact this R
  rw [← e]
  refine len_le h.nd fun x hx => ?_
  have sd := h.sd x hx
  refine List.mem_flatMap.mpr ⟨x.2, sd.sq, List.mem_map.mpr ⟨x.1, List.mem_filter.mpr ⟨mem_nbC.mpr (beside_symm sd.bs), ?_⟩, rfl⟩⟩
  simpa using sd.out
theorem without_lt {L : List Cell} {s : Cell} (nL : L.Nodup) (sL : s ∈ L) : (without L s).length + 1 ≤ L.length := by
  have nd : (s :: without L s).Nodup := List.nodup_cons.mpr ⟨self_out L s, nL.sublist List.filter_sublist⟩
  exact len_le nd fun x hx => by
    rcases List.mem_cons.mp hx with h | h
    · rw [h]
      exact sL
    · exact (mem_without.mp h).1
theorem dst_small {L : List Cell} {s e : Cell} {D : Nat} (nL : L.Nodup) (hang : Hangs L) (sL : s ∈ L) (h : Dst (adjA L s) e D s) : D ≤ L.length := by
  have k : e = s ∨ ∃ y, adjA L s e y := by
    cases D with
    | zero => exact .inl h.1.symm
    | succ D =>
      have := (h.1.back fun _ _ => adjA_symm)
      obtain ⟨y, _, a⟩ := this
      exact .inr ⟨y, adjA_symm a⟩
  rcases k with rfl | ⟨y, hb, ae, hy⟩
  · rw [h.uniq Dst.zero]
    exact Nat.zero_le _
  have hR := hangsB_iff.mp hb
  obtain ⟨sq, sd⟩ := start_side hang sL hR
  obtain ⟨m, O, ro⟩ := ring_ex sd
  obtain ⟨e', sd', hh⟩ := step_pair (ae.out (self_out L s)) hy
  have a1 : Air (without L s) e'.1 (nextS (without L s) e').1 := iter_air sd' 1
  have ae' : Air (without L s) s e'.1 := by
    rcases hh with ⟨h1, _⟩ | ⟨_, h2⟩
    · rw [h1]
      exact ae
    · rw [h2] at a1
      exact ae.trans (a1.symm sd'.out)
  have mO : e' ∈ O := (ro.mem hR sd).mpr ⟨ae', sd'⟩
  have eO := ro.eq
  rw [eO] at mO
  obtain ⟨i, hi, ek⟩ := List.mem_map.mp mO
  have hi := List.mem_range.mp hi
  obtain ⟨j, jm, hj⟩ : ∃ j, j ≤ m ∧ (iterS (without L s) (s, sq) j).1 = e := by
    rcases hh with ⟨h1, _⟩ | ⟨_, h2⟩
    · exact ⟨i, by omega, by rw [ek]; exact h1⟩
    · exact ⟨i + 1, by omega, by rw [show iterS (without L s) (s, sq) (i + 1) = nextS (without L s) (iterS (without L s) (s, sq) i) from rfl, ek]; exact h2⟩
  obtain ⟨n1, l1, w1⟩ := ring_wk2 hb sd 0 j
  obtain ⟨n2, l2, w2⟩ := ring_wk2 hb sd j (m - j)
  rw [Nat.zero_add, hj] at w1
  rw [hj, show j + (m - j) = m by omega, ro.ret] at w2
  have w1' : Wk (adjA L s) e n1 s := w1.back fun _ _ => adjA_symm
  have w2' : Wk (adjA L s) e n2 s := w2
  have d1 : D ≤ n1 := Nat.le_of_not_lt fun z => h.2 _ z w1'
  have d2 : D ≤ n2 := Nat.le_of_not_lt fun z => h.2 _ z w2'
  have nR : (without L s).Nodup := nL.sublist List.filter_sublist
  have lm : O.length = m := by rw [eO, List.length_map, List.length_range]
  have c1 := closed_len (ro.closed sd)
  have c2 := rimN_p (hangs_grown _ rfl hR nR : GrownP (without L s)) nR
  have c3 := without_lt nL sL
  omega
/-- steps along R -/
def stepA (R : List Cell) (x y : Cell) : Prop := y ∈ stepsN R x
theorem wk_air {R : List Cell} {e : Cell} (ho : e ∉ R) : ∀ {n : Nat} {x : Cell}, Wk (stepA R) e n x → Air R e x
  | 0, x, h => by rw [show x = e from h]; exact .refl
  | n + 1, x, ⟨y, h, a⟩ => by
    have ay := wk_air ho h
    exact ay.trans (step_symm (ay.out ho) a).2
theorem wk_steps {L : List Cell} {s e : Cell} (hb : hangsB (without L s) = true) (ho : e ∉ without L s) (ae : Air (without L s) s e) : ∀ {n : Nat} {x : Cell}, Wk (stepA (without L s)) e n x ↔ Wk (adjA L s) e n x
  | 0, x => Iff.rfl
  | n + 1, x => by
    constructor
    · rintro ⟨y, h, a⟩
      exact ⟨y, (wk_steps hb ho ae).mp h, hb, ae.trans (wk_air ho h), a⟩
    · rintro ⟨y, h, a⟩
      exact ⟨y, (wk_steps hb ho ae).mpr h, a.2.2⟩
theorem dst_steps {L : List Cell} {s e : Cell} (hb : hangsB (without L s) = true) (ho : e ∉ without L s) (ae : Air (without L s) s e) {n : Nat} {x : Cell} : Dst (stepA (without L s)) e n x ↔ Dst (adjA L s) e n x := by
  unfold Dst
  simp only [wk_steps hb ho ae]
/-- whether the law's search and the program's meet -/
theorem reach_same {L : List Cell} {s e : Cell} (hang : Hangs L) (sL : s ∈ L) (hb : hangsB (without L s) = true) (ho : e ∉ without L s) : (∃ n, Wk (stepA (without L s)) e n s) ↔ (e = s ∨ ∃ y, adjA L s e y) := by
  constructor
  · rintro ⟨n, h⟩
    have ae := (wk_air ho h).symm ho
    have h2 := (wk_steps hb ho ae).mp h
    cases n with
    | zero => exact .inl (show s = e from h).symm
    | succ n =>
      obtain ⟨y, _, a⟩ := h2.back fun _ _ => adjA_symm
      exact .inr ⟨y, adjA_symm a⟩
  · intro h
    obtain ⟨D, hD⟩ := key_reach hang sL h
    rcases h with rfl | ⟨y, _, ae, _⟩
    · exact ⟨0, rfl⟩
    · exact ⟨D, (wk_steps hb ho ae).mpr hD.1⟩
end Sq

set_option Elab.async false
set_option linter.all false
set_option maxRecDepth 100000
set_option maxHeartbeats 1000000
/-! walk, walk_length. -/
namespace Sq
open PySem PySem.Spec PyProof.Rows L2
/-- there is a walk from s to e -/
def HasW (L : List Cell) (s e : Cell) : Prop := s ∈ L ∧ (e = s ∨ ∃ y, adjA L s e y)
/-- the walk itself -/
def WalkIs (L : List Cell) (s e : Cell) (ms : List CellP) : Prop := ∃ D, Dst (adjA L s) e D s ∧ WalkP (adjA L s) e D s ms
theorem WalkIs.uniq {L : List Cell} {s e : Cell} {ms ms2 : List CellP} (h : WalkIs L s e ms) (k : WalkIs L s e ms2) : ms = ms2 := by
  obtain ⟨D, d1, w1⟩ := h
  obtain ⟨D2, d2, w2⟩ := k
  obtain rfl := d1.uniq d2
  exact w1.uniq w2
section
variable {P : Program} {w : World} {K : PySem.W.Frag} {mg : Str → Option Value} {base : Heap} {Ts : List Addr}
end
end Sq

set_option Elab.async false
set_option linter.all false
set_option maxRecDepth 100000
set_option maxHeartbeats 4000000
/-! The law: where a square can go, in order; how far each cell lies. -/
namespace Sq
open PySem PySem.Spec PyProof.Rows L2
section
variable {P : Program} {w : World} {K : PySem.W.Frag} {mg : Str → Option Value} {base : Heap}
end
end Sq

set_option Elab.async false
set_option linter.all false
set_option maxRecDepth 100000
set_option maxHeartbeats 1000000
/-! The law: how far each cell lies. -/
namespace Sq
open PySem PySem.Spec PyProof.Rows L2
def candL (R : List Cell) (e : Cell) : List Cell := e :: R.flatMap besideC
theorem cand_len (R : List Cell) (e : Cell) : (candL R e).length = 4 * R.length + 1 := by
  have : (R.flatMap besideC).length = 4 * R.length := by
    induction R with
    | nil => rfl
    | cons r R ih =>
      rw [List.flatMap_cons, List.length_append, ih, List.length_cons]
      have : (besideC r).length = 4 := rfl
      omega
  show _ + 1 = _
  rw [this]
theorem step_cand {R : List Cell} {x y : Cell} (hx : x ∉ R) (h : y ∈ stepsN R x) : y ∈ R.flatMap besideC := by
  obtain ⟨e, sd, hh⟩ := step_pair hx h
  rcases hh with ⟨_, h2⟩ | ⟨h1, _⟩
  · have sn := next_side sd
    exact List.mem_flatMap.mpr ⟨_, sn.sq, by rw [← h2]; exact beside_symm sn.bs⟩
  · exact List.mem_flatMap.mpr ⟨_, sd.sq, by rw [← h1]; exact beside_symm sd.bs⟩
theorem dst_cand {R : List Cell} {e : Cell} (ho : e ∉ R) : ∀ {n : Nat} {x : Cell}, Dst (stepA R) e n x → x ∈ candL R e
  | 0, x, h => by
    rw [show x = e from h.1]
    exact List.mem_cons_self ..
  | n + 1, x, h => by
    obtain ⟨y, hy, a⟩ := h.prev
    exact List.mem_cons_of_mem _ (step_cand ((wk_air ho hy.1).out ho) a)
section
variable {P : Program} {w : World} {K : PySem.W.Frag} {mg : Str → Option Value} {base : Heap}
end
end Sq

set_option Elab.async false
set_option linter.all false
set_option maxRecDepth 100000
set_option maxHeartbeats 1000000
/-! The law: a walk. -/
namespace Sq
open PySem PySem.Spec PyProof.Rows L2
theorem hasW_air {L : List Cell} {s e : Cell} (h : HasW L s e) : e ∉ without L s := by
  rcases h.2 with rfl | ⟨y, _, ae, _⟩
  · exact self_out L e
  · exact ae.out (self_out L s)
section
variable {P : Program} {w : World} {K : PySem.W.Frag} {mg : Str → Option Value} {base : Heap}
variable {f : Addr} {cdv : Value} {A0 : Around} {outer : List Env} {sh : Shared} {H0 : Hp} {E : XK}
end
end Sq

set_option Elab.async false
set_option linter.all false
set_option maxRecDepth 100000
set_option maxHeartbeats 8000000
/-! The law's both; where a square goes, told exactly. -/
namespace Sq
open PySem PySem.Spec PyProof.Rows L2
abbrev goN : List Str := ["_law_rest", "_law_cell", "_law_found", "_law_across", "_law_up", "_law_end", "_law_sides", "_law_n"]
def spT4both : Sp := fun vs H Q _ => ∃ (d p q r : Addr) (R : List Cell) (a b n : Cell), vs = [.ref d, .ref p, .ref q, .ref r] ∧ H d = some (.dT (lotK R)) ∧ At H p a ∧ At H q b ∧ At H r n ∧ ∀ H', Same H H' → Q (.bl (sideB R a b n)) H'
def gL (R : List Cell) (c : Cell) (j : Nat) : List Cell := ((stepL.take j).filter (stepOk R c)).map (plusC c)
theorem gL_len {R : List Cell} {c : Cell} {j : Nat} : (gL R c j).length ≤ j := by
  unfold gL
  rw [List.length_map]
  refine Nat.le_trans (List.length_filter_le _ _) ?_
  rw [List.length_take]
  exact Nat.min_le_left _ _
theorem gL_next {R : List Cell} {c b : Cell} {j : Nat} (hb : stepL[j]? = some b) : gL R c (j + 1) = if stepOk R c b = true then gL R c j ++ [plusC c b] else gL R c j := by
  unfold gL
  rw [take_snoc hb, List.filter_append, List.map_append, List.filter_cons]
  by_cases h : stepOk R c b = true
  · rw [if_pos h, if_pos h]
    rfl
  · rw [if_neg h, if_neg h]
    exact List.append_nil _
theorem gL_all {R : List Cell} {c : Cell} : gL R c 8 = stepsN R c := by
  have z : stepOk R c (0, 0) = false := by
    unfold stepOk
    simp
  unfold gL stepsN
  congr 1
  show [((-1, -1) : Cell), (-1, 0), (-1, 1), (0, -1), (0, 1), (1, -1), (1, 0), (1, 1)].filter (stepOk R c) = [((-1, -1) : Cell), (-1, 0), (-1, 1), (0, -1), (0, 0), (0, 1), (1, -1), (1, 0), (1, 1)].filter (stepOk R c)
  simp only [List.filter_cons, z, Bool.false_eq_true, if_false]
theorem goes_in {R : List Cell} {c b : Cell} (h : (c.1 + b.1, c.2 + b.2) ∈ R) : stepOk R c b = false := by
  unfold stepOk plusC
  rw [decide_eq_true h]
  rfl
theorem goes_slide {R : List Cell} {c b : Cell} (b0 : b.1 = 0 ∨ b.2 = 0) (nz : b ≠ (0, 0)) (eR : (c.1 + b.1, c.2 + b.2) ∉ R) : stepOk R c b = !decide (([((b.2, b.1) : Cell), (-b.2, -b.1)].filter fun n => sideB R c (c.1 + b.1, c.2 + b.2) n) = []) := by
  unfold stepOk plusC
  rw [decide_eq_false eR, decide_eq_false nz, if_neg (fun z => b0.elim z.1 z.2)]
  cases h1 : sideB R c (c.1 + b.1, c.2 + b.2) (b.2, b.1) <;> cases h2 : sideB R c (c.1 + b.1, c.2 + b.2) (-b.2, -b.1) <;> simp [List.filter_cons, h1, h2]
theorem goes_turn {R : List Cell} {c b : Cell} (nb : ¬ (b.1 = 0 ∨ b.2 = 0)) (eR : (c.1 + b.1, c.2 + b.2) ∉ R) : stepOk R c b = !decide (decide ((c.1 + b.1, c.2) ∈ R) = decide ((c.1, c.2 + b.2) ∈ R)) := by
  have nz : b ≠ (0, 0) := fun z => nb (.inl (by rw [z]))
  unfold stepOk plusC
  rw [decide_eq_false eR, decide_eq_false nz, if_pos ⟨fun z => nb (.inl z), fun z => nb (.inr z)⟩]
  unfold turnsB
  cases decide ((c.1 + b.1, c.2) ∈ R) <;> cases decide ((c.1, c.2 + b.2) ∈ R) <;> rfl
def spT4goesX : Sp := fun vs H Q _ => ∃ (d q : Addr) (R : List Cell) (c : Cell), vs = [.ref d, .ref q] ∧ H d = some (.dT (lotK R)) ∧ At H q c ∧ ∀ l H', Same H H' → H l = none → CellsL H' l (stepsN R c) → Q (.ref l) H'
section
variable {P : Program} {w : World} {K : PySem.W.Frag} {mg : Str → Option Value} {base : Heap} {Ts : List Addr}
theorem scT4bo : FnScope ["_law_rest", "_law_one", "_law_two", "_law_n"] ["_law_rest", "_law_one", "_law_two", "_law_n"] (defScope lT4both) := ⟨rfl, rfl, rfl, by decide +kernel, rfl, by decide +kernel, by decide +kernel⟩
theorem ok_t4both {f : Addr} {fd : FuncData} (F : FnP K "_law_t4both" lT4both f fd) : FnOk P w K mg base CX0 1 f fd ["_law_rest", "_law_one", "_law_two", "_law_n"] spT4both := by
  refine F.ok scT4bo (fun vs H Q E h => ?_) (fun cdv A outer s H vs Q E hr h => ?_)
  · obtain ⟨d, p, q, r, R, a, b, n, rfl, _⟩ := h
    rfl
  · obtain ⟨d, p, q, r, R, a, b, n, rfl, ed, ap, aq, an, k⟩ := h
    have hu := hu_of hr
    refine ⟨_, PSs.nox (pss_one (ps_ret (pe_and (pe_cmp (pc_din hu (pe_tup (pa_cons (pe_op op_add (pe_ix (ix_tupK (K := K) rfl) (pv 1) pe_int (fun _ _ => rfl)) (pe_ix (ix_tupK (K := K) rfl) (pv 3) pe_int (fun _ _ => rfl))) (pa_cons (pe_op op_add (pe_ix (ix_tupK (K := K) rfl) (pv 1) pe_int (fun _ _ => rfl)) (pe_ix (ix_tupK (K := K) rfl) (pv 3) pe_int (fun _ _ => rfl))) pa_nil))) (pv 0)) rfl) (pe_one (pe_cmp (pc_din hu (pe_tup (pa_cons (pe_op op_add (pe_ix (ix_tupK (K := K) rfl) (pv 2) pe_int (fun _ _ => rfl)) (pe_ix (ix_tupK (K := K) rfl) (pv 3) pe_int (fun _ _ => rfl))) (pa_cons (pe_op op_add (pe_ix (ix_tupK (K := K) rfl) (pv 2) pe_int (fun _ _ => rfl)) (pe_ix (ix_tupK (K := K) rfl) (pv 3) pe_int (fun _ _ => rfl))) pa_nil))) (pv 0)) rfl))))), ?_⟩
    refine ⟨_, rfl, _, _, _, _, rfl, rfl, SqT.of ap, at0, _, rfl, _, _, _, _, rfl, rfl, SqT.of an, at0, _, _, rfl, rfl, _, rfl, _, _, _, _, rfl, rfl, SqT.of ap, at1, _, rfl, _, _, _, _, rfl, rfl, SqT.of an, at1, _, _, rfl, rfl, two_le, fun t1 ht1 => ?_⟩
    have u1 := same_new (o := .tup [.int (a.1 + n.1), .int (a.2 + n.2)]) ht1
    have at1' : At (upd H t1 (.tup [.int (a.1 + n.1), .int (a.2 + n.2)])) t1 (a.1 + n.1, a.2 + n.2) := upd_same
    generalize upd H t1 (.tup [.int (a.1 + n.1), .int (a.2 + n.2)]) = H1 at u1 at1'
    refine ⟨_, rfl, d, _, rfl, dget_lot (u1 _ _ ed) at1', _, rfl, ?_⟩
    rw [lot_is]
    by_cases h1 : (a.1 + n.1, a.2 + n.2) ∈ R
    · rw [decide_eq_true h1]
      refine iteT ?_
      have aq1 := aq.same u1
      have an1 := an.same u1
      refine ⟨_, rfl, _, _, _, _, rfl, rfl, SqT.of aq1, at0, _, rfl, _, _, _, _, rfl, rfl, SqT.of an1, at0, _, _, rfl, rfl, _, rfl, _, _, _, _, rfl, rfl, SqT.of aq1, at1, _, rfl, _, _, _, _, rfl, rfl, SqT.of an1, at1, _, _, rfl, rfl, two_le, fun t2 ht2 => ?_⟩
      have u2 := same_new (o := .tup [.int (b.1 + n.1), .int (b.2 + n.2)]) ht2
      have at2' : At (upd H1 t2 (.tup [.int (b.1 + n.1), .int (b.2 + n.2)])) t2 (b.1 + n.1, b.2 + n.2) := upd_same
      refine ⟨_, rfl, d, _, rfl, dget_lot (u2 _ _ (u1 _ _ ed)) at2', ?_⟩
      rw [lot_is]
      have e : sideB R a b n = decide ((b.1 + n.1, b.2 + n.2) ∈ R) := by
        unfold sideB
        rw [decide_eq_true h1, Bool.true_and]
      rw [e] at k
      exact k _ (u1.trans u2)
    · rw [decide_eq_false h1]
      refine iteF ?_
      have e : sideB R a b n = false := by
        unfold sideB
        rw [decide_eq_false h1, Bool.false_and]
      rw [e] at k
      exact k _ u1
theorem scT4go : FnScope goN ["_law_rest", "_law_cell"] (defScope lT4goes) := ⟨rfl, rfl, rfl, by decide +kernel, rfl, by decide +kernel, by decide +kernel⟩
theorem ok_t4goesX {f : Addr} {fd : FuncData} (F : FnP K "_law_t4goes" lT4goes f fd) (B : Bl mg) (DO : Df P w K mg base CX0 1 "_law_t4both" ["_law_rest", "_law_one", "_law_two", "_law_n"] spT4both) : FnOk P w K mg base CX0 2 f fd ["_law_rest", "_law_cell"] spT4goesX := by
  refine F.ok scT4go (fun vs H Q E h => ?_) (fun cdv A outer s H vs Q E hr h => ?_)
  · obtain ⟨d, q, R, c, rfl, _⟩ := h
    rfl
  · obtain ⟨d, q, R, c, rfl, ed, ac, k⟩ := h
    have hu := hu_of hr
    have h64 := room64 hr
    refine ⟨_, PSs.nox (pss_cons (ps_set (i := 2) scT4go.nd rfl (.inl rfl) (pe_lst pa_nil))
      (pss_cons (ps_for PassesOwn.never rfl (pi_list (pe_lst (pa_cons (pe_tup (pa_cons (pe_un un_neg pe_int) (pa_cons (pe_un un_neg pe_int) pa_nil))) (pa_cons (pe_tup (pa_cons (pe_un un_neg pe_int) (pa_cons pe_int pa_nil))) (pa_cons (pe_tup (pa_cons (pe_un un_neg pe_int) (pa_cons pe_int pa_nil))) (pa_cons (pe_tup (pa_cons pe_int (pa_cons (pe_un un_neg pe_int) pa_nil))) (pa_cons (pe_tup (pa_cons pe_int (pa_cons pe_int pa_nil))) (pa_cons (pe_tup (pa_cons pe_int (pa_cons (pe_un un_neg pe_int) pa_nil))) (pa_cons (pe_tup (pa_cons pe_int (pa_cons pe_int pa_nil))) (pa_cons (pe_tup (pa_cons pe_int (pa_cons pe_int pa_nil))) pa_nil)))))))))) (pg_tup (by rfl) (pgs_cons (pg_name (i := 3) scT4go.nd rfl (.inl rfl)) (pgs_cons (pg_name (i := 4) scT4go.nd rfl (.inl rfl)) pgs_nil)))
      (pss_cons (ps_set (i := 5) scT4go.nd rfl (.inr rfl) (pe_tup (pa_cons (pe_op op_add (pe_ix (ix_tupK (K := K) rfl) (pv 1) pe_int (fun _ _ => rfl)) (pv 3)) (pa_cons (pe_op op_add (pe_ix (ix_tupK (K := K) rfl) (pv 1) pe_int (fun _ _ => rfl)) (pv 4)) pa_nil))))
        (pss_cons (ps_if (pt_cmp (pc_din hu (pv 5) (pv 0)))
        (pss_one ps_continue)
        pss_nil)
        (pss_one (ps_if (PW.pt (pw_or (pt_cmpR op_eq (pv 3) pe_int (nomark _)) (pw_or1 (pt_cmpR op_eq (pv 4) pe_int (nomark _)))))
        (pss_cons (ps_set (i := 6) scT4go.nd rfl (.inl rfl) (pe_lst (pa_cons (pe_tup (pa_cons (pv 4) (pa_cons (pv 3) pa_nil))) (pa_cons (pe_tup (pa_cons (pe_un un_neg (pv 4)) (pa_cons (pe_un un_neg (pv 3)) pa_nil))) pa_nil))))
          (pss_one (ps_if (pt_cmpR (op_neK (K := K) rfl h64) (pe_lc (own := [("_law_n", 7)]) (g := gName 7) rfl scT4go.nd (pi_list (pv 6)) (blkOk_by (N := goN) (sc := defScope lT4goes) (by decide +kernel)) (fun _ _ _ _ _ => pg_name (i := 7) scT4go.nd rfl (Or.inl rfl)) (fun _ _ _ _ _ => (pts_one (pt_val (pe_df DO hr (by rfl) pass0 (pa_cons (pv 0) (pa_cons (pv 1) (pa_cons (pv 5) (pa_cons (pv 7) pa_nil)))))))) (fun _ _ _ _ _ => (pv 7))) (pe_lst pa_nil) (nomark _))
          (pss_one (ps_expr (pe_bm PySem.F.plainAttrs_list PySem.F.slot_list_append PySem.F.type_list_append mt_append (pv 2) (pa_cons (pv 5) pa_nil))))
          pss_nil)))
        (pss_one (ps_if (pt_cmpR op_ne (pe_cmp (pc_din hu (pe_tup (pa_cons (pe_op op_add (pe_ix (ix_tupK (K := K) rfl) (pv 1) pe_int (fun _ _ => rfl)) (pv 3)) (pa_cons (pe_ix (ix_tupK (K := K) rfl) (pv 1) pe_int (fun _ _ => rfl)) pa_nil))) (pv 0)) rfl) (pe_cmp (pc_din hu (pe_tup (pa_cons (pe_ix (ix_tupK (K := K) rfl) (pv 1) pe_int (fun _ _ => rfl)) (pa_cons (pe_op op_add (pe_ix (ix_tupK (K := K) rfl) (pv 1) pe_int (fun _ _ => rfl)) (pv 4)) pa_nil))) (pv 0)) rfl) (nomark _))
          (pss_one (ps_expr (pe_bm PySem.F.plainAttrs_list PySem.F.slot_list_append PySem.F.type_list_append mt_append (pv 2) (pa_cons (pv 5) pa_nil))))
          pss_nil)))))))
      (pss_one (ps_ret (pv 2))))), ?_⟩
    refine ⟨Nat.zero_le _, fun D hD => ?_⟩
    have sD := same_new (o := .lst []) hD
    have eD : upd H D (.lst []) D = some (.lst []) := upd_same
    generalize upd H D (.lst []) = G0 at sD eD ⊢
    refine ⟨_, rfl, _, rfl, two_le, fun w1 h1 => ?_⟩
    have r1 := same_new (o := .tup [.int (-1), .int (-1)]) h1
    have x1 := upd_same (H := G0) (a := w1) (o := .tup [.int (-1), .int (-1)])
    generalize upd G0 w1 (.tup [.int (-1), .int (-1)]) = W1 at r1 x1 ⊢
    refine ⟨_, rfl, two_le, fun w2 h2 => ?_⟩
    have r2 := same_new (o := .tup [.int (-1), .int 0]) h2
    have x2 := upd_same (H := W1) (a := w2) (o := .tup [.int (-1), .int 0])
    generalize upd W1 w2 (.tup [.int (-1), .int 0]) = W2 at r2 x2 ⊢
    refine ⟨_, rfl, two_le, fun w3 h3 => ?_⟩
    have r3 := same_new (o := .tup [.int (-1), .int 1]) h3
    have x3 := upd_same (H := W2) (a := w3) (o := .tup [.int (-1), .int 1])
    generalize upd W2 w3 (.tup [.int (-1), .int 1]) = W3 at r3 x3 ⊢
    refine ⟨_, rfl, two_le, fun w4 h4 => ?_⟩
    have r4 := same_new (o := .tup [.int 0, .int (-1)]) h4
    have x4 := upd_same (H := W3) (a := w4) (o := .tup [.int 0, .int (-1)])
    generalize upd W3 w4 (.tup [.int 0, .int (-1)]) = W4 at r4 x4 ⊢
    refine ⟨two_le, fun w5 h5 => ?_⟩
    have r5 := same_new (o := .tup [.int 0, .int 1]) h5
    have x5 := upd_same (H := W4) (a := w5) (o := .tup [.int 0, .int 1])
    generalize upd W4 w5 (.tup [.int 0, .int 1]) = W5 at r5 x5 ⊢
    refine ⟨_, rfl, two_le, fun w6 h6 => ?_⟩
    have r6 := same_new (o := .tup [.int 1, .int (-1)]) h6
    have x6 := upd_same (H := W5) (a := w6) (o := .tup [.int 1, .int (-1)])
    generalize upd W5 w6 (.tup [.int 1, .int (-1)]) = W6 at r6 x6 ⊢
    refine ⟨two_le, fun w7 h7 => ?_⟩
    have r7 := same_new (o := .tup [.int 1, .int 0]) h7
    have x7 := upd_same (H := W6) (a := w7) (o := .tup [.int 1, .int 0])
    generalize upd W6 w7 (.tup [.int 1, .int 0]) = W7 at r7 x7 ⊢
    refine ⟨two_le, fun w8 h8 => ?_⟩
    have r8 := same_new (o := .tup [.int 1, .int 1]) h8
    have x8 := upd_same (H := W7) (a := w8) (o := .tup [.int 1, .int 1])
    generalize upd W7 w8 (.tup [.int 1, .int 1]) = W8 at r8 x8 ⊢
    refine ⟨eight_le, fun lw hw0 => ?_⟩
    have r9 := same_new (o := .lst [.ref w1, .ref w2, .ref w3, .ref w4, .ref w5, .ref w6, .ref w7, .ref w8]) hw0
    have ew : upd W8 lw (.lst [.ref w1, .ref w2, .ref w3, .ref w4, .ref w5, .ref w6, .ref w7, .ref w8]) lw = some (.lst ([w1, w2, w3, w4, w5, w6, w7, w8].map V.ref)) := upd_same
    generalize upd W8 lw (.lst [.ref w1, .ref w2, .ref w3, .ref w4, .ref w5, .ref w6, .ref w7, .ref w8]) = GW at r9 ew ⊢
    have rG : Same G0 W8 := ((((((r1.trans r2).trans r3).trans r4).trans r5).trans r6).trans r7).trans r8
    have rw_ := rG.trans r9
    have hw := rG.free hw0
    have pw : Paired (fun u b => At GW u b) [w1, w2, w3, w4, w5, w6, w7, w8] stepL :=
      .cons (r9 _ _ (r8 _ _ (r7 _ _ (r6 _ _ (r5 _ _ (r4 _ _ (r3 _ _ (r2 _ _ x1)))))))) (.cons (r9 _ _ (r8 _ _ (r7 _ _ (r6 _ _ (r5 _ _ (r4 _ _ (r3 _ _ x2))))))) (.cons (r9 _ _ (r8 _ _ (r7 _ _ (r6 _ _ (r5 _ _ (r4 _ _ x3)))))) (.cons (r9 _ _ (r8 _ _ (r7 _ _ (r6 _ _ (r5 _ _ x4))))) (.cons (r9 _ _ (r8 _ _ (r7 _ _ (r6 _ _ x5)))) (.cons (r9 _ _ (r8 _ _ (r7 _ _ x6))) (.cons (r9 _ _ (r8 _ _ x7)) (.cons (r9 _ _ x8) .nil)))))))

    refine ⟨lw, rfl, ⟨_, SqL.of ew⟩, ?_⟩
    have gDw := rw_ _ _ eD
    have nDw : lw ≠ D := fun z => by rw [z, eD] at hw; cases hw
    have smw := sD.trans rw_
    refine for_list (K := K) (a := lw) (xs := [w1, w2, w3, w4, w5, w6, w7, w8].map V.ref) (fun j σ G' => ∃ (rs : List Addr) (v3 v4 v5 v6 v7 : Option V), σ = [some (.ref d), some (.ref q), some (.ref D), v3, v4, v5, v6, v7] ∧ Same H G' ∧ Tk GW G' ∧ G' lw = some (.lst ([w1, w2, w3, w4, w5, w6, w7, w8].map V.ref)) ∧ G' D = some (.lst (rs.map V.ref)) ∧ Paired (fun q e => At G' q e) rs (gL R c j))
      ⟨[], none, none, none, none, none, rfl, smw, fun _ _ e => e, ew, gDw, .nil⟩ (fun j σ G' _ ⟨_, _, _, _, _, _, _, _, _, e, _⟩ => SqL.of e) ?_ ?_
    · rintro j x σ G' hj ⟨rs, v3, v4, v5, v6, v7, rfl, smj, tuj, elj, gDj, prj⟩
      rw [List.getElem?_map] at hj
      obtain ⟨u, hu2, rfl⟩ := Option.map_eq_some_iff.mp hj
      obtain ⟨b, hb, ab⟩ := paired_get pw hu2
      have jl : j < 8 := (List.getElem?_eq_some_iff.mp hb).1
      have acj : At G' q c := smj _ _ ac
      have abj : At G' u b := tuj _ _ ab
      have bm := List.mem_of_getElem? hb
      have lrs : rs.length ≤ j := by rw [Paired.length prj]; exact gL_len
      have nx := gL_next (R := R) (c := c) hb
      have nz : b ≠ (0, 0) := fun z => by rw [z] at bm; simp [stepL] at bm
      refine ⟨u, _, rfl, SqT.of abj, rfl, _, _, rfl, _, _, rfl, rfl, ?_⟩
      refine ⟨_, rfl, _, _, _, _, rfl, rfl, SqT.of acj, at0, _, rfl, _, _, rfl, rfl, _, rfl, _, _, _, _, rfl, rfl, SqT.of acj, at1, _, rfl, _, _, rfl, rfl, two_le, fun e he => ?_⟩
      have s5 := same_new (o := .tup [.int (c.1 + b.1), .int (c.2 + b.2)]) he
      have ae : At (upd G' e (.tup [.int (c.1 + b.1), .int (c.2 + b.2)])) e (c.1 + b.1, c.2 + b.2) := upd_same
      have sm5 := smj.trans s5
      have gD5 := s5 _ _ gDj
      have el5 := s5 _ _ elj
      have tu5 : Tk GW (upd G' e (.tup [.int (c.1 + b.1), .int (c.2 + b.2)])) := fun b xs h => s5 _ _ (tuj _ _ h)
      have pr5 := paired_imp (fun _ _ (h : At G' _ _) => s5 _ _ h) prj
      have ac5 := s5 _ _ acj
      generalize upd G' e (.tup [.int (c.1 + b.1), .int (c.2 + b.2)]) = G5 at ae sm5 gD5 el5 tu5 pr5 ac5
      have ed5 := sm5 _ _ ed
      have stay : ∀ {V1 : Hp} {v3 v4 v5 v6 v7 : Option V}, Same G5 V1 → stepOk R c b = false → ∃ (rs : List Addr) (y3 y4 y5 y6 y7 : Option V), [some (V.ref d), some (.ref q), some (.ref D), v3, v4, v5, v6, v7] = [some (V.ref d), some (.ref q), some (.ref D), y3, y4, y5, y6, y7] ∧ Same H V1 ∧ Tk GW V1 ∧ V1 lw = some (.lst ([w1, w2, w3, w4, w5, w6, w7, w8].map V.ref)) ∧ V1 D = some (.lst (rs.map V.ref)) ∧ Paired (fun q e => At V1 q e) rs (gL R c (j + 1)) :=
        fun s no => ⟨rs, _, _, _, _, _, rfl, sm5.trans s, fun b xs h => s _ _ (tu5 _ _ h), s _ _ el5, s _ _ gD5, by rw [nx, no, if_neg (by simp)]; exact paired_imp (fun _ _ h => s _ _ h) pr5⟩
      have put : ∀ (V1 : Hp) {v3 v4 v6 v7 : Option V}, Same G5 V1 → stepOk R c b = true → ∃ (rs' : List Addr) (y3 y4 y5 y6 y7 : Option V), [some (V.ref d), some (.ref q), some (.ref D), v3, v4, some (.ref e), v6, v7] = [some (V.ref d), some (.ref q), some (.ref D), y3, y4, y5, y6, y7] ∧ Same H (upd V1 D (.lst (rs.map V.ref ++ [V.ref e]))) ∧ Tk GW (upd V1 D (.lst (rs.map V.ref ++ [V.ref e]))) ∧ upd V1 D (.lst (rs.map V.ref ++ [V.ref e])) lw = some (.lst ([w1, w2, w3, w4, w5, w6, w7, w8].map V.ref)) ∧ upd V1 D (.lst (rs.map V.ref ++ [V.ref e])) D = some (.lst (rs'.map V.ref)) ∧ Paired (fun q e' => At (upd V1 D (.lst (rs.map V.ref ++ [V.ref e]))) q e') rs' (gL R c (j + 1)) :=
        fun V1 {v3 v4 v6 v7} s yes => by
          have tu := upd_tu (o' := .lst (rs.map V.ref ++ [V.ref e])) (s _ _ gD5) (by intro xs z; cases z)
          refine ⟨rs ++ [e], _, _, _, _, _, rfl, same_put (sm5.trans s) hD, fun b xs h => tu _ _ (s _ _ (tu5 _ _ h)), by rw [upd_ne nDw]; exact s _ _ el5, by rw [upd_same, List.map_append]; rfl, ?_⟩
          rw [nx, yes, if_pos rfl]
          exact (paired_imp (fun _ _ h => tu _ _ (s _ _ h)) pr5).snoc (tu _ _ (s _ _ ae))
      refine ⟨_, rfl, _, rfl, d, _, rfl, dget_lot ed5 ae, _, rfl, ?_⟩
      rw [lot_is]
      refine ite2 (fun h1 => stay same_refl (goes_in (of_decide_eq_true h1))) (fun h1 => ?_)
      have eR : (c.1 + b.1, c.2 + b.2) ∉ R := by simpa using h1
      refine ⟨_, rfl, rfl, _, rfl, ?_⟩
      refine ite2 (fun h2 => ?_) (fun h2 => ?_)
      · have b0 : b.1 = 0 ∨ b.2 = 0 := .inl (V.int.inj (of_decide_eq_true h2))
        refine ⟨_, rfl, _, rfl, two_le, fun y1 hy1 => ?_⟩
        have z1 := same_new (o := .tup [.int b.2, .int b.1]) hy1
        have a1 : At (upd G5 y1 (.tup [.int b.2, .int b.1])) y1 (b.2, b.1) := upd_same
        generalize upd G5 y1 (.tup [.int b.2, .int b.1]) = Y1 at z1 a1
        refine ⟨_, rfl, _, rfl, _, rfl, _, rfl, two_le, fun y2 hy2 => ?_⟩
        have z2 := same_new (o := .tup [.int (-b.2), .int (-b.1)]) hy2
        have a2 : At (upd Y1 y2 (.tup [.int (-b.2), .int (-b.1)])) y2 (-b.2, -b.1) := upd_same
        generalize upd Y1 y2 (.tup [.int (-b.2), .int (-b.1)]) = Y2 at z2 a2
        refine ⟨two_le, fun sl hsl => ?_⟩
        have z3 := same_new (o := .lst [.ref y1, .ref y2]) hsl
        have esl : upd Y2 sl (.lst [.ref y1, .ref y2]) sl = some (.lst ([y1, y2].map V.ref)) := upd_same
        have prs : Paired (fun q n => At (upd Y2 sl (.lst [.ref y1, .ref y2])) q n) [y1, y2] [((b.2, b.1) : Cell), (-b.2, -b.1)] := .cons (z3 _ _ (z2 _ _ a1)) (.cons (z3 _ _ a2) .nil)
        generalize upd Y2 sl (.lst [.ref y1, .ref y2]) = Y3 at z3 esl prs
        have z13 := (z1.trans z2).trans z3
        refine ⟨_, rfl, sl, rfl, ⟨_, SqL.of esl⟩, fun D5 hD5 => ?_⟩
        refine lc_cells (walk_list (K := K) (a := sl) (xs := [y1, y2].map V.ref)) hD5 (fun i => ([((b.2, b.1) : Cell), (-b.2, -b.1)].take i).filter fun n => sideB R c (c.1 + b.1, c.2 + b.2) n) rfl (by show 2 ≤ 1000000; decide) (fun i G _ s => SqL.of (s _ _ esl)) ?_ ?_
        · rintro i x X1 X1' K1 K0 hi s6 ⟨rfl, hx⟩ k1 k0
          rw [List.getElem?_map] at hx
          obtain ⟨v, hv, rfl⟩ := Option.map_eq_some_iff.mp hx
          obtain ⟨n, hn, an⟩ := paired_get prs hv
          have s16 := z13.trans s6
          refine ⟨rfl, _, rfl, _, rfl, _, rfl, _, rfl, d, q, e, v, R, c, (c.1 + b.1, c.2 + b.2), n, rfl, s16 _ _ ed5, s16 _ _ ac5, s16 _ _ ae, s6 _ _ an, fun X2 s7 => ⟨_, rfl, ?_⟩⟩
          exact ite2 (fun h => ⟨_, rfl, k1 v n _ s7 (s7 _ _ (s6 _ _ an)) (filt_snoc hn h)⟩) (fun h => k0 _ s7 (filt_skip hn h))
        rintro X1 rs6 s6 gD6 pr6
        refine ⟨Nat.zero_le _, fun e8 he8 => ?_⟩
        have s8 := same_new (o := .lst []) he8
        have c6 : CellsL X1 D5 ([((b.2, b.1) : Cell), (-b.2, -b.1)].filter fun n => sideB R c (c.1 + b.1, c.2 + b.2) n) := ⟨rs6, gD6, pr6⟩
        refine ⟨_, .list [], (c6.ek (.of s8)).dp, .lst (SqL.of upd_same) .nil, lay_cells.shaped (by decide), (lay_list (n := 0) (ds := []) (by simp)).shaped (by decide), _, rfl, ?_⟩
        rw [eqv_nil]
        have z68 := (z13.trans s6).trans s8
        generalize upd X1 e8 (.lst []) = X8 at z68
        refine ite2 (fun h4 => ?_) (fun h4 => stay z68 (by rw [goes_slide b0 nz eR]; exact Bool.eq_false_iff.mpr h4))
        refine ⟨_, rfl, .inl ⟨rfl, _, SqL.of (z68 _ _ gD5)⟩, _, rfl, D, _, _, rfl, rfl, z68 _ _ gD5, by rw [List.length_map, sizeLine_eq]; omega, ?_⟩
        exact put _ z68 (by rw [goes_slide b0 nz eR]; exact h4)
      · refine ⟨_, rfl, rfl, _, rfl, ?_⟩
        refine ite2 (fun h3 => ?_) (fun h3 => ?_)
        · have b0 : b.1 = 0 ∨ b.2 = 0 := .inr (V.int.inj (of_decide_eq_true h3))
          refine ⟨_, rfl, _, rfl, two_le, fun y1 hy1 => ?_⟩
          have z1 := same_new (o := .tup [.int b.2, .int b.1]) hy1
          have a1 : At (upd G5 y1 (.tup [.int b.2, .int b.1])) y1 (b.2, b.1) := upd_same
          generalize upd G5 y1 (.tup [.int b.2, .int b.1]) = Y1 at z1 a1
          refine ⟨_, rfl, _, rfl, _, rfl, _, rfl, two_le, fun y2 hy2 => ?_⟩
          have z2 := same_new (o := .tup [.int (-b.2), .int (-b.1)]) hy2
          have a2 : At (upd Y1 y2 (.tup [.int (-b.2), .int (-b.1)])) y2 (-b.2, -b.1) := upd_same
          generalize upd Y1 y2 (.tup [.int (-b.2), .int (-b.1)]) = Y2 at z2 a2
          refine ⟨two_le, fun sl hsl => ?_⟩
          have z3 := same_new (o := .lst [.ref y1, .ref y2]) hsl
          have esl : upd Y2 sl (.lst [.ref y1, .ref y2]) sl = some (.lst ([y1, y2].map V.ref)) := upd_same
          have prs : Paired (fun q n => At (upd Y2 sl (.lst [.ref y1, .ref y2])) q n) [y1, y2] [((b.2, b.1) : Cell), (-b.2, -b.1)] := .cons (z3 _ _ (z2 _ _ a1)) (.cons (z3 _ _ a2) .nil)
          generalize upd Y2 sl (.lst [.ref y1, .ref y2]) = Y3 at z3 esl prs
          have z13 := (z1.trans z2).trans z3
          refine ⟨_, rfl, sl, rfl, ⟨_, SqL.of esl⟩, fun D5 hD5 => ?_⟩
          refine lc_cells (walk_list (K := K) (a := sl) (xs := [y1, y2].map V.ref)) hD5 (fun i => ([((b.2, b.1) : Cell), (-b.2, -b.1)].take i).filter fun n => sideB R c (c.1 + b.1, c.2 + b.2) n) rfl (by show 2 ≤ 1000000; decide) (fun i G _ s => SqL.of (s _ _ esl)) ?_ ?_
          · rintro i x X1 X1' K1 K0 hi s6 ⟨rfl, hx⟩ k1 k0
            rw [List.getElem?_map] at hx
            obtain ⟨v, hv, rfl⟩ := Option.map_eq_some_iff.mp hx
            obtain ⟨n, hn, an⟩ := paired_get prs hv
            have s16 := z13.trans s6
            refine ⟨rfl, _, rfl, _, rfl, _, rfl, _, rfl, d, q, e, v, R, c, (c.1 + b.1, c.2 + b.2), n, rfl, s16 _ _ ed5, s16 _ _ ac5, s16 _ _ ae, s6 _ _ an, fun X2 s7 => ⟨_, rfl, ?_⟩⟩
            exact ite2 (fun h => ⟨_, rfl, k1 v n _ s7 (s7 _ _ (s6 _ _ an)) (filt_snoc hn h)⟩) (fun h => k0 _ s7 (filt_skip hn h))
          rintro X1 rs6 s6 gD6 pr6
          refine ⟨Nat.zero_le _, fun e8 he8 => ?_⟩
          have s8 := same_new (o := .lst []) he8
          have c6 : CellsL X1 D5 ([((b.2, b.1) : Cell), (-b.2, -b.1)].filter fun n => sideB R c (c.1 + b.1, c.2 + b.2) n) := ⟨rs6, gD6, pr6⟩
          refine ⟨_, .list [], (c6.ek (.of s8)).dp, .lst (SqL.of upd_same) .nil, lay_cells.shaped (by decide), (lay_list (n := 0) (ds := []) (by simp)).shaped (by decide), _, rfl, ?_⟩
          rw [eqv_nil]
          have z68 := (z13.trans s6).trans s8
          generalize upd X1 e8 (.lst []) = X8 at z68
          refine ite2 (fun h4 => ?_) (fun h4 => stay z68 (by rw [goes_slide b0 nz eR]; exact Bool.eq_false_iff.mpr h4))
          refine ⟨_, rfl, .inl ⟨rfl, _, SqL.of (z68 _ _ gD5)⟩, _, rfl, D, _, _, rfl, rfl, z68 _ _ gD5, by rw [List.length_map, sizeLine_eq]; omega, ?_⟩
          exact put _ z68 (by rw [goes_slide b0 nz eR]; exact h4)
        · -- a turn
          have nb : ¬ (b.1 = 0 ∨ b.2 = 0) := fun z => z.elim (fun z => h2 (decide_eq_true (congrArg V.int z))) fun z => h3 (decide_eq_true (congrArg V.int z))
          refine ⟨_, rfl, _, _, _, _, rfl, rfl, SqT.of ac5, at0, _, rfl, _, _, rfl, rfl, _, rfl, _, _, _, _, rfl, rfl, SqT.of ac5, at1, two_le, fun y1 hy1 => ?_⟩
          have z1 := same_new (o := .tup [.int (c.1 + b.1), .int c.2]) hy1
          have a1 : At (upd G5 y1 (.tup [.int (c.1 + b.1), .int c.2])) y1 (c.1 + b.1, c.2) := upd_same
          generalize upd G5 y1 (.tup [.int (c.1 + b.1), .int c.2]) = Y1 at z1 a1
          refine ⟨_, rfl, d, _, rfl, dget_lot (z1 _ _ ed5) a1, ?_⟩
          refine ⟨_, rfl, _, _, _, _, rfl, rfl, SqT.of (z1 _ _ ac5), at0, _, rfl, _, _, _, _, rfl, rfl, SqT.of (z1 _ _ ac5), at1, _, rfl, _, _, rfl, rfl, two_le, fun y2 hy2 => ?_⟩
          have z2 := same_new (o := .tup [.int c.1, .int (c.2 + b.2)]) hy2
          have a2 : At (upd Y1 y2 (.tup [.int c.1, .int (c.2 + b.2)])) y2 (c.1, c.2 + b.2) := upd_same
          generalize upd Y1 y2 (.tup [.int c.1, .int (c.2 + b.2)]) = Y2 at z2 a2
          have z12 := z1.trans z2
          refine ⟨_, rfl, d, _, rfl, dget_lot (z12 _ _ ed5) a2, rfl, _, rfl, ?_⟩
          rw [lot_is, lot_is]
          refine ite2 (fun h4 => ?_) (fun h4 => stay z12 (by rw [goes_turn nb eR]; simpa using h4))
          refine ⟨_, rfl, .inl ⟨rfl, _, SqL.of (z12 _ _ gD5)⟩, _, rfl, D, _, _, rfl, rfl, z12 _ _ gD5, by rw [List.length_map, sizeLine_eq]; omega, ?_⟩
          exact put _ z12 (by rw [goes_turn nb eR]; simpa using h4)
    · rintro σ G' ⟨rs, v3, v4, v5, v6, v7, rfl, smj, tuj, elj, gDj, prj⟩
      exact ⟨_, rfl, k D G' smj hD ⟨rs, gDj, by rw [← gL_all]; exact prj⟩⟩
end
end Sq

set_option Elab.async false
set_option linter.all false
set_option maxRecDepth 100000
set_option maxHeartbeats 1000000
/-! Waves by a queue, as mathematics. -/
namespace Sq
open PySem PySem.Spec PyProof.Rows L2
/-- what is known once i cells of the queue are gone over -/
structure Bf (A : Cell → Cell → Prop) (e : Cell) (i : Nat) (F : List WdE) : Prop where
  nk : (keysD F).Nodup
  ds : ∀ x n, (x, n) ∈ F → Dst A e n x
  so : F.Pairwise fun a b => a.2 ≤ b.2
  pr : ∀ k x, k < i → (keysD F)[k]? = some x → ∀ y, A x y → y ∈ keysD F
  up : ∀ a ∈ F, ∀ p ∈ F.drop i, a.2 ≤ p.2 + 1
  st : (e, 0) ∈ F
section
variable {A : Cell → Cell → Prop} {e : Cell} {i : Nat} {F : List WdE}
theorem keysD_get {k : Nat} {x : Cell} : (keysD F)[k]? = some x ↔ ∃ n, F[k]? = some (x, n) := by
  unfold keysD
  rw [List.getElem?_map]
  constructor
  · intro h
    obtain ⟨⟨y, n⟩, h1, rfl⟩ := Option.map_eq_some_iff.mp h
    exact ⟨n, h1⟩
  · rintro ⟨n, h⟩
    rw [h]
    rfl
theorem Bf.all (h : Bf A e i F) : ∀ (m : Nat) (x : Cell), (∀ p ∈ F.drop i, m ≤ p.2) → Dst A e m x → (x, m) ∈ F := by
  have key : ∀ (m : Nat) (x : Cell), (∀ p ∈ F.drop i, m ≤ p.2) → Dst A e m x → x ∈ keysD F := by
    intro m
    induction m with
    | zero =>
      intro x _ hx
      rw [show x = e from hx.1]
      exact mem_keysD.mpr ⟨0, h.st⟩
    | succ m ih =>
      intro x low hx
      obtain ⟨y, hy, ay⟩ := hx.prev
      obtain ⟨n, hn⟩ := mem_keysD.mp (ih y (fun p hp => Nat.le_trans (Nat.le_succ m) (low p hp)) hy)
      have := (h.ds y n hn).uniq hy
      subst this
      obtain ⟨k, hk⟩ := List.mem_iff_getElem?.mp hn
      by_cases z : k < i
      · exact h.pr k y z (keysD_get.mpr ⟨n, hk⟩) x ay
      · have : (y, n) ∈ F.drop i := List.mem_iff_getElem?.mpr ⟨k - i, by rw [List.getElem?_drop, show i + (k - i) = k by omega]; exact hk⟩
        have := low _ this
        dsimp only at this
        omega
  intro m x low hx
  obtain ⟨n, hn⟩ := mem_keysD.mp (key m x low hx)
  have := (h.ds x n hn).uniq hx
  rw [← this]
  exact hn
theorem so_drop (so : F.Pairwise fun a b => a.2 ≤ b.2) {c : WdE} (hc : F[i]? = some c) : ∀ p ∈ F.drop i, c.2 ≤ p.2 := by
  intro p hp
  obtain ⟨k, hk⟩ := List.mem_iff_getElem?.mp hp
  rw [List.getElem?_drop] at hk
  cases k with
  | zero =>
    rw [Nat.add_zero, hc] at hk
    rw [Option.some.inj hk]
    exact Nat.le_refl _
  | succ k =>
    obtain ⟨h1, e1⟩ := List.getElem?_eq_some_iff.mp hc
    obtain ⟨h2, e2⟩ := List.getElem?_eq_some_iff.mp hk
    have := List.pairwise_iff_getElem.mp so i (i + (k + 1)) h1 h2 (by omega)
    rw [e1, e2] at this
    exact this
/-- while the cells beside the next one of the queue are gone over -/
structure Bn (A : Cell → Cell → Prop) (e : Cell) (i : Nat) (c : WdE) (F : List WdE) (S : Cell → Prop) : Prop where
  nk : (keysD F).Nodup
  ds : ∀ x n, (x, n) ∈ F → Dst A e n x
  so : F.Pairwise fun a b => a.2 ≤ b.2
  pr : ∀ k x, k < i → (keysD F)[k]? = some x → ∀ y, A x y → y ∈ keysD F
  up : ∀ a ∈ F, a.2 ≤ c.2 + 1
  st : (e, 0) ∈ F
  at_ : F[i]? = some c
  low : ∀ m y, m ≤ c.2 → Dst A e m y → y ∈ keysD F
  cov : ∀ y, S y → y ∈ keysD F
theorem Bf.go (h : Bf A e i F) {c : WdE} (hc : F[i]? = some c) {S : Cell → Prop} (hS : ∀ y, ¬ S y) : Bn A e i c F S :=
  ⟨h.nk, h.ds, h.so, h.pr, fun a ha => h.up a ha c (List.mem_iff_getElem?.mpr ⟨0, by rw [List.getElem?_drop]; exact hc⟩), h.st, hc, fun m y hm hy => mem_keysD.mpr ⟨m, h.all m y (fun p hp => Nat.le_trans hm (so_drop h.so hc p hp)) hy⟩, fun y hy => absurd hy (hS y)⟩
theorem Bn.old {c : WdE} {S S' : Cell → Prop} (h : Bn A e i c F S) {y : Cell} (hy : y ∈ keysD F) (hS : ∀ z, S' z → S z ∨ z = y) : Bn A e i c F S' :=
  ⟨h.nk, h.ds, h.so, h.pr, h.up, h.st, h.at_, h.low, fun z hz => (hS z hz).elim (h.cov z) fun q => by rw [q]; exact hy⟩
theorem Bn.new {c : WdE} {S S' : Cell → Prop} (h : Bn A e i c F S) {y : Cell} (hy : y ∉ keysD F) (a : A c.1 y) (hS : ∀ z, S' z → S z ∨ z = y) : Bn A e i c (F ++ [(y, c.2 + 1)]) S' := by
  have ek : keysD (F ++ [(y, c.2 + 1)]) = keysD F ++ [y] := by
    unfold keysD
    rw [List.map_append]
    rfl
  have li := (List.getElem?_eq_some_iff.mp h.at_).1
  have inn : ∀ z, z ∈ keysD F → z ∈ keysD (F ++ [(y, c.2 + 1)]) := fun z hz => by
    rw [ek]
    exact List.mem_append_left _ hz
  have lk : (keysD F).length = F.length := by
    unfold keysD
    rw [List.length_map]
  have dc : Dst A e c.2 c.1 := h.ds c.1 c.2 (List.mem_of_getElem? h.at_)
  have dy : Dst A e (c.2 + 1) y := by
    refine ⟨⟨c.1, dc.1, a⟩, fun k hk w => ?_⟩
    obtain ⟨m, hm, dm⟩ := wk_dst k w
    exact hy (h.low m y (by omega) dm)
  refine ⟨?_, ?_, ?_, ?_, ?_, List.mem_append_left _ h.st, by rw [List.getElem?_append_left li]; exact h.at_, fun m z hm hz => inn z (h.low m z hm hz), fun z hz => ?_⟩
  · rw [ek]
    exact List.nodup_append.mpr ⟨h.nk, by simp, fun p hp q hq z => hy (by rw [← List.mem_singleton.mp hq, ← z]; exact hp)⟩
  · intro x n hx
    rcases List.mem_append.mp hx with z | z
    · exact h.ds x n z
    · have := Prod.mk.inj (List.mem_singleton.mp z)
      rw [this.1, this.2]
      exact dy
  · refine List.pairwise_append.mpr ⟨h.so, List.pairwise_singleton .., fun p hp q hq => ?_⟩
    rw [List.mem_singleton.mp hq]
    exact h.up p hp
  · intro k x hk hx z az
    rw [ek, List.getElem?_append_left (by omega)] at hx
    exact inn z (h.pr k x hk hx z az)
  · intro p hp
    rcases List.mem_append.mp hp with z | z
    · exact h.up p z
    · rw [List.mem_singleton.mp z]
      exact Nat.le_refl _
  · rcases hS z hz with q | q
    · exact inn z (h.cov z q)
    · rw [q, ek]
      exact List.mem_append_right _ (List.mem_singleton.mpr rfl)
theorem Bn.done {c : WdE} {S : Cell → Prop} (h : Bn A e i c F S) (hS : ∀ y, A c.1 y → S y) : Bf A e (i + 1) F := by
  refine ⟨h.nk, h.ds, h.so, fun k x hk hx y ay => ?_, fun p hp q hq => ?_, h.st⟩
  · by_cases z : k = i
    · subst z
      obtain ⟨n, hn⟩ := keysD_get.mp hx
      rw [h.at_] at hn
      have : c = (x, n) := Option.some.inj hn
      rw [this] at hS
      exact h.cov y (hS y ay)
    · exact h.pr k x (by omega) hx y ay
  · have l1 := h.up p hp
    have l2 := so_drop h.so h.at_ q (by
      obtain ⟨k, hk⟩ := List.mem_iff_getElem?.mp hq
      rw [List.getElem?_drop] at hk
      exact List.mem_iff_getElem?.mpr ⟨k + 1, by rw [List.getElem?_drop, show i + (k + 1) = i + 1 + k by omega]; exact hk⟩)
    omega
theorem bf_start : Bf A e 0 [(e, 0)] := by
  refine ⟨by simp [keysD], fun x n h => ?_, List.pairwise_singleton .., fun k x hk => absurd hk (Nat.not_lt_zero _), fun a ha p hp => ?_, List.mem_singleton.mpr rfl⟩
  · have := Prod.mk.inj (List.mem_singleton.mp h)
    rw [this.1, this.2]
    exact Dst.zero
  · rw [List.mem_singleton.mp ha]
    exact Nat.zero_le _
/-- where the waves stop: the start is met, or the queue is gone over -/
theorem Bf.stop (h : Bf A e i F) {s : Cell} {D : Nat} (hs : Dst A e D s) (or_ : F.length ≤ i ∨ s ∈ keysD F) : (s, D) ∈ F ∧ ∀ m x, m + 1 ≤ D → (Dst A e m x ↔ (x, m) ∈ F) := by
  have inF : (s, D) ∈ F := by
    rcases or_ with l | hk
    · exact h.all D s (fun p hp => by rw [List.drop_of_length_le l] at hp; cases hp) hs
    · obtain ⟨n, hn⟩ := mem_keysD.mp hk
      have := (h.ds s n hn).uniq hs
      rw [← this]
      exact hn
  refine ⟨inF, fun m x hm => ⟨fun hx => h.all m x (fun p hp => ?_) hx, fun hx => h.ds x m hx⟩⟩
  have := h.up _ inF p hp
  dsimp only at this
  omega
end
end Sq

set_option Elab.async false
set_option linter.all false
set_option maxRecDepth 100000
set_option maxHeartbeats 4000000
/-! The law: the least of the shortest walks, by waves. -/
namespace Sq
open PySem PySem.Spec PyProof.Rows L2
abbrev t4wN : List Str := ["_law_cells", "_law_start", "_law_end", "_law_rest", "_law_cell", "_law_far", "_law_waiting", "_law_lap", "_law_found", "_law_ahead", "_law_other"]
def spT4walk : Sp := fun vs H Q _ => ∃ (t qs qe : Addr) (L : List Cell) (s e : Cell), vs = [.ref t, .ref qs, .ref qe] ∧ CellsT H t L ∧ L.Nodup ∧ L.length ≤ 1000 ∧ Hangs L ∧ At H qs s ∧ At H qe e ∧ HasW L s e ∧ ∀ r G ms, Same H G → PairsT G r ms → WalkIs L s e ms → Q (.ref r) G
theorem steps_asc {R : List Cell} {c : Cell} : Asc (stepsN R c) := by
  unfold stepsN Asc
  have h0 : offs9.Pairwise fun a b => cLt b a = false := by decide
  refine List.pairwise_map.mpr ((h0.sublist List.filter_sublist).imp fun {a b} h => ?_)
  unfold cLt at h ⊢
  rw [decide_eq_false_iff_not] at h ⊢
  unfold plusC
  dsimp only
  omega
section
variable {P : Program} {w : World} {K : PySem.W.Frag} {mg : Str → Option Value} {base : Heap}
theorem scT4w : FnScope t4wN ["_law_cells", "_law_start", "_law_end"] (defScope lT4walk) := ⟨rfl, rfl, rfl, by decide +kernel, rfl, by decide +kernel, by decide +kernel⟩
variable {f : Addr} {cdv : Value} {A0 : Around} {outer : List Env} {sh : Shared} {H0 : Hp} {E : XK}
theorem t4w_tail (hr : Room 2 (cxOf CX0 P w K mg base t4wN "_law_t4walk" (defScope lT4walk) f cdv A0 outer sh H0 E).nox.A) (B : Bl mg) (DG : Df P w K mg base CX0 2 "_law_t4goes" ["_law_rest", "_law_cell"] spT4goesX) :
    ∃ t, PSs (cxOf CX0 P w K mg base t4wN "_law_t4walk" (defScope lT4walk) f cdv A0 outer sh H0 E).nox ((defBody lT4walk).drop 5) t ∧
      ∀ (D : Ends) (G : Hp) (qs qe d rd : Addr) (L : List Cell) (s e : Cell) (F : List WdE) (n0 : Nat) (v0 v4 v6 v7 : Option V), L.Nodup → Hangs L → L.length ≤ 1000 → s ∈ L → hangsB (without L s) = true → e ∉ without L s → At G qs s → At G qe e → G rd = some (.dT (lotK (without L s))) → FarAt G d F →
        Dst (stepA (without L s)) e n0 s → (s, n0) ∈ F → (∀ m x, m + 1 ≤ n0 → (Dst (stepA (without L s)) e m x ↔ (x, m) ∈ F)) →
        (∀ r G' ms, Same G G' → PairsT G' r ms → WalkIs L s e ms → D.rt (.ref r) G') → t D [v0, some (.ref qs), some (.ref qe), some (.ref rd), v4, some (.ref d), v6, v7, none, none, none] G := by
  have hu := hu_of hr
  have h64 := room64 hr
  refine ⟨_, (pss_cons (ps_if (PW.pt (pw_or (pt_cmp (pc_dnotin hu (pv 1) (pv 5))) (pw_or1 (pt_cmp (pc_din hu (pv 2) (pv 3))))))
      (pss_one (ps_ret pe_non))
      pss_nil)
      (pss_cons (ps_asg (pe_tup (pa_cons (pv 1) (pa_cons (pe_lst pa_nil) pa_nil))) (pg_tup (by rfl) (pgs_cons (pg_name (i := 4) scT4w.nd rfl (.inr rfl)) (pgs_cons (pg_name (i := 8) scT4w.nd rfl (.inl rfl)) pgs_nil))))
      (pss_cons (ps_for PassesOwn.never rfl (pi_range1 (by rfl) B.range (pa_cons (pe_dget hu (pv 5) (pv 1) (fun _ _ => rfl)) pa_nil)) (pg_name (i := 7) scT4w.nd rfl (.inl rfl))
      (pss_cons (ps_set (i := 9) scT4w.nd rfl (.inl rfl) (pe_ix (ix_listK (K := K) rfl) (pe_lc (own := [("_law_other", 10)]) (g := gName 10) rfl scT4w.nd (pi_list (pe_df DG hr (by rfl) pass0 (pa_cons (pv 3) (pa_cons (pv 4) pa_nil)))) (blkOk_by (N := t4wN) (sc := defScope lT4walk) (by decide +kernel)) (fun _ _ _ _ _ => pg_name (i := 10) scT4w.nd rfl (Or.inl rfl)) (fun _ _ _ _ _ => (pts_one (pt_cmpR op_eq (pe_dget2 hu (pv 5) (pv 10) (pe_un un_neg pe_int) ⟨rfl, rfl, rfl, rfl⟩) (pe_op op_sub (pe_dget hu (pv 5) (pv 4) (fun _ _ => rfl)) pe_int) (nomark _)))) (fun _ _ _ _ _ => (pv 10))) pe_int (fun _ _ => rfl)))
        (pss_cons (ps_expr (pe_bm PySem.F.plainAttrs_list PySem.F.slot_list_append PySem.F.type_list_append mt_append (pv 8) (pa_cons (pe_tup (pa_cons (pv 4) (pa_cons (pv 9) pa_nil))) pa_nil)))
        (pss_one (ps_set (i := 4) scT4w.nd rfl (.inr rfl) (pv 9))))))
      (pss_one (ps_ret (pe_tupleOf (by rfl) B.tuple (pv 8))))))), ?_⟩
  intro D G qs qe d rd L s e F n0 v0 v4 v6 v7 nL hang lL sL hb ho as ae erd fa d0 sF mF ky
  refine ⟨_, rfl, _, rfl, d, _, rfl, DGet.t (k := cK s) fa.gd as, _, rfl, ?_⟩
  rw [far_is fa.nk]
  refine ite2 (fun h1 => ?_) (fun h1 => ?_)
  · have : s ∉ keysD F := by simpa using h1
    exact absurd (mem_keysD.mpr ⟨n0, sF⟩) this
  refine ⟨_, rfl, _, rfl, rd, _, rfl, dget_lot erd ae, _, rfl, ?_⟩
  rw [lot_is]
  refine ite2 (fun h2 => absurd (of_decide_eq_true h2) ho) (fun _ => ?_)
  have aes : Air (without L s) s e := (wk_air ho d0.1).symm ho
  have dst := fun (n : Nat) (x : Cell) => (dst_steps (n := n) (x := x) hb ho aes)
  have dA := (dst n0 s).mp d0
  have n0L := dst_small nL hang sL dA
  refine ⟨_, rfl, Nat.zero_le _, fun pl hpl => ⟨two_le, fun tp htp => ⟨tp, _, rfl, SqT.of upd_same, rfl, _, _, rfl, _, _, rfl, rfl, ?_⟩⟩⟩
  have z1 := same_new (o := HO.lst []) hpl
  have z2 := same_new (o := HO.tup [.ref qs, .ref pl]) htp
  have z12 := z1.trans z2
  have epl : upd (upd G pl (.lst [])) tp (.tup [.ref qs, .ref pl]) pl = some (.lst []) := z2 _ _ upd_same
  have as1 := as.same z12
  have ae1 := ae.same z12
  have erd1 := z12 _ _ erd
  have fa1 : FarAt (upd (upd G pl (.lst [])) tp (.tup [.ref qs, .ref pl])) d F := ⟨z12 _ _ fa.gd, fa.nk⟩
  generalize upd (upd G pl (.lst [])) tp (.tup [.ref qs, .ref pl]) = G1 at z12 epl as1 ae1 erd1 fa1
  refine ⟨_, rfl, _, rfl, d, .int (n0 : Int), rfl, (by rw [← far_val fa.nk sF]; exact DGet.t (k := cK s) fa1.gd as1), ⟨(n0 : Int), rfl, by omega, by omega, ?_⟩⟩
  refine for_range (lo := 0) (n := ((n0 : Nat) : Int).toNat) (fun i σ G' => ∃ (x : Cell) (px : Addr) (rs : List Addr) (ms : List CellP) (v7 v9 : Option V), σ = [v0, some (.ref qs), some (.ref qe), some (.ref rd), some (.ref px), some (.ref d), v6, v7, some (.ref pl), v9, none] ∧ Kp [pl] G1 G' ∧ At G' px x ∧ Dst (adjA L s) e (n0 - i) x ∧ (x, n0 - i) ∈ F ∧ G' pl = some (.lst (rs.map V.ref)) ∧ Paired (fun r m => PairAt G' r m) rs ms ∧ ms.length = i ∧ ∀ ms', WalkP (adjA L s) e (n0 - i) x ms' → WalkP (adjA L s) e n0 s (ms ++ ms'))
    ⟨s, qs, [], [], v7, none, rfl, fun _ _ _ y => y, as1, dA, sF, epl, .nil, rfl, fun ms' y => y⟩ ?_ ?_
  · rintro i σ G2 hi ⟨x, px, rs, ms, v7, v9, rfl, kp, ax, hx, xF, emv, prs, lms, wk⟩
    have hi : i < n0 := hi
    obtain ⟨n, hn⟩ : ∃ n, n0 - i = n + 1 := ⟨n0 - i - 1, by omega⟩
    rw [hn] at hx wk xF
    have npl : ∀ {b : Addr} {o : HO}, G1 b = some o → (∀ xs, o ≠ .lst xs) → G2 b = some o := fun {b o} y no => kp _ _ (fun mm => by
      rw [List.mem_singleton.mp mm, epl] at y
      exact no _ (Option.some.inj y).symm) y
    have gdG : G2 d = some (.dT (wdK F)) := npl fa1.gd fun _ z => nomatch z
    have erd2 : G2 rd = some (.dT (lotK (without L s))) := npl erd1 fun _ z => nomatch z
    have lrs : rs.length = ms.length := Paired.length prs
    have hx' : Dst (stepA (without L s)) e (n + 1) x := (dst _ _).mpr hx
    refine ⟨_, rfl, _, rfl, rd, px, _, x, rfl, erd2, ax, fun r G3 s3 hr3 ⟨ps, er, pr⟩ => ?_⟩
    have les : (stepsN (without L s) x).length ≤ 9 := steps_len
    have asc : Asc (stepsN (without L s) x) := steps_asc
    refine ⟨r, rfl, ⟨_, SqL.of er⟩, fun D' hD' => ?_⟩
    refine lc_it (walk_list (K := K) (a := r) (xs := ps.map V.ref)) (fun j G' => Same G3 G' ∧ ∃ cs : List Addr, G' D' = some (.lst (cs.map V.ref)) ∧ cs.length ≤ j ∧ Paired (fun r c => At G3 r c) cs (((stepsN (without L s) x).take j).filter fun y => decide ((y, n) ∈ F))) ⟨same_new hD', [], upd_same, Nat.le_refl _, .nil⟩ (fun i G' _ p => SqL.of (p.1 _ _ er)) ?_ ?_
    · rintro j y G4 G5 hj ⟨sm, cs, gD, ln, pp⟩ ⟨rfl, hy⟩
      rw [List.getElem?_map] at hy
      obtain ⟨p, hp, rfl⟩ := Option.map_eq_some_iff.mp hy
      obtain ⟨c, hc, ac⟩ := paired_get pr hp
      have lq : j < ps.length := by rw [List.length_map] at hj; exact hj
      have ln8 : ps.length ≤ 9 := by rw [Paired.length pr]; exact les
      have g5 := sm _ _ (s3 _ _ gdG)
      have a5 : At G5 px x := (ax.same s3).same sm
      obtain ⟨jj, ej, hd⟩ : ∃ jj : Int, (valV (wdK F) (cK c)).getD (.int (-1)) = .int jj ∧ decide (V.int jj = V.int (((n + 1 : Nat) : Int) - 1)) = decide ((c, n) ∈ F) := by
        by_cases h : c ∈ keysD F
        · obtain ⟨k, hk⟩ := mem_keysD.mp h
          rw [far_val fa.nk hk]
          refine ⟨(k : Int), rfl, decide_eq_decide.mpr ⟨fun z => ?_, fun z => ?_⟩⟩
          · have z := V.int.inj z
            have : k = n := by omega
            rw [← this]
            exact hk
          · have := congrArg Prod.snd (inj_of_nodup (f := fun x : WdE => x.1) fa.nk hk z rfl)
            dsimp only at this
            congr 1
            omega
        · rw [show valV (wdK F) (cK c) = none from kv_no h]
          refine ⟨-1, rfl, decide_eq_decide.mpr ⟨fun z => ?_, fun z => absurd (mem_keysD.mpr ⟨n, z⟩) h⟩⟩
          have z := V.int.inj z
          omega
      refine ⟨rfl, _, rfl, d, rfl, .inr ⟨_, .inl g5⟩, _, rfl, _, rfl, _, DGet.t (k := cK c) g5 (ac.same sm), ?_⟩
      rw [ej]
      refine ⟨_, rfl, _, rfl, d, .int ((n + 1 : Nat) : Int), rfl, (by rw [← far_val fa.nk xF]; exact DGet.t (k := cK x) g5 a5), _, _, rfl, rfl, rfl, _, rfl, ?_⟩
      rw [hd]
      refine ite2 (fun hc2 => ?_) (fun hc2 => ?_)
      · refine ⟨_, rfl, _, gD, by rw [List.length_map, sizeLine_eq]; omega, fun b o e2 => ?_, cs ++ [p], by rw [upd_same]; simp, by rw [List.length_append]; exact Nat.succ_le_succ ln, ?_⟩
        · rw [upd_ne (fun z => by rw [z, hD'] at e2; cases e2)]
          exact sm b o e2
        · rw [take_snoc hc, List.filter_append]
          simp only [List.filter_cons, hc2, if_true, List.filter_nil]
          exact pp.snoc ac
      · refine ⟨sm, cs, gD, Nat.le_succ_of_le ln, ?_⟩
        rw [take_snoc hc, List.filter_append]
        have hc' : decide ((c, n) ∈ F) = false := Bool.eq_false_iff.mpr hc2
        simp only [List.filter_cons, hc', Bool.false_eq_true, if_false, List.filter_nil, List.append_nil]
        exact pp
    · rintro G4 ⟨sm, cs, gD, ln, pp⟩
      rw [List.length_map, Paired.length pr, List.take_length] at pp
      have axx : Air (without L s) s x := aes.trans (wk_air ho hx'.1)
      have mC : ∀ y, y ∈ ((stepsN (without L s) x).filter fun y => decide ((y, n) ∈ F)) ↔ adjA L s x y ∧ Dst (adjA L s) e n y := fun y => by
        rw [List.mem_filter, decide_eq_true_iff, ← mF n y (by omega), dst]
        exact ⟨fun z => ⟨⟨hb, axx, z.1⟩, z.2⟩, fun z => ⟨z.1.2.2, z.2⟩⟩
      obtain ⟨y0, y1, y2⟩ := hx.prev
      have ne0 : ((stepsN (without L s) x).filter fun y => decide ((y, n) ∈ F)) ≠ [] := fun z => by
        have := (mC y0).mpr ⟨adjA_symm y2, y1⟩
        rw [z] at this
        cases this
      have ascC : Asc ((stepsN (without L s) x).filter fun y => decide ((y, n) ∈ F)) := List.Pairwise.sublist List.filter_sublist asc
      obtain ⟨c, cs', ec⟩ := List.exists_cons_of_ne_nil ne0
      rw [ec] at pp ascC
      obtain ⟨qc, qcs, rfl, ac, _⟩ : ∃ qc qcs, cs = qc :: qcs ∧ At G3 qc c ∧ Paired (fun r c => At G3 r c) qcs cs' := by
        cases pp with
        | cons a b => exact ⟨_, _, rfl, a, b⟩
      have cin : c ∈ ((stepsN (without L s) x).filter fun y => decide ((y, n) ∈ F)) := by rw [ec]; exact List.mem_cons_self ..
      have lst : LeastC (fun z => adjA L s x z ∧ Dst (adjA L s) e n z) c := ⟨(mC c).mp cin, fun z hz => by
        have mz := (mC z).mpr hz
        rw [ec] at mz
        rcases List.mem_cons.mp mz with h | h
        · rw [h]
          exact cLt_irr c
        · exact (List.pairwise_cons.mp ascC).1 z h⟩
      have cF : (c, n) ∈ F := of_decide_eq_true (List.mem_filter.mp cin).2
      refine ⟨_, _, _, _, rfl, rfl, SqL.of gD, at0, ?_⟩
      have s24 := s3.trans sm
      have emv4 := s24 _ _ emv
      refine ⟨_, rfl, .inl ⟨rfl, _, SqL.of emv4⟩, _, rfl, _, rfl, two_le, fun u hu1 => ?_⟩
      have s5 := same_new (o := HO.tup [.ref px, .ref qc]) hu1
      have s45 := s24.trans s5
      have emv5 := s5 _ _ emv4
      refine ⟨pl, _, _, rfl, rfl, emv5, by rw [List.length_map, sizeLine_eq]; omega, ?_⟩
      have tk : Tk (upd G4 u (.tup [.ref px, .ref qc])) (upd (upd G4 u (.tup [.ref px, .ref qc])) pl (.lst (rs.map V.ref ++ [V.ref u]))) := tk_upd emv5 fun _ z => nomatch z
      have en : n0 - (i + 1) = n := by omega
      refine ⟨_, rfl, c, qc, rs ++ [u], ms ++ [(x, c)], _, _, rfl, fun b o nb' y => ?_, ((ac.same sm).same s5).tk tk, by rw [en]; exact lst.1.2, by rw [en]; exact cF, by rw [upd_same, List.map_append]; rfl, ?_, by rw [List.length_append, lms]; rfl, fun ms' hm => ?_⟩
      · rw [upd_ne (fun z => nb' (by rw [z]; exact List.mem_singleton.mpr rfl))]
        exact s45 _ _ (kp b o nb' y)
      · exact (paired_imp (fun _ _ y => (PairAt.same y s45).keep tk) prs).snoc ⟨px, qc, tk _ _ upd_same, (ax.same s45).tk tk, ((ac.same sm).same s5).tk tk⟩
      · rw [List.append_assoc]
        rw [en] at hm
        exact wk _ ⟨c, ms', lst, rfl, hm⟩
  · rintro σ G2 ⟨x, px, rs, ms, v7, v9, rfl, kp, ax, hx, xF, emv, prs, lms, wk⟩
    have e0 : n0 - ((n0 : Nat) : Int).toNat = 0 := by
      have : ((n0 : Nat) : Int).toNat = n0 := rfl
      omega
    rw [e0] at hx wk
    have eq : x = e := hx.1
    have wkE := wk [] ⟨eq, rfl⟩
    rw [List.append_nil] at wkE
    refine ⟨_, rfl, .inl ⟨pl, _, rfl, SqL.of emv, fun r hr => ?_⟩⟩
    have s9 := same_new (o := HO.tup (rs.map V.ref)) hr
    have sG : Same G G2 := fun b o y => kp b o (fun mm => by
      rw [List.mem_singleton.mp mm] at y
      rw [hpl] at y
      cases y) (z12 _ _ y)
    exact ky r _ ms (sG.trans s9) ⟨rs, upd_same, paired_imp (fun _ _ y => PairAt.same y s9) prs⟩ ⟨n0, dA, wkE⟩
end
end Sq

set_option Elab.async false
set_option linter.all false
set_option maxRecDepth 100000
set_option maxHeartbeats 8000000
/-! The law: the least of the shortest walks, by waves, whole. -/
namespace Sq
open PySem PySem.Spec PyProof.Rows L2
theorem atI_i {xs : List V} {i : Int} {n : Nat} {v : V} (e : i = (n : Int)) (h : xs[n]? = some v) : atI xs i = some v := by
  rw [e]
  exact atI_nat h
theorem kp2_at {d wl q : Addr} {c : Cell} {Ga Gb : Hp} {kv : List (List Key × V)} {xs : List V} (k : Kp [d, wl] Ga Gb) (e1 : Ga d = some (.dT kv)) (e2 : Ga wl = some (.lst xs)) (h : At Ga q c) : At Gb q c := by
  refine k _ _ (fun m => ?_) h
  have h : Ga q = some (.tup (cV c)) := h
  rcases List.mem_cons.mp m with z | z
  · rw [z, e1] at h
    cases h
  · rw [List.mem_singleton.mp z, e2] at h
    cases h
section
variable {P : Program} {w : World} {K : PySem.W.Frag} {mg : Str → Option Value} {base : Heap}
theorem ok_t4walk {f : Addr} {fd : FuncData} (F : FnP K "_law_t4walk" lT4walk f fd) (B : Bl mg) (gD : mg "dict" = none) (DW : Df P w K mg base CX0 2 "_law_w_hangs" ["_law_cells"] spWHangs) (DG : Df P w K mg base CX0 2 "_law_t4goes" ["_law_rest", "_law_cell"] spT4goesX) :
    FnOk P w K mg base CX0 3 f fd ["_law_cells", "_law_start", "_law_end"] spT4walk := by
  refine F.ok scT4w (fun vs H Q E h => ?_) (fun cdv A0 outer sh H vs Q E hr h => ?_)
  · obtain ⟨t, qs, qe, L, s, e, rfl, _⟩ := h
    rfl
  · obtain ⟨t, qs, qe, L, s, e, rfl, ct, nL, lL, hang, as, ae, hw, ky⟩ := h
    have hu := hu_of hr
    have h64 := room64 hr
    have one_le : (1 : Nat) ≤ sizeLine := by rw [sizeLine_eq]; decide
    obtain ⟨tl, htl, key⟩ := t4w_tail (P := P) (w := w) (K := K) (mg := mg) (base := base) (f := f) (cdv := cdv) (A0 := A0) (outer := outer) (sh := sh) (H0 := H) (E := E) hr B DG
    refine ⟨_, PSs.nox (pss_cons (ps_set (i := 3) scT4w.nd rfl (.inl rfl) (pe_callTy (call_dictT rfl h64) (by rfl) gD (by decide +kernel) (pa_cons (pe_lc (own := [("_law_cell", 4)]) (g := gName 4) rfl scT4w.nd (pi_tup (pv 0)) (blkOk_by (N := t4wN) (sc := defScope lT4walk) (by decide +kernel)) (fun _ _ _ _ _ => pg_name (i := 4) scT4w.nd rfl (Or.inl rfl)) (fun _ _ _ _ _ => (pts_one (pt_cmpR (op_neK (K := K) rfl h64) (pv 4) (pv 1) (nomark _)))) (fun _ _ _ _ _ => (pe_tup (pa_cons (pv 4) (pa_cons pe_bl pa_nil))))) pa_nil)))
      (pss_cons (ps_if (pt_cmpR (op_eqK (K := K) rfl h64) (pv 1) (pv 2) (nomark _))
      (pss_one (ps_ret (pe_tup pa_nil)))
      pss_nil)
      (pss_cons (ps_if (PW.pt (pw_or (pt_cmpR (op_eqE h64) (pv 3) pe_dnewT (nomark _)) (pw_or1 (pt_not (pt_val (pe_df DW hr (by rfl) pass0 (pa_cons (pe_callTy (call_list_keys rfl) (by rfl) B.list PyProof.Rows.boot_list (pa_cons (pe_keysV (pv 3)) pa_nil)) pa_nil)))))))
      (pss_one (ps_ret pe_non))
      pss_nil)
      (pss_cons (ps_asg (pe_tup (pa_cons (pe_disp1 (.inr rfl) hu (pv 2) pe_int) (pa_cons (pe_lst (pa_cons (pv 2) pa_nil)) pa_nil))) (pg_tup (by rfl) (pgs_cons (pg_name (i := 5) scT4w.nd rfl (.inr rfl)) (pgs_cons (pg_name (i := 6) scT4w.nd rfl (.inl rfl)) pgs_nil))))
      (pss_cons (ps_for PassesOwn.never rfl (pi_range1 (by rfl) B.range (pa_cons (pe_op op_add (pe_op op_mul pe_int (pe_callB call_len_seq (by rfl) B.len PySem.boot_len (pa_cons (pv 0) pa_nil))) pe_int) pa_nil)) (pg_name (i := 7) scT4w.nd rfl (.inl rfl))
      (pss_cons (ps_if (PW.pt (pw_or (pt_cmpR op_eq (pv 7) (pe_callB call_len_seq (by rfl) B.len PySem.boot_len (pa_cons (pv 6) pa_nil)) (nomark _)) (pw_or1 (pt_cmp (pc_din hu (pv 1) (pv 5))))))
        (pss_one ps_break)
        pss_nil)
        (pss_one (ps_for PassesOwn.never rfl (pi_list (pe_df DG hr (by rfl) pass0 (pa_cons (pv 3) (pa_cons (pe_ix (ix_listK (K := K) rfl) (pv 6) (pv 7) (fun _ _ => rfl)) pa_nil)))) (pg_name (i := 4) scT4w.nd rfl (.inr rfl))
        (pss_one (ps_if (pt_cmp (pc_dnotin hu (pv 4) (pv 5)))
          (pss_cons (ps_dput hu (pv 5) (pv 4) (pe_op op_add (pe_dget hu (pv 5) (pe_ix (ix_listK (K := K) rfl) (pv 6) (pv 7) (fun _ _ => rfl)) (fun _ _ => rfl)) pe_int) rfl)
            (pss_one (ps_expr (pe_bm PySem.F.plainAttrs_list PySem.F.slot_list_append PySem.F.type_list_append mt_append (pv 6) (pa_cons (pv 4) pa_nil)))))
          pss_nil))))))
      htl))))), ?_⟩
    obtain ⟨ts, et, pt⟩ := id ct
    have lts : ts.length = L.length := Paired.length pt
    refine ⟨_, rfl, t, rfl, ⟨_, SqT.of et⟩, fun D hD => ?_⟩
    refine w_ofR (walk_tup (K := K) (a := t) (xs := ts.map V.ref)) (fun n G => Same H G ∧ ∃ rs : List Addr, G D = some (.lst (rs.map V.ref)) ∧ rs.length ≤ n ∧ Paired (fun r c => ∃ q, G r = some (.tup [.ref q, .bl true]) ∧ At G q c) rs (without (L.take n) s)) ⟨same_new hD, [], upd_same, Nat.le_refl _, .nil⟩ (fun n G _ p => SqT.of (p.1 _ _ et)) ?_ ?_
    · rintro n x G G' hn ⟨sm, rs, gD, lrs, pr⟩ ⟨rfl, hx⟩
      rw [List.getElem?_map] at hx
      obtain ⟨q, hq, rfl⟩ := Option.map_eq_some_iff.mp hx
      obtain ⟨c, hc, ac⟩ := paired_get pt hq
      have hcl := (List.getElem?_eq_some_iff.mp hc).1
      have ac' := ac.same sm
      have as' := as.same sm
      refine ⟨rfl, _, rfl, _, rfl, cD c, cD s, ac'.dp, as'.dp, cD_shaped c, cD_shaped s, _, rfl, ?_⟩
      rw [cD_eqv]
      have st : without (L.take (n + 1)) s = if c = s then without (L.take n) s else without (L.take n) s ++ [c] := by rw [take_snoc hc, without_snoc]
      refine ite2 (fun h1 => ?_) (fun h1 => ?_)
      · have ne : c ≠ s := by simpa using h1
        rw [if_neg ne] at st
        refine ⟨_, rfl, two_le, fun u hu1 => ?_⟩
        have s1 := same_new (o := .tup [.ref q, .bl true]) hu1
        have gD1 := s1 _ _ gD
        have tu := upd_tu (o' := .lst (rs.map V.ref ++ [V.ref u])) gD1 (by intro xs z; cases z)
        refine ⟨_, gD1, by rw [List.length_map, sizeLine_eq]; omega, same_put (sm.trans s1) hD, rs ++ [u], by rw [upd_same, List.map_append]; rfl, by rw [List.length_append]; exact Nat.succ_le_succ lrs, ?_⟩
        rw [st]
        refine (paired_imp (fun r d h => ?_) pr).snoc ⟨q, tu _ _ upd_same, tu _ _ (s1 _ _ ac')⟩
        obtain ⟨z, e1, e2⟩ := h
        exact ⟨z, tu _ _ (s1 _ _ e1), tu _ _ (s1 _ _ e2)⟩
      · have ec : c = s := by simpa using h1
        rw [if_pos ec] at st
        exact ⟨sm, rs, gD, Nat.le_succ_of_le lrs, by rw [st]; exact pr⟩
    rintro G ⟨sm, rs, gD, lrs, pr⟩
    rw [List.length_map, lts, List.take_length] at pr
    have nW : (without L s).Nodup := nL.sublist List.filter_sublist
    have lW : (without L s).length ≤ L.length := without_len L s
    refine ⟨D, rs, lotK (without L s), rfl, SqL.of gD, dict_true (D := D) pr, lotK_keys _ nW, fun rd hrd => ?_⟩
    have s1 := same_new (o := .dT (lotK (without L s))) hrd
    have sm1 := sm.trans s1
    have erd := upd_same (H := G) (a := rd) (o := .dT (lotK (without L s)))
    generalize upd G rd (.dT (lotK (without L s))) = G1 at s1 sm1 erd
    refine ⟨_, rfl, _, rfl, _, _, (as.same sm1).dp, (ae.same sm1).dp, cD_shaped _, cD_shaped _, _, rfl, ?_⟩
    rw [cD_eqv]
    refine ite2 (fun h2 => ?_) (fun h2 => ?_)
    · have es : s = e := of_decide_eq_true h2
      subst es
      exact ⟨Nat.zero_le _, fun r hr1 => ky r _ [] (sm1.trans (same_new hr1)) ⟨[], upd_same, .nil⟩ ⟨0, Dst.zero, rfl, rfl⟩⟩
    have ne : s ≠ e := by simpa using h2
    obtain ⟨sL, hb⟩ : s ∈ L ∧ hangsB (without L s) = true := ⟨hw.1, by
      rcases hw.2 with z | ⟨y, hb, _⟩
      · exact absurd z.symm ne
      · exact hb⟩
    have ho := hasW_air hw
    have neW : without L s ≠ [] := (hangsB_iff.mp hb).1
    refine ⟨_, rfl, fun e2 he2 => ?_⟩
    have s2 := same_new (o := .dT []) he2
    refine ⟨rd, e2, lotK (without L s), rfl, rfl, s2 _ _ erd, upd_same, _, rfl, ?_⟩
    have sm2 := sm1.trans s2
    have erd2 := s2 _ _ erd
    generalize upd G1 e2 (.dT []) = G2 at s2 sm2 erd2
    refine ite2 (fun h1 => ?_) (fun h1 => ?_)
    · exact absurd (List.map_eq_nil_iff.mp (of_decide_eq_true h1)) neW
    refine ⟨_, rfl, rd, lotK (without L s), rfl, erd2, fun v hv => ?_⟩
    have s4 := same_new (o := KeysO v rd) hv
    refine ⟨v, rd, lotK (without L s), rfl, upd_same, s4 _ _ erd2, fun p bs hp keys => ?_⟩
    have s5 := same_new (o := .lst (bs.map V.ref)) hp
    have prk := keys_lot keys
    refine ⟨p, without L s, rfl, ⟨bs, upd_same, paired_imp (fun _ _ h => s5 _ _ h) prk⟩, nW, by omega, fun G3 s6 => ?_⟩
    have sm3 := (sm2.trans (s4.trans s5)).trans s6
    have erd3 := s6 _ _ (s5 _ _ (s4 _ _ erd2))
    have eW : wHangs (without L s) = true := by
      unfold wHangs
      rw [hb, Bool.or_true]
    rw [eW]
    refine ⟨_, rfl, ite2 (fun z => nomatch z) (fun _ => ?_)⟩
    -- the waves
    intro d hd
    have v0 := same_new (o := .dT []) hd
    have e0 := upd_same (H := G3) (a := d) (o := .dT [])
    refine ⟨_, rfl, _, dput_c e0 ((ae.same sm3).same v0) (by rw [sizeLine_eq]; decide), ?_⟩
    rw [show putK [] (cK e) (V.int 0) = wdK [(e, 0)] from far_put (F := []) (n := 0) (by simp [keysD]), upd_upd]
    have v1 := same_new (o := .dT (wdK [(e, 0)])) hd
    have g1 := upd_same (H := G3) (a := d) (o := .dT (wdK [(e, 0)]))
    generalize upd G3 d (.dT (wdK [(e, 0)])) = G4 at v1 g1
    refine ⟨_, rfl, one_le, fun wl hwl => ?_⟩
    have v2 := same_new (o := .lst [.ref qe]) hwl
    have g2 := upd_same (H := G4) (a := wl) (o := .lst [.ref qe])
    have g12 := v2 _ _ g1
    have ndw : d ≠ wl := fun z => by rw [← z, g1] at hwl; cases hwl
    have hwl3 : G3 wl = none := v1.free hwl
    generalize upd G4 wl (.lst [.ref qe]) = G5 at v2 g2 g12
    refine ⟨two_le, fun tp htp => ⟨tp, _, rfl, SqT.of upd_same, rfl, _, _, rfl, _, _, rfl, rfl, ?_⟩⟩
    have v3 := same_new (o := HO.tup [.ref d, .ref wl]) htp
    have gd6 := v3 _ _ g12
    have gw6 : upd G5 tp (HO.tup [.ref d, .ref wl]) wl = some (.lst ([qe].map V.ref)) := v3 _ _ g2
    have v6 := (v1.trans v2).trans v3
    generalize upd G5 tp (HO.tup [.ref d, .ref wl]) = G6 at gd6 gw6 v6
    have sm6 := sm3.trans v6
    have hdH : H d = none := sm3.free hd
    have hwH : H wl = none := sm3.free hwl3
    have erd6 := v6 _ _ erd3
    have nrd : rd ≠ d := fun z => by rw [← z, erd3] at hd; cases hd
    have nrw : rd ≠ wl := fun z => by rw [← z, erd3] at hwl3; cases hwl3
    have et6 := sm6 _ _ et
    have ae6 := ae.same sm6
    have as6 := as.same sm6
    -- what stays
    have keepH : ∀ {G'}, Kp [d, wl] G6 G' → Same H G' := fun k b o y => k b o (fun m => by
      rcases List.mem_cons.mp m with z | z
      · rw [z, hdH] at y
        cases y
      · rw [List.mem_singleton.mp z, hwH] at y
        cases y) (sm6 b o y)
    have keepR : ∀ {G'}, Kp [d, wl] G6 G' → G' rd = some (.dT (lotK (without L s))) := fun k => k _ _ (fun m => by
      rcases List.mem_cons.mp m with z | z
      · exact nrd z
      · exact nrw (List.mem_singleton.mp z)) erd6
    obtain ⟨n1, hn1⟩ := (reach_same hang sL hb ho).mpr hw.2
    obtain ⟨n0, _, d0⟩ := wk_dst _ hn1
    have fin : ∀ {D : Ends} (hQ : ∀ x G', Q x G' → D.rt x G') (i : Nat) (F : List WdE) (G' : Hp) (v4 v6 v7 : Option V), Kp [d, wl] G6 G' → FarAt G' d F → Bf (stepA (without L s)) e i F → (F.length ≤ i ∨ s ∈ keysD F) → tl D [some (.ref t), some (.ref qs), some (.ref qe), some (.ref rd), v4, some (.ref d), v6, v7, none, none, none] G' := fun {D} hQ i F G' v4 v6 v7 kp fa bf or_ => by
      obtain ⟨sF, mF⟩ := bf.stop d0 or_
      have sG := keepH kp
      exact key D G' qs qe d rd L s e F n0 _ v4 v6 v7 nL hang lL sL hb ho (as.same sG) (ae.same sG) (keepR kp) fa d0 sF mF fun r G'' ms sm pt wi => hQ _ _ (ky r G'' ms (sG.trans sm) pt wi)
    have bnd : ∀ {F : List WdE}, (keysD F).Nodup → (∀ x n, (x, n) ∈ F → Dst (stepA (without L s)) e n x) → F.length ≤ 4 * (without L s).length + 1 := fun {F} nk h => by
      have := len_le nk (ys := candL (without L s) e) fun x hx => by
        obtain ⟨m, hm⟩ := mem_keysD.mp hx
        exact dst_cand ho (h x m hm)
      rw [cand_len] at this
      unfold keysD at this
      rwa [List.length_map] at this
    refine ⟨_, rfl, t, _, rfl, .inr (SqT.of et6), _, _, rfl, rfl, .inl ⟨by decide, by decide⟩, _, _, rfl, rfl, ⟨_, rfl, by rw [List.length_map]; omega, by rw [List.length_map]; omega, ?_⟩⟩
    refine for_range (lo := 0) (n := (8 * (((ts.map V.ref).length : Nat) : Int) + 8).toNat) (fun i σ G' => ∃ (F : List WdE) (ws : List Addr) (v4 v7 : Option V), σ = [some (.ref t), some (.ref qs), some (.ref qe), some (.ref rd), v4, some (.ref d), some (.ref wl), v7, none, none, none] ∧ Kp [d, wl] G6 G' ∧ FarAt G' d F ∧ G' wl = some (.lst (ws.map V.ref)) ∧ Paired (fun q c => At G' q c) ws (keysD F) ∧ Bf (stepA (without L s)) e i F ∧ i ≤ F.length)
      ⟨[(e, 0)], [qe], none, none, rfl, fun _ _ _ y => y, ⟨gd6, by simp [keysD]⟩, gw6, .cons ae6 .nil, bf_start, Nat.zero_le _⟩ ?_ ?_
    · rintro i σ G7 hi ⟨F, ws, v4, v7, rfl, kp, fa, ew, pw, bf, il⟩
      have lws : ws.length = F.length := by
        rw [Paired.length pw]
        unfold keysD
        rw [List.length_map]
      have lF := bnd fa.nk bf.ds
      have as7 := as.same (keepH kp)
      refine ⟨_, rfl, _, rfl, wl, _, rfl, .inl (SqL.of ew), rfl, _, rfl, ?_⟩
      refine ite2 (fun h3 => ?_) (fun h3 => ?_)
      · have z := V.int.inj (of_decide_eq_true h3)
        rw [List.length_map, lws] at z
        exact fin (fun _ _ y => y) i F G7 _ _ _ kp fa bf (.inl (by omega))
      refine ⟨_, rfl, _, rfl, d, _, rfl, DGet.t (k := cK s) fa.gd as7, _, rfl, ?_⟩
      rw [far_is fa.nk]
      refine ite2 (fun h4 => ?_) (fun h4 => ?_)
      · exact fin (fun _ _ y => y) i F G7 _ _ _ kp fa bf (.inr (of_decide_eq_true h4))
      -- one cell of the queue
      have iF : i < F.length := by
        have z : ¬ ((i : Int) = (ws.length : Int)) := fun z => h3 (decide_eq_true (by rw [Int.zero_add, List.length_map, z]))
        omega
      obtain ⟨⟨x, n⟩, hc⟩ : ∃ c, F[i]? = some c := ⟨_, List.getElem?_eq_getElem iF⟩
      obtain ⟨qx, hqx⟩ : ∃ q, ws[i]? = some q := ⟨_, List.getElem?_eq_getElem (by omega)⟩
      obtain ⟨x', hx', ax⟩ := paired_get pw hqx
      obtain rfl : x' = x := by
        rw [keysD_get.mpr ⟨n, hc⟩] at hx'
        exact (Option.some.inj hx').symm
      refine ⟨_, rfl, _, rfl, _, rfl, wl, _, _, .ref qx, rfl, rfl, SqL.of ew, atI_i (n := i) (by omega) (by rw [List.getElem?_map, hqx]; rfl), rd, qx, _, x', rfl, keepR kp, ax, fun r G8 s8 hr8 ⟨ps, er, pps⟩ => ?_⟩
      have kp8 : Kp [d, wl] G6 G8 := fun b o nb y => s8 _ _ (kp b o nb y)
      have gd8 := s8 _ _ fa.gd
      have gw8 := s8 _ _ ew
      have nrd8 : r ≠ d := fun z => by rw [z, fa.gd] at hr8; cases hr8
      have nrw8 : r ≠ wl := fun z => by rw [z, ew] at hr8; cases hr8
      refine ⟨r, rfl, ⟨_, SqL.of er⟩, ?_⟩
      refine for_list (K := K) (a := r) (xs := ps.map V.ref) (fun j σ G' => ∃ (F' : List WdE) (ws' : List Addr) (v4 : Option V), σ = [some (.ref t), some (.ref qs), some (.ref qe), some (.ref rd), v4, some (.ref d), some (.ref wl), some (.int (0 + (i : Int))), none, none, none] ∧ Kp [d, wl] G8 G' ∧ FarAt G' d F' ∧ G' wl = some (.lst (ws'.map V.ref)) ∧ Paired (fun q c => At G' q c) ws' (keysD F') ∧ Bn (stepA (without L s)) e i (x', n) F' fun y => y ∈ (stepsN (without L s) x').take j)
        ⟨F, ws, v4, rfl, fun _ _ _ y => y, ⟨gd8, fa.nk⟩, gw8, paired_imp (fun _ _ h => s8 _ _ h) pw, bf.go hc fun y hy => by simp at hy⟩ (fun j σ G' _ ⟨_, _, _, _, k, _⟩ => SqL.of (k _ _ (fun m => by
          rcases List.mem_cons.mp m with z | z
          · exact nrd8 z
          · exact nrw8 (List.mem_singleton.mp z)) er)) ?_ ?_
      · rintro j y σ G9 hj ⟨F', ws', v4, rfl, kp9, fa9, ew9, pw9, bn⟩
        rw [List.getElem?_map] at hj
        obtain ⟨qy, hqy, rfl⟩ := Option.map_eq_some_iff.mp hj
        obtain ⟨y, hy, ay8⟩ := paired_get pps hqy
        have ay : At G9 qy y := kp2_at kp9 gd8 gw8 ay8
        have hS : ∀ z, z ∈ (stepsN (without L s) x').take (j + 1) → z ∈ (stepsN (without L s) x').take j ∨ z = y := fun z hz => by
          rw [take_snoc hy, List.mem_append, List.mem_singleton] at hz
          exact hz
        have lF9 := bnd fa9.nk bn.ds
        have lws9 : ws'.length = F'.length := by
          rw [Paired.length pw9]
          unfold keysD
          rw [List.length_map]
        refine ⟨_, rfl, _, rfl, d, _, rfl, DGet.t (k := cK y) fa9.gd ay, _, rfl, ?_⟩
        rw [far_is fa9.nk]
        refine ite2 (fun h5 => ?_) (fun h5 => ?_)
        · have nx : y ∉ keysD F' := by simpa using h5
          obtain ⟨qz, hqz⟩ : ∃ q, ws'[i]? = some q := ⟨_, List.getElem?_eq_getElem (by have := (List.getElem?_eq_some_iff.mp bn.at_).1; omega)⟩
          obtain ⟨z', hz', az⟩ := paired_get pw9 hqz
          obtain rfl : z' = x' := by
            rw [keysD_get.mpr ⟨n, bn.at_⟩] at hz'
            exact (Option.some.inj hz').symm
          have xF : (z', n) ∈ F' := List.mem_of_getElem? bn.at_
          refine ⟨_, rfl, _, rfl, _, rfl, wl, _, _, .ref qz, rfl, rfl, SqL.of ew9, atI_i (n := i) (by omega) (by rw [List.getElem?_map, hqz]; rfl), d, .int (n : Int), rfl, (by rw [← far_val fa9.nk xF]; exact DGet.t (k := cK z') fa9.gd az), _, _, rfl, rfl, _, rfl, _, rfl, d, _, rfl, DPut.t (k := cK y) fa9.gd ay (by unfold wdK; rw [kv_len, sizeLine_eq]; omega), ?_⟩
          rw [show (fun i j : Int => V.int (i + j)) (n : Int) 1 = V.int ((n + 1 : Nat) : Int) from rfl, far_put (n := n + 1) nx]
          have ew10 : upd G9 d (.dT (wdK (F' ++ [(y, n + 1)]))) wl = some (.lst (ws'.map V.ref)) := by rw [upd_ne ndw.symm]; exact ew9
          refine ⟨_, rfl, .inl ⟨rfl, _, SqL.of ew10⟩, _, rfl, wl, _, _, rfl, rfl, ew10, by rw [List.length_map, sizeLine_eq]; omega, ?_⟩
          have tup : ∀ {q : Addr} {c : Cell}, At G9 q c → At (upd (upd G9 d (.dT (wdK (F' ++ [(y, n + 1)])))) wl (.lst (ws'.map V.ref ++ [V.ref qy]))) q c := fun {q c} h => by
            have h : G9 q = some (.tup (cV c)) := h
            show upd _ _ _ _ = _
            rw [upd_ne (fun z => by rw [z, ew9] at h; cases h), upd_ne (fun z => by rw [z, fa9.gd] at h; cases h)]
            exact h
          have bn' := bn.new nx (List.mem_of_getElem? hy) hS
          refine ⟨F' ++ [(y, n + 1)], ws' ++ [qy], _, rfl, fun b o nb h => ?_, ⟨by rw [upd_ne ndw]; exact upd_same, bn'.nk⟩, by rw [upd_same, List.map_append]; rfl, ?_, bn'⟩
          · rw [upd_ne (fun z => nb (by rw [z]; simp)), upd_ne (fun z => nb (by rw [z]; simp))]
            exact kp9 b o nb h
          · rw [show keysD (F' ++ [(y, n + 1)]) = keysD F' ++ [y] from by unfold keysD; rw [List.map_append]; rfl]
            exact (paired_imp (fun _ _ h => tup h) pw9).snoc (tup ay)
        · have yF : y ∈ keysD F' := by simpa using h5
          exact ⟨F', ws', _, rfl, kp9, fa9, ew9, pw9, bn.old yF hS⟩
      · rintro σ G9 ⟨F', ws', v4, rfl, kp9, fa9, ew9, pw9, bn⟩
        have lps : ps.length = (stepsN (without L s) x').length := Paired.length pps
        rw [List.length_map, lps, List.take_length] at bn
        exact ⟨F', ws', v4, _, rfl, fun b o nb y => kp9 b o nb (kp8 b o nb y), fa9, ew9, pw9, bn.done fun y hy => hy, (List.getElem?_eq_some_iff.mp bn.at_).1⟩
    · rintro σ G7 ⟨F, ws, v4, v7, rfl, kp, fa, ew, pw, bf, il⟩
      have lF := bnd fa.nk bf.ds
      refine fin (fun _ _ y => y) _ F G7 _ _ _ kp fa bf (.inl ?_)
      rw [List.length_map]
      omega
end
end Sq

set_option Elab.async false
set_option linter.all false
set_option maxRecDepth 100000
set_option maxHeartbeats 1000000
/-! Walks that are moved; walks along a line. -/
namespace Sq
open PySem PySem.Spec PyProof.Rows L2
def mvC (v c : Cell) : Cell := (c.1 + v.1, c.2 + v.2)
def ngC (v : Cell) : Cell := (-v.1, -v.2)
theorem mv_ng (v c : Cell) : mvC (ngC v) (mvC v c) = c := by
  unfold mvC ngC
  refine Prod.ext ?_ ?_ <;> dsimp only <;> omega
theorem mv_gn (v c : Cell) : mvC v (mvC (ngC v) c) = c := by
  unfold mvC ngC
  refine Prod.ext ?_ ?_ <;> dsimp only <;> omega
theorem mv_inj {v c d : Cell} (h : mvC v c = mvC v d) : c = d := by
  have := congrArg (mvC (ngC v)) h
  rwa [mv_ng, mv_ng] at this
theorem map_ng (v : Cell) (L : List Cell) : (L.map (mvC v)).map (mvC (ngC v)) = L := by
  rw [List.map_map]
  have : (mvC (ngC v)) ∘ (mvC v) = id := funext fun c => mv_ng v c
  rw [this, List.map_id]
theorem mem_mv {v c : Cell} {L : List Cell} : mvC v c ∈ L.map (mvC v) ↔ c ∈ L := by
  rw [List.mem_map]
  exact ⟨fun ⟨d, h, e⟩ => by rw [← mv_inj e]; exact h, fun h => ⟨c, h, rfl⟩⟩
theorem dec_mv {v X Y : Cell} {R : List Cell} (h : Y = mvC v X) : decide (Y ∈ R.map (mvC v)) = decide (X ∈ R) := by
  rw [h]
  exact decide_eq_decide.mpr mem_mv
theorem beside_mv {v c d : Cell} (h : d ∈ besideC c) : mvC v d ∈ besideC (mvC v c) := by
  have := beside_iff.mp h
  rw [beside_iff]
  unfold mvC
  dsimp only
  omega
theorem air_mv1 {v a b : Cell} {R : List Cell} (h : Air R a b) : Air (R.map (mvC v)) (mvC v a) (mvC v b) := by
  induction h with
  | refl => exact .refl
  | step _ h1 h2 ih => exact .step ih (beside_mv h1) fun m => h2 (mem_mv.mp m)
theorem air_mv {v a b : Cell} {R : List Cell} : Air (R.map (mvC v)) (mvC v a) (mvC v b) ↔ Air R a b := by
  refine ⟨fun h => ?_, air_mv1⟩
  have := air_mv1 (v := ngC v) h
  rwa [map_ng, mv_ng, mv_ng] at this
theorem without_mv (v s : Cell) (L : List Cell) : without (L.map (mvC v)) (mvC v s) = (without L s).map (mvC v) := by
  unfold without
  rw [List.filter_map]
  congr 1
  refine List.filter_congr fun x _ => ?_
  by_cases h : x = s
  · rw [h]
    simp
  · have : mvC v x ≠ mvC v s := fun e => h (mv_inj e)
    simp [h, this]
theorem hangs_mv {v : Cell} {L : List Cell} : Hangs (L.map (mvC v)) ↔ Hangs L := by
  refine ⟨fun h => ?_, hangs_map fun a b => beside_mv⟩
  have := hangs_map (g := mvC (ngC v)) (fun a b => beside_mv) h
  rwa [map_ng] at this
theorem hangsB_mv {v : Cell} {L : List Cell} : hangsB (L.map (mvC v)) = hangsB L := by
  rw [Bool.eq_iff_iff, hangsB_iff, hangsB_iff]
  exact hangs_mv
theorem stepOk_mv {v c b : Cell} {R : List Cell} : stepOk (R.map (mvC v)) (mvC v c) b = stepOk R c b := by
  have e1 : plusC (mvC v c) b = mvC v (plusC c b) := by
    unfold plusC mvC
    refine Prod.ext ?_ ?_ <;> dsimp only <;> omega
  unfold stepOk
  rw [e1]
  have hs : ∀ n : Cell, sideB (R.map (mvC v)) (mvC v c) (mvC v (plusC c b)) n = sideB R c (plusC c b) n := fun n => by
    unfold sideB
    rw [dec_mv (v := v) (X := (c.1 + n.1, c.2 + n.2)) (by unfold mvC; refine Prod.ext ?_ ?_ <;> dsimp only <;> omega), dec_mv (v := v) (X := ((plusC c b).1 + n.1, (plusC c b).2 + n.2)) (by unfold mvC; refine Prod.ext ?_ ?_ <;> dsimp only <;> omega)]
  have ht : turnsB (R.map (mvC v)) (mvC v c) (mvC v (plusC c b)) = turnsB R c (plusC c b) := by
    unfold turnsB
    rw [show ((mvC v c).1, (mvC v (plusC c b)).2) = mvC v (c.1, (plusC c b).2) from rfl, show ((mvC v (plusC c b)).1, (mvC v c).2) = mvC v ((plusC c b).1, c.2) from rfl, dec_mv (X := (c.1, (plusC c b).2)) rfl, dec_mv (X := ((plusC c b).1, c.2)) rfl]
  rw [hs, hs, ht, dec_mv (v := v) (X := plusC c b) rfl]
theorem steps_mv {v c : Cell} {R : List Cell} : stepsN (R.map (mvC v)) (mvC v c) = (stepsN R c).map (mvC v) := by
  unfold stepsN
  rw [List.map_map, List.filter_congr fun b _ => stepOk_mv (v := v) (c := c) (R := R) (b := b)]
  refine List.map_congr_left fun b _ => ?_
  unfold plusC mvC
  refine Prod.ext ?_ ?_ <;> dsimp only [Function.comp] <;> omega
theorem adjA_mv {v s x y : Cell} {L : List Cell} : adjA (L.map (mvC v)) (mvC v s) (mvC v x) (mvC v y) ↔ adjA L s x y := by
  unfold adjA
  rw [without_mv, hangsB_mv, air_mv, steps_mv, mem_mv]
theorem wk_mv {v s e : Cell} {L : List Cell} : ∀ {n : Nat} {x : Cell}, Wk (adjA (L.map (mvC v)) (mvC v s)) (mvC v e) n (mvC v x) ↔ Wk (adjA L s) e n x
  | 0, x => ⟨fun h => mv_inj h, fun h => congrArg (mvC v) h⟩
  | n + 1, x => by
    constructor
    · rintro ⟨y, h, a⟩
      rw [← mv_gn v y] at h a
      exact ⟨mvC (ngC v) y, wk_mv.mp h, adjA_mv.mp a⟩
    · rintro ⟨y, h, a⟩
      exact ⟨mvC v y, wk_mv.mpr h, adjA_mv.mpr a⟩
theorem dst_mv {v s e x : Cell} {n : Nat} {L : List Cell} : Dst (adjA (L.map (mvC v)) (mvC v s)) (mvC v e) n (mvC v x) ↔ Dst (adjA L s) e n x := by
  unfold Dst
  rw [wk_mv]
  exact and_congr_right fun _ => forall_congr' fun k => forall_congr' fun _ => not_congr wk_mv
theorem cLt_mv (v a b : Cell) : cLt (mvC v a) (mvC v b) = cLt a b := by
  unfold cLt mvC
  dsimp only
  refine decide_eq_decide.mpr ?_
  omega
def mvP (v : Cell) (m : CellP) : CellP := (mvC v m.1, mvC v m.2)
theorem walkP_mv {v s e : Cell} {L : List Cell} : ∀ {n : Nat} {x : Cell} {ms : List CellP}, WalkP (adjA L s) e n x ms → WalkP (adjA (L.map (mvC v)) (mvC v s)) (mvC v e) n (mvC v x) (ms.map (mvP v))
  | 0, x, ms, ⟨h, k⟩ => ⟨congrArg (mvC v) h, by rw [k]; rfl⟩
  | n + 1, x, ms, ⟨y, ms', ⟨⟨l1, l2⟩, l3⟩, k, w⟩ => by
    refine ⟨mvC v y, ms'.map (mvP v), ⟨⟨adjA_mv.mpr l1, dst_mv.mpr l2⟩, fun z hz => ?_⟩, by rw [k]; rfl, walkP_mv w⟩
    rw [← mv_gn v z] at hz ⊢
    rw [cLt_mv]
    exact l3 _ ⟨adjA_mv.mp hz.1, dst_mv.mp hz.2⟩
/-- a moved body's walk is the walk, moved -/
theorem walk_mv {v s e : Cell} {L : List Cell} {ms : List CellP} (h : WalkIs L s e ms) : WalkIs (L.map (mvC v)) (mvC v s) (mvC v e) (ms.map (mvP v)) := by
  obtain ⟨D, h1, h2⟩ := h
  exact ⟨D, dst_mv.mpr h1, walkP_mv h2⟩
/-- where a free square can go: the cells beside what is left behind, in its region -/
theorem hasW_due {L : List Cell} {s : Cell} (hang : Hangs L) (sL : s ∈ L) (hb : hangsB (without L s) = true) {x : Cell} (a : Air (without L s) s x) {sq : Cell} (sd : IsSide (without L s) (x, sq)) : HasW L s x := by
  obtain ⟨sq0, sd0⟩ := start_side hang sL (hangsB_iff.mp hb)
  refine ⟨sL, ?_⟩
  by_cases z : x = s
  · exact .inl z
  · refine .inr ?_
    obtain ⟨m, O, ro⟩ := ring_ex sd0
    have mO := (ro.mem (hangsB_iff.mp hb) sd0 (c := x) (s := sq)).mpr ⟨a, sd⟩
    rw [ro.eq] at mO
    obtain ⟨i, _, ei⟩ := List.mem_map.mp mO
    obtain ⟨n, hn⟩ := ring_wk hb sd0 i
    rw [ei] at hn
    cases n with
    | zero => exact absurd (show x = s from hn) z
    | succ n =>
      obtain ⟨y, _, ay⟩ := hn
      exact ⟨y, adjA_symm ay⟩
/-- outer cells: one goes from each to each -/
theorem hasW_outer {L : List Cell} {s e sq : Cell} (hang : Hangs L) (sL : s ∈ L) (hb : hangsB (without L s) = true) (os : Outer (without L s) s) (oe : Outer (without L s) e) (sd : IsSide (without L s) (e, sq)) : HasW L s e :=
  hasW_due hang sL hb (outer_one (hangsB_iff.mp hb).1 (self_out L s) os oe sd.out) sd
/-- n cells in one direction -/
def lineC (c st : Cell) (n : Nat) : List Cell := (List.range n).map fun k : Nat => ((c.1 + (k : Int) * st.1, c.2 + (k : Int) * st.2) : Cell)
def Side1 (st : Cell) : Prop := st = (1, 0) ∨ st = (-1, 0) ∨ st = (0, 1) ∨ st = (0, -1)
theorem mem_line {c st x : Cell} {n : Nat} : x ∈ lineC c st n ↔ ∃ k : Nat, k < n ∧ x = (c.1 + (k : Int) * st.1, c.2 + (k : Int) * st.2) := by
  unfold lineC
  rw [List.mem_map]
  exact ⟨fun ⟨k, h, e⟩ => ⟨k, List.mem_range.mp h, e.symm⟩, fun ⟨k, h, e⟩ => ⟨k, List.mem_range.mpr h, e.symm⟩⟩
theorem line_hangs {c st : Cell} (d : Side1 st) {n : Nat} (h : 1 ≤ n) : Hangs (lineC c st n) := by
  have m0 : c ∈ lineC c st n := mem_line.mpr ⟨0, h, by simp⟩
  refine (hangs_from m0).mpr fun x hx => ?_
  obtain ⟨k, hk, rfl⟩ := mem_line.mp hx
  have go : ∀ k : Nat, k < n → Reach (lineC c st n) c (c.1 + (k : Int) * st.1, c.2 + (k : Int) * st.2) := by
    intro k
    induction k with
    | zero =>
      intro _
      have : ((c.1 + ((0 : Nat) : Int) * st.1, c.2 + ((0 : Nat) : Int) * st.2) : Cell) = c := by simp
      rw [this]
      exact .refl
    | succ k ih =>
      intro hk
      refine .step (ih (by omega)) (beside_iff.mpr ?_) (mem_line.mpr ⟨k + 1, hk, rfl⟩)
      rcases d with rfl | rfl | rfl | rfl <;> simp <;> omega
  exact go k hk
/-- the square ahead of a line goes to the cell behind it -/
theorem line_walk {c st : Cell} (d : Side1 st) {m : Nat} (hm : 1 ≤ m) {L : List Cell} (hL : ∀ x, x ∈ L ↔ x = (c.1 - st.1, c.2 - st.2) ∨ x ∈ lineC c st m) :
    HasW L (c.1 - st.1, c.2 - st.2) (c.1 + (m : Int) * st.1, c.2 + (m : Int) * st.2) := by
  have h0 : ((c.1 - st.1, c.2 - st.2) : Cell) ∉ lineC c st m := fun h => by
    obtain ⟨k, hk, e⟩ := mem_line.mp h
    have := Prod.mk.inj e
    rcases d with rfl | rfl | rfl | rfl <;> simp at this <;> omega
  have eW : ∀ x, x ∈ without L (c.1 - st.1, c.2 - st.2) ↔ x ∈ lineC c st m := fun x => by
    rw [mem_without, hL]
    exact ⟨fun ⟨h, n⟩ => h.resolve_left n, fun h => ⟨.inr h, fun z => h0 (by rw [← z]; exact h)⟩⟩
  have hb : hangsB (without L (c.1 - st.1, c.2 - st.2)) = true := hangsB_iff.mpr ((hangs_perm eW).mpr (line_hangs d hm))
  have hang : Hangs L := by
    have : ∀ x, x ∈ L ↔ x ∈ lineC (c.1 - st.1, c.2 - st.2) st (m + 1) := fun x => by
      rw [hL, mem_line, mem_line]
      constructor
      · rintro (h | ⟨k, hk, h⟩)
        · exact ⟨0, by omega, by rw [h]; simp⟩
        · refine ⟨k + 1, by omega, ?_⟩
          rw [h]
          rcases d with rfl | rfl | rfl | rfl <;> refine Prod.ext ?_ ?_ <;> simp <;> omega
      · rintro ⟨k, hk, h⟩
        cases k with
        | zero => exact .inl (by rw [h]; simp)
        | succ k =>
          refine .inr ⟨k, by omega, ?_⟩
          rw [h]
          rcases d with rfl | rfl | rfl | rfl <;> refine Prod.ext ?_ ?_ <;> simp <;> omega
    exact (hangs_perm this).mpr (line_hangs d (by omega))
  have last : ((c.1 + ((m - 1 : Nat) : Int) * st.1, c.2 + ((m - 1 : Nat) : Int) * st.2) : Cell) ∈ without L (c.1 - st.1, c.2 - st.2) := (eW _).mpr (mem_line.mpr ⟨m - 1, by omega, rfl⟩)
  have he : ((c.1 + (m : Int) * st.1, c.2 + (m : Int) * st.2) : Cell) ∉ without L (c.1 - st.1, c.2 - st.2) := fun h => by
    obtain ⟨k, hk, e⟩ := mem_line.mp ((eW _).mp h)
    have := Prod.mk.inj e
    rcases d with rfl | rfl | rfl | rfl <;> simp at this <;> omega
  have bx : ∀ x ∈ without L (c.1 - st.1, c.2 - st.2), ∃ k : Nat, k < m ∧ x.1 = c.1 + (k : Int) * st.1 ∧ x.2 = c.2 + (k : Int) * st.2 := fun x hx => by
    obtain ⟨k, hk, e⟩ := mem_line.mp ((eW _).mp hx)
    exact ⟨k, hk, congrArg Prod.fst e, congrArg Prod.snd e⟩
  refine hasW_outer (sq := (c.1 + ((m - 1 : Nat) : Int) * st.1, c.2 + ((m - 1 : Nat) : Int) * st.2)) hang ((hL _).mpr (.inl rfl)) hb ?_ ?_ ⟨he, last, beside_iff.mpr ?_⟩
  · rcases d with rfl | rfl | rfl | rfl
    · exact outer_box (l1 := c.1) (h1 := c.1 + m) (l2 := c.2) (h2 := c.2) (fun x hx => by obtain ⟨k, hk, e1, e2⟩ := bx x hx; simp at e1 e2; omega) (by simp; omega)
    · exact outer_box (l1 := c.1 - m) (h1 := c.1) (l2 := c.2) (h2 := c.2) (fun x hx => by obtain ⟨k, hk, e1, e2⟩ := bx x hx; simp at e1 e2; omega) (by simp; omega)
    · exact outer_box (l1 := c.1) (h1 := c.1) (l2 := c.2) (h2 := c.2 + m) (fun x hx => by obtain ⟨k, hk, e1, e2⟩ := bx x hx; simp at e1 e2; omega) (by simp; omega)
    · exact outer_box (l1 := c.1) (h1 := c.1) (l2 := c.2 - m) (h2 := c.2) (fun x hx => by obtain ⟨k, hk, e1, e2⟩ := bx x hx; simp at e1 e2; omega) (by simp; omega)
  · rcases d with rfl | rfl | rfl | rfl
    · exact outer_box (l1 := c.1) (h1 := c.1 + m - 1) (l2 := c.2) (h2 := c.2) (fun x hx => by obtain ⟨k, hk, e1, e2⟩ := bx x hx; simp at e1 e2; omega) (by simp; omega)
    · exact outer_box (l1 := c.1 - m + 1) (h1 := c.1) (l2 := c.2) (h2 := c.2) (fun x hx => by obtain ⟨k, hk, e1, e2⟩ := bx x hx; simp at e1 e2; omega) (by simp; omega)
    · exact outer_box (l1 := c.1) (h1 := c.1) (l2 := c.2) (h2 := c.2 + m - 1) (fun x hx => by obtain ⟨k, hk, e1, e2⟩ := bx x hx; simp at e1 e2; omega) (by simp; omega)
    · exact outer_box (l1 := c.1) (h1 := c.1) (l2 := c.2 - m + 1) (h2 := c.2) (fun x hx => by obtain ⟨k, hk, e1, e2⟩ := bx x hx; simp at e1 e2; omega) (by simp; omega)
  · rcases d with rfl | rfl | rfl | rfl <;> simp <;> omega
end Sq

set_option Elab.async false
set_option linter.all false
set_option maxRecDepth 100000
set_option maxHeartbeats 2000000
/-! Walks one behind the other: lines along themselves, rows that stand up, columns that lie down. -/
namespace Sq
open PySem PySem.Spec PyProof.Rows L2
/-- the body behind a walk -/
def NextB (L : List Cell) (s e : Cell) (M : List Cell) : Prop := Asc M ∧ M.Nodup ∧ M.Perm (without L s ++ [e])
theorem NextB.uniq {L M M' : List Cell} {s e : Cell} (h : NextB L s e M) (k : NextB L s e M') : M = M' := ascU h.2.1 k.2.1 h.1 k.1 fun x => by rw [h.2.2.mem_iff, k.2.2.mem_iff]
/-- walks one behind the other, from a body to a body -/
inductive Wks : List Cell → List CellP → List CellP → List Cell → Prop
  | nil {L : List Cell} : Wks L [] [] L
  | cons {L M N : List Cell} {s e : Cell} {ms pl : List CellP} {ps : List CellP} : HasW L s e → WalkIs L s e ms → NextB L s e M → Wks M ps pl N → Wks L ((s, e) :: ps) (ms ++ pl) N
theorem Wks.uniq {L N N' : List Cell} {ps pl pl' : List CellP} (h : Wks L ps pl N) (k : Wks L ps pl' N') : pl = pl' ∧ N = N' := by
  induction h generalizing pl' N' with
  | nil =>
    cases k
    exact ⟨rfl, rfl⟩
  | cons h1 h2 h3 _ ih =>
    cases k with
    | cons k1 k2 k3 k4 =>
      have e := h3.uniq k3
      subst e
      obtain ⟨e1, e2⟩ := ih k4
      rw [h2.uniq k2, e1]
      exact ⟨rfl, e2⟩
theorem Wks.app {L M N : List Cell} {ps qs pl ql : List CellP} (h : Wks L ps pl M) (k : Wks M qs ql N) : Wks L (ps ++ qs) (pl ++ ql) N := by
  induction h with
  | nil => exact k
  | cons h1 h2 h3 _ ih =>
    rw [List.append_assoc]
    exact .cons h1 h2 h3 (ih k)
/-- that each of the walks is one -/
inductive CanW : List Cell → List CellP → List Cell → Prop
  | nil {L : List Cell} : CanW L [] L
  | cons {L M N : List Cell} {s e : Cell} {ps : List CellP} : HasW L s e → NextB L s e M → CanW M ps N → CanW L ((s, e) :: ps) N
theorem CanW.snoc {L M N : List Cell} {s e : Cell} {ps : List CellP} (h : CanW L ps M) (a : HasW M s e) (b : NextB M s e N) : CanW L (ps ++ [(s, e)]) N := by
  induction h with
  | nil => exact .cons a b .nil
  | cons h1 h2 _ ih => exact .cons h1 h2 (ih a b)
/-- steps numbered from 0 on -/
theorem canW_range {n : Nat} {B : Nat → List Cell} {f : Nat → CellP} (h : ∀ i, i < n → HasW (B i) (f i).1 (f i).2 ∧ NextB (B i) (f i).1 (f i).2 (B (i + 1))) : CanW (B 0) ((List.range n).map f) (B n) := by
  induction n with
  | zero => exact .nil
  | succ n ih =>
    rw [List.range_succ, List.map_append]
    obtain ⟨a, b⟩ := h n (by omega)
    exact (ih fun i hi => h i (by omega)).snoc a b
theorem line_cons {c st : Cell} {n : Nat} : lineC c st (n + 1) = c :: lineC (c.1 + st.1, c.2 + st.2) st n := by
  unfold lineC
  rw [List.range_succ_eq_map, List.map_cons, List.map_map]
  congr 1
  · simp
  · refine List.map_congr_left fun k _ => ?_
    refine Prod.ext ?_ ?_ <;> dsimp only [Function.comp] <;> rw [show ((Nat.succ k : Nat) : Int) = (k : Int) + 1 from rfl, Int.add_mul] <;> omega
theorem line_snoc {c st : Cell} {n : Nat} : lineC c st (n + 1) = lineC c st n ++ [(c.1 + (n : Int) * st.1, c.2 + (n : Int) * st.2)] := by
  unfold lineC
  rw [List.range_succ, List.map_append]
  rfl
def Up1 (st : Cell) : Prop := st = (1, 0) ∨ st = (0, 1)
theorem Up1.side {st : Cell} (h : Up1 st) : Side1 st := h.elim .inl fun h => .inr (.inr (.inl h))
theorem Up1.neg {st : Cell} (h : Up1 st) : Side1 (-st.1, -st.2) := by
  rcases h with rfl | rfl
  · exact .inr (.inl rfl)
  · exact .inr (.inr (.inr rfl))
theorem line_asc {c st : Cell} (d : Up1 st) (n : Nat) : Asc (lineC c st n) ∧ (lineC c st n).Nodup := by
  have key : (lineC c st n).Pairwise fun a b => cLt b a = false ∧ a ≠ b := by
    unfold lineC
    refine List.pairwise_map.mpr (List.Pairwise.imp (R := fun a b => a < b) (fun {a b} h => ?_) List.pairwise_lt_range)
    constructor
    · unfold cLt
      refine decide_eq_false ?_
      rcases d with rfl | rfl <;> simp <;> omega
    · intro z
      have := Prod.mk.inj z
      rcases d with rfl | rfl <;> simp at this <;> omega
  exact ⟨key.imp fun h => h.1, key.imp fun h => h.2⟩
theorem without_head {s : Cell} {R : List Cell} (h : s ∉ R) : without (s :: R) s = R := by
  unfold without
  rw [List.filter_cons]
  rw [if_neg (by simp)]
  exact List.filter_eq_self.mpr fun x hx => by
    have : x ≠ s := fun z => h (by rw [← z]; exact hx)
    simpa using this
theorem without_last {s : Cell} {R : List Cell} (h : s ∉ R) : without (R ++ [s]) s = R := by
  unfold without
  rw [List.filter_append, List.filter_cons, if_neg (by simp), List.filter_nil, List.append_nil]
  exact List.filter_eq_self.mpr fun x hx => by
    have : x ≠ s := fun z => h (by rw [← z]; exact hx)
    simpa using this
/-- a line goes on by one cell -/
theorem line_on {c st : Cell} (d : Up1 st) {m : Nat} (hm : 1 ≤ m) : HasW (lineC c st (m + 1)) c (c.1 + ((m + 1 : Nat) : Int) * st.1, c.2 + ((m + 1 : Nat) : Int) * st.2) ∧ NextB (lineC c st (m + 1)) c (c.1 + ((m + 1 : Nat) : Int) * st.1, c.2 + ((m + 1 : Nat) : Int) * st.2) (lineC (c.1 + st.1, c.2 + st.2) st (m + 1)) := by
  have e1 : ((c.1 + st.1 - st.1, c.2 + st.2 - st.2) : Cell) = c := by refine Prod.ext ?_ ?_ <;> dsimp only <;> omega
  have e2 : ((c.1 + st.1 + (m : Int) * st.1, c.2 + st.2 + (m : Int) * st.2) : Cell) = (c.1 + ((m + 1 : Nat) : Int) * st.1, c.2 + ((m + 1 : Nat) : Int) * st.2) := by
    refine Prod.ext ?_ ?_ <;> dsimp only <;> rw [show ((m + 1 : Nat) : Int) = (m : Int) + 1 from rfl, Int.add_mul] <;> omega
  constructor
  · have := line_walk (c := (c.1 + st.1, c.2 + st.2)) d.side hm (L := lineC c st (m + 1)) (fun x => by
      rw [line_cons, List.mem_cons]
      dsimp only
      rw [e1])
    dsimp only at this
    rwa [e1, e2] at this
  · refine ⟨(line_asc d _).1, (line_asc d _).2, ?_⟩
    have nd := (line_asc (c := c) d (m + 1)).2
    rw [line_cons] at nd
    rw [show lineC (c.1 + st.1, c.2 + st.2) st (m + 1) = _ from line_snoc, show lineC c st (m + 1) = c :: lineC (c.1 + st.1, c.2 + st.2) st m from line_cons, without_head (List.nodup_cons.mp nd).1]
    dsimp only
    rw [e2]
/-- and back by one cell -/
theorem line_back {c st : Cell} (d : Up1 st) {m : Nat} (hm : 1 ≤ m) : HasW (lineC c st (m + 1)) (c.1 + (m : Int) * st.1, c.2 + (m : Int) * st.2) (c.1 - st.1, c.2 - st.2) ∧ NextB (lineC c st (m + 1)) (c.1 + (m : Int) * st.1, c.2 + (m : Int) * st.2) (c.1 - st.1, c.2 - st.2) (lineC (c.1 - st.1, c.2 - st.2) st (m + 1)) := by
  constructor
  · have := line_walk (c := (c.1 + ((m - 1 : Nat) : Int) * st.1, c.2 + ((m - 1 : Nat) : Int) * st.2)) d.neg hm (L := lineC c st (m + 1)) (fun x => by
      rw [mem_line, mem_line]
      constructor
      · rintro ⟨k, hk, rfl⟩
        by_cases z : k = m
        · refine .inl ?_
          subst z
          rcases d with rfl | rfl <;> refine Prod.ext ?_ ?_ <;> simp <;> omega
        · refine .inr ⟨m - 1 - k, by omega, ?_⟩
          rcases d with rfl | rfl <;> refine Prod.ext ?_ ?_ <;> simp <;> omega
      · rintro (h | ⟨k, hk, h⟩)
        · refine ⟨m, by omega, ?_⟩
          rw [h]
          rcases d with rfl | rfl <;> refine Prod.ext ?_ ?_ <;> simp <;> omega
        · refine ⟨m - 1 - k, by omega, ?_⟩
          rw [h]
          rcases d with rfl | rfl <;> refine Prod.ext ?_ ?_ <;> simp <;> omega)
    have a1 : ((c.1 + ((m - 1 : Nat) : Int) * st.1 - -st.1, c.2 + ((m - 1 : Nat) : Int) * st.2 - -st.2) : Cell) = (c.1 + (m : Int) * st.1, c.2 + (m : Int) * st.2) := by
      rcases d with rfl | rfl <;> refine Prod.ext ?_ ?_ <;> simp <;> omega
    have a2 : ((c.1 + ((m - 1 : Nat) : Int) * st.1 + (m : Int) * -st.1, c.2 + ((m - 1 : Nat) : Int) * st.2 + (m : Int) * -st.2) : Cell) = (c.1 - st.1, c.2 - st.2) := by
      rcases d with rfl | rfl <;> refine Prod.ext ?_ ?_ <;> simp <;> omega
    dsimp only at this
    rwa [a1, a2] at this
  · refine ⟨(line_asc d _).1, (line_asc d _).2, ?_⟩
    have nd := (line_asc (c := c) d (m + 1)).2
    rw [line_snoc] at nd
    have ns : ((c.1 + (m : Int) * st.1, c.2 + (m : Int) * st.2) : Cell) ∉ lineC c st m := fun h => by
      have := (List.nodup_append.mp nd).2.2 _ h _ (List.mem_singleton.mpr rfl)
      exact this rfl
    rw [show lineC c st (m + 1) = lineC c st m ++ [(c.1 + (m : Int) * st.1, c.2 + (m : Int) * st.2)] from line_snoc, without_last ns, line_cons]
    dsimp only
    rw [show ((c.1 - st.1 + st.1, c.2 - st.2 + st.2) : Cell) = c from by refine Prod.ext ?_ ?_ <;> dsimp only <;> omega]
    exact (List.perm_append_comm (l₁ := [((c.1 - st.1, c.2 - st.2) : Cell)]) (l₂ := lineC c st m))
theorem hangs_two {A B : List Cell} {a b : Cell} (hA : Hangs A) (hB : Hangs B) (ha : a ∈ A) (hb : b ∈ B) (bs : b ∈ besideC a) : Hangs (A ++ B) := by
  have inA : ∀ {x y}, Reach A x y → Reach (A ++ B) x y := fun {x y} r => by
    induction r with
    | refl => exact .refl
    | step _ h1 h2 ih => exact .step ih h1 (List.mem_append_left _ h2)
  have inB : ∀ {x y}, Reach B x y → Reach (A ++ B) x y := fun {x y} r => by
    induction r with
    | refl => exact .refl
    | step _ h1 h2 ih => exact .step ih h1 (List.mem_append_right _ h2)
  refine (hangs_from (m := a) (List.mem_append_left _ ha)).mpr fun x hx => ?_
  rcases List.mem_append.mp hx with h | h
  · exact inA (hA.2 a ha x h)
  · exact (Reach.step .refl bs (List.mem_append_right _ hb)).trans (inB (hB.2 b hb x h))
/-- a row from c on with m squares ahead of a column of k squares -/
def rowCol (c : Cell) (m k : Nat) : List Cell := lineC c (1, 0) m ++ lineC (c.1 + (m : Int), c.2) (0, 1) k
/-- a column from c on of m squares, ahead of a row of k squares to its east -/
def colRow (c : Cell) (m k : Nat) : List Cell := lineC c (0, 1) m ++ lineC (c.1 + 1, c.2) (1, 0) k
theorem mem_rowCol {c x : Cell} {m k : Nat} : x ∈ rowCol c m k ↔ (c.1 ≤ x.1 ∧ x.1 < c.1 + m ∧ x.2 = c.2) ∨ (x.1 = c.1 + m ∧ c.2 ≤ x.2 ∧ x.2 < c.2 + k) := by
  unfold rowCol
  rw [List.mem_append, mem_line, mem_line]
  constructor
  · rintro (⟨j, hj, rfl⟩ | ⟨j, hj, rfl⟩) <;> simp <;> omega
  · rintro (h | h)
    · exact .inl ⟨(x.1 - c.1).toNat, by omega, by refine Prod.ext ?_ ?_ <;> simp <;> omega⟩
    · exact .inr ⟨(x.2 - c.2).toNat, by omega, by refine Prod.ext ?_ ?_ <;> simp <;> omega⟩
theorem mem_colRow {c x : Cell} {m k : Nat} : x ∈ colRow c m k ↔ (x.1 = c.1 ∧ c.2 ≤ x.2 ∧ x.2 < c.2 + m) ∨ (c.1 < x.1 ∧ x.1 ≤ c.1 + k ∧ x.2 = c.2) := by
  unfold colRow
  rw [List.mem_append, mem_line, mem_line]
  constructor
  · rintro (⟨j, hj, rfl⟩ | ⟨j, hj, rfl⟩) <;> simp <;> omega
  · rintro (h | h)
    · exact .inl ⟨(x.2 - c.2).toNat, by omega, by refine Prod.ext ?_ ?_ <;> simp <;> omega⟩
    · exact .inr ⟨(x.1 - (c.1 + 1)).toNat, by omega, by refine Prod.ext ?_ ?_ <;> simp <;> omega⟩
theorem asc_app {A B : List Cell} (hA : Asc A ∧ A.Nodup) (hB : Asc B ∧ B.Nodup) (h : ∀ a ∈ A, ∀ b ∈ B, cLt b a = false ∧ a ≠ b) : Asc (A ++ B) ∧ (A ++ B).Nodup :=
  ⟨List.pairwise_append.mpr ⟨hA.1, hB.1, fun a ha b hb => (h a ha b hb).1⟩, List.nodup_append.mpr ⟨hA.2, hB.2, fun a ha b hb => (h a ha b hb).2⟩⟩
theorem asc_rowCol (c : Cell) (m k : Nat) : Asc (rowCol c m k) ∧ (rowCol c m k).Nodup := by
  refine asc_app (line_asc (.inl rfl) _) (line_asc (.inr rfl) _) fun a ha b hb => ?_
  obtain ⟨i, hi, rfl⟩ := mem_line.mp ha
  obtain ⟨j, hj, rfl⟩ := mem_line.mp hb
  refine ⟨decide_eq_false ?_, fun z => ?_⟩
  · simp
    omega
  · have := Prod.mk.inj z
    simp at this
    omega
theorem asc_colRow (c : Cell) (m k : Nat) : Asc (colRow c m k) ∧ (colRow c m k).Nodup := by
  refine asc_app (line_asc (.inr rfl) _) (line_asc (.inl rfl) _) fun a ha b hb => ?_
  obtain ⟨i, hi, rfl⟩ := mem_line.mp ha
  obtain ⟨j, hj, rfl⟩ := mem_line.mp hb
  refine ⟨decide_eq_false ?_, fun z => ?_⟩
  · simp
    omega
  · have := Prod.mk.inj z
    simp at this
    omega
theorem hangs_rowCol {c : Cell} {m k : Nat} (h : 1 ≤ k) : Hangs (rowCol c m k) := by
  cases m with
  | zero =>
    have : ∀ x, x ∈ rowCol c 0 k ↔ x ∈ lineC c (0, 1) k := fun x => by
      unfold rowCol
      simp [lineC]
    exact (hangs_perm this).mpr (line_hangs (.inr (.inr (.inl rfl))) h)
  | succ m =>
    unfold rowCol
    exact hangs_two (a := (c.1 + m, c.2)) (b := (c.1 + ((m + 1 : Nat) : Int), c.2)) (line_hangs (.inl rfl) (by omega)) (line_hangs (.inr (.inr (.inl rfl))) h) (mem_line.mpr ⟨m, by omega, by refine Prod.ext ?_ ?_ <;> simp⟩) (mem_line.mpr ⟨0, h, by simp⟩) (beside_iff.mpr (by simp; omega))
theorem hangs_colRow {c : Cell} {m k : Nat} (h : 1 ≤ m) : Hangs (colRow c m k) := by
  cases k with
  | zero =>
    have : ∀ x, x ∈ colRow c m 0 ↔ x ∈ lineC c (0, 1) m := fun x => by
      unfold colRow
      simp [lineC]
    exact (hangs_perm this).mpr (line_hangs (.inr (.inr (.inl rfl))) h)
  | succ k =>
    unfold colRow
    exact hangs_two (a := c) (b := (c.1 + 1, c.2)) (line_hangs (.inr (.inr (.inl rfl))) h) (line_hangs (.inl rfl) (by omega)) (mem_line.mpr ⟨0, h, by simp⟩) (mem_line.mpr ⟨0, by omega, by simp⟩) (beside_iff.mpr (by simp))
/-- a body that comes of another one by a walk from outer cell to outer cell -/
theorem walk_on {L R M : List Cell} {s e sq : Cell} {l1 h1 l2 h2 : Int} (hL : ∀ x, x ∈ L ↔ x = s ∨ x ∈ R) (hM : ∀ x, x ∈ M ↔ x ∈ R ∨ x = e) (nL : L.Nodup) (aM : Asc M ∧ M.Nodup) (hgL : Hangs L) (hgR : Hangs R) (sR : s ∉ R) (eR : e ∉ R) (bx : ∀ x ∈ R, (l1 ≤ x.1 ∧ x.1 ≤ h1) ∧ (l2 ≤ x.2 ∧ x.2 ≤ h2))
    (so : s.1 < l1 ∨ h1 < s.1 ∨ s.2 < l2 ∨ h2 < s.2) (eo : e.1 < l1 ∨ h1 < e.1 ∨ e.2 < l2 ∨ h2 < e.2) (sq_ : sq ∈ R) (bs : sq ∈ besideC e) : HasW L s e ∧ NextB L s e M := by
  have eW : ∀ x, x ∈ without L s ↔ x ∈ R := fun x => by
    rw [mem_without, hL]
    exact ⟨fun ⟨h, n⟩ => h.resolve_left n, fun h => ⟨.inr h, fun z => sR (by rw [← z]; exact h)⟩⟩
  have hb : hangsB (without L s) = true := hangsB_iff.mpr ((hangs_perm eW).mpr hgR)
  have bx' : ∀ x ∈ without L s, (l1 ≤ x.1 ∧ x.1 ≤ h1) ∧ (l2 ≤ x.2 ∧ x.2 ≤ h2) := fun x hx => bx x ((eW x).mp hx)
  refine ⟨hasW_outer hgL ((hL s).mpr (.inl rfl)) hb (outer_box bx' so) (outer_box bx' eo) ⟨fun h => eR ((eW e).mp h), (eW sq).mpr sq_, bs⟩, aM.1, aM.2, ?_⟩
  refine (List.perm_ext_iff_of_nodup aM.2 ?_).mpr fun x => ?_
  · refine List.nodup_append.mpr ⟨nL.sublist List.filter_sublist, by simp, fun a ha b hb z => ?_⟩
    rw [List.mem_singleton.mp hb] at z
    rw [z] at ha
    exact eR ((eW e).mp ha)
  · rw [hM, List.mem_append, List.mem_singleton, eW]
/-- the west end of a row goes to the top of the column at its east end -/
theorem stand_on {c : Cell} {m k : Nat} (h : 1 ≤ k) : HasW (rowCol c (m + 1) k) c (c.1 + ((m + 1 : Nat) : Int), c.2 + (k : Int)) ∧ NextB (rowCol c (m + 1) k) c (c.1 + ((m + 1 : Nat) : Int), c.2 + (k : Int)) (rowCol (c.1 + 1, c.2) m (k + 1)) := by
  refine walk_on (R := rowCol (c.1 + 1, c.2) m k) (sq := (c.1 + ((m + 1 : Nat) : Int), c.2 + (k : Int) - 1)) (l1 := c.1 + 1) (h1 := c.1 + m + 1) (l2 := c.2) (h2 := c.2 + k - 1) (fun x => ?_) (fun x => ?_) (asc_rowCol _ _ _).2 (asc_rowCol _ _ _) (hangs_rowCol h) (hangs_rowCol h) ?_ ?_ (fun x hx => ?_) (.inl (by omega)) (.inr (.inr (.inr (by dsimp only; omega)))) ?_ (beside_iff.mpr (by dsimp only; omega))
  · rw [mem_rowCol, mem_rowCol, Prod.ext_iff]
    dsimp only
    omega
  · rw [mem_rowCol, mem_rowCol, Prod.ext_iff]
    dsimp only
    omega
  · rw [mem_rowCol]
    dsimp only
    omega
  · rw [mem_rowCol]
    dsimp only
    omega
  · have := mem_rowCol.mp hx
    dsimp only at this
    omega
  · rw [mem_rowCol]
    dsimp only
    omega
/-- the top of a column goes to the east end of the row at its foot -/
theorem lie_on {c : Cell} {m k : Nat} (h : 1 ≤ m) : HasW (colRow c (m + 1) k) (c.1, c.2 + (m : Int)) (c.1 + ((k + 1 : Nat) : Int), c.2) ∧ NextB (colRow c (m + 1) k) (c.1, c.2 + (m : Int)) (c.1 + ((k + 1 : Nat) : Int), c.2) (colRow c m (k + 1)) := by
  refine walk_on (R := colRow c m k) (sq := (c.1 + (k : Int), c.2)) (l1 := c.1) (h1 := c.1 + k) (l2 := c.2) (h2 := c.2 + m - 1) (fun x => ?_) (fun x => ?_) (asc_colRow _ _ _).2 (asc_colRow _ _ _) (hangs_colRow (by omega)) (hangs_colRow h) ?_ ?_ (fun x hx => ?_) (.inr (.inr (.inr (by dsimp only; omega)))) (.inr (.inl (by dsimp only; omega))) ?_ (beside_iff.mpr (by dsimp only; omega))
  · rw [mem_colRow, mem_colRow, Prod.ext_iff]
    dsimp only
    omega
  · rw [mem_colRow, mem_colRow, Prod.ext_iff]
    dsimp only
    omega
  · rw [mem_colRow]
    dsimp only
    omega
  · rw [mem_colRow]
    dsimp only
    omega
  · have := mem_colRow.mp hx
    omega
  · rw [mem_colRow]
    dsimp only
    omega
end Sq

set_option Elab.async false
set_option linter.all false
set_option maxRecDepth 100000
set_option maxHeartbeats 2000000
/-! The moves of walks are moves; where they end; how long they are. -/
namespace Sq
open PySem PySem.Spec PyProof.Rows L2
/-- a step of a square beside what stays is a move -/
theorem step_may {B : List Cell} {x y : Cell} (xB : x ∈ B) (hg : hangsB (without B x) = true) (h : y ∈ stepsN (without B x) x) : mayW B x y = true := by
  have yR := (step_out h).1
  have yx := (step_out h).2
  rw [may_place, hg, Bool.and_true]
  obtain ⟨⟨b1, b2⟩, hb, ok, rfl⟩ := step_iff.mp h
  obtain ⟨c1, c2⟩ := x
  unfold plusC at yR yx ⊢
  dsimp only at yR yx ⊢
  have bs : (b1 = -1 ∨ b1 = 0 ∨ b1 = 1) ∧ (b2 = -1 ∨ b2 = 0 ∨ b2 = 1) := by
    simp only [offs9, List.mem_cons, List.not_mem_nil, or_false, Prod.mk.injEq] at hb
    omega
  have nz : ((b1, b2) : Cell) ≠ (0, 0) := fun z => by
    have := Prod.mk.inj z
    exact yx (by refine Prod.ext ?_ ?_ <;> dsimp only <;> omega)
  have b0 : ¬ (b1 = 0 ∧ b2 = 0) := fun z => nz (by rw [z.1, z.2])
  have eB : (c1 + b1, c2 + b2) ∉ B := fun m => yR (mem_without.mpr ⟨m, yx⟩)
  have d1 : c1 + b1 - c1 = b1 := by omega
  have d2 : c2 + b2 - c2 = b2 := by omega
  have ne : byPlace B (c1, c2) (c1 + b1, c2 + b2) ≠ .non := by
    by_cases z : b1 = 0 ∨ b2 = 0
    · have g := goes_slide (R := without B (c1, c2)) (c := (c1, c2)) (b := (b1, b2)) z nz yR
      rw [ok] at g
      have s4 : side4 (b1, b2) := by
        unfold side4
        dsimp only
        omega
      have up : ∀ n : Cell, sideB (without B (c1, c2)) (c1, c2) (c1 + b1, c2 + b2) n = true → sideB B (c1, c2) (c1 + b1, c2 + b2) n = true := fun n h => by
        unfold sideB at h ⊢
        rw [Bool.and_eq_true, decide_eq_true_iff, decide_eq_true_iff, mem_without, mem_without] at h
        rw [Bool.and_eq_true, decide_eq_true_iff, decide_eq_true_iff]
        exact ⟨h.1.1, h.2.1⟩
      rw [byPlace_slide xB eB (by dsimp only; rw [d1, d2]; exact s4) ?_]
      · simp
      · unfold slidesB
        dsimp only
        rw [d1, d2, Bool.or_eq_true]
        by_cases h1 : sideB (without B (c1, c2)) (c1, c2) (c1 + b1, c2 + b2) (b2, b1) = true
        · exact .inl (up _ h1)
        · by_cases h2 : sideB (without B (c1, c2)) (c1, c2) (c1 + b1, c2 + b2) (-b2, -b1) = true
          · exact .inr (up _ h2)
          · dsimp only at g
            simp [List.filter_cons, h1, h2] at g
    · have g := goes_turn (R := without B (c1, c2)) (c := (c1, c2)) (b := (b1, b2)) z yR
      rw [ok] at g
      rw [byPlace_turn xB eB (by dsimp only; omega) (by dsimp only; omega) ?_]
      · simp
      · unfold turnsB
        dsimp only at g ⊢
        have m1 : ((c1 + b1, c2) ∈ without B (c1, c2)) ↔ (c1 + b1, c2) ∈ B := by
          rw [mem_without]
          exact ⟨fun h => h.1, fun h => ⟨h, fun z => by have := Prod.mk.inj z; omega⟩⟩
        have m2 : ((c1, c2 + b2) ∈ without B (c1, c2)) ↔ (c1, c2 + b2) ∈ B := by
          rw [mem_without]
          exact ⟨fun h => h.1, fun h => ⟨h, fun z => by have := Prod.mk.inj z; omega⟩⟩
        have h3 : decide ((c1 + b1, c2) ∈ B) ≠ decide ((c1, c2 + b2) ∈ B) := fun z => by
          have : decide ((c1 + b1, c2) ∈ without B (c1, c2)) = decide ((c1, c2 + b2) ∈ without B (c1, c2)) := by
            rw [decide_eq_decide] at z ⊢
            rw [m1, m2]
            exact z
          rw [this] at g
          simp at g
        exact bne_iff_ne.mpr (Ne.symm h3)
  rw [decide_eq_false ne]
  rfl
theorem stepM_cong {L M : List Cell} (h : EqC L M) (m : CellP) : EqC (stepM L m) (stepM M m) := fun x => by
  unfold stepM
  rw [List.mem_append, List.mem_append, mem_without, mem_without, h x]
theorem goL_cong : ∀ (ms : List CellP) {L M : List Cell}, EqC L M → EqC (goL L ms) (goL M ms)
  | [], _, _, h => h
  | m :: ms, _, _, h => goL_cong ms (stepM_cong h m)
theorem goB_cong : ∀ (ms : List CellP) {L M : List Cell}, EqC L M → goB L ms = goB M ms
  | [], _, _, _ => rfl
  | m :: ms, _, _, h => by
    show (mayW _ m.1 m.2 && goB _ ms) = (mayW _ m.1 m.2 && goB _ ms)
    rw [may_cong h, goB_cong ms (stepM_cong h m)]
theorem walkP_go {L : List Cell} {s e : Cell} : ∀ {n : Nat} {x : Cell} {ms : List CellP} {B : List Cell}, WalkP (adjA L s) e n x ms → (∀ z, z ∈ B ↔ z ∈ without L s ∨ z = x) → x ∉ without L s → goB B ms = true ∧ ∀ z, z ∈ goL B ms ↔ z ∈ without L s ∨ z = e
  | 0, x, ms, B, ⟨h, k⟩, hB, hx => by
    subst k
    subst h
    exact ⟨rfl, hB⟩
  | n + 1, x, ms, B, ⟨y, ms', l, k, w⟩, hB, hx => by
    subst k
    obtain ⟨hb, ax, st⟩ := l.1.1
    have eW : ∀ z, z ∈ without B x ↔ z ∈ without L s := fun z => by
      rw [mem_without, hB]
      exact ⟨fun ⟨h, n⟩ => h.resolve_right n, fun h => ⟨.inl h, fun q => hx (by rw [← q]; exact h)⟩⟩
    have st' : y ∈ stepsN (without B x) x := by
      obtain ⟨b, hb, ok, e⟩ := step_iff.mp st
      refine step_iff.mpr ⟨b, hb, ?_, e⟩
      rw [← ok]
      have dc : ∀ z, decide (z ∈ without B x) = decide (z ∈ without L s) := fun z => decide_eq_decide.mpr (eW z)
      unfold stepOk turnsB sideB
      simp only [dc]
    have my := step_may ((hB x).mpr (.inr rfl)) (by rw [hangsB_cong eW]; exact hb) st'
    have yo := (step_out st).1
    obtain ⟨g1, g2⟩ := walkP_go (B := stepM B (x, y)) w (fun z => by
      unfold stepM
      rw [List.mem_append, List.mem_singleton, eW]) yo
    refine ⟨?_, g2⟩
    show (mayW B x y && goB (stepM B (x, y)) ms') = true
    rw [my, g1]
    rfl
/-- a walk is a plan of moves -/
theorem walk_go {L : List Cell} {s e : Cell} {ms : List CellP} (h : WalkIs L s e ms) (sL : s ∈ L) : goB L ms = true ∧ ∀ z, z ∈ goL L ms ↔ z ∈ without L s ∨ z = e := by
  obtain ⟨D, _, w⟩ := h
  refine walkP_go w (fun z => ?_) (self_out L s)
  rw [mem_without]
  constructor
  · intro h
    by_cases q : z = s
    · exact .inr q
    · exact .inl ⟨h, q⟩
  · rintro (h | h)
    · exact h.1
    · rw [h]
      exact sL
theorem Wks.go {L N : List Cell} {ps pl : List CellP} (h : Wks L ps pl N) : goB L pl = true ∧ EqC (goL L pl) N := by
  induction h with
  | nil => exact ⟨rfl, fun x => Iff.rfl⟩
  | @cons L M N s e ms pl ps h1 h2 h3 _ ih =>
    obtain ⟨g1, g2⟩ := walk_go h2 h1.1
    have eM : EqC (goL L ms) M := fun z => by
      rw [g2, h3.2.2.mem_iff, List.mem_append, List.mem_singleton]
    rw [goB_app, goL_app, g1, goB_cong pl eM, ih.1]
    exact ⟨rfl, fun x => (goL_cong pl eM x).trans (ih.2 x)⟩
theorem walkP_ends {A : Cell → Cell → Prop} {e : Cell} : ∀ {n : Nat} {x : Cell} {ms : List CellP}, WalkP A e n x ms → (∀ m, ms[0]? = some m → m.1 = x) ∧ (∀ i m m', ms[i]? = some m → ms[i + 1]? = some m' → m.2 = m'.1) ∧ ∀ m, ms.getLast? = some m → m.2 = e
  | 0, x, ms, ⟨h, k⟩ => by
    subst k
    exact ⟨fun m h => (nomatch h), fun i m m' h => (nomatch h), fun m h => (nomatch h)⟩
  | n + 1, x, ms, ⟨y, ms', l, k, w⟩ => by
    subst k
    obtain ⟨i1, i2, i3⟩ := walkP_ends w
    refine ⟨fun m h => by rw [← Option.some.inj h], fun i m m' h h' => ?_, fun m h => ?_⟩
    · cases i with
      | zero =>
        rw [← Option.some.inj h]
        exact (i1 m' h').symm
      | succ i => exact i2 i m m' h h'
    · cases ms' with
      | nil =>
        have : (x, y) = m := Option.some.inj h
        rw [← this]
        cases n with
        | zero => exact w.1
        | succ n =>
          obtain ⟨_, _, _, z, _⟩ := w
          cases z
      | cons m2 ms2 =>
        rw [List.getLast?_cons_cons] at h
        exact i3 m h
end Sq

set_option Elab.async false
set_option linter.all false
set_option maxRecDepth 100000
set_option maxHeartbeats 4000000
/-! The law: walks one behind the other. -/
namespace Sq
open PySem PySem.Spec PyProof.Rows L2
theorem pairsT_same {G G' : Hp} {t : Addr} {ms : List CellP} (h : PairsT G t ms) (k : Same G G') : PairsT G' t ms := by
  obtain ⟨rs, e, pr⟩ := h
  exact ⟨rs, k _ _ e, paired_imp (fun _ _ (h : PairAt G _ _) => h.same k) pr⟩
theorem walk_small {L : List Cell} {s e : Cell} {ms : List CellP} (h : WalkIs L s e ms) (nL : L.Nodup) (hang : Hangs L) (sL : s ∈ L) : ms.length ≤ L.length := by
  obtain ⟨D, d, w⟩ := h
  rw [w.len]
  exact dst_small nL hang sL d
theorem NextB.hangs {L M : List Cell} {s e : Cell} {ms : List CellP} (h : NextB L s e M) (w : WalkIs L s e ms) (nL : L.Nodup) (hang : Hangs L) (sL : s ∈ L) : Hangs M ∧ M.length = L.length := by
  obtain ⟨g1, g2⟩ := walk_go w sL
  obtain ⟨h1, h2, h3⟩ := go_ok nL hang g1
  have eM : ∀ x, x ∈ goL L ms ↔ x ∈ M := fun x => by rw [g2, h.2.2.mem_iff, List.mem_append, List.mem_singleton]
  exact ⟨(hangs_perm eM).mp h1, by rw [← h3]; exact ((List.perm_ext_iff_of_nodup h.2.1 h2).mpr fun x => (eM x).symm).length_eq⟩
theorem CanW.split {L N : List Cell} {s e : Cell} {ps : List CellP} (h : CanW L ((s, e) :: ps) N) : HasW L s e ∧ ∃ M, NextB L s e M ∧ CanW M ps N := by
  cases h with
  | cons a b c => exact ⟨a, _, b, c⟩
def spT4walks : Sp := fun vs H Q _ => ∃ (t l : Addr) (L N : List Cell) (Ps : List CellP), vs = [.ref t, .ref l] ∧ CellsT H t L ∧ L.Nodup ∧ L.length ≤ 1000 ∧ Hangs L ∧ PairsL H l Ps ∧ Ps.length ≤ 10000 ∧ CanW L Ps N ∧ ∀ r G pl, Same H G → PairsT G r pl → pl.length ≤ L.length * Ps.length → Wks L Ps pl N → Q (.ref r) G
section
variable {P : Program} {w : World} {K : PySem.W.Frag} {mg : Str → Option Value} {base : Heap}
theorem scT4ws : FnScope ["_law_cells", "_law_pairs", "_law_found", "_law_start", "_law_end"] ["_law_cells", "_law_pairs"] (defScope lT4walks) := ⟨rfl, rfl, rfl, by decide +kernel, rfl, by decide +kernel, by decide +kernel⟩
theorem ok_t4walks {f : Addr} {fd : FuncData} (F : FnP K "_law_t4walks" lT4walks f fd) (DW : Df P w K mg base CX0 3 "_law_t4walk" ["_law_cells", "_law_start", "_law_end"] spT4walk) (DM : Df P w K mg base CX0 1 "_law_w_moved" ["_law_cells", "_law_start", "_law_end"] spLDone) : FnOk P w K mg base CX0 4 f fd ["_law_cells", "_law_pairs"] spT4walks := by
  refine F.ok scT4ws (fun vs H Q E h => ?_) (fun cdv A outer s H vs Q E hr h => ?_)
  · obtain ⟨t, l, L, N, Ps, rfl, _⟩ := h
    rfl
  · obtain ⟨t, l, L, N, Ps, rfl, ct, nL, lL, hang, ⟨ps, el, pp⟩, lP, cw, k⟩ := h
    refine ⟨_, PSs.nox (pss_cons (ps_set (i := 2) scT4ws.nd rfl (.inl rfl) (pe_tup pa_nil))
      (pss_cons (ps_for PassesOwn.never rfl (pi_list (pv 1)) (pg_tup (by rfl) (pgs_cons (pg_name (i := 3) scT4ws.nd rfl (.inl rfl)) (pgs_cons (pg_name (i := 4) scT4ws.nd rfl (.inl rfl)) pgs_nil)))
      (pss_cons (ps_set (i := 2) scT4ws.nd rfl (.inl rfl) (pe_op op_catA (pv 2) (pe_df DW hr (by rfl) pass0 (pa_cons (pv 0) (pa_cons (pv 3) (pa_cons (pv 4) pa_nil))))))
        (pss_one (ps_set (i := 0) scT4ws.nd rfl (.inl rfl) (pe_df DM hr (by rfl) pass0 (pa_cons (pv 0) (pa_cons (pv 3) (pa_cons (pv 4) pa_nil))))))))
      (pss_one (ps_ret (pv 2))))), ?_⟩
    have lps : ps.length = Ps.length := Paired.length pp
    refine ⟨Nat.zero_le _, fun f0 hf0 => ?_⟩
    have s0 := same_new (o := HO.tup []) hf0
    have e0 := upd_same (H := H) (a := f0) (o := HO.tup [])
    generalize upd H f0 (.tup []) = G0 at s0 e0
    refine ⟨_, rfl, l, rfl, ⟨_, SqL.of (s0 _ _ el)⟩, ?_⟩
    refine for_list (K := K) (a := l) (xs := ps.map V.ref) (fun i σ G => ∃ (tc fo : Addr) (M : List Cell) (pl : List CellP) (v3 v4 : Option V), σ = [some (.ref tc), some (.ref l), some (.ref fo), v3, v4] ∧ Same H G ∧ CellsT G tc M ∧ M.Nodup ∧ Hangs M ∧ M.length = L.length ∧ PairsT G fo pl ∧ pl.length ≤ L.length * i ∧ Wks L (Ps.take i) pl M ∧ CanW M (Ps.drop i) N)
      ⟨t, f0, L, [], none, none, rfl, s0, ct.ek (.of s0), nL, hang, rfl, ⟨[], e0, .nil⟩, Nat.zero_le _, .nil, cw⟩ (fun i σ G _ ⟨_, _, _, _, _, _, _, sm, _⟩ => SqL.of (sm _ _ el)) ?_ ?_
    · rintro i x σ G hi ⟨tc, fo, M, pl, v3, v4, rfl, sm, cM, nM, hM, lM, ⟨fs, ef, pf⟩, lpl, wk, cn⟩
      rw [List.getElem?_map] at hi
      obtain ⟨r, hr', rfl⟩ := Option.map_eq_some_iff.mp hi
      obtain ⟨⟨s1, e1⟩, hp, q1, q2, er, a1, a2⟩ := paired_get pp hr'
      have iP : i < Ps.length := (List.getElem?_eq_some_iff.mp hp).1
      have ed : Ps.drop i = (s1, e1) :: Ps.drop (i + 1) := by
        rw [List.drop_eq_getElem_cons iP]
        congr 1
        exact (List.getElem?_eq_some_iff.mp hp).2
      rw [ed] at cn
      obtain ⟨hw, M', nb, cn'⟩ := cn.split
      have sL := hw.1
      refine ⟨r, _, rfl, SqT.of (sm _ _ er), rfl, _, _, rfl, _, _, rfl, rfl, ?_⟩
      refine ⟨_, rfl, _, rfl, _, rfl, _, rfl, tc, q1, q2, M, s1, e1, rfl, cM, nM, by omega, hM, sm _ _ a1, sm _ _ a2, hw, fun r2 G2 ms s2 ⟨gs, eg, pg⟩ wi => ?_⟩
      have lms := walk_small wi nM hM sL
      have lfs : fs.length = pl.length := Paired.length pf
      have lgs : gs.length = ms.length := Paired.length pg
      have ef2 := s2 _ _ ef
      have pf2 := paired_imp (fun _ _ (h : PairAt G _ _) => h.same s2) pf
      obtain ⟨hM', lM'⟩ := nb.hangs wi nM hM sL
      have tk := take_snoc hp
      have wn : Wks M [(s1, e1)] ms M' := by
        have := Wks.cons hw wi nb .nil
        rwa [List.append_nil] at this
      have lb : pl.length + ms.length ≤ 16777216 := by
        have h1 : L.length * i ≤ 1000 * 10000 := Nat.mul_le_mul lL (by omega)
        omega
      refine ⟨fo, r2, _, _, rfl, rfl, SqT.of ef2, SqT.of eg, by rw [List.length_map, List.length_map, lfs, lgs, sizeLine_eq]; omega, fun z => ?_, fun _ z => ?_, fun _ _ u hu1 => ?_⟩
      · have pl0 : pl = [] := List.length_eq_zero_iff.mp (by rw [← lfs, ← List.length_map (f := V.ref), z]; rfl)
        have s3 : Same G2 G2 := same_refl
        have pt : PairsT G2 r2 (pl ++ ms) := by
          rw [pl0]
          exact ⟨gs, eg, pg⟩
        refine ⟨_, rfl, _, rfl, _, rfl, tc, q1, q2, M, s1, e1, rfl, (cM.ek (.of s2)).ek (.of s3), by omega, ((sm.trans s2).trans s3) _ _ a1, ((sm.trans s2).trans s3) _ _ a2, fun r3 G4 cs s4 c4 pm asc => ?_⟩
        obtain rfl : cs = M' := NextB.uniq ⟨asc, (pm.trans nb.2.2.symm).nodup_iff.mpr nb.2.1, pm⟩ nb
        exact ⟨r3, _, cs, pl ++ ms, _, _, rfl, ((sm.trans s2).trans s3).trans s4, c4, nb.2.1, hM', by omega, pairsT_same pt s4, by rw [List.length_append, Nat.mul_succ]; omega, by rw [tk]; exact wk.app wn, cn'⟩
      · have ms0 : ms = [] := List.length_eq_zero_iff.mp (by rw [← lgs, ← List.length_map (f := V.ref), z]; rfl)
        have s3 : Same G2 G2 := same_refl
        have pt : PairsT G2 fo (pl ++ ms) := by
          rw [ms0, List.append_nil]
          exact ⟨fs, ef2, pf2⟩
        refine ⟨_, rfl, _, rfl, _, rfl, tc, q1, q2, M, s1, e1, rfl, (cM.ek (.of s2)).ek (.of s3), by omega, ((sm.trans s2).trans s3) _ _ a1, ((sm.trans s2).trans s3) _ _ a2, fun r3 G4 cs s4 c4 pm asc => ?_⟩
        obtain rfl : cs = M' := NextB.uniq ⟨asc, (pm.trans nb.2.2.symm).nodup_iff.mpr nb.2.1, pm⟩ nb
        exact ⟨r3, _, cs, pl ++ ms, _, _, rfl, ((sm.trans s2).trans s3).trans s4, c4, nb.2.1, hM', by omega, pairsT_same pt s4, by rw [List.length_append, Nat.mul_succ]; omega, by rw [tk]; exact wk.app wn, cn'⟩
      · have s3 := same_new (o := HO.tup (fs.map V.ref ++ gs.map V.ref)) hu1
        have pt : PairsT (upd G2 u (HO.tup (fs.map V.ref ++ gs.map V.ref))) u (pl ++ ms) := ⟨fs ++ gs, by rw [upd_same, List.map_append], paired_app (paired_imp (fun _ _ (h : PairAt G2 _ _) => h.same s3) pf2) (paired_imp (fun _ _ (h : PairAt G2 _ _) => h.same s3) pg)⟩
        refine ⟨_, rfl, _, rfl, _, rfl, tc, q1, q2, M, s1, e1, rfl, (cM.ek (.of s2)).ek (.of s3), by omega, ((sm.trans s2).trans s3) _ _ a1, ((sm.trans s2).trans s3) _ _ a2, fun r3 G4 cs s4 c4 pm asc => ?_⟩
        obtain rfl : cs = M' := NextB.uniq ⟨asc, (pm.trans nb.2.2.symm).nodup_iff.mpr nb.2.1, pm⟩ nb
        exact ⟨r3, _, cs, pl ++ ms, _, _, rfl, ((sm.trans s2).trans s3).trans s4, c4, nb.2.1, hM', by omega, pairsT_same pt s4, by rw [List.length_append, Nat.mul_succ]; omega, by rw [tk]; exact wk.app wn, cn'⟩
    · rintro σ G ⟨tc, fo, M, pl, v3, v4, rfl, sm, cM, nM, hM, lM, pt, lpl, wk, cn⟩
      rw [List.length_map, lps, List.take_length] at wk
      rw [List.length_map, lps, List.drop_length] at cn
      rw [List.length_map, lps] at lpl
      cases cn with
      | nil => exact ⟨_, rfl, k fo G pl sm pt lpl wk⟩
end
end Sq

set_option Elab.async false
set_option linter.all false
set_option maxRecDepth 100000
set_option maxHeartbeats 4000000
/-! The law: rows, columns; the walks that move them along. -/
namespace Sq
open PySem PySem.Spec PyProof.Rows L2
theorem row_is (c : Cell) (n : Nat) : ((List.range n).map fun k : Nat => ((c.1 + (0 + (k : Int)), c.2) : Cell)) = lineC c (1, 0) n := by
  unfold lineC
  refine List.map_congr_left fun k _ => ?_
  refine Prod.ext ?_ ?_ <;> simp
theorem col_is (c : Cell) (n : Nat) : ((List.range n).map fun k : Nat => ((c.1, c.2 + (0 + (k : Int))) : Cell)) = lineC c (0, 1) n := by
  unfold lineC
  refine List.map_congr_left fun k _ => ?_
  refine Prod.ext ?_ ?_ <;> simp
def spT4line (st : Cell) : Sp := fun vs H Q _ => ∃ (q : Addr) (n : Nat) (c : Cell), vs = [.ref q, .int (n : Int)] ∧ At H q c ∧ n ≤ 1000 ∧ ∀ r G, Same H G → CellsT G r (lineC c st n) → Q (.ref r) G
section
variable {P : Program} {w : World} {K : PySem.W.Frag} {mg : Str → Option Value} {base : Heap}
theorem scT4r : FnScope ["_law_first", "_law_n", "_law_k"] ["_law_first", "_law_n"] (defScope lT4row) := ⟨rfl, rfl, rfl, by decide +kernel, rfl, by decide +kernel, by decide +kernel⟩
theorem ok_t4row {f : Addr} {fd : FuncData} (F : FnP K "_law_t4row" lT4row f fd) (B : Bl mg) : FnOk P w K mg base CX0 1 f fd ["_law_first", "_law_n"] (spT4line (1, 0)) := by
  refine F.ok scT4r (fun vs H Q E h => ?_) (fun cdv A outer s H vs Q E hr h => ?_)
  · obtain ⟨q, n, c, rfl, _⟩ := h
    rfl
  · obtain ⟨q, n, c, rfl, aq, ln, k⟩ := h
    refine ⟨_, PSs.nox (pss_one (ps_ret (pe_tupleOf (by rfl) B.tuple (pe_lc (own := [("_law_k", 2)]) (g := gName 2) (tt := tYes) rfl scT4r.nd (pi_range1 (by rfl) B.range (pa_cons (pv 1) pa_nil)) (blkOk_by (N := ["_law_first", "_law_n", "_law_k"]) (sc := defScope lT4row) (by decide +kernel)) (fun _ _ _ _ _ => pg_name (i := 2) scT4r.nd rfl (Or.inl rfl)) (fun _ _ _ _ _ => pts_nil) (fun _ _ _ _ _ => (pe_tup (pa_cons (pe_op op_add (pe_ix (ix_tupK (K := K) rfl) (pv 0) pe_int (fun _ _ => rfl)) (pv 2)) (pa_cons (pe_ix (ix_tupK (K := K) rfl) (pv 0) pe_int (fun _ _ => rfl)) pa_nil)))))))), ?_⟩
    refine ⟨_, rfl, (n : Int), rfl, by omega, by omega, fun D hD => ?_⟩
    refine lc_cells (walk_range (lo := 0) (n := ((n : Nat) : Int).toNat)) hD (fun i => (List.range i).map fun k : Nat => ((c.1 + (0 + (k : Int)), c.2) : Cell)) rfl (by show n ≤ _; omega) (fun _ _ _ _ => trivial) ?_ ?_
    · rintro i x G G' K1 K0 hi sm ⟨rfl, rfl⟩ k1 k0
      have aq' := aq.same sm
      refine ⟨rfl, yesT ⟨_, rfl, _, _, _, _, rfl, rfl, SqT.of aq', at0, _, rfl, _, _, rfl, rfl, _, rfl, _, _, _, _, rfl, rfl, SqT.of aq', at1, two_le, fun u hu => ?_⟩⟩
      exact k1 u (c.1 + (0 + (i : Int)), c.2) _ (same_new hu) upd_same (by rw [List.range_succ, List.map_append]; rfl)
    rintro G rs sm gD pr
    refine .inl ⟨D, _, rfl, SqL.of gD, fun r hr' => ?_⟩
    have s2 := same_new (o := HO.tup (rs.map V.ref)) hr'
    refine k r _ (sm.trans s2) ⟨rs, upd_same, paired_imp (fun _ _ h => s2 _ _ h) ?_⟩
    rw [← row_is]
    exact pr
theorem scT4c : FnScope ["_law_first", "_law_n", "_law_k"] ["_law_first", "_law_n"] (defScope lT4column) := ⟨rfl, rfl, rfl, by decide +kernel, rfl, by decide +kernel, by decide +kernel⟩
theorem ok_t4col {f : Addr} {fd : FuncData} (F : FnP K "_law_t4column" lT4column f fd) (B : Bl mg) : FnOk P w K mg base CX0 1 f fd ["_law_first", "_law_n"] (spT4line (0, 1)) := by
  refine F.ok scT4c (fun vs H Q E h => ?_) (fun cdv A outer s H vs Q E hr h => ?_)
  · obtain ⟨q, n, c, rfl, _⟩ := h
    rfl
  · obtain ⟨q, n, c, rfl, aq, ln, k⟩ := h
    refine ⟨_, PSs.nox (pss_one (ps_ret (pe_tupleOf (by rfl) B.tuple (pe_lc (own := [("_law_k", 2)]) (g := gName 2) (tt := tYes) rfl scT4c.nd (pi_range1 (by rfl) B.range (pa_cons (pv 1) pa_nil)) (blkOk_by (N := ["_law_first", "_law_n", "_law_k"]) (sc := defScope lT4column) (by decide +kernel)) (fun _ _ _ _ _ => pg_name (i := 2) scT4c.nd rfl (Or.inl rfl)) (fun _ _ _ _ _ => pts_nil) (fun _ _ _ _ _ => (pe_tup (pa_cons (pe_ix (ix_tupK (K := K) rfl) (pv 0) pe_int (fun _ _ => rfl)) (pa_cons (pe_op op_add (pe_ix (ix_tupK (K := K) rfl) (pv 0) pe_int (fun _ _ => rfl)) (pv 2)) pa_nil)))))))), ?_⟩
    refine ⟨_, rfl, (n : Int), rfl, by omega, by omega, fun D hD => ?_⟩
    refine lc_cells (walk_range (lo := 0) (n := ((n : Nat) : Int).toNat)) hD (fun i => (List.range i).map fun k : Nat => ((c.1, c.2 + (0 + (k : Int))) : Cell)) rfl (by show n ≤ _; omega) (fun _ _ _ _ => trivial) ?_ ?_
    · rintro i x G G' K1 K0 hi sm ⟨rfl, rfl⟩ k1 k0
      have aq' := aq.same sm
      refine ⟨rfl, yesT ⟨_, rfl, _, _, _, _, rfl, rfl, SqT.of aq', at0, _, rfl, _, _, _, _, rfl, rfl, SqT.of aq', at1, _, rfl, _, _, rfl, rfl, two_le, fun u hu => ?_⟩⟩
      exact k1 u (c.1, c.2 + (0 + (i : Int))) _ (same_new hu) upd_same (by rw [List.range_succ, List.map_append]; rfl)
    rintro G rs sm gD pr
    refine .inl ⟨D, _, rfl, SqL.of gD, fun r hr' => ?_⟩
    have s2 := same_new (o := HO.tup (rs.map V.ref)) hr'
    refine k r _ (sm.trans s2) ⟨rs, upd_same, paired_imp (fun _ _ h => s2 _ _ h) ?_⟩
    rw [← col_is]
    exact pr
end
/-- the walks that move a line along itself -/
def atL (c st : Cell) (k : Int) : Cell := (c.1 + k * st.1, c.2 + k * st.2)
def alongP (c st : Cell) (n : Nat) (by_ : Int) (i : Nat) : CellP := if by_ > 0 then (atL c st i, atL c st ((n : Int) + i)) else (atL c st ((n : Int) - 1 - i), atL c st (-1 - (i : Int)))
theorem atL_at {c st : Cell} {k : Int} (i : Int) : atL (atL c st k) st i = atL c st (k + i) := by
  unfold atL
  refine Prod.ext ?_ ?_ <;> dsimp only <;> rw [Int.add_mul] <;> omega
theorem along_can {c st : Cell} (d : Up1 st) {m : Nat} (hm : 1 ≤ m) (by_ : Int) : CanW (lineC c st (m + 1)) ((List.range by_.natAbs).map (alongP c st (m + 1) by_)) (lineC (atL c st by_) st (m + 1)) := by
  by_cases h : by_ > 0
  · have := canW_range (n := by_.natAbs) (B := fun i => lineC (atL c st i) st (m + 1)) (f := alongP c st (m + 1) by_) (fun i hi => by
      have := line_on (c := atL c st i) d hm
      unfold alongP
      rw [if_pos h]
      have e1 : ((((atL c st (i : Int)).1 + ((m + 1 : Nat) : Int) * st.1, (atL c st (i : Int)).2 + ((m + 1 : Nat) : Int) * st.2) : Cell)) = atL c st (((m + 1 : Nat) : Int) + (i : Int)) := by
        rw [show ((m + 1 : Nat) : Int) + (i : Int) = (i : Int) + ((m + 1 : Nat) : Int) from Int.add_comm _ _, ← atL_at]
        rfl
      have e2 : ((((atL c st (i : Int)).1 + st.1, (atL c st (i : Int)).2 + st.2) : Cell)) = atL c st ((i + 1 : Nat) : Int) := by
        rw [show ((i + 1 : Nat) : Int) = (i : Int) + 1 from rfl, ← atL_at]
        unfold atL
        refine Prod.ext ?_ ?_ <;> dsimp only <;> rw [Int.one_mul]
      rw [e1, e2] at this
      exact this)
    have e0 : atL c st ((0 : Nat) : Int) = c := by
      unfold atL
      refine Prod.ext ?_ ?_ <;> simp
    rw [show ((by_.natAbs : Nat) : Int) = by_ by omega, e0] at this
    exact this
  · have := canW_range (n := by_.natAbs) (B := fun i => lineC (atL c st (-(i : Int))) st (m + 1)) (f := alongP c st (m + 1) by_) (fun i hi => by
      have := line_back (c := atL c st (-(i : Int))) d hm
      unfold alongP
      rw [if_neg h]
      have e1 : ((((atL c st (-(i : Int))).1 + (m : Int) * st.1, (atL c st (-(i : Int))).2 + (m : Int) * st.2) : Cell)) = atL c st (((m + 1 : Nat) : Int) - 1 - (i : Int)) := by
        rw [show ((m + 1 : Nat) : Int) - 1 - (i : Int) = -(i : Int) + (m : Int) by omega, ← atL_at]
        rfl
      have e2 : ((((atL c st (-(i : Int))).1 - st.1, (atL c st (-(i : Int))).2 - st.2) : Cell)) = atL c st (-((i + 1 : Nat) : Int)) := by
        rw [show -((i + 1 : Nat) : Int) = -(i : Int) + (-1) by omega, ← atL_at]
        unfold atL
        refine Prod.ext ?_ ?_ <;> dsimp only <;> omega
      have e3 : atL c st (-((i + 1 : Nat) : Int)) = atL c st (-1 - (i : Int)) := congrArg (atL c st) (by omega)
      rw [e1, e2] at this
      dsimp only
      rw [← e3]
      exact this)
    have e0 : atL c st (-((0 : Nat) : Int)) = c := by
      unfold atL
      refine Prod.ext ?_ ?_ <;> simp
    rw [show -((by_.natAbs : Nat) : Int) = by_ by omega, e0] at this
    exact this
end Sq

set_option Elab.async false
set_option linter.all false
set_option maxRecDepth 100000
set_option maxHeartbeats 8000000
/-! The law: the walks that move a line along itself, as a list. -/
namespace Sq
open PySem PySem.Spec PyProof.Rows L2
abbrev t4aN : List Str := ["_law_cells", "_law_by", "_law_one", "_law_step", "_law_n", "_law_found", "_law_k", "_law_low", "_law_high", "_law_start"]
def spT4along : Sp := fun vs H Q _ => ∃ (t : Addr) (by_ : Int) (c st : Cell) (n : Nat), vs = [.ref t, .int by_] ∧ CellsT H t (lineC c st n) ∧ Up1 st ∧ 2 ≤ n ∧ n ≤ 1000 ∧ by_.natAbs ≤ 1000 ∧ ∀ l G, Same H G → H l = none → PairsL G l ((List.range by_.natAbs).map (alongP c st n by_)) → Q (.ref l) G
section
variable {P : Program} {w : World} {K : PySem.W.Frag} {mg : Str → Option Value} {base : Heap}
theorem scT4al : FnScope t4aN ["_law_cells", "_law_by"] (defScope lT4along) := ⟨rfl, rfl, rfl, by decide +kernel, rfl, by decide +kernel, by decide +kernel⟩
theorem ok_t4along {f : Addr} {fd : FuncData} (F : FnP K "_law_t4along" lT4along f fd) (B : Bl mg) : FnOk P w K mg base CX0 1 f fd ["_law_cells", "_law_by"] spT4along := by
  refine F.ok scT4al (fun vs H Q E h => ?_) (fun cdv A outer s H vs Q E hr h => ?_)
  · obtain ⟨t, by_, c, st, n, rfl, _⟩ := h
    rfl
  · obtain ⟨t, by_, c, st, n, rfl, ct, d, n2, ln, lb, k⟩ := h
    refine ⟨_, PSs.nox (pss_cons (ps_par (i := 2) (j := 3) (by rfl) scT4al.nd rfl rfl (by decide) rfl rfl (pa_cons (pe_ix (ix_tupK (K := K) rfl) (pv 0) pe_int (fun _ _ => rfl)) (pa_cons (pe_tup (pa_cons (pe_op op_sub (pe_ix (ix_tupK (K := K) rfl) (pe_ix (ix_tupK (K := K) rfl) (pv 0) pe_int (fun _ _ => rfl)) pe_int (fun _ _ => rfl)) (pe_ix (ix_tupK (K := K) rfl) (pe_ix (ix_tupK (K := K) rfl) (pv 0) pe_int (fun _ _ => rfl)) pe_int (fun _ _ => rfl))) (pa_cons (pe_op op_sub (pe_ix (ix_tupK (K := K) rfl) (pe_ix (ix_tupK (K := K) rfl) (pv 0) pe_int (fun _ _ => rfl)) pe_int (fun _ _ => rfl)) (pe_ix (ix_tupK (K := K) rfl) (pe_ix (ix_tupK (K := K) rfl) (pv 0) pe_int (fun _ _ => rfl)) pe_int (fun _ _ => rfl))) pa_nil))) pa_nil)) (by rfl))
      (pss_cons (ps_par (i := 4) (j := 5) (by rfl) scT4al.nd rfl rfl (by decide) rfl rfl (pa_cons (pe_callB call_len_seq (by rfl) B.len PySem.boot_len (pa_cons (pv 0) pa_nil)) (pa_cons (pe_lst pa_nil) pa_nil)) (by rfl))
      (pss_cons (ps_for PassesOwn.never rfl (pi_range1 (by rfl) B.range (pa_cons (pe_callB call_abs (by rfl) B.abs (by decide +kernel) (pa_cons (pv 1) pa_nil)) pa_nil)) (pg_name (i := 6) scT4al.nd rfl (.inl rfl))
      (pss_cons (ps_asg (pe_ifExp (pt_cmpR op_gt (pv 1) pe_int (nomark _)) (pe_tup (pa_cons (pv 6) (pa_cons (pe_op op_add (pv 4) (pv 6)) pa_nil))) (pe_tup (pa_cons (pe_op op_sub (pe_op op_sub (pv 4) pe_int) (pv 6)) (pa_cons (pe_op op_sub (pe_un un_neg pe_int) (pv 6)) pa_nil)))) (pg_tup (by rfl) (pgs_cons (pg_name (i := 7) scT4al.nd rfl (.inl rfl)) (pgs_cons (pg_name (i := 8) scT4al.nd rfl (.inl rfl)) pgs_nil))))
        (pss_cons (ps_set (i := 9) scT4al.nd rfl (.inl rfl) (pe_tup (pa_cons (pe_op op_add (pe_ix (ix_tupK (K := K) rfl) (pv 2) pe_int (fun _ _ => rfl)) (pe_op op_mul (pv 7) (pe_ix (ix_tupK (K := K) rfl) (pv 3) pe_int (fun _ _ => rfl)))) (pa_cons (pe_op op_add (pe_ix (ix_tupK (K := K) rfl) (pv 2) pe_int (fun _ _ => rfl)) (pe_op op_mul (pv 7) (pe_ix (ix_tupK (K := K) rfl) (pv 3) pe_int (fun _ _ => rfl)))) pa_nil))))
        (pss_one (ps_expr (pe_bm PySem.F.plainAttrs_list PySem.F.slot_list_append PySem.F.type_list_append mt_append (pv 5) (pa_cons (pe_tup (pa_cons (pv 9) (pa_cons (pe_tup (pa_cons (pe_op op_add (pe_ix (ix_tupK (K := K) rfl) (pv 2) pe_int (fun _ _ => rfl)) (pe_op op_mul (pv 8) (pe_ix (ix_tupK (K := K) rfl) (pv 3) pe_int (fun _ _ => rfl)))) (pa_cons (pe_op op_add (pe_ix (ix_tupK (K := K) rfl) (pv 2) pe_int (fun _ _ => rfl)) (pe_op op_mul (pv 8) (pe_ix (ix_tupK (K := K) rfl) (pv 3) pe_int (fun _ _ => rfl)))) pa_nil))) pa_nil))) pa_nil)))))))
      (pss_one (ps_ret (pv 5)))))), ?_⟩
    obtain ⟨qs, et, pq⟩ := id ct
    have lqs : qs.length = n := by
      rw [Paired.length pq]
      unfold lineC
      rw [List.length_map, List.length_range]
    obtain ⟨q0, hq0⟩ : ∃ q, qs[0]? = some q := ⟨_, List.getElem?_eq_getElem (by omega)⟩
    obtain ⟨q1, hq1⟩ : ∃ q, qs[1]? = some q := ⟨_, List.getElem?_eq_getElem (by omega)⟩
    have gl : ∀ j, j < n → (lineC c st n)[j]? = some (atL c st (j : Int)) := fun j hj => by
      unfold lineC
      rw [List.getElem?_map, List.getElem?_range hj]
      rfl
    obtain ⟨c0, hc0, a0⟩ := paired_get pq hq0
    obtain ⟨c1, hc1, a1⟩ := paired_get pq hq1
    obtain rfl : c0 = c := by
      rw [gl 0 (by omega)] at hc0
      rw [← Option.some.inj hc0]
      unfold atL
      refine Prod.ext ?_ ?_ <;> simp
    obtain rfl : c1 = atL c0 st ((1 : Nat) : Int) := by
      rw [gl 1 (by omega)] at hc1
      exact (Option.some.inj hc1).symm
    have x0 : atI (qs.map V.ref) 0 = some (.ref q0) := atI_nat (j := 0) (by rw [List.getElem?_map, hq0]; rfl)
    have x1 : atI (qs.map V.ref) 1 = some (.ref q1) := atI_nat (j := 1) (by rw [List.getElem?_map, hq1]; rfl)
    refine ⟨_, rfl, t, _, _, .ref q0, rfl, rfl, SqT.of et, x0, ?_⟩
    refine ⟨_, rfl, t, _, _, .ref q1, rfl, rfl, SqT.of et, x1, q1, _, _, _, rfl, rfl, SqT.of a1, at0, _, rfl, t, _, _, .ref q0, rfl, rfl, SqT.of et, x0, q0, _, _, _, rfl, rfl, SqT.of a0, at0, _, _, rfl, rfl, ?_⟩
    refine ⟨_, rfl, t, _, _, .ref q1, rfl, rfl, SqT.of et, x1, q1, _, _, _, rfl, rfl, SqT.of a1, at1, _, rfl, t, _, _, .ref q0, rfl, rfl, SqT.of et, x0, q0, _, _, _, rfl, rfl, SqT.of a0, at1, _, _, rfl, rfl, two_le, fun sp hsp => ⟨_, _, rfl, ?_⟩⟩
    have e1 : (atL c0 st ((1 : Nat) : Int)).1 - c0.1 = st.1 := by
      unfold atL
      dsimp only
      rw [show ((1 : Nat) : Int) = 1 from rfl, Int.one_mul]
      omega
    have e2 : (atL c0 st ((1 : Nat) : Int)).2 - c0.2 = st.2 := by
      unfold atL
      dsimp only
      rw [show ((1 : Nat) : Int) = 1 from rfl, Int.one_mul]
      omega
    have s1 := same_new (o := HO.tup [.int ((atL c0 st ((1 : Nat) : Int)).1 - c0.1), .int ((atL c0 st ((1 : Nat) : Int)).2 - c0.2)]) hsp
    have ast : At (upd H sp (HO.tup [.int ((atL c0 st ((1 : Nat) : Int)).1 - c0.1), .int ((atL c0 st ((1 : Nat) : Int)).2 - c0.2)])) sp st := by
      show upd _ _ _ _ = some (.tup [.int st.1, .int st.2])
      rw [upd_same, e1, e2]
    generalize upd H sp (HO.tup [.int ((atL c0 st ((1 : Nat) : Int)).1 - c0.1), .int ((atL c0 st ((1 : Nat) : Int)).2 - c0.2)]) = G1 at s1 ast
    have et1 := s1 _ _ et
    refine ⟨_, rfl, t, _, rfl, .inr (SqT.of et1), Nat.zero_le _, fun fo hfo => ⟨_, _, rfl, ?_⟩⟩
    have s2 := same_new (o := HO.lst []) hfo
    have efo := upd_same (H := G1) (a := fo) (o := HO.lst [])
    have ast2 := ast.same s2
    have s12 := s1.trans s2
    have hfoH : H fo = none := s1.free hfo
    generalize upd G1 fo (HO.lst []) = G2 at s2 efo ast2 s12
    have aone := a0.same s12
    rw [List.length_map, lqs]
    refine ⟨_, rfl, by_, rfl, ⟨_, rfl, by split <;> omega, by split <;> omega, ?_⟩⟩
    refine for_range (lo := 0) (n := (if by_ < 0 then -by_ else by_).toNat) (fun i σ G => ∃ (v6 v7 v8 v9 : Option V) (rs : List Addr), σ = [some (.ref t), some (.int by_), some (.ref q0), some (.ref sp), some (.int (n : Int)), some (.ref fo), v6, v7, v8, v9] ∧ Same H G ∧ Tk G2 G ∧ G fo = some (.lst (rs.map V.ref)) ∧ Paired (fun r m => PairAt G r m) rs ((List.range i).map (alongP c0 st n by_)))
      ⟨none, none, none, none, [], rfl, s12, fun _ _ e => e, efo, .nil⟩ ?_ ?_
    · rintro i σ G hi ⟨v6, v7, v8, v9, rs, rfl, sm, tk, ef, pr⟩
      have hi : i < by_.natAbs := by
        have e : (if by_ < 0 then -by_ else by_).toNat = by_.natAbs := by split <;> omega
        rw [e] at hi
        exact hi
      rw [Int.zero_add]
      have lrs : rs.length = i := by rw [Paired.length pr, List.length_map, List.length_range]
      have aone' := aone.tk tk
      have ast' := ast2.tk tk
      refine ⟨_, rfl, _, _, rfl, rfl, _, rfl, ?_⟩
      refine ite2 (fun h1 => ?_) (fun h1 => ?_)
      · have hp : by_ > 0 := of_decide_eq_true h1
        refine ⟨_, rfl, _, rfl, _, rfl, _, _, rfl, rfl, two_le, fun u hu1 => ⟨u, _, rfl, SqT.of upd_same, rfl, _, _, rfl, _, _, rfl, rfl, ?_⟩⟩
        have s3 := same_new (o := HO.tup [.int (i : Int), .int ((n : Int) + (i : Int))]) hu1
        generalize upd G u (HO.tup [.int (i : Int), .int ((n : Int) + (i : Int))]) = G3 at s3
        have ao := aone'.same s3
        have as' := ast'.same s3
        have ef3 := s3 _ _ ef
        refine ⟨_, rfl, q0, _, _, _, rfl, rfl, SqT.of ao, at0, _, rfl, _, rfl, sp, _, _, _, rfl, rfl, SqT.of as', at0, _, _, rfl, rfl, .inl ⟨by omega, by omega⟩, _, _, rfl, rfl, ?_⟩
        refine ⟨_, rfl, q0, _, _, _, rfl, rfl, SqT.of ao, at1, _, rfl, _, rfl, sp, _, _, _, rfl, rfl, SqT.of as', at1, _, _, rfl, rfl, .inl ⟨by omega, by omega⟩, _, _, rfl, rfl, two_le, fun y1 hy1 => ?_⟩
        have z1 := same_new (o := HO.tup [.int (c0.1 + ((i : Int)) * st.1), .int (c0.2 + ((i : Int)) * st.2)]) hy1
        have b1 : At (upd G3 y1 (HO.tup [.int (c0.1 + ((i : Int)) * st.1), .int (c0.2 + ((i : Int)) * st.2)])) y1 (atL c0 st ((i : Int))) := upd_same
        generalize upd G3 y1 (HO.tup [.int (c0.1 + ((i : Int)) * st.1), .int (c0.2 + ((i : Int)) * st.2)]) = Y1 at z1 b1
        have ao1 := ao.same z1
        have as1 := as'.same z1
        refine ⟨_, rfl, .inl ⟨rfl, _, SqL.of (z1 _ _ ef3)⟩, _, rfl, ?_⟩
        refine ⟨_, rfl, q0, _, _, _, rfl, rfl, SqT.of ao1, at0, _, rfl, _, rfl, sp, _, _, _, rfl, rfl, SqT.of as1, at0, _, _, rfl, rfl, .inl ⟨by omega, by omega⟩, _, _, rfl, rfl, ?_⟩
        refine ⟨_, rfl, q0, _, _, _, rfl, rfl, SqT.of ao1, at1, _, rfl, _, rfl, sp, _, _, _, rfl, rfl, SqT.of as1, at1, _, _, rfl, rfl, .inl ⟨by omega, by omega⟩, _, _, rfl, rfl, two_le, fun y2 hy2 => ?_⟩
        have z2 := same_new (o := HO.tup [.int (c0.1 + ((n : Int) + (i : Int)) * st.1), .int (c0.2 + ((n : Int) + (i : Int)) * st.2)]) hy2
        have b2 : At (upd Y1 y2 (HO.tup [.int (c0.1 + ((n : Int) + (i : Int)) * st.1), .int (c0.2 + ((n : Int) + (i : Int)) * st.2)])) y2 (atL c0 st ((n : Int) + (i : Int))) := upd_same
        generalize upd Y1 y2 (HO.tup [.int (c0.1 + ((n : Int) + (i : Int)) * st.1), .int (c0.2 + ((n : Int) + (i : Int)) * st.2)]) = Y2 at z2 b2
        refine ⟨two_le, fun y3 hy3 => ?_⟩
        have z3 := same_new (o := HO.tup [.ref y1, .ref y2]) hy3
        have e3 := upd_same (H := Y2) (a := y3) (o := HO.tup [.ref y1, .ref y2])
        have b13 := (b1.same z2).same z3
        have b23 := b2.same z3
        generalize upd Y2 y3 (HO.tup [.ref y1, .ref y2]) = Y3 at z3 e3 b13 b23
        have z13 := (z1.trans z2).trans z3
        have sA := (sm.trans s3).trans z13
        have ef4 := z13 _ _ ef3
        refine ⟨fo, _, _, rfl, rfl, ef4, by rw [List.length_map, lrs, sizeLine_eq]; omega, ?_⟩
        have tk4 : Tk Y3 (upd Y3 fo (.lst (rs.map V.ref ++ [V.ref y3]))) := tk_upd ef4 fun _ z => nomatch z
        refine ⟨_, _, _, _, rs ++ [y3], rfl, same_put sA hfoH, fun b xs h => tk4 _ _ (z13 _ _ (s3 _ _ (tk _ _ h))), by rw [upd_same, List.map_append]; rfl, ?_⟩
        rw [List.range_succ, List.map_append]
        refine (paired_imp (fun _ _ (h : PairAt G _ _) => ((h.same s3).same z13).keep tk4) pr).snoc ?_
        unfold alongP
        rw [if_pos hp]
        exact ⟨y1, y2, tk4 _ _ e3, tk4 _ _ b13, tk4 _ _ b23⟩
      · have hp : ¬ by_ > 0 := fun z => h1 (decide_eq_true z)
        refine ⟨_, rfl, _, _, rfl, rfl, _, rfl, _, _, rfl, rfl, _, rfl, _, rfl, _, _, rfl, rfl, two_le, fun u hu1 => ⟨u, _, rfl, SqT.of upd_same, rfl, _, _, rfl, _, _, rfl, rfl, ?_⟩⟩
        have s3 := same_new (o := HO.tup [.int ((n : Int) - 1 - (i : Int)), .int (-1 - (i : Int))]) hu1
        generalize upd G u (HO.tup [.int ((n : Int) - 1 - (i : Int)), .int (-1 - (i : Int))]) = G3 at s3
        have ao := aone'.same s3
        have as' := ast'.same s3
        have ef3 := s3 _ _ ef
        refine ⟨_, rfl, q0, _, _, _, rfl, rfl, SqT.of ao, at0, _, rfl, _, rfl, sp, _, _, _, rfl, rfl, SqT.of as', at0, _, _, rfl, rfl, .inl ⟨by omega, by omega⟩, _, _, rfl, rfl, ?_⟩
        refine ⟨_, rfl, q0, _, _, _, rfl, rfl, SqT.of ao, at1, _, rfl, _, rfl, sp, _, _, _, rfl, rfl, SqT.of as', at1, _, _, rfl, rfl, .inl ⟨by omega, by omega⟩, _, _, rfl, rfl, two_le, fun y1 hy1 => ?_⟩
        have z1 := same_new (o := HO.tup [.int (c0.1 + ((n : Int) - 1 - (i : Int)) * st.1), .int (c0.2 + ((n : Int) - 1 - (i : Int)) * st.2)]) hy1
        have b1 : At (upd G3 y1 (HO.tup [.int (c0.1 + ((n : Int) - 1 - (i : Int)) * st.1), .int (c0.2 + ((n : Int) - 1 - (i : Int)) * st.2)])) y1 (atL c0 st ((n : Int) - 1 - (i : Int))) := upd_same
        generalize upd G3 y1 (HO.tup [.int (c0.1 + ((n : Int) - 1 - (i : Int)) * st.1), .int (c0.2 + ((n : Int) - 1 - (i : Int)) * st.2)]) = Y1 at z1 b1
        have ao1 := ao.same z1
        have as1 := as'.same z1
        refine ⟨_, rfl, .inl ⟨rfl, _, SqL.of (z1 _ _ ef3)⟩, _, rfl, ?_⟩
        refine ⟨_, rfl, q0, _, _, _, rfl, rfl, SqT.of ao1, at0, _, rfl, _, rfl, sp, _, _, _, rfl, rfl, SqT.of as1, at0, _, _, rfl, rfl, .inl ⟨by omega, by omega⟩, _, _, rfl, rfl, ?_⟩
        refine ⟨_, rfl, q0, _, _, _, rfl, rfl, SqT.of ao1, at1, _, rfl, _, rfl, sp, _, _, _, rfl, rfl, SqT.of as1, at1, _, _, rfl, rfl, .inl ⟨by omega, by omega⟩, _, _, rfl, rfl, two_le, fun y2 hy2 => ?_⟩
        have z2 := same_new (o := HO.tup [.int (c0.1 + (-1 - (i : Int)) * st.1), .int (c0.2 + (-1 - (i : Int)) * st.2)]) hy2
        have b2 : At (upd Y1 y2 (HO.tup [.int (c0.1 + (-1 - (i : Int)) * st.1), .int (c0.2 + (-1 - (i : Int)) * st.2)])) y2 (atL c0 st (-1 - (i : Int))) := upd_same
        generalize upd Y1 y2 (HO.tup [.int (c0.1 + (-1 - (i : Int)) * st.1), .int (c0.2 + (-1 - (i : Int)) * st.2)]) = Y2 at z2 b2
        refine ⟨two_le, fun y3 hy3 => ?_⟩
        have z3 := same_new (o := HO.tup [.ref y1, .ref y2]) hy3
        have e3 := upd_same (H := Y2) (a := y3) (o := HO.tup [.ref y1, .ref y2])
        have b13 := (b1.same z2).same z3
        have b23 := b2.same z3
        generalize upd Y2 y3 (HO.tup [.ref y1, .ref y2]) = Y3 at z3 e3 b13 b23
        have z13 := (z1.trans z2).trans z3
        have sA := (sm.trans s3).trans z13
        have ef4 := z13 _ _ ef3
        refine ⟨fo, _, _, rfl, rfl, ef4, by rw [List.length_map, lrs, sizeLine_eq]; omega, ?_⟩
        have tk4 : Tk Y3 (upd Y3 fo (.lst (rs.map V.ref ++ [V.ref y3]))) := tk_upd ef4 fun _ z => nomatch z
        refine ⟨_, _, _, _, rs ++ [y3], rfl, same_put sA hfoH, fun b xs h => tk4 _ _ (z13 _ _ (s3 _ _ (tk _ _ h))), by rw [upd_same, List.map_append]; rfl, ?_⟩
        rw [List.range_succ, List.map_append]
        refine (paired_imp (fun _ _ (h : PairAt G _ _) => ((h.same s3).same z13).keep tk4) pr).snoc ?_
        unfold alongP
        rw [if_neg hp]
        exact ⟨y1, y2, tk4 _ _ e3, tk4 _ _ b13, tk4 _ _ b23⟩
    · rintro σ G ⟨v6, v7, v8, v9, rs, rfl, sm, tk, ef, pr⟩
      have e : (if by_ < 0 then -by_ else by_).toNat = by_.natAbs := by split <;> omega
      rw [e] at pr
      exact ⟨_, rfl, k fo G sm hfoH ⟨rs, ef, pr⟩⟩
end
end Sq

set_option Elab.async false
set_option linter.all false
set_option maxRecDepth 100000
set_option maxHeartbeats 4000000
/-! The law: stretches; no square goes alone for long. -/
namespace Sq
open PySem PySem.Spec PyProof.Rows L2
/-- a stretch ends ahead of the move with this number -/
def Brk (pl : List CellP) (a : Nat) : Prop := a = pl.length ∨ ∃ p q, pl[a - 1]? = some p ∧ pl[a]? = some q ∧ q.1 ≠ p.2
/-- no stretch is longer than n -/
def RunOk (n : Nat) (pl : List CellP) : Prop := ∀ lo, lo < pl.length → ∃ a, lo < a ∧ a ≤ lo + n ∧ Brk pl a
theorem runOk_nil {n : Nat} : RunOk n [] := fun lo h => absurd h (Nat.not_lt_zero _)
theorem runOk_app {n : Nat} {ms pl : List CellP} (l : ms.length ≤ n) (h : RunOk n pl) (b : ∀ p q, ms.getLast? = some p → pl[0]? = some q → q.1 ≠ p.2) : RunOk n (ms ++ pl) := by
  intro lo hlo
  rw [List.length_append] at hlo
  by_cases z : lo < ms.length
  · refine ⟨ms.length, z, by omega, ?_⟩
    cases pl with
    | nil =>
      refine .inl ?_
      rw [List.append_nil]
    | cons q pl =>
      refine .inr ⟨ms[ms.length - 1], q, ?_, ?_, b _ q ?_ rfl⟩
      · rw [List.getElem?_append_left (by omega)]
        exact List.getElem?_eq_getElem (by omega)
      · rw [List.getElem?_append_right (Nat.le_refl _), Nat.sub_self]
        rfl
      · rw [List.getLast?_eq_getElem?]
        exact List.getElem?_eq_getElem (by omega)
  · obtain ⟨a, h1, h2, h3⟩ := h (lo - ms.length) (by omega)
    refine ⟨a + ms.length, by omega, by omega, ?_⟩
    rcases h3 with h3 | ⟨p, q, e1, e2, ne⟩
    · refine .inl ?_
      rw [List.length_append]
      omega
    · refine .inr ⟨p, q, ?_, ?_, ne⟩
      · rw [List.getElem?_append_right (by omega), show a + ms.length - 1 - ms.length = a - 1 by omega]
        exact e1
      · rw [List.getElem?_append_right (by omega), show a + ms.length - ms.length = a by omega]
        exact e2
section
variable {P : Program} {w : World} {K : PySem.W.Frag} {mg : Str → Option Value} {base : Heap}
theorem scT4st : FnScope ["_law_plan", "_law_found", "_law_low", "_law_at"] ["_law_plan"] (defScope lT4stretches) := ⟨rfl, rfl, rfl, by decide +kernel, rfl, by decide +kernel, by decide +kernel⟩
end
end Sq

set_option Elab.async false
set_option linter.all false
set_option maxRecDepth 100000
set_option maxHeartbeats 1000000
/-! The stretches of walks one behind the other; lines along themselves as moved walks. -/
namespace Sq
open PySem PySem.Spec PyProof.Rows L2
theorem walk_ends {L : List Cell} {s e : Cell} {ms : List CellP} (h : WalkIs L s e ms) : (∀ m, ms[0]? = some m → m.1 = s) ∧ (∀ m, ms.getLast? = some m → m.2 = e) ∧ (s ≠ e → ms ≠ []) := by
  obtain ⟨D, _, w⟩ := h
  obtain ⟨h1, _, h3⟩ := walkP_ends w
  refine ⟨h1, h3, fun ne z => ?_⟩
  cases D with
  | zero => exact ne w.1
  | succ n =>
    obtain ⟨_, _, _, k, _⟩ := w
    rw [z] at k
    cases k
/-- walks of different squares: no stretch is longer than the body -/
theorem Wks.run {L N : List Cell} {ps pl : List CellP} {n : Nat} (h : Wks L ps pl N) (hl : L.length = n) (nL : L.Nodup) (hang : Hangs L) (ne : ∀ m ∈ ps, m.1 ≠ m.2) (ch : ∀ (i : Nat) (a b : CellP), ps[i]? = some a → ps[i + 1]? = some b → b.1 ≠ a.2) :
    RunOk n pl ∧ ∀ q, pl[0]? = some q → ∃ m, ps[0]? = some m ∧ q.1 = m.1 := by
  induction h with
  | nil => exact ⟨runOk_nil, fun q h => (nomatch h)⟩
  | @cons L M N s e ms pl ps h1 h2 h3 _ ih =>
    obtain ⟨hM, lM⟩ := h3.hangs h2 nL hang h1.1
    obtain ⟨r1, r2⟩ := ih (by omega) h3.2.1 hM (fun m hm => ne m (List.mem_cons_of_mem _ hm)) (fun i a b ha hb => ch (i + 1) a b ha hb)
    obtain ⟨e1, e2, e3⟩ := walk_ends h2
    have nm := e3 (ne (s, e) (List.mem_cons_self ..))
    refine ⟨runOk_app (by have := walk_small h2 nL hang h1.1; omega) r1 fun p q hp hq => ?_, fun q hq => ⟨(s, e), rfl, ?_⟩⟩
    · obtain ⟨m, hm, em⟩ := r2 q hq
      rw [e2 p hp, em]
      exact ch 0 (s, e) m rfl hm
    · obtain ⟨m, ms', rfl⟩ := List.exists_cons_of_ne_nil nm
      rw [← Option.some.inj hq]
      exact e1 m rfl
/-- each walk of a line along itself is the first one, moved -/
theorem line_mv (c st : Cell) (n : Nat) (k : Int) : lineC (atL c st k) st n = (lineC c st n).map (mvC (k * st.1, k * st.2)) := by
  unfold lineC atL mvC
  rw [List.map_map]
  refine List.map_congr_left fun j _ => ?_
  refine Prod.ext ?_ ?_ <;> dsimp only [Function.comp] <;> omega
theorem atL_mv (c st : Cell) (k j : Int) : atL c st (j + k) = mvC (k * st.1, k * st.2) (atL c st j) := by
  unfold atL mvC
  refine Prod.ext ?_ ?_ <;> dsimp only <;> rw [Int.add_mul] <;> omega
/-- the plan of a line that moves along itself: the first walk, moved again and again -/
def alongW (ms : List CellP) (st : Cell) (sg : Int) (n : Nat) : List CellP := (List.range n).flatMap fun k : Nat => ms.map (mvP (sg * (k : Int) * st.1, sg * (k : Int) * st.2))
theorem wks_range {n : Nat} {B : Nat → List Cell} {f : Nat → CellP} {g : Nat → List CellP} (h : ∀ i, i < n → HasW (B i) (f i).1 (f i).2 ∧ WalkIs (B i) (f i).1 (f i).2 (g i) ∧ NextB (B i) (f i).1 (f i).2 (B (i + 1))) : Wks (B 0) ((List.range n).map f) ((List.range n).flatMap g) (B n) := by
  induction n with
  | zero => exact .nil
  | succ n ih =>
    rw [List.range_succ, List.map_append, List.flatMap_append]
    obtain ⟨a, b, c⟩ := h n (by omega)
    refine (ih fun i hi => h i (by omega)).app ?_
    have := Wks.cons a b c .nil
    rw [List.append_nil] at this
    rw [show [n].flatMap g = g n from by simp]
    exact this
theorem along_wks {c st : Cell} (d : Up1 st) {m : Nat} (hm : 1 ≤ m) (by_ : Int) {ms : List CellP} (sg : Int) (hs : sg = if by_ > 0 then 1 else -1) (w : WalkIs (lineC c st (m + 1)) (alongP c st (m + 1) by_ 0).1 (alongP c st (m + 1) by_ 0).2 ms) :
    Wks (lineC c st (m + 1)) ((List.range by_.natAbs).map (alongP c st (m + 1) by_)) (alongW ms st sg by_.natAbs) (lineC (atL c st by_) st (m + 1)) := by
  have can := along_can d hm by_ (c := c)
  have e0 : atL c st (sg * ((0 : Nat) : Int)) = c := by
    unfold atL
    refine Prod.ext ?_ ?_ <;> simp
  have eN : sg * ((by_.natAbs : Nat) : Int) = by_ := by
    by_cases h : by_ > 0
    · rw [hs, if_pos h]
      omega
    · rw [hs, if_neg h]
      omega
  have key := wks_range (n := by_.natAbs) (B := fun i => lineC (atL c st (sg * (i : Int))) st (m + 1)) (f := alongP c st (m + 1) by_) (g := fun k : Nat => ms.map (mvP (sg * (k : Int) * st.1, sg * (k : Int) * st.2))) (fun i hi => by
    have e1 : (alongP c st (m + 1) by_ i).1 = mvC (sg * (i : Int) * st.1, sg * (i : Int) * st.2) (alongP c st (m + 1) by_ 0).1 ∧ (alongP c st (m + 1) by_ i).2 = mvC (sg * (i : Int) * st.1, sg * (i : Int) * st.2) (alongP c st (m + 1) by_ 0).2 := by
      unfold alongP
      by_cases h : by_ > 0
      · rw [if_pos h, if_pos h, ← atL_mv, ← atL_mv, hs, if_pos h]
        exact ⟨congrArg (atL c st) (by omega), congrArg (atL c st) (by omega)⟩
      · rw [if_neg h, if_neg h, ← atL_mv, ← atL_mv, hs, if_neg h]
        exact ⟨congrArg (atL c st) (by omega), congrArg (atL c st) (by omega)⟩
    have wi : WalkIs (lineC (atL c st (sg * (i : Int))) st (m + 1)) (alongP c st (m + 1) by_ i).1 (alongP c st (m + 1) by_ i).2 (ms.map (mvP (sg * (i : Int) * st.1, sg * (i : Int) * st.2))) := by
      rw [line_mv, e1.1, e1.2]
      exact walk_mv w
    have on : HasW (lineC (atL c st (sg * (i : Int))) st (m + 1)) (alongP c st (m + 1) by_ i).1 (alongP c st (m + 1) by_ i).2 ∧ NextB (lineC (atL c st (sg * (i : Int))) st (m + 1)) (alongP c st (m + 1) by_ i).1 (alongP c st (m + 1) by_ i).2 (lineC (atL c st (sg * ((i + 1 : Nat) : Int))) st (m + 1)) := by
      unfold alongP
      by_cases h : by_ > 0
      · have := line_on (c := atL c st (sg * (i : Int))) d hm
        rw [if_pos h]
        have s1 : sg = 1 := by rw [hs, if_pos h]
        subst s1
        have f1 : ((((atL c st (1 * (i : Int))).1 + ((m + 1 : Nat) : Int) * st.1, (atL c st (1 * (i : Int))).2 + ((m + 1 : Nat) : Int) * st.2) : Cell)) = atL c st (((m + 1 : Nat) : Int) + (i : Int)) := by
          rw [show ((m + 1 : Nat) : Int) + (i : Int) = 1 * (i : Int) + ((m + 1 : Nat) : Int) by omega, ← atL_at]
          rfl
        have f2 : ((((atL c st (1 * (i : Int))).1 + st.1, (atL c st (1 * (i : Int))).2 + st.2) : Cell)) = atL c st (1 * ((i + 1 : Nat) : Int)) := by
          rw [show 1 * ((i + 1 : Nat) : Int) = 1 * (i : Int) + 1 by omega, ← atL_at]
          unfold atL
          refine Prod.ext ?_ ?_ <;> dsimp only <;> omega
        have f3 : atL c st (1 * (i : Int)) = atL c st (i : Int) := congrArg (atL c st) (Int.one_mul _)
        rw [f1, f2] at this
        rw [f3] at this ⊢
        exact this
      · have := line_back (c := atL c st (sg * (i : Int))) d hm
        rw [if_neg h]
        have s1 : sg = -1 := by rw [hs, if_neg h]
        subst s1
        have f1 : ((((atL c st (-1 * (i : Int))).1 + (m : Int) * st.1, (atL c st (-1 * (i : Int))).2 + (m : Int) * st.2) : Cell)) = atL c st (((m + 1 : Nat) : Int) - 1 - (i : Int)) := by
          rw [show ((m + 1 : Nat) : Int) - 1 - (i : Int) = -1 * (i : Int) + (m : Int) by omega, ← atL_at]
          rfl
        have f2 : ((((atL c st (-1 * (i : Int))).1 - st.1, (atL c st (-1 * (i : Int))).2 - st.2) : Cell)) = atL c st (-1 * ((i + 1 : Nat) : Int)) := by
          rw [show -1 * ((i + 1 : Nat) : Int) = -1 * (i : Int) + (-1) by omega, ← atL_at]
          unfold atL
          refine Prod.ext ?_ ?_ <;> dsimp only <;> omega
        have f3 : atL c st (-1 * ((i + 1 : Nat) : Int)) = atL c st (-1 - (i : Int)) := congrArg (atL c st) (by omega)
        rw [f1, f2] at this
        dsimp only
        rw [← f3]
        exact this
    exact ⟨on.1, wi, on.2⟩)
  rw [e0, eN] at key
  exact key
end Sq

set_option Elab.async false
set_option linter.all false
set_option maxRecDepth 100000
set_option maxHeartbeats 4000000
/-! The program: lines; numbers of squares. -/
namespace Sq
open PySem PySem.Spec PyProof.Rows L2
theorem line_is (c st : Cell) (n : Nat) : ((List.range n).map fun k : Nat => ((c.1 + (0 + (k : Int)) * st.1, c.2 + (0 + (k : Int)) * st.2) : Cell)) = lineC c st n := by
  unfold lineC
  refine List.map_congr_left fun k _ => ?_
  rw [Int.zero_add]
def spLine (K : PySem.W.Frag) : Sp := fun vs H Q _ => ∃ (q a : Addr) (n : Nat) (c st : Cell), vs = [.ref q, .ref a, .int (n : Int)] ∧ At H q c ∧ (∀ G, Same H G → SqT K G a (cV st)) ∧ st.1.natAbs ≤ 1 ∧ st.2.natAbs ≤ 1 ∧ n ≤ 1000 ∧ ∀ r G, Same H G → H r = none → CellsT G r (lineC c st n) → Q (.ref r) G
def spMany : Sp := fun vs H Q _ => ∃ (n m : Int), vs = [.int n, .int m] ∧ m ≤ n ∧ Q (.int n) H
def spBy : Sp := fun vs H Q _ => ∃ n : Int, vs = [.int n] ∧ Q (.int n) H
section
variable {P : Program} {w : World} {K : PySem.W.Frag} {mg : Str → Option Value} {base : Heap}
theorem scLF : FnScope ["first", "step", "many", "k"] ["first", "step", "many"] (defScope gLineFrom) := ⟨rfl, rfl, rfl, by decide +kernel, rfl, by decide +kernel, by decide +kernel⟩
theorem ok_line {f : Addr} {fd : FuncData} (F : FnP K "line_from" gLineFrom f fd) (B : Bl mg) : FnOk P w K mg base CX0 1 f fd ["first", "step", "many"] (spLine K) := by
  refine F.ok scLF (fun vs H Q E h => ?_) (fun cdv A outer s H vs Q E hr h => ?_)
  · obtain ⟨q, a, n, c, st, rfl, _⟩ := h
    rfl
  · obtain ⟨q, a, n, c, st, rfl, aq, ast, b1, b2, ln, k⟩ := h
    refine ⟨_, PSs.nox (pss_one (ps_ret (pe_tupleOf (by rfl) B.tuple (pe_lc (own := [("k", 3)]) (g := gName 3) (tt := tYes) rfl scLF.nd (pi_range1 (by rfl) B.range (pa_cons (pv 2) pa_nil)) (blkOk_by (N := ["first", "step", "many", "k"]) (sc := defScope gLineFrom) (by decide +kernel)) (fun _ _ _ _ _ => pg_name (i := 3) scLF.nd rfl (Or.inl rfl)) (fun _ _ _ _ _ => pts_nil) (fun _ _ _ _ _ => (pe_tup (pa_cons (pe_op op_add (pe_ix (ix_tupK (K := K) rfl) (pv 0) pe_int (fun _ _ => rfl)) (pe_op op_mul (pv 3) (pe_ix (ix_tupK (K := K) rfl) (pv 1) pe_int (fun _ _ => rfl)))) (pa_cons (pe_op op_add (pe_ix (ix_tupK (K := K) rfl) (pv 0) pe_int (fun _ _ => rfl)) (pe_op op_mul (pv 3) (pe_ix (ix_tupK (K := K) rfl) (pv 1) pe_int (fun _ _ => rfl)))) pa_nil)))))))), ?_⟩
    refine ⟨_, rfl, (n : Int), rfl, by omega, by omega, fun D hD => ?_⟩
    have hDH := hD
    refine lc_cells (walk_range (lo := 0) (n := ((n : Nat) : Int).toNat)) hD (fun i => (List.range i).map fun k : Nat => ((c.1 + (0 + (k : Int)) * st.1, c.2 + (0 + (k : Int)) * st.2) : Cell)) rfl (by show n ≤ _; omega) (fun _ _ _ _ => trivial) ?_ ?_
    · rintro i x G G' K1 K0 hi sm ⟨rfl, rfl⟩ k1 k0
      have hi : i < n := hi
      have aq' := aq.same sm
      have as' := ast _ sm
      refine ⟨rfl, yesT ⟨_, rfl, _, _, _, _, rfl, rfl, SqT.of aq', at0, _, rfl, _, rfl, _, _, _, _, rfl, rfl, as', at0, _, _, rfl, rfl, .inl ⟨by omega, by omega⟩, _, _, rfl, rfl, _, rfl, _, _, _, _, rfl, rfl, SqT.of aq', at1, _, rfl, _, rfl, _, _, _, _, rfl, rfl, as', at1, _, _, rfl, rfl, .inl ⟨by omega, by omega⟩, _, _, rfl, rfl, two_le, fun u hu => ?_⟩⟩
      exact k1 u (c.1 + (0 + (i : Int)) * st.1, c.2 + (0 + (i : Int)) * st.2) _ (same_new hu) upd_same (by rw [List.range_succ, List.map_append]; rfl)
    rintro G rs sm gD pr
    refine .inl ⟨D, _, rfl, SqL.of gD, fun r hr' => ?_⟩
    have s2 := same_new (o := HO.tup (rs.map V.ref)) hr'
    refine k r _ (sm.trans s2) (sm.free hr') ⟨rs, upd_same, paired_imp (fun _ _ h => s2 _ _ h) ?_⟩
    rw [← line_is]
    exact pr
theorem scCM : FnScope ["n", "least"] ["n", "least"] (defScope gCheckedMany) := ⟨rfl, rfl, rfl, by decide +kernel, rfl, by decide +kernel, by decide +kernel⟩
theorem ok_many {f CB fB : Addr} {fd : FuncData} (F : FnP K "checked_many" gCheckedMany f fd) (BN : ErrC P K mg "BadNumber" CB fB ["what", "number"]) (DW : Df P w K mg base CX0 1 "is_whole" ["value"] (spWhole K)) : FnOk P w K mg base (L2.CX P w) 2 f fd ["n", "least"] spMany := by
  refine F.ok scCM (fun vs H Q E h => ?_) (fun cdv A outer s H vs Q E hr h => ?_)
  · obtain ⟨n, m, rfl, _⟩ := h
    rfl
  · have hr1 : Room 1 _ := hr.mono (by decide)
    refine ⟨_, pss_cons (ps_if (PW.pt (pw_or (pt_not (pt_val (pe_df DW hr (by rfl) pass0 (pa_cons (pv 0) pa_nil)))) (pw_or1 (pt_cmpR op_lt (pv 0) (pv 1) (nomark _)))))
      (pss_one (ps_raise rfl (takes_of rfl rfl rfl rfl) (pmk_err BN.s (raises_own BN.ex BN.ty) hr1 BN.g (pa_cons pe_str (pa_cons (pv 0) pa_nil)))))
      pss_nil)
      (pss_one (ps_ret (pv 0))), ?_⟩
    obtain ⟨n, m, rfl, h, k⟩ := h
    refine ⟨_, rfl, _, "int", rfl, Kd.int, _, rfl, ?_⟩
    refine iteN (by simp) ?_
    refine ⟨_, rfl, _, rfl, _, _, rfl, rfl, _, rfl, ?_⟩
    refine ite2 (fun z => ?_) (fun _ => ⟨_, rfl, k⟩)
    have := of_decide_eq_true z
    omega
theorem scCBy : FnScope ["by"] ["by"] (defScope gCheckedBy) := ⟨rfl, rfl, rfl, by decide +kernel, rfl, by decide +kernel, by decide +kernel⟩
theorem ok_by {f CB fB : Addr} {fd : FuncData} (F : FnP K "checked_by" gCheckedBy f fd) (BN : ErrC P K mg "BadNumber" CB fB ["what", "number"]) (DW : Df P w K mg base CX0 1 "is_whole" ["value"] (spWhole K)) : FnOk P w K mg base (L2.CX P w) 2 f fd ["by"] spBy := by
  refine F.ok scCBy (fun vs H Q E h => ?_) (fun cdv A outer s H vs Q E hr h => ?_)
  · obtain ⟨n, rfl, _⟩ := h
    rfl
  · have hr1 : Room 1 _ := hr.mono (by decide)
    refine ⟨_, pss_cons (ps_if (pt_not (pt_val (pe_df DW hr (by rfl) pass0 (pa_cons (pv 0) pa_nil))))
      (pss_one (ps_raise rfl (takes_of rfl rfl rfl rfl) (pmk_err BN.s (raises_own BN.ex BN.ty) hr1 BN.g (pa_cons pe_str (pa_cons (pv 0) pa_nil)))))
      pss_nil)
      (pss_one (ps_ret (pv 0))), ?_⟩
    obtain ⟨n, rfl, k⟩ := h
    refine ⟨_, rfl, _, "int", rfl, Kd.int, _, rfl, ?_⟩
    exact iteN (by simp) ⟨_, rfl, k⟩
end
end Sq

set_option Elab.async false
set_option linter.all false
set_option maxRecDepth 100000
set_option maxHeartbeats 4000000
/-! The program: a plan, moved. -/
namespace Sq
open PySem PySem.Spec PyProof.Rows L2
def spMvC : Sp := fun vs H Q _ => ∃ (p q : Addr) (c b : Cell), vs = [.ref p, .ref q] ∧ At H p c ∧ At H q b ∧ ∀ u G, Same H G → At G u (mvC b c) → Q (.ref u) G
def spMvPlan : Sp := fun vs H Q _ => ∃ (pl q : Addr) (ps : List CellP) (b : Cell), vs = [.ref pl, .ref q] ∧ PairsT H pl ps ∧ ps.length ≤ 100000 ∧ At H q b ∧ ∀ u G, Same H G → PairsT G u (ps.map (mvP b)) → Q (.ref u) G
section
variable {P : Program} {w : World} {K : PySem.W.Frag} {mg : Str → Option Value} {base : Heap}
theorem scMvC : FnScope ["cell", "by"] ["cell", "by"] (defScope gMovedCell) := ⟨rfl, rfl, rfl, by decide +kernel, rfl, by decide +kernel, by decide +kernel⟩
theorem ok_mvC {f : Addr} {fd : FuncData} (F : FnP K "moved_cell" gMovedCell f fd) (DPl : Df P w K mg base CX0 1 "plain_cell" ["cell"] spPlain) (DS : Df P w K mg base CX0 1 "shifted" ["cell", "by"] spShifted) : FnOk P w K mg base CX0 2 f fd ["cell", "by"] spMvC := by
  refine F.ok scMvC (fun vs H Q E h => ?_) (fun cdv A outer s H vs Q E hr h => ?_)
  · obtain ⟨p, q, c, b, rfl, _⟩ := h
    rfl
  · obtain ⟨p, q, c, b, rfl, ac, ab, k⟩ := h
    refine ⟨_, PSs.nox (pss_one (ps_ret (pe_df DS hr (by rfl) pass0 (pa_cons (pe_df DPl hr (by rfl) pass0 (pa_cons (pv 0) pa_nil)) (pa_cons (pv 1) pa_nil))))), ?_⟩
    refine ⟨_, rfl, p, c, rfl, ac, fun r hr' => ?_⟩
    have s1 := same_new (o := .tup (cV c)) hr'
    refine ⟨_, rfl, r, q, c, b, rfl, upd_same, s1 _ _ ab, fun u hu => ?_⟩
    exact k u _ (s1.trans (same_new hu)) upd_same
theorem scMvP : FnScope ["plan", "by", "shift", "start", "end"] ["plan", "by"] (defScope gMovedPlan) := ⟨rfl, rfl, rfl, by decide +kernel, rfl, by decide +kernel, by decide +kernel⟩
theorem ok_mvPlan {f CB : Addr} {fd : FuncData} (F : FnP K "moved_plan" gMovedPlan f fd) (B : Bl mg) (DC : Df P w K mg base (L2.CX P w) 3 "checked_cell" ["value"] (spChecked K CB)) (DM : Df P w K mg base CX0 2 "moved_cell" ["cell", "by"] spMvC) :
    FnOk P w K mg base CX0 4 f fd ["plan", "by"] spMvPlan := by
  refine F.ok scMvP (fun vs H Q E h => ?_) (fun cdv A outer s H vs Q E hr h => ?_)
  · obtain ⟨pl, q, ps, b, rfl, _⟩ := h
    rfl
  · obtain ⟨pl, q, ps, b, rfl, ⟨qs, epl, prP⟩, lps, aq, k⟩ := h
    have lq : qs.length = ps.length := Paired.length prP
    refine ⟨_, PSs.nox (pss_cons (ps_set (i := 2) scMvP.nd rfl (.inr rfl) (pe_df DC hr (by rfl) (passes_call (W := fun _ _ _ _ => False) (E := fun _ _ _ => False) takes0 (fun _ _ _ _ h => h)) (pa_cons (pv 1) pa_nil)))
      (pss_one (ps_ret (pe_tupleOf (by rfl) B.tuple (pe_lc (own := [("start", 3), ("end", 4)]) (g := gTup K 2 (gCons (gName 3) (gCons (gName 4) gNil))) (tt := tYes) rfl scMvP.nd (pi_tup (pv 0)) (blkOk_by (N := ["plan", "by", "shift", "start", "end"]) (sc := defScope gMovedPlan) (by decide +kernel)) (fun _ _ _ _ _ => (pg_tup (by rfl) (pgs_cons (pg_name (i := 3) scMvP.nd rfl (Or.inl rfl)) (pgs_cons (pg_name (i := 4) scMvP.nd rfl (Or.inl rfl)) pgs_nil)))) (fun _ _ _ _ _ => pts_nil)
        (fun _ _ _ _ _ => (pe_tup (pa_cons (pe_df DM hr (by rfl) pass0 (pa_cons (pv 3) (pa_cons (pv 2) pa_nil))) (pa_cons (pe_df DM hr (by rfl) pass0 (pa_cons (pv 4) (pa_cons (pv 2) pa_nil))) pa_nil))))))))), ?_⟩
    refine ⟨_, rfl, _, rfl, .inl ⟨q, b, rfl, aq, fun q1 hq1 => ?_⟩⟩
    have s1 := same_new (o := .tup (cV b)) hq1
    have a1 : At (upd H q1 (.tup (cV b))) q1 b := upd_same
    generalize upd H q1 (.tup (cV b)) = G1 at s1 a1
    refine ⟨_, rfl, pl, rfl, ⟨_, SqT.of (s1 _ _ epl)⟩, fun D hD => ?_⟩
    refine w_ofR (walk_tup (K := K) (a := pl) (xs := qs.map V.ref)) (fun i G => Same G1 G ∧ ∃ rs : List Addr, G D = some (.lst (rs.map V.ref)) ∧ rs.length = i ∧ Paired (fun r m => PairAt G r m) rs ((ps.take i).map (mvP b))) ⟨same_new hD, [], upd_same, rfl, .nil⟩ (fun i G _ p => SqT.of (p.1 _ _ (s1 _ _ epl))) ?_ ?_
    · rintro i x G G' hi ⟨sm, rs, gD, lrs, pr⟩ ⟨rfl, hx⟩
      rw [List.getElem?_map] at hx
      obtain ⟨qm, hq, rfl⟩ := Option.map_eq_some_iff.mp hx
      obtain ⟨⟨a, c⟩, hm, x1, x2, eq, y1, y2⟩ := paired_get prP hq
      have im := (List.getElem?_eq_some_iff.mp hm).1
      have sA := s1.trans sm
      refine ⟨qm, _, rfl, SqT.of (sA _ _ eq), rfl, _, _, rfl, _, _, rfl, rfl, rfl, yesT ?_⟩
      refine ⟨_, rfl, _, rfl, x1, q1, a, b, rfl, sA _ _ y1, sm _ _ a1, fun r1 G3 u1 h1 => ?_⟩
      refine ⟨_, rfl, _, rfl, x2, q1, c, b, rfl, u1 _ _ (sA _ _ y2), u1 _ _ (sm _ _ a1), fun r2 G4 u2 h2 => ⟨two_le, fun m hm' => ?_⟩⟩
      have u3 := same_new (o := .tup [.ref r1, .ref r2]) hm'
      have e3 := upd_same (H := G4) (a := m) (o := .tup [.ref r1, .ref r2])
      have b1 := u3 _ _ (u2 _ _ h1)
      have b2 := u3 _ _ h2
      have uA := (u1.trans u2).trans u3
      generalize upd G4 m (.tup [.ref r1, .ref r2]) = G5 at e3 b1 b2 uA
      have gD5 := uA _ _ gD
      have tk : Tk G5 (upd G5 D (.lst (rs.map V.ref ++ [V.ref m]))) := tk_upd gD5 fun _ z => nomatch z
      refine ⟨_, gD5, by rw [List.length_map, sizeLine_eq]; omega, same_put (sm.trans uA) hD, rs ++ [m], by rw [upd_same, List.map_append]; rfl, by rw [List.length_append, lrs]; rfl, ?_⟩
      rw [take_snoc hm, List.map_append]
      exact (paired_imp (fun _ _ (h : PairAt G' _ _) => (h.same uA).keep tk) pr).snoc ⟨r1, r2, tk _ _ e3, tk _ _ b1, tk _ _ b2⟩
    rintro G ⟨sm, rs, gD, lrs, pr⟩
    rw [List.length_map, lq, List.take_length] at pr
    refine .inl ⟨D, _, rfl, SqL.of gD, fun u hu => ?_⟩
    have s3 := same_new (o := .tup (rs.map V.ref)) hu
    exact k u _ ((s1.trans sm).trans s3) ⟨rs, upd_same, paired_imp (fun _ _ (h : PairAt G _ _) => h.same s3) pr⟩
end
end Sq

set_option Elab.async false
set_option linter.all false
set_option maxRecDepth 100000
set_option maxHeartbeats 2000000
/-! The program: a line that moves along itself. -/
namespace Sq
open PySem PySem.Spec PyProof.Rows L2
abbrev alN : List Str := ["first", "step", "many", "by", "line", "way", "moves", "plan", "k"]
def runP (ms : List CellP) (v : Cell) (n : Nat) : List CellP := (List.range n).flatMap fun k : Nat => ms.map (mvP ((k : Int) * v.1, (k : Int) * v.2))
theorem runP_next {ms : List CellP} {v : Cell} {n : Nat} : runP ms v (n + 1) = runP ms v n ++ ms.map (mvP ((n : Int) * v.1, (n : Int) * v.2)) := by
  unfold runP
  rw [List.range_succ, List.flatMap_append]
  congr 1
  simp
theorem runP_len {ms : List CellP} {v : Cell} : ∀ n, (runP ms v n).length = ms.length * n
  | 0 => rfl
  | n + 1 => by rw [runP_next, List.length_append, List.length_map, runP_len n, Nat.mul_succ]
section
variable {P : Program} {w : World} {K : PySem.W.Frag} {mg : Str → Option Value} {base : Heap}
theorem scAl : FnScope alN ["first", "step", "many", "by"] (defScope gAlong) := ⟨rfl, rfl, rfl, by decide +kernel, rfl, by decide +kernel, by decide +kernel⟩
variable {f : Addr} {cdv : Value} {A0 : Around} {outer : List Env} {sh : Shared} {H0 : Hp} {E : XK}
theorem along_tail (hr : Room 5 (cxOf CX0 P w K mg base alN "along" (defScope gAlong) f cdv A0 outer sh H0 E).nox.A) (B : Bl mg) (DLo : Df P w K mg base CX0 2 "lot_of" ["cells"] spLot) (DSh : Df P w K mg base CX0 1 "shifted" ["cell", "by"] (spShiftK K)) (DW : Df P w K mg base CX0 5 "walk_in" ["lot", "start", "end"] spWalkIn) (DM : Df P w K mg base CX0 4 "moved_plan" ["plan", "by"] spMvPlan) :
    ∃ t, PSs (cxOf CX0 P w K mg base alN "along" (defScope gAlong) f cdv A0 outer sh H0 E).nox ((defBody gAlong).drop 2) t ∧
      ∀ (D : Ends) (G : Hp) (t4 wy : Addr) (L : List Cell) (v s z : Cell) (by_ : Int) (m : Nat) (v0 v1 v2 : Option V), CellsT G t4 L → L.Nodup → L.length = m + 1 → m + 1 ≤ 1000 → Hangs L → L[0]? = some s → L[m]? = some z → (∀ G', Same G G' → SqT K G' wy (cV v)) → v.1.natAbs ≤ 1 → v.2.natAbs ≤ 1 → HasW L s (z.1 + v.1, z.2 + v.2) → by_.natAbs ≤ 1000 →
        (∀ r G' ms, Same G G' → WalkIs L s (z.1 + v.1, z.2 + v.2) ms → PairsT G' r (runP ms v by_.natAbs) → D.rt (.ref r) G') → t D [v0, v1, v2, some (.int by_), some (.ref t4), some (.ref wy), none, none, none] G := by
  refine ⟨_, (pss_cons (ps_set (i := 6) scAl.nd rfl (.inl rfl) (pe_df DW hr (by rfl) pass0 (pa_cons (pe_df DLo hr (by rfl) pass0 (pa_cons (pv 4) pa_nil)) (pa_cons (pe_ix (ix_tupK (K := K) rfl) (pv 4) pe_int (fun _ _ => rfl)) (pa_cons (pe_df DSh hr (by rfl) pass0 (pa_cons (pe_ix (ix_tupK (K := K) rfl) (pv 4) (pe_un un_neg pe_int) (fun _ _ => rfl)) (pa_cons (pv 5) pa_nil))) pa_nil)))))
      (pss_cons (ps_set (i := 7) scAl.nd rfl (.inl rfl) (pe_lst pa_nil))
      (pss_cons (ps_for PassesOwn.never rfl (pi_range1 (by rfl) B.range (pa_cons (pe_callB call_abs (by rfl) B.abs (by decide +kernel) (pa_cons (pv 3) pa_nil)) pa_nil)) (pg_name (i := 8) scAl.nd rfl (.inl rfl))
      (pss_one (ps_expr (pe_bm PySem.F.plainAttrs_list PySem.F.slot_list_extend PySem.F.type_list_extend mt_extendT (pv 7) (pa_cons (pe_df DM hr (by rfl) pass0 (pa_cons (pv 6) (pa_cons (pe_tup (pa_cons (pe_op op_mul (pv 8) (pe_ix (ix_tupK (K := K) rfl) (pv 5) pe_int (fun _ _ => rfl))) (pa_cons (pe_op op_mul (pv 8) (pe_ix (ix_tupK (K := K) rfl) (pv 5) pe_int (fun _ _ => rfl))) pa_nil))) pa_nil))) pa_nil)))))
      (pss_one (ps_ret (pe_tupleOf (by rfl) B.tuple (pv 7))))))), ?_⟩
  intro D G t4 wy L v s z by_ m v0 v1 v2 cL nL lm lL hang h0 hz swy b1 b2 hw lb k
  obtain ⟨qs, et, pq⟩ := id cL
  have lqs : qs.length = L.length := Paired.length pq
  obtain ⟨q0, hq0⟩ : ∃ q, qs[0]? = some q := ⟨_, List.getElem?_eq_getElem (by omega)⟩
  obtain ⟨qz, hqz⟩ : ∃ q, qs[m]? = some q := ⟨_, List.getElem?_eq_getElem (by omega)⟩
  obtain ⟨c0, hc0, a0⟩ := paired_get pq hq0
  obtain ⟨cz, hcz, az⟩ := paired_get pq hqz
  obtain rfl : c0 = s := by rw [h0] at hc0; exact (Option.some.inj hc0).symm
  obtain rfl : cz = z := by rw [hz] at hcz; exact (Option.some.inj hcz).symm
  have x0 : atI (qs.map V.ref) 0 = some (.ref q0) := atI_nat (j := 0) (by rw [List.getElem?_map, hq0]; rfl)
  have xl : atI (qs.map V.ref) (-1) = some (.ref qz) := neg_last (by rw [List.length_map, lqs, lm, Nat.add_sub_cancel, List.getElem?_map, hqz]; rfl)
  refine ⟨_, rfl, t4, L, rfl, cL, nL, by omega, fun d G1 s1 _ ed => ?_⟩
  have et1 := s1 _ _ et
  refine ⟨_, rfl, t4, _, _, .ref q0, rfl, rfl, SqT.of et1, x0, ?_⟩
  refine ⟨_, rfl, _, rfl, t4, _, _, .ref qz, rfl, rfl, SqT.of et1, xl, _, rfl, qz, wy, cz, v, rfl, az.same s1, swy _ s1, fun qe hqe => ?_⟩
  have s2 := same_new (o := HO.tup (cV (cz.1 + v.1, cz.2 + v.2))) hqe
  have aqe : At (upd G1 qe (HO.tup (cV (cz.1 + v.1, cz.2 + v.2)))) qe (cz.1 + v.1, cz.2 + v.2) := upd_same
  have ed2 := s2 _ _ ed
  have s12 := s1.trans s2
  generalize upd G1 qe (HO.tup (cV (cz.1 + v.1, cz.2 + v.2))) = G2 at s2 aqe ed2 s12
  refine ⟨d, q0, qe, L, c0, _, rfl, ed2, nL, by omega, hang, a0.same s12, aqe, fun _ _ no => ?_, fun r G3 ms Dd s3 sL pt dst _ wp => ?_⟩
  · rcases no with h | h
    · exact absurd hw.1 h
    · exact absurd hw.2 h
  have wi : WalkIs L c0 (cz.1 + v.1, cz.2 + v.2) ms := ⟨Dd, dst, wp⟩
  have lms := walk_small wi nL hang sL
  have s13 := s12.trans s3
  obtain ⟨ps, er, pr⟩ := id pt
  refine ⟨Nat.zero_le _, fun fo hfo => ?_⟩
  have s4 := same_new (o := HO.lst []) hfo
  have e4 := upd_same (H := G3) (a := fo) (o := HO.lst [])
  generalize upd G3 fo (.lst []) = G4 at s4 e4
  refine ⟨_, rfl, by_, rfl, ⟨_, rfl, by split <;> omega, by split <;> omega, ?_⟩⟩
  refine for_range (lo := 0) (n := (if by_ < 0 then -by_ else by_).toNat) (fun i σ G' => ∃ (v8 : Option V) (rs : List Addr), σ = [v0, v1, v2, some (.int by_), some (.ref t4), some (.ref wy), some (.ref r), some (.ref fo), v8] ∧ Same G3 G' ∧ G' fo = some (.lst (rs.map V.ref)) ∧ Paired (fun r m => PairAt G' r m) rs (runP ms v i))
    ⟨none, [], rfl, s4, e4, .nil⟩ ?_ ?_
  · rintro i σ G5 hi ⟨v8, rs, rfl, sm, ef, prs⟩
    have hi : i < by_.natAbs := by
      have e : (if by_ < 0 then -by_ else by_).toNat = by_.natAbs := by split <;> omega
      rw [e] at hi
      exact hi
    rw [Int.zero_add]
    have lrs : rs.length = ms.length * i := by rw [Paired.length prs, runP_len]
    have lb2 : ms.length * i ≤ 1000 * 1000 := Nat.mul_le_mul (by omega) (by omega)
    have sw := swy _ (s13.trans sm)
    refine ⟨_, rfl, .inl ⟨rfl, _, SqL.of ef⟩, _, rfl, ?_⟩
    refine ⟨_, rfl, _, rfl, wy, _, _, _, rfl, rfl, sw, at0, _, _, rfl, rfl, .inl ⟨by omega, by omega⟩, ?_⟩
    refine ⟨_, rfl, _, rfl, wy, _, _, _, rfl, rfl, sw, at1, _, _, rfl, rfl, .inl ⟨by omega, by omega⟩, two_le, fun u hu1 => ?_⟩
    have s6 := same_new (o := HO.tup [.int ((i : Int) * v.1), .int ((i : Int) * v.2)]) hu1
    have au : At (upd G5 u (HO.tup [.int ((i : Int) * v.1), .int ((i : Int) * v.2)])) u ((i : Int) * v.1, (i : Int) * v.2) := upd_same
    generalize upd G5 u (HO.tup [.int ((i : Int) * v.1), .int ((i : Int) * v.2)]) = G6 at s6 au
    refine ⟨r, u, ms, _, rfl, pairsT_same pt (sm.trans s6), by omega, au, fun u2 G7 s7 ⟨zs, e7, pz⟩ => ?_⟩
    have s67 := s6.trans s7
    have ef7 := s67 _ _ ef
    have lzs : zs.length = ms.length := by rw [Paired.length pz, List.length_map]
    refine ⟨fo, u2, _, _, rfl, rfl, ef7, e7, by rw [List.length_map, List.length_map, sizeLine_eq]; omega, ?_⟩
    have tk : Tk G7 (upd G7 fo (.lst (rs.map V.ref ++ zs.map V.ref))) := tk_upd ef7 fun _ z => nomatch z
    refine ⟨_, rs ++ zs, rfl, same_put (sm.trans s67) hfo, by rw [upd_same, List.map_append], ?_⟩
    rw [runP_next]
    exact paired_app (paired_imp (fun _ _ (h : PairAt G5 _ _) => (h.same s67).keep tk) prs) (paired_imp (fun _ _ (h : PairAt G7 _ _) => h.keep tk) pz)
  · rintro σ G5 ⟨v8, rs, rfl, sm, ef, prs⟩
    have e : (if by_ < 0 then -by_ else by_).toNat = by_.natAbs := by split <;> omega
    rw [e] at prs
    refine ⟨_, rfl, .inl ⟨fo, _, rfl, SqL.of ef, fun r2 hr2 => ?_⟩⟩
    have s9 := same_new (o := HO.tup (rs.map V.ref)) hr2
    exact k r2 _ ms ((s13.trans sm).trans s9) wi ⟨rs, upd_same, paired_imp (fun _ _ (h : PairAt G5 _ _) => h.same s9) prs⟩
end
end Sq

set_option Elab.async false
set_option linter.all false
set_option maxRecDepth 100000
set_option maxHeartbeats 2000000
/-! The program: a line that moves along itself, whole. -/
namespace Sq
open PySem PySem.Spec PyProof.Rows L2
theorem adjA_cong {L M : List Cell} (h : ∀ x, x ∈ L ↔ x ∈ M) (s : Cell) : adjA L s = adjA M s := by
  have eW : ∀ x, x ∈ without L s ↔ x ∈ without M s := fun x => by rw [mem_without, mem_without, h]
  have dc : ∀ x, decide (x ∈ without L s) = decide (x ∈ without M s) := fun x => decide_eq_decide.mpr (eW x)
  have air : ∀ {R R' : List Cell}, (∀ x, x ∈ R ↔ x ∈ R') → ∀ {a b}, Air R a b → Air R' a b := fun {R R'} e {a b} k => by
    induction k with
    | refl => exact .refl
    | step _ h1 h2 ih => exact .step ih h1 fun z => h2 ((e _).mpr z)
  have st : ∀ x, stepsN (without L s) x = stepsN (without M s) x := fun x => by
    unfold stepsN
    congr 1
    refine List.filter_congr fun b _ => ?_
    unfold stepOk turnsB sideB
    simp only [dc]
  refine funext fun x => funext fun y => propext ?_
  unfold adjA
  rw [hangsB_cong eW, st]
  exact and_congr_right fun _ => and_congr_left fun _ => ⟨air eW, air fun x => (eW x).symm⟩
theorem hasW_cong {L M : List Cell} (h : ∀ x, x ∈ L ↔ x ∈ M) {s e : Cell} : HasW L s e ↔ HasW M s e := by
  unfold HasW
  rw [adjA_cong h, h]
theorem walk_cong {L M : List Cell} (h : ∀ x, x ∈ L ↔ x ∈ M) {s e : Cell} {ms : List CellP} : WalkIs L s e ms ↔ WalkIs M s e ms := by
  unfold WalkIs
  rw [adjA_cong h]
def spAlong (K : PySem.W.Frag) : Sp := fun vs H Q _ => ∃ (q a : Addr) (n : Nat) (by_ : Int) (c st : Cell), vs = [.ref q, .ref a, .int (n : Int), .int by_] ∧ At H q c ∧ (∀ G, Same H G → SqT K G a (cV st)) ∧ Up1 st ∧ 2 ≤ n ∧ n ≤ 1000 ∧ by_.natAbs ≤ 1000 ∧
  ∀ r G pl, Same H G → PairsT G r pl → Wks (lineC c st n) ((List.range by_.natAbs).map (alongP c st n by_)) pl (lineC (atL c st by_) st n) → Q (.ref r) G
theorem line_get {c st : Cell} {n j : Nat} (h : j < n) : (lineC c st n)[j]? = some (atL c st (j : Int)) := by
  unfold lineC
  rw [List.getElem?_map, List.getElem?_range h]
  rfl
theorem line_len (c st : Cell) (n : Nat) : (lineC c st n).length = n := by
  unfold lineC
  rw [List.length_map, List.length_range]
theorem atL_zero (c st : Cell) : atL c st 0 = c := by
  unfold atL
  refine Prod.ext ?_ ?_ <;> simp
theorem Up1.small {st : Cell} (h : Up1 st) : st.1.natAbs ≤ 1 ∧ st.2.natAbs ≤ 1 := by
  rcases h with rfl | rfl <;> decide
section
variable {P : Program} {w : World} {K : PySem.W.Frag} {mg : Str → Option Value} {base : Heap}
theorem ok_along {f : Addr} {fd : FuncData} (F : FnP K "along" gAlong f fd) (B : Bl mg) (DL : Df P w K mg base CX0 1 "line_from" ["first", "step", "many"] (spLine K)) (DLo : Df P w K mg base CX0 2 "lot_of" ["cells"] spLot) (DSh : Df P w K mg base CX0 1 "shifted" ["cell", "by"] (spShiftK K)) (DW : Df P w K mg base CX0 5 "walk_in" ["lot", "start", "end"] spWalkIn) (DM : Df P w K mg base CX0 4 "moved_plan" ["plan", "by"] spMvPlan) :
    FnOk P w K mg base CX0 6 f fd ["first", "step", "many", "by"] (spAlong K) := by
  refine F.ok scAl (fun vs H Q E h => ?_) (fun cdv A outer s H vs Q E hr h => ?_)
  · obtain ⟨q, a, n, by_, c, st, rfl, _⟩ := h
    rfl
  · obtain ⟨q, a, n, by_, c, st, rfl, aq, sa, d, n2, ln, lb, k⟩ := h
    obtain ⟨tl, htl, key⟩ := along_tail (P := P) (w := w) (K := K) (mg := mg) (base := base) (f := f) (cdv := cdv) (A0 := A) (outer := outer) (sh := s) (H0 := H) (E := E) hr B DLo DSh DW DM
    refine ⟨_, PSs.nox (pss_cons (ps_set (i := 4) scAl.nd rfl (.inl rfl) (pe_df DL hr (by rfl) pass0 (pa_cons (pv 0) (pa_cons (pv 1) (pa_cons (pv 2) pa_nil)))))
      (pss_cons (ps_if (pt_cmpR op_lt (pv 3) pe_int (nomark _))
      (pss_cons (ps_set (i := 4) scAl.nd rfl (.inl rfl) (pe_revT (pv 4)))
        (pss_one (ps_set (i := 5) scAl.nd rfl (.inl rfl) (pe_tup (pa_cons (pe_un un_neg (pe_ix (ix_tupK (K := K) rfl) (pv 1) pe_int (fun _ _ => rfl))) (pa_cons (pe_un un_neg (pe_ix (ix_tupK (K := K) rfl) (pv 1) pe_int (fun _ _ => rfl))) pa_nil))))))
      (pss_one (ps_set (i := 5) scAl.nd rfl (.inl rfl) (pv 1))))
      htl)), ?_⟩
    obtain ⟨m, rfl⟩ : ∃ m, n = m + 1 := ⟨n - 1, by omega⟩
    have hm : 1 ≤ m := by omega
    obtain ⟨b1, b2⟩ := d.small
    refine ⟨_, rfl, _, rfl, _, rfl, q, a, m + 1, c, st, rfl, aq, sa, b1, b2, ln, fun t1 G1 s1 _ c1 => ?_⟩
    refine ⟨_, rfl, _, _, rfl, rfl, _, rfl, ?_⟩
    refine ite2 (fun h1 => ?_) (fun h1 => ?_)
    · have neg : by_ < 0 := of_decide_eq_true h1
      obtain ⟨qs, et, pq⟩ := id c1
      refine ⟨_, rfl, t1, _, rfl, SqT.of et, fun t2 ht2 => ?_⟩
      have s2 := same_new (o := HO.tup (qs.map V.ref).reverse) ht2
      have c2 : CellsT (upd G1 t2 (HO.tup (qs.map V.ref).reverse)) t2 (lineC c st (m + 1)).reverse := ⟨qs.reverse, by rw [upd_same, List.map_reverse], by
        have rev : ∀ {xs : List Addr} {ys : List Cell} {R : Addr → Cell → Prop}, Paired R xs ys → Paired R xs.reverse ys.reverse := fun {xs ys R} h => by
          induction h with
          | nil => exact .nil
          | cons a _ ih =>
            rw [List.reverse_cons, List.reverse_cons]
            exact ih.snoc a
        exact rev (paired_imp (fun _ _ h => s2 _ _ h) pq)⟩
      generalize upd G1 t2 (HO.tup (qs.map V.ref).reverse) = G2 at s2 c2
      have s12 := s1.trans s2
      have sa2 := sa _ s12
      refine ⟨_, rfl, a, _, _, _, rfl, rfl, sa2, at0, _, rfl, ?_⟩
      refine ⟨_, rfl, a, _, _, _, rfl, rfl, sa2, at1, _, rfl, two_le, fun wy hwy => ?_⟩
      have s3 := same_new (o := HO.tup [.int (-st.1), .int (-st.2)]) hwy
      have ew : upd G2 wy (HO.tup [.int (-st.1), .int (-st.2)]) wy = some (.tup (cV (-st.1, -st.2))) := upd_same
      have c3 := c2.ek (.of s3)
      generalize upd G2 wy (HO.tup [.int (-st.1), .int (-st.2)]) = G3 at s3 ew c3
      have s13 := s12.trans s3
      have em : ∀ x, x ∈ (lineC c st (m + 1)).reverse ↔ x ∈ lineC c st (m + 1) := fun x => List.mem_reverse
      have bk := (line_back (c := c) d hm).1
      have e1 : ((c.1 + (m : Int) * st.1, c.2 + (m : Int) * st.2) : Cell) = atL c st (m : Int) := rfl
      rw [e1] at bk
      refine key _ G3 t2 wy (lineC c st (m + 1)).reverse (-st.1, -st.2) (atL c st (m : Int)) c by_ m _ _ _ c3 ((List.reverse_perm _).nodup_iff.mpr (line_asc d _).2) (by rw [List.length_reverse, line_len]) ln ((hangs_perm em).mpr (line_hangs d.side (by omega))) ?_ ?_ (fun G' s4 => SqT.of (s4 _ _ ew)) (by dsimp only; omega) (by dsimp only; omega) ((hasW_cong em).mpr ?_) lb fun r G4 ms s4 wi pt => ?_
      · rw [List.getElem?_reverse (by rw [line_len]; omega), line_len]
        exact line_get (by omega)
      · rw [List.getElem?_reverse (by rw [line_len]; omega), line_len, show m + 1 - 1 - m = 0 by omega, line_get (by omega)]
        exact congrArg some (atL_zero c st)
      · rw [show ((c.1 + (-st.1, -st.2).1, c.2 + (-st.1, -st.2).2) : Cell) = (c.1 - st.1, c.2 - st.2) from by refine Prod.ext ?_ ?_ <;> dsimp only <;> omega]
        exact bk
      · refine k r G4 _ (s13.trans s4) pt ?_
        have wi' := (walk_cong em).mp wi
        have np : ¬ by_ > 0 := by omega
        have := along_wks (c := c) (ms := ms) d hm by_ (-1) (by rw [if_neg np]) (by
          unfold alongP
          rw [if_neg np]
          have f1 : atL c st (((m + 1 : Nat) : Int) - 1 - ((0 : Nat) : Int)) = atL c st (m : Int) := congrArg (atL c st) (by omega)
          have f2 : atL c st (-1 - ((0 : Nat) : Int)) = (c.1 + (-st.1, -st.2).1, c.2 + (-st.1, -st.2).2) := by
            unfold atL
            refine Prod.ext ?_ ?_ <;> dsimp only <;> omega
          dsimp only
          rw [f1, f2]
          exact wi')
        have er : runP ms (-st.1, -st.2) by_.natAbs = alongW ms st (-1) by_.natAbs := by
          unfold runP alongW
          congr 1
          refine funext fun j => ?_
          congr 1
          refine congrArg mvP (Prod.ext ?_ ?_)
          · dsimp only
            rw [Int.mul_neg, Int.neg_mul, Int.neg_mul, Int.one_mul]
          · dsimp only
            rw [Int.mul_neg, Int.neg_mul, Int.neg_mul, Int.one_mul]
        rw [er]
        exact this
    · have nn : ¬ by_ < 0 := fun z => h1 (decide_eq_true z)
      have on := (line_on (c := c) d hm).1
      refine ⟨_, rfl, ?_⟩
      have e1 : (((atL c st (m : Int)).1 + st.1, (atL c st (m : Int)).2 + st.2) : Cell) = (c.1 + ((m + 1 : Nat) : Int) * st.1, c.2 + ((m + 1 : Nat) : Int) * st.2) := by
        unfold atL
        refine Prod.ext ?_ ?_ <;> dsimp only <;> rw [show ((m + 1 : Nat) : Int) = (m : Int) + 1 from rfl, Int.add_mul] <;> omega
      refine key _ G1 t1 a (lineC c st (m + 1)) st c (atL c st (m : Int)) by_ m _ _ _ c1 (line_asc d _).2 (line_len ..) ln (line_hangs d.side (by omega)) ?_ (line_get (by omega)) (fun G' s4 => sa _ (s1.trans s4)) b1 b2 (by rw [e1]; exact on) lb fun r G4 ms s4 wi pt => ?_
      · rw [line_get (by omega)]
        exact congrArg some (atL_zero c st)
      · refine k r G4 _ (s1.trans s4) pt ?_
        by_cases hp : by_ > 0
        · have := along_wks (c := c) (ms := ms) d hm by_ 1 (by rw [if_pos hp]) (by
            unfold alongP
            rw [if_pos hp]
            have f1 : atL c st ((0 : Nat) : Int) = c := atL_zero c st
            have f2 : atL c st (((m + 1 : Nat) : Int) + ((0 : Nat) : Int)) = ((atL c st (m : Int)).1 + st.1, (atL c st (m : Int)).2 + st.2) := by
              rw [e1]
              unfold atL
              refine Prod.ext ?_ ?_ <;> dsimp only <;> simp
            dsimp only
            rw [f1, f2]
            exact wi)
          have er : runP ms st by_.natAbs = alongW ms st 1 by_.natAbs := by
            unfold runP alongW
            congr 1
            refine funext fun j => ?_
            rw [Int.one_mul]
          rw [er]
          exact this
        · have z : by_ = 0 := by omega
          subst z
          rw [atL_zero]
          exact .nil
end
end Sq

set_option Elab.async false
set_option linter.all false
set_option maxRecDepth 100000
set_option maxHeartbeats 2000000
/-! The program: rows, columns, how they move along themselves. -/
namespace Sq
open PySem PySem.Spec PyProof.Rows L2
structure EastC (K : PySem.W.Frag) (mg : Str → Option Value) (a : Addr) : Prop where
  g : mg "EAST" = some (.ref a)
  t : ∀ H, SqT K H a (cV (1, 0))
structure NorthC (K : PySem.W.Frag) (mg : Str → Option Value) (a : Addr) : Prop where
  g : mg "NORTH" = some (.ref a)
  t : ∀ H, SqT K H a (cV (0, 1))
def spCrawl (st : Cell) : Sp := fun vs H Q _ => ∃ (q : Addr) (n : Nat) (by_ : Int) (c : Cell), vs = [.ref q, .int (n : Int), .int by_] ∧ At H q c ∧ 2 ≤ n ∧ n ≤ 1000 ∧ by_.natAbs ≤ 1000 ∧
  ∀ r G pl, Same H G → PairsT G r pl → Wks (lineC c st n) ((List.range by_.natAbs).map (alongP c st n by_)) pl (lineC (atL c st by_) st n) → Q (.ref r) G
section
variable {P : Program} {w : World} {K : PySem.W.Frag} {mg : Str → Option Value} {base : Heap}
theorem scCr : FnScope ["first", "n", "by"] ["first", "n", "by"] (defScope gCrawl) := ⟨rfl, rfl, rfl, by decide +kernel, rfl, by decide +kernel, by decide +kernel⟩
theorem ok_crawl {f CB ea : Addr} {fd : FuncData} (F : FnP K "crawl" gCrawl f fd) (EC : EastC K mg ea) (DC : Df P w K mg base (L2.CX P w) 3 "checked_cell" ["value"] (spChecked K CB)) (DN : Df P w K mg base (L2.CX P w) 2 "checked_many" ["n", "least"] spMany) (DB : Df P w K mg base (L2.CX P w) 2 "checked_by" ["by"] spBy) (DA : Df P w K mg base CX0 6 "along" ["first", "step", "many", "by"] (spAlong K)) :
    FnOk P w K mg base CX0 7 f fd ["first", "n", "by"] (spCrawl (1, 0)) := by
  refine F.ok scCr (fun vs H Q E h => ?_) (fun cdv A outer s H vs Q E hr h => ?_)
  · obtain ⟨q, n, by_, c, rfl, _⟩ := h
    rfl
  · obtain ⟨q, n, by_, c, rfl, aq, n1, ln, lb, k⟩ := h
    refine ⟨_, PSs.nox (pss_one (ps_ret (pe_df DA hr (by rfl) pass0 (pa_cons (pe_df DC hr (by rfl) (passes_call (W := fun _ _ _ _ => False) (E := fun _ _ _ => False) takes0 (fun _ _ _ _ h => h)) (pa_cons (pv 0) pa_nil)) (pa_cons (pe_glob (v := .ref ea) (by rfl) EC.g rfl) (pa_cons (pe_df DN hr (by rfl) (passes_call (W := fun _ _ _ _ => False) (E := fun _ _ _ => False) takes0 (fun _ _ _ _ h => h)) (pa_cons (pv 1) (pa_cons pe_int pa_nil))) (pa_cons (pe_df DB hr (by rfl) (passes_call (W := fun _ _ _ _ => False) (E := fun _ _ _ => False) takes0 (fun _ _ _ _ h => h)) (pa_cons (pv 2) pa_nil)) pa_nil))))))), ?_⟩
    refine ⟨_, rfl, _, rfl, .inl ⟨q, c, rfl, aq, fun q1 hq1 => ?_⟩⟩
    have s1 := same_new (o := .tup (cV c)) hq1
    refine ⟨_, rfl, _, _, rfl, by omega, _, rfl, _, rfl, ?_⟩
    exact ⟨q1, ea, n, by_, c, (1, 0), rfl, upd_same, fun G _ => EC.t G, .inl rfl, n1, ln, lb, fun r G pl s2 pt wk => k r G pl (s1.trans s2) pt wk⟩
theorem scCl : FnScope ["first", "n", "by"] ["first", "n", "by"] (defScope gClimb) := ⟨rfl, rfl, rfl, by decide +kernel, rfl, by decide +kernel, by decide +kernel⟩
theorem ok_climb {f CB na : Addr} {fd : FuncData} (F : FnP K "climb" gClimb f fd) (NC : NorthC K mg na) (DC : Df P w K mg base (L2.CX P w) 3 "checked_cell" ["value"] (spChecked K CB)) (DN : Df P w K mg base (L2.CX P w) 2 "checked_many" ["n", "least"] spMany) (DB : Df P w K mg base (L2.CX P w) 2 "checked_by" ["by"] spBy) (DA : Df P w K mg base CX0 6 "along" ["first", "step", "many", "by"] (spAlong K)) :
    FnOk P w K mg base CX0 7 f fd ["first", "n", "by"] (spCrawl (0, 1)) := by
  refine F.ok scCl (fun vs H Q E h => ?_) (fun cdv A outer s H vs Q E hr h => ?_)
  · obtain ⟨q, n, by_, c, rfl, _⟩ := h
    rfl
  · obtain ⟨q, n, by_, c, rfl, aq, n1, ln, lb, k⟩ := h
    refine ⟨_, PSs.nox (pss_one (ps_ret (pe_df DA hr (by rfl) pass0 (pa_cons (pe_df DC hr (by rfl) (passes_call (W := fun _ _ _ _ => False) (E := fun _ _ _ => False) takes0 (fun _ _ _ _ h => h)) (pa_cons (pv 0) pa_nil)) (pa_cons (pe_glob (v := .ref na) (by rfl) NC.g rfl) (pa_cons (pe_df DN hr (by rfl) (passes_call (W := fun _ _ _ _ => False) (E := fun _ _ _ => False) takes0 (fun _ _ _ _ h => h)) (pa_cons (pv 1) (pa_cons pe_int pa_nil))) (pa_cons (pe_df DB hr (by rfl) (passes_call (W := fun _ _ _ _ => False) (E := fun _ _ _ => False) takes0 (fun _ _ _ _ h => h)) (pa_cons (pv 2) pa_nil)) pa_nil))))))), ?_⟩
    refine ⟨_, rfl, _, rfl, .inl ⟨q, c, rfl, aq, fun q1 hq1 => ?_⟩⟩
    have s1 := same_new (o := .tup (cV c)) hq1
    refine ⟨_, rfl, _, _, rfl, by omega, _, rfl, _, rfl, ?_⟩
    exact ⟨q1, na, n, by_, c, (0, 1), rfl, upd_same, fun G _ => NC.t G, .inr rfl, n1, ln, lb, fun r G pl s2 pt wk => k r G pl (s1.trans s2) pt wk⟩
end
end Sq

set_option Elab.async false
set_option linter.all false
set_option maxRecDepth 100000
set_option maxHeartbeats 1000000
/-! A row stands up, a column lies down: all its walks. -/
namespace Sq
open PySem PySem.Spec PyProof.Rows L2
def upsP (c : Cell) (m : Nat) (i : Nat) : CellP := ((c.1 + (i : Int), c.2), (c.1 + (m : Int), c.2 + ((i + 1 : Nat) : Int)))
def downsP (c : Cell) (m : Nat) (i : Nat) : CellP := ((c.1, c.2 + ((m : Int) - (i : Int))), (c.1 + ((i + 1 : Nat) : Int), c.2))
theorem stand_can (c : Cell) (m : Nat) : CanW (lineC c (1, 0) (m + 1)) ((List.range m).map (upsP c m)) (lineC (c.1 + (m : Int), c.2) (0, 1) (m + 1)) := by
  have key := canW_range (n := m) (B := fun i => rowCol (c.1 + (i : Int), c.2) (m - i) (i + 1)) (f := upsP c m) (fun i hi => by
    obtain ⟨j, hj⟩ : ∃ j, m - i = j + 1 := ⟨m - i - 1, by omega⟩
    have := stand_on (c := (c.1 + (i : Int), c.2)) (m := j) (k := i + 1) (by omega)
    have e1 : (((c.1 + (i : Int), c.2) : Cell).1 + ((j + 1 : Nat) : Int), ((c.1 + (i : Int), c.2) : Cell).2 + ((i + 1 : Nat) : Int)) = (c.1 + (m : Int), c.2 + ((i + 1 : Nat) : Int)) := by
      refine Prod.ext ?_ ?_ <;> dsimp only <;> omega
    have e2 : (((c.1 + (i : Int), c.2) : Cell).1 + 1, ((c.1 + (i : Int), c.2) : Cell).2) = (c.1 + ((i + 1 : Nat) : Int), c.2) := by
      refine Prod.ext ?_ ?_ <;> dsimp only <;> omega
    rw [e1, e2] at this
    rw [hj, show m - (i + 1) = j by omega]
    exact this)
  have b0 : rowCol (c.1 + ((0 : Nat) : Int), c.2) (m - 0) (0 + 1) = lineC c (1, 0) (m + 1) := by
    rw [show ((c.1 + ((0 : Nat) : Int), c.2) : Cell) = c from by refine Prod.ext ?_ ?_ <;> simp, line_snoc]
    unfold rowCol
    congr 1
    unfold lineC
    simp
  have bm : rowCol (c.1 + (m : Int), c.2) (m - m) (m + 1) = lineC (c.1 + (m : Int), c.2) (0, 1) (m + 1) := by
    rw [Nat.sub_self]
    unfold rowCol
    rw [show lineC (c.1 + (m : Int), c.2) (1, 0) 0 = [] from rfl, List.nil_append]
    congr 1
    refine Prod.ext ?_ ?_ <;> simp
  rw [b0, bm] at key
  exact key
theorem lie_can (c : Cell) (m : Nat) : CanW (lineC c (0, 1) (m + 1)) ((List.range m).map (downsP c m)) (lineC c (1, 0) (m + 1)) := by
  have key := canW_range (n := m) (B := fun i => colRow c (m + 1 - i) i) (f := downsP c m) (fun i hi => by
    obtain ⟨j, hj⟩ : ∃ j, m - i = j + 1 := ⟨m - i - 1, by omega⟩
    have := lie_on (c := c) (m := j + 1) (k := i) (by omega)
    unfold downsP
    dsimp only
    rw [show m + 1 - i = j + 1 + 1 by omega, show m + 1 - (i + 1) = j + 1 by omega, show (m : Int) - (i : Int) = ((j + 1 : Nat) : Int) by omega]
    exact this)
  have b0 : colRow c (m + 1 - 0) 0 = lineC c (0, 1) (m + 1) := by
    unfold colRow
    rw [show lineC (c.1 + 1, c.2) (1, 0) 0 = [] from rfl, List.append_nil, Nat.sub_zero]
  have bm : colRow c (m + 1 - m) m = lineC c (1, 0) (m + 1) := by
    rw [show m + 1 - m = 1 by omega, line_cons]
    unfold colRow
    rw [show lineC c (0, 1) 1 = [c] from by unfold lineC; simp]
    dsimp only
    rw [Int.add_zero]
    rfl
  rw [b0, bm] at key
  exact key
end Sq

set_option Elab.async false
set_option linter.all false
set_option maxRecDepth 100000
set_option maxHeartbeats 2000000
/-! The program: a body on its way (Trail). -/
namespace Sq
open PySem PySem.Spec PyProof.Rows L2
structure StepF (K : PySem.W.Frag) (C : Addr) : Prop where
  cls : Cls K C
  l : NoAttr K C "lot"
  m : NoAttr K C "moves"
/-- an instance with a lot and a list of moves -/
def TrailV (C : Addr) (H : Hp) (t d fo : Addr) : Prop := ∃ dx fs, H t = some (.ins C dx fs) ∧ fs.lookup ("go" : Str) = none ∧ fs.lookup ("lot" : Str) = some (.ref d) ∧ fs.lookup ("moves" : Str) = some (.ref fo)
abbrev gTrailI : Stmt := inClass cTrail 0
abbrev gTrailG : Stmt := inClass cTrail 1
abbrev trN : List Str := ["self", "squares", "square"]
def spTrailI (C : Addr) : Sp := fun vs H Q _ => ∃ (x dx t : Addr) (L : List Cell), vs = [.ref x, .ref t] ∧ H x = some (.ins C dx []) ∧ CellsT H t L ∧ L.Nodup ∧ L.length ≤ 1000 ∧
  ∀ d fo H', (∀ b o, b ≠ x → H b = some o → H' b = some o) → H d = none → H fo = none → TrailV C H' x d fo → H' d = some (.dT (lotK L)) → H' fo = some (.lst []) → Q .non H'
section
variable {P : Program} {w : World} {K : PySem.W.Frag} {mg : Str → Option Value} {base : Heap}
theorem scTrI : FnScope trN ["self", "squares"] (defScope gTrailI) := ⟨rfl, rfl, rfl, by decide +kernel, rfl, by decide +kernel, by decide +kernel⟩
theorem ok_stepI {f C : Addr} {fd : FuncData} (F : FunD K "__init__" "Trail.__init__" (defArgs gTrailI) (defBody gTrailI) (defScope gTrailI) [] [] f fd) (SF : StepF K C) : FnOk P w K mg base CX0 1 f fd ["self", "squares"] (spTrailI C) := by
  refine F.ok scTrI (fun vs H Q E h => ?_) (fun cdv A outer s H vs Q E hr h => ?_)
  · obtain ⟨x, dx, t, L, rfl, _⟩ := h
    rfl
  · obtain ⟨x, dx, t, L, rfl, ex, ⟨qs, et, pr⟩, nd, big, k⟩ := h
    refine ⟨_, PSs.nox (pss_cons (ps_fld (pv 0) (pe_dct (o0 := .dT []) (own := [("square", 2)]) (g := gName 2) (tt := tYes) (.inr rfl) rfl (hu_of hr) scTrI.nd (pi_tup (pv 1)) (blkOk_by (N := trN) (sc := defScope gTrailI) (by decide +kernel)) (fun _ _ _ _ _ => pg_name (i := 2) scTrI.nd rfl (Or.inl rfl)) (fun _ _ _ _ _ => pts_nil)
      (fun _ _ _ _ _ => pv 2) (fun _ _ _ _ _ => pe_bl)) (by rfl)) (pss_one (ps_fld (pv 0) (pe_lst pa_nil) (by rfl)))), ?_⟩
    refine ⟨_, rfl, t, rfl, ⟨_, SqT.of et⟩, fun D hD => dct_it (walk_tup (K := K) (a := t) (xs := qs.map V.ref)) (fun i G => Same H G ∧ G D = some (.dT (lotK (L.take i)))) ⟨same_new hD, upd_same⟩ (fun i G _ p => SqT.of (p.1 _ _ et)) ?_ ?_⟩
    · rintro i y G G' hi ⟨sm, gd⟩ ⟨rfl, hx⟩
      rw [List.getElem?_map] at hx
      obtain ⟨q, hq, rfl⟩ := Option.map_eq_some_iff.mp hx
      obtain ⟨c, hc, ac⟩ := paired_get pr hq
      have out : c ∉ L.take i := nodup_take nd hc
      refine ⟨rfl, yesT ⟨_, rfl, _, dput_lot gd (ac.same sm) out (by rw [List.length_take, sizeLine_eq]; omega), fun b u e => ?_, ?_⟩⟩
      · have hb : b ≠ D := fun z => by rw [z, hD] at e; cases e
        rw [upd_ne hb]
        exact sm b u e
      · rw [upd_same, take_snoc hc]
    · rintro G ⟨sm, gd⟩
      have el : (qs.map V.ref).length = L.length := by rw [List.length_map]; exact Paired.length pr
      rw [el, List.take_length] at gd
      refine ⟨_, rfl, x, C, dx, [], rfl, sm _ _ ex, SF.cls, SF.l, by decide, ?_⟩
      have ed1 : D ≠ x := fun z => by rw [z, ex] at hD; cases hD
      refine ⟨Nat.zero_le _, fun fo hfo => ?_⟩
      have fx : fo ≠ x := fun z => by rw [z, upd_same] at hfo; cases hfo
      have hfG : G fo = none := by rw [upd_ne fx] at hfo; exact hfo
      have fD : fo ≠ D := fun z => by rw [z, gd] at hfG; cases hfG
      refine ⟨_, rfl, x, C, dx, _, rfl, by rw [upd_ne (Ne.symm fx)]; exact upd_same, SF.cls, SF.m, (by have a1 := length_putF "lot" (V.ref D) []; simp only [List.length_nil] at a1; omega), ?_⟩
      refine k D fo _ (fun b o hb e => ?_) hD (sm.free hfG) ⟨dx, _, upd_same, ?_, ?_, ?_⟩ ?_ ?_
      · rw [upd_ne hb, upd_ne (fun z => by rw [z, sm.free hfG] at e; cases e), upd_ne hb]
        exact sm _ _ e
      · simp only [lookup_putF]
        rw [if_neg (by decide), if_neg (by decide)]
        rfl
      · simp only [lookup_putF]
        rw [if_neg (by decide)]
        exact if_pos trivial
      · simp only [lookup_putF]
        exact if_pos trivial
      · rw [upd_ne ed1, upd_ne (Ne.symm fD), upd_ne ed1]
        exact gd
      · rw [upd_ne fx]
        exact upd_same
end
structure MkS (P : Program) (w : World) (K : PySem.W.Frag) (mg : Str → Option Value) (base : Heap) (C : Addr) : Prop where
  ex : ∃ (f : Addr) (fd : FuncData), Mk K C f ∧ FnOk P w K mg base CX0 1 f fd ["self", "squares"] (spTrailI C) ∧ mg "Trail" = some (.ref C) ∧ Binds K fd ["self", "squares"] []
section
variable {X : Cx} {j : Nat} {C : Addr} {p pos : Pos} {e : Expr} {es : List Expr} {t : TA}
theorem pe_trail (M : MkS X.prog X.w X.K X.mg X.base C) (hr : Room j X.A) (hg : Gl X "Trail") (ha : PA X (e :: es) t) (hj : 2 ≤ j := by decide)
    (he : starEach (e :: es) X.env = (false, eval e X.env) :: starEach es X.env := by rfl) (hpl : (backTo pos (starEach es X.env)).any (·.1) = false := by rfl) :
    PE X (.Call (.Name "Trail" p) (e :: es) [] pos) (tMake C (spTrailI C) [] E0 t) := by
  obtain ⟨f, fd, mk, F, hm, b⟩ := M.ex
  exact pe_make (E := E0) mk F (hr.mono hj) hg hm b .nil pass0 ha (by decide) he hpl
end
theorem trail_one {C : Addr} {H : Hp} {QQ : VK} {E : XK} {t : Addr} {L : List Cell} {x dx : Addr} (ct : CellsT H t L) (nL : L.Nodup) (lL : L.length ≤ 1000) (hx : H x = none) (hdx : H dx = none)
    (k : ∀ d fo H', Same H H' → H x = none → H d = none → H fo = none → TrailV C H' x d fo → H' d = some (.dT (lotK L)) → H' fo = some (.lst []) → QQ .non H') :
    spTrailI C (.ref x :: ([.ref t] ++ [])) (upd (upd H dx (.own x)) x (.ins C dx [])) QQ E := by
  have s1 : Same H (upd (upd H dx (.own x)) x (.ins C dx [])) := same_put (same_new hdx) hx
  refine ⟨x, dx, t, L, rfl, upd_same, ct.ek (.of s1), nL, lL, fun d fo H' kp hd hf tv ed ef => ?_⟩
  exact k d fo H' (fun b o e => kp b o (fun z => by rw [z, hx] at e; cases e) (s1 _ _ e)) hx (s1.free hd) (s1.free hf) tv ed ef
/-! ### a step on the way -/
def spTrailG (C : Addr) : Sp := fun vs H Q _ => ∃ (t d fo qs qe : Addr) (L : List Cell) (s e : Cell) (rs : List Addr), vs = [.ref t, .ref qs, .ref qe] ∧ TrailV C H t d fo ∧ H d = some (.dT (lotK L)) ∧ H fo = some (.lst (rs.map V.ref)) ∧ rs.length ≤ 1000000 ∧ L.Nodup ∧ L.length ≤ 1000 ∧ Hangs L ∧ At H qs s ∧ At H qe e ∧ HasW L s e ∧ e ∉ L ∧
  ∀ H' ms zs, (∀ b o, b ≠ d → b ≠ fo → H b = some o → H' b = some o) → H' d = some (.dT (lotK (without L s ++ [e]))) → H' fo = some (.lst ((rs ++ zs).map V.ref)) → Paired (fun r m => PairAt H' r m) zs ms → WalkIs L s e ms → Q .non H'
section
variable {P : Program} {w : World} {K : PySem.W.Frag} {mg : Str → Option Value} {base : Heap}
theorem scTrG : FnScope ["self", "start", "end"] ["self", "start", "end"] (defScope gTrailG) := ⟨rfl, rfl, rfl, by decide +kernel, rfl, by decide +kernel, by decide +kernel⟩
theorem ok_go {f C : Addr} {fd : FuncData} (F : FunD K "go" "Trail.go" (defArgs gTrailG) (defBody gTrailG) (defScope gTrailG) [] [] f fd) (SF : StepF K C) (DW : Df P w K mg base CX0 5 "walk_in" ["lot", "start", "end"] spWalkIn) (DP : Df P w K mg base CX0 1 "put" ["lot", "start", "end"] spPut) : FnOk P w K mg base CX0 6 f fd ["self", "start", "end"] (spTrailG C) := by
  refine F.ok scTrG (fun vs H Q E h => ?_) (fun cdv A outer s H vs Q E hr h => ?_)
  · obtain ⟨t, d, fo, qs, qe, L, a, b, rs, rfl, _⟩ := h
    rfl
  · obtain ⟨t, d, fo, qs, qe, L, a, b, rs, rfl, ⟨dx, fs, et, lg, ll, lm⟩, ed, ef, lrs, nL, lL, hang, aqs, aqe, hw, eL, k⟩ := h
    refine ⟨_, PSs.nox (pss_cons (ps_expr (pe_bm PySem.F.plainAttrs_list PySem.F.slot_list_extend PySem.F.type_list_extend mt_extendT (pe_fld (pv 0) rfl) (pa_cons (pe_df DW hr (by rfl) pass0 (pa_cons (pe_fld (pv 0) rfl) (pa_cons (pv 1) (pa_cons (pv 2) pa_nil)))) pa_nil)))
      (pss_one (ps_expr (pe_df DP hr (by rfl) pass0 (pa_cons (pe_fld (pv 0) rfl) (pa_cons (pv 1) (pa_cons (pv 2) pa_nil))))))), ?_⟩
    refine ⟨_, rfl, t, C, dx, fs, _, rfl, et, SF.cls, SF.m, lm, .inl ⟨rfl, _, SqL.of ef⟩, ?_⟩
    refine ⟨_, rfl, t, C, dx, fs, _, rfl, et, SF.cls, SF.l, ll, _, rfl, _, rfl, d, qs, qe, L, a, b, rfl, ed, nL, lL, hang, aqs, aqe, fun _ _ no => ?_, fun r G ms Dd sm sL pt dst _ wp => ?_⟩
    · rcases no with h | h
      · exact absurd hw.1 h
      · exact absurd hw.2 h
    have wi : WalkIs L a b ms := ⟨Dd, dst, wp⟩
    have lms := walk_small wi nL hang sL
    obtain ⟨zs, er, pz⟩ := pt
    have lzs : zs.length = ms.length := Paired.length pz
    have ef1 := sm _ _ ef
    refine ⟨fo, r, _, _, rfl, rfl, ef1, er, by rw [List.length_map, List.length_map, sizeLine_eq]; omega, ?_⟩
    have df : d ≠ fo := fun z => by rw [z, ef] at ed; cases ed
    have tf : t ≠ fo := fun z => by rw [z, ef] at et; cases et
    have tk : Tk G (upd G fo (.lst (rs.map V.ref ++ zs.map V.ref))) := tk_upd ef1 fun _ z => nomatch z
    have ed1 : upd G fo (.lst (rs.map V.ref ++ zs.map V.ref)) d = some (.dT (lotK L)) := by rw [upd_ne df]; exact sm _ _ ed
    refine ⟨_, rfl, t, C, dx, fs, _, rfl, by rw [upd_ne tf]; exact sm _ _ et, SF.cls, SF.l, ll, _, rfl, _, rfl, d, qs, qe, L, a, b, rfl, ed1, nL, lL, sL, eL, (aqs.same sm).tk tk, (aqe.same sm).tk tk, ?_⟩
    have tk2 : Tk (upd G fo (.lst (rs.map V.ref ++ zs.map V.ref))) (upd (upd G fo (.lst (rs.map V.ref ++ zs.map V.ref))) d (.dT (lotK (without L a ++ [b])))) := tk_upd ed1 fun _ z => nomatch z
    refine k _ ms zs (fun y o yd yf e => ?_) upd_same ?_ (paired_imp (fun _ _ h => (PairAt.keep h tk).keep tk2) pz) wi
    · rw [upd_ne yd, upd_ne yf]
      exact sm _ _ e
    · rw [upd_ne (Ne.symm df), upd_same, List.map_append]
end
structure GoS (P : Program) (w : World) (K : PySem.W.Frag) (mg : Str → Option Value) (base : Heap) (C : Addr) : Prop where
  ex : ∃ (f : Addr) (fd : FuncData), Meth K C "go" f ∧ FnOk P w K mg base CX0 6 f fd ["self", "start", "end"] (spTrailG C) ∧ Binds K fd ["self", "start", "end"] []
/-- on the way, i walks made -/
structure TrOn (C : Addr) (H G : Hp) (t d fo : Addr) (L N : List Cell) (Ps : List CellP) (i : Nat) : Prop where
  ex : ∃ (rs : List Addr) (pl : List CellP) (Lc M : List Cell), Same H G ∧ TrailV C G t d fo ∧ G d = some (.dT (lotK Lc)) ∧ G fo = some (.lst (rs.map V.ref)) ∧ Paired (fun r m => PairAt G r m) rs pl ∧ pl.length ≤ L.length * i ∧ Lc.Perm M ∧ M.Nodup ∧ Hangs M ∧ M.length = L.length ∧ Wks L (Ps.take i) pl M ∧ CanW M (Ps.drop i) N
theorem TrOn.same {C : Addr} {H G G' : Hp} {t d fo : Addr} {L N : List Cell} {Ps : List CellP} {i : Nat} (h : TrOn C H G t d fo L N Ps i) (k : Same G G') : TrOn C H G' t d fo L N Ps i := by
  obtain ⟨rs, pl, Lc, M, sm, ⟨dx, fs, et, lg⟩, ed, ef, pr, r⟩ := h.ex
  exact ⟨rs, pl, Lc, M, sm.trans k, ⟨dx, fs, k _ _ et, lg⟩, k _ _ ed, k _ _ ef, paired_imp (fun _ _ h => PairAt.same h k) pr, r⟩
theorem go_step {C : Addr} {H G : Hp} {t d fo qs qe : Addr} {L N : List Cell} {Ps : List CellP} {i : Nat} {s e : Cell} {Q : VK} {E : XK} (h : TrOn C H G t d fo L N Ps i) (hd : H d = none) (hf : H fo = none) (hi : Ps[i]? = some (s, e)) (ne : s ≠ e) (as : At G qs s) (ae : At G qe e) (lL : L.length ≤ 1000) (li : i ≤ 1000)
    (k : ∀ G', TrOn C H G' t d fo L N Ps (i + 1) → Q .non G') : spTrailG C (.ref t :: ([.ref qs, .ref qe] ++ [])) G Q E := by
  obtain ⟨rs, pl, Lc, M, sm, tv, ed, ef, pr, lpl, pm, nM, hM, lM, wk, cn⟩ := h.ex
  obtain ⟨dx, fs, et, lg⟩ := id tv
  have iP : i < Ps.length := (List.getElem?_eq_some_iff.mp hi).1
  have edr : Ps.drop i = (s, e) :: Ps.drop (i + 1) := by
    rw [List.drop_eq_getElem_cons iP]
    congr 1
    exact (List.getElem?_eq_some_iff.mp hi).2
  rw [edr] at cn
  obtain ⟨hw, M', nb, cn'⟩ := cn.split
  have sM := hw.1
  have me : ∀ x, x ∈ Lc ↔ x ∈ M := fun x => pm.mem_iff
  have eM : e ∉ M := fun z => by
    have := (nb.2.2.nodup_iff.mp nb.2.1)
    exact (List.nodup_append.mp this).2.2 e (mem_without.mpr ⟨z, Ne.symm ne⟩) e (List.mem_singleton.mpr rfl) rfl
  have lrs : rs.length = pl.length := Paired.length pr
  have lb : L.length * i ≤ 1000 * 1000 := Nat.mul_le_mul lL li
  have lLc : Lc.length = L.length := by rw [pm.length_eq, lM]
  refine ⟨t, d, fo, qs, qe, Lc, s, e, rs, rfl, tv, ed, ef, by omega, pm.nodup_iff.mpr nM, by omega, (hangs_perm me).mpr hM, as, ae, (hasW_cong me).mpr hw, fun z => eM ((me _).mp z), fun G' ms zs kp ed' ef' pz wi => ?_⟩
  have wi' := (walk_cong me).mp wi
  have lms := walk_small wi' nM hM sM
  obtain ⟨hM', lM'⟩ := nb.hangs wi' nM hM sM
  have df : d ≠ t := fun z => by rw [z, et] at ed; cases ed
  have ff : fo ≠ t := fun z => by rw [z, et] at ef; cases ef
  have tk : Tk G G' := fun b xs q => kp b _ (fun z => by rw [z, ed] at q; cases q) (fun z => by rw [z, ef] at q; cases q) q
  have wn : Wks M [(s, e)] ms M' := by
    have := Wks.cons hw wi' nb .nil
    rwa [List.append_nil] at this
  refine k G' ⟨rs ++ zs, pl ++ ms, without Lc s ++ [e], M', fun b o q => kp b o (fun z => by rw [z, hd] at q; cases q) (fun z => by rw [z, hf] at q; cases q) (sm _ _ q), ⟨dx, fs, kp _ _ (Ne.symm df) (Ne.symm ff) et, lg⟩, ed', ef', paired_app (paired_imp (fun _ _ h => PairAt.keep h tk) pr) pz, ?_, ?_, nb.2.1, hM', by omega, ?_, cn'⟩
  · rw [List.length_append, Nat.mul_succ]
    omega
  · refine .trans ?_ nb.2.2.symm
    exact .append_right _ (by unfold without; exact pm.filter _)
  · rw [take_snoc hi]
    exact wk.app wn
end Sq

set_option Elab.async false
set_option linter.all false
set_option maxRecDepth 100000
set_option maxHeartbeats 2000000
/-! The program: a row stands up, a column lies down. -/
namespace Sq
open PySem PySem.Spec PyProof.Rows L2
def spTrl (A : Cell → Nat → List Cell) (f : Cell → Nat → Nat → CellP) (N : Cell → Nat → List Cell) : Sp := fun vs H Q _ => ∃ (q : Addr) (m : Nat) (c : Cell), vs = [.ref q, .int ((m + 1 : Nat) : Int)] ∧ At H q c ∧ 1 ≤ m ∧ m + 1 ≤ 1000 ∧
  ∀ r G pl, Same H G → PairsT G r pl → pl.length ≤ (m + 1) * m → Wks (A c m) ((List.range m).map (f c m)) pl (N c m) → Q (.ref r) G
abbrev spStand : Sp := spTrl (fun c m => lineC c (1, 0) (m + 1)) upsP (fun c m => lineC (c.1 + (m : Int), c.2) (0, 1) (m + 1))
abbrev spLie : Sp := spTrl (fun c m => lineC c (0, 1) (m + 1)) downsP (fun c m => lineC c (1, 0) (m + 1))
theorem TrOn.start {C : Addr} {H G : Hp} {t d fo : Addr} {L N : List Cell} {Ps : List CellP} (sm : Same H G) (tv : TrailV C G t d fo) (ed : G d = some (.dT (lotK L))) (ef : G fo = some (.lst [])) (nL : L.Nodup) (hL : Hangs L) (cn : CanW L Ps N) : TrOn C H G t d fo L N Ps 0 :=
  ⟨[], [], L, L, sm, tv, ed, ef, .nil, Nat.zero_le _, .refl _, nL, hL, rfl, .nil, cn⟩
theorem TrOn.done {C : Addr} {H G : Hp} {t d fo : Addr} {L N : List Cell} {Ps : List CellP} {i : Nat} (h : TrOn C H G t d fo L N Ps i) (hi : i = Ps.length) : ∃ (dx : Addr) (fs : List (Str × V)) (rs : List Addr) (pl : List CellP), Same H G ∧ G t = some (.ins C dx fs) ∧ fs.lookup ("moves" : Str) = some (.ref fo) ∧ G fo = some (.lst (rs.map V.ref)) ∧ Paired (fun r m => PairAt G r m) rs pl ∧ pl.length ≤ L.length * i ∧ Wks L Ps pl N := by
  obtain ⟨rs, pl, Lc, M, sm, ⟨dx, fs, et, _, _, lm⟩, ed, ef, pr, lpl, pm, nM, hM, lM, wk, cn⟩ := h.ex
  rw [hi, List.drop_length] at cn
  rw [hi, List.take_length] at wk
  cases cn with
  | nil => exact ⟨dx, fs, rs, pl, sm, et, lm, ef, pr, lpl, wk⟩
theorem range_at {α : Type} {f : Nat → α} {m i : Nat} (h : i < m) : ((List.range m).map f)[i]? = some (f i) := by
  rw [List.getElem?_map, List.getElem?_range h]
  rfl
section
variable {P : Program} {w : World} {K : PySem.W.Frag} {mg : Str → Option Value} {base : Heap}
abbrev stdN : List Str := ["first", "n", "column", "row", "many", "trail", "k"]
theorem scStd : FnScope stdN ["first", "n"] (defScope gStand) := ⟨rfl, rfl, rfl, by decide +kernel, rfl, by decide +kernel, by decide +kernel⟩
theorem ok_stand {f CB C ea : Addr} {fd : FuncData} (F : FnP K "stand" gStand f fd) (B : Bl mg) (EC : EastC K mg ea) (SF : StepF K C) (M : MkS P w K mg base C) (GM : GoS P w K mg base C) (DC : Df P w K mg base (L2.CX P w) 3 "checked_cell" ["value"] (spChecked K CB)) (DN : Df P w K mg base (L2.CX P w) 2 "checked_many" ["n", "least"] spMany) (DL : Df P w K mg base CX0 1 "line_from" ["first", "step", "many"] (spLine K)) :
    FnOk P w K mg base CX0 7 f fd ["first", "n"] spStand := by
  obtain ⟨fG, fdG, mG, FG, bG⟩ := GM.ex
  refine F.ok scStd (fun vs H Q E h => ?_) (fun cdv A outer s H vs Q E hr h => ?_)
  · obtain ⟨q, m, c, rfl, _⟩ := h
    rfl
  · obtain ⟨q, m, c, rfl, aq, m1, lm, k⟩ := h
    refine ⟨_, PSs.nox (pss_cons (ps_asg (pe_df DC hr (by rfl) (passes_call (W := fun _ _ _ _ => False) (E := fun _ _ _ => False) takes0 (fun _ _ _ _ h => h)) (pa_cons (pv 0) pa_nil)) (pg_tup (by rfl) (pgs_cons (pg_name (i := 2) scStd.nd rfl (.inl rfl)) (pgs_cons (pg_name (i := 3) scStd.nd rfl (.inl rfl)) pgs_nil))))
      (pss_cons (ps_set (i := 4) scStd.nd rfl (.inl rfl) (pe_df DN hr (by rfl) (passes_call (W := fun _ _ _ _ => False) (E := fun _ _ _ => False) takes0 (fun _ _ _ _ h => h)) (pa_cons (pv 1) (pa_cons pe_int pa_nil))))
      (pss_cons (ps_set (i := 5) scStd.nd rfl (.inl rfl) (pe_trail M hr (by rfl) (pa_cons (pe_df DL hr (by rfl) pass0 (pa_cons (pe_tup (pa_cons (pv 2) (pa_cons (pv 3) pa_nil))) (pa_cons (pe_glob (v := .ref ea) (by rfl) EC.g rfl) (pa_cons (pv 4) pa_nil)))) pa_nil)))
      (pss_cons (ps_for PassesOwn.never rfl (pi_range2 (by rfl) B.range (pa_cons pe_int (pa_cons (pv 4) pa_nil))) (pg_name (i := 6) scStd.nd rfl (.inl rfl))
      (pss_one (ps_expr (pe_meth (E := E0) (pv 5) SF.cls mG FG hr bG .nil pass0 (pa_cons (pe_tup (pa_cons (pe_op op_sub (pe_op op_add (pv 2) (pv 6)) pe_int) (pa_cons (pv 3) pa_nil))) (pa_cons (pe_tup (pa_cons (pe_op op_sub (pe_op op_add (pv 2) (pv 4)) pe_int) (pa_cons (pe_op op_add (pv 3) (pv 6)) pa_nil))) pa_nil))))))
      (pss_one (ps_ret (pe_tupleOf (by rfl) B.tuple (pe_fld (pv 5) rfl)))))))), ?_⟩
    refine ⟨_, rfl, _, rfl, .inl ⟨q, c, rfl, aq, fun q1 hq1 => ?_⟩⟩
    have s1 := same_new (o := .tup (cV c)) hq1
    have e1 := upd_same (H := H) (a := q1) (o := HO.tup (cV c))
    generalize upd H q1 (.tup (cV c)) = H1 at s1 e1
    refine ⟨q1, _, rfl, SqT.of e1, rfl, _, _, rfl, _, _, rfl, rfl, ?_⟩
    refine ⟨_, rfl, _, _, rfl, by omega, ?_⟩
    refine ⟨_, rfl, _, rfl, two_le, fun u hu => ?_⟩
    have s2 := same_new (o := HO.tup [.int c.1, .int c.2]) hu
    have au : At (upd H1 u (HO.tup [.int c.1, .int c.2])) u c := upd_same
    generalize upd H1 u (HO.tup [.int c.1, .int c.2]) = H2 at s2 au
    refine ⟨_, rfl, u, ea, m + 1, c, (1, 0), rfl, au, fun G _ => EC.t G, by decide, by decide, lm, fun t1 G1 s3 _ c1 => ?_⟩
    have s13 := (s1.trans s2).trans s3
    intro x dx hx hdx _
    refine trail_one c1 (line_asc (.inl rfl) _).2 (by rw [line_len]; omega) hx hdx fun d fo G2 s4 hx' hd hf tv ed ef => ⟨rfl, ?_⟩
    have hd0 := s13.free hd
    have hf0 := s13.free hf
    have t0 : TrOn C H G2 x d fo (lineC c (1, 0) (m + 1)) (lineC (c.1 + (m : Int), c.2) (0, 1) (m + 1)) ((List.range m).map (upsP c m)) 0 := .start (s13.trans s4) tv ed ef (line_asc (.inl rfl) _).2 (line_hangs (.inl rfl) (by omega)) (stand_can c m)
    refine ⟨_, rfl, 1, _, rfl, ⟨by decide, by decide, by omega, by omega⟩, ?_⟩
    have en : (((m + 1 : Nat) : Int) - 1).toNat = m := by omega
    refine for_range (lo := 1) (n := (((m + 1 : Nat) : Int) - 1).toNat) (fun i σ G => ∃ v6 : Option V, σ = [some (.ref q), some (.int ((m + 1 : Nat) : Int)), some (.int c.1), some (.int c.2), some (.int ((m + 1 : Nat) : Int)), some (.ref x), v6] ∧ TrOn C H G x d fo (lineC c (1, 0) (m + 1)) (lineC (c.1 + (m : Int), c.2) (0, 1) (m + 1)) ((List.range m).map (upsP c m)) i)
      ⟨none, rfl, t0⟩ ?_ ?_
    · rintro i σ G hi ⟨v6, rfl, tr⟩
      rw [en] at hi
      obtain ⟨_, _, _, _, _, ⟨dx', fs, et, lg, _⟩, _⟩ := id tr.ex
      refine ⟨_, rfl, x, dx', fs, rfl, et, lg, ?_⟩
      refine ⟨_, rfl, _, rfl, _, _, rfl, rfl, _, _, rfl, rfl, _, rfl, two_le, fun u1 hu1 => ?_⟩
      have s5 := same_new (o := HO.tup [.int (c.1 + (1 + (i : Int)) - 1), .int c.2]) hu1
      have a1 : At (upd G u1 (HO.tup [.int (c.1 + (1 + (i : Int)) - 1), .int c.2])) u1 (c.1 + (1 + (i : Int)) - 1, c.2) := upd_same
      generalize upd G u1 (HO.tup [.int (c.1 + (1 + (i : Int)) - 1), .int c.2]) = G5 at s5 a1
      refine ⟨_, rfl, _, rfl, _, _, rfl, rfl, _, _, rfl, rfl, _, rfl, _, rfl, _, _, rfl, rfl, two_le, fun u2 hu2 => ?_⟩
      have s6 := same_new (o := HO.tup [.int (c.1 + ((m + 1 : Nat) : Int) - 1), .int (c.2 + (1 + (i : Int)))]) hu2
      have a2 : At (upd G5 u2 (HO.tup [.int (c.1 + ((m + 1 : Nat) : Int) - 1), .int (c.2 + (1 + (i : Int)))])) u2 (c.1 + ((m + 1 : Nat) : Int) - 1, c.2 + (1 + (i : Int))) := upd_same
      generalize upd G5 u2 (HO.tup [.int (c.1 + ((m + 1 : Nat) : Int) - 1), .int (c.2 + (1 + (i : Int)))]) = G6 at s6 a2
      have hp : ((List.range m).map (upsP c m))[i]? = some ((c.1 + (1 + (i : Int)) - 1, c.2), (c.1 + ((m + 1 : Nat) : Int) - 1, c.2 + (1 + (i : Int)))) := by
        rw [range_at hi]
        unfold upsP
        refine congrArg some (Prod.ext (Prod.ext ?_ ?_) (Prod.ext ?_ ?_)) <;> dsimp only <;> omega
      dsimp only [tNil]
      exact go_step (tr.same (s5.trans s6)) hd0 hf0 hp (fun z => by have := congrArg Prod.snd z; dsimp only at this; omega) (a1.same s6) a2 (by rw [line_len]; omega) (by omega) fun G' t' => ⟨_, rfl, t'⟩
    · rintro σ G ⟨v6, rfl, tr⟩
      rw [en] at tr
      obtain ⟨dx', fs, rs, pl, sm, et, lmv, ef', pr, lpl, wk⟩ := tr.done (by rw [List.length_map, List.length_range])
      refine ⟨_, rfl, x, C, dx', fs, _, rfl, et, SF.cls, SF.m, lmv, .inl ⟨fo, _, rfl, SqL.of ef', fun r2 hr2 => ?_⟩⟩
      have s9 := same_new (o := HO.tup (rs.map V.ref)) hr2
      exact k r2 _ pl (sm.trans s9) ⟨rs, upd_same, paired_imp (fun _ _ h => PairAt.same h s9) pr⟩ (by rw [line_len] at lpl; exact lpl) wk
theorem scLie : FnScope stdN ["first", "n"] (defScope gLie) := ⟨rfl, rfl, rfl, by decide +kernel, rfl, by decide +kernel, by decide +kernel⟩
theorem ok_lie {f CB C na : Addr} {fd : FuncData} (F : FnP K "lie" gLie f fd) (B : Bl mg) (NC : NorthC K mg na) (SF : StepF K C) (M : MkS P w K mg base C) (GM : GoS P w K mg base C) (DC : Df P w K mg base (L2.CX P w) 3 "checked_cell" ["value"] (spChecked K CB)) (DN : Df P w K mg base (L2.CX P w) 2 "checked_many" ["n", "least"] spMany) (DL : Df P w K mg base CX0 1 "line_from" ["first", "step", "many"] (spLine K)) :
    FnOk P w K mg base CX0 7 f fd ["first", "n"] spLie := by
  obtain ⟨fG, fdG, mG, FG, bG⟩ := GM.ex
  refine F.ok scLie (fun vs H Q E h => ?_) (fun cdv A outer s H vs Q E hr h => ?_)
  · obtain ⟨q, m, c, rfl, _⟩ := h
    rfl
  · obtain ⟨q, m, c, rfl, aq, m1, lm, k⟩ := h
    refine ⟨_, PSs.nox (pss_cons (ps_asg (pe_df DC hr (by rfl) (passes_call (W := fun _ _ _ _ => False) (E := fun _ _ _ => False) takes0 (fun _ _ _ _ h => h)) (pa_cons (pv 0) pa_nil)) (pg_tup (by rfl) (pgs_cons (pg_name (i := 2) scLie.nd rfl (.inl rfl)) (pgs_cons (pg_name (i := 3) scLie.nd rfl (.inl rfl)) pgs_nil))))
      (pss_cons (ps_set (i := 4) scLie.nd rfl (.inl rfl) (pe_df DN hr (by rfl) (passes_call (W := fun _ _ _ _ => False) (E := fun _ _ _ => False) takes0 (fun _ _ _ _ h => h)) (pa_cons (pv 1) (pa_cons pe_int pa_nil))))
      (pss_cons (ps_set (i := 5) scLie.nd rfl (.inl rfl) (pe_trail M hr (by rfl) (pa_cons (pe_df DL hr (by rfl) pass0 (pa_cons (pe_tup (pa_cons (pv 2) (pa_cons (pv 3) pa_nil))) (pa_cons (pe_glob (v := .ref na) (by rfl) NC.g rfl) (pa_cons (pv 4) pa_nil)))) pa_nil)))
      (pss_cons (ps_for PassesOwn.never rfl (pi_range2 (by rfl) B.range (pa_cons pe_int (pa_cons (pv 4) pa_nil))) (pg_name (i := 6) scLie.nd rfl (.inl rfl))
      (pss_one (ps_expr (pe_meth (E := E0) (pv 5) SF.cls mG FG hr bG .nil pass0 (pa_cons (pe_tup (pa_cons (pv 2) (pa_cons (pe_op op_sub (pe_op op_add (pv 3) (pv 4)) (pv 6)) pa_nil))) (pa_cons (pe_tup (pa_cons (pe_op op_add (pv 2) (pv 6)) (pa_cons (pv 3) pa_nil))) pa_nil))))))
      (pss_one (ps_ret (pe_tupleOf (by rfl) B.tuple (pe_fld (pv 5) rfl)))))))), ?_⟩
    refine ⟨_, rfl, _, rfl, .inl ⟨q, c, rfl, aq, fun q1 hq1 => ?_⟩⟩
    have s1 := same_new (o := .tup (cV c)) hq1
    have e1 := upd_same (H := H) (a := q1) (o := HO.tup (cV c))
    generalize upd H q1 (.tup (cV c)) = H1 at s1 e1
    refine ⟨q1, _, rfl, SqT.of e1, rfl, _, _, rfl, _, _, rfl, rfl, ?_⟩
    refine ⟨_, rfl, _, _, rfl, by omega, ?_⟩
    refine ⟨_, rfl, _, rfl, two_le, fun u hu => ?_⟩
    have s2 := same_new (o := HO.tup [.int c.1, .int c.2]) hu
    have au : At (upd H1 u (HO.tup [.int c.1, .int c.2])) u c := upd_same
    generalize upd H1 u (HO.tup [.int c.1, .int c.2]) = H2 at s2 au
    refine ⟨_, rfl, u, na, m + 1, c, (0, 1), rfl, au, fun G _ => NC.t G, by decide, by decide, lm, fun t1 G1 s3 _ c1 => ?_⟩
    have s13 := (s1.trans s2).trans s3
    intro x dx hx hdx _
    refine trail_one c1 (line_asc (.inr rfl) _).2 (by rw [line_len]; omega) hx hdx fun d fo G2 s4 hx' hd hf tv ed ef => ⟨rfl, ?_⟩
    have hd0 := s13.free hd
    have hf0 := s13.free hf
    have t0 : TrOn C H G2 x d fo (lineC c (0, 1) (m + 1)) (lineC c (1, 0) (m + 1)) ((List.range m).map (downsP c m)) 0 := .start (s13.trans s4) tv ed ef (line_asc (.inr rfl) _).2 (line_hangs (Up1.side (.inr rfl)) (by omega)) (lie_can c m)
    refine ⟨_, rfl, 1, _, rfl, ⟨by decide, by decide, by omega, by omega⟩, ?_⟩
    have en : (((m + 1 : Nat) : Int) - 1).toNat = m := by omega
    refine for_range (lo := 1) (n := (((m + 1 : Nat) : Int) - 1).toNat) (fun i σ G => ∃ v6 : Option V, σ = [some (.ref q), some (.int ((m + 1 : Nat) : Int)), some (.int c.1), some (.int c.2), some (.int ((m + 1 : Nat) : Int)), some (.ref x), v6] ∧ TrOn C H G x d fo (lineC c (0, 1) (m + 1)) (lineC c (1, 0) (m + 1)) ((List.range m).map (downsP c m)) i)
      ⟨none, rfl, t0⟩ ?_ ?_
    · rintro i σ G hi ⟨v6, rfl, tr⟩
      rw [en] at hi
      obtain ⟨_, _, _, _, _, ⟨dx', fs, et, lg, _⟩, _⟩ := id tr.ex
      refine ⟨_, rfl, x, dx', fs, rfl, et, lg, ?_⟩
      refine ⟨_, rfl, _, rfl, _, rfl, _, _, rfl, rfl, _, rfl, _, _, rfl, rfl, two_le, fun u1 hu1 => ?_⟩
      have s5 := same_new (o := HO.tup [.int c.1, .int (c.2 + ((m + 1 : Nat) : Int) - (1 + (i : Int)))]) hu1
      have a1 : At (upd G u1 (HO.tup [.int c.1, .int (c.2 + ((m + 1 : Nat) : Int) - (1 + (i : Int)))])) u1 (c.1, c.2 + ((m + 1 : Nat) : Int) - (1 + (i : Int))) := upd_same
      generalize upd G u1 (HO.tup [.int c.1, .int (c.2 + ((m + 1 : Nat) : Int) - (1 + (i : Int)))]) = G5 at s5 a1
      refine ⟨_, rfl, _, rfl, _, _, rfl, rfl, _, rfl, two_le, fun u2 hu2 => ?_⟩
      have s6 := same_new (o := HO.tup [.int (c.1 + (1 + (i : Int))), .int c.2]) hu2
      have a2 : At (upd G5 u2 (HO.tup [.int (c.1 + (1 + (i : Int))), .int c.2])) u2 (c.1 + (1 + (i : Int)), c.2) := upd_same
      generalize upd G5 u2 (HO.tup [.int (c.1 + (1 + (i : Int))), .int c.2]) = G6 at s6 a2
      have hp : ((List.range m).map (downsP c m))[i]? = some ((c.1, c.2 + ((m + 1 : Nat) : Int) - (1 + (i : Int))), (c.1 + (1 + (i : Int)), c.2)) := by
        rw [range_at hi]
        unfold downsP
        refine congrArg some (Prod.ext (Prod.ext ?_ ?_) (Prod.ext ?_ ?_)) <;> dsimp only <;> omega
      dsimp only [tNil]
      exact go_step (tr.same (s5.trans s6)) hd0 hf0 hp (fun z => by have := congrArg Prod.fst z; dsimp only at this; omega) (a1.same s6) a2 (by rw [line_len]; omega) (by omega) fun G' t' => ⟨_, rfl, t'⟩
    · rintro σ G ⟨v6, rfl, tr⟩
      rw [en] at tr
      obtain ⟨dx', fs, rs, pl, sm, et, lmv, ef', pr, lpl, wk⟩ := tr.done (by rw [List.length_map, List.length_range])
      refine ⟨_, rfl, x, C, dx', fs, _, rfl, et, SF.cls, SF.m, lmv, .inl ⟨fo, _, rfl, SqL.of ef', fun r2 hr2 => ?_⟩⟩
      have s9 := same_new (o := HO.tup (rs.map V.ref)) hr2
      exact k r2 _ pl (sm.trans s9) ⟨rs, upd_same, paired_imp (fun _ _ h => PairAt.same h s9) pr⟩ (by rw [line_len] at lpl; exact lpl) wk
end
end Sq

set_option Elab.async false
set_option linter.all false
set_option maxRecDepth 100000
set_option maxHeartbeats 2000000
/-! The law k26: its end. -/
namespace Sq
open PySem PySem.Spec PyProof.Rows L2
theorem Wks.len {L N : List Cell} {ps pl : List CellP} (h : Wks L ps pl N) (nL : L.Nodup) (hang : Hangs L) : pl.length ≤ L.length * ps.length := by
  induction h with
  | nil => exact Nat.zero_le _
  | @cons L M N s e ms pl ps h1 h2 h3 _ ih =>
    obtain ⟨hM, lM⟩ := h3.hangs h2 nL hang h1.1
    have a := ih h3.2.1 hM
    have b := walk_small h2 nL hang h1.1
    rw [lM] at a
    rw [List.length_append, List.length_cons, Nat.mul_succ]
    omega
abbrev rowL (c : Cell) (m : Nat) : List Cell := lineC c (1, 0) (m + 1)
abbrev colL (c : Cell) (m : Nat) : List Cell := lineC c (0, 1) (m + 1)
theorem row_ok (c : Cell) (m : Nat) : (rowL c m).Nodup ∧ Asc (rowL c m) ∧ Hangs (rowL c m) ∧ (rowL c m).length = m + 1 := ⟨(line_asc (.inl rfl) _).2, (line_asc (.inl rfl) _).1, line_hangs (Up1.side (.inl rfl)) (by omega), line_len ..⟩
theorem col_ok (c : Cell) (m : Nat) : (colL c m).Nodup ∧ Asc (colL c m) ∧ Hangs (colL c m) ∧ (colL c m).length = m + 1 := ⟨(line_asc (.inr rfl) _).2, (line_asc (.inr rfl) _).1, line_hangs (Up1.side (.inr rfl)) (by omega), line_len ..⟩
/-- what stands from the row and the column on -/
structure Z26 (G : Hp) (q rt ct : Addr) (c : Cell) (m : Nat) (by_ : Int) : Prop where
  aq : At G q c
  cr : CellsT G rt (rowL c m)
  cc : CellsT G ct (colL c m)
  m1 : 1 ≤ m
  m8 : m ≤ 8
  lb : by_.natAbs ≤ 12
theorem Z26.same {G G' : Hp} {q rt ct : Addr} {c : Cell} {m : Nat} {by_ : Int} (h : Z26 G q rt ct c m by_) (k : Same G G') : Z26 G' q rt ct c m by_ := ⟨h.aq.same k, h.cr.ek (.of k), h.cc.ek (.of k), h.m1, h.m8, h.lb⟩
section
variable {P : Program} {w : World} {K : PySem.W.Frag} {mg : Str → Option Value} {base : Heap}
variable {f : Addr} {cdv : Value} {A : Around} {outer : List Env} {s : Shared} {H0 : Hp} {E : XK}
end
end Sq

set_option Elab.async false
set_option linter.all false
set_option maxRecDepth 100000
set_option maxHeartbeats 2000000
/-! The law k26: what no square does; standing and lying. -/
namespace Sq
open PySem PySem.Spec PyProof.Rows L2
theorem eqv_plan (pl : List CellP) : PyData.eqv (.tuple (pl.map pD)) (.tuple (pl.map pD)) = true := eqv_self lay_pairsT
section
variable {P : Program} {w : World} {K : PySem.W.Frag} {mg : Str → Option Value} {base : Heap}
variable {f : Addr} {cdv : Value} {A : Around} {outer : List Env} {s : Shared} {H0 : Hp} {E : XK}
end
end Sq

set_option Elab.async false
set_option linter.all false
set_option maxRecDepth 100000
set_option maxHeartbeats 1000000
/-! Plans backward; how many stretches; the walks between two rows. -/
namespace Sq
open PySem PySem.Spec PyProof.Rows L2
def backM (ms : List CellP) : List CellP := ms.reverse.map fun m => (m.2, m.1)
theorem backM_cons (m : CellP) (ms : List CellP) : backM (m :: ms) = backM ms ++ [(m.2, m.1)] := by
  unfold backM
  rw [List.reverse_cons, List.map_append]
  rfl
theorem backM_len (ms : List CellP) : (backM ms).length = ms.length := by
  unfold backM
  rw [List.length_map, List.length_reverse]
theorem backM_back (ms : List CellP) : backM (backM ms) = ms := by
  unfold backM
  rw [← List.map_reverse, List.reverse_reverse, List.map_map]
  exact List.map_id' ms
theorem stepM_back {L : List Cell} {m : CellP} (h : mayW L m.1 m.2 = true) : mayW (stepM L m) m.2 m.1 = true ∧ EqC (stepM (stepM L m) (m.2, m.1)) L := by
  obtain ⟨a, b⟩ := may_in h
  refine ⟨?_, fun x => ?_⟩
  · have k := may_kind.mp h
    rw [may_kind, kind_back k fun x => mem_step]
    exact k
  · rw [mem_step, mem_step]
    dsimp only
    by_cases e : x = m.1
    · simp [e, a]
    · by_cases e2 : x = m.2
      · simp [e2, b]
        exact fun z => e (e2.trans z)
      · simp [e, e2]
theorem back_go : ∀ {ms : List CellP} {L : List Cell}, goB L ms = true → goB (goL L ms) (backM ms) = true ∧ EqC (goL (goL L ms) (backM ms)) L
  | [], L, _ => ⟨rfl, fun _ => Iff.rfl⟩
  | m :: r, L, g => by
    have g' : (mayW L m.1 m.2 && goB (stepM L m) r) = true := g
    rw [Bool.and_eq_true] at g'
    obtain ⟨g1, g2⟩ := g'
    obtain ⟨b1, b2⟩ := stepM_back g1
    obtain ⟨i1, i2⟩ := back_go g2
    have e : goL L (m :: r) = goL (stepM L m) r := rfl
    rw [backM_cons, goB_app, goL_app, e, i1, Bool.true_and]
    refine ⟨?_, eqC_trans (step_cong i2 _) b2⟩
    show (mayW (goL (goL (stepM L m) r) (backM r)) m.2 m.1 && true) = true
    rw [may_cong i2, b1]
    rfl
/-! ### stretches -/
def sN : List CellP → Nat
  | [] => 0
  | [_] => 1
  | a :: b :: r => (if b.1 = a.2 then 0 else 1) + sN (b :: r)
theorem sN_app : ∀ (ms pl : List CellP), sN (ms ++ pl) ≤ sN ms + sN pl
  | [], pl => by rw [List.nil_append]; exact Nat.le_add_left ..
  | [a], [] => by rw [List.append_nil]; exact Nat.le_add_right ..
  | [a], b :: r => by
    show (if b.1 = a.2 then 0 else 1) + sN (b :: r) ≤ 1 + sN (b :: r)
    split <;> omega
  | a :: b :: r, pl => by
    have ih := sN_app (b :: r) pl
    show (if b.1 = a.2 then 0 else 1) + sN ((b :: r) ++ pl) ≤ (if b.1 = a.2 then 0 else 1) + sN (b :: r) + sN pl
    omega
theorem sN_snoc : ∀ (ys : List CellP) (b a : CellP), sN (ys ++ [b, a]) = sN (ys ++ [b]) + (if a.1 = b.2 then 0 else 1)
  | [], b, a => by
    show (if a.1 = b.2 then 0 else 1) + 1 = 1 + _
    omega
  | [y], b, a => by
    show (if b.1 = y.2 then 0 else 1) + ((if a.1 = b.2 then 0 else 1) + 1) = (if b.1 = y.2 then 0 else 1) + 1 + _
    omega
  | y :: z :: r, b, a => by
    have ih := sN_snoc (z :: r) b a
    show (if z.1 = y.2 then 0 else 1) + sN ((z :: r) ++ [b, a]) = (if z.1 = y.2 then 0 else 1) + sN ((z :: r) ++ [b]) + _
    omega
theorem sN_back : ∀ ms : List CellP, sN (backM ms) = sN ms
  | [] => rfl
  | [_] => rfl
  | a :: b :: r => by
    have ih := sN_back (b :: r)
    rw [backM_cons, backM_cons, List.append_assoc]
    show sN (backM r ++ [(b.2, b.1), (a.2, a.1)]) = _
    rw [sN_snoc, ← backM_cons, ih]
    show sN (b :: r) + (if a.2 = b.1 then 0 else 1) = (if b.1 = a.2 then 0 else 1) + sN (b :: r)
    by_cases h : a.2 = b.1
    · rw [if_pos h, if_pos h.symm]
      omega
    · rw [if_neg h, if_neg (fun z => h z.symm)]
      omega
theorem chain_sN : ∀ {ms : List CellP}, (∀ i m m', ms[i]? = some m → ms[i + 1]? = some m' → m.2 = m'.1) → sN ms ≤ 1
  | [], _ => Nat.zero_le _
  | [_], _ => Nat.le_refl _
  | a :: b :: r, h => by
    have ih : sN (b :: r) ≤ 1 := chain_sN fun i m m' e1 e2 => h (i + 1) m m' e1 e2
    have e : b.1 = a.2 := (h 0 a b rfl rfl).symm
    show (if b.1 = a.2 then 0 else 1) + sN (b :: r) ≤ 1
    rw [if_pos e, Nat.zero_add]
    exact ih
theorem Wks.sN {L N : List Cell} {ps pl : List CellP} (h : Wks L ps pl N) : Sq.sN pl ≤ ps.length := by
  induction h with
  | nil => exact Nat.le_refl _
  | @cons L M N s e ms pl ps h1 h2 h3 _ ih =>
    obtain ⟨D, _, w⟩ := h2
    have a := chain_sN (walkP_ends w).2.1
    have b := sN_app ms pl
    rw [List.length_cons]
    omega
/-! ### between two rows -/
theorem CanW.app {L M N : List Cell} {ps qs : List CellP} (h : CanW L ps M) (k : CanW M qs N) : CanW L (ps ++ qs) N := by
  induction h with
  | nil => exact k
  | cons a b _ ih => exact .cons a b (ih k)
def alongs (c st : Cell) (m : Nat) (by_ : Int) : List CellP := (List.range by_.natAbs).map (alongP c st (m + 1) by_)
/-- the walks from a row to another one that lies above, or on the same line -/
def upPs (c e : Cell) (m : Nat) : List CellP := if e.2 = c.2 then alongs c (1, 0) m (e.1 - c.1) else
  (List.range m).map (upsP c m) ++ (alongs (c.1 + (m : Int), c.2) (0, 1) m (e.2 - c.2) ++ ((List.range m).map (downsP (c.1 + (m : Int), e.2) m) ++ alongs (c.1 + (m : Int), e.2) (1, 0) m (e.1 - (c.1 + (m : Int)))))
theorem atL_row (c : Cell) (k : Int) : atL c (1, 0) k = (c.1 + k, c.2) := by
  unfold atL
  refine Prod.ext ?_ ?_ <;> dsimp only <;> omega
theorem atL_col (c : Cell) (k : Int) : atL c (0, 1) k = (c.1, c.2 + k) := by
  unfold atL
  refine Prod.ext ?_ ?_ <;> dsimp only <;> omega
theorem along_row {c : Cell} {m : Nat} {k : Int} (e : Cell) (h : e = (c.1 + k, c.2)) (hm : 1 ≤ m) : CanW (rowL c m) (alongs c (1, 0) m k) (rowL e m) := by
  have := along_can (c := c) (.inl rfl) hm k
  rw [atL_row] at this
  rw [h]
  exact this
theorem along_col {c : Cell} {m : Nat} {k : Int} (e : Cell) (h : e = (c.1, c.2 + k)) (hm : 1 ≤ m) : CanW (colL c m) (alongs c (0, 1) m k) (colL e m) := by
  have := along_can (c := c) (.inr rfl) hm k
  rw [atL_col] at this
  rw [h]
  exact this
theorem up_can (c e : Cell) {m : Nat} (hm : 1 ≤ m) : CanW (rowL c m) (upPs c e m) (rowL e m) := by
  unfold upPs
  by_cases h : e.2 = c.2
  · rw [if_pos h]
    exact along_row e (by refine Prod.ext ?_ h; dsimp only; omega) hm
  · rw [if_neg h]
    refine (stand_can c m).app ((along_col (c := (c.1 + (m : Int), c.2)) (c.1 + (m : Int), e.2) (by refine Prod.ext rfl ?_; dsimp only; omega) hm).app ((lie_can (c.1 + (m : Int), e.2) m).app (along_row (c := (c.1 + (m : Int), e.2)) e (by refine Prod.ext ?_ rfl; dsimp only; omega) hm)))
theorem up_len (c e : Cell) (m : Nat) : (upPs c e m).length ≤ 3 * m + (e.1 - c.1).natAbs + (e.2 - c.2).natAbs := by
  unfold upPs alongs
  split
  · rw [List.length_map, List.length_range]
    omega
  · simp only [List.length_append, List.length_map, List.length_range]
    omega
/-- whether the row at e comes ahead of the row at c -/
def AheadR (e c : Cell) : Prop := e.2 < c.2 ∨ (e.2 = c.2 ∧ e.1 < c.1)
/-- the plan of row_plan -/
def RowPl (c e : Cell) (m : Nat) (pl : List CellP) : Prop := (AheadR e c ∧ ∃ p0, Wks (rowL e m) (upPs e c m) p0 (rowL c m) ∧ pl = backM p0) ∨ (¬ AheadR e c ∧ Wks (rowL c m) (upPs c e m) pl (rowL e m))
theorem RowPl.uniq {c e : Cell} {m : Nat} {pl pl' : List CellP} (h : RowPl c e m pl) (k : RowPl c e m pl') : pl = pl' := by
  rcases h with ⟨a, p0, w, rfl⟩ | ⟨a, w⟩
  · rcases k with ⟨_, p1, w1, rfl⟩ | ⟨b, _⟩
    · rw [(w.uniq w1).1]
    · exact absurd a b
  · rcases k with ⟨b, _⟩ | ⟨_, w1⟩
    · exact absurd b a
    · exact (w.uniq w1).1
theorem rowPl_self {c : Cell} {m : Nat} {pl : List CellP} (h : RowPl c c m pl) : pl = [] := by
  rcases h with ⟨a, _⟩ | ⟨_, w⟩
  · rcases a with a | ⟨_, a⟩ <;> omega
  · unfold upPs alongs at w
    rw [if_pos rfl, show c.1 - c.1 = 0 by omega] at w
    cases w
    rfl
/-- the way back is the way backward -/
theorem RowPl.back {c e : Cell} {m : Nat} {pl : List CellP} (h : RowPl c e m pl) : RowPl e c m (backM pl) := by
  by_cases z : c = e
  · subst z
    have e := rowPl_self h
    subst e
    exact h
  rcases h with ⟨a, p0, w, rfl⟩ | ⟨a, w⟩
  · refine .inr ⟨fun b => ?_, by rw [backM_back]; exact w⟩
    rcases a with a | ⟨_, a⟩ <;> rcases b with b | ⟨_, b⟩ <;> omega
  · refine .inl ⟨?_, pl, w, rfl⟩
    unfold AheadR at a ⊢
    have ne : ¬ (c.1 = e.1 ∧ c.2 = e.2) := fun y => z (Prod.ext y.1 y.2)
    omega
theorem RowPl.go {c e : Cell} {m : Nat} {pl : List CellP} (h : RowPl c e m pl) : goB (rowL c m) pl = true ∧ EqC (goL (rowL c m) pl) (rowL e m) := by
  rcases h with ⟨_, p0, w, rfl⟩ | ⟨_, w⟩
  · obtain ⟨g1, g2⟩ := w.go
    obtain ⟨b1, b2⟩ := back_go g1
    refine ⟨by rw [← goB_cong _ g2]; exact b1, eqC_trans (eqC_symm (goL_cong _ g2)) b2⟩
  · exact w.go
theorem RowPl.len {c e : Cell} {m : Nat} {pl : List CellP} (h : RowPl c e m pl) : sN pl ≤ 3 * m + (e.1 - c.1).natAbs + (e.2 - c.2).natAbs ∧ pl.length ≤ (m + 1) * (3 * m + (e.1 - c.1).natAbs + (e.2 - c.2).natAbs) := by
  have key : ∀ {c e : Cell} {p : List CellP}, Wks (rowL c m) (upPs c e m) p (rowL e m) → sN p ≤ 3 * m + (e.1 - c.1).natAbs + (e.2 - c.2).natAbs ∧ p.length ≤ (m + 1) * (3 * m + (e.1 - c.1).natAbs + (e.2 - c.2).natAbs) := fun {c e p} w => by
    obtain ⟨nR, _, hR, lR⟩ := row_ok c m
    have l := up_len c e m
    have a := w.sN
    have b := w.len nR hR
    rw [lR] at b
    exact ⟨by omega, Nat.le_trans b (Nat.mul_le_mul (Nat.le_refl _) l)⟩
  rcases h with ⟨_, p0, w, rfl⟩ | ⟨_, w⟩
  · obtain ⟨a, b⟩ := key w
    rw [sN_back, backM_len]
    rw [show (c.1 - e.1).natAbs = (e.1 - c.1).natAbs by omega, show (c.2 - e.2).natAbs = (e.2 - c.2).natAbs by omega] at a b
    exact ⟨a, b⟩
  · exact key w
end Sq

set_option Elab.async false
set_option linter.all false
set_option maxRecDepth 100000
set_option maxHeartbeats 2000000
/-! Plans backward: the program's, the law's; how many stretches. -/
namespace Sq
open PySem PySem.Spec PyProof.Rows L2
theorem paired_revB {α β : Type} {R : α → β → Prop} : ∀ {xs : List α} {ys : List β}, Paired R xs ys → Paired R xs.reverse ys.reverse
  | _, _, .nil => .nil
  | _, _, .cons h t => by
    rw [List.reverse_cons, List.reverse_cons]
    exact (paired_revB t).snoc h
theorem backM_get {ms : List CellP} {j : Nat} {m : CellP} (h : ms.reverse[j]? = some m) : (backM ms)[j]? = some (m.2, m.1) := by
  unfold backM
  rw [List.getElem?_map, h]
  rfl
def spPVal : Sp := fun vs H Q _ => ∃ (q : Addr) (c : Cell), vs = [.ref q] ∧ At H q c ∧ ∀ r H', Same H H' → At H' r c → Q (.ref r) H'
def spBackP : Sp := fun vs H Q _ => ∃ (t : Addr) (ms : List CellP), vs = [.ref t] ∧ PairsT H t ms ∧ ms.length ≤ 100000 ∧ ∀ r G, Same H G → PairsT G r (backM ms) → Q (.ref r) G
def spT4stN : Sp := fun vs H Q _ => ∃ (t : Addr) (pl : List CellP), vs = [.ref t] ∧ PairsT H t pl ∧ pl.length ≤ 1000000 ∧ ∀ (l : Addr) (G : Hp) (rs : List Addr), Same H G → G l = some (.lst (rs.map V.ref)) → rs.length = sN pl → Q (.ref l) G
section
variable {P : Program} {w : World} {K : PySem.W.Frag} {mg : Str → Option Value} {base : Heap}
theorem scPvB : FnScope ["value"] ["value"] (defScope gPlainValue) := ⟨rfl, rfl, rfl, by decide +kernel, rfl, by decide +kernel, by decide +kernel⟩
theorem ok_plainVal {f : Addr} {fd : FuncData} (F : FnP K "plain_value" gPlainValue f fd) (DI : Df P w K mg base CX0 2 "is_cell" ["value"] (spIsCell K)) (DPl : Df P w K mg base CX0 1 "plain_cell" ["cell"] spPlain) : FnOk P w K mg base CX0 3 f fd ["value"] spPVal := by
  refine F.ok scPvB (fun vs H Q E h => ?_) (fun cdv A outer s H vs Q E hr h => ?_)
  · obtain ⟨q, c, rfl, _⟩ := h
    rfl
  · obtain ⟨q, c, rfl, a, k⟩ := h
    refine ⟨_, PSs.nox (pss_one (ps_ret (pe_ifExp (pt_val (pe_df DI hr (by rfl) pass0 (pa_cons (pv 0) pa_nil))) (pe_df DPl hr (by rfl) pass0 (pa_cons (pv 0) pa_nil)) (pv 0)))), ?_⟩
    refine ⟨_, rfl, _, true, rfl, .cell a, _, rfl, ?_⟩
    exact iteT ⟨_, rfl, q, c, rfl, a, fun r hr' => k _ _ (same_new hr') upd_same⟩
theorem scBkB : FnScope ["plan", "pair"] ["plan"] (defScope gBack) := ⟨rfl, rfl, rfl, by decide +kernel, rfl, by decide +kernel, by decide +kernel⟩
theorem ok_backP {f : Addr} {fd : FuncData} (F : FnP K "back" gBack f fd) (B : Bl mg) (DV : Df P w K mg base CX0 3 "plain_value" ["value"] spPVal) : FnOk P w K mg base CX0 4 f fd ["plan"] spBackP := by
  refine F.ok scBkB (fun vs H Q E h => ?_) (fun cdv A outer s H vs Q E hr h => ?_)
  · obtain ⟨t, ms, rfl, _⟩ := h
    rfl
  · obtain ⟨t, ms, rfl, ⟨qs, et, pr⟩, lms, k⟩ := h
    have lq : qs.length = ms.length := Paired.length pr
    refine ⟨_, PSs.nox (pss_one (ps_ret (pe_tupleOf (by rfl) B.tuple (pe_lc (own := [("pair", 1)]) (g := gName 1) (tt := tYes) rfl scBkB.nd (pi_tup (pe_revT (pv 0))) (blkOk_by (N := ["plan", "pair"]) (sc := defScope gBack) (by decide +kernel)) (fun _ _ _ _ _ => pg_name (i := 1) scBkB.nd rfl (Or.inl rfl)) (fun _ _ _ _ _ => pts_nil)
      (fun _ _ _ _ _ => pe_tup (pa_cons (pe_df DV hr (by rfl) pass0 (pa_cons (pe_ix (ix_tupK (K := K) rfl) (pv 1) pe_int (fun _ _ => rfl)) pa_nil)) (pa_cons (pe_df DV hr (by rfl) pass0 (pa_cons (pe_ix (ix_tupK (K := K) rfl) (pv 1) pe_int (fun _ _ => rfl)) pa_nil)) pa_nil))))))), ?_⟩
    have prR := paired_revB pr
    have er : (qs.map V.ref).reverse = qs.reverse.map V.ref := List.map_reverse.symm
    refine ⟨_, rfl, t, _, rfl, SqT.of et, fun p1 hp1 => ?_⟩
    rw [er]
    have s1 := same_new (o := .tup (qs.reverse.map V.ref)) hp1
    have e1 := upd_same (H := H) (a := p1) (o := HO.tup (qs.reverse.map V.ref))
    generalize upd H p1 (.tup (qs.reverse.map V.ref)) = H1 at s1 e1
    refine ⟨p1, rfl, ⟨_, SqT.of e1⟩, fun D hD => ?_⟩
    have lr : (qs.reverse.map V.ref).length = ms.length := by rw [List.length_map, List.length_reverse, lq]
    refine lc_pairs (walk_tup (K := K) (a := p1) (xs := qs.reverse.map V.ref)) hD (fun j => (backM ms).take j) rfl (by omega) (fun j G _ sm => SqT.of (sm _ _ e1)) ?_ ?_
    · rintro j x G G' K1 K0 hj sm ⟨rfl, hx⟩ k1 k0
      rw [List.getElem?_map] at hx
      obtain ⟨q, hq, rfl⟩ := Option.map_eq_some_iff.mp hx
      obtain ⟨m, hm, q1, q2, e0, a1, a2⟩ := paired_get prR hq
      have s2 := s1.trans sm
      refine ⟨rfl, yesT ⟨_, rfl, q, _, _, _, rfl, rfl, SqT.of (s2 _ _ e0), at1, q2, m.2, rfl, s2 _ _ a2, fun r2 G2 sA aA => ?_⟩⟩
      refine ⟨_, rfl, q, _, _, _, rfl, rfl, SqT.of (sA _ _ (s2 _ _ e0)), at0, q1, m.1, rfl, sA _ _ (s2 _ _ a1), fun r1 G3 sB aB => ⟨two_le, fun u hu => ?_⟩⟩
      have sC := same_new (o := HO.tup [.ref r2, .ref r1]) hu
      exact k1 u (m.2, m.1) _ ((sA.trans sB).trans sC) ⟨r2, r1, upd_same, sC _ _ (sB _ _ aA), sC _ _ aB⟩ (take_snoc (backM_get hm))
    rintro G rs sm gD pr2
    rw [lr, ← backM_len, List.take_length] at pr2
    refine .inl ⟨D, _, rfl, SqL.of gD, fun tp htp => ?_⟩
    have s4 := same_new (o := .tup (rs.map V.ref)) htp
    exact k tp _ ((s1.trans sm).trans s4) ⟨rs, upd_same, paired_imp (fun _ _ h => PairAt.same h s4) pr2⟩
theorem rev_getB {α : Type} {xs : List α} {i : Nat} (h : i < xs.length) : xs[xs.length - 1 - i]? = xs.reverse[i]? := by
  rw [List.getElem?_reverse h]
theorem scT4bkB : FnScope ["_law_plan", "_law_start", "_law_end"] ["_law_plan"] (defScope lT4back) := ⟨rfl, rfl, rfl, by decide +kernel, rfl, by decide +kernel, by decide +kernel⟩
theorem ok_t4backT {f : Addr} {fd : FuncData} (F : FnP K "_law_t4back" lT4back f fd) (B : Bl mg) (gR : mg "reversed" = none) : FnOk P w K mg base CX0 1 f fd ["_law_plan"] spBackP := by
  refine F.ok scT4bkB (fun vs H Q E h => ?_) (fun cdv A outer s H vs Q E hr h => ?_)
  · obtain ⟨l, ms, rfl, _⟩ := h
    rfl
  · obtain ⟨l, ms, rfl, ⟨qs, el, pr⟩, lms, k⟩ := h
    refine ⟨_, PSs.nox (pss_one (ps_ret (pe_tupleOf (by rfl) B.tuple (pe_lc (own := [("_law_start", 1), ("_law_end", 2)]) (g := gTup K 2 (gCons (gName 1) (gCons (gName 2) gNil))) (tt := tYes) rfl scT4bkB.nd (pi_reversed (by rfl) gR (pa_cons (pe_callTy call_list_of (by rfl) B.list PyProof.Rows.boot_list (pa_cons (pv 0) pa_nil)) pa_nil)) (blkOk_by (N := ["_law_plan", "_law_start", "_law_end"]) (sc := defScope lT4back) (by decide +kernel)) (fun _ _ _ _ _ => (pg_tup (by rfl) (pgs_cons (pg_name (i := 1) scT4bkB.nd rfl (.inl rfl)) (pgs_cons (pg_name (i := 2) scT4bkB.nd rfl (.inl rfl)) pgs_nil)))) (fun _ _ _ _ _ => pts_nil) (fun _ _ _ _ _ => (pe_tup (pa_cons (pv 2) (pa_cons (pv 1) pa_nil)))))))), ?_⟩
    have lq : qs.length = ms.length := Paired.length pr
    refine ⟨_, rfl, l, _, rfl, .inr (SqT.of el), fun l2 hl2 => ?_⟩
    have s1 := same_new (o := .lst (qs.map V.ref)) hl2
    have e2 : upd H l2 (.lst (qs.map V.ref)) l2 = some (.lst (qs.map V.ref)) := upd_same
    have pr1 := paired_imp (fun _ _ (h : PairAt H _ _) => h.same s1) pr
    generalize upd H l2 (.lst (qs.map V.ref)) = H1 at s1 e2 pr1 ⊢
    refine ⟨l2, _, rfl, SqL.of e2, fun D hD => ?_⟩
    refine lc_pairs (walk_rev (K := K) (a := l2) (xs := qs.map V.ref)) hD (fun j => (backM ms).take j) rfl (by rw [List.length_map]; omega) (fun j G _ s => SqL.of (s _ _ e2)) ?_ ?_
    · rintro j x G2 G' K1 K0 hj sm ⟨rfl, hx⟩ k1 k0
      have hj2 : j < (qs.map V.ref).length := hj
      rw [rev_getB hj2, ← List.map_reverse, List.getElem?_map] at hx
      obtain ⟨q, hq, rfl⟩ := Option.map_eq_some_iff.mp hx
      obtain ⟨m, hm, q1, q2, e0, a1, a2⟩ := paired_get (paired_revB pr1) hq
      refine ⟨q, _, rfl, SqT.of (sm _ _ e0), rfl, _, _, rfl, _, _, rfl, rfl, rfl, yesT ?_⟩
      refine ⟨_, rfl, _, rfl, two_le, fun t ht => ?_⟩
      have s3 := same_new (o := .tup [.ref q2, .ref q1]) ht
      exact k1 t (m.2, m.1) _ s3 ⟨q2, q1, upd_same, s3 _ _ (sm _ _ a2), s3 _ _ (sm _ _ a1)⟩ (take_snoc (backM_get hm))
    rintro G rs sm gD pr2
    rw [List.length_map, lq, ← backM_len, List.take_length] at pr2
    refine .inl ⟨D, _, rfl, SqL.of gD, fun tp htp => ?_⟩
    have s4 := same_new (o := .tup (rs.map V.ref)) htp
    exact k tp _ ((s1.trans sm).trans s4) ⟨rs, upd_same, paired_imp (fun _ _ h => h.same s4) pr2⟩
theorem ok_t4stN {f : Addr} {fd : FuncData} (F : FnP K "_law_t4stretches" lT4stretches f fd) (B : Bl mg) : FnOk P w K mg base CX0 1 f fd ["_law_plan"] spT4stN := by
  refine F.ok scT4st (fun vs H Q E h => ?_) (fun cdv A outer s H vs Q E hr h => ?_)
  · obtain ⟨t, pl, rfl, _⟩ := h
    rfl
  · obtain ⟨t, pl, rfl, ⟨ps, et, pr⟩, lpl, k⟩ := h
    have h64 := room64 hr
    refine ⟨_, PSs.nox (pss_cons (ps_par (i := 1) (j := 2) (by rfl) scT4st.nd rfl rfl (by decide) rfl rfl (pa_cons (pe_lst pa_nil) (pa_cons pe_int pa_nil)) (by rfl))
      (pss_cons (ps_for PassesOwn.never rfl (pi_range2 (by rfl) B.range (pa_cons pe_int (pa_cons (pe_op op_add (pe_callB call_len_seq (by rfl) B.len PySem.boot_len (pa_cons (pv 0) pa_nil)) pe_int) pa_nil))) (pg_name (i := 3) scT4st.nd rfl (.inl rfl))
      (pss_one (ps_if (PW.pt (pw_or (pt_cmpR op_eq (pv 3) (pe_callB call_len_seq (by rfl) B.len PySem.boot_len (pa_cons (pv 0) pa_nil)) (nomark _)) (pw_or1 (pt_cmpR (op_neK (K := K) rfl h64) (pe_ix (ix_tupK (K := K) rfl) (pe_ix (ix_tupK (K := K) rfl) (pv 0) (pv 3) (fun _ _ => rfl)) pe_int (fun _ _ => rfl)) (pe_ix (ix_tupK (K := K) rfl) (pe_ix (ix_tupK (K := K) rfl) (pv 0) (pe_op op_sub (pv 3) pe_int) (fun _ _ => rfl)) pe_int (fun _ _ => rfl)) (nomark _)))))
        (pss_cons (ps_expr (pe_bm PySem.F.plainAttrs_list PySem.F.slot_list_append PySem.F.type_list_append mt_append (pv 1) (pa_cons (pe_tup (pa_cons (pv 2) (pa_cons (pv 3) pa_nil))) pa_nil)))
          (pss_one (ps_set (i := 2) scT4st.nd rfl (.inl rfl) (pv 3))))
        pss_nil)))
      (pss_one (ps_ret (pv 1))))), ?_⟩
    have lps : ps.length = pl.length := Paired.length pr
    refine ⟨Nat.zero_le _, fun fo hfo => ⟨_, _, rfl, ?_⟩⟩
    have s0 := same_new (o := HO.lst []) hfo
    have e0 := upd_same (H := H) (a := fo) (o := HO.lst [])
    generalize upd H fo (.lst []) = G0 at s0 e0
    refine ⟨_, rfl, t, _, rfl, .inr (SqT.of (s0 _ _ et)), _, _, rfl, rfl, _, _, rfl, ⟨by omega, by omega, by rw [List.length_map]; omega, by rw [List.length_map]; omega⟩, ?_⟩
    refine for_range (lo := 1) (n := (((ps.map V.ref).length : Int) + 1 - 1).toNat) (fun i σ G => ∃ (lo : Nat) (v3 : Option V) (rs : List Addr), σ = [some (.ref t), some (.ref fo), some (.int (lo : Int)), v3] ∧ Same H G ∧ G fo = some (.lst (rs.map V.ref)) ∧ rs.length ≤ i ∧ rs.length + sN (pl.drop i) = sN pl)
      ⟨0, none, [], rfl, s0, e0, Nat.le_refl _, Nat.zero_add _⟩ ?_ ?_
    · rintro i σ G hi ⟨lo, v3, rs, rfl, sm, ef, lrs, cnt⟩
      have hi : i < pl.length := by
        rw [List.length_map, lps] at hi
        omega
      have et1 := sm _ _ et
      obtain ⟨r0, hr0⟩ : ∃ q, ps[i]? = some q := ⟨_, List.getElem?_eq_getElem (by omega)⟩
      obtain ⟨m0, hm0, a0, b0, er0, aa0, ab0⟩ := paired_get pr hr0
      have ed0 : pl.drop i = m0 :: pl.drop (i + 1) := by
        rw [List.drop_eq_getElem_cons hi]
        congr 1
        exact (List.getElem?_eq_some_iff.mp hm0).2
      have app : 1 + sN (pl.drop (i + 1)) = sN (pl.drop i) → ∀ u, upd G u (HO.tup [.int (lo : Int), .int (1 + (i : Int))]) fo = some (.lst (rs.map V.ref)) → (rs ++ [u]).length + sN (pl.drop (i + 1)) = sN pl := fun hb u _ => by
        rw [List.length_append]
        show rs.length + 1 + _ = _
        omega
      refine ⟨_, rfl, _, rfl, t, _, rfl, .inr (SqT.of et1), rfl, _, rfl, ?_⟩
      rw [List.length_map, lps]
      have yes : ∀ (u : Addr), G u = none → 1 + sN (pl.drop (i + 1)) = sN (pl.drop i) → ∃ (lo2 : Nat) (v3 : Option V) (rs' : List Addr), [some (V.ref t), some (.ref fo), some (.int (1 + (i : Int))), some (.int (1 + (i : Int)))] = [some (.ref t), some (.ref fo), some (.int (lo2 : Int)), v3] ∧ Same H (upd (upd G u (HO.tup [.int (lo : Int), .int (1 + (i : Int))])) fo (.lst (rs.map V.ref ++ [V.ref u]))) ∧ upd (upd G u (HO.tup [.int (lo : Int), .int (1 + (i : Int))])) fo (.lst (rs.map V.ref ++ [V.ref u])) fo = some (.lst (rs'.map V.ref)) ∧ rs'.length ≤ i + 1 ∧ rs'.length + sN (pl.drop (i + 1)) = sN pl := fun u hu hb => by
        have s3 := same_new (o := HO.tup [.int (lo : Int), .int (1 + (i : Int))]) hu
        have ef3 := s3 _ _ ef
        refine ⟨i + 1, _, rs ++ [u], by rw [show ((i + 1 : Nat) : Int) = 1 + (i : Int) by omega], same_put (sm.trans s3) hfo, by rw [upd_same, List.map_append]; rfl, by rw [List.length_append]; exact Nat.succ_le_succ lrs, app hb u ef3⟩
      refine ite2 (fun h1 => ?_) (fun h1 => ?_)
      · have z := V.int.inj (of_decide_eq_true h1)
        have hb : 1 + sN (pl.drop (i + 1)) = sN (pl.drop i) := by
          rw [ed0, List.drop_eq_nil_of_le (by omega)]
          rfl
        refine ⟨_, rfl, .inl ⟨rfl, _, SqL.of ef⟩, _, rfl, _, rfl, two_le, fun u hu1 => ?_⟩
        have ef3 := same_new (o := HO.tup [.int (lo : Int), .int (1 + (i : Int))]) hu1 _ _ ef
        refine ⟨fo, _, _, rfl, rfl, ef3, by rw [List.length_map, sizeLine_eq]; omega, ?_⟩
        exact ⟨_, rfl, yes u hu1 hb⟩
      · have ne : i + 1 ≠ pl.length := fun z => h1 (decide_eq_true (congrArg V.int (by omega)))
        obtain ⟨r1, hr1⟩ : ∃ q, ps[i + 1]? = some q := ⟨_, List.getElem?_eq_getElem (by omega)⟩
        obtain ⟨m1, hm1, a1, b1, er1, aa1, ab1⟩ := paired_get pr hr1
        have ed1 : pl.drop (i + 1) = m1 :: pl.drop (i + 2) := by
          rw [List.drop_eq_getElem_cons (by omega)]
          congr 1
          exact (List.getElem?_eq_some_iff.mp hm1).2
        have esn : sN (pl.drop i) = (if m1.1 = m0.2 then 0 else 1) + sN (pl.drop (i + 1)) := by
          rw [ed0, ed1]
          rfl
        have x1 : atI (ps.map V.ref) (1 + (i : Int)) = some (.ref r1) := atI_i (n := i + 1) (by omega) (by rw [List.getElem?_map, hr1]; rfl)
        have x0 : atI (ps.map V.ref) (1 + (i : Int) - 1) = some (.ref r0) := atI_i (n := i) (by omega) (by rw [List.getElem?_map, hr0]; rfl)
        refine ⟨_, rfl, _, rfl, t, _, _, .ref r1, rfl, rfl, SqT.of et1, x1, r1, _, _, _, rfl, rfl, SqT.of (sm _ _ er1), at0, _, rfl, _, rfl, _, _, rfl, rfl, t, _, _, .ref r0, rfl, rfl, SqT.of et1, x0, r0, _, _, _, rfl, rfl, SqT.of (sm _ _ er0), at1, _, _, (aa1.same sm).dp, (ab0.same sm).dp, cD_shaped _, cD_shaped _, _, rfl, ?_⟩
        rw [cD_eqv]
        refine ite2 (fun h2 => ?_) (fun h2 => ?_)
        · have hb : 1 + sN (pl.drop (i + 1)) = sN (pl.drop i) := by rw [esn, if_neg (by simpa using h2)]
          refine ⟨_, rfl, .inl ⟨rfl, _, SqL.of ef⟩, _, rfl, _, rfl, two_le, fun u hu1 => ?_⟩
          have ef3 := same_new (o := HO.tup [.int (lo : Int), .int (1 + (i : Int))]) hu1 _ _ ef
          refine ⟨fo, _, _, rfl, rfl, ef3, by rw [List.length_map, sizeLine_eq]; omega, ?_⟩
          exact ⟨_, rfl, yes u hu1 hb⟩
        · have hb : sN (pl.drop (i + 1)) = sN (pl.drop i) := by rw [esn, if_pos (by simpa using h2), Nat.zero_add]
          exact ⟨lo, _, rs, rfl, sm, ef, by omega, by rw [hb]; exact cnt⟩
    · rintro σ G ⟨lo, v3, rs, rfl, sm, ef, lrs, cnt⟩
      rw [List.length_map, lps] at lrs cnt
      rw [show ((pl.length : Int) + 1 - 1).toNat = pl.length by omega, List.drop_length] at cnt
      exact ⟨_, rfl, k fo G rs sm ef cnt⟩
end
end Sq

set_option Elab.async false
set_option linter.all false
set_option maxRecDepth 100000
set_option maxHeartbeats 4000000
/-! The program: from row to row. -/
namespace Sq
open PySem PySem.Spec PyProof.Rows L2
theorem cat_pairsB {K : PySem.W.Frag} {H : Hp} {a b : Addr} {ms ns : List CellP} {Q : VK} (h : PairsT H a ms) (k : PairsT H b ns) (l : ms.length + ns.length ≤ 1000000) (q : ∀ r G, Same H G → PairsT G r (ms ++ ns) → Q (.ref r) G) : rCatA K (.ref a) (.ref b) H Q := by
  obtain ⟨ps, ea, pr⟩ := id h
  obtain ⟨qs, eb, pq⟩ := id k
  have l1 : ps.length = ms.length := Paired.length pr
  have l2 : qs.length = ns.length := Paired.length pq
  refine ⟨a, b, _, _, rfl, rfl, SqT.of ea, SqT.of eb, by rw [List.length_map, List.length_map, sizeLine_eq]; omega, fun z => ?_, fun _ z => ?_, fun _ _ p hp => ?_⟩
  · have : ms = [] := List.eq_nil_of_length_eq_zero (by rw [← l1, List.map_eq_nil_iff.mp z]; rfl)
    subst this
    exact q b H same_refl k
  · have : ns = [] := List.eq_nil_of_length_eq_zero (by rw [← l2, List.map_eq_nil_iff.mp z]; rfl)
    subst this
    refine q a H same_refl ?_
    rw [List.append_nil]
    exact h
  · exact q p _ (same_new hp) ⟨ps ++ qs, by rw [upd_same, List.map_append], paired_imp (fun _ _ z => z.keep (.of (same_new hp))) (paired_app pr pq)⟩
theorem lex2 (a b c d : Int) : HT.lexLt [a, b] [c, d] = decide (a < c ∨ (a = c ∧ b < d)) := by
  rw [HT.lexLt_cons]
  by_cases h : a = c
  · rw [if_pos h, HT.lexLt_cons]
    by_cases k : b = d
    · rw [if_pos k, HT.lexLt_nil_nil]
      exact (decide_eq_false (by omega)).symm
    · rw [if_neg k]
      exact decide_eq_decide.mpr (by omega)
  · rw [if_neg h]
    exact decide_eq_decide.mpr (by omega)
theorem op_ltTK {X : Cx} {K : PySem.W.Frag} (e : X.K = K) (hu : X.A.units + 64 < cLine) : OpR X (compareOp .Lt) (rLtT K) := e ▸ op_ltT (by omega)
theorem op_catKB {X : Cx} {K : PySem.W.Frag} (h : X.K = K) : OpR X (binaryOp .Add) (rCatA K) := h ▸ op_catA
theorem pair_ints (G : Hp) (K : PySem.W.Frag) (u : Addr) (a b : Int) (h : G u = some (.tup [.int a, .int b])) : SqT K G u ([a, b].map V.int) := SqT.of h
/-- near enough -/
def NearR (c e : Cell) : Prop := (e.1 - c.1).natAbs ≤ 100 ∧ (e.2 - c.2).natAbs ≤ 100
def spUp : Sp := fun vs H Q _ => ∃ (q g : Addr) (m : Nat) (c e : Cell), vs = [.ref q, .ref g, .int ((m + 1 : Nat) : Int)] ∧ At H q c ∧ At H g e ∧ 1 ≤ m ∧ m ≤ 100 ∧ NearR c e ∧
  ∀ r G pl, Same H G → PairsT G r pl → Wks (rowL c m) (upPs c e m) pl (rowL e m) → Q (.ref r) G
def spRowP : Sp := fun vs H Q _ => ∃ (q g : Addr) (m : Nat) (c e : Cell), vs = [.ref q, .ref g, .int ((m + 1 : Nat) : Int)] ∧ At H q c ∧ At H g e ∧ 1 ≤ m ∧ m ≤ 100 ∧ NearR c e ∧
  ∀ r G pl, Same H G → PairsT G r pl → RowPl c e m pl → Q (.ref r) G
theorem NearR.symm {c e : Cell} (h : NearR c e) : NearR e c := ⟨by have := h.1; omega, by have := h.2; omega⟩
theorem wks_small {c e : Cell} {m : Nat} {pl : List CellP} (w : Wks (rowL c m) (upPs c e m) pl (rowL e m)) (hm : m ≤ 100) (n : NearR c e) : pl.length ≤ 100000 := by
  obtain ⟨nR, _, hR, lR⟩ := row_ok c m
  have a := w.len nR hR
  have b := up_len c e m
  rw [lR] at a
  obtain ⟨n1, n2⟩ := n
  exact Nat.le_trans a (Nat.le_trans (Nat.mul_le_mul (by omega : m + 1 ≤ 101) (by omega : (upPs c e m).length ≤ 500)) (by decide))
section
variable {P : Program} {w : World} {K : PySem.W.Frag} {mg : Str → Option Value} {base : Heap}
abbrev upN : List Str := ["source", "goal", "many", "column", "row", "foot", "top", "upright"]
theorem scUpP : FnScope upN ["source", "goal", "many"] (defScope gUpwardPlan) := ⟨rfl, rfl, rfl, by decide +kernel, rfl, by decide +kernel, by decide +kernel⟩
theorem ok_upward {f : Addr} {fd : FuncData} (F : FnP K "upward_plan" gUpwardPlan f fd) (DCr : Df P w K mg base CX0 7 "crawl" ["first", "n", "by"] (spCrawl (1, 0))) (DCl : Df P w K mg base CX0 7 "climb" ["first", "n", "by"] (spCrawl (0, 1))) (DS : Df P w K mg base CX0 7 "stand" ["first", "n"] spStand) (DL : Df P w K mg base CX0 7 "lie" ["first", "n"] spLie) :
    FnOk P w K mg base CX0 8 f fd ["source", "goal", "many"] spUp := by
  refine F.ok scUpP (fun vs H Q E h => ?_) (fun cdv A outer s H vs Q E hr h => ?_)
  · obtain ⟨q, g, m, c, e, rfl, _⟩ := h
    rfl
  · obtain ⟨q, g, m, c, e, rfl, aq, ag, m1, m100, ⟨n1, n2⟩, k⟩ := h
    refine ⟨_, PSs.nox (pss_cons (ps_asg (pv 0) (pg_tup (by rfl) (pgs_cons (pg_name (i := 3) scUpP.nd rfl (.inl rfl)) (pgs_cons (pg_name (i := 4) scUpP.nd rfl (.inl rfl)) pgs_nil))))
      (pss_cons (ps_if (pt_cmpR op_eq (pe_ix (ix_tupK (K := K) rfl) (pv 1) pe_int (fun _ _ => rfl)) (pv 4) (nomark _))
      (pss_one (ps_ret (pe_df DCr hr (by rfl) pass0 (pa_cons (pv 0) (pa_cons (pv 2) (pa_cons (pe_op op_sub (pe_ix (ix_tupK (K := K) rfl) (pv 1) pe_int (fun _ _ => rfl)) (pv 3)) pa_nil))))))
      pss_nil)
      (pss_cons (ps_set (i := 5) scUpP.nd rfl (.inl rfl) (pe_tup (pa_cons (pe_op op_sub (pe_op op_add (pv 3) (pv 2)) pe_int) (pa_cons (pv 4) pa_nil))))
      (pss_cons (ps_set (i := 6) scUpP.nd rfl (.inl rfl) (pe_tup (pa_cons (pe_ix (ix_tupK (K := K) rfl) (pv 5) pe_int (fun _ _ => rfl)) (pa_cons (pe_ix (ix_tupK (K := K) rfl) (pv 1) pe_int (fun _ _ => rfl)) pa_nil))))
      (pss_cons (ps_set (i := 7) scUpP.nd rfl (.inl rfl) (pe_op (op_catKB (K := K) rfl) (pe_df DS hr (by rfl) pass0 (pa_cons (pv 0) (pa_cons (pv 2) pa_nil))) (pe_df DCl hr (by rfl) pass0 (pa_cons (pv 5) (pa_cons (pv 2) (pa_cons (pe_op op_sub (pe_ix (ix_tupK (K := K) rfl) (pv 1) pe_int (fun _ _ => rfl)) (pv 4)) pa_nil))))))
      (pss_one (ps_ret (pe_op (op_catKB (K := K) rfl) (pe_op (op_catKB (K := K) rfl) (pv 7) (pe_df DL hr (by rfl) pass0 (pa_cons (pv 6) (pa_cons (pv 2) pa_nil)))) (pe_df DCr hr (by rfl) pass0 (pa_cons (pv 6) (pa_cons (pv 2) (pa_cons (pe_op op_sub (pe_ix (ix_tupK (K := K) rfl) (pv 1) pe_int (fun _ _ => rfl)) (pe_ix (ix_tupK (K := K) rfl) (pv 5) pe_int (fun _ _ => rfl))) pa_nil)))))))))))), ?_⟩
    refine ⟨_, rfl, q, _, rfl, SqT.of aq, rfl, _, _, rfl, _, _, rfl, rfl, ?_⟩
    refine ⟨_, rfl, g, _, _, _, rfl, rfl, SqT.of ag, at1, _, rfl, rfl, _, rfl, ?_⟩
    refine ite2 (fun h1 => ?_) (fun h1 => ?_)
    · have h1 : e.2 = c.2 := V.int.inj (of_decide_eq_true h1)
      refine ⟨_, rfl, _, rfl, _, rfl, g, _, _, _, rfl, rfl, SqT.of ag, at0, _, rfl, _, _, rfl, rfl, ?_⟩
      refine ⟨q, m + 1, e.1 - c.1, c, rfl, aq, by omega, by omega, by omega, fun r G pl s1 pt wk => k r G pl s1 pt ?_⟩
      unfold upPs
      rw [if_pos h1]
      rw [atL_row, show ((c.1 + (e.1 - c.1), c.2) : Cell) = e from by refine Prod.ext ?_ h1.symm; dsimp only; omega] at wk
      exact wk
    have h1 : ¬ e.2 = c.2 := fun z => h1 (decide_eq_true (congrArg V.int z))
    refine ⟨_, rfl, _, rfl, _, _, rfl, rfl, _, _, rfl, rfl, _, rfl, two_le, fun ft hft => ?_⟩
    have s1 := same_new (o := HO.tup [.int (c.1 + ((m + 1 : Nat) : Int) - 1), .int c.2]) hft
    have aft : At (upd H ft (HO.tup [.int (c.1 + ((m + 1 : Nat) : Int) - 1), .int c.2])) ft (c.1 + ((m + 1 : Nat) : Int) - 1, c.2) := upd_same
    rw [show ((c.1 + ((m + 1 : Nat) : Int) - 1, c.2) : Cell) = (c.1 + (m : Int), c.2) from by refine Prod.ext ?_ rfl; dsimp only; omega] at aft
    generalize upd H ft (HO.tup [.int (c.1 + ((m + 1 : Nat) : Int) - 1), .int c.2]) = H1 at s1 aft ⊢
    refine ⟨_, rfl, ft, _, _, _, rfl, rfl, SqT.of aft, at0, _, rfl, g, _, _, _, rfl, rfl, SqT.of (ag.same s1), at1, two_le, fun tp htp => ?_⟩
    have s2 := same_new (o := HO.tup [.int (c.1 + (m : Int)), .int e.2]) htp
    have atp : At (upd H1 tp (HO.tup [.int (c.1 + (m : Int)), .int e.2])) tp (c.1 + (m : Int), e.2) := upd_same
    generalize upd H1 tp (HO.tup [.int (c.1 + (m : Int)), .int e.2]) = H2 at s2 atp ⊢
    have s12 := s1.trans s2
    refine ⟨_, rfl, _, rfl, q, m, c, rfl, aq.same s12, m1, by omega, fun r3 G3 p3 s3 t3 l3 w3 => ?_⟩
    have s13 := s12.trans s3
    refine ⟨_, rfl, _, rfl, _, rfl, g, _, _, _, rfl, rfl, SqT.of (ag.same s13), at1, _, rfl, _, _, rfl, rfl, ft, m + 1, e.2 - c.2, (c.1 + (m : Int), c.2), rfl, (aft.same s2).same s3, by omega, by omega, by omega, fun r4 G4 p4 s4 t4 w4 => ?_⟩
    obtain ⟨nR, _, hR, lR⟩ := row_ok c m
    obtain ⟨nC, _, hC, lC⟩ := col_ok (c.1 + (m : Int), c.2) m
    obtain ⟨nD, _, hD, lD⟩ := col_ok (c.1 + (m : Int), e.2) m
    obtain ⟨nS, _, hS, lS⟩ := row_ok (c.1 + (m : Int), e.2) m
    have b1 : (m + 1) * m ≤ 101 * 100 := Nat.mul_le_mul (by omega) m100
    have l4 := w4.len nC hC
    rw [line_len, List.length_map, List.length_range] at l4
    have b4 : (m + 1) * (e.2 - c.2).natAbs ≤ 101 * 100 := Nat.mul_le_mul (by omega) n2
    refine cat_pairsB (pairsT_same t3 s4) t4 (by omega) fun r5 G5 s5 t5 => ?_
    have s15 := (s13.trans s4).trans s5
    have s25 := (s3.trans s4).trans s5
    refine ⟨_, rfl, _, rfl, _, rfl, tp, m, (c.1 + (m : Int), e.2), rfl, atp.same s25, m1, by omega, fun r6 G6 p6 s6 t6 l6 w6 => ?_⟩
    refine cat_pairsB (pairsT_same t5 s6) t6 (by rw [List.length_append]; omega) fun r7 G7 s7 t7 => ?_
    have s17 := (s15.trans s6).trans s7
    have s27 := (s25.trans s6).trans s7
    refine ⟨_, rfl, _, rfl, _, rfl, g, _, _, _, rfl, rfl, SqT.of (ag.same s17), at0, _, rfl, ft, _, _, _, rfl, rfl, SqT.of ((aft.same s2).same s27), at0, _, _, rfl, rfl, tp, m + 1, e.1 - (c.1 + (m : Int)), (c.1 + (m : Int), e.2), rfl, atp.same s27, by omega, by omega, by omega, fun r8 G8 p8 s8 t8 w8 => ?_⟩
    have l8 := w8.len nS hS
    rw [line_len, List.length_map, List.length_range] at l8
    have b8 : (m + 1) * (e.1 - (c.1 + (m : Int))).natAbs ≤ 101 * 200 := Nat.mul_le_mul (by omega) (by omega)
    refine cat_pairsB (pairsT_same t7 s8) t8 (by rw [List.length_append, List.length_append]; omega) fun r9 G9 s9 t9 => ?_
    refine k r9 G9 _ ((s17.trans s8).trans s9) t9 ?_
    unfold upPs
    rw [if_neg h1]
    rw [atL_col, show ((c.1 + (m : Int), c.2 + (e.2 - c.2)) : Cell) = (c.1 + (m : Int), e.2) from by refine Prod.ext rfl ?_; dsimp only; omega] at w4
    rw [atL_row, show ((c.1 + (m : Int) + (e.1 - (c.1 + (m : Int))), e.2) : Cell) = e from by refine Prod.ext ?_ rfl; dsimp only; omega] at w8
    rw [List.append_assoc, List.append_assoc]
    exact w3.app (w4.app (w6.app w8))
abbrev rpN : List Str := ["first", "other", "n", "source", "goal", "many"]
theorem scRP : FnScope rpN ["first", "other", "n"] (defScope gRowPlan) := ⟨rfl, rfl, rfl, by decide +kernel, rfl, by decide +kernel, by decide +kernel⟩
theorem ok_rowPlan {f CB : Addr} {fd : FuncData} (F : FnP K "row_plan" gRowPlan f fd) (DC : Df P w K mg base (L2.CX P w) 3 "checked_cell" ["value"] (spChecked K CB)) (DN : Df P w K mg base (L2.CX P w) 2 "checked_many" ["n", "least"] spMany) (DU : Df P w K mg base CX0 8 "upward_plan" ["source", "goal", "many"] spUp) (DB : Df P w K mg base CX0 4 "back" ["plan"] spBackP) :
    FnOk P w K mg base CX0 9 f fd ["first", "other", "n"] spRowP := by
  refine F.ok scRP (fun vs H Q E h => ?_) (fun cdv A outer s H vs Q E hr h => ?_)
  · obtain ⟨q, g, m, c, e, rfl, _⟩ := h
    rfl
  · obtain ⟨q, g, m, c, e, rfl, aq, ag, m1, m100, nr, k⟩ := h
    have h64 := room64 hr
    refine ⟨_, PSs.nox (pss_cons (ps_set (i := 3) scRP.nd rfl (.inl rfl) (pe_df DC hr (by rfl) (passes_call (W := fun _ _ _ _ => False) (E := fun _ _ _ => False) takes0 (fun _ _ _ _ h => h)) (pa_cons (pv 0) pa_nil)))
      (pss_cons (ps_set (i := 4) scRP.nd rfl (.inl rfl) (pe_df DC hr (by rfl) (passes_call (W := fun _ _ _ _ => False) (E := fun _ _ _ => False) takes0 (fun _ _ _ _ h => h)) (pa_cons (pv 1) pa_nil)))
      (pss_cons (ps_set (i := 5) scRP.nd rfl (.inl rfl) (pe_df DN hr (by rfl) (passes_call (W := fun _ _ _ _ => False) (E := fun _ _ _ => False) takes0 (fun _ _ _ _ h => h)) (pa_cons (pv 2) (pa_cons pe_int pa_nil))))
      (pss_cons (ps_if (pt_cmpR (op_ltTK (K := K) rfl h64) (pe_tup (pa_cons (pe_ix (ix_tupK (K := K) rfl) (pv 4) pe_int (fun _ _ => rfl)) (pa_cons (pe_ix (ix_tupK (K := K) rfl) (pv 4) pe_int (fun _ _ => rfl)) pa_nil))) (pe_tup (pa_cons (pe_ix (ix_tupK (K := K) rfl) (pv 3) pe_int (fun _ _ => rfl)) (pa_cons (pe_ix (ix_tupK (K := K) rfl) (pv 3) pe_int (fun _ _ => rfl)) pa_nil))) (nomark _))
      (pss_one (ps_ret (pe_df DB hr (by rfl) pass0 (pa_cons (pe_df DU hr (by rfl) pass0 (pa_cons (pv 4) (pa_cons (pv 3) (pa_cons (pv 5) pa_nil)))) pa_nil))))
      pss_nil)
      (pss_one (ps_ret (pe_df DU hr (by rfl) pass0 (pa_cons (pv 3) (pa_cons (pv 4) (pa_cons (pv 5) pa_nil)))))))))), ?_⟩
    refine ⟨_, rfl, _, rfl, .inl ⟨q, c, rfl, aq, fun q1 hq1 => ?_⟩⟩
    have s1 := same_new (o := .tup (cV c)) hq1
    have aq1 : At (upd H q1 (.tup (cV c))) q1 c := upd_same
    generalize upd H q1 (.tup (cV c)) = H1 at s1 aq1 ⊢
    refine ⟨_, rfl, _, rfl, .inl ⟨g, e, rfl, ag.same s1, fun g1 hg1 => ?_⟩⟩
    have s2 := same_new (o := .tup (cV e)) hg1
    have ag1 : At (upd H1 g1 (.tup (cV e))) g1 e := upd_same
    generalize upd H1 g1 (.tup (cV e)) = H2 at s2 ag1 ⊢
    have aq2 := aq1.same s2
    refine ⟨_, rfl, _, _, rfl, by omega, ?_⟩
    refine ⟨_, rfl, g1, _, _, _, rfl, rfl, SqT.of ag1, at1, _, rfl, g1, _, _, _, rfl, rfl, SqT.of ag1, at0, two_le, fun u3 hu3 => ?_⟩
    have s3 := same_new (o := HO.tup [.int e.2, .int e.1]) hu3
    have e3 := upd_same (H := H2) (a := u3) (o := HO.tup [.int e.2, .int e.1])
    generalize upd H2 u3 (HO.tup [.int e.2, .int e.1]) = H3 at s3 e3 ⊢
    have aq3 := aq2.same s3
    refine ⟨_, rfl, q1, _, _, _, rfl, rfl, SqT.of aq3, at1, _, rfl, q1, _, _, _, rfl, rfl, SqT.of aq3, at0, two_le, fun u4 hu4 => ?_⟩
    have s4 := same_new (o := HO.tup [.int c.2, .int c.1]) hu4
    have e4 := upd_same (H := H3) (a := u4) (o := HO.tup [.int c.2, .int c.1])
    generalize upd H3 u4 (HO.tup [.int c.2, .int c.1]) = H4 at s4 e4 ⊢
    have aq4 := aq3.same s4
    have ag4 := (ag1.same s3).same s4
    have s14 := ((s1.trans s2).trans s3).trans s4
    refine ⟨u3, u4, [e.2, e.1], [c.2, c.1], rfl, rfl, pair_ints _ _ _ _ _ (s4 _ _ e3), pair_ints _ _ _ _ _ e4, _, rfl, ?_⟩
    rw [lex2]
    refine ite2 (fun h1 => ?_) (fun h1 => ?_)
    · have ah : AheadR e c := show e.2 < c.2 ∨ (e.2 = c.2 ∧ e.1 < c.1) from of_decide_eq_true h1
      refine ⟨_, rfl, _, rfl, _, rfl, g1, q1, m, e, c, rfl, ag4, aq4, m1, m100, nr.symm, fun r5 G5 p5 s5 t5 w5 => ?_⟩
      refine ⟨r5, p5, rfl, t5, wks_small w5 m100 nr.symm, fun r6 G6 s6 t6 => ?_⟩
      exact k r6 G6 _ ((s14.trans s5).trans s6) t6 (.inl ⟨ah, p5, w5, rfl⟩)
    · have na : ¬ AheadR e c := fun z => h1 (decide_eq_true (p := e.2 < c.2 ∨ (e.2 = c.2 ∧ e.1 < c.1)) z)
      refine ⟨_, rfl, _, rfl, _, rfl, q1, g1, m, c, e, rfl, aq4, ag4, m1, m100, nr, fun r5 G5 p5 s5 t5 w5 => ?_⟩
      exact k r5 G5 p5 (s14.trans s5) t5 (.inr ⟨na, w5⟩)
end
end Sq

set_option Elab.async false
set_option linter.all false
set_option maxRecDepth 100000
set_option maxHeartbeats 4000000
/-! The law: from row to row. -/
namespace Sq
open PySem PySem.Spec PyProof.Rows L2
theorem catL_pairsB {H : Hp} {a b : Addr} {ms ns : List CellP} {Q : VK} (h : PairsL H a ms) (k : PairsL H b ns) (l : ms.length + ns.length ≤ 1000000) (q : ∀ r G, Same H G → PairsL G r (ms ++ ns) → Q (.ref r) G) : rCat (.ref a) (.ref b) H Q := by
  obtain ⟨ps, ea, pr⟩ := id h
  obtain ⟨qs, eb, pq⟩ := id k
  have l1 : ps.length = ms.length := Paired.length pr
  have l2 : qs.length = ns.length := Paired.length pq
  refine ⟨a, b, _, _, rfl, rfl, ea, eb, by rw [List.length_map, List.length_map, sizeLine_eq]; omega, fun p hp => ?_⟩
  exact q p _ (same_new hp) ⟨ps ++ qs, by rw [upd_same, List.map_append], paired_imp (fun _ _ z => z.keep (.of (same_new hp))) (paired_app pr pq)⟩
theorem PairsL.sameB {G G' : Hp} {t : Addr} {ms : List CellP} (h : PairsL G t ms) (k : Same G G') : PairsL G' t ms := by
  obtain ⟨rs, e, pr⟩ := h
  exact ⟨rs, k _ _ e, paired_imp (fun _ _ (h : PairAt G _ _) => h.same k) pr⟩
/-- _law_t4rows; up: only for a row that does not come ahead -/
def spT4rows (up : Bool) : Sp := fun vs H Q _ => ∃ (q g : Addr) (m : Nat) (c e : Cell), vs = [.ref q, .ref g, .int ((m + 1 : Nat) : Int)] ∧ At H q c ∧ At H g e ∧ 1 ≤ m ∧ m ≤ 100 ∧ NearR c e ∧ (up = true → ¬ AheadR e c) ∧
  ∀ r G pl, Same H G → PairsT G r pl → RowPl c e m pl → Q (.ref r) G
def spNone : Sp := fun _ _ _ _ => False
theorem fn_none {P : Program} {w : World} {K : PySem.W.Frag} {mg : Str → Option Value} {base : Heap} {CX : CXT} {k : Nat} {f : Addr} {fd : FuncData} {ps : List Str} : FnOk P w K mg base CX k f fd ps spNone :=
  ⟨fun _ _ _ _ h => h.elim, fun _ _ _ _ _ _ _ _ _ _ _ _ _ h => h.elim⟩
theorem rowPl_small {c e : Cell} {m : Nat} {pl : List CellP} (w : RowPl c e m pl) (hm : m ≤ 100) (n : NearR c e) : pl.length ≤ 100000 := by
  have a := w.len.2
  obtain ⟨n1, n2⟩ := n
  exact Nat.le_trans a (Nat.le_trans (Nat.mul_le_mul (by omega : m + 1 ≤ 101) (by omega : 3 * m + (e.1 - c.1).natAbs + (e.2 - c.2).natAbs ≤ 500)) (by decide))
abbrev rsN : List Str := ["_law_first", "_law_other", "_law_n", "_law_top", "_law_low", "_law_pairs", "_law_k"]
section
variable {P : Program} {w : World} {K : PySem.W.Frag} {mg : Str → Option Value} {base : Heap}
theorem scT4rs : FnScope rsN ["_law_first", "_law_other", "_law_n"] (defScope lT4rows) := ⟨rfl, rfl, rfl, by decide +kernel, rfl, by decide +kernel, by decide +kernel⟩
theorem ok_t4rows {f : Addr} {fd : FuncData} {j : Nat} {up : Bool} {sp1 : Sp} (hj : 4 ≤ j) (hs : up = false → sp1 = spT4rows true) (F : FnP K "_law_t4rows" lT4rows f fd) (B : Bl mg) (DR : Df P w K mg base CX0 j "_law_t4rows" ["_law_first", "_law_other", "_law_n"] sp1) (DB : Df P w K mg base CX0 1 "_law_t4back" ["_law_plan"] spBackP)
    (DTr : Df P w K mg base CX0 1 "_law_t4row" ["_law_first", "_law_n"] (spT4line (1, 0))) (DTc : Df P w K mg base CX0 1 "_law_t4column" ["_law_first", "_law_n"] (spT4line (0, 1))) (DW : Df P w K mg base CX0 4 "_law_t4walks" ["_law_cells", "_law_pairs"] spT4walks) (DAl : Df P w K mg base CX0 1 "_law_t4along" ["_law_cells", "_law_by"] spT4along) :
    FnOk P w K mg base CX0 (j + 1) f fd ["_law_first", "_law_other", "_law_n"] (spT4rows up) := by
  refine F.ok scT4rs (fun vs H Q E h => ?_) (fun cdv A outer s H vs Q E hr h => ?_)
  · obtain ⟨q, g, m, c, e, rfl, _⟩ := h
    rfl
  · obtain ⟨q, g, m, c, e, rfl, aq, ag, m1, m100, nr, hup, k⟩ := h
    have h4 : Room 4 _ := hr.mono hj
    have h64 := room64 hr
    refine ⟨_, PSs.nox (pss_cons (ps_if (pt_cmpR (op_ltTK (K := K) rfl h64) (pe_tup (pa_cons (pe_ix (ix_tupK (K := K) rfl) (pv 1) pe_int (fun _ _ => rfl)) (pa_cons (pe_ix (ix_tupK (K := K) rfl) (pv 1) pe_int (fun _ _ => rfl)) pa_nil))) (pe_tup (pa_cons (pe_ix (ix_tupK (K := K) rfl) (pv 0) pe_int (fun _ _ => rfl)) (pa_cons (pe_ix (ix_tupK (K := K) rfl) (pv 0) pe_int (fun _ _ => rfl)) pa_nil))) (nomark _))
      (pss_one (ps_ret (pe_df DB h4 (by rfl) pass0 (pa_cons (pe_df DR hr (by rfl) pass0 (pa_cons (pv 1) (pa_cons (pv 0) (pa_cons (pv 2) pa_nil))) (Nat.le_refl _)) pa_nil))))
      pss_nil)
      (pss_cons (ps_if (pt_cmpR op_eq (pe_ix (ix_tupK (K := K) rfl) (pv 1) pe_int (fun _ _ => rfl)) (pe_ix (ix_tupK (K := K) rfl) (pv 0) pe_int (fun _ _ => rfl)) (nomark _))
      (pss_one (ps_ret (pe_df DW h4 (by rfl) pass0 (pa_cons (pe_df DTr h4 (by rfl) pass0 (pa_cons (pv 0) (pa_cons (pv 2) pa_nil))) (pa_cons (pe_df DAl h4 (by rfl) pass0 (pa_cons (pe_df DTr h4 (by rfl) pass0 (pa_cons (pv 0) (pa_cons (pv 2) pa_nil))) (pa_cons (pe_op op_sub (pe_ix (ix_tupK (K := K) rfl) (pv 1) pe_int (fun _ _ => rfl)) (pe_ix (ix_tupK (K := K) rfl) (pv 0) pe_int (fun _ _ => rfl))) pa_nil))) pa_nil)))))
      pss_nil)
      (pss_cons (ps_asg (pe_tup (pa_cons (pe_op op_sub (pe_op op_add (pe_ix (ix_tupK (K := K) rfl) (pv 0) pe_int (fun _ _ => rfl)) (pv 2)) pe_int) (pa_cons (pe_ix (ix_tupK (K := K) rfl) (pv 0) pe_int (fun _ _ => rfl)) pa_nil))) (pg_tup (by rfl) (pgs_cons (pg_name (i := 3) scT4rs.nd rfl (.inr rfl)) (pgs_cons (pg_name (i := 4) scT4rs.nd rfl (.inr rfl)) pgs_nil))))
      (pss_cons (ps_setLc (i := 5) (own := [("_law_k", 6)]) (g := gName 6) (tt := tYes) (by rfl) scT4rs.nd rfl rfl (sw_true rfl rfl rfl (by decide +kernel)) (pi_range2 (by rfl) B.range (pa_cons pe_int (pa_cons (pv 2) pa_nil))) (blkOk_by (N := rsN) (sc := defScope lT4rows) (by decide +kernel)) (fun _ _ _ _ _ => pg_name (i := 6) scT4rs.nd rfl (Or.inl rfl)) (fun _ _ _ _ _ => pts_nil) (fun _ _ _ _ _ => (pe_tup (pa_cons (pe_tup (pa_cons (pe_op op_sub (pe_op op_add (pe_ix (ix_tupK (K := K) rfl) (pv 0) pe_int (fun _ _ => rfl)) (pv 6)) pe_int) (pa_cons (pv 4) pa_nil))) (pa_cons (pe_tup (pa_cons (pv 3) (pa_cons (pe_op op_add (pv 4) (pv 6)) pa_nil))) pa_nil)))))
      (pss_cons (ps_set (i := 5) scT4rs.nd rfl (.inl rfl) (pe_op op_cat (pv 5) (pe_df DAl h4 (by rfl) pass0 (pa_cons (pe_df DTc h4 (by rfl) pass0 (pa_cons (pe_tup (pa_cons (pv 3) (pa_cons (pv 4) pa_nil))) (pa_cons (pv 2) pa_nil))) (pa_cons (pe_op op_sub (pe_ix (ix_tupK (K := K) rfl) (pv 1) pe_int (fun _ _ => rfl)) (pv 4)) pa_nil)))))
      (pss_cons (ps_set (i := 5) scT4rs.nd rfl (.inl rfl) (pe_op op_cat (pv 5) (pe_lc (own := [("_law_k", 6)]) (g := gName 6) (tt := tYes) rfl scT4rs.nd (pi_range2 (by rfl) B.range (pa_cons pe_int (pa_cons (pv 2) pa_nil))) (blkOk_by (N := rsN) (sc := defScope lT4rows) (by decide +kernel)) (fun _ _ _ _ _ => pg_name (i := 6) scT4rs.nd rfl (Or.inl rfl)) (fun _ _ _ _ _ => pts_nil) (fun _ _ _ _ _ => (pe_tup (pa_cons (pe_tup (pa_cons (pv 3) (pa_cons (pe_op op_sub (pe_op op_add (pe_ix (ix_tupK (K := K) rfl) (pv 1) pe_int (fun _ _ => rfl)) (pv 2)) (pv 6)) pa_nil))) (pa_cons (pe_tup (pa_cons (pe_op op_add (pv 3) (pv 6)) (pa_cons (pe_ix (ix_tupK (K := K) rfl) (pv 1) pe_int (fun _ _ => rfl)) pa_nil))) pa_nil)))))))
      (pss_cons (ps_set (i := 5) scT4rs.nd rfl (.inl rfl) (pe_op op_cat (pv 5) (pe_df DAl h4 (by rfl) pass0 (pa_cons (pe_df DTr h4 (by rfl) pass0 (pa_cons (pe_tup (pa_cons (pv 3) (pa_cons (pe_ix (ix_tupK (K := K) rfl) (pv 1) pe_int (fun _ _ => rfl)) pa_nil))) (pa_cons (pv 2) pa_nil))) (pa_cons (pe_op op_sub (pe_ix (ix_tupK (K := K) rfl) (pv 1) pe_int (fun _ _ => rfl)) (pv 3)) pa_nil)))))
      (pss_one (ps_ret (pe_df DW h4 (by rfl) pass0 (pa_cons (pe_df DTr h4 (by rfl) pass0 (pa_cons (pv 0) (pa_cons (pv 2) pa_nil))) (pa_cons (pv 5) pa_nil)))))))))))), ?_⟩
    obtain ⟨n1, n2⟩ := id nr
    obtain ⟨nR, _, hR, lR⟩ := row_ok c m
    refine ⟨_, rfl, g, _, _, _, rfl, rfl, SqT.of ag, at1, _, rfl, g, _, _, _, rfl, rfl, SqT.of ag, at0, two_le, fun u3 hu3 => ?_⟩
    have s3 := same_new (o := HO.tup [.int e.2, .int e.1]) hu3
    have e3 := upd_same (H := H) (a := u3) (o := HO.tup [.int e.2, .int e.1])
    generalize upd H u3 (HO.tup [.int e.2, .int e.1]) = H3 at s3 e3 ⊢
    have aq3 := aq.same s3
    refine ⟨_, rfl, q, _, _, _, rfl, rfl, SqT.of aq3, at1, _, rfl, q, _, _, _, rfl, rfl, SqT.of aq3, at0, two_le, fun u4 hu4 => ?_⟩
    have s4 := same_new (o := HO.tup [.int c.2, .int c.1]) hu4
    have e4 := upd_same (H := H3) (a := u4) (o := HO.tup [.int c.2, .int c.1])
    generalize upd H3 u4 (HO.tup [.int c.2, .int c.1]) = H4 at s4 e4 ⊢
    have aq4 := aq3.same s4
    have s14 := s3.trans s4
    have ag4 := ag.same s14
    refine ⟨u3, u4, [e.2, e.1], [c.2, c.1], rfl, rfl, pair_ints _ _ _ _ _ (s4 _ _ e3), pair_ints _ _ _ _ _ e4, _, rfl, ?_⟩
    rw [lex2]
    refine ite2 (fun h1 => ?_) (fun h1 => ?_)
    · have ah : AheadR e c := show e.2 < c.2 ∨ (e.2 = c.2 ∧ e.1 < c.1) from of_decide_eq_true h1
      cases up with
      | true => exact absurd ah (hup rfl)
      | false =>
        obtain rfl := hs rfl
        have na : ¬ AheadR c e := fun z => by
          unfold AheadR at ah z
          omega
        refine ⟨_, rfl, _, rfl, _, rfl, g, q, m, e, c, rfl, ag4, aq4, m1, m100, nr.symm, fun _ => na, fun r5 G5 p5 s5 t5 w5 => ?_⟩
        refine ⟨r5, p5, rfl, t5, rowPl_small w5 m100 nr.symm, fun r6 G6 s6 t6 => ?_⟩
        exact k r6 G6 _ ((s14.trans s5).trans s6) t6 w5.back
    have na : ¬ AheadR e c := fun z => h1 (decide_eq_true (p := e.2 < c.2 ∨ (e.2 = c.2 ∧ e.1 < c.1)) z)
    refine ⟨_, rfl, g, _, _, _, rfl, rfl, SqT.of ag4, at1, _, rfl, q, _, _, _, rfl, rfl, SqT.of aq4, at1, rfl, _, rfl, ?_⟩
    have can := up_can c e m1
    have ul := up_len c e m
    refine ite2 (fun h1 => ?_) (fun h1 => ?_)
    · have h1 : e.2 = c.2 := V.int.inj (of_decide_eq_true h1)
      refine ⟨_, rfl, _, rfl, q, m + 1, c, rfl, aq4, by omega, fun r5 G5 s5 c5 => ?_⟩
      refine ⟨_, rfl, _, rfl, q, m + 1, c, rfl, aq4.same s5, by omega, fun r6 G6 s6 c6 => ?_⟩
      have s46 := s5.trans s6
      refine ⟨_, rfl, g, _, _, _, rfl, rfl, SqT.of (ag4.same s46), at0, _, rfl, q, _, _, _, rfl, rfl, SqT.of (aq4.same s46), at0, _, _, rfl, rfl, ?_⟩
      refine ⟨r6, e.1 - c.1, c, (1, 0), m + 1, rfl, c6, .inl rfl, by omega, by omega, by omega, fun l7 G7 s7 _ p7 => ?_⟩
      have eP : upPs c e m = alongs c (1, 0) m (e.1 - c.1) := by unfold upPs; rw [if_pos h1]
      have p7 : PairsL G7 l7 (upPs c e m) := by rw [eP]; exact p7
      refine ⟨r5, l7, rowL c m, _, _, rfl, c5.ek (.of (s6.trans s7)), nR, by omega, hR, p7, by omega, can, fun r8 G8 p8 s8 t8 _ w8 => ?_⟩
      exact k r8 G8 p8 (((s14.trans s46).trans s7).trans s8) t8 (.inr ⟨na, w8⟩)
    have h1 : ¬ e.2 = c.2 := fun z => h1 (decide_eq_true (congrArg V.int z))
    have en : (((m + 1 : Nat) : Int) - 1).toNat = m := by omega
    have etop : c.1 + ((m + 1 : Nat) : Int) - 1 = c.1 + (m : Int) := by omega
    refine ⟨_, rfl, q, _, _, _, rfl, rfl, SqT.of aq4, at0, _, rfl, _, _, rfl, rfl, _, _, rfl, rfl, _, rfl, q, _, _, _, rfl, rfl, SqT.of aq4, at1, two_le, fun u5 hu5 => ⟨u5, _, rfl, SqT.of upd_same, rfl, _, _, rfl, _, _, rfl, rfl, ?_⟩⟩
    dsimp only
    have s5 := same_new (o := HO.tup [.int (c.1 + ((m + 1 : Nat) : Int) - 1), .int c.2]) hu5
    generalize upd H4 u5 (HO.tup [.int (c.1 + ((m + 1 : Nat) : Int) - 1), .int c.2]) = H5 at s5 ⊢
    rw [etop]
    have s15 := s14.trans s5
    have aq5 := aq4.same s5
    have ag5 := ag4.same s5
    refine ⟨_, rfl, 1, _, rfl, ⟨by decide, by decide, by omega, by omega⟩, fun ul5 hul => ?_⟩
    refine lc_pairs (walk_range (lo := 1) (n := (((m + 1 : Nat) : Int) - 1).toNat)) hul (fun i => (List.range i).map (upsP c m)) rfl (by omega) (fun _ _ _ _ => trivial) ?_ ?_
    · rintro i x G2 G' K1 K0 hi sm ⟨rfl, rfl⟩ k1 k0
      rw [en] at hi
      have aq' := aq5.same sm
      refine ⟨rfl, yesT ⟨_, rfl, q, _, _, _, rfl, rfl, SqT.of aq', at0, _, rfl, _, _, rfl, rfl, _, _, rfl, rfl, _, rfl, two_le, fun u1 hu1 => ?_⟩⟩
      have s3 := same_new (o := HO.tup [.int (c.1 + (1 + (i : Int)) - 1), .int c.2]) hu1
      have a1 : At (upd G' u1 (HO.tup [.int (c.1 + (1 + (i : Int)) - 1), .int c.2])) u1 (c.1 + (1 + (i : Int)) - 1, c.2) := upd_same
      generalize upd G' u1 (HO.tup [.int (c.1 + (1 + (i : Int)) - 1), .int c.2]) = G3 at s3 a1 ⊢
      refine ⟨_, rfl, _, rfl, _, rfl, _, _, rfl, rfl, two_le, fun u2 hu2 => ⟨two_le, fun u3 hu3 => ?_⟩⟩
      have s4 := same_new (o := HO.tup [.int (c.1 + (m : Int)), .int (c.2 + (1 + (i : Int)))]) hu2
      have a2 : At (upd G3 u2 (HO.tup [.int (c.1 + (m : Int)), .int (c.2 + (1 + (i : Int)))])) u2 (c.1 + (m : Int), c.2 + (1 + (i : Int))) := upd_same
      have s5 := same_new (o := HO.tup [.ref u1, .ref u2]) hu3
      refine k1 u3 ((c.1 + (1 + (i : Int)) - 1, c.2), (c.1 + (m : Int), c.2 + (1 + (i : Int)))) _ ((s3.trans s4).trans s5) ⟨u1, u2, upd_same, s5 _ _ (s4 _ _ a1), s5 _ _ a2⟩ ?_
      rw [List.range_succ, List.map_append]
      congr 1
      show [upsP c m i] = _
      refine congrArg (fun x => [x]) ?_
      unfold upsP
      refine Prod.ext (Prod.ext ?_ ?_) (Prod.ext ?_ ?_) <;> dsimp only <;> omega
    rintro G6 us s6 eu pu
    rw [en] at pu
    have p6 : PairsL G6 ul5 ((List.range m).map (upsP c m)) := ⟨us, eu, pu⟩
    have s16 := s15.trans s6
    refine ⟨_, rfl, _, rfl, _, rfl, two_le, fun u7 hu7 => ?_⟩
    have s7 := same_new (o := HO.tup [.int (c.1 + (m : Int)), .int c.2]) hu7
    have a7 : At (upd G6 u7 (HO.tup [.int (c.1 + (m : Int)), .int c.2])) u7 (c.1 + (m : Int), c.2) := upd_same
    generalize upd G6 u7 (HO.tup [.int (c.1 + (m : Int)), .int c.2]) = G7 at s7 a7 ⊢
    refine ⟨_, rfl, u7, m + 1, (c.1 + (m : Int), c.2), rfl, a7, by omega, fun r8 G8 s8 c8 => ?_⟩
    have s68 := s7.trans s8
    refine ⟨_, rfl, g, _, _, _, rfl, rfl, SqT.of (ag5.same (s6.trans s68)), at1, _, rfl, _, _, rfl, rfl, ?_⟩
    refine ⟨r8, e.2 - c.2, (c.1 + (m : Int), c.2), (0, 1), m + 1, rfl, c8, .inr rfl, by omega, by omega, by omega, fun l9 G9 s9 _ p9 => ?_⟩
    have s69 := s68.trans s9
    refine catL_pairsB (p6.sameB s69) p9 (by rw [List.length_map, List.length_map, List.length_range, List.length_range]; omega) fun l10 G10 s10 p10 => ?_
    have s1a := (s16.trans s69).trans s10
    refine ⟨_, rfl, _, rfl, 1, _, rfl, ⟨by decide, by decide, by omega, by omega⟩, fun dl hdl => ?_⟩
    refine lc_pairs (walk_range (lo := 1) (n := (((m + 1 : Nat) : Int) - 1).toNat)) hdl (fun i => (List.range i).map (downsP (c.1 + (m : Int), e.2) m)) rfl (by omega) (fun _ _ _ _ => trivial) ?_ ?_
    · rintro i x G3 G' K1 K0 hi sm ⟨rfl, rfl⟩ k1 k0
      rw [en] at hi
      have ag' := ag.same (s1a.trans sm)
      refine ⟨rfl, yesT ⟨_, rfl, _, rfl, g, _, _, _, rfl, rfl, SqT.of ag', at1, _, rfl, _, _, rfl, rfl, _, rfl, _, _, rfl, rfl, two_le, fun u1 hu1 => ?_⟩⟩
      have s3 := same_new (o := HO.tup [.int (c.1 + (m : Int)), .int (e.2 + ((m + 1 : Nat) : Int) - (1 + (i : Int)))]) hu1
      have a1 : At (upd G' u1 (HO.tup [.int (c.1 + (m : Int)), .int (e.2 + ((m + 1 : Nat) : Int) - (1 + (i : Int)))])) u1 (c.1 + (m : Int), e.2 + ((m + 1 : Nat) : Int) - (1 + (i : Int))) := upd_same
      generalize upd G' u1 (HO.tup [.int (c.1 + (m : Int)), .int (e.2 + ((m + 1 : Nat) : Int) - (1 + (i : Int)))]) = G4 at s3 a1 ⊢
      refine ⟨_, rfl, _, rfl, _, _, rfl, rfl, _, rfl, g, _, _, _, rfl, rfl, SqT.of (ag'.same s3), at1, two_le, fun u2 hu2 => ⟨two_le, fun u3 hu3 => ?_⟩⟩
      have s4 := same_new (o := HO.tup [.int (c.1 + (m : Int) + (1 + (i : Int))), .int e.2]) hu2
      have a2 : At (upd G4 u2 (HO.tup [.int (c.1 + (m : Int) + (1 + (i : Int))), .int e.2])) u2 (c.1 + (m : Int) + (1 + (i : Int)), e.2) := upd_same
      have s5 := same_new (o := HO.tup [.ref u1, .ref u2]) hu3
      refine k1 u3 ((c.1 + (m : Int), e.2 + ((m + 1 : Nat) : Int) - (1 + (i : Int))), (c.1 + (m : Int) + (1 + (i : Int)), e.2)) _ ((s3.trans s4).trans s5) ⟨u1, u2, upd_same, s5 _ _ (s4 _ _ a1), s5 _ _ a2⟩ ?_
      rw [List.range_succ, List.map_append]
      congr 1
      show [downsP (c.1 + (m : Int), e.2) m i] = _
      refine congrArg (fun x => [x]) ?_
      unfold downsP
      refine Prod.ext (Prod.ext ?_ ?_) (Prod.ext ?_ ?_) <;> dsimp only <;> omega
    rintro G11 ds s11 ed pd
    rw [en] at pd
    have p11 : PairsL G11 dl ((List.range m).map (downsP (c.1 + (m : Int), e.2) m)) := ⟨ds, ed, pd⟩
    have la : (alongs (c.1 + (m : Int), c.2) (0, 1) m (e.2 - c.2)).length ≤ 100 := by unfold alongs; rw [List.length_map, List.length_range]; omega
    refine catL_pairsB (p10.sameB s11) p11 (by rw [List.length_append]; simp only [List.length_map, List.length_range]; omega) fun l12 G12 s12 p12 => ?_
    have s1c := (s1a.trans s11).trans s12
    refine ⟨_, rfl, _, rfl, _, rfl, g, _, _, _, rfl, rfl, SqT.of (ag.same s1c), at1, two_le, fun u13 hu13 => ?_⟩
    have s13 := same_new (o := HO.tup [.int (c.1 + (m : Int)), .int e.2]) hu13
    have a13 : At (upd G12 u13 (HO.tup [.int (c.1 + (m : Int)), .int e.2])) u13 (c.1 + (m : Int), e.2) := upd_same
    generalize upd G12 u13 (HO.tup [.int (c.1 + (m : Int)), .int e.2]) = G13 at s13 a13 ⊢
    refine ⟨_, rfl, u13, m + 1, (c.1 + (m : Int), e.2), rfl, a13, by omega, fun r14 G14 s14' c14 => ?_⟩
    have s1e := (s1c.trans s13).trans s14'
    refine ⟨_, rfl, g, _, _, _, rfl, rfl, SqT.of (ag.same s1e), at0, _, rfl, _, _, rfl, rfl, ?_⟩
    refine ⟨r14, e.1 - (c.1 + (m : Int)), (c.1 + (m : Int), e.2), (1, 0), m + 1, rfl, c14, .inl rfl, by omega, by omega, by omega, fun l15 G15 s15' _ p15 => ?_⟩
    have s12f := (s13.trans s14').trans s15'
    refine catL_pairsB (p12.sameB s12f) p15 (by simp only [List.length_append, List.length_map, List.length_range]; omega) fun l16 G16 s16' p16 => ?_
    have s1g := (s1c.trans s12f).trans s16'
    have eP : (((List.range m).map (upsP c m) ++ alongs (c.1 + (m : Int), c.2) (0, 1) m (e.2 - c.2)) ++ (List.range m).map (downsP (c.1 + (m : Int), e.2) m)) ++ alongs (c.1 + (m : Int), e.2) (1, 0) m (e.1 - (c.1 + (m : Int))) = upPs c e m := by
      unfold upPs
      rw [if_neg h1, List.append_assoc, List.append_assoc]
    have p16 : PairsL G16 l16 (upPs c e m) := by rw [← eP]; exact p16
    refine ⟨_, rfl, _, rfl, q, m + 1, c, rfl, aq.same s1g, by omega, fun r17 G17 s17 c17 => ?_⟩
    refine ⟨_, rfl, r17, l16, rowL c m, _, _, rfl, c17, nR, by omega, hR, p16.sameB s17, by omega, can, fun r18 G18 p18 s18 t18 _ w18 => ?_⟩
    exact k r18 G18 p18 ((s1g.trans s17).trans s18) t18 (.inr ⟨na, w18⟩)
end
end Sq

set_option Elab.async false
set_option linter.all false
set_option maxRecDepth 100000
set_option maxHeartbeats 2000000
/-! The law k27. -/
namespace Sq
open PySem PySem.Spec PyProof.Rows L2
def spLaw (K : PySem.W.Frag) : Sp := fun vs H Q _ => ∃ (a : Addr) (zs : List Int), vs = [.ref a] ∧ SqL K H a (zs.map V.int) ∧ zs.length ≤ 63 ∧ ∀ H', Q (.bl true) H'
abbrev l27N : List Str := ["_law_script", "_law_pen_here", "_law_n", "_law_first", "_law_across", "_law_up", "_law_other", "_law_plan", "_law_walks"]
/-- what stands from the two rows on -/
structure Z27 (G : Hp) (q g : Addr) (c e : Cell) (m : Nat) (ax ay : Int) : Prop where
  aq : At G q c
  ag : At G g e
  m1 : 1 ≤ m
  m7 : m ≤ 7
  ex : e.1 - c.1 = ax
  ey : e.2 - c.2 = ay
  lx : ax.natAbs ≤ 15
  ly : ay.natAbs ≤ 10
theorem Z27.same {G G' : Hp} {q g : Addr} {c e : Cell} {m : Nat} {ax ay : Int} (h : Z27 G q g c e m ax ay) (k : Same G G') : Z27 G' q g c e m ax ay := ⟨h.aq.same k, h.ag.same k, h.m1, h.m7, h.ex, h.ey, h.lx, h.ly⟩
theorem near_self (c : Cell) : NearR c c := ⟨by omega, by omega⟩
theorem Z27.near {G : Hp} {q g : Addr} {c e : Cell} {m : Nat} {ax ay : Int} (h : Z27 G q g c e m ax ay) : NearR c e := ⟨by have := h.ex; have := h.lx; omega, by have := h.ey; have := h.ly; omega⟩
theorem eqv_nil27 {p : List CellP} (h : p = []) : PyData.eqv (.tuple (p.map pD)) (.tuple []) = true := by
  subst h
  rfl
section
variable {P : Program} {w : World} {K : PySem.W.Frag} {mg : Str → Option Value} {base : Heap}
theorem scL27 : FnScope l27N ["_law_script"] (defScope sLaw) := ⟨rfl, rfl, rfl, by decide +kernel, rfl, by decide +kernel, by decide +kernel⟩
variable {f : Addr} {cdv : Value} {A : Around} {outer : List Env} {s : Shared} {H0 : Hp} {E : XK}
theorem p27_end (hr : Room 9 (cxOf CX0 P w K mg base l27N "law" (defScope sLaw) f cdv A outer s H0 E).nox.A) (B : Bl mg) (DP : Df P w K mg base CX0 9 "row_plan" ["first", "other", "n"] spRowP) (DSt : Df P w K mg base CX0 1 "_law_t4stretches" ["_law_plan"] spT4stN) :
    ∃ t, PSs (cxOf CX0 P w K mg base l27N "law" (defScope sLaw) f cdv A outer s H0 E).nox ((defBody sLaw).drop 8) t ∧
      ∀ (D : Ends) (G : Hp) (q g pt : Addr) (c e : Cell) (m : Nat) (ax ay : Int) (pl : List CellP) (v0 v1 v8 : Option V), Z27 G q g c e m ax ay → PairsT G pt pl → RowPl c e m pl →
        (∀ G', D.rt (.bl true) G') → t D [v0, v1, some (.int ((m + 1 : Nat) : Int)), some (.ref q), some (.int ax), some (.int ay), some (.ref g), some (.ref pt), v8] G := by
  have h64 := room64 hr
  refine ⟨_, (pss_cons (ps_if (PW.pt (pw_or (pt_cmpR (op_neK (K := K) rfl h64) (pe_df DP hr (by rfl) pass0 (pa_cons (pv 3) (pa_cons (pv 3) (pa_cons (pv 2) pa_nil)))) (pe_tup pa_nil) (nomark _)) (pw_or1 (pt_cmpR (op_neK (K := K) rfl h64) (pe_df DP hr (by rfl) pass0 (pa_cons (pv 6) (pa_cons (pv 6) (pa_cons (pv 2) pa_nil)))) (pe_tup pa_nil) (nomark _)))))
      (pss_one (ps_ret pe_bl))
      pss_nil)
      (pss_cons (ps_set (i := 8) scL27.nd rfl (.inl rfl) (pe_callB call_len_seq (by rfl) B.len PySem.boot_len (pa_cons (pe_df DSt hr (by rfl) pass0 (pa_cons (pv 7) pa_nil)) pa_nil)))
      (pss_one (ps_ret (pe_and (pe_cmpR op_le (pv 8) (pe_op op_add (pe_op op_add (pe_op op_add (pe_op op_add (pe_op op_mul pe_int (pv 2)) (pe_callB call_abs (by rfl) B.abs (by decide +kernel) (pa_cons (pv 4) pa_nil))) pe_int) (pe_callB call_abs (by rfl) B.abs (by decide +kernel) (pa_cons (pv 5) pa_nil))) pe_int) (nomark _)) (pe_one (pe_cmpR op_le (pe_callB call_len_seq (by rfl) B.len PySem.boot_len (pa_cons (pv 7) pa_nil)) (pe_op op_mul (pv 2) (pe_op op_add (pe_op op_add (pe_op op_add (pe_op op_mul pe_int (pv 2)) (pe_callB call_abs (by rfl) B.abs (by decide +kernel) (pa_cons (pv 4) pa_nil))) (pe_callB call_abs (by rfl) B.abs (by decide +kernel) (pa_cons (pv 5) pa_nil))) pe_int)) (nomark _)))))))), ?_⟩
  intro D G q g pt c e m ax ay pl v0 v1 v8 z tp rp k
  obtain ⟨aq, ag, m1, m7, ex, ey, lx, ly⟩ := id z
  have nr := z.near
  obtain ⟨l1, l2⟩ := rp.len
  rw [ex, ey] at l1 l2
  refine ⟨_, rfl, _, rfl, _, rfl, q, q, m, c, c, rfl, aq, aq, m1, by omega, near_self c, fun r1 G1 p1 s1 t1 w1 => ⟨Nat.zero_le _, fun u1 hu1 => ?_⟩⟩
  have s2 := same_new (o := HO.tup []) hu1
  have e2 := upd_same (H := G1) (a := u1) (o := HO.tup [])
  generalize upd G1 u1 (.tup []) = G2 at s2 e2 ⊢
  refine ⟨.tuple (p1.map pD), .tuple [], (pairsT_same t1 s2).dp, .tup (SqT.of e2) .nil, lay_pairsT.shaped (by decide), (lay_tuple (n := 0) (ds := []) (by simp)).shaped (by decide), _, rfl, ?_⟩
  rw [eqv_nil27 (rowPl_self w1)]
  refine iteN (by simp) ?_
  have s12 := s1.trans s2
  refine ⟨_, rfl, _, rfl, _, rfl, g, g, m, e, e, rfl, ag.same s12, ag.same s12, m1, by omega, near_self e, fun r3 G3 p3 s3 t3 w3 => ⟨Nat.zero_le _, fun u3 hu3 => ?_⟩⟩
  have s4 := same_new (o := HO.tup []) hu3
  have e4 := upd_same (H := G3) (a := u3) (o := HO.tup [])
  generalize upd G3 u3 (.tup []) = G4 at s4 e4 ⊢
  refine ⟨.tuple (p3.map pD), .tuple [], (pairsT_same t3 s4).dp, .tup (SqT.of e4) .nil, lay_pairsT.shaped (by decide), (lay_tuple (n := 0) (ds := []) (by simp)).shaped (by decide), _, rfl, ?_⟩
  rw [eqv_nil27 (rowPl_self w3)]
  refine iteN (by simp) ?_
  have s14 := (s12.trans s3).trans s4
  have lpl := rowPl_small rp (by omega) nr
  refine ⟨_, rfl, pt, pl, rfl, pairsT_same tp s14, by omega, fun l5 G5 rs s5 e5 n5 => ?_⟩
  refine ⟨l5, _, rfl, .inl (SqL.of e5), ?_⟩
  have s15 := s14.trans s5
  obtain ⟨ps, ep, pp⟩ := pairsT_same tp s15
  have lps : ps.length = pl.length := Paired.length pp
  refine ⟨_, rfl, _, rfl, _, _, rfl, rfl, .inr ⟨by omega, by omega⟩, _, rfl, _, rfl, _, _, rfl, rfl, _, _, rfl, rfl, _, rfl, _, rfl, _, _, rfl, rfl, _, _, rfl, rfl, _, _, rfl, rfl, _, rfl, ?_⟩
  refine ite2 (fun _ => ?_) (fun z => absurd ?_ z)
  · refine ⟨_, rfl, pt, _, rfl, .inr (SqT.of ep), _, rfl, _, rfl, _, _, rfl, rfl, .inr ⟨by omega, by omega⟩, _, rfl, _, rfl, _, _, rfl, rfl, _, rfl, _, rfl, _, _, rfl, rfl, _, _, rfl, rfl, _, _, rfl, rfl, .inl ⟨by omega, by omega⟩, _, _, rfl, rfl, ?_⟩
    dsimp only
    rw [decide_eq_true]
    · exact k G5
    · rw [List.length_map, lps]
      have h3 : (m + 1) * (3 * m + ax.natAbs + ay.natAbs) ≤ (m + 1) * (3 * (m + 1) + ax.natAbs + ay.natAbs + 2) := Nat.mul_le_mul (Nat.le_refl _) (by omega)
      have h4 : ((pl.length : Nat) : Int) ≤ (((m + 1) * (3 * (m + 1) + ax.natAbs + ay.natAbs + 2) : Nat) : Int) := Int.ofNat_le.mpr (Nat.le_trans l2 h3)
      have h5 : (3 * ((m + 1 : Nat) : Int) + (if ax < 0 then -ax else ax) + (if ay < 0 then -ay else ay) + 2) = ((3 * (m + 1) + ax.natAbs + ay.natAbs + 2 : Nat) : Int) := by
        split <;> split <;> omega
      rw [h5, ← Int.natCast_mul]
      exact h4
  · refine decide_eq_true ?_
    rw [List.length_map, n5]
    split <;> split <;> omega
theorem p27_plan (hr : Room 9 (cxOf CX0 P w K mg base l27N "law" (defScope sLaw) f cdv A outer s H0 E).nox.A) (B : Bl mg) (DP : Df P w K mg base CX0 9 "row_plan" ["first", "other", "n"] spRowP) (DSt : Df P w K mg base CX0 1 "_law_t4stretches" ["_law_plan"] spT4stN) (DR : Df P w K mg base CX0 6 "_law_t4rows" ["_law_first", "_law_other", "_law_n"] (spT4rows false)) (DB : Df P w K mg base CX0 1 "_law_t4back" ["_law_plan"] spBackP)
    (DTr : Df P w K mg base CX0 1 "_law_t4row" ["_law_first", "_law_n"] (spT4line (1, 0))) (DLe : Df P w K mg base CX0 5 "_law_t4leads" ["_law_cells", "_law_plan", "_law_other"] spT4leads) :
    ∃ t, PSs (cxOf CX0 P w K mg base l27N "law" (defScope sLaw) f cdv A outer s H0 E).nox ((defBody sLaw).drop 5) t ∧
      ∀ (D : Ends) (G : Hp) (q g : Addr) (c e : Cell) (m : Nat) (ax ay : Int) (v0 v1 v7 v8 : Option V), Z27 G q g c e m ax ay →
        (∀ G', D.rt (.bl true) G') → t D [v0, v1, some (.int ((m + 1 : Nat) : Int)), some (.ref q), some (.int ax), some (.int ay), some (.ref g), v7, v8] G := by
  have h64 := room64 hr
  obtain ⟨tl, htl, key⟩ := p27_end (P := P) (w := w) (K := K) (mg := mg) (base := base) (f := f) (cdv := cdv) (A := A) (outer := outer) (s := s) (H0 := H0) (E := E) hr B DP DSt
  refine ⟨_, (pss_cons (ps_set (i := 7) scL27.nd rfl (.inl rfl) (pe_df DP hr (by rfl) pass0 (pa_cons (pv 3) (pa_cons (pv 6) (pa_cons (pv 2) pa_nil)))))
      (pss_cons (ps_if (PW.pt (pw_or (pt_cmpR (op_neK (K := K) rfl h64) (pv 7) (pe_df DR hr (by rfl) pass0 (pa_cons (pv 3) (pa_cons (pv 6) (pa_cons (pv 2) pa_nil)))) (nomark _)) (pw_or1 (pt_cmpR (op_neK (K := K) rfl h64) (pe_df DP hr (by rfl) pass0 (pa_cons (pv 6) (pa_cons (pv 3) (pa_cons (pv 2) pa_nil)))) (pe_df DB hr (by rfl) pass0 (pa_cons (pv 7) pa_nil)) (nomark _)))))
      (pss_one (ps_ret pe_bl))
      pss_nil)
      (pss_cons (ps_if (pt_not (pt_val (pe_df DLe hr (by rfl) pass0 (pa_cons (pe_df DTr hr (by rfl) pass0 (pa_cons (pv 3) (pa_cons (pv 2) pa_nil))) (pa_cons (pv 7) (pa_cons (pe_df DTr hr (by rfl) pass0 (pa_cons (pv 6) (pa_cons (pv 2) pa_nil))) pa_nil))))))
      (pss_one (ps_ret pe_bl))
      pss_nil) htl))), ?_⟩
  intro D G q g c e m ax ay v0 v1 v7 v8 z k
  have nr := z.near
  obtain ⟨aq, ag, m1, m7, ex, ey, lx, ly⟩ := id z
  refine ⟨_, rfl, _, rfl, _, rfl, q, g, m, c, e, rfl, aq, ag, m1, by omega, nr, fun pt G1 pl s1 t1 w1 => ?_⟩
  have lpl := rowPl_small w1 (by omega) nr
  refine ⟨_, rfl, _, rfl, _, rfl, _, rfl, q, g, m, c, e, rfl, aq.same s1, ag.same s1, m1, by omega, nr, fun h => (nomatch h), fun r2 G2 p2 s2 t2 w2 => ?_⟩
  obtain rfl := w1.uniq w2
  refine ⟨.tuple (pl.map pD), .tuple (pl.map pD), (pairsT_same t1 s2).dp, t2.dp, lay_pairsT.shaped (by decide), lay_pairsT.shaped (by decide), _, rfl, ?_⟩
  rw [eqv_plan]
  refine iteN (by simp) ?_
  have s12 := s1.trans s2
  refine ⟨_, rfl, _, rfl, _, rfl, g, q, m, e, c, rfl, ag.same s12, aq.same s12, m1, by omega, nr.symm, fun r3 G3 p3 s3 t3 w3 => ?_⟩
  refine ⟨_, rfl, pt, pl, rfl, pairsT_same t1 (s2.trans s3), lpl, fun r4 G4 s4 t4 => ?_⟩
  obtain rfl := w3.uniq w1.back
  refine ⟨.tuple ((backM pl).map pD), .tuple ((backM pl).map pD), (pairsT_same t3 s4).dp, t4.dp, lay_pairsT.shaped (by decide), lay_pairsT.shaped (by decide), _, rfl, ?_⟩
  rw [eqv_plan]
  refine iteN (by simp) ?_
  have s14 := (s12.trans s3).trans s4
  refine ⟨_, rfl, _, rfl, q, m + 1, c, rfl, aq.same s14, by omega, fun r5 G5 s5 c5 => ?_⟩
  refine ⟨_, rfl, _, rfl, _, rfl, g, m + 1, e, rfl, (ag.same s14).same s5, by omega, fun r6 G6 s6 c6 => ?_⟩
  have s16 := (s14.trans s5).trans s6
  have s26 := (((s2.trans s3).trans s4).trans s5).trans s6
  obtain ⟨nR, aR, hR, lR⟩ := row_ok c m
  obtain ⟨nE, aE, _, _⟩ := row_ok e m
  obtain ⟨g1, g2⟩ := w1.go
  have l3 := w1.len.2
  rw [ex, ey] at l3
  have l4 : (m + 1) * (3 * m + ax.natAbs + ay.natAbs) ≤ 8 * 46 := Nat.mul_le_mul (by omega) (by omega)
  refine ⟨r5, pt, r6, rowL c m, _, pl, rfl, c5.ek (.of s6), nR, aR, hR, by omega, c6, nE, aE, pairsT_same t1 s26, by omega, g1, g2, fun G7 s7 => ⟨_, rfl, iteN (by simp) ?_⟩⟩
  exact key D G7 q g pt c e m ax ay pl _ _ _ (z.same (s16.trans s7)) (pairsT_same t1 (s26.trans s7)) w1 k
theorem ok_law {f : Addr} {fd : FuncData} (F : FnP K "law" sLaw f fd) (B : Bl mg) (D0 : Df P w K mg base CX0 1 "_law_pen" ["_law_script"] (spPen K)) (DD : Df P w K mg base CX0 1 "_law_draw" ["_law_pen_here", "_law_many"] spDrawC) (DPk : Df P w K mg base CX0 2 "_law_pick" ["_law_pen_here", "_law_some"] (spPickC K))
    (DP : Df P w K mg base CX0 9 "row_plan" ["first", "other", "n"] spRowP) (DSt : Df P w K mg base CX0 1 "_law_t4stretches" ["_law_plan"] spT4stN) (DR : Df P w K mg base CX0 6 "_law_t4rows" ["_law_first", "_law_other", "_law_n"] (spT4rows false)) (DB : Df P w K mg base CX0 1 "_law_t4back" ["_law_plan"] spBackP)
    (DTr : Df P w K mg base CX0 1 "_law_t4row" ["_law_first", "_law_n"] (spT4line (1, 0))) (DLe : Df P w K mg base CX0 5 "_law_t4leads" ["_law_cells", "_law_plan", "_law_other"] spT4leads) :
    FnOk P w K mg base CX0 10 f fd ["_law_script"] (spLaw K) := by
  refine F.ok scL27 (fun vs H Q E h => ?_) (fun cdv A outer s H vs Q E hr h => ?_)
  · obtain ⟨a, zs, rfl, _⟩ := h
    rfl
  · obtain ⟨a, zs, rfl, hS, hl, k⟩ := h
    obtain ⟨tl, htl, key⟩ := p27_plan (P := P) (w := w) (K := K) (mg := mg) (base := base) (f := f) (cdv := cdv) (A := A) (outer := outer) (s := s) (H0 := H) (E := E) hr B DP DSt DR DB DTr DLe
    refine ⟨_, PSs.nox (pss_cons (ps_set (i := 1) scL27.nd rfl (.inl rfl) (pe_df D0 hr (by rfl) pass0 (pa_cons (pv 0) pa_nil)))
      (pss_cons (ps_set (i := 2) scL27.nd rfl (.inl rfl) (pe_op op_add pe_int (pe_df DD hr (by rfl) pass0 (pa_cons (pv 1) (pa_cons pe_int pa_nil)))))
      (pss_cons (ps_set (i := 3) scL27.nd rfl (.inl rfl) (pe_tup (pa_cons (pe_op op_sub (pe_df DD hr (by rfl) pass0 (pa_cons (pv 1) (pa_cons pe_int pa_nil))) pe_int) (pa_cons (pe_op op_sub (pe_df DD hr (by rfl) pass0 (pa_cons (pv 1) (pa_cons pe_int pa_nil))) pe_int) pa_nil))))
      (pss_cons (ps_par (i := 4) (j := 5) (by rfl) scL27.nd rfl rfl (by decide) rfl rfl (pa_cons (pe_op op_sub (pe_df DD hr (by rfl) pass0 (pa_cons (pv 1) (pa_cons pe_int pa_nil))) pe_int) (pa_cons (pe_df DPk hr (by rfl) pass0 (pa_cons (pv 1) (pa_cons (pe_lst (pa_cons pe_int (pa_cons (pe_op op_sub (pe_df DD hr (by rfl) pass0 (pa_cons (pv 1) (pa_cons pe_int pa_nil))) pe_int) pa_nil))) pa_nil))) pa_nil)) (by rfl))
      (pss_cons (ps_set (i := 6) scL27.nd rfl (.inl rfl) (pe_tup (pa_cons (pe_op op_add (pe_ix (ix_tupK (K := K) rfl) (pv 3) pe_int (fun _ _ => rfl)) (pv 4)) (pa_cons (pe_op op_add (pe_ix (ix_tupK (K := K) rfl) (pv 3) pe_int (fun _ _ => rfl)) (pv 5)) pa_nil))))
      htl))))), ?_⟩
    have two : (2 : Nat) ≤ sizeLine := two_le
    refine ⟨_, rfl, a, zs, rfl, hS, hl, fun p H1 hp1 s1 np => ?_⟩
    obtain ⟨c0, hp1⟩ := hp1.c
    refine ⟨_, rfl, p, c0, 0, 7, rfl, hp1, by decide, by decide, by omega, fun r2 H2 r20 r28 hp2 _ => ⟨_, _, rfl, rfl, ?_⟩⟩
    obtain ⟨m, em, m1, m7⟩ : ∃ m : Nat, (2 : Int) + r2 = ((m + 1 : Nat) : Int) ∧ 1 ≤ m ∧ m ≤ 7 := ⟨r2.toNat + 1, by omega, by omega, by omega⟩
    dsimp only
    rw [em]
    refine ⟨_, rfl, p, c0, _, 30, rfl, hp2, by decide, by decide, by omega, fun r3 H3 r30 r31 hp3 _ => ⟨_, _, rfl, rfl, ?_⟩⟩
    refine ⟨_, rfl, p, c0, _, 30, rfl, hp3, by decide, by decide, by omega, fun r4 H4 r40 r41 hp4 _ => ⟨_, _, rfl, rfl, two, fun q hq => ?_⟩⟩
    have hp4' := hp4.same (same_new (o := HO.tup [.int (r3 - 15), .int (r4 - 15)]) hq)
    have aq : At (upd H4 q (HO.tup [.int (r3 - 15), .int (r4 - 15)])) q (r3 - 15, r4 - 15) := upd_same
    dsimp only
    generalize upd H4 q (HO.tup [.int (r3 - 15), .int (r4 - 15)]) = H5 at hp4' aq ⊢
    generalize ((r3 - 15, r4 - 15) : Cell) = c at aq
    refine ⟨_, rfl, p, c0, _, 31, rfl, hp4', by decide, by decide, by omega, fun r6 H6 r60 r61 hp6 hb6 => ⟨_, _, rfl, rfl, ?_⟩⟩
    have aq6 := (pen_ek hp4'.at (kp_pick hb6)).at aq
    have lx : (r6 - 15).natAbs ≤ 15 := by omega
    dsimp only
    generalize r6 - 15 = ax at lx ⊢
    refine ⟨_, rfl, _, rfl, p, c0, _, 21, rfl, hp6, by decide, by decide, by omega, fun r7 H7 r70 r71 hp7 hb7 => ⟨_, _, rfl, rfl, two, fun l7 hl7 => ?_⟩⟩
    have aq7 := (pen_ek hp6.at (kp_pick hb7)).at aq6
    have s8 := same_new (o := HO.lst [V.int 0, V.int (r7 - 10)]) hl7
    refine ⟨p, c0, l7, _, _, rfl, hp7.same s8, by omega, .inl (SqL.of upd_same), by simp, by simp, fun j x H8 hx hp8 hb8 => ⟨_, _, rfl, ?_⟩⟩
    have aq8 := (pen_ek (hp7.same s8).at (kp_pick hb8)).at (aq7.same s8)
    obtain ⟨ay, rfl, ly⟩ : ∃ ay : Int, x = .int ay ∧ ay.natAbs ≤ 10 := by
      match j, hx with
      | 0, hx => exact ⟨0, (Option.some.inj hx).symm, by decide⟩
      | 1, hx => exact ⟨r7 - 10, (Option.some.inj hx).symm, by omega⟩
      | j + 2, hx => cases hx
    refine ⟨_, rfl, q, _, _, _, rfl, rfl, SqT.of aq8, at0, _, rfl, _, _, rfl, rfl, _, rfl, q, _, _, _, rfl, rfl, SqT.of aq8, at1, _, rfl, _, _, rfl, rfl, two, fun g hg => ?_⟩
    have s9 := same_new (o := HO.tup [.int (c.1 + ax), .int (c.2 + ay)]) hg
    have ag : At (upd H8 g (HO.tup [.int (c.1 + ax), .int (c.2 + ay)])) g (c.1 + ax, c.2 + ay) := upd_same
    exact key _ _ q g c (c.1 + ax, c.2 + ay) m ax ay _ _ _ _ ⟨aq8.same s9, ag, m1, m7, by dsimp only; omega, by dsimp only; omega, lx, ly⟩ k
end
end Sq

set_option Elab.async false
set_option linter.all false
set_option maxRecDepth 100000
set_option maxHeartbeats 4000000
/-! What the head must tell of the errors' classes, as a Bool and a datum. -/
namespace Sq
open PySem PySem.Spec PyProof.Rows L2
/-! ### the text of an __init__ -/
structure ITxt (st : Stmt) (ns : List Str) : Prop where
  ex : ∃ (msg : Str) (j : Nat) (p0 p1 p2 p3 p4 p5 : Pos) (ps : List Ps) (ar : Arg), defBody st = supS msg j p0 p1 p2 p3 p4 p5 :: (ns.zip ps).map (fun z => keepS z.1 z.2) ∧ ns.length ≤ ps.length ∧ ((defArgs st).posonlyargs ++ (defArgs st).args).head? = some ar ∧
    ar.arg = "self" ∧ (p2.endLine == p4.line) = true
  bind : ∀ (name qual : Str) (kV doc pm cdv ct : Value) (an : Option Addr) (cc : Addr) (s : Shared) (us : List Value), us.length = ns.length + 1 →
    BindsTo s (PySem.W.ksFn name qual (defArgs st) (defBody st) (defScope st) .none kV doc pm an cdv ct cc) ⟨us, []⟩ ((("self" : Str) :: ns).zip us)
  sup : (defScope st).names.lookup ("super" : Str) = some .globalImplicit
  cls : (defScope st).names.lookup ("__class__" : Str) = some .free
  loc : ∀ x ∈ (("self" : Str) :: ns), (defScope st).names.lookup x = some .local
  dbg : ∀ x ∈ ns, (x == ("__debug__" : Str)) = false
  cell : ∀ x ∈ (defScope st).names, x.2 ≠ .cell
  co : (defScope st).isCoroutine = false
  gen : (defScope st).isGenerator = false
  kind : (defScope st).kind = .function
  nd : ns.Nodup
  noSelf : ("self" : Str) ∉ ns
  len : ns.length ≤ 900
abbrev sI (j : Nat) : Stmt := inClass (top j) 0
theorem iBadNumber : ITxt (sI 2) ["what", "number"] := ⟨⟨_, _, _, _, _, _, _, _, [⟨_, _, _, _⟩, ⟨_, _, _, _⟩], _, rfl, by decide, rfl, rfl, rfl⟩, fun _ _ _ _ _ _ _ _ _ _ us hl => (match us, hl with | [_, _, _], _ => .of_eq rfl), rfl, rfl, by decide +kernel, by decide +kernel, by decide +kernel, rfl, rfl, rfl, by decide +kernel, by decide +kernel, by decide⟩
theorem iBadCell : ITxt (sI 3) ["cell"] := ⟨⟨_, _, _, _, _, _, _, _, [⟨_, _, _, _⟩], _, rfl, by decide, rfl, rfl, rfl⟩, fun _ _ _ _ _ _ _ _ _ _ us hl => (match us, hl with | [_, _], _ => .of_eq rfl), rfl, rfl, by decide +kernel, by decide +kernel, by decide +kernel, rfl, rfl, rfl, by decide +kernel, by decide +kernel, by decide⟩
/-! ### what is looked at -/
abbrev FnI : Type := Option (Str × Str × Arguments × FuncBody × Scope × Addr × List Str × Addr)
def obsI (K : PySem.W.Frag) (x : Str) : FnI := match K.lookup (He.ma K (He.ga K x) "__init__") with
  | some ⟨_, _, .func fd, _⟩ => some (fd.name, fd.qualname, fd.params, fd.body, fd.scope, fd.globals, fd.closure.map (·.1), fd.builtins)
  | _ => none
def valI (x : Str) (st : Stmt) : FnI := some ("__init__", x ++ ".__init__", defArgs st, .stmts (defBody st), defScope st, mainGlobals, ["__class__"], builtinsNs)
/-- the __init__'s function: no defaults, its code of this file, its cell the class -/
def fnB (file : Str) (K : PySem.W.Frag) (C fI : Addr) (qual : Str) : Bool := match K.lookup fI with
  | some ⟨_, _, .func fd, _⟩ => (match fd.defaults with
      | .none => true
      | _ => false) && (match fd.code with
      | .ref c => PySem.W.codeIn K (.ref c) qual && (match K.lookup c with
        | some ⟨_, _, .fields vs, _⟩ => (match (vs[2]? : Option Value) with
          | some (.str z _) => decide (z = file)
          | _ => false)
        | _ => false)
      | _ => false) && (match fd.closure with
      | [(_, cc)] => (match K.lookup cc with
        | some ⟨_, _, .cell (some (.ref D)), _⟩ => Nat.beq D C
        | _ => false)
      | _ => false)
  | _ => false
/-- the class's object -/
def clB (K : PySem.W.Frag) (C : Addr) : Bool := match K.lookup C with
  | some ⟨.type T, _, .cls cd, sl⟩ => decide (T = "type") && (match cd.mro, sl.toList with
      | .ref C0 :: tl, [_, _, _, _, some (.builtin nw), _] => Nat.beq C0 C && (decide (nw = "ValueError.__new__") && (!cd.hasDel && (cd.hasDict && (PySem.HandSPX.refsVE tl && He.eqO (PySem.W.alongIn K "__init__" tl) (some (some (.builtin "ValueError.__init__")))))))
      | _, _ => false)
  | _ => false
def obB (a b : Option Bool) : Bool := decide (a = b)
def errB (file : Str) (K : PySem.W.Frag) (x : Str) (ns : List Str) : Bool :=
  clB K (He.ga K x) && (fnB file K (He.ga K x) (He.ma K (He.ga K x) "__init__") (x ++ ".__init__") && (He.eqO (PySem.W.findIn K (.ref (He.ga K x)) "__setattr__") (some (some (.builtin "object.__setattr__"))) &&
  (He.eqO (PySem.W.findIn K (.ref (He.ga K x)) "__init__") (some (some (.ref (He.ma K (He.ga K x) "__init__")))) && (decide (PySem.W.typeIn K (.ref (He.ma K (He.ga K x) "__init__")) = some (.type "function")) && (PySem.W.keepIn K (.ref (He.ga K x)) &&
  (obB (PySem.W.subIn K (.ref (He.ga K x)) (.type "ValueError")) (some true) && (obB (PySem.W.mroIn K (He.ga K x) (.ref (He.ga K x))) (some true) && (ns.all fun f => He.eqO (PySem.W.findIn K (.ref (He.ga K x)) f) (some none)) &&
  (He.eqO (PySem.W.findIn K (.ref (He.ga K x)) "__getattribute__") (some (some (.builtin "BaseException.__getattribute__"))) && (He.eqO (PySem.W.findIn K (.ref (He.ga K x)) "__getattr__") (some none) &&
  (obB (PySem.W.subIn K (.ref (He.ga K x)) (.type "BaseException")) (some true) && (PySem.W.hasDictIn K (He.ga K x) && (He.eqO (PySem.W.findIn K (.ref (He.ga K x)) "__class__") (some (some (.builtin "object.__class__"))) &&
  (obB (PySem.W.mroIn K (He.ga K x) (.type "object")) (some true) && He.eqO (PySem.W.nsIn K mainGlobals x) (some (some (.ref (He.ga K x)))))))))))))))))
/-- what is common to all -/
def comB (K : PySem.W.Frag) : Bool := He.eqO (PySem.W.nsIn K PySem.cStatics "thirdparty.any") (some none) && (He.eqO (PySem.W.nsIn K mainGlobals "super") (some none) &&
  (He.eqO (PySem.W.specialIn K (.builtin "object.__class__") "__get__") (some (some (.builtin "getset_descriptor.__get__"))) && obB (PySem.W.takesIn K (.builtin "object.__class__")) (some true)))
theorem ba {a b : Bool} (h : (a && b) = true) : a = true ∧ b = true := Bool.and_eq_true_iff.mp h
theorem clB_ok {K : PySem.W.Frag} {C : Addr} (h : clB K C = true) : ∃ nm q N bs bm sn sub ab col dd k0 k1 k2 k3 k5, K.lookup C = some (excClassObj nm q C N bs bm true sn sub ab col dd k0 k1 k2 k3 k5 "ValueError.__new__") ∧ PySem.HandSPX.refsVE bm = true ∧
    PySem.W.alongIn K "__init__" bm = some (some (.builtin "ValueError.__init__")) := by
  unfold clB at h
  split at h
  · rename_i T dd cd sl ho
    obtain ⟨hT, h⟩ := ba h
    split at h
    · rename_i C0 tl k0 k1 k2 k3 nw k5 hm hs
      obtain ⟨g1, h⟩ := ba h
      obtain ⟨g2, h⟩ := ba h
      obtain ⟨g3, h⟩ := ba h
      obtain ⟨g4, h⟩ := ba h
      obtain ⟨g5, g6⟩ := ba h
      have e1 : C0 = C := Nat.eq_of_beq_eq_true g1
      have e2 : nw = "ValueError.__new__" := of_decide_eq_true g2
      have e0 : T = "type" := of_decide_eq_true hT
      subst e1 e2 e0
      obtain ⟨nm, bs, mro, nsp, qn, hd, sn, sub, ab, col, del⟩ := cd
      dsimp only at hm g3 g4
      have e3 : del = false := by simpa using g3
      subst hm e3 g4
      have hsl : sl = #[k0, k1, k2, k3, some (.builtin "ValueError.__new__"), k5] := by
        obtain ⟨l⟩ := sl
        exact congrArg Array.mk hs
      subst hsl
      exact ⟨nm, qn, nsp, bs, tl, sn, sub, ab, col, dd, k0, k1, k2, k3, k5, ho, g5, He.eqO_ok g6⟩
    · cases h
  · cases h
theorem fnB_ok {file : Str} {K : PySem.W.Frag} {C fI : Addr} {qual : Str} {fd : FuncData} {oc : Value} {od : Option Addr} {osl : Array (Option Value)} (lk : K.lookup fI = some ⟨oc, od, .func fd, osl⟩) (h : fnB file K C fI qual = true) :
    fd.defaults = .none ∧ ∃ (cda : Addr) (n : Str) (cc : Addr) (ccl cl : Value) (cdd cld : Option Addr) (ccs csl : Array (Option Value)) (vs : Array Value) (tf : Tok), fd.code = .ref cda ∧ PySem.W.codeIn K (.ref cda) qual = true ∧ fd.closure = [(n, cc)] ∧
      K.lookup cda = some ⟨ccl, cdd, .fields vs, ccs⟩ ∧ vs[2]? = some (.str file tf) ∧ K.lookup cc = some ⟨cl, cld, .cell (some (.ref C)), csl⟩ := by
  unfold fnB at h
  rw [lk] at h
  obtain ⟨h, h3⟩ := ba h
  obtain ⟨h1, h2⟩ := ba h
  have g1 : fd.defaults = .none := by
    split at h1
    · assumption
    · cases h1
  refine ⟨g1, ?_⟩
  split at h2
  · rename_i c hc
    obtain ⟨g2, h2⟩ := ba h2
    split at h2
    · rename_i ccl cdd vs ccs hcl
      split at h2
      · rename_i z tf hz
        have e := of_decide_eq_true h2
        subst e
        split at h3
        · rename_i n cc hcc
          split at h3
          · rename_i cl cld D csl hD
            have e := Nat.eq_of_beq_eq_true h3
            subst e
            exact ⟨c, n, cc, ccl, cl, cdd, cld, ccs, csl, vs, tf, hc, g2, hcc, hcl, hz, hD⟩
          · cases h3
        · cases h3
      · cases h2
    · cases h2
  · cases h2
/-- all that is told of one class -/
structure ErrOk (P : Program) (K : PySem.W.Frag) (x : Str) (ns : List Str) : Prop where
  s : SErr P K (He.ga K x) (He.ma K (He.ga K x) "__init__") ns
  xf : XfC K (He.ga K x)
  ce : ClsE K (He.ga K x)
  gl : PySem.W.nsIn K mainGlobals x = some (some (.ref (He.ga K x)))
theorem errB_ok {P : Program} {K : PySem.W.Frag} {x : Str} {st : Stmt} {ns : List Str} (htop : (P.main.scope.names.lookup ("super" : Str)).isSome = false) (I : ITxt st ns) (ho : obsI K x = valI x st) (h : errB P.main.file K x ns = true) (hc : comB K = true) : ErrOk P K x ns := by
  unfold errB at h
  obtain ⟨a1, h⟩ := ba h
  obtain ⟨a2, h⟩ := ba h
  obtain ⟨a3, h⟩ := ba h
  obtain ⟨a4, h⟩ := ba h
  obtain ⟨a5, h⟩ := ba h
  obtain ⟨a6, h⟩ := ba h
  obtain ⟨a7, h⟩ := ba h
  obtain ⟨a89, h⟩ := ba h
  obtain ⟨a8, a9⟩ := ba a89
  obtain ⟨b1, h⟩ := ba h
  obtain ⟨b2, h⟩ := ba h
  obtain ⟨b3, h⟩ := ba h
  obtain ⟨b4, h⟩ := ba h
  obtain ⟨b5, h⟩ := ba h
  obtain ⟨b6, b7⟩ := ba h
  unfold comB at hc
  obtain ⟨c1, hc⟩ := ba hc
  obtain ⟨c2, hc⟩ := ba hc
  obtain ⟨c3, c4⟩ := ba hc
  have ob : ∀ {a b : Option Bool}, obB a b = true → a = b := fun q => of_decide_eq_true q
  refine ⟨⟨clB_ok a1, He.eqO_ok a3, He.eqO_ok a4, of_decide_eq_true a5, a6, ob a7, ob a8, He.eqO_ok c1, He.eqO_ok c2, fun f hf => He.eqO_ok (List.all_eq_true.mp a9 f hf), I.nd, I.len, I.noSelf, htop, ?_⟩, ⟨He.eqO_ok b1, He.eqO_ok b2, ob b3, b4⟩,
    ⟨He.eqO_ok b1, He.eqO_ok b2, ob b3, b4, He.eqO_ok b5, He.eqO_ok c3, ob c4, ob b6⟩, He.eqO_ok b7⟩
  unfold obsI at ho
  split at ho
  · rename_i oc od fd osl lk
    obtain ⟨q1, cda, n, cc, ccl, cl, cdd, cld, ccs, csl, vs, tf, q2, q3, q4, q5, q6, q7⟩ := fnB_ok lk a2
    obtain ⟨n1, n2, n3, n4, n5, n6, n7, n8, n9, n10, n11, n12, n13, n14, n15⟩ := fd
    dsimp only at q1 q2 q4
    unfold valI at ho
    simp only [Option.some.injEq, Prod.mk.injEq] at ho
    obtain ⟨r1, r2, r3, r4, r5, r6, r7, r8⟩ := ho
    rw [q4] at r7
    have en : n = "__class__" := by simpa using r7
    subst r1 r2 r3 r4 r5 r6 r8 q1 q2 q4 en
    obtain ⟨msg, j, p0, p1, p2, p3, p4, p5, ps, ar, e1, e2, e3, e4, e5⟩ := I.ex
    have bb := I.bind
    rw [e1] at lk bb
    exact ⟨oc, od, osl, _, _, _, _, _, _, _, _, _, cda, cc, ar, msg, j, p0, p1, p2, p3, p4, p5, ps, ccl, cl, cdd, cld, ccs, csl, vs, tf, lk, e2, e3, e4, q3, q5, q6, q7, fun s us hu => bb _ _ _ _ _ _ _ _ _ s us hu, I.sup, I.cls, I.loc, e5, I.dbg, I.cell, I.co, I.gen, I.kind⟩
  · cases ho
end Sq

set_option Elab.async false
set_option linter.all false
set_option maxRecDepth 100000
set_option maxHeartbeats 0
/-! The head. -/
namespace Sq
open PySem PySem.Spec PyProof.Rows L2
def dd (x : Str) (st : Stmt) : He.DefD := ⟨(x, none), x, x, defArgs st, defBody st, defScope st, [], []⟩
def fn0 : List He.DefD := [dd "is_whole" gWhole, dd "is_cell" gIsCell, dd "checked_cell" gChecked, dd "plain_cell" gPlain, dd "shifted" gShifted, dd "four_beside" gFour, dd "lot_of" gLot, dd "lot_without" gWithout, dd "put" gPut, dd "near_in" gNear, dd "hangs_without" gHangsW, dd "links_around" gLinks, dd "back" gBack, dd "moved_plan" gMovedPlan, dd "moved_cell" gMovedCell, dd "plain_value" gPlainValue, dd "next_side" gNextSide, dd "ring_from" gRingFrom, dd "walk_in" gWalkIn, dd "ways_in" gWaysIn, dd "distances_to" gDistancesTo, dd "crawl" gCrawl, dd "climb" gClimb, dd "stand" gStand, dd "lie" gLie, dd "row_plan" gRowPlan, dd "checked_many" gCheckedMany, dd "checked_by" gCheckedBy, dd "line_from" gLineFrom, dd "along" gAlong, dd "upward_plan" gUpwardPlan, dd "_law_pen" sPen, dd "_law_draw" sDraw, dd "_law_pick" sPick, dd "_law_w_beside" lWBeside, dd "_law_w_hangs" lWHangs, dd "_law_w_may" lWMay, dd "_law_w_moved" lWMoved, dd "_law_t4goes" lT4goes, dd "_law_t4both" lT4both, dd "_law_t4walk" lT4walk, dd "_law_t4walks" lT4walks, dd "_law_t4row" lT4row, dd "_law_t4column" lT4column, dd "_law_t4along" lT4along, dd "_law_t4rows" lT4rows, dd "_law_t4back" lT4back, dd "_law_t4bodies" lT4bodies, dd "_law_t4leads" lT4leads, dd "_law_t4stretches" lT4stretches, dd "law" sLaw]
def md (x : Str) (st : Stmt) : He.DefD := ⟨(x, some "__init__"), "__init__", x ++ ".__init__", defArgs st, defBody st, defScope st, [], []⟩
def mm (x m : Str) (st : Stmt) : He.DefD := ⟨(x, some m), m, x ++ "." ++ m, defArgs st, defBody st, defScope st, [], []⟩
def fn : List He.DefD := fn0 ++ [md "Trail" (sI 29), mm "Trail" "go" (inClass (top 29) 1)]
def clsF : List He.Fa := [.glo "Trail", .cls "Trail", .noat "Trail" "lot", .noat "Trail" "moves", .mkr "Trail", .meth "Trail" "go"]
def frees : List Str := ["int", "len", "list", "tuple", "bool", "isinstance", "range", "sorted", "abs", "min", "max", "set", "any", "dict", "reversed"]
def errN : List (Str × List Str) := [("BadNumber", ["what", "number"]), ("BadCell", ["cell"])]
def exms : List He.Fa := []
def glos : List He.Fa := [.glo "CROSSWISE", .glo "EAST", .glo "NORTH"]
def intF : List He.Fa := []
def fa : List He.Fa := fn0.map (fun d => .glo d.name) ++ (frees.map .free ++ (exms ++ (glos ++ (clsF ++ intF))))
abbrev R : PySem.W.OpenRow := PySem.W.OpenLaw.row PySem.Challenge.rw_slideinto_k27_whole_row_to_row
abbrev fileS : Str := PySem.Challenge.pw_slideinto_k27_whole_row_to_row.main.file
def initSt : List (Str × Stmt) := [("BadNumber", sI 2), ("BadCell", sI 3)]
def tyB (K : PySem.W.Frag) (x : Str) : Bool := decide (PySem.W.typeIn K (.ref (He.ga K x)) = some (.type "type"))
/-- a tuple of cells at module level -/
def eachC (K : PySem.W.Frag) : List Value → List Cell → Bool
  | [], [] => true
  | .ref r :: vs, d :: ds => (match K.lookup r with
    | some ⟨.type T, _, .seq its _, _⟩ => decide (T = "tuple") && (decide (its.size ≤ sizeLine) && (match its.toList with
      | [.int i _, .int j _] => decide (i = d.1) && decide (j = d.2)
      | _ => false))
    | _ => false) && eachC K vs ds
  | _, _ => false
def tupC (K : PySem.W.Frag) (x : Str) (ds : List Cell) : Bool := match K.lookup (He.ga K x) with
  | some ⟨.type T, _, .seq its _, _⟩ => decide (T = "tuple") && (decide (its.size ≤ sizeLine) && eachC K its.toList ds)
  | _ => false
def cellC (K : PySem.W.Frag) (x : Str) (d : Cell) : Bool := match K.lookup (He.ga K x) with
  | some ⟨.type T, _, .seq its _, _⟩ => decide (T = "tuple") && (decide (its.size ≤ sizeLine) && (match its.toList with
    | [.int i _, .int j _] => decide (i = d.1) && decide (j = d.2)
    | _ => false))
  | _ => false
def conB (K : PySem.W.Frag) : Bool := cellC K "EAST" (1, 0) && (cellC K "NORTH" (0, 1) && ((tupC K "CROSSWISE" crossL)))
def allB (K : PySem.W.Frag) : Bool := comB K && ((errN.all fun p => errB fileS K p.1 p.2 && tyB K p.1) && conB K)
def tabDs : List He.Defn := []
abbrev AlS : Type := He.AlD × (List FnI × Bool)
def obsS (K : PySem.W.Frag) : AlS := (He.obsD fa fn K, initSt.map (fun p => obsI K p.1), allB K)
def valS : AlS := (He.valD fn, initSt.map (fun p => valI p.1 p.2), true)
def kOf (g : Addr → Option Obj) : PySem.W.Frag := He.frT g (PySem.cStatics :: He.asD g 5)
abbrev AlK : Type := AlS × Bool
def obsK (g : Addr → Option Obj) : AlK := (obsS (kOf g), He.tabsB g tabDs (kOf g))
/-- what is told -/
structure SaysK (h : Heap) (K : PySem.W.Frag) : Prop where
  s : obsS K = valS
  t : ∀ t ∈ tabDs, PySem.W.codeHdIn K (He.cT K t).1 (He.cT K t).2 = true ∧ K.lookup (He.cT K t).2 = none ∧ h.get? (He.cT K t).2 = some { cls := .none, data := .fields #[] }
theorem says_of {h : Heap} (e : obsK h.get? = (valS, true)) : SaysK h (kOf h.get?) := by
  have e1 : obsS (kOf h.get?) = valS := congrArg (fun z : AlK => z.1) e
  have e2 : He.tabsB h.get? tabDs (kOf h.get?) = true := congrArg (fun z : AlK => z.2) e
  refine ⟨e1, fun t ht => ?_⟩
  obtain ⟨h3, h4⟩ := ba (List.all_eq_true.mp e2 t ht)
  cases q : h.get? (He.cT (kOf h.get?) t).2 with
  | none =>
    rw [q] at h4
    cases h4
  | some o =>
    rw [q] at h4
    exact ⟨h3, He.frT_none q h4, by rw [He.emptyTab_eq h4]⟩
def hk : PySem.W.Hook where
  α := AlK
  obs := fun s => obsK s.heap.get?
  val := fun _ => (valS, true)
  says := fun _ h => ∃ K : PySem.W.Frag, K.In h ∧ SaysK h K
  of := fun _ _ e => ⟨_, He.frT_in, says_of e⟩
  keeps := fun _ _ _ ⟨K, hK, c⟩ k => ⟨K, PySem.W.Frag.In.keeps hK k, ⟨c.s, fun t ht => ⟨(c.t t ht).1, (c.t t ht).2.1, k _ _ (c.t t ht).2.2⟩⟩⟩
def ob (s : PySem.W.SharedT) : AlK := obsK (HandSHeadRun.getT s)
theorem ob_eq (s : PySem.W.SharedT) : ob s = hk.obs s.abs := by
  have e : HandSHeadRun.getT s = s.abs.heap.get? := funext (HandSHeadRun.getT_eq s)
  show obsK _ = obsK _
  rw [e]
def loose1 : List Str := ["SlideError", "BadNumber", "BadCell", "is_whole", "is_cell", "checked_cell", "plain_cell", "shifted", "four_beside", "lot_of", "lot_without", "put", "near_in", "hangs_without", "links_around", "back", "moved_plan", "moved_cell", "plain_value", "next_side", "ring_from", "Trail", "walk_in", "ways_in", "distances_to", "crawl", "climb", "stand"]
def loose2 : List Str := ["lie", "row_plan", "checked_many", "checked_by", "line_from", "along", "upward_plan", "_law_pen", "_law_draw", "_law_pick", "_law_w_beside", "_law_w_hangs", "_law_w_may", "_law_w_moved", "_law_t4goes", "_law_t4both", "_law_t4walk", "_law_t4walks", "_law_t4row", "_law_t4column", "_law_t4along", "_law_t4rows", "_law_t4back", "_law_t4bodies", "_law_t4leads", "_law_t4stretches", "EAST", "NORTH", "CROSSWISE"]
def loose : List Str := loose1 ++ loose2
theorem run (w : World) : HandSHeadRun.RunEq R (PySem.W.view R.prog [64]) hk ob 9000 loose w := by
  intro os
  kernel_rfl
end Sq

set_option Elab.async false
set_option linter.all false
set_option maxRecDepth 100000
set_option maxHeartbeats 4000000
/-! All facts together. -/
namespace Sq
open PySem PySem.Spec PyProof.Rows L2
theorem Df.mk' {P : Program} {w : World} {K : PySem.W.Frag} {mg : Str → Option Value} {base : Heap} {CX : CXT} {k : Nat} {x : Str} {st : Stmt} {f : Addr} {fd : FuncData} {ps : List Str} {sp : Sp} (F : FnP K x st f fd) (g : mg x = some (.ref f)) (b : Binds K fd ps []) (o : FnOk P w K mg base CX k f fd ps sp) : Df P w K mg base CX k x ps sp := ⟨f, fd, g, F.kp, b, o⟩
theorem err_c {P : Program} {K : PySem.W.Frag} {h : Heap} {mg : Str → Option Value} {x : Str} {ns : List Str} (X : K.In h) (G : h.Ns mainGlobals mg) (E : ErrOk P K x ns) (t : tyB K x = true) : ErrC P K mg x (He.ga K x) (He.ma K (He.ga K x) "__init__") ns :=
  ⟨E.s, PySem.W.mg_of X G E.gl, E.xf.exC, of_decide_eq_true t⟩
theorem eachC_ok {K : PySem.W.Frag} : ∀ {vs : List Value} {ds : List Cell}, eachC K vs ds = true → ∃ rs : List Addr, vs = rs.map Value.ref ∧ Paired (fun r d => ∀ H, SqT K H r (cV d)) rs ds
  | [], [], _ => ⟨[], rfl, .nil⟩
  | .ref r :: vs, d :: ds, h => by
    unfold eachC at h
    obtain ⟨h1, h2⟩ := ba h
    obtain ⟨rs, rfl, pr⟩ := eachC_ok h2
    refine ⟨r :: rs, rfl, .cons (fun H => ?_) pr⟩
    split at h1
    · rename_i T dd its n sl q
      obtain ⟨e1, h1⟩ := ba h1
      obtain ⟨e2, h1⟩ := ba h1
      split at h1
      · rename_i i t j u e
        obtain ⟨e3, e4⟩ := ba h1
        refine .inr ⟨_, its, n, q, congrArg Value.type (of_decide_eq_true e1), rfl, of_decide_eq_true e2, ?_⟩
        obtain ⟨d1, d2⟩ := d
        have k1 : i = d1 := of_decide_eq_true e3
        have k2 : j = d2 := of_decide_eq_true e4
        subst k1 k2
        rw [e]
        exact .cons ⟨t, rfl⟩ (.cons ⟨u, rfl⟩ .nil)
      · cases h1
    · cases h1
theorem vals_refs : ∀ rs : List Addr, Vals (rs.map V.ref) (rs.map Value.ref)
  | [] => .nil
  | _ :: rs => .cons rfl (vals_refs rs)
theorem tupC_ok {K : PySem.W.Frag} {x : Str} {ds : List Cell} (h : tupC K x ds = true) : ∃ rs : List Addr, (∀ H, SqT K H (He.ga K x) (rs.map V.ref)) ∧ Paired (fun r d => ∀ H, SqT K H r (cV d)) rs ds := by
  unfold tupC at h
  split at h
  · rename_i T dd its n sl q
    obtain ⟨e1, h⟩ := ba h
    obtain ⟨e2, h⟩ := ba h
    obtain ⟨rs, e, pr⟩ := eachC_ok h
    refine ⟨rs, fun H => .inr ⟨_, its, n, q, congrArg Value.type (of_decide_eq_true e1), rfl, of_decide_eq_true e2, ?_⟩, pr⟩
    rw [e]
    exact vals_refs rs
  · cases h
theorem cellC_ok {K : PySem.W.Frag} {x : Str} {d : Cell} (h : cellC K x d = true) : ∀ H, SqT K H (He.ga K x) (cV d) := fun H => by
  unfold cellC at h
  split at h
  · rename_i T dd its n sl q
    obtain ⟨e1, h⟩ := ba h
    obtain ⟨e2, h⟩ := ba h
    split at h
    · rename_i i t j u e
      obtain ⟨e3, e4⟩ := ba h
      refine .inr ⟨_, its, n, q, congrArg Value.type (of_decide_eq_true e1), rfl, of_decide_eq_true e2, ?_⟩
      obtain ⟨d1, d2⟩ := d
      have k1 : i = d1 := of_decide_eq_true e3
      have k2 : j = d2 := of_decide_eq_true e4
      subst k1 k2
      rw [e]
      exact .cons ⟨t, rfl⟩ (.cons ⟨u, rfl⟩ .nil)
    · cases h
  · cases h
theorem facts {P : Program} {w : World} {K : PySem.W.Frag} {h : Heap} {mg : Str → Option Value} {f : Addr} (X : K.In h) (G : h.Ns mainGlobals mg) (hfa : mg ("law" : Str) = some (.ref f)) (htop : (P.main.scope.names.lookup ("super" : Str)).isSome = false) (hfile : P.main.file = fileS) (c : obsS K = valS) :
    ∃ fd : FuncData, (∀ (s : Shared) (v : Value), BindsTo s fd ⟨[v], []⟩ [("_law_script", v)]) ∧ ∀ base : Heap, K.In base → base.Ns mainGlobals mg → (∀ t ∈ tabDs, LamX.TabB base mg (He.cT K t).1 (He.cT K t).2) → FnOk P w K mg base CX0 10 f fd ["_law_script"] (spLaw K) := by
  have c1 : He.SaysD fa fn K := congrArg (fun z : AlS => z.1) c
  have c2 : initSt.map (fun p => obsI K p.1) = initSt.map (fun p => valI p.1 p.2) := congrArg (fun z : AlS => z.2.1) c
  have c3 : allB K = true := congrArg (fun z : AlS => z.2.2) c
  unfold allB at c3
  obtain ⟨d1, d2⟩ := ba c3
  obtain ⟨d2, d3⟩ := ba d2
  have o : ∀ (i : Nat) (x : Str) (st : Stmt), initSt[i]? = some (x, st) → obsI K x = valI x st := fun i x st h => by
    have y := congrArg (fun l => l[i]?) c2
    simp only [List.getElem?_map, h, Option.map_some, Option.some.injEq] at y
    exact y
  have ge : ∀ (i : Nat) (x : Str) (ns : List Str), errN[i]? = some (x, ns) → errB P.main.file K x ns = true ∧ tyB K x = true := fun i x ns h => by
    rw [hfile]
    exact ba (List.all_eq_true.mp d2 (x, ns) (List.mem_of_getElem? h))
  have exm : ∀ (i : Nat) (x y : Str) (b : Bool), fa[i]? = some (.exm x y b) → PySem.W.exmOne K (.ref (He.ga K x)) (.ref (He.ga K y)) = some b := fun i x y b h => of_decide_eq_true (c1.fact i h)
  have eBadNumber := errB_ok htop iBadNumber (o 0 _ _ rfl) (ge 0 _ _ rfl).1 d1
  have bBadNumber := err_c X G eBadNumber (ge 0 _ _ rfl).2
  have eBadCell := errB_ok htop iBadCell (o 1 _ _ rfl) (ge 1 _ _ rfl).1 d1
  have bBadCell := err_c X G eBadCell (ge 1 _ _ rfl).2
  unfold conB at d3
  obtain ⟨dcEAST, d3⟩ := ba d3
  have CEAST : EastC K mg (He.ga K "EAST") := ⟨He.glo_ok X G (c1.fact 67 (f := .glo "EAST") rfl), cellC_ok dcEAST⟩
  obtain ⟨dcNORTH, d3⟩ := ba d3
  have CNORTH : NorthC K mg (He.ga K "NORTH") := ⟨He.glo_ok X G (c1.fact 68 (f := .glo "NORTH") rfl), cellC_ok dcNORTH⟩
  obtain ⟨rsCROSSWISE, tCROSSWISE, pCROSSWISE⟩ := tupC_ok d3
  have CCROSSWISE : CrossC K mg (He.ga K "CROSSWISE") rsCROSSWISE := ⟨He.glo_ok X G (c1.fact 66 (f := .glo "CROSSWISE") rfl), tCROSSWISE, pCROSSWISE⟩
  obtain ⟨d0, E0⟩ := c1.def_ 0 (d := dd "is_whole" gWhole) rfl
  have F0 : FnP K "is_whole" gWhole (He.ga K "is_whole") d0 := E0
  have g0 := He.glo_ok X G (c1.fact 0 (f := .glo "is_whole") rfl)
  have b0 : Binds K d0 ["value"] [] := FunD.bindsN F0 fun _ _ _ _ _ _ us hl => match us, hl with | [_], _ => rfl
  obtain ⟨d1, E1⟩ := c1.def_ 1 (d := dd "is_cell" gIsCell) rfl
  have F1 : FnP K "is_cell" gIsCell (He.ga K "is_cell") d1 := E1
  have g1 := He.glo_ok X G (c1.fact 1 (f := .glo "is_cell") rfl)
  have b1 : Binds K d1 ["value"] [] := FunD.bindsN F1 fun _ _ _ _ _ _ us hl => match us, hl with | [_], _ => rfl
  obtain ⟨d2, E2⟩ := c1.def_ 2 (d := dd "checked_cell" gChecked) rfl
  have F2 : FnP K "checked_cell" gChecked (He.ga K "checked_cell") d2 := E2
  have g2 := He.glo_ok X G (c1.fact 2 (f := .glo "checked_cell") rfl)
  have b2 : Binds K d2 ["value"] [] := FunD.bindsN F2 fun _ _ _ _ _ _ us hl => match us, hl with | [_], _ => rfl
  obtain ⟨d3, E3⟩ := c1.def_ 3 (d := dd "plain_cell" gPlain) rfl
  have F3 : FnP K "plain_cell" gPlain (He.ga K "plain_cell") d3 := E3
  have g3 := He.glo_ok X G (c1.fact 3 (f := .glo "plain_cell") rfl)
  have b3 : Binds K d3 ["cell"] [] := FunD.bindsN F3 fun _ _ _ _ _ _ us hl => match us, hl with | [_], _ => rfl
  obtain ⟨d4, E4⟩ := c1.def_ 4 (d := dd "shifted" gShifted) rfl
  have F4 : FnP K "shifted" gShifted (He.ga K "shifted") d4 := E4
  have g4 := He.glo_ok X G (c1.fact 4 (f := .glo "shifted") rfl)
  have b4 : Binds K d4 ["cell", "by"] [] := FunD.bindsN F4 fun _ _ _ _ _ _ us hl => match us, hl with | [_, _], _ => rfl
  obtain ⟨d5, E5⟩ := c1.def_ 5 (d := dd "four_beside" gFour) rfl
  have F5 : FnP K "four_beside" gFour (He.ga K "four_beside") d5 := E5
  have g5 := He.glo_ok X G (c1.fact 5 (f := .glo "four_beside") rfl)
  have b5 : Binds K d5 ["cell"] [] := FunD.bindsN F5 fun _ _ _ _ _ _ us hl => match us, hl with | [_], _ => rfl
  obtain ⟨d6, E6⟩ := c1.def_ 6 (d := dd "lot_of" gLot) rfl
  have F6 : FnP K "lot_of" gLot (He.ga K "lot_of") d6 := E6
  have g6 := He.glo_ok X G (c1.fact 6 (f := .glo "lot_of") rfl)
  have b6 : Binds K d6 ["cells"] [] := FunD.bindsN F6 fun _ _ _ _ _ _ us hl => match us, hl with | [_], _ => rfl
  obtain ⟨d7, E7⟩ := c1.def_ 7 (d := dd "lot_without" gWithout) rfl
  have F7 : FnP K "lot_without" gWithout (He.ga K "lot_without") d7 := E7
  have g7 := He.glo_ok X G (c1.fact 7 (f := .glo "lot_without") rfl)
  have b7 : Binds K d7 ["lot", "cell"] [] := FunD.bindsN F7 fun _ _ _ _ _ _ us hl => match us, hl with | [_, _], _ => rfl
  obtain ⟨d8, E8⟩ := c1.def_ 8 (d := dd "put" gPut) rfl
  have F8 : FnP K "put" gPut (He.ga K "put") d8 := E8
  have g8 := He.glo_ok X G (c1.fact 8 (f := .glo "put") rfl)
  have b8 : Binds K d8 ["lot", "start", "end"] [] := FunD.bindsN F8 fun _ _ _ _ _ _ us hl => match us, hl with | [_, _, _], _ => rfl
  obtain ⟨d9, E9⟩ := c1.def_ 9 (d := dd "near_in" gNear) rfl
  have F9 : FnP K "near_in" gNear (He.ga K "near_in") d9 := E9
  have g9 := He.glo_ok X G (c1.fact 9 (f := .glo "near_in") rfl)
  have b9 : Binds K d9 ["lot", "cell"] [] := FunD.bindsN F9 fun _ _ _ _ _ _ us hl => match us, hl with | [_, _], _ => rfl
  obtain ⟨d10, E10⟩ := c1.def_ 10 (d := dd "hangs_without" gHangsW) rfl
  have F10 : FnP K "hangs_without" gHangsW (He.ga K "hangs_without") d10 := E10
  have g10 := He.glo_ok X G (c1.fact 10 (f := .glo "hangs_without") rfl)
  have b10 : Binds K d10 ["lot", "cell"] [] := FunD.bindsN F10 fun _ _ _ _ _ _ us hl => match us, hl with | [_, _], _ => rfl
  obtain ⟨d11, E11⟩ := c1.def_ 11 (d := dd "links_around" gLinks) rfl
  have F11 : FnP K "links_around" gLinks (He.ga K "links_around") d11 := E11
  have g11 := He.glo_ok X G (c1.fact 11 (f := .glo "links_around") rfl)
  have b11 : Binds K d11 ["lot", "cell"] [] := FunD.bindsN F11 fun _ _ _ _ _ _ us hl => match us, hl with | [_, _], _ => rfl
  obtain ⟨d12, E12⟩ := c1.def_ 12 (d := dd "back" gBack) rfl
  have F12 : FnP K "back" gBack (He.ga K "back") d12 := E12
  have g12 := He.glo_ok X G (c1.fact 12 (f := .glo "back") rfl)
  have b12 : Binds K d12 ["plan"] [] := FunD.bindsN F12 fun _ _ _ _ _ _ us hl => match us, hl with | [_], _ => rfl
  obtain ⟨d13, E13⟩ := c1.def_ 13 (d := dd "moved_plan" gMovedPlan) rfl
  have F13 : FnP K "moved_plan" gMovedPlan (He.ga K "moved_plan") d13 := E13
  have g13 := He.glo_ok X G (c1.fact 13 (f := .glo "moved_plan") rfl)
  have b13 : Binds K d13 ["plan", "by"] [] := FunD.bindsN F13 fun _ _ _ _ _ _ us hl => match us, hl with | [_, _], _ => rfl
  obtain ⟨d14, E14⟩ := c1.def_ 14 (d := dd "moved_cell" gMovedCell) rfl
  have F14 : FnP K "moved_cell" gMovedCell (He.ga K "moved_cell") d14 := E14
  have g14 := He.glo_ok X G (c1.fact 14 (f := .glo "moved_cell") rfl)
  have b14 : Binds K d14 ["cell", "by"] [] := FunD.bindsN F14 fun _ _ _ _ _ _ us hl => match us, hl with | [_, _], _ => rfl
  obtain ⟨d15, E15⟩ := c1.def_ 15 (d := dd "plain_value" gPlainValue) rfl
  have F15 : FnP K "plain_value" gPlainValue (He.ga K "plain_value") d15 := E15
  have g15 := He.glo_ok X G (c1.fact 15 (f := .glo "plain_value") rfl)
  have b15 : Binds K d15 ["value"] [] := FunD.bindsN F15 fun _ _ _ _ _ _ us hl => match us, hl with | [_], _ => rfl
  obtain ⟨d16, E16⟩ := c1.def_ 16 (d := dd "next_side" gNextSide) rfl
  have F16 : FnP K "next_side" gNextSide (He.ga K "next_side") d16 := E16
  have g16 := He.glo_ok X G (c1.fact 16 (f := .glo "next_side") rfl)
  have b16 : Binds K d16 ["lot", "side"] [] := FunD.bindsN F16 fun _ _ _ _ _ _ us hl => match us, hl with | [_, _], _ => rfl
  obtain ⟨d17, E17⟩ := c1.def_ 17 (d := dd "ring_from" gRingFrom) rfl
  have F17 : FnP K "ring_from" gRingFrom (He.ga K "ring_from") d17 := E17
  have g17 := He.glo_ok X G (c1.fact 17 (f := .glo "ring_from") rfl)
  have b17 : Binds K d17 ["lot", "first"] [] := FunD.bindsN F17 fun _ _ _ _ _ _ us hl => match us, hl with | [_, _], _ => rfl
  obtain ⟨d18, E18⟩ := c1.def_ 18 (d := dd "walk_in" gWalkIn) rfl
  have F18 : FnP K "walk_in" gWalkIn (He.ga K "walk_in") d18 := E18
  have g18 := He.glo_ok X G (c1.fact 18 (f := .glo "walk_in") rfl)
  have b18 : Binds K d18 ["lot", "start", "end"] [] := FunD.bindsN F18 fun _ _ _ _ _ _ us hl => match us, hl with | [_, _, _], _ => rfl
  obtain ⟨d19, E19⟩ := c1.def_ 19 (d := dd "ways_in" gWaysIn) rfl
  have F19 : FnP K "ways_in" gWaysIn (He.ga K "ways_in") d19 := E19
  have g19 := He.glo_ok X G (c1.fact 19 (f := .glo "ways_in") rfl)
  have b19 : Binds K d19 ["lot", "start"] [] := FunD.bindsN F19 fun _ _ _ _ _ _ us hl => match us, hl with | [_, _], _ => rfl
  obtain ⟨d20, E20⟩ := c1.def_ 20 (d := dd "distances_to" gDistancesTo) rfl
  have F20 : FnP K "distances_to" gDistancesTo (He.ga K "distances_to") d20 := E20
  have g20 := He.glo_ok X G (c1.fact 20 (f := .glo "distances_to") rfl)
  have b20 : Binds K d20 ["ways", "end", "start"] [] := FunD.bindsN F20 fun _ _ _ _ _ _ us hl => match us, hl with | [_, _, _], _ => rfl
  obtain ⟨d21, E21⟩ := c1.def_ 21 (d := dd "crawl" gCrawl) rfl
  have F21 : FnP K "crawl" gCrawl (He.ga K "crawl") d21 := E21
  have g21 := He.glo_ok X G (c1.fact 21 (f := .glo "crawl") rfl)
  have b21 : Binds K d21 ["first", "n", "by"] [] := FunD.bindsN F21 fun _ _ _ _ _ _ us hl => match us, hl with | [_, _, _], _ => rfl
  obtain ⟨d22, E22⟩ := c1.def_ 22 (d := dd "climb" gClimb) rfl
  have F22 : FnP K "climb" gClimb (He.ga K "climb") d22 := E22
  have g22 := He.glo_ok X G (c1.fact 22 (f := .glo "climb") rfl)
  have b22 : Binds K d22 ["first", "n", "by"] [] := FunD.bindsN F22 fun _ _ _ _ _ _ us hl => match us, hl with | [_, _, _], _ => rfl
  obtain ⟨d23, E23⟩ := c1.def_ 23 (d := dd "stand" gStand) rfl
  have F23 : FnP K "stand" gStand (He.ga K "stand") d23 := E23
  have g23 := He.glo_ok X G (c1.fact 23 (f := .glo "stand") rfl)
  have b23 : Binds K d23 ["first", "n"] [] := FunD.bindsN F23 fun _ _ _ _ _ _ us hl => match us, hl with | [_, _], _ => rfl
  obtain ⟨d24, E24⟩ := c1.def_ 24 (d := dd "lie" gLie) rfl
  have F24 : FnP K "lie" gLie (He.ga K "lie") d24 := E24
  have g24 := He.glo_ok X G (c1.fact 24 (f := .glo "lie") rfl)
  have b24 : Binds K d24 ["first", "n"] [] := FunD.bindsN F24 fun _ _ _ _ _ _ us hl => match us, hl with | [_, _], _ => rfl
  obtain ⟨d25, E25⟩ := c1.def_ 25 (d := dd "row_plan" gRowPlan) rfl
  have F25 : FnP K "row_plan" gRowPlan (He.ga K "row_plan") d25 := E25
  have g25 := He.glo_ok X G (c1.fact 25 (f := .glo "row_plan") rfl)
  have b25 : Binds K d25 ["first", "other", "n"] [] := FunD.bindsN F25 fun _ _ _ _ _ _ us hl => match us, hl with | [_, _, _], _ => rfl
  obtain ⟨d26, E26⟩ := c1.def_ 26 (d := dd "checked_many" gCheckedMany) rfl
  have F26 : FnP K "checked_many" gCheckedMany (He.ga K "checked_many") d26 := E26
  have g26 := He.glo_ok X G (c1.fact 26 (f := .glo "checked_many") rfl)
  have b26 : Binds K d26 ["n", "least"] [] := FunD.bindsN F26 fun _ _ _ _ _ _ us hl => match us, hl with | [_, _], _ => rfl
  obtain ⟨d27, E27⟩ := c1.def_ 27 (d := dd "checked_by" gCheckedBy) rfl
  have F27 : FnP K "checked_by" gCheckedBy (He.ga K "checked_by") d27 := E27
  have g27 := He.glo_ok X G (c1.fact 27 (f := .glo "checked_by") rfl)
  have b27 : Binds K d27 ["by"] [] := FunD.bindsN F27 fun _ _ _ _ _ _ us hl => match us, hl with | [_], _ => rfl
  obtain ⟨d28, E28⟩ := c1.def_ 28 (d := dd "line_from" gLineFrom) rfl
  have F28 : FnP K "line_from" gLineFrom (He.ga K "line_from") d28 := E28
  have g28 := He.glo_ok X G (c1.fact 28 (f := .glo "line_from") rfl)
  have b28 : Binds K d28 ["first", "step", "many"] [] := FunD.bindsN F28 fun _ _ _ _ _ _ us hl => match us, hl with | [_, _, _], _ => rfl
  obtain ⟨d29, E29⟩ := c1.def_ 29 (d := dd "along" gAlong) rfl
  have F29 : FnP K "along" gAlong (He.ga K "along") d29 := E29
  have g29 := He.glo_ok X G (c1.fact 29 (f := .glo "along") rfl)
  have b29 : Binds K d29 ["first", "step", "many", "by"] [] := FunD.bindsN F29 fun _ _ _ _ _ _ us hl => match us, hl with | [_, _, _, _], _ => rfl
  obtain ⟨d30, E30⟩ := c1.def_ 30 (d := dd "upward_plan" gUpwardPlan) rfl
  have F30 : FnP K "upward_plan" gUpwardPlan (He.ga K "upward_plan") d30 := E30
  have g30 := He.glo_ok X G (c1.fact 30 (f := .glo "upward_plan") rfl)
  have b30 : Binds K d30 ["source", "goal", "many"] [] := FunD.bindsN F30 fun _ _ _ _ _ _ us hl => match us, hl with | [_, _, _], _ => rfl
  obtain ⟨d31, E31⟩ := c1.def_ 31 (d := dd "_law_pen" sPen) rfl
  have F31 : FnP K "_law_pen" sPen (He.ga K "_law_pen") d31 := E31
  have g31 := He.glo_ok X G (c1.fact 31 (f := .glo "_law_pen") rfl)
  have b31 : Binds K d31 ["_law_script"] [] := FunD.bindsN F31 fun _ _ _ _ _ _ us hl => match us, hl with | [_], _ => rfl
  obtain ⟨d32, E32⟩ := c1.def_ 32 (d := dd "_law_draw" sDraw) rfl
  have F32 : FnP K "_law_draw" sDraw (He.ga K "_law_draw") d32 := E32
  have g32 := He.glo_ok X G (c1.fact 32 (f := .glo "_law_draw") rfl)
  have b32 : Binds K d32 ["_law_pen_here", "_law_many"] [] := FunD.bindsN F32 fun _ _ _ _ _ _ us hl => match us, hl with | [_, _], _ => rfl
  obtain ⟨d33, E33⟩ := c1.def_ 33 (d := dd "_law_pick" sPick) rfl
  have F33 : FnP K "_law_pick" sPick (He.ga K "_law_pick") d33 := E33
  have g33 := He.glo_ok X G (c1.fact 33 (f := .glo "_law_pick") rfl)
  have b33 : Binds K d33 ["_law_pen_here", "_law_some"] [] := FunD.bindsN F33 fun _ _ _ _ _ _ us hl => match us, hl with | [_, _], _ => rfl
  obtain ⟨d34, E34⟩ := c1.def_ 34 (d := dd "_law_w_beside" lWBeside) rfl
  have F34 : FnP K "_law_w_beside" lWBeside (He.ga K "_law_w_beside") d34 := E34
  have g34 := He.glo_ok X G (c1.fact 34 (f := .glo "_law_w_beside") rfl)
  have b34 : Binds K d34 ["_law_cell"] [] := FunD.bindsN F34 fun _ _ _ _ _ _ us hl => match us, hl with | [_], _ => rfl
  obtain ⟨d35, E35⟩ := c1.def_ 35 (d := dd "_law_w_hangs" lWHangs) rfl
  have F35 : FnP K "_law_w_hangs" lWHangs (He.ga K "_law_w_hangs") d35 := E35
  have g35 := He.glo_ok X G (c1.fact 35 (f := .glo "_law_w_hangs") rfl)
  have b35 : Binds K d35 ["_law_cells"] [] := FunD.bindsN F35 fun _ _ _ _ _ _ us hl => match us, hl with | [_], _ => rfl
  obtain ⟨d36, E36⟩ := c1.def_ 36 (d := dd "_law_w_may" lWMay) rfl
  have F36 : FnP K "_law_w_may" lWMay (He.ga K "_law_w_may") d36 := E36
  have g36 := He.glo_ok X G (c1.fact 36 (f := .glo "_law_w_may") rfl)
  have b36 : Binds K d36 ["_law_cells", "_law_start", "_law_end"] [] := FunD.bindsN F36 fun _ _ _ _ _ _ us hl => match us, hl with | [_, _, _], _ => rfl
  obtain ⟨d37, E37⟩ := c1.def_ 37 (d := dd "_law_w_moved" lWMoved) rfl
  have F37 : FnP K "_law_w_moved" lWMoved (He.ga K "_law_w_moved") d37 := E37
  have g37 := He.glo_ok X G (c1.fact 37 (f := .glo "_law_w_moved") rfl)
  have b37 : Binds K d37 ["_law_cells", "_law_start", "_law_end"] [] := FunD.bindsN F37 fun _ _ _ _ _ _ us hl => match us, hl with | [_, _, _], _ => rfl
  obtain ⟨d38, E38⟩ := c1.def_ 38 (d := dd "_law_t4goes" lT4goes) rfl
  have F38 : FnP K "_law_t4goes" lT4goes (He.ga K "_law_t4goes") d38 := E38
  have g38 := He.glo_ok X G (c1.fact 38 (f := .glo "_law_t4goes") rfl)
  have b38 : Binds K d38 ["_law_rest", "_law_cell"] [] := FunD.bindsN F38 fun _ _ _ _ _ _ us hl => match us, hl with | [_, _], _ => rfl
  obtain ⟨d39, E39⟩ := c1.def_ 39 (d := dd "_law_t4both" lT4both) rfl
  have F39 : FnP K "_law_t4both" lT4both (He.ga K "_law_t4both") d39 := E39
  have g39 := He.glo_ok X G (c1.fact 39 (f := .glo "_law_t4both") rfl)
  have b39 : Binds K d39 ["_law_rest", "_law_one", "_law_two", "_law_n"] [] := FunD.bindsN F39 fun _ _ _ _ _ _ us hl => match us, hl with | [_, _, _, _], _ => rfl
  obtain ⟨d40, E40⟩ := c1.def_ 40 (d := dd "_law_t4walk" lT4walk) rfl
  have F40 : FnP K "_law_t4walk" lT4walk (He.ga K "_law_t4walk") d40 := E40
  have g40 := He.glo_ok X G (c1.fact 40 (f := .glo "_law_t4walk") rfl)
  have b40 : Binds K d40 ["_law_cells", "_law_start", "_law_end"] [] := FunD.bindsN F40 fun _ _ _ _ _ _ us hl => match us, hl with | [_, _, _], _ => rfl
  obtain ⟨d41, E41⟩ := c1.def_ 41 (d := dd "_law_t4walks" lT4walks) rfl
  have F41 : FnP K "_law_t4walks" lT4walks (He.ga K "_law_t4walks") d41 := E41
  have g41 := He.glo_ok X G (c1.fact 41 (f := .glo "_law_t4walks") rfl)
  have b41 : Binds K d41 ["_law_cells", "_law_pairs"] [] := FunD.bindsN F41 fun _ _ _ _ _ _ us hl => match us, hl with | [_, _], _ => rfl
  obtain ⟨d42, E42⟩ := c1.def_ 42 (d := dd "_law_t4row" lT4row) rfl
  have F42 : FnP K "_law_t4row" lT4row (He.ga K "_law_t4row") d42 := E42
  have g42 := He.glo_ok X G (c1.fact 42 (f := .glo "_law_t4row") rfl)
  have b42 : Binds K d42 ["_law_first", "_law_n"] [] := FunD.bindsN F42 fun _ _ _ _ _ _ us hl => match us, hl with | [_, _], _ => rfl
  obtain ⟨d43, E43⟩ := c1.def_ 43 (d := dd "_law_t4column" lT4column) rfl
  have F43 : FnP K "_law_t4column" lT4column (He.ga K "_law_t4column") d43 := E43
  have g43 := He.glo_ok X G (c1.fact 43 (f := .glo "_law_t4column") rfl)
  have b43 : Binds K d43 ["_law_first", "_law_n"] [] := FunD.bindsN F43 fun _ _ _ _ _ _ us hl => match us, hl with | [_, _], _ => rfl
  obtain ⟨d44, E44⟩ := c1.def_ 44 (d := dd "_law_t4along" lT4along) rfl
  have F44 : FnP K "_law_t4along" lT4along (He.ga K "_law_t4along") d44 := E44
  have g44 := He.glo_ok X G (c1.fact 44 (f := .glo "_law_t4along") rfl)
  have b44 : Binds K d44 ["_law_cells", "_law_by"] [] := FunD.bindsN F44 fun _ _ _ _ _ _ us hl => match us, hl with | [_, _], _ => rfl
  obtain ⟨d45, E45⟩ := c1.def_ 45 (d := dd "_law_t4rows" lT4rows) rfl
  have F45 : FnP K "_law_t4rows" lT4rows (He.ga K "_law_t4rows") d45 := E45
  have g45 := He.glo_ok X G (c1.fact 45 (f := .glo "_law_t4rows") rfl)
  have b45 : Binds K d45 ["_law_first", "_law_other", "_law_n"] [] := FunD.bindsN F45 fun _ _ _ _ _ _ us hl => match us, hl with | [_, _, _], _ => rfl
  obtain ⟨d46, E46⟩ := c1.def_ 46 (d := dd "_law_t4back" lT4back) rfl
  have F46 : FnP K "_law_t4back" lT4back (He.ga K "_law_t4back") d46 := E46
  have g46 := He.glo_ok X G (c1.fact 46 (f := .glo "_law_t4back") rfl)
  have b46 : Binds K d46 ["_law_plan"] [] := FunD.bindsN F46 fun _ _ _ _ _ _ us hl => match us, hl with | [_], _ => rfl
  obtain ⟨d47, E47⟩ := c1.def_ 47 (d := dd "_law_t4bodies" lT4bodies) rfl
  have F47 : FnP K "_law_t4bodies" lT4bodies (He.ga K "_law_t4bodies") d47 := E47
  have g47 := He.glo_ok X G (c1.fact 47 (f := .glo "_law_t4bodies") rfl)
  have b47 : Binds K d47 ["_law_cells", "_law_plan"] [] := FunD.bindsN F47 fun _ _ _ _ _ _ us hl => match us, hl with | [_, _], _ => rfl
  obtain ⟨d48, E48⟩ := c1.def_ 48 (d := dd "_law_t4leads" lT4leads) rfl
  have F48 : FnP K "_law_t4leads" lT4leads (He.ga K "_law_t4leads") d48 := E48
  have g48 := He.glo_ok X G (c1.fact 48 (f := .glo "_law_t4leads") rfl)
  have b48 : Binds K d48 ["_law_cells", "_law_plan", "_law_other"] [] := FunD.bindsN F48 fun _ _ _ _ _ _ us hl => match us, hl with | [_, _, _], _ => rfl
  obtain ⟨d49, E49⟩ := c1.def_ 49 (d := dd "_law_t4stretches" lT4stretches) rfl
  have F49 : FnP K "_law_t4stretches" lT4stretches (He.ga K "_law_t4stretches") d49 := E49
  have g49 := He.glo_ok X G (c1.fact 49 (f := .glo "_law_t4stretches") rfl)
  have b49 : Binds K d49 ["_law_plan"] [] := FunD.bindsN F49 fun _ _ _ _ _ _ us hl => match us, hl with | [_], _ => rfl
  obtain ⟨d50, E50⟩ := c1.def_ 50 (d := dd "law" sLaw) rfl
  have F50 : FnP K "law" sLaw (He.ga K "law") d50 := E50
  have g50 := He.glo_ok X G (c1.fact 50 (f := .glo "law") rfl)
  obtain ⟨dS0, ES0⟩ := c1.def_ 51 (d := md "Trail" (sI 29)) rfl
  have FS0 : FunD K "__init__" "Trail.__init__" (defArgs (sI 29)) (defBody (sI 29)) (defScope (sI 29)) [] [] (He.ma K (He.ga K "Trail") "__init__") dS0 := ES0
  have gS0 := He.glo_ok X G (c1.fact 69 (f := .glo "Trail") rfl)
  have cS0 := He.cls_ok (c1.fact 70 (f := .cls "Trail") rfl)
  have nS0_0 := He.noat_ok (c1.fact 71 (f := .noat "Trail" "lot") rfl)
  have nS0_1 := He.noat_ok (c1.fact 72 (f := .noat "Trail" "moves") rfl)
  have mS0 := He.mkr_ok (c1.fact 73 (f := .mkr "Trail") rfl)
  have bS0 : Binds K dS0 ["self", "squares"] [] := FunD.bindsN FS0 fun _ _ _ _ _ _ us hl => match us, hl with | [_, _], _ => rfl
  have SF : StepF K (He.ga K "Trail") := ⟨cS0, nS0_0, nS0_1⟩
  obtain ⟨dG0, EG0⟩ := c1.def_ 52 (d := mm "Trail" "go" (inClass (top 29) 1)) rfl
  have FG0 : FunD K "go" "Trail.go" (defArgs (inClass (top 29) 1)) (defBody (inClass (top 29) 1)) (defScope (inClass (top 29) 1)) [] [] (He.ma K (He.ga K "Trail") "go") dG0 := EG0
  have mG0 := He.meth_ok (c1.fact 74 (f := .meth "Trail" "go") rfl)
  have bG0 : Binds K dG0 ["self", "start", "end"] [] := FunD.bindsN FG0 fun _ _ _ _ _ _ us hl => match us, hl with | [_, _, _], _ => rfl
  have f_int := He.free_ok X G (c1.fact 51 (f := .free "int") rfl)
  have f_len := He.free_ok X G (c1.fact 52 (f := .free "len") rfl)
  have f_list := He.free_ok X G (c1.fact 53 (f := .free "list") rfl)
  have f_tuple := He.free_ok X G (c1.fact 54 (f := .free "tuple") rfl)
  have f_bool := He.free_ok X G (c1.fact 55 (f := .free "bool") rfl)
  have f_isinstance := He.free_ok X G (c1.fact 56 (f := .free "isinstance") rfl)
  have f_range := He.free_ok X G (c1.fact 57 (f := .free "range") rfl)
  have f_sorted := He.free_ok X G (c1.fact 58 (f := .free "sorted") rfl)
  have f_abs := He.free_ok X G (c1.fact 59 (f := .free "abs") rfl)
  have f_min := He.free_ok X G (c1.fact 60 (f := .free "min") rfl)
  have f_max := He.free_ok X G (c1.fact 61 (f := .free "max") rfl)
  have f_set := He.free_ok X G (c1.fact 62 (f := .free "set") rfl)
  have f_any := He.free_ok X G (c1.fact 63 (f := .free "any") rfl)
  have f_dict := He.free_ok X G (c1.fact 64 (f := .free "dict") rfl)
  have f_reversed := He.free_ok X G (c1.fact 65 (f := .free "reversed") rfl)
  have B : Bl mg := ⟨f_int, f_len, f_list, f_tuple, f_bool, f_isinstance, f_range, f_sorted, f_abs, f_min, f_max, f_set, f_any⟩
  have e := hfa.symm.trans g50
  cases e
  have b50 := FunD.bindsA (ps := ["_law_script"]) F50 fun _ _ _ _ _ _ us hl => match us, hl with | [_], _ => rfl
  refine ⟨d50, fun s v => b50 s [v] rfl, fun base _ _ tbs => ?_⟩
  have M : MkS P w K mg base (He.ga K "Trail") := ⟨_, dS0, mS0, ok_stepI FS0 SF, gS0, bS0⟩
  have D0 := Df.mk' (P := P) (w := w) (base := base) F0 g0 b0 (ok_whole F0 B.isinstance B.int B.bool)
  have D1 := Df.mk' (P := P) (w := w) (base := base) F1 g1 b1 (ok_isCell F1 F0 g0 B.isinstance B.int B.bool B.tuple B.len)
  have D2 := Df.mk' (P := P) (w := w) (base := base) F2 g2 b2 (ok_checked F2 F1 F0 F3 bBadCell g1 g3 g0 B.isinstance B.int B.bool B.tuple B.len)
  have D3 := Df.mk' (P := P) (w := w) (base := base) F3 g3 b3 (ok_plain F3 B.int)
  have D4 := Df.mk' (P := P) (w := w) (base := base) F4 g4 b4 (ok_shifted F4)
  have D4K := Df.mk' (P := P) (w := w) (base := base) F4 g4 b4 (ok_shiftK F4)
  have D5 := Df.mk' (P := P) (w := w) (base := base) F5 g5 b5 (ok_four F5)
  have D6 := Df.mk' (P := P) (w := w) (base := base) F6 g6 b6 (ok_lot F6 F3 g3 B.int)
  have D9 := Df.mk' (P := P) (w := w) (base := base) F9 g9 b9 (ok_near F9 F5 g5)
  have D8 := Df.mk' (P := P) (w := w) (base := base) F8 g8 b8 (ok_put F8)
  have D11 := Df.mk' (P := P) (w := w) (base := base) F11 g11 b11 (ok_links F11 CCROSSWISE)
  have D10 := Df.mk' (P := P) (w := w) (base := base) F10 g10 b10 (ok_hangsW F10 B D9 D11)
  have D7 := Df.mk' (P := P) (w := w) (base := base) F7 g7 b7 (ok_without F7)
  have D16 := Df.mk' (P := P) (w := w) (base := base) F16 g16 b16 (ok_next F16)
  have D17 := Df.mk' (P := P) (w := w) (base := base) F17 g17 b17 (ok_ring F17 D16)
  have D19 := Df.mk' (P := P) (w := w) (base := base) F19 g19 b19 (ok_ways F19 D10 D7 D17 D9)
  have D20 := Df.mk' (P := P) (w := w) (base := base) F20 g20 b20 (ok_dist F20)
  have D18 := Df.mk' (P := P) (w := w) (base := base) F18 g18 b18 (ok_walkIn F18 B D19 D20)
  have D14 := Df.mk' (P := P) (w := w) (base := base) F14 g14 b14 (ok_mvC F14 D3 D4)
  have D13 := Df.mk' (P := P) (w := w) (base := base) F13 g13 b13 (ok_mvPlan F13 B D2 D14)
  have GM : GoS P w K mg base (He.ga K "Trail") := ⟨_, dG0, mG0, ok_go FG0 SF D18 D8, bG0⟩
  have D26 := Df.mk' (P := P) (w := w) (base := base) F26 g26 b26 (ok_many F26 bBadNumber D0)
  have D27 := Df.mk' (P := P) (w := w) (base := base) F27 g27 b27 (ok_by F27 bBadNumber D0)
  have D28 := Df.mk' (P := P) (w := w) (base := base) F28 g28 b28 (ok_line F28 B)
  have D29 := Df.mk' (P := P) (w := w) (base := base) F29 g29 b29 (ok_along F29 B D28 D6 D4K D18 D13)
  have D21 := Df.mk' (P := P) (w := w) (base := base) F21 g21 b21 (ok_crawl F21 CEAST D2 D26 D27 D29)
  have D22 := Df.mk' (P := P) (w := w) (base := base) F22 g22 b22 (ok_climb F22 CNORTH D2 D26 D27 D29)
  have D23 := Df.mk' (P := P) (w := w) (base := base) F23 g23 b23 (ok_stand F23 B CEAST SF M GM D2 D26 D28)
  have D24 := Df.mk' (P := P) (w := w) (base := base) F24 g24 b24 (ok_lie F24 B CNORTH SF M GM D2 D26 D28)
  have D31 := Df.mk' (P := P) (w := w) (base := base) F31 g31 b31 (ok_pen F31 B.int B.list)
  have D32C := Df.mk' (P := P) (w := w) (base := base) F32 g32 b32 (ok_drawC F32 B.int B.len)
  have D33C := Df.mk' (P := P) (w := w) (base := base) F33 g33 b33 (ok_pickC F33 D32C B.len)
  have D34 := Df.mk' (P := P) (w := w) (base := base) F34 g34 b34 (ok_wBeside F34)
  have D35 := Df.mk' (P := P) (w := w) (base := base) F35 g35 b35 (ok_wHangs F35 B f_dict D34)
  have D36 := Df.mk' (P := P) (w := w) (base := base) F36 g36 b36 (ok_wMay F36 B f_dict D35)
  have D37 := Df.mk' (P := P) (w := w) (base := base) F37 g37 b37 (ok_wMoved F37 B)
  have D39 := Df.mk' (P := P) (w := w) (base := base) F39 g39 b39 (ok_t4both F39)
  have D38 := Df.mk' (P := P) (w := w) (base := base) F38 g38 b38 (ok_t4goesX F38 B D39)
  have D40 := Df.mk' (P := P) (w := w) (base := base) F40 g40 b40 (ok_t4walk F40 B f_dict D35 D38)
  have D41 := Df.mk' (P := P) (w := w) (base := base) F41 g41 b41 (ok_t4walks F41 D40 D37)
  have D42 := Df.mk' (P := P) (w := w) (base := base) F42 g42 b42 (ok_t4row F42 B)
  have D43 := Df.mk' (P := P) (w := w) (base := base) F43 g43 b43 (ok_t4col F43 B)
  have D44 := Df.mk' (P := P) (w := w) (base := base) F44 g44 b44 (ok_t4along F44 B)
  have D47 := Df.mk' (P := P) (w := w) (base := base) F47 g47 b47 (ok_t4bodies F47 B D37 D36)
  have D48 := Df.mk' (P := P) (w := w) (base := base) F48 g48 b48 (ok_t4leads F48 B D47)
  have D15 := Df.mk' (P := P) (w := w) (base := base) F15 g15 b15 (ok_plainVal F15 D1 D3)
  have D12 := Df.mk' (P := P) (w := w) (base := base) F12 g12 b12 (ok_backP F12 B D15)
  have D30 := Df.mk' (P := P) (w := w) (base := base) F30 g30 b30 (ok_upward F30 D21 D22 D23 D24)
  have D25 := Df.mk' (P := P) (w := w) (base := base) F25 g25 b25 (ok_rowPlan F25 D2 D26 D30 D12)
  have D46 := Df.mk' (P := P) (w := w) (base := base) F46 g46 b46 (ok_t4backT F46 B f_reversed)
  have D49 := Df.mk' (P := P) (w := w) (base := base) F49 g49 b49 (ok_t4stN F49 B)
  have D45N := Df.mk' (P := P) (w := w) (base := base) F45 g45 b45 (fn_none (k := 4) (CX := CX0))
  have D45U := Df.mk' (P := P) (w := w) (base := base) F45 g45 b45 (ok_t4rows (up := true) (by decide) (fun h => nomatch h) F45 B D45N D46 D42 D43 D41 D44)
  have D45 := Df.mk' (P := P) (w := w) (base := base) F45 g45 b45 (ok_t4rows (up := false) (by decide) (fun _ => rfl) F45 B D45U D46 D42 D43 D41 D44)
  exact ok_law F50 B D31 D32C D33C D25 D49 D45 D46 D42 D48
end Sq

set_option Elab.async false
set_option linter.all false
set_option maxRecDepth 100000
set_option maxHeartbeats 4000000
open PySem PySem.W PySem.Calls PyProof.Rows
set_option maxRecDepth 100000 in
set_option maxHeartbeats 8000000 in
theorem PySem.Challenge.cw_slideinto_k27_whole_row_to_row_holds : PySem.Challenge.rw_slideinto_k27_whole_row_to_row.Holds := by
  w_on; o_law
  refine HandSHeadRun.head_any (r := OpenLaw.row PySem.Challenge.rw_slideinto_k27_whole_row_to_row) (q := view (OpenLaw.row PySem.Challenge.rw_slideinto_k27_whole_row_to_row).prog [64]) (H := Sq.hk) (ob := Sq.ob) (M := 9000) (loose := Sq.loose) (d := HandSHeadRun.topDef (OpenLaw.row PySem.Challenge.rw_slideinto_k27_whole_row_to_row).prog 64) (kwd := []) Sq.ob_eq
    (by kernel_rfl) (fun s => by kernel_rfl) Sq.run (by kernel_rfl) (by kernel_rfl) (by kernel_rfl) (by rfl) (by first | assumption | decide +kernel) (by decide +kernel) ⟨rfl, rfl, rfl, rfl, rfl, by decide +kernel⟩ ?hw ?hc
  case hw => w_witness2
  case hc =>
    refine LamX.walk_ofTsE (l := PySem.Challenge.rw_slideinto_k27_whole_row_to_row) (n := 63) (k := 10) (x := "_law_script") (CX := fun _ => L2.CX0) rfl (by decide) (by kernel_rfl) ⟨rfl, by decide, by decide⟩ ?F (fun _ _ _ _ _ z => z)
    intro w mg fa h Y G hmg0
    obtain ⟨K, KX, c⟩ := Y
    have hmg : mg ("law" : PySem.Str) = some (.ref fa) := by
      have e : (HandSHeadRun.topDef (OpenLaw.row PySem.Challenge.rw_slideinto_k27_whole_row_to_row).prog 64).name = ("law" : PySem.Str) := by kernel_rfl
      rw [← e]
      exact hmg0
    obtain ⟨fd, hb, hF⟩ := Sq.facts (P := (PySem.Challenge.rw_slideinto_k27_whole_row_to_row).prog) (w := w) KX G hmg (by decide +kernel) rfl c.s
    have inT : ∀ p ∈ Sq.tabDs.map (He.cT K), ∃ t ∈ Sq.tabDs, p = He.cT K t := fun p hp => by
      obtain ⟨t, ht, e⟩ := List.mem_map.mp hp
      exact ⟨t, ht, e.symm⟩
    refine ⟨K, KX, fd, Sq.tabDs.map (He.cT K), Sq.spLaw K, fun p hp => ?_, fun p hp => ?_, fun p hp => ?_, hb, fun H a zs hl _ hT hS => ?_, fun base hK hG tb => hF base hK hG fun t ht => tb _ (List.mem_map_of_mem ht)⟩
    · obtain ⟨t, ht, rfl⟩ := inT p hp
      exact (c.t t ht).2.2
    · obtain ⟨t, ht, rfl⟩ := inT p hp
      exact (c.t t ht).2.1
    · obtain ⟨t, ht, rfl⟩ := inT p hp
      exact PySem.W.codeHd_of_K KX (c.t t ht).1
    · exact ⟨a, zs, rfl, hS, hl, fun _ => rfl⟩
