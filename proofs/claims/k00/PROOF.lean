import PyProof.Rows.All
import Wide.All
import OpenK.AllK
import Wide.FinOn
import KE.KExcSuper
import HandS.ForMost
import HandS.ExcInit
import HandS.HeadWalk
import HandS.ExcField
import HandS.ExcIs
import HandS.ExcValue
import HandS.IsInst
import HandS.EndBits
import HandS.Defaults
import HandS.Style
import HandS.RaiseMore
import HandS.Conv
import PySem.Challenge.RW_slideinto_k00_errors
import KE.KIntText
import HandS.HeadHook2
import HandS.FStrTup
import HandS.TupAny
import KE.KStateDown
import Lean
import HandS.Head0
import HandS.Head1
import HandS.Head2
import HandS.HeadEnd
set_option Elab.async false
set_option linter.all false
set_option maxRecDepth 100000
set_option maxHeartbeats 4000000
/-! Errors of one's own whose __init__ begins with super().__init__(text) and then keeps its parameters. -/
namespace Sq
open PySem PySem.W PySem.Calls PyProof.Rows PySem.HandSPX
/-! ### the statements of such an __init__ -/
def supS (msg : Str) (j : Nat) (p0 p1 p2 p3 p4 p5 : Pos) : Stmt :=
  .Expr (.Call (.Attribute (.Call (.Name "super" p0) [] [] p1) "__init__" p2) [.Constant (.str msg) j p3] [] p4) p5
structure Ps where
  a : Pos
  b : Pos
  c : Pos
  d : Pos
def keepS (f : Str) (p : Ps) : Stmt := .Assign [.Attribute (.Name "self" p.a) f p.b] (.Name f p.c) p.d
section
variable {prog : Program} {w : World} {A : Around} {E : Value → Shared → Prop} {h : Heap} {g : Array GenState} {d : Drawn} {t : Nat} {os : OsState}
variable {nm q : Str} {C N : Addr} {bs bm : List Value} {sn : List Str} {sub : List Value} {ab : Bool} {col : Option Bool} {dd : Option Addr} {k0 k1 k2 k3 k5 : Option Value}
/-- the bound ValueError.__init__ is called -/
theorem bw_call {u x t0 : Addr} {rest : List Value} {Q : Value → Shared → Prop}
    (hC : h.get? C = some (excClassObj nm q C N bs bm true sn sub ab col dd k0 k1 k2 k3 k5 "ValueError.__new__"))
    (he : h.get? x = some (excO C t0)) (hu : h.get? u = some (kxs_mw "ValueError.__init__" x)) (hz : rest.length ≤ sizeLine)
    (hq : ∀ h' t1, (∀ b o, b ≠ x → h.get? b = some o → h'.get? b = some o) → h'.get? x = some (excO C t1) → Q .none ⟨h', g, d, t, os⟩) :
    wpAny (model prog w) A (call (.ref u) rest) Q E ⟨h, g, d, t, os⟩ := by
  refine wpAny_call (codeAny_of_tree ?_)
  show wpAny _ A.in1 (callAny (.ref u) { pos := rest, kw := [] }) _ _ _
  simp only [callAny]
  refine wpAny_bind (wpAny_load hu ?_)
  have hm : (Value.type "method-wrapper" == Value.type "method" || Value.type "method-wrapper" == Value.type "builtin_function_or_method" || Value.type "method-wrapper" == Value.type "method-wrapper") = true := by decide
  simp only [kxs_mw, hm, if_true]
  refine KFB.if_so (by decide) ?_
  refine wpAny_bind (check_bound_init F.excBase_ValueError.toExcCallFacts hC he rfl ?_)
  refine wpAny_bind (wpAny_pure (wpAny_pure ?_))
  refine ⟨plainId_quiet F.excBase_ValueError.init.plain _, codeAny_builtin F.excBase_ValueError.initEntry ?_⟩
  exact exc_init_tree (cls := .ref C) (t0 := t0) (dv := none) (c2 := .none) (c3 := .none) (b4 := .bool false) he hz fun h' k e' _ => hq h' _ k e'
end
/-- what the written part says of such a class C and of its __init__ at fI; ns: its parameters behind self, kept as fields -/
structure SErr (prog : Program) (K : Frag) (C fI : Addr) (ns : List Str) : Prop where
  cls : ∃ nm q N bs bm sn sub ab col dd k0 k1 k2 k3 k5, K.lookup C = some (excClassObj nm q C N bs bm true sn sub ab col dd k0 k1 k2 k3 k5 "ValueError.__new__") ∧ refsVE bm = true ∧
    alongIn K "__init__" bm = some (some (.builtin "ValueError.__init__"))
  sa : findIn K (.ref C) "__setattr__" = some (some (.builtin "object.__setattr__"))
  iC : findIn K (.ref C) "__init__" = some (some (.ref fI))
  tI : typeIn K (.ref fI) = some (.type "function")
  kC : keepIn K (.ref C) = true
  veC : subIn K (.ref C) (.type "ValueError") = some true
  self : mroIn K C (.ref C) = some true
  opq : nsIn K cStatics "thirdparty.any" = some none
  sup : nsIn K mainGlobals "super" = some none
  no : ∀ f ∈ ns, findIn K (.ref C) f = some none
  nd : ns.Nodup
  len : ns.length ≤ 900
  noSelf : ("self" : Str) ∉ ns
  top : (prog.main.scope.names.lookup ("super" : Str)).isSome = false
  fn : ∃ (oc : Value) (od : Option Addr) (osl : Array (Option Value)) (name qual : Str) (params : Arguments) (scope : Scope) (kV doc pm ct : Value) (an : Option Addr) (cda cc : Addr) (ar : Arg)
      (msg : Str) (j : Nat) (p0 p1 p2 p3 p4 p5 : Pos) (ps : List Ps) (ccl cl : Value) (cdd cld : Option Addr) (ccs csl : Array (Option Value)) (vs : Array Value) (tf : Tok),
    K.lookup fI = some ⟨oc, od, .func (ksFn name qual params (supS msg j p0 p1 p2 p3 p4 p5 :: (ns.zip ps).map fun z => keepS z.1 z.2) scope .none kV doc pm an (.ref cda) ct cc), osl⟩ ∧
    ns.length ≤ ps.length ∧ (params.posonlyargs ++ params.args).head? = some ar ∧ ar.arg = "self" ∧ codeIn K (.ref cda) qual = true ∧
    K.lookup cda = some ⟨ccl, cdd, .fields vs, ccs⟩ ∧ vs[2]? = some (.str prog.main.file tf) ∧ K.lookup cc = some ⟨cl, cld, .cell (some (.ref C)), csl⟩ ∧
    (∀ (s : Shared) (us : List Value), us.length = ns.length + 1 → BindsTo s (ksFn name qual params (supS msg j p0 p1 p2 p3 p4 p5 :: (ns.zip ps).map fun z => keepS z.1 z.2) scope .none kV doc pm an (.ref cda) ct cc) ⟨us, []⟩ ((("self" : Str) :: ns).zip us)) ∧
    scope.names.lookup ("super" : Str) = some .globalImplicit ∧ scope.names.lookup ("__class__" : Str) = some .free ∧ (∀ x ∈ (("self" : Str) :: ns), scope.names.lookup x = some .local) ∧
    (p2.endLine == p4.line) = true ∧ (∀ x ∈ ns, (x == ("__debug__" : Str)) = false) ∧ (∀ x ∈ scope.names, x.2 ≠ .cell) ∧ scope.isCoroutine = false ∧ scope.isGenerator = false ∧ scope.kind = .function
end Sq

set_option Elab.async false
set_option linter.all false
set_option maxRecDepth 100000
set_option maxHeartbeats 4000000
namespace Sq
open PySem PySem.W PySem.Calls PyProof.Rows PySem.HandSPX
/-- what such an __init__ leaves of a fresh error at x; fs: its fields, the last one first -/
structure InitE (h h' : Heap) (x C : Addr) (fs : List (Str × Value)) : Prop where
  keep : ∀ b o, b ≠ x → h.get? b = some o → h'.get? b = some o
  obj : ∃ t1 : Addr, (fs = [] ∧ h'.get? x = some (excO C t1)) ∨ ∃ dx : Addr, fs ≠ [] ∧ h.objs.size ≤ dx ∧ dx ≠ x ∧ h'.get? x = some ({ cls := .ref C, dict := some dx, data := .fields #[.ref t1, .none, .none, .none, .bool false, .none] } : Obj) ∧
    h'.Ns1 dx fun f => fs.lookup f
theorem lookup_one {κ : Type} [BEq κ] [LawfulBEq κ] [DecidableEq κ] {α : Type} (f g : κ) (y : α) (fs : List (κ × α)) : ((f, y) :: fs).lookup g = if g = f then some y else fs.lookup g := by
  by_cases z : g = f
  · subst z
    simp [List.lookup]
  · have e : (g == f) = false := by simpa using z
    rw [if_neg z]
    simp [List.lookup, e]
theorem lookup_within {fs : List (Str × Value)} : Within (fun f => fs.lookup f) (fs.map (·.1)) := by
  intro y hy
  induction fs with
  | nil => exact absurd rfl hy
  | cons p l ih =>
    obtain ⟨f, z⟩ := p
    by_cases e : y = f
    · rw [e]
      exact List.mem_cons_self ..
    · refine List.mem_cons_of_mem _ (ih fun q => hy ?_)
      show ((f, z) :: l).lookup y = none
      rw [lookup_one, if_neg e]
      exact q
section
variable {prog : Program} {w : World} {A : Around} {E : Value → Shared → Prop} {s : Shared} {K : Frag} {C fI : Addr} {ns : List Str} {R : Result → Shared → Prop}
/-- the rows self.f = f, one after the other -/
theorem keeps_run (T : SErr prog K C fI ns) {env : Env} {L x : Addr} {m : Str → Option Value} {h0 : Heap} (X0 : K.In h0) (hKx : K.lookup x = none) (hk : env.scope.kind = .function) (hL : env.locals = L) (hself : env.kindOf "self" = some .local)
    (mx : m "self" = some (.ref x)) (hLx : L ≠ x) :
    ∀ (zs : List (Str × Ps)) (fs : List (Str × Value)) (us : List Value) (h : Heap) (tk : Nat) (t1 : Addr) (Q : Flow → Shared → Prop), zs.length = us.length → h.Ns L m →
      (∀ (i : Nat) (z : Str × Ps), zs[i]? = some z → z.1 ∈ ns ∧ env.kindOf z.1 = some .local ∧ (z.1 == ("__debug__" : Str)) = false ∧ m z.1 = us[i]?) → fs.length + zs.length ≤ 900 →
      (∀ b o, b ≠ x → h0.get? b = some o → h.get? b = some o) →
      ((fs = [] ∧ h0.objs.size ≤ h.objs.size ∧ h.get? x = some (excO C t1)) ∨ ∃ dx : Addr, fs ≠ [] ∧ h0.objs.size ≤ dx ∧ dx ≠ x ∧ dx ≠ L ∧ h.get? x = some ({ cls := .ref C, dict := some dx, data := .fields #[.ref t1, .none, .none, .none, .bool false, .none] } : Obj) ∧ h.Ns1 dx fun f => fs.lookup f) →
      (∀ h' tk', InitE h0 h' x C (((zs.map (·.1)).zip us).reverse ++ fs) → Q .next { s with heap := h', toks := tk' }) →
      wpAny (model prog w) A (execs (zs.map fun z => keepS z.1 z.2) env) Q E { s with heap := h, toks := tk }
  | [], fs, us, h, tk, t1, Q, hl, hn, hz, h9, kp, ho, hq => by
    have e : us = [] := List.length_eq_zero_iff.mp hl.symm
    subst e
    refine wpAny_execs_nil (hq h tk ⟨kp, t1, ?_⟩)
    rcases ho with ⟨ho, _, hx⟩ | ⟨dx, d0, d1, d2, _, d4, d5⟩
    · exact .inl ⟨ho, hx⟩
    · exact .inr ⟨dx, d0, d1, d2, d4, d5⟩
  | (f, p) :: zs, fs, [], h, tk, t1, Q, hl, hn, hz, h9, kp, ho, hq => by cases hl
  | (f, p) :: zs, fs, u :: us, h, tk, t1, Q, hl, hn, hz, h9, kp, ho, hq => by
    obtain ⟨nm, q, N, bs, bm, sn, sub, ab, col, dd, k0, k1, k2, k3, k5, hC, hbm, _⟩ := T.cls
    have hcl : clsIn K C = some { name := nm, bases := bs, mro := .ref C :: bm, ns := N, qualname := q, hasDict := true, slotNames := sn, subclasses := sub, abstract := ab, collection := col, hasDel := false } := by
      unfold clsIn
      rw [hC] <;> rfl
    have X : K.In h := fun b o e => kp b o (fun z => by rw [z, hKx] at e; cases e) (X0 b o e)
    obtain ⟨hf, hloc, hdb, hm⟩ := hz 0 (f, p) rfl
    have hm' : m f = some u := hm
    have hno := T.no f hf
    have hnL : h.Ns env.locals m := by rw [hL]; exact hn
    have hz' : ∀ (i : Nat) (z : Str × Ps), zs[i]? = some z → z.1 ∈ ns ∧ env.kindOf z.1 = some .local ∧ (z.1 == ("__debug__" : Str)) = false ∧ m z.1 = us[i]? := fun i z hi => by
      have y := hz (i + 1) z (by simpa using hi)
      simpa using y
    have hl' : zs.length = us.length := by simpa using hl
    have h9' : ((f, u) :: fs).length + zs.length ≤ 900 := by
      have y : fs.length + (zs.length + 1) ≤ 900 := by simpa using h9
      show fs.length + 1 + zs.length ≤ 900
      omega
    have eqf : (((zs.map (·.1)).zip us).reverse ++ (f, u) :: fs) = (((((f, p) :: zs).map (·.1)).zip (u :: us)).reverse ++ fs) := by simp
    have efs : ∀ y, (if y = f then some u else fs.lookup y) = ((f, u) :: fs).lookup y := fun y => (lookup_one f y u fs).symm
    obtain ⟨oL, es, ep, hoL, hrL⟩ := id hn
    show wpAny _ _ (execs (keepS f p :: zs.map fun z => keepS z.1 z.2) env) _ _ _
    refine wpAny_execs_cons (plainObj_wpAny_Assign_Attribute ?_)
    refine wpAny_Name (wpAny_loadName_local hk hloc hnL hm' ?_) hdb
    refine wpAny_Name (wpAny_loadName_local hk hself hnL mx ?_) (by decide)
    rcases ho with ⟨e0, hsz, ho⟩ | ⟨dx, d0, d1, d2, d3, d4, d5⟩
    · subst e0
      refine set_plain X (ox := excO C t1) (od := none) ⟨ho, rfl, rfl, trivial⟩ T.sa ?_
      refine exc_osa X ho hcl (show refsVE (.ref C :: bm) = true from hbm) rfl hno (fun h' tk' dx k dn dne hx hns => ?_)
      show wpAny _ _ (execs _ _) _ _ _
      have hdL : dx ≠ L := fun z => by
        rw [z] at dn
        exact absurd (Heap.lt_size hoL) (Nat.not_lt_of_le dn)
      refine keeps_run T X0 hKx hk hL hself mx hLx zs [(f, u)] us h' tk' t1 Q hl' ⟨oL, es, ep, k _ _ hLx hoL, hrL⟩ hz' h9' (fun b o hb e => k b o hb (kp b o hb e)) (.inr ⟨dx, List.cons_ne_nil _ _, Nat.le_trans hsz dn, dne, hdL, hx, ?_⟩) fun h2 tk2 Z => hq h2 tk2 (eqf ▸ Z)
      have ee : (fun y => if y = f then some u else none) = fun y => List.lookup y [(f, u)] := funext fun y => by
        rw [lookup_one]
        rfl
      rw [← ee]
      exact hns
    · obtain ⟨oD, _, _, hoD, _, _⟩ := d5.count lookup_within
      refine set_plain X (ox := { cls := .ref C, dict := some dx, data := .fields #[.ref t1, .none, .none, .none, .bool false, .none] }) (od := some oD) ⟨d4, rfl, rfl, hoD⟩ T.sa ?_
      refine PySem.OEX.osa_old X d4 d5 lookup_within (by rw [List.length_map]; have y : fs.length + (zs.length + 1) ≤ 900 := (by simpa using h9); omega) hcl (show refsVE (.ref C :: bm) = true from hbm) rfl hno (fun h' tk' k hns => ?_)
      show wpAny _ _ (execs _ _) _ _ _
      refine keeps_run T X0 hKx hk hL hself mx hLx zs ((f, u) :: fs) us h' tk' t1 Q hl' ⟨oL, es, ep, k _ _ (Ne.symm d3) hoL, hrL⟩ hz' h9' (fun b o hb e => k b o (fun z => ?_) (kp b o hb e)) (.inr ⟨dx, List.cons_ne_nil _ _, d1, d2, d3, k _ _ (Ne.symm d2) d4, ?_⟩) fun h2 tk2 Z => hq h2 tk2 (eqf ▸ Z)
      · rw [z] at e
        exact absurd (Heap.lt_size e) (Nat.not_lt_of_le d1)
      · have ee : (fun y => if y = f then some u else fs.lookup y) = fun y => List.lookup y ((f, u) :: fs) := funext efs
        rw [← ee]
        exact hns
end
end Sq

set_option Elab.async false
set_option linter.all false
set_option maxRecDepth 100000
set_option maxHeartbeats 4000000
namespace Sq
open PySem PySem.W PySem.Calls PyProof.Rows PySem.HandSPX
section
variable {prog : Program} {w : World} {A : Around} {E : Value → Shared → Prop} {s : Shared} {K : Frag} {C fI : Addr} {ns : List Str} {R : Result → Shared → Prop} {mg mb : Str → Option Value}
theorem look_rev {α : Type} : ∀ (xs : List Str) (us : List α) (i : Nat) (f : Str), xs.Nodup → xs.length ≤ us.length → xs[i]? = some f → (xs.zip us).reverse.lookup f = us[i]?
  | [], us, i, f, _, _, h => by simp at h
  | x :: xs, [], i, f, _, h, _ => by simp at h
  | x :: xs, u :: us, i, f, nd, hl, h => by
    have nd1 := List.nodup_cons.mp nd
    have ez : ((x :: xs).zip (u :: us)).reverse = (xs.zip us).reverse ++ [(x, u)] := by simp
    rw [ez, List.lookup_append]
    cases i with
    | zero =>
      have e : x = f := by simpa using h
      subst e
      have e0 : (xs.zip us).reverse.lookup x = none := by
        rw [List.lookup_eq_none_iff]
        intro p hp
        have y := List.of_mem_zip (List.mem_reverse.mp hp)
        simp only [bne_iff_ne, ne_eq]
        rintro rfl
        exact nd1.1 y.1
      rw [e0]
      simp
    | succ i =>
      have h' : xs[i]? = some f := by simpa using h
      have hl' : xs.length ≤ us.length := by simpa using hl
      have y := look_rev xs us i f nd1.2 hl' h'
      rw [y]
      have hi := (List.getElem?_eq_some_iff.mp h').1
      have e1 : us[i]? = some (us[i]'(by omega)) := List.getElem?_eq_getElem (by omega)
      simp [e1]
theorem init_run (T : SErr prog K C fI ns) {x t0 : Addr} {us : List Value} (X : K.In s.heap) (hKx : K.lookup x = none) (hG : s.heap.Ns mainGlobals mg) (hB : s.heap.Ns builtinsNs mb) (hbs : mb "super" = some (.type "super")) (hlim : s.heap.NoLimit)
    (hx : s.heap.get? x = some (excO C t0)) (hus : us.length = ns.length) (hroom : A.depth < recursionLimit)
    (hq : ∀ h' tk, InitE s.heap h' x C ((ns.zip us).reverse) → R (.ok (.ret .none)) { s with heap := h', toks := tk }) :
    codeAny (model prog w) A (.call (.ref fI) ⟨.ref x :: us, []⟩) R s := by
  obtain ⟨nm, q, N, bs, bm, sn, sub, ab, col, dd, k0, k1', k2, k3, k5, hC, hbm, hal⟩ := T.cls
  have hcl : clsIn K C = some { name := nm, bases := bs, mro := .ref C :: bm, ns := N, qualname := q, hasDict := true, slotNames := sn, subclasses := sub, abstract := ab, collection := col, hasDel := false } := by
    unfold clsIn
    rw [hC] <;> rfl
  obtain ⟨oc, od, osl, name, qual, params, scope, kV, doc, pm, ct, an, cda, cc, ar, msg, j, p0, p1, p2, p3, p4, p5, ps, ccl, cl, cdd, cld, ccs, csl, vs, tf, lk, hps, har, hars, hcd, hcda, hvs, hcc, hbind, ksup, kcls, kloc, hpl, kdb, hcell, hco, hgen, hkind⟩ := T.fn
  have hlen : (Value.ref x :: us).length = ns.length + 1 := by simp [hus]
  have hne : ∀ b o, K.lookup b = some o → b ≠ x := fun b o e z => by
    rw [z, hKx] at e
    cases e
  refine ks_codeAny_call_defAt (fd := ksFn name qual params (supS msg j p0 p1 p2 p3 p4 p5 :: (ns.zip ps).map fun z => keepS z.1 z.2) scope .none kV doc pm an (.ref cda) ct cc) (binds := (("self" : Str) :: ns).zip (.ref x :: us)) hroom (X _ _ lk) rfl hlim (codeRec_of X hcd) rfl (hbind s (.ref x :: us) hlen) hcell (fun y hy => kloc _ (List.of_mem_zip hy).1) (fun h0 hns hk0 => ?_) hco hgen hkind
  show PySem.wpAt (model prog w) (A.deeper (ksEnv qual scope s.heap.objs.size fI (.ref cda) cc)) (.func (supS msg j p0 p1 p2 p3 p4 p5 :: (ns.zip ps).map fun z => keepS z.1 z.2) (ksEnv qual scope s.heap.objs.size fI (.ref cda) cc))
    (execs (supS msg j p0 p1 p2 p3 p4 p5 :: (ns.zip ps).map fun z => keepS z.1 z.2) (ksEnv qual scope s.heap.objs.size fI (.ref cda) cc)) _ _ _
  have hxL : s.heap.objs.size ≠ x := Nat.ne_of_gt (Heap.lt_size hx)
  have hx0 := hk0 _ _ hx
  have mself : ((("self" : Str) :: ns).zip (Value.ref x :: us)).reverse.lookup ("self" : Str) = some (.ref x) :=
    look_rev (("self" : Str) :: ns) (Value.ref x :: us) 0 "self" (List.nodup_cons.mpr ⟨T.noSelf, T.nd⟩) (by simp [hus]) rfl
  have mns : ∀ (i : Nat) (f : Str), ns[i]? = some f → ((("self" : Str) :: ns).zip (Value.ref x :: us)).reverse.lookup f = us[i]? := fun i f hf =>
    look_rev (("self" : Str) :: ns) (Value.ref x :: us) (i + 1) f (List.nodup_cons.mpr ⟨T.noSelf, T.nd⟩) (by simp [hus]) (by simpa using hf)
  refine ks_wpAt_execs_cons ?_
  show PySem.wpAt _ _ _ (exec (.Expr (.Call (.Attribute (.Call (.Name "super" p0) [] [] p1) "__init__" p2) [.Constant (.str msg) j p3] [] p4) p5) (ksEnv qual scope s.heap.objs.size fI (.ref cda) cc)) _ _ _
  have hint : interactive (ksEnv qual scope s.heap.objs.size fI (.ref cda) cc) = false := by
    show (scope.kind == .module && _) = false
    rw [hkind]
    rfl
  refine ks_wpAt_Expr_any ?_ hint
  have he : eval (.Call (.Attribute (.Call (.Name "super" p0) [] [] p1) "__init__" p2) [.Constant (.str msg) j p3] [] p4) (ksEnv qual scope s.heap.objs.size fI (.ref cda) cc) = (do
      let ov ← attributeBase (.Call (.Name "super" p0) [] [] p1) "__init__" (ksEnv qual scope s.heap.objs.size fI (.ref cda) cc) (eval (.Call (.Name "super" p0) [] [] p1) (ksEnv qual scope s.heap.objs.size fI (.ref cda) cc))
      standAt p2.atName
      let (f, first) ← holding [ov] (getMethod ov "__init__" (L2.plainOf (.Call (.Name "super" p0) [] [] p1) (ksEnv qual scope s.heap.objs.size fI (.ref cda) cc)))
      callWith p4 f first (backTo p4 (starEach [.Constant (.str msg) j p3] (ksEnv qual scope s.heap.objs.size fI (.ref cda) cc))) []) := by
    rw [arm_eval_Call]
    refine congrArg (fun k => attributeBase (.Call (.Name "super" p0) [] [] p1) "__init__" (ksEnv qual scope s.heap.objs.size fI (.ref cda) cc) (eval (.Call (.Name "super" p0) [] [] p1) (ksEnv qual scope s.heap.objs.size fI (.ref cda) cc)) >>= k) (funext fun ov => ?_)
    exact congrArg (fun k => standAt p2.atName >>= fun _ => k) (L2.mcall_line (by rfl) hpl)
  refine ks_wpAt_MethodCall ?_ he
  obtain ⟨oC, hoC, hdC⟩ : ∃ oC, s.heap.get? C = some oC ∧ oC.data = .cls { name := nm, bases := bs, mro := .ref C :: bm, ns := N, qualname := q, hasDict := true, slotNames := sn, subclasses := sub, abstract := ab, collection := col, hasDel := false } := ⟨_, X _ _ hC, rfl⟩
  have X0 : K.In h0 := fun b o e => hk0 b o (X b o e)
  have I0 : InstAt h0 x (excO C t0) C none := ⟨hx0, rfl, rfl, trivial⟩
  refine ks_wpAt_super_base (env := ksEnv qual scope s.heap.objs.size fI (.ref cda) cc) ksup kcls (by decide) rfl (X0 _ _ lk) rfl har rfl (X0 _ _ hcda) rfl hvs (by simp) T.top ?_
  refine ks_loadName_global hkind ksup (loadGlobal_builtin (env := ksEnv qual scope s.heap.objs.size fI (.ref cda) cc) (hG.keeps hk0) (mg_none_of X hG T.sup) (hB.keeps hk0) hbs ⟨rfl, ?_⟩)
  refine wpAny_loadName_free (env := ksEnv qual scope s.heap.objs.size fI (.ref cda) cc) hkind kcls rfl ⟨_, X0 _ _ hcc, rfl⟩ ?_
  rw [hars]
  refine wpAny_loadName_local (env := ksEnv qual scope s.heap.objs.size fI (.ref cda) cc) hkind (kloc _ (List.mem_cons_self ..)) hns mself ?_
  refine ks_wpAny_isType_cls (hk0 _ _ hoC) hdC ⟨rfl, ?_⟩
  refine ks_wpAny_call_super (hk0 _ _ hoC) hdC hx0 rfl (fun c z => by cases z) (looks_mroIn X0 T.self) (fun h1 e1 k1 => ?_)
  have X1 : K.In h1 := fun b o e => k1 b o (X0 b o e)
  have hx1 := k1 _ _ hx0
  have I1 : InstAt h1 x (excO C t0) C none := ⟨hx1, rfl, rfl, trivial⟩
  have hI : Looks (model prog w) h1 (isInstance (.ref x) (.type "ValueError")) true := I1.type.andThen (looks_subIn X1 T.veC)
  have hmro : Looks (model prog w) h1 (mroOf (.ref C)) (.ref C :: bm) := (looks_clsIn X1 hcl).andThen .now
  have hdrop : ((Value.ref C :: bm).dropWhile (· != .ref C)).drop 1 = bm := by simp [List.dropWhile_cons]
  refine kxs_getMethod (D := C) kxs_ValueError e1 (looks_opaque X1 T.opq) hmro hdrop X1 hal hI (ks_ne X1 I1 hcl) (by decide) ?_
  have kk : ∀ b o, h0.get? b = some o → (h1.push (kxs_mw "ValueError.__init__" x)).get? b = some o := fun b o e => Heap.get?_push_of_some _ (k1 b o e)
  have hu : (h1.push (kxs_mw "ValueError.__init__" x)).get? h1.objs.size = some (kxs_mw "ValueError.__init__" x) := Heap.get?_push_at rfl rfl
  refine kxs_callWith (i := "ValueError.__init__") (x := x) (by rfl) ?_
  refine evalArgs_plain (spliced_cons ?_)
  show wpAny _ _ (eval (.Constant (.str msg) j p3) (ksEnv qual scope s.heap.objs.size fI (.ref cda) cc)) _ _ _
  refine Constant_str ?_
  refine spliced_nil ⟨hu, ?_⟩
  have hC2 : (h1.push (kxs_mw "ValueError.__init__" x)).get? C = some (excClassObj nm q C N bs bm true sn sub ab col dd k0 k1' k2 k3 k5 "ValueError.__new__") := kk _ _ (hk0 _ _ (X _ _ hC))
  refine bw_call hC2 (kk _ _ hx0) hu (by rw [sizeLine_eq]; exact (by decide : 1 ≤ 16777216)) (fun h2 t1 k2' e2 => ?_)
  refine wpAt_of_wpAny ?_
  have hlz : (ns.zip ps).length = us.length := by rw [List.length_zip, hus]; omega
  obtain ⟨oL, es, ep, hoL, hrL⟩ := id hns
  have hsz : s.heap.objs.size < h0.objs.size := Heap.lt_size hoL
  refine keeps_run (s := s) (x := x) (L := s.heap.objs.size) (h0 := s.heap) T X hKx (env := ksEnv qual scope s.heap.objs.size fI (.ref cda) cc) hkind rfl (kloc _ (List.mem_cons_self ..)) mself hxL (ns.zip ps) [] us h2 _ t1 _ hlz ⟨oL, es, ep, k2' _ _ hxL (kk _ _ hoL), hrL⟩ (fun i z hz => ?_) ?_ (fun b o hb e => k2' b o hb (kk b o (hk0 b o e))) (.inl ⟨rfl, ?_, e2⟩) fun h' tk' Z => ?_
  · have z1 : ns[i]? = some z.1 := by
      have y := congrArg (Option.map Prod.fst) hz
      rw [List.getElem?_zip_eq_some.mp hz |>.1]
    have hm := List.mem_of_getElem? z1
    exact ⟨hm, kloc _ (List.mem_cons_of_mem _ hm), kdb _ hm, mns i z.1 z1⟩
  · have := T.len
    rw [hlz, hus]
    show 0 + ns.length ≤ 900
    omega
  · exact Nat.le_of_lt (Heap.lt_size (k2' _ _ hxL (kk _ _ hoL)))
  · have ez : ((ns.zip ps).map (·.1)) = ns := by
      rw [List.map_fst_zip]
      omega
    rw [ez, List.append_nil] at Z
    exact hq h' tk' Z
end
end Sq

set_option Elab.async false
set_option linter.all false
set_option maxRecDepth 100000
set_option maxHeartbeats 4000000
/-! Such errors as values: made, their fields read, isinstance of them. -/
namespace Sq
open PySem PySem.Spec PyProof.Rows L2
section
variable {fs ex : List Addr} {H : Hp} {h h' : Heap} {a b : Addr} {o u : HO}
theorem un_two (k : ∀ c v, h.get? c = some v → h'.get? c = some v) (h1 : h.objs.size ≤ a) (h2 : h.objs.size ≤ b) (n1 : H a = none) (n2 : H b = none) : Un fs ex H (upd (upd H b u) a o) h h' where
  keep := fun c v q _ _ _ => k c v q
  slot := fun c v q _ _ _ => ⟨v.slots, k c v q⟩
  free := fun c v q n _ => by
    have l := Heap.lt_size q
    rw [upd_ne (Nat.ne_of_lt (Nat.lt_of_lt_of_le l h1)), upd_ne (Nat.ne_of_lt (Nat.lt_of_lt_of_le l h2))]
    exact n
  there := fun c v q _ => ⟨v, k c v q⟩
  tups := fun c xs q => by
    rw [upd_ne (ne_of_none q n1), upd_ne (ne_of_none q n2)]
    exact q
  frzs := fun c v xs q => by
    rw [upd_ne (ne_of_none q n1), upd_ne (ne_of_none q n2)]
    exact q
  tbls := fun c ps q => ⟨#[], by rw [upd_ne (ne_of_none q n1), upd_ne (ne_of_none q n2), q]; simp⟩
end
theorem zip_rel : ∀ (ns : List Str) {vs : List V} {us : List Value}, Vals vs us → ∀ f, RelO ((ns.zip vs).lookup f) ((ns.zip us).lookup f)
  | [], _, _, _, _ => True.intro
  | n :: ns, _, _, .nil, _ => True.intro
  | n :: ns, _, _, .cons r t, f => by
    rw [List.zip_cons_cons, List.zip_cons_cons, lookup_one, lookup_one]
    by_cases e : f = n
    · rw [if_pos e, if_pos e]
      exact r
    · rw [if_neg e, if_neg e]
      exact zip_rel ns t f
theorem rev_rel : ∀ (ns : List Str) {vs : List V} {us : List Value}, Vals vs us → ∀ f, RelO ((ns.zip vs).reverse.lookup f) ((ns.zip us).reverse.lookup f)
  | [], _, _, _, _ => True.intro
  | n :: ns, _, _, .nil, _ => True.intro
  | n :: ns, _ :: vs, _ :: us, .cons (a := x) (b := y) r t, f => by
    rw [List.zip_cons_cons, List.zip_cons_cons, List.reverse_cons, List.reverse_cons, List.lookup_append, List.lookup_append]
    have q := rev_rel ns t f
    cases e1 : (ns.zip vs).reverse.lookup f with
    | some v =>
      rw [e1] at q
      cases e2 : (ns.zip us).reverse.lookup f with
      | some v' =>
        rw [e2] at q
        exact q
      | none =>
        rw [e2] at q
        exact q.elim
    | none =>
      rw [e1] at q
      cases e2 : (ns.zip us).reverse.lookup f with
      | some v' =>
        rw [e2] at q
        exact q.elim
      | none =>
        rw [Option.none_or, Option.none_or, lookup_one, lookup_one]
        by_cases e : f = n
        · rw [if_pos e, if_pos e]
          exact r
        · rw [if_neg e, if_neg e]
          exact True.intro
/-- C(e, ..) as a value -/
structure errPost (C : Addr) (ns : List Str) (vs : List V) (H : Hp) (Q : VK) : Prop where
  len : vs.length = ns.length
  go : ∀ a, H a = none → (ns = [] → Q (.ref a) (upd H a (exo a C none))) ∧ (ns ≠ [] → ∀ d, H d = none → d ≠ a → Q (.ref a) (upd (upd H d (exd d (ns.zip vs).reverse)) a (exo a C (some d))))
def tErr (C : Addr) (ns : List Str) (ta : TA) : TE := fun σ H Q => ta σ H fun vs H1 => errPost C ns vs H1 Q
section
variable {X : Cx} {pins : List (Addr × Obj)} {σ : L2.St} {H : Hp} {s : Shared} {C fI : Addr} {ns : List Str}
theorem call_err (T : SErr X.prog X.K C fI ns) (hr : Room 1 X.A) {us : List Value} {vs : List V} {Q : VK} (I : Inv X pins σ H s) (r : Vals vs us) (h : errPost C ns vs H Q) :
    wpAny (model X.prog X.w) X.A (call (.ref C) us) (EP X pins σ Q) X.xe s := by
  obtain ⟨hl, h⟩ := h
  obtain ⟨nm, q, N, bs, bm, sn, sub, ab, col, dd, k0, k1, k2, k3, k5, hC, hbm, _⟩ := T.cls
  obtain ⟨mb, hmb, hbb⟩ := I.mod.blt
  have hlim := I.nolimit
  have hul : us.length = ns.length := by rw [← r.length]; exact hl
  have hdp := hr.dp
  obtain ⟨hp, g, dr, tk, os⟩ := s
  have kk : ∀ b o, hp.get? b = some o → ((hp.push (PySem.W.kdv_tup us)).push (PySem.HandSPX.excO C hp.objs.size)).get? b = some o := fun b o e => Heap.get?_push_of_some _ (Heap.get?_push_of_some _ e)
  have hget : ((hp.push (PySem.W.kdv_tup us)).push (PySem.HandSPX.excO C hp.objs.size)).get? (hp.objs.size + 1) = some (PySem.HandSPX.excO C hp.objs.size) := by heap_get
  have KX : X.K.In hp := I.kIn
  have hKx : X.K.lookup (hp.objs.size + 1) = none := by
    cases e : X.K.lookup (hp.objs.size + 1) with
    | none => rfl
    | some o => exact absurd (Nat.lt_of_succ_lt (Heap.lt_size (KX _ _ e))) (Nat.lt_irrefl _)
  have hus : us.length ≤ sizeLine := by
    have := T.len
    rw [hul, sizeLine_eq]
    omega
  refine wpAny_call (PySem.HandSPX.call_own F.excBase_ValueError (fun Y => PySem.HandSPX.refsVE_contains Y bm hbm) (KX _ _ hC) (PySem.W.looks_findIn KX T.iC) (fun self => PySem.W.bind_fn KX self T.tI) hus ?_)
  refine init_run (s := ⟨(hp.push (PySem.W.kdv_tup us)).push (PySem.HandSPX.excO C hp.objs.size), g, dr, tk, os⟩) (mg := X.mg) (mb := mb) T (PySem.W.Frag.In.keeps KX kk) hKx (I.mod.glob.keeps fun b o e => kk b o (I.bk b o e)) (hmb.keeps fun b o e => kk b o (I.bk b o e))
    ((hbb _ (by decide +kernel)).trans (by first | boot_by_name | kernel_rfl)) (hlim.keeps kk) hget hul ?_ (fun h' tk' Z => ?_)
  · show X.A.depth + 1 < recursionLimit
    omega
  · refine ⟨rfl, ?_⟩
    have old : ∀ b o, hp.get? b = some o → h'.get? b = some o := fun b o e => Z.keep b o (Nat.ne_of_lt (Nat.lt_succ_of_lt (Heap.lt_size e))) (kk b o e)
    have ha : hp.objs.size ≤ hp.objs.size + 1 := Nat.le_succ _
    have na : H (hp.objs.size + 1) = none := I.hok.fresh ha
    obtain ⟨q0, q1⟩ := h (hp.objs.size + 1) na
    obtain ⟨t1, ho | ⟨dx, d0, d1, d2, d3, d4⟩⟩ := Z.obj
    · obtain ⟨e, hx⟩ := ho
      have en : ns = [] := by
        have z := congrArg List.length e
        rw [List.length_reverse, List.length_zip, hul, Nat.min_self] at z
        exact List.length_eq_zero_iff.mp z
      exact ⟨.ref (hp.objs.size + 1), _, I.laid (t' := tk') (a := hp.objs.size + 1) (o := exo (hp.objs.size + 1) C none) (h' := h') old ha (exo_ok hx), rfl, q0 en⟩
    · have en : ns ≠ [] := fun e => by
        subst e
        exact d0 rfl
      have d1' : hp.objs.size ≤ dx := by
        have z : hp.objs.size + 1 + 1 ≤ dx := by simpa only [Heap.size_push] using d1
        exact Nat.le_trans (Nat.le_trans (Nat.le_succ _) (Nat.le_succ _)) z
      have nd : H dx = none := I.hok.fresh d1'
      have ob1 : HOk X.prog X.w (upd H dx (exd dx (ns.zip vs).reverse)) h' := I.hok.laid old d1' (exd_ok d4 (rev_rel ns r))
      have na' : upd H dx (exd dx (ns.zip vs).reverse) (hp.objs.size + 1) = none := by
        rw [upd_ne (Ne.symm d2)]
        exact na
      have ob2 : HOk X.prog X.w (upd (upd H dx (exd dx (ns.zip vs).reverse)) (hp.objs.size + 1) (exo (hp.objs.size + 1) C (some dx))) h' := ob1.laidN (fun _ _ q => q) na' (exo_ok d3)
      exact ⟨.ref (hp.objs.size + 1), _, I.un (t' := tk') (un_two old ha d1' na nd) ob2, rfl, q1 en dx nd d2⟩
theorem pe_err {x : Str} {e : Expr} {es : List Expr} {ta : TA} {p pos : Pos} (T : SErr X.prog X.K C fI ns) (hr : Room 1 X.A) (hm : X.mg x = some (.ref C)) (ha : PA X (e :: es) ta) (hg : Gl X x := by rfl)
    (hdb : (x == ("__debug__" : Str)) = false := by decide) (he : starEach (e :: es) X.env = (false, eval e X.env) :: starEach es X.env := by rfl) (hpl : (backTo pos (starEach es X.env)).any (·.1) = false := by rfl) :
    PE X (.Call (.Name x p) (e :: es) [] pos) (tErr C ns ta) := by
  refine ⟨fun pins s σ H Q I h => ?_⟩
  refine wpAny_Call_Name_kw (ld_glob I hg hm ?_ hdb)
  exact PySem.W.callWith_K (h₀ := X.base) I.ok.mod.kin T.kC (thn (ha.run pos pins s σ H _ I h) fun us s1 ⟨vs, H1, I1, r1, q1⟩ => ⟨I1.kIn, call_err T hr I1 r1 q1⟩) he hpl
theorem pe_err0 {x : Str} {p pos : Pos} (T : SErr X.prog X.K C fI ns) (hr : Room 1 X.A) (hm : X.mg x = some (.ref C)) (hg : Gl X x := by rfl)
    (hdb : (x == ("__debug__" : Str)) = false := by decide) : PE X (.Call (.Name x p) [] [] pos) (tErr C ns tNil) := by
  refine ⟨fun pins s σ H Q I h => ?_⟩
  refine wpAny_Call_Name_kw (ld_glob I hg hm ?_ hdb)
  exact PySem.W.callWith_K0 I.kIn T.kC (call_err T hr (us := []) (vs := []) I .nil h)
/-! ### a field of such an error -/
/-- o.f, o an error at a of the class at C -/
def tEf (K : PySem.W.Frag) (f : Str) (to : TE) : TE := fun σ H Q => to σ H fun x H1 => ∃ (a C d : Addr) (fs : List (Str × V)) (v : V), x = .ref a ∧ H1 a = some (exo a C (some d)) ∧ H1 d = some (exd d fs) ∧ XfC K C ∧ PySem.W.findIn K (.ref C) f = some none ∧
  fs.lookup f = some v ∧ Q v H1
theorem pe_ef {e : Expr} {te : TE} {n : Str} {pos : Pos} (he : PE X e te) (hb : attributeBase e n X.env (eval e X.env) = eval e X.env := by rfl) : PE X (.Attribute e n pos) (tEf X.K n te) := by
  refine ⟨fun pins s σ H Q I h => ?_⟩
  refine attr_of hb (thn (he.run pins s σ H _ I h) fun u s1 hh => ?_)
  obtain ⟨x, H1, I1, rx, a, C, d, fs, v, ex, ea, ed, T, hno, l, q⟩ := hh
  subst ex
  obtain rfl : u = Value.ref a := rx
  obtain ⟨t1, ho⟩ := exo_at I1.hok ea
  obtain ⟨mA, hns, hrl⟩ := exd_at I1.hok ed
  obtain ⟨od, hod, hl⟩ := lookIn_ns hns
  obtain ⟨u, hu, ru⟩ := RelO.some_of (v := v) (o := mA n) (by rw [← l]; exact hrl n)
  have J : PySem.W.InstAt s1.heap a _ C (some od) := ⟨ho, rfl, rfl, hod⟩
  exact HandSPX.exc_get I1.kIn J T.ga T.gg T.exC (PySem.W.findObj_own T.hdC hno rfl (by rw [hl, hu])) (handed_of ru) ⟨v, H1, I1.tok _, ru, q⟩
end
end Sq

set_option Elab.async false
set_option linter.all false
set_option maxRecDepth 100000
set_option maxHeartbeats 4000000
/-! isinstance of such errors, whether they have a dict or not. -/
namespace Sq
open PySem PySem.W PySem.Spec PySem.Calls PyProof.Rows
section
variable {prog : Program} {w : World} {A : Around} {E : Value → Shared → Prop} {s : Shared} {K : Frag} {y D : Addr} {oy : Obj} {od : Option Obj}
/-- what the class says of __class__ -/
structure ClsE (K : Frag) (D : Addr) : Prop where
  ga : findIn K (.ref D) "__getattribute__" = some (some (.builtin "BaseException.__getattribute__"))
  gt : findIn K (.ref D) "__getattr__" = some none
  be : subIn K (.ref D) (.type "BaseException") = some true
  hd : hasDictIn K D = true
  ca : findIn K (.ref D) "__class__" = some (some (.builtin "object.__class__"))
  cg : specialIn K (.builtin "object.__class__") "__get__" = some (some (.builtin "getset_descriptor.__get__"))
  ct : takesIn K (.builtin "object.__class__") = some true
  mo : mroIn K D (.type "object") = some true
theorem err_class {Q : Option Value → Shared → Prop} (T : ClsE K D) (X : K.In s.heap) (I : InstAt s.heap y oy D od) (h : Q (some (.ref D)) { s with toks := s.toks + 1 }) : wpAny (model prog w) A (getAttr? (.ref y) "__class__") Q E s := by
  have hcl : (clsIn K D).isSome = true := by
    obtain ⟨cd, hc, _⟩ := any_some T.hd
    rw [hc]
    rfl
  have hf : findObj K D od "__class__" = some (.bind (.builtin "getset_descriptor.__get__") (.builtin "object.__class__")) := by
    cases od with
    | none => exact findObj_dataN hcl T.ca T.cg T.ct
    | some o => exact findObj_data hcl T.ca T.cg T.ct
  obtain ⟨hh, gs, dn, tn, os⟩ := s
  have la := I.type (M := model prog w)
  have lb := looks_findIn (M := model prog w) X T.ga
  have lc := looks_findIn (M := model prog w) X T.gt
  have ld := looks_find (M := model prog w) X I hf
  have sub : Looks (model prog w) hh (isInstance (.ref y) (.type "BaseException")) true := la.andThen (looks_subIn X T.be)
  have n2 : (Value.builtin "BaseException.__getattribute__" == Value.builtin "object.__getattribute__") = false := by decide +kernel
  have n1 : (onTheHeap (Value.ref D) && Value.builtin "BaseException.__getattribute__" == Value.builtin "object.__getattribute__") = false := by rw [n2]; rfl
  have n0 : (false && onTheHeap (Value.builtin "BaseException.__getattribute__")) = false := rfl
  unfold getAttr? getAttrBy? getAttrBy
  refine wpAny_bind (wpAny_mkText (wpAny_bind (wpAny_attempt (wpAny_holding (wpAny_bind (la.at (wpAny_bind (lb.at ?_))))))))
  show wpAny (model prog w) A (if (onTheHeap (Value.ref D) && Value.builtin "BaseException.__getattribute__" == Value.builtin "object.__getattribute__") = true then _ else _) _ _ _
  rw [n1, if_neg Bool.false_ne_true]
  unfold getAttrByItsOwn hookBefore
  refine wpAny_bind (?_ : wpAny (model prog w) A _ _ _ _)
  rw [if_pos (show onTheHeap (Value.ref D) = true from rfl)]
  refine lc.at (wpAny_bind (wpAny_attempt (wpAny_holding ?_)))
  unfold callGetattribute
  rw [n0, if_neg Bool.false_ne_true]
  unfold boundAndCalled
  rw [PySem.F.excAttr_ValueError.ga.bind (.ref y)]
  refine wpAny_bind (wpAny_pure ?_)
  show wpAny (model prog w) A (call (.builtin "BaseException.__getattribute__") [.ref y, .str "__class__" tn]) _ _ _
  refine wpAny_call (codeAny_call_builtin PySem.F.excAttr_ValueError.ga.plain PySem.F.entry_bexc_ga ?_)
  refine @check_slot (model prog w) _ _ ⟨hh, gs, dn, tn + 1, os⟩ "BaseException.__getattribute__" "BaseException" "__getattribute__" (.ref y) [.str "__class__" tn] [] _ (by decide +kernel) (by decide +kernel) sub (PySem.F.args_bexc_ga (.ref y) (.str "__class__" tn)) ?_
  unfold Builtin.«object.__getattribute__»
  refine wpAny_bind (wpAny_of_eq (a := ((Value.ref y : Value), [Value.str "__class__" tn])) (by first | rfl | (simp only [slotArgs]; rfl)) ?_)
  refine wpAny_bind (wpAny_pure (wpAny_bind (la.at (wpAny_bind (ld.at ?_)))))
  show wpAny (model prog w) _ (holding [Value.builtin "object.__class__"] (call (.builtin "getset_descriptor.__get__") [.builtin "object.__class__", .ref y, .ref D]) >>= ret) _ _ _
  refine wpAny_bind (wpAny_holding (wpAny_call (class_get (s := ⟨hh, gs, dn, tn + 1, os⟩) (ox := oy) (od := od) X I T.mo ?_)))
  refine wpAny_pure (?_ : wpAny (model prog w) _ (handedOut (.ref D)) _ _ _)
  rw [handedOut_of (v := .ref D) rfl]
  first
    | exact wpAny_pure (wpAny_pure h)
    | exact wpAny_pure h
    | exact wpAny_pure (wpAny_bind (wpAny_pure (wpAny_pure h)))
theorem cls_obj {h : Heap} (hd : hasDictIn K D = true) (X : K.In h) : ∃ c' d' cd' sl', h.get? D = some ⟨c', d', .cls cd', sl'⟩ := by
  obtain ⟨cd, hc, _⟩ := any_some hd
  unfold clsIn at hc
  split at hc
  · rename_i c' d' cd' sl' ho
    exact ⟨c', d', cd', sl', X _ _ ho⟩
  · cases hc
theorem kit_err (T : ClsE K D) : KitX K (.ref y) (.ref D) (fun h => InstAt h y oy D od) where
  ty := fun _ _ _ I => I.type
  it := fun _ h X _ => by
    obtain ⟨c', d', cd', sl', ho⟩ := cls_obj T.hd X
    intro A' Q' E' s' k q
    unfold isType loadHead
    exact wpAny_bind (wpAny_loadPart (k _ _ ho) (wpAny_pure q))
  ne := fun h tp dd its n sl X htp => by
    obtain ⟨c', d', cd', sl', ho⟩ := cls_obj T.hd X
    refine Bool.eq_false_iff.mpr fun q => ?_
    have e : D = tp := Value.ref.inj (beq_iff_eq.mp q)
    rw [e, htp] at ho
    cases ho
  ca := fun X I k => err_class T X I k
end
end Sq
namespace Sq
open PySem PySem.Spec PyProof.Rows L2
/-- isinstance(e, c), e such an error -/
inductive rIsErr (K : PySem.W.Frag) (xs : List V) (H : Hp) (Q : VK) : Prop
  | mk (a D : Addr) (d : Option Addr) (c : V) (cv : Value) (b : Bool) (ex : xs = [.ref a, c]) (ea : H a = some (exo a D d)) (ed : ∀ dx, d = some dx → ∃ fs, H dx = some (exd dx fs)) (ec : ∀ u, RelV c u → u = cv)
      (ek : PySem.W.kitOne K (.ref D) cv = some b) (T : ClsE K D) (q : Q (.bl b) H) : rIsErr K xs H Q
theorem call_isErr {X : Cx} : CallR X (.builtin "isinstance") (rIsErr X.K) := by
  intro pins s σ H xs us Q I r h
  obtain ⟨a, D, d, c, cv, b, rfl, ha, hd, hcv, e, T, q⟩ := h
  cases r with
  | cons rx rr =>
    cases rr with
    | cons rt rr =>
      cases rr
      cases rx
      have ec := hcv _ rt
      subst ec
      obtain ⟨t1, ho⟩ := exo_at I.hok ha
      cases d with
      | none =>
        have J : PySem.W.InstAt s.heap a _ D none := ⟨ho, rfl, rfl, trivial⟩
        exact PySem.W.kia_one (kit_err T) I.kIn J e (fun z => nomatch z) fun tk => ⟨.bl b, H, I.kept (t' := tk) fun _ _ z => z, rfl, q⟩
      | some dx =>
        obtain ⟨fs, hf⟩ := hd dx rfl
        obtain ⟨mA, ⟨o, es, ep, hod, _⟩, _⟩ := exd_at I.hok hf
        have J : PySem.W.InstAt s.heap a _ D (some o) := ⟨ho, rfl, rfl, hod⟩
        exact PySem.W.kia_one (kit_err T) I.kIn J e (fun z => nomatch z) fun tk => ⟨.bl b, H, I.kept (t' := tk) fun _ _ z => z, rfl, q⟩
end Sq

set_option Elab.async false
set_option linter.all false
set_option maxRecDepth 100000
set_option maxHeartbeats 4000000
/-! A def that is run while no guard stands (so that repr is not under way), the end of such a law, repr of data. -/
namespace Sq
open PySem PySem.Spec PyProof.Rows L2
/-- as FnOk, where no guard stands around -/
def RunG (P : Program) (w : World) (K : PySem.W.Frag) (mg : Str → Option Value) (base : Heap) (CX : CXT) (k : Nat) (f : Addr) (fd : FuncData) (ps : List Str) (sp : Sp) : Prop :=
  ∀ (A : Around) (outer : List Env) (s : Shared) (H : Hp) (args : Args) (us : List Value) (vs : List V) (Q : VK) (E : XK), A.guards = some [] → Room k A → Env0 P w K mg base A outer s H → BindsTo s fd args (ps.zip us) →
    Vals vs us → sp vs H Q E → codeAny (model P w) A (.call (.ref f) args) (CR CX outer P w H s Q E) s
section
variable {P : Program} {w : World} {K : PySem.W.Frag} {mg : Str → Option Value} {base : Heap} {x qual : Str} {params : Arguments} {body : List Stmt} {scope : Scope} {dvs : List V} {kws : List (Str × V)} {f : Addr} {fd : FuncData}
theorem fund_runG {CX : CXT} {N ps : List Str} {k : Nat} {sp : Sp} (F : FunD K x qual params body scope dvs kws f fd) (S : FnScope N ps scope) (hlen : ∀ vs H Q E, sp vs H Q E → vs.length = ps.length)
    (hbody : ∀ (cdv : Value) (A : Around) (outer : List Env) (s : Shared) (H : Hp) (vs : List V) (Q : VK) (E : XK), A.guards = some [] → Room k (A.deeper (envOfC qual scope s.heap.objs.size f cdv)) → sp vs H Q E →
      ∃ t, PSs (cxOf CX P w K mg base N qual scope f cdv A outer s H E) body t ∧ t { nx := fun _ H' => Q .non H', rt := Q } (start N vs) H) : RunG P w K mg base CX (k + 1) f fd ps sp := by
  obtain ⟨oc, od, dV, kV, doc, pm, an, cdv, ct, osl, rfl, lk, hcd, _, _⟩ := F.ex
  intro A outer s H args us vs Q E hg hr e0 hb rv hsp
  have hvl := hlen _ _ _ _ hsp
  have kb : ∀ b o, base.get? b = some o → s.heap.get? b = some o := fun b o e => (e0.bs b o e).1
  have KX : K.In s.heap := PySem.W.Frag.In.keeps e0.mod.kin kb
  have lim : s.heap.NoLimit := e0.mod.nolimit.keeps kb
  have hki : ∀ y ∈ ps.zip us, scope.names.lookup y.1 = some .local ∨ (scope.names.lookup y.1 = some .cell ∧ ((cellsFrom (s.heap.objs.size + 1) scope.names []).lookup y.1).isSome = true) := by
    rintro ⟨n, v⟩ hy
    rcases S.par n (List.of_mem_zip hy).1 with q | q
    · exact .inl q
    · exact .inr ⟨q, PySem.W.cellsFrom_some _ _ _ (.inl q)⟩
  refine codeAny_call_function hr.depth (KX _ _ lk) rfl S.co S.gen rfl (PySem.W.codeRec_of KX hcd) (hb _ _ _ _ ?_)
  refine wpAny_newFunctionEnv_cells S.kind hki fun env he s1 z => ?_
  subst he
  refine ⟨lim.keeps z.toInCall.keep, codeAny_func ?_⟩
  obtain ⟨t, ht, hq⟩ := hbody cdv A outer s H vs Q E hg (hr.deeper _) hsp
  have I : Inv (cxOf CX P w K mg base N qual scope f cdv A outer s H E) [] (start N vs) H s1 := inv_start S hr.hd e0 hvl rv z
  refine wpAny_mono (ht.run [] s1 (start N vs) H _ I hq) (fun fl s' hs => ?_) fun _ _ hs => hs
  have fin : ∀ {σ' : L2.St} {H' : Hp} {v : V} {u : Value}, Inv (cxOf CX P w K mg base N qual scope f cdv A outer s H E) [] σ' H' s' → RelV v u → Q v H' → CE outer P w H s Q u s' := by
    intro σ' H' v u J rv q
    exact ⟨v, H', J.os, J.bare, J.base, J.hok, rv, q⟩
  cases fl with
  | ret u =>
    obtain ⟨v, σ', H', J, rv, q⟩ := hs
    exact fin J rv q
  | next =>
    obtain ⟨σ', H', J, q⟩ := hs
    exact fin (v := V.non) (u := Value.none) J rfl q
  | brk =>
    obtain ⟨_, _, _, z⟩ := hs
    exact False.elim z
  | cont =>
    obtain ⟨_, _, _, z⟩ := hs
    exact False.elim z
end
/-- a law's call, its def told by RunG -/
theorem law_callG {P : Program} {w : World} {K : PySem.W.Frag} {mg mb : Str → Option Value} {CX : CXT} {k : Nat} {fa a : Addr} {fd : FuncData} {x : Str} {sp : Sp} {s₁ : Shared} {vs : List Value} {zs : List Int}
    (KX : K.In s₁.heap) (hG : s₁.heap.Ns mainGlobals mg) (hB : s₁.heap.Ns builtinsNs mb) (hbb : ∀ x : Str, x ≠ "__name__" → mb x = bootBuiltins x) (hlim : s₁.heap.NoLimit) (hgn : s₁.gens = #[])
    (ha : s₁.heap.get? a = some { cls := .type "list", data := .seq vs.toArray }) (hi : IntsAre vs zs) (hl : zs.length ≤ sizeLine) (hr : Room k callerA)
    (F : ∀ base : Heap, K.In base → base.Ns mainGlobals mg → RunG P w K mg base CX k fa fd [x] sp) (hbind : ∀ (s : Shared) (u : Value), BindsTo s fd ⟨[u], []⟩ [(x, u)])
    (hsp : ∀ H : Hp, Only H → SqL K H a (zs.map V.int) → sp [.ref a] H (fun v _ => v = .bl true) fun _ _ _ => False)
    (hCX : ∀ H e s', CX [] H s₁ (fun _ _ _ => False) e s' → False) :
    codeAny (model P w) callerA (.call (.ref fa) ⟨[.ref a], []⟩) (fun r s' => r = .ok (.ret (.bool true)) ∧ OldK s₁.heap s'.heap ∧ s'.os = s₁.os ∧ AllBare s'.gens) s₁ := by
  have rv := vals_ints hi
  have core : ∀ H : Hp, Only H → SqL K H a (zs.map V.int) → HOk P w H s₁.heap → (∀ b, H b ≠ none → b = a) → (H a ≠ none → K.lookup a = none) →
      codeAny (model P w) callerA (.call (.ref fa) { pos := [.ref a], kw := [] }) (fun r s' => r = .ok (.ret (.bool true)) ∧ OldK s₁.heap s'.heap ∧ s'.os = s₁.os ∧ AllBare s'.gens) s₁ := by
    intro H hO hS hok hA hK
    have far : ∀ {b : Addr}, b ≠ a → H b = none := fun {b} n => by
      cases q : H b with
      | none => rfl
      | some u => exact absurd (hA b (by rw [q]; simp)) n
    have bs : ∀ {b : Addr} {o : Obj}, s₁.heap.get? b = some o → H b = none → (hidT s₁.heap H).get? b = some o := fun e n => hidT_get e n
    have nodict : ∀ {b : Addr} {o : Obj} {es : Array DictEntry} {ep : Nat}, s₁.heap.get? b = some o → o.data = .dict es ep → H b = none := by
      intro b o es ep e d
      refine far fun z => ?_
      subst z
      rw [ha] at e
      cases e
      have d' : Data.seq vs.toArray _ = Data.dict es ep := d
      cases d'
    have nsK : ∀ {b : Addr} {m : Str → Option Value}, s₁.heap.Ns b m → (hidT s₁.heap H).Ns b m := by
      rintro b m ⟨o, es, ep, e, d, r⟩
      exact ⟨o, es, ep, bs e (nodict e d), d, r⟩
    have hKb : K.In (hidT s₁.heap H) := by
      intro b o e
      refine bs (KX b o e) ?_
      cases q : H b with
      | none => rfl
      | some u =>
        obtain rfl : b = a := hA b (by rw [q]; simp)
        rw [hK (by rw [q]; simp)] at e
        cases e
    have hM : Mod K mg (hidT s₁.heap H) := ⟨hKb, nsK hG, ⟨mb, nsK hB, hbb⟩, by
      obtain ⟨mc, h1, h2⟩ := hlim
      exact ⟨mc, nsK h1, h2⟩⟩
    have e0 : Env0 P w K mg (hidT s₁.heap H) callerA [] s₁ H := ⟨rfl, hM, fun _ _ e => of_hidT e, Nat.le_of_eq (hidT_size _ _), trivial, fun b z => absurd (show b ∈ ([] : List Addr) from z) (by simp), hok, .of_eq hgn⟩
    refine codeAny_mono (F _ hKb (nsK hG) callerA [] s₁ H ⟨[.ref a], []⟩ [.ref a] [.ref a] _ _ rfl hr e0 (hbind s₁ (.ref a)) (.cons rfl .nil) (hsp H hO hS)) fun r s' h => ?_
    cases r with
    | error e => exact (hCX H e s' h).elim
    | ok fl =>
      cases fl with
      | ret u =>
        obtain ⟨v, H', os, bare, un, hok', r', q⟩ := h
        obtain rfl : v = .bl true := q
        obtain rfl : u = Value.bool true := r'
        refine ⟨rfl, OldK.of_keep fun b o e => ?_, os, bare⟩
        cases q : H b with
        | none => exact un.keep b o e q (fun z => absurd (show b ∈ ([] : List Addr) from z) (by simp)) (by simp)
        | some u =>
          rcases hO b with z | ⟨ob, xs, z⟩
          · rw [q] at z
            cases z
          · have e1 := (hok b _ z).1
            have e2 := (hok' b _ (un.frzs b ob _ z)).1
            rw [e] at e1
            cases e1
            exact e2
      | next => exact False.elim h
      | brk => exact False.elim h
      | cont => exact False.elim h
  have hsz : vs.length = zs.length := hi.length
  cases hk : K.lookup a with
  | some o =>
    have e := KX a o hk
    rw [ha] at e
    cases e
    have hS : SqL K (fun _ => none) a (zs.map V.int) := .inr ⟨_, vs.toArray, _, hk, rfl, rfl, rfl, by rw [List.size_toArray, hsz]; exact hl, by simpa using rv⟩
    exact core (fun _ => none) (fun _ => .inl rfl) hS (fun b u z => nomatch (show (none : Option HO) = some u from z)) (fun b z => absurd rfl z) fun z => absurd rfl z
  | none =>
    refine core (fun b => if b = a then some (.frz { cls := .type "list", data := .seq vs.toArray } (.lst (zs.map V.int))) else none) (fun b => ?_) (.inl (.inr ⟨{ cls := .type "list", data := .seq vs.toArray }, if_pos rfl⟩)) (fun b u z => ?_) (fun b z => ?_) fun _ => hk
    · by_cases hb : b = a
      · exact .inr ⟨_, _, if_pos hb⟩
      · exact .inl (if_neg hb)
    · by_cases hb : b = a
      · cases (if_pos hb).symm.trans z
        subst hb
        exact ⟨ha, by rw [List.length_map]; exact hl, vs, _, rv, ha⟩
      · cases (if_neg hb).symm.trans z
    · by_cases hb : b = a
      · exact hb
      · exact absurd (if_neg hb) z
theorem walk_ofG {l : PySem.W.OpenLaw} {n k : Nat} {q : Program} {loose : List Str} {XP : (Str → Option Value) → Heap → Prop} {YP : World → Heap → Prop} {d : DefRec} {CX : CXT} {x : Str}
    (hn : l.most = some n) (hn2 : n ≤ sizeLine) (hdf : d.params.defaults = []) (hr : Room k callerA)
    (F : ∀ (w : World) (mg : Str → Option Value) (fa : Addr) (h : Heap), YP w h → h.Ns mainGlobals mg → mg d.name = some (.ref fa) → ∃ (K : PySem.W.Frag) (fd : FuncData) (sp : Sp), K.In h ∧ (∀ (s : Shared) (u : Value), BindsTo s fd ⟨[u], []⟩ [(x, u)]) ∧
        (∀ (H : Hp) (a : Addr) (zs : List Int), zs.length ≤ n → (∀ z ∈ zs, Builtin.Int.intBits z ≤ 1048576) → Only H → SqL K H a (zs.map V.int) → sp [.ref a] H (fun v _ => v = .bl true) fun _ _ _ => False) ∧
        ∀ base : Heap, K.In base → base.Ns mainGlobals mg → RunG l.prog w K mg base CX k fa fd [x] sp)
    (hCX : ∀ (H : Hp) (s : Shared) (e : Value) (s' : Shared), CX [] H s (fun _ _ _ => False) e s' → False) :
    PySem.W.WalkO q loose XP YP l.row.toRowW d [] (fun f vs => PySem.call f vs) := by
  refine Att.attach_callB hn hdf fun w s₀ s₁ mg mb fa o pm cd doc a vs zs G Y ho hd hcd hmg hobj hints hlen hbits hgn => ?_
  obtain ⟨K, fd, sp, KX, hb, hsp, hF⟩ := F w mg fa _ Y G.T.g hmg
  refine law_callG KX G.T.g G.T.b G.T.builtins G.T.nolimit hgn hobj hints (Nat.le_trans hlen hn2) hr hF hb ?_ fun H e s' => hCX H s₁ e s'
  exact fun H hO hS => hsp H a zs hlen hbits hO hS
/-! ### repr of data -/
/-- repr(t), t a list or a tuple of data -/
def rReprD (K : PySem.W.Frag) : List V → Hp → VK → Prop := fun xs H Q => ∃ (a : Addr) (d : PyData), xs = [.ref a] ∧ Dp K H (.ref a) d ∧ d.showable = true ∧ d.hasDict = false ∧ d.depth ≤ 50 ∧ d.shown.length ≤ sizeLine ∧ Q (.str d.shown) H
theorem call_reprD {X : Cx} {k : Nat} (hg : X.A.guards = some []) (hr : Room k X.A) : CallR X (.builtin "repr") (rReprD X.K) := by
  intro pins s σ H xs us Q I r h
  obtain ⟨a, d, rfl, hd, h1, h2, h3, h4, q⟩ := h
  cases r with
  | cons rx rr =>
    cases rr
    have hu := hr.units
    obtain rfl := (show _ = Value.ref a from rx)
    obtain ⟨as, rd⟩ := Dp.reads I d (.ref a) (.ref a) hd rfl
    exact repr_of_reads' rd h1 (fun z => by rw [h2] at z; cases z) hg (by omega) (fun _ _ e => e) (fun h' u tk hk => ⟨.str d.shown, H, I.kept (t' := tk) hk, ⟨u, rfl⟩, q⟩) h4
end Sq

set_option Elab.async false
set_option linter.all false
set_option maxRecDepth 100000
set_option maxHeartbeats 4000000
namespace Sq
open PySem PySem.Spec PyProof.Rows L2
def top (i : Nat) : Stmt := PySem.Challenge.pw_slideinto_k00_errors.main.body.getD i (.Pass ⟨0, 0, 0, 0⟩)
abbrev sPen : Stmt := top 16
abbrev sDraw : Stmt := top 17
abbrev sPick : Stmt := top 18
abbrev sBig : Stmt := top 19
abbrev sOne : Stmt := top 20
abbrev sMore : Stmt := top 21
abbrev sKinds : Stmt := top 22
abbrev sLaw : Stmt := top 23
end Sq

set_option Elab.async false
set_option linter.all false
set_option maxRecDepth 100000
set_option maxHeartbeats 4000000
/-! The pen: made, drawn from. -/
namespace Sq
open PySem PySem.Spec PyProof.Rows L2
abbrev FnP (K : PySem.W.Frag) (x : Str) (st : Stmt) (f : Addr) (fd : FuncData) : Prop := FunD K x x (defArgs st) (defBody st) (defScope st) [] [] f fd
abbrev kCells : Key := .inr "cells"
abbrev kAt : Key := .inr "at"
abbrev kDig : Key := .inr "digits"
abbrev kCnt : Key := .inr "count"
abbrev kFold : Key := .inr "fold"
/-- the pen's pairs -/
def penK (c : Addr) (i dg n fo : Int) : List (Key × V) := [(kCells, .ref c), (kAt, .int i), (kDig, .int dg), (kCnt, .int n), (kFold, .int fo)]
theorem pen_cells {c : Addr} {i dg n fo : Int} : valV (penK c i dg n fo) kCells = some (.ref c) := by kernel_rfl
theorem pen_at {c : Addr} {i dg n fo : Int} : valV (penK c i dg n fo) kAt = some (.int i) := by kernel_rfl
theorem pen_dig {c : Addr} {i dg n fo : Int} : valV (penK c i dg n fo) kDig = some (.int dg) := by kernel_rfl
theorem pen_cnt {c : Addr} {i dg n fo : Int} : valV (penK c i dg n fo) kCnt = some (.int n) := by kernel_rfl
theorem pen_fold {c : Addr} {i dg n fo : Int} : valV (penK c i dg n fo) kFold = some (.int fo) := by kernel_rfl
theorem put_at {c : Addr} {i dg n fo z : Int} : putK (penK c i dg n fo) kAt (.int z) = penK c z dg n fo := by kernel_rfl
theorem put_dig {c : Addr} {i dg n fo z : Int} : putK (penK c i dg n fo) kDig (.int z) = penK c i z n fo := by kernel_rfl
theorem put_cnt {c : Addr} {i dg n fo z : Int} : putK (penK c i dg n fo) kCnt (.int z) = penK c i dg z fo := by kernel_rfl
theorem put_fold {c : Addr} {i dg n fo z : Int} : putK (penK c i dg n fo) kFold (.int z) = penK c i dg n z := by kernel_rfl
theorem pen_disp {c : Addr} {fo : Int} : mergeK [] (penK c 0 0 0 fo) = penK c 0 0 0 fo := by kernel_rfl
theorem same_new {H : Hp} {p : Addr} {o : HO} (h : H p = none) : Same H (upd H p o) := fun b u e => by
  rw [upd_ne (ne_of_none e h)]
  exact e
/-- what is tracked but p stays -/
theorem same_but {H H' : Hp} {p : Addr} (h : H p = none) (k : ∀ b, b ≠ p → H' b = H b) : Same H H' := fun b u e => by
  rw [k b (ne_of_none e h)]
  exact e
theorem pen_len {c : Addr} {i dg n fo : Int} : (penK c i dg n fo).length < sizeLine := Nat.lt_of_le_of_lt (Nat.le_refl 5) (by rw [sizeLine_eq]; decide)
theorem dget_of {H : Hp} {p : Addr} {kvs : List (Key × V)} {k : Key} {v : V} (e : H p = some (.dK kvs)) (hv : valV kvs k = some v) : DGet H p (kV k) (some v) := hv ▸ DGet.k (k := k) e
theorem dput_of {H : Hp} {p c : Addr} {i dg n fo : Int} {kvs' : List (Key × V)} {k : Key} {v : V} (e : H p = some (.dK (penK c i dg n fo))) (hk : putK (penK c i dg n fo) k v = kvs') : DPut H p (kV k) v (upd H p (.dK kvs')) := hk ▸ DPut.k e pen_len
/-- a pen stands at p, n numbers were drawn -/
structure PenAt (H : Hp) (p : Addr) (n : Nat) : Prop where
  ex : ∃ (c : Addr) (zs : List Int) (i : Nat) (dg fo : Int), H p = some (.dK (penK c i dg n fo)) ∧ H c = some (.lst (zs.map V.int)) ∧ i ≤ zs.length ∧ zs.length ≤ 63 ∧ 0 ≤ dg ∧ 0 ≤ fo ∧ fo < 2147483648
/-- _law_pen(script): a new pen -/
def spPen (K : PySem.W.Frag) : Sp := fun vs H Q _ => ∃ (a : Addr) (zs : List Int), vs = [.ref a] ∧ SqL K H a (zs.map V.int) ∧ zs.length ≤ 63 ∧ ∀ (p : Addr) (H' : Hp), PenAt H' p 0 → Same H H' → H p = none → Q (.ref p) H'
/-- _law_draw(pen, many): a number below many; the pen alone changes -/
def spDraw : Sp := fun vs H Q _ => ∃ (p : Addr) (n : Nat) (m : Int), vs = [.ref p, .int m] ∧ PenAt H p n ∧ 1 ≤ m ∧ m < 1073741824 ∧ n < 1000000 ∧
  ∀ (r : Int) (H' : Hp), 0 ≤ r → r < m → PenAt H' p (n + 1) → (∀ b, b ≠ p → H' b = H b) → Q (.int r) H'
section
variable {P : Program} {w : World} {K : PySem.W.Frag} {mg : Str → Option Value} {base : Heap}
theorem scP : FnScope ["_law_script", "_law_fold", "_law_cell"] ["_law_script"] (defScope sPen) := ⟨rfl, rfl, rfl, by decide +kernel, rfl, by decide +kernel, by decide +kernel⟩
theorem ok_pen {f : Addr} {fd : FuncData} (F : FnP K "_law_pen" sPen f fd) (gI : mg "int" = none) (gL : mg "list" = none) : FnOk P w K mg base CX0 1 f fd ["_law_script"] (spPen K) := by
  refine F.ok scP (fun vs H Q E h => ?_) (fun cdv A outer s H vs Q E hr h => ?_)
  · obtain ⟨a, zs, rfl, _⟩ := h
    rfl
  · obtain ⟨a, zs, rfl, hS, hl, k⟩ := h
    refine ⟨_, PSs.nox (pss_cons (ps_set (i := 1) scP.nd rfl (.inl rfl) pe_int)
      (pss_cons (ps_for PassesOwn.never rfl (pi_list (pv 0)) (pg_name (i := 2) scP.nd rfl (.inl rfl))
        (pss_one (ps_set (i := 1) scP.nd rfl (.inl rfl) (pe_op op_mod (pe_callTy call_int1 (by rfl) gI PyProof.Rows.boot_int (pa_cons (pe_op op_add (pe_op op_mul (pv 1) pe_int) (pv 2)) pa_nil)) pe_int))))
      (pss_one (ps_ret (pe_disp (pps_cons pe_str (pe_callTy call_list_of (by rfl) gL PyProof.Rows.boot_list (pa_cons (pv 0) pa_nil)) (pps_cons pe_str pe_int (pps_cons pe_str pe_int (pps_cons pe_str pe_int (pps_cons pe_str (pv 1) pps_nil))))) rfl rfl (by simp) (by decide)))))), ?_⟩
    -- the loop
    refine ⟨_, rfl, a, rfl, ⟨_, hS⟩, for_list (K := K) (a := a) (xs := zs.map V.int) (fun i σ H2 => ∃ (fo : Int) (v : Option V), σ = [some (.ref a), some (.int fo), v] ∧ H2 = H ∧ 0 ≤ fo ∧ fo < 1000000007)
      ⟨0, none, rfl, rfl, by decide, by decide⟩ (fun i σ H2 _ ⟨_, _, _, e, _⟩ => by rw [e]; exact hS) ?_ ?_⟩
    · rintro i y σ H2 hi ⟨fo, v, rfl, rfl, h0, h1⟩
      obtain ⟨z, rfl⟩ : ∃ z, y = V.int z := by
        rw [List.getElem?_map] at hi
        cases e : zs[i]? with
        | none =>
          rw [e] at hi
          cases hi
        | some z =>
          rw [e] at hi
          exact ⟨z, (Option.some.inj hi).symm⟩
      refine ⟨_, rfl, _, _, rfl, rfl, .inl ⟨by omega, by omega⟩, _, rfl, _, _, rfl, rfl, .inl ⟨_, rfl, ?_⟩⟩
      refine ⟨_, _, rfl, rfl, (by show (0 : Int) < 1000000007; decide), _, _, rfl, rfl, ?_, ?_⟩
      · exact Int.emod_nonneg _ (by decide)
      · exact Int.emod_lt_of_pos _ (by decide)
    · rintro σ H2 ⟨fo, v, rfl, rfl, h0, h1⟩
      intro p hp
      refine ⟨_, rfl, a, zs.map V.int, rfl, .inl ?_, fun c hc => ?_⟩
      · exact (same_new hp).seq hS
      · have np : c ≠ p := fun z => by
          rw [z, upd_same] at hc
          cases hc
        have nc : H2 c = none := by
          rw [upd_ne np] at hc
          exact hc
        refine ⟨_, rfl, ?_, [(kCells, .ref c), (kAt, .int 0), (kDig, .int 0), (kCnt, .int 0), (kFold, .int fo)], rfl, by simp, ?_⟩
        · rw [upd_ne (Ne.symm np), upd_same]
        · refine k p _ ⟨⟨c, zs, 0, 0, fo, ?_, ?_, Nat.zero_le _, hl, by decide, h0, by omega⟩⟩ ?_ hp
          · rw [upd_same]
            exact congrArg (fun z => some (HO.dK z)) pen_disp
          · rw [upd_ne np, upd_same]
          · intro b u e
            rw [upd_ne (ne_of_none e hp), upd_ne (ne_of_none e nc), upd_ne (ne_of_none e hp)]
            exact e
theorem scD : FnScope ["_law_pen_here", "_law_many", "_law_cell", "_law_digit", "_law_blend"] ["_law_pen_here", "_law_many"] (defScope sDraw) := ⟨rfl, rfl, rfl, by decide +kernel, rfl, by decide +kernel, by decide +kernel⟩
theorem ok_draw {f : Addr} {fd : FuncData} (F : FnP K "_law_draw" sDraw f fd) (gI : mg "int" = none) (gL : mg "len" = none) : FnOk P w K mg base CX0 1 f fd ["_law_pen_here", "_law_many"] spDraw := by
  refine F.ok scD (fun vs H Q E h => ?_) (fun cdv A outer s H vs Q E hr h => ?_)
  · obtain ⟨p, n, m, rfl, _⟩ := h
    rfl
  · obtain ⟨p, n, m, rfl, ⟨c, zs, i, dg, fo, hp, hc, hi, hl, hd, f0, f1⟩, m1, m2, hn, k⟩ := h
    have hu := hu_of hr
    have cp : c ≠ p := ne_of hc hp (by intro z; cases z)
    -- what stands behind the first if
    obtain ⟨tt, htt, key⟩ : ∃ t, PSs (cxOf CX0 P w K mg base ["_law_pen_here", "_law_many", "_law_cell", "_law_digit", "_law_blend"] "_law_draw" (defScope sDraw) f cdv A outer s H E).nox ((defBody sDraw).drop 2) t ∧
        ∀ (D : Ends) (v : Option V) (i' : Nat) (dg' fo' : Int) (H1 : Hp), H1 p = some (.dK (penK c i' dg' ((n : Int) + 1) fo')) → H1 c = some (.lst (zs.map V.int)) → (∀ b, b ≠ p → H1 b = H b) → i' ≤ zs.length → 0 ≤ dg' → 0 ≤ fo' → fo' < 2147483648 →
          (∀ (r : Int) (H' : Hp), 0 ≤ r → r < m → PenAt H' p (n + 1) → (∀ b, b ≠ p → H' b = H b) → D.rt (.int r) H') → t D [some (.ref p), some (.int m), v, none, none] H1 := by
      refine ⟨_, pss_cons (ps_if (pt_cmpR op_gt (pe_dget hu (pv 0) pe_str (fun _ _ => rfl)) pe_int (nomark _))
        (pss_cons (ps_set (i := 3) scD.nd rfl (.inl rfl) (pe_op op_mod (pe_callTy call_int1 (by rfl) gI PyProof.Rows.boot_int (pa_cons (pe_dget hu (pv 0) pe_str (fun _ _ => rfl)) pa_nil)) (pv 1)))
        (pss_cons (ps_dput hu (pv 0) pe_str (pe_op op_fdiv (pe_dget hu (pv 0) pe_str (fun _ _ => rfl)) (pv 1)) rfl)
        (pss_one (ps_ret (pv 3)))))
        pss_nil)
        (pss_cons (ps_set (i := 4) scD.nd rfl (.inl rfl) (pe_op op_add (pe_op op_add (pe_dget hu (pv 0) pe_str (fun _ _ => rfl)) (pe_op op_mul (pe_dget hu (pv 0) pe_str (fun _ _ => rfl)) pe_int)) pe_int))
        (pss_one (ps_ret (pe_op op_mod (pe_op op_fdiv (pe_callTy call_int1 (by rfl) gI PyProof.Rows.boot_int (pa_cons (pe_op op_mod (pe_op op_pow (pv 4) pe_int) pe_int) pa_nil)) pe_int) (pv 1))))), ?_⟩
      intro D v i' dg' fo' H1 e1 e2 e3 h1 h2 h3 h4 kD
      refine ⟨_, rfl, p, _, rfl, dget_of e1 pen_dig, _, _, rfl, rfl, _, rfl, ?_⟩
      refine ite2 (fun hd => ?_) (fun hd => ?_)
      · refine ⟨_, rfl, p, _, rfl, dget_of e1 pen_dig, .inl ⟨_, rfl, _, rfl, _, _, rfl, rfl, (by show 0 < m; omega), ?_⟩⟩
        refine ⟨_, rfl, p, _, rfl, dget_of e1 pen_dig, _, rfl, _, _, rfl, rfl, ⟨by omega, m2⟩, _, rfl, p, _, rfl, dput_of e1 put_dig, ?_⟩
        refine ⟨_, rfl, ?_⟩
        refine kD _ _ (Int.emod_nonneg _ (by omega)) (Int.emod_lt_of_pos _ (by omega)) ⟨⟨c, zs, i', dg' / m, fo', ?_, ?_, h1, hl, Int.ediv_nonneg h2 (by omega), h3, h4⟩⟩ fun b hb => ?_
        · rw [upd_same]
          rfl
        · rw [upd_ne cp]
          exact e2
        · rw [upd_ne hb]
          exact e3 b hb
      · refine ⟨_, rfl, p, _, rfl, dget_of e1 pen_fold, _, rfl, p, _, rfl, dget_of e1 pen_cnt, _, _, rfl, rfl, .inr ⟨by decide, by decide⟩, _, _, rfl, rfl, _, _, rfl, rfl, ?_⟩
        refine ⟨_, rfl, _, _, rfl, rfl, ⟨by decide, by decide, ?_⟩, _, _, rfl, rfl, (by show (0 : Int) < 2305843009213693951; decide), .inl ⟨_, rfl, _, _, rfl, rfl, ⟨by decide, by decide⟩, _, rfl, _, _, rfl, rfl, (by show 0 < m; omega), ?_⟩⟩
        · show (fo' + ((n : Int) + 1) * 7907 + 37).natAbs < 18446744073709551616
          omega
        · exact kD _ _ (Int.emod_nonneg _ (by omega)) (Int.emod_lt_of_pos _ (by omega)) ⟨⟨c, zs, i', dg', fo', e1, e2, h1, hl, h2, h3, h4⟩⟩ e3
    refine ⟨_, PSs.nox (pss_cons (ps_dput hu (pv 0) pe_str (pe_op op_add (pe_dget hu (pv 0) pe_str (fun _ _ => rfl)) pe_int) rfl)
      (pss_cons (ps_if (PW.pt (pw_and (pt_cmpR op_eq (pe_dget hu (pv 0) pe_str (fun _ _ => rfl)) pe_int (nomark _)) (pw_and1 (pt_cmpR op_lt (pe_dget hu (pv 0) pe_str (fun _ _ => rfl)) (pe_callB call_len_seq (by rfl) gL PySem.boot_len (pa_cons (pe_dget hu (pv 0) pe_str (fun _ _ => rfl)) pa_nil)) (nomark _)))))
        (pss_cons (ps_set (i := 2) scD.nd rfl (.inl rfl) (pe_ix ix_list (pe_dget hu (pv 0) pe_str (fun _ _ => rfl)) (pe_dget hu (pv 0) pe_str (fun _ _ => rfl)) (fun _ _ => rfl)))
        (pss_cons (ps_dput hu (pv 0) pe_str (pe_op op_add (pe_dget hu (pv 0) pe_str (fun _ _ => rfl)) pe_int) rfl)
        (pss_one (ps_if (pt_cmpR op_ge (pv 2) (pe_op op_pow pe_int pe_int) (nomark _))
          (pss_one (ps_dput hu (pv 0) pe_str (pe_op op_sub (pv 2) (pe_op op_pow pe_int pe_int)) rfl))
          (pss_one (ps_dput hu (pv 0) pe_str (pe_op op_mod (pe_callTy call_int1 (by rfl) gI PyProof.Rows.boot_int (pa_cons (pe_op op_add (pe_op op_mul (pe_dget hu (pv 0) pe_str (fun _ _ => rfl)) pe_int) (pv 2)) pa_nil)) pe_int) rfl))))))
        pss_nil)
      htt)), ?_⟩
    refine ⟨_, rfl, p, _, rfl, dget_of hp pen_cnt, _, _, rfl, rfl, _, rfl, p, _, rfl, dput_of hp put_cnt, ?_⟩
    have hc1 : ∀ o, upd H p o c = some (.lst (zs.map V.int)) := fun o => by
      rw [upd_ne cp]
      exact hc
    have far : ∀ (o : HO) (b : Addr), b ≠ p → upd H p o b = H b := fun o b hb => upd_ne hb
    refine ⟨_, rfl, p, _, rfl, dget_of upd_same pen_dig, rfl, _, rfl, ?_⟩
    refine ite2 (fun _ => ?_) (fun _ => ?_)
    · refine ⟨_, rfl, p, _, rfl, dget_of upd_same pen_at, _, rfl, p, _, rfl, dget_of upd_same pen_cells, c, _, rfl, .inl (SqL.of (hc1 _)), _, _, rfl, rfl, _, rfl, ?_⟩
      refine ite2 (fun hlt => ?_) (fun _ => ?_)
      · have hlt' : (i : Int) < ((zs.map V.int).length : Int) := of_decide_eq_true hlt
        rw [List.length_map] at hlt'
        have hiz : i < zs.length := by omega
        have hat : atI (zs.map V.int) (i : Int) = some (.int zs[i]) := atI_nat (by rw [List.getElem?_map, List.getElem?_eq_getElem hiz]; rfl)
        refine ⟨_, rfl, p, _, rfl, dget_of upd_same pen_cells, _, rfl, p, _, rfl, dget_of upd_same pen_at, c, _, _, _, rfl, rfl, SqL.of (hc1 _), hat, ?_⟩
        refine ⟨_, rfl, p, _, rfl, dget_of upd_same pen_at, _, _, rfl, rfl, _, rfl, p, _, rfl, dput_of upd_same put_at, ?_⟩
        rw [upd_upd]
        refine ⟨_, rfl, _, _, rfl, rfl, ⟨by decide, by decide, by decide⟩, _, _, rfl, rfl, _, rfl, ?_⟩
        refine ite2 (fun hbig => ?_) (fun _ => ?_)
        · have hbig' : (10 : Int) ^ 18 ≤ zs[i] := of_decide_eq_true hbig
          refine ⟨_, rfl, _, _, rfl, rfl, ⟨by decide, by decide, by decide⟩, _, _, rfl, rfl, _, rfl, p, _, rfl, dput_of upd_same put_dig, ?_⟩
          rw [upd_upd]
          have e10 : (10 : Int) ^ 18 = 1000000000000000000 := by decide
          refine key _ _ (i + 1) _ fo _ upd_same (hc1 _) (far _) (by omega) ?_ f0 f1 k
          show 0 ≤ zs[i] - (10 : Int) ^ 18
          omega
        · refine ⟨_, rfl, p, _, rfl, dget_of upd_same pen_fold, _, _, rfl, rfl, .inr ⟨by decide, by decide⟩, _, rfl, _, _, rfl, rfl, .inl ⟨_, rfl, _, _, rfl, rfl, (by show (0 : Int) < 2147483587; decide), _, rfl, p, _, rfl, dput_of upd_same put_fold, ?_⟩⟩
          rw [upd_upd]
          refine key _ _ (i + 1) dg _ _ upd_same (hc1 _) (far _) (by omega) hd ?_ ?_ k
          · exact Int.emod_nonneg _ (by decide)
          · exact Int.lt_trans (Int.emod_lt_of_pos _ (by decide)) (by decide)
      · exact key _ _ i dg fo _ upd_same (hc1 _) (far _) hi hd f0 f1 k
    · exact key _ _ i dg fo _ upd_same (hc1 _) (far _) hi hd f0 f1 k
end
end Sq

set_option Elab.async false
set_option linter.all false
set_option maxRecDepth 100000
set_option maxHeartbeats 4000000
/-! The last forty figures of a number, read again. -/
namespace Sq
open PySem PySem.Spec PyProof.Rows L2
theorem td_len : ∀ (k m : Nat), m < 10 ^ (k + 1) → (Nat.toDigits 10 m).length ≤ k + 1
  | 0, m, h => by
    rw [Nat.toDigits_of_lt_base (by simpa using h)]
    exact Nat.le_refl _
  | k + 1, m, h => by
    by_cases hm : m < 10
    · rw [Nat.toDigits_of_lt_base hm]
      exact Nat.succ_le_succ (Nat.zero_le _)
    · have h10 : m % 10 < 10 := Nat.mod_lt _ (by decide)
      have hd : m / 10 < 10 ^ (k + 1) := by
        rw [Nat.pow_succ] at h
        exact Nat.div_lt_of_lt_mul (by omega)
      have t : Nat.toDigits 10 (m / 10) ++ Nat.toDigits 10 (m % 10) = Nat.toDigits 10 (10 * (m / 10) + m % 10) := Nat.toDigits_append_toDigits (by decide) (by omega) h10
      rw [Nat.div_add_mod] at t
      rw [← t, List.length_append, Nat.toDigits_of_lt_base h10]
      have := td_len k (m / 10) hd
      show _ + 1 ≤ _
      omega
theorem fold_lt : ∀ (cs : List Nat) (acc : Nat), PySem.NumText.AllDigits cs → cs.foldl (fun a c => a * 10 + (c - 48)) acc < (acc + 1) * 10 ^ cs.length
  | [], acc, _ => by simp
  | c :: cs, acc, h => by
    have hc := h c List.mem_cons_self
    have ih := fold_lt cs (acc * 10 + (c - 48)) fun d hd => h d (List.mem_cons_of_mem _ hd)
    show cs.foldl _ (acc * 10 + (c - 48)) < (acc + 1) * 10 ^ (cs.length + 1)
    refine Nat.lt_of_lt_of_le ih ?_
    rw [Nat.pow_succ, Nat.mul_comm (10 ^ cs.length) 10, ← Nat.mul_assoc]
    exact Nat.mul_le_mul_right _ (by omega)
theorem num_text (m : Nat) : PySem.NumText.AllDigits (PySem.Str.ofString (toString ((m : Nat) : Int))).cps.toList := by
  intro c hc
  rw [PySem.W.KIN.signs_num] at hc
  obtain ⟨ch, hch, e⟩ := List.mem_map.mp hc
  rw [← e]
  exact PyProof.Rows.digit_range (Nat.isDigit_of_mem_toDigits (by decide) (by decide) hch)
theorem num_len (m : Nat) : 1 ≤ (PySem.Str.ofString (toString ((m : Nat) : Int))).cps.toList.length := by
  rw [PySem.W.KIN.signs_num, List.length_map]
  exact PySem.toDigits_len_ge 10 m
theorem num_le (m k : Nat) (h : m < 10 ^ (k + 1)) : (PySem.Str.ofString (toString ((m : Nat) : Int))).length ≤ k + 1 := by
  show (PySem.Str.ofString (toString ((m : Nat) : Int))).cps.size ≤ k + 1
  rw [← Array.length_toList, PySem.W.KIN.signs_num, List.length_map]
  exact td_len k m h
/-- str(m)[-40:] is read as a number of at most forty figures -/
theorem last_forty (m : Nat) : ∃ v : Nat, PySem.intText? (cutS (PySem.Str.ofString (toString ((m : Nat) : Int))) (some (-40)) none) = some (v : Int) ∧ v < 10 ^ 40 ∧ (cutS (PySem.Str.ofString (toString ((m : Nat) : Int))) (some (-40)) none).length ≤ 640 := by
  have hd := num_text m
  have h1 := num_len m
  generalize hz : PySem.Str.ofString (toString ((m : Nat) : Int)) = z at hd h1
  have en : z.length = z.cps.toList.length := Array.length_toList.symm
  have ek : HT.sIx z.length 0 (some (-40)) = z.length - 40 := by
    show (if (-40 : Int) < 0 then ((-40 : Int) + (z.length : Int)).toNat else min (-40 : Int).toNat z.length) = z.length - 40
    rw [if_pos (by decide)]
    omega
  have el : (cutS z (some (-40)) none).cps.toList = (z.cps.toList.drop (z.length - 40)).take (z.length - (z.length - 40)) := by
    unfold cutS
    rw [ek, HT.sIx_none]
  have ec : PySem.NumText.AllDigits (cutS z (some (-40)) none).cps.toList := by
    intro c hc
    rw [el] at hc
    exact hd c (List.mem_of_mem_drop (List.mem_of_mem_take hc))
  have l40 : (cutS z (some (-40)) none).cps.toList.length ≤ 40 := by
    rw [el, List.length_take, List.length_drop]
    omega
  have lne : (cutS z (some (-40)) none).cps.toList ≠ [] := by
    intro e
    have y := congrArg List.length e
    rw [el, List.length_take, List.length_drop] at y
    have y2 : min (z.length - (z.length - 40)) (z.cps.toList.length - (z.length - 40)) = 0 := y
    omega
  have hl : (cutS z (some (-40)) none).length ≤ 40 := by
    have y : (cutS z (some (-40)) none).length = (cutS z (some (-40)) none).cps.toList.length := Array.length_toList.symm
    rw [y]
    exact l40
  refine ⟨PySem.NumText.digitsVal (cutS z (some (-40)) none).cps.toList, PySem.intText_digits ec lne (by omega), ?_, by omega⟩
  have y := fold_lt _ 0 ec
  refine Nat.lt_of_lt_of_le y ?_
  rw [Nat.zero_add, Nat.one_mul]
  exact Nat.pow_le_pow_right (by decide) l40
end Sq

set_option Elab.async false
set_option linter.all false
set_option maxRecDepth 100000
set_option maxHeartbeats 4000000
/-! A pick of a list or a tuple; a big number. -/
namespace Sq
open PySem PySem.Spec PyProof.Rows L2
theorem rd_but {H H' : Hp} {p l : Addr} {kvs : List (Key × V)} {u : HO} (hp : H p = some (.dK kvs)) (k : ∀ b, b ≠ p → H' b = H b) (hu : ∀ kvs, u ≠ .dK kvs) (h : Rd H l u) : Rd H' l u := by
  rcases h with h | ⟨o, h⟩
  · exact .inl ((k l (ne_of h hp (hu _))).trans h)
  · exact .inr ⟨o, (k l (ne_of h hp (by intro z; cases z))).trans h⟩
theorem sqL_but {K : PySem.W.Frag} {H H' : Hp} {p l : Addr} {kvs : List (Key × V)} {xs : List V} (hp : H p = some (.dK kvs)) (k : ∀ b, b ≠ p → H' b = H b) (h : SqL K H l xs) : SqL K H' l xs := by
  rcases h with h | h
  · exact .inl (rd_but hp k (fun _ z => by cases z) h)
  · exact .inr h
theorem sqT_but {K : PySem.W.Frag} {H H' : Hp} {p l : Addr} {kvs : List (Key × V)} {xs : List V} (hp : H p = some (.dK kvs)) (k : ∀ b, b ≠ p → H' b = H b) (h : SqT K H l xs) : SqT K H' l xs := by
  rcases h with h | h
  · exact .inl (rd_but hp k (fun _ z => by cases z) h)
  · exact .inr h
theorem PenAt.same {H H' : Hp} {p : Addr} {n : Nat} (h : PenAt H p n) (k : Same H H') : PenAt H' p n := by
  obtain ⟨c, zs, i, dg, fo, e1, e2, r⟩ := h.ex
  exact ⟨⟨c, zs, i, dg, fo, k _ _ e1, k _ _ e2, r⟩⟩
/-- _law_pick(pen, some): one of them; the pen alone changes -/
def spPick (K : PySem.W.Frag) : Sp := fun vs H Q _ => ∃ (p l : Addr) (n : Nat) (xs : List V), vs = [.ref p, .ref l] ∧ PenAt H p n ∧ n < 1000000 ∧ (SqL K H l xs ∨ SqT K H l xs) ∧ 1 ≤ xs.length ∧ xs.length < 1073741824 ∧
  ∀ (i : Nat) (x : V) (H' : Hp), xs[i]? = some x → PenAt H' p (n + 1) → (∀ b, b ≠ p → H' b = H b) → Q x H'
/-- _law_big(pen, 40): a number of at most forty figures; of what was there the pen alone changes -/
def spBig : Sp := fun vs H Q _ => ∃ (p : Addr) (n : Nat), vs = [.ref p, .int 40] ∧ PenAt H p n ∧ n < 900000 ∧
  ∀ (r : Nat) (n' : Nat) (H' : Hp), r < 10 ^ 40 → n' ≤ n + 15 → PenAt H' p n' → (∀ b o, b ≠ p → H b = some o → H' b = some o) → Q (.int (r : Int)) H'
section
variable {P : Program} {w : World} {K : PySem.W.Frag} {mg : Str → Option Value} {base : Heap}
theorem scK : FnScope ["_law_pen_here", "_law_some"] ["_law_pen_here", "_law_some"] (defScope sPick) := ⟨rfl, rfl, rfl, by decide +kernel, rfl, by decide +kernel, by decide +kernel⟩
theorem ok_pick {f fD : Addr} {fd fdD : FuncData} (F : FnP K "_law_pick" sPick f fd) (FD : FnP K "_law_draw" sDraw fD fdD) (gD : mg "_law_draw" = some (.ref fD)) (gI : mg "int" = none) (gL : mg "len" = none) : FnOk P w K mg base CX0 2 f fd ["_law_pen_here", "_law_some"] (spPick K) := by
  have GD : FnOk P w K mg base CX0 1 fD fdD ["_law_pen_here", "_law_many"] spDraw := ok_draw FD gI gL
  have bD : Binds K fdD ["_law_pen_here", "_law_many"] [] := FD.bindsN fun _ _ _ _ _ _ us hl => match us, hl with | [_, _], _ => rfl
  refine F.ok scK (fun vs H Q E h => ?_) (fun cdv A outer s H vs Q E hr h => ?_)
  · obtain ⟨p, l, n, xs, rfl, _⟩ := h
    rfl
  · obtain ⟨p, l, n, xs, rfl, hp, hn, hS, h1, h2, k⟩ := h
    obtain ⟨c, zs, i0, dg, fo, ep, _⟩ := hp.ex
    refine ⟨_, PSs.nox (pss_one (ps_ret (pe_ix (IxR.or ix_list ix_tup) (pv 1) (pe_call GD hr rfl gD FD.kp bD .nil pass0 (pa_cons (pv 0) (pa_cons (pe_callB call_len_seq (by rfl) gL PySem.boot_len (pa_cons (pv 1) pa_nil)) pa_nil))) (fun _ _ => rfl)))), ?_⟩
    refine ⟨_, rfl, _, rfl, _, rfl, l, xs, rfl, hS, p, n, (xs.length : Int), rfl, hp, by omega, by omega, hn, fun r H' r0 r1 hp' hb => ?_⟩
    obtain ⟨j, rfl⟩ := Int.eq_ofNat_of_zero_le r0
    have hj : j < xs.length := by omega
    have hat : atI xs (j : Int) = some xs[j] := atI_nat (List.getElem?_eq_getElem hj)
    rcases hS with hS | hS
    · exact .inl ⟨l, xs, _, _, rfl, rfl, sqL_but ep hb hS, hat, k j _ H' (List.getElem?_eq_getElem hj) hp' hb⟩
    · exact .inr ⟨l, xs, _, _, rfl, rfl, sqT_but ep hb hS, hat, k j _ H' (List.getElem?_eq_getElem hj) hp' hb⟩
theorem scB : FnScope ["_law_pen_here", "_law_figures", "_law_total", "_law_k"] ["_law_pen_here", "_law_figures"] (defScope sBig) := ⟨rfl, rfl, rfl, by decide +kernel, rfl, by decide +kernel, by decide +kernel⟩
theorem ok_big {f fD fP : Addr} {fd fdD fdP : FuncData} (F : FnP K "_law_big" sBig f fd) (FD : FnP K "_law_draw" sDraw fD fdD) (FK : FnP K "_law_pick" sPick fP fdP) (gD : mg "_law_draw" = some (.ref fD)) (gP : mg "_law_pick" = some (.ref fP))
    (gI : mg "int" = none) (gL : mg "len" = none) (gS : mg "str" = none) (gR : mg "range" = none) : FnOk P w K mg base CX0 3 f fd ["_law_pen_here", "_law_figures"] spBig := by
  have GD : FnOk P w K mg base CX0 1 fD fdD ["_law_pen_here", "_law_many"] spDraw := ok_draw FD gI gL
  have bD : Binds K fdD ["_law_pen_here", "_law_many"] [] := FD.bindsN fun _ _ _ _ _ _ us hl => match us, hl with | [_, _], _ => rfl
  have GP : FnOk P w K mg base CX0 2 fP fdP ["_law_pen_here", "_law_some"] (spPick K) := ok_pick FK FD gD gI gL
  have bP : Binds K fdP ["_law_pen_here", "_law_some"] [] := FK.bindsN fun _ _ _ _ _ _ us hl => match us, hl with | [_, _], _ => rfl
  refine F.ok scB (fun vs H Q E h => ?_) (fun cdv A outer s H vs Q E hr h => ?_)
  · obtain ⟨p, n, rfl, _⟩ := h
    rfl
  · obtain ⟨p, n, rfl, hp, hn, k⟩ := h
    have hr1 : Room 1 _ := hr.mono (by decide)
    refine ⟨_, PSs.nox (pss_cons (ps_set (i := 2) scB.nd rfl (.inl rfl) pe_int)
      (pss_cons (ps_for PassesOwn.never rfl (pi_range1 (by rfl) gR (pa_cons (pe_call GP hr rfl gP FK.kp bP .nil pass0 (pa_cons (pv 0) (pa_cons (pe_lst (pa_cons pe_int (pa_cons pe_int (pa_cons pe_int (pa_cons pe_int (pa_cons pe_int (pa_cons (pe_op op_fdiv (pe_op op_add (pv 1) pe_int) pe_int) pa_nil))))))) pa_nil))) pa_nil)) (pg_name (i := 3) scB.nd rfl (.inl rfl))
        (pss_one (ps_set (i := 2) scB.nd rfl (.inl rfl) (pe_op op_add (pe_op op_mul (pv 2) pe_int) (pe_call GD hr1 rfl gD FD.kp bD .nil pass0 (pa_cons (pv 0) (pa_cons pe_int pa_nil)))))))
      (pss_one (ps_ret (pe_callTy call_int_str (by rfl) gI PyProof.Rows.boot_int (pa_cons (pe_slice sl_str (pe_callTy call_str_int (by rfl) gS PyProof.Rows.boot_str (pa_cons (pv 2) pa_nil)) (po_some (pe_un un_neg (pv 1))) po_none) pa_nil)))))), ?_⟩
    refine ⟨_, rfl, _, rfl, _, _, rfl, rfl, _, _, rfl, rfl, ⟨by decide, by decide⟩, (by show 6 ≤ sizeLine; rw [sizeLine_eq]; decide), fun l hl => ?_⟩
    refine ⟨p, l, n, _, rfl, hp.same (same_new hl), by omega, .inl (SqL.of upd_same), by simp, by simp, fun i x H1 hx hp1 hb => ?_⟩
    obtain ⟨j, rfl, hj0, hj1⟩ : ∃ j : Nat, x = V.int (j : Int) ∧ 0 ≤ j ∧ j ≤ 14 := by
      have hi : i < 6 := by simpa using (List.getElem?_eq_some_iff.mp hx).1
      match i, hi, hx with
      | 0, _, e => cases e; exact ⟨1, rfl, by decide, by decide⟩
      | 1, _, e => cases e; exact ⟨1, rfl, by decide, by decide⟩
      | 2, _, e => cases e; exact ⟨1, rfl, by decide, by decide⟩
      | 3, _, e => cases e; exact ⟨2, rfl, by decide, by decide⟩
      | 4, _, e => cases e; exact ⟨3, rfl, by decide, by decide⟩
      | 5, _, e => cases e; exact ⟨14, rfl, by decide, by decide⟩
    have kept0 : ∀ b o, b ≠ p → H b = some o → H1 b = some o := fun b o hb1 e => by
      rw [hb b hb1, upd_ne (ne_of_none e hl)]
      exact e
    refine ⟨(j : Int), rfl, by omega, by omega, for_range (lo := 0) (n := j) (fun i σ H2 => ∃ (t : Nat) (v : Option V), σ = [some (.ref p), some (.int 40), some (.int (t : Int)), v] ∧ t < 1000 ^ i ∧ PenAt H2 p (n + 1 + i) ∧ (∀ b o, b ≠ p → H b = some o → H2 b = some o)) ⟨0, none, rfl, by decide, hp1, kept0⟩ ?_ ?_⟩
    · rintro i σ H2 hi2 ⟨t, v, rfl, ht, hp2, k2⟩
      refine ⟨_, rfl, _, _, rfl, rfl, .inr ⟨by decide, by decide⟩, _, rfl, p, n + 1 + i, 1000, rfl, hp2, by decide, by decide, by omega, fun r H3 r0 r1 hp3 hb3 => ?_⟩
      obtain ⟨d, rfl⟩ := Int.eq_ofNat_of_zero_le r0
      refine ⟨_, _, rfl, rfl, t * 1000 + d, _, rfl, ?_, hp3, fun b o hb1 e => by rw [hb3 b hb1]; exact k2 b o hb1 e⟩
      rw [Nat.pow_succ]
      omega
    · rintro σ H2 ⟨t, v, rfl, ht, hp2, k2⟩
      have ht2 : t < 10 ^ 42 := Nat.lt_of_lt_of_le ht (by
        rw [show (10 : Nat) ^ 42 = 1000 ^ 14 by decide]
        exact Nat.pow_le_pow_right (by decide) hj1)
      obtain ⟨v2, e1, e2, e3⟩ := last_forty t
      refine ⟨_, rfl, (t : Int), rfl, ?_, _, rfl, _, rfl, _, rfl, _, rfl, ?_, _, _, rfl, e1, e3, ?_⟩
      · show t.log2 < 1920
        by_cases h0 : t = 0
        · subst h0
          decide
        · rw [Nat.log2_lt h0]
          exact Nat.lt_trans ht2 (by decide)
      · have := num_le t 41 ht2
        rw [sizeLine_eq]
        omega
      · exact k v2 (n + 1 + j) H2 e2 (by omega) hp2 k2
end
end Sq

set_option Elab.async false
set_option linter.all false
set_option maxRecDepth 100000
set_option maxHeartbeats 4000000
/-! The law's makers of errors. -/
namespace Sq
open PySem PySem.Spec PyProof.Rows L2
/-- the thirteen errors with their fields, in the order of the kinds -/
def errNames : List (Str × List Str) := [("BadName", ["name"]), ("NoName", ["name"]), ("TakenName", ["name"]), ("BadCell", ["cell"]), ("NotThere", ["cell"]), ("BadBody", ["cells"]), ("BadText", ["line", "column"]), ("BadNumber", ["what", "number"]),
  ("NoMove", ["start", "end"]), ("TooMany", ["what", "many", "limit"]), ("NotKept", ["promise", "witness"]), ("NothingToUndo", []), ("NothingToRedo", [])]
abbrev eNm (i : Nat) : Str := (errNames.getD i ("", [])).1
abbrev eNs (i : Nat) : List Str := (errNames.getD i ("", [])).2
/-- where the i-th class stands, where its __init__ -/
abbrev cE (K : PySem.W.Frag) (i : Nat) : Addr := He.ga K (eNm i)
abbrev fE (K : PySem.W.Frag) (i : Nat) : Addr := He.ma K (cE K i) "__init__"
structure Errs (prog : Program) (K : PySem.W.Frag) (mg : Str → Option Value) : Prop where
  er : ∀ i, i < 13 → SErr prog K (cE K i) (fE K i) (eNs i)
  gm : ∀ i, i < 13 → mg (eNm i) = some (.ref (cE K i))
  xf : ∀ i, i < 13 → XfC K (cE K i)
  ce : ∀ i, i < 13 → ClsE K (cE K i)
  is : ∀ i j, i < 13 → j < 13 → PySem.W.kitOne K (.ref (cE K i)) (.ref (cE K j)) = some (decide (i = j))
  gs : mg "SlideError" = some (.ref (He.ga K "SlideError"))
  sl : ∀ i, i < 13 → PySem.W.kitOne K (.ref (cE K i)) (.ref (He.ga K "SlideError")) = some true
  gv : mg "ValueError" = none
  ve : ∀ i, i < 13 → PySem.W.kitOne K (.ref (cE K i)) (.type "ValueError") = some true
theorem err_of {C : Addr} {ns : List Str} {vs : List V} {H : Hp} {Q : VK} (hl : vs.length = ns.length) (hne : ns ≠ [])
    (h : ∀ (x d : Addr) (H' : Hp), Same H H' → H' x = some (exo x C (some d)) → H' d = some (exd d (ns.zip vs).reverse) → Q (.ref x) H') : errPost C ns vs H Q := by
  refine ⟨hl, fun a na => ⟨fun e => absurd e hne, fun _ d nd da => h a d _ (fun b o e => ?_) upd_same ?_⟩⟩
  · rw [upd_ne (ne_of_none e na), upd_ne (ne_of_none e nd)]
    exact e
  · rw [upd_ne da, upd_same]
theorem err_of0 {C : Addr} {H : Hp} {Q : VK} (h : ∀ (x : Addr) (H' : Hp), Same H H' → H' x = some (exo x C none) → Q (.ref x) H') : errPost C [] [] H Q :=
  ⟨rfl, fun a na => ⟨fun _ => h a _ (same_new na) upd_same, fun e => absurd rfl e⟩⟩
/-- what such a maker hands back: a new pair of the error and the tuple of its fields -/
def OneEnd (K : PySem.W.Frag) (k : Nat) (a b c : V) (H : Hp) (Q : VK) : Prop := ∀ (e t r : Addr) (d : Option Addr) (H' : Hp), Same H H' → H' e = some (exo e (cE K k) d) → (∀ dx, d = some dx → ∃ fs, H' dx = some (exd dx fs)) →
  H' t = some (.tup ([a, b, c].take (eNs k).length)) → H' r = some (.tup [.ref e, .ref t]) → Q (.ref r) H'
def spOne (K : PySem.W.Frag) (lo : Nat) : Sp := fun vs H Q _ => ∃ (k : Nat) (a b c : V), vs = [.int (k : Int), a, b, c] ∧ lo ≤ k ∧ k < 13 ∧ OneEnd K k a b c H Q
/-- the end of such a branch: the tuple of the fields, then the pair -/
theorem one_end {K : PySem.W.Frag} {k : Nat} {a b c : V} {H H1 : Hp} {Q : VK} {e : Addr} {d : Option Addr} (h : OneEnd K k a b c H Q) (S : Same H H1) (he : H1 e = some (exo e (cE K k) d)) (hd : ∀ dx, d = some dx → ∃ fs, H1 dx = some (exd dx fs))
    {xs : List V} (hx : xs = [a, b, c].take (eNs k).length) {t r : Addr} (nt : H1 t = none) (nr : upd H1 t (.tup xs) r = none) : Q (.ref r) (upd (upd H1 t (.tup xs)) r (.tup [.ref e, .ref t])) := by
  have s1 := same_new (o := .tup xs) nt
  have s2 := same_new (o := .tup [.ref e, .ref t]) nr
  refine h e t r d _ ((S.trans s1).trans s2) (s2 _ _ (s1 _ _ he)) (fun dx q => ?_) (s2 _ _ ?_) upd_same
  · obtain ⟨fs, z⟩ := hd dx q
    exact ⟨fs, s2 _ _ (s1 _ _ z)⟩
  · rw [upd_same, hx]
theorem kint {k : Nat} (m : Nat) (h : decide (V.int (k : Int) = V.int (m : Int)) = true) : k = m := by
  have e := V.int.inj (of_decide_eq_true h)
  omega
theorem kint_ne {k : Nat} (m : Nat) (h : ¬ decide (V.int (k : Int) = V.int (m : Int)) = true) : k ≠ m := fun e => h (by rw [e]; exact decide_eq_true rfl)
theorem one_le : 1 ≤ sizeLine := by
  rw [sizeLine_eq]
  decide
theorem two_le : 2 ≤ sizeLine := by
  rw [sizeLine_eq]
  decide
theorem three_le : 3 ≤ sizeLine := by
  rw [sizeLine_eq]
  decide
section
variable {P : Program} {w : World} {K : PySem.W.Frag} {mg : Str → Option Value} {base : Heap}
theorem scM : FnScope ["_law_kind", "_law_a", "_law_b", "_law_c", "_law_e"] ["_law_kind", "_law_a", "_law_b", "_law_c"] (defScope sMore) := ⟨rfl, rfl, rfl, by decide +kernel, rfl, by decide +kernel, by decide +kernel⟩
theorem ok_more {f : Addr} {fd : FuncData} (F : FnP K "_law_more" sMore f fd) (T : Errs P K mg) : FnOk P w K mg base CX0 2 f fd ["_law_kind", "_law_a", "_law_b", "_law_c"] (spOne K 6) := by
  refine F.ok scM (fun vs H Q E h => ?_) (fun cdv A outer s H vs Q E hr h => ?_)
  · obtain ⟨k, a, b, c, rfl, _⟩ := h
    rfl
  · obtain ⟨k, a, b, c, rfl, h6, h13, kk⟩ := h
    refine ⟨_, PSs.nox (pss_cons (ps_if (pt_cmpR op_eq (pv 0) pe_int (nomark _))
        (pss_cons (ps_set (i := 4) scM.nd rfl (.inl rfl) (pe_err (T.er 6 (by decide)) hr (T.gm 6 (by decide)) (pa_cons (pv 1) (pa_cons (pv 2) pa_nil))))
        (pss_one (ps_ret (pe_tup (pa_cons (pv 4) (pa_cons (pe_tup (pa_cons (pe_ef (pv 4)) (pa_cons (pe_ef (pv 4)) pa_nil))) pa_nil)))))) pss_nil)
      (pss_cons (ps_if (pt_cmpR op_eq (pv 0) pe_int (nomark _))
        (pss_cons (ps_set (i := 4) scM.nd rfl (.inl rfl) (pe_err (T.er 7 (by decide)) hr (T.gm 7 (by decide)) (pa_cons (pv 1) (pa_cons (pv 2) pa_nil))))
        (pss_one (ps_ret (pe_tup (pa_cons (pv 4) (pa_cons (pe_tup (pa_cons (pe_ef (pv 4)) (pa_cons (pe_ef (pv 4)) pa_nil))) pa_nil)))))) pss_nil)
      (pss_cons (ps_if (pt_cmpR op_eq (pv 0) pe_int (nomark _))
        (pss_cons (ps_set (i := 4) scM.nd rfl (.inl rfl) (pe_err (T.er 8 (by decide)) hr (T.gm 8 (by decide)) (pa_cons (pv 1) (pa_cons (pv 2) pa_nil))))
        (pss_one (ps_ret (pe_tup (pa_cons (pv 4) (pa_cons (pe_tup (pa_cons (pe_ef (pv 4)) (pa_cons (pe_ef (pv 4)) pa_nil))) pa_nil)))))) pss_nil)
      (pss_cons (ps_if (pt_cmpR op_eq (pv 0) pe_int (nomark _))
        (pss_cons (ps_set (i := 4) scM.nd rfl (.inl rfl) (pe_err (T.er 9 (by decide)) hr (T.gm 9 (by decide)) (pa_cons (pv 1) (pa_cons (pv 2) (pa_cons (pv 3) pa_nil)))))
        (pss_one (ps_ret (pe_tup (pa_cons (pv 4) (pa_cons (pe_tup (pa_cons (pe_ef (pv 4)) (pa_cons (pe_ef (pv 4)) (pa_cons (pe_ef (pv 4)) pa_nil)))) pa_nil)))))) pss_nil)
      (pss_cons (ps_if (pt_cmpR op_eq (pv 0) pe_int (nomark _))
        (pss_cons (ps_set (i := 4) scM.nd rfl (.inl rfl) (pe_err (T.er 10 (by decide)) hr (T.gm 10 (by decide)) (pa_cons (pv 1) (pa_cons (pv 2) pa_nil))))
        (pss_one (ps_ret (pe_tup (pa_cons (pv 4) (pa_cons (pe_tup (pa_cons (pe_ef (pv 4)) (pa_cons (pe_ef (pv 4)) pa_nil))) pa_nil)))))) pss_nil)
      (pss_one (ps_ret (pe_tup (pa_cons (pe_ifExp (pt_cmpR op_eq (pv 0) pe_int (nomark _)) (pe_err0 (T.er 11 (by decide)) hr (T.gm 11 (by decide))) (pe_err0 (T.er 12 (by decide)) hr (T.gm 12 (by decide)))) (pa_cons (pe_tup pa_nil) pa_nil)))))))))), ?_⟩
    refine ⟨_, rfl, rfl, _, rfl, ?_⟩
    refine ite2 (fun hk => ?_) (fun hk6 => ?_)
    · obtain rfl := kint 6 hk
      refine ⟨_, rfl, _, rfl, ?_⟩
      refine err_of (C := cE K 6) (ns := ["line", "column"]) (vs := [a, b]) rfl (List.cons_ne_nil _ _) fun x d H1 S1 e1 f1 => ?_
      refine ⟨_, rfl, _, rfl, x, cE K 6, d, _, a, rfl, e1, f1, T.xf 6 (by decide), (T.er 6 (by decide)).no _ (by first | exact .head _), by kernel_rfl, _, rfl, x, cE K 6, d, _, b, rfl, e1, f1, T.xf 6 (by decide), (T.er 6 (by decide)).no _ (by first | exact .tail _ (.head _)), by kernel_rfl, two_le, fun t nt => ⟨two_le, fun r nr => ?_⟩⟩
      exact one_end kk S1 e1 (fun dx q => by cases q; exact ⟨_, f1⟩) rfl nt nr
    refine ⟨_, rfl, rfl, _, rfl, ?_⟩
    refine ite2 (fun hk => ?_) (fun hk7 => ?_)
    · obtain rfl := kint 7 hk
      refine ⟨_, rfl, _, rfl, ?_⟩
      refine err_of (C := cE K 7) (ns := ["what", "number"]) (vs := [a, b]) rfl (List.cons_ne_nil _ _) fun x d H1 S1 e1 f1 => ?_
      refine ⟨_, rfl, _, rfl, x, cE K 7, d, _, a, rfl, e1, f1, T.xf 7 (by decide), (T.er 7 (by decide)).no _ (by first | exact .head _), by kernel_rfl, _, rfl, x, cE K 7, d, _, b, rfl, e1, f1, T.xf 7 (by decide), (T.er 7 (by decide)).no _ (by first | exact .tail _ (.head _)), by kernel_rfl, two_le, fun t nt => ⟨two_le, fun r nr => ?_⟩⟩
      exact one_end kk S1 e1 (fun dx q => by cases q; exact ⟨_, f1⟩) rfl nt nr
    refine ⟨_, rfl, rfl, _, rfl, ?_⟩
    refine ite2 (fun hk => ?_) (fun hk8 => ?_)
    · obtain rfl := kint 8 hk
      refine ⟨_, rfl, _, rfl, ?_⟩
      refine err_of (C := cE K 8) (ns := ["start", "end"]) (vs := [a, b]) rfl (List.cons_ne_nil _ _) fun x d H1 S1 e1 f1 => ?_
      refine ⟨_, rfl, _, rfl, x, cE K 8, d, _, a, rfl, e1, f1, T.xf 8 (by decide), (T.er 8 (by decide)).no _ (by first | exact .head _), by kernel_rfl, _, rfl, x, cE K 8, d, _, b, rfl, e1, f1, T.xf 8 (by decide), (T.er 8 (by decide)).no _ (by first | exact .tail _ (.head _)), by kernel_rfl, two_le, fun t nt => ⟨two_le, fun r nr => ?_⟩⟩
      exact one_end kk S1 e1 (fun dx q => by cases q; exact ⟨_, f1⟩) rfl nt nr
    refine ⟨_, rfl, rfl, _, rfl, ?_⟩
    refine ite2 (fun hk => ?_) (fun hk9 => ?_)
    · obtain rfl := kint 9 hk
      refine ⟨_, rfl, _, rfl, _, rfl, ?_⟩
      refine err_of (C := cE K 9) (ns := ["what", "many", "limit"]) (vs := [a, b, c]) rfl (List.cons_ne_nil _ _) fun x d H1 S1 e1 f1 => ?_
      refine ⟨_, rfl, _, rfl, x, cE K 9, d, _, a, rfl, e1, f1, T.xf 9 (by decide), (T.er 9 (by decide)).no _ (by first | exact .head _), by kernel_rfl, _, rfl, x, cE K 9, d, _, b, rfl, e1, f1, T.xf 9 (by decide), (T.er 9 (by decide)).no _ (by first | exact .tail _ (.head _)), by kernel_rfl,
        _, rfl, x, cE K 9, d, _, c, rfl, e1, f1, T.xf 9 (by decide), (T.er 9 (by decide)).no _ (by first | exact .tail _ (.tail _ (.head _))), by kernel_rfl, three_le, fun t nt => ⟨two_le, fun r nr => ?_⟩⟩
      exact one_end kk S1 e1 (fun dx q => by cases q; exact ⟨_, f1⟩) rfl nt nr
    refine ⟨_, rfl, rfl, _, rfl, ?_⟩
    refine ite2 (fun hk => ?_) (fun hk10 => ?_)
    · obtain rfl := kint 10 hk
      refine ⟨_, rfl, _, rfl, ?_⟩
      refine err_of (C := cE K 10) (ns := ["promise", "witness"]) (vs := [a, b]) rfl (List.cons_ne_nil _ _) fun x d H1 S1 e1 f1 => ?_
      refine ⟨_, rfl, _, rfl, x, cE K 10, d, _, a, rfl, e1, f1, T.xf 10 (by decide), (T.er 10 (by decide)).no _ (by first | exact .head _), by kernel_rfl, _, rfl, x, cE K 10, d, _, b, rfl, e1, f1, T.xf 10 (by decide), (T.er 10 (by decide)).no _ (by first | exact .tail _ (.head _)), by kernel_rfl, two_le, fun t nt => ⟨two_le, fun r nr => ?_⟩⟩
      exact one_end kk S1 e1 (fun dx q => by cases q; exact ⟨_, f1⟩) rfl nt nr
    refine ⟨_, rfl, rfl, _, rfl, ?_⟩
    refine ite2 (fun hk => ?_) (fun hk11 => ?_)
    · obtain rfl := kint 11 hk
      refine err_of0 (C := cE K 11) fun x H1 S1 e1 => ?_
      refine ⟨Nat.zero_le _, fun t nt => ⟨two_le, fun r nr => ?_⟩⟩
      exact one_end kk S1 e1 (fun dx q => by cases q) rfl nt nr
    · obtain rfl : k = 12 := by
        have := kint_ne 6 hk6
        have := kint_ne 7 hk7
        have := kint_ne 8 hk8
        have := kint_ne 9 hk9
        have := kint_ne 10 hk10
        have := kint_ne 11 hk11
        omega
      refine err_of0 (C := cE K 12) fun x H1 S1 e1 => ?_
      refine ⟨Nat.zero_le _, fun t nt => ⟨two_le, fun r nr => ?_⟩⟩
      exact one_end kk S1 e1 (fun dx q => by cases q) rfl nt nr
end
end Sq

set_option Elab.async false
set_option linter.all false
set_option maxRecDepth 100000
set_option maxHeartbeats 4000000
namespace Sq
open PySem PySem.Spec PyProof.Rows L2
section
variable {P : Program} {w : World} {K : PySem.W.Frag} {mg : Str → Option Value} {base : Heap}
theorem scO : FnScope ["_law_kind", "_law_a", "_law_b", "_law_c", "_law_e"] ["_law_kind", "_law_a", "_law_b", "_law_c"] (defScope sOne) := ⟨rfl, rfl, rfl, by decide +kernel, rfl, by decide +kernel, by decide +kernel⟩
/-- the one field of such an error -/
theorem one_field {C x d : Addr} {f : Str} {a : V} {H : Hp} (h : H d = some (exd d ((([f] : List Str).zip [a]).reverse))) : ∃ fs, H d = some (exd d fs) ∧ fs.lookup f = some a :=
  ⟨_, h, by show List.lookup f [(f, a)] = some a; rw [lookup_one, if_pos rfl]⟩
theorem ok_one {f fM : Addr} {fd fdM : FuncData} (F : FnP K "_law_one" sOne f fd) (FM : FnP K "_law_more" sMore fM fdM) (gM : mg "_law_more" = some (.ref fM)) (T : Errs P K mg) :
    FnOk P w K mg base CX0 3 f fd ["_law_kind", "_law_a", "_law_b", "_law_c"] (spOne K 0) := by
  have GM : FnOk P w K mg base CX0 2 fM fdM ["_law_kind", "_law_a", "_law_b", "_law_c"] (spOne K 6) := ok_more FM T
  have bM : Binds K fdM ["_law_kind", "_law_a", "_law_b", "_law_c"] [] := FM.bindsN fun _ _ _ _ _ _ us hl => match us, hl with | [_, _, _, _], _ => rfl
  refine F.ok scO (fun vs H Q E h => ?_) (fun cdv A outer s H vs Q E hr h => ?_)
  · obtain ⟨k, a, b, c, rfl, _⟩ := h
    rfl
  · obtain ⟨k, a, b, c, rfl, h6, h13, kk⟩ := h
    have hr1 : Room 1 _ := hr.mono (by decide)
    refine ⟨_, PSs.nox (pss_cons (ps_if (pt_cmpR op_lt (pv 0) pe_int (nomark _))
        (pss_cons (ps_set (i := 4) scO.nd rfl (.inl rfl) (pe_ix ix_list (pe_lst (pa_cons (pe_err (T.er 0 (by decide)) hr1 (T.gm 0 (by decide)) (pa_cons (pv 1) pa_nil)) (pa_cons (pe_err (T.er 1 (by decide)) hr1 (T.gm 1 (by decide)) (pa_cons (pv 1) pa_nil)) (pa_cons (pe_err (T.er 2 (by decide)) hr1 (T.gm 2 (by decide)) (pa_cons (pv 1) pa_nil)) pa_nil)))) (pv 0) (fun _ _ => rfl)))
        (pss_one (ps_ret (pe_tup (pa_cons (pv 4) (pa_cons (pe_tup (pa_cons (pe_ef (pv 4)) pa_nil)) pa_nil)))))) pss_nil)
      (pss_cons (ps_if (pt_cmpR op_lt (pv 0) pe_int (nomark _))
        (pss_cons (ps_set (i := 4) scO.nd rfl (.inl rfl) (pe_ix ix_list (pe_lst (pa_cons (pe_err (T.er 3 (by decide)) hr1 (T.gm 3 (by decide)) (pa_cons (pv 1) pa_nil)) (pa_cons (pe_err (T.er 4 (by decide)) hr1 (T.gm 4 (by decide)) (pa_cons (pv 1) pa_nil)) pa_nil))) (pe_op op_sub (pv 0) pe_int) (fun _ _ => rfl)))
        (pss_one (ps_ret (pe_tup (pa_cons (pv 4) (pa_cons (pe_tup (pa_cons (pe_ef (pv 4)) pa_nil)) pa_nil)))))) pss_nil)
      (pss_cons (ps_if (pt_cmpR op_eq (pv 0) pe_int (nomark _))
        (pss_cons (ps_set (i := 4) scO.nd rfl (.inl rfl) (pe_err (T.er 5 (by decide)) hr1 (T.gm 5 (by decide)) (pa_cons (pv 1) pa_nil)))
        (pss_one (ps_ret (pe_tup (pa_cons (pv 4) (pa_cons (pe_tup (pa_cons (pe_ef (pv 4)) pa_nil)) pa_nil)))))) pss_nil)
      (pss_one (ps_ret (pe_call GM hr rfl gM FM.kp bM .nil pass0 (pa_cons (pv 0) (pa_cons (pv 1) (pa_cons (pv 2) (pa_cons (pv 3) pa_nil)))))))))), ?_⟩
    refine ⟨_, rfl, _, _, rfl, rfl, _, rfl, ?_⟩
    refine ite2 (fun hk => ?_) (fun hk3 => ?_)
    · have hk' : (k : Int) < 3 := of_decide_eq_true hk
      refine ⟨_, rfl, ?_⟩
      refine err_of (C := cE K 0) (ns := ["name"]) (vs := [a]) rfl (List.cons_ne_nil _ _) fun x0 d0 H0 S0 e0 f0 => ?_
      refine ⟨_, rfl, ?_⟩
      refine err_of (C := cE K 1) (ns := ["name"]) (vs := [a]) rfl (List.cons_ne_nil _ _) fun x1 d1 H1 S1 e1 f1 => ?_
      refine ⟨_, rfl, ?_⟩
      refine err_of (C := cE K 2) (ns := ["name"]) (vs := [a]) rfl (List.cons_ne_nil _ _) fun x2 d2 H2 S2 e2 f2 => ?_
      refine ⟨three_le, fun l nl => ?_⟩
      have s3 := same_new (o := .lst [.ref x0, .ref x1, .ref x2]) nl
      obtain ⟨x, d, hx, ex, fx⟩ : ∃ x d : Addr, [V.ref x0, V.ref x1, V.ref x2][k]? = some (.ref x) ∧ upd H2 l (.lst [.ref x0, .ref x1, .ref x2]) x = some (exo x (cE K k) (some d)) ∧ upd H2 l (.lst [.ref x0, .ref x1, .ref x2]) d = some (exd d ((([("name" : Str)]).zip [a]).reverse)) := by
        obtain rfl | rfl | rfl : k = 0 ∨ k = 1 ∨ k = 2 := by omega
        · exact ⟨x0, d0, rfl, s3 _ _ (S2 _ _ (S1 _ _ e0)), s3 _ _ (S2 _ _ (S1 _ _ f0))⟩
        · exact ⟨x1, d1, rfl, s3 _ _ (S2 _ _ e1), s3 _ _ (S2 _ _ f1)⟩
        · exact ⟨x2, d2, rfl, s3 _ _ e2, s3 _ _ f2⟩
      obtain ⟨fs, fx', lk⟩ := one_field (C := l) (x := l) fx
      have hno : PySem.W.findIn K (.ref (cE K k)) "name" = some none := by
        obtain rfl | rfl | rfl : k = 0 ∨ k = 1 ∨ k = 2 := by omega
        · exact (T.er 0 (by decide)).no _ (.head _)
        · exact (T.er 1 (by decide)).no _ (.head _)
        · exact (T.er 2 (by decide)).no _ (.head _)
      have h1 : (eNs k).length = 1 := by
        obtain rfl | rfl | rfl : k = 0 ∨ k = 1 ∨ k = 2 := by omega
        all_goals rfl
      refine ⟨_, rfl, l, _, _, _, rfl, rfl, SqL.of upd_same, atI_nat hx, ?_⟩
      refine ⟨_, rfl, _, rfl, x, cE K k, d, fs, a, rfl, ex, fx', T.xf k h13, hno, lk, one_le, fun t nt => ⟨two_le, fun r nr => ?_⟩⟩
      exact one_end kk (((S0.trans S1).trans S2).trans s3) ex (fun dx q => by cases q; exact ⟨_, fx⟩) (by rw [h1]; rfl) nt nr
    · refine ⟨_, rfl, _, _, rfl, rfl, _, rfl, ?_⟩
      have hk3' : ¬ (k : Int) < 3 := fun z => hk3 (decide_eq_true z)
      refine ite2 (fun hk => ?_) (fun hk5 => ?_)
      · have hk' : (k : Int) < 5 := of_decide_eq_true hk
        refine ⟨_, rfl, ?_⟩
        refine err_of (C := cE K 3) (ns := ["cell"]) (vs := [a]) rfl (List.cons_ne_nil _ _) fun x0 d0 H0 S0 e0 f0 => ?_
        refine ⟨_, rfl, ?_⟩
        refine err_of (C := cE K 4) (ns := ["cell"]) (vs := [a]) rfl (List.cons_ne_nil _ _) fun x1 d1 H1 S1 e1 f1 => ?_
        refine ⟨two_le, fun l nl => ?_⟩
        have s3 := same_new (o := .lst [.ref x0, .ref x1]) nl
        obtain ⟨x, d, hx, ex, fx⟩ : ∃ x d : Addr, [V.ref x0, V.ref x1][k - 3]? = some (.ref x) ∧ upd H1 l (.lst [.ref x0, .ref x1]) x = some (exo x (cE K k) (some d)) ∧ upd H1 l (.lst [.ref x0, .ref x1]) d = some (exd d ((([("cell" : Str)]).zip [a]).reverse)) := by
          obtain rfl | rfl : k = 3 ∨ k = 4 := by omega
          · exact ⟨x0, d0, rfl, s3 _ _ (S1 _ _ e0), s3 _ _ (S1 _ _ f0)⟩
          · exact ⟨x1, d1, rfl, s3 _ _ e1, s3 _ _ f1⟩
        obtain ⟨fs, fx', lk⟩ := one_field (C := l) (x := l) fx
        have hno : PySem.W.findIn K (.ref (cE K k)) "cell" = some none := by
          obtain rfl | rfl : k = 3 ∨ k = 4 := by omega
          · exact (T.er 3 (by decide)).no _ (.head _)
          · exact (T.er 4 (by decide)).no _ (.head _)
        have h1 : (eNs k).length = 1 := by
          obtain rfl | rfl : k = 3 ∨ k = 4 := by omega
          all_goals rfl
        have ek : (k : Int) - 3 = ((k - 3 : Nat) : Int) := by omega
        refine ⟨_, rfl, _, _, rfl, rfl, l, _, _, _, rfl, rfl, SqL.of upd_same, (by rw [ek]; exact atI_nat hx), ?_⟩
        refine ⟨_, rfl, _, rfl, x, cE K k, d, fs, a, rfl, ex, fx', T.xf k h13, hno, lk, one_le, fun t nt => ⟨two_le, fun r nr => ?_⟩⟩
        exact one_end kk ((S0.trans S1).trans s3) ex (fun dx q => by cases q; exact ⟨_, fx⟩) (by rw [h1]; rfl) nt nr
      · refine ⟨_, rfl, rfl, _, rfl, ?_⟩
        have hk5' : ¬ (k : Int) < 5 := fun z => hk5 (decide_eq_true z)
        refine ite2 (fun hk => ?_) (fun hk5 => ?_)
        · obtain rfl := kint 5 hk
          refine ⟨_, rfl, ?_⟩
          refine err_of (C := cE K 5) (ns := ["cells"]) (vs := [a]) rfl (List.cons_ne_nil _ _) fun x d H1 S1 e1 f1 => ?_
          obtain ⟨fs, fx', lk⟩ := one_field (C := x) (x := x) f1
          refine ⟨_, rfl, _, rfl, x, cE K 5, d, fs, a, rfl, e1, fx', T.xf 5 (by decide), (T.er 5 (by decide)).no _ (.head _), lk, one_le, fun t nt => ⟨two_le, fun r nr => ?_⟩⟩
          exact one_end kk S1 e1 (fun dx q => by cases q; exact ⟨_, f1⟩) rfl nt nr
        · have := kint_ne 5 hk5
          exact ⟨_, rfl, _, rfl, _, rfl, _, rfl, k, a, b, c, rfl, by omega, h13, kk⟩
end
end Sq

set_option Elab.async false
set_option linter.all false
set_option maxRecDepth 100000
set_option maxHeartbeats 4000000
namespace Sq
open PySem PySem.Spec PyProof.Rows L2
def kindsV (k : Nat) : List V := (List.range 13).map fun j => V.bl (decide (k = j))
/-- _law_kinds(e): of which of the thirteen classes e is -/
def spKinds (K : PySem.W.Frag) : Sp := fun vs H Q _ => ∃ (e : Addr) (k : Nat) (d : Option Addr), vs = [.ref e] ∧ k < 13 ∧ H e = some (exo e (cE K k) d) ∧ (∀ dx, d = some dx → ∃ fs, H dx = some (exd dx fs)) ∧
  ∀ (r : Addr) (H' : Hp), Same H H' → H' r = some (.lst (kindsV k)) → Q (.ref r) H'
section
variable {P : Program} {w : World} {K : PySem.W.Frag} {mg : Str → Option Value} {base : Heap}
theorem is_one {k j : Nat} {e : Addr} {d : Option Addr} {H : Hp} {Q : VK} (T : Errs P K mg) (hk : k < 13) (hj : j < 13) (he : H e = some (exo e (cE K k) d)) (hd : ∀ dx, d = some dx → ∃ fs, H dx = some (exd dx fs))
    (h : Q (.bl (decide (k = j))) H) : rIsErr K [.ref e, .ref (cE K j)] H Q := ⟨e, cE K k, d, .ref (cE K j), .ref (cE K j), decide (k = j), rfl, he, hd, fun _ r => r, T.is k j hk hj, T.ce k hk, h⟩
theorem scI : FnScope ["_law_e", "_law_found"] ["_law_e"] (defScope sKinds) := ⟨rfl, rfl, rfl, by decide +kernel, rfl, by decide +kernel, by decide +kernel⟩
theorem four_le : 4 ≤ sizeLine := by
  rw [sizeLine_eq]
  decide
theorem ok_kinds {f : Addr} {fd : FuncData} (F : FnP K "_law_kinds" sKinds f fd) (T : Errs P K mg) (gI : mg "isinstance" = none) : FnOk P w K mg base CX0 1 f fd ["_law_e"] (spKinds K) := by
  refine F.ok scI (fun vs H Q E h => ?_) (fun cdv A outer s H vs Q E hr h => ?_)
  · obtain ⟨e, k, d, rfl, _⟩ := h
    rfl
  · obtain ⟨e, k, d, rfl, hk, he, hd, kk⟩ := h
    refine ⟨_, PSs.nox (pss_cons (ps_set (i := 1) scI.nd rfl (.inl rfl) (pe_lst (pa_cons (pe_callB call_isErr (by rfl) gI PyProof.Rows.boot_isinstance (pa_cons (pv 0) (pa_cons (pe_glob (v := .ref (cE K 0)) (by rfl) (T.gm 0 (by decide)) rfl) pa_nil)))
        (pa_cons (pe_callB call_isErr (by rfl) gI PyProof.Rows.boot_isinstance (pa_cons (pv 0) (pa_cons (pe_glob (v := .ref (cE K 1)) (by rfl) (T.gm 1 (by decide)) rfl) pa_nil)))
        (pa_cons (pe_callB call_isErr (by rfl) gI PyProof.Rows.boot_isinstance (pa_cons (pv 0) (pa_cons (pe_glob (v := .ref (cE K 2)) (by rfl) (T.gm 2 (by decide)) rfl) pa_nil)))
        (pa_cons (pe_callB call_isErr (by rfl) gI PyProof.Rows.boot_isinstance (pa_cons (pv 0) (pa_cons (pe_glob (v := .ref (cE K 3)) (by rfl) (T.gm 3 (by decide)) rfl) pa_nil))) pa_nil))))))
      (pss_cons (ps_set (i := 1) scI.nd rfl (.inl rfl) (pe_op op_cat (pv 1) (pe_lst (pa_cons (pe_callB call_isErr (by rfl) gI PyProof.Rows.boot_isinstance (pa_cons (pv 0) (pa_cons (pe_glob (v := .ref (cE K 4)) (by rfl) (T.gm 4 (by decide)) rfl) pa_nil)))
        (pa_cons (pe_callB call_isErr (by rfl) gI PyProof.Rows.boot_isinstance (pa_cons (pv 0) (pa_cons (pe_glob (v := .ref (cE K 5)) (by rfl) (T.gm 5 (by decide)) rfl) pa_nil)))
        (pa_cons (pe_callB call_isErr (by rfl) gI PyProof.Rows.boot_isinstance (pa_cons (pv 0) (pa_cons (pe_glob (v := .ref (cE K 6)) (by rfl) (T.gm 6 (by decide)) rfl) pa_nil)))
        (pa_cons (pe_callB call_isErr (by rfl) gI PyProof.Rows.boot_isinstance (pa_cons (pv 0) (pa_cons (pe_glob (v := .ref (cE K 7)) (by rfl) (T.gm 7 (by decide)) rfl) pa_nil))) pa_nil)))))))
      (pss_cons (ps_set (i := 1) scI.nd rfl (.inl rfl) (pe_op op_cat (pv 1) (pe_lst (pa_cons (pe_callB call_isErr (by rfl) gI PyProof.Rows.boot_isinstance (pa_cons (pv 0) (pa_cons (pe_glob (v := .ref (cE K 8)) (by rfl) (T.gm 8 (by decide)) rfl) pa_nil)))
        (pa_cons (pe_callB call_isErr (by rfl) gI PyProof.Rows.boot_isinstance (pa_cons (pv 0) (pa_cons (pe_glob (v := .ref (cE K 9)) (by rfl) (T.gm 9 (by decide)) rfl) pa_nil)))
        (pa_cons (pe_callB call_isErr (by rfl) gI PyProof.Rows.boot_isinstance (pa_cons (pv 0) (pa_cons (pe_glob (v := .ref (cE K 10)) (by rfl) (T.gm 10 (by decide)) rfl) pa_nil))) pa_nil))))))
      (pss_one (ps_ret (pe_op op_cat (pv 1) (pe_lst (pa_cons (pe_callB call_isErr (by rfl) gI PyProof.Rows.boot_isinstance (pa_cons (pv 0) (pa_cons (pe_glob (v := .ref (cE K 11)) (by rfl) (T.gm 11 (by decide)) rfl) pa_nil)))
        (pa_cons (pe_callB call_isErr (by rfl) gI PyProof.Rows.boot_isinstance (pa_cons (pv 0) (pa_cons (pe_glob (v := .ref (cE K 12)) (by rfl) (T.gm 12 (by decide)) rfl) pa_nil))) pa_nil)))))))))
      , ?_⟩
    refine ⟨_, rfl, is_one T hk (by decide) he hd ⟨_, rfl, is_one T hk (by decide) he hd ⟨_, rfl, is_one T hk (by decide) he hd ⟨_, rfl, is_one T hk (by decide) he hd ⟨four_le, fun l nl => ?_⟩⟩⟩⟩⟩
    obtain ⟨H1, eH, s1, h1⟩ : ∃ H1, H1 = upd H l (.lst [.bl (decide (k = 0)), .bl (decide (k = 1)), .bl (decide (k = 2)), .bl (decide (k = 3))]) ∧ Same H H1 ∧ H1 l = some (.lst [.bl (decide (k = 0)), .bl (decide (k = 1)), .bl (decide (k = 2)), .bl (decide (k = 3))]) := ⟨_, rfl, same_new nl, upd_same⟩
    rw [← eH]
    have he1 := s1 _ _ he
    have hd1 : ∀ dx, d = some dx → ∃ fs, H1 dx = some (exd dx fs) := fun dx q => by
      obtain ⟨fs, z⟩ := hd dx q
      exact ⟨fs, s1 _ _ z⟩
    refine ⟨_, rfl, _, rfl, is_one T hk (by decide) he1 hd1 ⟨_, rfl, is_one T hk (by decide) he1 hd1 ⟨_, rfl, is_one T hk (by decide) he1 hd1 ⟨_, rfl, is_one T hk (by decide) he1 hd1 ⟨four_le, fun m nm => ?_⟩⟩⟩⟩⟩
    refine ⟨l, m, _, _, rfl, rfl, same_new nm _ _ h1, upd_same, (by show 8 ≤ sizeLine; rw [sizeLine_eq]; decide), fun q nq => ?_⟩
    obtain ⟨H2, eH2, s2, h2⟩ : ∃ H2, H2 = upd (upd H1 m (.lst [.bl (decide (k = 4)), .bl (decide (k = 5)), .bl (decide (k = 6)), .bl (decide (k = 7))])) q (.lst ([.bl (decide (k = 0)), .bl (decide (k = 1)), .bl (decide (k = 2)), .bl (decide (k = 3))] ++ [.bl (decide (k = 4)), .bl (decide (k = 5)), .bl (decide (k = 6)), .bl (decide (k = 7))])) ∧ Same H1 H2 ∧
        H2 q = some (.lst ([.bl (decide (k = 0)), .bl (decide (k = 1)), .bl (decide (k = 2)), .bl (decide (k = 3))] ++ [.bl (decide (k = 4)), .bl (decide (k = 5)), .bl (decide (k = 6)), .bl (decide (k = 7))])) := ⟨_, rfl, (same_new nm).trans (same_new nq), upd_same⟩
    rw [← eH2]
    have he2 := s2 _ _ he1
    have hd2 : ∀ dx, d = some dx → ∃ fs, H2 dx = some (exd dx fs) := fun dx z => by
      obtain ⟨fs, z⟩ := hd1 dx z
      exact ⟨fs, s2 _ _ z⟩
    refine ⟨_, rfl, _, rfl, is_one T hk (by decide) he2 hd2 ⟨_, rfl, is_one T hk (by decide) he2 hd2 ⟨_, rfl, is_one T hk (by decide) he2 hd2 ⟨three_le, fun m2 nm2 => ?_⟩⟩⟩⟩
    refine ⟨q, m2, _, _, rfl, rfl, same_new nm2 _ _ h2, upd_same, (by show 11 ≤ sizeLine; rw [sizeLine_eq]; decide), fun q2 nq2 => ?_⟩
    obtain ⟨H3, eH3, s3, h3⟩ : ∃ H3, H3 = upd (upd H2 m2 (.lst [.bl (decide (k = 8)), .bl (decide (k = 9)), .bl (decide (k = 10))])) q2 (.lst (([.bl (decide (k = 0)), .bl (decide (k = 1)), .bl (decide (k = 2)), .bl (decide (k = 3))] ++ [.bl (decide (k = 4)), .bl (decide (k = 5)), .bl (decide (k = 6)), .bl (decide (k = 7))]) ++ [.bl (decide (k = 8)), .bl (decide (k = 9)), .bl (decide (k = 10))])) ∧ Same H2 H3 ∧
        H3 q2 = some (.lst (([.bl (decide (k = 0)), .bl (decide (k = 1)), .bl (decide (k = 2)), .bl (decide (k = 3))] ++ [.bl (decide (k = 4)), .bl (decide (k = 5)), .bl (decide (k = 6)), .bl (decide (k = 7))]) ++ [.bl (decide (k = 8)), .bl (decide (k = 9)), .bl (decide (k = 10))])) := ⟨_, rfl, (same_new nm2).trans (same_new nq2), upd_same⟩
    rw [← eH3]
    have he3 := s3 _ _ he2
    have hd3 : ∀ dx, d = some dx → ∃ fs, H3 dx = some (exd dx fs) := fun dx z => by
      obtain ⟨fs, z⟩ := hd2 dx z
      exact ⟨fs, s3 _ _ z⟩
    refine ⟨_, rfl, _, rfl, is_one T hk (by decide) he3 hd3 ⟨_, rfl, is_one T hk (by decide) he3 hd3 ⟨two_le, fun m3 nm3 => ?_⟩⟩⟩
    refine ⟨q2, m3, _, _, rfl, rfl, same_new nm3 _ _ h3, upd_same, (by show 13 ≤ sizeLine; rw [sizeLine_eq]; decide), fun q3 nq3 => ?_⟩
    exact kk q3 _ (((s1.trans s2).trans s3).trans ((same_new nm3).trans (same_new nq3))) upd_same
end
end Sq

set_option Elab.async false
set_option linter.all false
set_option maxRecDepth 100000
set_option maxHeartbeats 4000000
/-! Data that repr can show; what a pen leaves as it is. -/
namespace Sq
open PySem PySem.Spec PyProof.Rows L2
/-- all that is tracked but p stays -/
def Keep (p : Addr) (H H' : Hp) : Prop := ∀ b o, b ≠ p → H b = some o → H' b = some o
theorem Keep.of {p : Addr} {H H' : Hp} (h : Same H H') : Keep p H H' := fun b o _ e => h b o e
theorem Keep.eq {p : Addr} {H H' : Hp} (h : ∀ b, b ≠ p → H' b = H b) : Keep p H H' := fun b o hb e => (h b hb).trans e
theorem Keep.refl {p : Addr} {H : Hp} : Keep p H H := fun _ _ _ e => e
theorem Keep.trans {p : Addr} {H H1 H2 : Hp} (a : Keep p H H1) (b : Keep p H1 H2) : Keep p H H2 := fun c o hc e => b c o hc (a c o hc e)
section
variable {K : PySem.W.Frag} {H H' : Hp} {p : Addr} {kvs : List (Key × V)}
theorem rd_keep (hp : H p = some (.dK kvs)) (k : Keep p H H') {l : Addr} {u : HO} (hu : ∀ kvs, u ≠ .dK kvs) (h : Rd H l u) : Rd H' l u := by
  rcases h with h | ⟨o, h⟩
  · exact .inl (k l _ (ne_of h hp (hu _)) h)
  · exact .inr ⟨o, k l _ (ne_of h hp (by intro z; cases z)) h⟩
theorem sqL_keep (hp : H p = some (.dK kvs)) (k : Keep p H H') {l : Addr} {xs : List V} (h : SqL K H l xs) : SqL K H' l xs := h.elim (fun z => .inl (rd_keep hp k (fun _ q => by cases q) z)) .inr
theorem sqT_keep (hp : H p = some (.dK kvs)) (k : Keep p H H') {l : Addr} {xs : List V} (h : SqT K H l xs) : SqT K H' l xs := h.elim (fun z => .inl (rd_keep hp k (fun _ q => by cases q) z)) .inr
mutual
theorem dp_keep (hp : H p = some (.dK kvs)) (k : Keep p H H') : ∀ (d : PyData) (x : V), Dp K H x d → Dp K H' x d
  | .none, _, h => by
    cases h
    exact .non
  | .bool b, _, h => by
    cases h
    exact .bl b
  | .int i, _, h => by
    cases h
    exact .int i
  | .str s, _, h => by
    cases h
    exact .str s
  | .list ds, _, h => by
    cases h with
    | lst h1 h2 => exact .lst (sqL_keep hp k h1) (dps_keep hp k ds _ h2)
  | .tuple ds, _, h => by
    cases h with
    | tup h1 h2 => exact .tup (sqT_keep hp k h1) (dps_keep hp k ds _ h2)
  | .dict _, _, h => by cases h
theorem dps_keep (hp : H p = some (.dK kvs)) (k : Keep p H H') : ∀ (ds : List PyData) (xs : List V), DpAll K H xs ds → DpAll K H' xs ds
  | [], _, h => by
    cases h
    exact .nil
  | d :: ds, _, h => by
    cases h with
    | cons h1 h2 => exact .cons (dp_keep hp k d _ h1) (dps_keep hp k ds _ h2)
end
theorem dps_get : ∀ (xs : List V) (ds : List PyData), DpAll K H xs ds → ∀ (i : Nat) (x : V), xs[i]? = some x → ∃ d, ds[i]? = some d ∧ Dp K H x d
  | [], _, _, i, x, h => by simp at h
  | y :: ys, _, z, 0, x, h => by
    have e : y = x := by simpa using h
    subst e
    cases z with
    | cons h1 h2 => exact ⟨_, rfl, h1⟩
  | y :: ys, _, z, i + 1, x, h => by
    cases z with
    | cons h1 h2 =>
      obtain ⟨d, e, z⟩ := dps_get ys _ h2 i x (by simpa using h)
      exact ⟨d, by simpa using e, z⟩
theorem dps_take : ∀ (xs : List V) (ds : List PyData), DpAll K H xs ds → ∀ n : Nat, DpAll K H (xs.take n) (ds.take n)
  | [], _, z, n => by
    cases z
    rw [List.take_nil, List.take_nil]
    exact .nil
  | x :: xs, _, z, 0 => .nil
  | x :: xs, _, z, n + 1 => by
    cases z with
    | cons h1 h2 => exact .cons h1 (dps_take xs _ h2 n)
end
/-- what repr shows, in few signs -/
structure Fine (d : PyData) : Prop where
  sh : d.showable = true
  nd : d.hasDict = false
  dp : d.depth ≤ 4
  ln : d.shown.length ≤ 1000
theorem fine_nat {r : Nat} (h : r < 10 ^ 40) : Fine (.int (r : Int)) := by
  refine ⟨?_, by simp only [PyData.hasDict], by simp only [PyData.depth]; omega, ?_⟩
  · simp only [PyData.showable, Int.natAbs_natCast, decide_eq_true_eq]
    by_cases h0 : r = 0
    · subst h0
      decide
    · rw [Nat.log2_lt h0]
      exact Nat.lt_trans h (by decide)
  · simp only [PyData.shown]
    exact Nat.le_trans (num_le r 39 h) (by decide)
theorem fine_neg : ∀ d : Nat, d < 9 → Fine (.int (-1 - (d : Int))) := fun d h => by
  have key : ∀ d : Nat, d < 9 → (PyData.showable (.int (-1 - (d : Int))) = true ∧ PyData.hasDict (.int (-1 - (d : Int))) = false ∧ PyData.depth (.int (-1 - (d : Int))) ≤ 4 ∧ (PyData.shown (.int (-1 - (d : Int)))).length ≤ 1000) := by decide +kernel
  exact ⟨(key d h).1, (key d h).2.1, (key d h).2.2.1, (key d h).2.2.2⟩
theorem fine_by {d : PyData} (h : (d.showable && (!d.hasDict && (decide (d.depth ≤ 4) && decide (d.shown.length ≤ 1000)))) = true) : Fine d := by
  simp only [Bool.and_eq_true, decide_eq_true_eq, Bool.not_eq_true'] at h
  exact ⟨h.1, h.2.1, h.2.2.1, h.2.2.2⟩
theorem fine_all : ∀ (ds : List PyData), (∀ d ∈ ds, Fine d) → PyData.showableAll ds = true ∧ PyData.hasDictAll ds = false ∧ PyData.depthAll ds ≤ 4 ∧ piled (PyData.shownAll ds) ≤ 1002 * ds.length
  | [], _ => by
    simp only [PyData.showableAll, PyData.hasDictAll, PyData.depthAll, PyData.shownAll, piled_nil]
    exact ⟨trivial, trivial, by omega, by omega⟩
  | d :: ds, h => by
    obtain ⟨a1, a2, a3, a4⟩ := fine_all ds fun e he => h e (List.mem_cons_of_mem _ he)
    obtain ⟨b1, b2, b3, b4⟩ := h d List.mem_cons_self
    simp only [PyData.showableAll, PyData.hasDictAll, PyData.depthAll, PyData.shownAll, piled_cons, List.length_cons]
    refine ⟨by rw [a1, b1]; rfl, by rw [a2, b2]; rfl, by omega, by omega⟩
theorem fine_tuple {ds : List PyData} (h : ∀ d ∈ ds, Fine d) (hl : ds.length ≤ 3) : (PyData.tuple ds).showable = true ∧ (PyData.tuple ds).hasDict = false ∧ (PyData.tuple ds).depth ≤ 50 ∧ (PyData.tuple ds).shown.length ≤ sizeLine := by
  obtain ⟨a1, a2, a3, a4⟩ := fine_all ds h
  simp only [PyData.showable, PyData.hasDict, PyData.depth, PyData.shown]
  refine ⟨a1, a2, by omega, ?_⟩
  have := fmt_text (PyData.shownAll ds)
  rw [sizeLine_eq]
  omega
end Sq

set_option Elab.async false
set_option linter.all false
set_option maxRecDepth 100000
set_option maxHeartbeats 4000000
/-! The law. -/
namespace Sq
open PySem PySem.Spec PyProof.Rows L2
def spLaw (K : PySem.W.Frag) : Sp := fun vs H Q _ => ∃ (a : Addr) (zs : List Int), vs = [.ref a] ∧ SqL K H a (zs.map V.int) ∧ zs.length ≤ 63 ∧ ∀ H', Q (.bl true) H'
/-- the menu's values -/
def menuV (r : Nat) (g : Nat) (t1 l1 t2 t3 : Addr) : List V := [.non, .bl true, .int (r : Int), .str "", .str "log", .ref t1, .ref l1, .int (-1 - (g : Int)), .ref t2, .ref t3]
def menuD (r g : Nat) : List PyData := [.none, .bool true, .int (r : Int), .str "", .str "log", .tuple [.int 1, .int 2], .list [.int 3], .int (-1 - (g : Int)), .tuple [.str "b", .str "c"], .tuple [.tuple [.int 0, .int 0]]]
theorem menu_fine {r g : Nat} (hr : r < 10 ^ 40) (hg : g < 9) : ∀ d ∈ menuD r g, Fine d := by
  intro d hd
  simp only [menuD, List.mem_cons, List.not_mem_nil, or_false] at hd
  rcases hd with rfl | rfl | rfl | rfl | rfl | rfl | rfl | rfl | rfl | rfl
  · exact fine_by (by decide +kernel)
  · exact fine_by (by decide +kernel)
  · exact fine_nat hr
  · exact fine_by (by decide +kernel)
  · exact fine_by (by decide +kernel)
  · exact fine_by (by decide +kernel)
  · exact fine_by (by decide +kernel)
  · exact fine_neg g hg
  · exact fine_by (by decide +kernel)
  · exact fine_by (by decide +kernel)
theorem bools_dp {K : PySem.W.Frag} {H : Hp} : ∀ l : List Bool, DpAll K H (l.map V.bl) (l.map PyData.bool)
  | [] => .nil
  | b :: l => .cons (.bl b) (bools_dp l)
theorem bools_lay : ∀ l : List Bool, PyData.canLayAll0 (l.map PyData.bool) = true ∧ PyData.depthAll (l.map PyData.bool) = 0
  | [] => by simp [PyData.canLayAll0, PyData.depthAll]
  | b :: l => by
    obtain ⟨h1, h2⟩ := bools_lay l
    simp [PyData.canLayAll0, PyData.canLay0, PyData.depthAll, PyData.depth, h1, h2]
theorem bools_shaped (l : List Bool) : SeqAt.shaped (.list (l.map PyData.bool)) = true := by
  obtain ⟨h1, h2⟩ := bools_lay l
  show (PyData.canLay0 (.list (l.map PyData.bool)) && decide (PyData.depth (.list (l.map PyData.bool)) ≤ 64)) = true
  rw [Bool.and_eq_true]
  refine ⟨by simp only [PyData.canLay0]; exact h1, decide_eq_true ?_⟩
  simp only [PyData.depth, h2]
  omega
theorem len_ns : ∀ i, i < 13 → (eNs i).length ≤ 3 := by decide +kernel
/-- the last two rows of the loop -/
def lawTail : List Stmt := match (defBody sLaw).getD 1 (.Pass ⟨0, 0, 0, 0⟩) with
  | .For _ _ b _ _ => b.drop 4
  | _ => []
abbrev lawN : List Str := ["_law_script", "_law_pen_here", "_law_kind", "_law_menu", "_law_a", "_law_b", "_law_c", "_law_e", "_law_fields", "_law_k"]
theorem scL : FnScope lawN ["_law_script"] (defScope sLaw) := ⟨rfl, rfl, rfl, by decide +kernel, rfl, by decide +kernel, by decide +kernel⟩
/-- where the law's defs stand -/
structure Defs (K : PySem.W.Frag) (mg : Str → Option Value) (f0 f1 f2 f3 f4 f5 f6 : Addr) (d0 d1 d2 d3 d4 d5 d6 : FuncData) : Prop where
  pen : FnP K "_law_pen" sPen f0 d0
  draw : FnP K "_law_draw" sDraw f1 d1
  pick : FnP K "_law_pick" sPick f2 d2
  big : FnP K "_law_big" sBig f3 d3
  one : FnP K "_law_one" sOne f4 d4
  more : FnP K "_law_more" sMore f5 d5
  kinds : FnP K "_law_kinds" sKinds f6 d6
  g0 : mg "_law_pen" = some (.ref f0)
  g1 : mg "_law_draw" = some (.ref f1)
  g2 : mg "_law_pick" = some (.ref f2)
  g3 : mg "_law_big" = some (.ref f3)
  g4 : mg "_law_one" = some (.ref f4)
  g5 : mg "_law_more" = some (.ref f5)
  g6 : mg "_law_kinds" = some (.ref f6)
  int : mg "int" = none
  list : mg "list" = none
  len : mg "len" = none
  str : mg "str" = none
  range : mg "range" = none
  repr : mg "repr" = none
  isi : mg "isinstance" = none
section
variable {P : Program} {w : World} {K : PySem.W.Frag} {mg : Str → Option Value} {base : Heap}
theorem run_law {f f0 f1 f2 f3 f4 f5 f6 : Addr} {fd d0 d1 d2 d3 d4 d5 d6 : FuncData} (F : FnP K "law" sLaw f fd) (D : Defs K mg f0 f1 f2 f3 f4 f5 f6 d0 d1 d2 d3 d4 d5 d6) (T : Errs P K mg) : RunG P w K mg base CX0 5 f fd ["_law_script"] (spLaw K) := by
  have G0 : FnOk P w K mg base CX0 1 f0 d0 ["_law_script"] (spPen K) := ok_pen D.pen D.int D.list
  have G1 : FnOk P w K mg base CX0 1 f1 d1 ["_law_pen_here", "_law_many"] spDraw := ok_draw D.draw D.int D.len
  have G2 : FnOk P w K mg base CX0 2 f2 d2 ["_law_pen_here", "_law_some"] (spPick K) := ok_pick D.pick D.draw D.g1 D.int D.len
  have G3 : FnOk P w K mg base CX0 3 f3 d3 ["_law_pen_here", "_law_figures"] spBig := ok_big D.big D.draw D.pick D.g1 D.g2 D.int D.len D.str D.range
  have G4 : FnOk P w K mg base CX0 3 f4 d4 ["_law_kind", "_law_a", "_law_b", "_law_c"] (spOne K 0) := ok_one D.one D.more D.g5 T
  have G6 : FnOk P w K mg base CX0 1 f6 d6 ["_law_e"] (spKinds K) := ok_kinds D.kinds T D.isi
  have b0 : Binds K d0 ["_law_script"] [] := D.pen.bindsN fun _ _ _ _ _ _ us hl => match us, hl with | [_], _ => rfl
  have b1 : Binds K d1 ["_law_pen_here", "_law_many"] [] := D.draw.bindsN fun _ _ _ _ _ _ us hl => match us, hl with | [_, _], _ => rfl
  have b2 : Binds K d2 ["_law_pen_here", "_law_some"] [] := D.pick.bindsN fun _ _ _ _ _ _ us hl => match us, hl with | [_, _], _ => rfl
  have b3 : Binds K d3 ["_law_pen_here", "_law_figures"] [] := D.big.bindsN fun _ _ _ _ _ _ us hl => match us, hl with | [_, _], _ => rfl
  have b4 : Binds K d4 ["_law_kind", "_law_a", "_law_b", "_law_c"] [] := D.one.bindsN fun _ _ _ _ _ _ us hl => match us, hl with | [_, _, _, _], _ => rfl
  have b6 : Binds K d6 ["_law_e"] [] := D.kinds.bindsN fun _ _ _ _ _ _ us hl => match us, hl with | [_], _ => rfl
  refine fund_runG F scL (fun vs H Q E h => ?_) (fun cdv A outer s H vs Q E hg hr h => ?_)
  · obtain ⟨a, zs, rfl, _⟩ := h
    rfl
  · obtain ⟨a, zs, rfl, hS, hl, k⟩ := h
    have hr1 : Room 1 _ := hr.mono (by decide)
    have hr2 : Room 2 _ := hr.mono (by decide)
    have hr3 : Room 3 _ := hr.mono (by decide)
    have hu : A.units + 3 + 64 < cLine := hr.units
    obtain ⟨tt, htt, key⟩ : ∃ t, PSs (cxOf CX0 P w K mg base lawN "law" (defScope sLaw) f cdv A outer s H E).nox lawTail t ∧
        ∀ (Dd : Ends) (i : Nat) (v3 v4 v5 v6 v8 : Option V) (b1 b2 e : Addr) (d : Option Addr) (H9 : Hp), i < 13 → H9 e = some (exo e (cE K i) d) → (∀ dx, d = some dx → ∃ fs, H9 dx = some (exd dx fs)) →
          (∀ H', Same H9 H' → Dd.nx [some (.ref b1), some (.ref b2), some (.int (i : Int)), v3, v4, v5, v6, some (.ref e), v8, none] H') → t Dd [some (.ref b1), some (.ref b2), some (.int (i : Int)), v3, v4, v5, v6, some (.ref e), v8, none] H9 := by
      refine ⟨_, pss_cons (ps_if (PW.pt (pw_or (pt_not (pt_val (pe_callB call_isErr (by rfl) D.isi PyProof.Rows.boot_isinstance (pa_cons (pv 7) (pa_cons (pe_glob (v := .ref (He.ga K "SlideError")) (by rfl) T.gs rfl) pa_nil))))) (pw_or1 (pt_not (pt_val (pe_callB call_isErr (by rfl) D.isi PyProof.Rows.boot_isinstance (pa_cons (pv 7) (pa_cons (pe_bltn (v := .ty "ValueError") (by rfl) T.gv PyProof.Rows.Boot.«ValueError» rfl) pa_nil)))))))) (pss_one (ps_ret pe_bl)) pss_nil)
        (pss_one (ps_if (pt_cmpR (op_neD hu) (pe_call G6 hr1 rfl D.g6 D.kinds.kp b6 .nil pass0 (pa_cons (pv 7) pa_nil)) (pe_lc (own := [("_law_k", 9)]) (g := gName 9) (tt := tYes) rfl scL.nd (pi_range1 (by rfl) D.range (pa_cons pe_int pa_nil)) (blkOk_by (N := lawN) (sc := defScope sLaw) (by decide +kernel)) (fun _ _ _ _ _ => pg_name (i := 9) scL.nd rfl (Or.inl rfl)) (fun _ _ _ _ _ => pts_nil) (fun _ _ _ _ _ => pe_cmpR op_eq (pv 9) (pv 2) (nomark _))) (nomark _)) (pss_one (ps_ret pe_bl)) pss_nil)), ?_⟩
      intro Dd i v3 v4 v5 v6 v8 b1 b2 e d H9 hi ee ed kk
      refine ⟨_, rfl, ⟨e, cE K i, d, .ref (He.ga K "SlideError"), _, true, rfl, ee, ed, fun _ r => r, T.sl i hi, T.ce i hi, ⟨true, rfl, iteF ?_⟩⟩⟩
      refine ⟨_, rfl, ⟨e, cE K i, d, .ty "ValueError", _, true, rfl, ee, ed, fun _ r => r, T.ve i hi, T.ce i hi, ⟨true, rfl, iteF ?_⟩⟩⟩
      refine ⟨_, rfl, e, i, d, rfl, hi, ee, ed, fun r2 H10 s10 e10 => ?_⟩
      refine ⟨13, rfl, by decide, by decide, fun D hD => lc_range (lo := 0) (n := 13) (fun j H => H = upd H10 D (.lst ((List.range j).map fun j => V.bl (decide (i = j))))) rfl ?_ ?_⟩
      · rintro j H hj rfl
        rw [Int.zero_add]
        refine ⟨rfl, ?_⟩
        simp only [tYes, ↓reduceIte]
        refine ⟨_, rfl, _, rfl, rfl, _, upd_same, (by rw [List.length_map, List.length_range, sizeLine_eq]; omega), ?_⟩
        rw [upd_upd, List.range_succ, List.map_append]
        have ez : decide (V.int (j : Int) = V.int (i : Int)) = decide (i = j) := by
          by_cases z : i = j
          · subst z
            rw [decide_eq_true rfl, decide_eq_true rfl]
          · rw [decide_eq_false z]
            exact decide_eq_false fun q => z (by have := V.int.inj q; omega)
        rw [ez]
        rfl
      · rintro H rfl
        have sh : SeqAt.shaped (.list (((List.range 13).map fun j => decide (i = j)).map PyData.bool)) = true := bools_shaped _
        have ek : kindsV i = ((List.range 13).map fun j => decide (i = j)).map V.bl := by
          unfold kindsV
          rw [List.map_map]
          rfl
        have ek2 : ((List.range 13).map fun j => V.bl (decide (i = j))) = ((List.range 13).map fun j => decide (i = j)).map V.bl := ek
        have er2 := same_new (o := .lst ((List.range 13).map fun j => V.bl (decide (i = j)))) hD _ _ e10
        refine ⟨.list (((List.range 13).map fun j => decide (i = j)).map PyData.bool), .list (((List.range 13).map fun j => decide (i = j)).map PyData.bool), .lst (SqL.of er2) (by rw [ek]; exact bools_dp _), .lst (SqL.of upd_same) (by rw [ek2]; exact bools_dp _), sh, sh, _, rfl, ?_⟩
        rw [SeqAt.eqv_refl _ (SeqAt.canLay_of_shaped sh)]
        exact iteF (kk _ (s10.trans (same_new hD)))
    refine ⟨_, PSs.nox (pss_cons (ps_set (i := 1) scL.nd rfl (.inl rfl) (pe_call G0 hr1 rfl D.g0 D.pen.kp b0 .nil pass0 (pa_cons (pv 0) pa_nil)))
      (pss_cons (ps_for PassesOwn.never rfl (pi_range1 (by rfl) D.range (pa_cons pe_int pa_nil)) (pg_name (i := 2) scL.nd rfl (.inr rfl))
        (pss_cons (ps_set (i := 3) scL.nd rfl (.inl rfl) (pe_lst (pa_cons pe_non (pa_cons pe_bl (pa_cons (pe_call G3 hr3 rfl D.g3 D.big.kp b3 .nil pass0 (pa_cons (pv 1) (pa_cons pe_int pa_nil))) (pa_cons pe_str (pa_cons pe_str (pa_cons (pe_tup (pa_cons pe_int (pa_cons pe_int pa_nil))) (pa_cons (pe_lst (pa_cons pe_int pa_nil))
            (pa_cons (pe_op op_sub (pe_un un_neg pe_int) (pe_call G1 hr1 rfl D.g1 D.draw.kp b1 .nil pass0 (pa_cons (pv 1) (pa_cons pe_int pa_nil)))) (pa_cons (pe_tup (pa_cons pe_str (pa_cons pe_str pa_nil))) (pa_cons (pe_tup (pa_cons (pe_tup (pa_cons pe_int (pa_cons pe_int pa_nil))) pa_nil)) pa_nil))))))))))))
        (pss_cons (ps_par3 (i := 4) (j := 5) (l := 6) rfl scL.nd rfl rfl rfl (by decide) (by decide) (by decide) rfl rfl rfl (pa_cons (pe_call G2 hr2 rfl D.g2 D.pick.kp b2 .nil pass0 (pa_cons (pv 1) (pa_cons (pv 3) pa_nil))) (pa_cons (pe_call G2 hr2 rfl D.g2 D.pick.kp b2 .nil pass0 (pa_cons (pv 1) (pa_cons (pv 3) pa_nil))) (pa_cons (pe_call G2 hr2 rfl D.g2 D.pick.kp b2 .nil pass0 (pa_cons (pv 1) (pa_cons (pv 3) pa_nil))) pa_nil))) rfl)
        (pss_cons (ps_asg (pe_call G4 hr3 rfl D.g4 D.one.kp b4 .nil pass0 (pa_cons (pv 2) (pa_cons (pv 4) (pa_cons (pv 5) (pa_cons (pv 6) pa_nil))))) (pg_tup rfl (pgs_cons (pg_name (i := 7) scL.nd rfl (.inl rfl)) (pgs_cons (pg_name (i := 8) scL.nd rfl (.inl rfl)) pgs_nil))))
        (pss_cons (ps_if (pt_cmpR op_ne (pe_callB (call_reprD hg hr) (by rfl) D.repr PyProof.Rows.boot_repr (pa_cons (pv 8) pa_nil)) (pe_callB (call_reprD hg hr) (by rfl) D.repr PyProof.Rows.boot_repr (pa_cons (pe_slice sl_tupA (pe_tup (pa_cons (pv 4) (pa_cons (pv 5) (pa_cons (pv 6) pa_nil)))) po_none (po_some (pe_callB call_len_seq (by rfl) D.len PySem.boot_len (pa_cons (pv 8) pa_nil)))) pa_nil)) (nomark _)) (pss_one (ps_ret pe_bl)) pss_nil)
        htt)))))
      (pss_one (ps_ret pe_bl)))), ?_⟩
    refine ⟨_, rfl, a, zs, rfl, hS, hl, fun p H1 hp1 s1 np => ?_⟩
    refine ⟨13, rfl, by decide, by decide, for_range (lo := 0) (n := 13) (fun i σ H2 => ∃ (n : Nat) (v2 v3 v4 v5 v6 v7 v8 : Option V), σ = [some (.ref a), some (.ref p), v2, v3, v4, v5, v6, v7, v8, none] ∧ PenAt H2 p n ∧ n ≤ 20 * i)
      ⟨0, none, none, none, none, none, none, none, rfl, hp1, Nat.le_refl _⟩ ?_ ?_⟩
    · rintro i σ H2 hi ⟨n, v2, v3, v4, v5, v6, v7, v8, rfl, hp2, hn⟩
      rw [Int.zero_add]
      refine ⟨_, rfl, p, n, rfl, hp2, by omega, fun r n3 H3 hr3 hn3 hp3 k3 => ?_⟩
      refine ⟨two_le, fun t1 nt1 => ⟨one_le, fun l1 nl1 => ?_⟩⟩
      have hpb := (hp3.same (same_new (o := .tup [.int 1, .int 2]) nt1)).same (same_new (o := .lst [.int 3]) nl1)
      refine ⟨_, rfl, _, rfl, p, n3, 9, rfl, hpb, by decide, by decide, by omega, fun g0 H4 g1 g2 hp4 kb4 => ?_⟩
      obtain ⟨g, rfl⟩ := Int.eq_ofNat_of_zero_le g1
      refine ⟨_, _, rfl, rfl, two_le, fun t2 nt2 => ⟨two_le, fun t0 nt0 => ⟨one_le, fun t3 nt3 => ⟨(by show 10 ≤ sizeLine; rw [sizeLine_eq]; decide), fun mn nmn => ?_⟩⟩⟩⟩
      obtain ⟨Hm, eHm, em, dm, hpm⟩ : ∃ Hm, Hm = upd (upd (upd (upd H4 t2 (.tup [.str "b", .str "c"])) t0 (.tup [.int 0, .int 0])) t3 (.tup [.ref t0])) mn (.lst (menuV r g t1 l1 t2 t3)) ∧ Hm mn = some (.lst (menuV r g t1 l1 t2 t3)) ∧
          DpAll K Hm (menuV r g t1 l1 t2 t3) (menuD r g) ∧ PenAt Hm p (n3 + 1) := by
        obtain ⟨c3, zs3, i3, dg3, fo3, ep3, _⟩ := hp3.ex
        have tp : t1 ≠ p := Ne.symm (ne_of_none ep3 nt1)
        have epa := same_new (o := .tup [.int 1, .int 2]) nt1 _ _ ep3
        have lp : l1 ≠ p := Ne.symm (ne_of_none epa nl1)
        have kc := same_new (o := .tup [.str "b", .str "c"]) nt2
        have kd := same_new (o := .tup [.int 0, .int 0]) nt0
        have ke := same_new (o := .tup [.ref t0]) nt3
        have km := same_new (o := .lst (menuV r g t1 l1 t2 t3)) nmn
        have kall := ((kc.trans kd).trans ke).trans km
        have e1 : upd (upd H3 t1 (.tup [.int 1, .int 2])) l1 (.lst [.int 3]) t1 = some (.tup [.int 1, .int 2]) := same_new nl1 _ _ upd_same
        have e2 : upd (upd H3 t1 (.tup [.int 1, .int 2])) l1 (.lst [.int 3]) l1 = some (.lst [.int 3]) := upd_same
        have f1 := kall _ _ ((kb4 t1 tp).trans e1)
        have f2 := kall _ _ ((kb4 l1 lp).trans e2)
        have f3 := km _ _ (ke _ _ (kd _ _ (upd_same (H := H4) (a := t2) (o := .tup [.str "b", .str "c"]))))
        have f4 := km _ _ (ke _ _ (upd_same (H := upd H4 t2 (.tup [.str "b", .str "c"])) (a := t0) (o := .tup [.int 0, .int 0])))
        have f5 := km _ _ (upd_same (H := upd (upd H4 t2 (.tup [.str "b", .str "c"])) t0 (.tup [.int 0, .int 0])) (a := t3) (o := .tup [.ref t0]))
        refine ⟨_, rfl, upd_same, ?_, hp4.same kall⟩
        exact .cons .non (.cons (.bl true) (.cons (.int _) (.cons (.str _) (.cons (.str _) (.cons (.tup (SqT.of f1) (.cons (.int 1) (.cons (.int 2) .nil))) (.cons (.lst (SqL.of f2) (.cons (.int 3) .nil)) (.cons (.int _) (.cons (.tup (SqT.of f3) (.cons (.str _) (.cons (.str _) .nil)))
          (.cons (.tup (SqT.of f5) (.cons (.tup (SqT.of f4) (.cons (.int 0) (.cons (.int 0) .nil))) .nil)) .nil)))))))))
      have hg9 : g < 9 := by omega
      have mf := menu_fine hr3 hg9
      show gName 3 (.ref mn) ([some (V.ref a), some (V.ref p), v2, v3, v4, v5, v6, v7, v8, none].set 2 (some (V.int (i : Int)))) (upd (upd (upd (upd H4 t2 (.tup [.str "b", .str "c"])) t0 (.tup [.int 0, .int 0])) t3 (.tup [.ref t0])) mn (.lst (menuV r g t1 l1 t2 t3))) _
      rw [← eHm]
      clear eHm nmn nt3 nt0 nt2 kb4 hp4 hpb nl1 nt1
      generalize hmv : menuV r g t1 l1 t2 t3 = mv at em dm
      generalize hmd : menuD r g = md at dm mf
      have hlv : mv.length = 10 := by rw [← hmv]; rfl
      clear hmv hmd
      -- the picks
      refine ⟨_, rfl, _, rfl, p, mn, n3 + 1, mv, rfl, hpm, by omega, .inl (SqL.of em), by omega, by omega, fun i1 x1 H5 hx1 hp5 kb5 => ?_⟩
      have cm : ∃ kvs, Hm p = some (.dK kvs) := by
        obtain ⟨c3, zs3, i3, dg3, fo3, ep3, _⟩ := hpm.ex
        exact ⟨_, ep3⟩
      obtain ⟨kvm, ekm⟩ := cm
      refine ⟨_, rfl, _, rfl, p, mn, n3 + 2, mv, rfl, hp5, by omega, .inl (sqL_keep ekm (Keep.eq kb5) (SqL.of em)), by omega, by omega, fun i2 x2 H6 hx2 hp6 kb6 => ?_⟩
      refine ⟨_, rfl, _, rfl, p, mn, n3 + 3, mv, rfl, hp6, by omega, .inl (sqL_keep ekm ((Keep.eq kb5).trans (Keep.eq kb6)) (SqL.of em)), by omega, by omega, fun i3 x3 H7 hx3 hp7 kb7 => ?_⟩
      have k7 : Keep p Hm H7 := ((Keep.eq kb5).trans (Keep.eq kb6)).trans (Keep.eq kb7)
      obtain ⟨y1, hy1, q1⟩ := dps_get mv md dm i1 x1 hx1
      obtain ⟨y2, hy2, q2⟩ := dps_get mv md dm i2 x2 hx2
      obtain ⟨y3, hy3, q3⟩ := dps_get mv md dm i3 x3 hx3
      have z1 := mf y1 (List.mem_of_getElem? hy1)
      have z2 := mf y2 (List.mem_of_getElem? hy2)
      have z3 := mf y3 (List.mem_of_getElem? hy3)
      have w1 := dp_keep ekm k7 y1 x1 q1
      have w2 := dp_keep ekm k7 y2 x2 q2
      have w3 := dp_keep ekm k7 y3 x3 q3
      obtain ⟨c7, zs7, i7, dg7, fo7, ep7, _⟩ := hp7.ex
      refine ⟨x1, x2, x3, rfl, ?_⟩
      -- the error and its fields
      refine ⟨_, rfl, _, rfl, _, rfl, _, rfl, i, x1, x2, x3, rfl, Nat.zero_le _, hi, fun e t rr d H8 s8 ee ed et er => ?_⟩
      have hp8 := hp7.same s8
      have u1 := dp_keep ep7 (Keep.of s8) y1 x1 w1
      have u2 := dp_keep ep7 (Keep.of s8) y2 x2 w2
      have u3 := dp_keep ep7 (Keep.of s8) y3 x3 w3
      have ep8 := s8 _ _ ep7
      refine ⟨rr, _, rfl, SqT.of er, rfl, ?_⟩
      refine ⟨_, _, rfl, _, _, rfl, rfl, ?_⟩
      have m3 : (eNs i).length ≤ 3 := len_ns i hi
      generalize (eNs i).length = m at et m3
      have u123 : DpAll K H8 [x1, x2, x3] [y1, y2, y3] := .cons u1 (.cons u2 (.cons u3 .nil))
      have utk := dps_take _ _ u123 m
      have fin3 : ∀ y ∈ [y1, y2, y3].take m, Fine y := fun y hy => by
        have := List.mem_of_mem_take hy
        simp only [List.mem_cons, List.not_mem_nil, or_false] at this
        rcases this with rfl | rfl | rfl
        · exact z1
        · exact z2
        · exact z3
      obtain ⟨sh1, sh2, sh3, sh4⟩ := fine_tuple fin3 (by rw [List.length_take]; show min m 3 ≤ 3; omega)
      have lf : ([x1, x2, x3].take m).length = m := by
        rw [List.length_take]
        show min m 3 = m
        omega
      refine ⟨_, rfl, t, .tuple ([y1, y2, y3].take m), rfl, .tup (SqT.of et) utk, sh1, sh2, sh3, sh4, ?_⟩
      refine ⟨_, rfl, _, rfl, _, rfl, three_le, fun u nu => ?_⟩
      have ku := same_new (o := .tup [x1, x2, x3]) nu
      refine ⟨_, rfl, t, _, rfl, .inr (SqT.of (ku _ _ et)), _, rfl, u, [x1, x2, x3], rfl, SqT.of upd_same, fun hc => ?_, fun _ v nv => ?_⟩
      · -- all three: the tuple itself
        have em3 : m = 3 := by
          have y := hc.2
          rw [lf] at y
          have y2 : HT.sIx 3 3 (some (m : Int)) = 3 := y
          rw [HT.sIx_nat] at y2
          omega
        refine ⟨u, .tuple ([y1, y2, y3].take m), rfl, ?_, sh1, sh2, sh3, sh4, ?_⟩
        · rw [em3]
          exact .tup (SqT.of upd_same) (dps_keep ep8 (Keep.of ku) _ _ u123)
        · exact ⟨rfl, _, rfl, iteNS rfl (key _ i _ _ _ _ _ a p e d _ hi (ku _ _ ee) (fun dx q => by
            obtain ⟨fs, z⟩ := ed dx q
            exact ⟨fs, ku _ _ z⟩) fun H' sm => ⟨n3 + 4, _, _, _, _, _, _, _, rfl, (hp8.same ku).same sm, by omega⟩)⟩
      · have ec : cutV [x1, x2, x3] none (some ((([x1, x2, x3].take m).length : Nat) : Int)) = [x1, x2, x3].take m := by
          rw [lf]
          unfold cutV
          rw [HT.sIx_none, HT.sIx_nat]
          show ([x1, x2, x3].drop 0).take (min m 3 - 0) = _
          rw [List.drop_zero, Nat.min_eq_left m3, Nat.sub_zero]
        have kv := same_new (o := .tup (cutV [x1, x2, x3] none (some ((([x1, x2, x3].take m).length : Nat) : Int)))) nv
        have kuv := ku.trans kv
        refine ⟨v, .tuple ([y1, y2, y3].take m), rfl, ?_, sh1, sh2, sh3, sh4, ?_⟩
        · refine .tup (SqT.of (upd_same (H := upd H8 u (.tup [x1, x2, x3])))) ?_
          rw [ec]
          exact dps_keep ep8 (Keep.of (by rw [ec] at kuv; exact kuv)) _ _ utk
        · exact ⟨rfl, _, rfl, iteNS rfl (key _ i _ _ _ _ _ a p e d _ hi (kuv _ _ ee) (fun dx q => by
            obtain ⟨fs, z⟩ := ed dx q
            exact ⟨fs, kuv _ _ z⟩) fun H' sm => ⟨n3 + 4, _, _, _, _, _, _, _, rfl, (hp8.same kuv).same sm, by omega⟩)⟩
    · rintro σ H2 _
      exact k H2
end
end Sq

set_option Elab.async false
set_option linter.all false
set_option maxRecDepth 100000
set_option maxHeartbeats 4000000
/-! What the head must tell of the errors' classes, as a Bool and a datum. -/
namespace Sq
open PySem PySem.Spec PyProof.Rows L2
/-! ### the text of an __init__ -/
structure ITxt (st : Stmt) (ns : List Str) : Prop where
  ex : ∃ (msg : Str) (j : Nat) (p0 p1 p2 p3 p4 p5 : Pos) (ps : List Ps) (ar : Arg), defBody st = supS msg j p0 p1 p2 p3 p4 p5 :: (ns.zip ps).map (fun z => keepS z.1 z.2) ∧ ns.length ≤ ps.length ∧ ((defArgs st).posonlyargs ++ (defArgs st).args).head? = some ar ∧
    ar.arg = "self" ∧ (p2.endLine == p4.line) = true
  bind : ∀ (name qual : Str) (kV doc pm cdv ct : Value) (an : Option Addr) (cc : Addr) (s : Shared) (us : List Value), us.length = ns.length + 1 →
    BindsTo s (PySem.W.ksFn name qual (defArgs st) (defBody st) (defScope st) .none kV doc pm an cdv ct cc) ⟨us, []⟩ ((("self" : Str) :: ns).zip us)
  sup : (defScope st).names.lookup ("super" : Str) = some .globalImplicit
  cls : (defScope st).names.lookup ("__class__" : Str) = some .free
  loc : ∀ x ∈ (("self" : Str) :: ns), (defScope st).names.lookup x = some .local
  dbg : ∀ x ∈ ns, (x == ("__debug__" : Str)) = false
  cell : ∀ x ∈ (defScope st).names, x.2 ≠ .cell
  co : (defScope st).isCoroutine = false
  gen : (defScope st).isGenerator = false
  kind : (defScope st).kind = .function
  nd : ns.Nodup
  noSelf : ("self" : Str) ∉ ns
  len : ns.length ≤ 900
abbrev sI (j : Nat) : Stmt := inClass (top j) 0
theorem i0 : ITxt (sI 4) ["name"] := ⟨⟨_, _, _, _, _, _, _, _, [⟨_, _, _, _⟩], _, rfl, by decide, rfl, rfl, rfl⟩, fun _ _ _ _ _ _ _ _ _ _ us hl => (match us, hl with | [_, _], _ => .of_eq rfl), rfl, rfl, by decide +kernel, by decide +kernel, by decide +kernel, rfl, rfl, rfl, by decide +kernel, by decide +kernel, by decide⟩
theorem i1 : ITxt (sI 7) ["name"] := ⟨⟨_, _, _, _, _, _, _, _, [⟨_, _, _, _⟩], _, rfl, by decide, rfl, rfl, rfl⟩, fun _ _ _ _ _ _ _ _ _ _ us hl => (match us, hl with | [_, _], _ => .of_eq rfl), rfl, rfl, by decide +kernel, by decide +kernel, by decide +kernel, rfl, rfl, rfl, by decide +kernel, by decide +kernel, by decide⟩
theorem i2 : ITxt (sI 8) ["name"] := ⟨⟨_, _, _, _, _, _, _, _, [⟨_, _, _, _⟩], _, rfl, by decide, rfl, rfl, rfl⟩, fun _ _ _ _ _ _ _ _ _ _ us hl => (match us, hl with | [_, _], _ => .of_eq rfl), rfl, rfl, by decide +kernel, by decide +kernel, by decide +kernel, rfl, rfl, rfl, by decide +kernel, by decide +kernel, by decide⟩
theorem i3 : ITxt (sI 5) ["cell"] := ⟨⟨_, _, _, _, _, _, _, _, [⟨_, _, _, _⟩], _, rfl, by decide, rfl, rfl, rfl⟩, fun _ _ _ _ _ _ _ _ _ _ us hl => (match us, hl with | [_, _], _ => .of_eq rfl), rfl, rfl, by decide +kernel, by decide +kernel, by decide +kernel, rfl, rfl, rfl, by decide +kernel, by decide +kernel, by decide⟩
theorem i4 : ITxt (sI 9) ["cell"] := ⟨⟨_, _, _, _, _, _, _, _, [⟨_, _, _, _⟩], _, rfl, by decide, rfl, rfl, rfl⟩, fun _ _ _ _ _ _ _ _ _ _ us hl => (match us, hl with | [_, _], _ => .of_eq rfl), rfl, rfl, by decide +kernel, by decide +kernel, by decide +kernel, rfl, rfl, rfl, by decide +kernel, by decide +kernel, by decide⟩
theorem i5 : ITxt (sI 6) ["cells"] := ⟨⟨_, _, _, _, _, _, _, _, [⟨_, _, _, _⟩], _, rfl, by decide, rfl, rfl, rfl⟩, fun _ _ _ _ _ _ _ _ _ _ us hl => (match us, hl with | [_, _], _ => .of_eq rfl), rfl, rfl, by decide +kernel, by decide +kernel, by decide +kernel, rfl, rfl, rfl, by decide +kernel, by decide +kernel, by decide⟩
theorem i6 : ITxt (sI 2) ["line", "column"] := ⟨⟨_, _, _, _, _, _, _, _, [⟨_, _, _, _⟩, ⟨_, _, _, _⟩], _, rfl, by decide, rfl, rfl, rfl⟩, fun _ _ _ _ _ _ _ _ _ _ us hl => (match us, hl with | [_, _, _], _ => .of_eq rfl), rfl, rfl, by decide +kernel, by decide +kernel, by decide +kernel, rfl, rfl, rfl, by decide +kernel, by decide +kernel, by decide⟩
theorem i7 : ITxt (sI 3) ["what", "number"] := ⟨⟨_, _, _, _, _, _, _, _, [⟨_, _, _, _⟩, ⟨_, _, _, _⟩], _, rfl, by decide, rfl, rfl, rfl⟩, fun _ _ _ _ _ _ _ _ _ _ us hl => (match us, hl with | [_, _, _], _ => .of_eq rfl), rfl, rfl, by decide +kernel, by decide +kernel, by decide +kernel, rfl, rfl, rfl, by decide +kernel, by decide +kernel, by decide⟩
theorem i8 : ITxt (sI 10) ["start", "end"] := ⟨⟨_, _, _, _, _, _, _, _, [⟨_, _, _, _⟩, ⟨_, _, _, _⟩], _, rfl, by decide, rfl, rfl, rfl⟩, fun _ _ _ _ _ _ _ _ _ _ us hl => (match us, hl with | [_, _, _], _ => .of_eq rfl), rfl, rfl, by decide +kernel, by decide +kernel, by decide +kernel, rfl, rfl, rfl, by decide +kernel, by decide +kernel, by decide⟩
theorem i9 : ITxt (sI 11) ["what", "many", "limit"] := ⟨⟨_, _, _, _, _, _, _, _, [⟨_, _, _, _⟩, ⟨_, _, _, _⟩, ⟨_, _, _, _⟩], _, rfl, by decide, rfl, rfl, rfl⟩, fun _ _ _ _ _ _ _ _ _ _ us hl => (match us, hl with | [_, _, _, _], _ => .of_eq rfl), rfl, rfl, by decide +kernel, by decide +kernel, by decide +kernel, rfl, rfl, rfl, by decide +kernel, by decide +kernel, by decide⟩
theorem i10 : ITxt (sI 12) ["promise", "witness"] := ⟨⟨_, _, _, _, _, _, _, _, [⟨_, _, _, _⟩, ⟨_, _, _, _⟩], _, rfl, by decide, rfl, rfl, rfl⟩, fun _ _ _ _ _ _ _ _ _ _ us hl => (match us, hl with | [_, _, _], _ => .of_eq rfl), rfl, rfl, by decide +kernel, by decide +kernel, by decide +kernel, rfl, rfl, rfl, by decide +kernel, by decide +kernel, by decide⟩
theorem i11 : ITxt (sI 13) [] := ⟨⟨_, _, _, _, _, _, _, _, [], _, rfl, by decide, rfl, rfl, rfl⟩, fun _ _ _ _ _ _ _ _ _ _ us hl => (match us, hl with | [_], _ => .of_eq rfl), rfl, rfl, by decide +kernel, by decide +kernel, by decide +kernel, rfl, rfl, rfl, by decide +kernel, by decide +kernel, by decide⟩
theorem i12 : ITxt (sI 14) [] := ⟨⟨_, _, _, _, _, _, _, _, [], _, rfl, by decide, rfl, rfl, rfl⟩, fun _ _ _ _ _ _ _ _ _ _ us hl => (match us, hl with | [_], _ => .of_eq rfl), rfl, rfl, by decide +kernel, by decide +kernel, by decide +kernel, rfl, rfl, rfl, by decide +kernel, by decide +kernel, by decide⟩
/-! ### what is looked at -/
abbrev FnI : Type := Option (Str × Str × Arguments × FuncBody × Scope × Addr × List Str × Addr)
def obsI (K : PySem.W.Frag) (x : Str) : FnI := match K.lookup (He.ma K (He.ga K x) "__init__") with
  | some ⟨_, _, .func fd, _⟩ => some (fd.name, fd.qualname, fd.params, fd.body, fd.scope, fd.globals, fd.closure.map (·.1), fd.builtins)
  | _ => none
def valI (x : Str) (st : Stmt) : FnI := some ("__init__", x ++ ".__init__", defArgs st, .stmts (defBody st), defScope st, mainGlobals, ["__class__"], builtinsNs)
/-- the __init__'s function: no defaults, its code of this file, its cell the class -/
def fnB (file : Str) (K : PySem.W.Frag) (C fI : Addr) (qual : Str) : Bool := match K.lookup fI with
  | some ⟨_, _, .func fd, _⟩ => (match fd.defaults with
      | .none => true
      | _ => false) && (match fd.code with
      | .ref c => PySem.W.codeIn K (.ref c) qual && (match K.lookup c with
        | some ⟨_, _, .fields vs, _⟩ => (match (vs[2]? : Option Value) with
          | some (.str z _) => decide (z = file)
          | _ => false)
        | _ => false)
      | _ => false) && (match fd.closure with
      | [(_, cc)] => (match K.lookup cc with
        | some ⟨_, _, .cell (some (.ref D)), _⟩ => Nat.beq D C
        | _ => false)
      | _ => false)
  | _ => false
/-- the class's object -/
def clB (K : PySem.W.Frag) (C : Addr) : Bool := match K.lookup C with
  | some ⟨.type T, _, .cls cd, sl⟩ => decide (T = "type") && (match cd.mro, sl.toList with
      | .ref C0 :: tl, [_, _, _, _, some (.builtin nw), _] => Nat.beq C0 C && (decide (nw = "ValueError.__new__") && (!cd.hasDel && (cd.hasDict && (PySem.HandSPX.refsVE tl && He.eqO (PySem.W.alongIn K "__init__" tl) (some (some (.builtin "ValueError.__init__")))))))
      | _, _ => false)
  | _ => false
def obB (a b : Option Bool) : Bool := decide (a = b)
def errB (file : Str) (K : PySem.W.Frag) (x : Str) (ns : List Str) : Bool :=
  clB K (He.ga K x) && (fnB file K (He.ga K x) (He.ma K (He.ga K x) "__init__") (x ++ ".__init__") && (He.eqO (PySem.W.findIn K (.ref (He.ga K x)) "__setattr__") (some (some (.builtin "object.__setattr__"))) &&
  (He.eqO (PySem.W.findIn K (.ref (He.ga K x)) "__init__") (some (some (.ref (He.ma K (He.ga K x) "__init__")))) && (decide (PySem.W.typeIn K (.ref (He.ma K (He.ga K x) "__init__")) = some (.type "function")) && (PySem.W.keepIn K (.ref (He.ga K x)) &&
  (obB (PySem.W.subIn K (.ref (He.ga K x)) (.type "ValueError")) (some true) && (obB (PySem.W.mroIn K (He.ga K x) (.ref (He.ga K x))) (some true) && (ns.all fun f => He.eqO (PySem.W.findIn K (.ref (He.ga K x)) f) (some none)) &&
  (He.eqO (PySem.W.findIn K (.ref (He.ga K x)) "__getattribute__") (some (some (.builtin "BaseException.__getattribute__"))) && (He.eqO (PySem.W.findIn K (.ref (He.ga K x)) "__getattr__") (some none) &&
  (obB (PySem.W.subIn K (.ref (He.ga K x)) (.type "BaseException")) (some true) && (PySem.W.hasDictIn K (He.ga K x) && (He.eqO (PySem.W.findIn K (.ref (He.ga K x)) "__class__") (some (some (.builtin "object.__class__"))) &&
  (obB (PySem.W.mroIn K (He.ga K x) (.type "object")) (some true) && He.eqO (PySem.W.nsIn K mainGlobals x) (some (some (.ref (He.ga K x)))))))))))))))))
/-- what is common to all -/
def comB (K : PySem.W.Frag) : Bool := He.eqO (PySem.W.nsIn K PySem.cStatics "thirdparty.any") (some none) && (He.eqO (PySem.W.nsIn K mainGlobals "super") (some none) &&
  (He.eqO (PySem.W.specialIn K (.builtin "object.__class__") "__get__") (some (some (.builtin "getset_descriptor.__get__"))) && obB (PySem.W.takesIn K (.builtin "object.__class__")) (some true)))
theorem ba {a b : Bool} (h : (a && b) = true) : a = true ∧ b = true := Bool.and_eq_true_iff.mp h
theorem clB_ok {K : PySem.W.Frag} {C : Addr} (h : clB K C = true) : ∃ nm q N bs bm sn sub ab col dd k0 k1 k2 k3 k5, K.lookup C = some (excClassObj nm q C N bs bm true sn sub ab col dd k0 k1 k2 k3 k5 "ValueError.__new__") ∧ PySem.HandSPX.refsVE bm = true ∧
    PySem.W.alongIn K "__init__" bm = some (some (.builtin "ValueError.__init__")) := by
  unfold clB at h
  split at h
  · rename_i T dd cd sl ho
    obtain ⟨hT, h⟩ := ba h
    split at h
    · rename_i C0 tl k0 k1 k2 k3 nw k5 hm hs
      obtain ⟨g1, h⟩ := ba h
      obtain ⟨g2, h⟩ := ba h
      obtain ⟨g3, h⟩ := ba h
      obtain ⟨g4, h⟩ := ba h
      obtain ⟨g5, g6⟩ := ba h
      have e1 : C0 = C := Nat.eq_of_beq_eq_true g1
      have e2 : nw = "ValueError.__new__" := of_decide_eq_true g2
      have e0 : T = "type" := of_decide_eq_true hT
      subst e1 e2 e0
      obtain ⟨nm, bs, mro, nsp, qn, hd, sn, sub, ab, col, del⟩ := cd
      dsimp only at hm g3 g4
      have e3 : del = false := by simpa using g3
      subst hm e3 g4
      have hsl : sl = #[k0, k1, k2, k3, some (.builtin "ValueError.__new__"), k5] := by
        obtain ⟨l⟩ := sl
        exact congrArg Array.mk hs
      subst hsl
      exact ⟨nm, qn, nsp, bs, tl, sn, sub, ab, col, dd, k0, k1, k2, k3, k5, ho, g5, He.eqO_ok g6⟩
    · cases h
  · cases h
theorem fnB_ok {file : Str} {K : PySem.W.Frag} {C fI : Addr} {qual : Str} {fd : FuncData} {oc : Value} {od : Option Addr} {osl : Array (Option Value)} (lk : K.lookup fI = some ⟨oc, od, .func fd, osl⟩) (h : fnB file K C fI qual = true) :
    fd.defaults = .none ∧ ∃ (cda : Addr) (n : Str) (cc : Addr) (ccl cl : Value) (cdd cld : Option Addr) (ccs csl : Array (Option Value)) (vs : Array Value) (tf : Tok), fd.code = .ref cda ∧ PySem.W.codeIn K (.ref cda) qual = true ∧ fd.closure = [(n, cc)] ∧
      K.lookup cda = some ⟨ccl, cdd, .fields vs, ccs⟩ ∧ vs[2]? = some (.str file tf) ∧ K.lookup cc = some ⟨cl, cld, .cell (some (.ref C)), csl⟩ := by
  unfold fnB at h
  rw [lk] at h
  obtain ⟨h, h3⟩ := ba h
  obtain ⟨h1, h2⟩ := ba h
  have g1 : fd.defaults = .none := by
    split at h1
    · assumption
    · cases h1
  refine ⟨g1, ?_⟩
  split at h2
  · rename_i c hc
    obtain ⟨g2, h2⟩ := ba h2
    split at h2
    · rename_i ccl cdd vs ccs hcl
      split at h2
      · rename_i z tf hz
        have e := of_decide_eq_true h2
        subst e
        split at h3
        · rename_i n cc hcc
          split at h3
          · rename_i cl cld D csl hD
            have e := Nat.eq_of_beq_eq_true h3
            subst e
            exact ⟨c, n, cc, ccl, cl, cdd, cld, ccs, csl, vs, tf, hc, g2, hcc, hcl, hz, hD⟩
          · cases h3
        · cases h3
      · cases h2
    · cases h2
  · cases h2
/-- all that is told of one class -/
structure ErrOk (P : Program) (K : PySem.W.Frag) (x : Str) (ns : List Str) : Prop where
  s : SErr P K (He.ga K x) (He.ma K (He.ga K x) "__init__") ns
  xf : XfC K (He.ga K x)
  ce : ClsE K (He.ga K x)
  gl : PySem.W.nsIn K mainGlobals x = some (some (.ref (He.ga K x)))
theorem errB_ok {P : Program} {K : PySem.W.Frag} {x : Str} {st : Stmt} {ns : List Str} (htop : (P.main.scope.names.lookup ("super" : Str)).isSome = false) (I : ITxt st ns) (ho : obsI K x = valI x st) (h : errB P.main.file K x ns = true) (hc : comB K = true) : ErrOk P K x ns := by
  unfold errB at h
  obtain ⟨a1, h⟩ := ba h
  obtain ⟨a2, h⟩ := ba h
  obtain ⟨a3, h⟩ := ba h
  obtain ⟨a4, h⟩ := ba h
  obtain ⟨a5, h⟩ := ba h
  obtain ⟨a6, h⟩ := ba h
  obtain ⟨a7, h⟩ := ba h
  obtain ⟨a89, h⟩ := ba h
  obtain ⟨a8, a9⟩ := ba a89
  obtain ⟨b1, h⟩ := ba h
  obtain ⟨b2, h⟩ := ba h
  obtain ⟨b3, h⟩ := ba h
  obtain ⟨b4, h⟩ := ba h
  obtain ⟨b5, h⟩ := ba h
  obtain ⟨b6, b7⟩ := ba h
  unfold comB at hc
  obtain ⟨c1, hc⟩ := ba hc
  obtain ⟨c2, hc⟩ := ba hc
  obtain ⟨c3, c4⟩ := ba hc
  have ob : ∀ {a b : Option Bool}, obB a b = true → a = b := fun q => of_decide_eq_true q
  refine ⟨⟨clB_ok a1, He.eqO_ok a3, He.eqO_ok a4, of_decide_eq_true a5, a6, ob a7, ob a8, He.eqO_ok c1, He.eqO_ok c2, fun f hf => He.eqO_ok (List.all_eq_true.mp a9 f hf), I.nd, I.len, I.noSelf, htop, ?_⟩, ⟨He.eqO_ok b1, He.eqO_ok b2, ob b3, b4⟩,
    ⟨He.eqO_ok b1, He.eqO_ok b2, ob b3, b4, He.eqO_ok b5, He.eqO_ok c3, ob c4, ob b6⟩, He.eqO_ok b7⟩
  unfold obsI at ho
  split at ho
  · rename_i oc od fd osl lk
    obtain ⟨q1, cda, n, cc, ccl, cl, cdd, cld, ccs, csl, vs, tf, q2, q3, q4, q5, q6, q7⟩ := fnB_ok lk a2
    obtain ⟨n1, n2, n3, n4, n5, n6, n7, n8, n9, n10, n11, n12, n13, n14, n15⟩ := fd
    dsimp only at q1 q2 q4
    unfold valI at ho
    simp only [Option.some.injEq, Prod.mk.injEq] at ho
    obtain ⟨r1, r2, r3, r4, r5, r6, r7, r8⟩ := ho
    rw [q4] at r7
    have en : n = "__class__" := by simpa using r7
    subst r1 r2 r3 r4 r5 r6 r8 q1 q2 q4 en
    obtain ⟨msg, j, p0, p1, p2, p3, p4, p5, ps, ar, e1, e2, e3, e4, e5⟩ := I.ex
    have bb := I.bind
    rw [e1] at lk bb
    exact ⟨oc, od, osl, _, _, _, _, _, _, _, _, _, cda, cc, ar, msg, j, p0, p1, p2, p3, p4, p5, ps, ccl, cl, cdd, cld, ccs, csl, vs, tf, lk, e2, e3, e4, q3, q5, q6, q7, fun s us hu => bb _ _ _ _ _ _ _ _ _ s us hu, I.sup, I.cls, I.loc, e5, I.dbg, I.cell, I.co, I.gen, I.kind⟩
  · cases ho
end Sq

set_option Elab.async false
set_option linter.all false
set_option maxRecDepth 100000
set_option maxHeartbeats 0
/-! The head, and the end. -/
namespace Sq
open PySem PySem.Spec PyProof.Rows L2
def dd (x : Str) (st : Stmt) : He.DefD := ⟨(x, none), x, x, defArgs st, defBody st, defScope st, [], []⟩
def fn : List He.DefD := [dd "_law_pen" sPen, dd "_law_draw" sDraw, dd "_law_pick" sPick, dd "_law_big" sBig, dd "_law_one" sOne, dd "_law_more" sMore, dd "_law_kinds" sKinds, dd "law" sLaw]
def fa : List He.Fa := [.glo "_law_pen", .glo "_law_draw", .glo "_law_pick", .glo "_law_big", .glo "_law_one", .glo "_law_more", .glo "_law_kinds", .glo "law", .glo "SlideError",
  .free "int", .free "list", .free "len", .free "str", .free "range", .free "repr", .free "isinstance", .free "ValueError"]
abbrev R : PySem.W.OpenRow := PySem.W.OpenLaw.row PySem.Challenge.rw_slideinto_k00_errors
abbrev fileS : Str := PySem.Challenge.pw_slideinto_k00_errors.main.file
def initSt : List (Str × Stmt) := [("BadName", sI 4), ("NoName", sI 7), ("TakenName", sI 8), ("BadCell", sI 5), ("NotThere", sI 9), ("BadBody", sI 6), ("BadText", sI 2), ("BadNumber", sI 3), ("NoMove", sI 10), ("TooMany", sI 11), ("NotKept", sI 12), ("NothingToUndo", sI 13), ("NothingToRedo", sI 14)]
def tabB (K : PySem.W.Frag) : Bool := (List.range 13).all fun i => ((List.range 13).all fun j => obB (PySem.W.kitOne K (.ref (cE K i)) (.ref (cE K j))) (some (decide (i = j)))) && (obB (PySem.W.kitOne K (.ref (cE K i)) (.ref (He.ga K "SlideError"))) (some true) && obB (PySem.W.kitOne K (.ref (cE K i)) (.type "ValueError")) (some true))
def allB (K : PySem.W.Frag) : Bool := comB K && ((errNames.all fun p => errB fileS K p.1 p.2) && tabB K)
abbrev AlS : Type := He.AlD × (List FnI × Bool)
def obsS (K : PySem.W.Frag) : AlS := (He.obsD fa fn K, initSt.map (fun p => obsI K p.1), allB K)
def valS : AlS := (He.valD fn, initSt.map (fun p => valI p.1 p.2), true)
def obsSG (g : Addr → Option Obj) : AlS := obsS (He.frG g (PySem.cStatics :: He.asD g 5))
def hk : PySem.W.Hook where
  α := AlS
  obs := fun s => obsSG s.heap.get?
  val := fun _ => valS
  says := fun _ h => ∃ K : PySem.W.Frag, K.In h ∧ obsS K = valS
  of := fun _ _ e => ⟨_, He.frG_in, e⟩
  keeps := fun _ _ _ ⟨K, hK, c⟩ k => ⟨K, PySem.W.Frag.In.keeps hK k, c⟩
def ob (s : PySem.W.SharedT) : AlS := obsSG (HandSHeadRun.getT s)
theorem ob_eq (s : PySem.W.SharedT) : ob s = hk.obs s.abs := by
  have e : HandSHeadRun.getT s = s.abs.heap.get? := funext (HandSHeadRun.getT_eq s)
  show obsSG _ = obsSG _
  rw [e]
def loose : List Str := ["SlideError", "BadText", "BadNumber", "BadName", "BadCell", "BadBody", "NoName", "TakenName", "NotThere", "NoMove", "TooMany", "NotKept", "NothingToUndo", "NothingToRedo", "_law_pen", "_law_draw", "_law_pick", "_law_big", "_law_one", "_law_more", "_law_kinds"]
theorem run (w : World) : HandSHeadRun.RunEq R (PySem.W.view R.prog [23]) hk ob 6000 loose w := by
  intro os
  kernel_rfl
end Sq

set_option Elab.async false
set_option linter.all false
set_option maxRecDepth 100000
set_option maxHeartbeats 4000000
namespace Sq
open PySem PySem.Spec PyProof.Rows L2
theorem err_all {P : Program} {K : PySem.W.Frag} (htop : (P.main.scope.names.lookup ("super" : Str)).isSome = false) (hfile : P.main.file = fileS) (c2 : initSt.map (fun p => obsI K p.1) = initSt.map (fun p => valI p.1 p.2)) (hc : comB K = true)
    (he : ∀ p ∈ errNames, errB fileS K p.1 p.2 = true) : ∀ i, i < 13 → ErrOk P K (eNm i) (eNs i) := by
  have o : ∀ (i : Nat) (x : Str) (st : Stmt), initSt[i]? = some (x, st) → obsI K x = valI x st := fun i x st h => by
    have y := congrArg (fun l => l[i]?) c2
    simp only [List.getElem?_map, h, Option.map_some, Option.some.injEq] at y
    exact y
  have g : ∀ (i : Nat) (x : Str) (ns : List Str), errNames[i]? = some (x, ns) → errB P.main.file K x ns = true := fun i x ns h => by
    rw [hfile]
    exact he (x, ns) (List.mem_of_getElem? h)
  intro i hi
  match i, hi with
  | 0, _ => exact errB_ok htop i0 (o 0 _ _ rfl) (g 0 _ _ rfl) hc
  | 1, _ => exact errB_ok htop i1 (o 1 _ _ rfl) (g 1 _ _ rfl) hc
  | 2, _ => exact errB_ok htop i2 (o 2 _ _ rfl) (g 2 _ _ rfl) hc
  | 3, _ => exact errB_ok htop i3 (o 3 _ _ rfl) (g 3 _ _ rfl) hc
  | 4, _ => exact errB_ok htop i4 (o 4 _ _ rfl) (g 4 _ _ rfl) hc
  | 5, _ => exact errB_ok htop i5 (o 5 _ _ rfl) (g 5 _ _ rfl) hc
  | 6, _ => exact errB_ok htop i6 (o 6 _ _ rfl) (g 6 _ _ rfl) hc
  | 7, _ => exact errB_ok htop i7 (o 7 _ _ rfl) (g 7 _ _ rfl) hc
  | 8, _ => exact errB_ok htop i8 (o 8 _ _ rfl) (g 8 _ _ rfl) hc
  | 9, _ => exact errB_ok htop i9 (o 9 _ _ rfl) (g 9 _ _ rfl) hc
  | 10, _ => exact errB_ok htop i10 (o 10 _ _ rfl) (g 10 _ _ rfl) hc
  | 11, _ => exact errB_ok htop i11 (o 11 _ _ rfl) (g 11 _ _ rfl) hc
  | 12, _ => exact errB_ok htop i12 (o 12 _ _ rfl) (g 12 _ _ rfl) hc
theorem errs_of {P : Program} {K : PySem.W.Frag} {h : Heap} {mg : Str → Option Value} (X : K.In h) (G : h.Ns mainGlobals mg) (htop : (P.main.scope.names.lookup ("super" : Str)).isSome = false) (hfile : P.main.file = fileS) (c : obsS K = valS) : Errs P K mg := by
  have c1 : He.SaysD fa fn K := congrArg (fun z : AlS => z.1) c
  have c2 : initSt.map (fun p => obsI K p.1) = initSt.map (fun p => valI p.1 p.2) := congrArg (fun z : AlS => z.2.1) c
  have c3 : allB K = true := congrArg (fun z : AlS => z.2.2) c
  unfold allB at c3
  obtain ⟨d1, d⟩ := ba c3
  obtain ⟨d2, d3⟩ := ba d
  have A := err_all htop hfile c2 d1 (fun p hp => List.all_eq_true.mp d2 p hp)
  have ob : ∀ {a b : Option Bool}, obB a b = true → a = b := fun q => of_decide_eq_true q
  unfold tabB at d3
  have row := fun i (hi : i < 13) => ba (List.all_eq_true.mp d3 i (List.mem_range.mpr hi))
  exact ⟨fun i hi => (A i hi).s, fun i hi => PySem.W.mg_of X G (A i hi).gl, fun i hi => (A i hi).xf, fun i hi => (A i hi).ce, fun i j hi hj => ob (List.all_eq_true.mp (row i hi).1 j (List.mem_range.mpr hj)),
    He.glo_ok X G (c1.fact 8 (f := .glo "SlideError") rfl), fun i hi => ob (ba (row i hi).2).1, He.free_ok X G (c1.fact 16 (f := .free "ValueError") rfl), fun i hi => ob (ba (row i hi).2).2⟩
theorem facts {P : Program} {w : World} {K : PySem.W.Frag} {h : Heap} {mg : Str → Option Value} {f : Addr} (X : K.In h) (G : h.Ns mainGlobals mg) (hfa : mg ("law" : Str) = some (.ref f)) (htop : (P.main.scope.names.lookup ("super" : Str)).isSome = false) (hfile : P.main.file = fileS) (c : obsS K = valS) :
    ∃ fd : FuncData, (∀ (s : Shared) (v : Value), BindsTo s fd ⟨[v], []⟩ [("_law_script", v)]) ∧ ∀ base : Heap, K.In base → base.Ns mainGlobals mg → RunG P w K mg base CX0 5 f fd ["_law_script"] (spLaw K) := by
  have c1 : He.SaysD fa fn K := congrArg (fun z : AlS => z.1) c
  have T := errs_of X G htop hfile c
  obtain ⟨d0, F0⟩ := c1.def_ 0 (d := dd "_law_pen" sPen) rfl
  obtain ⟨d1, F1⟩ := c1.def_ 1 (d := dd "_law_draw" sDraw) rfl
  obtain ⟨d2, F2⟩ := c1.def_ 2 (d := dd "_law_pick" sPick) rfl
  obtain ⟨d3, F3⟩ := c1.def_ 3 (d := dd "_law_big" sBig) rfl
  obtain ⟨d4, F4⟩ := c1.def_ 4 (d := dd "_law_one" sOne) rfl
  obtain ⟨d5, F5⟩ := c1.def_ 5 (d := dd "_law_more" sMore) rfl
  obtain ⟨d6, F6⟩ := c1.def_ 6 (d := dd "_law_kinds" sKinds) rfl
  obtain ⟨fd, F⟩ := c1.def_ 7 (d := dd "law" sLaw) rfl
  have e := hfa.symm.trans (He.glo_ok X G (c1.fact 7 (f := .glo "law") rfl))
  cases e
  have b := FunD.bindsA (ps := ["_law_script"]) F fun _ _ _ _ _ _ us hl => match us, hl with | [_], _ => rfl
  have D : Defs K mg _ _ _ _ _ _ _ d0 d1 d2 d3 d4 d5 d6 := ⟨F0, F1, F2, F3, F4, F5, F6, He.glo_ok X G (c1.fact 0 (f := .glo "_law_pen") rfl), He.glo_ok X G (c1.fact 1 (f := .glo "_law_draw") rfl), He.glo_ok X G (c1.fact 2 (f := .glo "_law_pick") rfl), He.glo_ok X G (c1.fact 3 (f := .glo "_law_big") rfl),
    He.glo_ok X G (c1.fact 4 (f := .glo "_law_one") rfl), He.glo_ok X G (c1.fact 5 (f := .glo "_law_more") rfl), He.glo_ok X G (c1.fact 6 (f := .glo "_law_kinds") rfl), He.free_ok X G (c1.fact 9 (f := .free "int") rfl), He.free_ok X G (c1.fact 10 (f := .free "list") rfl), He.free_ok X G (c1.fact 11 (f := .free "len") rfl),
    He.free_ok X G (c1.fact 12 (f := .free "str") rfl), He.free_ok X G (c1.fact 13 (f := .free "range") rfl), He.free_ok X G (c1.fact 14 (f := .free "repr") rfl), He.free_ok X G (c1.fact 15 (f := .free "isinstance") rfl)⟩
  exact ⟨fd, fun s v => b s [v] rfl, fun base _ _ => run_law F D T⟩
end Sq
open PySem PySem.W PySem.Calls PyProof.Rows
set_option maxRecDepth 100000 in
set_option maxHeartbeats 8000000 in
theorem PySem.Challenge.cw_slideinto_k00_errors_holds : PySem.Challenge.rw_slideinto_k00_errors.Holds := by
  w_on; o_law
  refine HandSHeadRun.head_any (r := OpenLaw.row PySem.Challenge.rw_slideinto_k00_errors) (q := view (OpenLaw.row PySem.Challenge.rw_slideinto_k00_errors).prog [23]) (H := Sq.hk) (ob := Sq.ob) (M := 6000) (loose := Sq.loose) (d := HandSHeadRun.topDef (OpenLaw.row PySem.Challenge.rw_slideinto_k00_errors).prog 23) (kwd := []) Sq.ob_eq
    (by kernel_rfl) (fun s => by kernel_rfl) Sq.run (by kernel_rfl) (by kernel_rfl) (by kernel_rfl) (by rfl) (by first | assumption | decide +kernel) (by decide +kernel) ⟨rfl, rfl, rfl, rfl, rfl, by decide +kernel⟩ ?hw ?hc
  case hw => w_witness2
  case hc =>
    refine Sq.walk_ofG (l := PySem.Challenge.rw_slideinto_k00_errors) (n := 63) (k := 5) (x := "_law_script") (CX := L2.CX0) rfl (by decide) (by kernel_rfl) ⟨rfl, by decide, by decide⟩ ?F (fun _ _ _ _ z => z)
    intro w mg fa h Y G hmg0
    obtain ⟨K, KX, c⟩ := Y
    have hmg : mg ("law" : PySem.Str) = some (.ref fa) := by
      have e : (HandSHeadRun.topDef (OpenLaw.row PySem.Challenge.rw_slideinto_k00_errors).prog 23).name = ("law" : PySem.Str) := by kernel_rfl
      rw [← e]
      exact hmg0
    obtain ⟨fd, hb, hF⟩ := Sq.facts (P := (PySem.Challenge.rw_slideinto_k00_errors).prog) (w := w) KX G hmg (by decide +kernel) rfl c
    exact ⟨K, fd, Sq.spLaw K, KX, hb, fun H a zs hl _ _ hS => ⟨a, zs, rfl, hS, hl, fun _ => rfl⟩, hF⟩

