import PyProof.Rows.All
import Wide.All
import OpenK.AllK
import Wide.FinOn
import Open.SpecLaws
import KE.OsGo
import HandS.ForSpec
import HandS.ForMost
import HandS.StrMore
import HandS.Walk
import HandS.More
import HandS.Replace
import PyProof.ListRange
import PyProof.ListStr
import PySem.Challenge.RW_tenrows_s04_win
set_option Elab.async false
set_option linter.all false
set_option maxRecDepth 100000
set_option maxHeartbeats 4000000
namespace Tr
open PySem PySem.Spec PyProof.Rows L2
/-! ### constants, calls -/
section
variable {X : Cx}
theorem pe_gi {x : Str} {i : Int} {pos : Pos} (hm : ∃ t, X.mg x = some (.int i t)) (hg : Gl X x := by rfl) (hd : (x == ("__debug__" : Str)) = false := by decide) : PE X (.Name x pos) (tC (.int i)) := by
  obtain ⟨t, h⟩ := hm
  exact pe_glob hg h ⟨_, rfl⟩ hd
theorem pe_gs {x : Str} {i : Str} {pos : Pos} (hm : ∃ t, X.mg x = some (.str i t)) (hg : Gl X x := by rfl) (hd : (x == ("__debug__" : Str)) = false := by decide) : PE X (.Name x pos) (tC (.str i)) := by
  obtain ⟨t, h⟩ := hm
  exact pe_glob hg h ⟨_, rfl⟩ hd
theorem pe_gr {x : Str} {a : Addr} {pos : Pos} (hm : X.mg x = some (.ref a)) (hg : Gl X x := by rfl) (hd : (x == ("__debug__" : Str)) = false := by decide) : PE X (.Name x pos) (tC (.ref a)) :=
  pe_glob hg hm rfl hd
end
/-- a def that may be called by its name, at level k -/
structure Cal (P : Program) (w : World) (K : PySem.W.Frag) (mg : Str → Option Value) (base : Heap) (k : Nat) (x : Str) (ps : List Str) (sp : Sp) : Prop where
  ex : ∃ f fd, FnOk P w K mg base CX0 k f fd ps sp ∧ mg x = some (.ref f) ∧ PySem.W.keepIn K (.ref f) = true ∧ Binds K fd ps []
theorem pe_cal {X : Cx} {k : Nat} {x : Str} {ps : List Str} {sp : Sp} {e : Expr} {es : List Expr} {t : TA} {p pos : Pos} (c : Cal X.prog X.w X.K X.mg X.base k x ps sp) (hr : Room k X.A) (hg : Gl X x) (ha : PA X (e :: es) t)
    (hdb : (x == ("__debug__" : Str)) = false := by decide) (he : starEach (e :: es) X.env = (false, eval e X.env) :: starEach es X.env := by rfl) (hpl : (backTo pos (starEach es X.env)).any (·.1) = false := by rfl) :
    PE X (.Call (.Name x p) (e :: es) [] pos) (tCall sp [] E0 t) := by
  obtain ⟨f, fd, F, hm, hk, hb⟩ := c.ex
  exact pe_call F hr hg hm hk hb .nil pass0 ha hdb he hpl
/-! ### a written dict with whole numbers as keys, texts as values -/
def KInts : List DictEntry → List (Int × Str) → Prop
  | [], [] => True
  | e :: r, (k, x) :: q => (∃ t u, e.key = .int k t ∧ e.hash = hashInt k ∧ e.val = .str x u) ∧ KInts r q
  | _, _ => False
structure KDI (K : PySem.W.Frag) (d : Addr) (kvs : List (Int × Str)) : Prop where
  ex : ∃ es n, K.lookup d = some ⟨.type "dict", none, .dict es n, #[]⟩ ∧ KInts es.toList kvs
  low : (d == sysModules) = false
theorem KInts.keys {P : Program} {w : World} : ∀ {l : List DictEntry} {kvs : List (Int × Str)}, KInts l kvs → ∀ e ∈ l, ∃ k, (mixKind P w).is k e.key = true ∧ e.hash = (mixKind P w).hash k
  | [], [], _, e, h => by cases h
  | e0 :: r, (k, x) :: q, ⟨⟨t, u, h1, h2, h3⟩, hr⟩, e, h => by
    rcases List.mem_cons.mp h with rfl | h
    · exact ⟨Sum.inl k, by rw [h1]; exact mixKind_int P w k t, h2⟩
    · exact KInts.keys hr e h
  | [], _ :: _, h, _, _ => h.elim
  | _ :: _, [], h, _, _ => h.elim
theorem KInts.find {i : Int} : ∀ {l : List DictEntry} {kvs : List (Int × Str)}, KInts l kvs →
    (kvs.lookup i = none → l.find? (fun e => keyIs (Sum.inl i) e.key) = none) ∧ (∀ x, kvs.lookup i = some x → ∃ e u, l.find? (fun e => keyIs (Sum.inl i) e.key) = some e ∧ e.val = .str x u)
  | [], [], _ => ⟨fun _ => rfl, fun x h => by cases h⟩
  | e0 :: r, (k, x) :: q, ⟨⟨t, u, h1, h2, h3⟩, hr⟩ => by
    have ih := KInts.find (i := i) hr
    by_cases e : i = k
    · subst e
      have hb : (i == i) = true := beq_self_eq_true i
      have hk : keyIs (Sum.inl i) e0.key = true := by rw [h1]; exact keyIs_int i t
      refine ⟨fun h => ?_, fun y h => ?_⟩
      · rw [List.lookup_cons, hb] at h
        cases h
      · rw [List.lookup_cons, hb] at h
        cases h
        exact ⟨e0, u, by rw [List.find?_cons, hk], h3⟩
    · have hb : (i == k) = false := beq_eq_false_iff_ne.mpr e
      have hk : keyIs (Sum.inl i) e0.key = false := by
        rw [h1]
        cases q : keyIs (Sum.inl i) (Value.int k t) with
        | false => rfl
        | true =>
          rcases keyIs_shape q with ⟨j, t', e1, e2⟩ | ⟨_, _, e1, _⟩
          · cases e1
            cases e2
            exact absurd rfl e
          · cases e1
      rw [List.lookup_cons, hb, List.find?_cons, hk]
      exact ih
  | [], _ :: _, h => h.elim
  | _ :: _, [], h => h.elim
theorem KDI.map {K : PySem.W.Frag} {d : Addr} {kvs : List (Int × Str)} (D : KDI K d kvs) {P : Program} {w : World} {h : Heap} (X : K.In h) :
    ∃ f : Key → Option Value, h.MapOf (mixKind P w) d f ∧ ∀ i, (kvs.lookup i = none → f (Sum.inl i) = none) ∧ ∀ x, kvs.lookup i = some x → ∃ u, f (Sum.inl i) = some (.str x u) := by
  obtain ⟨es, n, hl, hk⟩ := D.ex
  refine ⟨fun k => findBy (mixKind P w).is es k, ⟨_, es, n, X _ _ hl, ⟨rfl, rfl, rfl⟩, rfl, fun e he => hk.keys e (Array.mem_toList_iff.mpr he), fun _ => rfl⟩, fun i => ?_⟩
  obtain ⟨l⟩ := es
  obtain ⟨h1, h2⟩ := KInts.find (i := i) hk
  have e0 : ∀ k, findBy (mixKind P w).is ⟨l⟩ k = (l.find? fun e => keyIs k e.key).map (·.val) := fun k => by
    unfold findBy
    rw [List.find?_toArray]
    rfl
  refine ⟨fun h => ?_, fun x h => ?_⟩
  · show findBy (mixKind P w).is ⟨l⟩ (Sum.inl i) = none
    rw [e0, h1 h]
    rfl
  · obtain ⟨e, u, he, hv⟩ := h2 x h
    refine ⟨u, ?_⟩
    show findBy (mixKind P w).is ⟨l⟩ (Sum.inl i) = _
    rw [e0, he]
    show some e.val = _
    rw [hv]
section
variable {X : Cx} {d : Addr} {kvs : List (Int × Str)}
theorem op_in_kdi (D : KDI X.K d kvs) : OpR X (compareOp .In) (fun x y H Q => ∃ i : Int, x = .int i ∧ y = .ref d ∧ Q (.bl (kvs.lookup i).isSome) H) := by
  intro pins s σ H x y v u Q I rx ry h
  obtain ⟨i, rfl, rfl, q⟩ := h
  obtain ⟨t, rfl⟩ := rx
  cases ry
  obtain ⟨f, hm, hf⟩ := D.map (P := X.prog) (w := X.w) I.kIn
  refine wpAny_in_of (mixKind_int X.prog X.w i t) D.low hm ?_
  have e : (f (Sum.inl i)).isSome = (kvs.lookup i).isSome := by
    cases z : kvs.lookup i with
    | none => rw [(hf i).1 z] <;> rfl
    | some x => obtain ⟨u, hu⟩ := (hf i).2 x z; rw [hu]; rfl
  rw [e]
  exact ⟨.bl _, H, I.tok _, rfl, q⟩
theorem op_notIn_kdi (D : KDI X.K d kvs) : OpR X (compareOp .NotIn) (fun x y H Q => ∃ i : Int, x = .int i ∧ y = .ref d ∧ Q (.bl (!(kvs.lookup i).isSome)) H) := by
  intro pins s σ H x y v u Q I rx ry h
  obtain ⟨i, rfl, rfl, q⟩ := h
  obtain ⟨t, rfl⟩ := rx
  cases ry
  obtain ⟨f, hm, hf⟩ := D.map (P := X.prog) (w := X.w) I.kIn
  refine wpAny_notIn_of (mixKind_int X.prog X.w i t) D.low hm ?_
  have e : (f (Sum.inl i)).isSome = (kvs.lookup i).isSome := by
    cases z : kvs.lookup i with
    | none => rw [(hf i).1 z] <;> rfl
    | some x => obtain ⟨u, hu⟩ := (hf i).2 x z; rw [hu]; rfl
  rw [e]
  exact ⟨.bl _, H, I.tok _, rfl, q⟩
theorem ix_kdi (D : KDI X.K d kvs) : IxR X (fun x y H Q => ∃ (i : Int) (z : Str), x = .ref d ∧ y = .int i ∧ kvs.lookup i = some z ∧ Q (.str z) H) := by
  intro value slice pins s σ H x y v u Q I rx ry h hs
  obtain ⟨i, z, rfl, rfl, hz, q⟩ := h
  obtain rfl : v = Value.ref d := rx
  obtain ⟨t, rfl⟩ := ry
  obtain ⟨f, hm, hf⟩ := D.map (P := X.prog) (w := X.w) I.kIn
  obtain ⟨u, hu⟩ := (hf i).2 z hz
  exact tail_any hm.typeIs slot_dict_getitem.lookup (wpAny_getItem_of (mixKind_int X.prog X.w i t) hm hu ⟨.str z, H, I.tok _, ⟨_, rfl⟩, q⟩) hs
/-- xs.count(y), flat items -/
def rCntF (K : PySem.W.Frag) : V → List V → Hp → VK → Prop := fun x xs H Q => ∃ (p : Addr) (ys : List V) (y : V), x = .ref p ∧ xs = [y] ∧ SqL K H p ys ∧ flatV y = true ∧ ys.all flatV = true ∧ Q (.int (ys.countP (fun z => eqV z y) : Nat)) H
theorem mt_scount : MtR X "list.count" (rCntF X.K) := by
  intro pins s σ H x xs v us Q I rx rxs h
  obtain ⟨p, ys, y, rfl, rfl, hs, fy, fys, q⟩ := h
  cases rx
  cases rxs with
  | cons ry rt =>
    rename_i uy ut
    cases rt
    obtain ⟨its, rv, ⟨⟨cls, dd, data, sl⟩, n, ho, hc, hdn, hd⟩, hlen⟩ := I.list hs
    simp only at hc hd
    subst hc hd
    have cnt : ∀ {ys : List V} {its : List Value}, Vals ys its → ys.all flatV = true → its.countP (eqU y) = ys.countP (fun z => eqV z y) := by
      intro ys its rv
      induction rv with
      | nil => intro _; rfl
      | cons r1 r2 ih =>
        intro f
        rw [List.all_cons, Bool.and_eq_true] at f
        rw [List.countP_cons, List.countP_cons, ih f.2, eqU_of r1 f.1]
    refine call_meets PySem.F.slot_list_count ⟨_, ho, rfl⟩ PySem.F.entry_list_count (PySem.F.args_list_count_2 _ _)
      (SeqAt.list_countAt p its.toArray n dd sl uy (eqU y)) ⟨ho, fun u' hu' => mem_eqAt ry fy rv fys u' (by simpa using hu'), ?_⟩
    have ec : its.toArray.toList.countP (eqU y) = ys.countP (fun z => eqV z y) := cnt rv fys
    refine ⟨.int (ys.countP (fun z => eqV z y) : Nat), H, I.tok _, ⟨s.toks, ?_⟩, q⟩
    show Value.int ((its.toArray.toList.countP (eqU y) : Nat) : Int) s.toks = _
    rw [ec]
end
/-! ### == of two lists of whole numbers -/
theorem eqvI : ∀ ns ms : List Int, PyData.eqvAll (ns.map PyData.int) (ms.map PyData.int) = decide (ns = ms)
  | [], [] => rfl
  | [], _ :: _ => rfl
  | _ :: _, [] => rfl
  | a :: r, b :: q => by
    show (a == b && PyData.eqvAll (r.map PyData.int) (q.map PyData.int)) = _
    rw [eqvI r q, Bool.eq_iff_iff]
    simp
theorem layI : ∀ ns : List Int, PyData.canLayAll0 (ns.map PyData.int) = true
  | [] => rfl
  | a :: r => by
    show (true && PyData.canLayAll0 (r.map PyData.int)) = true
    rw [layI r]
    rfl
theorem depI : ∀ ns : List Int, PyData.depthAll (ns.map PyData.int) = 0
  | [] => rfl
  | a :: r => by
    show max 0 (PyData.depthAll (r.map PyData.int)) = 0
    rw [depI r]
    rfl
theorem shpI (ns : List Int) : SeqAt.shaped (.list (ns.map PyData.int)) = true := by
  unfold SeqAt.shaped
  rw [Bool.and_eq_true]
  refine ⟨layI ns, decide_eq_true ?_⟩
  show PyData.depthAll (ns.map PyData.int) + 1 ≤ 64
  rw [depI]
  decide
theorem dpI (K : PySem.W.Frag) (H : Hp) : ∀ ns : List Int, DpAll K H (ns.map V.int) (ns.map PyData.int)
  | [] => .nil
  | a :: r => .cons (.int a) (dpI K H r)
def rEqI (K : PySem.W.Frag) : R2 := fun x y H Q => ∃ (a b : Addr) (ns ms : List Int), x = .ref a ∧ y = .ref b ∧ SqL K H a (ns.map V.int) ∧ SqL K H b (ms.map V.int) ∧ Q (.bl (decide (ns = ms))) H
theorem op_eqI {X : Cx} (hu : X.A.units + 64 < cLine) : OpR X (compareOp .Eq) (rEqI X.K) := by
  intro pins s σ H x y v u Q I rx ry h
  obtain ⟨a, b, ns, ms, rfl, rfl, h1, h2, q⟩ := h
  refine op_eqD hu pins s σ H _ _ v u Q I rx ry ⟨_, _, .lst h1 (dpI X.K H ns), .lst h2 (dpI X.K H ms), shpI ns, shpI ms, ?_⟩
  rw [show PyData.eqv (.list (ns.map PyData.int)) (.list (ms.map PyData.int)) = decide (ns = ms) from eqvI ns ms]
  exact q
/-! ### list(text), list(range(..)), signs of a text -/
theorem vals_at : ∀ (vs : List V) (us : List Value), us.length = vs.length → (∀ (j : Nat) (v : Value), us[j]? = some v → ∃ x, vs[j]? = some x ∧ RelV x v) → Vals vs us
  | [], [], _, _ => .nil
  | [], _ :: _, h, _ => by cases h
  | _ :: _, [], h, _ => by cases h
  | x :: r, v :: q, h, f => by
    obtain ⟨y, e, ry⟩ := f 0 v rfl
    cases e
    exact .cons ry (vals_at r q (Nat.succ.inj h) fun j u hu => f (j + 1) u hu)
section
variable {X : Cx}
theorem call_list_txt (hc : X.calm = true) : CallR X (.type "list") (fun xs H Q => ∃ z : Str, xs = [.str z] ∧ z.length ≤ sizeLine ∧ ∀ l, H l = none → Q (.ref l) (upd H l (.lst (z.cps.toList.map fun c => V.str ⟨#[c]⟩)))) := by
  intro pins s σ H xs us Q I r h
  obtain ⟨z, rfl, hz, q⟩ := h
  obtain ⟨u, rfl, rx⟩ := vals1 r
  obtain ⟨t, rfl⟩ := rx
  refine PySem.call_list_str (I.ok.hd hc) z t (fun h' tk acc c' kp e hi => ?_) hz
  refine ⟨.ref s.heap.objs.size, _, I.laid (t' := tk) kp (Nat.le_refl _) (show ObjOk X.prog X.w _ h' _ (.lst (z.cps.toList.map fun c => V.str ⟨#[c]⟩)) from ⟨?_, acc.toList, c', ?_, ?_⟩), rfl, q _ (I.hok.fresh (Nat.le_refl _))⟩
  · rw [List.length_map, Array.length_toList]
    exact hz
  · refine vals_at _ _ (by rw [List.length_map, Array.length_toList, Array.length_toList]; exact hi.1) fun j v hj => ?_
    obtain ⟨c, u, h1, h2⟩ := hi.2 j v (by rw [← Array.getElem?_toList]; exact hj)
    refine ⟨V.str ⟨#[c]⟩, ?_, ⟨u, h2⟩⟩
    rw [List.getElem?_map, Array.getElem?_toList, h1]
    rfl
  · rw [Array.toArray_toList]
    exact e
def tLR3 (ta : TA) : TE := fun σ H Q => ta σ H fun vs H1 => ∃ (i j c : Int) (n : Nat), vs = [.int i, .int j, .int c] ∧ RgC i j c n ∧ n ≤ 1000 ∧ ∀ p, H1 p = none → Q (.ref p) (upd H1 p (.lst (((List.range n).map fun (k : Nat) => i + (k : Int) * c).map V.int)))
theorem list_rng {pins : List (Addr × Obj)} {σ : L2.St} {H : Hp} {s : Shared} {Q : VK} {i j c : Int} {t t' t'' : Tok} {tk0 : Nat} {n : Nat} {A : Around} {E : Value → Shared → Prop} (hh : A.handled = none) (I : Inv X pins σ H s) (hr : RgC i j c n) (hn : n ≤ 1000)
    (q : ∀ p, H p = none → Q (.ref p) (upd H p (.lst (((List.range n).map fun (k : Nat) => i + (k : Int) * c).map V.int)))) :
    wpAny (model X.prog X.w) A (call (.type "list") [.ref s.heap.objs.size]) (EP X pins σ Q) E { s with heap := s.heap.push { cls := .type "range", data := .fields #[.int i t, .int j t', .int c t''] }, toks := tk0 } := by
  obtain ⟨c0, c1, c2, c3⟩ := hr
  have I2 : Inv X pins σ H { s with heap := s.heap.push { cls := .type "range", data := .fields #[.int i t, .int j t', .int c t''] }, toks := tk0 } := I.kept (t' := tk0) fun b o e => Heap.get?_push_of_some _ e
  refine PySem.call_list_range hh (IsRange.new ..) c2 c3 (by omega) fun h' tk acc c' kp e hi => ?_
  refine ⟨.ref (s.heap.push { cls := .type "range", data := .fields #[.int i t, .int j t', .int c t''] }).objs.size, _, I2.laid (t' := tk) kp (Nat.le_refl _) (show ObjOk X.prog X.w _ h' _ (.lst (((List.range n).map fun (k : Nat) => i + (k : Int) * c).map V.int)) from ⟨?_, acc.toList, c', ?_, ?_⟩), rfl, q _ (I2.hok.fresh (Nat.le_refl _))⟩
  · rw [List.length_map, List.length_map, List.length_range, sizeLine_eq]
    omega
  · refine vals_at _ _ (by rw [List.length_map, List.length_map, List.length_range, Array.length_toList]; exact hi.1) fun j v hj => ?_
    have hj' : acc[j]? = some v := by rw [← Array.getElem?_toList]; exact hj
    obtain ⟨u, h2⟩ := hi.2 j v hj'
    have hlt : j < n := by
      have := (Array.getElem?_eq_some_iff.mp hj').1
      rw [hi.1] at this
      exact this
    refine ⟨V.int (i + (j : Int) * c), ?_, ⟨u, h2⟩⟩
    rw [List.getElem?_map, List.getElem?_map, List.getElem?_range hlt]
    rfl
  · rw [Array.toArray_toList]
    exact e
/-- list(range(a, b, c)) -/
theorem pe_listR3 {a b c : Expr} {ta : TA} {p p2 pos pos2 : Pos} (hc : X.calm = true) (hgl : Gl X "list") (hml : X.mg "list" = none) (hv : bootBuiltins "list" = some (.type "list")) (hg : Gl X "range") (hm : X.mg "range" = none) (ha : PA X [a, b, c] ta)
    (hs : starEach [.Call (.Name "range" p2) [a, b, c] [] pos2] X.env = (false, eval (.Call (.Name "range" p2) [a, b, c] [] pos2) X.env) :: starEach [] X.env := by rfl)
    (hs1 : starEach [a, b, c] X.env = (false, eval a X.env) :: starEach [b, c] X.env := by rfl) (hpl : (backTo pos2 (starEach [b, c] X.env)).any (·.1) = false := by rfl) :
    PE X (.Call (.Name "list" p) [.Call (.Name "range" p2) [a, b, c] [] pos2] [] pos) (tLR3 ta) := by
  refine ⟨fun pins s σ H Q I hq => ?_⟩
  refine wpAny_Call_Name_kw (ld_blt I hgl hml hv ?_)
  refine PyProof.Rows.callWith_type1 ?_ hs rfl
  rw [hs]
  show wpAny _ _ (spliced ((false, eval (.Call (.Name "range" p2) [a, b, c] [] pos2) X.env) :: backTo pos (starEach [] X.env))) _ _ s
  refine Calls.spliced_cons ?_
  refine Call_ (ld_blt I hg hm boot_range (PyProof.Rows.callWith_type1 (thn (ha.run pos2 pins s σ H _ I hq) fun us s1 ⟨vs, H1, I1, r1, q1⟩ => ?_) hs1 hpl))
  obtain ⟨i, j, k, n, e, hr, hn, q⟩ := q1
  subst e
  cases r1 with
  | cons r rr =>
    cases rr with
    | cons r' rr =>
      cases rr with
      | cons r'' rr =>
        cases rr
        obtain ⟨t, rfl⟩ := r
        obtain ⟨t', rfl⟩ := r'
        obtain ⟨t'', rfl⟩ := r''
        refine call_range_3 hr.1 ?_ (.inl (PyProof.noPylong_small hr.2.1))
        refine Calls.spliced_nil ?_
        exact list_rng (tk0 := _) (I1.ok.hd hc) I1 hr hn q
def tLR2 (ta : TA) : TE := fun σ H Q => ta σ H fun vs H1 => ∃ (i j : Int) (n : Nat), vs = [.int i, .int j] ∧ RgC i j 1 n ∧ n ≤ 1000 ∧ ∀ p, H1 p = none → Q (.ref p) (upd H1 p (.lst (((List.range n).map fun (k : Nat) => i + (k : Int) * 1).map V.int)))
/-- list(range(a, b)) -/
theorem pe_listR2 {a b : Expr} {ta : TA} {p p2 pos pos2 : Pos} (hc : X.calm = true) (hgl : Gl X "list") (hml : X.mg "list" = none) (hv : bootBuiltins "list" = some (.type "list")) (hg : Gl X "range") (hm : X.mg "range" = none) (ha : PA X [a, b] ta)
    (hs : starEach [.Call (.Name "range" p2) [a, b] [] pos2] X.env = (false, eval (.Call (.Name "range" p2) [a, b] [] pos2) X.env) :: starEach [] X.env := by rfl)
    (hs1 : starEach [a, b] X.env = [(false, eval a X.env), (false, eval b X.env)] := by rfl) (hs2 : starEach [b] X.env = [(false, eval b X.env)] := by rfl) :
    PE X (.Call (.Name "list" p) [.Call (.Name "range" p2) [a, b] [] pos2] [] pos) (tLR2 ta) := by
  refine ⟨fun pins s σ H Q I hq => ?_⟩
  refine wpAny_Call_Name_kw (ld_blt I hgl hml hv ?_)
  refine PyProof.Rows.callWith_type1 ?_ hs rfl
  rw [hs]
  show wpAny _ _ (spliced ((false, eval (.Call (.Name "range" p2) [a, b] [] pos2) X.env) :: backTo pos (starEach [] X.env))) _ _ s
  refine Calls.spliced_cons ?_
  refine Call_ (ld_blt I hg hm boot_range (PyProof.Rows.callWith_type1 (thn (ha.run pos2 pins s σ H _ I hq) fun us s1 ⟨vs, H1, I1, r1, q1⟩ => ?_) (by rw [hs1, hs2]) (by rw [hs2]; rfl)))
  obtain ⟨i, j, n, e, hr, hn, q⟩ := q1
  subst e
  cases r1 with
  | cons r rr =>
    cases rr with
    | cons r' rr =>
      cases rr
      obtain ⟨t, rfl⟩ := r
      obtain ⟨t', rfl⟩ := r'
      refine call_range_2 ?_
      refine Calls.spliced_nil ?_
      exact list_rng (tk0 := _) (I1.ok.hd hc) I1 hr hn q
end
end Tr

namespace Tr
open Sn32 (Man)
/-! ### the mirror: the program's defs as plain functions; a board is ninety cells, by 10 * column + row -/
abbrev Cell := Option Man
abbrev Bd := List Cell
def cell (bd : Bd) (p : Int) : Cell := (bd[p.toNat]?).join
def stands (c : Cell) (b : Bool) : Bool := match c with
  | some m => m.red == b
  | none => false
def fwd (b : Bool) : Int := if b = true then 1 else -1
def inPal (b : Bool) (p : Int) : Bool := if 3 ≤ p / 10 ∧ p / 10 ≤ 5 then (if b = true then decide (p % 10 ≤ 2) else decide (7 ≤ p % 10)) else false
def ownHalf (b : Bool) (p : Int) : Bool := if b = true then decide (p % 10 ≤ 4) else decide (5 ≤ p % 10)
def iabs (i : Int) : Int := if i < 0 then -i else i
def mn (s e : Int) : Int := if e < s then e else s
def mx (s e : Int) : Int := if e > s then e else s
def acr (s e : Int) : Int := e / 10 - s / 10
def alo (s e : Int) : Int := e % 10 - s % 10
def stp (s e : Int) : Int := if s / 10 = e / 10 then 1 else 10
def turns (s e : Int) : Nat := (if mn s e + stp s e < mx s e then (mx s e - (mn s e + stp s e) - 1) / stp s e + 1 else 0 : Int).toNat
def btw (bd : Bd) (s e : Int) : Nat := (List.range (turns s e)).countP fun (i : Nat) => (cell bd (mn s e + stp s e + (i : Int) * stp s e)).isSome
def line (s e : Int) : Bool := decide (s / 10 = e / 10) || decide (s % 10 = e % 10)
def goK (bd : Bd) (b : Bool) (s e : Int) : Bool :=
  if iabs (acr s e) + iabs (alo s e) = 1 ∧ inPal b e = true then true
  else if cell bd e = some ⟨!b, .K⟩ then decide (acr s e = 0) && (decide (alo s e * fwd b > 0) && decide (btw bd s e = 0)) else false
def goA (b : Bool) (s e : Int) : Bool := decide (iabs (acr s e) = 1) && (decide (iabs (alo s e) = 1) && inPal b e)
def goB (bd : Bd) (b : Bool) (s e : Int) : Bool := if iabs (acr s e) = 2 ∧ iabs (alo s e) = 2 then (cell bd ((s + e) / 2)).isNone && ownHalf b e else false
def goN (bd : Bd) (s e : Int) : Bool :=
  if iabs (acr s e) = 2 ∧ iabs (alo s e) = 1 then (cell bd ((s / 10 + acr s e / 2) * 10 + s % 10)).isNone
  else if iabs (acr s e) = 1 ∧ iabs (alo s e) = 2 then (cell bd (s / 10 * 10 + (s % 10 + alo s e / 2))).isNone
  else false
def goR (bd : Bd) (s e : Int) : Bool := line s e && decide (btw bd s e = 0)
def goC (bd : Bd) (s e : Int) : Bool := if line s e = true then decide (btw bd s e = if (cell bd e).isNone = true then 0 else 1) else false
def goP (b : Bool) (s e : Int) : Bool := if acr s e = 0 then decide (alo s e = fwd b) else decide (iabs (acr s e) = 1) && (decide (alo s e = 0) && !ownHalf b s)
def goes (bd : Bd) (m : Man) (s e : Int) : Bool := match m.kind with
  | .K => goK bd m.red s e
  | .A => goA m.red s e
  | .B => goB bd m.red s e
  | .N => goN bd s e
  | .R => goR bd s e
  | .C => goC bd s e
  | .P => goP m.red s e
/-- a man who stands at s could go to e -/
def could (bd : Bd) (m : Man) (s e : Int) : Bool := if stands (cell bd e) m.red = true then false else goes bd m s e
def couldAt (bd : Bd) (s e : Int) : Bool := match cell bd s with
  | some m => could bd m s e
  | none => false
def after (bd : Bd) (s e : Int) : Bd := (bd.set e.toNat (cell bd s)).set s.toNat none
def gen (bd : Bd) (b : Bool) : Nat := bd.findIdx fun c => c == some ⟨b, .K⟩
def reached (bd : Bd) (b : Bool) : Bool := (List.range 90).any fun (i : Nat) => stands (cell bd (i : Int)) (!b) && couldAt bd (i : Int) (gen bd b : Int)
def mayMove (bd : Bd) (b : Bool) (s e : Int) : Bool := if couldAt bd s e = true then !reached (after bd s e) b else false
def movesFrom (bd : Bd) (b : Bool) (s : Int) : List (Int × Int) := ((List.range 90).filter fun (e : Nat) => mayMove bd b s (e : Int)).map fun (e : Nat) => (s, (e : Int))
def allMoves (bd : Bd) (b : Bool) : List (Int × Int) := (List.range 90).flatMap fun (s : Nat) => if stands (cell bd (s : Int)) b = true then movesFrom bd b (s : Int) else []
def nameOf (p : Int) : List Int := [97 + p / 10, 48 + p % 10]
def nameMove (m : Int × Int) : List Int := nameOf m.1 ++ nameOf m.2 ++ [10]
def linesOf (bd : Bd) (b : Bool) : List Int := [if reached bd b = true then 43 else 45, 10] ++ (allMoves bd b).flatMap nameMove
/-! reading -/
def splitI : List Int → List Int → List (List Int)
  | [], w => [w]
  | c :: r, w => if c = 47 then w :: splitI r [] else splitI r (w ++ [c])
def menK : List (Int × Man) := [(75, ⟨true, .K⟩), (65, ⟨true, .A⟩), (66, ⟨true, .B⟩), (78, ⟨true, .N⟩), (82, ⟨true, .R⟩), (67, ⟨true, .C⟩), (80, ⟨true, .P⟩),
  (107, ⟨false, .K⟩), (97, ⟨false, .A⟩), (98, ⟨false, .B⟩), (110, ⟨false, .N⟩), (114, ⟨false, .R⟩), (99, ⟨false, .C⟩), (112, ⟨false, .P⟩)]
def rowI : Bool → List Int → Option (List Cell)
  | _, [] => some []
  | after, c :: r => match menK.lookup c with
    | some m => (rowI false r).map fun l => some m :: l
    | none => if 49 ≤ c ∧ c ≤ 57 ∧ after = false then (rowI true r).map fun l => List.replicate (c - 48).toNat none ++ l else none
def row9 (r : List Int) : Option (List Cell) := (rowI false r).bind fun l => if l.length = 9 then some l else none
/-- ninety cells, from ten rows of nine: those of the rows before i, and of row i those before column j -/
def bdUp (rows : List (List Cell)) (i j : Nat) : Bd := (List.range 90).map fun n => if 9 - n % 10 < i ∨ (9 - n % 10 = i ∧ n / 10 < j) then ((rows[9 - n % 10]?).bind fun r => r[n / 10]?).join else none
def rowsI : List (List Int) → Option (List (List Cell))
  | [] => some []
  | r :: q => (row9 r).bind fun l => (rowsI q).map fun ls => l :: ls
def boardI (signs : List Int) : Option Bd := if (splitI signs []).length = 10 then (rowsI (splitI signs [])).map fun rows => bdUp rows 10 0 else none
def oneGen (bd : Bd) (b : Bool) : Bool := decide (bd.countP (fun c => c == some ⟨b, .K⟩) = 1) && inPal b (gen bd b : Int)
def sideI (c : Int) : Option Bool := if c = 119 then some true else if c = 98 then some false else none
def readI (t : List Int) : Option (Bd × Bool) :=
  if t.length < 2 ∨ t[t.length - 2]? ≠ some 32 then none
  else (sideI (t.getD (t.length - 1) 0)).bind fun b => (boardI (t.take (t.length - 2))).bind fun bd => if oneGen bd true = true ∧ oneGen bd false = true then some (bd, b) else none
def movesI (most : Int) (t : List Int) : List Int :=
  if 0 ≤ most ∧ most ≤ 65536 then (match readI t with
    | none => [-3]
    | some (bd, b) => if most < ((linesOf bd b).length : Int) then [-1] else ((linesOf bd b).length : Int) :: linesOf bd b)
  else [-2]
/-! writing, play -/
def name2 (m : Int × Int) : List Int := nameOf m.1 ++ nameOf m.2
/-- so many free points, told -/
def digI (k : Nat) : List Int := if k = 0 then [] else [48 + (k : Int)]
/-- the letter of a man, as a number -/
def charI (m : Man) : Int := (Sn32.letterOf m : Nat)
/-- a row's text: k free points are told so far -/
def rowTextI : Nat → List Cell → List Int
  | k, [] => digI k
  | k, none :: r => rowTextI (k + 1) r
  | k, some m :: r => digI k ++ (charI m :: rowTextI 0 r)
def rowCells (bd : Bd) (y : Nat) : List Cell := (List.range 9).map fun (c : Nat) => cell bd ((10 * c + (9 - y) : Nat) : Int)
def textRows (bd : Bd) : Nat → List Int
  | 0 => rowTextI 0 (rowCells bd 0)
  | n + 1 => textRows bd n ++ 47 :: rowTextI 0 (rowCells bd (n + 1))
def textI (bd : Bd) (red : Bool) : List Int := textRows bd 9 ++ [32, if red = true then 119 else 98]
def called (bd : Bd) (b : Bool) (mv : List Int) : Option (Int × Int) := (allMoves bd b).find? fun m => decide (name2 m = mv)
def sizedI (most : Int) (ns : List Int) : List Int := if most < (ns.length : Int) then [-1] else (ns.length : Int) :: ns
def playI (most : Int) (t mv : List Int) : List Int :=
  if 0 ≤ most ∧ most ≤ 65536 then (match readI t with
    | none => [-3]
    | some (bd, b) => match called bd b mv with
      | none => [-4]
      | some m => sizedI most (textI (after bd m.1 m.2) (!b)))
  else [-2]
/-! a general may be missing -/
def reachedG (bd : Bd) (b : Bool) : Bool := if gen bd b < 90 then reached bd b else false
def mayMoveG (bd : Bd) (b : Bool) (s e : Int) : Bool := if couldAt bd s e = true then !reachedG (after bd s e) b else false
def movesFromG (bd : Bd) (b : Bool) (s : Int) : List (Int × Int) := ((List.range 90).filter fun (e : Nat) => mayMoveG bd b s (e : Int)).map fun (e : Nat) => (s, (e : Int))
def allMovesG (bd : Bd) (b : Bool) : List (Int × Int) := (List.range 90).flatMap fun (s : Nat) => if stands (cell bd (s : Int)) b = true then movesFromG bd b (s : Int) else []
def linesG (bd : Bd) (b : Bool) : List Int := [if reachedG bd b = true then 43 else 45, 10] ++ (allMovesG bd b).flatMap nameMove
def movesG (most : Int) (t : List Int) : List Int :=
  if 0 ≤ most ∧ most ≤ 65536 then (match readI t with
    | none => [-3]
    | some (bd, b) => sizedI most (linesG bd b))
  else [-2]
def calledG (bd : Bd) (b : Bool) (mv : List Int) : Option (Int × Int) := (allMovesG bd b).find? fun m => decide (name2 m = mv)
def playG (most : Int) (t mv : List Int) : List Int :=
  if 0 ≤ most ∧ most ≤ 65536 then (match readI t with
    | none => [-3]
    | some (bd, b) => match calledG bd b mv with
      | none => [-4]
      | some m => sizedI most (textI (after bd m.1 m.2) (!b)))
  else [-2]
/-! count, win -/
def countG : Nat → Bd → Bool → Nat
  | 0, _, _ => 1
  | n + 1, bd, b => ((allMovesG bd b).map fun m => countG n (after bd m.1 m.2) (!b)).sum
def countJ (depth : Int) (t : List Int) : List Int :=
  if 0 ≤ depth ∧ depth ≤ 5 then (match readI t with
    | none => [-3]
    | some (bd, b) => [(countG depth.toNat bd b : Nat)])
  else [-2]
def winsG : Nat → Bd → Bool → Bool
  | 0, _, _ => false
  | n + 1, bd, b => (allMovesG bd b).any fun m => (allMovesG (after bd m.1 m.2) (!b)).all fun r => winsG n (after (after bd m.1 m.2) r.1 r.2) b
/-- who goes, b, is left without a move at the latest behind n more moves of the other -/
def lostG (n : Nat) (bd : Bd) (b : Bool) : Bool := (allMovesG bd b).all fun r => winsG n (after bd r.1 r.2) (!b)
/-- the first move that wins in n + 1 -/
def firstG (n : Nat) (bd : Bd) (b : Bool) : Option (Int × Int) := (allMovesG bd b).find? fun m => lostG n (after bd m.1 m.2) (!b)
def winG (bd : Bd) (b : Bool) (most : Nat) : Option (Nat × (Int × Int)) := (List.range most).findSome? fun k => (firstG k bd b).map fun m => (k + 1, m)
def winJ (most : Int) (t : List Int) : List Int :=
  if 1 ≤ most ∧ most ≤ 3 then (match readI t with
    | none => [-3]
    | some (bd, b) => match winG bd b most.toNat with
      | none => [0]
      | some x => (x.1 : Int) :: name2 x.2)
  else [-2]
end Tr
namespace Tr
open Sn32 (Man)
/-! points to try -/
def stepsK : Sn32.Kind → Option (List Int)
  | .A => some [-11, -9, 9, 11]
  | .B => some [-22, -18, 18, 22]
  | .N => some [-21, -19, -12, -8, 8, 12, 19, 21]
  | .P => some [-10, -1, 1, 10]
  | _ => none
def slantT : List Int := [-22, -21, -19, -18, -12, -11, -9, -8, 8, 9, 11, 12, 18, 19, 21, 22]
def bySteps (p : Int) (st : List Int) : List Int := (st.filter fun t => decide (0 ≤ p + t ∧ p + t < 90)).map fun t => p + t
def rgN (i j c : Int) : Nat := (if i < j then (j - i - 1) / c + 1 else 0 : Int).toNat
def rgL (i c : Int) (n : Nat) : List Int := (List.range n).map fun (k : Nat) => i + (k : Int) * c
def inLine (p : Int) : List Int := rgL (p % 10) 10 (rgN (p % 10) (p / 10 * 10 + 0) 10) ++ rgL (p / 10 * 10 + 0) 1 10 ++ rgL (p + 10) 10 (rgN (p + 10) 90 10)
def endsTry (m : Man) (s : Int) : List Int := match stepsK m.kind with
  | some st => bySteps s st
  | none => inLine s
def startsTry (e : Int) : List Int := inLine e ++ bySteps e slantT
def on90 (p : Int) : Prop := 0 ≤ p ∧ p < 90
theorem mem_rgL {x i c : Int} {n : Nat} : x ∈ rgL i c n ↔ ∃ k : Nat, k < n ∧ x = i + (k : Int) * c := by
  unfold rgL
  rw [List.mem_map]
  constructor
  · rintro ⟨k, hk, rfl⟩
    exact ⟨k, List.mem_range.mp hk, rfl⟩
  · rintro ⟨k, hk, rfl⟩
    exact ⟨k, List.mem_range.mpr hk, rfl⟩
theorem mem_bySteps {x p : Int} {st : List Int} : x ∈ bySteps p st ↔ on90 x ∧ (x - p) ∈ st := by
  unfold bySteps on90
  rw [List.mem_map]
  constructor
  · rintro ⟨t, ht, rfl⟩
    obtain ⟨h1, h2⟩ := List.mem_filter.mp ht
    refine ⟨of_decide_eq_true h2, ?_⟩
    rw [show p + t - p = t by omega]
    exact h1
  · rintro ⟨h, h2⟩
    refine ⟨x - p, List.mem_filter.mpr ⟨h2, decide_eq_true (by omega)⟩, by omega⟩
theorem mem_inLine {s e : Int} (hs : on90 s) (he : on90 e) (h : line s e = true) : e ∈ inLine s := by
  unfold on90 at hs he
  unfold line at h
  unfold inLine
  rw [List.mem_append, List.mem_append, mem_rgL, mem_rgL, mem_rgL]
  rw [Bool.or_eq_true, decide_eq_true_eq, decide_eq_true_eq] at h
  unfold rgN
  by_cases h1 : s / 10 = e / 10
  · exact .inl (.inr ⟨(e % 10).toNat, by omega, by omega⟩)
  · have h2 : s % 10 = e % 10 := h.resolve_left h1
    by_cases h3 : e < s
    · refine .inl (.inl ⟨(e / 10).toNat, ?_, by omega⟩)
      rw [if_pos (by omega)]
      omega
    · refine .inr ⟨(e / 10 - s / 10 - 1).toNat, ?_, by omega⟩
      rw [if_pos (by omega)]
      omega
theorem inLine_on {s e : Int} (hs : on90 s) (h : e ∈ inLine s) : on90 e := by
  unfold on90 at *
  unfold inLine at h
  rw [List.mem_append, List.mem_append, mem_rgL, mem_rgL, mem_rgL] at h
  unfold rgN at h
  rcases h with (⟨k, hk, rfl⟩ | ⟨k, hk, rfl⟩) | ⟨k, hk, rfl⟩
  · split at hk
    · omega
    · omega
  · omega
  · split at hk
    · omega
    · omega
theorem endsTry_on {m : Man} {s e : Int} (hs : on90 s) (h : e ∈ endsTry m s) : on90 e := by
  unfold endsTry at h
  split at h
  · exact (mem_bySteps.mp h).1
  · exact inLine_on hs h
theorem startsTry_on {s e : Int} (hs : on90 e) (h : s ∈ startsTry e) : on90 s := by
  unfold startsTry at h
  rcases List.mem_append.mp h with h | h
  · exact inLine_on hs h
  · exact (mem_bySteps.mp h).1
theorem iabs_pm {i j : Int} (h : iabs i = j) : i = j ∨ i = -j := by
  unfold iabs at h
  split at h <;> omega
theorem iabs_nn (i : Int) : 0 ≤ iabs i ∧ (i ≤ iabs i) ∧ (-i ≤ iabs i) := by
  unfold iabs
  split <;> omega
theorem goK_line {bd : Bd} {b : Bool} {s e : Int} (h : goK bd b s e = true) : line s e = true := by
  unfold goK at h
  unfold line
  rw [Bool.or_eq_true, decide_eq_true_eq, decide_eq_true_eq]
  split at h
  · rename_i h1
    have := h1.1
    have a1 := iabs_nn (acr s e)
    have a2 := iabs_nn (alo s e)
    unfold acr alo at *
    omega
  · split at h
    · rw [Bool.and_eq_true, decide_eq_true_eq] at h
      have := h.1
      unfold acr at this
      omega
    · cases h
theorem goP_geo {b : Bool} {s e : Int} (h : goP b s e = true) : (acr s e = 0 ∧ (alo s e = 1 ∨ alo s e = -1)) ∨ ((acr s e = 1 ∨ acr s e = -1) ∧ alo s e = 0) := by
  unfold goP at h
  split at h
  · rename_i h1
    have h2 := of_decide_eq_true h
    refine .inl ⟨h1, ?_⟩
    unfold fwd at h2
    split at h2 <;> omega
  · rw [Bool.and_eq_true, Bool.and_eq_true, decide_eq_true_eq, decide_eq_true_eq] at h
    exact .inr ⟨iabs_pm h.1, h.2.1⟩
theorem goA_geo {b : Bool} {s e : Int} (h : goA b s e = true) : (acr s e = 1 ∨ acr s e = -1) ∧ (alo s e = 1 ∨ alo s e = -1) := by
  unfold goA at h
  rw [Bool.and_eq_true, Bool.and_eq_true, decide_eq_true_eq, decide_eq_true_eq] at h
  exact ⟨iabs_pm h.1, iabs_pm h.2.1⟩
theorem goB_geo {bd : Bd} {b : Bool} {s e : Int} (h : goB bd b s e = true) : (acr s e = 2 ∨ acr s e = -2) ∧ (alo s e = 2 ∨ alo s e = -2) := by
  unfold goB at h
  split at h
  · rename_i h1
    exact ⟨iabs_pm h1.1, iabs_pm h1.2⟩
  · cases h
theorem goN_geo {bd : Bd} {s e : Int} (h : goN bd s e = true) : ((acr s e = 2 ∨ acr s e = -2) ∧ (alo s e = 1 ∨ alo s e = -1)) ∨ ((acr s e = 1 ∨ acr s e = -1) ∧ (alo s e = 2 ∨ alo s e = -2)) := by
  unfold goN at h
  split at h
  · rename_i h1
    exact .inl ⟨iabs_pm h1.1, iabs_pm h1.2⟩
  · split at h
    · rename_i h1
      exact .inr ⟨iabs_pm h1.1, iabs_pm h1.2⟩
    · cases h
theorem goes_ends {bd : Bd} {m : Man} {s e : Int} (hs : on90 s) (he : on90 e) (h : goes bd m s e = true) : e ∈ endsTry m s := by
  obtain ⟨r, k⟩ := m
  have hl : line s e = true → e ∈ inLine s := fun z => mem_inLine hs he z
  have hb : ∀ st : List Int, (e - s) ∈ st → e ∈ bySteps s st := fun st z => mem_bySteps.mpr ⟨he, z⟩
  unfold goes at h
  cases k with
  | K => exact hl (goK_line h)
  | A =>
    have g := goA_geo h
    unfold acr alo at g
    refine hb _ ?_
    simp only [List.mem_cons, List.not_mem_nil, or_false]
    omega
  | B =>
    have g := goB_geo h
    unfold acr alo at g
    refine hb _ ?_
    simp only [List.mem_cons, List.not_mem_nil, or_false]
    omega
  | N =>
    have g := goN_geo h
    unfold acr alo at g
    refine hb _ ?_
    simp only [List.mem_cons, List.not_mem_nil, or_false]
    omega
  | R =>
    refine hl ?_
    have h : goR bd s e = true := h
    unfold goR at h
    rw [Bool.and_eq_true] at h
    exact h.1
  | C =>
    refine hl ?_
    have h : goC bd s e = true := h
    unfold goC at h
    split at h
    · assumption
    · cases h
  | P =>
    have g := goP_geo h
    unfold acr alo at g
    refine hb _ ?_
    simp only [List.mem_cons, List.not_mem_nil, or_false]
    omega
theorem line_sym {s e : Int} (h : line s e = true) : line e s = true := by
  unfold line at *
  rw [Bool.or_eq_true, decide_eq_true_eq, decide_eq_true_eq] at *
  omega
theorem goes_starts {bd : Bd} {m : Man} {s e : Int} (hs : on90 s) (he : on90 e) (h : goes bd m s e = true) : s ∈ startsTry e := by
  obtain ⟨r, k⟩ := m
  have hl : line s e = true → s ∈ startsTry e := fun z => List.mem_append.mpr (.inl (mem_inLine he hs (line_sym z)))
  have hb : (s - e) ∈ slantT → s ∈ startsTry e := fun z => List.mem_append.mpr (.inr (mem_bySteps.mpr ⟨hs, z⟩))
  unfold goes at h
  cases k with
  | K => exact hl (goK_line h)
  | A =>
    have g := goA_geo h
    unfold acr alo at g
    refine hb ?_
    simp only [slantT, List.mem_cons, List.not_mem_nil, or_false]
    omega
  | B =>
    have g := goB_geo h
    unfold acr alo at g
    refine hb ?_
    simp only [slantT, List.mem_cons, List.not_mem_nil, or_false]
    omega
  | N =>
    have g := goN_geo h
    unfold acr alo at g
    refine hb ?_
    simp only [slantT, List.mem_cons, List.not_mem_nil, or_false]
    omega
  | R =>
    refine hl ?_
    have h : goR bd s e = true := h
    unfold goR at h
    rw [Bool.and_eq_true] at h
    exact h.1
  | C =>
    refine hl ?_
    have h : goC bd s e = true := h
    unfold goC at h
    split at h
    · assumption
    · cases h
  | P =>
    have g := goP_geo h
    unfold acr alo at g
    refine hl ?_
    unfold line
    rw [Bool.or_eq_true, decide_eq_true_eq, decide_eq_true_eq]
    omega
theorem could_goes {bd : Bd} {m : Man} {s e : Int} (h : could bd m s e = true) : goes bd m s e = true := by
  unfold could at h
  split at h
  · cases h
  · exact h
/-! in their order -/
theorem pw_eq : ∀ {l1 l2 : List Int}, l1.Pairwise (· < ·) → l2.Pairwise (· < ·) → (∀ x, x ∈ l1 ↔ x ∈ l2) → l1 = l2
  | [], [], _, _, _ => rfl
  | [], b :: _, _, _, h => absurd ((h b).mpr List.mem_cons_self) List.not_mem_nil
  | a :: _, [], _, _, h => absurd ((h a).mp List.mem_cons_self) List.not_mem_nil
  | a :: r, b :: q, h1, h2, h => by
    have p1 := List.pairwise_cons.mp h1
    have p2 := List.pairwise_cons.mp h2
    have hab : a = b := by
      rcases List.mem_cons.mp ((h a).mp List.mem_cons_self) with e | e
      · exact e
      · rcases List.mem_cons.mp ((h b).mpr List.mem_cons_self) with e' | e'
        · exact e'.symm
        · have := p2.1 a e
          have := p1.1 b e'
          omega
    subst hab
    refine congrArg (a :: ·) (pw_eq p1.2 p2.2 fun x => ⟨fun hx => ?_, fun hx => ?_⟩)
    · rcases List.mem_cons.mp ((h x).mp (List.mem_cons_of_mem _ hx)) with e | e
      · have := p1.1 x hx
        omega
      · exact e
    · rcases List.mem_cons.mp ((h x).mpr (List.mem_cons_of_mem _ hx)) with e | e
      · have := p2.1 x hx
        omega
      · exact e
theorem pw_rgL {i c : Int} {n : Nat} (hc : 0 < c) : (rgL i c n).Pairwise (· < ·) := by
  unfold rgL
  rw [List.pairwise_map]
  refine List.Pairwise.imp ?_ List.pairwise_lt_range
  intro a b hab
  have h : (a : Int) * c < (b : Int) * c := Int.mul_lt_mul_of_pos_right (by omega) hc
  omega
theorem pw_bySteps {p : Int} {st : List Int} (h : st.Pairwise (· < ·)) : (bySteps p st).Pairwise (· < ·) := by
  unfold bySteps
  rw [List.pairwise_map]
  exact List.Pairwise.imp (fun {a b} hab => by omega) (h.filter _)
theorem pw_inLine {s : Int} (hs : on90 s) : (inLine s).Pairwise (· < ·) := by
  unfold on90 at hs
  unfold inLine
  rw [List.pairwise_append, List.pairwise_append]
  refine ⟨⟨pw_rgL (by decide), pw_rgL (by decide), fun a ha b hb => ?_⟩, pw_rgL (by decide), fun a ha b hb => ?_⟩
  · obtain ⟨k, hk, rfl⟩ := mem_rgL.mp ha
    obtain ⟨j, hj, rfl⟩ := mem_rgL.mp hb
    unfold rgN at hk
    split at hk <;> omega
  · obtain ⟨j, hj, rfl⟩ := mem_rgL.mp hb
    rcases List.mem_append.mp ha with ha | ha
    · obtain ⟨k, hk, rfl⟩ := mem_rgL.mp ha
      unfold rgN at hk
      split at hk <;> omega
    · obtain ⟨k, hk, rfl⟩ := mem_rgL.mp ha
      omega
theorem pw_endsTry {m : Man} {s : Int} (hs : on90 s) : (endsTry m s).Pairwise (· < ·) := by
  obtain ⟨r, k⟩ := m
  unfold endsTry
  cases k <;> first
    | exact pw_inLine hs
    | exact pw_bySteps (by decide)
theorem pw_all : ((List.range 90).map fun (e : Nat) => (e : Int)).Pairwise (· < ·) := by
  rw [List.pairwise_map]
  exact List.Pairwise.imp (fun {a b} hab => by omega) List.pairwise_lt_range
theorem ends_filter {m : Man} {s : Int} (hs : on90 s) (p : Int → Bool) (hp : ∀ e, on90 e → p e = true → e ∈ endsTry m s) : (endsTry m s).filter p = ((List.range 90).map fun (e : Nat) => (e : Int)).filter p := by
  refine pw_eq ((pw_endsTry hs).filter _) (pw_all.filter _) fun x => ?_
  rw [List.mem_filter, List.mem_filter, List.mem_map]
  constructor
  · rintro ⟨h1, h2⟩
    have := endsTry_on hs h1
    unfold on90 at this
    exact ⟨⟨x.toNat, List.mem_range.mpr (by omega), by omega⟩, h2⟩
  · rintro ⟨⟨n, hn, rfl⟩, h2⟩
    have := List.mem_range.mp hn
    exact ⟨hp _ ⟨by omega, by omega⟩ h2, h2⟩
theorem mayMoveG_goes {bd : Bd} {b : Bool} {m : Man} {s e : Int} (hm : cell bd s = some m) (h : mayMoveG bd b s e = true) : goes bd m s e = true := by
  unfold mayMoveG at h
  split at h
  · rename_i h1
    unfold couldAt at h1
    rw [hm] at h1
    exact could_goes h1
  · cases h
theorem movesFromG_ends {bd : Bd} {b : Bool} {m : Man} {s : Int} (hs : on90 s) (hm : cell bd s = some m) : ((endsTry m s).filter fun e => mayMoveG bd b s e).map (fun e => (s, e)) = movesFromG bd b s := by
  rw [ends_filter hs _ fun e he h => goes_ends hs he (mayMoveG_goes hm h)]
  unfold movesFromG
  rw [List.filter_map, List.map_map]
  rfl
theorem reached_starts {bd : Bd} {b : Bool} (hg : gen bd b < 90) : (startsTry (gen bd b : Int)).any (fun i => stands (cell bd i) (!b) && couldAt bd i (gen bd b : Int)) = reached bd b := by
  have hg9 : on90 (gen bd b : Int) := ⟨by omega, by omega⟩
  unfold reached
  rw [Bool.eq_iff_iff, List.any_eq_true, List.any_eq_true]
  constructor
  · rintro ⟨i, hi, h⟩
    have := startsTry_on hg9 hi
    unfold on90 at this
    refine ⟨i.toNat, List.mem_range.mpr (by omega), ?_⟩
    rw [show ((i.toNat : Nat) : Int) = i by omega]
    exact h
  · rintro ⟨i, hi, h⟩
    have := List.mem_range.mp hi
    refine ⟨(i : Int), ?_, h⟩
    rw [Bool.and_eq_true] at h
    have hc := h.2
    unfold couldAt at hc
    split at hc
    · exact goes_starts ⟨by omega, by omega⟩ hg9 (could_goes hc)
    · cases hc
/-! has_move -/
def hasFrom (bd : Bd) (b : Bool) (s : Int) : Bool := !(movesFromG bd b s).isEmpty
def hasMoveG (bd : Bd) (b : Bool) : Bool := !(allMovesG bd b).isEmpty
theorem hasFrom_any {bd : Bd} {b : Bool} {m : Man} {s : Int} (hs : on90 s) (hm : cell bd s = some m) : (endsTry m s).any (fun e => mayMoveG bd b s e) = hasFrom bd b s := by
  unfold hasFrom
  rw [← movesFromG_ends hs hm, List.isEmpty_map]
  induction endsTry m s with
  | nil => rfl
  | cons x r ih =>
    rw [List.any_cons, List.filter_cons]
    cases mayMoveG bd b s x with
    | true => rfl
    | false => exact ih
theorem hasMoveG_any {bd : Bd} {b : Bool} : (List.range 90).any (fun (s : Nat) => stands (cell bd (s : Int)) b && hasFrom bd b (s : Int)) = hasMoveG bd b := by
  unfold hasMoveG allMovesG
  rw [Bool.eq_iff_iff, List.any_eq_true]
  constructor
  · rintro ⟨s, hs, h⟩
    rw [Bool.and_eq_true] at h
    unfold hasFrom at h
    cases e : (List.range 90).flatMap fun (s : Nat) => if stands (cell bd (s : Int)) b = true then movesFromG bd b (s : Int) else [] with
    | cons _ _ => rfl
    | nil =>
      have := List.flatMap_eq_nil_iff.mp e s hs
      rw [if_pos h.1] at this
      rw [this] at h
      cases h.2
  · intro h
    cases e : (List.range 90).flatMap fun (s : Nat) => if stands (cell bd (s : Int)) b = true then movesFromG bd b (s : Int) else [] with
    | nil => rw [e] at h; cases h
    | cons x r =>
      obtain ⟨s, hs, hx⟩ := List.mem_flatMap.mp (e ▸ List.mem_cons_self : x ∈ _)
      refine ⟨s, hs, ?_⟩
      split at hx
      · rename_i h1
        rw [h1]
        unfold hasFrom
        cases q : movesFromG bd b (s : Int) with
        | nil => rw [q] at hx; cases hx
        | cons _ _ => rfl
      · cases hx
/-! win -/
theorem winsG_succ (n : Nat) (bd : Bd) (b : Bool) : winsG (n + 1) bd b = (allMovesG bd b).any fun m => lostG n (after bd m.1 m.2) (!b) := by
  show ((allMovesG bd b).any fun m => (allMovesG (after bd m.1 m.2) (!b)).all fun r => winsG n (after (after bd m.1 m.2) r.1 r.2) b) = _
  unfold lostG
  rw [Bool.not_not]
theorem winsG_mono : ∀ (n : Nat) (bd : Bd) (b : Bool), winsG n bd b = true → winsG (n + 1) bd b = true
  | 0, _, _, h => by cases h
  | n + 1, bd, b, h => by
    rw [winsG_succ, List.any_eq_true] at *
    obtain ⟨m, hm, h⟩ := h
    refine ⟨m, hm, ?_⟩
    unfold lostG at *
    rw [List.all_eq_true] at *
    exact fun r hr => winsG_mono n _ _ (h r hr)
theorem winsG_le {n k : Nat} {bd : Bd} {b : Bool} (h : winsG n bd b = true) : winsG (n + k) bd b = true := by
  induction k with
  | zero => exact h
  | succ k ih => exact winsG_mono _ _ _ ih
theorem firstG_some (n : Nat) (bd : Bd) (b : Bool) : (firstG n bd b).isSome = winsG (n + 1) bd b := by
  rw [winsG_succ]
  unfold firstG
  rw [Bool.eq_iff_iff, List.find?_isSome, List.any_eq_true]
theorem winG_some (bd : Bd) (b : Bool) (most : Nat) : (winG bd b most).isSome = winsG most bd b := by
  unfold winG
  rw [Bool.eq_iff_iff, List.findSome?_isSome_iff]
  constructor
  · rintro ⟨k, hk, h⟩
    have hk := List.mem_range.mp hk
    rw [Option.isSome_map, firstG_some] at h
    obtain ⟨j, rfl⟩ : ∃ j, most = k + 1 + j := ⟨most - (k + 1), by omega⟩
    exact winsG_le h
  · intro h
    cases most with
    | zero => cases h
    | succ n =>
      refine ⟨n, List.mem_range.mpr (by omega), ?_⟩
      rw [Option.isSome_map, firstG_some]
      exact h
theorem lostG_win (n : Nat) (bd : Bd) (b : Bool) : lostG n bd b = (allMovesG bd b).all fun r => (winG (after bd r.1 r.2) (!b) n).isSome := by
  unfold lostG
  congr 1
  funext r
  rw [winG_some]
theorem lostG_zero (bd : Bd) (b : Bool) : lostG 0 bd b = !hasMoveG bd b := by
  unfold lostG hasMoveG
  rw [Bool.not_not]
  cases allMovesG bd b with
  | nil => rfl
  | cons x r => rfl
end Tr

namespace Tr
open PySem PySem.Spec PyProof.Rows L2
open Sn32 (Man)
/-! ### texts of men and sides -/
def mS : Cell → Str
  | none => "."
  | some ⟨true, .K⟩ => "K"
  | some ⟨true, .A⟩ => "A"
  | some ⟨true, .B⟩ => "B"
  | some ⟨true, .N⟩ => "N"
  | some ⟨true, .R⟩ => "R"
  | some ⟨true, .C⟩ => "C"
  | some ⟨true, .P⟩ => "P"
  | some ⟨false, .K⟩ => "k"
  | some ⟨false, .A⟩ => "a"
  | some ⟨false, .B⟩ => "b"
  | some ⟨false, .N⟩ => "n"
  | some ⟨false, .R⟩ => "r"
  | some ⟨false, .C⟩ => "c"
  | some ⟨false, .P⟩ => "p"
def mV (c : Cell) : V := .str (mS c)
def sd : Bool → Str
  | true => "w"
  | false => "b"
def menT : List (Int × Str) := menK.map fun x => (x.1, mS (some x.2))
def sidesT : List (Int × Str) := [(119, "w"), (98, "b")]
def kS : Sn32.Kind → Str
  | .K => "k" | .A => "a" | .B => "b" | .N => "n" | .R => "r" | .C => "c" | .P => "p"
/-! ### written tables: a tuple of whole numbers; STEPS -/
def KTI (K : PySem.W.Frag) (a : Addr) (ns : List Int) : Prop := ∃ (o : Obj) (its : Array Value) (n : Nat), K.lookup a = some o ∧ o.cls = .type "tuple" ∧ o.data = .seq its n ∧ its.size ≤ sizeLine ∧ Vals (ns.map V.int) its.toList
theorem KTI.sq {K : PySem.W.Frag} {a : Addr} {ns : List Int} (h : KTI K a ns) {H : Hp} : SqT K H a (ns.map V.int) := .inr h
structure KDT (w : World) (K : PySem.W.Frag) (d : Addr) : Prop where
  dic : ∃ es n, KDict K w d es n
  has : ∀ k ns, stepsK k = some ns → ∃ a, PySem.W.nsIn K d (kS k) = some (some (.ref a)) ∧ KTI K a ns
  not : ∀ k, stepsK k = none → PySem.W.nsIn K d (kS k) = some none
section
variable {X : Cx} {d : Addr}
theorem op_in_kdt (D : KDT X.w X.K d) : OpR X (compareOp .In) (fun x y H Q => ∃ k : Sn32.Kind, x = .str (kS k) ∧ y = .ref d ∧ Q (.bl (stepsK k).isSome) H) := by
  intro pins s σ H x y v u Q I rx ry h
  obtain ⟨k, rfl, rfl, q⟩ := h
  obtain ⟨es, n, kd⟩ := D.dic
  cases e : stepsK k with
  | none =>
    rw [e] at q
    exact op_in_kd kd pins s σ H _ _ v u Q I rx ry ⟨kS k, none, rfl, rfl, D.not k e, q⟩
  | some ns =>
    rw [e] at q
    obtain ⟨a, h1, _⟩ := D.has k ns e
    exact op_in_kd kd pins s σ H _ _ v u Q I rx ry ⟨kS k, _, rfl, rfl, h1, q⟩
theorem ix_kdt (D : KDT X.w X.K d) : IxR X (fun x y H Q => ∃ (k : Sn32.Kind) (ns : List Int), x = .ref d ∧ y = .str (kS k) ∧ stepsK k = some ns ∧ ∀ a, KTI X.K a ns → Q (.ref a) H) := by
  intro value slice pins s σ H x y v u Q I rx ry h hs
  obtain ⟨k, ns, rfl, rfl, e, q⟩ := h
  obtain ⟨es, n, kd⟩ := D.dic
  obtain ⟨a, h1, h2⟩ := D.has k ns e
  obtain rfl : v = Value.ref d := rx
  exact tail_any (kd_type kd I) slot_dict_getitem.lookup (op_item_kd kd pins s σ H (.ref d) _ _ u Q I rfl ry ⟨kS k, _, .ref a, rfl, rfl, h1, rfl, q a h2⟩) hs
end
def topS (i : Nat) : Stmt := PySem.Challenge.pw_tenrows_s04_win.main.body.getD i (.Pass ⟨0, 0, 0, 0⟩)
abbrev s_point_at : Stmt := topS 7
theorem sc_point_at : FnScope ["column", "row"] ["column", "row"] (defScope s_point_at) := ⟨rfl, rfl, rfl, by decide +kernel, rfl, by decide +kernel, by decide +kernel⟩
abbrev s_column_of : Stmt := topS 8
theorem sc_column_of : FnScope ["point"] ["point"] (defScope s_column_of) := ⟨rfl, rfl, rfl, by decide +kernel, rfl, by decide +kernel, by decide +kernel⟩
abbrev s_row_of : Stmt := topS 9
theorem sc_row_of : FnScope ["point"] ["point"] (defScope s_row_of) := ⟨rfl, rfl, rfl, by decide +kernel, rfl, by decide +kernel, by decide +kernel⟩
abbrev s_side_of : Stmt := topS 10
theorem sc_side_of : FnScope ["man"] ["man"] (defScope s_side_of) := ⟨rfl, rfl, rfl, by decide +kernel, rfl, by decide +kernel, by decide +kernel⟩
abbrev s_other_side : Stmt := topS 11
theorem sc_other_side : FnScope ["side"] ["side"] (defScope s_other_side) := ⟨rfl, rfl, rfl, by decide +kernel, rfl, by decide +kernel, by decide +kernel⟩
abbrev s_stands_for : Stmt := topS 12
theorem sc_stands_for : FnScope ["man", "side"] ["man", "side"] (defScope s_stands_for) := ⟨rfl, rfl, rfl, by decide +kernel, rfl, by decide +kernel, by decide +kernel⟩
abbrev s_general_of : Stmt := topS 13
theorem sc_general_of : FnScope ["side"] ["side"] (defScope s_general_of) := ⟨rfl, rfl, rfl, by decide +kernel, rfl, by decide +kernel, by decide +kernel⟩
abbrev s_forward : Stmt := topS 14
theorem sc_forward : FnScope ["side"] ["side"] (defScope s_forward) := ⟨rfl, rfl, rfl, by decide +kernel, rfl, by decide +kernel, by decide +kernel⟩
abbrev s_in_palace : Stmt := topS 15
theorem sc_in_palace : FnScope ["side", "point"] ["side", "point"] (defScope s_in_palace) := ⟨rfl, rfl, rfl, by decide +kernel, rfl, by decide +kernel, by decide +kernel⟩
abbrev s_on_own_half : Stmt := topS 16
theorem sc_on_own_half : FnScope ["side", "point"] ["side", "point"] (defScope s_on_own_half) := ⟨rfl, rfl, rfl, by decide +kernel, rfl, by decide +kernel, by decide +kernel⟩
abbrev s_after_move : Stmt := topS 17
theorem sc_after_move : FnScope ["board", "start", "end", "left"] ["board", "start", "end"] (defScope s_after_move) := ⟨rfl, rfl, rfl, by decide +kernel, rfl, by decide +kernel, by decide +kernel⟩
abbrev s_ends_to_try : Stmt := topS 21
theorem sc_ends_to_try : FnScope ["man", "start", "kind"] ["man", "start"] (defScope s_ends_to_try) := ⟨rfl, rfl, rfl, by decide +kernel, rfl, by decide +kernel, by decide +kernel⟩
abbrev s_starts_to_try : Stmt := topS 22
theorem sc_starts_to_try : FnScope ["end"] ["end"] (defScope s_starts_to_try) := ⟨rfl, rfl, rfl, by decide +kernel, rfl, by decide +kernel, by decide +kernel⟩
abbrev s_points_by_steps : Stmt := topS 23
theorem sc_points_by_steps : FnScope ["point", "steps", "step"] ["point", "steps"] (defScope s_points_by_steps) := ⟨rfl, rfl, rfl, by decide +kernel, rfl, by decide +kernel, by decide +kernel⟩
abbrev s_points_in_line : Stmt := topS 24
theorem sc_points_in_line : FnScope ["point", "lowest", "before"] ["point"] (defScope s_points_in_line) := ⟨rfl, rfl, rfl, by decide +kernel, rfl, by decide +kernel, by decide +kernel⟩
abbrev s_could_go : Stmt := topS 25
theorem sc_could_go : FnScope ["board", "start", "end", "man", "side", "kind"] ["board", "start", "end"] (defScope s_could_go) := ⟨rfl, rfl, rfl, by decide +kernel, rfl, by decide +kernel, by decide +kernel⟩
abbrev s_general_goes : Stmt := topS 26
theorem sc_general_goes : FnScope ["board", "side", "start", "end", "across", "along"] ["board", "side", "start", "end"] (defScope s_general_goes) := ⟨rfl, rfl, rfl, by decide +kernel, rfl, by decide +kernel, by decide +kernel⟩
abbrev s_guard_goes : Stmt := topS 27
theorem sc_guard_goes : FnScope ["side", "start", "end"] ["side", "start", "end"] (defScope s_guard_goes) := ⟨rfl, rfl, rfl, by decide +kernel, rfl, by decide +kernel, by decide +kernel⟩
abbrev s_elephant_goes : Stmt := topS 28
theorem sc_elephant_goes : FnScope ["board", "side", "start", "end", "between"] ["board", "side", "start", "end"] (defScope s_elephant_goes) := ⟨rfl, rfl, rfl, by decide +kernel, rfl, by decide +kernel, by decide +kernel⟩
abbrev s_horse_goes : Stmt := topS 29
theorem sc_horse_goes : FnScope ["board", "start", "end", "across", "along"] ["board", "start", "end"] (defScope s_horse_goes) := ⟨rfl, rfl, rfl, by decide +kernel, rfl, by decide +kernel, by decide +kernel⟩
abbrev s_chariot_goes : Stmt := topS 30
theorem sc_chariot_goes : FnScope ["board", "start", "end"] ["board", "start", "end"] (defScope s_chariot_goes) := ⟨rfl, rfl, rfl, by decide +kernel, rfl, by decide +kernel, by decide +kernel⟩
abbrev s_cannon_goes : Stmt := topS 31
theorem sc_cannon_goes : FnScope ["board", "start", "end", "needed"] ["board", "start", "end"] (defScope s_cannon_goes) := ⟨rfl, rfl, rfl, by decide +kernel, rfl, by decide +kernel, by decide +kernel⟩
abbrev s_soldier_goes : Stmt := topS 32
theorem sc_soldier_goes : FnScope ["side", "start", "end", "across", "along"] ["side", "start", "end"] (defScope s_soldier_goes) := ⟨rfl, rfl, rfl, by decide +kernel, rfl, by decide +kernel, by decide +kernel⟩
abbrev s_columns_apart : Stmt := topS 33
theorem sc_columns_apart : FnScope ["start", "end"] ["start", "end"] (defScope s_columns_apart) := ⟨rfl, rfl, rfl, by decide +kernel, rfl, by decide +kernel, by decide +kernel⟩
abbrev s_rows_apart : Stmt := topS 34
theorem sc_rows_apart : FnScope ["start", "end"] ["start", "end"] (defScope s_rows_apart) := ⟨rfl, rfl, rfl, by decide +kernel, rfl, by decide +kernel, by decide +kernel⟩
abbrev s_in_line : Stmt := topS 35
theorem sc_in_line : FnScope ["start", "end"] ["start", "end"] (defScope s_in_line) := ⟨rfl, rfl, rfl, by decide +kernel, rfl, by decide +kernel, by decide +kernel⟩
abbrev s_men_between : Stmt := topS 36
theorem sc_men_between : FnScope ["board", "start", "end", "step", "men", "point"] ["board", "start", "end"] (defScope s_men_between) := ⟨rfl, rfl, rfl, by decide +kernel, rfl, by decide +kernel, by decide +kernel⟩
abbrev s_general_is_reached : Stmt := topS 38
theorem sc_general_is_reached : FnScope ["board", "side", "general", "other", "start"] ["board", "side"] (defScope s_general_is_reached) := ⟨rfl, rfl, rfl, by decide +kernel, rfl, by decide +kernel, by decide +kernel⟩
abbrev s_may_move : Stmt := topS 39
theorem sc_may_move : FnScope ["board", "side", "start", "end"] ["board", "side", "start", "end"] (defScope s_may_move) := ⟨rfl, rfl, rfl, by decide +kernel, rfl, by decide +kernel, by decide +kernel⟩
abbrev s_moves_from : Stmt := topS 40
theorem sc_moves_from : FnScope ["board", "side", "start", "end"] ["board", "side", "start"] (defScope s_moves_from) := ⟨rfl, rfl, rfl, by decide +kernel, rfl, by decide +kernel, by decide +kernel⟩
abbrev s_all_moves : Stmt := topS 41
theorem sc_all_moves : FnScope ["board", "side", "found", "start"] ["board", "side"] (defScope s_all_moves) := ⟨rfl, rfl, rfl, by decide +kernel, rfl, by decide +kernel, by decide +kernel⟩
abbrev s_has_move : Stmt := topS 42
theorem sc_has_move : FnScope ["board", "side", "start"] ["board", "side"] (defScope s_has_move) := ⟨rfl, rfl, rfl, by decide +kernel, rfl, by decide +kernel, by decide +kernel⟩
abbrev s_has_move_from : Stmt := topS 43
theorem sc_has_move_from : FnScope ["board", "side", "start", "end"] ["board", "side", "start"] (defScope s_has_move_from) := ⟨rfl, rfl, rfl, by decide +kernel, rfl, by decide +kernel, by decide +kernel⟩
abbrev s_read_position : Stmt := topS 53
theorem sc_read_position : FnScope ["text", "size", "board"] ["text"] (defScope s_read_position) := ⟨rfl, rfl, rfl, by decide +kernel, rfl, by decide +kernel, by decide +kernel⟩
abbrev s_read_board : Stmt := topS 54
theorem sc_read_board : FnScope ["signs", "rows", "board", "place", "row", "men", "column", "man"] ["signs"] (defScope s_read_board) := ⟨rfl, rfl, rfl, by decide +kernel, rfl, by decide +kernel, by decide +kernel⟩
abbrev s_split_rows : Stmt := topS 55
theorem sc_split_rows : FnScope ["signs", "rows", "row", "sign"] ["signs"] (defScope s_split_rows) := ⟨rfl, rfl, rfl, by decide +kernel, rfl, by decide +kernel, by decide +kernel⟩
abbrev s_read_row : Stmt := topS 56
theorem sc_read_row : FnScope ["row", "men", "behind_digit", "sign"] ["row"] (defScope s_read_row) := ⟨rfl, rfl, rfl, by decide +kernel, rfl, by decide +kernel, by decide +kernel⟩
abbrev s_has_one_general : Stmt := topS 57
theorem sc_has_one_general : FnScope ["board", "side", "general"] ["board", "side"] (defScope s_has_one_general) := ⟨rfl, rfl, rfl, by decide +kernel, rfl, by decide +kernel, by decide +kernel⟩
abbrev s_find_win : Stmt := topS 59
theorem sc_find_win : FnScope ["board", "side", "most", "found", "number", "start", "end"] ["board", "side", "most"] (defScope s_find_win) := ⟨rfl, rfl, rfl, by decide +kernel, rfl, by decide +kernel, by decide +kernel⟩
abbrev s_has_lost : Stmt := topS 60
theorem sc_has_lost : FnScope ["board", "side", "more", "start", "end"] ["board", "side", "more"] (defScope s_has_lost) := ⟨rfl, rfl, rfl, by decide +kernel, rfl, by decide +kernel, by decide +kernel⟩
abbrev s_name_of_move : Stmt := topS 62
theorem sc_name_of_move : FnScope ["start", "end"] ["start", "end"] (defScope s_name_of_move) := ⟨rfl, rfl, rfl, by decide +kernel, rfl, by decide +kernel, by decide +kernel⟩
abbrev s_name_of_point : Stmt := topS 63
theorem sc_name_of_point : FnScope ["point"] ["point"] (defScope s_name_of_point) := ⟨rfl, rfl, rfl, by decide +kernel, rfl, by decide +kernel, by decide +kernel⟩
abbrev s_win : Stmt := topS 69
theorem sc_win : FnScope ["k", "most", "text", "position", "found"] ["k", "most", "text"] (defScope s_win) := ⟨rfl, rfl, rfl, by decide +kernel, rfl, by decide +kernel, by decide +kernel⟩
structure Tx (w : World) (K : PySem.W.Frag) (mg : Str → Option Value) (dM dS dT dL : Addr) : Prop where
  c_COLUMNS : ∃ t, mg "COLUMNS" = some (.int 9 t)
  c_ROWS : ∃ t, mg "ROWS" = some (.int 10 t)
  c_POINTS : ∃ t, mg "POINTS" = some (.int 90 t)
  c_FREE : ∃ t, mg "FREE" = some (.str "." t)
  c_RED : ∃ t, mg "RED" = some (.str "w" t)
  c_BLACK : ∃ t, mg "BLACK" = some (.str "b" t)
  c_BLANK : ∃ t, mg "BLANK" = some (.int 32 t)
  c_SLASH : ∃ t, mg "SLASH" = some (.int 47 t)
  c_ZERO : ∃ t, mg "ZERO" = some (.int 48 t)
  c_ONE : ∃ t, mg "ONE" = some (.int 49 t)
  c_NINE : ∃ t, mg "NINE" = some (.int 57 t)
  c_LETTER_A : ∃ t, mg "LETTER_A" = some (.int 97 t)
  c_OUT_OF_RANGE : ∃ t, mg "OUT_OF_RANGE" = some (.int (-2) t)
  c_NO_POSITION : ∃ t, mg "NO_POSITION" = some (.int (-3) t)
  c_NO_WIN : ∃ t, mg "NO_WIN" = some (.int 0 t)
  c_LARGEST_WIN : ∃ t, mg "LARGEST_WIN" = some (.int 3 t)
  c_MEN : mg "MEN" = some (.ref dM)
  c_SIDES : mg "SIDES" = some (.ref dS)
  d_MEN : KDI K dM menT
  d_SIDES : KDI K dS sidesT
  c_STEPS : mg "STEPS" = some (.ref dT)
  d_STEPS : KDT w K dT
  c_SLANTED_STEPS : mg "SLANTED_STEPS" = some (.ref dL)
  d_SLANTED_STEPS : KTI K dL slantT
  b_abs : mg "abs" = none
  b_enumerate : mg "enumerate" = none
  b_len : mg "len" = none
  b_list : mg "list" = none
  b_max : mg "max" = none
  b_min : mg "min" = none
  b_ord : mg "ord" = none
  b_range : mg "range" = none
structure Has (K : PySem.W.Frag) (mg : Str → Option Value) (x : Str) (st : Stmt) (ps : List Str) : Prop where
  ex : ∃ f fd, Fun K x x st f fd ∧ mg x = some (.ref f) ∧ Binds K fd ps []
def allCells : List Cell := [none, some ⟨true, .K⟩, some ⟨true, .A⟩, some ⟨true, .B⟩, some ⟨true, .N⟩, some ⟨true, .R⟩, some ⟨true, .C⟩, some ⟨true, .P⟩, some ⟨false, .K⟩, some ⟨false, .A⟩, some ⟨false, .B⟩, some ⟨false, .N⟩, some ⟨false, .R⟩, some ⟨false, .C⟩, some ⟨false, .P⟩]
theorem mem_all (c : Cell) : c ∈ allCells := by
  rcases c with _ | ⟨_ | _, k⟩
  · decide
  · cases k <;> decide
  · cases k <;> decide
theorem mS_inj {a b : Cell} (h : mS a = mS b) : a = b := by
  have e : ∀ a ∈ allCells, ∀ b ∈ allCells, mS a = mS b → a = b := by decide +kernel
  exact e a (mem_all a) b (mem_all b) h
theorem up_m (c : Cell) : Txt.isupper (mS c) = stands c true := by
  have e : ∀ a ∈ allCells, Txt.isupper (mS a) = stands a true := by decide +kernel
  exact e c (mem_all c)
theorem lo_m (c : Cell) : Txt.islower (mS c) = stands c false := by
  have e : ∀ a ∈ allCells, Txt.islower (mS a) = stands a false := by decide +kernel
  exact e c (mem_all c)
theorem low_m (m : Man) : Txt.lower (mS (some m)) = kS m.kind := by
  rcases m with ⟨_ | _, k⟩ <;> cases k <;> decide +kernel
theorem len_m (c : Cell) : (mS c).length ≤ 5592405 := by
  have e : ∀ a ∈ allCells, (mS a).length ≤ 5592405 := by decide +kernel
  exact e c (mem_all c)
theorem d_red (b : Bool) : decide (V.str (sd b) = V.str "w") = b := by
  cases b
  · exact decide_eq_false (fun h => absurd (V.str.inj h) (by decide +kernel))
  · exact decide_eq_true rfl
theorem dI (i j : Int) : decide (V.int i = V.int j) = decide (i = j) := by
  by_cases h : i = j
  · rw [decide_eq_true h, h]; exact decide_eq_true rfl
  · rw [decide_eq_false h]; exact decide_eq_false fun e => h (V.int.inj e)
theorem dC (a b : Cell) : decide (V.str (mS a) = V.str (mS b)) = decide (a = b) := by
  by_cases h : a = b
  · rw [decide_eq_true h, h]; exact decide_eq_true rfl
  · rw [decide_eq_false h]; exact decide_eq_false fun e => h (mS_inj (V.str.inj e))
theorem dKd (a b : Sn32.Kind) : decide (V.str (kS a) = V.str (kS b)) = decide (a = b) := by
  have e : ∀ a b : Sn32.Kind, kS a = kS b → a = b := by
    intro a b
    cases a <;> cases b <;> first | (intro _; rfl) | (intro h; exact absurd h (by decide +kernel))
  by_cases h : a = b
  · rw [decide_eq_true h, h]; exact decide_eq_true rfl
  · rw [decide_eq_false h]; exact decide_eq_false fun z => h (e a b (V.str.inj z))
theorem ifc {c b : Bool} {A B : Prop} (e : c = b) (h : if b = true then A else B) : if c = true then A else B := by
  rw [e]
  exact h
theorem qb {Q : VK} {H : Hp} {a b : Bool} (e : a = b) (q : Q (.bl b) H) : Q (.bl a) H := by
  rw [e]
  exact q
theorem same_upd {H : Hp} {p : Addr} {o : HO} (h : H p = none) : Same H (upd H p o) := fun b x e => by
  rw [upd_ne (ne_of_none e h)]
  exact e
/-! ### boards are texts -/
def cd : Cell → Nat
  | none => 46
  | some ⟨true, .K⟩ => 75
  | some ⟨true, .A⟩ => 65
  | some ⟨true, .B⟩ => 66
  | some ⟨true, .N⟩ => 78
  | some ⟨true, .R⟩ => 82
  | some ⟨true, .C⟩ => 67
  | some ⟨true, .P⟩ => 80
  | some ⟨false, .K⟩ => 107
  | some ⟨false, .A⟩ => 97
  | some ⟨false, .B⟩ => 98
  | some ⟨false, .N⟩ => 110
  | some ⟨false, .R⟩ => 114
  | some ⟨false, .C⟩ => 99
  | some ⟨false, .P⟩ => 112
theorem mS_cd (c : Cell) : mS c = ⟨#[cd c]⟩ := by
  have e : ∀ a ∈ allCells, mS a = ⟨#[cd a]⟩ := by decide +kernel
  exact e c (mem_all c)
theorem cd_inj {a b : Cell} (h : cd a = cd b) : a = b := mS_inj (by rw [mS_cd, mS_cd, h])
def bS (bd : Bd) : Str := ⟨(bd.map cd).toArray⟩
def BdV (x : V) (bd : Bd) : Prop := x = .str (bS bd) ∧ bd.length = 90
theorem bS_list (bd : Bd) : (bS bd).cps.toList = bd.map cd := by
  show (bd.map cd).toArray.toList = _
  exact List.toList_toArray
theorem bS_len (bd : Bd) : (bS bd).length = bd.length := by
  show (bd.map cd).toArray.size = _
  rw [List.size_toArray, List.length_map]
theorem join_bd (bd : Bd) : Txt.join "" (bd.map mS) = bS bd := by
  have key : ∀ (r : List Cell) (acc : Array Nat), (r.map mS).foldl (fun acc p => acc ++ (("" : Str).cps) ++ p.cps) acc = acc ++ (r.map cd).toArray := by
    intro r
    induction r with
    | nil =>
      intro acc
      simp
    | cons c r ih =>
      intro acc
      rw [List.map_cons, List.foldl_cons, ih, mS_cd, show (("" : Str).cps) = #[] from by decide +kernel]
      simp
  show (⟨((bd.map mS).drop 1).foldl (fun acc p => acc ++ (("" : Str).cps) ++ p.cps) ((bd.map mS).headD Str.empty).cps⟩ : Str) = bS bd
  cases bd with
  | nil => rfl
  | cons c r =>
    show (⟨(r.map mS).foldl (fun acc p => acc ++ (("" : Str).cps) ++ p.cps) (mS c).cps⟩ : Str) = bS (c :: r)
    rw [key, mS_cd]
    unfold bS
    congr 1
    simp
theorem chars_bd (bd : Bd) : ((bS bd).cps.toList.map fun c => V.str ⟨#[c]⟩) = bd.map mV := by
  rw [bS_list, List.map_map]
  congr 1
  funext c
  show V.str ⟨#[cd c]⟩ = V.str (mS c)
  rw [mS_cd]
theorem map_mV (bd : Bd) : bd.map mV = (bd.map mS).map V.str := by
  rw [List.map_map]
  rfl
theorem len_ms (bd : Bd) : ((bd.map mS).map (·.length)).sum = bd.length := by
  induction bd with
  | nil => rfl
  | cons c r ih =>
    rw [List.map_cons, List.map_cons, List.sum_cons, ih, mS_cd, List.length_cons]
    show 1 + r.length = _
    omega
theorem at_bd {bd : Bd} {p : Int} (hl : bd.length = 90) (h0 : 0 ≤ p) (h1 : p < 90) : atI (bS bd).cps.toList p = some (cd (cell bd p)) := by
  obtain ⟨n, rfl⟩ : ∃ n : Nat, p = (n : Int) := ⟨p.toNat, by omega⟩
  have hn : n < bd.length := by omega
  rw [bS_list]
  refine atI_nat (j := n) ?_
  rw [List.getElem?_map]
  unfold cell
  rw [show ((n : Int)).toNat = n from Int.toNat_natCast n, List.getElem?_eq_getElem hn]
  rfl
/-! one sign in a text -/
theorem occ_one (x : Str) (c limit : Nat) : Builtin.Str.occurrences x ⟨#[c]⟩ 0 x.length limit = ((List.range' 0 (x.length + 1)).filter fun i => decide (x.cps.toList[i]? = some c)).take limit := by
  rw [PySem.StrLaws.occ_eq]
  have key : ∀ (k a : Nat) (acc : Array Nat) (free : Nat), free ≤ a → acc.size ≤ limit → (forIn (List.range' a k) (acc, free) (PySem.StrLaws.occBody x ⟨#[c]⟩ x.length limit)).run.fst.toList
      = acc.toList ++ ((List.range' a k).filter fun i => decide (x.cps.toList[i]? = some c)).take (limit - acc.size) := by
    intro k
    induction k with
    | zero =>
      intro a acc free _ _
      rw [List.range'_zero, List.forIn_nil]
      show acc.toList = _
      simp
    | succ k ih =>
      intro a acc free hf hs
      rw [List.range'_succ, List.forIn_cons]
      unfold PySem.StrLaws.occBody
      have hone := PySem.StrLaws.subAt_one x c a
      by_cases hp : x.cps.toList[a]? = some c
      · obtain ⟨g1, g2⟩ := hone.mpr hp
        by_cases hl : acc.size < limit
        · rw [if_pos ⟨⟨⟨hl, hf⟩, g1⟩, g2⟩]
          have e := ih (a + 1) (acc.push a) (a + (⟨#[c]⟩ : Str).length) (by show a + 1 ≤ a + 1; omega) (by rw [Array.size_push]; omega)
          refine Eq.trans e ?_
          rw [List.filter_cons, if_pos (decide_eq_true hp), Array.toList_push, Array.size_push, List.append_assoc]
          congr 1
          rw [show limit - acc.size = (limit - (acc.size + 1)) + 1 by omega, List.take_succ_cons]
          rfl
        · rw [if_neg (fun z => hl z.1.1.1)]
          have e := ih (a + 1) acc free (by omega) hs
          refine Eq.trans e ?_
          rw [show limit - acc.size = 0 by omega]
          simp
      · rw [if_neg (fun z => hp (hone.mp ⟨z.1.2, z.2⟩))]
        have e := ih (a + 1) acc free (by omega) hs
        refine Eq.trans e ?_
        rw [List.filter_cons, if_neg (by simpa using hp)]
  have e := key (x.length + 1 - 0) 0 #[] 0 (Nat.le_refl _) (Nat.zero_le _)
  refine Eq.trans e ?_
  simp
theorem count_range {α : Type} [DecidableEq α] (c : α) : ∀ (l : List α) (a : Nat), ((List.range' a (l.length + 1)).filter fun i => decide (l[i - a]? = some c)).length = l.countP (fun x => x == c)
  | [], a => by simp
  | x :: r, a => by
    rw [List.length_cons, List.range'_succ, List.filter_cons, List.countP_cons]
    have e : ((List.range' (a + 1) (r.length + 1)).filter fun i => decide ((x :: r)[i - a]? = some c)) = ((List.range' (a + 1) (r.length + 1)).filter fun i => decide (r[i - (a + 1)]? = some c)) := by
      refine List.filter_congr fun i hi => ?_
      have := (List.mem_range'_1.mp hi).1
      rw [show i - a = (i - (a + 1)) + 1 by omega, List.getElem?_cons_succ]
    rw [e, Nat.sub_self]
    have ih := count_range c r (a + 1)
    by_cases h : x = c
    · subst h
      rw [if_pos (by simp), List.length_cons, ih]
      simp
    · rw [if_neg (by simpa using h), ih]
      simp [h]
theorem count_sign (bd : Bd) (c : Cell) : Txt.count (bS bd) (mS c) = (bd.countP (fun x => x == c) : Nat) := by
  unfold Txt.count
  rw [mS_cd, occ_one, List.take_of_length_le, bS_list, bS_len]
  · have e := count_range (cd c) (bd.map cd) 0
    rw [List.length_map] at e
    simp only [Nat.sub_zero] at e
    rw [e, List.countP_map]
    congr 2
    funext x
    show (cd x == cd c) = (x == c)
    by_cases h : x = c
    · rw [h, beq_self_eq_true, beq_self_eq_true]
    · rw [beq_eq_false_iff_ne.mpr h]
      exact beq_eq_false_iff_ne.mpr fun z => h (cd_inj z)
  · refine Nat.le_trans (List.length_filter_le _ _) ?_
    rw [List.length_range']
    exact Nat.le_refl _
theorem gen_at {bd : Bd} {b : Bool} (h : gen bd b < bd.length) : bd[gen bd b]? = some (some ⟨b, .K⟩) := by
  unfold gen at *
  have e := List.findIdx_getElem (p := fun c : Cell => c == some ⟨b, .K⟩) (xs := bd) (w := h)
  rw [List.getElem?_eq_getElem h]
  exact congrArg some (eq_of_beq e)
theorem gen_first {bd : Bd} {b : Bool} {m : Nat} {c : Cell} (h : m < gen bd b) (hc : bd[m]? = some c) : c ≠ some ⟨b, .K⟩ := by
  intro e
  unfold gen at h
  have q := List.not_of_lt_findIdx h
  obtain ⟨hm, hv⟩ := List.getElem?_eq_some_iff.mp hc
  rw [hv, e] at q
  simp at q
theorem index_gen {bd : Bd} {b : Bool} (hl : bd.length = 90) (hg : gen bd b < 90) : Builtin.Str.occurrences (bS bd) (mS (some ⟨b, .K⟩)) 0 (bS bd).length 1 = [gen bd b] := by
  have e1 : bd[gen bd b]? = some (some ⟨b, .K⟩) := gen_at (by omega)
  have e2 : ∀ m, m < gen bd b → ¬ (bd.map cd)[m]? = some (cd (some ⟨b, .K⟩)) := by
    intro m hm hc
    rw [List.getElem?_map, List.getElem?_eq_getElem (by omega)] at hc
    exact gen_first hm (List.getElem?_eq_getElem (by omega)) (cd_inj (Option.some.inj hc))
  rw [mS_cd, occ_one, bS_list, bS_len, hl]
  have sp : List.range' 0 (90 + 1) = List.range' 0 (gen bd b) ++ gen bd b :: List.range' (gen bd b + 1) (90 - gen bd b) := by
    rw [← List.range'_succ]
    have := List.range'_append_1 (s := 0) (m := gen bd b) (n := 90 - gen bd b + 1)
    rw [Nat.zero_add] at this
    rw [this]
    congr 1
    omega
  rw [sp, List.filter_append, List.filter_cons, if_pos]
  · rw [List.filter_eq_nil_iff.mpr]
    · rfl
    · intro a ha
      have := (List.mem_range'_1.mp ha).2
      simpa using e2 a (by omega)
  · rw [List.getElem?_map, e1]
    exact decide_eq_true rfl
section
variable {X : Cx}
theorem ix_bd : IxR X (fun x y H Q => ∃ (bd : Bd) (i : Int), BdV x bd ∧ y = .int i ∧ 0 ≤ i ∧ i < 90 ∧ Q (mV (cell bd i)) H) := by
  intro value slice pins s σ H x y v u Q I rx ry h hs
  obtain ⟨bd, i, ⟨rfl, hl⟩, rfl, h0, h1, q⟩ := h
  refine ix_str value slice pins s σ H _ _ v u Q I rx ry ⟨bS bd, i, _, rfl, rfl, ?_, at_bd hl h0 h1, ?_⟩ hs
  · rw [bS_len, hl, sizeLine_eq]
    decide
  · rw [← mS_cd]
    exact q
theorem op_notIn_bd : OpR X (compareOp .NotIn) (fun x y H Q => ∃ (c : Cell) (bd : Bd), x = mV c ∧ BdV y bd ∧ Q (.bl (!decide (c ∈ bd))) H) := by
  intro pins s σ H x y v u Q I rx ry h
  obtain ⟨c, bd, rfl, ⟨rfl, hl⟩, q⟩ := h
  refine op_notIn_sign pins s σ H _ _ v u Q I rx ry ⟨cd c, bS bd, congrArg V.str (mS_cd c), rfl, ?_⟩
  have e : decide (cd c ∈ (bS bd).cps.toList) = decide (c ∈ bd) := by
    rw [bS_list, Bool.eq_iff_iff, decide_eq_true_eq, decide_eq_true_eq, List.mem_map]
    constructor
    · rintro ⟨a, ha, e⟩
      rw [← cd_inj e]
      exact ha
    · exact fun h => ⟨c, h, rfl⟩
  rw [e]
  exact q
theorem mt_index_bd : MtR X "str.index" (fun x xs H Q => ∃ (bd : Bd) (b : Bool), BdV x bd ∧ xs = [mV (some ⟨b, .K⟩)] ∧ gen bd b < 90 ∧ Q (.int (gen bd b : Nat)) H) := by
  intro pins s σ H x xs v us Q I rx rs h
  obtain ⟨bd, b, ⟨rfl, hl⟩, rfl, hg, q⟩ := h
  exact mt_sindex pins s σ H _ _ v us Q I rx rs ⟨bS bd, mS (some ⟨b, .K⟩), gen bd b, [], rfl, rfl, index_gen hl hg, q⟩
theorem mt_count_bd : MtR X "str.count" (fun x xs H Q => ∃ (bd : Bd) (b : Bool), BdV x bd ∧ xs = [mV (some ⟨b, .K⟩)] ∧ Q (.int (bd.countP (fun c => c == some ⟨b, .K⟩) : Nat)) H) := by
  intro pins s σ H x xs v us Q I rx rs h
  obtain ⟨bd, b, ⟨rfl, hl⟩, rfl, q⟩ := h
  refine mt_count pins s σ H _ _ v us Q I rx rs ⟨bS bd, mS (some ⟨b, .K⟩), rfl, rfl, ?_⟩
  rw [count_sign]
  exact q
end
theorem mem_gen {bd : Bd} {b : Bool} (hl : bd.length = 90) : decide ((some ⟨b, .K⟩ : Cell) ∈ bd) = decide (gen bd b < 90) := by
  rw [Bool.eq_iff_iff, decide_eq_true_eq, decide_eq_true_eq, ← hl]
  unfold gen
  rw [List.findIdx_lt_length]
  constructor
  · exact fun h => ⟨_, h, beq_self_eq_true _⟩
  · rintro ⟨x, hx, h⟩
    rw [← eq_of_beq h]
    exact hx
end Tr

namespace Tr
open Sn32 (Man Board Pt at_ free onBoard add ray straight slanted)
/-! ### points: a number of the program and a point of the specification -/
def ptOf (n : Int) : Pt := (n / 10, 9 - n % 10)
def nOf (p : Pt) : Int := p.1 * 10 + (9 - p.2)
theorem onBoard_iff (p : Pt) : onBoard p = true ↔ (0 ≤ p.1 ∧ p.1 ≤ 8) ∧ (0 ≤ p.2 ∧ p.2 ≤ 9) := by
  unfold onBoard
  simp only [Bool.and_eq_true, decide_eq_true_eq]
  omega
theorem ptOf_on {n : Int} (h : 0 ≤ n ∧ n < 90) : onBoard (ptOf n) = true := by
  rw [onBoard_iff]
  unfold ptOf
  constructor <;> constructor <;> (dsimp only; omega)
theorem nOf_pt (n : Int) : nOf (ptOf n) = n := by
  unfold nOf ptOf
  dsimp only
  omega
theorem ptOf_n {p : Pt} (h : onBoard p = true) : ptOf (nOf p) = p := by
  rw [onBoard_iff] at h
  unfold nOf ptOf
  obtain ⟨x, y⟩ := p
  dsimp only at *
  have h1 : (x * 10 + (9 - y)) / 10 = x := by omega
  have h2 : 9 - (x * 10 + (9 - y)) % 10 = y := by omega
  rw [h1, h2]
theorem nOf_on {p : Pt} (h : onBoard p = true) : 0 ≤ nOf p ∧ nOf p < 90 := by
  rw [onBoard_iff] at h
  unfold nOf
  omega
theorem ptOf_inj {a b : Int} (h : ptOf a = ptOf b) : a = b := by
  rw [← nOf_pt a, ← nOf_pt b, h]
/-- the program's board and the specification's -/
structure Rel (bd : Bd) (b : Board) : Prop where
  l1 : bd.length = 90
  l2 : b.length = 90
  eq : ∀ c r : Nat, c < 9 → r < 10 → bd[10 * c + r]? = b[9 * (9 - r) + c]?
theorem Rel.at_pt {bd : Bd} {b : Board} (R : Rel bd b) {n : Int} (h : 0 ≤ n ∧ n < 90) : at_ b (ptOf n) = cell bd n := by
  obtain ⟨k, rfl⟩ : ∃ k : Nat, n = (k : Int) := ⟨n.toNat, by omega⟩
  unfold at_ cell
  rw [if_pos (ptOf_on h), Int.toNat_natCast]
  have e := R.eq (k / 10) (k % 10) (by omega) (by omega)
  have e1 : 10 * (k / 10) + k % 10 = k := by omega
  have e2 : Sn32.index (ptOf (k : Int)) = 9 * (9 - k % 10) + k / 10 := by
    unfold Sn32.index ptOf
    dsimp only
    omega
  rw [e1] at e
  rw [e2, e]
theorem Rel.at_n {bd : Bd} {b : Board} (R : Rel bd b) {p : Pt} (h : onBoard p = true) : at_ b p = cell bd (nOf p) := by
  rw [← R.at_pt (nOf_on h), ptOf_n h]
theorem at_off {b : Board} {p : Pt} (h : onBoard p = false) : at_ b p = none := by
  unfold at_
  rw [if_neg]
  rw [h]
  exact Bool.false_ne_true
theorem Rel.free_pt {bd : Bd} {b : Board} (R : Rel bd b) {n : Int} (h : 0 ≤ n ∧ n < 90) : free b (ptOf n) = (cell bd n).isNone := by
  unfold free
  rw [ptOf_on h, R.at_pt h]
  rfl
theorem free_iff {b : Board} {p : Pt} : free b p = true ↔ onBoard p = true ∧ at_ b p = none := by
  unfold free
  rw [Bool.and_eq_true, Option.isNone_iff_eq_none]
theorem at_on {b : Board} {p : Pt} {m : Man} (h : at_ b p = some m) : onBoard p = true := by
  cases e : onBoard p with
  | true => rfl
  | false =>
    rw [at_off e] at h
    cases h
/-! ### rays -/
def go (p : Pt) (d : Int × Int) (k : Nat) : Pt := (p.1 + k * d.1, p.2 + k * d.2)
theorem go_zero (p : Pt) (d : Int × Int) : go p d 0 = p := by
  unfold go
  simp
theorem go_add (p : Pt) (d : Int × Int) (k : Nat) : go (add p d) d k = go p d (k + 1) := by
  unfold go add
  dsimp only
  have e : ∀ x : Int, ((k + 1 : Nat) : Int) * x = x + (k : Int) * x := by
    intro x
    rw [Int.natCast_add, Int.add_mul]
    omega
  rw [e, e, ← Int.add_assoc, ← Int.add_assoc]
theorem go_one (p : Pt) (d : Int × Int) : add p d = go p d 1 := by
  have := go_add p d 0
  rw [go_zero] at this
  exact this
theorem ray_fst {b : Board} {d : Int × Int} : ∀ {n : Nat} {p q : Pt}, q ∈ (ray b d n p).1 ↔ ∃ k, 1 ≤ k ∧ k ≤ n ∧ q = go p d k ∧ ∀ j, 1 ≤ j → j ≤ k → free b (go p d j) = true
  | 0, p, q => by
    constructor
    · intro h
      cases h
    · rintro ⟨k, h1, h2, _⟩
      omega
  | n + 1, p, q => by
    unfold ray
    dsimp only
    by_cases ho : onBoard (add p d) = false
    · rw [if_pos ho]
      constructor
      · intro h
        cases h
      · rintro ⟨k, h1, h2, _, h4⟩
        have := h4 1 (Nat.le_refl _) h1
        rw [← go_one, free_iff, ho] at this
        exact absurd this.1 Bool.false_ne_true
    · rw [if_neg ho]
      by_cases hf : free b (add p d) = true
      · rw [if_pos hf]
        dsimp only
        rw [List.mem_cons, ray_fst (n := n)]
        constructor
        · rintro (h | ⟨k, h1, h2, h3, h4⟩)
          · refine ⟨1, Nat.le_refl _, by omega, by rw [h, go_one], fun j h1 h2 => ?_⟩
            rw [show j = 1 by omega, ← go_one]
            exact hf
          · refine ⟨k + 1, by omega, by omega, by rw [h3, go_add], fun j h5 h6 => ?_⟩
            by_cases hj : j = 1
            · rw [hj, ← go_one]
              exact hf
            · have := h4 (j - 1) (by omega) (by omega)
              rw [go_add, show j - 1 + 1 = j by omega] at this
              exact this
        · rintro ⟨k, h1, h2, h3, h4⟩
          by_cases hk : k = 1
          · exact .inl (by rw [h3, hk, go_one])
          · refine .inr ⟨k - 1, by omega, by omega, by rw [h3, go_add, show k - 1 + 1 = k by omega], fun j h5 h6 => ?_⟩
            rw [go_add]
            exact h4 (j + 1) (by omega) (by omega)
      · rw [if_neg hf]
        constructor
        · intro h
          cases h
        · rintro ⟨k, h1, h2, h3, h4⟩
          exact absurd (by rw [go_one]; exact h4 1 (Nat.le_refl _) h1) hf
theorem ray_snd {b : Board} {d : Int × Int} : ∀ {n : Nat} {p q : Pt}, (ray b d n p).2 = some q ↔ ∃ k, 1 ≤ k ∧ k ≤ n ∧ q = go p d k ∧ onBoard q = true ∧ at_ b q ≠ none ∧ ∀ j, 1 ≤ j → j < k → free b (go p d j) = true
  | 0, p, q => by
    constructor
    · intro h
      cases h
    · rintro ⟨k, h1, h2, _⟩
      omega
  | n + 1, p, q => by
    unfold ray
    dsimp only
    by_cases ho : onBoard (add p d) = false
    · rw [if_pos ho]
      constructor
      · intro h
        cases h
      · rintro ⟨k, h1, h2, h3, h4, h5, h6⟩
        by_cases hk : k = 1
        · rw [h3, hk, ← go_one, ho] at h4
          cases h4
        · have := h6 1 (Nat.le_refl _) (by omega)
          rw [← go_one, free_iff, ho] at this
          exact absurd this.1 Bool.false_ne_true
    · rw [if_neg ho]
      have ho' : onBoard (add p d) = true := by
        cases h : onBoard (add p d) with
        | true => rfl
        | false => exact absurd h ho
      by_cases hf : free b (add p d) = true
      · rw [if_pos hf]
        dsimp only
        rw [ray_snd (n := n)]
        constructor
        · rintro ⟨k, h1, h2, h3, h4, h5, h6⟩
          refine ⟨k + 1, by omega, by omega, by rw [h3, go_add], h4, h5, fun j h7 h8 => ?_⟩
          by_cases hj : j = 1
          · rw [hj, ← go_one]
            exact hf
          · have := h6 (j - 1) (by omega) (by omega)
            rw [go_add, show j - 1 + 1 = j by omega] at this
            exact this
        · rintro ⟨k, h1, h2, h3, h4, h5, h6⟩
          have hk : k ≠ 1 := by
            intro hk
            rw [h3, hk, ← go_one] at h5
            exact h5 (free_iff.mp hf).2
          refine ⟨k - 1, by omega, by omega, by rw [h3, go_add, show k - 1 + 1 = k by omega], h4, h5, fun j h7 h8 => ?_⟩
          rw [go_add]
          exact h6 (j + 1) (by omega) (by omega)
      · rw [if_neg hf]
        dsimp only
        have hn : at_ b (add p d) ≠ none := fun z => hf (free_iff.mpr ⟨ho', z⟩)
        constructor
        · intro h
          have h : add p d = q := Option.some.inj h
          refine ⟨1, Nat.le_refl _, by omega, by rw [← h, go_one], by rw [← h]; exact ho', by rw [← h]; exact hn, fun j h7 h8 => by omega⟩
        · rintro ⟨k, h1, h2, h3, h4, h5, h6⟩
          by_cases hk : k = 1
          · rw [h3, hk, go_one]
          · exact absurd (by rw [go_one]; exact h6 1 (Nat.le_refl _) (by omega)) hf
end Tr

namespace Tr
open Sn32 (Man Board Pt at_ free onBoard add ray straight slanted)
theorem range_rev (n : Nat) : (List.range n).map (fun i => n - 1 - i) = (List.range n).reverse := by
  refine List.ext_getElem (by simp) fun i h1 h2 => ?_
  simp only [List.length_map, List.length_range] at h1
  rw [List.getElem_map, List.getElem_range, List.getElem_reverse, List.getElem_range]
  simp only [List.length_range]
theorem countP_rev (n : Nat) (f : Nat → Bool) : (List.range n).countP (fun i => f (n - 1 - i)) = (List.range n).countP f := by
  have h : (List.range n).countP (fun i => f (n - 1 - i)) = ((List.range n).map (fun i => n - 1 - i)).countP f := by
    rw [List.countP_map]
    rfl
  rw [h, range_rev, List.countP_reverse]
theorem nOf_go (s : Int) (d : Int × Int) (k : Nat) : nOf (go (ptOf s) d k) = s + k * (10 * d.1 - d.2) := by
  unfold nOf go ptOf
  dsimp only
  have e : (k : Int) * (10 * d.1 - d.2) = 10 * ((k : Int) * d.1) - (k : Int) * d.2 := by
    rw [Int.mul_sub, ← Int.mul_assoc, Int.mul_comm (k : Int) 10, Int.mul_assoc]
  rw [e]
  generalize (k : Int) * d.1 = u
  generalize (k : Int) * d.2 = v
  omega
theorem mem_straight {d : Int × Int} : d ∈ straight ↔ d = (1, 0) ∨ d = (-1, 0) ∨ d = (0, 1) ∨ d = (0, -1) := by
  unfold straight
  simp
theorem line_dir {s e : Int} (hs : 0 ≤ s ∧ s < 90) (he : 0 ≤ e ∧ e < 90) (hne : s ≠ e) : line s e = true ↔ ∃ d ∈ straight, ∃ k : Nat, 1 ≤ k ∧ k ≤ 9 ∧ ptOf e = go (ptOf s) d k := by
  unfold line
  rw [Bool.or_eq_true, decide_eq_true_eq, decide_eq_true_eq]
  constructor
  · rintro (h | h)
    · by_cases hl : s < e
      · refine ⟨(0, -1), by rw [mem_straight]; simp, (e - s).toNat, by omega, by omega, ?_⟩
        unfold ptOf go
        dsimp only
        rw [Prod.mk.injEq]
        constructor <;> omega
      · refine ⟨(0, 1), by rw [mem_straight]; simp, (s - e).toNat, by omega, by omega, ?_⟩
        unfold ptOf go
        dsimp only
        rw [Prod.mk.injEq]
        constructor <;> omega
    · by_cases hl : s < e
      · refine ⟨(1, 0), by rw [mem_straight]; simp, ((e - s) / 10).toNat, by omega, by omega, ?_⟩
        unfold ptOf go
        dsimp only
        rw [Prod.mk.injEq]
        constructor <;> omega
      · refine ⟨(-1, 0), by rw [mem_straight]; simp, ((s - e) / 10).toNat, by omega, by omega, ?_⟩
        unfold ptOf go
        dsimp only
        rw [Prod.mk.injEq]
        constructor <;> omega
  · rintro ⟨d, hd, k, h1, h2, h3⟩
    unfold ptOf go at h3
    dsimp only at h3
    rw [Prod.mk.injEq] at h3
    rw [mem_straight] at hd
    rcases hd with rfl | rfl | rfl | rfl <;> (dsimp only at h3; omega)
theorem btw_dir {bd : Bd} {s e : Int} (hs : 0 ≤ s ∧ s < 90) (he : 0 ≤ e ∧ e < 90) {d : Int × Int} (hd : d ∈ straight) {k : Nat} (h1 : 1 ≤ k) (h3 : ptOf e = go (ptOf s) d k) :
    btw bd s e = (List.range (k - 1)).countP fun j => (cell bd (nOf (go (ptOf s) d (j + 1)))).isSome := by
  have h4 : (e / 10 = s / 10 + k * d.1) ∧ (9 - e % 10 = 9 - s % 10 + k * d.2) := by
    unfold ptOf go at h3
    dsimp only at h3
    rw [Prod.mk.injEq] at h3
    exact h3
  have e1 : ∀ j : Nat, nOf (go (ptOf s) d (j + 1)) = s + ((j : Int) + 1) * (10 * d.1 - d.2) := by
    intro j
    rw [nOf_go]
    congr 1
  simp only [e1]
  rw [mem_straight] at hd
  unfold btw
  rcases hd with rfl | rfl | rfl | rfl
  · dsimp only at *
    have a1 : stp s e = 10 := if_neg (by omega)
    have a2 : mn s e = s := if_neg (by omega)
    have a3 : mx s e = e := if_pos (by omega)
    have a4 : turns s e = k - 1 := by
      unfold turns
      rw [a1, a2, a3]
      split <;> omega
    rw [a4, a1, a2]
    congr 1
    funext j
    congr 2
    omega
  · dsimp only at *
    have a1 : stp s e = 10 := if_neg (by omega)
    have a2 : mn s e = e := if_pos (by omega)
    have a3 : mx s e = s := if_neg (by omega)
    have a4 : turns s e = k - 1 := by
      unfold turns
      rw [a1, a2, a3]
      split <;> omega
    rw [a4, a1, a2, ← countP_rev]
    refine List.countP_congr fun j hj => ?_
    rw [List.mem_range] at hj
    rw [show e + 10 + ((k - 1 - 1 - j : Nat) : Int) * 10 = s + ((j : Int) + 1) * (10 * -1 - 0) by omega]
  · dsimp only at *
    have a1 : stp s e = 1 := if_pos (by omega)
    have a2 : mn s e = e := if_pos (by omega)
    have a3 : mx s e = s := if_neg (by omega)
    have a4 : turns s e = k - 1 := by
      unfold turns
      rw [a1, a2, a3]
      split <;> omega
    rw [a4, a1, a2, ← countP_rev]
    refine List.countP_congr fun j hj => ?_
    rw [List.mem_range] at hj
    rw [show e + 1 + ((k - 1 - 1 - j : Nat) : Int) * 1 = s + ((j : Int) + 1) * (10 * 0 - 1) by omega]
  · dsimp only at *
    have a1 : stp s e = 1 := if_pos (by omega)
    have a2 : mn s e = s := if_neg (by omega)
    have a3 : mx s e = e := if_pos (by omega)
    have a4 : turns s e = k - 1 := by
      unfold turns
      rw [a1, a2, a3]
      split <;> omega
    rw [a4, a1, a2]
    congr 1
    funext j
    congr 2
    omega
/-- what lies on the way is on the board -/
theorem go_on {s e : Int} (hs : 0 ≤ s ∧ s < 90) (he : 0 ≤ e ∧ e < 90) {d : Int × Int} (hd : d ∈ straight) {k : Nat} (h3 : ptOf e = go (ptOf s) d k) {j : Nat} (hj : j ≤ k) : onBoard (go (ptOf s) d j) = true := by
  have h4 : (e / 10 = s / 10 + k * d.1) ∧ (9 - e % 10 = 9 - s % 10 + k * d.2) := by
    unfold ptOf go at h3
    dsimp only at h3
    rw [Prod.mk.injEq] at h3
    exact h3
  rw [onBoard_iff]
  unfold go ptOf
  rw [mem_straight] at hd
  rcases hd with rfl | rfl | rfl | rfl <;> (dsimp only at *; omega)
theorem countP_zero {n : Nat} {f : Nat → Bool} : (List.range n).countP f = 0 ↔ ∀ j, j < n → f j = false := by
  rw [List.countP_eq_zero]
  constructor
  · intro h j hj
    exact Bool.eq_false_iff.mpr (h j (List.mem_range.mpr hj))
  · intro h j hj
    rw [h j (List.mem_range.mp hj)]
    exact Bool.false_ne_true
theorem countP_one {f : Nat → Bool} : ∀ {n : Nat}, (List.range n).countP f = 1 ↔ ∃ i, i < n ∧ f i = true ∧ ∀ j, j < n → j ≠ i → f j = false
  | 0 => by
    constructor
    · intro h
      cases h
    · rintro ⟨i, h, _⟩
      omega
  | n + 1 => by
    rw [List.range_succ, List.countP_append, List.countP_cons, List.countP_nil, Nat.zero_add]
    cases hf : f n with
    | true =>
      simp only [if_true]
      constructor
      · intro h
        have h0 : (List.range n).countP f = 0 := by omega
        rw [countP_zero] at h0
        exact ⟨n, by omega, hf, fun j hj hne => h0 j (by omega)⟩
      · rintro ⟨i, h1, h2, h3⟩
        have hi : i = n := by
          by_cases e : i = n
          · exact e
          · have := h3 n (by omega) (fun z => e z.symm)
            rw [hf] at this
            cases this
        have h0 : (List.range n).countP f = 0 := countP_zero.mpr fun j hj => h3 j (by omega) (by omega)
        omega
    | false =>
      simp only [Bool.false_eq_true, if_false, Nat.add_zero]
      rw [countP_one (n := n)]
      constructor
      · rintro ⟨i, h1, h2, h3⟩
        refine ⟨i, by omega, h2, fun j hj hne => ?_⟩
        by_cases e : j = n
        · rw [e]
          exact hf
        · exact h3 j (by omega) hne
      · rintro ⟨i, h1, h2, h3⟩
        have hi : i ≠ n := by
          intro e
          rw [e, hf] at h2
          cases h2
        exact ⟨i, by omega, h2, fun j hj hne => h3 j (by omega) hne⟩
end Tr

namespace Tr
open Sn32 (Man Board Pt at_ free onBoard add ray straight slanted palace reach)
theorem mem_slanted {d : Int × Int} : d ∈ slanted ↔ d = (1, 1) ∨ d = (1, -1) ∨ d = (-1, 1) ∨ d = (-1, -1) := by
  unfold slanted
  simp
theorem add_pt {s : Int} {d : Int × Int} {e : Int} : add (ptOf s) d = ptOf e ↔ acr s e = d.1 ∧ alo s e = - d.2 := by
  unfold add ptOf acr alo
  dsimp only
  rw [Prod.mk.injEq]
  omega
theorem palace_pt (red : Bool) {e : Int} (he : 0 ≤ e ∧ e < 90) : palace red (ptOf e) = inPal red e := by
  unfold palace inPal ptOf
  dsimp only
  rw [Bool.eq_iff_iff]
  cases red
  · simp only [Bool.false_eq_true, if_false, Bool.and_eq_true, decide_eq_true_eq]
    split <;> simp only [decide_eq_true_eq, Bool.false_eq_true, iff_false] <;> omega
  · simp only [if_true, Bool.and_eq_true, decide_eq_true_eq]
    split <;> simp only [decide_eq_true_eq, Bool.false_eq_true, iff_false] <;> omega
theorem iabs_eq {i k : Int} (hk : 0 ≤ k) : iabs i = k ↔ i = k ∨ i = -k := by
  unfold iabs
  split <;> omega
theorem slant_iff {s e : Int} : (∃ d ∈ slanted, add (ptOf s) d = ptOf e) ↔ iabs (acr s e) = 1 ∧ iabs (alo s e) = 1 := by
  rw [iabs_eq (by decide), iabs_eq (by decide)]
  constructor
  · rintro ⟨d, hd, h⟩
    rw [add_pt] at h
    rw [mem_slanted] at hd
    rcases hd with rfl | rfl | rfl | rfl <;> (dsimp only at h; omega)
  · rintro ⟨h1, h2⟩
    refine ⟨(acr s e, - alo s e), ?_, ?_⟩
    · rw [mem_slanted]
      simp only [Prod.mk.injEq]
      omega
    · rw [add_pt]
      dsimp only
      omega
theorem near_iff {s e : Int} : (∃ d ∈ straight, add (ptOf s) d = ptOf e) ↔ iabs (acr s e) + iabs (alo s e) = 1 := by
  constructor
  · rintro ⟨d, hd, h⟩
    rw [add_pt] at h
    rw [mem_straight] at hd
    unfold iabs
    rcases hd with rfl | rfl | rfl | rfl <;> (dsimp only at h; split <;> split <;> omega)
  · intro h
    refine ⟨(acr s e, - alo s e), ?_, ?_⟩
    · rw [mem_straight]
      simp only [Prod.mk.injEq]
      unfold iabs at h
      split at h <;> split at h <;> omega
    · rw [add_pt]
      dsimp only
      omega
theorem Rel.free_go {bd : Bd} {b : Board} (R : Rel bd b) {p : Pt} (h : onBoard p = true) : free b p = (cell bd (nOf p)).isNone := by
  unfold free
  rw [h, R.at_n h]
  rfl
theorem way_free {bd : Bd} {b : Board} (R : Rel bd b) {s e : Int} (hs : 0 ≤ s ∧ s < 90) (he : 0 ≤ e ∧ e < 90) {d : Int × Int} (hd : d ∈ straight) {k : Nat} (h1 : 1 ≤ k) (h3 : ptOf e = go (ptOf s) d k) :
    btw bd s e = 0 ↔ ∀ j, 1 ≤ j → j < k → free b (go (ptOf s) d j) = true := by
  rw [btw_dir hs he hd h1 h3, countP_zero]
  constructor
  · intro h j h4 h5
    have := h (j - 1) (by omega)
    rw [show j - 1 + 1 = j by omega] at this
    rw [R.free_go (go_on hs he hd h3 (by omega))]
    cases hc : cell bd (nOf (go (ptOf s) d j)) with
    | none => rfl
    | some m => rw [hc] at this; cases this
  · intro h j h4
    have := h (j + 1) (by omega) (by omega)
    rw [R.free_go (go_on hs he hd h3 (by omega))] at this
    cases hc : cell bd (nOf (go (ptOf s) d (j + 1))) with
    | none => rfl
    | some m => rw [hc] at this; cases this
theorem go_go (p : Pt) (d : Int × Int) (i j : Nat) : go (go p d i) d j = go p d (i + j) := by
  unfold go
  dsimp only
  rw [Int.natCast_add, Int.add_mul, Int.add_mul, ← Int.add_assoc, ← Int.add_assoc]
theorem way_one {bd : Bd} {b : Board} (R : Rel bd b) {s e : Int} (hs : 0 ≤ s ∧ s < 90) (he : 0 ≤ e ∧ e < 90) {d : Int × Int} (hd : d ∈ straight) {k : Nat} (h1 : 1 ≤ k) (h3 : ptOf e = go (ptOf s) d k) :
    btw bd s e = 1 ↔ ∃ i, 1 ≤ i ∧ i < k ∧ at_ b (go (ptOf s) d i) ≠ none ∧ ∀ j, 1 ≤ j → j < k → j ≠ i → free b (go (ptOf s) d j) = true := by
  rw [btw_dir hs he hd h1 h3, countP_one]
  constructor
  · rintro ⟨i, h4, h5, h6⟩
    refine ⟨i + 1, by omega, by omega, ?_, fun j h7 h8 h9 => ?_⟩
    · rw [R.at_n (go_on hs he hd h3 (by omega))]
      intro z
      rw [z] at h5
      cases h5
    · have := h6 (j - 1) (by omega) (by omega)
      rw [show j - 1 + 1 = j by omega] at this
      rw [R.free_go (go_on hs he hd h3 (by omega))]
      cases hc : cell bd (nOf (go (ptOf s) d j)) with
      | none => rfl
      | some m => rw [hc] at this; cases this
  · rintro ⟨i, h4, h5, h6, h7⟩
    refine ⟨i - 1, by omega, ?_, fun j h8 h9 => ?_⟩
    · rw [show i - 1 + 1 = i by omega]
      rw [R.at_n (go_on hs he hd h3 (by omega))] at h6
      cases hc : cell bd (nOf (go (ptOf s) d i)) with
      | none => exact absurd hc h6
      | some m => rfl
    · have := h7 (j + 1) (by omega) (by omega) (by omega)
      rw [R.free_go (go_on hs he hd h3 (by omega))] at this
      cases hc : cell bd (nOf (go (ptOf s) d (j + 1))) with
      | none => rfl
      | some m => rw [hc] at this; cases this
/-- at most nine steps lie between two points of the board -/
theorem few {s e : Int} (hs : 0 ≤ s ∧ s < 90) (he : 0 ≤ e ∧ e < 90) {d : Int × Int} (hd : d ∈ straight) {k : Nat} (h3 : ptOf e = go (ptOf s) d k) : k ≤ 9 := by
  unfold ptOf go at h3
  dsimp only at h3
  rw [Prod.mk.injEq] at h3
  rw [mem_straight] at hd
  rcases hd with rfl | rfl | rfl | rfl <;> (dsimp only at h3; omega)
theorem reachA {b : Board} {bd : Bd} {red : Bool} {s e : Int} (he : 0 ≤ e ∧ e < 90) : ptOf e ∈ reach b ⟨red, .A⟩ (ptOf s) ↔ goA red s e = true := by
  show ptOf e ∈ (slanted.map (add (ptOf s))).filter (palace red) ↔ _
  rw [List.mem_filter, List.mem_map, slant_iff, palace_pt red he]
  unfold goA
  simp only [Bool.and_eq_true, decide_eq_true_eq]
  exact ⟨fun h => ⟨h.1.1, h.1.2, h.2⟩, fun h => ⟨⟨h.1, h.2.1⟩, h.2.2⟩⟩
theorem reachR {bd : Bd} {b : Board} (R : Rel bd b) {red : Bool} {s e : Int} (hs : 0 ≤ s ∧ s < 90) (he : 0 ≤ e ∧ e < 90) (hne : s ≠ e) : ptOf e ∈ reach b ⟨red, .R⟩ (ptOf s) ↔ goR bd s e = true := by
  show ptOf e ∈ straight.flatMap (fun d => (ray b d 10 (ptOf s)).1 ++ (ray b d 10 (ptOf s)).2.toList) ↔ _
  rw [List.mem_flatMap]
  unfold goR
  rw [Bool.and_eq_true, decide_eq_true_eq, line_dir hs he hne]
  constructor
  · rintro ⟨d, hd, h⟩
    rw [List.mem_append, Option.mem_toList, ray_fst] at h
    rcases h with ⟨k, h1, h2, h3, h4⟩ | h
    · have h9 := few hs he hd h3
      exact ⟨⟨d, hd, k, h1, h9, h3⟩, (way_free R hs he hd h1 h3).mpr fun j h5 h6 => h4 j h5 (by omega)⟩
    · obtain ⟨k, h1, h2, h3, h4, h5, h6⟩ := ray_snd.mp h
      have h9 := few hs he hd h3
      exact ⟨⟨d, hd, k, h1, h9, h3⟩, (way_free R hs he hd h1 h3).mpr h6⟩
  · rintro ⟨⟨d, hd, k, h1, h2, h3⟩, h4⟩
    have h5 := (way_free R hs he hd h1 h3).mp h4
    refine ⟨d, hd, ?_⟩
    rw [List.mem_append, Option.mem_toList, ray_fst]
    by_cases hf : free b (ptOf e) = true
    · refine .inl ⟨k, h1, by omega, h3, fun j h6 h7 => ?_⟩
      by_cases hj : j = k
      · rw [hj, ← h3]
        exact hf
      · exact h5 j h6 (by omega)
    · refine .inr (ray_snd.mpr ⟨k, h1, by omega, h3, ptOf_on he, fun z => hf (free_iff.mpr ⟨ptOf_on he, z⟩), h5⟩)
theorem reachC {bd : Bd} {b : Board} (R : Rel bd b) {red : Bool} {s e : Int} (hs : 0 ≤ s ∧ s < 90) (he : 0 ≤ e ∧ e < 90) (hne : s ≠ e) : ptOf e ∈ reach b ⟨red, .C⟩ (ptOf s) ↔ goC bd s e = true := by
  show ptOf e ∈ straight.flatMap (fun d => (ray b d 10 (ptOf s)).1 ++ (match (ray b d 10 (ptOf s)).2 with
    | some q => (ray b d 10 q).2.toList
    | none => [])) ↔ _
  rw [List.mem_flatMap]
  unfold goC
  have hcell : at_ b (ptOf e) = cell bd e := R.at_pt he
  constructor
  · rintro ⟨d, hd, h⟩
    rw [List.mem_append, ray_fst] at h
    rcases h with ⟨k, h1, h2, h3, h4⟩ | h
    · have h9 := few hs he hd h3
      have hl : line s e = true := (line_dir hs he hne).mpr ⟨d, hd, k, h1, h9, h3⟩
      have hn : cell bd e = none := by
        have := h4 k h1 (Nat.le_refl _)
        rw [← h3, free_iff, hcell] at this
        exact this.2
      rw [if_pos hl, hn, decide_eq_true_eq]
      exact (way_free R hs he hd h1 h3).mpr fun j h5 h6 => h4 j h5 (by omega)
    · cases hr : (ray b d 10 (ptOf s)).2 with
      | none => rw [hr] at h; cases h
      | some q =>
        rw [hr] at h
        have h : ptOf e ∈ (ray b d 10 q).2.toList := h
        rw [Option.mem_toList] at h
        obtain ⟨k1, g1, g2, g3, g4, g5, g6⟩ := ray_snd.mp hr
        obtain ⟨k2, f1, f2, f3, f4, f5, f6⟩ := ray_snd.mp h
        rw [g3, go_go] at f3
        have h9 := few hs he hd f3
        have hl : line s e = true := (line_dir hs he hne).mpr ⟨d, hd, k1 + k2, by omega, h9, f3⟩
        have hn : (cell bd e).isNone = false := by
          rw [hcell] at f5
          cases hc : cell bd e with
          | none => exact absurd hc f5
          | some m => rfl
        rw [if_pos hl, hn, decide_eq_true_eq]
        simp only [Bool.false_eq_true, if_false]
        refine (way_one R hs he hd (by omega) f3).mpr ⟨k1, g1, by omega, by rw [← g3]; exact g5, fun j h5 h6 h7 => ?_⟩
        by_cases hj : j < k1
        · exact g6 j h5 hj
        · have := f6 (j - k1) (by omega) (by omega)
          rw [g3, go_go, show k1 + (j - k1) = j by omega] at this
          exact this
  · intro h
    by_cases hl : line s e = true
    · rw [if_pos hl, decide_eq_true_eq] at h
      obtain ⟨d, hd, k, h1, h2, h3⟩ := (line_dir hs he hne).mp hl
      refine ⟨d, hd, ?_⟩
      rw [List.mem_append, ray_fst]
      by_cases hn : (cell bd e).isNone = true
      · rw [if_pos hn] at h
        have h5 := (way_free R hs he hd h1 h3).mp h
        refine .inl ⟨k, h1, by omega, h3, fun j h6 h7 => ?_⟩
        by_cases hj : j = k
        · rw [hj, ← h3, R.free_pt he]
          exact hn
        · exact h5 j h6 (by omega)
      · rw [if_neg hn] at h
        obtain ⟨i, i1, i2, i3, i4⟩ := (way_one R hs he hd h1 h3).mp h
        have hr : (ray b d 10 (ptOf s)).2 = some (go (ptOf s) d i) := ray_snd.mpr ⟨i, i1, by omega, rfl, go_on hs he hd h3 (by omega), i3, fun j h5 h6 => i4 j h5 (by omega) (by omega)⟩
        refine .inr ?_
        rw [hr]
        show ptOf e ∈ (ray b d 10 (go (ptOf s) d i)).2.toList
        rw [Option.mem_toList]
        refine ray_snd.mpr ⟨k - i, by omega, by omega, by rw [go_go, show i + (k - i) = k by omega]; exact h3, ptOf_on he, ?_, fun j h5 h6 => ?_⟩
        · rw [hcell]
          intro z
          rw [z] at hn
          exact hn rfl
        · rw [go_go]
          exact i4 (i + j) (by omega) (by omega) (by omega)
    · rw [if_neg hl] at h
      cases h
theorem reachP {bd : Bd} {b : Board} {red : Bool} {s e : Int} (hs : 0 ≤ s ∧ s < 90) (he : 0 ≤ e ∧ e < 90) : ptOf e ∈ reach b ⟨red, .P⟩ (ptOf s) ↔ goP red s e = true := by
  show ptOf e ∈ List.filter onBoard ((add (ptOf s) (0, if red = true then -1 else 1)) :: (if (if red = true then decide ((ptOf s).2 ≤ 4) else decide (5 ≤ (ptOf s).2)) = true then [add (ptOf s) (1, 0), add (ptOf s) (-1, 0)] else [])) ↔ _
  rw [List.mem_filter, List.mem_cons]
  have hov : (if red = true then decide ((ptOf s).2 ≤ 4) else decide (5 ≤ (ptOf s).2)) = !ownHalf red s := by
    unfold ownHalf ptOf
    dsimp only
    rw [Bool.eq_iff_iff]
    cases red <;> simp <;> omega
  rw [hov]
  have ho : onBoard (ptOf e) = true := ptOf_on he
  have e0 : (ptOf e = add (ptOf s) (0, if red = true then -1 else 1)) ↔ acr s e = 0 ∧ alo s e = fwd red := by
    rw [eq_comm, add_pt]
    unfold fwd
    dsimp only
    cases red <;> simp
  rw [e0]
  unfold goP
  constructor
  · rintro ⟨h | h, _⟩
    · rw [if_pos h.1]
      exact decide_eq_true h.2
    · cases hw : ownHalf red s with
      | true => rw [hw] at h; cases h
      | false =>
        rw [hw] at h
        simp only [Bool.not_false, if_true, List.mem_cons, List.not_mem_nil, or_false] at h
        rw [eq_comm, add_pt, eq_comm (a := ptOf e), add_pt] at h
        dsimp only at h
        rw [if_neg (by omega)]
        simp only [Bool.and_eq_true, decide_eq_true_eq, Bool.not_false, and_true]
        rw [iabs_eq (by decide)]
        omega
  · intro h
    refine ⟨?_, ho⟩
    by_cases h0 : acr s e = 0
    · rw [if_pos h0] at h
      exact .inl ⟨h0, of_decide_eq_true h⟩
    · rw [if_neg h0] at h
      simp only [Bool.and_eq_true, decide_eq_true_eq] at h
      obtain ⟨h1, h2, h3⟩ := h
      rw [iabs_eq (by decide)] at h1
      right
      rw [h3]
      simp only [if_true, List.mem_cons, List.not_mem_nil, or_false]
      rw [eq_comm, add_pt, eq_comm (a := ptOf e), add_pt]
      dsimp only
      omega
theorem nOf_add (s : Int) (d : Int × Int) : nOf (add (ptOf s) d) = s + (10 * d.1 - d.2) := by
  rw [go_one, nOf_go]
  omega
theorem reachB {bd : Bd} {b : Board} (R : Rel bd b) {red : Bool} {s e : Int} (hs : 0 ≤ s ∧ s < 90) (he : 0 ≤ e ∧ e < 90) : ptOf e ∈ reach b ⟨red, .B⟩ (ptOf s) ↔ goB bd red s e = true := by
  show ptOf e ∈ (slanted.filter fun d => free b (add (ptOf s) d)).filterMap (fun d => if onBoard (add (add (ptOf s) d) d) = true ∧ (if red = true then 5 ≤ (add (add (ptOf s) d) d).2 else (add (add (ptOf s) d) d).2 ≤ 4) then some (add (add (ptOf s) d) d) else none) ↔ _
  rw [List.mem_filterMap]
  have hh : (if red = true then 5 ≤ (ptOf e).2 else (ptOf e).2 ≤ 4) ↔ ownHalf red e = true := by
    unfold ownHalf ptOf
    dsimp only
    cases red <;> simp <;> omega
  have two : ∀ d : Int × Int, add (add (ptOf s) d) d = ptOf e ↔ acr s e = 2 * d.1 ∧ alo s e = - (2 * d.2) := by
    intro d
    unfold add ptOf acr alo
    dsimp only
    rw [Prod.mk.injEq]
    omega
  unfold goB
  simp only [iabs_eq (show (0 : Int) ≤ 2 by decide)]
  constructor
  · rintro ⟨d, hd, h⟩
    rw [List.mem_filter] at hd
    obtain ⟨hd, hf⟩ := hd
    by_cases hc : onBoard (add (add (ptOf s) d) d) = true ∧ (if red = true then 5 ≤ (add (add (ptOf s) d) d).2 else (add (add (ptOf s) d) d).2 ≤ 4)
    · rw [if_pos hc] at h
      have h := Option.some.inj h
      rw [h] at hc
      have h2 := (two d).mp h
      rw [mem_slanted] at hd
      have hab : (acr s e = 2 ∨ acr s e = -2) ∧ (alo s e = 2 ∨ alo s e = -2) := by
        rcases hd with rfl | rfl | rfl | rfl <;> (dsimp only at h2; omega)
      rw [if_pos hab, Bool.and_eq_true]
      refine ⟨?_, hh.mp hc.2⟩
      rw [free_iff] at hf
      have hm : (s + e) / 2 = nOf (add (ptOf s) d) := by
        rw [nOf_add]
        unfold acr alo at h2
        omega
      rw [hm, ← R.at_n hf.1, hf.2]
      rfl
    · rw [if_neg hc] at h
      cases h
  · intro h
    split at h
    · rename_i hab
      rw [Bool.and_eq_true] at h
      have hm : (s + e) / 2 = nOf (add (ptOf s) (acr s e / 2, - (alo s e / 2))) := by
        rw [nOf_add]
        dsimp only
        unfold acr alo at *
        omega
      have hon : onBoard (add (ptOf s) (acr s e / 2, - (alo s e / 2))) = true := by
        rw [onBoard_iff]
        unfold add ptOf acr alo at *
        dsimp only
        omega
      refine ⟨(acr s e / 2, - (alo s e / 2)), ?_, ?_⟩
      · rw [List.mem_filter]
        refine ⟨?_, ?_⟩
        · rw [mem_slanted]
          simp only [Prod.mk.injEq]
          omega
        · rw [R.free_go hon, ← hm]
          exact h.1
      · have h2 : add (add (ptOf s) (acr s e / 2, - (alo s e / 2))) (acr s e / 2, - (alo s e / 2)) = ptOf e := by
          rw [two]
          dsimp only
          omega
        rw [h2, if_pos ⟨ptOf_on he, hh.mpr h.2⟩]
    · cases h
theorem reachN {bd : Bd} {b : Board} (R : Rel bd b) {red : Bool} {s e : Int} (hs : 0 ≤ s ∧ s < 90) (he : 0 ≤ e ∧ e < 90) : ptOf e ∈ reach b ⟨red, .N⟩ (ptOf s) ↔ goN bd s e = true := by
  show ptOf e ∈ (straight.filter fun d => free b (add (ptOf s) d)).flatMap (fun d => ((if d.1 = 0 then [(1, d.2), (-1, d.2)] else [(d.1, 1), (d.1, -1)] : List (Int × Int)).map fun e => add (add (ptOf s) d) e).filter onBoard) ↔ _
  rw [List.mem_flatMap]
  have two : ∀ d f : Int × Int, add (add (ptOf s) d) f = ptOf e ↔ acr s e = d.1 + f.1 ∧ alo s e = - (d.2 + f.2) := by
    intro d f
    unfold add ptOf acr alo
    dsimp only
    rw [Prod.mk.injEq]
    omega
  unfold goN
  simp only [iabs_eq (show (0 : Int) ≤ 2 by decide), iabs_eq (show (0 : Int) ≤ 1 by decide)]
  constructor
  · rintro ⟨d, hd, h⟩
    rw [List.mem_filter] at hd
    obtain ⟨hd, hf⟩ := hd
    rw [List.mem_filter, List.mem_map] at h
    obtain ⟨⟨f, hf2, hfe⟩, _⟩ := h
    rw [two] at hfe
    rw [free_iff] at hf
    have hc : cell bd (nOf (add (ptOf s) d)) = none := by
      rw [← R.at_n hf.1]
      exact hf.2
    rw [nOf_add] at hc
    rw [mem_straight] at hd
    rcases hd with rfl | rfl | rfl | rfl
    · simp only [Int.reduceEq, if_false, List.mem_cons, List.not_mem_nil, or_false] at hf2
      have h2 : acr s e = 2 ∧ (alo s e = 1 ∨ alo s e = -1) := by
        rcases hf2 with rfl | rfl <;> (dsimp only at hfe; omega)
      rw [if_pos (by omega), h2.1, show (s / 10 + 2 / 2) * 10 + s % 10 = s + (10 * 1 - 0) by omega, hc]
      rfl
    · simp only [Int.reduceEq, Int.reduceNeg, if_false, List.mem_cons, List.not_mem_nil, or_false] at hf2
      have h2 : acr s e = -2 ∧ (alo s e = 1 ∨ alo s e = -1) := by
        rcases hf2 with rfl | rfl <;> (dsimp only at hfe; omega)
      rw [if_pos (by omega), h2.1, show (s / 10 + -2 / 2) * 10 + s % 10 = s + (10 * -1 - 0) by omega, hc]
      rfl
    · simp only [if_true, List.mem_cons, List.not_mem_nil, or_false] at hf2
      have h2 : (acr s e = 1 ∨ acr s e = -1) ∧ alo s e = -2 := by
        rcases hf2 with rfl | rfl <;> (dsimp only at hfe; omega)
      rw [if_neg (by omega), if_pos (by omega), h2.2, show s / 10 * 10 + (s % 10 + -2 / 2) = s + (10 * 0 - 1) by omega, hc]
      rfl
    · simp only [if_true, List.mem_cons, List.not_mem_nil, or_false] at hf2
      have h2 : (acr s e = 1 ∨ acr s e = -1) ∧ alo s e = 2 := by
        rcases hf2 with rfl | rfl <;> (dsimp only at hfe; omega)
      rw [if_neg (by omega), if_pos (by omega), h2.2, show s / 10 * 10 + (s % 10 + 2 / 2) = s + (10 * 0 - -1) by omega, hc]
      rfl
  · intro h
    split at h
    · rename_i hab
      have hm : (s / 10 + acr s e / 2) * 10 + s % 10 = nOf (add (ptOf s) (acr s e / 2, 0)) := by
        rw [nOf_add]
        dsimp only
        omega
      have hon : onBoard (add (ptOf s) (acr s e / 2, 0)) = true := by
        rw [onBoard_iff]
        unfold add ptOf acr alo at *
        dsimp only
        omega
      refine ⟨(acr s e / 2, 0), ?_, ?_⟩
      · rw [List.mem_filter]
        refine ⟨?_, ?_⟩
        · rw [mem_straight]
          simp only [Prod.mk.injEq, and_true, true_and]
          omega
        · rw [R.free_go hon, ← hm]
          exact h
      · rw [List.mem_filter, List.mem_map]
        refine ⟨⟨(acr s e / 2, - alo s e), ?_, ?_⟩, ptOf_on he⟩
        · rw [if_neg (by dsimp only; omega)]
          simp only [List.mem_cons, List.not_mem_nil, or_false, Prod.mk.injEq, and_true, true_and]
          omega
        · rw [two]
          dsimp only
          omega
    · split at h
      · rename_i hab
        have hm : s / 10 * 10 + (s % 10 + alo s e / 2) = nOf (add (ptOf s) (0, - (alo s e / 2))) := by
          rw [nOf_add]
          dsimp only
          omega
        have hon : onBoard (add (ptOf s) (0, - (alo s e / 2))) = true := by
          rw [onBoard_iff]
          unfold add ptOf acr alo at *
          dsimp only
          omega
        refine ⟨(0, - (alo s e / 2)), ?_, ?_⟩
        · rw [List.mem_filter]
          refine ⟨?_, ?_⟩
          · rw [mem_straight]
            simp only [Prod.mk.injEq, and_true, true_and]
            omega
          · rw [R.free_go hon, ← hm]
            exact h
        · rw [List.mem_filter, List.mem_map]
          refine ⟨⟨(acr s e, - (alo s e / 2)), ?_, ?_⟩, ptOf_on he⟩
          · rw [if_pos rfl]
            simp only [List.mem_cons, List.not_mem_nil, or_false, Prod.mk.injEq, and_true, true_and]
            omega
          · rw [two]
            dsimp only
            omega
      · cases h
theorem reachK {bd : Bd} {b : Board} (R : Rel bd b) {red : Bool} {s e : Int} (hs : 0 ≤ s ∧ s < 90) (he : 0 ≤ e ∧ e < 90) : ptOf e ∈ reach b ⟨red, .K⟩ (ptOf s) ↔ goK bd red s e = true := by
  show ptOf e ∈ ((straight.map (add (ptOf s))).filter (palace red)) ++ (match (ray b (if red = true then (0, -1) else (0, 1)) 10 (ptOf s)).2 with
    | some q => if at_ b q = some (Sn32.Man.mk (!red) .K) then [q] else []
    | none => []) ↔ _
  rw [List.mem_append, List.mem_filter, List.mem_map, near_iff, palace_pt red he]
  have hd : (if red = true then (0, -1) else (0, 1) : Int × Int) ∈ straight := by
    rw [mem_straight]
    cases red <;> simp
  have sight : (ptOf e ∈ (match (ray b (if red = true then (0, -1) else (0, 1)) 10 (ptOf s)).2 with
    | some q => if at_ b q = some (Sn32.Man.mk (!red) .K) then [q] else []
    | none => [])) ↔ (ray b (if red = true then (0, -1) else (0, 1)) 10 (ptOf s)).2 = some (ptOf e) ∧ cell bd e = some (Sn32.Man.mk (!red) .K) := by
    rw [← R.at_pt he]
    cases hr : (ray b (if red = true then (0, -1) else (0, 1)) 10 (ptOf s)).2 with
    | none => simp
    | some q =>
      dsimp only
      by_cases hq : at_ b q = some (Sn32.Man.mk (!red) .K)
      · rw [if_pos hq, List.mem_singleton]
        constructor
        · intro z
          rw [z]
          exact ⟨rfl, hq⟩
        · intro z
          exact (Option.some.inj z.1).symm
      · rw [if_neg hq]
        constructor
        · intro z
          cases z
        · intro z
          rw [Option.some.inj z.1] at hq
          exact absurd z.2 hq
  rw [sight]
  have key : (ray b (if red = true then (0, -1) else (0, 1)) 10 (ptOf s)).2 = some (ptOf e) ∧ cell bd e = some (Sn32.Man.mk (!red) .K) ↔ cell bd e = some (Sn32.Man.mk (!red) .K) ∧ acr s e = 0 ∧ alo s e * fwd red > 0 ∧ btw bd s e = 0 := by
    constructor
    · rintro ⟨h, hc⟩
      obtain ⟨k, h1, h2, h3, h4, h5, h6⟩ := ray_snd.mp h
      refine ⟨hc, ?_, ?_, (way_free R hs he hd h1 h3).mpr h6⟩
      · unfold ptOf go at h3
        unfold acr
        dsimp only at h3
        rw [Prod.mk.injEq] at h3
        cases red <;> (simp only [if_true, Bool.false_eq_true, if_false] at h3; omega)
      · unfold ptOf go at h3
        unfold alo fwd
        dsimp only at h3
        rw [Prod.mk.injEq] at h3
        cases red <;> (simp only [if_true, Bool.false_eq_true, if_false] at h3 ⊢; omega)
    · rintro ⟨hc, h0, h1, h2⟩
      have h3 : ptOf e = go (ptOf s) (if red = true then (0, -1) else (0, 1)) (alo s e * fwd red).toNat := by
        unfold ptOf go
        unfold acr at h0
        unfold alo fwd at *
        dsimp only
        rw [Prod.mk.injEq]
        cases red <;> (simp only [if_true, Bool.false_eq_true, if_false] at h1 ⊢; omega)
      have h4 := few hs he hd h3
      refine ⟨?_, hc⟩
      rw [ray_snd]
      exact ⟨(alo s e * fwd red).toNat, by omega, by omega, h3, ptOf_on he, by rw [R.at_pt he, hc]; simp, (way_free R hs he hd (by omega) h3).mp h2⟩
  rw [key]
  unfold goK
  constructor
  · rintro (⟨h1, h2⟩ | ⟨h1, h2, h3, h4⟩)
    · rw [if_pos ⟨h1, h2⟩]
    · split
      · rfl
      · try rw [if_pos h1]
        rw [decide_eq_true h2, decide_eq_true h3, decide_eq_true h4]
        rfl
  · intro h
    split at h
    · rename_i h1
      exact .inl h1
    · split at h
      · rename_i h1
        simp only [Bool.and_eq_true, decide_eq_true_eq] at h
        exact .inr ⟨h1, h.1, h.2.1, h.2.2⟩
      · cases h
theorem reach_iff {bd : Bd} {b : Board} (R : Rel bd b) {m : Man} {s e : Int} (hs : 0 ≤ s ∧ s < 90) (he : 0 ≤ e ∧ e < 90) (hne : s ≠ e) : ptOf e ∈ reach b m (ptOf s) ↔ goes bd m s e = true := by
  obtain ⟨red, k⟩ := m
  cases k
  · exact reachK R hs he
  · exact reachA (bd := bd) he
  · exact reachB R hs he
  · exact reachN R hs he
  · exact reachR R hs he hne
  · exact reachC R hs he hne
  · exact reachP (bd := bd) hs he
end Tr

namespace Tr
open Sn32 (Man Board Pt at_ free onBoard add ray straight slanted palace reach)
theorem nodup_map {α β : Type} {f : α → β} (hf : ∀ a b, f a = f b → a = b) {l : List α} (h : l.Nodup) : (l.map f).Nodup := by
  unfold List.Nodup at *
  rw [List.pairwise_map]
  exact h.imp fun hne e => hne (hf _ _ e)
theorem add_inj {p : Pt} {a b : Int × Int} (h : add p a = add p b) : a = b := by
  unfold add at h
  rw [Prod.mk.injEq] at h
  obtain ⟨a1, a2⟩ := a
  obtain ⟨b1, b2⟩ := b
  dsimp only at h
  rw [Prod.mk.injEq]
  omega
theorem straight_nodup : straight.Nodup := by decide
theorem slanted_nodup : slanted.Nodup := by decide
theorem palace_on {red : Bool} {p : Pt} (h : palace red p = true) : onBoard p = true := by
  rw [onBoard_iff]
  unfold palace at h
  cases red <;> (simp only [Bool.and_eq_true, decide_eq_true_eq, if_true, Bool.false_eq_true, if_false] at h; omega)
theorem reach_on {b : Board} {m : Man} {p q : Pt} (h : q ∈ reach b m p) : onBoard q = true := by
  obtain ⟨red, k⟩ := m
  cases k
  · rcases List.mem_append.mp (show q ∈ ((straight.map (add p)).filter (palace red)) ++ (match (ray b (if red = true then (0, -1) else (0, 1)) 10 p).2 with
      | some q => if at_ b q = some (Sn32.Man.mk (!red) .K) then [q] else []
      | none => []) from h) with h | h
    · exact palace_on (List.mem_filter.mp h).2
    · cases hr : (ray b (if red = true then (0, -1) else (0, 1)) 10 p).2 with
      | none => rw [hr] at h; cases h
      | some q' =>
        rw [hr] at h
        have h : q ∈ (if at_ b q' = some (Sn32.Man.mk (!red) .K) then [q'] else []) := h
        split at h
        · rename_i hk
          rw [List.mem_singleton.mp h]
          exact at_on hk
        · cases h
  · exact palace_on (List.mem_filter.mp (show q ∈ (slanted.map (add p)).filter (palace red) from h)).2
  · obtain ⟨d, _, h⟩ := List.mem_filterMap.mp (show q ∈ (slanted.filter fun d => free b (add p d)).filterMap (fun d => if onBoard (add (add p d) d) = true ∧ (if red = true then 5 ≤ (add (add p d) d).2 else (add (add p d) d).2 ≤ 4) then some (add (add p d) d) else none) from h)
    by_cases hc : onBoard (add (add p d) d) = true ∧ (if red = true then 5 ≤ (add (add p d) d).2 else (add (add p d) d).2 ≤ 4)
    · rw [if_pos hc] at h
      rw [← Option.some.inj h]
      exact hc.1
    · rw [if_neg hc] at h
      cases h
  · obtain ⟨d, _, h⟩ := List.mem_flatMap.mp (show q ∈ (straight.filter fun d => free b (add p d)).flatMap (fun d => ((if d.1 = 0 then [(1, d.2), (-1, d.2)] else [(d.1, 1), (d.1, -1)] : List (Int × Int)).map fun e => add (add p d) e).filter onBoard) from h)
    exact (List.mem_filter.mp h).2
  · obtain ⟨d, _, h⟩ := List.mem_flatMap.mp (show q ∈ straight.flatMap (fun d => (ray b d 10 p).1 ++ (ray b d 10 p).2.toList) from h)
    rcases List.mem_append.mp h with h | h
    · obtain ⟨k, h1, h2, h3, h4⟩ := ray_fst.mp h
      rw [h3]
      exact (free_iff.mp (h4 k h1 (Nat.le_refl _))).1
    · rw [Option.mem_toList] at h
      obtain ⟨k, h1, h2, h3, h4, _⟩ := ray_snd.mp h
      exact h4
  · obtain ⟨d, _, h⟩ := List.mem_flatMap.mp (show q ∈ straight.flatMap (fun d => (ray b d 10 p).1 ++ (match (ray b d 10 p).2 with
      | some q => (ray b d 10 q).2.toList
      | none => [])) from h)
    rcases List.mem_append.mp h with h | h
    · obtain ⟨k, h1, h2, h3, h4⟩ := ray_fst.mp h
      rw [h3]
      exact (free_iff.mp (h4 k h1 (Nat.le_refl _))).1
    · cases hr : (ray b d 10 p).2 with
      | none => rw [hr] at h; cases h
      | some q' =>
        rw [hr] at h
        have h : q ∈ (ray b d 10 q').2.toList := h
        rw [Option.mem_toList] at h
        obtain ⟨k, h1, h2, h3, h4, _⟩ := ray_snd.mp h
        exact h4
  · exact (List.mem_filter.mp (show q ∈ List.filter onBoard ((add p (0, if red = true then -1 else 1)) :: (if (if red = true then decide (p.2 ≤ 4) else decide (5 ≤ p.2)) = true then [add p (1, 0), add p (-1, 0)] else [])) from h)).2
/-! ### no step twice -/
theorem go_inj {p : Pt} {d : Int × Int} (hd : d ∈ straight) {i j : Nat} (h : go p d i = go p d j) : i = j := by
  unfold go at h
  rw [Prod.mk.injEq] at h
  rw [mem_straight] at hd
  rcases hd with rfl | rfl | rfl | rfl <;> (dsimp only at h; omega)
theorem go_apart {p : Pt} {d d' : Int × Int} (hd : d ∈ straight) (hd' : d' ∈ straight) (hne : d ≠ d') {i j : Nat} (hi : 1 ≤ i) (hj : 1 ≤ j) : go p d i ≠ go p d' j := by
  intro h
  unfold go at h
  rw [Prod.mk.injEq] at h
  rw [mem_straight] at hd hd'
  rcases hd with rfl | rfl | rfl | rfl <;> rcases hd' with rfl | rfl | rfl | rfl <;> first | exact hne rfl | (dsimp only at h; omega)
theorem ray_form {b : Board} {d : Int × Int} : ∀ (n : Nat) (p : Pt), ∃ k, (ray b d n p).1 = (List.range' 1 k).map (go p d) ∧ ((ray b d n p).2 = none ∨ (ray b d n p).2 = some (go p d (k + 1)))
  | 0, p => ⟨0, rfl, .inl rfl⟩
  | n + 1, p => by
    unfold ray
    dsimp only
    split
    · exact ⟨0, rfl, .inl rfl⟩
    · split
      · obtain ⟨k, h1, h2⟩ := ray_form (b := b) (d := d) n (add p d)
        refine ⟨k + 1, ?_, ?_⟩
        · dsimp only
          have e : List.range' 2 k = (List.range' 1 k).map (fun j => 1 + j) := by rw [List.map_add_range']
          rw [h1, show List.range' 1 (k + 1) = 1 :: List.range' 2 k from rfl, List.map_cons, go_one, e, List.map_map]
          congr 1
          refine List.map_congr_left fun j _ => ?_
          show go (go p d 1) d j = go p d (1 + j)
          rw [go_go]
        · dsimp only
          rcases h2 with h2 | h2
          · exact .inl h2
          · right
            rw [h2, go_add]
      · exact ⟨0, rfl, .inr (by rw [go_one])⟩
/-- a way out from p in the direction d: places of rising distance -/
def Asc (p : Pt) (d : Int × Int) (l : List Pt) : Prop := ∃ ks : List Nat, l = ks.map (go p d) ∧ ks.Pairwise (· < ·) ∧ ∀ k ∈ ks, 1 ≤ k
theorem Asc.nodup {p : Pt} {d : Int × Int} {l : List Pt} (hd : d ∈ straight) (h : Asc p d l) : l.Nodup := by
  obtain ⟨ks, rfl, h1, _⟩ := h
  refine nodup_map (fun a b e => go_inj hd e) ?_
  exact h1.imp fun h => Nat.ne_of_lt h
theorem asc_ways {p : Pt} {f : Int × Int → List Pt} (h : ∀ d ∈ straight, Asc p d (f d)) : (straight.flatMap f).Nodup := by
  unfold List.Nodup
  rw [List.pairwise_flatMap]
  refine ⟨fun d hd => (h d hd).nodup hd, ?_⟩
  refine List.Pairwise.imp_of_mem (R := fun a b => a ≠ b) ?_ straight_nodup
  intro d d' hd hd' hne x hx y hy
  obtain ⟨ks, e1, _, g1⟩ := h d hd
  obtain ⟨ks', e2, _, g2⟩ := h d' hd'
  rw [e1] at hx
  rw [e2] at hy
  obtain ⟨i, hi, rfl⟩ := List.mem_map.mp hx
  obtain ⟨j, hj, rfl⟩ := List.mem_map.mp hy
  exact go_apart hd hd' hne (g1 i hi) (g2 j hj)
theorem range_asc (k : Nat) : (List.range' 1 k).Pairwise (· < ·) := List.pairwise_lt_range' 1
theorem range_one {k j : Nat} (h : j ∈ List.range' 1 k) : 1 ≤ j ∧ j ≤ k := by
  rw [List.mem_range'_1] at h
  omega
theorem asc_more (p : Pt) (d : Int × Int) (k j : Nat) (h : k < j) : Asc p d ((List.range' 1 k).map (go p d) ++ [go p d j]) := by
  refine ⟨List.range' 1 k ++ [j], by rw [List.map_append]; rfl, ?_, fun i hi => ?_⟩
  · rw [List.pairwise_append]
    refine ⟨range_asc k, List.pairwise_singleton _ _, fun a ha b hb => ?_⟩
    rw [List.mem_singleton.mp hb]
    have := range_one ha
    omega
  · rcases List.mem_append.mp hi with hi | hi
    · exact (range_one hi).1
    · rw [List.mem_singleton.mp hi]
      omega
theorem asc_just (p : Pt) (d : Int × Int) (k : Nat) : Asc p d ((List.range' 1 k).map (go p d) ++ []) :=
  ⟨List.range' 1 k, by rw [List.append_nil], range_asc k, fun _ h => (range_one h).1⟩
theorem nodupR {b : Board} {red : Bool} {p : Pt} : (reach b ⟨red, .R⟩ p).Nodup := by
  show (straight.flatMap (fun d => (ray b d 10 p).1 ++ (ray b d 10 p).2.toList)).Nodup
  refine asc_ways (p := p) fun d hd => ?_
  obtain ⟨k, h1, h2⟩ := ray_form (b := b) (d := d) 10 p
  rw [h1]
  rcases h2 with h2 | h2
  · rw [h2]
    exact asc_just p d k
  · rw [h2]
    exact asc_more p d k (k + 1) (by omega)
theorem nodupC {b : Board} {red : Bool} {p : Pt} : (reach b ⟨red, .C⟩ p).Nodup := by
  show (straight.flatMap (fun d => (ray b d 10 p).1 ++ (match (ray b d 10 p).2 with
    | some q => (ray b d 10 q).2.toList
    | none => []))).Nodup
  refine asc_ways (p := p) fun d hd => ?_
  obtain ⟨k, h1, h2⟩ := ray_form (b := b) (d := d) 10 p
  rw [h1]
  rcases h2 with h2 | h2
  · rw [h2]
    exact asc_just p d k
  · rw [h2]
    dsimp only
    obtain ⟨k', h3, h4⟩ := ray_form (b := b) (d := d) 10 (go p d (k + 1))
    rcases h4 with h4 | h4
    · rw [h4]
      exact asc_just p d k
    · rw [h4, go_go]
      exact asc_more p d k _ (by omega)
theorem nodupA {b : Board} {red : Bool} {p : Pt} : (reach b ⟨red, .A⟩ p).Nodup := by
  show ((slanted.map (add p)).filter (palace red)).Nodup
  exact List.Pairwise.filter _ (nodup_map (fun _ _ e => add_inj e) slanted_nodup)
theorem nodupP {b : Board} {red : Bool} {p : Pt} : (reach b ⟨red, .P⟩ p).Nodup := by
  show (List.filter onBoard ((add p (0, if red = true then -1 else 1)) :: (if (if red = true then decide (p.2 ≤ 4) else decide (5 ≤ p.2)) = true then [add p (1, 0), add p (-1, 0)] else []))).Nodup
  refine List.Pairwise.filter _ ?_
  have h3 : ([(0, if red = true then -1 else 1), (1, 0), (-1, 0)] : List (Int × Int)).Nodup := by cases red <;> decide
  have h := nodup_map (f := add p) (fun _ _ e => add_inj e) h3
  by_cases hc : (if red = true then decide (p.2 ≤ 4) else decide (5 ≤ p.2)) = true
  · rw [if_pos hc]
    exact h
  · rw [if_neg hc]
    exact List.Pairwise.sublist (List.Sublist.cons_cons _ (List.nil_sublist _)) h
theorem nodupB {b : Board} {red : Bool} {p : Pt} : (reach b ⟨red, .B⟩ p).Nodup := by
  show ((slanted.filter fun d => free b (add p d)).filterMap (fun d => if onBoard (add (add p d) d) = true ∧ (if red = true then 5 ≤ (add (add p d) d).2 else (add (add p d) d).2 ≤ 4) then some (add (add p d) d) else none)).Nodup
  unfold List.Nodup
  rw [List.pairwise_filterMap]
  refine List.Pairwise.imp ?_ (List.Pairwise.filter _ slanted_nodup)
  intro d d' hne x hx y hy e
  have val : ∀ {d : Int × Int} {x : Pt}, (if onBoard (add (add p d) d) = true ∧ (if red = true then 5 ≤ (add (add p d) d).2 else (add (add p d) d).2 ≤ 4) then some (add (add p d) d) else none) = some x → add (add p d) d = x := by
    intro d x h
    by_cases hc : onBoard (add (add p d) d) = true ∧ (if red = true then 5 ≤ (add (add p d) d).2 else (add (add p d) d).2 ≤ 4)
    · rw [if_pos hc] at h
      exact Option.some.inj h
    · rw [if_neg hc] at h
      cases h
  have h2 : add (add p d) d = add (add p d') d' := (val hx).trans (e.trans (val hy).symm)
  unfold add at h2
  rw [Prod.mk.injEq] at h2
  apply hne
  obtain ⟨a1, a2⟩ := d
  obtain ⟨b1, b2⟩ := d'
  dsimp only at h2
  rw [Prod.mk.injEq]
  omega
theorem nodupN {b : Board} {red : Bool} {p : Pt} : (reach b ⟨red, .N⟩ p).Nodup := by
  show ((straight.filter fun d => free b (add p d)).flatMap (fun d => ((if d.1 = 0 then [(1, d.2), (-1, d.2)] else [(d.1, 1), (d.1, -1)] : List (Int × Int)).map fun e => add (add p d) e).filter onBoard)).Nodup
  unfold List.Nodup
  rw [List.pairwise_flatMap]
  refine ⟨fun d hd => List.Pairwise.filter _ (nodup_map (fun _ _ e => add_inj e) ?_), ?_⟩
  · split
    · simp
    · simp
  · refine List.Pairwise.imp_of_mem (R := fun a b => a ≠ b) ?_ (List.Pairwise.filter _ straight_nodup)
    intro d d' hd hd' hne x hx y hy e
    have hd := (List.mem_filter.mp hd).1
    have hd' := (List.mem_filter.mp hd').1
    obtain ⟨f, hf, rfl⟩ := List.mem_map.mp (List.mem_filter.mp hx).1
    obtain ⟨f', hf', rfl⟩ := List.mem_map.mp (List.mem_filter.mp hy).1
    unfold add at e
    rw [Prod.mk.injEq] at e
    rw [mem_straight] at hd hd'
    rcases hd with rfl | rfl | rfl | rfl <;> rcases hd' with rfl | rfl | rfl | rfl <;> first | exact hne rfl | (
      simp only [Int.reduceEq, Int.reduceNeg, if_false, if_true, List.mem_cons, List.not_mem_nil, or_false] at hf hf'
      rcases hf with rfl | rfl <;> rcases hf' with rfl | rfl <;> (dsimp only at e; omega))
theorem nodupK {b : Board} {red : Bool} {p : Pt} (hk : ∀ q, at_ b q = some ⟨!red, .K⟩ → palace red q = false) : (reach b ⟨red, .K⟩ p).Nodup := by
  show (((straight.map (add p)).filter (palace red)) ++ (match (ray b (if red = true then (0, -1) else (0, 1)) 10 p).2 with
    | some q => if at_ b q = some (Sn32.Man.mk (!red) .K) then [q] else []
    | none => [])).Nodup
  rw [List.nodup_append]
  refine ⟨List.Pairwise.filter _ (nodup_map (fun _ _ e => add_inj e) straight_nodup), ?_, ?_⟩
  · split
    · split <;> simp
    · simp
  · intro x hx y hy e
    cases hr : (ray b (if red = true then (0, -1) else (0, 1)) 10 p).2 with
    | none => rw [hr] at hy; cases hy
    | some q =>
      rw [hr] at hy
      have hy : y ∈ (if at_ b q = some (Sn32.Man.mk (!red) .K) then [q] else []) := hy
      split at hy
      · rename_i h1
        have := hk q h1
        rw [← List.mem_singleton.mp hy, ← e, (List.mem_filter.mp hx).2] at this
        cases this
      · cases hy
theorem reach_nodup {b : Board} {m : Man} {p : Pt} (hk : ∀ q, at_ b q = some ⟨!m.red, .K⟩ → palace m.red q = false) : (reach b m p).Nodup := by
  obtain ⟨red, k⟩ := m
  cases k
  · exact nodupK hk
  · exact nodupA
  · exact nodupB
  · exact nodupN
  · exact nodupR
  · exact nodupC
  · exact nodupP
end Tr

namespace Tr
open Sn32 (Man Board Pt at_ free onBoard add ray straight slanted palace reach points steps moved checked less moveText)
theorem points_nodup : points.Nodup := by
  unfold points
  refine nodup_map (fun a b h => ?_) List.nodup_range
  rw [Prod.mk.injEq] at h
  omega
theorem mem_points {p : Pt} : p ∈ points ↔ onBoard p = true := by
  unfold points
  rw [List.mem_map, onBoard_iff]
  constructor
  · rintro ⟨i, hi, rfl⟩
    rw [List.mem_range] at hi
    dsimp only
    omega
  · intro h
    obtain ⟨x, y⟩ := p
    dsimp only at h
    refine ⟨(9 * y + x).toNat, by rw [List.mem_range]; omega, ?_⟩
    rw [Prod.mk.injEq]
    omega
/-- the steps from one point -/
def from1 (b : Board) (red : Bool) (p : Pt) : List (Pt × Pt) := match at_ b p with
  | some m => if m.red = red then ((reach b m p).filter fun q => (at_ b q).all fun x => x.red != red).map fun q => (p, q) else []
  | none => []
theorem steps_eq (b : Board) (red : Bool) : steps b red = points.flatMap (from1 b red) := rfl
theorem mem_from1 {b : Board} {red : Bool} {p : Pt} {x : Pt × Pt} : x ∈ from1 b red p ↔ x.1 = p ∧ ∃ m : Man, at_ b p = some m ∧ m.red = red ∧ x.2 ∈ reach b m p ∧ ((at_ b x.2).all fun x => x.red != red) = true := by
  unfold from1
  cases h : at_ b p with
  | none => simp
  | some m =>
    dsimp only
    by_cases hr : m.red = red
    · rw [if_pos hr, List.mem_map]
      constructor
      · rintro ⟨q, hq, rfl⟩
        rw [List.mem_filter] at hq
        exact ⟨rfl, m, rfl, hr, hq.1, hq.2⟩
      · rintro ⟨h1, m', h2, h3, h4, h5⟩
        cases h2
        exact ⟨x.2, List.mem_filter.mpr ⟨h4, h5⟩, by rw [← h1]⟩
    · rw [if_neg hr]
      constructor
      · intro z
        cases z
      · rintro ⟨h1, m', h2, h3, h4, h5⟩
        cases h2
        exact absurd h3 hr
theorem mem_steps {b : Board} {red : Bool} {x : Pt × Pt} : x ∈ steps b red ↔ onBoard x.1 = true ∧ ∃ m : Man, at_ b x.1 = some m ∧ m.red = red ∧ x.2 ∈ reach b m x.1 ∧ ((at_ b x.2).all fun x => x.red != red) = true := by
  rw [steps_eq, List.mem_flatMap]
  constructor
  · rintro ⟨p, hp, h⟩
    rw [mem_from1] at h
    obtain ⟨rfl, h⟩ := h
    exact ⟨mem_points.mp hp, h⟩
  · rintro ⟨h1, h2⟩
    exact ⟨x.1, mem_points.mpr h1, mem_from1.mpr ⟨rfl, h2⟩⟩
theorem steps_on {b : Board} {red : Bool} {x : Pt × Pt} (h : x ∈ steps b red) : onBoard x.1 = true ∧ onBoard x.2 = true := by
  obtain ⟨h1, m, _, _, h2, _⟩ := mem_steps.mp h
  exact ⟨h1, reach_on h2⟩
def GoodK (b : Board) (red : Bool) : Prop := ∀ q, at_ b q = some ⟨!red, .K⟩ → palace red q = false
theorem steps_nodup {b : Board} {red : Bool} (hk : GoodK b red) : (steps b red).Nodup := by
  rw [steps_eq]
  unfold List.Nodup
  rw [List.pairwise_flatMap]
  constructor
  · intro p _
    unfold from1
    cases h : at_ b p with
    | none => exact List.Pairwise.nil
    | some m =>
      dsimp only
      by_cases hr : m.red = red
      · rw [if_pos hr]
        refine nodup_map (fun a b e => (Prod.mk.inj e).2) (List.Pairwise.filter _ (reach_nodup ?_))
        rw [hr]
        exact hk
      · rw [if_neg hr]
        exact List.Pairwise.nil
  · refine List.Pairwise.imp ?_ points_nodup
    intro p p' hne x hx y hy e
    rw [mem_from1] at hx hy
    rw [e] at hx
    exact hne (hx.1.symm.trans hy.1)
/-! ### a step, a general that is reached, a board behind a move: program and specification -/
theorem all_stands {bd : Bd} {b : Board} (R : Rel bd b) {red : Bool} {e : Int} (he : 0 ≤ e ∧ e < 90) : ((at_ b (ptOf e)).all fun x => x.red != red) = !stands (cell bd e) red := by
  rw [R.at_pt he]
  cases cell bd e with
  | none => rfl
  | some m => rfl
theorem step_iff {bd : Bd} {b : Board} (R : Rel bd b) {red : Bool} {s e : Int} (hs : 0 ≤ s ∧ s < 90) (he : 0 ≤ e ∧ e < 90) : (ptOf s, ptOf e) ∈ steps b red ↔ stands (cell bd s) red = true ∧ couldAt bd s e = true := by
  rw [mem_steps]
  dsimp only
  rw [R.at_pt hs, all_stands R he]
  constructor
  · rintro ⟨_, m, h1, h2, h3, h4⟩
    have hne : s ≠ e := by
      intro z
      rw [← z, h1] at h4
      simp [stands, h2] at h4
    rw [reach_iff R hs he hne] at h3
    have hst : stands (cell bd e) m.red = false := by
      rw [h2]
      simpa using h4
    refine ⟨by rw [h1]; simp [stands, h2], ?_⟩
    unfold couldAt
    rw [h1]
    show could bd m s e = true
    unfold could
    rw [hst, if_neg Bool.false_ne_true]
    exact h3
  · rintro ⟨h1, h2⟩
    cases hc : cell bd s with
    | none => rw [hc] at h1; cases h1
    | some m =>
      rw [hc] at h1
      have hr : m.red = red := eq_of_beq h1
      unfold couldAt at h2
      rw [hc] at h2
      have h2 : could bd m s e = true := h2
      unfold could at h2
      split at h2
      · cases h2
      · rename_i h3
        have hne : s ≠ e := by
          intro z
          rw [← z, hc] at h3
          simp [stands] at h3
        refine ⟨ptOf_on hs, m, rfl, hr, (reach_iff R hs he hne).mpr h2, ?_⟩
        rw [← hr]
        simpa using h3
/-- one general of a side, at g -/
def OneK (bd : Bd) (red : Bool) : Prop := ∃ g : Nat, g < 90 ∧ ∀ n : Nat, n < 90 → (cell bd (n : Int) = some ⟨red, .K⟩ ↔ n = g)
theorem OneK.gen {bd : Bd} {red : Bool} (hl : bd.length = 90) (h : OneK bd red) : ∃ g : Nat, g < 90 ∧ gen bd red = g ∧ ∀ n : Nat, n < 90 → (cell bd (n : Int) = some ⟨red, .K⟩ ↔ n = g) := by
  obtain ⟨g, hg, hu⟩ := h
  refine ⟨g, hg, ?_, hu⟩
  have h1 : cell bd (g : Int) = some ⟨red, .K⟩ := (hu g hg).mpr rfl
  have hgl : bd[g]? = some (some ⟨red, .K⟩) := by
    unfold cell at h1
    rw [Int.toNat_natCast, List.getElem?_eq_getElem (by omega)] at h1
    rw [List.getElem?_eq_getElem (by omega)]
    exact congrArg some h1
  have hlt : Tr.gen bd red < bd.length := by
    unfold Tr.gen
    exact List.findIdx_lt_length_of_exists ⟨_, List.mem_of_getElem? hgl, beq_self_eq_true _⟩
  refine (hu _ (by omega)).mp ?_
  have e := List.findIdx_getElem (p := fun c : Cell => c == some ⟨red, .K⟩) (xs := bd) (w := hlt)
  unfold cell
  rw [Int.toNat_natCast]
  unfold Tr.gen at *
  rw [List.getElem?_eq_getElem hlt]
  exact eq_of_beq e
theorem checked_eq {bd : Bd} {b : Board} (R : Rel bd b) {red : Bool} (h1 : OneK bd red) : checked b red = reached bd red := by
  obtain ⟨g, hg, hgen, hu⟩ := h1.gen R.l1
  unfold checked reached
  rw [Bool.eq_iff_iff, List.any_eq_true, List.any_eq_true, hgen]
  constructor
  · rintro ⟨x, hx, hk⟩
    obtain ⟨o1, o2⟩ := steps_on hx
    have hk := eq_of_beq hk
    have n1 := nOf_on o1
    have n2 := nOf_on o2
    rw [R.at_n o2] at hk
    have hgn : (nOf x.2).toNat = g := by
      refine (hu _ (by omega)).mp ?_
      rw [show ((nOf x.2).toNat : Int) = nOf x.2 by omega]
      exact hk
    have hx' : (ptOf (nOf x.1), ptOf (nOf x.2)) ∈ steps b !red := by
      rw [ptOf_n o1, ptOf_n o2]
      exact hx
    rw [step_iff R n1 n2] at hx'
    refine ⟨(nOf x.1).toNat, List.mem_range.mpr (by omega), ?_⟩
    rw [show ((nOf x.1).toNat : Int) = nOf x.1 by omega, show (g : Int) = nOf x.2 by omega, hx'.1, hx'.2]
    rfl
  · rintro ⟨i, hi, h⟩
    rw [List.mem_range] at hi
    rw [Bool.and_eq_true] at h
    have hi' : 0 ≤ (i : Int) ∧ (i : Int) < 90 := by omega
    have hg' : 0 ≤ (g : Int) ∧ (g : Int) < 90 := by omega
    refine ⟨(ptOf (i : Int), ptOf (g : Int)), (step_iff R hi' hg').mpr h, ?_⟩
    dsimp only
    rw [R.at_pt hg', (hu g hg).mpr rfl]
    exact beq_self_eq_true _
theorem ix_pt {n : Int} (h : 0 ≤ n ∧ n < 90) : Sn32.index (ptOf n) = 9 * (9 - n.toNat % 10) + n.toNat / 10 := by
  obtain ⟨k, rfl⟩ : ∃ k : Nat, n = (k : Int) := ⟨n.toNat, by omega⟩
  rw [Int.toNat_natCast]
  unfold Sn32.index ptOf
  dsimp only
  omega
theorem Rel.after {bd : Bd} {b : Board} (R : Rel bd b) {s e : Int} (hs : 0 ≤ s ∧ s < 90) (he : 0 ≤ e ∧ e < 90) : Rel (after bd s e) (moved b (ptOf s, ptOf e)) := by
  unfold Tr.after moved
  dsimp only
  rw [ix_pt hs, ix_pt he, R.at_pt hs]
  refine ⟨by rw [List.length_set, List.length_set]; exact R.l1, by rw [List.length_set, List.length_set]; exact R.l2, fun c r hc hr => ?_⟩
  have l1 := R.l1
  have l2 := R.l2
  have q := R.eq c r hc hr
  rw [List.getElem?_set, List.getElem?_set, List.getElem?_set, List.getElem?_set, List.length_set, List.length_set, l1, l2]
  by_cases h1 : s.toNat = 10 * c + r
  · rw [if_pos h1, if_pos (by omega), if_pos (by omega), if_pos (by omega)]
  · rw [if_neg h1, if_neg (show ¬ 9 * (9 - s.toNat % 10) + s.toNat / 10 = 9 * (9 - r) + c by omega)]
    by_cases h2 : e.toNat = 10 * c + r
    · rw [if_pos h2, if_pos (by omega), if_pos (by omega), if_pos (by omega)]
    · rw [if_neg h2, if_neg (show ¬ 9 * (9 - e.toNat % 10) + e.toNat / 10 = 9 * (9 - r) + c by omega)]
      exact q
theorem cell_after {bd : Bd} {s e : Int} (hl : bd.length = 90) (hs : 0 ≤ s ∧ s < 90) (he : 0 ≤ e ∧ e < 90) {n : Nat} (hn : n < 90) : cell (after bd s e) (n : Int) = if (n : Int) = s then none else if (n : Int) = e then cell bd s else cell bd (n : Int) := by
  unfold after
  rw [show cell ((bd.set e.toNat (cell bd s)).set s.toNat none) (n : Int) = (((bd.set e.toNat (cell bd s)).set s.toNat none)[n]?).join by unfold cell; rw [Int.toNat_natCast]]
  rw [List.getElem?_set, List.getElem?_set, List.length_set, hl]
  by_cases h1 : s.toNat = n
  · rw [if_pos h1, if_pos (show s.toNat < 90 by omega), if_pos (show (n : Int) = s by omega)]
    rfl
  · rw [if_neg h1, if_neg (show ¬ (n : Int) = s by omega)]
    by_cases h2 : e.toNat = n
    · rw [if_pos h2, if_pos (show e.toNat < 90 by omega), if_pos (show (n : Int) = e by omega)]
      rfl
    · rw [if_neg h2, if_neg (show ¬ (n : Int) = e by omega)]
      unfold cell
      rw [Int.toNat_natCast]
/-- the own general is still one behind an own move -/
theorem OneK.after {bd : Bd} {red : Bool} {s e : Int} (hl : bd.length = 90) (hs : 0 ≤ s ∧ s < 90) (he : 0 ≤ e ∧ e < 90) (h1 : OneK bd red) (hst : stands (cell bd s) red = true) (hc : couldAt bd s e = true) : OneK (after bd s e) red := by
  obtain ⟨g, hg, hu⟩ := h1
  have hne : stands (cell bd e) red = false := by
    cases hm : cell bd s with
    | none => rw [hm] at hst; cases hst
    | some m =>
      rw [hm] at hst
      have hr : m.red = red := eq_of_beq hst
      unfold couldAt at hc
      rw [hm] at hc
      have hc : could bd m s e = true := hc
      unfold could at hc
      rw [hr] at hc
      split at hc
      · cases hc
      · rename_i h
        exact Bool.eq_false_iff.mpr h
  have hse : s ≠ e := by
    intro z
    rw [z, hne] at hst
    cases hst
  have hge : (g : Int) ≠ e := by
    intro z
    rw [← z, (hu g hg).mpr rfl] at hne
    simp [stands] at hne
  by_cases hgs : (g : Int) = s
  · refine ⟨e.toNat, by omega, fun n hn => ?_⟩
    rw [cell_after hl hs he hn]
    by_cases h3 : (n : Int) = s
    · rw [if_pos h3]
      constructor
      · intro z
        cases z
      · intro z
        omega
    · rw [if_neg h3]
      by_cases h4 : (n : Int) = e
      · rw [if_pos h4]
        constructor
        · intro _
          omega
        · intro _
          rw [← hgs]
          exact (hu g hg).mpr rfl
      · rw [if_neg h4, hu n hn]
        omega
  · refine ⟨g, hg, fun n hn => ?_⟩
    rw [cell_after hl hs he hn]
    by_cases h3 : (n : Int) = s
    · rw [if_pos h3]
      constructor
      · intro z
        cases z
      · intro z
        omega
    · rw [if_neg h3]
      by_cases h4 : (n : Int) = e
      · rw [if_pos h4]
        constructor
        · intro z
          have hs' : cell bd ((s.toNat : Nat) : Int) = some ⟨red, .K⟩ := by
            rw [show ((s.toNat : Nat) : Int) = s by omega]
            exact z
          have := (hu s.toNat (by omega)).mp hs'
          omega
        · intro z
          omega
      · rw [if_neg h4]
        exact hu n hn
end Tr

namespace Tr
open Sn32 (Man Board Pt at_ free onBoard add ray straight slanted palace reach points steps moved checked less moveText)
def key (m : Pt × Pt) : Int := nOf m.1 * 90 + nOf m.2
def onM (m : Pt × Pt) : Prop := onBoard m.1 = true ∧ onBoard m.2 = true
theorem key_inj {a b : Pt × Pt} (ha : onM a) (hb : onM b) (h : key a = key b) : a = b := by
  have a1 := nOf_on ha.1
  have a2 := nOf_on ha.2
  have b1 := nOf_on hb.1
  have b2 := nOf_on hb.2
  unfold key at h
  have h1 : nOf a.1 = nOf b.1 := by omega
  have h2 : nOf a.2 = nOf b.2 := by omega
  have e1 : a.1 = b.1 := by rw [← ptOf_n ha.1, ← ptOf_n hb.1, h1]
  have e2 : a.2 = b.2 := by rw [← ptOf_n ha.2, ← ptOf_n hb.2, h2]
  exact Prod.ext e1 e2
theorem less4 (a b c d a' b' c' d' : Nat) : less [a, b, c, d] [a', b', c', d'] = true ↔ a < a' ∨ (a = a' ∧ (b < b' ∨ (b = b' ∧ (c < c' ∨ (c = c' ∧ d < d'))))) := by
  simp only [less, Bool.or_eq_true, Bool.and_eq_true, decide_eq_true_eq, beq_iff_eq, Bool.false_eq_true, and_false, or_false]
theorem less_iff {a b : Pt × Pt} (ha : onM a) (hb : onM b) : less (moveText a) (moveText b) = true ↔ key a < key b := by
  have a1 := (onBoard_iff a.1).mp ha.1
  have a2 := (onBoard_iff a.2).mp ha.2
  have b1 := (onBoard_iff b.1).mp hb.1
  have b2 := (onBoard_iff b.2).mp hb.2
  show less [97 + a.1.1.toNat, 57 - a.1.2.toNat, 97 + a.2.1.toNat, 57 - a.2.2.toNat] [97 + b.1.1.toNat, 57 - b.1.2.toNat, 97 + b.2.1.toNat, 57 - b.2.2.toNat] = true ↔ _
  rw [less4]
  unfold key nOf
  omega
theorem insert_mem {m x : Pt × Pt} : ∀ {l : List (Pt × Pt)}, x ∈ Sn32.insert m l ↔ x = m ∨ x ∈ l
  | [] => by
    show x ∈ [m] ↔ _
    simp
  | y :: r => by
    unfold Sn32.insert
    split
    · rw [List.mem_cons, insert_mem (l := r), List.mem_cons]
      constructor
      · rintro (h | h | h)
        · exact .inr (.inl h)
        · exact .inl h
        · exact .inr (.inr h)
      · rintro (h | h | h)
        · exact .inr (.inl h)
        · exact .inl h
        · exact .inr (.inr h)
    · rw [List.mem_cons, List.mem_cons]
theorem insert_sorted {m : Pt × Pt} (hm : onM m) : ∀ {l : List (Pt × Pt)}, (∀ x ∈ l, onM x) → (∀ x ∈ l, x ≠ m) → l.Pairwise (fun a b => key a < key b) → (Sn32.insert m l).Pairwise (fun a b => key a < key b)
  | [], _, _, _ => List.pairwise_singleton _ _
  | y :: r, ho, hne, hp => by
    rw [List.pairwise_cons] at hp
    unfold Sn32.insert
    have hy := ho y List.mem_cons_self
    split
    · rename_i h
      rw [less_iff hy hm] at h
      rw [List.pairwise_cons]
      refine ⟨fun x hx => ?_, insert_sorted hm (fun x hx => ho x (List.mem_cons_of_mem _ hx)) (fun x hx => hne x (List.mem_cons_of_mem _ hx)) hp.2⟩
      rcases insert_mem.mp hx with rfl | hx
      · exact h
      · exact hp.1 x hx
    · rename_i h
      have h : ¬ key y < key m := fun z => h ((less_iff hy hm).mpr z)
      have hk : key m < key y := by
        have : key y ≠ key m := fun z => hne y List.mem_cons_self (key_inj hy hm z)
        omega
      rw [List.pairwise_cons, List.pairwise_cons]
      refine ⟨fun x hx => ?_, hp⟩
      rcases List.mem_cons.mp hx with rfl | hx
      · exact hk
      · exact Int.lt_trans hk (hp.1 x hx)
theorem fold_mem {x : Pt × Pt} : ∀ {L acc : List (Pt × Pt)}, x ∈ L.foldl (fun l m => Sn32.insert m l) acc ↔ x ∈ L ∨ x ∈ acc
  | [], acc => by simp
  | m :: r, acc => by
    rw [List.foldl_cons, fold_mem (L := r), insert_mem, List.mem_cons]
    constructor
    · rintro (h | h | h)
      · exact .inl (.inr h)
      · exact .inl (.inl h)
      · exact .inr h
    · rintro ((h | h) | h)
      · exact .inr (.inl h)
      · exact .inl h
      · exact .inr (.inr h)
theorem fold_sorted : ∀ {L acc : List (Pt × Pt)}, L.Nodup → (∀ x ∈ L, onM x) → (∀ x ∈ acc, onM x) → (∀ x ∈ L, x ∉ acc) → acc.Pairwise (fun a b => key a < key b) → (L.foldl (fun l m => Sn32.insert m l) acc).Pairwise (fun a b => key a < key b)
  | [], _, _, _, _, _, hp => hp
  | m :: r, acc, hn, h1, h2, h3, hp => by
    rw [List.foldl_cons]
    rw [List.nodup_cons] at hn
    have hm := h1 m List.mem_cons_self
    refine fold_sorted hn.2 (fun x hx => h1 x (List.mem_cons_of_mem _ hx)) (fun x hx => ?_) (fun x hx z => ?_) (insert_sorted hm h2 (fun x hx e => h3 m List.mem_cons_self (by rw [← e]; exact hx)) hp)
    · rcases insert_mem.mp hx with rfl | hx
      · exact hm
      · exact h2 x hx
    · rcases insert_mem.mp z with rfl | z
      · exact hn.1 hx
      · exact h3 x (List.mem_cons_of_mem _ hx) z
theorem sorted_eq {α : Type} {f : α → Int} : ∀ {l l' : List α}, l.Pairwise (fun a b => f a < f b) → l'.Pairwise (fun a b => f a < f b) → (∀ x, x ∈ l ↔ x ∈ l') → l = l'
  | [], [], _, _, _ => rfl
  | [], y :: r, _, _, h => by
    have := (h y).mpr List.mem_cons_self
    cases this
  | x :: r, [], _, _, h => by
    have := (h x).mp List.mem_cons_self
    cases this
  | x :: r, y :: q, h1, h2, h => by
    rw [List.pairwise_cons] at h1 h2
    have e : x = y := by
      rcases List.mem_cons.mp ((h x).mp List.mem_cons_self) with e | hx
      · exact e
      · rcases List.mem_cons.mp ((h y).mpr List.mem_cons_self) with e | hy
        · exact e.symm
        · have a := h2.1 x hx
          have b := h1.1 y hy
          omega
    subst e
    congr 1
    refine sorted_eq h1.2 h2.2 fun z => ?_
    constructor
    · intro hz
      rcases List.mem_cons.mp ((h z).mp (List.mem_cons_of_mem _ hz)) with e | hz'
      · have := h1.1 z hz
        rw [e] at this
        omega
      · exact hz'
    · intro hz
      rcases List.mem_cons.mp ((h z).mpr (List.mem_cons_of_mem _ hz)) with e | hz'
      · have := h2.1 z hz
        rw [e] at this
        omega
      · exact hz'
/-! ### the moves -/
def toM (m : Int × Int) : Pt × Pt := (ptOf m.1, ptOf m.2)
theorem key_toM (m : Int × Int) : key (toM m) = m.1 * 90 + m.2 := by
  unfold key toM
  dsimp only
  rw [nOf_pt, nOf_pt]
theorem mem_allMoves {bd : Bd} {b : Bool} {m : Int × Int} : m ∈ allMoves bd b ↔ (0 ≤ m.1 ∧ m.1 < 90) ∧ (0 ≤ m.2 ∧ m.2 < 90) ∧ stands (cell bd m.1) b = true ∧ mayMove bd b m.1 m.2 = true := by
  unfold allMoves
  rw [List.mem_flatMap]
  constructor
  · rintro ⟨s, hs, h⟩
    rw [List.mem_range] at hs
    split at h
    · rename_i h1
      unfold movesFrom at h
      rw [List.mem_map] at h
      obtain ⟨e, he, rfl⟩ := h
      rw [List.mem_filter, List.mem_range] at he
      exact ⟨⟨by dsimp only; omega, by dsimp only; omega⟩, ⟨by dsimp only; omega, by dsimp only; omega⟩, h1, he.2⟩
    · cases h
  · rintro ⟨h1, h2, h3, h4⟩
    obtain ⟨s, e⟩ := m
    dsimp only at *
    have e1 : ((s.toNat : Nat) : Int) = s := by omega
    have e2 : ((e.toNat : Nat) : Int) = e := by omega
    refine ⟨s.toNat, List.mem_range.mpr (by omega), ?_⟩
    rw [e1, if_pos h3]
    unfold movesFrom
    rw [List.mem_map]
    refine ⟨e.toNat, List.mem_filter.mpr ⟨List.mem_range.mpr (by omega), ?_⟩, by rw [e2]⟩
    rw [e2]
    exact h4
theorem allMoves_sorted (bd : Bd) (b : Bool) : ((allMoves bd b).map toM).Pairwise (fun a b => key a < key b) := by
  rw [List.pairwise_map]
  unfold allMoves
  rw [List.pairwise_flatMap]
  constructor
  · intro s hs
    split
    · unfold movesFrom
      rw [List.pairwise_map]
      refine List.Pairwise.filter _ (List.Pairwise.imp ?_ List.pairwise_lt_range)
      intro x y h
      rw [key_toM, key_toM]
      dsimp only
      omega
    · exact List.Pairwise.nil
  · refine List.Pairwise.imp ?_ List.pairwise_lt_range
    intro s s' h x hx y hy
    have hx' : x.1 = (s : Int) ∧ 0 ≤ x.2 ∧ x.2 < 90 := by
      split at hx
      · unfold movesFrom at hx
        rw [List.mem_map] at hx
        obtain ⟨e, he, rfl⟩ := hx
        rw [List.mem_filter, List.mem_range] at he
        dsimp only
        omega
      · cases hx
    have hy' : y.1 = (s' : Int) ∧ 0 ≤ y.2 ∧ y.2 < 90 := by
      split at hy
      · unfold movesFrom at hy
        rw [List.mem_map] at hy
        obtain ⟨e, he, rfl⟩ := hy
        rw [List.mem_filter, List.mem_range] at he
        dsimp only
        omega
      · cases hy
    rw [key_toM, key_toM]
    omega
theorem moves_eq {bd : Bd} {b : Board} (R : Rel bd b) {red : Bool} (h1 : OneK bd red) (hk : GoodK b red) : Sn32.moves ⟨b, red⟩ = (allMoves bd red).map toM := by
  unfold Sn32.moves
  dsimp only
  refine sorted_eq (f := key) (fold_sorted (List.Pairwise.filter _ (steps_nodup hk)) (fun x hx => steps_on (List.mem_filter.mp hx).1) (fun x hx => by cases hx) (fun x _ hx => by cases hx) List.Pairwise.nil) (allMoves_sorted bd red) fun x => ?_
  rw [fold_mem, List.mem_filter, List.mem_map]
  constructor
  · rintro (⟨hx, hc⟩ | hx)
    · obtain ⟨o1, o2⟩ := steps_on hx
      have n1 := nOf_on o1
      have n2 := nOf_on o2
      have ex : (ptOf (nOf x.1), ptOf (nOf x.2)) = x := by rw [ptOf_n o1, ptOf_n o2]
      rw [← ex] at hx hc
      rw [step_iff R n1 n2] at hx
      refine ⟨(nOf x.1, nOf x.2), mem_allMoves.mpr ⟨n1, n2, hx.1, ?_⟩, ex⟩
      dsimp only
      unfold mayMove
      rw [if_pos hx.2, ← checked_eq (R.after n1 n2) (h1.after R.l1 n1 n2 hx.1 hx.2)]
      exact hc
    · cases hx
  · rintro ⟨m, hm, rfl⟩
    rw [mem_allMoves] at hm
    obtain ⟨n1, n2, hs, hmm⟩ := hm
    unfold mayMove at hmm
    split at hmm
    · rename_i hc
      rw [← checked_eq (R.after n1 n2) (h1.after R.l1 n1 n2 hs hc)] at hmm
      exact .inl ⟨(step_iff R n1 n2).mpr ⟨hs, hc⟩, hmm⟩
    · cases hmm
theorem name_eq {m : Int × Int} (h1 : 0 ≤ m.1 ∧ m.1 < 90) (h2 : 0 ≤ m.2 ∧ m.2 < 90) : (moveText (toM m) ++ [10]).map (fun (x : Nat) => (x : Int)) = nameMove m := by
  show [((97 + (m.1 / 10).toNat : Nat) : Int), ((57 - (9 - m.1 % 10).toNat : Nat) : Int), ((97 + (m.2 / 10).toNat : Nat) : Int), ((57 - (9 - m.2 % 10).toNat : Nat) : Int), ((10 : Nat) : Int)] = [97 + m.1 / 10, 48 + m.1 % 10, 97 + m.2 / 10, 48 + m.2 % 10, 10]
  rw [show ((97 + (m.1 / 10).toNat : Nat) : Int) = 97 + m.1 / 10 by omega, show ((57 - (9 - m.1 % 10).toNat : Nat) : Int) = 48 + m.1 % 10 by omega, show ((97 + (m.2 / 10).toNat : Nat) : Int) = 97 + m.2 / 10 by omega, show ((57 - (9 - m.2 % 10).toNat : Nat) : Int) = 48 + m.2 % 10 by omega]
  rfl
theorem text_eq {l : List (Int × Int)} (h : ∀ m ∈ l, (0 ≤ m.1 ∧ m.1 < 90) ∧ (0 ≤ m.2 ∧ m.2 < 90)) : ((l.map toM).flatMap fun m => moveText m ++ [10]).map (fun (x : Nat) => (x : Int)) = l.flatMap nameMove := by
  induction l with
  | nil => rfl
  | cons m r ih =>
    rw [List.map_cons, List.flatMap_cons, List.map_append, ih (fun x hx => h x (List.mem_cons_of_mem _ hx)), List.flatMap_cons]
    have := h m List.mem_cons_self
    rw [name_eq this.1 this.2]
theorem lines_eq {bd : Bd} {b : Board} (R : Rel bd b) {red : Bool} (h1 : OneK bd red) (hk : GoodK b red) :
    ((if checked b red = true then [43, 10] else [45, 10]) ++ (Sn32.moves ⟨b, red⟩).flatMap fun m => moveText m ++ [10]).map (fun (x : Nat) => (x : Int)) = linesOf bd red := by
  rw [List.map_append, moves_eq R h1 hk, text_eq (fun m hm => ⟨(mem_allMoves.mp hm).1, (mem_allMoves.mp hm).2.1⟩), checked_eq R h1]
  unfold linesOf
  congr 1
  split <;> rfl
end Tr

namespace Tr
open Sn32 (Man Board Pt at_ onBoard palace points splitBy row manOf kings)
open Sn32Neutral (nats)
/-! ### splitting -/
theorem splitBy_two {k s : Nat} : ∀ {a w : List Nat}, k ∉ a → s ≠ k → splitBy k (a ++ [k, s]) w = [w ++ a, [s]]
  | [], w, _, hs => by
    show (if k = k then w :: splitBy k [s] [] else _) = _
    rw [if_pos rfl]
    show w :: (if s = k then _ else splitBy k [] ([] ++ [s])) = _
    rw [if_neg hs, List.append_nil]
    rfl
  | c :: r, w, ha, hs => by
    show (if c = k then _ else splitBy k (r ++ [k, s]) (w ++ [c])) = _
    rw [if_neg (fun z => ha (by rw [z]; exact List.mem_cons_self)), splitBy_two (fun z => ha (List.mem_cons_of_mem _ z)) hs, List.append_assoc]
    rfl
theorem splitBy_ne {k : Nat} : ∀ (t w : List Nat), splitBy k t w ≠ []
  | [], w => by
    intro h
    cases h
  | c :: r, w => by
    unfold splitBy
    split
    · intro h
      cases h
    · exact splitBy_ne r _
theorem splitBy_one {k : Nat} : ∀ {t w x : List Nat}, splitBy k t w = [x] → x = w ++ t ∧ k ∉ t
  | [], w, x, h => by
    have : w = x := (List.cons.inj h).1
    rw [this, List.append_nil]
    exact ⟨rfl, List.not_mem_nil⟩
  | c :: r, w, x, h => by
    unfold splitBy at h
    split at h
    · exact absurd (List.cons.inj h).2 (splitBy_ne r [])
    · rename_i hc
      obtain ⟨h1, h2⟩ := splitBy_one h
      refine ⟨by rw [h1, List.append_assoc]; rfl, fun z => ?_⟩
      rcases List.mem_cons.mp z with z | z
      · exact hc z.symm
      · exact h2 z
theorem splitBy_back {k s : Nat} : ∀ {t w a : List Nat}, splitBy k t w = [a, [s]] → ∃ q, t = q ++ [k, s] ∧ a = w ++ q ∧ k ∉ q ∧ s ≠ k
  | [], w, a, h => by
    cases h
  | c :: r, w, a, h => by
    unfold splitBy at h
    split at h
    · rename_i hc
      obtain ⟨h1, h2⟩ := List.cons.inj h
      obtain ⟨h3, h4⟩ := splitBy_one h2
      rw [List.nil_append] at h3
      refine ⟨[], by rw [hc, ← h3]; rfl, by rw [List.append_nil]; exact h1.symm, List.not_mem_nil, fun z => h4 ?_⟩
      rw [← h3, z]
      exact List.mem_cons_self
    · rename_i hc
      obtain ⟨q, h1, h2, h3, h4⟩ := splitBy_back h
      refine ⟨c :: q, by rw [h1]; rfl, by rw [h2, List.append_assoc]; rfl, fun z => ?_, h4⟩
      rcases List.mem_cons.mp z with z | z
      · exact hc z.symm
      · exact h3 z
def Bytes8 (t : List Int) : Prop := ∀ x ∈ t, 0 ≤ x ∧ x ≤ 255
theorem split_nats : ∀ {t w : List Int}, Bytes8 t → (splitI t w).map nats = splitBy 47 (nats t) (nats w)
  | [], w, _ => rfl
  | c :: r, w, h => by
    have hc := h c List.mem_cons_self
    have hr : Bytes8 r := fun x hx => h x (List.mem_cons_of_mem _ hx)
    show List.map nats (if c = 47 then w :: splitI r [] else splitI r (w ++ [c])) = (if c.toNat = 47 then nats w :: splitBy 47 (nats r) [] else splitBy 47 (nats r) (nats w ++ [c.toNat]))
    by_cases h47 : c = 47
    · rw [if_pos h47, if_pos (by omega), List.map_cons, split_nats hr]
      rfl
    · rw [if_neg h47, if_neg (by omega), split_nats hr]
      unfold nats
      rw [List.map_append]
      rfl
theorem split_mem {x : Int} : ∀ {t w r : List Int}, r ∈ splitI t w → x ∈ r → x ∈ t ∨ x ∈ w
  | [], w, r, h, hx => by
    rw [List.mem_singleton.mp h] at hx
    exact .inr hx
  | c :: q, w, r, h, hx => by
    unfold splitI at h
    split at h
    · rcases List.mem_cons.mp h with h | h
      · rw [h] at hx
        exact .inr hx
      · rcases split_mem h hx with h | h
        · exact .inl (List.mem_cons_of_mem _ h)
        · cases h
    · rcases split_mem h hx with h | h
      · exact .inl (List.mem_cons_of_mem _ h)
      · rcases List.mem_append.mp h with h | h
        · exact .inr h
        · rw [List.mem_singleton.mp h]
          exact .inl List.mem_cons_self
theorem split_has {x : Int} (hx : x ≠ 47) : ∀ {t w : List Int}, x ∈ t ∨ x ∈ w → ∃ r ∈ splitI t w, x ∈ r
  | [], w, h => by
    rcases h with h | h
    · cases h
    · exact ⟨w, List.mem_singleton.mpr rfl, h⟩
  | c :: q, w, h => by
    unfold splitI
    split
    · rename_i hc
      rcases h with h | h
      · rcases List.mem_cons.mp h with h | h
        · exact absurd (h.trans hc) hx
        · obtain ⟨r, h1, h2⟩ := split_has hx (t := q) (w := []) (.inl h)
          exact ⟨r, List.mem_cons_of_mem _ h1, h2⟩
      · exact ⟨w, List.mem_cons_self, h⟩
    · refine split_has hx (t := q) (w := w ++ [c]) ?_
      rcases h with h | h
      · rcases List.mem_cons.mp h with h | h
        · exact .inr (List.mem_append.mpr (.inr (by rw [h]; exact List.mem_singleton.mpr rfl)))
        · exact .inl h
      · exact .inr (List.mem_append.mpr (.inl h))
/-! ### rows -/
theorem man_all : ∀ c : Fin 256, manOf c.val = menK.lookup (c.val : Int) := by decide +kernel
theorem man_eq {c : Int} (h : 0 ≤ c ∧ c ≤ 255) : manOf c.toNat = menK.lookup c := by
  have := man_all ⟨c.toNat, by omega⟩
  dsimp only at this
  rw [this, show ((c.toNat : Nat) : Int) = c by omega]
theorem digit_none {c : Int} (h : 49 ≤ c ∧ c ≤ 57) : menK.lookup c = none := by
  have d : ∀ k : Fin 9, menK.lookup ((k.val : Int) + 49) = none := by decide +kernel
  have := d ⟨(c - 49).toNat, by omega⟩
  dsimp only at this
  rw [show (((c - 49).toNat : Nat) : Int) + 49 = c by omega] at this
  exact this
theorem row_eq : ∀ {r : List Int} {aft : Bool}, Bytes8 r → row aft (nats r) = rowI aft r
  | [], aft, _ => rfl
  | c :: r, aft, h => by
    have hc := h c List.mem_cons_self
    have hr : Bytes8 r := fun x hx => h x (List.mem_cons_of_mem _ hx)
    show (if 49 ≤ c.toNat ∧ c.toNat ≤ 57 then (if aft = true then none else (row true (nats r)).map fun l => List.replicate (c.toNat - 48) none ++ l) else (manOf c.toNat).bind fun m => (row false (nats r)).map fun l => some m :: l) = _
    unfold rowI
    by_cases hd : 49 ≤ c ∧ c ≤ 57
    · rw [if_pos (by omega), digit_none hd]
      dsimp only
      cases aft with
      | true => rw [if_pos rfl, if_neg (by simp)]
      | false =>
        rw [if_neg (by simp), if_pos ⟨hd.1, hd.2, rfl⟩, row_eq hr, show c.toNat - 48 = (c - 48).toNat by omega]
    · rw [if_neg (by omega), man_eq hc]
      cases hk : menK.lookup c with
      | none =>
        dsimp only
        rw [if_neg (fun z => hd ⟨z.1, z.2.1⟩)]
        rfl
      | some m =>
        dsimp only
        rw [row_eq hr]
        rfl
theorem blank_none {r : List Int} : ∀ {aft : Bool}, (32 : Int) ∈ r → rowI aft r = none := by
  induction r with
  | nil => intro _ h; cases h
  | cons c q ih =>
    intro aft h
    unfold rowI
    rcases List.mem_cons.mp h with h | h
    · rw [← h, show menK.lookup 32 = none by decide +kernel]
      dsimp only
      rw [if_neg (by omega)]
    · cases menK.lookup c with
      | some m =>
        dsimp only
        rw [ih h]
        rfl
      | none =>
        dsimp only
        split
        · rw [ih h]
          rfl
        · rfl
theorem row9_some {r : List Int} {l : List Cell} : row9 r = some l ↔ rowI false r = some l ∧ l.length = 9 := by
  unfold row9
  cases rowI false r with
  | none => simp
  | some l' =>
    show (if l'.length = 9 then some l' else none) = some l ↔ _
    split
    · rename_i h
      constructor
      · intro z
        cases z
        exact ⟨rfl, h⟩
      · intro z
        exact z.1
    · rename_i h
      constructor
      · intro z
        cases z
      · intro z
        cases z.1
        exact absurd z.2 h
theorem rowsI_some : ∀ {S : List (List Int)} {rows : List (List Cell)}, (∀ r ∈ S, Bytes8 r) → (rowsI S = some rows ↔ (S.map nats).mapM (row false) = some rows ∧ rows.all (fun r => r.length == 9) = true)
  | [], rows, _ => by
    show some [] = some rows ↔ some [] = some rows ∧ _
    constructor
    · intro h
      cases h
      exact ⟨rfl, rfl⟩
    · exact fun h => h.1
  | r :: q, rows, h => by
    have hr := h r List.mem_cons_self
    have ih := fun rows => rowsI_some (S := q) (rows := rows) (fun x hx => h x (List.mem_cons_of_mem _ hx))
    rw [List.map_cons, List.mapM_cons, row_eq hr]
    show (row9 r).bind (fun l => (rowsI q).map fun ls => l :: ls) = some rows ↔ ((rowI false r).bind fun b => ((q.map nats).mapM (row false)).bind fun bs => some (b :: bs)) = some rows ∧ _
    constructor
    · intro hh
      cases h9 : row9 r with
      | none => rw [h9] at hh; cases hh
      | some l =>
        rw [h9] at hh
        obtain ⟨g1, g2⟩ := row9_some.mp h9
        cases hq : rowsI q with
        | none => rw [hq] at hh; cases hh
        | some ls =>
          rw [hq] at hh
          have hh : some (l :: ls) = some rows := hh
          cases hh
          obtain ⟨g3, g4⟩ := (ih ls).mp hq
          rw [g1]
          refine ⟨?_, ?_⟩
          · show ((q.map nats).mapM (row false)).bind (fun bs => some (l :: bs)) = _
            rw [g3]
            rfl
          · rw [List.all_cons, g4, Bool.and_true, beq_iff_eq]
            exact g2
    · rintro ⟨hh, ha⟩
      cases g1 : rowI false r with
      | none => rw [g1] at hh; cases hh
      | some l =>
        rw [g1] at hh
        have hh : ((q.map nats).mapM (row false)).bind (fun bs => some (l :: bs)) = some rows := hh
        cases g3 : (q.map nats).mapM (row false) with
        | none => rw [g3] at hh; cases hh
        | some ls =>
          rw [g3] at hh
          have hh : some (l :: ls) = some rows := hh
          cases hh
          rw [List.all_cons, Bool.and_eq_true, beq_iff_eq] at ha
          rw [row9_some.mpr ⟨g1, ha.1⟩, (ih ls).mpr ⟨g3, ha.2⟩]
          rfl
theorem rowsI_len : ∀ {S : List (List Int)} {rows : List (List Cell)}, rowsI S = some rows → rows.length = S.length ∧ ∀ r ∈ rows, r.length = 9
  | [], rows, h => by
    cases h
    exact ⟨rfl, fun r hr => by cases hr⟩
  | r :: q, rows, h => by
    have h : (row9 r).bind (fun l => (rowsI q).map fun ls => l :: ls) = some rows := h
    cases h9 : row9 r with
    | none => rw [h9] at h; cases h
    | some l =>
      rw [h9] at h
      cases hq : rowsI q with
      | none => rw [hq] at h; cases h
      | some ls =>
        rw [hq] at h
        have h : some (l :: ls) = some rows := h
        cases h
        obtain ⟨g1, g2⟩ := rowsI_len hq
        refine ⟨by rw [List.length_cons, List.length_cons, g1], fun x hx => ?_⟩
        rcases List.mem_cons.mp hx with rfl | hx
        · exact (row9_some.mp h9).2
        · exact g2 x hx
theorem rowsI_blank : ∀ {S : List (List Int)}, (∃ r ∈ S, (32 : Int) ∈ r) → rowsI S = none
  | [], h => by
    obtain ⟨r, hr, _⟩ := h
    cases hr
  | r :: q, h => by
    show (row9 r).bind (fun l => (rowsI q).map fun ls => l :: ls) = none
    obtain ⟨x, hx, h32⟩ := h
    rcases List.mem_cons.mp hx with rfl | hx
    · have : row9 x = none := by
        unfold row9
        rw [blank_none h32]
        rfl
      rw [this]
      rfl
    · rw [rowsI_blank ⟨x, hx, h32⟩]
      cases row9 r <;> rfl
/-! ### the board -/
theorem flat_get : ∀ {rows : List (List Cell)} {i c : Nat}, (∀ r ∈ rows, r.length = 9) → c < 9 → rows.flatten[9 * i + c]? = (rows[i]?).bind fun r => r[c]?
  | [], i, c, _, _ => by simp
  | r :: q, 0, c, h, hc => by
    have hr := h r List.mem_cons_self
    rw [List.flatten_cons, List.getElem?_append_left (by omega)]
    simp
  | r :: q, i + 1, c, h, hc => by
    have hr := h r List.mem_cons_self
    rw [List.flatten_cons, List.getElem?_append_right (by omega), hr, show 9 * (i + 1) + c - 9 = 9 * i + c by omega, flat_get (fun x hx => h x (List.mem_cons_of_mem _ hx)) hc]
    rfl
theorem flat_len : ∀ {rows : List (List Cell)}, (∀ r ∈ rows, r.length = 9) → rows.flatten.length = 9 * rows.length
  | [], _ => rfl
  | r :: q, h => by
    rw [List.flatten_cons, List.length_append, flat_len (fun x hx => h x (List.mem_cons_of_mem _ hx)), h r List.mem_cons_self, List.length_cons]
    omega
theorem rel_rows {rows : List (List Cell)} (h1 : rows.length = 10) (h2 : ∀ r ∈ rows, r.length = 9) : Rel (bdUp rows 10 0) rows.flatten := by
  refine ⟨?_, by rw [flat_len h2, h1], fun c r hc hr => ?_⟩
  · unfold bdUp
    rw [List.length_map, List.length_range]
  · unfold bdUp
    rw [List.getElem?_map, List.getElem?_range (by omega), flat_get h2 hc]
    have e1 : (10 * c + r) % 10 = r := by omega
    have e2 : (10 * c + r) / 10 = c := by omega
    show some (if 9 - (10 * c + r) % 10 < 10 ∨ (9 - (10 * c + r) % 10 = 10 ∧ (10 * c + r) / 10 < 0) then ((rows[9 - (10 * c + r) % 10]?).bind fun x => x[(10 * c + r) / 10]?).join else none) = _
    rw [e1, e2, if_pos (by omega)]
    have hi : 9 - r < rows.length := by omega
    rw [List.getElem?_eq_getElem hi]
    have hl := h2 _ (List.getElem_mem hi)
    show some ((rows[9 - r][c]?).join) = rows[9 - r][c]?
    rw [List.getElem?_eq_getElem (by omega)]
    rfl
theorem bd_cells {bd : Bd} (hl : bd.length = 90) : bd = (List.range 90).map fun n => cell bd ((n : Nat) : Int) := by
  refine List.ext_getElem (by rw [List.length_map, List.length_range, hl]) fun n h1 h2 => ?_
  rw [List.getElem_map, List.getElem_range]
  unfold cell
  rw [Int.toNat_natCast, List.getElem?_eq_getElem h1]
  rfl
theorem one_count {bd : Bd} (hl : bd.length = 90) (red : Bool) : bd.countP (fun c => c == some ⟨red, .K⟩) = 1 ↔ OneK bd red := by
  have e : bd.countP (fun c => c == some ⟨red, .K⟩) = (List.range 90).countP fun (n : Nat) => cell bd (n : Int) == some ⟨red, .K⟩ := by
    conv => lhs; rw [bd_cells hl]
    rw [List.countP_map]
    rfl
  rw [e, countP_one]
  unfold OneK
  constructor
  · rintro ⟨g, h1, h2, h3⟩
    refine ⟨g, h1, fun n hn => ⟨fun hc => ?_, fun z => ?_⟩⟩
    · by_cases hng : n = g
      · exact hng
      · have := h3 n hn hng
        rw [hc] at this
        simp at this
    · rw [z]
      exact eq_of_beq h2
  · rintro ⟨g, h1, h2⟩
    refine ⟨g, h1, by rw [(h2 g h1).mpr rfl]; exact beq_self_eq_true _, fun j hj hne => ?_⟩
    exact beq_eq_false_iff_ne.mpr fun z => hne ((h2 j hj).mp z)
theorem kings_one {bd : Bd} {b : Board} (R : Rel bd b) (red : Bool) : (kings b red).length = 1 ↔ OneK bd red := by
  have hpt : ∀ i : Nat, i < 90 → onBoard (((i % 9 : Nat) : Int), ((i / 9 : Nat) : Int)) = true := by
    intro i hi
    rw [onBoard_iff]
    dsimp only
    omega
  have e : (kings b red).length = (List.range 90).countP fun (i : Nat) => at_ b (((i % 9 : Nat) : Int), ((i / 9 : Nat) : Int)) == some ⟨red, .K⟩ := by
    unfold kings points
    rw [← List.countP_eq_length_filter, List.countP_map]
    rfl
  rw [e, countP_one]
  unfold OneK
  have hn : ∀ i : Nat, i < 90 → at_ b (((i % 9 : Nat) : Int), ((i / 9 : Nat) : Int)) = cell bd (((i % 9) * 10 + (9 - i / 9) : Nat) : Int) := by
    intro i hi
    rw [R.at_n (hpt i hi)]
    unfold nOf
    dsimp only
    congr 1
    omega
  constructor
  · rintro ⟨i, h1, h2, h3⟩
    refine ⟨(i % 9) * 10 + (9 - i / 9), by omega, fun n hn' => ⟨fun hc => ?_, fun z => ?_⟩⟩
    · by_cases hng : (9 - n % 10) * 9 + n / 10 = i
      · omega
      · have := h3 ((9 - n % 10) * 9 + n / 10) (by omega) hng
        rw [hn _ (by omega), show ((9 - n % 10) * 9 + n / 10) % 9 * 10 + (9 - ((9 - n % 10) * 9 + n / 10) / 9) = n by omega, hc] at this
        simp at this
    · rw [z, ← hn i h1]
      exact eq_of_beq h2
  · rintro ⟨g, h1, h2⟩
    have eg : ((9 - g % 10) * 9 + g / 10) % 9 * 10 + (9 - ((9 - g % 10) * 9 + g / 10) / 9) = g := by omega
    refine ⟨(9 - g % 10) * 9 + g / 10, by omega, ?_, fun j hj hne => ?_⟩
    · rw [hn _ (by omega), eg, (h2 g h1).mpr rfl]
      exact beq_self_eq_true _
    · rw [hn j hj]
      refine beq_eq_false_iff_ne.mpr fun z => hne ?_
      have := (h2 _ (by omega)).mp z
      omega
theorem kings_pal {bd : Bd} {b : Board} (R : Rel bd b) {red : Bool} (h : OneK bd red) : (kings b red).all (palace red) = inPal red (gen bd red : Int) := by
  obtain ⟨g, hg, hgen, hu⟩ := h.gen R.l1
  have hg' : 0 ≤ (g : Int) ∧ (g : Int) < 90 := by omega
  rw [hgen, ← palace_pt red hg', Bool.eq_iff_iff, List.all_eq_true]
  unfold kings
  constructor
  · intro h
    refine h _ (List.mem_filter.mpr ⟨mem_points.mpr (ptOf_on hg'), ?_⟩)
    rw [R.at_pt hg', (hu g hg).mpr rfl]
    exact beq_self_eq_true _
  · intro h p hp
    rw [List.mem_filter] at hp
    have ho := mem_points.mp hp.1
    have hn := nOf_on ho
    have hk := eq_of_beq hp.2
    rw [R.at_n ho] at hk
    have : (nOf p).toNat = g := by
      refine (hu _ (by omega)).mp ?_
      rw [show ((nOf p).toNat : Int) = nOf p by omega]
      exact hk
    have e : p = ptOf (g : Int) := by
      rw [← ptOf_n ho]
      congr 1
      omega
    rw [e]
    exact h
theorem oneGen_iff {bd : Bd} {b : Board} (R : Rel bd b) (red : Bool) : oneGen bd red = true ↔ (kings b red).length = 1 ∧ (kings b red).all (palace red) = true := by
  unfold oneGen
  rw [Bool.and_eq_true, decide_eq_true_eq, one_count R.l1, kings_one R]
  constructor
  · rintro ⟨h1, h2⟩
    exact ⟨h1, by rw [kings_pal R h1]; exact h2⟩
  · rintro ⟨h1, h2⟩
    exact ⟨h1, by rw [← kings_pal R h1]; exact h2⟩
theorem goodK {b : Board} {red : Bool} (h : (kings b (!red)).all (palace (!red)) = true) : GoodK b red := by
  intro q hq
  have ho := at_on hq
  rw [List.all_eq_true] at h
  have := h q (by
    unfold kings
    rw [List.mem_filter]
    exact ⟨mem_points.mpr ho, by rw [hq]; exact beq_self_eq_true _⟩)
  unfold palace at this ⊢
  cases red
  · simp only [Bool.not_false, if_true, Bool.and_eq_true, decide_eq_true_eq, Bool.false_eq_true, if_false] at this ⊢
    refine Bool.eq_false_iff.mpr fun z => ?_
    simp only [Bool.and_eq_true, decide_eq_true_eq] at z
    omega
  · simp only [Bool.not_true, if_true, Bool.and_eq_true, decide_eq_true_eq, Bool.false_eq_true, if_false] at this ⊢
    refine Bool.eq_false_iff.mpr fun z => ?_
    simp only [Bool.and_eq_true, decide_eq_true_eq] at z
    omega
end Tr

namespace Tr
open Sn32 (Man Board Pt at_ onBoard palace points splitBy row manOf kings pos)
open Sn32Neutral (nats)
theorem readI_form (q : List Int) (y : Int) : readI (q ++ [32, y]) = (sideI y).bind fun b => (boardI q).bind fun bd => if oneGen bd true = true ∧ oneGen bd false = true then some (bd, b) else none := by
  unfold readI
  have hl : (q ++ [32, y]).length = q.length + 2 := by rw [List.length_append]; rfl
  have h1 : (q ++ [32, y])[q.length + 2 - 2]? = some 32 := by
    rw [List.getElem?_append_right (by omega), show q.length + 2 - 2 - q.length = 0 by omega]
    rfl
  have h2 : (q ++ [32, y]).getD (q.length + 2 - 1) 0 = y := by
    rw [List.getD_eq_getElem?_getD, List.getElem?_append_right (by omega), show q.length + 2 - 1 - q.length = 1 by omega]
    rfl
  have h3 : (q ++ [32, y]).take (q.length + 2 - 2) = q := by
    rw [show q.length + 2 - 2 = q.length by omega, List.take_left]
  rw [hl, h1, h2, h3, if_neg (by simp)]
theorem readI_shape {t : List Int} {x : Bd × Bool} (h : readI t = some x) : ∃ q y, t = q ++ [32, y] := by
  unfold readI at h
  split at h
  · cases h
  · rename_i hn
    have h2 : 2 ≤ t.length := by omega
    have h3 : t[t.length - 2]? = some 32 := by
      cases e : t[t.length - 2]? with
      | none =>
        rw [List.getElem?_eq_none_iff] at e
        omega
      | some z =>
        rw [e] at hn
        have : z = 32 := by
          by_cases hz : z = 32
          · exact hz
          · exact absurd (.inr (by simpa using hz)) hn
        rw [this]
    refine ⟨t.take (t.length - 2), t[t.length - 1], ?_⟩
    obtain ⟨hi, hv⟩ := List.getElem?_eq_some_iff.mp h3
    conv => lhs; rw [← List.take_append_drop (t.length - 2) t]
    congr 1
    rw [List.drop_eq_getElem_cons hi, hv, List.drop_eq_getElem_cons (by omega)]
    rw [List.drop_eq_nil_of_le (by omega)]
    congr 2
    congr 1
    omega
theorem nats_mem {q : List Int} {n : Nat} (hq : Bytes8 q) (h : n ∈ nats q) : (n : Int) ∈ q := by
  unfold nats at h
  obtain ⟨x, hx, he⟩ := List.mem_map.mp h
  have := hq x hx
  rw [← he, show ((x.toNat : Nat) : Int) = x by omega]
  exact hx
theorem split_bytes {q : List Int} (hq : Bytes8 q) : ∀ r ∈ splitI q [], Bytes8 r := by
  intro r hr x hx
  rcases split_mem hr hx with h | h
  · exact hq x h
  · cases h
theorem side_cases {y : Int} {b : Bool} (h : sideI y = some b) : (y = 119 ∧ b = true) ∨ (y = 98 ∧ b = false) := by
  unfold sideI at h
  split at h
  · cases h
    exact .inl ⟨by assumption, rfl⟩
  · split at h
    · cases h
      exact .inr ⟨by assumption, rfl⟩
    · cases h
/-- what a text that is read gives, by both -/
structure Both (p : Sn32.Pos) (bd : Bd) (b : Bool) : Prop where
  red : p.red = b
  rel : Rel bd p.board
  one : ∀ r, OneK bd r
  good : ∀ r, GoodK p.board r
theorem read_pos {t : List Int} (ht : Bytes8 t) {bd : Bd} {b : Bool} (h : readI t = some (bd, b)) : ∃ p, pos (nats t) = some p ∧ Both p bd b := by
  obtain ⟨q, y, rfl⟩ := readI_shape h
  have hq : Bytes8 q := fun x hx => ht x (List.mem_append.mpr (.inl hx))
  rw [readI_form] at h
  cases hs : sideI y with
  | none => rw [hs] at h; cases h
  | some b' =>
    rw [hs] at h
    have h : (boardI q).bind (fun bd => if oneGen bd true = true ∧ oneGen bd false = true then some (bd, b') else none) = some (bd, b) := h
    cases hb : boardI q with
    | none => rw [hb] at h; cases h
    | some bd' =>
      rw [hb] at h
      have h : (if oneGen bd' true = true ∧ oneGen bd' false = true then some (bd', b') else none) = some (bd, b) := h
      split at h
      · rename_i hg
        cases h
        unfold boardI at hb
        split at hb
        · rename_i h10
          cases hr : rowsI (splitI q []) with
          | none => rw [hr] at hb; cases hb
          | some rows =>
            rw [hr] at hb
            have hb : some (bdUp rows 10 0) = some bd := hb
            cases hb
            obtain ⟨l1, l2⟩ := rowsI_len hr
            rw [h10] at l1
            have R := rel_rows l1 l2
            have no32 : (32 : Nat) ∉ nats q := fun z => by
              have z := nats_mem hq z
              obtain ⟨r, h1, h2⟩ := split_has (x := 32) (by decide) (t := q) (w := []) (.inl z)
              rw [rowsI_blank ⟨r, h1, h2⟩] at hr
              cases hr
            obtain ⟨m1, m2⟩ := (rowsI_some (split_bytes hq)).mp hr
            rw [split_nats hq] at m1
            obtain ⟨k1, k2⟩ := (oneGen_iff R true).mp hg.1
            obtain ⟨k3, k4⟩ := (oneGen_iff R false).mp hg.2
            have hy := side_cases hs
            have hsp : splitBy 32 (nats (q ++ [32, y])) [] = [nats q, [y.toNat]] := by
              have : nats (q ++ [32, y]) = nats q ++ [32, y.toNat] := by
                unfold nats
                rw [List.map_append]
                rfl
              rw [this, splitBy_two no32 (by omega)]
              rfl
            refine ⟨⟨rows.flatten, y.toNat == 119⟩, ?_, ?_, R, fun r => ?_, fun r => ?_⟩
            · unfold pos
              rw [hsp]
              dsimp only
              rw [if_neg (by omega)]
              have m1 : (splitBy 47 (nats q) []).mapM (row false) = some rows := m1
              rw [m1]
              show (if rows.length = 10 ∧ _ then _ else none) = _
              rw [if_pos ⟨l1, m2, k1, k3, k2, k4⟩]
            · dsimp only
              rcases hy with ⟨rfl, rfl⟩ | ⟨rfl, rfl⟩ <;> rfl
            · cases r
              · exact (kings_one R false).mp k3
              · exact (kings_one R true).mp k1
            · cases r
              · exact goodK k2
              · exact goodK k4
        · cases hb
      · cases h
theorem pos_read {t : List Int} (ht : Bytes8 t) {p : Sn32.Pos} (h : pos (nats t) = some p) : ∃ x, readI t = some x := by
  unfold pos at h
  split at h
  · rename_i a s hsp
    split at h
    · cases h
    · rename_i hs
      obtain ⟨qn, e1, e2, e3, e4⟩ := splitBy_back hsp
      rw [List.nil_append] at e2
      subst e2
      unfold nats at e1
      obtain ⟨q, l2, rfl, f1, f2⟩ := List.map_eq_append_iff.mp e1
      obtain ⟨x, l3, rfl, f3, f4⟩ := List.map_eq_cons_iff.mp f2
      obtain ⟨y, l4, rfl, f5, f6⟩ := List.map_eq_cons_iff.mp f4
      have f7 : l4 = [] := List.map_eq_nil_iff.mp f6
      subst f7
      have hx := ht x (List.mem_append.mpr (.inr List.mem_cons_self))
      have hy := ht y (List.mem_append.mpr (.inr (List.mem_cons_of_mem _ List.mem_cons_self)))
      have hq : Bytes8 q := fun z hz => ht z (List.mem_append.mpr (.inl hz))
      have hx32 : x = 32 := by omega
      subst hx32
      rw [readI_form]
      have hqn : a = nats q := f1.symm
      subst hqn
      cases hm : (splitBy 47 (nats q) []).mapM (row false) with
      | none => rw [hm] at h; cases h
      | some rows =>
        rw [hm] at h
        have h : (if rows.length = 10 ∧ rows.all (fun r => r.length == 9) = true ∧ (kings rows.flatten true).length = 1 ∧ (kings rows.flatten false).length = 1 ∧ (kings rows.flatten true).all (palace true) = true ∧ (kings rows.flatten false).all (palace false) = true then some (Sn32.Pos.mk rows.flatten (s == 119)) else none) = some p := h
        split at h
        · rename_i hc
          obtain ⟨c1, c2, c3, c4, c5, c6⟩ := hc
          have hr : rowsI (splitI q []) = some rows := (rowsI_some (split_bytes hq)).mpr ⟨by rw [split_nats hq]; exact hm, c2⟩
          obtain ⟨l1, l2⟩ := rowsI_len hr
          have R := rel_rows c1 l2
          have hb : boardI q = some (bdUp rows 10 0) := by
            unfold boardI
            rw [if_pos (by omega), hr]
            rfl
          have hsd : ∃ b, sideI y = some b := by
            unfold sideI
            by_cases h1 : y = 119
            · exact ⟨true, by rw [if_pos h1]⟩
            · refine ⟨false, ?_⟩
              rw [if_neg h1, if_pos (by omega)]
          obtain ⟨b, hb2⟩ := hsd
          refine ⟨(bdUp rows 10 0, b), ?_⟩
          rw [hb2, hb]
          show (if _ then _ else none) = _
          rw [if_pos ⟨(oneGen_iff R true).mpr ⟨c3, c5⟩, (oneGen_iff R false).mpr ⟨c4, c6⟩⟩]
        · cases h
  · cases h
theorem mirror_moves (k most : Int) (t : List Int) (hb : Bytes8 t) (hl : t.length ≤ 256) : PySn32.moves k most t = movesI most t := by
  have e0 : PySn32.moves k most t = (Sn32Neutral.does (.moves (nats t) (t.length : Int) most)).value :: Sn32Neutral.ints (Sn32Neutral.does (.moves (nats t) (t.length : Int) most)).out := rfl
  rw [e0]
  have hn : Sn32.sizeOk (t.length : Int) = true := by
    unfold Sn32.sizeOk Sn32.MOST
    rw [Bool.and_eq_true, decide_eq_true_eq, decide_eq_true_eq]
    omega
  have hroom : Sn32.roomOk most = true ↔ 0 ≤ most ∧ most ≤ 65536 := by
    unfold Sn32.roomOk Sn32.MOSTROOM
    rw [Bool.and_eq_true, decide_eq_true_eq, decide_eq_true_eq]
    omega
  unfold movesI Sn32Neutral.does
  dsimp only
  by_cases hm : 0 ≤ most ∧ most ≤ 65536
  · rw [if_pos hm, if_neg (by rw [hn, hroom.mpr hm]; simp)]
    cases hp : pos (nats t) with
    | none =>
      cases hr : readI t with
      | none => rfl
      | some x =>
        obtain ⟨p, h1, _⟩ := read_pos hb (bd := x.1) (b := x.2) hr
        rw [hp] at h1
        cases h1
    | some p =>
      obtain ⟨⟨bd, b⟩, hr⟩ := pos_read hb hp
      obtain ⟨p', h1, B⟩ := read_pos hb hr
      rw [hp] at h1
      cases h1
      rw [hr]
      dsimp only
      obtain ⟨pb, pr⟩ := p
      have hred : pr = b := B.red
      subst hred
      have L := lines_eq (B.rel) (B.one pr) (B.good pr)
      dsimp only at L
      unfold Sn32.put
      dsimp only
      generalize ((if Sn32.checked pb pr = true then [43, 10] else [45, 10]) ++ (Sn32.moves ⟨pb, pr⟩).flatMap fun m => Sn32.moveText m ++ [10]) = TX at L ⊢
      have hlen : ((TX.length : Nat) : Int) = ((linesOf bd pr).length : Int) := by
        rw [← L, List.length_map]
      rw [← hlen]
      by_cases hlt : most < ((TX.length : Nat) : Int)
      · rw [if_pos hlt, if_pos hlt]
        rfl
      · rw [if_neg hlt, if_neg hlt, ← L]
        rfl
  · rw [if_neg hm, if_pos (.inr (by
      cases hq : Sn32.roomOk most with
      | false => rfl
      | true => exact absurd (hroom.mp hq) hm))]
    rfl
end Tr

namespace Tr
open Sn32 (Man Board Pt at_ free onBoard palace reach points steps moved checked less moveText)
/-! ### positions behind moves: at most one general a side; where both stand, each in its palace -/
structure PIv (bd : Bd) : Prop where
  len : bd.length = 90
  one : ∀ (red : Bool) (i j : Int), 0 ≤ i ∧ i < 90 → 0 ≤ j ∧ j < 90 → cell bd i = some ⟨red, .K⟩ → cell bd j = some ⟨red, .K⟩ → i = j
  pal : ∀ (red : Bool) (i j : Int), 0 ≤ i ∧ i < 90 → 0 ≤ j ∧ j < 90 → cell bd i = some ⟨red, .K⟩ → cell bd j = some ⟨!red, .K⟩ → inPal red i = true
theorem cell_afterI {bd : Bd} {s e : Int} (hl : bd.length = 90) (hs : 0 ≤ s ∧ s < 90) (he : 0 ≤ e ∧ e < 90) {n : Int} (hn : 0 ≤ n ∧ n < 90) : cell (after bd s e) n = if n = s then none else if n = e then cell bd s else cell bd n := by
  obtain ⟨k, rfl⟩ : ∃ k : Nat, n = (k : Int) := ⟨n.toNat, by omega⟩
  exact cell_after hl hs he (by omega)
theorem PIv.after {bd : Bd} (P : PIv bd) {s e : Int} (hs : 0 ≤ s ∧ s < 90) (he : 0 ≤ e ∧ e < 90) (hc : couldAt bd s e = true) : PIv (after bd s e) := by
  obtain ⟨hl, one, pal⟩ := P
  have hm : ∃ m : Man, cell bd s = some m ∧ stands (cell bd e) m.red = false ∧ goes bd m s e = true := by
    unfold couldAt at hc
    cases hm : cell bd s with
    | none => rw [hm] at hc; cases hc
    | some m =>
      rw [hm] at hc
      have hc : could bd m s e = true := hc
      unfold could at hc
      split at hc
      · cases hc
      · rename_i h
        exact ⟨m, rfl, Bool.eq_false_iff.mpr h, hc⟩
  obtain ⟨m, hm, hne, hgo⟩ := hm
  have hse : s ≠ e := by
    intro z
    rw [← z, hm] at hne
    simp [stands] at hne
  refine ⟨(by unfold Tr.after; rw [List.length_set, List.length_set]; exact hl), ?_, ?_⟩
  · intro red i j hi hj h1 h2
    rw [cell_afterI hl hs he hi] at h1
    rw [cell_afterI hl hs he hj] at h2
    by_cases a1 : i = s
    · rw [if_pos a1] at h1; cases h1
    · by_cases a2 : j = s
      · rw [if_pos a2] at h2; cases h2
      · rw [if_neg a1] at h1
        rw [if_neg a2] at h2
        by_cases b1 : i = e
        · by_cases b2 : j = e
          · omega
          · rw [if_pos b1] at h1
            rw [if_neg b2] at h2
            exact absurd (one red j s hj hs h2 h1) a2
        · by_cases b2 : j = e
          · rw [if_neg b1] at h1
            rw [if_pos b2] at h2
            exact absurd (one red i s hi hs h1 h2) a1
          · rw [if_neg b1] at h1
            rw [if_neg b2] at h2
            exact one red i j hi hj h1 h2
  · intro red i j hi hj h1 h2
    rw [cell_afterI hl hs he hi] at h1
    rw [cell_afterI hl hs he hj] at h2
    by_cases a1 : i = s
    · rw [if_pos a1] at h1; cases h1
    · by_cases a2 : j = s
      · rw [if_pos a2] at h2; cases h2
      · rw [if_neg a1] at h1
        rw [if_neg a2] at h2
        by_cases b1 : i = e
        · have b2 : j ≠ e := by
            intro z
            rw [if_pos b1] at h1
            rw [if_pos z, h1] at h2
            injection h2 with h2
            injection h2 with h2
            cases red <;> cases h2
          rw [if_pos b1] at h1
          rw [if_neg b2] at h2
          rw [hm] at h1
          cases h1
          have hk : goK bd red s e = true := hgo
          unfold goK at hk
          rw [b1]
          split at hk
          · rename_i hh
            exact hh.2
          · split at hk
            · rename_i hh
              exact absurd (one (!red) j e hj he h2 hh) b2
            · cases hk
        · rw [if_neg b1] at h1
          by_cases b2 : j = e
          · rw [if_pos b2] at h2
            exact pal red i s hi hs h1 h2
          · rw [if_neg b2] at h2
            exact pal red i j hi hj h1 h2
theorem PIv.goodK {bd : Bd} {b : Board} (P : PIv bd) (R : Rel bd b) {red : Bool} {p : Pt} (hp : at_ b p = some ⟨red, .K⟩) : GoodK b red := by
  intro q hq
  have o1 := at_on hp
  have o2 := at_on hq
  have n1 := nOf_on o1
  have n2 := nOf_on o2
  rw [R.at_n o1] at hp
  rw [R.at_n o2] at hq
  have h1 := P.pal (!red) (nOf q) (nOf p) n2 n1 hq (by rw [Bool.not_not]; exact hp)
  rw [← palace_pt (!red) n2, ptOf_n o2] at h1
  unfold palace at h1 ⊢
  cases red
  · simp only [Bool.not_false, if_true, Bool.and_eq_true, decide_eq_true_eq, Bool.false_eq_true, if_false] at h1 ⊢
    refine Bool.eq_false_iff.mpr fun z => ?_
    simp only [Bool.and_eq_true, decide_eq_true_eq] at z
    omega
  · simp only [Bool.not_true, if_true, Bool.and_eq_true, decide_eq_true_eq, Bool.false_eq_true, if_false] at h1 ⊢
    refine Bool.eq_false_iff.mpr fun z => ?_
    simp only [Bool.and_eq_true, decide_eq_true_eq] at z
    omega
theorem steps_nodupP {bd : Bd} {b : Board} (P : PIv bd) (R : Rel bd b) (red : Bool) : (steps b red).Nodup := by
  rw [steps_eq]
  unfold List.Nodup
  rw [List.pairwise_flatMap]
  constructor
  · intro p _
    unfold from1
    cases h : at_ b p with
    | none => exact List.Pairwise.nil
    | some m =>
      dsimp only
      by_cases hr : m.red = red
      · rw [if_pos hr]
        refine nodup_map (fun a b e => (Prod.mk.inj e).2) (List.Pairwise.filter _ ?_)
        obtain ⟨r, k⟩ := m
        cases k
        · exact nodupK (P.goodK R h)
        · exact nodupA
        · exact nodupB
        · exact nodupN
        · exact nodupR
        · exact nodupC
        · exact nodupP
      · rw [if_neg hr]
        exact List.Pairwise.nil
  · refine List.Pairwise.imp ?_ points_nodup
    intro p p' hne x hx y hy e
    rw [mem_from1] at hx hy
    rw [e] at hx
    exact hne (hx.1.symm.trans hy.1)
/-! ### any general of the side is reached: a board without one as well -/
def reachedA (bd : Bd) (red : Bool) : Bool := (List.range 90).any fun (i : Nat) => stands (cell bd (i : Int)) (!red) && (List.range 90).any fun (g : Nat) => (cell bd (g : Int) == some ⟨red, .K⟩) && couldAt bd (i : Int) (g : Int)
theorem checked_eqA {bd : Bd} {b : Board} (R : Rel bd b) (red : Bool) : checked b red = reachedA bd red := by
  unfold checked reachedA
  rw [Bool.eq_iff_iff, List.any_eq_true, List.any_eq_true]
  constructor
  · rintro ⟨x, hx, hk⟩
    obtain ⟨o1, o2⟩ := steps_on hx
    have hk := eq_of_beq hk
    have n1 := nOf_on o1
    have n2 := nOf_on o2
    rw [R.at_n o2] at hk
    have hx' : (ptOf (nOf x.1), ptOf (nOf x.2)) ∈ steps b !red := by
      rw [ptOf_n o1, ptOf_n o2]
      exact hx
    rw [step_iff R n1 n2] at hx'
    refine ⟨(nOf x.1).toNat, List.mem_range.mpr (by omega), ?_⟩
    rw [show ((nOf x.1).toNat : Int) = nOf x.1 by omega, hx'.1, Bool.true_and, List.any_eq_true]
    refine ⟨(nOf x.2).toNat, List.mem_range.mpr (by omega), ?_⟩
    rw [show ((nOf x.2).toNat : Int) = nOf x.2 by omega, hk, hx'.2]
    simp
  · rintro ⟨i, hi, h⟩
    rw [List.mem_range] at hi
    rw [Bool.and_eq_true, List.any_eq_true] at h
    obtain ⟨h1, g, hg, h2⟩ := h
    rw [List.mem_range] at hg
    rw [Bool.and_eq_true] at h2
    have hi' : 0 ≤ (i : Int) ∧ (i : Int) < 90 := by omega
    have hg' : 0 ≤ (g : Int) ∧ (g : Int) < 90 := by omega
    refine ⟨(ptOf (i : Int), ptOf (g : Int)), (step_iff R hi' hg').mpr ⟨h1, h2.2⟩, ?_⟩
    dsimp only
    rw [R.at_pt hg']
    exact h2.1
def mayMoveA (bd : Bd) (b : Bool) (s e : Int) : Bool := if couldAt bd s e = true then !reachedA (after bd s e) b else false
def movesFromA (bd : Bd) (b : Bool) (s : Int) : List (Int × Int) := ((List.range 90).filter fun (e : Nat) => mayMoveA bd b s (e : Int)).map fun (e : Nat) => (s, (e : Int))
def allMovesA (bd : Bd) (b : Bool) : List (Int × Int) := (List.range 90).flatMap fun (s : Nat) => if stands (cell bd (s : Int)) b = true then movesFromA bd b (s : Int) else []
theorem mem_allMovesA {bd : Bd} {b : Bool} {m : Int × Int} : m ∈ allMovesA bd b ↔ (0 ≤ m.1 ∧ m.1 < 90) ∧ (0 ≤ m.2 ∧ m.2 < 90) ∧ stands (cell bd m.1) b = true ∧ mayMoveA bd b m.1 m.2 = true := by
  unfold allMovesA
  rw [List.mem_flatMap]
  constructor
  · rintro ⟨s, hs, h⟩
    rw [List.mem_range] at hs
    split at h
    · rename_i h1
      unfold movesFromA at h
      rw [List.mem_map] at h
      obtain ⟨e, he, rfl⟩ := h
      rw [List.mem_filter, List.mem_range] at he
      exact ⟨⟨by dsimp only; omega, by dsimp only; omega⟩, ⟨by dsimp only; omega, by dsimp only; omega⟩, h1, he.2⟩
    · cases h
  · rintro ⟨h1, h2, h3, h4⟩
    obtain ⟨s, e⟩ := m
    dsimp only at *
    have e1 : ((s.toNat : Nat) : Int) = s := by omega
    have e2 : ((e.toNat : Nat) : Int) = e := by omega
    refine ⟨s.toNat, List.mem_range.mpr (by omega), ?_⟩
    rw [e1, if_pos h3]
    unfold movesFromA
    rw [List.mem_map]
    refine ⟨e.toNat, List.mem_filter.mpr ⟨List.mem_range.mpr (by omega), ?_⟩, by rw [e2]⟩
    rw [e2]
    exact h4
theorem allMovesA_sorted (bd : Bd) (b : Bool) : ((allMovesA bd b).map toM).Pairwise (fun a b => key a < key b) := by
  rw [List.pairwise_map]
  unfold allMovesA
  rw [List.pairwise_flatMap]
  constructor
  · intro s hs
    split
    · unfold movesFromA
      rw [List.pairwise_map]
      refine List.Pairwise.filter _ (List.Pairwise.imp ?_ List.pairwise_lt_range)
      intro x y h
      rw [key_toM, key_toM]
      dsimp only
      omega
    · exact List.Pairwise.nil
  · refine List.Pairwise.imp ?_ List.pairwise_lt_range
    intro s s' h x hx y hy
    have hx' : x.1 = (s : Int) ∧ 0 ≤ x.2 ∧ x.2 < 90 := by
      split at hx
      · unfold movesFromA at hx
        rw [List.mem_map] at hx
        obtain ⟨e, he, rfl⟩ := hx
        rw [List.mem_filter, List.mem_range] at he
        dsimp only
        omega
      · cases hx
    have hy' : y.1 = (s' : Int) ∧ 0 ≤ y.2 ∧ y.2 < 90 := by
      split at hy
      · unfold movesFromA at hy
        rw [List.mem_map] at hy
        obtain ⟨e, he, rfl⟩ := hy
        rw [List.mem_filter, List.mem_range] at he
        dsimp only
        omega
      · cases hy
    rw [key_toM, key_toM]
    omega
theorem moves_eqA {bd : Bd} {b : Board} (P : PIv bd) (R : Rel bd b) (red : Bool) : Sn32.moves ⟨b, red⟩ = (allMovesA bd red).map toM := by
  unfold Sn32.moves
  dsimp only
  refine sorted_eq (f := key) (fold_sorted (List.Pairwise.filter _ (steps_nodupP P R red)) (fun x hx => steps_on (List.mem_filter.mp hx).1) (fun x hx => by cases hx) (fun x _ hx => by cases hx) List.Pairwise.nil) (allMovesA_sorted bd red) fun x => ?_
  rw [fold_mem, List.mem_filter, List.mem_map]
  constructor
  · rintro (⟨hx, hc⟩ | hx)
    · obtain ⟨o1, o2⟩ := steps_on hx
      have n1 := nOf_on o1
      have n2 := nOf_on o2
      have ex : (ptOf (nOf x.1), ptOf (nOf x.2)) = x := by rw [ptOf_n o1, ptOf_n o2]
      rw [← ex] at hx hc
      rw [step_iff R n1 n2] at hx
      refine ⟨(nOf x.1, nOf x.2), mem_allMovesA.mpr ⟨n1, n2, hx.1, ?_⟩, ex⟩
      dsimp only
      unfold mayMoveA
      rw [if_pos hx.2, ← checked_eqA (R.after n1 n2) red]
      exact hc
    · cases hx
  · rintro ⟨m, hm, rfl⟩
    rw [mem_allMovesA] at hm
    obtain ⟨n1, n2, hs, hmm⟩ := hm
    unfold mayMoveA at hmm
    split at hmm
    · rename_i hc
      rw [← checked_eqA (R.after n1 n2) red] at hmm
      exact .inl ⟨(step_iff R n1 n2).mpr ⟨hs, hc⟩, hmm⟩
    · cases hmm
/-- what a move of the list leaves keeps the invariant -/
theorem PIv.move {bd : Bd} (P : PIv bd) {red : Bool} {m : Int × Int} (h : m ∈ allMovesA bd red) : PIv (Tr.after bd m.1 m.2) := by
  obtain ⟨h1, h2, h3, h4⟩ := mem_allMovesA.mp h
  unfold mayMoveA at h4
  split at h4
  · rename_i hc
    exact P.after h1 h2 hc
  · cases h4
theorem Rel.move {bd : Bd} {b : Board} (R : Rel bd b) {red : Bool} {m : Int × Int} (h : m ∈ allMovesA bd red) : Rel (Tr.after bd m.1 m.2) (moved b (toM m)) := by
  obtain ⟨h1, h2, _⟩ := mem_allMovesA.mp h
  exact R.after h1 h2
/-! ### ways, and wins -/
def countA : Nat → Bd → Bool → Nat
  | 0, _, _ => 1
  | n + 1, bd, red => ((allMovesA bd red).map fun m => countA n (after bd m.1 m.2) (!red)).sum
theorem counted_eq : ∀ (n : Nat) {bd : Bd} {b : Board} (P : PIv bd) (R : Rel bd b) (red : Bool), Sn32.counted n ⟨b, red⟩ = countA n bd red
  | 0, _, _, _, _, _ => rfl
  | n + 1, bd, b, P, R, red => by
    show ((Sn32.moves ⟨b, red⟩).map fun m => Sn32.counted n (Sn32.play ⟨b, red⟩ m)).sum = ((allMovesA bd red).map fun m => countA n (after bd m.1 m.2) (!red)).sum
    rw [moves_eqA P R red, List.map_map]
    congr 1
    refine List.map_congr_left fun m hm => ?_
    exact counted_eq n (P.move hm) (R.move hm) (!red)
def winsA : Nat → Bd → Bool → Bool
  | 0, _, _ => false
  | n + 1, bd, red => (allMovesA bd red).any fun m => (allMovesA (after bd m.1 m.2) (!red)).all fun r => winsA n (after (after bd m.1 m.2) r.1 r.2) red
theorem any_congr {α : Type} {l : List α} {f g : α → Bool} (h : ∀ x ∈ l, f x = g x) : l.any f = l.any g := by
  induction l with
  | nil => rfl
  | cons x r ih => rw [List.any_cons, List.any_cons, h x List.mem_cons_self, ih fun y hy => h y (List.mem_cons_of_mem _ hy)]
theorem all_congr {α : Type} {l : List α} {f g : α → Bool} (h : ∀ x ∈ l, f x = g x) : l.all f = l.all g := by
  induction l with
  | nil => rfl
  | cons x r ih => rw [List.all_cons, List.all_cons, h x List.mem_cons_self, ih fun y hy => h y (List.mem_cons_of_mem _ hy)]
theorem find_congr {α : Type} {l : List α} {f g : α → Bool} (h : ∀ x ∈ l, f x = g x) : l.find? f = l.find? g := by
  induction l with
  | nil => rfl
  | cons x r ih => rw [List.find?_cons, List.find?_cons, h x List.mem_cons_self, ih fun y hy => h y (List.mem_cons_of_mem _ hy)]
theorem wins_eq : ∀ (n : Nat) {bd : Bd} {b : Board} (P : PIv bd) (R : Rel bd b) (red : Bool), Sn32.wins n ⟨b, red⟩ = winsA n bd red
  | 0, _, _, _, _, _ => rfl
  | n + 1, bd, b, P, R, red => by
    show ((Sn32.moves ⟨b, red⟩).any fun m => (Sn32.moves (Sn32.play ⟨b, red⟩ m)).all fun r => Sn32.wins n (Sn32.play (Sn32.play ⟨b, red⟩ m) r)) = _
    rw [moves_eqA P R red, List.any_map]
    refine any_congr fun m hm => ?_
    show ((Sn32.moves ⟨moved b (toM m), !red⟩).all fun r => Sn32.wins n ⟨moved (moved b (toM m)) r, !(!red)⟩) = _
    rw [moves_eqA (P.move hm) (R.move hm) (!red), List.all_map]
    refine all_congr fun r hr => ?_
    show Sn32.wins n ⟨moved (moved b (toM m)) (toM r), !(!red)⟩ = _
    rw [Bool.not_not]
    exact wins_eq n ((P.move hm).move hr) ((R.move hm).move hr) red
/-- a move that wins in so many more moves -/
def doesA (n : Nat) (bd : Bd) (red : Bool) (m : Int × Int) : Bool := (allMovesA (after bd m.1 m.2) (!red)).all fun r => winsA n (after (after bd m.1 m.2) r.1 r.2) red
def winA (bd : Bd) (red : Bool) (most : Nat) : Option (Nat × (Int × Int)) := ((List.range most).find? fun k => winsA (k + 1) bd red).bind fun k => ((allMovesA bd red).find? fun m => doesA k bd red m).map fun m => (k + 1, m)
theorem win_eq {bd : Bd} {b : Board} (P : PIv bd) (R : Rel bd b) (red : Bool) (most : Nat) : Sn32.win ⟨b, red⟩ most = (winA bd red most).map fun x => (x.1, toM x.2) := by
  show ((List.range most).find? fun k => Sn32.wins (k + 1) ⟨b, red⟩).bind (fun k => ((Sn32.moves ⟨b, red⟩).find? fun m => (Sn32.moves (Sn32.play ⟨b, red⟩ m)).all fun r => Sn32.wins k (Sn32.play (Sn32.play ⟨b, red⟩ m) r)).map fun m => (k + 1, m)) = _
  unfold winA
  rw [find_congr (g := fun k => winsA (k + 1) bd red) (fun k _ => wins_eq (k + 1) P R red)]
  cases (List.range most).find? fun k => winsA (k + 1) bd red with
  | none => rfl
  | some k =>
    show ((Sn32.moves ⟨b, red⟩).find? _).map _ = (((allMovesA bd red).find? fun m => doesA k bd red m).map fun m => (k + 1, m)).map fun x => (x.1, toM x.2)
    rw [moves_eqA P R red, List.find?_map, Option.map_map, Option.map_map]
    congr 1
    refine find_congr fun m hm => ?_
    show ((Sn32.moves ⟨moved b (toM m), !red⟩).all fun r => Sn32.wins k ⟨moved (moved b (toM m)) r, !(!red)⟩) = _
    rw [moves_eqA (P.move hm) (R.move hm) (!red), List.all_map]
    refine all_congr fun r hr => ?_
    show Sn32.wins k ⟨moved (moved b (toM m)) (toM r), !(!red)⟩ = _
    rw [Bool.not_not]
    exact wins_eq k ((P.move hm).move hr) ((R.move hm).move hr) red
/-- a position that was read keeps the invariant -/
theorem piv_of {bd : Bd} {b : Board} (R : Rel bd b) (h1 : ∀ r, OneK bd r) (h2 : ∀ r, oneGen bd r = true) : PIv bd := by
  have uniq : ∀ (red : Bool) (i : Int), 0 ≤ i ∧ i < 90 → cell bd i = some ⟨red, .K⟩ → i = (gen bd red : Int) := by
    intro red i hi hc
    obtain ⟨g, hg, hgen, hu⟩ := (h1 red).gen R.l1
    have := (hu i.toNat (by omega)).mp (by rw [show ((i.toNat : Nat) : Int) = i by omega]; exact hc)
    omega
  refine ⟨R.l1, fun red i j hi hj a c => ?_, fun red i j hi hj a c => ?_⟩
  · rw [uniq red i hi a, uniq red j hj c]
  · rw [uniq red i hi a]
    have := h2 red
    unfold oneGen at this
    rw [Bool.and_eq_true] at this
    exact this.2
end Tr

namespace Tr
open Sn32 (Man Board Pt at_ onBoard moved moveText rowText letterOf)
open Sn32Neutral (nats)
/-! ### a move by its name; a board's text -/
theorem name4 {m : Int × Int} (h1 : 0 ≤ m.1 ∧ m.1 < 90) (h2 : 0 ≤ m.2 ∧ m.2 < 90) : Sn32Neutral.ints (moveText (toM m)) = nameOf m.1 ++ nameOf m.2 := by
  have h := name_eq h1 h2
  unfold nameMove at h
  rw [List.map_append] at h
  exact List.append_cancel_right h
theorem ints_inj {a b : List Nat} (h : Sn32Neutral.ints a = Sn32Neutral.ints b) : a = b := by
  unfold Sn32Neutral.ints at h
  have e := congrArg (List.map Int.toNat) h
  rw [List.map_map, List.map_map] at e
  have i : (Int.toNat ∘ fun (x : Nat) => (x : Int)) = id := funext fun x => Int.toNat_natCast x
  rw [i, List.map_id, List.map_id] at e
  exact e
theorem ints_nats {t : List Int} (h : Bytes8 t) : Sn32Neutral.ints (nats t) = t := by
  unfold Sn32Neutral.ints nats
  rw [List.map_map]
  conv => rhs; rw [← List.map_id t]
  refine List.map_congr_left fun x hx => ?_
  have := h x hx
  show ((x.toNat : Nat) : Int) = x
  omega
theorem moveOf_eq {bd : Bd} {b : Board} (P : PIv bd) (R : Rel bd b) (red : Bool) {t : List Int} (ht : Bytes8 t) : Sn32.moveOf ⟨b, red⟩ (nats t) = ((allMovesA bd red).find? fun m => decide (nameOf m.1 ++ nameOf m.2 = t)).map toM := by
  unfold Sn32.moveOf
  rw [moves_eqA P R red, List.find?_map]
  congr 1
  refine find_congr fun m hm => ?_
  obtain ⟨h1, h2, _⟩ := mem_allMovesA.mp hm
  show (moveText (toM m) == nats t) = _
  rw [Bool.eq_iff_iff, beq_iff_eq, decide_eq_true_eq, ← name4 h1 h2]
  constructor
  · intro h
    rw [h, ints_nats ht]
  · intro h
    refine ints_inj ?_
    rw [h, ints_nats ht]
theorem row_cells {bd : Bd} {b : Board} (R : Rel bd b) {y : Nat} (hy : y < 10) : (b.drop (9 * y)).take 9 = (List.range 9).map fun (c : Nat) => cell bd ((10 * c + (9 - y) : Nat) : Int) := by
  have l1 := R.l1
  have l2 := R.l2
  refine List.ext_getElem? fun c => ?_
  by_cases hc : c < 9
  · rw [List.getElem?_take, if_pos hc, List.getElem?_drop, List.getElem?_map, List.getElem?_range hc]
    have e := R.eq c (9 - y) hc (by omega)
    rw [show 9 - (9 - y) = y by omega] at e
    rw [← e]
    show _ = some (cell bd ((10 * c + (9 - y) : Nat) : Int))
    unfold cell
    rw [Int.toNat_natCast, List.getElem?_eq_getElem (by omega)]
    rfl
  · rw [List.getElem?_eq_none (by rw [List.length_take]; omega), List.getElem?_eq_none (by rw [List.length_map, List.length_range]; omega)]
theorem rowText_eq : ∀ (k : Nat) (l : List Cell), Sn32Neutral.ints (rowText k l) = rowTextI k l
  | k, [] => by
    show Sn32Neutral.ints (if k = 0 then [] else [48 + k]) = if k = 0 then [] else [48 + (k : Int)]
    split
    · rfl
    · show [((48 + k : Nat) : Int)] = _
      rw [show ((48 + k : Nat) : Int) = 48 + (k : Int) by omega]
  | k, none :: r => rowText_eq (k + 1) r
  | k, some m :: r => by
    show Sn32Neutral.ints ((if k = 0 then [] else [48 + k]) ++ (letterOf m :: rowText 0 r)) = (if k = 0 then [] else [48 + (k : Int)]) ++ (charI m :: rowTextI 0 r)
    unfold Sn32Neutral.ints
    rw [List.map_append, List.map_cons]
    have e : List.map (fun (x : Nat) => (x : Int)) (if k = 0 then [] else [48 + k]) = if k = 0 then [] else [48 + (k : Int)] := by
      split
      · rfl
      · show [((48 + k : Nat) : Int)] = _
        rw [show ((48 + k : Nat) : Int) = 48 + (k : Int) by omega]
    rw [e]
    congr 2
    exact rowText_eq 0 r
theorem ints_app (a b : List Nat) : Sn32Neutral.ints (a ++ b) = Sn32Neutral.ints a ++ Sn32Neutral.ints b := by
  unfold Sn32Neutral.ints
  rw [List.map_append]
theorem ints_flat (l : List (List Nat)) : Sn32Neutral.ints l.flatten = (l.map Sn32Neutral.ints).flatten := by
  unfold Sn32Neutral.ints
  rw [List.map_flatten]
theorem ints_inter (sep : List Nat) (l : List (List Nat)) : Sn32Neutral.ints (List.intercalate sep l) = List.intercalate (Sn32Neutral.ints sep) (l.map Sn32Neutral.ints) := by
  unfold List.intercalate
  rw [ints_flat]
  congr 1
  induction l with
  | nil => rfl
  | cons x r ih =>
    cases r with
    | nil => rfl
    | cons y q =>
      show Sn32Neutral.ints x :: Sn32Neutral.ints sep :: List.map Sn32Neutral.ints (List.intersperse sep (y :: q)) = Sn32Neutral.ints x :: Sn32Neutral.ints sep :: List.intersperse (Sn32Neutral.ints sep) (Sn32Neutral.ints y :: List.map Sn32Neutral.ints q)
      rw [ih]
      rfl
theorem text_is {bd : Bd} {b : Board} (R : Rel bd b) (red : Bool) : Sn32Neutral.ints (Sn32.text ⟨b, red⟩) = textI bd red := by
  unfold Sn32.text textI
  dsimp only
  rw [ints_app, ints_inter, List.map_map]
  congr 1
  · have e : (List.range 10).map (Sn32Neutral.ints ∘ fun y => rowText 0 ((b.drop (9 * y)).take 9)) = (List.range 10).map fun y => rowTextI 0 (rowCells bd y) := by
      refine List.map_congr_left fun y hy => ?_
      rw [List.mem_range] at hy
      show Sn32Neutral.ints (rowText 0 ((b.drop (9 * y)).take 9)) = _
      rw [row_cells R hy, rowText_eq]
      rfl
    rw [e]
    generalize hg : (fun y => rowTextI 0 (rowCells bd y)) = g
    have hr : ∀ n, rowTextI 0 (rowCells bd n) = g n := fun n => by rw [← hg]
    simp only [textRows, hr]
    show List.intercalate [47] [g 0, g 1, g 2, g 3, g 4, g 5, g 6, g 7, g 8, g 9] = _
    simp [List.intercalate, List.intersperse]
  · cases red <;> rfl
end Tr

namespace Tr
open Sn32 (Man Board Pt at_ onBoard moved moveText rowText letterOf pos)
open Sn32Neutral (nats)
/-! ### play -/
theorem moveOf_called {bd : Bd} {b : Board} (R : Rel bd b) {red : Bool} (h1 : OneK bd red) (hk : GoodK b red) {t : List Int} (ht : Bytes8 t) : Sn32.moveOf ⟨b, red⟩ (nats t) = (called bd red t).map toM := by
  unfold Sn32.moveOf called
  rw [moves_eq R h1 hk, List.find?_map]
  congr 1
  refine find_congr fun m hm => ?_
  obtain ⟨h1, h2, _⟩ := mem_allMoves.mp hm
  show (moveText (toM m) == nats t) = _
  unfold name2
  rw [Bool.eq_iff_iff, beq_iff_eq, decide_eq_true_eq, ← name4 h1 h2]
  constructor
  · intro h
    rw [h, ints_nats ht]
  · intro h
    refine ints_inj ?_
    rw [h, ints_nats ht]
theorem called_mem {bd : Bd} {b : Bool} {t : List Int} {m : Int × Int} (h : called bd b t = some m) : m ∈ allMoves bd b := List.mem_of_find?_eq_some h
theorem size_ok {n : Nat} (h : n ≤ 256) : Sn32.sizeOk (n : Int) = true := by
  unfold Sn32.sizeOk Sn32.MOST
  rw [Bool.and_eq_true, decide_eq_true_eq, decide_eq_true_eq]
  omega
theorem room_ok (most : Int) : Sn32.roomOk most = true ↔ 0 ≤ most ∧ most ≤ 65536 := by
  unfold Sn32.roomOk Sn32.MOSTROOM
  rw [Bool.and_eq_true, decide_eq_true_eq, decide_eq_true_eq]
  omega
theorem mirror_play (most : Int) (t mv : List Int) (hb : Bytes8 t) (hl : t.length ≤ 256) (hb2 : Bytes8 mv) (hl2 : mv.length ≤ 256) : PySn32.play most t mv = playI most t mv := by
  have e0 : PySn32.play most t mv = (Sn32Neutral.does (.play (nats t) (t.length : Int) (nats mv) (mv.length : Int) most)).value :: Sn32Neutral.ints (Sn32Neutral.does (.play (nats t) (t.length : Int) (nats mv) (mv.length : Int) most)).out := rfl
  rw [e0]
  have hn := size_ok hl
  have hn2 := size_ok hl2
  have hroom := room_ok most
  unfold playI Sn32Neutral.does
  dsimp only
  by_cases hm : 0 ≤ most ∧ most ≤ 65536
  · rw [if_pos hm, if_neg (by rw [hn, hn2, hroom.mpr hm]; simp)]
    cases hp : pos (nats t) with
    | none =>
      cases hr : readI t with
      | none => rfl
      | some x =>
        obtain ⟨p, h1, _⟩ := read_pos hb (bd := x.1) (b := x.2) hr
        rw [hp] at h1
        cases h1
    | some p =>
      obtain ⟨⟨bd, b⟩, hr⟩ := pos_read hb hp
      obtain ⟨p', h1, B⟩ := read_pos hb hr
      rw [hp] at h1
      cases h1
      rw [hr]
      dsimp only
      obtain ⟨pb, pr⟩ := p
      have hred : pr = b := B.red
      subst hred
      have M := moveOf_called (B.rel) (B.one pr) (B.good pr) hb2
      dsimp only at M
      rw [M]
      cases hc : called bd pr mv with
      | none => rfl
      | some m =>
        obtain ⟨h1, h2, _⟩ := mem_allMoves.mp (called_mem hc)
        have TX := text_is (Rel.after B.rel h1 h2) (!pr)
        show (Sn32.put most (Sn32.text ⟨moved pb (toM m), !pr⟩)).value :: Sn32Neutral.ints (Sn32.put most (Sn32.text ⟨moved pb (toM m), !pr⟩)).out = sizedI most (textI (after bd m.1 m.2) (!pr))
        rw [← TX]
        show (Sn32.put most (Sn32.text ⟨moved pb (toM m), !pr⟩)).value :: Sn32Neutral.ints (Sn32.put most (Sn32.text ⟨moved pb (toM m), !pr⟩)).out = sizedI most (Sn32Neutral.ints (Sn32.text ⟨moved pb (toM m), !pr⟩))
        generalize Sn32.text ⟨moved pb (toM m), !pr⟩ = Z
        unfold Sn32.put sizedI
        have hlen : ((Sn32Neutral.ints Z).length : Int) = (Z.length : Int) := by
          unfold Sn32Neutral.ints
          rw [List.length_map]
        rw [hlen]
        by_cases hlt : most < (Z.length : Int)
        · rw [if_pos hlt, if_pos hlt]
          rfl
        · rw [if_neg hlt, if_neg hlt]
  · rw [if_neg hm, if_pos (.inr (.inr (by
      cases hq : Sn32.roomOk most with
      | false => rfl
      | true => exact absurd (hroom.mp hq) hm)))]
    rfl
end Tr

namespace Tr
open Sn32 (Man Board Pt at_ onBoard moved moveText)
/-! ### a general that may be missing: found by the first place, where there is one -/
theorem gen_noneG {bd : Bd} {red : Bool} (hl : bd.length = 90) (h : ¬ ∃ g : Nat, g < 90 ∧ cell bd (g : Int) = some ⟨red, .K⟩) : ¬ gen bd red < 90 := by
  intro z
  refine h ⟨gen bd red, z, ?_⟩
  have hlt : gen bd red < bd.length := by omega
  unfold cell
  rw [Int.toNat_natCast, List.getElem?_eq_getElem hlt]
  unfold gen at *
  have e := List.findIdx_getElem (p := fun c : Cell => c == some ⟨red, .K⟩) (xs := bd) (w := hlt)
  exact eq_of_beq e
theorem PIv.oneK {bd : Bd} (P : PIv bd) {red : Bool} {g : Nat} (hg : g < 90) (hc : cell bd (g : Int) = some ⟨red, .K⟩) : OneK bd red := by
  refine ⟨g, hg, fun n hn => ⟨fun h => ?_, fun h => by rw [h]; exact hc⟩⟩
  have := P.one red (n : Int) (g : Int) (by omega) (by omega) h hc
  omega
theorem reachedA_gen {bd : Bd} (P : PIv bd) {red : Bool} (h : gen bd red < 90) : reachedA bd red = reached bd red := by
  by_cases hx : ∃ g : Nat, g < 90 ∧ cell bd (g : Int) = some ⟨red, .K⟩
  · obtain ⟨g0, hg0, hc0⟩ := hx
    obtain ⟨g, hg, hgen, hu⟩ := (P.oneK hg0 hc0).gen P.len
    unfold reachedA reached
    refine any_congr fun i _ => ?_
    congr 1
    rw [hgen, Bool.eq_iff_iff, List.any_eq_true]
    constructor
    · rintro ⟨x, hx, hy⟩
      rw [Bool.and_eq_true, beq_iff_eq] at hy
      have := (hu x (List.mem_range.mp hx)).mp hy.1
      rw [← this]
      exact hy.2
    · intro hc
      refine ⟨g, List.mem_range.mpr hg, ?_⟩
      rw [Bool.and_eq_true, beq_iff_eq]
      exact ⟨(hu g hg).mpr rfl, hc⟩
  · exact absurd h (gen_noneG P.len hx)
theorem reachedA_none {bd : Bd} (hl : bd.length = 90) {red : Bool} (h : ¬ gen bd red < 90) : reachedA bd red = false := by
  have hx : ¬ ∃ g : Nat, g < 90 ∧ cell bd (g : Int) = some ⟨red, .K⟩ := by
    rintro ⟨g, hg, hc⟩
    refine h ?_
    have hb : bd[g]? = some (some ⟨red, .K⟩) := by
      unfold cell at hc
      rw [Int.toNat_natCast, List.getElem?_eq_getElem (by omega)] at hc
      rw [List.getElem?_eq_getElem (by omega)]
      exact congrArg some hc
    have : gen bd red < bd.length := by
      unfold gen
      exact List.findIdx_lt_length_of_exists ⟨_, List.mem_of_getElem? hb, beq_self_eq_true _⟩
    omega
  refine Bool.eq_false_iff.mpr fun z => ?_
  obtain ⟨i, _, hi⟩ := List.any_eq_true.mp z
  rw [Bool.and_eq_true] at hi
  obtain ⟨g, hg, hg2⟩ := List.any_eq_true.mp hi.2
  rw [Bool.and_eq_true, beq_iff_eq] at hg2
  exact hx ⟨g, List.mem_range.mp hg, hg2.1⟩
theorem reachedG_eq {bd : Bd} (P : PIv bd) (red : Bool) : reachedG bd red = reachedA bd red := by
  unfold reachedG
  split
  · rename_i h
    exact (reachedA_gen P h).symm
  · rename_i h
    exact (reachedA_none P.len h).symm
theorem mayMoveG_eq {bd : Bd} (P : PIv bd) (red : Bool) {s e : Int} (hs : 0 ≤ s ∧ s < 90) (he : 0 ≤ e ∧ e < 90) : mayMoveG bd red s e = mayMoveA bd red s e := by
  unfold mayMoveG mayMoveA
  split
  · rename_i h
    rw [reachedG_eq (P.after hs he h) red]
  · rfl
theorem filter_congrG {α : Type} {l : List α} {f g : α → Bool} (h : ∀ x ∈ l, f x = g x) : l.filter f = l.filter g := by
  induction l with
  | nil => rfl
  | cons x r ih => rw [List.filter_cons, List.filter_cons, h x List.mem_cons_self, ih fun y hy => h y (List.mem_cons_of_mem _ hy)]
theorem movesFromG_eq {bd : Bd} (P : PIv bd) (red : Bool) {s : Int} (hs : 0 ≤ s ∧ s < 90) : movesFromG bd red s = movesFromA bd red s := by
  unfold movesFromG movesFromA
  congr 1
  refine filter_congrG fun e he => ?_
  have := List.mem_range.mp he
  exact mayMoveG_eq P red hs (by omega)
theorem flatMap_congrG {α β : Type} {l : List α} {f g : α → List β} (h : ∀ x ∈ l, f x = g x) : l.flatMap f = l.flatMap g := by
  induction l with
  | nil => rfl
  | cons x r ih => rw [List.flatMap_cons, List.flatMap_cons, h x List.mem_cons_self, ih fun y hy => h y (List.mem_cons_of_mem _ hy)]
theorem allMovesG_eq {bd : Bd} (P : PIv bd) (red : Bool) : allMovesG bd red = allMovesA bd red := by
  unfold allMovesG allMovesA
  refine flatMap_congrG fun s hs => ?_
  have := List.mem_range.mp hs
  split
  · exact movesFromG_eq P red (by omega)
  · rfl
end Tr

namespace Tr
open Sn32 (Man Board Pt at_ onBoard moved moveText pos)
open Sn32Neutral (nats)
/-! ### count and win over what is read; the moves of who has a general -/
theorem OneK.gen_lt90 {bd : Bd} {red : Bool} (hl : bd.length = 90) (h : OneK bd red) : Tr.gen bd red < 90 := by
  obtain ⟨g, hg, e, _⟩ := h.gen hl
  omega
theorem allMovesA_own {bd : Bd} (P : PIv bd) {red : Bool} (h1 : OneK bd red) : allMovesA bd red = allMoves bd red := by
  unfold allMovesA allMoves
  refine flatMap_congrG fun s hs => ?_
  have hs := List.mem_range.mp hs
  split
  · rename_i hst
    unfold movesFromA movesFrom
    congr 1
    refine filter_congrG fun e he => ?_
    have he := List.mem_range.mp he
    unfold mayMoveA mayMove
    split
    · rename_i hc
      have hs' : 0 ≤ (s : Int) ∧ (s : Int) < 90 := by omega
      have he' : 0 ≤ (e : Int) ∧ (e : Int) < 90 := by omega
      have P2 := P.after hs' he' hc
      rw [reachedA_gen P2 ((OneK.after P.len hs' he' h1 hst hc).gen_lt90 P2.len)]
    · rfl
  · rfl
theorem read_good {t : List Int} {bd : Bd} {b : Bool} (h : readI t = some (bd, b)) (r : Bool) : oneGen bd r = true := by
  unfold readI at h
  split at h
  · cases h
  · cases e1 : sideI (t.getD (t.length - 1) 0) with
    | none => rw [e1] at h; cases h
    | some sb =>
      rw [e1] at h
      cases e2 : boardI (t.take (t.length - 2)) with
      | none => rw [e2] at h; cases h
      | some bd' =>
        rw [e2] at h
        have h : (if oneGen bd' true = true ∧ oneGen bd' false = true then some (bd', sb) else none) = some (bd, b) := h
        split at h
        · rename_i h6
          cases h
          cases r
          · exact h6.2
          · exact h6.1
        · cases h
theorem read_piv {t : List Int} (ht : Bytes8 t) {bd : Bd} {b : Bool} (h : readI t = some (bd, b)) : PIv bd := by
  obtain ⟨p, _, B⟩ := read_pos ht h
  exact piv_of B.rel B.one (read_good h)
theorem read_moves {t : List Int} (ht : Bytes8 t) {bd : Bd} {b : Bool} (h : readI t = some (bd, b)) (r : Bool) : allMovesA bd r = allMoves bd r := by
  obtain ⟨p, _, B⟩ := read_pos ht h
  exact allMovesA_own (read_piv ht h) (B.one r)
def countI (depth : Int) (t : List Int) : List Int :=
  if 0 ≤ depth ∧ depth ≤ 5 then (match readI t with
    | none => [-3]
    | some (bd, b) => [(countA depth.toNat bd b : Nat)])
  else [-2]
def winI (most : Int) (t : List Int) : List Int :=
  if 1 ≤ most ∧ most ≤ 3 then (match readI t with
    | none => [-3]
    | some (bd, b) => match winA bd b most.toNat with
      | none => [0]
      | some x => (x.1 : Int) :: name2 x.2)
  else [-2]
theorem mirror_count (k depth : Int) (t : List Int) (hb : Bytes8 t) (hl : t.length ≤ 256) : PySn32.count k depth t = countI depth t := by
  have e0 : PySn32.count k depth t = (Sn32Neutral.does (.count (nats t) (t.length : Int) depth)).value :: Sn32Neutral.ints (Sn32Neutral.does (.count (nats t) (t.length : Int) depth)).out := rfl
  rw [e0]
  have hn := size_ok hl
  unfold countI Sn32Neutral.does
  dsimp only
  by_cases hm : 0 ≤ depth ∧ depth ≤ 5
  · rw [if_pos hm, if_neg (by rw [hn]; simp; omega)]
    cases hp : pos (nats t) with
    | none =>
      cases hr : readI t with
      | none => rfl
      | some x =>
        obtain ⟨p, h1, _⟩ := read_pos hb (bd := x.1) (b := x.2) hr
        rw [hp] at h1
        cases h1
    | some p =>
      obtain ⟨⟨bd, b⟩, hr⟩ := pos_read hb hp
      obtain ⟨p', h1, B⟩ := read_pos hb hr
      rw [hp] at h1
      cases h1
      rw [hr]
      dsimp only
      obtain ⟨pb, pr⟩ := p
      have hred : pr = b := B.red
      subst hred
      rw [counted_eq depth.toNat (read_piv hb hr) B.rel pr]
      rfl
  · rw [if_neg hm, if_pos (.inr (by omega))]
    rfl
theorem winA_mem {bd : Bd} {red : Bool} {most : Nat} {x : Nat × (Int × Int)} (h : winA bd red most = some x) : x.2 ∈ allMovesA bd red := by
  unfold winA at h
  cases h1 : (List.range most).find? fun k => winsA (k + 1) bd red with
  | none => rw [h1] at h; cases h
  | some k =>
    rw [h1] at h
    have h : ((allMovesA bd red).find? fun m => doesA k bd red m).map (fun m => (k + 1, m)) = some x := h
    cases h2 : (allMovesA bd red).find? fun m => doesA k bd red m with
    | none => rw [h2] at h; cases h
    | some m =>
      rw [h2] at h
      cases h
      exact List.mem_of_find?_eq_some h2
theorem mirror_win (k most : Int) (t : List Int) (hb : Bytes8 t) (hl : t.length ≤ 256) : PySn32.win k most t = winI most t := by
  have e0 : PySn32.win k most t = (Sn32Neutral.does (.win (nats t) (t.length : Int) most)).value :: Sn32Neutral.ints (Sn32Neutral.does (.win (nats t) (t.length : Int) most)).out := rfl
  rw [e0]
  have hn := size_ok hl
  unfold winI Sn32Neutral.does
  dsimp only
  by_cases hm : 1 ≤ most ∧ most ≤ 3
  · rw [if_pos hm, if_neg (by rw [hn]; simp; omega)]
    cases hp : pos (nats t) with
    | none =>
      cases hr : readI t with
      | none => rfl
      | some x =>
        obtain ⟨p, h1, _⟩ := read_pos hb (bd := x.1) (b := x.2) hr
        rw [hp] at h1
        cases h1
    | some p =>
      obtain ⟨⟨bd, b⟩, hr⟩ := pos_read hb hp
      obtain ⟨p', h1, B⟩ := read_pos hb hr
      rw [hp] at h1
      cases h1
      rw [hr]
      dsimp only
      obtain ⟨pb, pr⟩ := p
      have hred : pr = b := B.red
      subst hred
      rw [win_eq (read_piv hb hr) B.rel pr]
      cases hw : winA bd pr most.toNat with
      | none => rfl
      | some x =>
        obtain ⟨h1, h2, _⟩ := mem_allMovesA.mp (winA_mem hw)
        have e := name4 h1 h2
        show (x.1 : Int) :: Sn32Neutral.ints (moveText (toM x.2)) = (x.1 : Int) :: name2 x.2
        rw [e]
        rfl
  · rw [if_neg hm, if_pos (.inr (by omega))]
    rfl
/-! ### the mirrors where a general may be missing -/
theorem countG_eq : ∀ (n : Nat) {bd : Bd} (P : PIv bd) (red : Bool), countG n bd red = countA n bd red
  | 0, _, _, _ => rfl
  | n + 1, bd, P, red => by
    show ((allMovesG bd red).map fun m => countG n (after bd m.1 m.2) (!red)).sum = ((allMovesA bd red).map fun m => countA n (after bd m.1 m.2) (!red)).sum
    rw [allMovesG_eq P red]
    congr 1
    refine List.map_congr_left fun m hm => ?_
    exact countG_eq n (P.move hm) (!red)
theorem winsG_eq : ∀ (n : Nat) {bd : Bd} (P : PIv bd) (red : Bool), winsG n bd red = winsA n bd red
  | 0, _, _, _ => rfl
  | n + 1, bd, P, red => by
    show (allMovesG bd red).any (fun m => (allMovesG (after bd m.1 m.2) (!red)).all fun r => winsG n (after (after bd m.1 m.2) r.1 r.2) red) = (allMovesA bd red).any fun m => (allMovesA (after bd m.1 m.2) (!red)).all fun r => winsA n (after (after bd m.1 m.2) r.1 r.2) red
    rw [allMovesG_eq P red]
    refine any_congr fun m hm => ?_
    rw [allMovesG_eq (P.move hm) (!red)]
    refine all_congr fun r hr => ?_
    exact winsG_eq n ((P.move hm).move hr) red
theorem lostG_eq {n : Nat} {bd : Bd} (P : PIv bd) {red : Bool} {m : Int × Int} (hm : m ∈ allMovesA bd red) : lostG n (after bd m.1 m.2) (!red) = doesA n bd red m := by
  unfold lostG doesA
  rw [allMovesG_eq (P.move hm) (!red)]
  refine all_congr fun r hr => ?_
  rw [Bool.not_not]
  exact winsG_eq n ((P.move hm).move hr) red
theorem firstG_eq {n : Nat} {bd : Bd} (P : PIv bd) (red : Bool) : firstG n bd red = (allMovesA bd red).find? fun m => doesA n bd red m := by
  unfold firstG
  rw [allMovesG_eq P red]
  exact find_congr fun m hm => lostG_eq P hm
theorem winsA_find (n : Nat) (bd : Bd) (red : Bool) : winsA (n + 1) bd red = ((allMovesA bd red).find? fun m => doesA n bd red m).isSome := by
  show ((allMovesA bd red).any fun m => doesA n bd red m) = _
  rw [Bool.eq_iff_iff, List.find?_isSome, List.any_eq_true]
theorem find_some_bind {α β : Type} {f : α → Option β} : ∀ (l : List α), l.findSome? f = (l.find? fun k => (f k).isSome).bind f
  | [] => rfl
  | x :: r => by
    rw [List.findSome?_cons, List.find?_cons]
    cases h : f x with
    | none => exact find_some_bind r
    | some y => exact h.symm
theorem winG_eq {bd : Bd} (P : PIv bd) (red : Bool) (most : Nat) : winG bd red most = winA bd red most := by
  unfold winG winA
  rw [find_some_bind]
  have e : ∀ k, ((firstG k bd red).map fun m => (k + 1, m)).isSome = winsA (k + 1) bd red := fun k => by
    rw [winsA_find, firstG_eq P red]
    cases (allMovesA bd red).find? fun m => doesA k bd red m <;> rfl
  rw [find_congr (g := fun k => winsA (k + 1) bd red) (fun k _ => e k)]
  congr 1
  funext k
  rw [firstG_eq P red]
theorem mirror_countJ (k depth : Int) (t : List Int) (hb : Bytes8 t) (hl : t.length ≤ 256) : PySn32.count k depth t = countJ depth t := by
  rw [mirror_count k depth t hb hl]
  unfold countI countJ
  cases hr : readI t with
  | none => rfl
  | some x =>
    obtain ⟨bd, b⟩ := x
    dsimp only
    rw [countG_eq depth.toNat (read_piv hb hr) b]
theorem mirror_winJ (k most : Int) (t : List Int) (hb : Bytes8 t) (hl : t.length ≤ 256) : PySn32.win k most t = winJ most t := by
  rw [mirror_win k most t hb hl]
  unfold winI winJ
  cases hr : readI t with
  | none => rfl
  | some x =>
    obtain ⟨bd, b⟩ := x
    dsimp only
    rw [winG_eq (read_piv hb hr) b]
    all_goals rfl
theorem read_movesG {t : List Int} (ht : Bytes8 t) {bd : Bd} {b : Bool} (h : readI t = some (bd, b)) (r : Bool) : allMovesG bd r = allMoves bd r := (allMovesG_eq (read_piv ht h) r).trans (read_moves ht h r)
theorem read_reachedG {t : List Int} (ht : Bytes8 t) {bd : Bd} {b : Bool} (h : readI t = some (bd, b)) (r : Bool) : reachedG bd r = reached bd r := by
  obtain ⟨p, _, B⟩ := read_pos ht h
  unfold reachedG
  rw [if_pos ((B.one r).gen_lt90 (read_piv ht h).len)]
theorem mirror_movesG (k most : Int) (t : List Int) (hb : Bytes8 t) (hl : t.length ≤ 256) : PySn32.moves k most t = movesG most t := by
  rw [mirror_moves k most t hb hl]
  unfold movesI movesG
  cases hr : readI t with
  | none => rfl
  | some x =>
    obtain ⟨bd, b⟩ := x
    dsimp only
    unfold linesG
    rw [read_movesG hb hr, read_reachedG hb hr]
    rfl
theorem mirror_playG (most : Int) (t mv : List Int) (hb : Bytes8 t) (hl : t.length ≤ 256) (hb2 : Bytes8 mv) (hl2 : mv.length ≤ 256) : PySn32.play most t mv = playG most t mv := by
  rw [mirror_play most t mv hb hl hb2 hl2]
  unfold playI playG
  cases hr : readI t with
  | none => rfl
  | some x =>
    obtain ⟨bd, b⟩ := x
    dsimp only
    unfold calledG called
    rw [read_movesG hb hr]
end Tr

namespace Tr
open PySem PySem.Spec PyProof.Rows L2
open Sn32 (Man)
section
variable {P : Program} {w : World} {K : PySem.W.Frag} {mg : Str → Option Value} {base : Heap} {dM dS dT dL : Addr}
/-! ### board.py -/
def sp_point_at : Sp := fun vs H Q _ => ∃ c r : Int, vs = [.int c, .int r] ∧ (-1000 ≤ c ∧ c ≤ 1000) ∧ Q (.int (c * 10 + r)) H
theorem cal_point_at (h : Has K mg "point_at" s_point_at ["column", "row"]) (T : Tx w K mg dM dS dT dL) : Cal P w K mg base 1 "point_at" ["column", "row"] sp_point_at := by
  obtain ⟨f, fd, F, g, b⟩ := h.ex
  refine ⟨f, fd, F.ok sc_point_at (fun vs H Q E h => ?_) (fun cdv A outer s H vs Q E hr h => ?_), g, F.kp, b⟩
  · obtain ⟨c, r, rfl, _⟩ := h
    rfl
  · obtain ⟨c, r, rfl, hc, q⟩ := h
    refine ⟨_, (pss_one (ps_ret (pe_op op_add (pe_op op_mul (pv 0) (pe_gi T.c_ROWS)) (pv 1)))), ?_⟩
    exact ⟨_, rfl, c, 10, rfl, rfl, .inl ⟨by omega, by omega⟩, _, rfl, _, r, rfl, rfl, q⟩
def sp_column_of : Sp := fun vs H Q _ => ∃ p : Int, vs = [.int p] ∧ Q (.int (p / 10)) H
theorem cal_column_of (h : Has K mg "column_of" s_column_of ["point"]) (T : Tx w K mg dM dS dT dL) : Cal P w K mg base 1 "column_of" ["point"] sp_column_of := by
  obtain ⟨f, fd, F, g, b⟩ := h.ex
  refine ⟨f, fd, F.ok sc_column_of (fun vs H Q E h => ?_) (fun cdv A outer s H vs Q E hr h => ?_), g, F.kp, b⟩
  · obtain ⟨p, rfl, _⟩ := h
    rfl
  · obtain ⟨p, rfl, q⟩ := h
    refine ⟨_, (pss_one (ps_ret (pe_op op_fdiv (pv 0) (pe_gi T.c_ROWS)))), ?_⟩
    exact ⟨_, rfl, p, 10, rfl, rfl, ⟨by decide, by decide⟩, q⟩
def sp_row_of : Sp := fun vs H Q _ => ∃ p : Int, vs = [.int p] ∧ Q (.int (p % 10)) H
theorem cal_row_of (h : Has K mg "row_of" s_row_of ["point"]) (T : Tx w K mg dM dS dT dL) : Cal P w K mg base 1 "row_of" ["point"] sp_row_of := by
  obtain ⟨f, fd, F, g, b⟩ := h.ex
  refine ⟨f, fd, F.ok sc_row_of (fun vs H Q E h => ?_) (fun cdv A outer s H vs Q E hr h => ?_), g, F.kp, b⟩
  · obtain ⟨p, rfl, _⟩ := h
    rfl
  · obtain ⟨p, rfl, q⟩ := h
    refine ⟨_, (pss_one (ps_ret (pe_op op_mod (pv 0) (pe_gi T.c_ROWS)))), ?_⟩
    exact ⟨_, rfl, p, 10, rfl, rfl, (by decide : (0 : Int) < 10), q⟩
def sp_side_of : Sp := fun vs H Q _ => ∃ m : Man, vs = [mV (some m)] ∧ Q (.str (sd m.red)) H
theorem cal_side_of (h : Has K mg "side_of" s_side_of ["man"]) (T : Tx w K mg dM dS dT dL) : Cal P w K mg base 1 "side_of" ["man"] sp_side_of := by
  obtain ⟨f, fd, F, g, b⟩ := h.ex
  refine ⟨f, fd, F.ok sc_side_of (fun vs H Q E h => ?_) (fun cdv A outer s H vs Q E hr h => ?_), g, F.kp, b⟩
  · obtain ⟨p, rfl, _⟩ := h
    rfl
  · obtain ⟨m, rfl, q⟩ := h
    refine ⟨_, (pss_one (ps_ret (pe_ifExp (pt_val (pe_m0 PySem.F.slot_str_isupper PySem.F.type_str_isupper mt_isupper (pv 0))) (pe_gs T.c_RED) (pe_gs T.c_BLACK)))), ?_⟩
    refine ⟨_, rfl, ⟨_, rfl⟩, _, rfl, rfl, trivial, _, rfl, ifc ((up_m (some m)).trans (show (m.red == true) = m.red by cases m.red <;> rfl)) ?_⟩
    revert q
    cases m.red
    · exact fun q => iteF q
    · exact fun q => iteT q
def sp_other_side : Sp := fun vs H Q _ => ∃ b : Bool, vs = [.str (sd b)] ∧ Q (.str (sd (!b))) H
theorem cal_other_side (h : Has K mg "other_side" s_other_side ["side"]) (T : Tx w K mg dM dS dT dL) : Cal P w K mg base 1 "other_side" ["side"] sp_other_side := by
  obtain ⟨f, fd, F, g, b⟩ := h.ex
  refine ⟨f, fd, F.ok sc_other_side (fun vs H Q E h => ?_) (fun cdv A outer s H vs Q E hr h => ?_), g, F.kp, b⟩
  · obtain ⟨p, rfl, _⟩ := h
    rfl
  · obtain ⟨b, rfl, q⟩ := h
    refine ⟨_, (pss_one (ps_ret (pe_ifExp (pt_cmpR op_eq (pv 0) (pe_gs T.c_RED) (nomark _)) (pe_gs T.c_BLACK) (pe_gs T.c_RED)))), ?_⟩
    refine ⟨_, rfl, rfl, _, rfl, ifc (d_red b) ?_⟩
    cases b
    · exact iteF q
    · exact iteT q
def sp_stands_for : Sp := fun vs H Q _ => ∃ (c : Cell) (b : Bool), vs = [mV c, .str (sd b)] ∧ Q (.bl (stands c b)) H
theorem cal_stands_for (h : Has K mg "stands_for" s_stands_for ["man", "side"]) (T : Tx w K mg dM dS dT dL) : Cal P w K mg base 1 "stands_for" ["man", "side"] sp_stands_for := by
  obtain ⟨f, fd, F, g, b⟩ := h.ex
  refine ⟨f, fd, F.ok sc_stands_for (fun vs H Q E h => ?_) (fun cdv A outer s H vs Q E hr h => ?_), g, F.kp, b⟩
  · obtain ⟨p, b, rfl, _⟩ := h
    rfl
  · obtain ⟨c, b, rfl, q⟩ := h
    refine ⟨_, (pss_one (ps_ret (pe_ifExp (pt_cmpR op_eq (pv 1) (pe_gs T.c_RED) (nomark _)) (pe_m0 PySem.F.slot_str_isupper PySem.F.type_str_isupper mt_isupper (pv 0)) (pe_m0 PySem.F.slot_str_islower PySem.F.type_str_islower mt_islower (pv 0))))), ?_⟩
    refine ⟨_, rfl, rfl, _, rfl, ifc (d_red b) ?_⟩
    cases b
    · exact iteF ⟨_, rfl, ⟨_, rfl⟩, _, rfl, rfl, trivial, qb (lo_m c) q⟩
    · exact iteT ⟨_, rfl, ⟨_, rfl⟩, _, rfl, rfl, trivial, qb (up_m c) q⟩
def sp_general_of : Sp := fun vs H Q _ => ∃ b : Bool, vs = [.str (sd b)] ∧ Q (mV (some ⟨b, .K⟩)) H
theorem cal_general_of (h : Has K mg "general_of" s_general_of ["side"]) (T : Tx w K mg dM dS dT dL) : Cal P w K mg base 1 "general_of" ["side"] sp_general_of := by
  obtain ⟨f, fd, F, g, b⟩ := h.ex
  refine ⟨f, fd, F.ok sc_general_of (fun vs H Q E h => ?_) (fun cdv A outer s H vs Q E hr h => ?_), g, F.kp, b⟩
  · obtain ⟨p, rfl, _⟩ := h
    rfl
  · obtain ⟨b, rfl, q⟩ := h
    refine ⟨_, (pss_one (ps_ret (pe_ifExp (pt_cmpR op_eq (pv 0) (pe_gs T.c_RED) (nomark _)) pe_str pe_str))), ?_⟩
    refine ⟨_, rfl, rfl, _, rfl, ifc (d_red b) ?_⟩
    cases b
    · exact iteF q
    · exact iteT q
def sp_forward : Sp := fun vs H Q _ => ∃ b : Bool, vs = [.str (sd b)] ∧ Q (.int (fwd b)) H
theorem cal_forward (h : Has K mg "forward" s_forward ["side"]) (T : Tx w K mg dM dS dT dL) : Cal P w K mg base 1 "forward" ["side"] sp_forward := by
  obtain ⟨f, fd, F, g, b⟩ := h.ex
  refine ⟨f, fd, F.ok sc_forward (fun vs H Q E h => ?_) (fun cdv A outer s H vs Q E hr h => ?_), g, F.kp, b⟩
  · obtain ⟨p, rfl, _⟩ := h
    rfl
  · obtain ⟨b, rfl, q⟩ := h
    refine ⟨_, (pss_one (ps_ret (pe_ifExp (pt_cmpR op_eq (pv 0) (pe_gs T.c_RED) (nomark _)) pe_int (pe_un un_neg pe_int)))), ?_⟩
    refine ⟨_, rfl, rfl, _, rfl, ifc (d_red b) ?_⟩
    cases b
    · exact iteF ⟨_, rfl, q⟩
    · exact iteT q
def sp_in_palace : Sp := fun vs H Q _ => ∃ (b : Bool) (p : Int), vs = [.str (sd b), .int p] ∧ Q (.bl (inPal b p)) H
theorem cal_in_palace (h : Has K mg "in_palace" s_in_palace ["side", "point"]) (T : Tx w K mg dM dS dT dL) (C_column_of : Cal P w K mg base 1 "column_of" ["point"] sp_column_of) (C_row_of : Cal P w K mg base 1 "row_of" ["point"] sp_row_of) : Cal P w K mg base 2 "in_palace" ["side", "point"] sp_in_palace := by
  obtain ⟨f, fd, F, g, b⟩ := h.ex
  refine ⟨f, fd, F.ok sc_in_palace (fun vs H Q E h => ?_) (fun cdv A outer s H vs Q E hr h => ?_), g, F.kp, b⟩
  · obtain ⟨b, p, rfl, _⟩ := h
    rfl
  · obtain ⟨b, p, rfl, q⟩ := h
    refine ⟨_, (pss_cons (ps_if (pt_not (pt_chain op_le op_le pe_int (pe_cal C_column_of (hr.mono (by omega)) (by rfl) (pa_cons (pv 1) pa_nil)) pe_int)) (pss_one (ps_ret pe_bl)) pss_nil) (pss_one (ps_ret (pe_ifExp (pt_cmpR op_eq (pv 0) (pe_gs T.c_RED) (nomark _)) (pe_cmpR op_le (pe_cal C_row_of (hr.mono (by omega)) (by rfl) (pa_cons (pv 1) pa_nil)) pe_int (nomark _)) (pe_cmpR op_ge (pe_cal C_row_of (hr.mono (by omega)) (by rfl) (pa_cons (pv 1) pa_nil)) pe_int (nomark _)))))), ?_⟩
    refine ⟨_, rfl, p, rfl, 3, _, rfl, rfl, _, rfl, ite2 (fun h1 => ⟨_, 5, rfl, rfl, _, rfl, ite2 (fun h2 => ?_) (fun h2 => ?_)⟩) (fun h1 => ⟨_, rfl, iteT ?_⟩)⟩
    · have h3 : ¬ p / 10 ≤ 5 := by simpa using h2
      exact qb (show false = inPal b p by unfold inPal; rw [if_neg (fun z => h3 z.2)]) q
    · have h1 : 3 ≤ p / 10 := of_decide_eq_true h1
      have h3 : p / 10 ≤ 5 := by simpa using h2
      refine ⟨_, rfl, rfl, _, rfl, ifc (d_red b) ?_⟩
      have e : inPal b p = if b = true then decide (p % 10 ≤ 2) else decide (7 ≤ p % 10) := if_pos ⟨h1, h3⟩
      rw [e] at q
      cases b
      · exact iteF ⟨_, rfl, p, rfl, _, 7, rfl, rfl, q⟩
      · exact iteT ⟨_, rfl, p, rfl, _, 2, rfl, rfl, q⟩
    · have h3 : ¬ 3 ≤ p / 10 := fun z => h1 (decide_eq_true z)
      exact qb (show false = inPal b p by unfold inPal; rw [if_neg (fun z => h3 z.1)]) q
def sp_on_own_half : Sp := fun vs H Q _ => ∃ (b : Bool) (p : Int), vs = [.str (sd b), .int p] ∧ Q (.bl (ownHalf b p)) H
theorem cal_on_own_half (h : Has K mg "on_own_half" s_on_own_half ["side", "point"]) (T : Tx w K mg dM dS dT dL) (C_row_of : Cal P w K mg base 1 "row_of" ["point"] sp_row_of) : Cal P w K mg base 2 "on_own_half" ["side", "point"] sp_on_own_half := by
  obtain ⟨f, fd, F, g, b⟩ := h.ex
  refine ⟨f, fd, F.ok sc_on_own_half (fun vs H Q E h => ?_) (fun cdv A outer s H vs Q E hr h => ?_), g, F.kp, b⟩
  · obtain ⟨b, p, rfl, _⟩ := h
    rfl
  · obtain ⟨b, p, rfl, q⟩ := h
    refine ⟨_, (pss_one (ps_ret (pe_ifExp (pt_cmpR op_eq (pv 0) (pe_gs T.c_RED) (nomark _)) (pe_cmpR op_le (pe_cal C_row_of (hr.mono (by omega)) (by rfl) (pa_cons (pv 1) pa_nil)) pe_int (nomark _)) (pe_cmpR op_ge (pe_cal C_row_of (hr.mono (by omega)) (by rfl) (pa_cons (pv 1) pa_nil)) pe_int (nomark _))))), ?_⟩
    refine ⟨_, rfl, rfl, _, rfl, ifc (d_red b) ?_⟩
    cases b
    · exact iteF ⟨_, rfl, p, rfl, _, 5, rfl, rfl, q⟩
    · exact iteT ⟨_, rfl, p, rfl, _, 4, rfl, rfl, q⟩
def sp_after_move : Sp := fun vs H Q _ => ∃ (a : V) (bd : Bd) (s e : Int), vs = [a, .int s, .int e] ∧ BdV a bd ∧ (0 ≤ s ∧ s < 90) ∧ (0 ≤ e ∧ e < 90) ∧
  ∀ H' x, Same H H' → BdV x (after bd s e) → Q x H'
theorem atC {bd : Bd} {p : Int} (hl : bd.length = 90) (h0 : 0 ≤ p) (h1 : p < 90) : atI (bd.map mV) p = some (mV (cell bd p)) := by
  obtain ⟨n, rfl⟩ : ∃ n : Nat, p = (n : Int) := ⟨p.toNat, by omega⟩
  have hn : n < bd.length := by omega
  refine atI_nat (j := n) ?_
  rw [List.getElem?_map]
  unfold cell
  rw [show ((n : Int)).toNat = n from Int.toNat_natCast n, List.getElem?_eq_getElem hn]
  rfl
theorem after_len (bd : Bd) (s e : Int) : (after bd s e).length = bd.length := by
  unfold after
  rw [List.length_set, List.length_set]
theorem join_ok (bd : Bd) (h : bd.length = 90) : ((bd.map mS).map (·.length)).sum + (bd.map mS).length * ("" : Str).length ≤ 16777216 := by
  rw [len_ms, h, List.length_map, h, show ("" : Str).length = 0 from by decide +kernel]
  decide
theorem ixN_of {n : Nat} {i : Int} (h0 : 0 ≤ i) (h1 : i < n) : ixN n i = some i.toNat := by
  unfold ixN
  rw [if_pos h0, if_pos h1]
theorem cal_after_move (h : Has K mg "after_move" s_after_move ["board", "start", "end"]) (T : Tx w K mg dM dS dT dL) : Cal P w K mg base 1 "after_move" ["board", "start", "end"] sp_after_move := by
  obtain ⟨f, fd, F, g, b⟩ := h.ex
  refine ⟨f, fd, F.ok sc_after_move (fun vs H Q E h => ?_) (fun cdv A outer s H vs Q E hr h => ?_), g, F.kp, b⟩
  · obtain ⟨a, bd, s, e, rfl, _⟩ := h
    rfl
  · obtain ⟨a, bd, s, e, rfl, ⟨rfl, hl⟩, hs, he, q⟩ := h
    refine ⟨_, (pss_cons (ps_set (i := 3) sc_after_move.nd rfl (Or.inl rfl) (pe_callTy (call_list_txt rfl) (by rfl) T.b_list (by decide +kernel) (pa_cons (pv 0) pa_nil))) (pss_cons (ps_asg (pe_ix ix_list (pv 3) (pv 1) (fun _ _ => rfl)) (pg_sub (pv 3) (pv 2) set_list)) (pss_cons (ps_asg (pe_gs T.c_FREE) (pg_sub (pv 3) (pv 1) set_list)) (pss_one (ps_ret (pe_join pe_str (pv 3))))))), ?_⟩
    refine ⟨_, rfl, bS bd, rfl, ?_, fun l nl => ?_⟩
    · rw [bS_len, hl, sizeLine_eq]
      decide
    rw [chars_bd]
    have hL : (upd H l (.lst (bd.map mV))) l = some (.lst (bd.map mV)) := upd_same
    refine ⟨_, rfl, _, rfl, l, _, s, _, rfl, rfl, SqL.of hL, atC hl hs.1 hs.2, _, rfl, _, rfl, l, _, e, _, rfl, rfl, hL, ixN_of he.1 (by rw [List.length_map, hl]; omega), ?_⟩
    refine ⟨_, rfl, _, rfl, l, _, s, _, rfl, rfl, upd_same, ixN_of hs.1 (by rw [List.length_set, List.length_map, hl]; omega), ?_⟩
    have e0 : (((bd.map mV).set e.toNat (mV (cell bd s))).set s.toNat (V.str ".")) = ((after bd s e).map mS).map V.str := by
      rw [← map_mV]
      unfold after
      rw [List.map_set, List.map_set]
      rfl
    refine ⟨⟨_, rfl⟩, _, rfl, "", l, (after bd s e).map mS, rfl, rfl, .inl (SqL.of ?_), join_ok _ ((after_len bd s e).trans hl), ?_⟩
    · rw [upd_same, ← e0]
    · rw [join_bd]
      refine q _ _ ?_ ⟨rfl, (after_len bd s e).trans hl⟩
      intro c o z
      rw [upd_ne (ne_of_none z nl), upd_ne (ne_of_none z nl)]
      exact same_upd nl c o z
end
end Tr

namespace Tr
open PySem PySem.Spec PyProof.Rows L2
open Sn32 (Man)
theorem tif_int {c : Bool} {i j k : Int} {σ : L2.St} {H : Hp} {Q : VK} (e : (if c = true then i else j) = k) (h : Q (.int k) H) : if c = true then tC (.int i) σ H Q else tC (.int j) σ H Q := by
  subst e
  cases c
  · exact h
  · exact h
theorem dF (c : Cell) : decide (V.str (mS c) = V.str ".") = c.isNone := by
  rw [show V.str "." = V.str (mS none) from rfl, dC]
  cases c
  · rfl
  · exact decide_eq_false (fun h => by cases h)
theorem rgC_of {i j c : Int} (hc : c = 1 ∨ c = 10) (hi : 0 ≤ i ∧ i < 1000) (hj : 0 ≤ j ∧ j < 1000) : RgC i j c (if i < j then (j - i - 1) / c + 1 else 0 : Int).toNat := by
  have hs : Builtin.Range.rangeSize i j c = if i < j then (j - i - 1) / c + 1 else 0 := by
    unfold Builtin.Range.rangeSize
    rw [if_pos (show c > 0 by omega)]
  have hb : 0 ≤ (if i < j then (j - i - 1) / c + 1 else 0 : Int) ∧ (if i < j then (j - i - 1) / c + 1 else 0 : Int) ≤ 1000 := by
    split
    · rcases hc with rfl | rfl <;> omega
    · omega
  refine ⟨by omega, by omega, ?_, ?_⟩
  · unfold Builtin.Range.small
    rw [hs]
    simp only [Builtin.Range.rangeFitsLong, Bool.and_eq_true, Bool.or_eq_true, decide_eq_true_eq, beq_iff_eq, show (c > 0) by omega, if_true]
    generalize (if i < j then (j - i - 1) / c + 1 else 0 : Int) = n at hb
    omega
  · rw [hs]
    omega
theorem turn_in {s e : Int} (hs : 0 ≤ s ∧ s < 90) (he : 0 ≤ e ∧ e < 90) {i : Nat} (hi : i < turns s e) : 0 ≤ mn s e + stp s e + (i : Int) * stp s e ∧ mn s e + stp s e + (i : Int) * stp s e < 90 := by
  have hst : stp s e = 1 ∨ stp s e = 10 := by
    unfold stp
    split
    · exact .inl rfl
    · exact .inr rfl
  have hm : 0 ≤ mn s e ∧ mn s e < 90 := by unfold mn; split <;> omega
  have hx : 0 ≤ mx s e ∧ mx s e < 90 := by unfold mx; split <;> omega
  unfold turns at hi
  generalize mn s e = a at *
  generalize mx s e = c at *
  generalize stp s e = d at *
  split at hi
  · rcases hst with rfl | rfl <;> omega
  · simp at hi
section
variable {P : Program} {w : World} {K : PySem.W.Frag} {mg : Str → Option Value} {base : Heap} {dM dS dT dL : Addr}
/-! ### men.py -/
def sp_columns_apart : Sp := fun vs H Q _ => ∃ s e : Int, vs = [.int s, .int e] ∧ Q (.int (acr s e)) H
theorem cal_columns_apart (h : Has K mg "columns_apart" s_columns_apart ["start", "end"]) (T : Tx w K mg dM dS dT dL) (C_column_of : Cal P w K mg base 1 "column_of" ["point"] sp_column_of) : Cal P w K mg base 2 "columns_apart" ["start", "end"] sp_columns_apart := by
  obtain ⟨f, fd, F, g, b⟩ := h.ex
  refine ⟨f, fd, F.ok sc_columns_apart (fun vs H Q E h => ?_) (fun cdv A outer s H vs Q E hr h => ?_), g, F.kp, b⟩
  · obtain ⟨s, e, rfl, _⟩ := h
    rfl
  · obtain ⟨s, e, rfl, q⟩ := h
    refine ⟨_, (pss_one (ps_ret (pe_op op_sub (pe_cal C_column_of (hr.mono (by omega)) (by rfl) (pa_cons (pv 1) pa_nil)) (pe_cal C_column_of (hr.mono (by omega)) (by rfl) (pa_cons (pv 0) pa_nil))))), ?_⟩
    exact ⟨_, rfl, e, rfl, _, rfl, s, rfl, _, _, rfl, rfl, q⟩
def sp_rows_apart : Sp := fun vs H Q _ => ∃ s e : Int, vs = [.int s, .int e] ∧ Q (.int (alo s e)) H
theorem cal_rows_apart (h : Has K mg "rows_apart" s_rows_apart ["start", "end"]) (T : Tx w K mg dM dS dT dL) (C_row_of : Cal P w K mg base 1 "row_of" ["point"] sp_row_of) : Cal P w K mg base 2 "rows_apart" ["start", "end"] sp_rows_apart := by
  obtain ⟨f, fd, F, g, b⟩ := h.ex
  refine ⟨f, fd, F.ok sc_rows_apart (fun vs H Q E h => ?_) (fun cdv A outer s H vs Q E hr h => ?_), g, F.kp, b⟩
  · obtain ⟨s, e, rfl, _⟩ := h
    rfl
  · obtain ⟨s, e, rfl, q⟩ := h
    refine ⟨_, (pss_one (ps_ret (pe_op op_sub (pe_cal C_row_of (hr.mono (by omega)) (by rfl) (pa_cons (pv 1) pa_nil)) (pe_cal C_row_of (hr.mono (by omega)) (by rfl) (pa_cons (pv 0) pa_nil))))), ?_⟩
    exact ⟨_, rfl, e, rfl, _, rfl, s, rfl, _, _, rfl, rfl, q⟩
def sp_in_line : Sp := fun vs H Q _ => ∃ s e : Int, vs = [.int s, .int e] ∧ Q (.bl (line s e)) H
theorem cal_in_line (h : Has K mg "in_line" s_in_line ["start", "end"]) (T : Tx w K mg dM dS dT dL) (C_column_of : Cal P w K mg base 1 "column_of" ["point"] sp_column_of) (C_row_of : Cal P w K mg base 1 "row_of" ["point"] sp_row_of) : Cal P w K mg base 2 "in_line" ["start", "end"] sp_in_line := by
  obtain ⟨f, fd, F, g, b⟩ := h.ex
  refine ⟨f, fd, F.ok sc_in_line (fun vs H Q E h => ?_) (fun cdv A outer s H vs Q E hr h => ?_), g, F.kp, b⟩
  · obtain ⟨s, e, rfl, _⟩ := h
    rfl
  · obtain ⟨s, e, rfl, q⟩ := h
    refine ⟨_, (pss_one (ps_ret (pe_or (pe_cmpR op_eq (pe_cal C_column_of (hr.mono (by omega)) (by rfl) (pa_cons (pv 0) pa_nil)) (pe_cal C_column_of (hr.mono (by omega)) (by rfl) (pa_cons (pv 1) pa_nil)) (nomark _)) (pe_one (pe_cmpR op_eq (pe_cal C_row_of (hr.mono (by omega)) (by rfl) (pa_cons (pv 0) pa_nil)) (pe_cal C_row_of (hr.mono (by omega)) (by rfl) (pa_cons (pv 1) pa_nil)) (nomark _)))))), ?_⟩
    refine ⟨_, rfl, s, rfl, _, rfl, e, rfl, rfl, _, rfl, ifc (dI _ _) (ite2 (fun h1 => ?_) (fun h1 => ?_))⟩
    · exact qb (show true = line s e by unfold line; rw [h1]; rfl) q
    · refine ⟨_, rfl, s, rfl, _, rfl, e, rfl, rfl, qb ((dI _ _).trans ?_) q⟩
      unfold line
      rw [Bool.eq_false_iff.mpr h1]
      rfl
def sp_men_between : Sp := fun vs H Q _ => ∃ (a : V) (bd : Bd) (s e : Int), vs = [a, .int s, .int e] ∧ BdV a bd ∧ (0 ≤ s ∧ s < 90) ∧ (0 ≤ e ∧ e < 90) ∧ Q (.int (btw bd s e : Nat)) H
theorem cal_men_between (h : Has K mg "men_between" s_men_between ["board", "start", "end"]) (T : Tx w K mg dM dS dT dL) (C_column_of : Cal P w K mg base 1 "column_of" ["point"] sp_column_of) : Cal P w K mg base 2 "men_between" ["board", "start", "end"] sp_men_between := by
  obtain ⟨f, fd, F, g, b⟩ := h.ex
  refine ⟨f, fd, F.ok sc_men_between (fun vs H Q E h => ?_) (fun cdv A outer s H vs Q E hr h => ?_), g, F.kp, b⟩
  · obtain ⟨a, bd, s, e, rfl, _⟩ := h
    rfl
  · obtain ⟨a, bd, s, e, rfl, hB, hs, he, q⟩ := h
    refine ⟨_, (pss_cons (ps_set (i := 3) sc_men_between.nd rfl (Or.inl rfl) (pe_ifExp (pt_cmpR op_eq (pe_cal C_column_of (hr.mono (by omega)) (by rfl) (pa_cons (pv 1) pa_nil)) (pe_cal C_column_of (hr.mono (by omega)) (by rfl) (pa_cons (pv 2) pa_nil)) (nomark _)) pe_int (pe_gi T.c_ROWS))) (pss_cons (ps_set (i := 4) sc_men_between.nd rfl (Or.inl rfl) pe_int) (pss_cons (ps_for PassesOwn.never rfl (pi_range3 (by rfl) T.b_range (pa_cons (pe_op op_add (pe_callB (call_min2 rfl) (by rfl) T.b_min (by decide +kernel) (pa_cons (pv 1) (pa_cons (pv 2) pa_nil))) (pv 3)) (pa_cons (pe_callB (call_max2 rfl) (by rfl) T.b_max (by decide +kernel) (pa_cons (pv 1) (pa_cons (pv 2) pa_nil))) (pa_cons (pv 3) pa_nil)))) (pg_name (i := 5) sc_men_between.nd rfl (Or.inl rfl)) (pss_one (ps_if (pt_cmpR op_ne (pe_ix ix_bd (pv 0) (pv 5) (fun _ _ => rfl)) (pe_gs T.c_FREE) (nomark _)) (pss_one (ps_aug (i := 4) sc_men_between.nd rfl (Or.inl rfl) pe_int ip_add)) pss_nil))) (pss_one (ps_ret (pv 4)))))), ?_⟩
    have hst : stp s e = 1 ∨ stp s e = 10 := by
      unfold stp
      split
      · exact .inl rfl
      · exact .inr rfl
    refine ⟨_, rfl, s, rfl, _, rfl, e, rfl, rfl, _, rfl, ifc (dI _ _) (tif_int (k := stp s e) ?_ ?_)⟩
    · unfold stp
      simp only [decide_eq_true_eq]
    · have hm : 0 ≤ mn s e ∧ mn s e < 90 := by unfold mn; split <;> omega
      have hx : 0 ≤ mx s e ∧ mx s e < 90 := by unfold mx; split <;> omega
      refine ⟨_, rfl, _, rfl, s, e, rfl, _, rfl, _, _, rfl, rfl, _, rfl, _, rfl, s, e, rfl, _, rfl, mn s e + stp s e, mx s e, stp s e, turns s e, rfl, rgC_of hst (by omega) (by omega), ?_⟩
      refine for_rangeC (lo := mn s e + stp s e) (c := stp s e) (n := turns s e) (fun i σ H' => H' = H ∧ ∃ v, σ = [some a, some (.int s), some (.int e), some (.int (stp s e)), some (.int (((List.range i).countP fun (i : Nat) => (cell bd (mn s e + stp s e + (i : Int) * stp s e)).isSome) : Nat)), v])
        ⟨rfl, none, rfl⟩ ?_ ?_
      · rintro i σ H' hi ⟨rfl, v, rfl⟩
        have hin := turn_in hs he hi
        refine ⟨_, rfl, _, rfl, bd, _, hB, rfl, hin.1, hin.2, rfl, _, rfl, ifc (congrArg not (dF _)) (ite2 (fun h1 => ?_) (fun h1 => ?_))⟩
        · refine ⟨_, rfl, _, _, rfl, rfl, rfl, some (.int (mn s e + stp s e + (i : Int) * stp s e)), ?_⟩
          have e1 : (cell bd (mn s e + stp s e + (i : Int) * stp s e)).isSome = true := by
            revert h1
            cases cell bd (mn s e + stp s e + (i : Int) * stp s e) <;> simp
          rw [List.range_succ, List.countP_append]
          simp only [List.countP_cons, List.countP_nil, e1, if_true]
          rfl
        · refine ⟨rfl, some (.int (mn s e + stp s e + (i : Int) * stp s e)), ?_⟩
          have e1 : (cell bd (mn s e + stp s e + (i : Int) * stp s e)).isSome = false := by
            revert h1
            cases cell bd (mn s e + stp s e + (i : Int) * stp s e) <;> simp
          rw [List.range_succ, List.countP_append]
          simp only [List.countP_cons, List.countP_nil, e1]
          rfl
      · rintro σ H' ⟨rfl, v, rfl⟩
        exact ⟨_, rfl, q⟩
end
end Tr

namespace Tr
open PySem PySem.Spec PyProof.Rows L2
open Sn32 (Man)
theorem tand_of {t u : TT} {σ : L2.St} {H : Hp} {Q : Bool → Hp → Prop} (a b : Bool) (h1 : ∀ Q' : Bool → Hp → Prop, Q' a H → t σ H Q') (h2 : a = true → ∀ Q' : Bool → Hp → Prop, Q' b H → u σ H Q') (q : Q (a && b) H) : tAnd t u σ H Q := by
  refine h1 _ ?_
  cases a
  · exact iteF q
  · exact iteT (h2 rfl _ q)
theorem tor_of {t u : TT} {σ : L2.St} {H : Hp} {Q : Bool → Hp → Prop} (a b : Bool) (h1 : ∀ Q' : Bool → Hp → Prop, Q' a H → t σ H Q') (h2 : a = false → ∀ Q' : Bool → Hp → Prop, Q' b H → u σ H Q') (q : Q (a || b) H) : tOr t u σ H Q := by
  refine h1 _ ?_
  cases a
  · exact iteF (h2 rfl _ q)
  · exact iteT q
theorem tandV_of {t u : TE} {σ : L2.St} {H : Hp} {Q : VK} (a b : Bool) (h1 : ∀ Q' : VK, Q' (.bl a) H → t σ H Q') (h2 : a = true → ∀ Q' : VK, Q' (.bl b) H → u σ H Q') (q : Q (.bl (a && b)) H) : tAndV t u σ H Q := by
  refine h1 _ ⟨a, rfl, ?_⟩
  cases a
  · exact iteF q
  · exact iteT (h2 rfl _ q)
theorem dN (i j : Nat) : decide (V.int (i : Int) = V.int (j : Int)) = decide (i = j) := by
  rw [dI]
  by_cases h : i = j
  · rw [decide_eq_true h]; exact decide_eq_true (by omega)
  · rw [decide_eq_false h]; exact decide_eq_false (by omega)
theorem yk (a : Sn32.Kind) : decide (V.str (kS a) = V.str (kS a)) = true := decide_eq_true rfl
theorem nk {a b : Sn32.Kind} (h : a ≠ b) : decide (V.str (kS a) = V.str (kS b)) = false := by
  rw [dKd]
  exact decide_eq_false h
theorem iabs_is (i : Int) : (if i < 0 then -i else i) = iabs i := rfl
section
variable {P : Program} {w : World} {K : PySem.W.Frag} {mg : Str → Option Value} {base : Heap} {dM dS dT dL : Addr}
def onB (p : Int) : Prop := 0 ≤ p ∧ p < 90
def sp_general_goes : Sp := fun vs H Q _ => ∃ (a : V) (bd : Bd) (b : Bool) (s e : Int), vs = [a, .str (sd b), .int s, .int e] ∧ BdV a bd ∧ onB s ∧ onB e ∧ Q (.bl (goK bd b s e)) H
theorem cal_general_goes (h : Has K mg "general_goes" s_general_goes ["board", "side", "start", "end"]) (T : Tx w K mg dM dS dT dL) (C_columns_apart : Cal P w K mg base 2 "columns_apart" ["start", "end"] sp_columns_apart) (C_rows_apart : Cal P w K mg base 2 "rows_apart" ["start", "end"] sp_rows_apart) (C_in_palace : Cal P w K mg base 2 "in_palace" ["side", "point"] sp_in_palace)
    (C_general_of : Cal P w K mg base 1 "general_of" ["side"] sp_general_of) (C_other_side : Cal P w K mg base 1 "other_side" ["side"] sp_other_side) (C_forward : Cal P w K mg base 1 "forward" ["side"] sp_forward) (C_men_between : Cal P w K mg base 2 "men_between" ["board", "start", "end"] sp_men_between) : Cal P w K mg base 3 "general_goes" ["board", "side", "start", "end"] sp_general_goes := by
  obtain ⟨f, fd, F, g, b⟩ := h.ex
  refine ⟨f, fd, F.ok sc_general_goes (fun vs H Q E h => ?_) (fun cdv A outer s H vs Q E hr h => ?_), g, F.kp, b⟩
  · obtain ⟨a, bd, b, s, e, rfl, _⟩ := h
    rfl
  · obtain ⟨a, bd, b, s, e, rfl, hB, hs, he, q⟩ := h
    refine ⟨_, (pss_cons (ps_set (i := 4) sc_general_goes.nd rfl (Or.inl rfl) (pe_cal C_columns_apart (hr.mono (by omega)) (by rfl) (pa_cons (pv 2) (pa_cons (pv 3) pa_nil)))) (pss_cons (ps_set (i := 5) sc_general_goes.nd rfl (Or.inl rfl) (pe_cal C_rows_apart (hr.mono (by omega)) (by rfl) (pa_cons (pv 2) (pa_cons (pv 3) pa_nil)))) (pss_cons (ps_if (PW.pt (pw_and (pt_cmpR op_eq (pe_op op_add (pe_callB call_abs (by rfl) T.b_abs (by decide +kernel) (pa_cons (pv 4) pa_nil)) (pe_callB call_abs (by rfl) T.b_abs (by decide +kernel) (pa_cons (pv 5) pa_nil))) pe_int (nomark _)) (pw_and1 (pt_val (pe_cal C_in_palace (hr.mono (by omega)) (by rfl) (pa_cons (pv 1) (pa_cons (pv 3) pa_nil))))))) (pss_one (ps_ret pe_bl)) pss_nil) (pss_cons (ps_if (pt_cmpR op_ne (pe_ix ix_bd (pv 0) (pv 3) (fun _ _ => rfl)) (pe_cal C_general_of (hr.mono (by omega)) (by rfl) (pa_cons (pe_cal C_other_side (hr.mono (by omega)) (by rfl) (pa_cons (pv 1) pa_nil)) pa_nil)) (nomark _)) (pss_one (ps_ret pe_bl)) pss_nil) (pss_one (ps_ret (pe_and (pe_cmpR op_eq (pv 4) pe_int (nomark _)) (pe_and (pe_cmpR op_gt (pe_op op_mul (pv 5) (pe_cal C_forward (hr.mono (by omega)) (by rfl) (pa_cons (pv 1) pa_nil))) pe_int (nomark _)) (pe_one (pe_cmpR op_eq (pe_cal C_men_between (hr.mono (by omega)) (by rfl) (pa_cons (pv 0) (pa_cons (pv 2) (pa_cons (pv 3) pa_nil)))) pe_int (nomark _))))))))))), ?_⟩
    refine ⟨_, rfl, _, rfl, s, e, rfl, _, rfl, _, rfl, s, e, rfl, ?_⟩
    try dsimp only [gName, tSeq, tIfS, tRet, tAsg, tNext]
    refine tand_of (decide (iabs (acr s e) + iabs (alo s e) = 1)) (inPal b e) (fun Q' q' => ⟨_, rfl, _, rfl, _, rfl, _, rfl, _, _, rfl, rfl, rfl, _, rfl, ?_⟩) (fun _ Q' q' => ⟨_, rfl, _, rfl, b, e, rfl, _, rfl, q'⟩) ?_
    · rw [dI]; exact q'
    · refine ite2 (fun h1 => ?_) (fun h1 => ?_)
      · refine qb (show true = goK bd b s e from ?_) q
        unfold goK
        rw [if_pos (by simpa using h1)]
      · have hn : ¬ (iabs (acr s e) + iabs (alo s e) = 1 ∧ inPal b e = true) := by simpa using h1
        have hq : goK bd b s e = if cell bd e = some ⟨!b, .K⟩ then decide (acr s e = 0) && (decide (alo s e * fwd b > 0) && decide (btw bd s e = 0)) else false := if_neg hn
        rw [hq] at q
        refine ⟨_, rfl, _, rfl, bd, e, hB, rfl, he.1, he.2, _, rfl, b, rfl, !b, rfl, rfl, _, rfl, ifc (congrArg not (dC _ _)) (ite2 (fun h2 => ?_) (fun h2 => ?_))⟩
        · have h3 : ¬ cell bd e = some ⟨!b, .K⟩ := by simpa using h2
          rw [if_neg h3] at q
          exact q
        · have h3 : cell bd e = some ⟨!b, .K⟩ := by simpa using h2
          rw [if_pos h3] at q
          try dsimp only [gName, tSeq, tIfS, tRet, tAsg, tNext]
          refine tandV_of _ _ (fun Q' q' => ⟨_, rfl, rfl, qb (dI _ _) q'⟩) (fun _ Q' q' => tandV_of _ _ (fun Q'' q'' => ⟨_, rfl, _, rfl, b, rfl, _, fwd b, rfl, rfl, .inr ?_, _, 0, rfl, rfl, q''⟩) (fun _ Q'' q'' => ⟨_, rfl, _, rfl, _, rfl, a, bd, s, e, rfl, hB, hs, he, rfl, qb (dN _ 0) q''⟩) q') q
          unfold fwd
          split <;> omega
def sp_guard_goes : Sp := fun vs H Q _ => ∃ (b : Bool) (s e : Int), vs = [.str (sd b), .int s, .int e] ∧ Q (.bl (goA b s e)) H
theorem cal_guard_goes (h : Has K mg "guard_goes" s_guard_goes ["side", "start", "end"]) (T : Tx w K mg dM dS dT dL) (C_columns_apart : Cal P w K mg base 2 "columns_apart" ["start", "end"] sp_columns_apart) (C_rows_apart : Cal P w K mg base 2 "rows_apart" ["start", "end"] sp_rows_apart) (C_in_palace : Cal P w K mg base 2 "in_palace" ["side", "point"] sp_in_palace) : Cal P w K mg base 3 "guard_goes" ["side", "start", "end"] sp_guard_goes := by
  obtain ⟨f, fd, F, g, b⟩ := h.ex
  refine ⟨f, fd, F.ok sc_guard_goes (fun vs H Q E h => ?_) (fun cdv A outer s H vs Q E hr h => ?_), g, F.kp, b⟩
  · obtain ⟨b, s, e, rfl, _⟩ := h
    rfl
  · obtain ⟨b, s, e, rfl, q⟩ := h
    refine ⟨_, (pss_one (ps_ret (pe_and (pe_cmpR op_eq (pe_callB call_abs (by rfl) T.b_abs (by decide +kernel) (pa_cons (pe_cal C_columns_apart (hr.mono (by omega)) (by rfl) (pa_cons (pv 1) (pa_cons (pv 2) pa_nil))) pa_nil)) pe_int (nomark _)) (pe_and (pe_cmpR op_eq (pe_callB call_abs (by rfl) T.b_abs (by decide +kernel) (pa_cons (pe_cal C_rows_apart (hr.mono (by omega)) (by rfl) (pa_cons (pv 1) (pa_cons (pv 2) pa_nil))) pa_nil)) pe_int (nomark _)) (pe_one (pe_cal C_in_palace (hr.mono (by omega)) (by rfl) (pa_cons (pv 0) (pa_cons (pv 2) pa_nil)))))))), ?_⟩
    try dsimp only [gName, tSeq, tIfS, tRet, tAsg, tNext]
    exact tandV_of _ _ (fun Q' q' => ⟨_, rfl, _, rfl, s, e, rfl, _, rfl, rfl, qb (dI _ 1) q'⟩) (fun _ Q' q' => tandV_of _ _ (fun Q'' q'' => ⟨_, rfl, _, rfl, s, e, rfl, _, rfl, rfl, qb (dI _ 1) q''⟩) (fun _ Q'' q'' => ⟨_, rfl, _, rfl, b, e, rfl, q''⟩) q') q
def sp_elephant_goes : Sp := fun vs H Q _ => ∃ (a : V) (bd : Bd) (b : Bool) (s e : Int), vs = [a, .str (sd b), .int s, .int e] ∧ BdV a bd ∧ onB s ∧ onB e ∧ Q (.bl (goB bd b s e)) H
theorem cal_elephant_goes (h : Has K mg "elephant_goes" s_elephant_goes ["board", "side", "start", "end"]) (T : Tx w K mg dM dS dT dL) (C_columns_apart : Cal P w K mg base 2 "columns_apart" ["start", "end"] sp_columns_apart) (C_rows_apart : Cal P w K mg base 2 "rows_apart" ["start", "end"] sp_rows_apart) (C_on_own_half : Cal P w K mg base 2 "on_own_half" ["side", "point"] sp_on_own_half) : Cal P w K mg base 3 "elephant_goes" ["board", "side", "start", "end"] sp_elephant_goes := by
  obtain ⟨f, fd, F, g, b⟩ := h.ex
  refine ⟨f, fd, F.ok sc_elephant_goes (fun vs H Q E h => ?_) (fun cdv A outer s H vs Q E hr h => ?_), g, F.kp, b⟩
  · obtain ⟨a, bd, b, s, e, rfl, _⟩ := h
    rfl
  · obtain ⟨a, bd, b, s, e, rfl, hB, hs, he, q⟩ := h
    refine ⟨_, (pss_cons (ps_if (PW.pt (pw_or (pt_cmpR op_ne (pe_callB call_abs (by rfl) T.b_abs (by decide +kernel) (pa_cons (pe_cal C_columns_apart (hr.mono (by omega)) (by rfl) (pa_cons (pv 2) (pa_cons (pv 3) pa_nil))) pa_nil)) pe_int (nomark _)) (pw_or1 (pt_cmpR op_ne (pe_callB call_abs (by rfl) T.b_abs (by decide +kernel) (pa_cons (pe_cal C_rows_apart (hr.mono (by omega)) (by rfl) (pa_cons (pv 2) (pa_cons (pv 3) pa_nil))) pa_nil)) pe_int (nomark _))))) (pss_one (ps_ret pe_bl)) pss_nil) (pss_cons (ps_set (i := 4) sc_elephant_goes.nd rfl (Or.inl rfl) (pe_op op_fdiv (pe_op op_add (pv 2) (pv 3)) pe_int)) (pss_one (ps_ret (pe_and (pe_cmpR op_eq (pe_ix ix_bd (pv 0) (pv 4) (fun _ _ => rfl)) (pe_gs T.c_FREE) (nomark _)) (pe_one (pe_cal C_on_own_half (hr.mono (by omega)) (by rfl) (pa_cons (pv 1) (pa_cons (pv 3) pa_nil))))))))), ?_⟩
    try dsimp only [gName, tSeq, tIfS, tRet, tAsg, tNext]
    refine tor_of (!decide (iabs (acr s e) = 2)) (!decide (iabs (alo s e) = 2)) (fun Q' q' => ⟨_, rfl, _, rfl, s, e, rfl, _, rfl, rfl, _, rfl, ?_⟩) (fun _ Q' q' => ⟨_, rfl, _, rfl, s, e, rfl, _, rfl, rfl, _, rfl, ?_⟩) ?_
    · rw [dI]; exact q'
    · rw [dI]; exact q'
    · refine ite2 (fun h1 => ?_) (fun h1 => ?_)
      · refine qb (show false = goB bd b s e from ?_) q
        unfold goB
        rw [if_neg]
        intro z
        rw [decide_eq_true z.1, decide_eq_true z.2] at h1
        cases h1
      · have h2 : iabs (acr s e) = 2 ∧ iabs (alo s e) = 2 := by simpa using h1
        have hq : goB bd b s e = ((cell bd ((s + e) / 2)).isNone && ownHalf b e) := if_pos h2
        rw [hq] at q
        obtain ⟨hs0, hs1⟩ := hs
        obtain ⟨he0, he1⟩ := he
        refine ⟨_, rfl, _, rfl, _, _, rfl, rfl, _, 2, rfl, rfl, ⟨by decide, by decide⟩, ?_⟩
        try dsimp only [gName, tSeq, tIfS, tRet, tAsg, tNext]
        exact tandV_of _ _ (fun Q' q' => ⟨_, rfl, _, rfl, bd, _, hB, rfl, (by omega), (by omega), rfl, qb (dF _) q'⟩) (fun _ Q' q' => ⟨_, rfl, _, rfl, b, e, rfl, q'⟩) q
def sp_horse_goes : Sp := fun vs H Q _ => ∃ (a : V) (bd : Bd) (s e : Int), vs = [a, .int s, .int e] ∧ BdV a bd ∧ onB s ∧ onB e ∧ Q (.bl (goN bd s e)) H
theorem cal_horse_goes (h : Has K mg "horse_goes" s_horse_goes ["board", "start", "end"]) (T : Tx w K mg dM dS dT dL) (C_columns_apart : Cal P w K mg base 2 "columns_apart" ["start", "end"] sp_columns_apart) (C_rows_apart : Cal P w K mg base 2 "rows_apart" ["start", "end"] sp_rows_apart) (C_point_at : Cal P w K mg base 1 "point_at" ["column", "row"] sp_point_at) (C_column_of : Cal P w K mg base 1 "column_of" ["point"] sp_column_of) (C_row_of : Cal P w K mg base 1 "row_of" ["point"] sp_row_of) : Cal P w K mg base 3 "horse_goes" ["board", "start", "end"] sp_horse_goes := by
  obtain ⟨f, fd, F, g, b⟩ := h.ex
  refine ⟨f, fd, F.ok sc_horse_goes (fun vs H Q E h => ?_) (fun cdv A outer s H vs Q E hr h => ?_), g, F.kp, b⟩
  · obtain ⟨a, bd, s, e, rfl, _⟩ := h
    rfl
  · obtain ⟨a, bd, s, e, rfl, hB, ⟨hs0, hs1⟩, ⟨he0, he1⟩, q⟩ := h
    refine ⟨_, (pss_cons (ps_set (i := 3) sc_horse_goes.nd rfl (Or.inl rfl) (pe_cal C_columns_apart (hr.mono (by omega)) (by rfl) (pa_cons (pv 1) (pa_cons (pv 2) pa_nil)))) (pss_cons (ps_set (i := 4) sc_horse_goes.nd rfl (Or.inl rfl) (pe_cal C_rows_apart (hr.mono (by omega)) (by rfl) (pa_cons (pv 1) (pa_cons (pv 2) pa_nil)))) (pss_cons (ps_if (PW.pt (pw_and (pt_cmpR op_eq (pe_callB call_abs (by rfl) T.b_abs (by decide +kernel) (pa_cons (pv 3) pa_nil)) pe_int (nomark _)) (pw_and1 (pt_cmpR op_eq (pe_callB call_abs (by rfl) T.b_abs (by decide +kernel) (pa_cons (pv 4) pa_nil)) pe_int (nomark _))))) (pss_one (ps_ret (pe_cmpR op_eq (pe_ix ix_bd (pv 0) (pe_cal C_point_at (hr.mono (by omega)) (by rfl) (pa_cons (pe_op op_add (pe_cal C_column_of (hr.mono (by omega)) (by rfl) (pa_cons (pv 1) pa_nil)) (pe_op op_fdiv (pv 3) pe_int)) (pa_cons (pe_cal C_row_of (hr.mono (by omega)) (by rfl) (pa_cons (pv 1) pa_nil)) pa_nil))) (fun _ _ => rfl)) (pe_gs T.c_FREE) (nomark _)))) pss_nil) (pss_cons (ps_if (PW.pt (pw_and (pt_cmpR op_eq (pe_callB call_abs (by rfl) T.b_abs (by decide +kernel) (pa_cons (pv 3) pa_nil)) pe_int (nomark _)) (pw_and1 (pt_cmpR op_eq (pe_callB call_abs (by rfl) T.b_abs (by decide +kernel) (pa_cons (pv 4) pa_nil)) pe_int (nomark _))))) (pss_one (ps_ret (pe_cmpR op_eq (pe_ix ix_bd (pv 0) (pe_cal C_point_at (hr.mono (by omega)) (by rfl) (pa_cons (pe_cal C_column_of (hr.mono (by omega)) (by rfl) (pa_cons (pv 1) pa_nil)) (pa_cons (pe_op op_add (pe_cal C_row_of (hr.mono (by omega)) (by rfl) (pa_cons (pv 1) pa_nil)) (pe_op op_fdiv (pv 4) pe_int)) pa_nil))) (fun _ _ => rfl)) (pe_gs T.c_FREE) (nomark _)))) pss_nil) (pss_one (ps_ret pe_bl)))))), ?_⟩
    refine ⟨_, rfl, _, rfl, s, e, rfl, _, rfl, _, rfl, s, e, rfl, ?_⟩
    try dsimp only [gName, tSeq, tIfS, tRet, tAsg, tNext]
    refine tand_of (decide (iabs (acr s e) = 2)) (decide (iabs (alo s e) = 1)) (fun Q' q' => ⟨_, rfl, _, rfl, rfl, _, rfl, ?_⟩) (fun _ Q' q' => ⟨_, rfl, _, rfl, rfl, _, rfl, ?_⟩) ?_
    · rw [dI]; exact q'
    · rw [dI]; exact q'
    · refine ite2 (fun h1 => ?_) (fun h1 => ?_)
      · have h2 : iabs (acr s e) = 2 ∧ iabs (alo s e) = 1 := by simpa using h1
        have hq : goN bd s e = (cell bd ((s / 10 + acr s e / 2) * 10 + s % 10)).isNone := if_pos h2
        rw [hq] at q
        have h3 : iabs (acr s e) = 2 := h2.1
        unfold iabs at h3
        have hr3 : 0 ≤ s / 10 + acr s e / 2 ∧ s / 10 + acr s e / 2 ≤ 8 := by
          unfold acr at *
          split at h3 <;> omega
        exact ⟨_, rfl, _, rfl, s, rfl, _, rfl, _, 2, rfl, rfl, ⟨by decide, by decide⟩, _, _, rfl, rfl, _, rfl, s, rfl, _, _, rfl, ⟨by omega, by omega⟩, bd, _, hB, rfl, (by omega), (by omega), rfl, qb (dF _) q⟩
      · have hn : ¬ (iabs (acr s e) = 2 ∧ iabs (alo s e) = 1) := by simpa using h1
        try dsimp only [gName, tSeq, tIfS, tRet, tAsg, tNext]
        refine tand_of (decide (iabs (acr s e) = 1)) (decide (iabs (alo s e) = 2)) (fun Q' q' => ⟨_, rfl, _, rfl, rfl, _, rfl, ?_⟩) (fun _ Q' q' => ⟨_, rfl, _, rfl, rfl, _, rfl, ?_⟩) ?_
        · rw [dI]; exact q'
        · rw [dI]; exact q'
        · refine ite2 (fun h1 => ?_) (fun h1 => ?_)
          · have h2 : iabs (acr s e) = 1 ∧ iabs (alo s e) = 2 := by simpa using h1
            have hq : goN bd s e = (cell bd (s / 10 * 10 + (s % 10 + alo s e / 2))).isNone := (if_neg hn).trans (if_pos h2)
            rw [hq] at q
            have h3 : iabs (alo s e) = 2 := h2.2
            unfold iabs at h3
            have hr3 : 0 ≤ s % 10 + alo s e / 2 ∧ s % 10 + alo s e / 2 ≤ 9 := by
              unfold alo at *
              split at h3 <;> omega
            exact ⟨_, rfl, _, rfl, s, rfl, _, rfl, s, rfl, _, rfl, _, 2, rfl, rfl, ⟨by decide, by decide⟩, _, _, rfl, rfl, _, _, rfl, ⟨by omega, by omega⟩, bd, _, hB, rfl, (by omega), (by omega), rfl, qb (dF _) q⟩
          · have hn2 : ¬ (iabs (acr s e) = 1 ∧ iabs (alo s e) = 2) := by simpa using h1
            exact qb (show false = goN bd s e from ((if_neg hn).trans (if_neg hn2)).symm) q
def sp_chariot_goes : Sp := fun vs H Q _ => ∃ (a : V) (bd : Bd) (s e : Int), vs = [a, .int s, .int e] ∧ BdV a bd ∧ onB s ∧ onB e ∧ Q (.bl (goR bd s e)) H
theorem cal_chariot_goes (h : Has K mg "chariot_goes" s_chariot_goes ["board", "start", "end"]) (T : Tx w K mg dM dS dT dL) (C_in_line : Cal P w K mg base 2 "in_line" ["start", "end"] sp_in_line) (C_men_between : Cal P w K mg base 2 "men_between" ["board", "start", "end"] sp_men_between) : Cal P w K mg base 3 "chariot_goes" ["board", "start", "end"] sp_chariot_goes := by
  obtain ⟨f, fd, F, g, b⟩ := h.ex
  refine ⟨f, fd, F.ok sc_chariot_goes (fun vs H Q E h => ?_) (fun cdv A outer s H vs Q E hr h => ?_), g, F.kp, b⟩
  · obtain ⟨a, bd, s, e, rfl, _⟩ := h
    rfl
  · obtain ⟨a, bd, s, e, rfl, hB, hs, he, q⟩ := h
    refine ⟨_, (pss_one (ps_ret (pe_and (pe_cal C_in_line (hr.mono (by omega)) (by rfl) (pa_cons (pv 1) (pa_cons (pv 2) pa_nil))) (pe_one (pe_cmpR op_eq (pe_cal C_men_between (hr.mono (by omega)) (by rfl) (pa_cons (pv 0) (pa_cons (pv 1) (pa_cons (pv 2) pa_nil)))) pe_int (nomark _)))))), ?_⟩
    try dsimp only [gName, tSeq, tIfS, tRet, tAsg, tNext]
    exact tandV_of _ _ (fun Q' q' => ⟨_, rfl, _, rfl, s, e, rfl, q'⟩) (fun _ Q' q' => ⟨_, rfl, _, rfl, _, rfl, a, bd, s, e, rfl, hB, hs, he, rfl, qb (dN _ 0) q'⟩) q
def sp_cannon_goes : Sp := fun vs H Q _ => ∃ (a : V) (bd : Bd) (s e : Int), vs = [a, .int s, .int e] ∧ BdV a bd ∧ onB s ∧ onB e ∧ Q (.bl (goC bd s e)) H
theorem cal_cannon_goes (h : Has K mg "cannon_goes" s_cannon_goes ["board", "start", "end"]) (T : Tx w K mg dM dS dT dL) (C_in_line : Cal P w K mg base 2 "in_line" ["start", "end"] sp_in_line) (C_men_between : Cal P w K mg base 2 "men_between" ["board", "start", "end"] sp_men_between) : Cal P w K mg base 3 "cannon_goes" ["board", "start", "end"] sp_cannon_goes := by
  obtain ⟨f, fd, F, g, b⟩ := h.ex
  refine ⟨f, fd, F.ok sc_cannon_goes (fun vs H Q E h => ?_) (fun cdv A outer s H vs Q E hr h => ?_), g, F.kp, b⟩
  · obtain ⟨a, bd, s, e, rfl, _⟩ := h
    rfl
  · obtain ⟨a, bd, s, e, rfl, hB, hs, he, q⟩ := h
    refine ⟨_, (pss_cons (ps_if (pt_not (pt_val (pe_cal C_in_line (hr.mono (by omega)) (by rfl) (pa_cons (pv 1) (pa_cons (pv 2) pa_nil))))) (pss_one (ps_ret pe_bl)) pss_nil) (pss_cons (ps_set (i := 3) sc_cannon_goes.nd rfl (Or.inl rfl) (pe_ifExp (pt_cmpR op_eq (pe_ix ix_bd (pv 0) (pv 2) (fun _ _ => rfl)) (pe_gs T.c_FREE) (nomark _)) pe_int pe_int)) (pss_one (ps_ret (pe_cmpR op_eq (pe_cal C_men_between (hr.mono (by omega)) (by rfl) (pa_cons (pv 0) (pa_cons (pv 1) (pa_cons (pv 2) pa_nil)))) (pv 3) (nomark _)))))), ?_⟩
    refine ⟨_, rfl, _, rfl, s, e, rfl, _, rfl, ite2 (fun h1 => ?_) (fun h1 => ?_)⟩
    · refine qb (show false = goC bd s e from ?_) q
      unfold goC
      rw [if_neg (by simpa using h1)]
    · have h2 : line s e = true := by simpa using h1
      have hq : goC bd s e = decide (btw bd s e = if (cell bd e).isNone = true then 0 else 1) := if_pos h2
      rw [hq] at q
      refine ⟨_, rfl, _, rfl, bd, e, hB, rfl, he.1, he.2, rfl, _, rfl, ifc (dF _) (tif_int (k := ((if (cell bd e).isNone = true then 0 else 1 : Nat) : Int)) ?_ ?_)⟩
      · split <;> rfl
      · exact ⟨_, rfl, _, rfl, _, rfl, a, bd, s, e, rfl, hB, hs, he, _, rfl, rfl, qb (dN _ _) q⟩
def sp_soldier_goes : Sp := fun vs H Q _ => ∃ (b : Bool) (s e : Int), vs = [.str (sd b), .int s, .int e] ∧ Q (.bl (goP b s e)) H
theorem cal_soldier_goes (h : Has K mg "soldier_goes" s_soldier_goes ["side", "start", "end"]) (T : Tx w K mg dM dS dT dL) (C_columns_apart : Cal P w K mg base 2 "columns_apart" ["start", "end"] sp_columns_apart) (C_rows_apart : Cal P w K mg base 2 "rows_apart" ["start", "end"] sp_rows_apart) (C_forward : Cal P w K mg base 1 "forward" ["side"] sp_forward) (C_on_own_half : Cal P w K mg base 2 "on_own_half" ["side", "point"] sp_on_own_half) : Cal P w K mg base 3 "soldier_goes" ["side", "start", "end"] sp_soldier_goes := by
  obtain ⟨f, fd, F, g, b⟩ := h.ex
  refine ⟨f, fd, F.ok sc_soldier_goes (fun vs H Q E h => ?_) (fun cdv A outer s H vs Q E hr h => ?_), g, F.kp, b⟩
  · obtain ⟨b, s, e, rfl, _⟩ := h
    rfl
  · obtain ⟨b, s, e, rfl, q⟩ := h
    refine ⟨_, (pss_cons (ps_set (i := 3) sc_soldier_goes.nd rfl (Or.inl rfl) (pe_cal C_columns_apart (hr.mono (by omega)) (by rfl) (pa_cons (pv 1) (pa_cons (pv 2) pa_nil)))) (pss_cons (ps_set (i := 4) sc_soldier_goes.nd rfl (Or.inl rfl) (pe_cal C_rows_apart (hr.mono (by omega)) (by rfl) (pa_cons (pv 1) (pa_cons (pv 2) pa_nil)))) (pss_cons (ps_if (pt_cmpR op_eq (pv 3) pe_int (nomark _)) (pss_one (ps_ret (pe_cmpR op_eq (pv 4) (pe_cal C_forward (hr.mono (by omega)) (by rfl) (pa_cons (pv 0) pa_nil)) (nomark _)))) pss_nil) (pss_one (ps_ret (pe_and (pe_cmpR op_eq (pe_callB call_abs (by rfl) T.b_abs (by decide +kernel) (pa_cons (pv 3) pa_nil)) pe_int (nomark _)) (pe_and (pe_cmpR op_eq (pv 4) pe_int (nomark _)) (pe_one (pe_not (pe_cal C_on_own_half (hr.mono (by omega)) (by rfl) (pa_cons (pv 0) (pa_cons (pv 1) pa_nil)))))))))))), ?_⟩
    refine ⟨_, rfl, _, rfl, s, e, rfl, _, rfl, _, rfl, s, e, rfl, _, rfl, rfl, _, rfl, ifc (dI _ _) (ite2 (fun h1 => ?_) (fun h1 => ?_))⟩
    · have hq : goP b s e = decide (alo s e = fwd b) := if_pos (of_decide_eq_true h1)
      rw [hq] at q
      exact ⟨_, rfl, _, rfl, b, rfl, rfl, qb (dI _ _) q⟩
    · have hq : goP b s e = (decide (iabs (acr s e) = 1) && (decide (alo s e = 0) && !ownHalf b s)) := if_neg (fun z => h1 (decide_eq_true z))
      rw [hq] at q
      try dsimp only [gName, tSeq, tIfS, tRet, tAsg, tNext]
      exact tandV_of _ _ (fun Q' q' => ⟨_, rfl, _, rfl, rfl, qb (dI _ 1) q'⟩) (fun _ Q' q' => tandV_of _ _ (fun Q'' q'' => ⟨_, rfl, rfl, qb (dI _ 0) q''⟩) (fun _ Q'' q'' => ⟨_, rfl, _, rfl, b, s, rfl, _, rfl, q''⟩) q') q
def sp_could_go : Sp := fun vs H Q _ => ∃ (a : V) (bd : Bd) (m : Man) (s e : Int), vs = [a, .int s, .int e] ∧ BdV a bd ∧ onB s ∧ onB e ∧ cell bd s = some m ∧ Q (.bl (could bd m s e)) H
theorem cal_could_go (h : Has K mg "could_go" s_could_go ["board", "start", "end"]) (T : Tx w K mg dM dS dT dL) (C_side_of : Cal P w K mg base 1 "side_of" ["man"] sp_side_of) (C_stands_for : Cal P w K mg base 1 "stands_for" ["man", "side"] sp_stands_for) (C_general_goes : Cal P w K mg base 3 "general_goes" ["board", "side", "start", "end"] sp_general_goes) (C_guard_goes : Cal P w K mg base 3 "guard_goes" ["side", "start", "end"] sp_guard_goes)
    (C_elephant_goes : Cal P w K mg base 3 "elephant_goes" ["board", "side", "start", "end"] sp_elephant_goes) (C_horse_goes : Cal P w K mg base 3 "horse_goes" ["board", "start", "end"] sp_horse_goes) (C_chariot_goes : Cal P w K mg base 3 "chariot_goes" ["board", "start", "end"] sp_chariot_goes) (C_cannon_goes : Cal P w K mg base 3 "cannon_goes" ["board", "start", "end"] sp_cannon_goes) (C_soldier_goes : Cal P w K mg base 3 "soldier_goes" ["side", "start", "end"] sp_soldier_goes) : Cal P w K mg base 4 "could_go" ["board", "start", "end"] sp_could_go := by
  obtain ⟨f, fd, F, g, b⟩ := h.ex
  refine ⟨f, fd, F.ok sc_could_go (fun vs H Q E h => ?_) (fun cdv A outer s H vs Q E hr h => ?_), g, F.kp, b⟩
  · obtain ⟨a, bd, m, s, e, rfl, _⟩ := h
    rfl
  · obtain ⟨a, bd, m, s, e, rfl, hB, hs, he, hm, q⟩ := h
    refine ⟨_, (pss_cons (ps_set (i := 3) sc_could_go.nd rfl (Or.inl rfl) (pe_ix ix_bd (pv 0) (pv 1) (fun _ _ => rfl))) (pss_cons (ps_set (i := 4) sc_could_go.nd rfl (Or.inl rfl) (pe_cal C_side_of (hr.mono (by omega)) (by rfl) (pa_cons (pv 3) pa_nil))) (pss_cons (ps_if (pt_val (pe_cal C_stands_for (hr.mono (by omega)) (by rfl) (pa_cons (pe_ix ix_bd (pv 0) (pv 2) (fun _ _ => rfl)) (pa_cons (pv 4) pa_nil)))) (pss_one (ps_ret pe_bl)) pss_nil) (pss_cons (ps_set (i := 5) sc_could_go.nd rfl (Or.inl rfl) (pe_lower (pv 3))) (pss_cons (ps_if (pt_cmpR op_eq (pv 5) pe_str (nomark _)) (pss_one (ps_ret (pe_cal C_general_goes (hr.mono (by omega)) (by rfl) (pa_cons (pv 0) (pa_cons (pv 4) (pa_cons (pv 1) (pa_cons (pv 2) pa_nil))))))) pss_nil) (pss_cons (ps_if (pt_cmpR op_eq (pv 5) pe_str (nomark _)) (pss_one (ps_ret (pe_cal C_guard_goes (hr.mono (by omega)) (by rfl) (pa_cons (pv 4) (pa_cons (pv 1) (pa_cons (pv 2) pa_nil)))))) pss_nil) (pss_cons (ps_if (pt_cmpR op_eq (pv 5) pe_str (nomark _)) (pss_one (ps_ret (pe_cal C_elephant_goes (hr.mono (by omega)) (by rfl) (pa_cons (pv 0) (pa_cons (pv 4) (pa_cons (pv 1) (pa_cons (pv 2) pa_nil))))))) pss_nil) (pss_cons (ps_if (pt_cmpR op_eq (pv 5) pe_str (nomark _)) (pss_one (ps_ret (pe_cal C_horse_goes (hr.mono (by omega)) (by rfl) (pa_cons (pv 0) (pa_cons (pv 1) (pa_cons (pv 2) pa_nil)))))) pss_nil) (pss_cons (ps_if (pt_cmpR op_eq (pv 5) pe_str (nomark _)) (pss_one (ps_ret (pe_cal C_chariot_goes (hr.mono (by omega)) (by rfl) (pa_cons (pv 0) (pa_cons (pv 1) (pa_cons (pv 2) pa_nil)))))) pss_nil) (pss_cons (ps_if (pt_cmpR op_eq (pv 5) pe_str (nomark _)) (pss_one (ps_ret (pe_cal C_cannon_goes (hr.mono (by omega)) (by rfl) (pa_cons (pv 0) (pa_cons (pv 1) (pa_cons (pv 2) pa_nil)))))) pss_nil) (pss_one (ps_ret (pe_cal C_soldier_goes (hr.mono (by omega)) (by rfl) (pa_cons (pv 4) (pa_cons (pv 1) (pa_cons (pv 2) pa_nil)))))))))))))))), ?_⟩
    refine ⟨_, rfl, _, rfl, bd, s, hB, rfl, hs.1, hs.2, ?_⟩
    rw [hm]
    refine ⟨_, rfl, m, rfl, _, rfl, _, rfl, bd, e, hB, rfl, he.1, he.2, _, rfl, _, m.red, rfl, _, rfl, ite2 (fun h1 => ?_) (fun h1 => ?_)⟩
    · exact qb (show false = could bd m s e from (if_pos h1).symm) q
    · have hq : could bd m s e = goes bd m s e := if_neg h1
      rw [hq] at q
      refine ⟨_, rfl, ⟨_, rfl⟩, _, rfl, rfl, len_m _, ?_⟩
      rw [low_m]
      obtain ⟨r, k⟩ := m
      cases k with
      | K => exact ⟨_, rfl, rfl, _, rfl, ifc (yk .K) (iteT ⟨_, rfl, _, rfl, _, rfl, _, rfl, a, bd, r, s, e, rfl, hB, hs, he, q⟩)⟩
      | A => exact ⟨_, rfl, rfl, _, rfl, ifc (nk (a := .A) (b := .K) (by decide)) (iteF ⟨_, rfl, rfl, _, rfl, ifc (yk .A) (iteT ⟨_, rfl, _, rfl, _, rfl, r, s, e, rfl, q⟩)⟩)⟩
      | B => exact ⟨_, rfl, rfl, _, rfl, ifc (nk (a := .B) (b := .K) (by decide)) (iteF ⟨_, rfl, rfl, _, rfl, ifc (nk (a := .B) (b := .A) (by decide)) (iteF ⟨_, rfl, rfl, _, rfl, ifc (yk .B) (iteT ⟨_, rfl, _, rfl, _, rfl, _, rfl, a, bd, r, s, e, rfl, hB, hs, he, q⟩)⟩)⟩)⟩
      | N => exact ⟨_, rfl, rfl, _, rfl, ifc (nk (a := .N) (b := .K) (by decide)) (iteF ⟨_, rfl, rfl, _, rfl, ifc (nk (a := .N) (b := .A) (by decide)) (iteF ⟨_, rfl, rfl, _, rfl, ifc (nk (a := .N) (b := .B) (by decide)) (iteF ⟨_, rfl, rfl, _, rfl, ifc (yk .N) (iteT ⟨_, rfl, _, rfl, _, rfl, a, bd, s, e, rfl, hB, hs, he, q⟩)⟩)⟩)⟩)⟩
      | R => exact ⟨_, rfl, rfl, _, rfl, ifc (nk (a := .R) (b := .K) (by decide)) (iteF ⟨_, rfl, rfl, _, rfl, ifc (nk (a := .R) (b := .A) (by decide)) (iteF ⟨_, rfl, rfl, _, rfl, ifc (nk (a := .R) (b := .B) (by decide)) (iteF ⟨_, rfl, rfl, _, rfl, ifc (nk (a := .R) (b := .N) (by decide)) (iteF ⟨_, rfl, rfl, _, rfl, ifc (yk .R) (iteT ⟨_, rfl, _, rfl, _, rfl, a, bd, s, e, rfl, hB, hs, he, q⟩)⟩)⟩)⟩)⟩)⟩
      | C => exact ⟨_, rfl, rfl, _, rfl, ifc (nk (a := .C) (b := .K) (by decide)) (iteF ⟨_, rfl, rfl, _, rfl, ifc (nk (a := .C) (b := .A) (by decide)) (iteF ⟨_, rfl, rfl, _, rfl, ifc (nk (a := .C) (b := .B) (by decide)) (iteF ⟨_, rfl, rfl, _, rfl, ifc (nk (a := .C) (b := .N) (by decide)) (iteF ⟨_, rfl, rfl, _, rfl, ifc (nk (a := .C) (b := .R) (by decide)) (iteF ⟨_, rfl, rfl, _, rfl, ifc (yk .C) (iteT ⟨_, rfl, _, rfl, _, rfl, a, bd, s, e, rfl, hB, hs, he, q⟩)⟩)⟩)⟩)⟩)⟩)⟩
      | P => exact ⟨_, rfl, rfl, _, rfl, ifc (nk (a := .P) (b := .K) (by decide)) (iteF ⟨_, rfl, rfl, _, rfl, ifc (nk (a := .P) (b := .A) (by decide)) (iteF ⟨_, rfl, rfl, _, rfl, ifc (nk (a := .P) (b := .B) (by decide)) (iteF ⟨_, rfl, rfl, _, rfl, ifc (nk (a := .P) (b := .N) (by decide)) (iteF ⟨_, rfl, rfl, _, rfl, ifc (nk (a := .P) (b := .R) (by decide)) (iteF ⟨_, rfl, rfl, _, rfl, ifc (nk (a := .P) (b := .C) (by decide)) (iteF ⟨_, rfl, _, rfl, _, rfl, r, s, e, rfl, q⟩)⟩)⟩)⟩)⟩)⟩)⟩
end
end Tr

namespace Tr
open PySem PySem.Spec PyProof.Rows L2
open Sn32 (Man)
theorem sz (n : Nat) (h : n ≤ 1000000) : n ≤ sizeLine := by
  rw [sizeLine_eq]
  omega
theorem szl (n : Nat) (h : n ≤ 1000000) : n < sizeLine := by
  rw [sizeLine_eq]
  omega
theorem rgL_len (i c : Int) (n : Nat) : (rgL i c n).length = n := by
  unfold rgL
  rw [List.length_map, List.length_range]
theorem rgN_le {i j : Int} (hi : 0 ≤ i) (hj : j ≤ 90) : rgN i j 10 ≤ 10 := by
  unfold rgN
  split <;> omega
theorem inLine_len {p : Int} (h : on90 p) : (inLine p).length ≤ 30 := by
  unfold on90 at h
  unfold inLine
  rw [List.length_append, List.length_append, rgL_len, rgL_len, rgL_len]
  have h1 : rgN (p % 10) (p / 10 * 10 + 0) 10 ≤ 10 := rgN_le (by omega) (by omega)
  have h2 : rgN (p + 10) 90 10 ≤ 10 := rgN_le (by omega) (by omega)
  omega
theorem bySteps_len (p : Int) (st : List Int) : (bySteps p st).length ≤ st.length := by
  unfold bySteps
  rw [List.length_map]
  exact List.length_filter_le _ _
theorem take_more {α : Type} {l : List α} {i : Nat} {x : α} (h : l[i]? = some x) : l.take (i + 1) = l.take i ++ [x] := by
  rw [List.take_add_one, h]
  rfl
theorem at_int {ns : List Int} {i : Nat} {x : V} (h : (ns.map V.int)[i]? = some x) : ∃ z, ns[i]? = some z ∧ x = .int z := by
  rw [List.getElem?_map] at h
  cases e : ns[i]? with
  | none => rw [e] at h; cases h
  | some z => rw [e] at h; exact ⟨z, rfl, (Option.some.inj h).symm⟩
section
variable {P : Program} {w : World} {K : PySem.W.Frag} {mg : Str → Option Value} {base : Heap} {dM dS dT dL : Addr}
def sp_points_by_steps (K : PySem.W.Frag) : Sp := fun vs H Q _ => ∃ (p : Int) (t : Addr) (st : List Int), vs = [.int p, .ref t] ∧ KTI K t st ∧ st.length ≤ 100 ∧ ∀ H' l, Same H H' → H l = none → H' l = some (.lst ((bySteps p st).map V.int)) → Q (.ref l) H'
theorem cal_points_by_steps (h : Has K mg "points_by_steps" s_points_by_steps ["point", "steps"]) (T : Tx w K mg dM dS dT dL) : Cal P w K mg base 1 "points_by_steps" ["point", "steps"] (sp_points_by_steps K) := by
  obtain ⟨f, fd, F, g, b⟩ := h.ex
  refine ⟨f, fd, F.ok sc_points_by_steps (fun vs H Q E h => ?_) (fun cdv A outer s H vs Q E hr h => ?_), g, F.kp, b⟩
  · obtain ⟨p, t, st, rfl, _⟩ := h
    rfl
  · obtain ⟨p, t, st, rfl, hT, hlen, q⟩ := h
    refine ⟨_, (pss_one (ps_ret (pe_lc (own := [("step", 2)]) (g := gName 2) rfl sc_points_by_steps.nd (pi_tup (pv 1)) (blkOk_by (N := ["point", "steps", "step"]) (sc := defScope s_points_by_steps) (by decide +kernel)) (fun _ _ _ _ _ => pg_name (i := 2) sc_points_by_steps.nd rfl (Or.inl rfl)) (fun _ _ _ _ _ => (pts_one (pt_chain op_le op_lt pe_int (pe_op op_add (pv 0) (pv 2)) (pe_gi T.c_POINTS)))) (fun _ _ _ _ _ => (pe_op op_add (pv 0) (pv 2)))))), ?_⟩
    refine ⟨_, rfl, t, rfl, ⟨_, hT.sq⟩, fun D nD => ?_⟩
    refine lc_tup (K := K) (a := t) (xs := st.map V.int) (fun i H' => Same H H' ∧ H' D = some (.lst ((bySteps p (st.take i)).map V.int))) ?_ ?_ ?_ ?_
    · exact ⟨same_upd nD, upd_same⟩
    · rintro i H' _ _
      exact hT.sq
    · rintro i x H' hi ⟨sm, hD⟩
      obtain ⟨z, hz, rfl⟩ := at_int hi
      have fin : ∀ c : Bool, c = decide (0 ≤ p + z ∧ p + z < 90) → bySteps p (st.take (i + 1)) = bySteps p (st.take i) ++ (if c = true then [p + z] else []) := by
        intro c hc
        rw [take_more hz]
        unfold bySteps
        rw [List.filter_append, List.map_append, List.filter_cons, ← hc]
        cases c <;> rfl
      have hil : (bySteps p (st.take i)).length ≤ 100 := Nat.le_trans (bySteps_len _ _) (by rw [List.length_take]; omega)
      have no : ¬ (0 ≤ p + z ∧ p + z < 90) → Same H H' ∧ H' D = some (.lst ((bySteps p (st.take (i + 1))).map V.int)) := fun hn => by
        rw [fin false (decide_eq_false hn).symm, if_neg (by decide), List.append_nil]
        exact ⟨sm, hD⟩
      refine ⟨rfl, _, rfl, _, rfl, p, z, rfl, rfl, 0, p + z, rfl, rfl, _, rfl, ite2 (fun h1 => ⟨_, 90, rfl, rfl, _, rfl, ite2 (fun h2 => ?_) (fun h2 => ?_)⟩) (fun h1 => ⟨_, rfl, iteF (no fun z => h1 (decide_eq_true z.1))⟩)⟩
      · have h1 := of_decide_eq_true h1
        have h2 := of_decide_eq_true h2
        refine ⟨_, rfl, _, rfl, _, _, rfl, rfl, _, hD, szl _ (by rw [List.length_map]; omega), fun c o e => ?_, ?_⟩
        · rw [upd_ne (ne_of_none e nD)]
          exact sm c o e
        · rw [upd_same, fin true (decide_eq_true ⟨h1, h2⟩).symm, if_pos rfl, List.map_append]
          rfl
      · exact no fun z => h2 (decide_eq_true z.2)
    · rintro H' ⟨sm, hD⟩
      rw [List.length_map, List.take_length] at hD
      exact q H' D sm nD hD
def sp_points_in_line : Sp := fun vs H Q _ => ∃ p : Int, vs = [.int p] ∧ on90 p ∧ ∀ H' l, Same H H' → H l = none → H' l = some (.lst ((inLine p).map V.int)) → Q (.ref l) H'
theorem cal_points_in_line (h : Has K mg "points_in_line" s_points_in_line ["point"]) (T : Tx w K mg dM dS dT dL) (C_point_at : Cal P w K mg base 1 "point_at" ["column", "row"] sp_point_at) (C_column_of : Cal P w K mg base 1 "column_of" ["point"] sp_column_of) (C_row_of : Cal P w K mg base 1 "row_of" ["point"] sp_row_of) : Cal P w K mg base 2 "points_in_line" ["point"] sp_points_in_line := by
  obtain ⟨f, fd, F, g, b⟩ := h.ex
  refine ⟨f, fd, F.ok sc_points_in_line (fun vs H Q E h => ?_) (fun cdv A outer s H vs Q E hr h => ?_), g, F.kp, b⟩
  · obtain ⟨p, rfl, _⟩ := h
    rfl
  · obtain ⟨p, rfl, hp, q⟩ := h
    refine ⟨_, (pss_cons (ps_set (i := 1) sc_points_in_line.nd rfl (Or.inl rfl) (pe_cal C_point_at (hr.mono (by omega)) (by rfl) (pa_cons (pe_cal C_column_of (hr.mono (by omega)) (by rfl) (pa_cons (pv 0) pa_nil)) (pa_cons pe_int pa_nil)))) (pss_cons (ps_set (i := 2) sc_points_in_line.nd rfl (Or.inl rfl) (pe_listR3 rfl (by rfl) T.b_list (by decide +kernel) (by rfl) T.b_range (pa_cons (pe_cal C_row_of (hr.mono (by omega)) (by rfl) (pa_cons (pv 0) pa_nil)) (pa_cons (pv 1) (pa_cons (pe_gi T.c_ROWS) pa_nil))))) (pss_one (ps_ret (pe_op op_cat (pe_op op_cat (pv 2) (pe_listR2 rfl (by rfl) T.b_list (by decide +kernel) (by rfl) T.b_range (pa_cons (pv 1) (pa_cons (pe_op op_add (pv 1) (pe_gi T.c_ROWS)) pa_nil)))) (pe_listR3 rfl (by rfl) T.b_list (by decide +kernel) (by rfl) T.b_range (pa_cons (pe_op op_add (pv 0) (pe_gi T.c_ROWS)) (pa_cons (pe_gi T.c_POINTS) (pa_cons (pe_gi T.c_ROWS) pa_nil))))))))), ?_⟩
    have hp' := hp
    unfold on90 at hp'
    refine ⟨_, rfl, p, rfl, _, _, rfl, ⟨by omega, by omega⟩, ?_⟩
    have n1 : rgN (p % 10) (p / 10 * 10 + 0) 10 ≤ 10 := rgN_le (by omega) (by omega)
    have n3 : rgN (p + 10) 90 10 ≤ 10 := rgN_le (by omega) (by omega)
    have r2 : RgC (p / 10 * 10 + 0) (p / 10 * 10 + 0 + 10) 1 10 := by
      have e := rgC_of (i := p / 10 * 10 + 0) (j := p / 10 * 10 + 0 + 10) (c := 1) (.inl rfl) (by omega) (by omega)
      rw [if_pos (by omega), show ((p / 10 * 10 + 0 + 10 - (p / 10 * 10 + 0) - 1) / 1 + 1 : Int) = 10 by omega] at e
      exact e
    refine ⟨_, rfl, p, rfl, _, rfl, _, _, _, rgN (p % 10) (p / 10 * 10 + 0) 10, rfl, rgC_of (.inr rfl) (by omega) (by omega), by omega, fun l1 f1 => ?_⟩
    have s1 : Same H (upd H l1 (.lst ((rgL (p % 10) 10 (rgN (p % 10) (p / 10 * 10 + 0) 10)).map V.int))) := same_upd f1
    refine ⟨_, rfl, _, rfl, _, rfl, _, _, rfl, rfl, _, _, 10, rfl, r2, by decide, fun l2 f2 => ?_⟩
    have s2 := same_upd (o := .lst ((rgL (p / 10 * 10 + 0) 1 10).map V.int)) f2
    refine ⟨l1, l2, _, _, rfl, rfl, s2 _ _ upd_same, upd_same, sz _ ?_, fun l3 f3 => ?_⟩
    · rw [List.length_map, List.length_map, List.length_map, List.length_map, List.length_range, List.length_range]
      omega
    have s3 := same_upd (o := .lst ((rgL (p % 10) 10 (rgN (p % 10) (p / 10 * 10 + 0) 10)).map V.int ++ (rgL (p / 10 * 10 + 0) 1 10).map V.int)) f3
    refine ⟨_, rfl, _, _, rfl, rfl, _, _, _, rgN (p + 10) 90 10, rfl, rgC_of (.inr rfl) (by omega) (by omega), by omega, fun l4 f4 => ?_⟩
    have s4 := same_upd (o := .lst ((rgL (p + 10) 10 (rgN (p + 10) 90 10)).map V.int)) f4
    refine ⟨l3, l4, _, _, rfl, rfl, s4 _ _ upd_same, upd_same, sz _ ?_, fun l5 f5 => ?_⟩
    · rw [List.length_append, List.length_map, List.length_map, List.length_map, List.length_map, List.length_map, List.length_map, List.length_range, List.length_range, List.length_range]
      omega
    refine q _ l5 (s1.trans (s2.trans (s3.trans (s4.trans (same_upd f5))))) (s1.free (s2.free (s3.free (s4.free f5)))) ?_
    rw [upd_same]
    unfold inLine
    rw [List.map_append, List.map_append]
    rfl
def sp_ends_to_try : Sp := fun vs H Q _ => ∃ (m : Man) (p : Int), vs = [mV (some m), .int p] ∧ on90 p ∧ ∀ H' l, Same H H' → H l = none → H' l = some (.lst ((endsTry m p).map V.int)) → Q (.ref l) H'
theorem cal_ends_to_try (h : Has K mg "ends_to_try" s_ends_to_try ["man", "start"]) (T : Tx w K mg dM dS dT dL) (C_points_by_steps : Cal P w K mg base 1 "points_by_steps" ["point", "steps"] (sp_points_by_steps K)) (C_points_in_line : Cal P w K mg base 2 "points_in_line" ["point"] sp_points_in_line) : Cal P w K mg base 3 "ends_to_try" ["man", "start"] sp_ends_to_try := by
  obtain ⟨f, fd, F, g, b⟩ := h.ex
  refine ⟨f, fd, F.ok sc_ends_to_try (fun vs H Q E h => ?_) (fun cdv A outer s H vs Q E hr h => ?_), g, F.kp, b⟩
  · obtain ⟨m, p, rfl, _⟩ := h
    rfl
  · obtain ⟨m, p, rfl, hp, q⟩ := h
    refine ⟨_, (pss_cons (ps_set (i := 2) sc_ends_to_try.nd rfl (Or.inl rfl) (pe_lower (pv 0))) (pss_cons (ps_if (pt_cmpR (op_in_kdt T.d_STEPS) (pv 2) (pe_gr T.c_STEPS) (by rfl)) (pss_one (ps_ret (pe_cal C_points_by_steps (hr.mono (by omega)) (by rfl) (pa_cons (pv 1) (pa_cons (pe_ix (ix_kdt T.d_STEPS) (pe_gr T.c_STEPS) (pv 2) (fun _ _ => rfl)) pa_nil))))) pss_nil) (pss_one (ps_ret (pe_cal C_points_in_line (hr.mono (by omega)) (by rfl) (pa_cons (pv 1) pa_nil)))))), ?_⟩
    refine ⟨_, rfl, ⟨_, rfl⟩, _, rfl, rfl, len_m _, ?_⟩
    rw [low_m]
    refine ⟨_, rfl, m.kind, rfl, rfl, _, rfl, ite2 (fun h1 => ?_) (fun h1 => ?_)⟩
    · obtain ⟨st, hst⟩ := Option.isSome_iff_exists.mp h1
      have he : endsTry m p = bySteps p st := by
        unfold endsTry
        rw [hst]
      have hsl : st.length ≤ 100 := by
        obtain ⟨r, k⟩ := m
        cases k <;> cases hst <;> decide
      rw [he] at q
      exact ⟨_, rfl, _, rfl, m.kind, st, rfl, rfl, hst, fun a ha => ⟨p, a, st, rfl, ha, hsl, q⟩⟩
    · have hst : stepsK m.kind = none := by
        cases e : stepsK m.kind with
        | none => rfl
        | some st => rw [e] at h1; exact absurd rfl h1
      have he : endsTry m p = inLine p := by
        unfold endsTry
        rw [hst]
      rw [he] at q
      exact ⟨_, rfl, p, rfl, hp, q⟩
def sp_starts_to_try : Sp := fun vs H Q _ => ∃ (p : Int), vs = [.int p] ∧ on90 p ∧ ∀ H' l, Same H H' → H l = none → H' l = some (.lst ((startsTry p).map V.int)) → Q (.ref l) H'
theorem cal_starts_to_try (h : Has K mg "starts_to_try" s_starts_to_try ["end"]) (T : Tx w K mg dM dS dT dL) (C_points_by_steps : Cal P w K mg base 1 "points_by_steps" ["point", "steps"] (sp_points_by_steps K)) (C_points_in_line : Cal P w K mg base 2 "points_in_line" ["point"] sp_points_in_line) : Cal P w K mg base 3 "starts_to_try" ["end"] sp_starts_to_try := by
  obtain ⟨f, fd, F, g, b⟩ := h.ex
  refine ⟨f, fd, F.ok sc_starts_to_try (fun vs H Q E h => ?_) (fun cdv A outer s H vs Q E hr h => ?_), g, F.kp, b⟩
  · obtain ⟨p, rfl, _⟩ := h
    rfl
  · obtain ⟨p, rfl, hp, q⟩ := h
    refine ⟨_, (pss_one (ps_ret (pe_op op_cat (pe_cal C_points_in_line (hr.mono (by omega)) (by rfl) (pa_cons (pv 0) pa_nil)) (pe_cal C_points_by_steps (hr.mono (by omega)) (by rfl) (pa_cons (pv 0) (pa_cons (pe_gr T.c_SLANTED_STEPS) pa_nil)))))), ?_⟩
    refine ⟨_, rfl, p, rfl, hp, fun H1 l1 s1 f1 e1 => ⟨_, rfl, p, dL, slantT, rfl, T.d_SLANTED_STEPS, by decide, fun H2 l2 s2 f2 e2 => ⟨l1, l2, _, _, rfl, rfl, s2 _ _ e1, e2, sz _ ?_, fun l3 f3 => ?_⟩⟩⟩
    · rw [List.length_map, List.length_map]
      have h1 := inLine_len hp
      have h2 := bySteps_len p slantT
      have h3 : slantT.length = 16 := rfl
      omega
    · refine q _ l3 (s1.trans (s2.trans (same_upd f3))) (s1.free (s2.free f3)) ?_
      rw [upd_same]
      unfold startsTry
      rw [List.map_append]
end
end Tr

namespace Tr
open PySem PySem.Spec PyProof.Rows L2
open Sn32 (Man)
/-! ### facts of boards -/
theorem gen_cell {bd : Bd} {b : Bool} (hl : bd.length = 90) (h : gen bd b < 90) : cell bd (gen bd b : Int) = some ⟨b, .K⟩ := by
  unfold cell
  rw [Int.toNat_natCast, gen_at (by omega)]
  rfl
theorem gen_lt {bd : Bd} {b : Bool} {n : Nat} (h : bd[n]? = some (some ⟨b, .K⟩)) : gen bd b < bd.length := by
  unfold gen
  refine List.findIdx_lt_length_of_exists ?_
  exact ⟨_, List.mem_of_getElem? h, beq_self_eq_true _⟩
theorem stands_some {c : Cell} {b : Bool} (h : stands c b = true) : ∃ m : Man, c = some m ∧ m.red = b := by
  cases c with
  | none => cases h
  | some m => exact ⟨m, rfl, eq_of_beq h⟩
theorem gen_after {bd : Bd} {b : Bool} {s e : Int} (hl : bd.length = 90) (hs : onB s) (he : onB e) (hst : stands (cell bd s) b = true) (hc : couldAt bd s e = true) (hg : gen bd b < 90) : gen (after bd s e) b < 90 := by
  obtain ⟨m, hm, hr⟩ := stands_some hst
  unfold onB at hs he
  have hne : stands (cell bd e) b = false := by
    unfold couldAt at hc
    rw [hm] at hc
    simp only [could] at hc
    rw [hr] at hc
    split at hc
    · cases hc
    · rename_i h
      exact Bool.eq_false_iff.mpr h
  have hse : s.toNat ≠ e.toNat := by
    intro z
    have : s = e := by omega
    rw [this, hne] at hst
    cases hst
  have hat := gen_at (bd := bd) (b := b) (by omega)
  rw [← hl, ← after_len bd s e]
  by_cases hgs : gen bd b = s.toNat
  · refine gen_lt (n := e.toNat) ?_
    have hcs : cell bd s = some ⟨b, .K⟩ := by
      unfold cell
      rw [← hgs, hat]
      rfl
    unfold after
    rw [List.getElem?_set_ne hse, List.getElem?_set_self (by omega), hcs]
  · have hge : gen bd b ≠ e.toNat := by
      intro z
      have : cell bd e = some ⟨b, .K⟩ := by
        unfold cell
        rw [← z, hat]
        rfl
      rw [this] at hne
      simp [stands] at hne
    refine gen_lt (n := gen bd b) ?_
    unfold after
    rw [List.getElem?_set_ne (fun z => hgs z.symm), List.getElem?_set_ne (fun z => hge z.symm)]
    exact hat
/-! ### lists of pairs in the heap -/
def Prs (H : Hp) : List V → List (Int × Int) → Prop
  | [], [] => True
  | x :: xs, m :: ms => (∃ t, x = .ref t ∧ H t = some (.tup [.int m.1, .int m.2])) ∧ Prs H xs ms
  | _, _ => False
theorem Prs.imp {H H' : Hp} (h : ∀ t m n, H t = some (.tup [.int m, .int n]) → H' t = some (.tup [.int m, .int n])) : ∀ {xs : List V} {ms : List (Int × Int)}, Prs H xs ms → Prs H' xs ms
  | [], [], _ => trivial
  | _ :: _, _ :: _, ⟨⟨t, e, ht⟩, r⟩ => ⟨⟨t, e, h _ _ _ ht⟩, r.imp h⟩
  | [], _ :: _, z => z.elim
  | _ :: _, [], z => z.elim
theorem Prs.same {H H' : Hp} (h : Same H H') {xs : List V} {ms : List (Int × Int)} (p : Prs H xs ms) : Prs H' xs ms := p.imp fun t _ _ e => h t _ e
theorem Prs.set {H : Hp} {l : Addr} {ys zs : List V} (hl : H l = some (.lst ys)) {xs : List V} {ms : List (Int × Int)} (p : Prs H xs ms) : Prs (upd H l (.lst zs)) xs ms := p.imp fun t m n e => by
  rw [upd_ne (ne_of e hl (by intro z; cases z))]
  exact e
theorem Prs.app {H : Hp} : ∀ {xs : List V} {ms : List (Int × Int)} {ys : List V} {ns : List (Int × Int)}, Prs H xs ms → Prs H ys ns → Prs H (xs ++ ys) (ms ++ ns)
  | [], [], _, _, _, q => q
  | _ :: _, _ :: _, _, _, ⟨a, r⟩, q => ⟨a, r.app q⟩
  | [], _ :: _, _, _, z, _ => z.elim
  | _ :: _, [], _, _, z, _ => z.elim
theorem Prs.len {H : Hp} : ∀ {xs : List V} {ms : List (Int × Int)}, Prs H xs ms → xs.length = ms.length
  | [], [], _ => rfl
  | _ :: _, _ :: _, ⟨_, r⟩ => congrArg (· + 1) r.len
  | [], _ :: _, z => z.elim
  | _ :: _, [], z => z.elim
theorem Prs.get {H : Hp} : ∀ {xs : List V} {ms : List (Int × Int)} {i : Nat} {x : V}, Prs H xs ms → xs[i]? = some x → ∃ t m, x = .ref t ∧ ms[i]? = some m ∧ H t = some (.tup [.int m.1, .int m.2])
  | x :: _, m :: _, 0, _, ⟨⟨t, e, ht⟩, _⟩, h => ⟨t, m, (Option.some.inj h).symm.trans e, rfl, ht⟩
  | _ :: _, _ :: _, i + 1, _, ⟨_, r⟩, h => r.get (i := i) h
  | [], [], _, _, _, h => by cases h
  | [], _ :: _, _, _, z, _ => z.elim
  | _ :: _, [], _, _, z, _ => z.elim
section
variable {P : Program} {w : World} {K : PySem.W.Frag} {mg : Str → Option Value} {base : Heap} {dM dS dT dL : Addr}
theorem onB_90 {p : Int} (h : on90 p) : onB p := h
def sp_general_is_reached : Sp := fun vs H Q _ => ∃ (a : V) (bd : Bd) (b : Bool), vs = [a, .str (sd b)] ∧ BdV a bd ∧ ∀ H', Same H H' → Q (.bl (reachedG bd b)) H'
theorem cal_general_is_reached (h : Has K mg "general_is_reached" s_general_is_reached ["board", "side"]) (T : Tx w K mg dM dS dT dL) (C_general_of : Cal P w K mg base 1 "general_of" ["side"] sp_general_of) (C_other_side : Cal P w K mg base 1 "other_side" ["side"] sp_other_side) (C_stands_for : Cal P w K mg base 1 "stands_for" ["man", "side"] sp_stands_for) (C_could_go : Cal P w K mg base 4 "could_go" ["board", "start", "end"] sp_could_go) (C_starts_to_try : Cal P w K mg base 3 "starts_to_try" ["end"] sp_starts_to_try) : Cal P w K mg base 5 "general_is_reached" ["board", "side"] sp_general_is_reached := by
  obtain ⟨f, fd, F, g, b⟩ := h.ex
  refine ⟨f, fd, F.ok sc_general_is_reached (fun vs H Q E h => ?_) (fun cdv A outer s H vs Q E hr h => ?_), g, F.kp, b⟩
  · obtain ⟨a, bd, b, rfl, _⟩ := h
    rfl
  · obtain ⟨a, bd, b, rfl, ⟨rfl, hl⟩, q⟩ := h
    have hB : BdV (.str (bS bd)) bd := ⟨rfl, hl⟩
    refine ⟨_, (pss_cons (ps_if (pt_cmpR op_notIn_bd (pe_cal C_general_of (hr.mono (by omega)) (by rfl) (pa_cons (pv 1) pa_nil)) (pv 0) (by rfl)) (pss_one (ps_ret pe_bl)) pss_nil) (pss_cons (ps_set (i := 2) sc_general_is_reached.nd rfl (Or.inl rfl) (pe_bm PySem.F.plainAttrs_str PySem.F.slot_str_index PySem.F.type_str_index mt_index_bd (pv 0) (pa_cons (pe_cal C_general_of (hr.mono (by omega)) (by rfl) (pa_cons (pv 1) pa_nil)) pa_nil))) (pss_cons (ps_set (i := 3) sc_general_is_reached.nd rfl (Or.inl rfl) (pe_cal C_other_side (hr.mono (by omega)) (by rfl) (pa_cons (pv 1) pa_nil))) (pss_cons (ps_for PassesOwn.never rfl (pi_list (pe_cal C_starts_to_try (hr.mono (by omega)) (by rfl) (pa_cons (pv 2) pa_nil))) (pg_name (i := 4) sc_general_is_reached.nd rfl (Or.inl rfl)) (pss_one (ps_if (PW.pt (pw_and (pt_val (pe_cal C_stands_for (hr.mono (by omega)) (by rfl) (pa_cons (pe_ix ix_bd (pv 0) (pv 4) (fun _ _ => rfl)) (pa_cons (pv 3) pa_nil)))) (pw_and1 (pt_val (pe_cal C_could_go (hr.mono (by omega)) (by rfl) (pa_cons (pv 0) (pa_cons (pv 4) (pa_cons (pv 2) pa_nil)))))))) (pss_one (ps_ret pe_bl)) pss_nil))) (pss_one (ps_ret pe_bl)))))), ?_⟩
    refine ⟨_, rfl, b, rfl, _, rfl, some ⟨b, .K⟩, bd, rfl, hB, _, rfl, ifc (b := !decide (gen bd b < 90)) (congrArg not (mem_gen hl)) (ite2 (fun h0 => ?_) (fun h0 => ?_))⟩
    · refine qb (show false = reachedG bd b from ?_) (q H (Same.refl H))
      unfold reachedG
      rw [if_neg (by simpa using h0)]
    have hg : gen bd b < 90 := by simpa using h0
    have q : ∀ H', Same H H' → Q (.bl (reached bd b)) H' := by
      unfold reachedG at q
      rw [if_pos hg] at q
      exact q
    have hg9 : on90 (gen bd b : Int) := ⟨by omega, by omega⟩
    refine ⟨_, rfl, rfl, _, rfl, b, rfl, bd, b, hB, rfl, hg, _, rfl, b, rfl, _, rfl, (gen bd b : Int), rfl, hg9, fun H1 l s1 f1 e1 => ⟨l, rfl, ⟨_, SqL.of e1⟩, ?_⟩⟩
    refine for_list (K := K) (a := l) (xs := (startsTry (gen bd b : Int)).map V.int) (fun i σ H' => H' = H1 ∧ (∀ (j : Nat) (x : Int), j < i → (startsTry (gen bd b : Int))[j]? = some x → (stands (cell bd x) (!b) && couldAt bd x (gen bd b : Int)) = false) ∧ ∃ v, σ = [some (.str (bS bd)), some (.str (sd b)), some (.int (gen bd b : Nat)), some (.str (sd (!b))), v])
        ⟨rfl, fun j _ hj => absurd hj (Nat.not_lt_zero j), none, rfl⟩ ?_ ?_ ?_
    · rintro i σ H' _ ⟨rfl, _⟩
      exact SqL.of e1
    · rintro i x σ H' hi ⟨rfl, hp, v, rfl⟩
      obtain ⟨z, hz, rfl⟩ := at_int hi
      try dsimp only [gName, tSeq, tIfS, tRet, tAsg, tNext]
      have hz0 : onB z := startsTry_on hg9 (List.mem_of_getElem? hz)
      refine tand_of (stands (cell bd z) (!b)) (couldAt bd z (gen bd b : Int)) (fun Q' q' => ⟨_, rfl, _, rfl, bd, z, hB, rfl, hz0.1, hz0.2, _, rfl, _, !b, rfl, _, rfl, q'⟩) (fun h1 Q' q' => ?_) ?_
      · obtain ⟨m, hm, _⟩ := stands_some h1
        refine ⟨_, rfl, _, rfl, _, rfl, _, bd, m, _, _, rfl, hB, hz0, hg9, hm, _, rfl, ?_⟩
        have e : couldAt bd z (gen bd b : Int) = could bd m z (gen bd b : Int) := by
          unfold couldAt
          rw [hm]
        rw [← e]
        exact q'
      · refine ite2 (fun h1 => ?_) (fun h1 => ?_)
        · refine qb (show true = reached bd b from ?_) (q _ s1)
          rw [← reached_starts hg]
          exact (List.any_eq_true.mpr ⟨z, List.mem_of_getElem? hz, h1⟩).symm
        · refine ⟨rfl, fun j x hj hx => ?_, some (.int z), rfl⟩
          by_cases hji : j < i
          · exact hp j x hji hx
          · have : j = i := by omega
            subst this
            rw [hz] at hx
            cases hx
            exact Bool.eq_false_iff.mpr h1
    · rintro σ H' ⟨rfl, hp, v, rfl⟩
      refine qb (show false = reached bd b from ?_) (q _ s1)
      rw [← reached_starts hg]
      refine (Bool.eq_false_iff.mpr fun z => ?_).symm
      obtain ⟨x, hx, h1⟩ := List.any_eq_true.mp z
      obtain ⟨j, hj⟩ := List.mem_iff_getElem?.mp hx
      rw [hp j x (by rw [List.length_map]; exact (List.getElem?_eq_some_iff.mp hj).1) hj] at h1
      cases h1
def sp_may_move : Sp := fun vs H Q _ => ∃ (a : V) (bd : Bd) (b : Bool) (s e : Int), vs = [a, .str (sd b), .int s, .int e] ∧ BdV a bd ∧ onB s ∧ onB e ∧ stands (cell bd s) b = true ∧
  ∀ H', Same H H' → Q (.bl (mayMoveG bd b s e)) H'
theorem cal_may_move (h : Has K mg "may_move" s_may_move ["board", "side", "start", "end"]) (T : Tx w K mg dM dS dT dL) (C_could_go : Cal P w K mg base 4 "could_go" ["board", "start", "end"] sp_could_go) (C_after_move : Cal P w K mg base 1 "after_move" ["board", "start", "end"] sp_after_move) (C_general_is_reached : Cal P w K mg base 5 "general_is_reached" ["board", "side"] sp_general_is_reached) : Cal P w K mg base 6 "may_move" ["board", "side", "start", "end"] sp_may_move := by
  obtain ⟨f, fd, F, g, b⟩ := h.ex
  refine ⟨f, fd, F.ok sc_may_move (fun vs H Q E h => ?_) (fun cdv A outer s H vs Q E hr h => ?_), g, F.kp, b⟩
  · obtain ⟨a, bd, b, s, e, rfl, _⟩ := h
    rfl
  · obtain ⟨a, bd, b, s, e, rfl, hB, hs, he, hst, q⟩ := h
    refine ⟨_, (pss_cons (ps_if (pt_not (pt_val (pe_cal C_could_go (hr.mono (by omega)) (by rfl) (pa_cons (pv 0) (pa_cons (pv 2) (pa_cons (pv 3) pa_nil)))))) (pss_one (ps_ret pe_bl)) pss_nil) (pss_one (ps_ret (pe_not (pe_cal C_general_is_reached (hr.mono (by omega)) (by rfl) (pa_cons (pe_cal C_after_move (hr.mono (by omega)) (by rfl) (pa_cons (pv 0) (pa_cons (pv 2) (pa_cons (pv 3) pa_nil)))) (pa_cons (pv 1) pa_nil))))))), ?_⟩
    obtain ⟨m, hm, hr'⟩ := stands_some hst
    have ec : couldAt bd s e = could bd m s e := by
      unfold couldAt
      rw [hm]
    refine ⟨_, rfl, _, rfl, _, rfl, a, bd, m, s, e, rfl, hB, hs, he, hm, _, rfl, ite2 (fun h1 => ?_) (fun h1 => ?_)⟩
    · refine qb (show false = mayMoveG bd b s e from ?_) (q H (Same.refl H))
      unfold mayMoveG
      rw [if_neg]
      rw [ec]
      simpa using h1
    · have hc : couldAt bd s e = true := by rw [ec]; simpa using h1
      have hq : mayMoveG bd b s e = !reachedG (after bd s e) b := if_pos hc
      rw [hq] at q
      exact ⟨_, rfl, _, rfl, _, rfl, a, bd, s, e, rfl, hB, hs, he, fun H' x sm hx => ⟨_, rfl, x, after bd s e, b, rfl, hx, fun H2 s2 => ⟨_, rfl, q H2 (sm.trans s2)⟩⟩⟩
def sp_moves_from : Sp := fun vs H Q _ => ∃ (a : V) (bd : Bd) (b : Bool) (s : Int), vs = [a, .str (sd b), .int s] ∧ BdV a bd ∧ onB s ∧ stands (cell bd s) b = true ∧
  ∀ H' p xs, Same H H' → H p = none → H' p = some (.lst xs) → Prs H' xs (movesFromG bd b s) → Q (.ref p) H'
theorem endsTry_len {m : Man} {s : Int} (hs : on90 s) : (endsTry m s).length ≤ 100 := by
  unfold endsTry
  split
  · rename_i st hst
    refine Nat.le_trans (bySteps_len _ _) ?_
    obtain ⟨r, k⟩ := m
    cases k <;> cases hst <;> decide
  · exact Nat.le_trans (inLine_len hs) (by decide)
theorem cal_moves_from (h : Has K mg "moves_from" s_moves_from ["board", "side", "start"]) (T : Tx w K mg dM dS dT dL) (C_may_move : Cal P w K mg base 6 "may_move" ["board", "side", "start", "end"] sp_may_move) (C_ends_to_try : Cal P w K mg base 3 "ends_to_try" ["man", "start"] sp_ends_to_try) : Cal P w K mg base 7 "moves_from" ["board", "side", "start"] sp_moves_from := by
  obtain ⟨f, fd, F, g, b⟩ := h.ex
  refine ⟨f, fd, F.ok sc_moves_from (fun vs H Q E h => ?_) (fun cdv A outer s H vs Q E hr h => ?_), g, F.kp, b⟩
  · obtain ⟨a, bd, b, s, rfl, _⟩ := h
    rfl
  · obtain ⟨a, bd, b, s, rfl, hB, hs, hst, q⟩ := h
    refine ⟨_, (pss_one (ps_ret (pe_lc (own := [("end", 3)]) (g := gName 3) rfl sc_moves_from.nd (pi_list (pe_cal C_ends_to_try (hr.mono (by omega)) (by rfl) (pa_cons (pe_ix ix_bd (pv 0) (pv 2) (fun _ _ => rfl)) (pa_cons (pv 2) pa_nil)))) (blkOk_by (N := ["board", "side", "start", "end"]) (sc := defScope s_moves_from) (by decide +kernel)) (fun _ _ _ _ _ => pg_name (i := 3) sc_moves_from.nd rfl (Or.inl rfl)) (fun _ _ _ _ _ => (pts_one (pt_val (pe_cal C_may_move (hr.mono (by omega)) (by rfl) (pa_cons (pv 0) (pa_cons (pv 1) (pa_cons (pv 2) (pa_cons (pv 3) pa_nil)))))))) (fun _ _ _ _ _ => (pe_tup (pa_cons (pv 2) (pa_cons (pv 3) pa_nil))))))), ?_⟩
    obtain ⟨m, hm, hr'⟩ := stands_some hst
    have hel := endsTry_len (m := m) hs
    refine ⟨_, rfl, _, rfl, bd, s, hB, rfl, hs.1, hs.2, ?_⟩
    rw [hm]
    refine ⟨_, rfl, m, s, rfl, hs, fun H1 l s1 f1 e1 => ⟨l, rfl, ⟨_, SqL.of e1⟩, fun D nD => ?_⟩⟩
    have nlD : l ≠ D := ne_of_none e1 nD
    refine lc_list (K := K) (a := l) (xs := (endsTry m s).map V.int) (fun i H' => Same H H' ∧ H' l = some (.lst ((endsTry m s).map V.int)) ∧ ∃ xs, H' D = some (.lst xs) ∧ Prs H' xs ((((endsTry m s).take i).filter fun e => mayMoveG bd b s e).map fun e => (s, e)) ∧ xs.length ≤ i) ?_ ?_ ?_ ?_
    · exact ⟨s1.trans (same_upd nD), (upd_ne nlD).trans e1, [], upd_same, trivial, Nat.le_refl _⟩
    · rintro i H' _ ⟨_, e, _⟩
      exact SqL.of e
    · rintro i x H' hi ⟨sm, hL, xs, hD, pr, hlen⟩
      obtain ⟨z, hz, rfl⟩ := at_int hi
      have hil : i < (endsTry m s).length := (List.getElem?_eq_some_iff.mp hz).1
      have hz0 : onB z := endsTry_on hs (List.mem_of_getElem? hz)
      refine ⟨rfl, _, rfl, _, rfl, _, rfl, _, rfl, a, bd, b, s, z, rfl, hB, hs, hz0, hst, fun H3 sm3 => ⟨_, rfl, ite2 (fun h1 => ?_) (fun h1 => ?_)⟩⟩
      · refine ⟨_, rfl, _, rfl, sz 2 (by decide), fun t nt => ?_⟩
        have hD3 : (upd H3 t (.tup [.int s, .int z])) D = some (.lst xs) := by
          rw [upd_ne (ne_of_none (sm3 _ _ hD) nt)]
          exact sm3 _ _ hD
        refine ⟨xs, hD3, szl _ (by omega), fun c o z => ?_, ?_, xs ++ [.ref t], upd_same, ?_, by rw [List.length_append]; simp only [List.length_cons, List.length_nil]; omega⟩
        · have ncD : c ≠ D := fun e => by
            rw [e] at z
            rw [s1 _ _ z] at nD
            cases nD
          rw [upd_ne ncD]
          exact same_upd nt c o (sm3 c o (sm c o z))
        · rw [upd_ne nlD]
          exact same_upd nt _ _ (sm3 _ _ hL)
        · rw [take_more hz, List.filter_append, List.map_append]
          refine Prs.set hD3 (Prs.app (Prs.same (same_upd nt) (Prs.same sm3 pr)) ?_)
          simp only [List.filter_cons, List.filter_nil, h1, if_true]
          exact ⟨⟨t, rfl, upd_same⟩, trivial⟩
      · refine ⟨sm.trans sm3, sm3 _ _ hL, xs, sm3 _ _ hD, ?_, by omega⟩
        rw [take_more hz, List.filter_append, List.map_append]
        have e1 : mayMoveG bd b s z = false := Bool.eq_false_iff.mpr h1
        simp only [List.filter_cons, List.filter_nil, e1]
        rw [show (List.map (fun (e : Int) => (s, e)) (if false = true then [z] else [])) = [] from rfl, List.append_nil]
        exact pr.same sm3
    · rintro H' ⟨sm, _, xs, hD, pr, _⟩
      rw [List.length_map, List.take_length, movesFromG_ends hs hm] at pr
      exact q H' D xs sm (s1.free nD) hD pr
def sp_all_moves : Sp := fun vs H Q _ => ∃ (a : V) (bd : Bd) (b : Bool), vs = [a, .str (sd b)] ∧ BdV a bd ∧
  ∀ H' p xs, Same H H' → H p = none → H' p = some (.lst xs) → Prs H' xs (allMovesG bd b) → Q (.ref p) H'
theorem movesFromG_len (bd : Bd) (b : Bool) (s : Int) : (movesFromG bd b s).length ≤ 90 := by
  unfold movesFromG
  rw [List.length_map]
  exact Nat.le_trans (List.length_filter_le _ _) (by simp)
theorem cal_all_moves (h : Has K mg "all_moves" s_all_moves ["board", "side"]) (T : Tx w K mg dM dS dT dL) (C_stands_for : Cal P w K mg base 1 "stands_for" ["man", "side"] sp_stands_for) (C_moves_from : Cal P w K mg base 7 "moves_from" ["board", "side", "start"] sp_moves_from) : Cal P w K mg base 8 "all_moves" ["board", "side"] sp_all_moves := by
  obtain ⟨f, fd, F, g, b⟩ := h.ex
  refine ⟨f, fd, F.ok sc_all_moves (fun vs H Q E h => ?_) (fun cdv A outer s H vs Q E hr h => ?_), g, F.kp, b⟩
  · obtain ⟨a, bd, b, rfl, _⟩ := h
    rfl
  · obtain ⟨a, bd, b, rfl, hB, q⟩ := h
    refine ⟨_, (pss_cons (ps_set (i := 2) sc_all_moves.nd rfl (Or.inl rfl) (pe_lst pa_nil)) (pss_cons (ps_for PassesOwn.never rfl (pi_range1 (by rfl) T.b_range (pa_cons (pe_gi T.c_POINTS) pa_nil)) (pg_name (i := 3) sc_all_moves.nd rfl (Or.inl rfl)) (pss_one (ps_if (pt_val (pe_cal C_stands_for (hr.mono (by omega)) (by rfl) (pa_cons (pe_ix ix_bd (pv 0) (pv 3) (fun _ _ => rfl)) (pa_cons (pv 1) pa_nil)))) (pss_one (ps_expr (pe_bm PySem.F.plainAttrs_list PySem.F.slot_list_extend PySem.F.type_list_extend mt_extend (pv 2) (pa_cons (pe_cal C_moves_from (hr.mono (by omega)) (by rfl) (pa_cons (pv 0) (pa_cons (pv 1) (pa_cons (pv 3) pa_nil)))) pa_nil)))) pss_nil))) (pss_one (ps_ret (pv 2))))), ?_⟩
    refine ⟨Nat.zero_le _, fun fo nfo => ?_⟩
    refine ⟨90, rfl, by decide, by decide, ?_⟩
    refine for_range (lo := 0) (n := 90) (fun i σ H' => Same H H' ∧ (∃ xs, H' fo = some (.lst xs) ∧ Prs H' xs ((List.range i).flatMap fun (s : Nat) => if stands (cell bd (s : Int)) b = true then movesFromG bd b (s : Int) else []) ∧ xs.length ≤ 90 * i) ∧ ∃ v, σ = [some a, some (.str (sd b)), some (.ref fo), v]) ?_ ?_ ?_
    · exact ⟨same_upd nfo, ⟨[], upd_same, trivial, Nat.zero_le _⟩, none, rfl⟩
    · rintro i σ H' hi ⟨sm, ⟨xs, hfo, pr, hlen⟩, v, rfl⟩
      have ei : (0 : Int) + (i : Int) = (i : Int) := by omega
      rw [ei]
      have hi0 : onB (i : Int) := ⟨by omega, by omega⟩
      refine ⟨_, rfl, _, rfl, bd, _, hB, rfl, hi0.1, hi0.2, _, rfl, _, b, rfl, _, rfl, ite2 (fun h1 => ?_) (fun h1 => ?_)⟩
      · refine ⟨_, rfl, .inl ⟨rfl, _, SqL.of hfo⟩, _, rfl, _, rfl, _, rfl, a, bd, b, (i : Int), rfl, hB, hi0, h1, fun H2 p ys sm2 np hp pr2 => ?_⟩
        have hfo2 := sm2 _ _ hfo
        have hy : ys.length ≤ 90 := by rw [pr2.len]; exact movesFromG_len _ _ _
        refine ⟨fo, p, xs, ys, rfl, rfl, hfo2, hp, sz _ (by omega), ?_⟩
        refine ⟨fun c o z => ?_, ⟨xs ++ ys, upd_same, ?_, by rw [List.length_append]; omega⟩, some (.int (i : Int)), rfl⟩
        · rw [upd_ne (ne_of_none z nfo)]
          exact sm2 c o (sm c o z)
        · rw [List.range_succ, List.flatMap_append]
          refine Prs.set hfo2 (Prs.app (pr.same sm2) ?_)
          simp only [List.flatMap_cons, List.flatMap_nil, h1, if_true, List.append_nil]
          exact pr2
      · refine ⟨sm, ⟨xs, hfo, ?_, by omega⟩, some (.int (i : Int)), rfl⟩
        rw [List.range_succ, List.flatMap_append]
        simp only [List.flatMap_cons, List.flatMap_nil]
        rw [if_neg h1, List.append_nil, List.append_nil]
        exact pr
    · rintro σ H' ⟨sm, ⟨xs, hfo, pr, _⟩, v, rfl⟩
      exact ⟨_, rfl, q H' fo xs sm nfo hfo pr⟩
def sp_name_of_point : Sp := fun vs H Q _ => ∃ p : Int, vs = [.int p] ∧ ∀ H' l, Same H H' → H l = none → H' l = some (.lst ((nameOf p).map V.int)) → Q (.ref l) H'
theorem cal_name_of_point (h : Has K mg "name_of_point" s_name_of_point ["point"]) (T : Tx w K mg dM dS dT dL) (C_column_of : Cal P w K mg base 1 "column_of" ["point"] sp_column_of) (C_row_of : Cal P w K mg base 1 "row_of" ["point"] sp_row_of) : Cal P w K mg base 2 "name_of_point" ["point"] sp_name_of_point := by
  obtain ⟨f, fd, F, g, b⟩ := h.ex
  refine ⟨f, fd, F.ok sc_name_of_point (fun vs H Q E h => ?_) (fun cdv A outer s H vs Q E hr h => ?_), g, F.kp, b⟩
  · obtain ⟨p, rfl, _⟩ := h
    rfl
  · obtain ⟨p, rfl, q⟩ := h
    refine ⟨_, (pss_one (ps_ret (pe_lst (pa_cons (pe_op op_add (pe_gi T.c_LETTER_A) (pe_cal C_column_of (hr.mono (by omega)) (by rfl) (pa_cons (pv 0) pa_nil))) (pa_cons (pe_op op_add (pe_gi T.c_ZERO) (pe_cal C_row_of (hr.mono (by omega)) (by rfl) (pa_cons (pv 0) pa_nil))) pa_nil))))), ?_⟩
    exact ⟨_, rfl, p, rfl, _, _, rfl, rfl, _, rfl, p, rfl, _, _, rfl, rfl, sz 2 (by decide), fun l nl => q _ l (same_upd nl) nl upd_same⟩
def sp_name_of_move : Sp := fun vs H Q _ => ∃ s e : Int, vs = [.int s, .int e] ∧ ∀ H' l, Same H H' → H l = none → H' l = some (.lst ((name2 (s, e)).map V.int)) → Q (.ref l) H'
theorem cal_name_of_move (h : Has K mg "name_of_move" s_name_of_move ["start", "end"]) (T : Tx w K mg dM dS dT dL) (C_name_of_point : Cal P w K mg base 2 "name_of_point" ["point"] sp_name_of_point) : Cal P w K mg base 3 "name_of_move" ["start", "end"] sp_name_of_move := by
  obtain ⟨f, fd, F, g, b⟩ := h.ex
  refine ⟨f, fd, F.ok sc_name_of_move (fun vs H Q E h => ?_) (fun cdv A outer s H vs Q E hr h => ?_), g, F.kp, b⟩
  · obtain ⟨s, e, rfl, _⟩ := h
    rfl
  · obtain ⟨s, e, rfl, q⟩ := h
    refine ⟨_, (pss_one (ps_ret (pe_op op_cat (pe_cal C_name_of_point (hr.mono (by omega)) (by rfl) (pa_cons (pv 0) pa_nil)) (pe_cal C_name_of_point (hr.mono (by omega)) (by rfl) (pa_cons (pv 1) pa_nil))))), ?_⟩
    refine ⟨_, rfl, s, rfl, fun H1 l1 s1 n1 h1 => ⟨_, rfl, e, rfl, fun H2 l2 s2 n2 h2 => ⟨l1, l2, _, _, rfl, rfl, s2 _ _ h1, h2, sz _ (by simp [nameOf]), fun l nl => q _ l (s1.trans (s2.trans (same_upd nl))) (s1.free (s2.free nl)) ?_⟩⟩⟩
    rw [upd_same]
    rfl
end
end Tr

namespace Tr
open PySem PySem.Spec PyProof.Rows L2
open Sn32 (Man)
theorem allMovesG_len (bd : Bd) (b : Bool) : (allMovesG bd b).length ≤ 8100 := by
  unfold allMovesG
  have h : ∀ l : List Nat, (l.flatMap fun (s : Nat) => if stands (cell bd (s : Int)) b = true then movesFromG bd b (s : Int) else []).length ≤ 90 * l.length := by
    intro l
    induction l with
    | nil => simp
    | cons x r ih =>
      rw [List.flatMap_cons, List.length_append, List.length_cons]
      have h2 : (if stands (cell bd (x : Int)) b = true then movesFromG bd b (x : Int) else []).length ≤ 90 := by
        split
        · exact movesFromG_len _ _ _
        · exact Nat.zero_le _
      omega
  have := h (List.range 90)
  rw [List.length_range] at this
  exact this
theorem fm_len : ∀ l : List (Int × Int), (l.flatMap nameMove).length = 5 * l.length
  | [] => rfl
  | x :: r => by
    rw [List.flatMap_cons, List.length_append, fm_len r, List.length_cons]
    show 5 + 5 * r.length = 5 * (r.length + 1)
    omega
theorem linesG_len (bd : Bd) (b : Bool) : (linesG bd b).length ≤ 40502 := by
  unfold linesG
  rw [List.length_append, fm_len]
  have := allMovesG_len bd b
  simp only [List.length_cons, List.length_nil]
  omega
section
variable {P : Program} {w : World} {K : PySem.W.Frag} {mg : Str → Option Value} {base : Heap} {dM dS dT dL : Addr}
/-! ### reading.py -/
end
def Lsts (H : Hp) : List Addr → List (List Int) → Prop
  | [], [] => True
  | a :: r, x :: q => H a = some (.lst (x.map V.int)) ∧ Lsts H r q
  | _, _ => False
theorem Lsts.imp {H H' : Hp} : ∀ {as : List Addr} {rs : List (List Int)}, (∀ a ∈ as, ∀ o, H a = some o → H' a = some o) → Lsts H as rs → Lsts H' as rs
  | [], [], _, _ => trivial
  | a :: r, x :: q, h, ⟨e, l⟩ => ⟨h a List.mem_cons_self _ e, l.imp fun b hb => h b (List.mem_cons_of_mem _ hb)⟩
  | [], _ :: _, _, z => z.elim
  | _ :: _, [], _, z => z.elim
theorem Lsts.same {H H' : Hp} {as : List Addr} {rs : List (List Int)} (l : Lsts H as rs) (s : Same H H') : Lsts H' as rs := l.imp fun a _ o e => s a o e
theorem Lsts.upd_ {H : Hp} {p : Addr} {o : HO} {as : List Addr} {rs : List (List Int)} (l : Lsts H as rs) (n : p ∉ as) : Lsts (upd H p o) as rs := l.imp fun a ha u e => by
  rw [upd_ne (fun z => n (by rw [← z]; exact ha))]
  exact e
theorem Lsts.new {H : Hp} {p : Addr} : ∀ {as : List Addr} {rs : List (List Int)}, Lsts H as rs → H p = none → p ∉ as
  | [], _, _, _ => List.not_mem_nil
  | a :: r, x :: q, ⟨e, l⟩, n => fun h => by
    rcases List.mem_cons.mp h with z | h
    · rw [z, e] at n
      cases n
    · exact l.new n h
  | _ :: _, [], z, _ => z.elim
theorem Lsts.app {H : Hp} {a : Addr} {x : List Int} (e : H a = some (.lst (x.map V.int))) : ∀ {as : List Addr} {rs : List (List Int)}, Lsts H as rs → Lsts H (as ++ [a]) (rs ++ [x])
  | [], [], _ => ⟨e, trivial⟩
  | _ :: _, _ :: _, ⟨h, l⟩ => ⟨h, l.app e⟩
  | [], _ :: _, z => z.elim
  | _ :: _, [], z => z.elim
theorem Lsts.len {H : Hp} : ∀ {as : List Addr} {rs : List (List Int)}, Lsts H as rs → as.length = rs.length
  | [], [], _ => rfl
  | _ :: _, _ :: _, ⟨_, l⟩ => congrArg (· + 1) l.len
  | [], _ :: _, z => z.elim
  | _ :: _, [], z => z.elim
theorem Lsts.get {H : Hp} : ∀ {as : List Addr} {rs : List (List Int)} {i : Nat} {a : Addr}, Lsts H as rs → as[i]? = some a → ∃ r, rs[i]? = some r ∧ H a = some (.lst (r.map V.int))
  | _ :: _, x :: _, 0, _, ⟨e, _⟩, h => ⟨x, rfl, by rw [← Option.some.inj h]; exact e⟩
  | _ :: _, _ :: _, i + 1, _, ⟨_, l⟩, h => l.get (i := i) h
  | [], [], _, _, _, h => by cases h
  | [], _ :: _, _, _, z, _ => z.elim
  | _ :: _, [], _, _, z, _ => z.elim
theorem drop_at {α : Type} {ns : List α} {i : Nat} {z : α} (h : ns[i]? = some z) : ns.drop i = z :: ns.drop (i + 1) := by
  obtain ⟨hi, hv⟩ := List.getElem?_eq_some_iff.mp h
  rw [List.drop_eq_getElem_cons hi, hv]
section
variable {P : Program} {w : World} {K : PySem.W.Frag} {mg : Str → Option Value} {base : Heap} {dM dS dT dL : Addr}
def sp_split_rows (K : PySem.W.Frag) : Sp := fun vs H Q _ => ∃ (a : Addr) (ns : List Int), vs = [.ref a] ∧ SqL K H a (ns.map V.int) ∧ ns.length ≤ 1000 ∧
  ∀ H' p refs, Same H H' → H p = none → H' p = some (.lst (refs.map V.ref)) → Lsts H' refs (splitI ns []) → refs.length ≤ 1001 → (∀ r ∈ refs, H r = none) → Q (.ref p) H'
theorem cal_split_rows (h : Has K mg "split_rows" s_split_rows ["signs"]) (T : Tx w K mg dM dS dT dL) : Cal P w K mg base 1 "split_rows" ["signs"] (sp_split_rows K) := by
  obtain ⟨f, fd, F, g, b⟩ := h.ex
  refine ⟨f, fd, F.ok sc_split_rows (fun vs H Q E h => ?_) (fun cdv A outer s H vs Q E hr h => ?_), g, F.kp, b⟩
  · obtain ⟨a, ns, rfl, _⟩ := h
    rfl
  · obtain ⟨a, ns, rfl, hS, hlen, q⟩ := h
    refine ⟨_, (pss_cons (ps_set (i := 1) sc_split_rows.nd rfl (Or.inl rfl) (pe_lst pa_nil)) (pss_cons (ps_set (i := 2) sc_split_rows.nd rfl (Or.inl rfl) (pe_lst pa_nil)) (pss_cons (ps_for PassesOwn.never rfl (pi_list (pv 0)) (pg_name (i := 3) sc_split_rows.nd rfl (Or.inl rfl)) (pss_one (ps_if (pt_cmpR op_eq (pv 3) (pe_gi T.c_SLASH) (nomark _)) (pss_cons (ps_expr (pe_bm PySem.F.plainAttrs_list PySem.F.slot_list_append PySem.F.type_list_append mt_append (pv 1) (pa_cons (pv 2) pa_nil))) (pss_one (ps_set (i := 2) sc_split_rows.nd rfl (Or.inl rfl) (pe_lst pa_nil)))) (pss_one (ps_expr (pe_bm PySem.F.plainAttrs_list PySem.F.slot_list_append PySem.F.type_list_append mt_append (pv 2) (pa_cons (pv 3) pa_nil))))))) (pss_cons (ps_expr (pe_bm PySem.F.plainAttrs_list PySem.F.slot_list_append PySem.F.type_list_append mt_append (pv 1) (pa_cons (pv 2) pa_nil))) (pss_one (ps_ret (pv 1))))))), ?_⟩
    refine ⟨Nat.zero_le _, fun R nR => ⟨Nat.zero_le _, fun r0 n0 => ?_⟩⟩
    have s1 : Same H (upd H R (.lst [])) := same_upd nR
    have s2 : Same (upd H R (.lst [])) (upd (upd H R (.lst [])) r0 (.lst [])) := same_upd n0
    have nr0 : r0 ≠ R := fun e => by
      rw [e, upd_same] at n0
      cases n0
    refine ⟨_, rfl, a, rfl, ⟨_, (s1.trans s2).seq hS⟩, for_list (K := K) (a := a) (xs := ns.map V.int) (fun i σ H' => Same H H' ∧ ∃ (refs : List Addr) (ro : Addr) (done : List (List Int)) (cur : List Int) (v : Option V),
      σ = [some (.ref a), some (.ref R), some (.ref ro), v] ∧ H' R = some (.lst (refs.map V.ref)) ∧ Lsts H' refs done ∧ H' ro = some (.lst (cur.map V.int)) ∧ ro ∉ refs ∧ R ∉ refs ∧ ro ≠ R ∧ H ro = none ∧ (∀ r ∈ refs, H r = none) ∧
      done ++ splitI (ns.drop i) cur = splitI ns [] ∧ refs.length ≤ i ∧ cur.length ≤ i) ?_ ?_ ?_ ?_⟩
    · exact ⟨s1.trans s2, [], r0, [], [], none, rfl, s2 _ _ upd_same, trivial, upd_same, List.not_mem_nil, List.not_mem_nil, nr0, s1.free n0, (fun r hr => by cases hr), rfl, Nat.le_refl _, Nat.le_refl _⟩
    · rintro i σ H' _ ⟨sm, _⟩
      exact sm.seq hS
    · rintro i x σ H' hi ⟨sm, refs, ro, done, cur, v, rfl, hR, ls, hro, nro, nRr, nroR, fro, fr, hsp, hl1, hl2⟩
      obtain ⟨z, hz, rfl⟩ := at_int hi
      have hil : i < ns.length := (List.getElem?_eq_some_iff.mp hz).1
      have hd := drop_at hz
      refine ⟨_, rfl, rfl, _, rfl, ifc (dI _ _) (ite2 (fun h1 => ?_) (fun h1 => ?_))⟩
      · have hz47 : z = 47 := of_decide_eq_true h1
        refine ⟨_, rfl, .inl ⟨rfl, _, SqL.of hR⟩, _, rfl, R, _, _, rfl, rfl, hR, szl _ (by rw [List.length_map]; omega), Nat.zero_le _, fun r2 n2 => ?_⟩
        have hRu : (upd H' R (.lst (refs.map V.ref ++ [V.ref ro]))) R = some (.lst (refs.map V.ref ++ [V.ref ro])) := upd_same
        have hrou : (upd H' R (.lst (refs.map V.ref ++ [V.ref ro]))) ro = some (.lst (cur.map V.int)) := by
          rw [upd_ne nroR]
          exact hro
        have sn : Same (upd H' R (.lst (refs.map V.ref ++ [V.ref ro]))) (upd (upd H' R (.lst (refs.map V.ref ++ [V.ref ro]))) r2 (.lst [])) := same_upd n2
        have l2 : Lsts (upd H' R (.lst (refs.map V.ref ++ [V.ref ro]))) (refs ++ [ro]) (done ++ [cur]) := (ls.upd_ nRr).app hrou
        have sH : Same H (upd H' R (.lst (refs.map V.ref ++ [V.ref ro]))) := fun c o e => by
          rw [upd_ne (ne_of_none e nR)]
          exact sm c o e
        refine ⟨sH.trans sn, refs ++ [ro], r2, done ++ [cur], [], some (.int z), rfl, ?_, l2.same sn, upd_same, l2.new n2, ?_, fun e => ?_, sH.free n2, ?_, ?_, ?_, Nat.zero_le _⟩
        · rw [List.map_append]
          exact sn _ _ hRu
        · intro h
          rcases List.mem_append.mp h with h | h
          · exact nRr h
          · exact nroR (List.mem_singleton.mp h).symm
        · rw [e, hRu] at n2
          cases n2
        · intro r hr
          rcases List.mem_append.mp hr with h | h
          · exact fr r h
          · rw [List.mem_singleton.mp h]
            exact fro
        · rw [hd] at hsp
          simp only [splitI, hz47, if_true] at hsp
          rw [List.append_assoc]
          exact hsp
        · rw [List.length_append]
          simp only [List.length_cons, List.length_nil]
          omega
      · have hz47 : ¬ z = 47 := fun e => h1 (decide_eq_true e)
        refine ⟨_, rfl, .inl ⟨rfl, _, SqL.of hro⟩, _, rfl, ro, _, _, rfl, rfl, hro, szl _ (by rw [List.length_map]; omega), ?_⟩
        refine ⟨fun c o e => ?_, refs, ro, done, cur ++ [z], some (.int z), rfl, ?_, ls.upd_ nro, ?_, nro, nRr, nroR, fro, fr, ?_, by omega, by rw [List.length_append]; simp only [List.length_cons, List.length_nil]; omega⟩
        · rw [upd_ne (ne_of_none e fro)]
          exact sm c o e
        · rw [upd_ne (fun e => nroR e.symm)]
          exact hR
        · rw [upd_same, List.map_append]
          rfl
        · rw [hd] at hsp
          simp only [splitI, hz47, if_false] at hsp
          exact hsp
    · rintro σ H' ⟨sm, refs, ro, done, cur, v, rfl, hR, ls, hro, nro, nRr, nroR, fro, fr, hsp, hl1, hl2⟩
      rw [List.length_map] at hsp hl1
      rw [List.drop_length] at hsp
      refine ⟨_, rfl, .inl ⟨rfl, _, SqL.of hR⟩, _, rfl, R, _, _, rfl, rfl, hR, szl _ (by rw [List.length_map]; omega), _, rfl, ?_⟩
      refine q _ R (refs ++ [ro]) (fun c o e => ?_) nR ?_ ?_ (by rw [List.length_append]; simp only [List.length_cons, List.length_nil]; omega) ?_
      · rw [upd_ne (ne_of_none e nR)]
        exact sm c o e
      · rw [upd_same, List.map_append]
        rfl
      · rw [← hsp]
        exact (ls.upd_ nRr).app (by rw [upd_ne nroR]; exact hro)
      · intro r hr
        rcases List.mem_append.mp hr with h | h
        · exact fr r h
        · rw [List.mem_singleton.mp h]
          exact fro
end
end Tr

namespace Tr
open PySem PySem.Spec PyProof.Rows L2
open Sn32 (Man)
theorem lookup_map {α β : Type} (f : α → β) (c : Int) : ∀ l : List (Int × α), (l.map fun x => (x.1, f x.2)).lookup c = (l.lookup c).map f
  | [] => rfl
  | (k, v) :: r => by
    rw [List.map_cons, List.lookup_cons, List.lookup_cons]
    cases h : c == k with
    | true => rfl
    | false => exact lookup_map f c r
theorem menT_at (c : Int) : menT.lookup c = (menK.lookup c).map fun m => mS (some m) := lookup_map (fun m => mS (some m)) c menK
theorem rep_free (n : Nat) : (List.replicate n [V.str "."]).flatten = (List.replicate n (none : Cell)).map mV := by
  rw [List.map_replicate]
  induction n with
  | zero => rfl
  | succ n ih =>
    rw [List.replicate_succ, List.replicate_succ, List.flatten_cons, ih]
    rfl
theorem gen_one {bd : Bd} {b : Bool} (h : bd.countP (fun c => c == some ⟨b, .K⟩) = 1) : gen bd b < bd.length := by
  unfold gen
  refine List.findIdx_lt_length_of_exists ?_
  exact List.countP_pos_iff.mp (by omega)
section
variable {P : Program} {w : World} {K : PySem.W.Frag} {mg : Str → Option Value} {base : Heap} {dM dS dT dL : Addr}
def sp_read_row (K : PySem.W.Frag) : Sp := fun vs H Q _ => ∃ (a : Addr) (ns : List Int), vs = [.ref a] ∧ SqL K H a (ns.map V.int) ∧ ns.length ≤ 1000 ∧ (row9 ns = none → ∀ H', Same H H' → Q .non H') ∧
  (∀ l, row9 ns = some l → ∀ H' p, Same H H' → H p = none → H' p = some (.lst (l.map mV)) → Q (.ref p) H')
theorem cal_read_row (h : Has K mg "read_row" s_read_row ["row"]) (T : Tx w K mg dM dS dT dL) : Cal P w K mg base 1 "read_row" ["row"] (sp_read_row K) := by
  obtain ⟨f, fd, F, g, b⟩ := h.ex
  refine ⟨f, fd, F.ok sc_read_row (fun vs H Q E h => ?_) (fun cdv A outer s H vs Q E hr h => ?_), g, F.kp, b⟩
  · obtain ⟨a, ns, rfl, _⟩ := h
    rfl
  · obtain ⟨a, ns, rfl, hS, hlen, qn, qs⟩ := h
    refine ⟨_, (pss_cons (ps_set (i := 1) sc_read_row.nd rfl (Or.inl rfl) (pe_lst pa_nil)) (pss_cons (ps_set (i := 2) sc_read_row.nd rfl (Or.inl rfl) pe_bl) (pss_cons (ps_for PassesOwn.never rfl (pi_list (pv 0)) (pg_name (i := 3) sc_read_row.nd rfl (Or.inl rfl)) (pss_one (ps_if (pt_cmpR (op_in_kdi T.d_MEN) (pv 3) (pe_gr T.c_MEN) (by rfl)) (pss_cons (ps_expr (pe_bm PySem.F.plainAttrs_list PySem.F.slot_list_append PySem.F.type_list_append mt_append (pv 1) (pa_cons (pe_ix (ix_kdi T.d_MEN) (pe_gr T.c_MEN) (pv 3) (fun _ _ => rfl)) pa_nil))) (pss_one (ps_set (i := 2) sc_read_row.nd rfl (Or.inl rfl) pe_bl))) (pss_one (ps_if (PW.pt (pw_and (pt_chain op_le op_le (pe_gi T.c_ONE) (pv 3) (pe_gi T.c_NINE)) (pw_and1 (pt_not (pt_val (pv 2)))))) (pss_cons (ps_expr (pe_bm PySem.F.plainAttrs_list PySem.F.slot_list_extend PySem.F.type_list_extend mt_extend (pv 1) (pa_cons (pe_op op_rep (pe_lst (pa_cons (pe_gs T.c_FREE) pa_nil)) (pe_op op_sub (pv 3) (pe_gi T.c_ZERO))) pa_nil))) (pss_one (ps_set (i := 2) sc_read_row.nd rfl (Or.inl rfl) pe_bl))) (pss_one (ps_ret pe_non))))))) (pss_one (ps_ret (pe_ifExp (pt_cmpR op_eq (pe_callB call_len_seq (by rfl) T.b_len (by decide +kernel) (pa_cons (pv 1) pa_nil)) (pe_gi T.c_COLUMNS) (nomark _)) (pv 1) pe_non)))))), ?_⟩
    refine ⟨Nat.zero_le _, fun M nM => ?_⟩
    have s1 : Same H (upd H M (.lst [])) := same_upd nM
    refine ⟨_, rfl, a, rfl, ⟨_, s1.seq hS⟩, for_list (K := K) (a := a) (xs := ns.map V.int) (fun i σ H' => Same H H' ∧ ∃ (acc : List Cell) (bh : Bool) (v : Option V),
      σ = [some (.ref a), some (.ref M), some (.bl bh), v] ∧ H' M = some (.lst (acc.map mV)) ∧ rowI false ns = (rowI bh (ns.drop i)).map (fun l => acc ++ l) ∧ acc.length ≤ 9 * i) ?_ ?_ ?_ ?_⟩
    · refine ⟨s1, [], false, none, rfl, upd_same, ?_, Nat.le_refl _⟩
      rw [List.drop_zero]
      cases rowI false ns <;> rfl
    · rintro i σ H' _ ⟨sm, _⟩
      exact sm.seq hS
    · rintro i x σ H' hi ⟨sm, acc, bh, v, rfl, hM, hrow, hl1⟩
      obtain ⟨z, hz, rfl⟩ := at_int hi
      have hil : i < ns.length := (List.getElem?_eq_some_iff.mp hz).1
      rw [drop_at hz] at hrow
      refine ⟨_, rfl, z, rfl, rfl, _, rfl, ite2 (fun h1 => ?_) (fun h1 => ?_)⟩
      · rw [menT_at] at h1
        cases hk : menK.lookup z with
        | none => rw [hk] at h1; cases h1
        | some m =>
          have hT : menT.lookup z = some (mS (some m)) := by rw [menT_at, hk]; rfl
          refine ⟨_, rfl, .inl ⟨rfl, _, SqL.of hM⟩, _, rfl, z, _, rfl, rfl, hT, M, _, _, rfl, rfl, hM, szl _ (by rw [List.length_map]; omega), ?_⟩
          refine ⟨fun c o e => ?_, acc ++ [some m], false, some (.int z), rfl, ?_, ?_, by rw [List.length_append]; simp only [List.length_cons, List.length_nil]; omega⟩
          · rw [upd_ne (ne_of_none e nM)]
            exact sm c o e
          · rw [upd_same, List.map_append]
            rfl
          · rw [hrow]
            simp only [rowI, hk, Option.map_map]
            congr 1
            funext l
            show acc ++ some m :: l = acc ++ [some m] ++ l
            rw [List.append_assoc]
            rfl
      · have hk : menK.lookup z = none := by
          rw [menT_at] at h1
          cases hk : menK.lookup z with
          | none => rfl
          | some m => rw [hk] at h1; exact absurd rfl h1
        try dsimp only [gName, tSeq, tIfS, tRet, tAsg, tNext]
        refine tand_of (decide (49 ≤ z ∧ z ≤ 57)) (!bh) (fun Q' q' => ⟨_, rfl, 49, z, rfl, rfl, _, rfl, ite2 (fun h2 => ⟨_, 57, rfl, rfl, _, rfl, ?_⟩) (fun h2 => ⟨_, rfl, ?_⟩)⟩) (fun _ Q' q' => ⟨_, rfl, _, rfl, q'⟩) (ite2 (fun h2 => ?_) (fun h2 => ?_))
        · have h3 : 49 ≤ z := of_decide_eq_true h2
          rw [show decide (z ≤ 57) = decide (49 ≤ z ∧ z ≤ 57) by simp [h3]]
          exact q'
        · have h3 : ¬ 49 ≤ z := fun e => h2 (decide_eq_true e)
          rw [show false = decide (49 ≤ z ∧ z ≤ 57) by simp [h3]]
          exact q'
        · have h3 : (49 ≤ z ∧ z ≤ 57) ∧ bh = false := by simpa using h2
          obtain ⟨⟨h4, h5⟩, h6⟩ := h3
          refine ⟨_, rfl, .inl ⟨rfl, _, SqL.of hM⟩, sz 1 (by decide), fun t nt => ⟨_, rfl, z, 48, rfl, rfl, t, z - 48, _, rfl, rfl, upd_same, by omega, by omega, sz _ (by simp only [List.length_cons, List.length_nil]; omega), fun u nu => ?_⟩⟩
          have S : Same H' (upd (upd H' t (.lst [V.str "."])) u (.lst (List.replicate (z - 48).toNat [V.str "."]).flatten)) := (same_upd nt).trans (same_upd nu)
          refine ⟨M, u, _, _, rfl, rfl, S _ _ hM, upd_same, sz _ ?_, ?_⟩
          · rw [rep_free, List.length_map, List.length_map, List.length_replicate]
            omega
          · refine ⟨fun c o e => ?_, acc ++ List.replicate (z - 48).toNat none, true, some (.int z), rfl, ?_, ?_, ?_⟩
            · rw [upd_ne (ne_of_none e nM)]
              exact S c o (sm c o e)
            · rw [upd_same, rep_free, List.map_append]
            · rw [hrow]
              simp only [rowI, hk, h4, h5, h6, and_self, if_true, Option.map_map]
              congr 1
              funext l
              show acc ++ (List.replicate (z - 48).toNat none ++ l) = acc ++ List.replicate (z - 48).toNat none ++ l
              rw [List.append_assoc]
            · rw [List.length_append, List.length_replicate]
              omega
        · refine qn ?_ H' sm
          have h3 : ¬ (49 ≤ z ∧ z ≤ 57 ∧ bh = false) := fun e => h2 (by simp [e.1, e.2.1, e.2.2])
          unfold row9
          rw [hrow]
          simp only [rowI, hk, h3, if_false]
          rfl
    · rintro σ H' ⟨sm, acc, bh, v, rfl, hM, hrow, hl1⟩
      rw [List.length_map, List.drop_length] at hrow
      have hrow' : rowI false ns = some acc := by
        rw [hrow]
        show some (acc ++ []) = some acc
        rw [List.append_nil]
      refine ⟨_, rfl, M, _, rfl, .inl (SqL.of hM), rfl, _, rfl, ifc (dN _ 9) (ite2 (fun h1 => ?_) (fun h1 => ?_))⟩
      · have h9 : acc.length = 9 := by simpa using h1
        refine ⟨_, rfl, qs acc ?_ H' M sm nM hM⟩
        unfold row9
        rw [hrow']
        exact if_pos h9
      · have h9 : ¬ acc.length = 9 := by simpa using h1
        refine qn ?_ H' sm
        unfold row9
        rw [hrow']
        exact if_neg h9
def sp_has_one_general : Sp := fun vs H Q _ => ∃ (a : V) (bd : Bd) (b : Bool), vs = [a, .str (sd b)] ∧ BdV a bd ∧ Q (.bl (oneGen bd b)) H
theorem cal_has_one_general (h : Has K mg "has_one_general" s_has_one_general ["board", "side"]) (T : Tx w K mg dM dS dT dL) (C_general_of : Cal P w K mg base 1 "general_of" ["side"] sp_general_of) (C_in_palace : Cal P w K mg base 2 "in_palace" ["side", "point"] sp_in_palace) : Cal P w K mg base 3 "has_one_general" ["board", "side"] sp_has_one_general := by
  obtain ⟨f, fd, F, g, b⟩ := h.ex
  refine ⟨f, fd, F.ok sc_has_one_general (fun vs H Q E h => ?_) (fun cdv A outer s H vs Q E hr h => ?_), g, F.kp, b⟩
  · obtain ⟨a, bd, b, rfl, _⟩ := h
    rfl
  · obtain ⟨a, bd, b, rfl, ⟨rfl, hl⟩, q⟩ := h
    have hB : BdV (.str (bS bd)) bd := ⟨rfl, hl⟩
    refine ⟨_, (pss_cons (ps_set (i := 2) sc_has_one_general.nd rfl (Or.inl rfl) (pe_cal C_general_of (hr.mono (by omega)) (by rfl) (pa_cons (pv 1) pa_nil))) (pss_one (ps_ret (pe_and (pe_cmpR op_eq (pe_bm PySem.F.plainAttrs_str PySem.F.slot_str_count PySem.F.type_str_count mt_count_bd (pv 0) (pa_cons (pv 2) pa_nil)) pe_int (nomark _)) (pe_one (pe_cal C_in_palace (hr.mono (by omega)) (by rfl) (pa_cons (pv 1) (pa_cons (pe_bm PySem.F.plainAttrs_str PySem.F.slot_str_index PySem.F.type_str_index mt_index_bd (pv 0) (pa_cons (pv 2) pa_nil)) pa_nil)))))))), ?_⟩
    refine ⟨_, rfl, b, rfl, ?_⟩
    try dsimp only [gName, tSeq, tIfS, tRet, tAsg, tNext]
    refine tandV_of (decide (bd.countP (fun c => c == some ⟨b, .K⟩) = 1)) (inPal b (gen bd b : Int)) (fun Q' q' => ⟨_, rfl, rfl, _, rfl, bd, b, hB, rfl, rfl, qb (dN _ 1) q'⟩) (fun h1 Q' q' => ?_) q
    have hg : gen bd b < bd.length := gen_one (of_decide_eq_true h1)
    exact ⟨_, rfl, _, rfl, rfl, _, rfl, bd, b, hB, rfl, by omega, b, _, rfl, q'⟩
end
end Tr

namespace Tr
open PySem PySem.Spec PyProof.Rows L2
open Sn32 (Man)
theorem bdUp_len (rows : List (List Cell)) (i j : Nat) : (bdUp rows i j).length = 90 := by
  unfold bdUp
  rw [List.length_map, List.length_range]
theorem bdUp_get (rows : List (List Cell)) (i j n : Nat) (h : n < 90) : (bdUp rows i j)[n]? = some (if 9 - n % 10 < i ∨ (9 - n % 10 = i ∧ n / 10 < j) then ((rows[9 - n % 10]?).bind fun r => r[n / 10]?).join else none) := by
  unfold bdUp
  rw [List.getElem?_map, List.getElem?_range h]
  rfl
theorem bd_ext {a b : Bd} (ha : a.length = 90) (hb : b.length = 90) (h : ∀ n, n < 90 → a[n]? = b[n]?) : a = b := by
  refine List.ext_getElem? fun n => ?_
  by_cases hn : n < 90
  · exact h n hn
  · rw [List.getElem?_eq_none (by omega), List.getElem?_eq_none (by omega)]
theorem bdUp_start (rows : List (List Cell)) : bdUp rows 0 0 = List.replicate 90 none := by
  refine bd_ext (bdUp_len _ _ _) (by rw [List.length_replicate]) fun n hn => ?_
  rw [bdUp_get _ _ _ _ hn, if_neg (by omega), List.getElem?_replicate, if_pos hn]
theorem bdUp_ext (rows : List (List Cell)) (l : List Cell) : bdUp (rows ++ [l]) rows.length 0 = bdUp rows rows.length 0 := by
  refine bd_ext (bdUp_len _ _ _) (bdUp_len _ _ _) fun n hn => ?_
  rw [bdUp_get _ _ _ _ hn, bdUp_get _ _ _ _ hn]
  by_cases h : 9 - n % 10 < rows.length ∨ (9 - n % 10 = rows.length ∧ n / 10 < 0)
  · have h2 : 9 - n % 10 < rows.length := by omega
    rw [if_pos h, if_pos h, List.getElem?_append_left h2]
  · rw [if_neg h, if_neg h]
theorem bdUp_next (rows : List (List Cell)) (i : Nat) : bdUp rows i 9 = bdUp rows (i + 1) 0 := by
  refine bd_ext (bdUp_len _ _ _) (bdUp_len _ _ _) fun n hn => ?_
  rw [bdUp_get _ _ _ _ hn, bdUp_get _ _ _ _ hn]
  by_cases h : 9 - n % 10 < i ∨ (9 - n % 10 = i ∧ n / 10 < 9)
  · rw [if_pos h, if_pos (by omega)]
  · rw [if_neg h, if_neg (by omega)]
theorem bdUp_set {rows : List (List Cell)} {i j : Nat} {l : List Cell} {c : Cell} (hi : i < 10) (hj : j < 9) (hr : rows[i]? = some l) (hc : l[j]? = some c) : (bdUp rows i j).set (j * 10 + (9 - i)) c = bdUp rows i (j + 1) := by
  refine bd_ext (by rw [List.length_set, bdUp_len]) (bdUp_len _ _ _) fun n hn => ?_
  by_cases e : n = j * 10 + (9 - i)
  · subst e
    have e1 : 9 - (j * 10 + (9 - i)) % 10 = i := by omega
    have e2 : (j * 10 + (9 - i)) / 10 = j := by omega
    rw [List.getElem?_set_self (by rw [bdUp_len]; exact hn), bdUp_get _ _ _ _ hn, e1, e2, if_pos (by omega), hr]
    show some c = some ((l[j]?).join)
    rw [hc]
    rfl
  · rw [List.getElem?_set_ne (fun z => e z.symm), bdUp_get _ _ _ _ hn, bdUp_get _ _ _ _ hn]
    by_cases h : 9 - n % 10 < i ∨ (9 - n % 10 = i ∧ n / 10 < j)
    · rw [if_pos h, if_pos (by omega)]
    · rw [if_neg h, if_neg (by omega)]
theorem row9_len {r : List Int} {l : List Cell} (h : row9 r = some l) : l.length = 9 := by
  unfold row9 at h
  cases e : rowI false r with
  | none => rw [e] at h; cases h
  | some l' =>
    rw [e] at h
    have h : (if l'.length = 9 then some l' else none) = some l := h
    split at h
    · cases h
      assumption
    · cases h
theorem split_len : ∀ (ns w : List Int), (∀ r ∈ splitI ns w, r.length ≤ ns.length + w.length)
  | [], w, r, h => by
    rw [List.mem_singleton.mp h]
    omega
  | c :: q, w, r, h => by
    unfold splitI at h
    split at h
    · rcases List.mem_cons.mp h with e | h
      · rw [e, List.length_cons]
        omega
      · have := split_len q [] r h
        rw [List.length_cons]
        simp only [List.length_nil] at this
        omega
    · have := split_len q (w ++ [c]) r h
      rw [List.length_append] at this
      rw [List.length_cons]
      simp only [List.length_cons, List.length_nil] at this
      omega
theorem boardI_len {ns : List Int} {bd : Bd} (h : boardI ns = some bd) : bd.length = 90 := by
  unfold boardI at h
  split at h
  · cases e : rowsI (splitI ns []) with
    | none => rw [e] at h; cases h
    | some rows =>
      rw [e] at h
      cases h
      exact bdUp_len _ _ _
  · cases h
section
variable {P : Program} {w : World} {K : PySem.W.Frag} {mg : Str → Option Value} {base : Heap} {dM dS dT dL : Addr}
def sp_read_board (K : PySem.W.Frag) : Sp := fun vs H Q _ => ∃ (a : Addr) (ns : List Int), vs = [.ref a] ∧ SqL K H a (ns.map V.int) ∧ ns.length ≤ 1000 ∧ (boardI ns = none → ∀ H', Same H H' → Q .non H') ∧
  (∀ bd, boardI ns = some bd → ∀ H' x, Same H H' → BdV x bd → Q x H')
theorem cal_read_board (h : Has K mg "read_board" s_read_board ["signs"]) (T : Tx w K mg dM dS dT dL) (C_split_rows : Cal P w K mg base 1 "split_rows" ["signs"] (sp_split_rows K)) (C_read_row : Cal P w K mg base 1 "read_row" ["row"] (sp_read_row K)) (C_point_at : Cal P w K mg base 1 "point_at" ["column", "row"] sp_point_at) : Cal P w K mg base 2 "read_board" ["signs"] (sp_read_board K) := by
  obtain ⟨f, fd, F, g, b⟩ := h.ex
  refine ⟨f, fd, F.ok sc_read_board (fun vs H Q E h => ?_) (fun cdv A outer s H vs Q E hr h => ?_), g, F.kp, b⟩
  · obtain ⟨a, ns, rfl, _⟩ := h
    rfl
  · obtain ⟨a, ns, rfl, hS, hlen, qn, qs⟩ := h
    refine ⟨_, (pss_cons (ps_set (i := 1) sc_read_board.nd rfl (Or.inl rfl) (pe_cal C_split_rows (hr.mono (by omega)) (by rfl) (pa_cons (pv 0) pa_nil))) (pss_cons (ps_if (pt_cmpR op_ne (pe_callB call_len_seq (by rfl) T.b_len (by decide +kernel) (pa_cons (pv 1) pa_nil)) (pe_gi T.c_ROWS) (nomark _)) (pss_one (ps_ret pe_non)) pss_nil) (pss_cons (ps_set (i := 2) sc_read_board.nd rfl (Or.inl rfl) (pe_op op_rep (pe_lst (pa_cons (pe_gs T.c_FREE) pa_nil)) (pe_gi T.c_POINTS))) (pss_cons (ps_for PassesOwn.never rfl (pi_enum (by rfl) T.b_enumerate (pa_cons (pv 1) pa_nil)) (pg_tup rfl (pgs_cons (pg_name (i := 3) sc_read_board.nd rfl (Or.inl rfl)) (pgs_cons (pg_name (i := 4) sc_read_board.nd rfl (Or.inl rfl)) pgs_nil))) (pss_cons (ps_set (i := 5) sc_read_board.nd rfl (Or.inl rfl) (pe_cal C_read_row (hr.mono (by omega)) (by rfl) (pa_cons (pv 4) pa_nil))) (pss_cons (ps_if (pt_cmpR op_isN (pv 5) pe_non (nomark _)) (pss_one (ps_ret pe_non)) pss_nil) (pss_one (ps_for PassesOwn.never rfl (pi_enum (by rfl) T.b_enumerate (pa_cons (pv 5) pa_nil)) (pg_tup rfl (pgs_cons (pg_name (i := 6) sc_read_board.nd rfl (Or.inl rfl)) (pgs_cons (pg_name (i := 7) sc_read_board.nd rfl (Or.inl rfl)) pgs_nil))) (pss_one (ps_asg (pv 7) (pg_sub (pv 2) (pe_cal C_point_at (hr.mono (by omega)) (by rfl) (pa_cons (pv 6) (pa_cons (pe_op op_sub (pe_op op_sub (pe_gi T.c_ROWS) pe_int) (pv 3)) pa_nil))) set_list)))))))) (pss_one (ps_ret (pe_join pe_str (pv 2)))))))), ?_⟩
    refine ⟨_, rfl, a, ns, rfl, hS, hlen, fun H1 R refs s1 nR hR ls hrl fr => ?_⟩
    refine ⟨_, rfl, R, _, rfl, .inl (SqL.of hR), rfl, _, rfl, ifc (congrArg not (dN _ 10)) (ite2 (fun h1 => ?_) (fun h1 => ?_))⟩
    · have h2 : ¬ (splitI ns []).length = 10 := by
        rw [← ls.len]
        simpa using h1
      exact qn (if_neg h2) H1 s1
    · have h2 : (splitI ns []).length = 10 := by
        rw [← ls.len]
        simpa using h1
      have hb : boardI ns = (rowsI (splitI ns [])).map fun rows => bdUp rows 10 0 := if_pos h2
      have hrefs : refs.length = 10 := ls.len.trans h2
      refine ⟨sz 1 (by decide), fun t nt => ⟨t, 90, _, rfl, rfl, upd_same, by decide, by decide, sz _ (by decide), fun B nB => ?_⟩⟩
      have S2 : Same H1 (upd (upd H1 t (.lst [V.str "."])) B (.lst (List.replicate (90 : Int).toNat [V.str "."]).flatten)) := (same_upd nt).trans (same_upd nB)
      have hB0 : H1 B = none := (same_upd nt).free nB
      have hBH : H B = none := s1.free hB0
      have nBR : R ≠ B := ne_of_none hR hB0
      have nBr : B ∉ refs := ls.new hB0
      refine ⟨_, rfl, R, refs.map V.ref, rfl, SqL.of (S2 _ _ hR), ?_⟩
      refine for_it (walk_enum (xs := refs.map V.ref)) (fun i σ H' => Same H H' ∧ H' R = some (.lst (refs.map V.ref)) ∧ Lsts H' refs (splitI ns []) ∧ ∃ (rows : List (List Cell)) (v3 v4 v5 v6 v7 : Option V),
        σ = [some (.ref a), some (.ref R), some (.ref B), v3, v4, v5, v6, v7] ∧ H' B = some (.lst ((bdUp rows i 0).map mV)) ∧ rows.length = i ∧ rowsI (splitI ns []) = (rowsI ((splitI ns []).drop i)).map (fun q => rows ++ q)) ?_ ?_ ?_ ?_
      · refine ⟨s1.trans S2, S2 _ _ hR, ls.same S2, [], none, none, none, none, none, rfl, ?_, rfl, ?_⟩
        · rw [upd_same, rep_free, bdUp_start]
          rfl
        · rw [List.drop_zero]
          cases rowsI (splitI ns []) <;> rfl
      · rintro i σ H' _ ⟨_, hR', _⟩
        exact SqL.of hR'
      · rintro i x σ H' H2 hi ⟨sm, hR', ls', rows, v3, v4, v5, v6, v7, rfl, hB', hri, hrows⟩ ⟨T, x1, x2, rfl, nT, rfl, e1, e2⟩
        rw [List.length_map] at hi
        have e1 : V.int (i : Nat) = x1 := Option.some.inj e1
        subst e1
        dsimp only at e2
        rw [List.getElem?_map] at e2
        have hri' : refs[i]? = some refs[i] := List.getElem?_eq_getElem hi
        rw [hri'] at e2
        have e2 : V.ref refs[i] = x2 := Option.some.inj e2
        subst e2
        obtain ⟨r, hr1, hr2⟩ := ls'.get hri'
        have sT : Same H' (upd H' T (.tup [V.int (i : Nat), V.ref refs[i]])) := same_upd nT
        refine ⟨T, _, rfl, SqT.of upd_same, rfl, _, _, rfl, _, _, rfl, rfl, ?_⟩
        have hrl2 : r.length ≤ 1000 := by
          have := split_len ns [] r (List.mem_of_getElem? hr1)
          simp only [List.length_nil] at this
          omega
        rw [drop_at hr1] at hrows
        refine ⟨_, rfl, refs[i], r, rfl, SqL.of (sT _ _ hr2), hrl2, fun hn H3 s3 => ?_, fun l hl H3 M s3 nM hM => ?_⟩
        · refine ⟨_, rfl, rfl, _, rfl, ifc (b := true) (decide_eq_true rfl) (iteT ?_)⟩
          refine qn ?_ H3 (sm.trans (sT.trans s3))
          rw [hb, hrows]
          simp only [rowsI, hn]
          rfl
        · refine ⟨_, rfl, rfl, _, rfl, ifc (b := false) (decide_eq_false (by intro z; cases z)) (iteF ?_)⟩
          have hl9 := row9_len hl
          have nMB : M ≠ B := fun e => by
            rw [e, sT _ _ hB'] at nM
            cases nM
          have nMH' : H' M = none := sT.free nM
          have S3 := sT.trans s3
          refine ⟨_, rfl, M, l.map mV, rfl, SqL.of hM, ?_⟩
          refine for_it (walk_enum (xs := l.map mV)) (fun j σ H4 => Same H H4 ∧ H4 R = some (.lst (refs.map V.ref)) ∧ Lsts H4 refs (splitI ns []) ∧ H4 M = some (.lst (l.map mV)) ∧ ∃ (v4 v6 v7 : Option V),
            σ = [some (.ref a), some (.ref R), some (.ref B), some (.int (i : Nat)), v4, some (.ref M), v6, v7] ∧ H4 B = some (.lst ((bdUp (rows ++ [l]) i j).map mV))) ?_ ?_ ?_ ?_
          · refine ⟨sm.trans S3, S3 _ _ hR', ls'.same S3, hM, _, _, _, rfl, ?_⟩
            rw [← hri, bdUp_ext, hri]
            exact S3 _ _ hB'
          · rintro j σ H4 _ ⟨_, _, _, hM4, _⟩
            exact SqL.of hM4
          · rintro j x σ H4 H5 hj ⟨sm4, hR4, ls4, hM4, w4, w6, w7, rfl, hB4⟩ ⟨U, y1, y2, rfl, nU, rfl, e3, e4⟩
            rw [List.length_map, hl9] at hj
            have e3 : V.int (j : Nat) = y1 := Option.some.inj e3
            subst e3
            have hlj : l[j]? = some l[j] := List.getElem?_eq_getElem (by omega)
            dsimp only at e4
            rw [List.getElem?_map, hlj] at e4
            have e4 : mV l[j] = y2 := Option.some.inj e4
            subst e4
            have sU : Same H4 (upd H4 U (.tup [V.int (j : Nat), mV l[j]])) := same_upd nU
            have hB5 := sU _ _ hB4
            refine ⟨U, _, rfl, SqT.of upd_same, rfl, _, _, rfl, _, _, rfl, rfl, ?_⟩
            have hix : ixN ((bdUp (rows ++ [l]) i j).map mV).length ((j : Int) * 10 + (10 - 1 - (i : Int))) = some (j * 10 + (9 - i)) := by
              rw [List.length_map, bdUp_len, ixN_of (by omega) (by omega)]
              congr 1
              omega
            refine ⟨_, rfl, _, rfl, _, rfl, 10, 1, rfl, rfl, _, rfl, _, _, rfl, rfl, _, _, rfl, ⟨by omega, by omega⟩, B, _, _, _, rfl, rfl, hB5, hix, ?_⟩
            refine ⟨fun c o z => ?_, ?_, ?_, ?_, _, _, _, rfl, ?_⟩
            · rw [upd_ne (ne_of_none z hBH)]
              exact sU c o (sm4 c o z)
            · rw [upd_ne nBR]
              exact sU _ _ hR4
            · exact (ls4.same sU).upd_ nBr
            · rw [upd_ne nMB]
              exact sU _ _ hM4
            · rw [upd_same, ← List.map_set, bdUp_set (l := l) (by omega) hj (by rw [← hri, List.getElem?_append_right (Nat.le_refl _), Nat.sub_self]; rfl) hlj]
          · rintro σ H4 ⟨sm4, hR4, ls4, hM4, w4, w6, w7, rfl, hB4⟩
            rw [List.length_map, hl9, bdUp_next] at hB4
            refine ⟨sm4, hR4, ls4, rows ++ [l], _, _, _, _, _, rfl, hB4, by rw [List.length_append, hri]; rfl, ?_⟩
            rw [hrows]
            simp only [rowsI, hl, Option.bind_some, Option.map_map]
            congr 1
            funext q
            show rows ++ l :: q = rows ++ [l] ++ q
            rw [List.append_assoc]
            rfl
      · rintro σ H' ⟨sm, hR', ls', rows, v3, v4, v5, v6, v7, rfl, hB', hri, hrows⟩
        rw [List.length_map, hrefs] at hB' hri hrows
        refine ⟨⟨_, rfl⟩, _, rfl, "", B, (bdUp rows 10 0).map mS, rfl, rfl, .inl (SqL.of (by rw [hB', map_mV])), join_ok _ (bdUp_len _ _ _), ?_⟩
        rw [join_bd]
        refine qs (bdUp rows 10 0) ?_ H' _ sm ⟨rfl, bdUp_len _ _ _⟩
        rw [hb, hrows, List.drop_eq_nil_of_le (by omega)]
        show some (bdUp (rows ++ []) 10 0) = _
        rw [List.append_nil]
end
end Tr

namespace Tr
open PySem PySem.Spec PyProof.Rows L2
open Sn32 (Man)
theorem sides_at (c : Int) : sidesT.lookup c = (sideI c).map sd := by
  unfold sidesT sideI
  rw [List.lookup_cons, List.lookup_cons]
  by_cases h : c = 119
  · subst h
    rfl
  · rw [beq_eq_false_iff_ne.mpr h, if_neg h]
    by_cases h2 : c = 98
    · subst h2
      rfl
    · rw [beq_eq_false_iff_ne.mpr h2, if_neg h2]
      rfl
theorem cut_to {ns : List Int} (h : 2 ≤ ns.length) : cutV (ns.map V.int) none (some (((ns.map V.int).length : Int) - 2)) = (ns.take (ns.length - 2)).map V.int := by
  unfold cutV
  rw [HT.sIx_none, show (((ns.map V.int).length : Int) - 2) = ((ns.length - 2 : Nat) : Int) by rw [List.length_map]; omega, HT.sIx_nat, List.length_map, List.drop_zero, Nat.sub_zero, List.map_take]
  congr 1
  omega
theorem oneGen_gen {bd : Bd} {b : Bool} (h : oneGen bd b = true) : gen bd b < bd.length := by
  unfold oneGen at h
  rw [Bool.and_eq_true] at h
  exact gen_one (of_decide_eq_true h.1)
section
variable {P : Program} {w : World} {K : PySem.W.Frag} {mg : Str → Option Value} {base : Heap} {dM dS dT dL : Addr}
def sp_read_position (K : PySem.W.Frag) : Sp := fun vs H Q _ => ∃ (a : Addr) (ns : List Int), vs = [.ref a] ∧ SqL K H a (ns.map V.int) ∧ ns.length ≤ 1000 ∧ (readI ns = none → ∀ H', Same H H' → Q .non H') ∧
  (∀ bd b, readI ns = some (bd, b) → ∀ H' p B, Same H H' → H' p = some (.tup [B, .str (sd b)]) → BdV B bd → Q (.ref p) H')
theorem cal_read_position (h : Has K mg "read_position" s_read_position ["text"]) (T : Tx w K mg dM dS dT dL) (C_read_board : Cal P w K mg base 2 "read_board" ["signs"] (sp_read_board K)) (C_has_one_general : Cal P w K mg base 3 "has_one_general" ["board", "side"] sp_has_one_general) : Cal P w K mg base 4 "read_position" ["text"] (sp_read_position K) := by
  obtain ⟨f, fd, F, g, b⟩ := h.ex
  refine ⟨f, fd, F.ok sc_read_position (fun vs H Q E h => ?_) (fun cdv A outer s H vs Q E hr h => ?_), g, F.kp, b⟩
  · obtain ⟨a, ns, rfl, _⟩ := h
    rfl
  · obtain ⟨a, ns, rfl, hS, hlen, qn, qs⟩ := h
    refine ⟨_, (pss_cons (ps_set (i := 1) sc_read_position.nd rfl (Or.inl rfl) (pe_callB call_len_seq (by rfl) T.b_len (by decide +kernel) (pa_cons (pv 0) pa_nil))) (pss_cons (ps_if (PW.pt (pw_or (pt_cmpR op_lt (pv 1) pe_int (nomark _)) (pw_or (pt_cmpR op_ne (pe_ix ix_list (pv 0) (pe_op op_sub (pv 1) pe_int) (fun _ _ => rfl)) (pe_gi T.c_BLANK) (nomark _)) (pw_or1 (pt_cmpR (op_notIn_kdi T.d_SIDES) (pe_ix ix_list (pv 0) (pe_op op_sub (pv 1) pe_int) (fun _ _ => rfl)) (pe_gr T.c_SIDES) (by rfl)))))) (pss_one (ps_ret pe_non)) pss_nil) (pss_cons (ps_set (i := 2) sc_read_position.nd rfl (Or.inl rfl) (pe_cal C_read_board (hr.mono (by omega)) (by rfl) (pa_cons (pe_slice sl_list (pv 0) po_none (po_some (pe_op op_sub (pv 1) pe_int))) pa_nil))) (pss_cons (ps_if (PW.pt (pw_or (pt_cmpR op_isN (pv 2) pe_non (nomark _)) (pw_or (pt_not (pt_val (pe_cal C_has_one_general (hr.mono (by omega)) (by rfl) (pa_cons (pv 2) (pa_cons (pe_gs T.c_RED) pa_nil))))) (pw_or1 (pt_not (pt_val (pe_cal C_has_one_general (hr.mono (by omega)) (by rfl) (pa_cons (pv 2) (pa_cons (pe_gs T.c_BLACK) pa_nil))))))))) (pss_one (ps_ret pe_non)) pss_nil) (pss_one (ps_ret (pe_tup (pa_cons (pv 2) (pa_cons (pe_ix (ix_kdi T.d_SIDES) (pe_gr T.c_SIDES) (pe_ix ix_list (pv 0) (pe_op op_sub (pv 1) pe_int) (fun _ _ => rfl)) (fun _ _ => rfl)) pa_nil))))))))), ?_⟩
    refine ⟨_, rfl, a, _, rfl, .inl hS, ?_⟩
    try dsimp only [gName, tSeq, tIfS, tRet, tAsg, tNext]
    by_cases h2 : ns.length < 2
    · refine tor_of true false (fun Q' q' => ⟨_, rfl, _, 2, rfl, rfl, _, rfl, ?_⟩) (fun z => by cases z) (iteT ?_)
      · rw [decide_eq_true (show ((ns.map V.int).length : Int) < 2 by rw [List.length_map]; omega)]
        exact q'
      · exact qn (if_pos (.inl h2)) H (Same.refl H)
    · obtain ⟨z2, hz2⟩ : ∃ z, ns[ns.length - 2]? = some z := ⟨_, List.getElem?_eq_getElem (by omega)⟩
      obtain ⟨z1, hz1⟩ : ∃ z, ns[ns.length - 1]? = some z := ⟨_, List.getElem?_eq_getElem (by omega)⟩
      have hat2 : atI (ns.map V.int) (((ns.map V.int).length : Int) - 2) = some (.int z2) := by
        rw [show (((ns.map V.int).length : Int) - 2) = ((ns.length - 2 : Nat) : Int) by rw [List.length_map]; omega]
        refine atI_nat ?_
        rw [List.getElem?_map, hz2]
        rfl
      have hat1 : atI (ns.map V.int) (((ns.map V.int).length : Int) - 1) = some (.int z1) := by
        rw [show (((ns.map V.int).length : Int) - 1) = ((ns.length - 1 : Nat) : Int) by rw [List.length_map]; omega]
        refine atI_nat ?_
        rw [List.getElem?_map, hz1]
        rfl
      have hg1 : ns.getD (ns.length - 1) 0 = z1 := by
        rw [List.getD_eq_getElem?_getD, hz1]
        rfl
      refine tor_of false ((!decide (z2 = 32)) || (!(sidesT.lookup z1).isSome)) (fun Q' q' => ⟨_, rfl, _, 2, rfl, rfl, _, rfl, ?_⟩)
        (fun _ Q' q' => tor_of (!decide (z2 = 32)) (!(sidesT.lookup z1).isSome) (fun Q'' q'' => ⟨_, rfl, _, rfl, _, 2, rfl, rfl, a, _, _, _, rfl, rfl, hS, hat2, rfl, _, rfl, ?_⟩) (fun _ Q'' q'' => ⟨_, rfl, _, rfl, _, 1, rfl, rfl, a, _, _, _, rfl, rfl, hS, hat1, z1, rfl, rfl, _, rfl, q''⟩) q') (ite2 (fun h3 => ?_) (fun h3 => ?_))
      · rw [decide_eq_false (show ¬ ((ns.map V.int).length : Int) < 2 by rw [List.length_map]; omega)]
        exact q'
      · rw [dI]
        exact q''
      · refine qn ?_ H (Same.refl H)
        unfold readI
        by_cases h4 : z2 = 32
        · rw [if_neg (by rw [hz2, h4]; simp; omega), hg1]
          rw [sides_at, h4] at h3
          cases hs : sideI z1 with
          | none => rfl
          | some b => rw [hs] at h3; cases h3
        · rw [if_pos]
          rw [hz2]
          exact .inr (by simpa using h4)
      · rw [sides_at] at h3
        cases hs : sideI z1 with
        | none => rw [hs] at h3; simp at h3
        | some sb =>
          rw [hs] at h3
          have h4 : z2 = 32 := by simpa using h3
          have hrd : readI ns = (boardI (ns.take (ns.length - 2))).bind fun bd => if oneGen bd true = true ∧ oneGen bd false = true then some (bd, sb) else none := by
            unfold readI
            rw [if_neg (by rw [hz2, h4]; simp; omega), hg1, hs]
            rfl
          have hside : sidesT.lookup z1 = some (sd sb) := by
            rw [sides_at, hs]
            rfl
          refine ⟨_, rfl, _, rfl, _, 2, rfl, rfl, _, rfl, a, _, rfl, hS, fun p np => ?_⟩
          have sp0 : Same H (upd H p (.lst (cutV (ns.map V.int) none (some (((ns.map V.int).length : Int) - 2))))) := same_upd np
          refine ⟨p, ns.take (ns.length - 2), rfl, ?_, by rw [List.length_take]; omega, fun hn H1 s1 => ?_, fun bd hbd H1 B s1 hBd => ?_⟩
          · rw [cut_to (by omega)]
            exact SqL.of upd_same
          · try dsimp only [gName, tSeq, tIfS, tRet, tAsg, tNext]
            refine tor_of true false (fun Q' q' => ⟨_, rfl, rfl, _, rfl, ?_⟩) (fun z => by cases z) (iteT ?_)
            · rw [decide_eq_true rfl]
              exact q'
            · refine qn ?_ H1 (sp0.trans s1)
              rw [hrd, hn]
              rfl
          · try dsimp only [gName, tSeq, tIfS, tRet, tAsg, tNext]
            refine tor_of false ((!oneGen bd true) || (!oneGen bd false)) (fun Q' q' => ⟨_, rfl, rfl, _, rfl, ?_⟩)
              (fun _ Q' q' => tor_of (!oneGen bd true) (!oneGen bd false) (fun Q'' q'' => ⟨_, rfl, B, bd, true, rfl, hBd, _, rfl, q''⟩) (fun _ Q'' q'' => ⟨_, rfl, B, bd, false, rfl, hBd, _, rfl, q''⟩) q') (ite2 (fun h5 => ?_) (fun h5 => ?_))
            · rw [decide_eq_false (by intro z; rw [hBd.1] at z; cases z)]
              exact q'
            · refine qn ?_ H1 (sp0.trans s1)
              rw [hrd, hbd]
              refine if_neg fun z => ?_
              rw [z.1, z.2] at h5
              cases h5
            · have h6 : oneGen bd true = true ∧ oneGen bd false = true := by simpa using h5
              refine ⟨_, rfl, _, rfl, _, rfl, _, 1, rfl, rfl, a, _, _, _, rfl, rfl, (sp0.trans s1).seq hS, hat1, z1, _, rfl, rfl, hside, sz 2 (by decide), fun r nr => ?_⟩
              refine qs bd sb ?_ _ r B ((sp0.trans s1).trans (same_upd nr)) upd_same hBd
              rw [hrd, hbd]
              exact if_pos h6
theorem readI_ok {ns : List Int} {bd : Bd} {b : Bool} (h : readI ns = some (bd, b)) : bd.length = 90 ∧ gen bd true < 90 ∧ gen bd false < 90 := by
  unfold readI at h
  split at h
  · cases h
  · cases e1 : sideI (ns.getD (ns.length - 1) 0) with
    | none => rw [e1] at h; cases h
    | some sb =>
      rw [e1] at h
      cases e2 : boardI (ns.take (ns.length - 2)) with
      | none => rw [e2] at h; cases h
      | some bd' =>
        rw [e2] at h
        have h : (if oneGen bd' true = true ∧ oneGen bd' false = true then some (bd', sb) else none) = some (bd, b) := h
        split at h
        · rename_i h6
          cases h
          have hl := boardI_len e2
          exact ⟨hl, hl ▸ oneGen_gen h6.1, hl ▸ oneGen_gen h6.2⟩
        · cases h
end
end Tr

namespace Tr
open PySem PySem.Spec PyProof.Rows L2
open Sn32 (Man)
theorem allMovesG_on {bd : Bd} {b : Bool} {m : Int × Int} (h : m ∈ allMovesG bd b) : onB m.1 ∧ onB m.2 := by
  unfold allMovesG at h
  obtain ⟨s, hs, h⟩ := List.mem_flatMap.mp h
  have hs := List.mem_range.mp hs
  split at h
  · unfold movesFromG at h
    obtain ⟨e, he, rfl⟩ := List.mem_map.mp h
    have he := List.mem_range.mp (List.mem_filter.mp he).1
    exact ⟨⟨by omega, by omega⟩, ⟨by omega, by omega⟩⟩
  · cases h
end Tr

namespace Tr
open PySem PySem.Spec PyProof.Rows L2
open Sn32 (Man)
theorem sum_more {α : Type} (f : α → Nat) {l : List α} {i : Nat} {x : α} (h : l[i]? = some x) : ((l.take (i + 1)).map f).sum = ((l.take i).map f).sum + f x := by
  rw [take_more h, List.map_append, List.sum_append]
  simp
section
variable {P : Program} {w : World} {K : PySem.W.Frag} {mg : Str → Option Value} {base : Heap} {dM dS dT dL : Addr}
def sp_has_move_from : Sp := fun vs H Q _ => ∃ (a : V) (bd : Bd) (b : Bool) (s : Int), vs = [a, .str (sd b), .int s] ∧ BdV a bd ∧ onB s ∧ stands (cell bd s) b = true ∧ ∀ H', Same H H' → Q (.bl (hasFrom bd b s)) H'
theorem cal_has_move_from (h : Has K mg "has_move_from" s_has_move_from ["board", "side", "start"]) (T : Tx w K mg dM dS dT dL) (C_may_move : Cal P w K mg base 6 "may_move" ["board", "side", "start", "end"] sp_may_move) (C_ends_to_try : Cal P w K mg base 3 "ends_to_try" ["man", "start"] sp_ends_to_try) : Cal P w K mg base 7 "has_move_from" ["board", "side", "start"] sp_has_move_from := by
  obtain ⟨f, fd, F, g, b⟩ := h.ex
  refine ⟨f, fd, F.ok sc_has_move_from (fun vs H Q E h => ?_) (fun cdv A outer s H vs Q E hr h => ?_), g, F.kp, b⟩
  · obtain ⟨a, bd, b, s, rfl, _⟩ := h
    rfl
  · obtain ⟨a, bd, b, s, rfl, hB, hs, hst, q⟩ := h
    refine ⟨_, (pss_cons (ps_for PassesOwn.never rfl (pi_list (pe_cal C_ends_to_try (hr.mono (by omega)) (by rfl) (pa_cons (pe_ix ix_bd (pv 0) (pv 2) (fun _ _ => rfl)) (pa_cons (pv 2) pa_nil)))) (pg_name (i := 3) sc_has_move_from.nd rfl (Or.inl rfl)) (pss_one (ps_if (pt_val (pe_cal C_may_move (hr.mono (by omega)) (by rfl) (pa_cons (pv 0) (pa_cons (pv 1) (pa_cons (pv 2) (pa_cons (pv 3) pa_nil)))))) (pss_one (ps_ret pe_bl)) pss_nil))) (pss_one (ps_ret pe_bl))), ?_⟩
    obtain ⟨m, hm, hr'⟩ := stands_some hst
    refine ⟨_, rfl, _, rfl, bd, s, hB, rfl, hs.1, hs.2, ?_⟩
    rw [hm]
    refine ⟨_, rfl, m, s, rfl, hs, fun H1 l s1 f1 e1 => ⟨l, rfl, ⟨_, SqL.of e1⟩, ?_⟩⟩
    refine for_list (K := K) (a := l) (xs := (endsTry m s).map V.int) (fun i σ H' => Same H1 H' ∧ (∀ (j : Nat) (x : Int), j < i → (endsTry m s)[j]? = some x → mayMoveG bd b s x = false) ∧ ∃ v, σ = [some a, some (.str (sd b)), some (.int s), v])
        ⟨Same.refl _, fun j _ hj => absurd hj (Nat.not_lt_zero j), none, rfl⟩ ?_ ?_ ?_
    · rintro i σ H' _ ⟨sm, _⟩
      exact SqL.of (sm _ _ e1)
    · rintro i x σ H' hi ⟨sm, hp, v, rfl⟩
      obtain ⟨z, hz, rfl⟩ := at_int hi
      have hz0 : onB z := endsTry_on hs (List.mem_of_getElem? hz)
      refine ⟨_, rfl, _, rfl, _, rfl, _, rfl, a, bd, b, s, z, rfl, hB, hs, hz0, hst, fun H3 sm3 => ⟨_, rfl, ite2 (fun h1 => ?_) (fun h1 => ?_)⟩⟩
      · refine qb (show true = hasFrom bd b s from ?_) (q _ (s1.trans (sm.trans sm3)))
        rw [← hasFrom_any hs hm]
        exact (List.any_eq_true.mpr ⟨z, List.mem_of_getElem? hz, h1⟩).symm
      · refine ⟨sm.trans sm3, fun j x hj hx => ?_, some (.int z), rfl⟩
        by_cases hji : j < i
        · exact hp j x hji hx
        · have : j = i := by omega
          subst this
          rw [hz] at hx
          cases hx
          exact Bool.eq_false_iff.mpr h1
    · rintro σ H' ⟨sm, hp, v, rfl⟩
      refine qb (show false = hasFrom bd b s from ?_) (q _ (s1.trans sm))
      rw [← hasFrom_any hs hm]
      refine (Bool.eq_false_iff.mpr fun z => ?_).symm
      obtain ⟨x, hx, h1⟩ := List.any_eq_true.mp z
      obtain ⟨j, hj⟩ := List.mem_iff_getElem?.mp hx
      rw [hp j x (by rw [List.length_map]; exact (List.getElem?_eq_some_iff.mp hj).1) hj] at h1
      cases h1
def sp_has_move : Sp := fun vs H Q _ => ∃ (a : V) (bd : Bd) (b : Bool), vs = [a, .str (sd b)] ∧ BdV a bd ∧ ∀ H', Same H H' → Q (.bl (hasMoveG bd b)) H'
theorem cal_has_move (h : Has K mg "has_move" s_has_move ["board", "side"]) (T : Tx w K mg dM dS dT dL) (C_stands_for : Cal P w K mg base 1 "stands_for" ["man", "side"] sp_stands_for) (C_has_move_from : Cal P w K mg base 7 "has_move_from" ["board", "side", "start"] sp_has_move_from) : Cal P w K mg base 8 "has_move" ["board", "side"] sp_has_move := by
  obtain ⟨f, fd, F, g, b⟩ := h.ex
  refine ⟨f, fd, F.ok sc_has_move (fun vs H Q E h => ?_) (fun cdv A outer s H vs Q E hr h => ?_), g, F.kp, b⟩
  · obtain ⟨a, bd, b, rfl, _⟩ := h
    rfl
  · obtain ⟨a, bd, b, rfl, hB, q⟩ := h
    refine ⟨_, (pss_cons (ps_for PassesOwn.never rfl (pi_range1 (by rfl) T.b_range (pa_cons (pe_gi T.c_POINTS) pa_nil)) (pg_name (i := 2) sc_has_move.nd rfl (Or.inl rfl)) (pss_one (ps_if (PW.pt (pw_and (pt_val (pe_cal C_stands_for (hr.mono (by omega)) (by rfl) (pa_cons (pe_ix ix_bd (pv 0) (pv 2) (fun _ _ => rfl)) (pa_cons (pv 1) pa_nil)))) (pw_and1 (pt_val (pe_cal C_has_move_from (hr.mono (by omega)) (by rfl) (pa_cons (pv 0) (pa_cons (pv 1) (pa_cons (pv 2) pa_nil)))))))) (pss_one (ps_ret pe_bl)) pss_nil))) (pss_one (ps_ret pe_bl))), ?_⟩
    refine ⟨90, rfl, by decide, by decide, ?_⟩
    refine for_range (lo := 0) (n := 90) (fun i σ H' => Same H H' ∧ (∀ j : Nat, j < i → (stands (cell bd (j : Int)) b && hasFrom bd b (j : Int)) = false) ∧ ∃ v, σ = [some a, some (.str (sd b)), v])
      ⟨Same.refl _, fun j hj => absurd hj (Nat.not_lt_zero j), none, rfl⟩ ?_ ?_
    · rintro i σ H' hi ⟨sm, hp, v, rfl⟩
      have ei : (0 : Int) + (i : Int) = (i : Int) := by omega
      rw [ei]
      have hi0 : onB (i : Int) := ⟨by omega, by omega⟩
      have nxt : ∀ H2, Same H H2 → (stands (cell bd (i : Int)) b && hasFrom bd b (i : Int)) = false → Same H H2 ∧ (∀ j : Nat, j < i + 1 → (stands (cell bd (j : Int)) b && hasFrom bd b (j : Int)) = false) ∧ ∃ v, [some a, some (.str (sd b)), some (.int (i : Int))] = [some a, some (.str (sd b)), v] := fun H2 s2 hf => by
        refine ⟨s2, fun j hj => ?_, _, rfl⟩
        by_cases hji : j < i
        · exact hp j hji
        · have : j = i := by omega
          subst this
          exact hf
      refine ⟨_, rfl, _, rfl, bd, (i : Int), hB, rfl, hi0.1, hi0.2, _, rfl, _, b, rfl, _, rfl, ite2 (fun h1 => ?_) (fun h1 => ?_)⟩
      · refine ⟨_, rfl, _, rfl, _, rfl, a, bd, b, (i : Int), rfl, hB, hi0, h1, fun H2 s2 => ⟨_, rfl, ite2 (fun h2 => ?_) (fun h2 => ?_)⟩⟩
        · refine qb (show true = hasMoveG bd b from ?_) (q _ (sm.trans s2))
          rw [← hasMoveG_any]
          exact (List.any_eq_true.mpr ⟨i, List.mem_range.mpr hi, by rw [h1, h2]; rfl⟩).symm
        · exact nxt H2 (sm.trans s2) (by rw [Bool.eq_false_iff.mpr h2, Bool.and_false])
      · exact iteF (nxt H' sm (by rw [Bool.eq_false_iff.mpr h1, Bool.false_and]))
    · rintro σ H' ⟨sm, hp, v, rfl⟩
      refine qb (show false = hasMoveG bd b from ?_) (q _ sm)
      rw [← hasMoveG_any]
      refine (Bool.eq_false_iff.mpr fun z => ?_).symm
      obtain ⟨j, hj, h1⟩ := List.any_eq_true.mp z
      rw [hp j (List.mem_range.mp hj)] at h1
      cases h1
/-- find_win and has_lost, where so many moves are known -/
def sp_find_win (d : Nat) : Sp := fun vs H Q _ => ∃ (a : V) (bd : Bd) (b : Bool) (n : Int), vs = [a, .str (sd b), .int n] ∧ BdV a bd ∧ 0 ≤ n ∧ (n < (d : Int) ∧ n ≤ 100) ∧ (winG bd b n.toNat = none → ∀ H', Same H H' → Q .non H') ∧
  ∀ (k : Nat) (m : Int × Int), winG bd b n.toNat = some (k, m) → ∀ H' t, Same H H' → H' t = some (.tup [.int (k : Int), .int m.1, .int m.2]) → Q (.ref t) H'
def sp_has_lost (d : Nat) : Sp := fun vs H Q _ => ∃ (a : V) (bd : Bd) (b : Bool) (n : Int), vs = [a, .str (sd b), .int n] ∧ BdV a bd ∧ 0 ≤ n ∧ (n < (d : Int) ∧ n ≤ 100) ∧
  ∀ H', Same H H' → Q (.bl (lostG n.toNat bd b)) H'
theorem cal_has_lost1 (h : Has K mg "has_lost" s_has_lost ["board", "side", "more"]) (T : Tx w K mg dM dS dT dL) (C_all_moves : Cal P w K mg base 8 "all_moves" ["board", "side"] sp_all_moves) (C_after_move : Cal P w K mg base 1 "after_move" ["board", "start", "end"] sp_after_move) (C_other_side : Cal P w K mg base 1 "other_side" ["side"] sp_other_side) (C_has_move : Cal P w K mg base 8 "has_move" ["board", "side"] sp_has_move) (d : Nat) (C_find_win : Cal P w K mg base (9 + 2 * d) "find_win" ["board", "side", "most"] (sp_find_win d)) : Cal P w K mg base (9 + 2 * d + 1) "has_lost" ["board", "side", "more"] (sp_has_lost d) := by
  obtain ⟨f, fd, F, g, b⟩ := h.ex
  refine ⟨f, fd, F.ok (k := 9 + 2 * d) sc_has_lost (fun vs H Q E h => ?_) (fun cdv A outer s H vs Q E hr h => ?_), g, F.kp, b⟩
  · obtain ⟨a, bd, b, n, rfl, _⟩ := h
    rfl
  · obtain ⟨a, bd, b, n, rfl, hB, h0, hd, q⟩ := h
    refine ⟨_, (pss_cons (ps_if (pt_cmpR op_eq (pv 2) pe_int (nomark _)) (pss_one (ps_ret (pe_not (pe_cal C_has_move (hr.mono (by omega)) (by rfl) (pa_cons (pv 0) (pa_cons (pv 1) pa_nil)))))) pss_nil) (pss_cons (ps_for PassesOwn.never rfl (pi_list (pe_cal C_all_moves (hr.mono (by omega)) (by rfl) (pa_cons (pv 0) (pa_cons (pv 1) pa_nil)))) (pg_tup rfl (pgs_cons (pg_name (i := 3) sc_has_lost.nd rfl (Or.inl rfl)) (pgs_cons (pg_name (i := 4) sc_has_lost.nd rfl (Or.inl rfl)) pgs_nil))) (pss_one (ps_if (pt_cmpR op_isN (pe_cal C_find_win (hr.mono (by omega)) (by rfl) (pa_cons (pe_cal C_after_move (hr.mono (by omega)) (by rfl) (pa_cons (pv 0) (pa_cons (pv 3) (pa_cons (pv 4) pa_nil)))) (pa_cons (pe_cal C_other_side (hr.mono (by omega)) (by rfl) (pa_cons (pv 1) pa_nil)) (pa_cons (pv 2) pa_nil)))) pe_non (nomark _)) (pss_one (ps_ret pe_bl)) pss_nil))) (pss_one (ps_ret pe_bl)))), ?_⟩
    refine ⟨_, rfl, rfl, _, rfl, ifc (dI _ _) (ite2 (fun h1 => ?_) (fun h1 => ?_))⟩
    · have h2 : n = 0 := of_decide_eq_true h1
      subst h2
      exact ⟨_, rfl, _, rfl, a, bd, b, rfl, hB, fun H1 s1 => ⟨_, rfl, qb (lostG_zero bd b).symm (q H1 s1)⟩⟩
    · have hq : lostG n.toNat bd b = (allMovesG bd b).all fun r => (winG (after bd r.1 r.2) (!b) n.toNat).isSome := lostG_win _ _ _
      rw [hq] at q
      refine ⟨_, rfl, _, rfl, a, bd, b, rfl, hB, fun H1 p xs s1 np hp pr => ?_⟩
      have hlen := pr.len
      refine ⟨p, rfl, ⟨_, SqL.of hp⟩, for_list (K := K) (a := p) (xs := xs) (fun i σ H' => Same H H' ∧ H' p = some (.lst xs) ∧ Prs H' xs (allMovesG bd b) ∧ (∀ j m, j < i → (allMovesG bd b)[j]? = some m → (winG (after bd m.1 m.2) (!b) n.toNat).isSome = true) ∧ ∃ v1 v2, σ = [some a, some (.str (sd b)), some (.int n), v1, v2]) ?_ ?_ ?_ ?_⟩
      · exact ⟨s1, hp, pr, fun j m hj => absurd hj (Nat.not_lt_zero j), none, none, rfl⟩
      · rintro i σ H' _ ⟨_, hp', _⟩
        exact SqL.of hp'
      · rintro i x σ H' hi ⟨sm, hp', pr', hall, v1, v2, rfl⟩
        obtain ⟨t, m, rfl, hm, ht⟩ := pr'.get hi
        have hmem := List.mem_of_getElem? hm
        have hon := allMovesG_on hmem
        refine ⟨t, _, rfl, SqT.of ht, rfl, _, _, rfl, _, _, rfl, rfl, ?_⟩
        refine ⟨_, rfl, _, rfl, _, rfl, a, bd, m.1, m.2, rfl, hB, hon.1, hon.2, fun H3 x s3 hx => ?_⟩
        refine ⟨_, rfl, b, rfl, _, rfl, x, after bd m.1 m.2, !b, n, rfl, hx, h0, hd, fun hn H4 s4 => ?_, fun k m2 hk H4 t4 s4 ht4 => ?_⟩
        · refine ⟨rfl, _, rfl, ifc (b := true) (decide_eq_true rfl) (iteT ?_)⟩
          refine qb (show false = (allMovesG bd b).all _ from ?_) (q H4 (sm.trans (s3.trans s4)))
          refine (Bool.eq_false_iff.mpr fun z => ?_).symm
          have := List.all_eq_true.mp z m hmem
          rw [hn] at this
          cases this
        · refine ⟨rfl, _, rfl, ifc (b := false) (decide_eq_false (by intro z; cases z)) (iteF ?_)⟩
          refine ⟨sm.trans (s3.trans s4), s4 _ _ (s3 _ _ hp'), pr'.same (s3.trans s4), fun j m' hj hm' => ?_, _, _, rfl⟩
          by_cases hji : j < i
          · exact hall j m' hji hm'
          · have : j = i := by omega
            subst this
            rw [hm] at hm'
            cases hm'
            rw [hk]
            rfl
      · rintro σ H' ⟨sm, hp', pr', hall, v1, v2, rfl⟩
        refine qb (show true = (allMovesG bd b).all _ from ?_) (q H' sm)
        refine (List.all_eq_true.mpr fun m hm => ?_).symm
        obtain ⟨j, hj, hv⟩ := List.getElem_of_mem hm
        exact hall j m (by omega) (by rw [List.getElem?_eq_getElem hj, hv])
theorem cal_find_win (h : Has K mg "find_win" s_find_win ["board", "side", "most"]) (hL : Has K mg "has_lost" s_has_lost ["board", "side", "more"]) (T : Tx w K mg dM dS dT dL) (C_all_moves : Cal P w K mg base 8 "all_moves" ["board", "side"] sp_all_moves) (C_after_move : Cal P w K mg base 1 "after_move" ["board", "start", "end"] sp_after_move) (C_other_side : Cal P w K mg base 1 "other_side" ["side"] sp_other_side) (C_has_move : Cal P w K mg base 8 "has_move" ["board", "side"] sp_has_move) : ∀ d : Nat, Cal P w K mg base (9 + 2 * d) "find_win" ["board", "side", "most"] (sp_find_win d)
  | 0 => by
    obtain ⟨f, fd, F, g, b⟩ := h.ex
    refine ⟨f, fd, F.ok sc_find_win (fun vs H Q E h => ?_) (fun cdv A outer s H vs Q E hr h => ?_), g, F.kp, b⟩
    · obtain ⟨a, bd, b, n, rfl, _⟩ := h
      rfl
    · obtain ⟨a, bd, b, n, rfl, _, h1, h2, _⟩ := h
      exact absurd h2 (by omega)
  | d + 1 => by
    have C_has_lost := cal_has_lost1 hL T C_all_moves C_after_move C_other_side C_has_move d (cal_find_win h hL T C_all_moves C_after_move C_other_side C_has_move d)
    obtain ⟨f, fd, F, g, b⟩ := h.ex
    refine ⟨f, fd, F.ok (k := 9 + 2 * d + 1) sc_find_win (fun vs H Q E h => ?_) (fun cdv A outer s H vs Q E hr h => ?_), g, F.kp, b⟩
    · obtain ⟨a, bd, b, n, rfl, _⟩ := h
      rfl
    · obtain ⟨a, bd, b, n, rfl, hB, h0, hd, qn, qs⟩ := h
      refine ⟨_, (pss_cons (ps_set (i := 3) sc_find_win.nd rfl (Or.inl rfl) (pe_cal C_all_moves (hr.mono (by omega)) (by rfl) (pa_cons (pv 0) (pa_cons (pv 1) pa_nil)))) (pss_cons (ps_for PassesOwn.never rfl (pi_range2 (by rfl) T.b_range (pa_cons pe_int (pa_cons (pe_op op_add (pv 2) pe_int) pa_nil))) (pg_name (i := 4) sc_find_win.nd rfl (Or.inl rfl)) (pss_one (ps_for PassesOwn.never rfl (pi_list (pv 3)) (pg_tup rfl (pgs_cons (pg_name (i := 5) sc_find_win.nd rfl (Or.inl rfl)) (pgs_cons (pg_name (i := 6) sc_find_win.nd rfl (Or.inl rfl)) pgs_nil))) (pss_one (ps_if (pt_val (pe_cal C_has_lost (hr.mono (by omega)) (by rfl) (pa_cons (pe_cal C_after_move (hr.mono (by omega)) (by rfl) (pa_cons (pv 0) (pa_cons (pv 5) (pa_cons (pv 6) pa_nil)))) (pa_cons (pe_cal C_other_side (hr.mono (by omega)) (by rfl) (pa_cons (pv 1) pa_nil)) (pa_cons (pe_op op_sub (pv 4) pe_int) pa_nil))))) (pss_one (ps_ret (pe_tup (pa_cons (pv 4) (pa_cons (pv 5) (pa_cons (pv 6) pa_nil)))))) pss_nil))))) (pss_one (ps_ret pe_non)))), ?_⟩
      refine ⟨_, rfl, _, rfl, a, bd, b, rfl, hB, fun H1 r xs s1 nr hr1 pr => ?_⟩
      have hxl := pr.len
      refine ⟨_, rfl, n, 1, rfl, rfl, 1, n + 1, rfl, ⟨by omega, by omega, by omega, by omega⟩, ?_⟩
      rw [show (n + 1 - 1).toNat = n.toNat by omega]
      refine for_range (lo := 1) (n := n.toNat) (fun i σ H' => Same H H' ∧ H' r = some (.lst xs) ∧ Prs H' xs (allMovesG bd b) ∧ (∀ j, j < i → firstG j bd b = none) ∧ ∃ v1 v2 v3, σ = [some a, some (.str (sd b)), some (.int n), some (.ref r), v1, v2, v3]) ?_ ?_ ?_
      · exact ⟨s1, hr1, pr, fun j hj => absurd hj (Nat.not_lt_zero j), none, none, none, rfl⟩
      · rintro i σ H' hi ⟨sm, hr2, pr2, hno, v1, v2, v3, rfl⟩
        refine ⟨_, rfl, r, rfl, ⟨_, SqL.of hr2⟩, for_list (K := K) (a := r) (xs := xs) (fun c σ H' => Same H H' ∧ H' r = some (.lst xs) ∧ Prs H' xs (allMovesG bd b) ∧ (∀ j m, j < c → (allMovesG bd b)[j]? = some m → lostG i (after bd m.1 m.2) (!b) = false) ∧ ∃ v2 v3, σ = [some a, some (.str (sd b)), some (.int n), some (.ref r), some (.int (1 + (i : Int))), v2, v3]) ?_ ?_ ?_ ?_⟩
        · exact ⟨sm, hr2, pr2, fun j m hj => absurd hj (Nat.not_lt_zero j), _, _, rfl⟩
        · rintro c σ H' _ ⟨_, hp', _⟩
          exact SqL.of hp'
        · rintro c x σ H' hc ⟨sm', hp', pr', hall, v2, v3, rfl⟩
          obtain ⟨t, m, rfl, hm', ht⟩ := pr'.get hc
          have hmem := List.mem_of_getElem? hm'
          have hon := allMovesG_on hmem
          refine ⟨t, _, rfl, SqT.of ht, rfl, _, _, rfl, _, _, rfl, rfl, ?_⟩
          refine ⟨_, rfl, _, rfl, _, rfl, a, bd, m.1, m.2, rfl, hB, hon.1, hon.2, fun H3 y s3 hy => ?_⟩
          have ei : ((1 : Int) + (i : Int) - 1).toNat = i := by omega
          refine ⟨_, rfl, b, rfl, _, rfl, 1 + (i : Int), 1, rfl, rfl, y, after bd m.1 m.2, !b, 1 + (i : Int) - 1, rfl, hy, by omega, by omega, fun H4 s4 => ⟨_, rfl, ?_⟩⟩
          rw [ei]
          refine ite2 (fun h5 => ?_) (fun h5 => ?_)
          · have hf : firstG i bd b = some m := by
              unfold firstG
              rw [List.find?_eq_some_iff_getElem]
              obtain ⟨hi2, hv2⟩ := List.getElem?_eq_some_iff.mp hm'
              refine ⟨h5, c, hi2, hv2, fun j hj => ?_⟩
              have := hall j _ hj (List.getElem?_eq_getElem (by omega))
              simp [this]
            have hw : winG bd b n.toNat = some (i + 1, m) := by
              unfold winG
              rw [List.findSome?_eq_some_iff]
              refine ⟨List.range i, i, (List.range n.toNat).drop (i + 1), ?_, by rw [hf]; rfl, fun x hx => ?_⟩
              · have h6 : (List.range n.toNat)[i]? = some i := List.getElem?_range hi
                have h7 := List.take_append_drop i (List.range n.toNat)
                rw [drop_at h6, List.take_range, Nat.min_eq_left (Nat.le_of_lt hi)] at h7
                exact h7.symm
              · rw [hno x (List.mem_range.mp hx)]
                rfl
            refine ⟨_, rfl, _, rfl, _, rfl, sz 3 (by decide), fun u nu => qs (i + 1) m hw _ u (sm'.trans (s3.trans (s4.trans (same_upd nu)))) ?_⟩
            rw [upd_same, show ((i + 1 : Nat) : Int) = 1 + (i : Int) by omega]
          · refine ⟨sm'.trans (s3.trans s4), s4 _ _ (s3 _ _ hp'), pr'.same (s3.trans s4), fun j m' hj hm'' => ?_, _, _, rfl⟩
            by_cases hji : j < c
            · exact hall j m' hji hm''
            · have : j = c := by omega
              subst this
              rw [hm'] at hm''
              cases hm''
              exact Bool.eq_false_iff.mpr h5
        · rintro σ H' ⟨sm', hp', pr', hall, v2, v3, rfl⟩
          refine ⟨sm', hp', pr', fun j hj => ?_, _, _, _, rfl⟩
          by_cases hji : j < i
          · exact hno j hji
          · have : j = i := by omega
            subst this
            unfold firstG
            rw [List.find?_eq_none]
            intro m hm2
            obtain ⟨c, hc, hv⟩ := List.getElem_of_mem hm2
            rw [hall c m (by omega) (by rw [List.getElem?_eq_getElem hc, hv])]
            simp
      · rintro σ H' ⟨sm, hr2, pr2, hno, v1, v2, v3, rfl⟩
        refine qn ?_ H' sm
        unfold winG
        rw [List.findSome?_eq_none_iff]
        intro x hx
        rw [hno x (List.mem_range.mp hx)]
        rfl
def sp_win (K : PySem.W.Frag) : Sp := fun vs H Q _ => ∃ (k most : Int) (a : Addr) (ns : List Int), vs = [.int k, .int most, .ref a] ∧ SqL K H a (ns.map V.int) ∧ ns.length ≤ 1000 ∧
  ∀ H' p, H' p = some (.lst ((winJ most ns).map V.int)) → Q (.ref p) H'
theorem ok_win {f : Addr} {fd : FuncData} (F : Fun K "win" "win" s_win f fd) (T : Tx w K mg dM dS dT dL) (C_read_position : Cal P w K mg base 4 "read_position" ["text"] (sp_read_position K)) (C_name_of_move : Cal P w K mg base 3 "name_of_move" ["start", "end"] sp_name_of_move) (C_find_win : Cal P w K mg base (9 + 2 * 4) "find_win" ["board", "side", "most"] (sp_find_win 4)) : FnOk P w K mg base CX0 22 f fd ["k", "most", "text"] (sp_win K) := by
  refine F.ok sc_win (fun vs H Q E h => ?_) (fun cdv A outer s H vs Q E hr h => ?_)
  · obtain ⟨k, most, a, ns, rfl, _⟩ := h
    rfl
  · obtain ⟨k, most, a, ns, rfl, hS, hlen, q⟩ := h
    refine ⟨_, (pss_cons (ps_if (pt_not (pt_chain op_le op_le pe_int (pv 1) (pe_gi T.c_LARGEST_WIN))) (pss_one (ps_ret (pe_lst (pa_cons (pe_gi T.c_OUT_OF_RANGE) pa_nil)))) pss_nil) (pss_cons (ps_set (i := 3) sc_win.nd rfl (Or.inl rfl) (pe_cal C_read_position (hr.mono (by omega)) (by rfl) (pa_cons (pv 2) pa_nil))) (pss_cons (ps_if (pt_cmpR op_isN (pv 3) pe_non (nomark _)) (pss_one (ps_ret (pe_lst (pa_cons (pe_gi T.c_NO_POSITION) pa_nil)))) pss_nil) (pss_cons (ps_set (i := 4) sc_win.nd rfl (Or.inl rfl) (pe_cal C_find_win (hr.mono (by omega)) (by rfl) (pa_cons (pe_ix ix_tup (pv 3) pe_int (fun _ _ => rfl)) (pa_cons (pe_ix ix_tup (pv 3) pe_int (fun _ _ => rfl)) (pa_cons (pv 1) pa_nil))))) (pss_cons (ps_if (pt_cmpR op_isN (pv 4) pe_non (nomark _)) (pss_one (ps_ret (pe_lst (pa_cons (pe_gi T.c_NO_WIN) pa_nil)))) pss_nil) (pss_one (ps_ret (pe_op op_cat (pe_lst (pa_cons (pe_ix ix_tup (pv 4) pe_int (fun _ _ => rfl)) pa_nil)) (pe_cal C_name_of_move (hr.mono (by omega)) (by rfl) (pa_cons (pe_ix ix_tup (pv 4) pe_int (fun _ _ => rfl)) (pa_cons (pe_ix ix_tup (pv 4) pe_int (fun _ _ => rfl)) pa_nil))))))))))), ?_⟩
    have bad : ¬ (1 ≤ most ∧ most ≤ 3) → winJ most ns = [-2] := fun h => if_neg h
    refine ⟨_, rfl, 1, most, rfl, rfl, _, rfl, ite2 (fun h1 => ⟨_, 3, rfl, rfl, _, rfl, ite2 (fun h2 => ?_) (fun h2 => ?_)⟩) (fun h1 => ⟨_, rfl, iteT ?_⟩)⟩
    · have h3 : ¬ most ≤ 3 := by simpa using h2
      refine ⟨sz 1 (by decide), fun p np => q _ p ?_⟩
      rw [bad (fun z => h3 z.2)]
      exact upd_same
    · have h1 : 1 ≤ most := of_decide_eq_true h1
      have h3 : most ≤ 3 := by simpa using h2
      have hm : winJ most ns = (match readI ns with
        | none => [-3]
        | some (bd, b) => match winG bd b most.toNat with
          | none => [0]
          | some x => (x.1 : Int) :: name2 x.2) := if_pos ⟨h1, h3⟩
      refine ⟨_, rfl, a, ns, rfl, hS, hlen, fun hn H1 s1 => ?_, fun bd sb hrd H1 p B s1 hp hB => ?_⟩
      · refine ⟨_, rfl, rfl, _, rfl, ifc (b := true) (decide_eq_true rfl) (iteT ⟨sz 1 (by decide), fun p np => q _ p ?_⟩)⟩
        rw [hm, hn]
        exact upd_same
      · refine ⟨_, rfl, rfl, _, rfl, ifc (b := false) (decide_eq_false (by intro z; cases z)) (iteF ?_)⟩
        rw [hrd] at hm
        dsimp only at hm
        refine ⟨_, rfl, p, _, 0, _, rfl, rfl, SqT.of hp, atI_nat (j := 0) rfl, _, rfl, p, _, 1, _, rfl, rfl, SqT.of hp, atI_nat (j := 1) rfl, _, rfl, B, bd, sb, most, rfl, hB, by omega, by omega, fun hn H2 s2 => ?_, fun n m hw H2 t s2 ht => ?_⟩
        · refine ⟨_, rfl, rfl, _, rfl, ifc (b := true) (decide_eq_true rfl) (iteT ⟨sz 1 (by decide), fun p np => q _ p ?_⟩)⟩
          rw [hm, hn]
          exact upd_same
        · refine ⟨_, rfl, rfl, _, rfl, ifc (b := false) (decide_eq_false (by intro z; cases z)) (iteF ?_)⟩
          refine ⟨_, rfl, t, _, 0, _, rfl, rfl, SqT.of ht, atI_nat (j := 0) rfl, sz 1 (by decide), fun u nu => ?_⟩
          have ht' := same_upd (o := .lst [.int (n : Int)]) nu _ _ ht
          refine ⟨_, rfl, t, _, 1, _, rfl, rfl, SqT.of ht', atI_nat (j := 1) rfl, _, rfl, t, _, 2, _, rfl, rfl, SqT.of ht', atI_nat (j := 2) rfl, m.1, m.2, rfl, fun H5 n1 s5 f5 e5 => ⟨u, n1, _, _, rfl, rfl, s5 _ _ upd_same, e5, sz _ (by simp [name2, nameOf]), fun z nz => q _ z ?_⟩⟩
          rw [upd_same, hm, hw]
          rfl
    · have h3 : ¬ 1 ≤ most := fun z => h1 (decide_eq_true z)
      refine ⟨sz 1 (by decide), fun p np => q _ p ?_⟩
      rw [bad (fun z => h3 z.1)]
      exact upd_same
end
end Tr

namespace Tr
open PySem PySem.Spec PyProof.Rows L2
theorem bind_point_at : ∀ (kV doc pm : Value) (an : Option Addr) (cdv ct : Value) (us : List Value), us.length = (["column", "row"] : List Str).length → bindArgs (PySem.W.fnOf "point_at" "point_at" (defArgs s_point_at) (defBody s_point_at) (defScope s_point_at) .none kV doc pm an cdv ct) ⟨us, []⟩ = pure ((["column", "row"] : List Str).zip us) := fun _ _ _ _ _ _ us hl => match us, hl with | [_, _], _ => rfl
theorem bind_column_of : ∀ (kV doc pm : Value) (an : Option Addr) (cdv ct : Value) (us : List Value), us.length = (["point"] : List Str).length → bindArgs (PySem.W.fnOf "column_of" "column_of" (defArgs s_column_of) (defBody s_column_of) (defScope s_column_of) .none kV doc pm an cdv ct) ⟨us, []⟩ = pure ((["point"] : List Str).zip us) := fun _ _ _ _ _ _ us hl => match us, hl with | [_], _ => rfl
theorem bind_row_of : ∀ (kV doc pm : Value) (an : Option Addr) (cdv ct : Value) (us : List Value), us.length = (["point"] : List Str).length → bindArgs (PySem.W.fnOf "row_of" "row_of" (defArgs s_row_of) (defBody s_row_of) (defScope s_row_of) .none kV doc pm an cdv ct) ⟨us, []⟩ = pure ((["point"] : List Str).zip us) := fun _ _ _ _ _ _ us hl => match us, hl with | [_], _ => rfl
theorem bind_side_of : ∀ (kV doc pm : Value) (an : Option Addr) (cdv ct : Value) (us : List Value), us.length = (["man"] : List Str).length → bindArgs (PySem.W.fnOf "side_of" "side_of" (defArgs s_side_of) (defBody s_side_of) (defScope s_side_of) .none kV doc pm an cdv ct) ⟨us, []⟩ = pure ((["man"] : List Str).zip us) := fun _ _ _ _ _ _ us hl => match us, hl with | [_], _ => rfl
theorem bind_other_side : ∀ (kV doc pm : Value) (an : Option Addr) (cdv ct : Value) (us : List Value), us.length = (["side"] : List Str).length → bindArgs (PySem.W.fnOf "other_side" "other_side" (defArgs s_other_side) (defBody s_other_side) (defScope s_other_side) .none kV doc pm an cdv ct) ⟨us, []⟩ = pure ((["side"] : List Str).zip us) := fun _ _ _ _ _ _ us hl => match us, hl with | [_], _ => rfl
theorem bind_stands_for : ∀ (kV doc pm : Value) (an : Option Addr) (cdv ct : Value) (us : List Value), us.length = (["man", "side"] : List Str).length → bindArgs (PySem.W.fnOf "stands_for" "stands_for" (defArgs s_stands_for) (defBody s_stands_for) (defScope s_stands_for) .none kV doc pm an cdv ct) ⟨us, []⟩ = pure ((["man", "side"] : List Str).zip us) := fun _ _ _ _ _ _ us hl => match us, hl with | [_, _], _ => rfl
theorem bind_general_of : ∀ (kV doc pm : Value) (an : Option Addr) (cdv ct : Value) (us : List Value), us.length = (["side"] : List Str).length → bindArgs (PySem.W.fnOf "general_of" "general_of" (defArgs s_general_of) (defBody s_general_of) (defScope s_general_of) .none kV doc pm an cdv ct) ⟨us, []⟩ = pure ((["side"] : List Str).zip us) := fun _ _ _ _ _ _ us hl => match us, hl with | [_], _ => rfl
theorem bind_forward : ∀ (kV doc pm : Value) (an : Option Addr) (cdv ct : Value) (us : List Value), us.length = (["side"] : List Str).length → bindArgs (PySem.W.fnOf "forward" "forward" (defArgs s_forward) (defBody s_forward) (defScope s_forward) .none kV doc pm an cdv ct) ⟨us, []⟩ = pure ((["side"] : List Str).zip us) := fun _ _ _ _ _ _ us hl => match us, hl with | [_], _ => rfl
theorem bind_in_palace : ∀ (kV doc pm : Value) (an : Option Addr) (cdv ct : Value) (us : List Value), us.length = (["side", "point"] : List Str).length → bindArgs (PySem.W.fnOf "in_palace" "in_palace" (defArgs s_in_palace) (defBody s_in_palace) (defScope s_in_palace) .none kV doc pm an cdv ct) ⟨us, []⟩ = pure ((["side", "point"] : List Str).zip us) := fun _ _ _ _ _ _ us hl => match us, hl with | [_, _], _ => rfl
theorem bind_on_own_half : ∀ (kV doc pm : Value) (an : Option Addr) (cdv ct : Value) (us : List Value), us.length = (["side", "point"] : List Str).length → bindArgs (PySem.W.fnOf "on_own_half" "on_own_half" (defArgs s_on_own_half) (defBody s_on_own_half) (defScope s_on_own_half) .none kV doc pm an cdv ct) ⟨us, []⟩ = pure ((["side", "point"] : List Str).zip us) := fun _ _ _ _ _ _ us hl => match us, hl with | [_, _], _ => rfl
theorem bind_after_move : ∀ (kV doc pm : Value) (an : Option Addr) (cdv ct : Value) (us : List Value), us.length = (["board", "start", "end"] : List Str).length → bindArgs (PySem.W.fnOf "after_move" "after_move" (defArgs s_after_move) (defBody s_after_move) (defScope s_after_move) .none kV doc pm an cdv ct) ⟨us, []⟩ = pure ((["board", "start", "end"] : List Str).zip us) := fun _ _ _ _ _ _ us hl => match us, hl with | [_, _, _], _ => rfl
theorem bind_ends_to_try : ∀ (kV doc pm : Value) (an : Option Addr) (cdv ct : Value) (us : List Value), us.length = (["man", "start"] : List Str).length → bindArgs (PySem.W.fnOf "ends_to_try" "ends_to_try" (defArgs s_ends_to_try) (defBody s_ends_to_try) (defScope s_ends_to_try) .none kV doc pm an cdv ct) ⟨us, []⟩ = pure ((["man", "start"] : List Str).zip us) := fun _ _ _ _ _ _ us hl => match us, hl with | [_, _], _ => rfl
theorem bind_starts_to_try : ∀ (kV doc pm : Value) (an : Option Addr) (cdv ct : Value) (us : List Value), us.length = (["end"] : List Str).length → bindArgs (PySem.W.fnOf "starts_to_try" "starts_to_try" (defArgs s_starts_to_try) (defBody s_starts_to_try) (defScope s_starts_to_try) .none kV doc pm an cdv ct) ⟨us, []⟩ = pure ((["end"] : List Str).zip us) := fun _ _ _ _ _ _ us hl => match us, hl with | [_], _ => rfl
theorem bind_points_by_steps : ∀ (kV doc pm : Value) (an : Option Addr) (cdv ct : Value) (us : List Value), us.length = (["point", "steps"] : List Str).length → bindArgs (PySem.W.fnOf "points_by_steps" "points_by_steps" (defArgs s_points_by_steps) (defBody s_points_by_steps) (defScope s_points_by_steps) .none kV doc pm an cdv ct) ⟨us, []⟩ = pure ((["point", "steps"] : List Str).zip us) := fun _ _ _ _ _ _ us hl => match us, hl with | [_, _], _ => rfl
theorem bind_points_in_line : ∀ (kV doc pm : Value) (an : Option Addr) (cdv ct : Value) (us : List Value), us.length = (["point"] : List Str).length → bindArgs (PySem.W.fnOf "points_in_line" "points_in_line" (defArgs s_points_in_line) (defBody s_points_in_line) (defScope s_points_in_line) .none kV doc pm an cdv ct) ⟨us, []⟩ = pure ((["point"] : List Str).zip us) := fun _ _ _ _ _ _ us hl => match us, hl with | [_], _ => rfl
theorem bind_could_go : ∀ (kV doc pm : Value) (an : Option Addr) (cdv ct : Value) (us : List Value), us.length = (["board", "start", "end"] : List Str).length → bindArgs (PySem.W.fnOf "could_go" "could_go" (defArgs s_could_go) (defBody s_could_go) (defScope s_could_go) .none kV doc pm an cdv ct) ⟨us, []⟩ = pure ((["board", "start", "end"] : List Str).zip us) := fun _ _ _ _ _ _ us hl => match us, hl with | [_, _, _], _ => rfl
theorem bind_general_goes : ∀ (kV doc pm : Value) (an : Option Addr) (cdv ct : Value) (us : List Value), us.length = (["board", "side", "start", "end"] : List Str).length → bindArgs (PySem.W.fnOf "general_goes" "general_goes" (defArgs s_general_goes) (defBody s_general_goes) (defScope s_general_goes) .none kV doc pm an cdv ct) ⟨us, []⟩ = pure ((["board", "side", "start", "end"] : List Str).zip us) := fun _ _ _ _ _ _ us hl => match us, hl with | [_, _, _, _], _ => rfl
theorem bind_guard_goes : ∀ (kV doc pm : Value) (an : Option Addr) (cdv ct : Value) (us : List Value), us.length = (["side", "start", "end"] : List Str).length → bindArgs (PySem.W.fnOf "guard_goes" "guard_goes" (defArgs s_guard_goes) (defBody s_guard_goes) (defScope s_guard_goes) .none kV doc pm an cdv ct) ⟨us, []⟩ = pure ((["side", "start", "end"] : List Str).zip us) := fun _ _ _ _ _ _ us hl => match us, hl with | [_, _, _], _ => rfl
theorem bind_elephant_goes : ∀ (kV doc pm : Value) (an : Option Addr) (cdv ct : Value) (us : List Value), us.length = (["board", "side", "start", "end"] : List Str).length → bindArgs (PySem.W.fnOf "elephant_goes" "elephant_goes" (defArgs s_elephant_goes) (defBody s_elephant_goes) (defScope s_elephant_goes) .none kV doc pm an cdv ct) ⟨us, []⟩ = pure ((["board", "side", "start", "end"] : List Str).zip us) := fun _ _ _ _ _ _ us hl => match us, hl with | [_, _, _, _], _ => rfl
theorem bind_horse_goes : ∀ (kV doc pm : Value) (an : Option Addr) (cdv ct : Value) (us : List Value), us.length = (["board", "start", "end"] : List Str).length → bindArgs (PySem.W.fnOf "horse_goes" "horse_goes" (defArgs s_horse_goes) (defBody s_horse_goes) (defScope s_horse_goes) .none kV doc pm an cdv ct) ⟨us, []⟩ = pure ((["board", "start", "end"] : List Str).zip us) := fun _ _ _ _ _ _ us hl => match us, hl with | [_, _, _], _ => rfl
theorem bind_chariot_goes : ∀ (kV doc pm : Value) (an : Option Addr) (cdv ct : Value) (us : List Value), us.length = (["board", "start", "end"] : List Str).length → bindArgs (PySem.W.fnOf "chariot_goes" "chariot_goes" (defArgs s_chariot_goes) (defBody s_chariot_goes) (defScope s_chariot_goes) .none kV doc pm an cdv ct) ⟨us, []⟩ = pure ((["board", "start", "end"] : List Str).zip us) := fun _ _ _ _ _ _ us hl => match us, hl with | [_, _, _], _ => rfl
theorem bind_cannon_goes : ∀ (kV doc pm : Value) (an : Option Addr) (cdv ct : Value) (us : List Value), us.length = (["board", "start", "end"] : List Str).length → bindArgs (PySem.W.fnOf "cannon_goes" "cannon_goes" (defArgs s_cannon_goes) (defBody s_cannon_goes) (defScope s_cannon_goes) .none kV doc pm an cdv ct) ⟨us, []⟩ = pure ((["board", "start", "end"] : List Str).zip us) := fun _ _ _ _ _ _ us hl => match us, hl with | [_, _, _], _ => rfl
theorem bind_soldier_goes : ∀ (kV doc pm : Value) (an : Option Addr) (cdv ct : Value) (us : List Value), us.length = (["side", "start", "end"] : List Str).length → bindArgs (PySem.W.fnOf "soldier_goes" "soldier_goes" (defArgs s_soldier_goes) (defBody s_soldier_goes) (defScope s_soldier_goes) .none kV doc pm an cdv ct) ⟨us, []⟩ = pure ((["side", "start", "end"] : List Str).zip us) := fun _ _ _ _ _ _ us hl => match us, hl with | [_, _, _], _ => rfl
theorem bind_columns_apart : ∀ (kV doc pm : Value) (an : Option Addr) (cdv ct : Value) (us : List Value), us.length = (["start", "end"] : List Str).length → bindArgs (PySem.W.fnOf "columns_apart" "columns_apart" (defArgs s_columns_apart) (defBody s_columns_apart) (defScope s_columns_apart) .none kV doc pm an cdv ct) ⟨us, []⟩ = pure ((["start", "end"] : List Str).zip us) := fun _ _ _ _ _ _ us hl => match us, hl with | [_, _], _ => rfl
theorem bind_rows_apart : ∀ (kV doc pm : Value) (an : Option Addr) (cdv ct : Value) (us : List Value), us.length = (["start", "end"] : List Str).length → bindArgs (PySem.W.fnOf "rows_apart" "rows_apart" (defArgs s_rows_apart) (defBody s_rows_apart) (defScope s_rows_apart) .none kV doc pm an cdv ct) ⟨us, []⟩ = pure ((["start", "end"] : List Str).zip us) := fun _ _ _ _ _ _ us hl => match us, hl with | [_, _], _ => rfl
theorem bind_in_line : ∀ (kV doc pm : Value) (an : Option Addr) (cdv ct : Value) (us : List Value), us.length = (["start", "end"] : List Str).length → bindArgs (PySem.W.fnOf "in_line" "in_line" (defArgs s_in_line) (defBody s_in_line) (defScope s_in_line) .none kV doc pm an cdv ct) ⟨us, []⟩ = pure ((["start", "end"] : List Str).zip us) := fun _ _ _ _ _ _ us hl => match us, hl with | [_, _], _ => rfl
theorem bind_men_between : ∀ (kV doc pm : Value) (an : Option Addr) (cdv ct : Value) (us : List Value), us.length = (["board", "start", "end"] : List Str).length → bindArgs (PySem.W.fnOf "men_between" "men_between" (defArgs s_men_between) (defBody s_men_between) (defScope s_men_between) .none kV doc pm an cdv ct) ⟨us, []⟩ = pure ((["board", "start", "end"] : List Str).zip us) := fun _ _ _ _ _ _ us hl => match us, hl with | [_, _, _], _ => rfl
theorem bind_general_is_reached : ∀ (kV doc pm : Value) (an : Option Addr) (cdv ct : Value) (us : List Value), us.length = (["board", "side"] : List Str).length → bindArgs (PySem.W.fnOf "general_is_reached" "general_is_reached" (defArgs s_general_is_reached) (defBody s_general_is_reached) (defScope s_general_is_reached) .none kV doc pm an cdv ct) ⟨us, []⟩ = pure ((["board", "side"] : List Str).zip us) := fun _ _ _ _ _ _ us hl => match us, hl with | [_, _], _ => rfl
theorem bind_may_move : ∀ (kV doc pm : Value) (an : Option Addr) (cdv ct : Value) (us : List Value), us.length = (["board", "side", "start", "end"] : List Str).length → bindArgs (PySem.W.fnOf "may_move" "may_move" (defArgs s_may_move) (defBody s_may_move) (defScope s_may_move) .none kV doc pm an cdv ct) ⟨us, []⟩ = pure ((["board", "side", "start", "end"] : List Str).zip us) := fun _ _ _ _ _ _ us hl => match us, hl with | [_, _, _, _], _ => rfl
theorem bind_moves_from : ∀ (kV doc pm : Value) (an : Option Addr) (cdv ct : Value) (us : List Value), us.length = (["board", "side", "start"] : List Str).length → bindArgs (PySem.W.fnOf "moves_from" "moves_from" (defArgs s_moves_from) (defBody s_moves_from) (defScope s_moves_from) .none kV doc pm an cdv ct) ⟨us, []⟩ = pure ((["board", "side", "start"] : List Str).zip us) := fun _ _ _ _ _ _ us hl => match us, hl with | [_, _, _], _ => rfl
theorem bind_all_moves : ∀ (kV doc pm : Value) (an : Option Addr) (cdv ct : Value) (us : List Value), us.length = (["board", "side"] : List Str).length → bindArgs (PySem.W.fnOf "all_moves" "all_moves" (defArgs s_all_moves) (defBody s_all_moves) (defScope s_all_moves) .none kV doc pm an cdv ct) ⟨us, []⟩ = pure ((["board", "side"] : List Str).zip us) := fun _ _ _ _ _ _ us hl => match us, hl with | [_, _], _ => rfl
theorem bind_has_move : ∀ (kV doc pm : Value) (an : Option Addr) (cdv ct : Value) (us : List Value), us.length = (["board", "side"] : List Str).length → bindArgs (PySem.W.fnOf "has_move" "has_move" (defArgs s_has_move) (defBody s_has_move) (defScope s_has_move) .none kV doc pm an cdv ct) ⟨us, []⟩ = pure ((["board", "side"] : List Str).zip us) := fun _ _ _ _ _ _ us hl => match us, hl with | [_, _], _ => rfl
theorem bind_has_move_from : ∀ (kV doc pm : Value) (an : Option Addr) (cdv ct : Value) (us : List Value), us.length = (["board", "side", "start"] : List Str).length → bindArgs (PySem.W.fnOf "has_move_from" "has_move_from" (defArgs s_has_move_from) (defBody s_has_move_from) (defScope s_has_move_from) .none kV doc pm an cdv ct) ⟨us, []⟩ = pure ((["board", "side", "start"] : List Str).zip us) := fun _ _ _ _ _ _ us hl => match us, hl with | [_, _, _], _ => rfl
theorem bind_read_position : ∀ (kV doc pm : Value) (an : Option Addr) (cdv ct : Value) (us : List Value), us.length = (["text"] : List Str).length → bindArgs (PySem.W.fnOf "read_position" "read_position" (defArgs s_read_position) (defBody s_read_position) (defScope s_read_position) .none kV doc pm an cdv ct) ⟨us, []⟩ = pure ((["text"] : List Str).zip us) := fun _ _ _ _ _ _ us hl => match us, hl with | [_], _ => rfl
theorem bind_read_board : ∀ (kV doc pm : Value) (an : Option Addr) (cdv ct : Value) (us : List Value), us.length = (["signs"] : List Str).length → bindArgs (PySem.W.fnOf "read_board" "read_board" (defArgs s_read_board) (defBody s_read_board) (defScope s_read_board) .none kV doc pm an cdv ct) ⟨us, []⟩ = pure ((["signs"] : List Str).zip us) := fun _ _ _ _ _ _ us hl => match us, hl with | [_], _ => rfl
theorem bind_split_rows : ∀ (kV doc pm : Value) (an : Option Addr) (cdv ct : Value) (us : List Value), us.length = (["signs"] : List Str).length → bindArgs (PySem.W.fnOf "split_rows" "split_rows" (defArgs s_split_rows) (defBody s_split_rows) (defScope s_split_rows) .none kV doc pm an cdv ct) ⟨us, []⟩ = pure ((["signs"] : List Str).zip us) := fun _ _ _ _ _ _ us hl => match us, hl with | [_], _ => rfl
theorem bind_read_row : ∀ (kV doc pm : Value) (an : Option Addr) (cdv ct : Value) (us : List Value), us.length = (["row"] : List Str).length → bindArgs (PySem.W.fnOf "read_row" "read_row" (defArgs s_read_row) (defBody s_read_row) (defScope s_read_row) .none kV doc pm an cdv ct) ⟨us, []⟩ = pure ((["row"] : List Str).zip us) := fun _ _ _ _ _ _ us hl => match us, hl with | [_], _ => rfl
theorem bind_has_one_general : ∀ (kV doc pm : Value) (an : Option Addr) (cdv ct : Value) (us : List Value), us.length = (["board", "side"] : List Str).length → bindArgs (PySem.W.fnOf "has_one_general" "has_one_general" (defArgs s_has_one_general) (defBody s_has_one_general) (defScope s_has_one_general) .none kV doc pm an cdv ct) ⟨us, []⟩ = pure ((["board", "side"] : List Str).zip us) := fun _ _ _ _ _ _ us hl => match us, hl with | [_, _], _ => rfl
theorem bind_find_win : ∀ (kV doc pm : Value) (an : Option Addr) (cdv ct : Value) (us : List Value), us.length = (["board", "side", "most"] : List Str).length → bindArgs (PySem.W.fnOf "find_win" "find_win" (defArgs s_find_win) (defBody s_find_win) (defScope s_find_win) .none kV doc pm an cdv ct) ⟨us, []⟩ = pure ((["board", "side", "most"] : List Str).zip us) := fun _ _ _ _ _ _ us hl => match us, hl with | [_, _, _], _ => rfl
theorem bind_has_lost : ∀ (kV doc pm : Value) (an : Option Addr) (cdv ct : Value) (us : List Value), us.length = (["board", "side", "more"] : List Str).length → bindArgs (PySem.W.fnOf "has_lost" "has_lost" (defArgs s_has_lost) (defBody s_has_lost) (defScope s_has_lost) .none kV doc pm an cdv ct) ⟨us, []⟩ = pure ((["board", "side", "more"] : List Str).zip us) := fun _ _ _ _ _ _ us hl => match us, hl with | [_, _, _], _ => rfl
theorem bind_name_of_move : ∀ (kV doc pm : Value) (an : Option Addr) (cdv ct : Value) (us : List Value), us.length = (["start", "end"] : List Str).length → bindArgs (PySem.W.fnOf "name_of_move" "name_of_move" (defArgs s_name_of_move) (defBody s_name_of_move) (defScope s_name_of_move) .none kV doc pm an cdv ct) ⟨us, []⟩ = pure ((["start", "end"] : List Str).zip us) := fun _ _ _ _ _ _ us hl => match us, hl with | [_, _], _ => rfl
theorem bind_name_of_point : ∀ (kV doc pm : Value) (an : Option Addr) (cdv ct : Value) (us : List Value), us.length = (["point"] : List Str).length → bindArgs (PySem.W.fnOf "name_of_point" "name_of_point" (defArgs s_name_of_point) (defBody s_name_of_point) (defScope s_name_of_point) .none kV doc pm an cdv ct) ⟨us, []⟩ = pure ((["point"] : List Str).zip us) := fun _ _ _ _ _ _ us hl => match us, hl with | [_], _ => rfl
theorem bind_win : ∀ (kV doc pm : Value) (an : Option Addr) (cdv ct : Value) (us : List Value), us.length = (["k", "most", "text"] : List Str).length → bindArgs (PySem.W.fnOf "win" "win" (defArgs s_win) (defBody s_win) (defScope s_win) .none kV doc pm an cdv ct) ⟨us, []⟩ = pure ((["k", "most", "text"] : List Str).zip us) := fun _ _ _ _ _ _ us hl => match us, hl with | [_, _, _], _ => rfl
section
variable {K : PySem.W.Frag} {h : Heap} {mg : Str → Option Value}
abbrev HasK (_ : K.In h) (mg : Str → Option Value) (x : Str) (st : Stmt) (ps : List Str) : Prop := Has K mg x st ps
abbrev KTIK (_ : K.In h) (d : Addr) (ns : List Int) : Prop := KTI K d ns
abbrev KDTK (_ : K.In h) (w : World) (d : Addr) : Prop := KDT w K d
abbrev KDIK (_ : K.In h) (d : Addr) (kvs : List (Int × Str)) : Prop := KDI K d kvs
theorem has_of {x : Str} {st : Stmt} {f : Addr} {oc : Value} {od an : Option Addr} {osl : Array (Option Value)} {kV doc pm cdv ct : Value} {ps : List Str} (X : K.In h) (G : h.Ns mainGlobals mg)
    (hb : ∀ (kV doc pm : Value) (an : Option Addr) (cdv ct : Value) (us : List Value), us.length = ps.length → bindArgs (PySem.W.fnOf x x (defArgs st) (defBody st) (defScope st) .none kV doc pm an cdv ct) ⟨us, []⟩ = pure (ps.zip us))
    (a : PySem.W.nsIn K mainGlobals x = some (some (.ref f))) (l : K.lookup f = some ⟨oc, od, .func (PySem.W.fnOf x x (defArgs st) (defBody st) (defScope st) .none kV doc pm an cdv ct), osl⟩) (c : PySem.W.codeIn K cdv x = true) (k : PySem.W.keepIn K (.ref f) = true) : Has K mg x st ps :=
  ⟨f, _, fun_mk l c k, PySem.W.mg_of X G a, (fun_mk l c k).binds hb⟩
theorem gi_of {x : Str} {i : Int} {t : Tok} (X : K.In h) (G : h.Ns mainGlobals mg) (a : PySem.W.nsIn K mainGlobals x = some (some (.int i t))) : ∃ t, mg x = some (.int i t) := ⟨t, PySem.W.mg_of X G a⟩
theorem gs_of {x : Str} {i : Str} {t : Tok} (X : K.In h) (G : h.Ns mainGlobals mg) (a : PySem.W.nsIn K mainGlobals x = some (some (.str i t))) : ∃ t, mg x = some (.str i t) := ⟨t, PySem.W.mg_of X G a⟩
theorem kd_of {x : Str} {d : Addr} {es : Array DictEntry} {n : Nat} {kvs : List (Int × Str)} (X : K.In h) (G : h.Ns mainGlobals mg) (a : PySem.W.nsIn K mainGlobals x = some (some (.ref d))) (l : K.lookup d = some ⟨.type "dict", none, .dict es n, #[]⟩)
    (k : KInts es.toList kvs) (w : (d == sysModules) = false) : ∃ d, mg x = some (.ref d) ∧ KDI K d kvs := ⟨d, PySem.W.mg_of X G a, ⟨⟨es, n, l, k⟩, w⟩⟩
theorem ti_of {x : Str} {d : Addr} {its : Array Value} {n : Nat} {ns : List Int} (X : K.In h) (G : h.Ns mainGlobals mg) (a : PySem.W.nsIn K mainGlobals x = some (some (.ref d))) (l : K.lookup d = some ⟨.type "tuple", none, .seq its n, #[]⟩)
    (z : its.size ≤ sizeLine) (v : Vals (ns.map V.int) its.toList) : ∃ d, mg x = some (.ref d) ∧ KTI K d ns := ⟨d, PySem.W.mg_of X G a, ⟨_, its, n, l, rfl, rfl, z, v⟩⟩
theorem kti_mk {d : Addr} {its : Array Value} {n : Nat} {ns : List Int} (l : K.lookup d = some ⟨.type "tuple", none, .seq its n, #[]⟩) (z : its.size ≤ sizeLine) (v : Vals (ns.map V.int) its.toList) : KTI K d ns := ⟨_, its, n, l, rfl, rfl, z, v⟩
theorem st_of {x : Str} {w : World} {d a1 a2 a3 a4 : Addr} {es : Array DictEntry} {n n1 n2 n3 n4 : Nat} {i1 i2 i3 i4 : Array Value} (X : K.In h) (G : h.Ns mainGlobals mg) (a : PySem.W.nsIn K mainGlobals x = some (some (.ref d))) (l : K.lookup d = some ⟨.type "dict", none, .dict es n, #[]⟩)
    (k : PySem.W.KeysLit w.params es.toList) (wl : (d == sysModules) = false) (e1 : PySem.W.nsIn K d "a" = some (some (.ref a1))) (e2 : PySem.W.nsIn K d "b" = some (some (.ref a2))) (e3 : PySem.W.nsIn K d "n" = some (some (.ref a3))) (e4 : PySem.W.nsIn K d "p" = some (some (.ref a4)))
    (e5 : PySem.W.nsIn K d "k" = some none) (e6 : PySem.W.nsIn K d "r" = some none) (e7 : PySem.W.nsIn K d "c" = some none)
    (l1 : K.lookup a1 = some ⟨.type "tuple", none, .seq i1 n1, #[]⟩) (l2 : K.lookup a2 = some ⟨.type "tuple", none, .seq i2 n2, #[]⟩) (l3 : K.lookup a3 = some ⟨.type "tuple", none, .seq i3 n3, #[]⟩) (l4 : K.lookup a4 = some ⟨.type "tuple", none, .seq i4 n4, #[]⟩)
    (z1 : i1.size ≤ sizeLine ∧ Vals (([-11, -9, 9, 11] : List Int).map V.int) i1.toList) (z2 : i2.size ≤ sizeLine ∧ Vals (([-22, -18, 18, 22] : List Int).map V.int) i2.toList)
    (z3 : i3.size ≤ sizeLine ∧ Vals (([-21, -19, -12, -8, 8, 12, 19, 21] : List Int).map V.int) i3.toList) (z4 : i4.size ≤ sizeLine ∧ Vals (([-10, -1, 1, 10] : List Int).map V.int) i4.toList) :
    ∃ d, mg x = some (.ref d) ∧ KDT w K d := by
  refine ⟨d, PySem.W.mg_of X G a, ⟨es, n, l, k, wl⟩, fun q ns h => ?_, fun q h => ?_⟩
  · cases q with
    | A => cases h; exact ⟨a1, e1, kti_mk l1 z1.1 z1.2⟩
    | B => cases h; exact ⟨a2, e2, kti_mk l2 z2.1 z2.2⟩
    | N => cases h; exact ⟨a3, e3, kti_mk l3 z3.1 z3.2⟩
    | P => cases h; exact ⟨a4, e4, kti_mk l4 z4.1 z4.2⟩
    | K => cases h
    | R => cases h
    | C => cases h
  · cases q with
    | A => cases h
    | B => cases h
    | N => cases h
    | P => cases h
    | K => exact e5
    | R => exact e6
    | C => exact e7
end
theorem fin_win {P : Program} {w : World} {K : PySem.W.Frag} {mg : Str → Option Value} {fa : Addr} (hfa : mg "win" = some (.ref fa)) (hm : Has K mg "win" s_win ["k", "most", "text"])
    (H : ∀ (base : Heap) (f : Addr) (fd : FuncData), Fun K "win" "win" s_win f fd → FnOk P w K mg base CX0 22 f fd ["k", "most", "text"] (sp_win K)) :
    ∃ fd : FuncData, (∀ (s : Shared) (us : List Value), us.length = (["k", "most", "text"] : List Str).length → BindsTo s fd ⟨us, []⟩ ((["k", "most", "text"] : List Str).zip us)) ∧ ∀ base : Heap, K.In base → base.Ns mainGlobals mg → FnOk P w K mg base CX0 22 fa fd ["k", "most", "text"] (sp_win K) := by
  obtain ⟨f, fd, F, g, b⟩ := hm.ex
  have e := hfa.symm.trans g
  cases e
  refine ⟨fd, ?_, fun base _ _ => H base fa fd F⟩
  obtain ⟨oc, od, kV, doc, pm, an, cdv, ct, osl, rfl, lk, hcd⟩ := F.ex
  exact fun s us hu => .of_eq (bind_win kV doc pm an cdv ct us hu)
end Tr
open PySem PySem.W PyProof.Rows
set_option maxRecDepth 100000 in
set_option maxHeartbeats 0 in
theorem PySem.Challenge.cw_tenrows_s04_win_holds : PySem.Challenge.rw_tenrows_s04_win.Holds := by
  w_on; k_headS; (case hw => exact ⟨[.int 0, .int 0, .list []], by decide +kernel, by decide +kernel⟩)
  k_fillS
  refine L2.walk_specK (r := PySem.Challenge.rw_tenrows_s04_win) (k := 22) (CX := L2.CX0) (ps := ["k", "most", "text"]) (sp := Tr.sp_win) (by decide +kernel) rfl rfl ⟨rfl, by decide, by decide⟩ (fun w h Y => PySem.W.kIn_of Y) ?F ?S (fun _ _ _ _ z => z)
  case F =>
    intro w mg fa h Y KX G hmg
    have h_point_at : Tr.HasK KX mg "point_at" Tr.s_point_at ["column", "row"] := by refine' Tr.has_of KX G Tr.bind_point_at ?a ?l ?c ?k; (case a => k_is); (case l => k_is); (case c => k_is); (case k => k_is)
    have h_column_of : Tr.HasK KX mg "column_of" Tr.s_column_of ["point"] := by refine' Tr.has_of KX G Tr.bind_column_of ?a ?l ?c ?k; (case a => k_is); (case l => k_is); (case c => k_is); (case k => k_is)
    have h_row_of : Tr.HasK KX mg "row_of" Tr.s_row_of ["point"] := by refine' Tr.has_of KX G Tr.bind_row_of ?a ?l ?c ?k; (case a => k_is); (case l => k_is); (case c => k_is); (case k => k_is)
    have h_side_of : Tr.HasK KX mg "side_of" Tr.s_side_of ["man"] := by refine' Tr.has_of KX G Tr.bind_side_of ?a ?l ?c ?k; (case a => k_is); (case l => k_is); (case c => k_is); (case k => k_is)
    have h_other_side : Tr.HasK KX mg "other_side" Tr.s_other_side ["side"] := by refine' Tr.has_of KX G Tr.bind_other_side ?a ?l ?c ?k; (case a => k_is); (case l => k_is); (case c => k_is); (case k => k_is)
    have h_stands_for : Tr.HasK KX mg "stands_for" Tr.s_stands_for ["man", "side"] := by refine' Tr.has_of KX G Tr.bind_stands_for ?a ?l ?c ?k; (case a => k_is); (case l => k_is); (case c => k_is); (case k => k_is)
    have h_general_of : Tr.HasK KX mg "general_of" Tr.s_general_of ["side"] := by refine' Tr.has_of KX G Tr.bind_general_of ?a ?l ?c ?k; (case a => k_is); (case l => k_is); (case c => k_is); (case k => k_is)
    have h_forward : Tr.HasK KX mg "forward" Tr.s_forward ["side"] := by refine' Tr.has_of KX G Tr.bind_forward ?a ?l ?c ?k; (case a => k_is); (case l => k_is); (case c => k_is); (case k => k_is)
    have h_in_palace : Tr.HasK KX mg "in_palace" Tr.s_in_palace ["side", "point"] := by refine' Tr.has_of KX G Tr.bind_in_palace ?a ?l ?c ?k; (case a => k_is); (case l => k_is); (case c => k_is); (case k => k_is)
    have h_on_own_half : Tr.HasK KX mg "on_own_half" Tr.s_on_own_half ["side", "point"] := by refine' Tr.has_of KX G Tr.bind_on_own_half ?a ?l ?c ?k; (case a => k_is); (case l => k_is); (case c => k_is); (case k => k_is)
    have h_after_move : Tr.HasK KX mg "after_move" Tr.s_after_move ["board", "start", "end"] := by refine' Tr.has_of KX G Tr.bind_after_move ?a ?l ?c ?k; (case a => k_is); (case l => k_is); (case c => k_is); (case k => k_is)
    have h_ends_to_try : Tr.HasK KX mg "ends_to_try" Tr.s_ends_to_try ["man", "start"] := by refine' Tr.has_of KX G Tr.bind_ends_to_try ?a ?l ?c ?k; (case a => k_is); (case l => k_is); (case c => k_is); (case k => k_is)
    have h_starts_to_try : Tr.HasK KX mg "starts_to_try" Tr.s_starts_to_try ["end"] := by refine' Tr.has_of KX G Tr.bind_starts_to_try ?a ?l ?c ?k; (case a => k_is); (case l => k_is); (case c => k_is); (case k => k_is)
    have h_points_by_steps : Tr.HasK KX mg "points_by_steps" Tr.s_points_by_steps ["point", "steps"] := by refine' Tr.has_of KX G Tr.bind_points_by_steps ?a ?l ?c ?k; (case a => k_is); (case l => k_is); (case c => k_is); (case k => k_is)
    have h_points_in_line : Tr.HasK KX mg "points_in_line" Tr.s_points_in_line ["point"] := by refine' Tr.has_of KX G Tr.bind_points_in_line ?a ?l ?c ?k; (case a => k_is); (case l => k_is); (case c => k_is); (case k => k_is)
    have h_could_go : Tr.HasK KX mg "could_go" Tr.s_could_go ["board", "start", "end"] := by refine' Tr.has_of KX G Tr.bind_could_go ?a ?l ?c ?k; (case a => k_is); (case l => k_is); (case c => k_is); (case k => k_is)
    have h_general_goes : Tr.HasK KX mg "general_goes" Tr.s_general_goes ["board", "side", "start", "end"] := by refine' Tr.has_of KX G Tr.bind_general_goes ?a ?l ?c ?k; (case a => k_is); (case l => k_is); (case c => k_is); (case k => k_is)
    have h_guard_goes : Tr.HasK KX mg "guard_goes" Tr.s_guard_goes ["side", "start", "end"] := by refine' Tr.has_of KX G Tr.bind_guard_goes ?a ?l ?c ?k; (case a => k_is); (case l => k_is); (case c => k_is); (case k => k_is)
    have h_elephant_goes : Tr.HasK KX mg "elephant_goes" Tr.s_elephant_goes ["board", "side", "start", "end"] := by refine' Tr.has_of KX G Tr.bind_elephant_goes ?a ?l ?c ?k; (case a => k_is); (case l => k_is); (case c => k_is); (case k => k_is)
    have h_horse_goes : Tr.HasK KX mg "horse_goes" Tr.s_horse_goes ["board", "start", "end"] := by refine' Tr.has_of KX G Tr.bind_horse_goes ?a ?l ?c ?k; (case a => k_is); (case l => k_is); (case c => k_is); (case k => k_is)
    have h_chariot_goes : Tr.HasK KX mg "chariot_goes" Tr.s_chariot_goes ["board", "start", "end"] := by refine' Tr.has_of KX G Tr.bind_chariot_goes ?a ?l ?c ?k; (case a => k_is); (case l => k_is); (case c => k_is); (case k => k_is)
    have h_cannon_goes : Tr.HasK KX mg "cannon_goes" Tr.s_cannon_goes ["board", "start", "end"] := by refine' Tr.has_of KX G Tr.bind_cannon_goes ?a ?l ?c ?k; (case a => k_is); (case l => k_is); (case c => k_is); (case k => k_is)
    have h_soldier_goes : Tr.HasK KX mg "soldier_goes" Tr.s_soldier_goes ["side", "start", "end"] := by refine' Tr.has_of KX G Tr.bind_soldier_goes ?a ?l ?c ?k; (case a => k_is); (case l => k_is); (case c => k_is); (case k => k_is)
    have h_columns_apart : Tr.HasK KX mg "columns_apart" Tr.s_columns_apart ["start", "end"] := by refine' Tr.has_of KX G Tr.bind_columns_apart ?a ?l ?c ?k; (case a => k_is); (case l => k_is); (case c => k_is); (case k => k_is)
    have h_rows_apart : Tr.HasK KX mg "rows_apart" Tr.s_rows_apart ["start", "end"] := by refine' Tr.has_of KX G Tr.bind_rows_apart ?a ?l ?c ?k; (case a => k_is); (case l => k_is); (case c => k_is); (case k => k_is)
    have h_in_line : Tr.HasK KX mg "in_line" Tr.s_in_line ["start", "end"] := by refine' Tr.has_of KX G Tr.bind_in_line ?a ?l ?c ?k; (case a => k_is); (case l => k_is); (case c => k_is); (case k => k_is)
    have h_men_between : Tr.HasK KX mg "men_between" Tr.s_men_between ["board", "start", "end"] := by refine' Tr.has_of KX G Tr.bind_men_between ?a ?l ?c ?k; (case a => k_is); (case l => k_is); (case c => k_is); (case k => k_is)
    have h_general_is_reached : Tr.HasK KX mg "general_is_reached" Tr.s_general_is_reached ["board", "side"] := by refine' Tr.has_of KX G Tr.bind_general_is_reached ?a ?l ?c ?k; (case a => k_is); (case l => k_is); (case c => k_is); (case k => k_is)
    have h_may_move : Tr.HasK KX mg "may_move" Tr.s_may_move ["board", "side", "start", "end"] := by refine' Tr.has_of KX G Tr.bind_may_move ?a ?l ?c ?k; (case a => k_is); (case l => k_is); (case c => k_is); (case k => k_is)
    have h_moves_from : Tr.HasK KX mg "moves_from" Tr.s_moves_from ["board", "side", "start"] := by refine' Tr.has_of KX G Tr.bind_moves_from ?a ?l ?c ?k; (case a => k_is); (case l => k_is); (case c => k_is); (case k => k_is)
    have h_all_moves : Tr.HasK KX mg "all_moves" Tr.s_all_moves ["board", "side"] := by refine' Tr.has_of KX G Tr.bind_all_moves ?a ?l ?c ?k; (case a => k_is); (case l => k_is); (case c => k_is); (case k => k_is)
    have h_has_move : Tr.HasK KX mg "has_move" Tr.s_has_move ["board", "side"] := by refine' Tr.has_of KX G Tr.bind_has_move ?a ?l ?c ?k; (case a => k_is); (case l => k_is); (case c => k_is); (case k => k_is)
    have h_has_move_from : Tr.HasK KX mg "has_move_from" Tr.s_has_move_from ["board", "side", "start"] := by refine' Tr.has_of KX G Tr.bind_has_move_from ?a ?l ?c ?k; (case a => k_is); (case l => k_is); (case c => k_is); (case k => k_is)
    have h_read_position : Tr.HasK KX mg "read_position" Tr.s_read_position ["text"] := by refine' Tr.has_of KX G Tr.bind_read_position ?a ?l ?c ?k; (case a => k_is); (case l => k_is); (case c => k_is); (case k => k_is)
    have h_read_board : Tr.HasK KX mg "read_board" Tr.s_read_board ["signs"] := by refine' Tr.has_of KX G Tr.bind_read_board ?a ?l ?c ?k; (case a => k_is); (case l => k_is); (case c => k_is); (case k => k_is)
    have h_split_rows : Tr.HasK KX mg "split_rows" Tr.s_split_rows ["signs"] := by refine' Tr.has_of KX G Tr.bind_split_rows ?a ?l ?c ?k; (case a => k_is); (case l => k_is); (case c => k_is); (case k => k_is)
    have h_read_row : Tr.HasK KX mg "read_row" Tr.s_read_row ["row"] := by refine' Tr.has_of KX G Tr.bind_read_row ?a ?l ?c ?k; (case a => k_is); (case l => k_is); (case c => k_is); (case k => k_is)
    have h_has_one_general : Tr.HasK KX mg "has_one_general" Tr.s_has_one_general ["board", "side"] := by refine' Tr.has_of KX G Tr.bind_has_one_general ?a ?l ?c ?k; (case a => k_is); (case l => k_is); (case c => k_is); (case k => k_is)
    have h_find_win : Tr.HasK KX mg "find_win" Tr.s_find_win ["board", "side", "most"] := by refine' Tr.has_of KX G Tr.bind_find_win ?a ?l ?c ?k; (case a => k_is); (case l => k_is); (case c => k_is); (case k => k_is)
    have h_has_lost : Tr.HasK KX mg "has_lost" Tr.s_has_lost ["board", "side", "more"] := by refine' Tr.has_of KX G Tr.bind_has_lost ?a ?l ?c ?k; (case a => k_is); (case l => k_is); (case c => k_is); (case k => k_is)
    have h_name_of_move : Tr.HasK KX mg "name_of_move" Tr.s_name_of_move ["start", "end"] := by refine' Tr.has_of KX G Tr.bind_name_of_move ?a ?l ?c ?k; (case a => k_is); (case l => k_is); (case c => k_is); (case k => k_is)
    have h_name_of_point : Tr.HasK KX mg "name_of_point" Tr.s_name_of_point ["point"] := by refine' Tr.has_of KX G Tr.bind_name_of_point ?a ?l ?c ?k; (case a => k_is); (case l => k_is); (case c => k_is); (case k => k_is)
    have h_win : Tr.HasK KX mg "win" Tr.s_win ["k", "most", "text"] := by refine' Tr.has_of KX G Tr.bind_win ?a ?l ?c ?k; (case a => k_is); (case l => k_is); (case c => k_is); (case k => k_is)
    have c_COLUMNS : ∃ t, mg "COLUMNS" = some (.int 9 t) := by refine' Tr.gi_of KX G ?a; (case a => k_is)
    have c_ROWS : ∃ t, mg "ROWS" = some (.int 10 t) := by refine' Tr.gi_of KX G ?a; (case a => k_is)
    have c_POINTS : ∃ t, mg "POINTS" = some (.int 90 t) := by refine' Tr.gi_of KX G ?a; (case a => k_is)
    have c_FREE : ∃ t, mg "FREE" = some (.str "." t) := by refine' Tr.gs_of KX G ?a; (case a => k_is)
    have c_RED : ∃ t, mg "RED" = some (.str "w" t) := by refine' Tr.gs_of KX G ?a; (case a => k_is)
    have c_BLACK : ∃ t, mg "BLACK" = some (.str "b" t) := by refine' Tr.gs_of KX G ?a; (case a => k_is)
    have c_BLANK : ∃ t, mg "BLANK" = some (.int 32 t) := by refine' Tr.gi_of KX G ?a; (case a => k_is)
    have c_SLASH : ∃ t, mg "SLASH" = some (.int 47 t) := by refine' Tr.gi_of KX G ?a; (case a => k_is)
    have c_ZERO : ∃ t, mg "ZERO" = some (.int 48 t) := by refine' Tr.gi_of KX G ?a; (case a => k_is)
    have c_ONE : ∃ t, mg "ONE" = some (.int 49 t) := by refine' Tr.gi_of KX G ?a; (case a => k_is)
    have c_NINE : ∃ t, mg "NINE" = some (.int 57 t) := by refine' Tr.gi_of KX G ?a; (case a => k_is)
    have c_LETTER_A : ∃ t, mg "LETTER_A" = some (.int 97 t) := by refine' Tr.gi_of KX G ?a; (case a => k_is)
    have c_OUT_OF_RANGE : ∃ t, mg "OUT_OF_RANGE" = some (.int (-2) t) := by refine' Tr.gi_of KX G ?a; (case a => k_is)
    have c_NO_POSITION : ∃ t, mg "NO_POSITION" = some (.int (-3) t) := by refine' Tr.gi_of KX G ?a; (case a => k_is)
    have c_NO_WIN : ∃ t, mg "NO_WIN" = some (.int 0 t) := by refine' Tr.gi_of KX G ?a; (case a => k_is)
    have c_LARGEST_WIN : ∃ t, mg "LARGEST_WIN" = some (.int 3 t) := by refine' Tr.gi_of KX G ?a; (case a => k_is)
    have b_abs : mg "abs" = none := by refine' PySem.W.mg_none_of KX G ?a; (case a => k_is)
    have b_enumerate : mg "enumerate" = none := by refine' PySem.W.mg_none_of KX G ?a; (case a => k_is)
    have b_len : mg "len" = none := by refine' PySem.W.mg_none_of KX G ?a; (case a => k_is)
    have b_list : mg "list" = none := by refine' PySem.W.mg_none_of KX G ?a; (case a => k_is)
    have b_max : mg "max" = none := by refine' PySem.W.mg_none_of KX G ?a; (case a => k_is)
    have b_min : mg "min" = none := by refine' PySem.W.mg_none_of KX G ?a; (case a => k_is)
    have b_ord : mg "ord" = none := by refine' PySem.W.mg_none_of KX G ?a; (case a => k_is)
    have b_range : mg "range" = none := by refine' PySem.W.mg_none_of KX G ?a; (case a => k_is)
    have d_MEN : ∃ d, mg "MEN" = some (.ref d) ∧ Tr.KDIK KX d Tr.menT := by refine' Tr.kd_of KX G ?a ?l ?k ?w; (case a => k_is); (case l => k_is); (case k => exact ⟨⟨_, _, rfl, rfl, rfl⟩, ⟨_, _, rfl, rfl, rfl⟩, ⟨_, _, rfl, rfl, rfl⟩, ⟨_, _, rfl, rfl, rfl⟩, ⟨_, _, rfl, rfl, rfl⟩, ⟨_, _, rfl, rfl, rfl⟩, ⟨_, _, rfl, rfl, rfl⟩, ⟨_, _, rfl, rfl, rfl⟩, ⟨_, _, rfl, rfl, rfl⟩, ⟨_, _, rfl, rfl, rfl⟩, ⟨_, _, rfl, rfl, rfl⟩, ⟨_, _, rfl, rfl, rfl⟩, ⟨_, _, rfl, rfl, rfl⟩, ⟨_, _, rfl, rfl, rfl⟩, trivial⟩); (case w => rfl)
    have d_SIDES : ∃ d, mg "SIDES" = some (.ref d) ∧ Tr.KDIK KX d Tr.sidesT := by refine' Tr.kd_of KX G ?a ?l ?k ?w; (case a => k_is); (case l => k_is); (case k => exact ⟨⟨_, _, rfl, rfl, rfl⟩, ⟨_, _, rfl, rfl, rfl⟩, trivial⟩); (case w => rfl)
    have d_SLANTED_STEPS : ∃ d, mg "SLANTED_STEPS" = some (.ref d) ∧ Tr.KTIK KX d Tr.slantT := by refine' Tr.ti_of KX G ?a ?l ?z ?v; (case a => k_is); (case l => k_is); (case z => rw [PySem.sizeLine_eq]; decide); (case v => exact (.cons ⟨_, rfl⟩ (.cons ⟨_, rfl⟩ (.cons ⟨_, rfl⟩ (.cons ⟨_, rfl⟩ (.cons ⟨_, rfl⟩ (.cons ⟨_, rfl⟩ (.cons ⟨_, rfl⟩ (.cons ⟨_, rfl⟩ (.cons ⟨_, rfl⟩ (.cons ⟨_, rfl⟩ (.cons ⟨_, rfl⟩ (.cons ⟨_, rfl⟩ (.cons ⟨_, rfl⟩ (.cons ⟨_, rfl⟩ (.cons ⟨_, rfl⟩ (.cons ⟨_, rfl⟩ .nil)))))))))))))))))
    have d_STEPS : ∃ d, mg "STEPS" = some (.ref d) ∧ Tr.KDTK KX w d := by refine' Tr.st_of (w := w) KX G ?a ?l ?k ?w ?e1 ?e2 ?e3 ?e4 ?e5 ?e6 ?e7 ?l1 ?l2 ?l3 ?l4 ?z1 ?z2 ?z3 ?z4; (case a => k_is); (case l => k_is); (case k => exact ⟨⟨_, _, rfl, rfl⟩, ⟨_, _, rfl, rfl⟩, ⟨_, _, rfl, rfl⟩, ⟨_, _, rfl, rfl⟩, trivial⟩); (case w => rfl); (case e1 => k_is); (case e2 => k_is); (case e3 => k_is); (case e4 => k_is); (case e5 => k_is); (case e6 => k_is); (case e7 => k_is); (case l1 => k_is); (case l2 => k_is); (case l3 => k_is); (case l4 => k_is); (case z1 => exact ⟨by rw [PySem.sizeLine_eq]; decide, (.cons ⟨_, rfl⟩ (.cons ⟨_, rfl⟩ (.cons ⟨_, rfl⟩ (.cons ⟨_, rfl⟩ .nil))))⟩); (case z2 => exact ⟨by rw [PySem.sizeLine_eq]; decide, (.cons ⟨_, rfl⟩ (.cons ⟨_, rfl⟩ (.cons ⟨_, rfl⟩ (.cons ⟨_, rfl⟩ .nil))))⟩); (case z3 => exact ⟨by rw [PySem.sizeLine_eq]; decide, (.cons ⟨_, rfl⟩ (.cons ⟨_, rfl⟩ (.cons ⟨_, rfl⟩ (.cons ⟨_, rfl⟩ (.cons ⟨_, rfl⟩ (.cons ⟨_, rfl⟩ (.cons ⟨_, rfl⟩ (.cons ⟨_, rfl⟩ .nil))))))))⟩); (case z4 => exact ⟨by rw [PySem.sizeLine_eq]; decide, (.cons ⟨_, rfl⟩ (.cons ⟨_, rfl⟩ (.cons ⟨_, rfl⟩ (.cons ⟨_, rfl⟩ .nil))))⟩)
    obtain ⟨dM, gM, dMk⟩ := d_MEN
    obtain ⟨dS, gS, dSk⟩ := d_SIDES
    obtain ⟨dT, gT, dTk⟩ := d_STEPS
    obtain ⟨dL, gL, dLk⟩ := d_SLANTED_STEPS
    have T := Tr.Tx.mk c_COLUMNS c_ROWS c_POINTS c_FREE c_RED c_BLACK c_BLANK c_SLASH c_ZERO c_ONE c_NINE c_LETTER_A c_OUT_OF_RANGE c_NO_POSITION c_NO_WIN c_LARGEST_WIN gM gS dMk dSk gT dTk gL dLk b_abs b_enumerate b_len b_list b_max b_min b_ord b_range
    refine Tr.fin_win hmg h_win fun base f fd F => ?_
    have C1 := Tr.cal_point_at (P := PySem.Challenge.rw_tenrows_s04_win.prog) (w := w) (base := base) h_point_at T
    have C2 := Tr.cal_column_of (P := PySem.Challenge.rw_tenrows_s04_win.prog) (w := w) (base := base) h_column_of T
    have C3 := Tr.cal_row_of (P := PySem.Challenge.rw_tenrows_s04_win.prog) (w := w) (base := base) h_row_of T
    have C4 := Tr.cal_side_of (P := PySem.Challenge.rw_tenrows_s04_win.prog) (w := w) (base := base) h_side_of T
    have C5 := Tr.cal_other_side (P := PySem.Challenge.rw_tenrows_s04_win.prog) (w := w) (base := base) h_other_side T
    have C6 := Tr.cal_stands_for (P := PySem.Challenge.rw_tenrows_s04_win.prog) (w := w) (base := base) h_stands_for T
    have C7 := Tr.cal_general_of (P := PySem.Challenge.rw_tenrows_s04_win.prog) (w := w) (base := base) h_general_of T
    have C8 := Tr.cal_forward (P := PySem.Challenge.rw_tenrows_s04_win.prog) (w := w) (base := base) h_forward T
    have C9 := Tr.cal_in_palace h_in_palace T C2 C3
    have C10 := Tr.cal_on_own_half h_on_own_half T C3
    have C11 := Tr.cal_after_move (P := PySem.Challenge.rw_tenrows_s04_win.prog) (w := w) (base := base) h_after_move T
    have C12 := Tr.cal_columns_apart h_columns_apart T C2
    have C13 := Tr.cal_rows_apart h_rows_apart T C3
    have C14 := Tr.cal_in_line h_in_line T C2 C3
    have C15 := Tr.cal_men_between h_men_between T C2
    have C16 := Tr.cal_general_goes h_general_goes T C12 C13 C9 C7 C5 C8 C15
    have C17 := Tr.cal_guard_goes h_guard_goes T C12 C13 C9
    have C18 := Tr.cal_elephant_goes h_elephant_goes T C12 C13 C10
    have C19 := Tr.cal_horse_goes h_horse_goes T C12 C13 C1 C2 C3
    have C20 := Tr.cal_chariot_goes h_chariot_goes T C14 C15
    have C21 := Tr.cal_cannon_goes h_cannon_goes T C14 C15
    have C22 := Tr.cal_soldier_goes h_soldier_goes T C12 C13 C8 C10
    have C23 := Tr.cal_could_go h_could_go T C4 C6 C16 C17 C18 C19 C20 C21 C22
    have X1 := Tr.cal_points_by_steps (P := PySem.Challenge.rw_tenrows_s04_win.prog) (w := w) (base := base) h_points_by_steps T
    have X2 := Tr.cal_points_in_line h_points_in_line T C1 C2 C3
    have X3 := Tr.cal_ends_to_try h_ends_to_try T X1 X2
    have X4 := Tr.cal_starts_to_try h_starts_to_try T X1 X2
    have C24 := Tr.cal_general_is_reached h_general_is_reached T C7 C5 C6 C23 X4
    have C25 := Tr.cal_may_move h_may_move T C23 C11 C24
    have C26 := Tr.cal_moves_from h_moves_from T C25 X3
    have C27 := Tr.cal_all_moves h_all_moves T C6 C26
    have C28 := Tr.cal_name_of_point h_name_of_point T C2 C3
    have C28b := Tr.cal_name_of_move h_name_of_move T C28
    have C31 := Tr.cal_split_rows (P := PySem.Challenge.rw_tenrows_s04_win.prog) (w := w) (base := base) h_split_rows T
    have C32 := Tr.cal_read_row (P := PySem.Challenge.rw_tenrows_s04_win.prog) (w := w) (base := base) h_read_row T
    have C33 := Tr.cal_has_one_general h_has_one_general T C7 C9
    have C34 := Tr.cal_read_board h_read_board T C31 C32 C1
    have C35 := Tr.cal_read_position h_read_position T C34 C33
    have C40 := Tr.cal_has_move_from h_has_move_from T C25 X3
    have C41 := Tr.cal_has_move h_has_move T C6 C40
    have C42 := Tr.cal_find_win h_find_win h_has_lost T C27 C11 C5 C41 4
    exact Tr.ok_win F T C35 C28b C42
  case S =>
    intro K H xs a hO hwi hask hx
    cases hx with
    | cons h1 h2 =>
      cases h2 with
      | cons h2 h3 =>
        cases h3 with
        | cons h3 h4 =>
          cases h4
          cases h3 with
          | lst hs ha =>
            have e := L2.ints_dw a.2.2.1 _ ha
            subst e
            cases h1
            cases h2
            have q : (Codec.inInt (Int.negSucc 2147483647) (Int.ofNat 2147483647) a.1 && (Codec.inInt (Int.negSucc 2147483647) (Int.ofNat 2147483647) a.2.1 && ((Codec.inLen 0 256 a.2.2.1 && a.2.2.1.all (Codec.inInt (Int.ofNat 0) (Int.ofNat 255))) && true))) = true := hwi
            rw [Bool.and_eq_true, Bool.and_eq_true, Bool.and_eq_true, Bool.and_eq_true] at q
            have hl : a.2.2.1.length ≤ 256 := (Codec.inNat_iff.mp q.2.2.1.1).2
            have hb : Tr.Bytes8 a.2.2.1 := fun x hx => by
              have := Codec.inInt_iff.mp (List.all_eq_true.mp q.2.2.1.2 x hx)
              exact this
            refine ⟨_, _, _, a.2.2.1, rfl, hs, Nat.le_trans hl (by decide), fun H' p hp => ?_⟩
            rw [← Tr.mirror_winJ a.1 a.2.1 a.2.2.1 hb hl] at hp
            exact .lst (L2.SqL.of hp) (L2.dw_ints _)
#print axioms PySem.Challenge.cw_tenrows_s04_win_holds

