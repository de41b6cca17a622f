import PyProof.Rows.All
import Wide.All
import OpenK.AllK
import Wide.FinOn
import HandS.Base
import HandS.Call
import HandS.List
import HandS.Ends
import HandS.Words
import HandS.WordsList
import HandS.Comp
import HandS.Dict
import HandS.Iter
import HandS.Text
import HandS.WordsDict
import HandS.ForMost
import HandS.Conv
import HandS.Walk
import HandS.More
import HandS.TupAny
import HandS.DeepEq
import HandS.SetFor
import HandS.Style
import KE.GoesEnum
import HandS.Exc
import HandS.ExcInit
import HandS.ExcField
import HandS.ExcIs
import HandS.IsInst
import HandS.WordsExc
import HandS.DictComp
import KE.KExcIs
import HandS.Codes
import HandS.OwnEq
import HandS.Gcd
import HandS.Wide
import HandS.Zip
import HandS.MakeKwOnly
import KE.GoesZip
import KE.GoesMore
import KE.KMathGC
import KE.KDictPairs
import KE.KDictKeyed
import HandS.TupLen
import PySem.Challenge.RW_onetrain_k21_what_rows_do_by_whole_place
set_option Elab.async false
set_option linter.all false
set_option maxRecDepth 100000
set_option maxHeartbeats 1000000
namespace OT
open PySem L2
def top (i : Nat) : Stmt := PySem.Challenge.pw_onetrain_k21_what_rows_do_by_whole_place.main.body.getD i (.Pass ⟨0, 0, 0, 0⟩)
/-- the source of draws at s: three ints, the first not below 0, the second not great -/
def Src (H : Hp) (s : Addr) : Prop := ∃ a b c : Int, (0 ≤ a ∧ 0 ≤ b ∧ b < 4294967296) ∧ H s = some (.lst [.int a, .int b, .int c])
/-- all that was tracked is as it was, but at s -/
def But (s : Addr) (H H' : Hp) : Prop := ∀ b o, H b = some o → b ≠ s → H' b = some o
theorem But.refl {s : Addr} {H : Hp} : But s H H := fun _ _ e _ => e
theorem But.trans {s : Addr} {H H1 H2 : Hp} (x : But s H H1) (y : But s H1 H2) : But s H H2 := fun b o e n => y b o (x b o e n) n
theorem But.same {s : Addr} {H H1 H2 : Hp} (x : But s H H1) (y : Same H1 H2) : But s H H2 := fun b o e n => y b o (x b o e n)
theorem But.upd {s : Addr} {H : Hp} {o : HO} : But s H (upd H s o) := fun b _ e n => by rw [upd_ne n]; exact e
theorem Same.new {H : Hp} {p : Addr} {o : HO} (n : H p = none) : Same H (upd H p o) := fun b _ e => by rw [upd_ne (ne_of_none e n)]; exact e
/-- _law_source(cell): a new source -/
def spSource : Sp := fun vs H Q _ => ∃ n : Int, vs = [.int n] ∧ ∀ s H', H s = none → Src H' s → Same H H' → Q (.ref s) H'
/-- _law_draw(source, many): a number from 0 to many - 1 -/
def spDraw : Sp := fun vs H Q _ => ∃ (s : Addr) (m : Int), vs = [.ref s, .int m] ∧ Src H s ∧ 0 < m ∧ m < 1073741824 ∧ ∀ r H', 0 ≤ r → r < m → Src H' s → But s H H' → Q (.int r) H'
/-- _law_pick(source, some): one of the items -/
def spPick (K : PySem.W.Frag) : Sp := fun vs H Q _ => ∃ (s l : Addr) (xs : List V), vs = [.ref s, .ref l] ∧ Src H s ∧ l ≠ s ∧ SqL K H l xs ∧ 0 < xs.length ∧ xs.length < 1000000 ∧ ∀ v H', v ∈ xs → Src H' s → But s H H' → Q v H'
section
variable {P : Program} {w : World} {K : PySem.W.Frag} {mg : Str → Option Value} {base : Heap}
end
end OT

set_option Elab.async false
set_option linter.all false
set_option maxRecDepth 100000
set_option maxHeartbeats 1000000
namespace OT
open PySem L2
section
variable {P : Program} {w : World} {K : PySem.W.Frag} {mg : Str → Option Value} {base : Heap}
theorem mod_in {x m : Int} (h : 0 < m) : 0 ≤ x % m ∧ x % m < m := ⟨Int.emod_nonneg _ (by omega), Int.emod_lt_of_pos _ h⟩
end
end OT

set_option Elab.async false
set_option linter.all false
set_option maxRecDepth 100000
set_option maxHeartbeats 1000000
/-! further rules: a list against [], a list against its copy; the reverse of a tuple; enumerate of a tuple -/
namespace OTR
open PySem PySem.Spec PyProof.Rows L2
section
variable {X : Cx}
/-- xs != [] -/
def rNeNil (K : PySem.W.Frag) : R2 := fun x y H Q => ∃ a b xs, x = .ref a ∧ y = .ref b ∧ SqL K H a xs ∧ SqL K H b [] ∧ Q (.bl (!xs.isEmpty)) H
def rEqNil (K : PySem.W.Frag) : R2 := fun x y H Q => ∃ a b xs, x = .ref a ∧ y = .ref b ∧ SqL K H a xs ∧ SqL K H b [] ∧ Q (.bl xs.isEmpty) H
theorem op_neNil (hu : X.A.units < cLine) : OpR X (compareOp .NotEq) (rNeNil X.K) := by
  intro pins s σ H x y v u Q I rx ry h
  obtain ⟨a, b, xs, rfl, rfl, ha, hb, q⟩ := h
  obtain rfl : v = Value.ref a := rx
  obtain rfl : u = Value.ref b := ry
  obtain ⟨us, r1, p1, _⟩ := I.list ha
  obtain ⟨ws, r2, p2, _⟩ := I.list hb
  cases r2
  show wpAny (model X.prog X.w) X.A (richCompare .NotEq (.ref a) (.ref b)) _ _ _
  cases xs with
  | nil =>
    cases r1
    have z := SeqAt.RcNeAt.lists (A := X.A) (s := s) (e := fun _ => true) p1.isList p2.isList rfl hu (fun j h1 _ => absurd h1 (Nat.not_lt_zero j))
    exact z X.prog X.w _ _ ⟨.bl false, H, I, rfl, q⟩
  | cons y ys =>
    cases r1 with
    | cons r1 rr =>
      have z := SeqAt.RcNeAt.lists_lengths (A := X.A) (s := s) p1.isList p2.isList (by simp) hu
      exact z X.prog X.w _ _ ⟨.bl true, H, I, rfl, q⟩
/-- xs != ys where they hold the same things (a copy): False -/
def rNeSame (K : PySem.W.Frag) : R2 := fun x y H Q => ∃ a b xs, x = .ref a ∧ y = .ref b ∧ SqL K H a xs ∧ SqL K H b xs ∧ (∀ v ∈ xs, flatB v = true ∨ ∃ p, v = .ref p) ∧ Q (.bl false) H
theorem same_at {A : Around} {s : Shared} {v : V} {u w : Value} (r : RelV v u) (k : RelV v w) (h : flatB v = true ∨ ∃ p, v = .ref p) : SeqAt.EqAt A s u w true := by
  rcases h with h | ⟨p, rfl⟩
  · exact eqAt_same r k h
  · cases (show u = Value.ref p from r)
    cases (show w = Value.ref p from k)
    exact SeqAt.EqAt.same _
theorem same_run {A : Around} {s : Shared} {xs : List V} (h : ∀ v ∈ xs, flatB v = true ∨ ∃ p, v = .ref p) : ∀ {us ws : List Value}, Vals xs us → Vals xs ws → ∀ (j : Nat) (h1 : j < us.length) (h2 : j < ws.length), SeqAt.EqAt A s us[j] ws[j] true := by
  induction xs with
  | nil =>
    intro us ws r1 r2 j h1 h2
    cases r1
    exact absurd h1 (Nat.not_lt_zero j)
  | cons v xs ih =>
    intro us ws r1 r2 j h1 h2
    cases r1 with
    | cons a1 b1 =>
      cases r2 with
      | cons a2 b2 =>
        cases j with
        | zero => exact same_at a1 a2 (h v (List.mem_cons_self ..))
        | succ j => exact ih (fun v hv => h v (List.mem_cons_of_mem _ hv)) b1 b2 j (Nat.lt_of_succ_lt_succ h1) (Nat.lt_of_succ_lt_succ h2)
theorem op_neSame (hu : X.A.units < cLine) : OpR X (compareOp .NotEq) (rNeSame X.K) := by
  intro pins s σ H x y v u Q I rx ry h
  obtain ⟨a, b, xs, rfl, rfl, ha, hb, hx, q⟩ := h
  obtain rfl : v = Value.ref a := rx
  obtain rfl : u = Value.ref b := ry
  obtain ⟨us, r1, p1, _⟩ := I.list ha
  obtain ⟨ws, r2, p2, _⟩ := I.list hb
  show wpAny (model X.prog X.w) X.A (richCompare .NotEq (.ref a) (.ref b)) _ _ _
  have z := SeqAt.RcNeAt.lists (A := X.A) (s := s) (e := fun _ => true) p1.isList p2.isList (by simp [← r1.length, ← r2.length]) hu (fun j h1 h2 => by
    have k := same_run (A := X.A.in1) (s := s) hx r1 r2 j (by simpa using h1) (by simpa using h2)
    simpa using k)
  rw [show ((List.range us.toArray.size).all fun _ => true) = true from List.all_eq_true.mpr fun _ _ => rfl] at z
  exact z X.prog X.w _ _ ⟨.bl false, H, I, rfl, q⟩
end
/-! ### t[::-1] of a tuple -/
section
variable {prog : Program} {w : World} {A : Around} {E : Value → Shared → Prop} {s : Shared}
theorem adjust_rev (n : Nat) : Builtin.Slice.sliceAdjust none none (-1) (n : Int) = ((n : Int) - 1, -1) := by
  unfold Builtin.Slice.sliceAdjust
  simp
theorem places_rev (n : Nat) : Builtin.Slice.slicePlaces ((n : Int) - 1) (-1) (-1) = n := by
  unfold Builtin.Slice.slicePlaces
  have h1 : ¬ ((-1 : Int) > 0) := by omega
  simp only [h1, if_false]
  split
  · have e : ((n : Int) - 1 - -1 - 1) / (- -1) + 1 = n := by
      rw [show (- -1 : Int) = 1 by decide, Int.ediv_one]
      omega
    rw [e]
    simp
  · have e : n = 0 := by omega
    subst e
    rfl
theorem sliceApplied_rev {sl : Addr} {vl vu vs : Value} {n : Nat} {Q : Int × Int × Nat → Shared → Prop} (hs : s.heap.IsSliceOf sl vl vu vs) (pl : IsPart vl none) (pu : IsPart vu none) (ps : IsPart vs (some (-1)))
    (h : Q ((n : Int) - 1, -1, n) s) : wpAny (model prog w) A (Builtin.Slice.sliceApplied (.ref sl) (pure (n : Int))) Q E s := by
  obtain ⟨os, hos, hcs, hds⟩ := id hs
  unfold Builtin.Slice.sliceApplied Builtin.Slice.sliceFields
  refine wpAny_bind (wpAny_bind (wpAny_field hos hds (x := vl) rfl (wpAny_bind (wpAny_field hos hds (x := vu) rfl (wpAny_bind (wpAny_field hos hds (x := vs) rfl (wpAny_pure ?_)))))))
  refine wpAny_bind (HT.slicePart_ ps ?_)
  show wpAny _ _ (if ((-1 : Int) == 0) = true then _ else _) _ _ s
  rw [if_neg (by decide)]
  refine wpAny_bind (HT.slicePart_ pl (wpAny_bind (HT.slicePart_ pu (wpAny_bind (wpAny_pure ?_)))))
  show wpAny _ _ (match Builtin.Slice.sliceAdjust none none (-1) (n : Int) with | (lo, hi) => pure (lo, (-1 : Int), Builtin.Slice.slicePlaces lo hi (-1))) _ _ s
  rw [adjust_rev n]
  show wpAny _ _ (pure ((n : Int) - 1, (-1 : Int), Builtin.Slice.slicePlaces ((n : Int) - 1) (-1) (-1))) _ _ s
  rw [places_rev]
  exact wpAny_pure h
theorem fm_congr {α β : Type} {f g : α → Option β} : ∀ {l : List α}, (∀ a ∈ l, f a = g a) → l.filterMap f = l.filterMap g
  | [], _ => rfl
  | a :: l, h => by
    have h1 := h a (List.mem_cons_self ..)
    have h2 := fm_congr (l := l) fun b hb => h b (List.mem_cons_of_mem _ hb)
    rw [List.filterMap_cons, List.filterMap_cons, h1, h2]
theorem pick_rev (xs : Array Value) : ((List.range xs.size).filterMap fun (m : Nat) => xs[((xs.size : Int) - 1 + (m : Int) * -1).toNat]?).toArray = xs.toList.reverse.toArray := by
  have e : (List.range xs.size).filterMap (fun (m : Nat) => xs[((xs.size : Int) - 1 + (m : Int) * -1).toNat]?) = ((List.range xs.size).map fun k => xs.size - 1 - k).filterMap (xs[·]?) := by
    rw [List.filterMap_map]
    apply fm_congr
    intro m hm
    have h := List.mem_range.mp hm
    have z : ((xs.size : Int) - 1 + (m : Int) * -1).toNat = xs.size - 1 - m := by omega
    rw [z]
    rfl
  rw [e, PySem.W.krv_range, List.filterMap_reverse, PySem.W.krv_all]
theorem getItem_tuple_rev {t sl : Addr} {items : Array Value} {vl vu vs : Value} {Q : Value → Shared → Prop} (ht : IsTup s.heap t items) (hs : s.heap.IsSliceOf sl vl vu vs) (pl : IsPart vl none) (pu : IsPart vu none) (ps : IsPart vs (some (-1)))
    (h : Q (.ref s.heap.objs.size) { s with heap := s.heap.push { cls := .type "tuple", data := .seq items.toList.reverse.toArray } })
    (hsz : items.size ≤ sizeLine) : wpAny (model prog w) A (getItem (.ref t) (.ref sl)) Q E s := by
  have htake : sizeOk (.seq items.toList.reverse.toArray) := by
    show items.toList.reverse.toArray.size ≤ sizeLine
    rw [List.size_toArray, List.length_reverse, Array.length_toList]
    exact hsz
  obtain ⟨os, hos, hcs, hds⟩ := id hs
  have hTs : s.TypeIs (.ref sl) "slice" := ⟨os, hos, hcs⟩
  unfold getItem
  try with_reducible refine wpAny_holding ?_
  first | refine wpAny_bind (wpAny_pure ?_) | skip
  refine wpAny_bind (wpAny_sequenceKey ht.typeIs (by decide) ?_)
  refine wpAny_bind (wpAny_callSpecial?_slot (name := Str.ofString "__getitem__") ht.typeIs PyProof.Rows.slot_tuple_getitem
    (wpAny_call_entry PyProof.Rows.slot_tuple_getitem ht.typeIs entry_tuple_getitem ?_ (args_tuple_getitem _ _)))
  show wpAny _ _ (Builtin.Tuple.tupleItemsOf (.ref t) >>= _) _ _ s
  refine wpAny_bind (tupleItemsOf_ ht ?_)
  refine wpAny_bind (wpAny_typeOf hTs ?_)
  rw [if_pos (by decide)]
  refine wpAny_bind (sliceApplied_rev hs pl pu ps ?_)
  have hno : ¬ ((((items.size : Int) - 1) == 0 && (-1 : Int) == 1 && items.size == items.size) = true) := by
    intro q
    rw [Bool.and_eq_true, Bool.and_eq_true] at q
    exact absurd (eq_of_beq q.1.2) (by decide)
  show wpAny _ _ (if (((items.size : Int) - 1) == 0 && (-1 : Int) == 1 && items.size == items.size) = true then _ else _) _ _ s
  rw [if_neg hno, pick_rev]
  first
    | exact wpAny_bind (m := Builtin.Tuple.tupleExact _) (wpAny_newObj_type (wpAny_pure ⟨_, rfl, wpAny_pure h⟩) htake)
    | exact wpAny_bind (m := Builtin.Tuple.tupleExact _) (wpAny_newObj_type (wpAny_bind (wpAny_pure (wpAny_pure ⟨_, rfl, wpAny_pure h⟩))) htake)
    | exact wpAny_bind (wpAny_bind (m := Builtin.Tuple.tupleExact _) (wpAny_newObj_type (wpAny_pure (wpAny_pure ⟨_, rfl, wpAny_pure h⟩)) htake))
    | exact wpAny_bind (wpAny_bind (m := Builtin.Tuple.tupleExact _) (wpAny_newObj_type (wpAny_pure ⟨_, rfl, wpAny_pure h⟩) htake))
end
section
variable {X : Cx}
def tRevT (K : PySem.W.Frag) (te : TE) : TE := fun σ H Q => te σ H fun x H1 => ∃ a xs, x = .ref a ∧ SqT K H1 a xs ∧ ∀ p, H1 p = none → Q (.ref p) (upd H1 p (.tup xs.reverse))
theorem pe_revT {e : Expr} {te : TE} {k : Nat} {p1 p2 p3 pos : Pos} (he : PE X e te) : PE X (.Subscript e (.Slice none none (some (.UnaryOp .USub (.Constant (.int 1) k p1) p2)) p3) pos) (tRevT X.K te) := by
  refine ⟨fun pins s σ H Q I h => ?_⟩
  refine Subscript_ (thn (he.run pins s σ H _ I h) fun v s1 ⟨x, H1, I1, r1, q1⟩ => ?_)
  obtain ⟨a, xs, ex, hx, q⟩ := q1
  subst ex
  cases r1
  have hst : PO X (some (.UnaryOp .USub (.Constant (.int 1) k p1) p2)) (tPart (tUn (rU fun i => .int (-i)) (tC (.int 1)))) := po_some (pe_un un_neg pe_int)
  refine wpAny_Slice (thn (po_none.run pins s1 σ H1 (fun o H2 => o = none ∧ H2 = H1) I1 ⟨rfl, rfl⟩) fun vl s2 ⟨l, H2, I2, pl, el, e2⟩ => ?_)
  subst el e2
  refine thn (po_none.run pins s2 σ H2 (fun o H3 => o = none ∧ H3 = H2) I2 ⟨rfl, rfl⟩) fun vu s3 ⟨u, H3, I3, pu, eu, e3⟩ => ?_
  subst eu e3
  refine thn (hst.run pins s3 σ H3 (fun o H4 => o = some (-1) ∧ H4 = H3) I3 ⟨1, rfl, -1, rfl, rfl, rfl⟩) fun vs s4 ⟨o, H4, I4, ps, eo, e4⟩ => ?_
  subst eo e4
  have I5 : Inv X pins σ H4 { s4 with heap := s4.heap.push { cls := .type "slice", data := .fields #[vl, vu, vs] } } := I4.kept (t' := s4.toks) fun b ob q => Heap.get?_push_of_some _ q
  obtain ⟨its, r, ht, hz⟩ := I5.tuple hx
  have hlen := r.length
  show wpAny (model X.prog X.w) X.A (subscriptTail e (.Slice none none (some (.UnaryOp .USub (.Constant (.int 1) k p1) p2)) p3) (.ref a) (.ref s4.heap.objs.size)) (EP X pins σ Q) X.xe { s4 with heap := s4.heap.push { cls := .type "slice", data := .fields #[vl, vu, vs] } }
  refine tail_any (ops := [.ref a, .ref s4.heap.objs.size]) ht.typeIs (PyProof.Rows.slot_tuple_getitem.lookup) ?_ (by with_unfolding_all rfl)
  refine getItem_tuple_rev ht (Heap.IsSliceOf.new _ vl vu vs) pl pu ps ?_ (by rw [List.size_toArray]; omega)
  refine ⟨.ref _, _, I5.laid (t' := s4.toks) (o := .tup xs.reverse) (fun b ob q => Heap.get?_push_of_some _ q) (Nat.le_refl _) ?_, rfl, q _ (I5.hok.fresh (Nat.le_refl _))⟩
  refine ⟨by rw [List.length_reverse]; exact hz, its.reverse, r.reverse, ?_⟩
  have e := Heap.get?_push_size (s4.heap.push { cls := .type "slice", data := .fields #[vl, vu, vs] }) (o := { cls := .type "tuple", data := .seq its.reverse.toArray }) rfl
  exact ⟨_, by simpa using e, rfl, _, rfl⟩
end
end OTR

set_option Elab.async false
set_option linter.all false
set_option maxRecDepth 100000
set_option maxHeartbeats 1000000
namespace OTR
open PySem PySem.Spec PyProof.Rows L2
/-! ### enumerate(t), t a tuple -/
theorem meets_enumerate_new1 {v : Value} {ob : Obj} {H : Heap → Prop} (B : Begins v ob H) :
    Meets (Builtin.«enumerate.__new__» ⟨[.type "enumerate", v], []⟩) (fun _ R s => H s.heap ∧
      R (.ok (.ret (.ref (s.heap.push ob).objs.size))) { s with heap := (s.heap.push ob).push { cls := .type "enumerate", data := .fields #[.none, .bool false, .ref s.heap.objs.size, rawInt 0, .none, .none] } }) :=
  .of_wp fun prg w A R s h => by
    obtain ⟨hp, g, d, tk, os⟩ := s; obtain ⟨t1, h⟩ := h
    have hsub := sub_enumerate
    have qv : ∀ {A' : Around} {Er : Value → Shared → Prop} {Q : Value → Shared → Prop}, Q (.ref hp.objs.size) ⟨hp.push ob, g, d, tk, os⟩ → wpAny (model prg w) A' (pyIter v) Q Er ⟨hp, g, d, tk, os⟩ :=
      fun q => B.iter prg w _ _ ⟨hp, g, d, tk, os⟩ _ t1 q
    wp_walk using qv
    refine wpAny_stack_any fun _ => wpAny_pure ?_
    split
    · rename_i c _ _ _ _ _
      cases (c == Value.type "enumerate")
      · wp_walk using qv
        exact ⟨_, rfl, h⟩
      · wp_walk using qv
        exact ⟨_, rfl, h⟩
    · wp_walk using qv
      exact ⟨_, rfl, h⟩
section
variable {prg : Program} {w : World} {A : Around} {Er : Value → Shared → Prop} {s : Shared}
theorem enum_begins1 {v : Value} {ob : Obj} {H : Heap → Prop} {Q : Value → Shared → Prop} (B : Begins v ob H) (t1 : H s.heap)
    (h : ∀ g1, IsEnum g1 (s.heap.objs.size + 1) s.heap.objs.size 0 .none → g1.get? s.heap.objs.size = some ob → g1.objs.size = s.heap.objs.size + 2 →
      (∀ bb ob, s.heap.get? bb = some ob → g1.get? bb = some ob) → Q (.ref (s.heap.objs.size + 1)) { s with heap := g1 }) :
    wpAny (model prg w) A (call (.type "enumerate") [v]) Q Er s := by
  refine callType_new F.called_enumerate (by decide) (F.typeCall_enumerate_1 _) (F.newCall_enumerate_1 _) (fun x => F.args_object_init_2 x _) F.entry_enumerate_new
    (meets_enumerate_new1 B) ⟨t1, ?_⟩
  have sm : (s.heap.push ob).objs.size = s.heap.objs.size + 1 := Heap.size_push ..
  show _ ∧ _
  rw [sm]
  have en : IsEnum ((s.heap.push ob).push { cls := .type "enumerate", data := .fields #[.none, .bool false, .ref s.heap.objs.size, rawInt 0, .none, .none] }) (s.heap.objs.size + 1) s.heap.objs.size 0 .none := by
    have := Heap.get?_push_size (s.heap.push ob) (o := { cls := .type "enumerate", data := .fields #[.none, .bool false, .ref s.heap.objs.size, rawInt 0, .none, .none] }) rfl
    rw [sm] at this; exact this
  refine ⟨⟨_, en, rfl⟩, h _ en (Heap.get?_push_of_some _ (Heap.get?_push_size _ B.free)) (by rw [Heap.size_push, sm]) fun bb ob x => Heap.get?_push_of_some _ (Heap.get?_push_of_some _ x)⟩
end
def IteT (K : PySem.W.Frag) (a : Addr) : It :=
  ⟨fun i H => ∃ (xs : List V) (x : V), SqT K H a xs ∧ xs[i]? = some x, fun i H v H' => ∃ T x, v = .ref T ∧ H T = none ∧ H' = upd H T (.tup [.int (i : Nat), x]) ∧ ∀ xs, SqT K H a xs → xs[i]? = some x, fun i H => ∃ xs : List V, SqT K H a xs ∧ i = xs.length⟩
theorem turn_enumT {P : Program} {w : World} {K : PySem.W.Frag} {elts : List Expr} {kk : Nat} {tpos : Pos} (a e it : Addr) :
    Turn P w K (.Tuple elts kk tpos) (IteT K a) [e, it] e (fun i h => (∃ prv, IsEnum h e it ((i : Nat) : Int) prv) ∧ h.IsTupleIter it a i ∧ e ≠ it ∧ e ≠ a ∧ a ≠ it) where
  mem := by simp
  obj := fun i h st bb mb => by
    obtain ⟨⟨prv, en⟩, ⟨ob, hob, cal, hd⟩, _⟩ := st
    have alt : bb = e ∨ bb = it := by simpa using mb
    rcases alt with z | z
    · rw [z]; exact ⟨_, en, fun v q => nomatch q⟩
    · rw [z]; exact ⟨ob, hob, fun v q => by rw [hd] at q; cases q⟩
  keep := fun i h g1 st k => let ⟨⟨prv, en⟩, hi, n1⟩ := st; ⟨⟨prv, k e (by simp) _ en⟩, hi.at fun ob q => k it (by simp) ob q, n1⟩
  item := by
    intro X aP aw aK cal i pn s st1 H Er I off st hg
    subst aP aw aK
    obtain ⟨⟨prv, en⟩, ti, n1, n2, n3⟩ := st
    obtain ⟨xs, x, sq, hx⟩ := hg
    obtain ⟨ws, rel, p, sm⟩ := I.tuple sq
    obtain ⟨u, gu, relu⟩ := rel.get hx
    have lte : e < s.heap.objs.size := Heap.lt_size en
    have lti : it < s.heap.objs.size := by obtain ⟨_, q, _⟩ := ti; exact Heap.lt_size q
    have lti2 : i < ws.length := (List.getElem?_eq_some_iff.mp gu).1
    have D := Draws.tuple (prog := X.prog) (w := X.w) (A := X.A.in1) (I.ok.hd cal) it a n3 ws.toArray
    refine wpAny_pyNext_enum_itemD D en ⟨ti, p⟩ (by simpa using lti2) n1 (by simp [n1, n2]) fun y g1 tk hyy hob hst' hT szz kp => ?_
    obtain ⟨hit', _⟩ := hst'
    have ey : y = u := by
      have z : ws[i]? = some y := by simpa using hyy
      rw [gu] at z
      exact (Option.some.inj z).symm
    subst ey
    refine ⟨_, rfl, wpAny_letOwnedTupleGo_enum (s := { s with heap := g1, toks := tk + 1 }) hob fun g2 he' sb => ?_⟩
    have hT2 : g2.get? s.heap.objs.size = some { cls := .type "tuple", data := .seq #[.int i tk, y] } := (sb.2 _ (Nat.ne_of_gt lte)).trans hT
    have new : ObjOk X.prog X.w (upd H s.heap.objs.size (.tup [.int (i : Nat), x])) g2 s.heap.objs.size (.tup [.int (i : Nat), x]) :=
      ⟨by show 2 ≤ sizeLine; decide, [.int i tk, y], .cons ⟨_, rfl⟩ (.cons relu .nil), ⟨_, hT2, rfl, _, rfl⟩⟩
    have In1 : Inv X pn st1 (upd H s.heap.objs.size (.tup [.int (i : Nat), x])) { s with heap := g2, toks := tk + 1 } :=
      I.turnedNew (ch := [e, it]) (fun bb ob mb q => (sb.2 bb (fun z => mb (by simp [z]))).trans (kp bb ob (fun z => mb (by simp [z])) (fun z => mb (by simp [z])) q)) off (Nat.le_refl _) new
    refine ⟨.ref s.heap.objs.size, _, In1, rfl, ⟨_, x, rfl, I.hok.fresh (Nat.le_refl _), rfl, fun ys hyy => by rw [I.tuple_inj hyy sq]; exact hx⟩, ⟨⟨y, ?_⟩, hit'.at fun ob q => (sb.2 it (Ne.symm n1)).trans q, n1, n2, n3⟩, fun bb mb => ?_⟩
    · have nxt1 : ((i + 1 : Nat) : Int) = (i : Int) + 1 := by omega
      rw [nxt1]; exact he'
    · have mb2 : bb < s.heap.objs.size := by
        have alt : bb = e ∨ bb = it := by simpa using mb
        rcases alt with z | z
        · rw [z]; exact lte
        · rw [z]; exact lti
      rw [upd_ne (Nat.ne_of_lt mb2)]
      exact (off bb mb).1
  done := by
    intro X aP aw aK cal i pn s st1 H Er I off st hg
    subst aP aw aK
    obtain ⟨⟨prv, en⟩, ti, n1, n2, n3⟩ := st
    obtain ⟨xs, sq, hx⟩ := hg
    obtain ⟨ws, rel, p, sm⟩ := I.tuple sq
    obtain ⟨f0, f1, f2, f3, f4, f5⟩ := off it (by simp)
    have len1 := rel.length
    have eqi : i = ws.toArray.size := by simp; omega
    have D := Draws.tuple (prog := X.prog) (w := X.w) (A := X.A.in1) (I.ok.hd cal) it a n3 ws.toArray
    have stands : s.heap.IsTupleIter it a ws.toArray.size ∧ s.heap.IsTuple a ws.toArray := ⟨eqi ▸ ti, p⟩
    exact wpAny_pyNext_enum_endD D en stands fun g1 keepb => ⟨rfl, I.turned (t' := s.toks) (fun bb ob mb q => keepb bb ob mb q) f0 f1 f3 f4 f5⟩
  self := fun A i s Q Er st h => let ⟨⟨_, en⟩, _⟩ := st; wpAny_pyIter_enum en h
def iEnumT (K : PySem.W.Frag) (ta : TA) : TI := fun st1 H R => ta st1 H fun vs Hq => ∃ a xs, vs = [.ref a] ∧ SqT K Hq a xs ∧ R (IteT K a) Hq
theorem pi_enumT {X : Cx} {e : Expr} {ta : TA} {p pos tpos : Pos} {elts : List Expr} {kk : Nat} (hg : Gl X "enumerate") (hm : X.mg "enumerate" = none) (ha : PA X [e] ta) (hs : starEach [e] X.env = [(false, eval e X.env)] := by rfl) :
    PI X (.Tuple elts kk tpos) (.Call (.Name "enumerate" p) [e] [] pos) (iEnumT X.K ta) := by
  refine ⟨fun pn s st1 H R I h => ?_⟩
  refine Call_ (ld_blt I hg hm boot_enumerate (PyProof.Rows.callWith_type1 (thn (ha.run pos pn s st1 H _ I h) fun uu sq1 ⟨vs, Hq, In1, rq, qv⟩ => ?_) hs rfl))
  obtain ⟨a, xs, ex, sq, q⟩ := qv
  subst ex
  cases rq with
  | cons r rr =>
    cases rr
    cases r
    obtain ⟨ws, rel, p', sm⟩ := In1.tuple sq
    have lta : a < sq1.heap.objs.size := p'.lt
    refine enum_begins1 (begins_tuple a ws.toArray) p' fun g1 en ti szz kp => wpAny_pyIter_enum en ?_
    have In2 : Inv X pn st1 Hq { sq1 with heap := g1 } := In1.kept (t' := sq1.toks) kp
    refine ⟨sq1.heap.objs.size + 1, [sq1.heap.objs.size + 1, sq1.heap.objs.size], _, _, Hq, rfl, In2, turn_enumT a (sq1.heap.objs.size + 1) sq1.heap.objs.size, ⟨⟨.none, en⟩, ⟨_, ti, rfl, rfl⟩, Nat.succ_ne_self _, Nat.ne_of_gt (Nat.lt_succ_of_lt lta), Nat.ne_of_lt lta⟩, fun bb mb => ?_, q⟩
    have alt : bb = sq1.heap.objs.size + 1 ∨ bb = sq1.heap.objs.size := by simpa using mb
    have low : sq1.heap.objs.size ≤ bb := by
      rcases alt with z | z
      · rw [z]; exact Nat.le_add_right _ _
      · rw [z]; exact Nat.le_refl _
    exact In1.fpOk low (In1.hok.fresh low)
theorem walk_enumT {K : PySem.W.Frag} {a : Addr} {xs : List V} : Walk (IteT K a) xs.length (fun H => SqT K H a xs) (YPair (fun i => some (.int (i : Nat))) (fun i => xs[i]?)) := by
  refine ⟨fun i _ hi q => ⟨xs, xs[i], q, by simp [hi]⟩, fun _ q => ⟨xs, q, rfl⟩, fun i H v H' _ q y => ?_⟩
  obtain ⟨T, x, t1, t2, t3, t4⟩ := y
  exact ⟨T, .int (i : Nat), x, t1, t2, t3, rfl, t4 xs q⟩
/-! ### xs.count(True) of a list of True, False -/
theorem bools_of_vals : ∀ {bs : List Bool} {uu : List Value}, Vals (bs.map V.bl) uu → uu = bs.map Value.bool
  | [], uu, r => by cases r; rfl
  | bb :: bs, uu, r => by
    cases r with
    | cons h t =>
      cases (show _ = Value.bool bb from h)
      rw [bools_of_vals t]
      rfl
def rCntB (K : PySem.W.Frag) : V → List V → Hp → VK → Prop := fun x xs H Q => ∃ (p : Addr) (bs : List Bool), x = .ref p ∧ xs = [.bl true] ∧ SqL K H p (bs.map V.bl) ∧ Q (.int (bs.count true : Nat)) H
theorem mt_countB {X : Cx} : MtR X "list.count" (rCntB X.K) := by
  intro pn s st1 H x xs v uu Q I rx relx h
  obtain ⟨p, bs, rfl, rfl, hs, q⟩ := h
  cases rx
  obtain ⟨u, rfl, relu⟩ := relx.one
  cases (show u = Value.bool true from relu)
  obtain ⟨ws, rel, ⟨⟨cls, dct, data, sl⟩, n, hob, cal, nd, hd⟩, short⟩ := I.list hs
  simp only at cal hd
  subst cal hd
  have e := bools_of_vals rel
  subst e
  refine call_meets PySem.F.slot_list_count ⟨_, hob, rfl⟩ PySem.F.entry_list_count (PySem.F.args_list_count_2 _ _)
    (SeqAt.list_countAt p (bs.map Value.bool).toArray n dct sl (.bool true) (fun y => y == .bool true)) ⟨hob, fun y hyy => ?_, ?_⟩
  · have hy' : y ∈ bs.map Value.bool := by simpa using hyy
    obtain ⟨bb, _, rfl⟩ := List.mem_map.mp hy'
    have z := SeqAt.EqAt.bool_bool (A := X.A.in1) (s := s) bb true
    have e : ((Value.bool bb == Value.bool true) : Bool) = (bb == true) := by cases bb <;> rfl
    rw [e]
    exact z
  · have cnt : (bs.map Value.bool).toArray.toList.countP (fun y => y == Value.bool true) = bs.count true := by
      rw [List.toList_toArray, List.countP_map, List.count]
      congr 1
      funext bb
      cases bb <;> rfl
    refine ⟨.int (bs.count true : Nat), H, I.tok _, ⟨s.toks, ?_⟩, q⟩
    show Value.int (((bs.map Value.bool).toArray.toList.countP (fun y => y == Value.bool true) : Nat) : Int) s.toks = Value.int ((bs.count true : Nat) : Int) s.toks
    rw [cnt]
end OTR

set_option Elab.async false
set_option linter.all false
set_option maxRecDepth 100000
set_option maxHeartbeats 1000000
namespace OTR
open PySem PySem.Spec PyProof.Rows L2
/-! ### isinstance(e, C), e the error that the suite holds, with a dict of ws own -/
section
variable {X : Cx} {a : Addr} {oe : Obj} {cls : Value} {d : Option Addr} {pn : List (Addr × Obj)}
def rIsX (K : PySem.W.Frag) (a : Addr) (cls : Value) (d : Option Addr) : List V → Hp → VK → Prop := fun xs H Qr => ∃ (D dd : Addr) (fs : List (Str × V)) (c : V) (cv : Value) (b : Bool), cls = .ref D ∧ d = some dd ∧ H dd = some (.xd fs) ∧ xs = [.ref a, c] ∧ ClsV c cv ∧ ExcC K D ∧ PySem.W.kitOne K (.ref D) cv = some b ∧ Qr (.bl b) H
def rIsXT (K : PySem.W.Frag) (a : Addr) (cls : Value) (d : Option Addr) : List V → Hp → VK → Prop := fun xs H Qr => ∃ (D dd tp : Addr) (fs : List (Str × V)) (cs : List V) (uu : List Value) (b : Bool), cls = .ref D ∧ d = some dd ∧ H dd = some (.xd fs) ∧ xs = [.ref a, .ref tp] ∧ H tp = some (.tup cs) ∧ Paired ClsV cs uu ∧ ExcC K D ∧ PySem.W.kitAny K (.ref D) uu = some b ∧ Qr (.bl b) H
theorem inst_of {qs : List (Addr × Obj)} {σ : L2.St} {H : Hp} {s : Shared} {D dd : Addr} {fs : List (Str × V)} (I : Inv (X.suite a ((a, oe) :: pn)) qs σ H s) (hz : Zc (.ref D) (some dd) oe) (hf : ∃ vs, oe.data = .fields vs) (h : H dd = some (.xd fs)) : ∃ od : Obj, PySem.W.InstAt s.heap a oe D (some od) := by
  obtain ⟨ha, _⟩ := I.pin (a, oe) (List.mem_append_left _ List.mem_cons_self)
  obtain ⟨vs, hd⟩ := hf
  have hx : ObjOk X.prog X.w H s.heap dd (.xd fs) := I.hok dd _ h
  obtain ⟨mA, nsq, hr⟩ := hx
  obtain ⟨od, hob, lks⟩ := lookIn_ns nsq
  exact ⟨od, ha, hz.1, by unfold PySem.W.notCls; rw [hd] <;> rfl, by rw [hz.2]; exact hob⟩
theorem excC_cl {K : PySem.W.Frag} {D : Addr} (C : ExcC K D) : (PySem.W.clsIn K D).isSome = true := by
  obtain ⟨cd, hc, _⟩ := PySem.W.any_some C.hd
  rw [hc]
  rfl
theorem call_isX (hz : Zc cls d oe) (hf : ∃ vs, oe.data = .fields vs) : CallR (X.suite a ((a, oe) :: pn)) (.builtin "isinstance") (rIsX X.K a cls d) := by
  intro qs s σ H xs uu Qr I r h
  obtain ⟨D, dd, fs, c, cv, b, rfl, rfl, hx, rfl, hcv, C, e, q⟩ := h
  obtain ⟨ua, ub, rfl, ra, rb⟩ := vals2 r
  cases (show ua = Value.ref a from ra)
  have ec := hcv.eq rb
  subst ec
  obtain ⟨od, J⟩ := inst_of I hz hf hx
  exact PySem.W.kia_one (PySem.W.kitx_exc (excC_cl C) C.hg C.hk C.hs C.ha C.hn C.ht C.hm) I.kIn J e (fun z => nomatch z) fun tk => ⟨.bl b, H, I.kept (t' := tk) fun _ _ z => z, rfl, q⟩
theorem call_isXT (hz : Zc cls d oe) (hf : ∃ vs, oe.data = .fields vs) : CallR (X.suite a ((a, oe) :: pn)) (.builtin "isinstance") (rIsXT X.K a cls d) := by
  intro qs s σ H xs uu Qr I r h
  obtain ⟨D, dd, tp, fs, cs, ws, b, rfl, rfl, hx, rfl, hT, k, C, e, q⟩ := h
  obtain ⟨ua, ub, rfl, ra, rb⟩ := vals2 r
  cases (show ua = Value.ref a from ra)
  cases (show ub = Value.ref tp from rb)
  obtain ⟨od, J⟩ := inst_of I hz hf hx
  obtain ⟨_, ws, rel, o, t1, t2, n, t3⟩ := (show ObjOk X.prog X.w H s.heap tp (.tup cs) from I.hok tp _ hT)
  have e3 := ClsV.all k rel
  subst e3
  obtain ⟨oc, od', dt, sl⟩ := o
  simp only at t2 t3
  subst t2 t3
  exact PySem.W.kia_tup (PySem.W.kitx_exc (excC_cl C) C.hg C.hk C.hs C.ha C.hn C.ht C.hm) I.kIn J t1 e (fun z => nomatch z) fun tk => ⟨.bl b, H, I.kept (t' := tk) fun _ _ z => z, rfl, q⟩
end
/-! ### errors of the program's own: what is wanted of the one that is raised -/
/-- of an error of the class at C, with these fields: whatever ws dict's place -/
def Raised (C : Addr) (fs : List (Str × V)) (H : Hp) (E : XK) : Prop := ∀ (d : Addr) (H' : Hp), (∀ b o, H b = some o → H' b = some o) → H d = none → H' d = some (.xd fs) → E (.ref C) (some d) H'
theorem Raised.mono {C : Addr} {fs : List (Str × V)} {H H1 : Hp} {E : XK} (h : Raised C fs H E) (s : ∀ b o, H b = some o → H1 b = some o) : Raised C fs H1 E := fun d H' s' n e => h d H' (fun b o z => s' b o (s b o z)) (by
  cases q : H d with
  | none => rfl
  | some o =>
    rw [s d o q] at n
    cases n) e
/-- an error class with an __init__ of ws own -/
structure ErT (K : PySem.W.Frag) (mg : Str → Option Value) (nm : Str) (C fI : Addr) : Prop where
  gC : mg nm = some (.ref C)
  ox : OexC K C
  xf : XfC K C
  ex : ExcC K C
  iC : PySem.W.findIn K (.ref C) "__init__" = some (some (.ref fI))
  tI : PySem.W.typeIn K (.ref fI) = some (.type "function")
/-- __init__(self, f): self.f = f -/
def spEr1 (C : Addr) (f : Str) : Sp := fun vs H Qr _ => ∃ (a : Addr) (v : V), vs = [.ref a, v] ∧ H a = some (exo a C none) ∧ ∀ dx, H dx = none → dx ≠ a → Qr .non (upd (upd H dx (exd dx [(f, v)])) a (exo a C (some dx)))
/-- __init__(self, f, g): self.f = f; self.g = g -/
def spEr2 (C : Addr) (f g : Str) : Sp := fun vs H Qr _ => ∃ (a : Addr) (v y : V), vs = [.ref a, v, y] ∧ H a = some (exo a C none) ∧ ∀ dx, H dx = none → dx ≠ a → Qr .non (upd (upd (upd H dx (exd dx [(f, v)])) a (exo a C (some dx))) dx (exd dx [(g, y), (f, v)]))
def kEr (C : Addr) (a : Addr) (H : Hp) (Qr : XK) : VK := fun v H2 => v = .non ∧ ∃ (d : Addr) (fs : List (Str × V)), H2 a = some (exo a C (some d)) ∧ H2 d = some (exd d fs) ∧ H d = none ∧ Qr (.ref C) (some d) (upd (del H2 a) d (.xd fs))
theorem er1 {C a : Addr} {f : Str} {v : V} {H : Hp} {E : XK} (h : H a = none) (k : Raised C [(f, v)] H E) : spEr1 C f [.ref a, v] (upd H a (exo a C none)) (kEr C a H E) (fun _ _ _ => False) := by
  refine ⟨a, v, rfl, upd_same, fun dx n ne => ⟨rfl, dx, [(f, v)], upd_same, by rw [upd_ne ne]; exact upd_same, by rw [upd_ne ne] at n; exact n, ?_⟩⟩
  rw [upd_ne ne] at n
  refine k dx _ (fun b o e => ?_) n upd_same
  have t1 : b ≠ dx := ne_of_none e n
  have t2 : b ≠ a := ne_of_none e h
  rw [upd_ne t1, del_ne t2, upd_ne t2, upd_ne t1, upd_ne t2]
  exact e
theorem er2 {C a : Addr} {f g : Str} {v y : V} {H : Hp} {E : XK} (h : H a = none) (k : Raised C [(g, y), (f, v)] H E) : spEr2 C f g [.ref a, v, y] (upd H a (exo a C none)) (kEr C a H E) (fun _ _ _ => False) := by
  refine ⟨a, v, y, rfl, upd_same, fun dx n ne => ⟨rfl, dx, [(g, y), (f, v)], by rw [upd_ne (Ne.symm ne)]; exact upd_same, upd_same, by rw [upd_ne ne] at n; exact n, ?_⟩⟩
  rw [upd_ne ne] at n
  refine k dx _ (fun b o e => ?_) n upd_same
  have t1 : b ≠ dx := ne_of_none e n
  have t2 : b ≠ a := ne_of_none e h
  rw [upd_ne t1, del_ne t2, upd_ne t1, upd_ne t2, upd_ne t1, upd_ne t2]
  exact e
section
variable {P : Program} {w : World} {K : PySem.W.Frag} {mg : Str → Option Value} {bas : Heap}
theorem lk0 {f : Str} {v : V} {r : List (Str × V)} : ((f, v) :: r).lookup f = some v := by rw [lookup_put, if_pos rfl]
theorem lk1 {f g : Str} {v : V} {r : List (Str × V)} (h : f ≠ g) : ((g, v) :: r).lookup f = r.lookup f := by rw [lookup_put, if_neg h]
end
end OTR

/-! Trees of roads: who is joined, ways, and what a tree's maker answers. -/
namespace OT
/-- a road: its ends and its length -/
abbrev Fact := Int × Int × Int
/-- the road r joins x and y -/
def Jn (r : Fact) (x y : Int) : Prop := (r.1 = x ∧ r.2.1 = y) ∨ (r.1 = y ∧ r.2.1 = x)
theorem Jn.symm {r : Fact} {x y : Int} (h : Jn r x y) : Jn r y x := Or.symm h
/-- x and y are joined by roads of F -/
inductive Con (F : List Fact) : Int → Int → Prop
  | refl (x : Int) : Con F x x
  | step {x y z : Int} {r : Fact} (h : Con F x y) (m : r ∈ F) (j : Jn r y z) : Con F x z
theorem Con.one {F : List Fact} {x y : Int} {r : Fact} (m : r ∈ F) (j : Jn r x y) : Con F x y := .step (.refl x) m j
theorem Con.trans {F : List Fact} {x y z : Int} (h : Con F x y) (k : Con F y z) : Con F x z := by
  induction k with
  | refl => exact h
  | step _ m j ih => exact .step ih m j
theorem Con.symm {F : List Fact} {x y : Int} (h : Con F x y) : Con F y x := by
  induction h with
  | refl => exact .refl _
  | step _ m j ih => exact (Con.one m j.symm).trans ih
theorem Con.mono {F G : List Fact} (s : ∀ r ∈ F, r ∈ G) {x y : Int} (h : Con F x y) : Con G x y := by
  induction h with
  | refl => exact .refl _
  | step _ m j ih => exact .step ih (s _ m) j
theorem Con.nil {x y : Int} (h : Con [] x y) : x = y := by
  cases h with
  | refl => rfl
  | step _ m _ => cases m
theorem con_snoc {F : List Fact} {r : Fact} {x y : Int} : Con (F ++ [r]) x y ↔ Con F x y ∨ (Con F x r.1 ∧ Con F r.2.1 y) ∨ (Con F x r.2.1 ∧ Con F r.1 y) := by
  constructor
  · intro h
    induction h with
    | refl => exact .inl (.refl _)
    | @step y z q _ m j ih =>
      rcases List.mem_append.mp m with m | m
      · rcases ih with h | ⟨h, k⟩ | ⟨h, k⟩
        · exact .inl (.step h m j)
        · exact .inr (.inl ⟨h, .step k m j⟩)
        · exact .inr (.inr ⟨h, .step k m j⟩)
      · obtain rfl := List.mem_singleton.mp m
        rcases j with ⟨rfl, rfl⟩ | ⟨rfl, rfl⟩
        · rcases ih with h | ⟨h, k⟩ | ⟨h, k⟩
          · exact .inr (.inl ⟨h, .refl _⟩)
          · exact .inr (.inl ⟨h, .refl _⟩)
          · exact .inl h
        · rcases ih with h | ⟨h, k⟩ | ⟨h, k⟩
          · exact .inr (.inr ⟨h, .refl _⟩)
          · exact .inl h
          · exact .inr (.inr ⟨h, .refl _⟩)
  · have s : ∀ q ∈ F, q ∈ F ++ [r] := fun q h => List.mem_append_left _ h
    have m : r ∈ F ++ [r] := List.mem_append_right _ (List.mem_singleton.mpr rfl)
    rintro (h | ⟨h, k⟩ | ⟨h, k⟩)
    · exact h.mono s
    · exact ((h.mono s).trans (.one m (.inl ⟨rfl, rfl⟩))).trans (k.mono s)
    · exact ((h.mono s).trans (.one m (.inr ⟨rfl, rfl⟩))).trans (k.mono s)
/-- the way from x to y over the roads with these numbers -/
inductive Way (F : List Fact) : Int → List Nat → Int → Prop
  | nil (x : Int) : Way F x [] x
  | cons {x y z : Int} {k : Nat} {r : Fact} {l : List Nat} (e : F[k]? = some r) (j : Jn r x y) (w : Way F y l z) : Way F x (k :: l) z
theorem Way.append {F : List Fact} {x y z : Int} {l m : List Nat} (h : Way F x l y) (k : Way F y m z) : Way F x (l ++ m) z := by
  induction h with
  | nil => exact k
  | cons e j _ ih => exact .cons e j (ih k)
theorem Way.rev {F : List Fact} {x y : Int} {l : List Nat} (h : Way F x l y) : Way F y l.reverse x := by
  induction h with
  | nil => exact .nil _
  | cons e j _ ih =>
    rw [List.reverse_cons]
    exact ih.append (.cons e j.symm (.nil _))
theorem Way.con {F : List Fact} {x y : Int} {l : List Nat} (h : Way F x l y) : Con F x y := by
  induction h with
  | nil => exact .refl _
  | cons e j _ ih => exact (Con.one (List.mem_of_getElem? e) j).trans ih
theorem Way.mono {F G : List Fact} {x y : Int} {l : List Nat} (h : Way F x l y) : Way (F ++ G) x l y := by
  induction h with
  | nil => exact .nil _
  | cons e j _ ih => exact .cons (by rw [List.getElem?_append_left (List.getElem?_eq_some_iff.mp e).1]; exact e) j ih
theorem Way.mem {F : List Fact} {x y : Int} {l : List Nat} (h : Way F x l y) : ∀ k ∈ l, ∃ r, F[k]? = some r ∧ Con F x r.1 := by
  induction h with
  | nil => intro k h; cases h
  | @cons x y z k r l e j w ih =>
    intro q hq
    rcases List.mem_cons.mp hq with rfl | hq
    · refine ⟨r, e, ?_⟩
      rcases j with ⟨rfl, rfl⟩ | ⟨rfl, rfl⟩
      · exact .refl _
      · exact Con.one (List.mem_of_getElem? e) (.inr ⟨rfl, rfl⟩)
    · obtain ⟨r', e', c⟩ := ih q hq
      exact ⟨r', e', (Con.one (List.mem_of_getElem? e) j).trans c⟩
theorem Way.lt {F : List Fact} {x y : Int} {l : List Nat} (h : Way F x l y) {k : Nat} (m : k ∈ l) : k < F.length := by
  obtain ⟨r, e, _⟩ := h.mem k m
  exact (List.getElem?_eq_some_iff.mp e).1
/-- a way over the new road -/
theorem way_over {F : List Fact} {r : Fact} {x y : Int} {l m : List Nat} (h : Way F x l r.1) (k : Way F r.2.1 m y) : Way (F ++ [r]) x (l ++ F.length :: m) y :=
  h.mono.append (.cons (by rw [List.getElem?_append_right (Nat.le_refl _)]; simp) (.inl ⟨rfl, rfl⟩) k.mono)
theorem way_nodup {F : List Fact} {r : Fact} {x y : Int} {l m : List Nat} (no : ¬ Con F r.1 r.2.1) (h : Way F x l r.1) (k : Way F r.2.1 m y) (hl : l.Nodup) (hm : m.Nodup) : (l ++ F.length :: m).Nodup := by
  rw [List.nodup_append]
  refine ⟨hl, List.nodup_cons.mpr ⟨fun z => Nat.lt_irrefl _ (k.lt z), hm⟩, ?_⟩
  intro a ha b hb e
  subst e
  rcases List.mem_cons.mp hb with rfl | hb
  · exact Nat.lt_irrefl _ (h.lt ha)
  · obtain ⟨q, e1, c1⟩ := h.rev.mem a (List.mem_reverse.mpr ha)
    obtain ⟨q', e2, c2⟩ := k.mem a hb
    rw [e1] at e2
    cases e2
    exact no (c1.trans c2.symm)
theorem nodup_le : ∀ (n : Nat) (l : List Nat), l.Nodup → (∀ k ∈ l, k < n) → l.length ≤ n
  | 0, l, _, h => by
    cases l with
    | nil => exact Nat.le_refl _
    | cons a l => exact absurd (h a (List.mem_cons_self ..)) (Nat.not_lt_zero _)
  | n + 1, l, hn, h => by
    have q := nodup_le n (l.erase n) (hn.erase n) fun k hk => by
      have h1 := h k (List.mem_of_mem_erase hk)
      have h2 : k ≠ n := fun z => by
        rw [z] at hk
        exact (List.Nodup.not_mem_erase hn) hk
      omega
    by_cases m : n ∈ l
    · have := List.length_erase_of_mem m
      omega
    · rw [List.erase_of_not_mem m] at q
      omega
theorem Way.short {F : List Fact} {x y : Int} {l : List Nat} (h : Way F x l y) (n : l.Nodup) : l.length ≤ F.length := nodup_le _ l n fun _ m => h.lt m
/-- the crossings are 0 to n - 1 -/
def In (n x : Int) : Prop := 0 ≤ x ∧ x < n
instance (n x : Int) : Decidable (In n x) := inferInstanceAs (Decidable (0 ≤ x ∧ x < n))
/-- what a tree's maker finds -/
inductive Err
  | crossings (n : Int) | roads (k : Int) | crossing (c : Int) | length (s : Int) | ring (k : Int)
  deriving DecidableEq
open Classical in
noncomputable def dueR (n : Int) : List Fact → List Fact → Option Err
  | _, [] => none
  | done, r :: rest => if ¬ In n r.1 then some (.crossing r.1) else if ¬ In n r.2.1 then some (.crossing r.2.1) else if ¬ (1 ≤ r.2.2 ∧ r.2.2 ≤ 1000000000) then some (.length r.2.2)
      else if Con done r.1 r.2.1 then some (.ring done.length) else dueR n (done ++ [r]) rest
noncomputable def due (n : Int) (F : List Fact) : Option Err :=
  if ¬ (2 ≤ n ∧ n ≤ 24) then some (.crossings n) else if (F.length : Int) ≠ n - 1 then some (.roads F.length) else dueR n [] F
theorem dueR_nil (n : Int) (done : List Fact) : dueR n done [] = none := by unfold dueR; rfl
theorem dueR_a {n : Int} {done rest : List Fact} {r : Fact} (h : ¬ In n r.1) : dueR n done (r :: rest) = some (.crossing r.1) := by
  rw [dueR, if_pos h]
theorem dueR_b {n : Int} {done rest : List Fact} {r : Fact} (h : In n r.1) (h2 : ¬ In n r.2.1) : dueR n done (r :: rest) = some (.crossing r.2.1) := by
  rw [dueR, if_neg (fun z => z h), if_pos h2]
theorem dueR_l {n : Int} {done rest : List Fact} {r : Fact} (h : In n r.1) (h2 : In n r.2.1) (h3 : ¬ (1 ≤ r.2.2 ∧ r.2.2 ≤ 1000000000)) : dueR n done (r :: rest) = some (.length r.2.2) := by
  rw [dueR, if_neg (fun z => z h), if_neg (fun z => z h2), if_pos h3]
theorem dueR_ring {n : Int} {done rest : List Fact} {r : Fact} (h : In n r.1) (h2 : In n r.2.1) (h3 : 1 ≤ r.2.2 ∧ r.2.2 ≤ 1000000000) (h4 : Con done r.1 r.2.1) : dueR n done (r :: rest) = some (.ring done.length) := by
  rw [dueR, if_neg (fun z => z h), if_neg (fun z => z h2), if_neg (fun z => z h3), if_pos h4]
theorem dueR_go {n : Int} {done rest : List Fact} {r : Fact} (h : In n r.1) (h2 : In n r.2.1) (h3 : 1 ≤ r.2.2 ∧ r.2.2 ≤ 1000000000) (h4 : ¬ Con done r.1 r.2.1) : dueR n done (r :: rest) = dueR n (done ++ [r]) rest := by
  rw [dueR, if_neg (fun z => z h), if_neg (fun z => z h2), if_neg (fun z => z h3), if_neg h4]
end OT

set_option Elab.async false
set_option linter.all false
set_option maxRecDepth 100000
set_option maxHeartbeats 1000000
namespace OT
open PySem L2 OTR
abbrev sBad : Stmt := inClass (top 4) 0
abbrev sNoC : Stmt := inClass (top 5) 0
abbrev sRing : Stmt := inClass (top 6) 0
abbrev sRoadI : Stmt := inClass (top 15) 0
abbrev sTreeI : Stmt := inClass (top 16) 0
abbrev sTrails : Stmt := top 17
abbrev sCheck : Stmt := top 18
abbrev sJoin : Stmt := top 19
theorem len1 {v : V} : [v].length ≤ 1000 := by show 1 ≤ 1000; decide
theorem len2 {v y : V} : [v, y].length ≤ 1000 := by show 2 ≤ 1000; decide
/-! ### the classes -/
/-- what the walk asks of Road -/
structure RdT (K : PySem.W.Frag) (mg : Str → Option Value) (C : Addr) : Prop where
  cl : Cls K C
  nA : NoAttr K C "a"
  nB : NoAttr K C "b"
  nL : NoAttr K C "length"
  mgC : mg "Road" = some (.ref C)
def rdF (r : Fact) : List (Str × V) := [("a", .int r.1), ("b", .int r.2.1), ("length", .int r.2.2)]
theorem rdF_a (r : Fact) : (rdF r).lookup ("a" : Str) = some (.int r.1) := lk0
theorem rdF_b (r : Fact) : (rdF r).lookup ("b" : Str) = some (.int r.2.1) := by
  unfold rdF
  rw [lk1 (by decide +kernel)]
  exact lk0
theorem rdF_l (r : Fact) : (rdF r).lookup ("length" : Str) = some (.int r.2.2) := by
  unfold rdF
  rw [lk1 (by decide +kernel), lk1 (by decide +kernel)]
  exact lk0
theorem rdF_put (r : Fact) : putF "length" (.int r.2.2) (putF "b" (.int r.2.1) (putF "a" (.int r.1) [])) = rdF r := by
  have h1 : ¬ (("a" : Str) = "b") := by decide +kernel
  have h2 : ¬ (("a" : Str) = "length") := by decide +kernel
  have h3 : ¬ (("b" : Str) = "length") := by decide +kernel
  show putF "length" (.int r.2.2) (if ("a" : Str) = "b" then [(("a" : Str), V.int r.2.1)] else (("a" : Str), V.int r.1) :: putF "b" (.int r.2.1) []) = rdF r
  rw [if_neg h1]
  show (if ("a" : Str) = "length" then _ else (("a" : Str), V.int r.1) :: (if ("b" : Str) = "length" then _ else (("b" : Str), V.int r.2.1) :: putF "length" (.int r.2.2) [])) = rdF r
  rw [if_neg h2, if_neg h3]
  rfl
/-- a road at p -/
def RoadAt (CR : Addr) (H : Hp) (p : Addr) (r : Fact) : Prop := ∃ dx, H p = some (.ins CR dx (rdF r))
theorem RoadAt.same {CR : Addr} {H H' : Hp} {p : Addr} {r : Fact} (h : RoadAt CR H p r) (s : Same H H') : RoadAt CR H' p r := let ⟨dx, e⟩ := h; ⟨dx, s _ _ e⟩
/-- Road(a, b, length): its __init__ -/
def spRoadI (C : Addr) : Sp := fun vs H Q _ => ∃ (p dx : Addr) (r : Fact), vs = [.ref p, .int r.1, .int r.2.1, .int r.2.2] ∧ H p = some (.ins C dx []) ∧ ∀ H', RoadAt C H' p r → (∀ b o, H b = some o → b ≠ p → H' b = some o) → Q .non H'
/-- check_road -/
def LenOk (s : Int) : Prop := 1 ≤ s ∧ s ≤ 1000000000
def spCheck (CR CB CN : Addr) : Sp := fun vs H Q E => ∃ (n : Int) (p : Addr) (r : Fact), vs = [.int n, .ref p] ∧ RoadAt CR H p r ∧
  (¬ In n r.1 → Raised CN [("crossing", .int r.1)] H E) ∧ (In n r.1 → ¬ In n r.2.1 → Raised CN [("crossing", .int r.2.1)] H E) ∧
  (In n r.1 → In n r.2.1 → ¬ LenOk r.2.2 → Raised CB [("count", .int r.2.2), ("what", .str "length")] H E) ∧
  (In n r.1 → In n r.2.1 → LenOk r.2.2 → ∀ H', Same H H' → Q .non H')
section
variable {P : Program} {w : World} {K : PySem.W.Frag} {mg : Str → Option Value} {base : Heap}
theorem scBad : FnScope ["self", "what", "count"] ["self", "what", "count"] (defScope sBad) := ⟨rfl, rfl, rfl, by decide +kernel, rfl, by decide +kernel, by decide +kernel⟩
theorem ok_bad {f C : Addr} {fd : FuncData} (F : Fun K "__init__" "BadCount.__init__" sBad f fd) (T : OexC K C) (n1 : PySem.W.findIn K (.ref C) "what" = some none) (n2 : PySem.W.findIn K (.ref C) "count" = some none) : FnOk P w K mg base CX0 1 f fd ["self", "what", "count"] (spEr2 C "what" "count") := by
  refine F.ok scBad (fun vs H Q E h => ?_) (fun cdv A outer s H vs Q E hr h => ?_)
  · obtain ⟨a, v, y, rfl, _⟩ := h
    rfl
  · obtain ⟨a, v, y, rfl, ha, k⟩ := h
    refine ⟨_, pss_cons (ps_ost (pv 0) (pv 1)) (pss_one (ps_ost (pv 0) (pv 2))), ?_⟩
    refine ⟨_, rfl, _, rfl, a, C, rfl, T, n1, .inl ⟨ha, fun dx n ne => ?_⟩⟩
    refine ⟨_, rfl, _, rfl, a, C, rfl, T, n2, .inr ⟨dx, _, upd_same, by rw [upd_ne ne]; exact upd_same, (by show 1 ≤ 900; decide), ?_⟩⟩
    exact k dx n ne
theorem scNoC : FnScope ["self", "crossing"] ["self", "crossing"] (defScope sNoC) := ⟨rfl, rfl, rfl, by decide +kernel, rfl, by decide +kernel, by decide +kernel⟩
theorem ok_noc {f C : Addr} {fd : FuncData} (F : Fun K "__init__" "NoCrossing.__init__" sNoC f fd) (T : OexC K C) (n1 : PySem.W.findIn K (.ref C) "crossing" = some none) : FnOk P w K mg base CX0 1 f fd ["self", "crossing"] (spEr1 C "crossing") := by
  refine F.ok scNoC (fun vs H Q E h => ?_) (fun cdv A outer s H vs Q E hr h => ?_)
  · obtain ⟨a, v, rfl, _⟩ := h
    rfl
  · obtain ⟨a, v, rfl, ha, k⟩ := h
    refine ⟨_, pss_one (ps_ost (pv 0) (pv 1)), ?_⟩
    exact ⟨_, rfl, _, rfl, a, C, rfl, T, n1, .inl ⟨ha, fun dx n ne => k dx n ne⟩⟩
theorem scRing : FnScope ["self", "road"] ["self", "road"] (defScope sRing) := ⟨rfl, rfl, rfl, by decide +kernel, rfl, by decide +kernel, by decide +kernel⟩
theorem ok_ringI {f C : Addr} {fd : FuncData} (F : Fun K "__init__" "RingRoad.__init__" sRing f fd) (T : OexC K C) (n1 : PySem.W.findIn K (.ref C) "road" = some none) : FnOk P w K mg base CX0 1 f fd ["self", "road"] (spEr1 C "road") := by
  refine F.ok scRing (fun vs H Q E h => ?_) (fun cdv A outer s H vs Q E hr h => ?_)
  · obtain ⟨a, v, rfl, _⟩ := h
    rfl
  · obtain ⟨a, v, rfl, ha, k⟩ := h
    refine ⟨_, pss_one (ps_ost (pv 0) (pv 1)), ?_⟩
    exact ⟨_, rfl, _, rfl, a, C, rfl, T, n1, .inl ⟨ha, fun dx n ne => k dx n ne⟩⟩
theorem scRoadI : FnScope ["self", "a", "b", "length"] ["self", "a", "b", "length"] (defScope sRoadI) := ⟨rfl, rfl, rfl, by decide +kernel, rfl, by decide +kernel, by decide +kernel⟩
theorem ok_roadI {f C : Addr} {fd : FuncData} (F : Fun K "__init__" "Road.__init__" sRoadI f fd) (T : RdT K mg C) : FnOk P w K mg base CX0 1 f fd ["self", "a", "b", "length"] (spRoadI C) := by
  refine F.ok scRoadI (fun vs H Q E h => ?_) (fun cdv A outer s H vs Q E hr h => ?_)
  · obtain ⟨p, dx, r, rfl, _⟩ := h
    rfl
  · obtain ⟨p, dx, r, rfl, hp, k⟩ := h
    refine ⟨_, pss_cons (ps_fld (pv 0) (pv 1) rfl) (pss_cons (ps_fld (pv 0) (pv 2) rfl) (pss_one (ps_fld (pv 0) (pv 3) rfl))), ?_⟩
    refine ⟨_, rfl, _, rfl, p, C, dx, [], rfl, hp, T.cl, T.nA, (by show 0 < 1000; decide), ?_⟩
    refine ⟨_, rfl, _, rfl, p, C, dx, _, rfl, upd_same, T.cl, T.nB, (by show 1 < 1000; decide), ?_⟩
    refine ⟨_, rfl, _, rfl, p, C, dx, putF "b" (.int r.2.1) (putF "a" (.int r.1) []), rfl, upd_same, T.cl, T.nL, ?_, ?_⟩
    · have h1 : ¬ (("a" : Str) = "b") := by decide +kernel
      show (if ("a" : Str) = "b" then [(("a" : Str), V.int r.2.1)] else (("a" : Str), V.int r.1) :: putF "b" (.int r.2.1) []).length < 1000
      rw [if_neg h1]
      show 2 < 1000
      decide
    · refine k _ ⟨dx, ?_⟩ fun b o e n => ?_
      · rw [rdF_put]
        exact upd_same
      · rw [upd_ne n, upd_ne n, upd_ne n]
        exact e
theorem scCheck : FnScope ["crossings", "road", "crossing"] ["crossings", "road"] (defScope sCheck) := ⟨rfl, rfl, rfl, by decide +kernel, rfl, by decide +kernel, by decide +kernel⟩
theorem ok_check {f CR CB CN fB fN : Addr} {fd fdB fdN : FuncData} (F : Fun K "check_road" "check_road" sCheck f fd) (TR : RdT K mg CR) (TB : ErT K mg "BadCount" CB fB) (TN : ErT K mg "NoCrossing" CN fN)
    (FB : FnOk P w K mg base CX0 1 fB fdB ["self", "what", "count"] (spEr2 CB "what" "count")) (bB : Binds K fdB ["self", "what", "count"] [])
    (FN : FnOk P w K mg base CX0 1 fN fdN ["self", "crossing"] (spEr1 CN "crossing")) (bN : Binds K fdN ["self", "crossing"] []) (hL : ∃ t, mg "LONGEST_ROAD" = some (.int 1000000000 t)) :
    FnOk P w K mg base (L2.CX P w) 3 f fd ["crossings", "road"] (spCheck CR CB CN) := by
  refine F.okX scCheck (fun vs H Q E h => ?_) (fun cdv A outer s H vs Q E hr h => ?_)
  · obtain ⟨n, p, r, rfl, _⟩ := h
    rfl
  · obtain ⟨n, p, r, rfl, hR, k1, k2, k3, k4⟩ := h
    obtain ⟨tL, hL⟩ := hL
    refine ⟨_, pss_cons (ps_for (passes_of rfl) rfl (pi_tup (pe_tup (pa_cons (pe_fld (pv 1) rfl) (pa_cons (pe_fld (pv 1) rfl) pa_nil)))) (pg_name (i := 2) scCheck.nd rfl (Or.inl rfl))
        (pss_one (ps_if (pt_not (pt_chain op_le op_lt pe_int (pv 2) (pv 0))) (pss_one (ps_raise rfl (takes_of rfl rfl rfl rfl) (pmk_oex TN.ox TN.iC TN.tI FN hr bN .nil pass0 (by rfl) TN.gC (pa_cons (pv 2) pa_nil)))) pss_nil)))
      (pss_one (ps_if (pt_not (pt_chain op_le op_le pe_int (pe_fld (pv 1) rfl) (pe_glob (v := V.int 1000000000) rfl hL ⟨tL, rfl⟩)))
        (pss_one (ps_raise rfl (takes_of rfl rfl rfl rfl) (pmk_oex TB.ox TB.iC TB.tI FB hr bB .nil pass0 (by rfl) TB.gC (pa_cons pe_str (pa_cons (pe_fld (pv 1) rfl) pa_nil))))) pss_nil)), ?_⟩
    obtain ⟨dx, hp⟩ := id hR
    refine ⟨_, rfl, p, CR, dx, _, _, rfl, hp, TR.cl, TR.nA, rdF_a r, _, rfl, p, CR, dx, _, _, rfl, hp, TR.cl, TR.nB, rdF_b r, (by show 2 ≤ sizeLine; decide), fun t ht => ?_⟩
    refine ⟨t, rfl, ⟨_, SqT.of upd_same⟩, for_tup (K := K) (a := t) (xs := [V.int r.1, V.int r.2.1]) (fun i σ H2 => ∃ v : Option V, σ = [some (.int n), some (.ref p), v] ∧ Same (upd H t (.tup [V.int r.1, V.int r.2.1])) H2 ∧ (1 ≤ i → In n r.1) ∧ (2 ≤ i → In n r.2.1))
      ⟨none, rfl, Same.refl _, fun z => absurd z (by decide), fun z => absurd z (by decide)⟩ (fun i σ H2 _ ⟨_, _, s2, _⟩ => SqT.of (s2 _ _ upd_same)) ?_ ?_⟩
    · rintro i y σ H2 hi ⟨v, rfl, s2, i1, i2⟩
      have s1 : Same H H2 := (Same.new ht).trans s2
      have hil : i < 2 := (List.getElem?_eq_some_iff.mp hi).1
      have hc : i = 0 ∨ i = 1 := by omega
      rcases hc with rfl | rfl
      · cases hi
        refine ⟨_, rfl, _, _, rfl, rfl, _, rfl, ?_⟩
        by_cases h0 : 0 ≤ r.1
        · rw [decide_eq_true h0]
          refine iteT ⟨_, rfl, _, _, rfl, rfl, _, rfl, ?_⟩
          by_cases h1 : r.1 < n
          · rw [decide_eq_true h1]
            exact iteF ⟨_, rfl, s2, fun _ => ⟨h0, h1⟩, fun z => absurd z (by decide)⟩
          · rw [decide_eq_false h1]
            refine iteT ⟨_, rfl, len1, fun a ha => er1 ha ((k1 fun z => h1 z.2).mono s1)⟩
        · rw [decide_eq_false h0]
          refine iteF ⟨_, rfl, ?_⟩
          exact iteT ⟨_, rfl, len1, fun a ha => er1 ha ((k1 fun z => h0 z.1).mono s1)⟩
      · cases hi
        have in1 := i1 (Nat.le_refl _)
        refine ⟨_, rfl, _, _, rfl, rfl, _, rfl, ?_⟩
        by_cases h0 : 0 ≤ r.2.1
        · rw [decide_eq_true h0]
          refine iteT ⟨_, rfl, _, _, rfl, rfl, _, rfl, ?_⟩
          by_cases h1 : r.2.1 < n
          · rw [decide_eq_true h1]
            exact iteF ⟨_, rfl, s2, fun _ => in1, fun _ => ⟨h0, h1⟩⟩
          · rw [decide_eq_false h1]
            refine iteT ⟨_, rfl, len1, fun a ha => er1 ha ((k2 in1 fun z => h1 z.2).mono s1)⟩
        · rw [decide_eq_false h0]
          refine iteF ⟨_, rfl, ?_⟩
          exact iteT ⟨_, rfl, len1, fun a ha => er1 ha ((k2 in1 fun z => h0 z.1).mono s1)⟩
    · rintro σ H2 ⟨v, rfl, s2, i1, i2⟩
      have s1 : Same H H2 := (Same.new ht).trans s2
      have in1 := i1 (by show 1 ≤ 2; decide)
      have in2 := i2 (by show 2 ≤ 2; decide)
      have hp2 := s1 _ _ hp
      refine ⟨_, rfl, p, CR, dx, _, _, rfl, hp2, TR.cl, TR.nL, rdF_l r, _, _, rfl, rfl, _, rfl, ?_⟩
      by_cases h0 : 1 ≤ r.2.2
      · rw [decide_eq_true h0]
        refine iteT ⟨_, _, rfl, rfl, _, rfl, ?_⟩
        by_cases h1 : r.2.2 ≤ 1000000000
        · rw [decide_eq_true h1]
          exact iteF (k4 in1 in2 ⟨h0, h1⟩ _ s1)
        · rw [decide_eq_false h1]
          exact iteT ⟨_, rfl, p, CR, dx, _, _, rfl, hp2, TR.cl, TR.nL, rdF_l r, len2, fun a ha => er2 ha ((k3 in1 in2 fun z => h1 z.2).mono s1)⟩
      · rw [decide_eq_false h0]
        refine iteF ⟨_, rfl, ?_⟩
        exact iteT ⟨_, rfl, p, CR, dx, _, _, rfl, hp2, TR.cl, TR.nL, rdF_l r, len2, fun a ha => er2 ha ((k3 in1 in2 fun z => h0 z.1).mono s1)⟩
end
end OT

set_option Elab.async false
set_option linter.all false
set_option maxRecDepth 100000
set_option maxHeartbeats 4000000
namespace OTR
open PySem PySem.Spec PyProof.Rows L2
theorem d_dictSetT {X : Cx} {pins : List (Addr × Obj)} {σ : L2.St} {H : Hp} {s : Shared} {E : Value → Shared → Prop} {D b : Addr} {ent : List (List Key × V)} {key : List Key} {v : V} {u r : Value} {Q : Unit → Shared → Prop} (hu : X.A.units + 1 < cLine) (Iv : Inv X pins σ H s) (atD : H D = some (.dT ent)) (eb : H b = some (.tup (key.map kV))) (hz : ent.length < sizeLine)
    (rky : RelV (.ref b) u) (rv : RelV v r) (h : ∀ s', Inv X pins σ (upd H D (.dT (putK ent key v))) s' → Q () s') : wpAny (model X.prog X.w) X.A (dictSet D u r) Q E s := by
  cases (show u = Value.ref b from rky)
  obtain ⟨zz, fin, xs, rel, dd⟩ := dt_of Iv.hok atD
  have hzv : xs.length ≤ sizeLine := by rw [← Paired.length rel]; exact zz
  have len1 : (putK ent key v).length ≤ sizeLine := by have := length_putK ent key v; omega
  refine wpAny_dictSet_heap (hsz := hzv) (Nat.lt_of_succ_lt hu) (key_of Iv.hok eb) dd fun h' dd' hs => h _ ?_
  obtain ⟨q, slots, prm, hq, t2, t3, t4, _, t5⟩ := dd'
  refine d_write Iv (by rw [atD]; exact True.intro) hs ⟨q, hq⟩ ⟨len1, fin, _, (rel.put key eb rv).keeps fun c ys ec => ?_, q, slots, prm, hq, t2, t3, t4, t5⟩
  rw [upd_ne (ne_of ec atD (fun zz => nomatch zz))]
  exact ec
section
variable {X : Cx}
def tDcT (wi : TI) (g : TG) (tt : TT) (tk tv : TE) (vs : List Nat) : TE := fun σ H Q => wi σ H fun J H1 => ∀ D, H1 D = none → ∃ W : Nat → Nat → Hp → Prop, (∃ mm, W 0 mm (upd H1 D (.dT []))) ∧ ∀ i mm H, W i mm H →
  (J.stop i H ∧ Q (.ref D) H) ∨ (J.go i H ∧ ∃ Nxt : Hp → Prop, (∀ H', Nxt H' → ∃ m', m' < mm ∧ W (i + 1) m' H') ∧ ∀ x H', J.yld i H x H' → g x (wipe σ vs) H' fun σ2 Hb => wipe σ2 vs = wipe σ vs ∧ tt σ2 Hb fun b Hc =>
    if b = true then tk σ2 Hc fun y Hk => tv σ2 Hk fun zz Hv => ∃ ent key b, y = .ref b ∧ Hv b = some (.tup (key.map kV)) ∧ Hv D = some (.dT ent) ∧ ent.length < sizeLine ∧ Nxt (upd Hv D (.dT (putK ent key zz))) else Nxt Hc)
theorem dcT_core {pin0 : List (Addr × Obj)} {s : Shared} {σ : L2.St} {H : Hp} {Q : VK} {kx vx tg iter : Expr} {ifs : List Expr} {scope : Scope} {own : List (Str × Nat)} {pos pos2 : Pos} {wi : TI} {g : TG} {tt : TT} {tk tv : TE} {aft : Option (Value → Sem Unit)} {Qq : Value → Shared → Prop}
    (hu : X.A.units + 1 < cLine) (hc : X.calm = true) (nodN : X.N.Nodup) (Iv : Inv X pin0 σ H s) (walk : PI X tg iter wi) (ok : BlkOk X.N X.env.scope scope own)
    (rdG : ∀ (s : Shared) (H : Hp) (Cn : Addr) (clo : List (Str × Addr)) (foot : List Addr), PG (X.blk s H scope (compEnvC scope clo Cn X.env) foot) tg g) (rdT : ∀ (s : Shared) (H : Hp) (Cn : Addr) (clo : List (Str × Addr)) (foot : List Addr), PTs (X.blk s H scope (compEnvC scope clo Cn X.env) foot) ifs tt)
    (rdK : ∀ (s : Shared) (H : Hp) (Cn : Addr) (clo : List (Str × Addr)) (foot : List Addr), PE (X.blk s H scope (compEnvC scope clo Cn X.env) foot) kx tk)
    (rdV : ∀ (s : Shared) (H : Hp) (Cn : Addr) (clo : List (Str × Addr)) (foot : List Addr), PE (X.blk s H scope (compEnvC scope clo Cn X.env) foot) vx tv) (hs : ∀ xx, foldedSetIterable iter X.env xx = pure xx)
    (h : tDcT wi g tt tk tv (own.map (·.2)) σ H Q)
    (goOn : ∀ D Cn s' mm H', Inv X pin0 σ H' s' → Q (.ref D) H' → s'.heap.Ns Cn mm → FpOk X pin0 H' Cn → compPost (model X.prog X.w) X.A X.xe aft Qq (.ref D) Cn (.ok .next) s') :
    wpAny (model X.prog X.w) X.A (comprehension (.DictComp kx vx [⟨tg, iter, ifs, 0⟩] scope pos) scope X.env pos2 newDict false (eval iter X.env) aft) Qq X.xe s := by
  have frees : ∀ y ∈ scope.names, y.2 = .free → ∃ c, X.env.cells.lookup y.1 = some c := fun y hy e => by
    rcases ok.free y hy e with key | key
    · exact Iv.ok.has _ (.inl key)
    · exact Iv.ok.has _ (.inr key)
  refine wpAny_comprehension_free (use := aft) rfl hs (closure_ok frees) ok.kind (fun y hy e => by rw [ok.uniq y hy, e])
    (thn (walk.run pin0 s σ H _ Iv h) fun xvv u1 hxx => thn hxx fun ivv u2 hv2 => ?_)
  obtain ⟨it, foot, tn, W1, U2, e, K2, T, at_2, off_2, q⟩ := hv2
  subst e
  refine wpAny_newObj_type (newEnv_comp ?_)
  generalize eD : u2.heap.objs.size = D
  have nD : U2 D = none := K2.hok.fresh (Nat.le_of_eq eD)
  obtain ⟨W, ⟨mv0, wv0⟩, round⟩ := q D nD
  -- the new list
  generalize es0 : ({ u2 with heap := u2.heap.push { cls := .type "dict", data := .dict #[] } } : Shared) = t0
  have J0 : Inv X pin0 σ (upd U2 D (.dT [])) t0 := by
    rw [← es0]
    refine K2.laid (t' := u2.toks) (fun b o e => Heap.get?_push_of_some _ e) (Nat.le_of_eq eD) ?_
    rw [← eD]
    exact dt_empty u2.heap K2.big
  have e0 : t0.heap = u2.heap.push { cls := .type "dict", data := .dict #[] } := by rw [← es0]
  have low0 : ∀ b ∈ foot, b < u2.heap.objs.size := fun b hb => by
    obtain ⟨o, e, _⟩ := T.obj _ _ at_2 b hb
    exact Heap.lt_size e
  have off0 : ∀ b ∈ foot, FpOk X pin0 (upd U2 D (.dT [])) b ∧ b < t0.heap.objs.size := fun b hb => by
    have lt2 := low0 b hb
    refine ⟨⟨?_, (off_2 b hb).2⟩, by rw [e0, Heap.size_push]; exact Nat.lt_succ_of_lt lt2⟩
    rw [upd_ne (by rw [← eD]; exact Nat.ne_of_lt lt2)]
    exact (off_2 b hb).1
  have at0 : tn 0 t0.heap := T.keep _ _ _ at_2 fun b _ o e => by rw [e0]; exact Heap.get?_push_of_some _ e
  have J1 := block_start J0 ok nodN off0
  have rg := rdG t0 (upd U2 D (.dT [])) t0.heap.objs.size (cellsFrom (t0.heap.objs.size + 1) scope.names (cloFrom X.env.cells scope.names [])) foot
  have rt := rdT t0 (upd U2 D (.dT [])) t0.heap.objs.size (cellsFrom (t0.heap.objs.size + 1) scope.names (cloFrom X.env.cells scope.names [])) foot
  have rk := rdK t0 (upd U2 D (.dT [])) t0.heap.objs.size (cellsFrom (t0.heap.objs.size + 1) scope.names (cloFrom X.env.cells scope.names [])) foot
  have rv := rdV t0 (upd U2 D (.dT [])) t0.heap.objs.size (cellsFrom (t0.heap.objs.size + 1) scope.names (cloFrom X.env.cells scope.names [])) foot
  show codeAny _ _ (.compStart (.DictComp kx vx [⟨tg, iter, ifs, 0⟩] scope pos) 0 (.ref it) (.ref D) (compEnvC scope (cellsFrom (t0.heap.objs.size + 1) scope.names (cloFrom X.env.cells scope.names [])) t0.heap.objs.size X.env)) (compPost (model X.prog X.w) X.A X.xe aft Qq (.ref D) t0.heap.objs.size) { t0 with heap := pushCells (t0.heap.push { cls := .type "dict", data := .dict #[] }) scope.names }
  have offs : ∀ b ∈ foot, (upd U2 D (.dT [])) b = none := fun b hb => (off0 b hb).1.1
  generalize ece : compEnvC scope (cellsFrom (t0.heap.objs.size + 1) scope.names (cloFrom X.env.cells scope.names [])) t0.heap.objs.size X.env = cenv at J1 rg rt rk rv ⊢
  have cL : cenv.locals = t0.heap.objs.size := by subst ece; rfl
  generalize hH3 : upd U2 D (.dT []) = G0 at J0 J1 rg rt rk rv wv0 offs off0
  generalize es1 : ({ t0 with heap := pushCells (t0.heap.push { cls := .type "dict", data := .dict #[] }) scope.names } : Shared) = t1 at J1 ⊢
  have at1 : tn 0 t1.heap := T.keep _ _ _ at0 fun b _ o e => by rw [← es1]; exact pushCells_keeps _ _ _ _ (Heap.get?_push_of_some _ e)
  have still : ∀ {σ' : L2.St} {H' : Hp} {s' : Shared}, Inv (X.blk t0 G0 scope cenv foot) [] σ' H' s' → (∀ b ∈ foot, H' b = none) → ∀ b ∈ foot, FpOk (X.blk t0 G0 scope cenv foot) [] H' b := fun {σ' H' s'} Iw hn b hb =>
    ⟨hn b hb, (Iw.ok.exf b hb).1, Iw.ok.exfs b hb, .inl hb, fun xx c e => (Iw.ok.exf b hb).2 xx c e, fun p hp => absurd (show p ∈ ([] : List (Addr × Obj)) ++ [] from hp) (by simp)⟩
  have whole : codeAny (model X.prog X.w) X.A (.compLoop (.DictComp kx vx [⟨tg, iter, ifs, 0⟩] scope pos) 0 (.ref it) (.ref D) cenv) (compPost (model X.prog X.w) X.A X.xe aft Qq (.ref D) t0.heap.objs.size) t1 := by
    refine compLoop_anyD (fun n s' => ∃ i H', Inv (X.blk t0 G0 scope cenv foot) [] (wipe σ (own.map (·.2))) H' s' ∧ tn i s'.heap ∧ (∀ b ∈ foot, H' b = none) ∧ W i n H') ?_ mv0 ⟨0, G0, J1, at1, offs, wv0⟩
    rintro n t2 ⟨i, G2, J2, at2, n5, w5⟩
    rcases round i n G2 w5 with ⟨stop, qd⟩ | ⟨go, Nxt, hNx, step⟩
    · have dn := T.done (X.blk t0 G0 scope cenv foot) rfl rfl rfl hc i [] t2 _ G2 (fun _ _ => False) J2 (still J2 n5) at2 stop
      refine thnF dn fun r t3 ⟨hr, J3⟩ => ?_
      subst hr
      -- back in the def's context
      have J4 : Inv X pin0 σ G2 t3 := J0.call' (ch := foot) J3.os J3.base J3.hok J3.bare fun b hb => ⟨(off0 b hb).1.2.2.2.1, (off0 b hb).1.2.1, (off0 b hb).1.2.2.2.2.1, (off0 b hb).1.2.2.2.2.2⟩
      have nC : G2 t0.heap.objs.size = none := by
        have zz : G2 cenv.locals = none := J3.free
        rw [cL] at zz
        exact zz
      obtain ⟨mm, hn, _⟩ := J3.loc
      have hn : t3.heap.Ns cenv.locals mm := hn
      rw [cL] at hn
      exact goOn D t0.heap.objs.size t3 mm G2 J4 qd hn (J0.fpOk (Nat.le_refl _) nC)
    · have im := T.item (X.blk t0 G0 scope cenv foot) rfl rfl rfl hc i [] t2 _ G2 (fun _ _ => False) J2 (still J2 n5) at2 go
      refine thnF im fun r t3 ⟨u, hr, h6⟩ => ?_
      subst hr
      refine thnF h6 fun _ t4 ⟨xx, G4, J4, r7, y7, at4, n7⟩ => ?_
      have I7' := J4.pinned (still J4 n7) (T.obj _ _ at4)
      refine thnF (rg.run _ t4 _ G4 xx u _ I7' r7 (step xx G4 y7)) fun _ t5 ⟨σ8, G5, J5, eqw, q8⟩ => ?_
      refine thnF (rt.run _ t5 σ8 G5 _ J5 q8) fun b t6 ⟨G6, J6, qb⟩ => ?_
      -- the turn's end
      have ended : ∀ {s' : Shared} {H' : Hp}, Inv (X.blk t0 G0 scope cenv foot) ([] ++ pinsAt foot t4.heap) σ8 H' s' → Nxt H' → ∃ mm, mm < n ∧ ∃ i H', Inv (X.blk t0 G0 scope cenv foot) [] (wipe σ (own.map (·.2))) H' s' ∧ tn i s'.heap ∧ (∀ b ∈ foot, H' b = none) ∧ W i mm H' := fun {s' H'} Iw nx => by
        obtain ⟨m', lt1, wn⟩ := hNx H' nx
        have pin' : ∀ b ∈ foot, ∀ o, t4.heap.get? b = some o → s'.heap.get? b = some o ∧ H' b = none := fun b hb o e =>
          let zz := Iw.pin (b, o) (List.mem_append_right _ (List.mem_append_right _ (mem_pinsAt hb e)))
          ⟨zz.1, zz.2.1⟩
        have len1 : (wipe σ (own.map (·.2))).length = σ8.length := by rw [← eqw, wipe_length]
        refine ⟨m', lt1, i + 1, H', (Iw.unpinned (pins := [])).weak len1 (fun j v e => ?_), T.keep _ _ _ at4 fun b hb o e => (pin' b hb o e).1, fun b hb => ?_, wn⟩
        · rw [← eqw] at e
          exact (wipe_some e).1
        · obtain ⟨o, e, _⟩ := T.obj _ _ at4 b hb
          exact (pin' b hb o e).2
      cases b with
      | false =>
        simp only [Bool.false_eq_true, if_false] at qb ⊢
        exact ended J6 qb
      | true =>
        simp only [if_true] at qb ⊢
        refine thnF (rk.run _ t6 σ8 G6 _ J6 qb) fun zz t7 ⟨yk, G7, J7, r10, q10⟩ => ?_
        refine thnF (rv.run _ t7 σ8 G7 _ J7 q10) fun z2 t8 ⟨yv, G8, J8, r11, ent, key, kb, ek, ekb, hD11, hz11, nx⟩ => ?_
        subst ek
        exact d_dictSetT (X := X.blk t0 G0 scope cenv foot) hu J8 hD11 ekb hz11 r10 r11 fun t9 J9 => ended J9 nx
  exact codeAny_compStart_dict whole (T.self X.A 0 _ _ _ at1 whole)
/-- as a value -/
theorem pe_dcT {kx vx tg iter : Expr} {ifs : List Expr} {scope : Scope} {own : List (Str × Nat)} {pos : Pos} {wi : TI} {g : TG} {tt : TT} {tk tv : TE} (hu : X.A.units + 1 < cLine) (hc : X.calm = true) (nodN : X.N.Nodup) (walk : PI X tg iter wi) (ok : BlkOk X.N X.env.scope scope own)
    (rdG : ∀ (s : Shared) (H : Hp) (Cn : Addr) (clo : List (Str × Addr)) (foot : List Addr), PG (X.blk s H scope (compEnvC scope clo Cn X.env) foot) tg g) (rdT : ∀ (s : Shared) (H : Hp) (Cn : Addr) (clo : List (Str × Addr)) (foot : List Addr), PTs (X.blk s H scope (compEnvC scope clo Cn X.env) foot) ifs tt)
    (rdK : ∀ (s : Shared) (H : Hp) (Cn : Addr) (clo : List (Str × Addr)) (foot : List Addr), PE (X.blk s H scope (compEnvC scope clo Cn X.env) foot) kx tk)
    (rdV : ∀ (s : Shared) (H : Hp) (Cn : Addr) (clo : List (Str × Addr)) (foot : List Addr), PE (X.blk s H scope (compEnvC scope clo Cn X.env) foot) vx tv) (hs : ∀ xx, foldedSetIterable iter X.env xx = pure xx := by intro _; rfl) :
    PE X (.DictComp kx vx [⟨tg, iter, ifs, 0⟩] scope pos) (tDcT wi g tt tk tv (own.map (·.2))) := by
  refine ⟨fun pin0 s σ H Q Iv h => ?_⟩
  rw [arm_eval_DictComp]
  refine dcT_core hu hc nodN Iv walk ok rdG rdT rdK rdV hs h fun D Cn s' mm H' Iw q hn f => ⟨mm, hn, fun h'' sb => ?_⟩
  obtain ⟨c0, c1, off_2, off0, c4, c5⟩ := f
  exact ⟨.ref D, H', Iw.turned (t' := s'.toks) (fun b o hb e => (sb.2 b hb).trans e) c0 c1 off0 c4 c5, rfl, q⟩
/-- name = {..} on one line, the name a local -/
theorem swD_true {kx vx : Expr} {gs : List Comprehension} {scope : Scope} {pos pp : Pos} {y : Str} {l : Nat} {env : Env} (h1 : env.scope.kind = .function) (t2 : env.scope.names.lookup y = some .local) (t3 : (pp.line == pos.line) = true)
    (t4 : (scope.names.any fun (n, key) => n == y && (key == .local || key == .cell)) = false) : swapsWith (.DictComp kx vx gs scope pos) (some (.Name y pp)) l env = pure true := by
  have e1 : env.kindOf y = some .local := t2
  have e2 : env.blockKind = .function := by
    unfold Env.blockKind
    rw [h1]
    rfl
  unfold swapsWith
  simp only [e2, e1, t4, Expr.pos, t3]
  rfl
theorem ps_setDcT {i : Nat} {y : Str} {pp : Pos} {kx vx tg iter : Expr} {ifs : List Expr} {scope : Scope} {own : List (Str × Nat)} {pos spos : Pos} {wi : TI} {g : TG} {tt : TT} {tk tv : TE} (hu : X.A.units + 1 < cLine) (cm : X.calm = true) (nN : X.N.Nodup) (iy : X.N[i]? = some y) (yl : X.env.scope.names.lookup y = some .local)
    (sw : swapsWith (.DictComp kx vx [⟨tg, iter, ifs, 0⟩] scope pos) (some (.Name y pp)) spos.line X.env = pure true) (walk : PI X tg iter wi) (bk : BlkOk X.N X.env.scope scope own)
    (a1 : ∀ (s : Shared) (H : Hp) (Cn : Addr) (clo : List (Str × Addr)) (foot : List Addr), PG (X.blk s H scope (compEnvC scope clo Cn X.env) foot) tg g)
    (a2 : ∀ (s : Shared) (H : Hp) (Cn : Addr) (clo : List (Str × Addr)) (foot : List Addr), PTs (X.blk s H scope (compEnvC scope clo Cn X.env) foot) ifs tt)
    (a3 : ∀ (s : Shared) (H : Hp) (Cn : Addr) (clo : List (Str × Addr)) (foot : List Addr), PE (X.blk s H scope (compEnvC scope clo Cn X.env) foot) kx tk)
    (a4 : ∀ (s : Shared) (H : Hp) (Cn : Addr) (clo : List (Str × Addr)) (foot : List Addr), PE (X.blk s H scope (compEnvC scope clo Cn X.env) foot) vx tv) (a5 : ∀ x, foldedSetIterable iter X.env x = pure x := by intro _; rfl) :
    PS X (.Assign [.Name y pp] (.DictComp kx vx [⟨tg, iter, ifs, 0⟩] scope pos) spos) (tAsg (tDcT wi g tt tk tv (own.map (·.2))) (gName i)) := by
  refine ⟨fun ps0 s0 σ0 G0 D I0 h0 => ?_⟩
  rw [exec_Assign_Name_used _ _ _ _ sw]
  refine wpAny_bind (wpAny_standAt (wpAny_bind ?_))
  show wpAny _ X.A (do let _ ← comprehension (.DictComp kx vx [⟨tg, iter, ifs, 0⟩] scope pos) scope X.env (firstIterPos [⟨tg, iter, ifs, 0⟩] pos) newDict false (eval iter X.env) (some (assign (.Name y pp) X.env))) _ _ s0
  have h1 : tDcT wi g tt tk tv (own.map (·.2)) σ0 G0 (fun x H1 => gName i x σ0 H1 D.nx) := h0
  refine wpAny_bind (thn (dcT_core (Qq := fun _ u => SP X ps0 D .next u) hu cm nN I0 walk bk a1 a2 a3 a4 a5 h1 fun Ln Cn u mm G' J' q hn f => ?_) fun _ u hq => wpAny_pure (wpAny_pure hq))
  show wpAny _ _ (assign (.Name y pp) X.env (.ref Ln)) _ _ _
  refine wpAny_assign_Name (store_ok2 (v := V.ref Ln) J' nN iy (.inl yl) rfl (fun u2 J2 ⟨a, sb, ha⟩ => ?_) (.inr yl))
  obtain ⟨c0, c1, c2, c3, c4, c5⟩ := f
  have apart : Cn ≠ a := by
    rcases ha with zz | zz
    · rw [zz]
      exact c1
    · exact fun e => c4 y a zz e.symm
  exact ⟨mm, hn.sameBut sb apart, fun g3 same3 => ⟨_, G', J2.turned (t' := u2.toks) (fun b o hb e => (same3.2 b hb).trans e) c0 c1 c3 c4 c5, q⟩⟩
/-- over range(n): Pv by the turn and the heap -/
theorem dcT_range {lo : Int} {n : Nat} {g : TG} {tt : TT} {tk tv : TE} {vs : List Nat} {σ : L2.St} {H1 : Hp} {D : Addr} {Qd : Hp → Prop} (Pv : Nat → Hp → Prop) (h0 : Pv 0 (upd H1 D (.dT [])))
    (hs : ∀ i H, i < n → Pv i H → g (.int (lo + i)) (wipe σ vs) H fun σ2 Hb => wipe σ2 vs = wipe σ vs ∧ tt σ2 Hb fun b Hc =>
      if b = true then tk σ2 Hc fun y Hk => tv σ2 Hk fun zz Hv => ∃ ent key b, y = .ref b ∧ Hv b = some (.tup (key.map kV)) ∧ Hv D = some (.dT ent) ∧ ent.length < sizeLine ∧ Pv (i + 1) (upd Hv D (.dT (putK ent key zz))) else Pv (i + 1) Hc) (fin : ∀ H, Pv n H → Qd H) :
    ∃ W : Nat → Nat → Hp → Prop, (∃ mm, W 0 mm (upd H1 D (.dT []))) ∧ ∀ i mm H, W i mm H →
      ((Itr lo n).stop i H ∧ Qd H) ∨ ((Itr lo n).go i H ∧ ∃ Nxt : Hp → Prop, (∀ H', Nxt H' → ∃ m', m' < mm ∧ W (i + 1) m' H') ∧ ∀ x H', (Itr lo n).yld i H x H' → g x (wipe σ vs) H' fun σ2 Hb => wipe σ2 vs = wipe σ vs ∧ tt σ2 Hb fun b Hc =>
        if b = true then tk σ2 Hc fun y Hk => tv σ2 Hk fun zz Hv => ∃ ent key b, y = .ref b ∧ Hv b = some (.tup (key.map kV)) ∧ Hv D = some (.dT ent) ∧ ent.length < sizeLine ∧ Nxt (upd Hv D (.dT (putK ent key zz))) else Nxt Hc) := by
  refine ⟨fun i mm H => mm = n - i ∧ i ≤ n ∧ Pv i H, ⟨n, by simp, Nat.zero_le _, h0⟩, ?_⟩
  rintro i mm H ⟨rfl, le1, p⟩
  by_cases lt2 : i < n
  · refine .inr ⟨lt2, Pv (i + 1), fun H' pp2 => ⟨n - (i + 1), by omega, rfl, lt2, pp2⟩, fun x H' y => ?_⟩
    obtain ⟨e, ex⟩ := y
    subst e ex
    exact hs i _ lt2 p
  · have e : i = n := by omega
    subst e
    exact .inl ⟨Nat.le_refl _, fin H p⟩
end
end OTR

set_option Elab.async false
set_option linter.all false
set_option maxRecDepth 100000
set_option maxHeartbeats 2000000
namespace OT
open PySem L2 OTR
/-! ### the trails: a dict of pairs of crossings -/
abbrev key2 (x y : Int) : List Key := [Sum.inl x, Sum.inl y]
theorem key2_inj {x y a b : Int} : key2 x y = key2 a b ↔ x = a ∧ y = b := by simp [key2]
def hasK (kvs : List (List Key × V)) (x y : Int) : Bool := (valV kvs (key2 x y)).isSome
theorem hasK_some {kvs : List (List Key × V)} {x y : Int} (h : hasK kvs x y = true) : ∃ v, valV kvs (key2 x y) = some v := Option.isSome_iff_exists.mp h
theorem hasK_of {kvs : List (List Key × V)} {x y : Int} {v : V} (h : valV kvs (key2 x y) = some v) : hasK kvs x y = true := by
  unfold hasK
  rw [h]
  rfl
theorem hasK_put {kvs : List (List Key × V)} {x y a b : Int} {v : V} : hasK (putK kvs (key2 x y) v) a b = true ↔ (a = x ∧ b = y) ∨ hasK kvs a b = true := by
  unfold hasK
  rw [valV_put]
  by_cases h : key2 a b = key2 x y
  · rw [if_pos h]
    exact ⟨fun _ => .inl (key2_inj.mp h), fun _ => rfl⟩
  · rw [if_neg h]
    exact ⟨.inr, fun z => z.resolve_left fun q => h (key2_inj.mpr q)⟩
/-- v is the trail from x to y -/
def TrailAt (K : PySem.W.Frag) (H : Hp) (F : List Fact) (x y : Int) (v : V) : Prop := ∃ (p : Addr) (l : List Nat), v = .ref p ∧ SqT K H p (l.map fun k => V.int (k : Nat)) ∧ Way F x l y ∧ l.Nodup
theorem sqT_but {K : PySem.W.Frag} {H H' : Hp} {d p : Addr} {xs : List V} {kvs : List (List Key × V)} (h : SqT K H p xs) (hd : H d = some (.dT kvs)) (e : But d H H') : SqT K H' p xs := by
  rcases h with (h | ⟨o, h⟩) | h
  · exact .inl (.inl (e _ _ h (ne_of h hd (fun z => nomatch z))))
  · exact .inl (.inr ⟨o, e _ _ h (ne_of h hd (fun z => nomatch z))⟩)
  · exact .inr h
theorem sqT_same {K : PySem.W.Frag} {H H' : Hp} {p : Addr} {xs : List V} (h : SqT K H p xs) (e : Same H H') : SqT K H' p xs := by
  rcases h with (h | ⟨o, h⟩) | h
  · exact .inl (.inl (e _ _ h))
  · exact .inl (.inr ⟨o, e _ _ h⟩)
  · exact .inr h
theorem TrailAt.but {K : PySem.W.Frag} {H H' : Hp} {d : Addr} {kvs : List (List Key × V)} {F : List Fact} {x y : Int} {v : V} (h : TrailAt K H F x y v) (hd : H d = some (.dT kvs)) (e : But d H H') : TrailAt K H' F x y v :=
  let ⟨p, l, a, b, c⟩ := h; ⟨p, l, a, sqT_but b hd e, c⟩
theorem TrailAt.same {K : PySem.W.Frag} {H H' : Hp} {F : List Fact} {x y : Int} {v : V} (h : TrailAt K H F x y v) (e : Same H H') : TrailAt K H' F x y v :=
  let ⟨p, l, a, b, c⟩ := h; ⟨p, l, a, sqT_same b e, c⟩
/-- at d stand the trails of all pairs that F joins -/
structure TrOk (K : PySem.W.Frag) (H : Hp) (d : Addr) (kvs : List (List Key × V)) (n : Int) (F : List Fact) : Prop where
  dc : H d = some (.dT kvs)
  has : ∀ x y, hasK kvs x y = true ↔ In n x ∧ In n y ∧ Con F x y
  val : ∀ x y v, valV kvs (key2 x y) = some v → TrailAt K H F x y v
  len : kvs.length ≤ 24 + 1200 * F.length
theorem TrOk.same {K : PySem.W.Frag} {H H' : Hp} {d : Addr} {kvs : List (List Key × V)} {n : Int} {F : List Fact} (h : TrOk K H d kvs n F) (e : Same H H') : TrOk K H' d kvs n F := ⟨e _ _ h.dc, h.has, fun x y v z => (h.val x y v z).same e, h.len⟩
/-- while the trails over a new road are added -/
structure Grow (K : PySem.W.Frag) (H : Hp) (d : Addr) (old kvs : List (List Key × V)) (n : Int) (F : List Fact) (r : Fact) : Prop where
  dc : H d = some (.dT kvs)
  sound : ∀ x y, hasK kvs x y = true → In n x ∧ In n y ∧ Con (F ++ [r]) x y
  keep : ∀ x y v, valV old (key2 x y) = some v → valV kvs (key2 x y) = some v
  val : ∀ x y v, valV kvs (key2 x y) = some v → TrailAt K H (F ++ [r]) x y v
theorem TrOk.grow {K : PySem.W.Frag} {H : Hp} {d : Addr} {kvs : List (List Key × V)} {n : Int} {F : List Fact} {r : Fact} (h : TrOk K H d kvs n F) : Grow K H d kvs kvs n F r :=
  ⟨h.dc, fun x y z => let ⟨a, b, c⟩ := (h.has x y).mp z; ⟨a, b, con_snoc.mpr (.inl c)⟩, fun _ _ _ z => z, fun x y v z => let ⟨p, l, a, b, c, e⟩ := h.val x y v z; ⟨p, l, a, b, c.mono, e⟩⟩
theorem Grow.same {K : PySem.W.Frag} {H H' : Hp} {d : Addr} {old kvs : List (List Key × V)} {n : Int} {F : List Fact} {r : Fact} (h : Grow K H d old kvs n F r) (e : Same H H') : Grow K H' d old kvs n F r := ⟨e _ _ h.dc, h.sound, h.keep, fun x y v z => (h.val x y v z).same e⟩
theorem Grow.put {K : PySem.W.Frag} {H : Hp} {d p : Addr} {old kvs : List (List Key × V)} {n x y : Int} {F : List Fact} {r : Fact} {l : List Nat} (h : Grow K H d old kvs n F r) (no : hasK old x y = false) (hx : In n x) (hy : In n y)
    (hp : SqT K H p (l.map fun k => V.int (k : Nat))) (w : Way (F ++ [r]) x l y) (nd : l.Nodup) : Grow K (upd H d (.dT (putK kvs (key2 x y) (.ref p)))) d old (putK kvs (key2 x y) (.ref p)) n F r := by
  refine ⟨upd_same, fun a b z => ?_, fun a b v z => ?_, fun a b v z => ?_⟩
  · rcases hasK_put.mp z with ⟨rfl, rfl⟩ | z
    · exact ⟨hx, hy, w.con⟩
    · exact h.sound a b z
  · rw [valV_put, if_neg]
    · exact h.keep a b v z
    · intro q
      obtain ⟨rfl, rfl⟩ := key2_inj.mp q
      rw [hasK_of z] at no
      cases no
  · rw [valV_put] at z
    by_cases q : key2 a b = key2 x y
    · rw [if_pos q] at z
      obtain ⟨rfl, rfl⟩ := key2_inj.mp q
      cases z
      exact ⟨p, l, rfl, sqT_but hp h.dc But.upd, w, nd⟩
    · rw [if_neg q] at z
      exact (h.val a b v z).but h.dc But.upd
/-- the crossings that F joins with a -/
def Side (hs : List Int) (n : Int) (F : List Fact) (a : Int) : Prop := ∀ x, x ∈ hs ↔ In n x ∧ Con F x a
theorem grow_end {K : PySem.W.Frag} {H : Hp} {d : Addr} {old kvs : List (List Key × V)} {n : Int} {F : List Fact} {r : Fact} {hs ts : List Int} (g : Grow K H d old kvs n F r) (hold : ∀ x y, hasK old x y = true ↔ In n x ∧ In n y ∧ Con F x y)
    (hh : Side hs n F r.1) (ht : Side ts n F r.2.1) (all : ∀ x ∈ hs, ∀ y ∈ ts, hasK kvs x y = true ∧ hasK kvs y x = true) (len : kvs.length ≤ 24 + 1200 * (F.length + 1)) : TrOk K H d kvs n (F ++ [r]) := by
  refine ⟨g.dc, fun x y => ?_, g.val, by rw [List.length_append]; exact len⟩
  refine Iff.intro (g.sound x y) ?_
  rintro ⟨hx, hy, c⟩
  rcases con_snoc.mp c with c | ⟨c1, c2⟩ | ⟨c1, c2⟩
  · obtain ⟨v, hv⟩ := hasK_some ((hold x y).mpr ⟨hx, hy, c⟩)
    exact hasK_of (g.keep x y v hv)
  · exact (all x ((hh x).mpr ⟨hx, c1⟩) y ((ht y).mpr ⟨hy, c2.symm⟩)).1
  · exact (all y ((hh y).mpr ⟨hy, c2.symm⟩) x ((ht x).mpr ⟨hx, c1⟩)).2
def spJoin (K : PySem.W.Frag) (CR : Addr) : Sp := fun vs H Q _ => ∃ (d rp : Addr) (n : Int) (F : List Fact) (r : Fact) (kvs : List (List Key × V)), vs = [.ref d, .int n, .int (F.length : Nat), .ref rp] ∧ RoadAt CR H rp r ∧ TrOk K H d kvs n F ∧
  0 ≤ n ∧ n ≤ 24 ∧ F.length ≤ 24 ∧ In n r.1 ∧ In n r.2.1 ∧ ¬ Con F r.1 r.2.1 ∧ ∀ H' kvs', TrOk K H' d kvs' n (F ++ [r]) → But d H H' → Q .non H'
/-- t + u -/
theorem catA_of {K : PySem.W.Frag} {H : Hp} {a b : Addr} {xs ys : List V} {Q : VK} (ha : SqT K H a xs) (hb : SqT K H b ys) (hl : xs.length + ys.length ≤ sizeLine) (k : ∀ p H', Same H H' → SqT K H' p (xs ++ ys) → Q (.ref p) H') : rCatA K (.ref a) (.ref b) H Q := by
  refine ⟨a, b, xs, ys, rfl, rfl, ha, hb, hl, fun e => ?_, fun _ e => ?_, fun _ _ p hp => k p _ (Same.new hp) (SqT.of upd_same)⟩
  · subst e
    exact k b H (Same.refl H) hb
  · subst e
    exact k a H (Same.refl H) (by rw [List.append_nil]; exact ha)
section
variable {P : Program} {w : World} {K : PySem.W.Frag} {mg : Str → Option Value} {base : Heap}
abbrev nJoin : List Str := ["trails", "crossings", "number", "road", "heads", "tails", "head", "tail", "trail", "crossing"]
theorem scJoin : FnScope nJoin ["trails", "crossings", "number", "road"] (defScope sJoin) := ⟨rfl, rfl, rfl, by decide +kernel, rfl, by decide +kernel, by decide +kernel⟩
/-- what the comprehension over range(n) has kept behind i turns -/
def Kept (l : List Int) (i : Nat) (p : Int → Bool) : Prop := (∀ x, x ∈ l ↔ (0 ≤ x ∧ x < (i : Int)) ∧ p x = true) ∧ l.length ≤ i
theorem Kept.zero {p : Int → Bool} : Kept [] 0 p := ⟨fun x => ⟨fun h => (by cases h), fun h => (by omega)⟩, Nat.le_refl _⟩
theorem Kept.yes {l : List Int} {i : Nat} {p : Int → Bool} (h : Kept l i p) (e : p (i : Int) = true) : Kept (l ++ [(i : Int)]) (i + 1) p := by
  refine ⟨fun x => ?_, by rw [List.length_append]; exact Nat.succ_le_succ h.2⟩
  rw [List.mem_append, List.mem_singleton, h.1]
  constructor
  · rintro (⟨a, b⟩ | rfl)
    · exact ⟨by omega, b⟩
    · exact ⟨by omega, e⟩
  · rintro ⟨a, b⟩
    by_cases q : x = (i : Int)
    · exact .inr q
    · exact .inl ⟨by omega, b⟩
theorem Kept.no {l : List Int} {i : Nat} {p : Int → Bool} (h : Kept l i p) (e : p (i : Int) = false) : Kept l (i + 1) p := by
  refine ⟨fun x => ?_, Nat.le_succ_of_le h.2⟩
  rw [h.1]
  constructor
  · rintro ⟨a, b⟩
    exact ⟨by omega, b⟩
  · rintro ⟨a, b⟩
    refine ⟨?_, b⟩
    by_cases q : x = (i : Int)
    · rw [q, e] at b
      cases b
    · omega
theorem ok_join {f CR : Addr} {fd : FuncData} (F : Fun K "join_trails" "join_trails" sJoin f fd) (TR : RdT K mg CR) (hRg : mg "range" = none) : FnOk P w K mg base CX0 1 f fd ["trails", "crossings", "number", "road"] (spJoin K CR) := by
  refine F.ok scJoin (fun vs H Q E h => ?_) (fun cdv A outer s H vs Q E hr h => ?_)
  · obtain ⟨d, rp, n, F, r, kvs, rfl, _⟩ := h
    rfl
  · obtain ⟨d, rp, n, F, r, kvs, rfl, hR, hT, hn0, hn24, hF24, ia, ib, nc, k⟩ := h
    have hu := hu_of hr
    obtain ⟨dx, hrp⟩ := id hR
    refine ⟨_, pss_cons (ps_setLc (i := 4) (own := [("crossing", 9)]) (g := gName 9) (tt := tB (tDIn (tTup (tCons (tVar 9) (tCons (tFld K (tVar 3) "a") tNil))) (tVar 0))) rfl scJoin.nd rfl rfl (sw_true rfl rfl rfl (by decide +kernel)) (pi_range1 rfl hRg (pa_cons (pv 1) pa_nil))
          (blkOk_by (own := [("crossing", 9)]) (N := nJoin) (sc := defScope sJoin) (by decide +kernel)) (fun _ _ _ _ _ => pg_name (i := 9) scJoin.nd rfl (Or.inl rfl))
          (fun _ _ _ _ _ => pts_one (pt_cmp (pc_din hu (pe_tup (pa_cons (pv 9) (pa_cons (pe_fld (pv 3) rfl) pa_nil))) (pv 0)))) (fun _ _ _ _ _ => pv 9))
      (pss_cons (ps_setLc (i := 5) (own := [("crossing", 9)]) (g := gName 9) (tt := tB (tDIn (tTup (tCons (tFld K (tVar 3) "b") (tCons (tVar 9) tNil))) (tVar 0))) rfl scJoin.nd rfl rfl (sw_true rfl rfl rfl (by decide +kernel)) (pi_range1 rfl hRg (pa_cons (pv 1) pa_nil))
          (blkOk_by (own := [("crossing", 9)]) (N := nJoin) (sc := defScope sJoin) (by decide +kernel)) (fun _ _ _ _ _ => pg_name (i := 9) scJoin.nd rfl (Or.inl rfl))
          (fun _ _ _ _ _ => pts_one (pt_cmp (pc_din hu (pe_tup (pa_cons (pe_fld (pv 3) rfl) (pa_cons (pv 9) pa_nil))) (pv 0)))) (fun _ _ _ _ _ => pv 9))
      (pss_one (ps_for PassesOwn.never rfl (pi_list (pv 4)) (pg_name (i := 6) scJoin.nd rfl (Or.inl rfl))
        (pss_one (ps_for PassesOwn.never rfl (pi_list (pv 5)) (pg_name (i := 7) scJoin.nd rfl (Or.inl rfl))
          (pss_cons (ps_set (i := 8) scJoin.nd rfl (Or.inl rfl) (pe_op op_catA (pe_op op_catA (pe_dget hu (pv 0) (pe_tup (pa_cons (pv 6) (pa_cons (pe_fld (pv 3) rfl) pa_nil))) (fun _ _ => rfl)) (pe_tup (pa_cons (pv 2) pa_nil)))
              (pe_dget hu (pv 0) (pe_tup (pa_cons (pe_fld (pv 3) rfl) (pa_cons (pv 7) pa_nil))) (fun _ _ => rfl))))
          (pss_cons (ps_dput hu (pv 0) (pe_tup (pa_cons (pv 6) (pa_cons (pv 7) pa_nil))) (pv 8) rfl)
          (pss_one (ps_dput hu (pv 0) (pe_tup (pa_cons (pv 7) (pa_cons (pv 6) pa_nil))) (pe_revT (pv 8)) rfl))))))))), ?_⟩
    have hne : ∀ {b : Addr} {o : HO}, H b = some o → ∀ {Hc : Hp} {t : Addr}, Same H Hc → Hc t = none → b ≠ t := fun e _ _ sc n => ne_of_none (sc _ _ e) n
    -- heads
    refine ⟨_, rfl, n, rfl, by omega, by omega, fun D1 hD1 => lc_range (lo := 0) (n := n.toNat) (fun i Hc => ∃ l : List Int, Hc D1 = some (.lst (l.map V.int)) ∧ Same H Hc ∧ Kept l i fun x => hasK kvs x r.1)
      ⟨[], upd_same, Same.new hD1, Kept.zero⟩ ?_ ?_⟩
    · rintro i Hc hi ⟨l, hl, sc, kp⟩
      have e0 : (0 : Int) + (i : Int) = (i : Int) := Int.zero_add _
      rw [e0]
      refine ⟨rfl, _, rfl, _, rfl, rp, CR, dx, _, _, rfl, sc _ _ hrp, TR.cl, TR.nA, rdF_a r, (by show 2 ≤ sizeLine; decide), fun t ht => ?_⟩
      have nD : D1 ≠ t := ne_of_none hl ht
      have nd : d ≠ t := ne_of_none (sc _ _ hT.dc) ht
      have sc' : Same H (upd Hc t (.tup [.int (i : Int), .int r.1])) := sc.trans (Same.new ht)
      refine ⟨_, rfl, d, _, rfl, DGet.t (k := key2 (i : Int) r.1) (sc' _ _ hT.dc) upd_same, _, rfl, ?_⟩
      cases e : hasK kvs (i : Int) r.1 with
      | true =>
        have e' : (valV kvs (key2 (i : Int) r.1)).isSome = true := e
        rw [e']
        refine iteT ⟨_, rfl, l.map V.int, by rw [upd_ne nD]; exact hl, small1000 (by rw [List.length_map]; have := kp.2; omega), l ++ [(i : Int)], by rw [List.map_append]; exact upd_same, fun b o z => ?_, kp.yes e⟩
        rw [upd_ne (ne_of_none z hD1)]
        exact sc' b o z
      | false =>
        have e' : (valV kvs (key2 (i : Int) r.1)).isSome = false := e
        rw [e']
        exact iteF ⟨l, by rw [upd_ne nD]; exact hl, sc', kp.no e⟩
    rintro H4 ⟨hs, hh1, s4, kp1⟩
    have side1 : Side hs n F r.1 := fun x => by
      rw [kp1.1]
      show _ ∧ hasK kvs x r.1 = true ↔ _
      rw [hT.has]
      unfold In
      exact ⟨fun ⟨_, c, _, g⟩ => ⟨c, g⟩, fun ⟨⟨a, b⟩, g⟩ => ⟨⟨a, by omega⟩, ⟨a, b⟩, ia, g⟩⟩
    -- tails
    refine ⟨_, rfl, n, rfl, by omega, by omega, fun D2 hD2 => lc_range (lo := 0) (n := n.toNat) (fun i Hc => ∃ l : List Int, Hc D2 = some (.lst (l.map V.int)) ∧ Same H4 Hc ∧ Kept l i fun x => hasK kvs r.2.1 x)
      ⟨[], upd_same, Same.new hD2, Kept.zero⟩ ?_ ?_⟩
    · rintro i Hc hi ⟨l, hl, sc, kp⟩
      have e0 : (0 : Int) + (i : Int) = (i : Int) := Int.zero_add _
      rw [e0]
      have sH : Same H Hc := s4.trans sc
      refine ⟨rfl, _, rfl, rp, CR, dx, _, _, rfl, sH _ _ hrp, TR.cl, TR.nB, rdF_b r, _, rfl, (by show 2 ≤ sizeLine; decide), fun t ht => ?_⟩
      have nD : D2 ≠ t := ne_of_none hl ht
      have sc' : Same H4 (upd Hc t (.tup [.int r.2.1, .int (i : Int)])) := sc.trans (Same.new ht)
      refine ⟨_, rfl, d, _, rfl, DGet.t (k := key2 r.2.1 (i : Int)) ((s4.trans sc') _ _ hT.dc) upd_same, _, rfl, ?_⟩
      cases e : hasK kvs r.2.1 (i : Int) with
      | true =>
        have e' : (valV kvs (key2 r.2.1 (i : Int))).isSome = true := e
        rw [e']
        refine iteT ⟨_, rfl, l.map V.int, by rw [upd_ne nD]; exact hl, small1000 (by rw [List.length_map]; have := kp.2; omega), l ++ [(i : Int)], by rw [List.map_append]; exact upd_same, fun b o z => ?_, kp.yes e⟩
        rw [upd_ne (ne_of_none z hD2)]
        exact sc' b o z
      | false =>
        have e' : (valV kvs (key2 r.2.1 (i : Int))).isSome = false := e
        rw [e']
        exact iteF ⟨l, by rw [upd_ne nD]; exact hl, sc', kp.no e⟩
    rintro H5 ⟨ts, hh2, s5, kp2⟩
    have side2 : Side ts n F r.2.1 := fun x => by
      rw [kp2.1]
      show _ ∧ hasK kvs r.2.1 x = true ↔ _
      rw [hT.has]
      unfold In
      exact ⟨fun ⟨⟨a, b⟩, _, ⟨c, e⟩, g⟩ => ⟨⟨c, e⟩, g.symm⟩, fun ⟨⟨a, b⟩, g⟩ => ⟨⟨a, by omega⟩, ib, ⟨a, b⟩, g.symm⟩⟩
    have sH5 : Same H H5 := s4.trans s5
    have d1 : D1 ≠ d := (ne_of_none hT.dc hD1).symm
    have d2 : D2 ≠ d := (ne_of_none (s4 _ _ hT.dc) hD2).symm
    have rpd : rp ≠ d := ne_of hrp hT.dc (fun z => nomatch z)
    have lh : hs.length ≤ 24 := by have := kp1.2; omega
    have lt : ts.length ≤ 24 := by have := kp2.2; omega
    have hh1' : H5 D1 = some (.lst (hs.map V.int)) := s5 _ _ hh1
    -- for head in heads
    refine ⟨_, rfl, D1, rfl, ⟨_, SqL.of hh1'⟩, for_list (K := K) (a := D1) (xs := hs.map V.int) (fun i σ H2 => ∃ (v6 v7 v8 : Option V) (kvs' : List (List Key × V)), σ = [some (.ref d), some (.int n), some (.int (F.length : Nat)), some (.ref rp), some (.ref D1), some (.ref D2), v6, v7, v8, none] ∧
        But d H5 H2 ∧ Grow K H2 d kvs kvs' n F r ∧ (∀ (i' : Nat) (x : Int), i' < i → hs[i']? = some x → ∀ y ∈ ts, hasK kvs' x y = true ∧ hasK kvs' y x = true) ∧ kvs'.length ≤ kvs.length + 2 * (i * ts.length))
      ⟨none, none, none, kvs, rfl, But.refl, (hT.same sH5).grow, fun i' x z => absurd z (Nat.not_lt_zero _), by omega⟩ (fun i σ H2 _ ⟨_, _, _, _, _, b2, _⟩ => SqL.of (b2 _ _ hh1' d1)) ?_ ?_⟩
    · rintro i xv σ H2 hi ⟨v6, v7, v8, kvs1, rfl, b2, g2, done2, len2⟩
      have hil : i < hs.length := by
        have := (List.getElem?_eq_some_iff.mp hi).1
        rwa [List.length_map] at this
      obtain ⟨x, hx, rfl⟩ : ∃ x, hs[i]? = some x ∧ xv = V.int x := by
        rw [List.getElem?_map] at hi
        cases e : hs[i]? with
        | none => rw [e] at hi; cases hi
        | some z => rw [e] at hi; exact ⟨z, rfl, (Option.some.inj hi).symm⟩
      obtain ⟨ix, cx⟩ := (side1 x).mp (List.mem_of_getElem? hx)
      -- for tail in tails
      refine ⟨_, rfl, D2, rfl, ⟨_, SqL.of (b2 _ _ hh2 d2)⟩, for_list (K := K) (a := D2) (xs := ts.map V.int) (fun j σ H3 => ∃ (v7 v8 : Option V) (kvs' : List (List Key × V)), σ = [some (.ref d), some (.int n), some (.int (F.length : Nat)), some (.ref rp), some (.ref D1), some (.ref D2), some (.int x), v7, v8, none] ∧
          But d H5 H3 ∧ Grow K H3 d kvs kvs' n F r ∧ (∀ (i' : Nat) (x : Int), i' < i → hs[i']? = some x → ∀ y ∈ ts, hasK kvs' x y = true ∧ hasK kvs' y x = true) ∧ (∀ (j' : Nat) (y : Int), j' < j → ts[j']? = some y → hasK kvs' x y = true ∧ hasK kvs' y x = true) ∧ kvs'.length ≤ kvs.length + 2 * (i * ts.length + j))
        ⟨v7, v8, kvs1, rfl, b2, g2, done2, fun j' y z => absurd z (Nat.not_lt_zero _), by omega⟩ (fun j σ H3 _ ⟨_, _, _, _, b3, _⟩ => SqL.of (b3 _ _ hh2 d2)) ?_ ?_⟩
      · rintro j yv σ H3 hj ⟨v7, v8, kvs2, rfl, b3, g3, done3, row3, len3⟩
        have hjl : j < ts.length := by
          have := (List.getElem?_eq_some_iff.mp hj).1
          rwa [List.length_map] at this
        obtain ⟨y, hy, rfl⟩ : ∃ y, ts[j]? = some y ∧ yv = V.int y := by
          rw [List.getElem?_map] at hj
          cases e : ts[j]? with
          | none => rw [e] at hj; cases hj
          | some z => rw [e] at hj; exact ⟨z, rfl, (Option.some.inj hj).symm⟩
        obtain ⟨iy, cy⟩ := (side2 y).mp (List.mem_of_getElem? hy)
        have bH : But d H H3 := fun b o z nb => b3 b o (sH5 b o z) nb
        obtain ⟨v0, hv0⟩ := hasK_some ((hT.has x r.1).mpr ⟨ix, ia, cx⟩)
        obtain ⟨v1, hv1⟩ := hasK_some ((hT.has r.2.1 y).mpr ⟨ib, iy, cy.symm⟩)
        obtain ⟨p0, l0, rfl, q0, w0, n0⟩ := (hT.val _ _ _ hv0).but hT.dc bH
        obtain ⟨p1, l1, rfl, q1, w1, n1⟩ := (hT.val _ _ _ hv1).but hT.dc bH
        have kv0 := g3.keep _ _ _ hv0
        have kv1 := g3.keep _ _ _ hv1
        have no1 : hasK kvs x y = false := by
          cases e : hasK kvs x y with
          | false => rfl
          | true => exact absurd ((cx.symm.trans ((hT.has x y).mp e).2.2).trans cy) nc
        have no2 : hasK kvs y x = false := by
          cases e : hasK kvs y x with
          | false => rfl
          | true => exact absurd ((cx.symm.trans ((hT.has y x).mp e).2.2.symm).trans cy) nc
        have hrp3 : H3 rp = some (.ins CR dx (rdF r)) := bH _ _ hrp rpd
        have sl0 := w0.short n0
        have sl1 := w1.short n1
        have tot : i * ts.length ≤ 23 * 24 := Nat.mul_le_mul (by omega) lt
        have big : kvs2.length ≤ 24 + 1200 * 24 + 2 * (23 * 24 + 24) := by have := hT.len; omega
        -- trail = trails[head, road.a] + (number,) + trails[road.b, tail]
        refine ⟨_, rfl, _, rfl, _, rfl, rp, CR, dx, _, _, rfl, hrp3, TR.cl, TR.nA, rdF_a r, (by show 2 ≤ sizeLine; decide), fun t1 ht1 => ?_⟩
        have s1 : Same H3 (upd H3 t1 (.tup [.int x, .int r.1])) := Same.new ht1
        refine ⟨d, _, rfl, (by rw [← kv0]; exact DGet.t (k := key2 x r.1) (s1 _ _ g3.dc) upd_same), _, rfl, (by show 1 ≤ sizeLine; decide), fun t2 ht2 => ?_⟩
        have s2 := s1.trans (Same.new (o := .tup [.int (F.length : Nat)]) ht2)
        refine catA_of (sqT_same q0 s2) (SqT.of upd_same) (by rw [List.length_map]; show l0.length + 1 ≤ sizeLine; rw [PySem.sizeLine_eq]; omega) fun q2 H6 s6 hq2 => ?_
        have s6' : Same H3 H6 := s2.trans s6
        refine ⟨_, rfl, _, rfl, rp, CR, dx, _, _, rfl, s6' _ _ hrp3, TR.cl, TR.nB, rdF_b r, _, rfl, (by show 2 ≤ sizeLine; decide), fun t3 ht3 => ?_⟩
        have s7 : Same H3 (upd H6 t3 (.tup [.int r.2.1, .int y])) := s6'.trans (Same.new ht3)
        refine ⟨d, _, rfl, (by rw [← kv1]; exact DGet.t (k := key2 r.2.1 y) (s7 _ _ g3.dc) upd_same), ?_⟩
        refine catA_of (sqT_same hq2 (Same.new ht3)) (sqT_same q1 s7) (by rw [List.length_append, List.length_map, List.length_map]; show l0.length + 1 + l1.length ≤ sizeLine; rw [PySem.sizeLine_eq]; omega) fun q3 H8 s8 hq3 => ?_
        have s8' : Same H3 H8 := s7.trans s8
        have hq3' : SqT K H8 q3 ((l0 ++ F.length :: l1).map fun k => V.int (k : Nat)) := by
          rw [List.map_append, List.map_cons]
          rw [List.append_assoc] at hq3
          exact hq3
        have ww := way_over w0 w1
        have wn := way_nodup nc w0 w1 n0 n1
        -- trails[head, tail] = trail
        refine ⟨_, rfl, _, rfl, _, rfl, _, rfl, (by show 2 ≤ sizeLine; decide), fun t4 ht4 => ?_⟩
        have s9 : Same H3 (upd H8 t4 (.tup [.int x, .int y])) := s8'.trans (Same.new ht4)
        refine ⟨d, _, rfl, DPut.t (k := key2 x y) (s9 _ _ g3.dc) upd_same (by rw [PySem.sizeLine_eq]; omega), ?_⟩
        have g9 := (g3.same s9).put no1 ix iy (sqT_same hq3' (Same.new ht4)) ww wn
        have nq3 := sqT_but (sqT_same hq3' (Same.new (o := .tup [.int x, .int y]) ht4)) (s9 _ _ g3.dc) (But.upd (o := .dT (putK kvs2 (key2 x y) (.ref q3))))
        -- trails[tail, head] = trail[::-1]
        refine ⟨_, rfl, q3, _, rfl, nq3, fun q4 hq4 => ?_⟩
        refine ⟨_, rfl, _, rfl, _, rfl, (by show 2 ≤ sizeLine; decide), fun t5 ht5 => ?_⟩
        have s10 := (Same.new (o := .tup (((l0 ++ F.length :: l1).map fun k => V.int (k : Nat)).reverse)) hq4).trans (Same.new (o := .tup [.int y, .int x]) ht5)
        have g10 := g9.same s10
        refine ⟨d, _, rfl, DPut.t (k := key2 y x) g10.dc upd_same (by have := length_putK kvs2 (key2 x y) (V.ref q3); rw [PySem.sizeLine_eq]; omega), ?_⟩
        have hq4' := (Same.new (o := .tup [.int y, .int x]) ht5) q4 _ upd_same
        have g11 := g10.put (p := q4) (l := (l0 ++ F.length :: l1).reverse) no2 iy ix (by rw [List.map_reverse]; exact SqT.of hq4') ww.rev (List.pairwise_reverse.mpr (wn.imp Ne.symm))
        refine ⟨_, _, _, rfl, fun b o z nb => ?_, g11, fun i' x' a b y' c => ?_, fun j' y' a b => ?_, ?_⟩
        · rw [upd_ne nb]
          refine s10 b o ?_
          rw [upd_ne nb]
          exact s9 b o (b3 b o z nb)
        · obtain ⟨h1, h2⟩ := done3 i' x' a b y' c
          exact ⟨hasK_put.mpr (.inr (hasK_put.mpr (.inr h1))), hasK_put.mpr (.inr (hasK_put.mpr (.inr h2)))⟩
        · by_cases e : j' = j
          · subst e
            rw [hy] at b
            cases b
            exact ⟨hasK_put.mpr (.inr (hasK_put.mpr (.inl ⟨rfl, rfl⟩))), hasK_put.mpr (.inl ⟨rfl, rfl⟩)⟩
          · obtain ⟨h1, h2⟩ := row3 j' y' (by omega) b
            exact ⟨hasK_put.mpr (.inr (hasK_put.mpr (.inr h1))), hasK_put.mpr (.inr (hasK_put.mpr (.inr h2)))⟩
        · have z1 := length_putK kvs2 (key2 x y) (V.ref q3)
          have z2 := length_putK (putK kvs2 (key2 x y) (V.ref q3)) (key2 y x) (V.ref q4)
          omega
      · rintro σ H3 ⟨v7, v8, kvs2, rfl, b3, g3, done3, row3, len3⟩
        rw [List.length_map] at row3 len3
        refine ⟨_, _, _, kvs2, rfl, b3, g3, fun i' x' a b y c => ?_, by rw [Nat.add_mul, Nat.one_mul]; omega⟩
        by_cases e : i' = i
        · subst e
          rw [hx] at b
          cases b
          obtain ⟨j', hj', e'⟩ := List.getElem_of_mem c
          exact row3 j' y hj' (by rw [List.getElem?_eq_getElem hj', e'])
        · exact done3 i' x' (by omega) b y c
    · rintro σ H2 ⟨v6, v7, v8, kvs1, rfl, b2, g2, done2, len2⟩
      rw [List.length_map] at done2 len2
      have tot : hs.length * ts.length ≤ 24 * 24 := Nat.mul_le_mul lh lt
      refine k H2 kvs1 (grow_end g2 hT.has side1 side2 (fun x hx y hy => ?_) (by have := hT.len; omega)) (fun b o z nb => b2 b o (sH5 b o z) nb)
      obtain ⟨i', hi', e'⟩ := List.getElem_of_mem hx
      exact done2 i' x hi' (by rw [List.getElem?_eq_getElem hi', e']) y hy
end
end OT

set_option Elab.async false
set_option linter.all false
set_option maxRecDepth 100000
set_option maxHeartbeats 2000000
namespace OT
open PySem L2 OTR
/-- the error that a tree's maker raises -/
def ErrR (CB CN CG : Addr) (H : Hp) (E : XK) : Err → Prop
  | .crossings n => Raised CB [("count", .int n), ("what", .str "crossings")] H E
  | .roads k => Raised CB [("count", .int k), ("what", .str "roads")] H E
  | .crossing c => Raised CN [("crossing", .int c)] H E
  | .length s => Raised CB [("count", .int s), ("what", .str "length")] H E
  | .ring k => Raised CG [("road", .int k)] H E
theorem ErrR.mono {CB CN CG : Addr} {H H1 : Hp} {E : XK} {e : Err} (h : ErrR CB CN CG H E e) (s : Same H H1) : ErrR CB CN CG H1 E e := by
  cases e with
  | crossings n => exact Raised.mono h s
  | roads n => exact Raised.mono h s
  | crossing n => exact Raised.mono h s
  | length n => exact Raised.mono h s
  | ring n => exact Raised.mono h s
/-- roads at these places -/
def RoadsAt (CR : Addr) (H : Hp) (ps : List Addr) (F : List Fact) : Prop := Paired (RoadAt CR H) ps F
theorem RoadsAt.same {CR : Addr} {H H' : Hp} {ps : List Addr} {F : List Fact} (h : RoadsAt CR H ps F) (s : Same H H') : RoadsAt CR H' ps F := by
  unfold RoadsAt at h ⊢
  induction h with
  | nil => exact .nil
  | cons a _ ih => exact .cons (a.same s) ih
theorem RoadsAt.get {CR : Addr} {H : Hp} : ∀ {ps : List Addr} {F : List Fact}, RoadsAt CR H ps F → ∀ {i : Nat} {p : Addr}, ps[i]? = some p → ∃ r, F[i]? = some r ∧ RoadAt CR H p r
  | _, _, .nil, i, p, e => by simp at e
  | _, _, .cons a t, 0, p, e => by
    have z := Option.some.inj e
    subst z
    exact ⟨_, rfl, a⟩
  | _, _, .cons a t, i + 1, p, e => RoadsAt.get (ps := _) (F := _) t (i := i) e
theorem RoadsAt.len {CR : Addr} {H : Hp} {ps : List Addr} {F : List Fact} (h : RoadsAt CR H ps F) : ps.length = F.length := Paired.length h
def spTrails (K : PySem.W.Frag) (CR CB CN CG : Addr) : Sp := fun vs H Q E => ∃ (n : Int) (t : Addr) (ps : List Addr) (F : List Fact), vs = [.int n, .ref t] ∧ SqT K H t (ps.map V.ref) ∧ RoadsAt CR H ps F ∧ 0 ≤ n ∧ n ≤ 24 ∧ F.length ≤ 24 ∧
  (∀ e, dueR n [] F = some e → ErrR CB CN CG H E e) ∧ (dueR n [] F = none → ∀ d kvs H', TrOk K H' d kvs n F → Same H H' → H d = none → Q (.ref d) H')
theorem map_get {α β : Type} {f : α → β} {l : List α} {i : Nat} {y : β} (h : (l.map f)[i]? = some y) : ∃ p, l[i]? = some p ∧ y = f p := by
  rw [List.getElem?_map] at h
  cases e : l[i]? with
  | none =>
    rw [e] at h
    cases h
  | some z =>
    rw [e] at h
    exact ⟨z, rfl, (Option.some.inj h).symm⟩
theorem drop_get {α : Type} {l : List α} {i : Nat} {x : α} (h : l[i]? = some x) : l.drop i = x :: l.drop (i + 1) := by
  obtain ⟨hi, e⟩ := List.getElem?_eq_some_iff.mp h
  rw [List.drop_eq_getElem_cons hi, e]
theorem take_get {α : Type} {l : List α} {i : Nat} {x : α} (h : l[i]? = some x) : l.take (i + 1) = l.take i ++ [x] := by
  obtain ⟨hi, e⟩ := List.getElem?_eq_some_iff.mp h
  rw [List.take_succ, h]
  rfl
section
variable {P : Program} {w : World} {K : PySem.W.Frag} {mg : Str → Option Value} {base : Heap}
abbrev nTrails : List Str := ["crossings", "roads", "trails", "number", "road", "crossing"]
theorem scTrails : FnScope nTrails ["crossings", "roads"] (defScope sTrails) := ⟨rfl, rfl, rfl, by decide +kernel, rfl, by decide +kernel, by decide +kernel⟩
theorem ok_trails {f fC fJ CR CB CN CG fG : Addr} {fd fdC fdJ fdG : FuncData} (F : Fun K "trails_along" "trails_along" sTrails f fd) (TR : RdT K mg CR) (TG' : ErT K mg "RingRoad" CG fG)
    (FG : FnOk P w K mg base CX0 1 fG fdG ["self", "road"] (spEr1 CG "road")) (bG : Binds K fdG ["self", "road"] [])
    (FC : FnOk P w K mg base (L2.CX P w) 3 fC fdC ["crossings", "road"] (spCheck CR CB CN)) (bC : Binds K fdC ["crossings", "road"] []) (mC : mg "check_road" = some (.ref fC)) (kC : PySem.W.keepIn K (.ref fC) = true)
    (FJ : FnOk P w K mg base CX0 1 fJ fdJ ["trails", "crossings", "number", "road"] (spJoin K CR)) (bJ : Binds K fdJ ["trails", "crossings", "number", "road"] []) (mJ : mg "join_trails" = some (.ref fJ)) (kJ : PySem.W.keepIn K (.ref fJ) = true)
    (hRg : mg "range" = none) (hEn : mg "enumerate" = none) :
    FnOk P w K mg base (L2.CX P w) 4 f fd ["crossings", "roads"] (spTrails K CR CB CN CG) := by
  refine F.okX scTrails (fun vs H Q E h => ?_) (fun cdv A outer s H vs Q E hr h => ?_)
  · obtain ⟨n, t, ps, F, rfl, _⟩ := h
    rfl
  · obtain ⟨n, t, ps, F, rfl, hS, hR, hn0, hn24, hF, kE, kQ⟩ := h
    have hu := hu_of hr
    have hr2 : Room 2 _ := hr.mono (by decide)
    have hr1 : Room 1 _ := hr.mono (by decide)
    refine ⟨_, pss_cons (ps_setDcT (i := 2) (own := [("crossing", 5)]) (g := gName 5) hu rfl scTrails.nd rfl rfl (swD_true rfl rfl rfl (by decide +kernel)) (pi_range1 rfl hRg (pa_cons (pv 0) pa_nil))
          (blkOk_by (own := [("crossing", 5)]) (N := nTrails) (sc := defScope sTrails) (by decide +kernel)) (fun _ _ _ _ _ => pg_name (i := 5) scTrails.nd rfl (Or.inl rfl)) (fun _ _ _ _ _ => pts_nil)
          (fun _ _ _ _ _ => pe_tup (pa_cons (pv 5) (pa_cons (pv 5) pa_nil))) (fun _ _ _ _ _ => pe_tup pa_nil))
      (pss_cons (ps_for (passes_of rfl) rfl (pi_enumT rfl hEn (pa_cons (pv 1) pa_nil)) (pg_tup rfl (pgs_cons (pg_name (i := 3) scTrails.nd rfl (Or.inl rfl)) (pgs_cons (pg_name (i := 4) scTrails.nd rfl (Or.inl rfl)) pgs_nil)))
        (pss_cons (ps_expr (pe_call FC hr rfl mC kC bC .nil (passes_call (takes_of rfl rfl rfl rfl) fun _ _ _ _ h => h) (pa_cons (pv 0) (pa_cons (pv 4) pa_nil))))
        (pss_cons (ps_if (pt_cmp (pc_din hu (pe_tup (pa_cons (pe_fld (pv 4) rfl) (pa_cons (pe_fld (pv 4) rfl) pa_nil))) (pv 2)))
            (pss_one (ps_raise rfl (takes_of rfl rfl rfl rfl) (pmk_oex TG'.ox TG'.iC TG'.tI FG hr2 bG .nil pass0 (by rfl) TG'.gC (pa_cons (pv 3) pa_nil)))) pss_nil)
        (pss_one (ps_expr (pe_call FJ hr1 rfl mJ kJ bJ .nil pass0 (pa_cons (pv 2) (pa_cons (pv 0) (pa_cons (pv 3) (pa_cons (pv 4) pa_nil))))))))))
      (pss_one (ps_ret (pv 2)))), ?_⟩
    -- trails = {(crossing, crossing): () ..}
    refine ⟨_, rfl, n, rfl, by omega, by omega, fun D hD => dcT_range (lo := 0) (n := n.toNat) (fun i Hc => ∃ kvs : List (List Key × V), Hc D = some (.dT kvs) ∧ Same H Hc ∧ (∀ x y, hasK kvs x y = true ↔ (0 ≤ x ∧ x < (i : Int)) ∧ x = y) ∧
        (∀ x y v, valV kvs (key2 x y) = some v → TrailAt K Hc [] x y v) ∧ kvs.length ≤ i)
      ⟨[], upd_same, Same.new hD, fun x y => ⟨fun z => (by cases z), fun z => (by omega)⟩, fun x y v z => (by cases z), Nat.le_refl _⟩ ?_ ?_⟩
    · rintro i Hc hi ⟨kvs, hk, sc, has, val, len⟩
      have e0 : (0 : Int) + (i : Int) = (i : Int) := Int.zero_add _
      rw [e0]
      refine ⟨rfl, ?_⟩
      unfold tYes
      refine iteT ?_
      refine ⟨_, rfl, _, rfl, (by show 2 ≤ sizeLine; decide), fun t1 h1 => ⟨Nat.zero_le _, fun t2 h2 => ?_⟩⟩
      have s1 : Same Hc (upd Hc t1 (.tup [.int (i : Int), .int (i : Int)])) := Same.new h1
      have s2 : Same Hc (upd (upd Hc t1 (.tup [.int (i : Int), .int (i : Int)])) t2 (.tup [])) := s1.trans (Same.new h2)
      have n2 : t1 ≠ t2 := ne_of_none upd_same h2
      refine ⟨kvs, key2 (i : Int) (i : Int), t1, rfl, by rw [upd_ne n2]; exact upd_same, s2 _ _ hk, small1000 (by omega), putK kvs (key2 (i : Int) (i : Int)) (.ref t2), upd_same, fun b o z => ?_, fun x y => ?_, fun x y v z => ?_, Nat.le_trans (length_putK _ _ _) (Nat.succ_le_succ len)⟩
      · rw [upd_ne (ne_of_none z hD)]
        exact s2 b o (sc b o z)
      · rw [hasK_put, has]
        constructor
        · rintro (⟨rfl, rfl⟩ | ⟨a, rfl⟩)
          · exact ⟨by omega, rfl⟩
          · exact ⟨by omega, rfl⟩
        · rintro ⟨a, rfl⟩
          by_cases q : x = (i : Int)
          · exact .inl ⟨q, q⟩
          · exact .inr ⟨by omega, rfl⟩
      · rw [valV_put] at z
        by_cases q : key2 x y = key2 (i : Int) (i : Int)
        · rw [if_pos q] at z
          obtain ⟨rfl, rfl⟩ := key2_inj.mp q
          cases z
          exact ⟨t2, [], rfl, sqT_but (SqT.of upd_same) (s2 _ _ hk) But.upd, .nil _, List.nodup_nil⟩
        · rw [if_neg q] at z
          exact ((val x y v z).same s2).but (s2 _ _ hk) But.upd
    rintro H1 ⟨kvs0, hk0, s1, has0, val0, len0⟩
    have T0 : TrOk K H1 D kvs0 n [] := by
      refine ⟨hk0, fun x y => ?_, val0, by have : n.toNat ≤ 24 := by omega
                                           exact Nat.le_trans len0 (by omega)⟩
      rw [has0]
      unfold In
      constructor
      · rintro ⟨a, rfl⟩
        exact ⟨by omega, by omega, .refl _⟩
      · rintro ⟨a, b, c⟩
        have e := c.nil
        exact ⟨by omega, e⟩
    have hS1 : SqT K H1 t (ps.map V.ref) := sqT_same hS s1
    -- for number, road in enumerate(roads)
    refine ⟨_, rfl, t, _, rfl, hS1, for_it (walk_enumT (K := K) (a := t) (xs := ps.map V.ref)) (fun i σ H2 => ∃ (v3 v4 : Option V) (kvs : List (List Key × V)), σ = [some (.int n), some (.ref t), some (.ref D), v3, v4, none] ∧ But D H1 H2 ∧ TrOk K H2 D kvs n (F.take i) ∧ dueR n [] F = dueR n (F.take i) (F.drop i))
      ⟨none, none, kvs0, rfl, But.refl, T0, rfl⟩ (fun i σ H2 _ ⟨_, _, _, _, b2, T2, _⟩ => sqT_but hS1 hk0 b2) ?_ ?_⟩
    · rintro i x σ H2 H3 hi ⟨v3, v4, kvs, rfl, b2, T2, e2⟩ ⟨T, x1, y1, rfl, hT, rfl, hx1, hy1⟩
      cases hx1
      rw [List.length_map] at hi
      obtain ⟨p, hp, rfl⟩ := map_get (show (ps.map V.ref)[i]? = some y1 from hy1)
      obtain ⟨r, hr', hrd⟩ := hR.get hp
      have sB : ∀ b o, H b = some o → H2 b = some o := fun b o z => b2 b o (s1 b o z) (ne_of_none z hD)
      have s3 : Same H2 (upd H2 T (.tup [.int (i : Nat), .ref p])) := Same.new hT
      have rd3 := (hrd.same sB).same s3
      have ed := drop_get hr'
      rw [ed] at e2
      have iF : i < F.length := (List.getElem?_eq_some_iff.mp hr').1
      have lenT : (F.take i).length = i := by rw [List.length_take]; omega
      refine ⟨T, _, rfl, SqT.of upd_same, rfl, _, _, rfl, _, _, rfl, rfl, ?_⟩
      refine ⟨_, rfl, _, rfl, n, p, r, rfl, rd3, fun z => ?_, fun z1 z2 => ?_, fun z1 z2 z3 => ?_, fun z1 z2 z3 H4 s4 => ?_⟩
      · rw [dueR_a z] at e2
        exact (kE _ e2).mono fun b o q => s3 b o (sB b o q)
      · rw [dueR_b z1 z2] at e2
        exact (kE _ e2).mono fun b o q => s3 b o (sB b o q)
      · rw [dueR_l z1 z2 z3] at e2
        exact (kE _ e2).mono fun b o q => s3 b o (sB b o q)
      have s5 : Same H2 H4 := s3.trans s4
      have rd4 := rd3.same s4
      obtain ⟨dx, hpx⟩ := id rd4
      have T4 := T2.same s5
      refine ⟨_, rfl, p, CR, dx, _, _, rfl, hpx, TR.cl, TR.nA, rdF_a r, _, rfl, p, CR, dx, _, _, rfl, hpx, TR.cl, TR.nB, rdF_b r, (by show 2 ≤ sizeLine; decide), fun t1 h1 => ?_⟩
      have s6 : Same H4 (upd H4 t1 (.tup [.int r.1, .int r.2.1])) := Same.new h1
      refine ⟨_, rfl, D, _, rfl, DGet.t (k := key2 r.1 r.2.1) (s6 _ _ T4.dc) upd_same, _, rfl, ?_⟩
      have s7 : Same H2 (upd H4 t1 (.tup [.int r.1, .int r.2.1])) := s5.trans s6
      cases e : hasK kvs r.1 r.2.1 with
      | true =>
        have e' : (valV kvs (key2 r.1 r.2.1)).isSome = true := e
        rw [e']
        have c := ((T2.has _ _).mp e).2.2
        rw [dueR_ring z1 z2 z3 c, lenT] at e2
        refine iteT ⟨_, rfl, len1, fun a ha => er1 ha ?_⟩
        exact Raised.mono (kE _ e2) fun b o q => s7 b o (sB b o q)
      | false =>
        have e' : (valV kvs (key2 r.1 r.2.1)).isSome = false := e
        rw [e']
        have nc : ¬ Con (F.take i) r.1 r.2.1 := fun c => by
          rw [(T2.has _ _).mpr ⟨z1, z2, c⟩] at e
          cases e
        rw [dueR_go z1 z2 z3 nc] at e2
        refine iteF ⟨_, rfl, _, rfl, _, rfl, _, rfl, D, p, n, F.take i, r, kvs, by rw [lenT]; rfl, rd4.same s6, T4.same s6, hn0, hn24, by rw [lenT]; omega, z1, z2, nc, fun H8 kvs8 T8 b8 => ?_⟩
        refine ⟨_, _, kvs8, rfl, fun b o q nb => b8 b o (s7 b o (b2 b o q nb)) nb, ?_, ?_⟩
        · rw [take_get hr']
          exact T8
        · rw [take_get hr']
          exact e2
    · rintro σ H2 ⟨v3, v4, kvs, rfl, b2, T2, e2⟩
      have el : (ps.map V.ref).length = F.length := by rw [List.length_map]; exact hR.len
      rw [el, List.take_length] at T2
      rw [el, List.take_length, List.drop_length, dueR_nil] at e2
      exact ⟨_, rfl, kQ e2 D kvs H2 T2 (fun b o z => b2 b o (s1 b o z) (ne_of_none z hD)) hD⟩
end
end OT

set_option Elab.async false
set_option linter.all false
set_option maxRecDepth 100000
set_option maxHeartbeats 2000000
namespace OT
open PySem L2 OTR
/-- what the walk asks of Tree -/
structure TeT (K : PySem.W.Frag) (mg : Str → Option Value) (C : Addr) : Prop where
  cl : Cls K C
  nC : NoAttr K C "crossings"
  nR : NoAttr K C "roads"
  nT : NoAttr K C "trails"
  mgC : mg "Tree" = some (.ref C)
def teF (n : Int) (t d : Addr) : List (Str × V) := [("crossings", .int n), ("roads", .ref t), ("trails", .ref d)]
theorem teF_c (n : Int) (t d : Addr) : (teF n t d).lookup ("crossings" : Str) = some (.int n) := lk0
theorem teF_r (n : Int) (t d : Addr) : (teF n t d).lookup ("roads" : Str) = some (.ref t) := by
  unfold teF
  rw [lk1 (by decide +kernel)]
  exact lk0
theorem teF_t (n : Int) (t d : Addr) : (teF n t d).lookup ("trails" : Str) = some (.ref d) := by
  unfold teF
  rw [lk1 (by decide +kernel), lk1 (by decide +kernel)]
  exact lk0
theorem teF1 (n : Int) (t : Addr) : putF "roads" (.ref t) (putF "crossings" (.int n) []) = ([("crossings", V.int n), ("roads", V.ref t)] : List (Str × V)) := by
  have h1 : ¬ (("crossings" : Str) = "roads") := by decide +kernel
  show (if ("crossings" : Str) = "roads" then [(("crossings" : Str), V.ref t)] else (("crossings" : Str), V.int n) :: putF "roads" (.ref t) []) = _
  rw [if_neg h1]
  rfl
theorem teF2 (n : Int) (t d : Addr) : putF "trails" (.ref d) [("crossings", .int n), ("roads", .ref t)] = teF n t d := by
  have h2 : ¬ (("crossings" : Str) = "trails") := by decide +kernel
  have h3 : ¬ (("roads" : Str) = "trails") := by decide +kernel
  show (if ("crossings" : Str) = "trails" then _ else (("crossings" : Str), V.int n) :: (if ("roads" : Str) = "trails" then _ else (("roads" : Str), V.ref t) :: putF "trails" (.ref d) [])) = _
  rw [if_neg h2, if_neg h3]
  rfl
theorem teF1_r (n : Int) (t : Addr) : ([("crossings", .int n), ("roads", .ref t)] : List (Str × V)).lookup ("roads" : Str) = some (.ref t) := by
  rw [lk1 (by decide +kernel)]
  exact lk0
/-- a tree at p: n crossings, the roads at ps in a tuple, the trails in a dict -/
def TreeAt (K : PySem.W.Frag) (CT CR : Addr) (H : Hp) (p : Addr) (n : Int) (ps : List Addr) (F : List Fact) : Prop :=
  ∃ (dx t d : Addr) (kvs : List (List Key × V)), H p = some (.ins CT dx (teF n t d)) ∧ SqT K H t (ps.map V.ref) ∧ RoadsAt CR H ps F ∧ TrOk K H d kvs n F
def SqA (K : PySem.W.Frag) (H : Hp) (l : Addr) (xs : List V) : Prop := SqL K H l xs ∨ SqT K H l xs
theorem SqA.same {K : PySem.W.Frag} {H H' : Hp} {l : Addr} {xs : List V} (h : SqA K H l xs) (s : Same H H') : SqA K H' l xs := h.elim (fun h => .inl (s.seq h)) fun h => .inr (sqT_same h s)
def spTreeI (K : PySem.W.Frag) (CT CR CB CN CG : Addr) : Sp := fun vs H Q E => ∃ (p dx l : Addr) (n : Int) (ps : List Addr) (F : List Fact) (H0 : Hp), vs = [.ref p, .int n, .ref l] ∧ H p = some (.ins CT dx []) ∧ H0 p = none ∧ Same H0 H ∧ SqA K H0 l (ps.map V.ref) ∧ RoadsAt CR H0 ps F ∧ F.length ≤ 1000 ∧
  (∀ e, due n F = some e → ErrR CB CN CG H0 E e) ∧ (due n F = none → ∀ H', TreeAt K CT CR H' p n ps F → Same H0 H' → Q .non H')
/-- tuple(a name), a list or a tuple at the name -/
def rTupO (K : PySem.W.Frag) : List V → Hp → VK → Prop := fun xs H Q => ∃ p ys, xs = [.ref p] ∧ ((SqL K H p ys ∧ ∀ l, H l = none → Q (.ref l) (upd H l (.tup ys))) ∨ (SqT K H p ys ∧ Q (.ref p) H))
theorem tupE {K : PySem.W.Frag} {σ : L2.St} {H : Hp} {i : Nat} {l : Addr} {ys : List V} {Q : VK} (hi : σ[i]? = some (some (.ref l))) (h : SqA K H l ys) (k : ∀ t H', Same H H' → SqT K H' t ys → Q (.ref t) H') : tCB (rTupO K) (tCons (tVar i) tNil) σ H Q := by
  refine ⟨_, hi, l, ys, rfl, ?_⟩
  rcases h with h | h
  · exact .inl ⟨h, fun t ht => k t _ (Same.new ht) (SqT.of upd_same)⟩
  · exact .inr ⟨h, k l H (Same.refl H) h⟩
theorem sqT_ins {K : PySem.W.Frag} {H : Hp} {p q C dx : Addr} {fs : List (Str × V)} {o : HO} {xs : List V} (hp : H p = some (.ins C dx fs)) (h : SqT K H q xs) : SqT K (upd H p o) q xs := by
  rcases h with (h | ⟨u, h⟩) | h
  · exact .inl (.inl (by rw [upd_ne (ne_of h hp (fun z => nomatch z))]; exact h))
  · exact .inl (.inr ⟨u, by rw [upd_ne (ne_of h hp (fun z => nomatch z))]; exact h⟩)
  · exact .inr h
theorem TrOk.ins {K : PySem.W.Frag} {H : Hp} {p d C dx : Addr} {fs : List (Str × V)} {o : HO} {kvs : List (List Key × V)} {n : Int} {F : List Fact} (h : TrOk K H d kvs n F) (hp : H p = some (.ins C dx fs)) : TrOk K (upd H p o) d kvs n F :=
  ⟨by rw [upd_ne (ne_of h.dc hp (fun z => nomatch z))]; exact h.dc, h.has, fun x y v z => let ⟨q, l, a, b, c⟩ := h.val x y v z; ⟨q, l, a, sqT_ins hp b, c⟩, h.len⟩
theorem due_c {n : Int} {F : List Fact} (h : ¬ (2 ≤ n ∧ n ≤ 24)) : due n F = some (.crossings n) := by
  unfold due
  rw [if_pos h]
theorem due_r {n : Int} {F : List Fact} (h : 2 ≤ n ∧ n ≤ 24) (h2 : (F.length : Int) ≠ n - 1) : due n F = some (.roads F.length) := by
  unfold due
  rw [if_neg (fun z => z h), if_pos h2]
theorem due_go {n : Int} {F : List Fact} (h : 2 ≤ n ∧ n ≤ 24) (h2 : (F.length : Int) = n - 1) : due n F = dueR n [] F := by
  unfold due
  rw [if_neg (fun z => z h), if_neg (fun z => z h2)]
section
variable {P : Program} {w : World} {K : PySem.W.Frag} {mg : Str → Option Value} {base : Heap}
theorem scTreeI : FnScope ["self", "crossings", "roads"] ["self", "crossings", "roads"] (defScope sTreeI) := ⟨rfl, rfl, rfl, by decide +kernel, rfl, by decide +kernel, by decide +kernel⟩
theorem ok_treeI {f fA CT CR CB CN CG fB : Addr} {fd fdA fdB : FuncData} (F : Fun K "__init__" "Tree.__init__" sTreeI f fd) (TT : TeT K mg CT) (TB : ErT K mg "BadCount" CB fB)
    (FB : FnOk P w K mg base CX0 1 fB fdB ["self", "what", "count"] (spEr2 CB "what" "count")) (bB : Binds K fdB ["self", "what", "count"] [])
    (FA : FnOk P w K mg base (L2.CX P w) 4 fA fdA ["crossings", "roads"] (spTrails K CR CB CN CG)) (bA : Binds K fdA ["crossings", "roads"] []) (mA : mg "trails_along" = some (.ref fA)) (kA : PySem.W.keepIn K (.ref fA) = true)
    (hLeast : ∃ t, mg "LEAST_CROSSINGS" = some (.int 2 t)) (hMost : ∃ t, mg "MOST_CROSSINGS" = some (.int 24 t)) (hLen : mg "len" = none) (hTup : mg "tuple" = none) :
    FnOk P w K mg base (L2.CX P w) 5 f fd ["self", "crossings", "roads"] (spTreeI K CT CR CB CN CG) := by
  refine F.okX scTreeI (fun vs H Q E h => ?_) (fun cdv A outer s H vs Q E hr h => ?_)
  · obtain ⟨p, dx, l, n, ps, F, H0, rfl, _⟩ := h
    rfl
  · obtain ⟨p, dx, l, n, ps, F, H0, rfl, hp, hp0, s0, hS, hR, hF, kE, kQ⟩ := h
    obtain ⟨tl, hLeast⟩ := hLeast
    obtain ⟨tm, hMost⟩ := hMost
    have hr2 : Room 2 _ := hr.mono (by decide)
    refine ⟨_, pss_cons (ps_if (pt_not (pt_chain op_le op_le (pe_glob (v := V.int 2) rfl hLeast ⟨tl, rfl⟩) (pv 1) (pe_glob (v := V.int 24) rfl hMost ⟨tm, rfl⟩)))
          (pss_one (ps_raise rfl (takes_of rfl rfl rfl rfl) (pmk_oex TB.ox TB.iC TB.tI FB hr2 bB .nil pass0 (by rfl) TB.gC (pa_cons pe_str (pa_cons (pv 1) pa_nil))))) pss_nil)
      (pss_cons (ps_if (pt_cmpR op_ne (pe_callB call_len_seq (by rfl) hLen PySem.boot_len (pa_cons (pv 2) pa_nil)) (pe_op op_sub (pv 1) pe_int) (nomark _))
          (pss_one (ps_raise rfl (takes_of rfl rfl rfl rfl) (pmk_oex TB.ox TB.iC TB.tI FB hr2 bB .nil pass0 (by rfl) TB.gC (pa_cons pe_str (pa_cons (pe_callB call_len_seq (by rfl) hLen PySem.boot_len (pa_cons (pv 2) pa_nil)) pa_nil))))) pss_nil)
      (pss_cons (ps_fld (pv 0) (pv 1) rfl)
      (pss_cons (ps_fld (pv 0) (pe_callTy (r := rTupO K) call_tuple_of (by rfl) hTup (by decide +kernel) (pa_cons (pv 2) pa_nil)) rfl)
      (pss_one (ps_fld (pv 0) (pe_call FA hr rfl mA kA bA .nil (passes_call (takes_of rfl rfl rfl rfl) fun _ _ _ _ h => h) (pa_cons (pv 1) (pa_cons (pe_fld (pv 0) rfl) pa_nil))) rfl))))), ?_⟩
    have lenE : (ps.map V.ref).length = F.length := by rw [List.length_map]; exact hR.len
    have bad : ¬ (2 ≤ n ∧ n ≤ 24) → Raised CB [("count", .int n), ("what", .str "crossings")] H E := fun z => Raised.mono (kE _ (due_c z)) s0
    have sp : ∀ {o : HO}, Same H0 (upd H p o) := fun {o} b u e => by
      rw [upd_ne (ne_of_none e hp0)]
      exact s0 b u e
    refine ⟨_, rfl, _, _, rfl, rfl, _, rfl, ?_⟩
    by_cases h0 : 2 ≤ n
    · rw [decide_eq_true h0]
      refine iteT ⟨_, _, rfl, rfl, _, rfl, ?_⟩
      by_cases h1 : n ≤ 24
      · rw [decide_eq_true h1]
        refine iteF ?_
        refine ⟨_, rfl, l, _, rfl, hS.same s0, _, rfl, _, _, rfl, rfl, rfl, _, rfl, ?_⟩
        rw [lenE]
        by_cases h2 : (F.length : Int) = n - 1
        · have hd := due_go ⟨h0, h1⟩ h2
          refine iteNS (by rw [h2]) ?_
          refine ⟨_, rfl, _, rfl, p, CT, dx, [], rfl, hp, TT.cl, TT.nC, (by show 0 < 1000; decide), ?_⟩
          refine tupE rfl (hS.same sp) fun t Hb sb ht => ?_
          have hpb := sb _ _ (upd_same (H := H) (a := p) (o := .ins CT dx (putF "crossings" (.int n) [])))
          have s0b : Same H0 Hb := sp.trans sb
          refine ⟨_, rfl, p, CT, dx, _, rfl, hpb, TT.cl, TT.nR, (by show 1 < 1000; decide), ?_⟩
          rw [teF1]
          have s0c : Same H0 (upd Hb p (.ins CT dx [("crossings", .int n), ("roads", .ref t)])) := fun b u e => by
            rw [upd_ne (ne_of_none e hp0)]
            exact s0b b u e
          have htc : SqT K (upd Hb p (.ins CT dx [("crossings", .int n), ("roads", .ref t)])) t (ps.map V.ref) := sqT_ins hpb ht
          refine ⟨_, rfl, _, rfl, p, CT, dx, _, _, rfl, upd_same, TT.cl, TT.nR, teF1_r n t, n, t, ps, F, rfl, htc, hR.same s0c, by omega, h1, by omega, fun e he => ?_, fun he d kvs H' T s' hd' => ?_⟩
          · exact (kE e (by rw [hd]; exact he)).mono s0c
          · have hp' := s' _ _ (upd_same (H := Hb) (a := p) (o := .ins CT dx [("crossings", .int n), ("roads", .ref t)]))
            have ndp : d ≠ p := ne_of T.dc hp' (fun z => nomatch z)
            have s0d : Same H0 (upd H' p (.ins CT dx (teF n t d))) := fun b u e => by
              rw [upd_ne (ne_of_none e hp0)]
              exact s' b u (s0c b u e)
            refine ⟨_, rfl, p, CT, dx, _, rfl, hp', TT.cl, TT.nT, (by show 2 < 1000; decide), ?_⟩
            rw [teF2]
            exact kQ (by rw [hd]; exact he) _ ⟨dx, t, d, kvs, upd_same, sqT_ins hp' (sqT_same htc s'), hR.same s0d, T.ins hp'⟩ s0d
        · have k2 : Raised CB [("count", .int F.length), ("what", .str "roads")] H E := Raised.mono (kE _ (due_r ⟨h0, h1⟩ h2)) s0
          have h3 : ¬ (V.int (F.length : Int) = V.int (n - 1)) := fun z => h2 (V.int.inj z)
          rw [decide_eq_false h3]
          refine iteT ⟨_, rfl, l, _, rfl, hS.same s0, len2, fun a ha => ?_⟩
          rw [lenE]
          exact er2 ha k2
      · rw [decide_eq_false h1]
        exact iteT ⟨_, rfl, len2, fun a ha => er2 ha (bad fun z => h1 z.2)⟩
    · rw [decide_eq_false h0]
      exact iteF ⟨_, rfl, iteT ⟨_, rfl, len2, fun a ha => er2 ha (bad fun z => h0 z.1)⟩⟩
end
end OT

set_option Elab.async false
set_option linter.all false
set_option maxRecDepth 100000
set_option maxHeartbeats 2000000
namespace OT
open PySem L2 OTR
theorem sqL_but {K : PySem.W.Frag} {H H' : Hp} {s l : Addr} {xs : List V} (h : SqL K H l xs) (n : l ≠ s) (e : But s H H') : SqL K H' l xs := by
  rcases h with (h | ⟨o, h⟩) | h
  · exact .inl (.inl (e _ _ h n))
  · exact .inl (.inr ⟨o, e _ _ h n⟩)
  · exact .inr h
theorem Src.same {s : Addr} {H H' : Hp} (h : Src H s) (e : Same H H') : Src H' s := let ⟨a, b, c, h0, h1⟩ := h; ⟨a, b, c, h0, e _ _ h1⟩
theorem Src.ne {s l : Addr} {H : Hp} {o : HO} (h : Src H s) (hl : H l = some o) (d : ∀ a b c : Int, o ≠ .lst [.int a, .int b, .int c]) : l ≠ s := fun z => by
  obtain ⟨a, b, c, _, h1⟩ := h
  rw [z, h1] at hl
  exact d a b c (Option.some.inj hl).symm
theorem Src.new {s l : Addr} {H : Hp} (h : Src H s) (hl : H l = none) : l ≠ s := fun z => by
  obtain ⟨a, b, c, _, h1⟩ := h
  rw [z, h1] at hl
  cases hl
theorem But.new {s l : Addr} {H H' : Hp} {o : HO} (b : But s H H') (hl : H l = none) : But s H (L2.upd H' l o) := fun c u e n => by
  rw [upd_ne (ne_of_none e hl)]
  exact b c u e n
theorem Src.upd {s l : Addr} {H : Hp} {o : HO} (h : Src H s) (n : l ≠ s) : Src (L2.upd H l o) s := let ⟨a, b, c, h0, h1⟩ := h; ⟨a, b, c, h0, by rw [upd_ne (Ne.symm n)]; exact h1⟩
def spShuf : Sp := fun vs H Q _ => ∃ (s l : Addr) (xs : List V), vs = [.ref s, .ref l] ∧ Src H s ∧ H l = some (.lst xs) ∧ xs.length ≤ 1000 ∧ ∀ p ys H', ys.Perm xs → H p = none → H' p = some (.lst ys) → Src H' s → But s H H' → Q (.ref p) H'
theorem seqIx {i : Int} {n : Nat} (h0 : 0 ≤ i) (h1 : i < n) : seqIndex? i n = some i.toNat := by
  unfold seqIndex?
  have e : (if i < 0 then i + (n : Int) else i) = i := if_neg (by omega)
  simp only [e]
  rw [if_pos (by simp; omega)]
theorem perm_erase {α : Type} : ∀ {l : List α} {k : Nat} {y : α}, l[k]? = some y → (y :: l.eraseIdx k).Perm l
  | [], k, y, h => by simp at h
  | a :: l, 0, y, h => by
    have e := Option.some.inj h
    subst e
    exact List.Perm.refl _
  | a :: l, k + 1, y, h => by
    have ih := perm_erase (l := l) (k := k) (y := y) h
    exact (List.Perm.swap a y _).trans (ih.cons a)
section
variable {P : Program} {w : World} {K : PySem.W.Frag} {mg : Str → Option Value} {base : Heap}
end
end OT

namespace OT
/-- no road of fs joins what the others join already -/
def NoRing (fs : List Fact) : Prop := ∀ (i : Nat) (r : Fact), fs[i]? = some r → ¬ Con (fs.eraseIdx i) r.1 r.2.1
theorem con_congr {F G : List Fact} (h : ∀ r, r ∈ F ↔ r ∈ G) {x y : Int} : Con F x y ↔ Con G x y := ⟨Con.mono fun r => (h r).mp, Con.mono fun r => (h r).mpr⟩
/-- a crossing that no road of F meets -/
theorem Con.alone {F : List Fact} {v x : Int} (h : Con F x v) (no : ∀ r ∈ F, r.1 ≠ v ∧ r.2.1 ≠ v) : x = v := by
  cases h with
  | refl => rfl
  | step _ m j =>
    obtain ⟨n1, n2⟩ := no _ m
    rcases j with ⟨_, e⟩ | ⟨e, _⟩
    · exact absurd e n2
    · exact absurd e n1
theorem noRing_nil : NoRing [] := fun i r h => by simp at h
theorem noRing_add {fs : List Fact} {r : Fact} {v u : Int} (h : NoRing fs) (no : ∀ q ∈ fs, q.1 ≠ v ∧ q.2.1 ≠ v) (e : (r.1 = v ∧ r.2.1 = u) ∨ (r.1 = u ∧ r.2.1 = v)) (ne : u ≠ v) : NoRing (fs ++ [r]) := by
  intro i q hi c
  by_cases hl : i < fs.length
  · rw [List.getElem?_append_left hl] at hi
    rw [List.eraseIdx_append_of_lt_length hl] at c
    have mq : q ∈ fs := List.mem_of_getElem? hi
    have no' : ∀ p ∈ fs.eraseIdx i, p.1 ≠ v ∧ p.2.1 ≠ v := fun p hp => no p (List.mem_of_mem_eraseIdx hp)
    obtain ⟨q1, q2⟩ := no q mq
    rcases con_snoc.mp c with c | ⟨c1, c2⟩ | ⟨c1, c2⟩
    · exact h i q hi c
    · rcases e with ⟨e1, e2⟩ | ⟨e1, e2⟩
      · rw [e1] at c1
        exact q1 (c1.alone no')
      · rw [e2] at c2
        exact q2 (c2.symm.alone no')
    · rcases e with ⟨e1, e2⟩ | ⟨e1, e2⟩
      · rw [e1] at c2
        exact q2 (c2.symm.alone no')
      · rw [e2] at c1
        exact q1 (c1.alone no')
  · have hl2 : fs.length ≤ i := Nat.le_of_not_lt hl
    rw [List.getElem?_append_right hl2] at hi
    have e0 : i = fs.length := by
      have z := (List.getElem?_eq_some_iff.mp hi).1
      simp at z
      omega
    subst e0
    rw [Nat.sub_self] at hi
    cases hi
    rw [List.eraseIdx_append_of_length_le (Nat.le_refl _), Nat.sub_self] at c
    have c' : Con fs r.1 r.2.1 := by simpa using c
    rcases e with ⟨e1, e2⟩ | ⟨e1, e2⟩
    · rw [e1, e2] at c'
      exact ne (c'.symm.alone no)
    · rw [e1, e2] at c'
      exact ne (c'.alone no)
theorem take_sub_erase {α : Type} : ∀ {l : List α} {i : Nat} {x : α}, x ∈ l.take i → x ∈ l.eraseIdx i
  | [], i, x, h => by simp at h
  | a :: l, 0, x, h => by simp at h
  | a :: l, i + 1, x, h => by
    rcases List.mem_cons.mp h with e | h
    · exact List.mem_cons.mpr (.inl e)
    · exact List.mem_cons.mpr (.inr (take_sub_erase h))
theorem noRing_due {n : Int} {fs : List Fact} (h : NoRing fs) (ok : ∀ r ∈ fs, In n r.1 ∧ In n r.2.1 ∧ 1 ≤ r.2.2 ∧ r.2.2 ≤ 1000000000) : dueR n [] fs = none := by
  have key : ∀ (k i : Nat), i + k = fs.length → dueR n (fs.take i) (fs.drop i) = none := by
    intro k
    induction k with
    | zero =>
      intro i hi
      rw [List.drop_of_length_le (by omega), dueR_nil]
    | succ k ih =>
      intro i hi
      have hl : i < fs.length := by omega
      have g : fs[i]? = some fs[i] := List.getElem?_eq_getElem hl
      obtain ⟨a, b, c, d⟩ := ok _ (List.getElem_mem hl)
      rw [List.drop_eq_getElem_cons hl, dueR_go a b ⟨c, d⟩ (fun z => h i _ g (z.mono fun r hr => take_sub_erase hr))]
      have e : fs.take i ++ [fs[i]] = fs.take (i + 1) := by
        rw [List.take_succ, g]
        rfl
      rw [e]
      exact ih (i + 1) (by omega)
  have z := key fs.length 0 (by omega)
  simpa using z
theorem erase_perm {α : Type} : ∀ {l : List α} {k : Nat} {y : α}, l[k]? = some y → (y :: l.eraseIdx k).Perm l
  | [], k, y, h => by simp at h
  | a :: l, 0, y, h => by
    have e := Option.some.inj h
    subst e
    exact List.Perm.refl _
  | a :: l, k + 1, y, h => by
    have ih := erase_perm (l := l) (k := k) (y := y) h
    exact (List.Perm.swap a y _).trans (ih.cons a)
theorem noRing_perm {fs gs : List Fact} (p : gs.Perm fs) (h : NoRing fs) : NoRing gs := by
  intro i r hi c
  have m : r ∈ fs := p.mem_iff.mp (List.mem_of_getElem? hi)
  obtain ⟨j, hj, e⟩ := List.getElem_of_mem m
  have hj' : fs[j]? = some r := by rw [List.getElem?_eq_getElem hj, e]
  have q : (gs.eraseIdx i).Perm (fs.eraseIdx j) := List.Perm.cons_inv (((erase_perm hi).trans p).trans (erase_perm hj').symm)
  exact h j r hj' (c.mono fun x hx => q.mem_iff.mp hx)
/-- what a drawn tree is -/
structure Drawn (most long n : Int) (fs : List Fact) : Prop where
  lo : 2 ≤ n
  hi : n ≤ most
  len : (fs.length : Int) = n - 1
  ok : ∀ r ∈ fs, In n r.1 ∧ In n r.2.1 ∧ 1 ≤ r.2.2 ∧ (r.2.2 ≤ 2 ∨ r.2.2 ≤ long)
  nr : NoRing fs
  con : ∀ x y, In n x → In n y → Con fs x y
theorem Drawn.due {most long n : Int} {fs : List Fact} (h : Drawn most long n fs) (h24 : most ≤ 24) (hl : long ≤ 1000000000) : due n fs = none := by
  unfold OT.due
  have a := h.lo
  have b := h.hi
  rw [if_neg (fun z => z ⟨a, by omega⟩), if_neg (fun z => z h.len)]
  exact noRing_due h.nr fun r hr => let ⟨x, y, z, w⟩ := h.ok r hr; ⟨x, y, z, by omega⟩
end OT

set_option Elab.async false
set_option linter.all false
set_option maxRecDepth 100000
set_option maxHeartbeats 2000000
namespace OT
open PySem L2 OTR
def TupAt (H : Hp) (t : Addr) (r : Fact) : Prop := H t = some (.tup [.int r.1, .int r.2.1, .int r.2.2])
theorem TupAt.but {H H' : Hp} {s t : Addr} {r : Fact} (h : TupAt H t r) (src : Src H s) (b : But s H H') : TupAt H' t r := b _ _ h (src.ne h fun _ _ _ z => nomatch z)
theorem tups_but {H H' : Hp} {s : Addr} {ts : List Addr} {fs : List Fact} (h : Paired (TupAt H) ts fs) (src : Src H s) (b : But s H H') : Paired (TupAt H') ts fs := by
  induction h with
  | nil => exact .nil
  | cons a _ ih => exact .cons (a.but src b) ih
theorem tups_same {H H' : Hp} {ts : List Addr} {fs : List Fact} (h : Paired (TupAt H) ts fs) (b : Same H H') : Paired (TupAt H') ts fs := by
  induction h with
  | nil => exact .nil
  | cons a _ ih => exact .cons (b _ _ a) ih
theorem paired_snoc {α β : Type} {R : α → β → Prop} {as : List α} {bs : List β} {a : α} {b : β} (h : Paired R as bs) (x : R a b) : Paired R (as ++ [a]) (bs ++ [b]) := by
  induction h with
  | nil => exact .cons x .nil
  | cons y _ ih => exact .cons y ih
theorem tups_put {H : Hp} {p : Addr} {xs ys : List V} {ts : List Addr} {fs : List Fact} (h : Paired (TupAt H) ts fs) (hp : H p = some (.lst xs)) : Paired (TupAt (upd H p (.lst ys))) ts fs := by
  induction h with
  | nil => exact .nil
  | cons a _ ih =>
    refine .cons ?_ ih
    unfold TupAt at a ⊢
    rw [upd_ne (ne_of a hp (fun z => nomatch z))]
    exact a
theorem But.put {s p : Addr} {H G : Hp} {o : HO} (b : But s H G) (hp : H p = none) : But s H (L2.upd G p o) := fun c u e n => by
  rw [upd_ne (ne_of_none e hp)]
  exact b c u e n
/-- at q a list of triples -/
def FactsAt (H : Hp) (q : Addr) (fs : List Fact) : Prop := ∃ ts : List Addr, H q = some (.lst (ts.map V.ref)) ∧ Paired (TupAt H) ts fs
theorem perm_map {α β : Type} {f : α → β} : ∀ {ys : List β} {l : List α}, ys.Perm (l.map f) → ∃ l' : List α, ys = l'.map f ∧ l'.Perm l := by
  intro ys l p
  generalize h : l.map f = zs at p
  induction p generalizing l with
  | nil =>
    cases l with
    | nil => exact ⟨[], rfl, .nil⟩
    | cons a l => cases h
  | cons x _ ih =>
    cases l with
    | nil => cases h
    | cons a l =>
      injection h with h1 h2
      obtain ⟨l', e, q⟩ := ih h2
      exact ⟨a :: l', by rw [List.map_cons, h1, e], q.cons a⟩
  | swap x y zs =>
    cases l with
    | nil => cases h
    | cons a l =>
      cases l with
      | nil =>
        injection h with h1 h2
        cases h2
      | cons b l =>
        injection h with h1 h2
        injection h2 with h2 h3
        exact ⟨b :: a :: l, by rw [List.map_cons, List.map_cons, h1, h2, h3], .swap a b l⟩
  | trans _ _ ih1 ih2 =>
    obtain ⟨l1, e1, q1⟩ := ih2 h
    obtain ⟨l2, e2, q2⟩ := ih1 e1.symm
    exact ⟨l2, e2, q2.trans q1⟩
theorem perm_paired {α β : Type} {R : α → β → Prop} : ∀ {as' as : List α}, as'.Perm as → ∀ {bs : List β}, Paired R as bs → ∃ bs', Paired R as' bs' ∧ bs'.Perm bs := by
  intro as' as p
  induction p with
  | nil =>
    intro bs h
    cases h
    exact ⟨[], .nil, .nil⟩
  | cons x _ ih =>
    intro bs h
    cases h with
    | cons y t =>
      obtain ⟨b', h', q⟩ := ih t
      exact ⟨_ :: b', .cons y h', q.cons _⟩
  | swap x y zs =>
    intro bs h
    cases h with
    | cons a t =>
      cases t with
      | cons b t => exact ⟨_ :: _ :: _, .cons b (.cons a t), .swap _ _ _⟩
  | trans _ _ ih1 ih2 =>
    intro bs h
    obtain ⟨b1, h1, q1⟩ := ih2 h
    obtain ⟨b2, h2, q2⟩ := ih1 h1
    exact ⟨b2, h2, q2.trans q1⟩
def spTreeD : Sp := fun vs H Q _ => ∃ (s : Addr) (most long : Int), vs = [.ref s, .int most, .int long] ∧ Src H s ∧ 2 ≤ most ∧ most ≤ 24 ∧ 1 ≤ long ∧ long ≤ 1000000000 ∧
  ∀ p q n fs H', H' p = some (.tup [.int n, .ref q]) → H q = none → FactsAt H' q fs → Drawn most long n fs → Src H' s → But s H H' → Q (.ref p) H'
theorem one_con {os : List Int} {fs : List Fact} {x y : Int} (hx : x ∈ os.take (0 + 1)) (hy : y ∈ os.take (0 + 1)) : Con fs x y := by
  cases os with
  | nil => cases hx
  | cons a r =>
    rw [List.take_succ_cons, List.take_zero] at hx hy
    rw [List.mem_singleton.mp hx, List.mem_singleton.mp hy]
    exact .refl a
/-- the roads drawn so far: their ends among the first crossings of the order -/
structure Part (os : List Int) (long : Int) (i : Nat) (fs : List Fact) : Prop where
  len : fs.length = i
  ok : ∀ r ∈ fs, r.1 ∈ os.take (i + 1) ∧ r.2.1 ∈ os.take (i + 1) ∧ 1 ≤ r.2.2 ∧ (r.2.2 ≤ 2 ∨ r.2.2 ≤ long)
  nr : NoRing fs
  con : ∀ x y, x ∈ os.take (i + 1) → y ∈ os.take (i + 1) → Con fs x y
theorem Part.add {os : List Int} {long : Int} {i j : Nat} {fs : List Fact} {r : Fact} {a b : Int} (h : Part os long i fs) (nd : os.Nodup) (ha : os[i + 1]? = some a) (hb : os[j]? = some b) (hj : j ≤ i) (e : (r.1 = a ∧ r.2.1 = b) ∨ (r.1 = b ∧ r.2.1 = a))
    (l1 : 1 ≤ r.2.2) (l2 : r.2.2 ≤ 2 ∨ r.2.2 ≤ long) : Part os long (i + 1) (fs ++ [r]) := by
  have tk : os.take (i + 1 + 1) = os.take (i + 1) ++ [a] := take_get ha
  have mb : b ∈ os.take (i + 1) := List.mem_of_getElem? (i := j) (by rw [List.getElem?_take, if_pos (by omega)]; exact hb)
  have na : a ∉ os.take (i + 1) := fun m => by
    obtain ⟨q, hq, eq⟩ := List.getElem_of_mem m
    rw [List.length_take] at hq
    rw [List.getElem_take] at eq
    have h1 := (List.getElem?_eq_some_iff.mp ha)
    obtain ⟨h2, h3⟩ := h1
    have := (List.getElem_inj nd).mp (eq.trans h3.symm)
    omega
  have ba : b ≠ a := fun z => na (z ▸ mb)
  refine ⟨by rw [List.length_append, h.len]; rfl, fun q hq => ?_, noRing_add h.nr (fun q hq => ?_) e ba, fun x y hx hy => ?_⟩
  · rw [tk]
    rcases List.mem_append.mp hq with hq | hq
    · obtain ⟨x, y, z⟩ := h.ok q hq
      exact ⟨List.mem_append_left _ x, List.mem_append_left _ y, z⟩
    · obtain rfl := List.mem_singleton.mp hq
      have m1 : a ∈ os.take (i + 1) ++ [a] := List.mem_append_right _ (List.mem_singleton.mpr rfl)
      have m2 : b ∈ os.take (i + 1) ++ [a] := List.mem_append_left _ mb
      rcases e with ⟨e1, e2⟩ | ⟨e1, e2⟩
      · rw [e1, e2]
        exact ⟨m1, m2, l1, l2⟩
      · rw [e1, e2]
        exact ⟨m2, m1, l1, l2⟩
  · obtain ⟨x, y, _⟩ := h.ok q hq
    exact ⟨fun z => na (z ▸ x), fun z => na (z ▸ y)⟩
  · have old : ∀ {x y : Int}, x ∈ os.take (i + 1) → y ∈ os.take (i + 1) → Con (fs ++ [r]) x y := fun hx hy => (h.con _ _ hx hy).mono fun q hq => List.mem_append_left _ hq
    have ab : Con (fs ++ [r]) a b := Con.one (r := r) (List.mem_append_right _ (List.mem_singleton.mpr rfl)) e
    have to : ∀ {x : Int}, x ∈ os.take (i + 1 + 1) → Con (fs ++ [r]) x b := fun hx => by
      rw [tk] at hx
      rcases List.mem_append.mp hx with c | c
      · exact old c mb
      · rw [List.mem_singleton.mp c]
        exact ab
    exact (to hx).trans (to hy).symm
section
variable {P : Program} {w : World} {K : PySem.W.Frag} {mg : Str → Option Value} {base : Heap}
abbrev nTreeD : List Str := ["_law_source_here", "_law_most", "_law_long", "_law_many", "_law_order", "_law_found", "_law_at", "_law_ends"]
end
end OT

set_option Elab.async false
set_option linter.all false
set_option maxRecDepth 100000
set_option maxHeartbeats 1000000
namespace OTR
open PySem PySem.Spec PyProof.Rows L2
section
variable {X : Cx}
/-- xs == [] -/
theorem op_eqNil (ul : X.A.units < cLine) : OpR X (compareOp .Eq) (rEqNil X.K) := by
  intro p0 s0 g0 H0 x y vx vy Q J rx ry h
  obtain ⟨a, b, xs, rfl, rfl, ea, eb, q⟩ := h
  obtain rfl : vx = Value.ref a := rx
  obtain rfl : vy = Value.ref b := ry
  obtain ⟨us, w1, l1, _⟩ := J.list ea
  obtain ⟨ws, w2, l2, _⟩ := J.list eb
  cases w2
  show wpAny (model X.prog X.w) X.A (richCompare .Eq (.ref a) (.ref b)) _ _ _
  cases xs with
  | nil =>
    cases w1
    have z := SeqAt.RcAt.lists (A := X.A) (s := s0) (e := fun _ => true) l1.isList l2.isList rfl ul (fun j h1 _ => absurd h1 (Nat.not_lt_zero j))
    exact z X.prog X.w _ _ ⟨.bl true, H0, J, rfl, q⟩
  | cons y ys =>
    cases w1 with
    | cons _ _ =>
      have z := SeqAt.RcAt.lists_lengths (A := X.A) (s := s0) l1.isList l2.isList (by simp) ul
      exact z X.prog X.w _ _ ⟨.bl false, H0, J, rfl, q⟩
/-- xs + ys, lists that are read -/
def rCatS (K : PySem.W.Frag) : R2 := fun x y H Q => ∃ l b xs zs, x = .ref l ∧ y = .ref b ∧ SqL K H l xs ∧ SqL K H b zs ∧ xs.length + zs.length ≤ sizeLine ∧ ∀ p, H p = none → Q (.ref p) (upd H p (.lst (xs ++ zs)))
theorem op_catS : OpR X (binaryOp .Add) (rCatS X.K) := by
  intro p0 s0 g0 H0 x y vx vy Q J rx ry h
  obtain ⟨l, b, xs, zs, rfl, rfl, ea, eb, hz, q⟩ := h
  cases rx
  cases ry
  obtain ⟨us, w1, l1, _⟩ := J.list ea
  obtain ⟨ws, w2, l2, _⟩ := J.list eb
  obtain ⟨⟨c1, d1, t1, k1⟩, o1, e1, n1, f1⟩ := l1.isList
  obtain ⟨⟨c2, d2, t2, k2⟩, o2, e2, n2, f2⟩ := l2.isList
  simp only at e1 f1 e2 f2
  subst e1 f1 e2 f2
  have zz : us.toArray.size + ws.toArray.size ≤ sizeLine := by
    rw [List.size_toArray, List.size_toArray, ← w1.length, ← w2.length]
    exact hz
  refine concat_meets ⟨_, o1, rfl⟩ ⟨_, o2, rfl⟩ noFill_list_add seq_list_add PySem.F.slot_list_add PySem.F.entry_list_add (PySem.F.args_list_add_2 _ _) (list_addW l b us.toArray ws.toArray n1 n2 d1 d2 k1 k2 zz) ⟨o1, o2, ?_⟩
  have ea' : us.toArray ++ ws.toArray = (us ++ ws).toArray := by simp
  rw [ea']
  exact ⟨.ref _, _, J.lnew (t' := s0.toks) (w1.append w2) (by rw [List.length_append]; exact hz), rfl, q _ J.fresh⟩
end
end OTR

set_option Elab.async false
set_option linter.all false
set_option maxRecDepth 100000
set_option maxHeartbeats 2000000
namespace OTR
open PySem PySem.Spec PyProof.Rows L2
/-! ### == with both answers, by an own __eq__ or not -/
/-- how two values are compared in the abstract heap: what is wanted of the answer -/
abbrev Rdg := V → V → Hp → (Bool → Hp → Prop) → Prop
def EqB (X : Cx) (n : Nat) (R : Rdg) : Prop := ∀ (A : Around) (pn : List (Addr × Obj)) (t : Shared) (σ : L2.St) (H : Hp) (x y : V) (u v : Value) (Q : Bool → Hp → Prop), Sub X n A → Inv X pn σ H t → RelV x u → RelV y v → R x y H Q →
  wpAny (model X.prog X.w) A (eqBool u v) (fun r t' => ∃ H', Inv X pn σ H' t' ∧ Q r H') X.xe t
def RcB (X : Cx) (n : Nat) (op : CmpOp) (R : Rdg) : Prop := ∀ (A : Around) (pn : List (Addr × Obj)) (t : Shared) (σ : L2.St) (H : Hp) (x y : V) (u v : Value) (Q : Bool → Hp → Prop), Sub X n A → Inv X pn σ H t → RelV x u → RelV y v → R x y H Q →
  wpAny (model X.prog X.w) A (richCompare op u v) (fun r t' => ∃ b H', r = .bool b ∧ Inv X pn σ H' t' ∧ Q b H') X.xe t
/-- what a value's type is -/
inductive HasT (H : Hp) : V → Value → Prop where
  | non : HasT H .non (.type "NoneType")
  | tup {a : Addr} {xs : List V} (e : H a = some (.tup xs)) : HasT H (.ref a) (.type "tuple")
  | lst {a : Addr} {xs : List V} (e : H a = some (.lst xs)) : HasT H (.ref a) (.type "list")
  | ins {a C dx : Addr} {fs : List (Str × V)} (e : H a = some (.ins C dx fs)) : HasT H (.ref a) (.ref C)
section
variable {X : Cx} {pn : List (Addr × Obj)} {σ : L2.St} {H : Hp} {t : Shared}
theorem HasT.looks {x : V} {u ty : Value} (h : HasT H x ty) (I : Inv X pn σ H t) (r : RelV x u) : PySem.W.Looks (model X.prog X.w) t.heap (typeOf u) ty := by
  cases h with
  | non =>
    cases (show u = Value.none from r)
    exact PySem.W.Looks.of_pure rfl
  | @tup a xs e =>
    cases (show u = Value.ref a from r)
    obtain ⟨_, _, _, o, g1, g2, _⟩ := (show ObjOk X.prog X.w H t.heap a (.tup xs) from I.hok a _ e)
    exact g2 ▸ (PySem.W.Looks.ld g1).andThen .now
  | @lst a xs e =>
    cases (show u = Value.ref a from r)
    obtain ⟨_, _, n, _, g1⟩ := (show ObjOk X.prog X.w H t.heap a (.lst xs) from I.hok a _ e)
    exact (PySem.W.Looks.ld g1).andThen .now
  | @ins a C dx fs e =>
    cases (show u = Value.ref a from r)
    obtain ⟨m, J, _⟩ := ins_get I.hok e
    obtain ⟨od, J, _⟩ := J.look
    exact J.type
variable {n : Nat} {C f : Addr} {fd : FuncData} {ps : List Str} {sp : Sp}
/-- the own __eq__ is called with the two -/
theorem run_own {A : Around} {x y : V} {u v : Value} {Q : VK} (F : FnOk X.prog X.w X.K X.mg X.base CX0 n f fd ps sp) (hb : Binds X.K fd ps []) (sb : Sub X n A) (I : Inv X pn σ H t) (rx : RelV x u) (ry : RelV y v) (h : sp [x, y] H Q fun _ _ _ => False) :
    wpAny (model X.prog X.w) A (call (.ref f) [u, v]) (fun r t' => ∃ z H', RelV z r ∧ Inv X pn σ H' t' ∧ Q z H') X.xe t := by
  have env : Env0 X.prog X.w X.K X.mg X.base A X.stack t H := by
    have e := I.env0
    exact ⟨by rw [sb.fr]; exact e.frames, e.mod, e.bs, e.bsz, e.funs, e.frf, e.hok, e.bare⟩
  have len := F.len _ _ _ _ h
  have two : Vals [x, y] [u, v] := .cons rx (.cons ry .nil)
  have bind := hb t [u, v] I.kIn (by simpa using len)
  refine wpAny_call (codeAny_mono (F.run A X.stack t H ⟨[u, v], []⟩ [u, v] [x, y] _ _ sb.room env (by simpa using bind) two h) fun r t' q => ?_)
  cases r with
  | error e => exact False.elim q
  | ok fl =>
    cases fl with
    | ret w =>
      obtain ⟨z, H', I', rz, q'⟩ := I.after q
      exact ⟨z, H', rz, I', q'⟩
    | next => exact False.elim q
    | brk => exact False.elim q
    | cont => exact False.elim q
end
section
variable {X : Cx} {n : Nat} {C f : Addr} {fd : FuncData} {ps : List Str} {sp : Sp}
/-- x is an instance of the class at C, y whatever its __eq__ takes -/
def ROwn (K : PySem.W.Frag) (C : Addr) (sp : Sp) : Rdg := fun x y H Q => ∃ (a dx : Addr) (fs : List (Str × V)) (ty : Value), x = .ref a ∧ H a = some (.ins C dx fs) ∧ HasT H y ty ∧ PySem.W.notFirst K C ty = true ∧ sp [x, y] H (fun z H' => ∃ b, z = .bl b ∧ Q b H') fun _ _ _ => False
theorem rcB_own (F : FnOk X.prog X.w X.K X.mg X.base CX0 n f fd ps sp) (hs : PySem.W.findIn X.K (.ref C) "__eq__" = some (some (.ref f))) (hf : PySem.W.isFn X.K (.ref f) = true) (hb : Binds X.K fd ps []) : RcB X n .Eq (ROwn X.K C sp) := by
  intro A pn t σ H x y u v Q sb I rx ry h
  obtain ⟨a, dx, fs, ty, rfl, ha, hy, nf, h⟩ := h
  have look := hy.looks I ry
  cases (show u = Value.ref a from rx)
  obtain ⟨m, J, _⟩ := ins_get I.hok ha
  obtain ⟨od, J, _⟩ := J.look
  obtain ⟨m2, fr⟩ := I.fr
  refine PySem.W.cmp_K (op := .Eq) sb.room.units0 fr I.ok.mod.kin J look nf hs hf ?_
  refine wpAny_mono (run_own F hb sb I rx ry h) (fun r t' q => ?_) fun _ _ z => z
  obtain ⟨z, H', rz, I', b, rfl, q⟩ := q
  cases (show r = Value.bool b from rz)
  exact ⟨b, H', rfl, I', q⟩
/-- from the comparison to == inside a list or a tuple: the same object is equal to itself -/
def ROr (R : Rdg) : Rdg := fun x y H Q => (∃ a, x = .ref a ∧ y = .ref a ∧ Q true H) ∨ (∃ t1 t2, HasT H x t1 ∧ HasT H y t2) ∧ x ≠ y ∧ R x y H Q
theorem HasT.val {H : Hp} {x : V} {u ty : Value} (h : HasT H x ty) (r : RelV x u) : (x = .non ∧ u = .none) ∨ ∃ a, x = .ref a ∧ u = .ref a := by
  cases h with
  | non => exact .inl ⟨rfl, r⟩
  | tup e => exact .inr ⟨_, rfl, r⟩
  | lst e => exact .inr ⟨_, rfl, r⟩
  | ins e => exact .inr ⟨_, rfl, r⟩
theorem RcB.eqB {R : Rdg} (h : RcB X n .Eq R) : EqB X n (ROr R) := by
  intro A pn t σ H x y u v Q sb I rx ry hq
  rcases hq with ⟨a, rfl, rfl, q⟩ | ⟨⟨t1, t2, h1, h2⟩, ne, q⟩
  · cases (show u = Value.ref a from rx)
    cases (show v = Value.ref a from ry)
    exact SeqAt.EqAt.same (A := A) (s := t) (.ref a) X.prog X.w X.xe _ ⟨H, I, q⟩
  · have rest : wpAny (model X.prog X.w) A (richCompare .Eq u v >>= truthOfDropped) (fun r t' => ∃ H', Inv X pn σ H' t' ∧ Q r H') X.xe t := by
      refine wpAny_bind (wpAny_mono (h A pn t σ H x y u v Q sb I rx ry q) (fun r t' z => ?_) fun _ _ z => z)
      obtain ⟨b, H', rfl, I', q'⟩ := z
      exact wpAny_truthy_bool ⟨H', I', q'⟩
    have neq : ¬ (u == v) = true := fun z => ne (by
      have z := eq_of_beq z
      rcases h1.val rx with ⟨e1, e2⟩ | ⟨a, e1, e2⟩ <;> rcases h2.val ry with ⟨e3, e4⟩ | ⟨b, e3, e4⟩
      · rw [e1, e3]
      · rw [e2, e4] at z; cases z
      · rw [e2, e4] at z; cases z
      · rw [e2, e4] at z
        cases z
        rw [e1, e3])
    unfold eqBool
    refine wpAny_holding ?_
    refine wpAny_ite_split (fun z => absurd z neq) (fun _ => ?_)
    rcases h1.val rx with ⟨_, rfl⟩ | ⟨a, _, rfl⟩ <;> exact rest
/-! ### the left one declines, the right one is an instance with its own __eq__ -/
theorem tuple_declines {prog : Program} {w : World} {A : Around} {E : Value → Shared → Prop} {t : Shared} {l b : Addr} {its : Array Value} {k : Nat} {dd : Option Addr} {sl : Array (Option Value)} {ty : Value} {Q : Value → Shared → Prop}
    (e : t.heap.get? l = some { cls := .type "tuple", dict := dd, data := .seq its k, slots := sl }) (y : PySem.W.Looks (model prog w) t.heap (typeOf (.ref b)) ty) (z : PySem.W.Looks (model prog w) t.heap (isSubtype ty (.type "tuple")) false)
    (q : Q .notImplemented t) : wpAny (model prog w) A (call (.builtin "tuple.__eq__") [.ref l, .ref b]) Q E t := by
  refine GQ.call_here F.slot_tuple_eq ⟨_, e, rfl⟩ F.entry_tuple_eq (F.args_tuple_eq_2 _ _) ?_
  have inst : ∀ {A' : Around} {E' : Value → Shared → Prop} {Q' : Bool → Shared → Prop}, Q' false t → wpAny (model prog w) A' (isInstance (.ref b) (.type "tuple")) Q' E' t := fun q' => wpAny_bind (y.here (z.here q'))
  obtain ⟨hp, g, d, tk, os⟩ := t
  wp_walk using inst
  exact q
theorem list_declines {prog : Program} {w : World} {A : Around} {E : Value → Shared → Prop} {t : Shared} {l b : Addr} {its : Array Value} {k : Nat} {dd : Option Addr} {sl : Array (Option Value)} {ty : Value} {Q : Value → Shared → Prop}
    (e : t.heap.get? l = some { cls := .type "list", dict := dd, data := .seq its k, slots := sl }) (y : PySem.W.Looks (model prog w) t.heap (typeOf (.ref b)) ty) (z : PySem.W.Looks (model prog w) t.heap (isSubtype ty (.type "list")) false)
    (q : Q .notImplemented t) : wpAny (model prog w) A (call (.builtin "list.__eq__") [.ref l, .ref b]) Q E t := by
  refine GQ.call_here F.slot_list_eq ⟨_, e, rfl⟩ F.entry_list_eq (F.args_list_eq_2 _ _) ?_
  have inst : ∀ {A' : Around} {E' : Value → Shared → Prop} {Q' : Bool → Shared → Prop}, Q' false t → wpAny (model prog w) A' (isInstance (.ref b) (.type "list")) Q' E' t := fun q' => wpAny_bind (y.here (z.here q'))
  obtain ⟨hp, g, d, tk, os⟩ := t
  wp_walk using inst
  exact q
theorem back_core {prog : Program} {w : World} {A : Around} {E : Value → Shared → Prop} {t : Shared} {K : PySem.W.Frag} {u : Value} {b C f : Addr} {ob : Obj} {od : Option Obj} {T id : String} {Q : Value → Shared → Prop} (hu : A.units < cLine) (kin : K.In t.heap) (left : t.TypeIs u T) (slot : Slot T "__eq__" id)
    (declines : ∀ {Q' : Value → Shared → Prop}, Q' .notImplemented t → wpAny (model prog w) A (call (.builtin id) [u, .ref b]) Q' E t) (J : PySem.W.InstAt t.heap b ob C od) (sub : PySem.W.subIn K (.ref C) (.type T) = some false)
    (hs : PySem.W.findIn K (.ref C) "__eq__" = some (some (.ref f))) (hf : PySem.W.isFn K (.ref f) = true) (h : wpAny (model prog w) A (call (.ref f) [.ref b, u]) (PySem.W.CmpBack Q) E t) : wpAny (model prog w) A (richCompare .Eq u (.ref b)) Q E t := by
  have one : wpAny (model prog w) A (tryCompare u "__eq__" (.ref b)) (fun r t' => r = none ∧ t' = t) E t :=
    wpAny_tryCompare_declines left slot (declines ⟨rfl, rfl, rfl⟩)
  have two : wpAny (model prog w) A (tryCompare (.ref b) "__eq__" u) (fun r t' => ∃ v, r = some v ∧ Q v t') E t := by
    unfold tryCompare
    refine wpAny_bind (PySem.W.ifBound_K kin J hs hf (wpAny_mono h (fun v t' q => ?_) fun _ _ z => z))
    cases v <;> first | exact q.elim | exact wpAny_pure ⟨_, rfl, q⟩
  simp only [richCompare, cmpInfo_Eq, left.oneThing_none]
  refine wpAny_holding (wpAny_bind (wpAny_cRoomFor hu ?_))
  refine wpAny_bind (wpAny_typeOf left (wpAny_bind (J.type.here ?_)))
  split
  · refine wpAny_bind ((PySem.W.looks_subIn kin sub).here ?_)
    simp only [Bool.false_eq_true, if_false, Bool.not_false, if_true]
    refine wpAny_bind (m := tryCompare u _ (.ref b)) (wpAny_mono one (fun r t1 z => ?_) fun _ _ z => z)
    obtain ⟨z1, z2⟩ := z
    subst z1
    subst z2
    refine wpAny_bind (m := tryCompare (.ref b) _ u) (wpAny_mono two (fun r t2 z => ?_) fun _ _ z => z)
    obtain ⟨v, z1, z2⟩ := z
    subst z1
    exact wpAny_pure z2
  · rename_i q
    exact absurd (by simp) q
/-- x declines (None, a tuple, a list), y is an instance of the class at C -/
def RBack (K : PySem.W.Frag) (C : Addr) (sp : Sp) : Rdg := fun x y H Q => ∃ (b dy : Addr) (gs : List (Str × V)) (T : String), y = .ref b ∧ H b = some (.ins C dy gs) ∧ HasT H x (.type T) ∧ PySem.W.subIn K (.ref C) (.type T) = some false ∧ sp [y, x] H (fun z H' => ∃ r, z = .bl r ∧ Q r H') fun _ _ _ => False
theorem rcB_back (Fe : FnOk X.prog X.w X.K X.mg X.base CX0 n f fd ps sp) (hs : PySem.W.findIn X.K (.ref C) "__eq__" = some (some (.ref f))) (hf : PySem.W.isFn X.K (.ref f) = true) (hb : Binds X.K fd ps []) : RcB X n .Eq (RBack X.K C sp) := by
  intro A pn t σ H x y u v Q sb I rx ry h
  obtain ⟨b, dy, gs, T, rfl, eb, ty, sub, h⟩ := h
  cases (show v = Value.ref b from ry)
  obtain ⟨m, J, _⟩ := ins_get I.hok eb
  obtain ⟨od, J, _⟩ := J.look
  have sz := PySem.W.looks_subIn (M := model X.prog X.w) I.kIn sub
  have own : wpAny (model X.prog X.w) A (call (.ref f) [.ref b, u]) (PySem.W.CmpBack fun r t' => ∃ r' H', r = .bool r' ∧ Inv X pn σ H' t' ∧ Q r' H') X.xe t :=
    wpAny_mono (run_own Fe hb sb I (show RelV (.ref b) (.ref b) from rfl) rx h) (fun r t' q => by
      obtain ⟨z, H', rz, I', r', rfl, q⟩ := q
      cases (show r = Value.bool r' from rz)
      exact ⟨r', H', rfl, I', q⟩) fun _ _ z => z
  cases ty with
  | non =>
    cases (show u = Value.none from rx)
    exact back_core sb.room.units0 I.kIn (show t.TypeIs .none "NoneType" from rfl) F.slot_NoneType_eq_refl (fun q' => call_gives F.slot_NoneType_eq_refl rfl F.entry_NoneType_eq (F.args_NoneType_eq_2 _ _) (SeqAt.NoneType___eq___none_ref_0 b) q') J sub hs hf own
  | @tup a xs e =>
    cases (show u = Value.ref a from rx)
    obtain ⟨_, its, rv, o, g1, g2, k, g3⟩ := (show ObjOk X.prog X.w H t.heap a (.tup xs) from I.hok a _ e)
    obtain ⟨oc, dd, dt, sl⟩ := o
    simp only at g2 g3
    subst g2 g3
    exact back_core sb.room.units0 I.kIn ⟨_, g1, rfl⟩ F.slot_tuple_eq (fun q' => tuple_declines g1 J.type sz q') J sub hs hf own
  | @lst a xs e =>
    cases (show u = Value.ref a from rx)
    obtain ⟨_, its, k, rv, g1⟩ := (show ObjOk X.prog X.w H t.heap a (.lst xs) from I.hok a _ e)
    exact back_core sb.room.units0 I.kIn ⟨_, g1, rfl⟩ F.slot_list_eq (fun q' => list_declines g1 J.type sz q') J sub hs hf own
end
end OTR

set_option Elab.async false
set_option linter.all false
set_option maxRecDepth 100000
set_option maxHeartbeats 2000000
namespace OTR
open PySem PySem.Spec PyProof.Rows L2
open AutoSeq1 (wpAny_loadPart')
open MeetsSeq MeetsSeq2 MeetsSeq3 SeqRoads2
/-! ### x in [..], the items compared by their own __eq__ -/
/-- the list at p holds all; x is looked for among the last ones -/
def inAll (R : Rdg) (p : Addr) (all : List V) (x : V) : List V → Hp → (Bool → Hp → Prop) → Prop
  | [], H, Q => H p = some (.lst all) ∧ Q false H
  | y :: ys, H, Q => H p = some (.lst all) ∧ R y x H fun b H' => if b = true then Q true H' else inAll R p all x ys H' Q
theorem inAll.at_ {R : Rdg} {p : Addr} {all ys : List V} {x : V} {H : Hp} {Q : Bool → Hp → Prop} (h : inAll R p all x ys H Q) : H p = some (.lst all) := by
  cases ys <;> exact h.1
section
variable {X : Cx} {n : Nat} {R : Rdg} {p : Addr} {all : List V} {x : V} {u : Value} {Q : Bool → Hp → Prop} {pn : List (Addr × Obj)} {σ : L2.St} {A : Around}
abbrev toldB (X : Cx) (pn : List (Addr × Obj)) (σ : L2.St) (Q : Bool → Hp → Prop) : Value → Shared → Prop := fun v t => ∃ b H, v = .bool b ∧ Inv X pn σ H t ∧ Q b H
theorem in_loop (eq : EqB X n R) (sb : Sub X (n + 1) A) (rx : RelV x u) : ∀ (ys : List V) (i : Nat) (H : Hp) (t : Shared), ys = all.drop i → i + ys.length = all.length → Inv X pn σ H t → inAll R p all x ys H Q →
    wpAny (model X.prog X.w) A.in1 (Builtin.«list.__contains__.loop» ⟨[.ref p, u, rawInt i], []⟩) (GQ.FinOf X.prog X.w A (wants (toldB X pn σ Q) X.xe)) (fun e t' => wants (toldB X pn σ Q) X.xe (.error e) t') t := by
  intro ys
  induction ys with
  | nil =>
    intro i H t hd hl I h
    obtain ⟨_, its, k, rv, e⟩ := (show ObjOk X.prog X.w H t.heap p (.lst all) from I.hok p _ h.1)
    have fin : wants (toldB X pn σ Q) X.xe (.ok (.ret (.bool false))) t := ⟨false, H, rfl, I, h.2⟩
    have none : its.toArray[((i : Nat) : Int).toNat]? = none := by
      have := rv.length
      simp at hl
      simp
      omega
    obtain ⟨hp, g, d, tk, os⟩ := t
    wp_walk using wpAny_loadPart' e
    rw [none]
    wp_walk
    exact fin
  | cons y ys ih =>
    intro i H t hd hl I h
    obtain ⟨_, its, k, rv, e⟩ := (show ObjOk X.prog X.w H t.heap p (.lst all) from I.hok p _ h.1)
    have lt : i < all.length := by
      rw [List.length_cons] at hl
      omega
    have hd2 := hd
    rw [List.drop_eq_getElem_cons lt] at hd2
    injection hd2 with ey et
    obtain ⟨v, hv, ry⟩ := rv.get (List.getElem?_eq_getElem lt)
    rw [← ey] at ry
    have one : its.toArray[((i : Nat) : Int).toNat]? = some v := by simpa using hv
    have step := eq A.in1 pn t σ H y x v u _ sb.in1 I ry rx h.2
    obtain ⟨hp, g, d, tk, os⟩ := t
    wp_walk using wpAny_loadPart' e
    rw [one]
    refine wpAny_bind (wpAny_mono step (fun r t2 q => ?_) fun _ _ z => z)
    obtain ⟨H2, I2, q⟩ := q
    cases r with
    | true =>
      have fin : wants (toldB X pn σ Q) X.xe (.ok (.ret (.bool true))) t2 := ⟨true, H2, rfl, I2, q⟩
      obtain ⟨hp2, g2, d2, tk2, os2⟩ := t2
      wp_walk
      exact fin
    | false =>
      have more := ih (i + 1) H2 t2 et (by rw [List.length_cons] at hl; omega) I2 q
      have nx : ((i : Int) + 1) = ((i + 1 : Nat) : Int) := by omega
      obtain ⟨hp2, g2, d2, tk2, os2⟩ := t2
      wp_walk
      rw [nx]
      exact ⟨plainId_quiet plain_contains_loop _, codeAny_builtin entry_contains_loop (by
        rw [Around.under_plainId plain_contains_loop _]
        exact more)⟩
theorem in_call {H : Hp} {t : Shared} (eq : EqB X n R) (sb : Sub X (n + 1) A) (rx : RelV x u) (I : Inv X pn σ H t) (h : inAll R p all x all H Q) :
    wpAny (model X.prog X.w) A (call (.builtin "list.__contains__") [.ref p, u]) (toldB X pn σ Q) X.xe t := by
  obtain ⟨_, its, k, rv, e⟩ := (show ObjOk X.prog X.w H t.heap p (.lst all) from I.hok p _ h.at_)
  have go := in_loop (A := A) (p := p) eq sb rx all 0 H t rfl (by simp) I h
  refine GQ.call_here F.slot_list_contains ⟨_, e, rfl⟩ F.entry_list_contains (F.args_list_contains_2 _ _) ?_
  obtain ⟨hp, g, d, tk, os⟩ := t
  wp_walk using wpAny_loadPart' e
  exact ⟨plainId_quiet plain_contains_loop _, codeAny_builtin entry_contains_loop (by
    rw [Around.under_plainId plain_contains_loop _]
    exact go)⟩
/-- x in xs; with neg: x not in xs -/
def rInB (R : Rdg) (neg : Bool) : R2 := fun x y H Q => ∃ (p : Addr) (all : List V), y = .ref p ∧ inAll R p all x all H fun b H' => Q (.bl (if neg = true then !b else b)) H'
theorem op_inB (eq : EqB X n R) (hr : Room (n + 1) X.A) : OpR X (compareOp .In) (rInB R false) := by
  intro pn t σ H x y u v Q I rx ry h
  obtain ⟨p, all, rfl, h⟩ := h
  cases (show v = Value.ref p from ry)
  obtain ⟨_, its, k, rv, e⟩ := (show ObjOk X.prog X.w H t.heap p (.lst all) from I.hok p _ h.at_)
  show wpAny _ X.A (do return Value.bool (← contains (.ref p) u)) _ _ _
  refine wpAny_bind (wpAny_contains_slot ⟨_, e, rfl⟩ F.slot_list_contains (wpAny_mono (in_call eq ⟨hr, rfl⟩ rx I h) (fun r t' q => ?_) fun _ _ z => z))
  obtain ⟨b, H', rfl, I', q⟩ := q
  exact wpAny_truthy_bool (wpAny_pure ⟨.bl b, H', I', rfl, q⟩)
theorem op_notInB (eq : EqB X n R) (hr : Room (n + 1) X.A) : OpR X (compareOp .NotIn) (rInB R true) := by
  intro pn t σ H x y u v Q I rx ry h
  obtain ⟨p, all, rfl, h⟩ := h
  cases (show v = Value.ref p from ry)
  obtain ⟨_, its, k, rv, e⟩ := (show ObjOk X.prog X.w H t.heap p (.lst all) from I.hok p _ h.at_)
  show wpAny _ X.A (do return Value.bool (!(← contains (.ref p) u))) _ _ _
  refine wpAny_bind (wpAny_contains_slot ⟨_, e, rfl⟩ F.slot_list_contains (wpAny_mono (in_call eq ⟨hr, rfl⟩ rx I h) (fun r t' q => ?_) fun _ _ z => z))
  obtain ⟨b, H', rfl, I', q⟩ := q
  exact wpAny_truthy_bool (wpAny_pure ⟨.bl (!b), H', I', rfl, q⟩)
end
end OTR

set_option Elab.async false
set_option linter.all false
set_option maxRecDepth 100000
set_option maxHeartbeats 2000000
namespace OTR
open PySem PySem.Spec PyProof.Rows L2
open AutoSeq1 (wpAny_loadPart')
open MeetsSeq MeetsSeq2 MeetsSeq3 SeqRoads2 SeqAt
/-! ### != of an instance with an own __eq__ alone -/
section
variable {prog : Program} {w : World} {A : Around} {E : Value → Shared → Prop} {t : Shared} {K : PySem.W.Frag} {x C f : Addr} {ox : Obj} {od : Option Obj} {b tb : Value}
theorem ne_body {Q : Fin → Shared → Prop} (hu : A.units < cLine) (kin : K.In t.heap) (J : PySem.W.InstAt t.heap x ox C od) (hs : PySem.W.findIn K (.ref C) "__eq__" = some (some (.ref f))) (hf : PySem.W.isFn K (.ref f) = true)
    (h : wpAny (model prog w) A (call (.ref f) [.ref x, b]) (fun v t' => ∃ r, v = .bool r ∧ Q (.done (.ret (.bool (!r)))) t') E t) : wpAny (model prog w) A (Builtin.«object.__ne__» ⟨[.ref x, b], []⟩) Q E t := by
  unfold Builtin.«object.__ne__»
  repeat (first
    | with_reducible refine wpAny_cRoomFor hu ?_
    | (refine wpAny_bind (m := callSpecialIfBound? (.ref x) (Str.ofString "__eq__") [b]) (PySem.W.ifBound_K kin J hs hf (wpAny_mono h (fun r t' q => by
          obtain ⟨y, rfl, q⟩ := q
          repeat (first | exact q | exact wpAny_pure q | exact wpAny_truthy_bool q | (refine wpAny_bind (m := truthy (.bool _)) (wpAny_truthy_bool ?_)) | wp_step)) fun _ _ z => z)))
    | wp_step)
theorem ne_core {Q : Value → Shared → Prop} (hu : A.units + 1 < cLine) (kin : K.In t.heap) (J : PySem.W.InstAt t.heap x ox C od) (look : PySem.W.Looks (model prog w) t.heap (typeOf b) tb) (nf : PySem.W.notFirst K C tb = true) (hn : PySem.W.findIn K (.ref C) "__ne__" = some (some (.builtin "object.__ne__"))) (hm : PySem.W.mroIn K C (.type "object") = some true)
    (hs : PySem.W.findIn K (.ref C) "__eq__" = some (some (.ref f))) (hf : PySem.W.isFn K (.ref f) = true) (h : wpAny (model prog w) A.in1 (call (.ref f) [.ref x, b]) (fun v t' => ∃ r, v = .bool r ∧ Q (.bool (!r)) t') E t) : wpAny (model prog w) A (richCompare .NotEq (.ref x) b) Q E t := by
  have called : wpAny (model prog w) A (call (.builtin "object.__ne__") [.ref x, b]) (fun v t' => ∃ r, v = .bool r ∧ Q (.bool r) t') E t :=
    wpAny_call (codeAny_call_builtin F.cmp_object.ne.plain F.cmpEntry_ne (PySem.W.check_slot F.cmpKind_ne F.cmpSplit_ne (J.type.andThen (PySem.W.looks_mroIn kin hm)) (F.cmpArgs_ne _ _)
      (ne_body (A := A.in1) hu kin J hs hf (wpAny_mono h (fun v t' q => by
        obtain ⟨r, rfl, q⟩ := q
        exact ⟨r, rfl, _, rfl, q⟩) fun _ _ z => z))))
  have one : wpAny (model prog w) A (tryCompare (.ref x) "__ne__" b) (fun r t' => ∃ v, r = some (.bool v) ∧ Q (.bool v) t') E t := by
    unfold tryCompare
    refine wpAny_bind ?_
    simp only [callSpecialIfBound?, bindSpecialIfBound?]
    refine wpAny_holding (wpAny_bind (wpAny_bind (wpAny_bind (J.type.here ((PySem.W.looks_findIn kin hn).here ?_)))))
    refine wpAny_bind (wpAny_askSetting (wpAny_ite ?_))
    have fin : wpAny (model prog w) A (call (.builtin "object.__ne__") ([.ref x] ++ [b]) >>= fun v => pure (some v)) (fun r t' => wpAny (model prog w) A (match r with | some .notImplemented | none => pure none | some v => pure (some v)) (fun r t' => ∃ v, r = some (.bool v) ∧ Q (.bool v) t') E t') E t :=
      wpAny_bind (wpAny_mono called (fun v t' q => by
        obtain ⟨r, rfl, q⟩ := q
        exact wpAny_pure (wpAny_pure ⟨r, rfl, q⟩)) fun _ _ z => z)
    split
    · exact wpAny_bind (wpAny_of_eq (F.cmp_object.ne.bind _) (wpAny_pure (by exact fin)))
    · exact wpAny_tryCatch (wpAny_bind (wpAny_of_eq (F.cmp_object.ne.bind _) (wpAny_pure (by exact fin))))
  unfold richCompare
  simp only [oneThing_ref]
  refine wpAny_holding (wpAny_bind (wpAny_cRoomFor (Nat.lt_of_succ_lt hu) ?_))
  refine wpAny_bind (J.type.here (wpAny_bind (look.here ?_)))
  split
  · rename_i q
    have e : PySem.W.subIn K tb (.ref C) = some false := by
      rcases Bool.or_eq_true_iff.mp nf with e | e
      · rw [beq_iff_eq.mp e] at q
        simp at q
      · exact beq_iff_eq.mp e
    refine wpAny_bind ((PySem.W.looks_subIn kin e).here ?_)
    simp only [Bool.false_eq_true, if_false]
    refine wpAny_bind (wpAny_mono one (fun r t1 z => ?_) fun _ _ z => z)
    obtain ⟨v, rfl, z⟩ := z
    exact wpAny_pure z
  · refine wpAny_bind (wpAny_pure ?_)
    simp only [Bool.false_eq_true, if_false]
    refine wpAny_bind (wpAny_mono one (fun r t1 z => ?_) fun _ _ z => z)
    obtain ⟨v, rfl, z⟩ := z
    exact wpAny_pure z
end
section
variable {X : Cx} {n : Nat} {C f : Addr} {fd : FuncData} {ps : List Str} {sp : Sp} {R R' : Rdg}
def RNot (R : Rdg) : Rdg := fun x y H Q => R x y H fun b H' => Q (!b) H'
theorem rcB_ne (Fe : FnOk X.prog X.w X.K X.mg X.base CX0 n f fd ps sp) (hs : PySem.W.findIn X.K (.ref C) "__eq__" = some (some (.ref f))) (hf : PySem.W.isFn X.K (.ref f) = true) (hb : Binds X.K fd ps []) (hn : PySem.W.findIn X.K (.ref C) "__ne__" = some (some (.builtin "object.__ne__"))) (hm : PySem.W.mroIn X.K C (.type "object") = some true) : RcB X (n + 1) .NotEq (RNot (ROwn X.K C sp)) := by
  intro A pn t σ H x y u v Q sb I rx ry h
  obtain ⟨a, dx, fs, ty, rfl, ha, hy, nf, h⟩ := h
  have look := hy.looks I ry
  cases (show u = Value.ref a from rx)
  obtain ⟨m, J, _⟩ := ins_get I.hok ha
  obtain ⟨od, J, _⟩ := J.look
  refine ne_core (hu_of sb.room) I.kIn J look nf hn hm hs hf ?_
  refine wpAny_mono (run_own Fe hb sb.in1 I rx ry h) (fun r t' q => ?_) fun _ _ z => z
  obtain ⟨z, H', rz, I', b, rfl, q⟩ := q
  cases (show r = Value.bool b from rz)
  exact ⟨b, rfl, !b, H', rfl, I', q⟩
theorem RcB.or {op : CmpOp} (h : RcB X n op R) (h' : RcB X n op R') : RcB X n op (fun x y H Q => R x y H Q ∨ R' x y H Q) := fun A pn t σ H x y u v Q sb I rx ry d => by
  rcases d with d | d
  · exact h A pn t σ H x y u v Q sb I rx ry d
  · exact h' A pn t σ H x y u v Q sb I rx ry d
theorem RcB.mono {op : CmpOp} {m : Nat} (h : RcB X n op R) (le : n ≤ m) : RcB X m op R := fun A pn t σ H x y u v Q sb => h A pn t σ H x y u v Q (sb.mono le)
theorem EqB.mono {m : Nat} (h : EqB X n R) (le : n ≤ m) : EqB X m R := fun A pn t σ H x y u v Q sb => h A pn t σ H x y u v Q (sb.mono le)
/-- as an expression -/
def rCmpB (R : Rdg) : R2 := fun x y H Q => R x y H fun b H' => Q (.bl b) H'
theorem op_eqB (h : RcB X n .Eq R) (hr : Room n X.A) : OpR X (compareOp .Eq) (rCmpB R) := by
  intro pn t σ H x y u v Q I rx ry q
  show wpAny (model X.prog X.w) X.A (richCompare .Eq u v) (EP X pn σ Q) X.xe t
  refine wpAny_mono (h X.A pn t σ H x y u v _ ⟨hr, rfl⟩ I rx ry q) (fun r t' z => ?_) fun _ _ z => z
  obtain ⟨b, H', rfl, I', q⟩ := z
  exact ⟨.bl b, H', I', rfl, q⟩
theorem op_neB (h : RcB X n .NotEq R) (hr : Room n X.A) : OpR X (compareOp .NotEq) (rCmpB R) := by
  intro pn t σ H x y u v Q I rx ry q
  show wpAny (model X.prog X.w) X.A (richCompare .NotEq u v) (EP X pn σ Q) X.xe t
  refine wpAny_mono (h X.A pn t σ H x y u v _ ⟨hr, rfl⟩ I rx ry q) (fun r t' z => ?_) fun _ _ z => z
  obtain ⟨b, H', rfl, I', q⟩ := z
  exact ⟨.bl b, H', I', rfl, q⟩
end
end OTR

set_option Elab.async false
set_option linter.all false
set_option maxRecDepth 100000
set_option maxHeartbeats 2000000
namespace OTR
open PySem PySem.Spec PyProof.Rows L2
open AutoSeq1 (wpAny_loadPart')
open MeetsSeq MeetsSeq2 MeetsSeq3 SeqRoads2 SeqAt
/-! ### == and != of tuples, the items compared by their own __eq__ -/
def eqAll (R : Rdg) : List V → List V → Hp → (Bool → Hp → Prop) → Prop
  | [], [], H, Q => Q true H
  | x :: xs, y :: ys, H, Q => R x y H fun b H' => if b = true then eqAll R xs ys H' Q else Q false H'
  | _, _, H, Q => Q false H
def RTup (K : PySem.W.Frag) (R : Rdg) : Rdg := fun x y H Q => ∃ (a b : Addr) (xs ys : List V), x = .ref a ∧ y = .ref b ∧ SqT K H a xs ∧ SqT K H b ys ∧ eqAll R xs ys H Q
section
variable {X : Cx} {n : Nat} {R : Rdg} {pn : List (Addr × Obj)} {σ : L2.St} {A : Around} {E : Value → Shared → Prop}
theorem tup_eq_body {a b : Addr} {us vs : List Value} {xs ys : List V} {H : Hp} {t : Shared} {P : Fin → Shared → Prop} {Q : Bool → Hp → Prop} (eq : EqB X n R) (sb : Sub X n A) (I : Inv X pn σ H t) (ea : t.heap.IsTuple a us.toArray) (eb : t.heap.IsTuple b vs.toArray) (rx : Vals xs us) (ry : Vals ys vs)
    (h : eqAll R xs ys H Q) (k : ∀ r H' t', Inv X pn σ H' t' → Q r H' → P (.done (.ret (.bool r))) t') : wpAny (model X.prog X.w) A (Builtin.«tuple.__eq__» ⟨[.ref a, .ref b], []⟩) P X.xe t := by
  obtain ⟨oa, g1, c1, m1, d1⟩ := ea
  obtain ⟨ob, g2, c2, m2, d2⟩ := eb
  show wpAny _ _ (isInstance (.ref b) (.type "tuple") >>= _) _ _ t
  refine wpAny_bind (wpAny_isInstance ⟨ob, g2, c2⟩ isSubtype_tuple_tuple ?_)
  simp only [Bool.not_true, Bool.false_eq_true, if_false]
  refine wpAny_bind (wpAny_tupleItemsOf g1 d1 ?_)
  refine wpAny_bind (wpAny_tupleItemsOf g2 d2 ?_)
  refine wpAny_bind ?_
  refine wpAny_forIn_list _ (fun rest r t' => r.1 = none ∧ ∃ (xs' ys' : List V) (us' vs' : List Value) (H' : Hp), rest = List.zip us' vs' ∧ Vals xs' us' ∧ Vals ys' vs' ∧ Inv X pn σ H' t' ∧ eqAll R xs' ys' H' Q ∧ (us'.length == vs'.length) = (us.toArray.size == vs.toArray.size))
    _ ?_ ?_ _ _ ⟨rfl, xs, ys, us, vs, H, rfl, rx, ry, I, h, by simp⟩
  · rintro ⟨u, v⟩ rest r t' ⟨hr, xs', ys', us', vs', H', hz, q1, q2, I', h', len⟩
    cases q1 with
    | nil => simp at hz
    | @cons x u' xs'' us'' p1 q1 =>
      cases q2 with
      | nil => simp at hz
      | @cons y v' ys'' vs'' p2 q2 =>
        simp only [List.zip_cons_cons, List.cons.injEq, Prod.mk.injEq] at hz
        obtain ⟨⟨rfl, rfl⟩, rfl⟩ := hz
        refine wpAny_bind (wpAny_mono (eq A pn t' σ H' x y _ _ _ sb I' p1 p2 h') (fun r2 t2 q => ?_) fun _ _ z => z)
        obtain ⟨H2, I2, q⟩ := q
        cases r2 with
        | true =>
          simp only [Bool.not_true, Bool.false_eq_true, if_false]
          exact wpAny_pure ⟨rfl, xs'', ys'', us'', vs'', H2, rfl, q1, q2, I2, q, by simpa using len⟩
        | false =>
          simp only [Bool.not_false, if_true]
          exact wpAny_bind (wpAny_pure (wpAny_pure (wpAny_pure (k false H2 t2 I2 q))))
  · rintro ⟨r1, r2⟩ t' ⟨hr, xs', ys', us', vs', H', hz, q1, q2, I', h', len⟩
    simp only at hr
    subst hr
    refine wpAny_pure ?_
    show P (.done (.ret (.bool (us.toArray.size == vs.toArray.size)))) t'
    rw [← len]
    cases q1 with
    | nil =>
      cases q2 with
      | nil => exact k true H' t' I' h'
      | cons _ _ => exact k false H' t' I' h'
    | cons _ _ =>
      cases q2 with
      | nil => exact k false H' t' I' h'
      | cons _ _ => simp at hz
theorem tup_ne_body {a b : Addr} {us vs : List Value} {xs ys : List V} {H : Hp} {t : Shared} {P : Fin → Shared → Prop} {Q : Bool → Hp → Prop} (eq : EqB X n R) (sb : Sub X n A) (I : Inv X pn σ H t) (ea : t.heap.IsTuple a us.toArray) (eb : t.heap.IsTuple b vs.toArray) (rx : Vals xs us) (ry : Vals ys vs)
    (h : eqAll R xs ys H Q) (k : ∀ r H' t', Inv X pn σ H' t' → Q r H' → P (.done (.ret (.bool (!r)))) t') : wpAny (model X.prog X.w) A (Builtin.«tuple.__ne__» ⟨[.ref a, .ref b], []⟩) P X.xe t := by
  obtain ⟨oa, g1, c1, m1, d1⟩ := ea
  obtain ⟨ob, g2, c2, m2, d2⟩ := eb
  show wpAny _ _ (isInstance (.ref b) (.type "tuple") >>= _) _ _ t
  refine wpAny_bind (wpAny_isInstance ⟨ob, g2, c2⟩ isSubtype_tuple_tuple ?_)
  simp only [Bool.not_true, Bool.false_eq_true, if_false]
  refine wpAny_bind (wpAny_tupleItemsOf g1 d1 ?_)
  refine wpAny_bind (wpAny_tupleItemsOf g2 d2 ?_)
  refine wpAny_bind ?_
  refine wpAny_forIn_list _ (fun rest r t' => r.1 = none ∧ ∃ (xs' ys' : List V) (us' vs' : List Value) (H' : Hp), rest = List.zip us' vs' ∧ Vals xs' us' ∧ Vals ys' vs' ∧ Inv X pn σ H' t' ∧ eqAll R xs' ys' H' Q ∧ (us'.length == vs'.length) = (us.toArray.size == vs.toArray.size))
    _ ?_ ?_ _ _ ⟨rfl, xs, ys, us, vs, H, rfl, rx, ry, I, h, by simp⟩
  · rintro ⟨u, v⟩ rest r t' ⟨hr, xs', ys', us', vs', H', hz, q1, q2, I', h', len⟩
    cases q1 with
    | nil => simp at hz
    | @cons x u' xs'' us'' p1 q1 =>
      cases q2 with
      | nil => simp at hz
      | @cons y v' ys'' vs'' p2 q2 =>
        simp only [List.zip_cons_cons, List.cons.injEq, Prod.mk.injEq] at hz
        obtain ⟨⟨rfl, rfl⟩, rfl⟩ := hz
        refine wpAny_bind (wpAny_mono (eq A pn t' σ H' x y _ _ _ sb I' p1 p2 h') (fun r2 t2 q => ?_) fun _ _ z => z)
        obtain ⟨H2, I2, q⟩ := q
        cases r2 with
        | true =>
          simp only [Bool.not_true, Bool.false_eq_true, if_false]
          exact wpAny_pure ⟨rfl, xs'', ys'', us'', vs'', H2, rfl, q1, q2, I2, q, by simpa using len⟩
        | false =>
          simp only [Bool.not_false, if_true]
          exact wpAny_bind (wpAny_pure (wpAny_pure (wpAny_pure (k false H2 t2 I2 q))))
  · rintro ⟨r1, r2⟩ t' ⟨hr, xs', ys', us', vs', H', hz, q1, q2, I', h', len⟩
    simp only at hr
    subst hr
    refine wpAny_pure ?_
    show P (.done (.ret (.bool (us.toArray.size != vs.toArray.size)))) t'
    show P (.done (.ret (.bool (!(us.toArray.size == vs.toArray.size))))) t'
    rw [← len]
    cases q1 with
    | nil =>
      cases q2 with
      | nil => exact k true H' t' I' h'
      | cons _ _ => exact k false H' t' I' h'
    | cons _ _ =>
      cases q2 with
      | nil => exact k false H' t' I' h'
      | cons _ _ => simp at hz
theorem rcB_tup (eq : EqB X n R) : RcB X (n + 1) .Eq (RTup X.K R) := by
  intro A pn t σ H x y u v Q sb I rx ry h
  obtain ⟨a, b, xs, ys, rfl, rfl, ha, hb, h⟩ := h
  cases (show u = Value.ref a from rx)
  cases (show v = Value.ref b from ry)
  obtain ⟨us, r1, e1, _⟩ := I.tuple ha
  obtain ⟨vs, r2, e2, _⟩ := I.tuple hb
  refine wpAny_richCompare_same_room (op := .Eq) (T := "tuple") (let ⟨o, k1, k2, _⟩ := e1; ⟨o, k1, k2⟩) (let ⟨o, k1, k2, _⟩ := e2; ⟨o, k1, k2⟩) F.slot_tuple_eq (GQ.call_here F.slot_tuple_eq (let ⟨o, k1, k2, _⟩ := e1; ⟨o, k1, k2⟩) F.entry_tuple_eq (F.args_tuple_eq_2 _ _) ?_) sb.room.units0
  exact tup_eq_body eq sb.in1 I e1 e2 r1 r2 h fun r H' t' I' q => ⟨(fun z => nomatch z), r, H', rfl, I', q⟩
theorem rcB_tupNe (eq : EqB X n R) : RcB X (n + 1) .NotEq (RNot (RTup X.K R)) := by
  intro A pn t σ H x y u v Q sb I rx ry h
  obtain ⟨a, b, xs, ys, rfl, rfl, ha, hb, h⟩ := h
  cases (show u = Value.ref a from rx)
  cases (show v = Value.ref b from ry)
  obtain ⟨us, r1, e1, _⟩ := I.tuple ha
  obtain ⟨vs, r2, e2, _⟩ := I.tuple hb
  refine wpAny_richCompare_same_room (op := .NotEq) (T := "tuple") (let ⟨o, k1, k2, _⟩ := e1; ⟨o, k1, k2⟩) (let ⟨o, k1, k2, _⟩ := e2; ⟨o, k1, k2⟩) F.slot_tuple_ne (GQ.call_here F.slot_tuple_ne (let ⟨o, k1, k2, _⟩ := e1; ⟨o, k1, k2⟩) F.entry_tuple_ne (F.args_tuple_ne_2 _ _) ?_) sb.room.units0
  exact tup_ne_body eq sb.in1 I e1 e2 r1 r2 h fun r H' t' I' q => ⟨(fun z => nomatch z), !r, H', rfl, I', q⟩
end
end OTR

set_option Elab.async false
set_option linter.all false
set_option maxRecDepth 100000
set_option maxHeartbeats 2000000
namespace OT
open PySem L2 OTR
abbrev sRoadE : Stmt := inClass (top 15) 1
abbrev sTreeE : Stmt := inClass (top 16) 1
abbrev sPlaceE : Stmt := inClass (top 23) 1
theorem hasTyx {K : PySem.W.Frag} {H : Hp} {x : V} {T : String} (h : HasT H x (.type T)) : TyX K H x (.type T) := by
  cases h with
  | non => exact .base .non
  | tup e => exact .base (.tup e)
  | lst e => exact .base (.lst e)
/-- None, a tuple, a list -/
def oth (T : String) : Prop := T = "NoneType" ∨ T = "tuple" ∨ T = "list"
theorem hasT_oth {H : Hp} {x : V} {T : String} (h : HasT H x (.type T)) : oth T := by
  cases h with
  | non => exact .inl rfl
  | tup e => exact .inr (.inl rfl)
  | lst e => exact .inr (.inr rfl)
/-- a class with an own __eq__ -/
structure QC (K : PySem.W.Frag) (C f : Addr) : Prop where
  cl : Cls K C
  ha : PySem.W.findIn K (.ref C) "__class__" = some (some (.builtin "object.__class__"))
  hn : PySem.W.specialIn K (.builtin "object.__class__") "__get__" = some (some (.builtin "getset_descriptor.__get__"))
  ht : PySem.W.takesIn K (.builtin "object.__class__") = some true
  hm : PySem.W.mroIn K C (.type "object") = some true
  eq : PySem.W.findIn K (.ref C) "__eq__" = some (some (.ref f))
  fn : PySem.W.isFn K (.ref f) = true
  ne : PySem.W.findIn K (.ref C) "__ne__" = some (some (.builtin "object.__ne__"))
  kit : ∀ T, oth T → PySem.W.kitOne K (.type T) (.ref C) = some false
  nf : ∀ T, oth T → PySem.W.notFirst K C (.type T) = true
  sub : ∀ T, oth T → PySem.W.subIn K (.ref C) (.type T) = some false
theorem kit_same {K : PySem.W.Frag} {C : Addr} : PySem.W.kitOne K (.ref C) (.ref C) = some true := by
  unfold PySem.W.kitOne
  rw [if_pos (by simp)]
theorem nf_same {K : PySem.W.Frag} {C : Addr} : PySem.W.notFirst K C (.ref C) = true := by
  unfold PySem.W.notFirst
  simp
theorem QC.tyx {K : PySem.W.Frag} {C f : Addr} (c : QC K C f) {H : Hp} {a dx : Addr} {fs : List (Str × V)} (e : H a = some (.ins C dx fs)) : TyX K H (.ref a) (.ref C) := .base (.ins e c.cl c.ha c.hn c.ht c.hm)
theorem iteB {α : Prop} {β : Prop} {c : Bool} (h : c = true → α) (h' : c = false → β) : if c = true then α else β := by
  cases c with
  | true => exact h rfl
  | false => exact h' rfl
theorem iteV {α β : Prop} {i j : Int} (h : i = j) (x : α) : if decide (V.int i = V.int j) = true then α else β := by
  rw [if_pos (decide_eq_true (by rw [h]))]
  exact x
theorem iteN {α β : Prop} {i j : Int} (h : i ≠ j) (x : β) : if decide (V.int i = V.int j) = true then α else β := by
  rw [if_neg (by rw [decide_eq_false (fun z => h (V.int.inj z))]; exact Bool.false_ne_true)]
  exact x
/-- Road.__eq__ -/
def spRoadE (C : Addr) : Sp := fun vs H Q _ => ∃ (a dx : Addr) (r : Fact) (y : V), vs = [.ref a, y] ∧ H a = some (.ins C dx (rdF r)) ∧ ((∃ (b dy : Addr) (r' : Fact), y = .ref b ∧ H b = some (.ins C dy (rdF r')) ∧ Q (.bl (decide (r = r'))) H) ∨ ((∃ T, HasT H y (.type T)) ∧ Q (.bl false) H))
section
variable {P : Program} {w : World} {K : PySem.W.Frag} {mg : Str → Option Value} {base : Heap}
theorem scRoadE : FnScope ["self", "other"] ["self", "other"] (defScope sRoadE) := ⟨rfl, rfl, rfl, by decide +kernel, rfl, by decide +kernel, by decide +kernel⟩
theorem ok_roadE {f C fe : Addr} {fd : FuncData} (F : Fun K "__eq__" "Road.__eq__" sRoadE f fd) (T : RdT K mg C) (c : QC K C fe) (hIs : mg "isinstance" = none) : FnOk P w K mg base CX0 1 f fd ["self", "other"] (spRoadE C) := by
  refine F.ok scRoadE (fun vs H Q E h => ?_) (fun cdv A outer s H vs Q E hr h => ?_)
  · obtain ⟨a, dx, r, y, rfl, _⟩ := h
    rfl
  · obtain ⟨a, dx, r, y, rfl, ea, h⟩ := h
    refine ⟨_, pss_one (ps_ret (pe_and (pe_callB call_isi (by rfl) hIs (by decide +kernel) (pa_cons (pv 1) (pa_cons (pe_glob (v := V.ref C) rfl T.mgC rfl) pa_nil)))
      (pe_and (pe_cmpR op_eq (pe_fld (pv 0) rfl) (pe_fld (pv 1) rfl) (nomark _)) (pe_and (pe_cmpR op_eq (pe_fld (pv 0) rfl) (pe_fld (pv 1) rfl) (nomark _)) (pe_one (pe_cmpR op_eq (pe_fld (pv 0) rfl) (pe_fld (pv 1) rfl) (nomark _))))))), ?_⟩
    rcases h with ⟨b, dy, r', rfl, eb, k⟩ | ⟨⟨ty, hy⟩, k⟩
    · refine ⟨_, rfl, _, _, _, _, true, rfl, .own C, c.tyx eb, kit_same, _, rfl, ?_⟩
      refine iteT ⟨_, rfl, a, C, dx, _, _, rfl, ea, T.cl, T.nA, rdF_a r, _, rfl, b, C, dy, _, _, rfl, eb, T.cl, T.nA, rdF_a r', rfl, _, rfl, ?_⟩
      by_cases h1 : r.1 = r'.1
      · refine iteV h1 ⟨_, rfl, a, C, dx, _, _, rfl, ea, T.cl, T.nB, rdF_b r, _, rfl, b, C, dy, _, _, rfl, eb, T.cl, T.nB, rdF_b r', rfl, _, rfl, ?_⟩
        by_cases h2 : r.2.1 = r'.2.1
        · refine iteV h2 ⟨_, rfl, a, C, dx, _, _, rfl, ea, T.cl, T.nL, rdF_l r, _, rfl, b, C, dy, _, _, rfl, eb, T.cl, T.nL, rdF_l r', rfl, ?_⟩
          have e : decide (V.int r.2.2 = V.int r'.2.2) = decide (r = r') := by
            rw [decide_eq_decide]
            exact ⟨fun z => Prod.ext h1 (Prod.ext h2 (V.int.inj z)), fun z => by rw [z]⟩
          rw [e]
          exact k
        · refine iteN h2 ?_
          rw [decide_eq_false (fun z : r = r' => h2 (by rw [z]))] at k
          exact k
      · refine iteN h1 ?_
        rw [decide_eq_false (fun z : r = r' => h1 (by rw [z]))] at k
        exact k
    · exact ⟨_, rfl, _, _, _, _, false, rfl, .own C, hasTyx hy, c.kit _ (hasT_oth hy), _, rfl, iteF k⟩
end
end OT

namespace OT
/-! ### a tree with one road changed, not its ends -/
def SameEnds (r r' : Fact) : Prop := (r'.1 = r.1 ∧ r'.2.1 = r.2.1) ∨ (r'.1 = r.2.1 ∧ r'.2.1 = r.1)
theorem SameEnds.refl (r : Fact) : SameEnds r r := .inl ⟨rfl, rfl⟩
theorem SameEnds.symm {r r' : Fact} (h : SameEnds r r') : SameEnds r' r := h.elim (fun ⟨a, b⟩ => .inl ⟨a.symm, b.symm⟩) fun ⟨a, b⟩ => .inr ⟨b.symm, a.symm⟩
theorem SameEnds.jn {r r' : Fact} {x y : Int} (h : SameEnds r r') (j : Jn r x y) : Jn r' x y := by
  rcases h with ⟨a, b⟩ | ⟨a, b⟩
  · exact j.elim (fun ⟨c, d⟩ => .inl ⟨a.trans c, b.trans d⟩) fun ⟨c, d⟩ => .inr ⟨a.trans c, b.trans d⟩
  · exact j.elim (fun ⟨c, d⟩ => .inr ⟨a.trans d, b.trans c⟩) fun ⟨c, d⟩ => .inl ⟨a.trans d, b.trans c⟩
theorem Con.sim {F G : List Fact} (s : ∀ r ∈ F, ∃ r' ∈ G, SameEnds r r') {x y : Int} (h : Con F x y) : Con G x y := by
  induction h with
  | refl => exact .refl _
  | step _ m j ih =>
    obtain ⟨r', m', e⟩ := s _ m
    exact .step ih m' (e.jn j)
theorem noRing_sim {fs gs : List Fact} (hl : fs.length = gs.length) (h : ∀ (i : Nat) (r r' : Fact), fs[i]? = some r → gs[i]? = some r' → SameEnds r r') (nr : NoRing fs) : NoRing gs := by
  intro i r' hi c
  have li : i < fs.length := by rw [hl]; exact (List.getElem?_eq_some_iff.mp hi).1
  have gi : fs[i]? = some fs[i] := List.getElem?_eq_getElem li
  have e := h i _ _ gi hi
  have c' : Con (fs.eraseIdx i) r'.1 r'.2.1 := c.sim fun g hg => by
    obtain ⟨k, nk, ek⟩ := List.mem_eraseIdx_iff_getElem?.mp hg
    have lk : k < fs.length := by rw [hl]; exact (List.getElem?_eq_some_iff.mp ek).1
    have gk : fs[k]? = some fs[k] := List.getElem?_eq_getElem lk
    exact ⟨fs[k], List.mem_eraseIdx_iff_getElem?.mpr ⟨k, nk, gk⟩, (h k _ _ gk ek).symm⟩
  rcases e with ⟨a, b⟩ | ⟨a, b⟩
  · rw [a, b] at c'
    exact nr i _ gi c'
  · rw [a, b] at c'
    exact nr i _ gi c'.symm
theorem Drawn.ends_ne {most long n : Int} {fs : List Fact} (d : Drawn most long n fs) {r : Fact} (m : r ∈ fs) : r.1 ≠ r.2.1 := by
  obtain ⟨i, hi, e⟩ := List.getElem_of_mem m
  have g : fs[i]? = some r := by rw [List.getElem?_eq_getElem hi, e]
  intro z
  refine d.nr i r g ?_
  rw [z]
  exact .refl _
theorem set_parts {α : Type} {l : List α} {j : Nat} {a : α} (h : j < l.length) : l.take j ++ [a] ++ l.drop (j + 1) = l.set j a := by
  rw [List.set_eq_take_append_cons_drop, if_pos h]
  simp
theorem Drawn.change {most long n : Int} {fs : List Fact} {j : Nat} {r r' : Fact} (d : Drawn most long n fs) (h24 : most ≤ 24) (hl : long ≤ 1000000000) (hj : fs[j]? = some r) (e : SameEnds r r') (b : 1 ≤ r'.2.2 ∧ r'.2.2 ≤ 1000000000) : OT.due n (fs.set j r') = none := by
  have lj := (List.getElem?_eq_some_iff.mp hj).1
  have nr : NoRing (fs.set j r') := noRing_sim (by simp) (fun i q q' h1 h2 => by
    rw [List.getElem?_set] at h2
    by_cases z : j = i
    · subst z
      rw [if_pos rfl, if_pos lj] at h2
      rw [hj] at h1
      cases h1
      cases h2
      exact e
    · rw [if_neg z, h1] at h2
      cases h2
      exact .refl _) d.nr
  have len := d.len
  have lo := d.lo
  have hi := d.hi
  unfold OT.due
  rw [if_neg (fun z => z ⟨lo, by omega⟩), if_neg (fun z => z (by rw [List.length_set]; exact len))]
  refine noRing_due nr fun q hq => ?_
  rcases List.mem_or_eq_of_mem_set hq with hq | rfl
  · obtain ⟨x, y, z, w⟩ := d.ok q hq
    exact ⟨x, y, z, by omega⟩
  · obtain ⟨x, y, _⟩ := d.ok r (List.mem_of_getElem? hj)
    rcases e with ⟨a, c⟩ | ⟨a, c⟩
    · rw [a, c]
      exact ⟨x, y, b⟩
    · rw [a, c]
      exact ⟨y, x, b⟩
theorem set_ne {α : Type} {l : List α} {j : Nat} {a b : α} (h : l[j]? = some a) (n : b ≠ a) : l ≠ l.set j b := by
  intro z
  have lj := (List.getElem?_eq_some_iff.mp h).1
  have e : (l.set j b)[j]? = some b := by rw [List.getElem?_set, if_pos rfl, if_pos lj]
  rw [← z, h] at e
  exact n (Option.some.inj e).symm
/-! ### fractions in lowest terms -/
def gcdI (a b : Int) : Int := ((Nat.gcd a.natAbs b.natAbs : Nat) : Int)
/-- number / parts in lowest terms -/
def low (r : Fact) : Fact := (r.1, r.2.1 / gcdI r.2.1 r.2.2, r.2.2 / gcdI r.2.1 r.2.2)
theorem gcd_pos {a b : Int} (h : 1 ≤ b) : 0 < gcdI a b := by
  have : 0 < Nat.gcd a.natAbs b.natAbs := Nat.gcd_pos_of_pos_right _ (by omega)
  unfold gcdI
  omega
theorem gcd_log {a b : Int} (h : 1 ≤ b) (k : b.natAbs.log2 < 9000) : (gcdI a b).natAbs.log2 < 9000 := by
  have p := gcd_pos (a := a) h
  have l : Nat.gcd a.natAbs b.natAbs ≤ b.natAbs := Nat.gcd_le_right _ (by omega)
  have e : (gcdI a b).natAbs = Nat.gcd a.natAbs b.natAbs := by
    unfold gcdI
    omega
  rw [e]
  have n1 : Nat.gcd a.natAbs b.natAbs ≠ 0 := by omega
  have n2 : b.natAbs ≠ 0 := by omega
  rw [Nat.log2_lt n1]
  rw [Nat.log2_lt n2] at k
  omega
theorem gcdI_left (a b : Int) : gcdI a b ∣ a := Int.gcd_dvd_left a b
theorem gcdI_right (a b : Int) : gcdI a b ∣ b := Int.gcd_dvd_right a b
theorem gcdI_step {x y : Int} (hx : 0 ≤ x) (hy : 0 < y) : gcdI y (x % y) = gcdI x y := by
  obtain ⟨m, rfl⟩ := Int.eq_ofNat_of_zero_le hx
  obtain ⟨k, rfl⟩ := Int.eq_ofNat_of_zero_le (Int.le_of_lt hy)
  unfold gcdI
  have e : (((m : Nat) : Int) % ((k : Nat) : Int)).natAbs = m % k := by
    rw [← Int.natCast_emod]
    rfl
  rw [e]
  show ((Nat.gcd k (m % k) : Nat) : Int) = ((Nat.gcd m k : Nat) : Int)
  rw [Nat.gcd_comm m k, Nat.gcd_rec k m, Nat.gcd_comm]
theorem gcdI_zero {x : Int} (hx : 0 ≤ x) : gcdI x 0 = x := by
  unfold gcdI
  rw [show (0 : Int).natAbs = 0 from rfl, Nat.gcd_zero_right]
  omega
theorem gcdI_abs (a b : Int) : gcdI (if a < 0 then -a else a) (if b < 0 then -b else b) = gcdI a b := by
  unfold gcdI
  have h1 : (if a < 0 then -a else a).natAbs = a.natAbs := by split <;> omega
  have h2 : (if b < 0 then -b else b).natAbs = b.natAbs := by split <;> omega
  rw [h1, h2]
theorem low_mul {a n s : Int} (k : Int) (hk : 0 < k) : low (a, n * k, s * k) = low (a, n, s) := by
  have e : gcdI (n * k) (s * k) = gcdI n s * k := by
    unfold gcdI
    rw [Int.natAbs_mul, Int.natAbs_mul, Nat.gcd_mul_right, Int.natCast_mul]
    congr 1
    omega
  unfold low
  simp only
  rw [e, Int.mul_ediv_mul_of_pos_left n _ hk, Int.mul_ediv_mul_of_pos_left s _ hk]
theorem back_of {x g : Int} (h : g ∣ x) : x = x / g * g := (Int.ediv_mul_cancel h).symm
theorem low_next {a n s : Int} (hs : 1 ≤ s) : low (a, n, s) ≠ low (a, n + 1, s) := by
  intro z
  unfold low at z
  simp only [Prod.mk.injEq, true_and] at z
  obtain ⟨z1, z2⟩ := z
  have a1 := back_of (gcdI_left n s)
  have a2 := back_of (gcdI_right n s)
  have b1 := back_of (gcdI_left (n + 1) s)
  have b2 := back_of (gcdI_right (n + 1) s)
  generalize gcdI n s = g at *
  generalize gcdI (n + 1) s = g' at *
  rw [← z1] at b1
  rw [← z2] at b2
  have q0 : s / g ≠ 0 := fun q => by rw [q, Int.zero_mul] at a2; omega
  have e : g = g' := Int.eq_of_mul_eq_mul_left q0 (a2.symm.trans b2)
  rw [← e] at b1
  omega
theorem low_den {a n s : Int} (hs : 1 ≤ s) : low (a, n, s) = low (a, n, s + 1) ↔ n = 0 := by
  constructor
  · intro z
    unfold low at z
    simp only [Prod.mk.injEq, true_and] at z
    obtain ⟨z1, z2⟩ := z
    have a1 := back_of (gcdI_left n s)
    have a2 := back_of (gcdI_right n s)
    have b1 := back_of (gcdI_left n (s + 1))
    have b2 := back_of (gcdI_right n (s + 1))
    generalize gcdI n s = g at *
    generalize gcdI n (s + 1) = g' at *
    rw [← z1] at b1
    rw [← z2] at b2
    by_cases n0 : n = 0
    · exact n0
    · have q0 : n / g ≠ 0 := fun q => by rw [q, Int.zero_mul] at a1; omega
      have e : g = g' := Int.eq_of_mul_eq_mul_left q0 (a1.symm.trans b1)
      rw [← e] at b2
      omega
  · intro e
    subst e
    have k : ∀ t : Int, 1 ≤ t → low (a, 0, t) = (a, 0, 1) := fun t ht => by
      have g : gcdI 0 t = t := by
        unfold gcdI
        rw [show (0 : Int).natAbs = 0 from rfl, Nat.gcd_zero_left]
        omega
      unfold low
      simp only
      rw [g, Int.zero_ediv, Int.ediv_self (by omega)]
    rw [k s hs, k (s + 1) (by omega)]
end OT

set_option Elab.async false
set_option linter.all false
set_option maxRecDepth 100000
set_option maxHeartbeats 2000000
namespace OT
open PySem L2 OTR
abbrev sPlaceI : Stmt := inClass (top 23) 0
structure PlT (K : PySem.W.Frag) (mg : Str → Option Value) (C : Addr) : Prop where
  cl : Cls K C
  nR : NoAttr K C "road"
  nN : NoAttr K C "number"
  nP : NoAttr K C "parts"
  mgC : mg "Place" = some (.ref C)
/-- a place: road, number, parts -/
def plF (r : Fact) : List (Str × V) := [("road", .int r.1), ("number", .int r.2.1), ("parts", .int r.2.2)]
theorem plF_r (r : Fact) : (plF r).lookup ("road" : Str) = some (.int r.1) := lk0
theorem plF_n (r : Fact) : (plF r).lookup ("number" : Str) = some (.int r.2.1) := by
  unfold plF
  rw [lk1 (by decide +kernel)]
  exact lk0
theorem plF_p (r : Fact) : (plF r).lookup ("parts" : Str) = some (.int r.2.2) := by
  unfold plF
  rw [lk1 (by decide +kernel), lk1 (by decide +kernel)]
  exact lk0
theorem plF_put1 (r : Fact) : putF "number" (.int r.2.1) (putF "road" (.int r.1) []) = ([("road", V.int r.1), ("number", V.int r.2.1)] : List (Str × V)) := by
  have h1 : ¬ (("road" : Str) = "number") := by decide +kernel
  show (if ("road" : Str) = "number" then _ else (("road" : Str), V.int r.1) :: putF "number" (.int r.2.1) []) = _
  rw [if_neg h1]
  rfl
theorem plF_put (r : Fact) : putF "parts" (.int r.2.2) (putF "number" (.int r.2.1) (putF "road" (.int r.1) [])) = plF r := by
  rw [plF_put1]
  have h2 : ¬ (("road" : Str) = "parts") := by decide +kernel
  have h3 : ¬ (("number" : Str) = "parts") := by decide +kernel
  show (if ("road" : Str) = "parts" then _ else (("road" : Str), V.int r.1) :: (if ("number" : Str) = "parts" then _ else (("number" : Str), V.int r.2.1) :: putF "parts" (.int r.2.2) [])) = plF r
  rw [if_neg h2, if_neg h3]
  rfl
def PlaceAt (C : Addr) (H : Hp) (p : Addr) (r : Fact) : Prop := ∃ dx, H p = some (.ins C dx (plF r))
theorem PlaceAt.same {C : Addr} {H H' : Hp} {p : Addr} {r : Fact} (h : PlaceAt C H p r) (s : Same H H') : PlaceAt C H' p r := let ⟨dx, e⟩ := h; ⟨dx, s _ _ e⟩
/-- Place(road, number, parts): its __init__ -/
def spPlaceI (C CB : Addr) : Sp := fun vs H Q E => ∃ (p dx : Addr) (r : Fact), vs = [.ref p, .int r.1, .int r.2.1, .int r.2.2] ∧ H p = some (.ins C dx []) ∧
  (r.2.2 < 1 → Raised CB [("count", .int r.2.2), ("what", .str "parts")] H E) ∧
  (1 ≤ r.2.2 → r.2.2.natAbs.log2 < 9000 ∧ ∀ H', PlaceAt C H' p (low r) → (∀ b o, H b = some o → b ≠ p → H' b = some o) → Q .non H')
section
variable {P : Program} {w : World} {K : PySem.W.Frag} {mg : Str → Option Value} {base : Heap}
theorem scPlaceI : FnScope ["self", "road", "number", "parts", "shared"] ["self", "road", "number", "parts"] (defScope sPlaceI) := ⟨rfl, rfl, rfl, by decide +kernel, rfl, by decide +kernel, by decide +kernel⟩
theorem ok_placeI {f C CB fB : Addr} {fd fdB : FuncData} (F : Fun K "__init__" "Place.__init__" sPlaceI f fd) (T : PlT K mg C) (TB : ErT K mg "BadCount" CB fB)
    (FB : FnOk P w K mg base CX0 1 fB fdB ["self", "what", "count"] (spEr2 CB "what" "count")) (bB : Binds K fdB ["self", "what", "count"] []) (hG : mg "gcd" = some (.builtin "math.gcd")) :
    FnOk P w K mg base (L2.CX P w) 3 f fd ["self", "road", "number", "parts"] (spPlaceI C CB) := by
  refine F.okX scPlaceI (fun vs H Q E h => ?_) (fun cdv A outer s H vs Q E hr h => ?_)
  · obtain ⟨p, dx, r, rfl, _⟩ := h
    rfl
  · obtain ⟨p, dx, r, rfl, hp, kE, kQ⟩ := h
    refine ⟨_, pss_cons (ps_if (pt_cmpR op_lt (pv 3) pe_int (nomark _)) (pss_one (ps_raise rfl (takes_of rfl rfl rfl rfl) (pmk_oex TB.ox TB.iC TB.tI FB hr bB .nil pass0 (by rfl) TB.gC (pa_cons pe_str (pa_cons (pv 3) pa_nil))))) pss_nil)
      (pss_cons (ps_set (i := 4) scPlaceI.nd rfl (Or.inl rfl) (pe_callBfun cr_gcd (by rfl) hG (pa_cons (pv 2) (pa_cons (pv 3) pa_nil))))
      (pss_cons (ps_fld (pv 0) (pv 1) rfl) (pss_cons (ps_fld (pv 0) (pe_op op_fdivW (pv 2) (pv 4)) rfl) (pss_one (ps_fld (pv 0) (pe_op op_fdivW (pv 3) (pv 4)) rfl))))), ?_⟩
    refine ⟨_, rfl, _, _, rfl, rfl, _, rfl, ?_⟩
    by_cases h1 : r.2.2 < 1
    · rw [decide_eq_true h1]
      exact iteT ⟨_, rfl, len2, fun a ha => er2 ha (kE h1)⟩
    · rw [decide_eq_false h1]
      obtain ⟨lg, k⟩ := kQ (by omega)
      have g0 := gcd_pos (a := r.2.1) (b := r.2.2) (by omega)
      have gl := gcd_log (a := r.2.1) (b := r.2.2) (by omega) lg
      refine iteF ?_
      refine ⟨_, rfl, _, rfl, _, _, rfl, ?_⟩
      refine ⟨_, rfl, _, rfl, p, C, dx, [], rfl, hp, T.cl, T.nR, (by show 0 < 1000; decide), ?_⟩
      refine ⟨_, rfl, _, rfl, _, _, rfl, rfl, ⟨g0, gl⟩, _, rfl, p, C, dx, _, rfl, upd_same, T.cl, T.nN, (by show 1 < 1000; decide), ?_⟩
      refine ⟨_, rfl, _, rfl, _, _, rfl, rfl, ⟨g0, gl⟩, _, rfl, p, C, dx, _, rfl, upd_same, T.cl, T.nP, ?_, ?_⟩
      · show (putF "number" (.int (low r).2.1) (putF "road" (.int (low r).1) [])).length < 1000
        rw [plF_put1 (low r)]
        show 2 < 1000
        decide
      · refine k _ ⟨dx, ?_⟩ fun b o e n => ?_
        · rw [← plF_put (low r)]
          exact upd_same
        · rw [upd_ne n, upd_ne n, upd_ne n]
          exact e
theorem scPlaceE : FnScope ["self", "other"] ["self", "other"] (defScope sPlaceE) := ⟨rfl, rfl, rfl, by decide +kernel, rfl, by decide +kernel, by decide +kernel⟩
/-- Place.__eq__ -/
def spPlaceE (C : Addr) : Sp := fun vs H Q _ => ∃ (a dx : Addr) (r : Fact) (y : V), vs = [.ref a, y] ∧ H a = some (.ins C dx (plF r)) ∧ ((∃ (b dy : Addr) (r' : Fact), y = .ref b ∧ H b = some (.ins C dy (plF r')) ∧ Q (.bl (decide (r = r'))) H) ∨ ((∃ T, HasT H y (.type T)) ∧ Q (.bl false) H))
theorem ok_placeE {f C fe : Addr} {fd : FuncData} (F : Fun K "__eq__" "Place.__eq__" sPlaceE f fd) (T : PlT K mg C) (c : QC K C fe) (hIs : mg "isinstance" = none) : FnOk P w K mg base CX0 1 f fd ["self", "other"] (spPlaceE C) := by
  refine F.ok scPlaceE (fun vs H Q E h => ?_) (fun cdv A outer s H vs Q E hr h => ?_)
  · obtain ⟨a, dx, r, y, rfl, _⟩ := h
    rfl
  · obtain ⟨a, dx, r, y, rfl, ea, h⟩ := h
    refine ⟨_, pss_one (ps_ret (pe_and (pe_callB call_isi (by rfl) hIs (by decide +kernel) (pa_cons (pv 1) (pa_cons (pe_glob (v := V.ref C) rfl T.mgC rfl) pa_nil)))
      (pe_and (pe_cmpR op_eq (pe_fld (pv 0) rfl) (pe_fld (pv 1) rfl) (nomark _)) (pe_and (pe_cmpR op_eq (pe_fld (pv 0) rfl) (pe_fld (pv 1) rfl) (nomark _)) (pe_one (pe_cmpR op_eq (pe_fld (pv 0) rfl) (pe_fld (pv 1) rfl) (nomark _))))))), ?_⟩
    rcases h with ⟨b, dy, r', rfl, eb, k⟩ | ⟨⟨ty, hy⟩, k⟩
    · refine ⟨_, rfl, _, _, _, _, true, rfl, .own C, c.tyx eb, kit_same, _, rfl, ?_⟩
      refine iteT ⟨_, rfl, a, C, dx, _, _, rfl, ea, T.cl, T.nR, plF_r r, _, rfl, b, C, dy, _, _, rfl, eb, T.cl, T.nR, plF_r r', rfl, _, rfl, ?_⟩
      by_cases h1 : r.1 = r'.1
      · refine iteV h1 ⟨_, rfl, a, C, dx, _, _, rfl, ea, T.cl, T.nN, plF_n r, _, rfl, b, C, dy, _, _, rfl, eb, T.cl, T.nN, plF_n r', rfl, _, rfl, ?_⟩
        by_cases h2 : r.2.1 = r'.2.1
        · refine iteV h2 ⟨_, rfl, a, C, dx, _, _, rfl, ea, T.cl, T.nP, plF_p r, _, rfl, b, C, dy, _, _, rfl, eb, T.cl, T.nP, plF_p r', rfl, ?_⟩
          have e : decide (V.int r.2.2 = V.int r'.2.2) = decide (r = r') := by
            rw [decide_eq_decide]
            exact ⟨fun z => Prod.ext h1 (Prod.ext h2 (V.int.inj z)), fun z => by rw [z]⟩
          rw [e]
          exact k
        · refine iteN h2 ?_
          rw [decide_eq_false (fun z : r = r' => h2 (by rw [z]))] at k
          exact k
      · refine iteN h1 ?_
        rw [decide_eq_false (fun z : r = r' => h1 (by rw [z]))] at k
        exact k
    · exact ⟨_, rfl, _, _, _, _, false, rfl, .own C, hasTyx hy, c.kit _ (hasT_oth hy), _, rfl, iteF k⟩
end
end OT

set_option Elab.async false
set_option linter.all false
set_option maxRecDepth 100000
set_option maxHeartbeats 2000000
namespace OT
open PySem L2 OTR
theorem rdF_inj {r r' : Fact} (h : rdF r = rdF r') : r = r' := by
  unfold rdF at h
  simp only [List.cons.injEq, Prod.mk.injEq, V.int.injEq, true_and, and_true] at h
  exact Prod.ext h.1 (Prod.ext h.2.1 h.2.2)
theorem RoadAt.inj {CR : Addr} {H : Hp} {p : Addr} {r r' : Fact} (h : RoadAt CR H p r) (k : RoadAt CR H p r') : r = r' := by
  obtain ⟨dx, e⟩ := h
  obtain ⟨dy, e'⟩ := k
  rw [e] at e'
  injection e' with e'
  injection e' with _ _ e'
  exact rdF_inj e'
/-- two roads compared: each is itself, else by their fields -/
theorem eq_road {K : PySem.W.Frag} {CR : Addr} {H : Hp} {p p' : Addr} {r r' : Fact} {Q : Bool → Hp → Prop} (h : RoadAt CR H p r) (k : RoadAt CR H p' r') (q : Q (decide (r = r')) H) : ROr (ROwn K CR (spRoadE CR)) (.ref p) (.ref p') H Q := by
  by_cases e : p = p'
  · subst e
    refine .inl ⟨p, rfl, rfl, ?_⟩
    rw [decide_eq_true (h.inj k)] at q
    exact q
  · obtain ⟨dx, e1⟩ := h
    obtain ⟨dy, e2⟩ := k
    exact .inr ⟨⟨_, _, .ins e1, .ins e2⟩, fun z => e (V.ref.inj z), p, dx, rdF r, _, rfl, e1, .ins e2, nf_same, p, dx, r, _, rfl, e1, .inl ⟨p', dy, r', rfl, e2, _, rfl, q⟩⟩
theorem eqAll_roads {K : PySem.W.Frag} {CR : Addr} {H : Hp} {Q : Bool → Hp → Prop} : ∀ {ps ps' : List Addr} {F F' : List Fact}, RoadsAt CR H ps F → RoadsAt CR H ps' F' → Q (decide (F = F')) H → eqAll (ROr (ROwn K CR (spRoadE CR))) (ps.map V.ref) (ps'.map V.ref) H Q
  | _, _, _, _, .nil, .nil, q => q
  | _, _, _, _, .nil, .cons _ _, q => q
  | _, _, _, _, .cons _ _, .nil, q => q
  | _, _, _, _, .cons (b := r) h t, .cons (b := r') k u, q => by
    refine eq_road h k ?_
    by_cases e : r = r'
    · subst e
      rw [decide_eq_true rfl, if_pos rfl]
      refine eqAll_roads t u ?_
      have z : ∀ F F' : List Fact, decide (r :: F = r :: F') = decide (F = F') := fun F F' => by simp
      rw [z] at q
      exact q
    · rw [decide_eq_false e, if_neg Bool.false_ne_true]
      rw [decide_eq_false (fun z => e (List.cons.inj z).1)] at q
      exact q
/-- Tree.__eq__ -/
def spTreeE (K : PySem.W.Frag) (CT CR : Addr) : Sp := fun vs H Q _ => ∃ (a : Addr) (n : Int) (ps : List Addr) (F : List Fact) (y : V), vs = [.ref a, y] ∧ TreeAt K CT CR H a n ps F ∧
  ((∃ (b : Addr) (n' : Int) (ps' : List Addr) (F' : List Fact), y = .ref b ∧ TreeAt K CT CR H b n' ps' F' ∧ Q (.bl (decide (n = n' ∧ F = F'))) H) ∨ ((∃ T, HasT H y (.type T)) ∧ Q (.bl false) H))
section
variable {P : Program} {w : World} {K : PySem.W.Frag} {mg : Str → Option Value} {base : Heap}
theorem scTreeE : FnScope ["self", "other"] ["self", "other"] (defScope sTreeE) := ⟨rfl, rfl, rfl, by decide +kernel, rfl, by decide +kernel, by decide +kernel⟩
theorem ok_treeE {f C fe CR fR : Addr} {fd fdR : FuncData} (F : Fun K "__eq__" "Tree.__eq__" sTreeE f fd) (T : TeT K mg C) (c : QC K C fe) (cR : QC K CR fR) (FR : FnOk P w K mg base CX0 1 fR fdR ["self", "other"] (spRoadE CR)) (bR : Binds K fdR ["self", "other"] []) (hIs : mg "isinstance" = none) :
    FnOk P w K mg base CX0 3 f fd ["self", "other"] (spTreeE K C CR) := by
  refine F.ok scTreeE (fun vs H Q E h => ?_) (fun cdv A outer s H vs Q E hr h => ?_)
  · obtain ⟨a, n, ps, F, y, rfl, _⟩ := h
    rfl
  · obtain ⟨a, n, ps, F, y, rfl, TA, h⟩ := h
    refine ⟨_, pss_one (ps_ret (pe_and (pe_callB call_isi (by rfl) hIs (by decide +kernel) (pa_cons (pv 1) (pa_cons (pe_glob (v := V.ref C) rfl T.mgC rfl) pa_nil)))
      (pe_and (pe_cmpR op_eq (pe_fld (pv 0) rfl) (pe_fld (pv 1) rfl) (nomark _)) (pe_one (pe_cmpR (op_eqB (rcB_tup (RcB.eqB (rcB_own FR cR.eq cR.fn bR))) hr) (pe_fld (pv 0) rfl) (pe_fld (pv 1) rfl) (nomark _)))))), ?_⟩
    obtain ⟨dx, t, d, kvs, ea, et, rds, _⟩ := TA
    rcases h with ⟨b, n', ps', F', rfl, TB, k⟩ | ⟨⟨ty, hy⟩, k⟩
    · obtain ⟨dy, t', d', kvs', eb, et', rds', _⟩ := TB
      refine ⟨_, rfl, _, _, _, _, true, rfl, .own C, c.tyx eb, kit_same, _, rfl, ?_⟩
      refine iteT ⟨_, rfl, a, C, dx, _, _, rfl, ea, T.cl, T.nC, teF_c n t d, _, rfl, b, C, dy, _, _, rfl, eb, T.cl, T.nC, teF_c n' t' d', rfl, _, rfl, ?_⟩
      by_cases h1 : n = n'
      · refine iteV h1 ⟨_, rfl, a, C, dx, _, _, rfl, ea, T.cl, T.nR, teF_r n t d, _, rfl, b, C, dy, _, _, rfl, eb, T.cl, T.nR, teF_r n' t' d', t, t', _, _, rfl, rfl, et, et', eqAll_roads rds rds' ?_⟩
        have z : decide (n = n' ∧ F = F') = decide (F = F') := by rw [decide_eq_decide]; exact ⟨fun z => z.2, fun z => ⟨h1, z⟩⟩
        rw [z] at k
        exact k
      · refine iteN h1 ?_
        rw [decide_eq_false (fun z : n = n' ∧ F = F' => h1 z.1)] at k
        exact k
    · exact ⟨_, rfl, _, _, _, _, false, rfl, .own C, hasTyx hy, c.kit _ (hasT_oth hy), _, rfl, iteF k⟩
end
end OT

set_option Elab.async false
set_option linter.all false
set_option maxRecDepth 100000
set_option maxHeartbeats 1000000
namespace OTR
open PySem PySem.Spec PyProof.Rows L2
/-! ### zip(t, xs), t a tuple and xs a list -/
def ItzM (K : PySem.W.Frag) (a b : Addr) : It :=
  ⟨fun i G => ∃ (us ws : List V) (x y : V), SqT K G a us ∧ SqL K G b ws ∧ us[i]? = some x ∧ ws[i]? = some y,
    fun i G v G' => ∃ T x y, v = .ref T ∧ G T = none ∧ G' = upd G T (.tup [x, y]) ∧ (∀ us, SqT K G a us → us[i]? = some x) ∧ ∀ ws, SqL K G b ws → ws[i]? = some y,
    fun i G => ∃ us ws : List V, SqT K G a us ∧ SqL K G b ws ∧ i = us.length ∧ us.length = ws.length⟩
theorem five {c z TI TO i1 i2 : Addr} (h : c ∈ [z, TI, TO, i1, i2]) : c = z ∨ c = TI ∨ c = TO ∨ c = i1 ∨ c = i2 := by simpa using h
theorem turn_zipM {P : Program} {w : World} {K : PySem.W.Frag} {elts : List Expr} {kk : Nat} {tpos : Pos} {a b z TI TO i1 i2 : Addr} (S : ZipSep2 z TI TO i1 i2 [i1, a] [i2, b]) :
    Turn P w K (.Tuple elts kk tpos) (ItzM K a b) [z, TI, TO, i1, i2] z (fun i h => IsZip h z TI TO .none ∧ IsTupOf2 h TI (.ref i1) (.ref i2) ∧ (∃ x y, IsTupOf2 h TO x y) ∧ h.IsTupleIter i1 a i ∧ h.IsListIter i2 b i) where
  mem := by simp
  obj := fun i h st c hc => by
    obtain ⟨k1, k2, ⟨x, y, k3⟩, ⟨o1, e1, _, d1⟩, ⟨o2, e2, _, d2⟩⟩ := st
    rcases five hc with q | q | q | q | q
    · rw [q]; exact ⟨_, k1, fun v q => nomatch q⟩
    · rw [q]; exact ⟨_, k2, fun v q => nomatch q⟩
    · rw [q]; exact ⟨_, k3, fun v q => nomatch q⟩
    · subst q; exact ⟨o1, e1, fun v w => by rw [d1] at w; cases w⟩
    · subst q; exact ⟨o2, e2, fun v w => by rw [d2] at w; cases w⟩
  keep := fun i h g st k => let ⟨k1, k2, ⟨x, y, k3⟩, k4, k5⟩ := st; ⟨k z (by simp) _ k1, k TI (by simp) _ k2, ⟨x, y, k TO (by simp) _ k3⟩, k4.at fun o q => k i1 (by simp) o q, k5.at fun o q => k i2 (by simp) o q⟩
  item := by
    intro X aP aw aK cal i p0 s0 g0 G Er J off st hg
    subst aP aw aK
    obtain ⟨k1, k2, ⟨x0, y0, k3⟩, k4, k5⟩ := st
    obtain ⟨us, ws, x, y, ea, eb, hx, hy⟩ := hg
    obtain ⟨la, ra, pa, _⟩ := J.tuple ea
    obtain ⟨lb, rb, pb, _⟩ := J.list eb
    obtain ⟨u, hu, ru⟩ := ra.get hx
    obtain ⟨v, hv, rv⟩ := rb.get hy
    have na : a ≠ i1 := fun z => S.sep2_1 (by
      obtain ⟨_, q1, q2, _⟩ := k4
      obtain ⟨_, q3, q4, _⟩ := pa
      rw [z, q1] at q3
      cases q3
      rw [q2] at q4
      injection q4 with q4
      exact absurd q4 (by decide))
    have nb : b ≠ i2 := fun z => S.sep1_2 (by
      obtain ⟨_, q1, q2, _⟩ := k5
      obtain ⟨_, q3, q4, _⟩ := pb.isList
      rw [z, q1] at q3
      cases q3
      rw [q2] at q4
      injection q4 with q4
      exact absurd q4 (by decide))
    have D1 := Draws.tuple (prog := X.prog) (w := X.w) (A := X.A.in1) (J.ok.hd cal) i1 a na la.toArray
    have D2 := Draws.list (prog := X.prog) (w := X.w) (A := X.A.in1) (J.ok.hd cal) i2 b nb lb.toArray
    have la1 : i < la.length := (List.getElem?_eq_some_iff.mp hu).1
    have lb1 : i < lb.length := (List.getElem?_eq_some_iff.mp hv).1
    refine wpAny_pyNext_zipD2_item S D1 D2 k1 k2 k3 ⟨k4, pa⟩ ⟨k5, pb.isList⟩ (by simpa using la1) (by simpa using lb1) fun x1 x2 h' tk y1 y2 m1 m2 ⟨m3, _⟩ ⟨m4, _⟩ m5 m6 keep => ?_
    have e1 : x1 = u := by
      have z : la[i]? = some x1 := by simpa using y1
      rw [hu] at z
      exact (Option.some.inj z).symm
    have e2 : x2 = v := by
      have z : lb[i]? = some x2 := by simpa using y2
      rw [hv] at z
      exact (Option.some.inj z).symm
    subst e1 e2
    have ltz : z < s0.heap.objs.size := Heap.lt_size k1
    refine ⟨_, rfl, wpAny_letOwnedTupleGo_zip (s := { s0 with heap := h', toks := tk }) m1 fun h2 n1 sb => ?_⟩
    have gT : h2.get? s0.heap.objs.size = some { cls := .type "tuple", data := .seq #[x1, x2] } := (sb.2 _ (Nat.ne_of_gt ltz)).trans m5
    have new : ObjOk X.prog X.w (upd G s0.heap.objs.size (.tup [x, y])) h2 s0.heap.objs.size (.tup [x, y]) :=
      ⟨by show 2 ≤ sizeLine; decide, [x1, x2], .cons ru (.cons rv .nil), ⟨_, gT, rfl, _, rfl⟩⟩
    have J1 : Inv X p0 g0 (upd G s0.heap.objs.size (.tup [x, y])) { s0 with heap := h2, toks := tk } :=
      J.turnedNew (ch := [z, TI, TO, i1, i2]) (fun c o hb q => (sb.2 c (fun w => hb (by simp [w]))).trans (keep c o (fun w => hb (by simp [w])) (fun w => hb (by simp [w])) (fun w => hb (by simp [w])) (fun w => hb (by simp [w])) q)) off (Nat.le_refl _) new
    refine ⟨.ref s0.heap.objs.size, _, J1, rfl, ⟨_, x, y, rfl, J.hok.fresh (Nat.le_refl _), rfl, fun l hl => by rw [J.tuple_inj hl ea]; exact hx, fun l hl => by rw [J.list_inj hl eb]; exact hy⟩, ⟨n1, ?_, ⟨x1, x2, ?_⟩, ?_, ?_⟩, fun c hcm => ?_⟩
    · exact (sb.2 _ S.TIz).trans (keep _ _ S.TIz S.TITO S.TIi1 S.TIi2 k2)
    · exact (sb.2 _ S.TOz).trans m2
    · exact m3.at fun o q => (sb.2 _ S.zi1.symm).trans q
    · exact m4.at fun o q => (sb.2 _ S.zi2.symm).trans q
    · have low : c < s0.heap.objs.size := by
        rcases five hcm with q | q | q | q | q
        · rw [q]; exact ltz
        · rw [q]; exact Heap.lt_size k2
        · rw [q]; exact Heap.lt_size k3
        · rw [q]; exact let ⟨_, e, _⟩ := k4; Heap.lt_size e
        · rw [q]; exact let ⟨_, e, _⟩ := k5; Heap.lt_size e
      rw [upd_ne (Nat.ne_of_lt low)]
      exact (off c hcm).1
  done := by
    intro X aP aw aK cal i p0 s0 g0 G Er J off st hg
    subst aP aw aK
    obtain ⟨k1, k2, ⟨x0, y0, k3⟩, k4, k5⟩ := st
    obtain ⟨us, ws, ea, eb, hi, hl⟩ := hg
    obtain ⟨la, ra, pa, _⟩ := J.tuple ea
    obtain ⟨lb, rb, pb, _⟩ := J.list eb
    have la1 := ra.length
    have lb1 := rb.length
    have na : a ≠ i1 := fun z => S.sep2_1 (by
      obtain ⟨_, q1, q2, _⟩ := k4
      obtain ⟨_, q3, q4, _⟩ := pa
      rw [z, q1] at q3
      cases q3
      rw [q2] at q4
      injection q4 with q4
      exact absurd q4 (by decide))
    have nb : b ≠ i2 := fun z => S.sep1_2 (by
      obtain ⟨_, q1, q2, _⟩ := k5
      obtain ⟨_, q3, q4, _⟩ := pb.isList
      rw [z, q1] at q3
      cases q3
      rw [q2] at q4
      injection q4 with q4
      exact absurd q4 (by decide))
    have D1 := Draws.tuple (prog := X.prog) (w := X.w) (A := X.A.in1) (J.ok.hd cal) i1 a na la.toArray
    have D2 := Draws.list (prog := X.prog) (w := X.w) (A := X.A.in1) (J.ok.hd cal) i2 b nb lb.toArray
    refine wpAny_pyNext_zipD2_end S D1 D2 k1 k2 k3 ⟨k4, pa⟩ ⟨k5, pb.isList⟩ (by simp; omega) (by simp; omega) (.inl (by simp; omega)) fun h' tk keep => ⟨rfl, ?_⟩
    exact J.turnedL (t' := tk) (ch := [z, TI, TO, i1, i2]) (fun c o hb q => keep c o (fun w => hb (by simp [w])) (fun w => hb (by simp [w])) (fun w => hb (by simp [w])) (fun w => hb (by simp [w])) q) off
  self := fun A i s0 Q Er st h => wpAny_pyIter_zip st.1 h
def iZipM (K : PySem.W.Frag) (ta : TA) : TI := fun g0 G R => ta g0 G fun vs Gq => ∃ a b us ws, vs = [.ref a, .ref b] ∧ SqT K Gq a us ∧ SqL K Gq b ws ∧ R (ItzM K a b) Gq
theorem pi_zipM {X : Cx} {e e2 : Expr} {ta : TA} {p pos tpos : Pos} {elts : List Expr} {kk : Nat} (hg : Gl X "zip") (hm : X.mg "zip" = none) (ha : PA X [e, e2] ta)
    (st1 : starEach [e, e2] X.env = (false, eval e X.env) :: starEach [e2] X.env := by rfl) (st2 : (backTo pos (starEach [e2] X.env)).any (·.1) = false := by rfl) :
    PI X (.Tuple elts kk tpos) (.Call (.Name "zip" p) [e, e2] [] pos) (iZipM X.K ta) := by
  refine ⟨fun p0 s0 g0 G R J h => ?_⟩
  refine Call_ (ld_blt J hg hm PyProof.Rows.boot_zip (PyProof.Rows.callWith_type1 (thn (ha.run pos p0 s0 g0 G _ J h) fun us s1 ⟨vs, G1, J1, r1, q1⟩ => ?_) st1 st2))
  obtain ⟨a, b, us, ws, ex, ea, eb, q⟩ := q1
  subst ex
  cases r1 with
  | cons r rr =>
    cases rr with
    | cons r' rr =>
      cases rr
      cases r
      cases r'
      obtain ⟨la, ra, pa, _⟩ := J1.tuple ea
      obtain ⟨lb, rb, pb, _⟩ := J1.list eb
      refine zip_begins2 (begins_tuple a la.toArray) (begins_list b lb.toArray) pa pb.isList fun h' z1 z2 z3 z4 z5 z6 keep => wpAny_pyIter_zip z1 ?_
      have J2 : Inv X p0 g0 G1 { s1 with heap := h' } := J1.kept (t' := s1.toks) keep
      refine ⟨s1.heap.objs.size + 4, [s1.heap.objs.size + 4, s1.heap.objs.size + 2, s1.heap.objs.size + 3, s1.heap.objs.size, s1.heap.objs.size + 1], _, _, G1, rfl, J2, turn_zipM (zip_sep2 (fp1 := [a]) (fp2 := [b]) (fun x hx => ?_) fun x hx => ?_), ⟨z1, z2, ⟨_, _, z3⟩, ⟨_, z4, rfl, rfl⟩, ⟨_, z5, rfl, rfl⟩⟩, fun c hcm => ?_, q⟩
      · rw [List.mem_singleton.mp hx]
        exact pa.lt
      · rw [List.mem_singleton.mp hx]
        exact pb.lt
      · have low : s1.heap.objs.size ≤ c := by
          rcases five hcm with z | z | z | z | z
          · rw [z]; exact Nat.le_add_right _ _
          · rw [z]; exact Nat.le_add_right _ _
          · rw [z]; exact Nat.le_add_right _ _
          · rw [z]; exact Nat.le_refl _
          · rw [z]; exact Nat.le_add_right _ _
        exact J1.fpOk low (J1.hok.fresh low)
theorem walk_zipM {K : PySem.W.Frag} {a b : Addr} {us ws : List V} (hl : us.length = ws.length) : Walk (ItzM K a b) us.length (fun G => SqT K G a us ∧ SqL K G b ws) (YPair (fun i => us[i]?) (fun i => ws[i]?)) := by
  refine ⟨fun i _ hi q => ⟨us, ws, us[i], ws[i], q.1, q.2, by simp [hi], List.getElem?_eq_getElem (by omega)⟩, fun _ q => ⟨us, ws, q.1, q.2, rfl, hl⟩, fun i G v G' _ q y => ?_⟩
  obtain ⟨T, x, y, t1, t2, t3, t4, t5⟩ := y
  exact ⟨T, x, y, t1, t2, t3, t4 us q.1, t5 ws q.2⟩
/-! ### calls with keywords of a def without defaults -/
theorem kb_of {K : PySem.W.Frag} {x qual : Str} {st : Stmt} {f : Addr} {fd : FuncData} {ps ks : List Str} {n : Nat} (F : Fun K x qual st f fd) (g : {α : Type} → List α → List α → List α)
    (rel : ∀ {vs zs : List V} {us ws : List Value}, Vals vs us → Vals zs ws → Vals (g vs zs) (g us ws))
    (h : ∀ (kV doc pm : Value) (an : Option Addr) (cdv ct : Value) (us ws : List Value), us.length = n → ws.length = ks.length → bindArgs (PySem.W.fnOf x qual (defArgs st) (defBody st) (defScope st) .none kV doc pm an cdv ct) ⟨us, ks.zip ws⟩ = pure (ps.zip (g us ws))) :
    KBn K fd ps n ks (fun us ws => g us ws) (fun vs zs => g vs zs) := by
  obtain ⟨oc, od, kV, doc, pm, an, cdv, ct, osl, rfl, lk, hcd⟩ := F.ex
  exact ⟨fun s us ws X l1 l2 => .of_eq (h kV doc pm an cdv ct us ws l1 l2), fun r1 r2 => rel r1 r2⟩
/-- the keywords come in the other order -/
def backK {α : Type} (us ws : List α) : List α := us ++ ws.reverse
theorem backK_rel {vs zs : List V} {us ws : List Value} (r1 : Vals vs us) (r2 : Vals zs ws) : Vals (backK vs zs) (backK us ws) := r1.append r2.reverse
end OTR

set_option Elab.async false
set_option linter.all false
set_option maxRecDepth 100000
set_option maxHeartbeats 2000000
namespace OT
open PySem L2 OTR
/-! ### all but lists stands as it was -/
def Kp (H H' : Hp) : Prop := ∀ b o, H b = some o → (∀ xs, o ≠ .lst xs) → H' b = some o
theorem Kp.of {H H' : Hp} (s : Same H H') : Kp H H' := fun b o e _ => s b o e
theorem Kp.trans {H H1 H2 : Hp} (k : Kp H H1) (l : Kp H1 H2) : Kp H H2 := fun b o e n => l b o (k b o e n) n
theorem Kp.put {H : Hp} {q : Addr} {xs ys : List V} (h : H q = some (.lst xs)) : Kp H (upd H q (.lst ys)) := fun b o e n => by
  rw [upd_ne (fun z => by
    rw [z, h] at e
    exact n xs (Option.some.inj e).symm)]
  exact e
theorem Kp.src {H H' : Hp} {s : Addr} (src : Src H s) (b : But s H H') : Kp H H' := fun c o e n => b c o e (src.ne e fun x y z q => n _ q)
theorem sqT_kp {K : PySem.W.Frag} {H H' : Hp} {p : Addr} {xs : List V} (h : SqT K H p xs) (k : Kp H H') : SqT K H' p xs := by
  rcases h with (h | ⟨o, h⟩) | h
  · exact .inl (.inl (k _ _ h fun _ z => nomatch z))
  · exact .inl (.inr ⟨o, k _ _ h fun _ z => nomatch z⟩)
  · exact .inr h
theorem RoadAt.kp {CR : Addr} {H H' : Hp} {p : Addr} {r : Fact} (h : RoadAt CR H p r) (k : Kp H H') : RoadAt CR H' p r := let ⟨dx, e⟩ := h; ⟨dx, k _ _ e fun _ z => nomatch z⟩
theorem RoadsAt.kp {CR : Addr} {H H' : Hp} {ps : List Addr} {F : List Fact} (h : RoadsAt CR H ps F) (k : Kp H H') : RoadsAt CR H' ps F := by
  unfold RoadsAt at h ⊢
  induction h with
  | nil => exact .nil
  | cons a _ ih => exact .cons (a.kp k) ih
theorem TrOk.kp {K : PySem.W.Frag} {H H' : Hp} {d : Addr} {kvs : List (List Key × V)} {n : Int} {F : List Fact} (h : TrOk K H d kvs n F) (k : Kp H H') : TrOk K H' d kvs n F :=
  ⟨k _ _ h.dc (fun _ z => nomatch z), h.has, fun x y v z => let ⟨q, l, a, b, c⟩ := h.val x y v z; ⟨q, l, a, sqT_kp b k, c⟩, h.len⟩
theorem TreeAt.kp {K : PySem.W.Frag} {CT CR : Addr} {H H' : Hp} {p : Addr} {n : Int} {ps : List Addr} {F : List Fact} (h : TreeAt K CT CR H p n ps F) (k : Kp H H') : TreeAt K CT CR H' p n ps F :=
  let ⟨dx, t, d, kvs, a, b, c, e⟩ := h; ⟨dx, t, d, kvs, k _ _ a (fun _ z => nomatch z), sqT_kp b k, c.kp k, e.kp k⟩
theorem TreeAt.same {K : PySem.W.Frag} {CT CR : Addr} {H H' : Hp} {p : Addr} {n : Int} {ps : List Addr} {F : List Fact} (h : TreeAt K CT CR H p n ps F) (s : Same H H') : TreeAt K CT CR H' p n ps F := h.kp (.of s)
theorem tups_kp {H H' : Hp} {ts : List Addr} {fs : List Fact} (h : Paired (TupAt H) ts fs) (k : Kp H H') : Paired (TupAt H') ts fs := by
  induction h with
  | nil => exact .nil
  | cons a _ ih => exact .cons (k _ _ a fun _ z => nomatch z) ih
theorem kit_self {K : PySem.W.Frag} (v : Value) : PySem.W.kitOne K v v = some true := by
  unfold PySem.W.kitOne
  rw [if_pos (by simp)]
theorem sqT_tyx {K : PySem.W.Frag} {H : Hp} {p : Addr} {xs : List V} (h : SqT K H p xs) : TyX K H (.ref p) (.type "tuple") := by
  rcases h with (h | ⟨o, h⟩) | ⟨o, its, n, h1, h2, _⟩
  · exact .base (.tup h)
  · exact .fTuple h
  · exact .kTuple h1 h2
/-- a call that could raise and doesn't -/
theorem passF {P : Program} {w : World} {X : Cx} : Passes (L2.CX P w) X E0 := fun _ _ _ _ _ _ _ ⟨_, _, _, _, _, _, _, _, _, _, _, _, h⟩ => False.elim h
theorem no_err {CB CN CG : Addr} {H : Hp} {E : XK} {n : Int} {F : List Fact} (h : due n F = none) : ∀ e, due n F = some e → ErrR CB CN CG H E e := fun e z => by
  rw [h] at z
  cases z
theorem paired_get {α β : Type} {R : α → β → Prop} : ∀ {as : List α} {bs : List β} {i : Nat} {a : α}, Paired R as bs → as[i]? = some a → ∃ b, bs[i]? = some b ∧ R a b
  | _, _, _, _, .nil, e => by simp at e
  | _, _, 0, _, .cons r _, e => by
    have z := Option.some.inj e
    subst z
    exact ⟨_, rfl, r⟩
  | _, _, i + 1, _, .cons _ t, e => paired_get (i := i) t e
theorem cut_from {xs : List V} {i : Nat} (h : i ≤ xs.length) : cutV xs (some (i : Int)) none = xs.drop i := by
  unfold cutV
  have e0 : HT.sIx xs.length 0 (some (i : Int)) = i := by
    rw [HT.sIx_nat]
    omega
  have e1 : HT.sIx xs.length xs.length none = xs.length := rfl
  rw [e0, e1]
  exact List.take_of_length_le (by rw [List.length_drop]; exact Nat.le_refl _)
theorem cut_to {xs : List V} {i : Nat} (h : i ≤ xs.length) : cutV xs none (some (i : Int)) = xs.take i := by
  unfold cutV
  have e0 : HT.sIx xs.length 0 none = 0 := rfl
  have e1 : HT.sIx xs.length xs.length (some (i : Int)) = i := by
    rw [HT.sIx_nat]
    omega
  rw [e0, e1]
  simp
theorem paired_set {α β : Type} {R : α → β → Prop} {a : α} {b : β} : ∀ {as : List α} {bs : List β} (j : Nat), Paired R as bs → R a b → Paired R (as.set j a) (bs.set j b)
  | _, _, _, .nil, _ => .nil
  | _, _, 0, .cons _ t, r => .cons r t
  | _, _, j + 1, .cons q t, r => .cons q (paired_set j t r)
theorem made_same {G G' : Hp} {x dx C : Addr} (nx : G x = none) (ndx : G dx = none) (keep : ∀ b o, upd (upd G dx (.own x)) x (.ins C dx []) b = some o → b ≠ x → G' b = some o) : Same G G' := fun b o e =>
  keep b o (by rw [upd_ne (ne_of_none e nx), upd_ne (ne_of_none e ndx)]; exact e) (ne_of_none e nx)
theorem made_old {G : Hp} {x dx C : Addr} (nx : G x = none) (ndx : G dx = none) : Same G (upd (upd G dx (.own x)) x (.ins C dx [])) := fun b o e => by
  rw [upd_ne (ne_of_none e nx), upd_ne (ne_of_none e ndx)]
  exact e
/-- a triple of ints as data -/
def d3 (a b c : Int) : PyData := .tuple [.int a, .int b, .int c]
theorem d3_shaped (a b c : Int) : SeqAt.shaped (d3 a b c) = true := by
  unfold SeqAt.shaped d3
  simp [PyData.canLay0, PyData.canLayAll0, PyData.depth, PyData.depthAll]
theorem d3_eqv (a b c : Int) : PyData.eqv (d3 a b c) (d3 a b c) = true := SeqAt.eqv_refl _ (SeqAt.canLay_of_shaped (d3_shaped a b c))
theorem d3_at {K : PySem.W.Frag} {H : Hp} {t : Addr} {a b c : Int} (h : H t = some (.tup [.int a, .int b, .int c])) : Dp K H (.ref t) (d3 a b c) := .tup (SqT.of h) (.cons (.int _) (.cons (.int _) (.cons (.int _) .nil)))
/-- [Road(a, b, length) for a, b, length in facts] -/
theorem lc_roads {K : PySem.W.Frag} {CR a D : Addr} {ts : List Addr} {fs : List Fact} {σ : L2.St} {H1 : Hp} {i1 i2 i3 : Nat} {Qd : Hp → Prop} (hq : H1 a = some (.lst (ts.map V.ref))) (hts : Paired (TupAt H1) ts fs) (hD : H1 D = none) (hl : fs.length ≤ 900)
    (st : ∀ x y z : V, wipe ((((wipe σ [i1, i2, i3]).set i1 (some x)).set i2 (some y)).set i3 (some z)) [i1, i2, i3] = wipe σ [i1, i2, i3] ∧ ((((wipe σ [i1, i2, i3]).set i1 (some x)).set i2 (some y)).set i3 (some z))[i1]? = some (some x) ∧
      ((((wipe σ [i1, i2, i3]).set i1 (some x)).set i2 (some y)).set i3 (some z))[i2]? = some (some y) ∧ ((((wipe σ [i1, i2, i3]).set i1 (some x)).set i2 (some y)).set i3 (some z))[i3]? = some (some z))
    (k : ∀ G ps, G D = some (.lst (ps.map V.ref)) → Same H1 G → RoadsAt CR G ps fs → Qd G) :
    ∃ W : Nat → Nat → Hp → Prop, (∃ m, W 0 m (upd H1 D (.lst []))) ∧ ∀ i m H, W i m H →
      ((Itl K a).stop i H ∧ Qd H) ∨ ((Itl K a).go i H ∧ ∃ Nx : Hp → Prop, (∀ H', Nx H' → ∃ m', m' < m ∧ W (i + 1) m' H') ∧ ∀ x H', (Itl K a).yld i H x H' → gTup K 3 (gCons (gName i1) (gCons (gName i2) (gCons (gName i3) gNil))) x (wipe σ [i1, i2, i3]) H' fun σ2 H2 => wipe σ2 [i1, i2, i3] = wipe σ [i1, i2, i3] ∧ tYes σ2 H2 fun b H3 =>
        if b = true then tMake CR (spRoadI CR) [] E0 (tCons (tVar i1) (tCons (tVar i2) (tCons (tVar i3) tNil))) σ2 H3 fun y H4 => ∃ acc, H4 D = some (.lst acc) ∧ acc.length < sizeLine ∧ Nx (upd H4 D (.lst (acc ++ [y]))) else Nx H3) := by
  have el : (ts.map V.ref).length = fs.length := by rw [List.length_map]; exact Paired.length hts
  refine lc_list (K := K) (a := a) (xs := ts.map V.ref) (fun i Gc => ∃ ps : List Addr, Gc D = some (.lst (ps.map V.ref)) ∧ Same H1 Gc ∧ RoadsAt CR Gc ps (fs.take i) ∧ ps.length = i)
    ⟨[], upd_same, Same.new hD, .nil, rfl⟩ (fun i Gc _ ⟨_, _, sc, _⟩ => SqL.of (sc _ _ hq)) ?_ ?_
  · rintro i y Gc hi ⟨ps, hps, sc, rd, pl⟩
    obtain ⟨t, ht, rfl⟩ := map_get hi
    obtain ⟨r, hr', tr⟩ := paired_get hts ht
    have ih : i < fs.length := (List.getElem?_eq_some_iff.mp hr').1
    obtain ⟨st0, st1, st2, st3⟩ := st (.int r.1) (.int r.2.1) (.int r.2.2)
    refine ⟨t, _, rfl, SqT.of (sc _ _ tr), rfl, _, _, rfl, _, _, rfl, _, _, rfl, rfl, st0, ?_⟩
    unfold tYes
    refine iteT ?_
    refine ⟨_, st1, _, st2, _, st3, fun x dx nx ndx nex => ⟨x, dx, r, rfl, upd_same, fun G' rx keep => ⟨rfl, ps.map V.ref, ?_, small1000 (by rw [List.length_map]; omega), ps ++ [x], by rw [List.map_append]; exact upd_same, fun b o e => ?_, ?_, by rw [List.length_append, pl]; rfl⟩⟩⟩
    · exact keep D _ (by rw [upd_ne (ne_of_none hps nx), upd_ne (ne_of_none hps ndx)]; exact hps) (ne_of_none hps nx)
    · rw [upd_ne (ne_of_none e hD)]
      exact keep b o (by rw [upd_ne (ne_of_none (sc b o e) nx), upd_ne (ne_of_none (sc b o e) ndx)]; exact sc b o e) (ne_of_none (sc b o e) nx)
    · have gD : G' D = some (.lst (ps.map V.ref)) := keep D _ (by rw [upd_ne (ne_of_none hps nx), upd_ne (ne_of_none hps ndx)]; exact hps) (ne_of_none hps nx)
      have stay : ∀ {p : Addr} {r' : Fact}, RoadAt CR G' p r' → RoadAt CR (upd G' D (.lst (ps.map V.ref ++ [V.ref x]))) p r' := fun {p r'} h => h.kp (.put gD)
      have old : RoadsAt CR (upd G' D (.lst (ps.map V.ref ++ [V.ref x]))) ps (fs.take i) := by
        refine Paired.mapP rd fun p r' h => stay ?_
        obtain ⟨e, h⟩ := h
        exact ⟨e, keep p _ (by rw [upd_ne (ne_of_none h nx), upd_ne (ne_of_none h ndx)]; exact h) (ne_of_none h nx)⟩
      rw [take_get hr']
      exact paired_snoc old (stay rx)
  · rintro G4 ⟨ps, hps, sc, rd, pl⟩
    rw [el, List.take_length] at rd
    exact k G4 ps hps sc rd
end OT

namespace OT
/-! ### ways in a tree: there is one without repetition, and only one -/
theorem Way.con_erase {F : List Fact} {x y : Int} {m : List Nat} {k : Nat} (w : Way F x m y) (n : k ∉ m) : Con (F.eraseIdx k) x y := by
  induction w with
  | nil => exact .refl _
  | @cons x y z j r l e jn w ih =>
    have ne : j ≠ k := fun z => n (z ▸ List.mem_cons_self ..)
    have mm : r ∈ F.eraseIdx k := List.mem_eraseIdx_iff_getElem?.mpr ⟨j, ne, e⟩
    exact (Con.one mm jn).trans (ih fun z => n (List.mem_cons_of_mem _ z))
/-- what joins a road's ends goes over it -/
theorem ring_no {F : List Fact} (nr : NoRing F) {k : Nat} {r : Fact} (e : F[k]? = some r) {x y : Int} (j : Jn r x y) {m : List Nat} (w : Way F x m y) : k ∈ m := by
  refine Classical.byContradiction fun n => ?_
  have c := w.con_erase n
  rcases j with ⟨rfl, rfl⟩ | ⟨rfl, rfl⟩
  · exact nr k r e c
  · exact nr k r e c.symm
theorem NoRing.ne {F : List Fact} (nr : NoRing F) {k : Nat} {r : Fact} (e : F[k]? = some r) : r.1 ≠ r.2.1 := fun z => nr k r e (by rw [z]; exact .refl _)
theorem Jn.end_eq {r : Fact} {x y z : Int} (ne : r.1 ≠ r.2.1) (j : Jn r x y) (j' : Jn r x z) : y = z := by
  rcases j with ⟨a, b⟩ | ⟨a, b⟩ <;> rcases j' with ⟨c, d⟩ | ⟨c, d⟩
  · exact b.symm.trans d
  · exact absurd (a.trans d.symm) ne
  · exact absurd (c.trans b.symm) ne
  · exact a.symm.trans c
theorem Jn.which {r : Fact} {x y u v : Int} (j : Jn r x y) (k : Jn r u v) : (u = x ∧ v = y) ∨ (u = y ∧ v = x) := by
  rcases j with ⟨a, b⟩ | ⟨a, b⟩ <;> rcases k with ⟨c, d⟩ | ⟨c, d⟩
  · exact .inl ⟨c.symm.trans a, d.symm.trans b⟩
  · exact .inr ⟨d.symm.trans b, c.symm.trans a⟩
  · exact .inr ⟨c.symm.trans a, d.symm.trans b⟩
  · exact .inl ⟨d.symm.trans b, c.symm.trans a⟩
theorem Way.split {F : List Fact} {x y : Int} {k : Nat} {m2 : List Nat} : ∀ {m1 : List Nat}, Way F x (m1 ++ k :: m2) y → ∃ u v r, Way F x m1 u ∧ F[k]? = some r ∧ Jn r u v ∧ Way F v m2 y := by
  intro m1
  induction m1 generalizing x with
  | nil =>
    intro w
    cases w with
    | cons e j w => exact ⟨_, _, _, .nil _, e, j, w⟩
  | cons a m1 ih =>
    intro w
    cases w with
    | cons e j w =>
      obtain ⟨u, v, r, w1, e1, j1, w2⟩ := ih w
      exact ⟨u, v, r, .cons e j w1, e1, j1, w2⟩
theorem mem_first {k : Nat} : ∀ {m : List Nat}, k ∈ m → ∃ m1 m2, m = m1 ++ k :: m2 ∧ k ∉ m1
  | [], h => by cases h
  | a :: m, h => by
    by_cases e : a = k
    · exact ⟨[], m, by rw [e]; rfl, by simp⟩
    · rcases List.mem_cons.mp h with h | h
      · exact absurd h.symm e
      · obtain ⟨m1, m2, rfl, n⟩ := mem_first h
        exact ⟨a :: m1, m2, rfl, fun z => by
          rcases List.mem_cons.mp z with z | z
          · exact e z.symm
          · exact n z⟩
theorem Way.uniq {F : List Fact} (nr : NoRing F) {y : Int} : ∀ {l m : List Nat} {x : Int}, Way F x l y → Way F x m y → l.Nodup → m.Nodup → l = m := by
  intro l
  induction l with
  | nil =>
    intro m x w v nl nm
    cases w
    cases v with
    | nil => rfl
    | cons e j v =>
      have z := ring_no nr e j v.rev
      exact absurd (List.mem_reverse.mp z) (List.nodup_cons.mp nm).1
  | cons k l ih =>
    intro m x w v nl nm
    cases w with
    | @cons _ z _ _ r _ e j w =>
      obtain ⟨nk, nl'⟩ := List.nodup_cons.mp nl
      cases v with
      | nil =>
        have z := ring_no nr e j w.rev
        exact absurd (List.mem_reverse.mp z) nk
      | @cons _ z' _ j' r' m' e' jn v =>
        obtain ⟨nj, nm'⟩ := List.nodup_cons.mp nm
        by_cases q : j' = k
        · subst q
          rw [e] at e'
          cases e'
          have ez := Jn.end_eq (nr.ne e) j jn
          subst ez
          rw [ih w v nl' nm']
        · exfalso
          by_cases km : k ∈ m'
          · obtain ⟨m1, m2, rfl, n1⟩ := mem_first km
            obtain ⟨u, u', r1, w1, e1, j1, w2⟩ := v.split
            rw [e] at e1
            cases e1
            rcases Jn.which j j1 with ⟨rfl, _⟩ | ⟨rfl, _⟩
            · have z := ring_no nr e' jn w1.rev
              exact nj (List.mem_append_left _ (List.mem_reverse.mp z))
            · have z := ring_no nr e j (Way.cons e' jn w1)
              rcases List.mem_cons.mp z with z | z
              · exact q z.symm
              · exact n1 z
          · have z := ring_no nr e j ((Way.cons e' jn v).append w.rev)
            rcases List.mem_append.mp z with z | z
            · rcases List.mem_cons.mp z with z | z
              · exact q z.symm
              · exact km z
            · exact nk (List.mem_reverse.mp z)
theorem way_of {F : List Fact} {x y : Int} (c : Con F x y) : ∃ l, Way F x l y ∧ l.Nodup := by
  induction c with
  | refl => exact ⟨[], .nil _, List.nodup_nil⟩
  | @step y z r h m j ih =>
    obtain ⟨l, w, n⟩ := ih
    obtain ⟨k, hk, e⟩ := List.getElem_of_mem m
    have e' : F[k]? = some r := by rw [List.getElem?_eq_getElem hk, e]
    by_cases kl : k ∈ l
    · obtain ⟨m1, m2, rfl, n1⟩ := mem_first kl
      obtain ⟨u, u', r1, w1, e1, j1, w2⟩ := w.split
      rw [e'] at e1
      cases e1
      have nm1 : m1.Nodup := (List.nodup_append.mp n).1
      rcases Jn.which j j1 with ⟨rfl, _⟩ | ⟨rfl, _⟩
      · refine ⟨m1 ++ [k], w1.append (.cons e' j (.nil _)), List.nodup_append.mpr ⟨nm1, by simp, fun a ha b hb q => ?_⟩⟩
        rw [List.mem_singleton.mp hb] at q
        exact n1 (q ▸ ha)
      · exact ⟨m1, w1, nm1⟩
    · refine ⟨l ++ [k], w.append (.cons e' j (.nil _)), List.nodup_append.mpr ⟨n, by simp, fun a ha b hb q => ?_⟩⟩
      rw [List.mem_singleton.mp hb] at q
      exact kl (q ▸ ha)
/-- a tree: the crossings 0 to n - 1, all joined, without a ring -/
structure TreeM (n : Int) (F : List Fact) : Prop where
  ok : ∀ r ∈ F, In n r.1 ∧ In n r.2.1 ∧ 1 ≤ r.2.2
  nr : NoRing F
  con : ∀ x y, In n x → In n y → Con F x y
open Classical in
/-- the way from x to y -/
noncomputable def tr (F : List Fact) (x y : Int) : List Nat := if h : ∃ l, Way F x l y ∧ l.Nodup then choose h else []
theorem tr_of {n : Int} {F : List Fact} (T : TreeM n F) {x y : Int} (hx : In n x) (hy : In n y) : Way F x (tr F x y) y ∧ (tr F x y).Nodup := by
  have h := way_of (T.con x y hx hy)
  unfold tr
  rw [dif_pos h]
  exact Classical.choose_spec h
theorem tr_eq {n : Int} {F : List Fact} (T : TreeM n F) {x y : Int} {l : List Nat} (w : Way F x l y) (nd : l.Nodup) : tr F x y = l := by
  have h : ∃ l, Way F x l y ∧ l.Nodup := ⟨l, w, nd⟩
  unfold tr
  rw [dif_pos h]
  exact (Classical.choose_spec h).1.uniq T.nr w (Classical.choose_spec h).2 nd
/-! ### roads and their ends -/
def rd (F : List Fact) (k : Nat) : Fact := F.getD k (0, 0, 0)
theorem rd_of {F : List Fact} {k : Nat} {r : Fact} (h : F[k]? = some r) : rd F k = r := by
  unfold rd
  rw [List.getD_eq_getElem?_getD, h]
  rfl
theorem rd_get {F : List Fact} {k : Nat} (h : k < F.length) : F[k]? = some (rd F k) := by
  unfold rd
  rw [List.getD_eq_getElem?_getD, List.getElem?_eq_getElem h]
  rfl
/-- the size of a road, in parts of a step -/
def sz (F : List Fact) (S : Int) (k : Nat) : Int := (rd F k).2.2 * S
/-- where a road meets the crossing at one of its ends -/
def eAt (F : List Fact) (S : Int) (k : Nat) (c : Int) : Int := if (rd F k).1 = c then 0 else sz F S k
/-- the crossing at the other end -/
def eBy (F : List Fact) (k : Nat) (c : Int) : Int := if (rd F k).1 = c then (rd F k).2.1 else (rd F k).1
theorem eBy_of {F : List Fact} {k : Nat} {x y : Int} (j : Jn (rd F k) x y) (ne : (rd F k).1 ≠ (rd F k).2.1) : eBy F k x = y := by
  unfold eBy
  rcases j with ⟨a, b⟩ | ⟨a, b⟩
  · rw [if_pos a, b]
  · rw [if_neg (fun z => ne (z.trans b.symm)), a]
theorem jn_by {F : List Fact} {k : Nat} {c : Int} (h : (rd F k).1 = c ∨ (rd F k).2.1 = c) : Jn (rd F k) c (eBy F k c) := by
  unfold eBy
  by_cases e : (rd F k).1 = c
  · rw [if_pos e]
    exact .inl ⟨e, rfl⟩
  · rw [if_neg e]
    exact .inr ⟨rfl, h.resolve_left e⟩
/-- a leg: a road, from where to where -/
abbrev Leg := Nat × Int × Int
def dst (s e : Int) : Int := if e - s < 0 then -(e - s) else e - s
def total : List Leg → Int
  | [] => 0
  | (_, s, e) :: l => dst s e + total l
/-- the legs from the crossing c along the roads l to the place p of the road g -/
def legsC (F : List Fact) (S : Int) (g : Nat) (p : Int) : Int → List Nat → List Leg
  | c, [] => [(g, eAt F S g c, p)]
  | c, k :: l => if k = g then legsC F S g p c l else (k, eAt F S k c, eAt F S k (eBy F k c)) :: legsC F S g p (eBy F k c) l
open Classical in
/-- the end by which the way to the road g leaves the road k -/
noncomputable def up (F : List Fact) (g k : Nat) : Int := if k ∈ tr F (rd F k).1 (rd F g).1 then (rd F k).2.1 else (rd F k).1
/-- the legs from the place i of the road k -/
noncomputable def legsP (F : List Fact) (S : Int) (g : Nat) (p : Int) (k : Nat) (i : Int) : List Leg :=
  if k = g then [(g, i, p)] else (k, i, eAt F S k (up F g k)) :: legsC F S g p (up F g k) (tr F (up F g k) (rd F g).1)
/-- where one is after t parts of a step -/
def posL : List Leg → Int → Nat × Int
  | [], _ => (0, 0)
  | (k, s, e) :: l, t => if t ≤ dst s e then (k, if s < e then s + t else s - t) else posL l (t - dst s e)
theorem dst_nn (s e : Int) : 0 ≤ dst s e := by unfold dst; split <;> omega
theorem total_nn : ∀ l : List Leg, 0 ≤ total l
  | [] => by unfold total; exact Int.le_refl _
  | (k, s, e) :: l => by
    have := total_nn l
    have := dst_nn s e
    unfold total
    omega
end OT

namespace OT
/-! ### places of the tree with every step in S parts -/
inductive Nd
  | cr (c : Int) | mid (k : Nat) (i : Int)
  deriving DecidableEq
def node (F : List Fact) (S : Int) (k : Nat) (i : Int) : Nd := if i = 0 then .cr (rd F k).1 else if i = sz F S k then .cr (rd F k).2.1 else .mid k i
/-- i is a place of the road k -/
def On (F : List Fact) (S : Int) (k : Nat) (i : Int) : Prop := k < F.length ∧ 0 ≤ i ∧ i ≤ sz F S k
/-- one part of a step apart -/
def Adj (F : List Fact) (S : Int) (u v : Nd) : Prop := ∃ k i, k < F.length ∧ 0 ≤ i ∧ i + 1 ≤ sz F S k ∧ ((u = node F S k i ∧ v = node F S k (i + 1)) ∨ (u = node F S k (i + 1) ∧ v = node F S k i))
theorem Adj.symm {F : List Fact} {S : Int} {u v : Nd} (h : Adj F S u v) : Adj F S v u := let ⟨k, i, a, b, c, d⟩ := h; ⟨k, i, a, b, c, d.elim (fun z => .inr ⟨z.2, z.1⟩) fun z => .inl ⟨z.2, z.1⟩⟩
/-- how far it is to the place p of the road g -/
noncomputable def hC (F : List Fact) (S : Int) (g : Nat) (p : Int) (c : Int) : Int := total (legsC F S g p c (tr F c (rd F g).1))
noncomputable def hP (F : List Fact) (S : Int) (g : Nat) (p : Int) (k : Nat) (i : Int) : Int := total (legsP F S g p k i)
noncomputable def hN (F : List Fact) (S : Int) (g : Nat) (p : Int) : Nd → Int
  | .cr c => hC F S g p c
  | .mid k i => hP F S g p k i
section
variable {n : Int} {F : List Fact} {S : Int} {g : Nat} {p : Int} (T : TreeM n F) (hS : 1 ≤ S) (hg : On F S g p)
include T
theorem rd_ok {k : Nat} (h : k < F.length) : In n (rd F k).1 ∧ In n (rd F k).2.1 ∧ 1 ≤ (rd F k).2.2 ∧ (rd F k).1 ≠ (rd F k).2.1 := by
  have e := rd_get h
  obtain ⟨a, b, c⟩ := T.ok _ (List.mem_of_getElem? e)
  exact ⟨a, b, c, T.nr.ne e⟩
include hS
theorem sz_pos {k : Nat} (h : k < F.length) : 1 ≤ sz F S k := by
  obtain ⟨_, _, c, _⟩ := rd_ok T h
  unfold sz
  have := Int.mul_le_mul c hS (by omega) (by omega)
  omega
theorem eAt_on {k : Nat} (h : k < F.length) (c : Int) : On F S k (eAt F S k c) := by
  have := sz_pos T hS h
  unfold eAt
  split
  · exact ⟨h, Int.le_refl _, by omega⟩
  · exact ⟨h, by omega, Int.le_refl _⟩
theorem node_eAt {k : Nat} (h : k < F.length) {c : Int} (hc : (rd F k).1 = c ∨ (rd F k).2.1 = c) : node F S k (eAt F S k c) = .cr c := by
  have := sz_pos T hS h
  unfold eAt node
  by_cases e : (rd F k).1 = c
  · rw [if_pos e, if_pos rfl, e]
  · rw [if_neg e, if_neg (by omega), if_pos rfl, hc.resolve_left e]
theorem node_cr {k : Nat} {i c : Int} (h : k < F.length) (e : node F S k i = .cr c) : ((rd F k).1 = c ∨ (rd F k).2.1 = c) ∧ i = eAt F S k c := by
  obtain ⟨_, _, _, ne⟩ := rd_ok T h
  unfold node at e
  unfold eAt
  by_cases e0 : i = 0
  · rw [if_pos e0] at e
    cases e
    exact ⟨.inl rfl, by rw [if_pos rfl]; exact e0⟩
  · rw [if_neg e0] at e
    by_cases e1 : i = sz F S k
    · rw [if_pos e1] at e
      cases e
      exact ⟨.inr rfl, by rw [if_neg ne]; exact e1⟩
    · rw [if_neg e1] at e
      cases e
theorem dst_ends {k : Nat} (h : k < F.length) {c : Int} (hc : (rd F k).1 = c ∨ (rd F k).2.1 = c) : dst (eAt F S k c) (eAt F S k (eBy F k c)) = sz F S k := by
  obtain ⟨_, _, _, ne⟩ := rd_ok T h
  have sp := sz_pos T hS h
  unfold eAt eBy dst
  by_cases e : (rd F k).1 = c
  · have e2 : ¬ (rd F k).1 = (rd F k).2.1 := ne
    rw [if_pos e, if_pos e, if_neg e2]
    split <;> omega
  · rw [if_neg e, if_neg e, if_pos rfl]
    split <;> omega
omit hS
/-- the way from a crossing over one of its roads, or towards it -/
theorem tr_head {k : Nat} {r c c' : Int} (h : k < F.length) (hr : In n r) (j : Jn (rd F k) c c') (m : k ∈ tr F c r) : tr F c r = k :: tr F c' r := by
  obtain ⟨o1, o2, _, ne⟩ := rd_ok T h
  have ic : In n c := by rcases j with ⟨a, b⟩ | ⟨a, b⟩; exact a ▸ o1; exact b ▸ o2
  have ic' : In n c' := by rcases j with ⟨a, b⟩ | ⟨a, b⟩; exact b ▸ o2; exact a ▸ o1
  obtain ⟨w, nd⟩ := tr_of T ic hr
  obtain ⟨m1, m2, e, n1⟩ := mem_first m
  rw [e] at w nd
  obtain ⟨u, v, r1, w1, e1, j1, w2⟩ := w.split
  rw [rd_get h] at e1
  cases e1
  have nd2 : m2.Nodup := (List.nodup_cons.mp (List.nodup_append.mp nd).2.1).2
  rcases Jn.which j j1 with ⟨rfl, rfl⟩ | ⟨rfl, rfl⟩
  · have z : m1 = [] := Way.uniq T.nr w1 (.nil _) (List.nodup_append.mp nd).1 List.nodup_nil
    rw [e, z, tr_eq T w2 nd2]
    rfl
  · exact absurd (ring_no T.nr (rd_get h) j w1) n1
theorem tr_tail {k : Nat} {r c c' : Int} (h : k < F.length) (hr : In n r) (j : Jn (rd F k) c c') (m : k ∉ tr F c' r) : tr F c r = k :: tr F c' r := by
  obtain ⟨o1, o2, _, ne⟩ := rd_ok T h
  have ic' : In n c' := by rcases j with ⟨a, b⟩ | ⟨a, b⟩; exact b ▸ o2; exact a ▸ o1
  obtain ⟨w, nd⟩ := tr_of T ic' hr
  exact tr_eq T (.cons (rd_get h) j w) (List.nodup_cons.mpr ⟨m, nd⟩)
/-- one end of each road lies beyond the other -/
theorem tr_side {k : Nat} {r c c' : Int} (h : k < F.length) (hr : In n r) (j : Jn (rd F k) c c') : tr F c r = k :: tr F c' r ∨ tr F c' r = k :: tr F c r := by
  by_cases m : k ∈ tr F c' r
  · exact .inr (tr_head T h hr j.symm m)
  · exact .inl (tr_tail T h hr j m)
theorem tr_self {r : Int} (hr : In n r) : tr F r r = [] := tr_eq T (.nil _) List.nodup_nil
theorem tr_root {g : Nat} (h : g < F.length) : tr F (rd F g).2.1 (rd F g).1 = [g] := tr_eq T (.cons (rd_get h) (.inr ⟨rfl, rfl⟩) (.nil _)) (by simp)
theorem up_end {g k : Nat} (hk : k < F.length) : (rd F k).1 = up F g k ∨ (rd F k).2.1 = up F g k := by
  unfold up
  split
  · exact .inr rfl
  · exact .inl rfl
/-- the other end's way is over the road, then the near end's -/
theorem up_far {g k : Nat} (hg : g < F.length) (hk : k < F.length) : tr F (eBy F k (up F g k)) (rd F g).1 = k :: tr F (up F g k) (rd F g).1 := by
  obtain ⟨_, _, _, ne⟩ := rd_ok T hk
  have hr := (rd_ok T hg).1
  unfold up
  by_cases m : k ∈ tr F (rd F k).1 (rd F g).1
  · rw [if_pos m, eBy_of (.inr ⟨rfl, rfl⟩) ne]
    exact tr_head T hk hr (.inl ⟨rfl, rfl⟩) m
  · rw [if_neg m, eBy_of (.inl ⟨rfl, rfl⟩) ne]
    exact tr_tail T hk hr (.inr ⟨rfl, rfl⟩) m
/-- which end is nearer, told by an end's own way -/
theorem up_of {g k : Nat} {c : Int} {l : List Nat} (hg : g < F.length) (hk : k < F.length) (hc : (rd F k).1 = c ∨ (rd F k).2.1 = c) (e : tr F c (rd F g).1 = k :: l) : up F g k = eBy F k c ∧ l = tr F (eBy F k c) (rd F g).1 := by
  obtain ⟨_, _, _, ne⟩ := rd_ok T hk
  have hr := (rd_ok T hg).1
  have j := jn_by hc
  have e2 := tr_head T hk hr j (by rw [e]; exact List.mem_cons_self ..)
  have el : l = tr F (eBy F k c) (rd F g).1 := (List.cons.inj (e.symm.trans e2)).2
  refine ⟨?_, el⟩
  have far := up_far T hg hk (g := g)
  by_cases q : up F g k = c
  · exfalso
    rw [q, e2] at far
    have z := congrArg List.length far
    simp at z
    omega
  · rcases up_end T hk (g := g) with a | a
    · have b : (rd F k).2.1 = c := hc.resolve_left fun z => q (a.symm.trans z)
      rw [eBy_of (.inr ⟨rfl, b⟩) ne]
      exact a.symm
    · have b : (rd F k).1 = c := hc.resolve_right fun z => q (a.symm.trans z)
      rw [eBy_of (.inl ⟨b, rfl⟩) ne]
      exact a.symm
end
end OT

set_option linter.all false
namespace OT
section
variable {n : Int} {F : List Fact} {S : Int} {g : Nat} {p : Int}
theorem eAt_or (F : List Fact) (S : Int) (k : Nat) (c : Int) : eAt F S k c = 0 ∨ eAt F S k c = sz F S k := by
  unfold eAt
  split
  · exact .inl rfl
  · exact .inr rfl
theorem hP_g (i : Int) : hP F S g p g i = dst i p := by
  unfold hP legsP
  rw [if_pos rfl]
  show dst i p + 0 = _
  omega
theorem hP_k {k : Nat} (h : k ≠ g) (i : Int) : hP F S g p k i = dst i (eAt F S k (up F g k)) + hC F S g p (up F g k) := by
  unfold hP legsP
  rw [if_neg h]
  rfl
theorem dst_self (a : Int) : dst a a = 0 := by unfold dst; split <;> omega
theorem legsC_nil (c : Int) : legsC F S g p c [] = [(g, eAt F S g c, p)] := rfl
theorem legsC_g (c : Int) (l : List Nat) : legsC F S g p c (g :: l) = legsC F S g p c l := by
  show (if g = g then _ else _) = _
  rw [if_pos rfl]
theorem legsC_k {k : Nat} (h : k ≠ g) (c : Int) (l : List Nat) : legsC F S g p c (k :: l) = (k, eAt F S k c, eAt F S k (eBy F k c)) :: legsC F S g p (eBy F k c) l := by
  show (if k = g then _ else _) = _
  rw [if_neg h]
variable (T : TreeM n F) (hS : 1 ≤ S) (hg : On F S g p)
include T hS hg
/-- at an end of the last road one goes along it -/
theorem legsC_end {c : Int} (hc : (rd F g).1 = c ∨ (rd F g).2.1 = c) : legsC F S g p c (tr F c (rd F g).1) = [(g, eAt F S g c, p)] := by
  rcases hc with rfl | rfl
  · rw [tr_self T (rd_ok T hg.1).1, legsC_nil]
  · rw [tr_root T hg.1, legsC_g, legsC_nil]
theorem hC_end {c : Int} (hc : (rd F g).1 = c ∨ (rd F g).2.1 = c) : hC F S g p c = dst (eAt F S g c) p := by
  unfold hC
  rw [legsC_end T hS hg hc]
  show dst _ _ + 0 = _
  omega
theorem hC_far {k : Nat} (hk : k < F.length) (h : k ≠ g) : hC F S g p (eBy F k (up F g k)) = sz F S k + hC F S g p (up F g k) := by
  obtain ⟨_, _, _, ne⟩ := rd_ok T hk
  have e := up_end T hk (g := g)
  have bb : eBy F k (eBy F k (up F g k)) = up F g k := eBy_of (jn_by e).symm ne
  have oth : (rd F k).1 = eBy F k (up F g k) ∨ (rd F k).2.1 = eBy F k (up F g k) := by
    rcases jn_by e with ⟨_, b⟩ | ⟨b, _⟩
    · exact .inr b
    · exact .inl b
  show total (legsC F S g p (eBy F k (up F g k)) (tr F (eBy F k (up F g k)) (rd F g).1)) = _
  rw [up_far T hg.1 hk, legsC_k h]
  show dst _ _ + total _ = _
  rw [dst_ends T hS hk oth, bb]
  rfl
theorem oth_end {k : Nat} (hk : k < F.length) {c : Int} (hc : (rd F k).1 = c ∨ (rd F k).2.1 = c) (q : up F g k ≠ c) : c = eBy F k (up F g k) := by
  obtain ⟨_, _, _, ne⟩ := rd_ok T hk
  rcases up_end T hk (g := g) with a | a
  · have b : (rd F k).2.1 = c := hc.resolve_left fun z => q (a.symm.trans z)
    rw [eBy_of (.inl ⟨a, b⟩) ne]
  · have b : (rd F k).1 = c := hc.resolve_right fun z => q (a.symm.trans z)
    rw [eBy_of (.inr ⟨b, a⟩) ne]
theorem eAt_far {k : Nat} (hk : k < F.length) {c : Int} (hc : (rd F k).1 = c ∨ (rd F k).2.1 = c) (q : up F g k ≠ c) : dst (eAt F S k c) (eAt F S k (up F g k)) = sz F S k := by
  obtain ⟨_, _, _, ne⟩ := rd_ok T hk
  have e := dst_ends T hS hk hc
  have z := oth_end T hS hg hk hc q
  have bb : eBy F k c = up F g k := by rw [z]; exact eBy_of (jn_by (up_end T hk)).symm ne
  rw [bb] at e
  exact e
/-- the distance from a crossing, seen from its roads -/
theorem hP_end {k : Nat} (hk : k < F.length) {c : Int} (hc : (rd F k).1 = c ∨ (rd F k).2.1 = c) : hP F S g p k (eAt F S k c) = hC F S g p c := by
  by_cases h : k = g
  · subst h
    rw [hP_g, hC_end T hS hg hc]
  · rw [hP_k h]
    by_cases q : up F g k = c
    · rw [q, dst_self]
      omega
    · rw [eAt_far T hS hg hk hc q, ← hC_far T hS hg hk h, ← oth_end T hS hg hk hc q]
theorem hN_node {k : Nat} {i : Int} (h : On F S k i) : hN F S g p (node F S k i) = hP F S g p k i := by
  obtain ⟨_, _, _, ne⟩ := rd_ok T h.1
  unfold node
  by_cases e0 : i = 0
  · rw [if_pos e0]
    show hC F S g p (rd F k).1 = _
    rw [← hP_end T hS hg h.1 (.inl rfl), e0]
    unfold eAt
    rw [if_pos rfl]
  · rw [if_neg e0]
    by_cases e1 : i = sz F S k
    · rw [if_pos e1]
      show hC F S g p (rd F k).2.1 = _
      rw [← hP_end T hS hg h.1 (.inr rfl), e1]
      unfold eAt
      rw [if_neg ne]
    · rw [if_neg e1]
      rfl
/-- one step on a road brings one step nearer, or farther -/
theorem hP_step {k : Nat} {i j : Int} (hi : On F S k i) (hj : On F S k j) (a : j = i + 1 ∨ j = i - 1) : hP F S g p k j = hP F S g p k i + 1 ∨ hP F S g p k j = hP F S g p k i - 1 := by
  obtain ⟨_, i0, i1⟩ := hi
  obtain ⟨_, j0, j1⟩ := hj
  by_cases h : k = g
  · subst h
    obtain ⟨_, p0, p1⟩ := hg
    rw [hP_g, hP_g]
    unfold dst
    split <;> split <;> omega
  · rw [hP_k h, hP_k h]
    rcases eAt_or F S k (up F g k) with e | e
    · rw [e]
      unfold dst
      split <;> split <;> omega
    · rw [e]
      unfold dst
      split <;> split <;> omega
omit T hS hg in
theorem Adj.norm {u v : Nd} (h : Adj F S u v) : ∃ k i j, On F S k i ∧ On F S k j ∧ (j = i + 1 ∨ j = i - 1) ∧ u = node F S k i ∧ v = node F S k j := by
  obtain ⟨k, i, a, b, c, ⟨d, e⟩ | ⟨d, e⟩⟩ := h
  · exact ⟨k, i, i + 1, ⟨a, b, by omega⟩, ⟨a, by omega, c⟩, .inl rfl, d, e⟩
  · exact ⟨k, i + 1, i, ⟨a, by omega, c⟩, ⟨a, b, by omega⟩, .inr (by omega), d, e⟩
omit T hS hg in
theorem Adj.of {k : Nat} {i j : Int} (hi : On F S k i) (hj : On F S k j) (a : j = i + 1 ∨ j = i - 1) : Adj F S (node F S k i) (node F S k j) := by
  rcases a with rfl | rfl
  · exact ⟨k, i, hi.1, hi.2.1, hj.2.2, .inl ⟨rfl, rfl⟩⟩
  · exact ⟨k, i - 1, hi.1, hj.2.1, by have := hi.2.2; omega, .inr ⟨by rw [Int.sub_add_cancel], rfl⟩⟩
theorem adj_step {u v : Nd} (h : Adj F S u v) : hN F S g p v = hN F S g p u + 1 ∨ hN F S g p v = hN F S g p u - 1 := by
  obtain ⟨k, i, j, hi, hj, a, rfl, rfl⟩ := h.norm
  rw [hN_node T hS hg hi, hN_node T hS hg hj]
  exact hP_step T hS hg hi hj a
theorem low_head {k : Nat} (hk : k < F.length) (h : k ≠ g) {c j : Int} (hc : (rd F k).1 = c ∨ (rd F k).2.1 = c) (a : j = eAt F S k c + 1 ∨ j = eAt F S k c - 1) (l : hP F S g p k j + 1 = hC F S g p c) : ∃ m, tr F c (rd F g).1 = k :: m := by
  by_cases q : up F g k = c
  · exfalso
    rw [hP_k h, q] at l
    have : dst j (eAt F S k c) = 1 := by unfold dst; split <;> omega
    omega
  · rw [oth_end T hS hg hk hc q]
    exact ⟨_, up_far T hg.1 hk⟩
/-- only one neighbour is nearer -/
theorem lower_uniq {v u1 u2 : Nd} (a1 : Adj F S v u1) (a2 : Adj F S v u2) (l1 : hN F S g p u1 + 1 = hN F S g p v) (l2 : hN F S g p u2 + 1 = hN F S g p v) : u1 = u2 := by
  obtain ⟨k1, i1, j1, o1, q1, n1, rfl, rfl⟩ := a1.norm
  obtain ⟨k2, i2, j2, o2, q2, n2, ev, rfl⟩ := a2.norm
  rw [hN_node T hS hg q1] at l1
  rw [hN_node T hS hg q2] at l2
  cases e : node F S k1 i1 with
  | mid k i =>
    have m : ∀ {k' i'}, node F S k' i' = .mid k i → k' = k ∧ i' = i := fun {k' i'} z => by
      unfold node at z
      split at z
      · cases z
      · split at z
        · cases z
        · cases z
          exact ⟨rfl, rfl⟩
    obtain ⟨rfl, rfl⟩ := m e
    rw [e] at ev
    obtain ⟨rfl, rfl⟩ := m ev.symm
    rw [hN_node T hS hg o1] at l1 l2
    by_cases z : j1 = j2
    · rw [z]
    · exfalso
      obtain ⟨_, _, _⟩ := o1
      obtain ⟨_, _, _⟩ := q1
      obtain ⟨_, _, _⟩ := q2
      by_cases h : k2 = g
      · subst h
        rw [hP_g, hP_g] at l1 l2
        unfold dst at l1 l2
        split at l1 <;> split at l1 <;> split at l2 <;> omega
      · rw [hP_k h, hP_k h] at l1 l2
        rcases eAt_or F S k2 (up F g k2) with e | e
        · rw [e] at l1 l2
          unfold dst at l1 l2
          split at l1 <;> split at l1 <;> split at l2 <;> omega
        · rw [e] at l1 l2
          unfold dst at l1 l2
          split at l1 <;> split at l1 <;> split at l2 <;> omega
  | cr c =>
    rw [e] at ev l1 l2
    obtain ⟨c1, ei1⟩ := node_cr T hS o1.1 e
    obtain ⟨c2, ei2⟩ := node_cr T hS o2.1 ev.symm
    rw [ei1] at n1
    rw [ei2] at n2
    have same : k1 = k2 := by
      by_cases h1 : k1 = g
      · by_cases h2 : k2 = g
        · exact h1.trans h2.symm
        · exfalso
          obtain ⟨m, em⟩ := low_head T hS hg o2.1 h2 c2 n2 l2
          rw [h1] at c1
          rcases c1 with rfl | rfl
          · rw [tr_self T (rd_ok T hg.1).1] at em
            cases em
          · rw [tr_root T hg.1] at em
            exact h2 (List.cons.inj em).1.symm
      · by_cases h2 : k2 = g
        · exfalso
          obtain ⟨m, em⟩ := low_head T hS hg o1.1 h1 c1 n1 l1
          rw [h2] at c2
          rcases c2 with rfl | rfl
          · rw [tr_self T (rd_ok T hg.1).1] at em
            cases em
          · rw [tr_root T hg.1] at em
            exact h1 (List.cons.inj em).1.symm
        · obtain ⟨m, em⟩ := low_head T hS hg o1.1 h1 c1 n1 l1
          obtain ⟨m', em'⟩ := low_head T hS hg o2.1 h2 c2 n2 l2
          rw [em] at em'
          exact (List.cons.inj em').1
    subst same
    have : j1 = j2 := by
      obtain ⟨_, _, _⟩ := q1
      obtain ⟨_, _, _⟩ := q2
      rcases eAt_or F S k1 c with e | e <;> omega
    rw [this]
/-! ### the way along the legs -/
omit T hS hg in
theorem posL_le {k : Nat} {s e t : Int} {L : List Leg} (h : t ≤ dst s e) : posL ((k, s, e) :: L) t = (k, if s < e then s + t else s - t) := by
  show (if t ≤ dst s e then _ else _) = _
  rw [if_pos h]
omit T hS hg in
theorem posL_gt {k : Nat} {s e t : Int} {L : List Leg} (h : ¬ t ≤ dst s e) : posL ((k, s, e) :: L) t = posL L (t - dst s e) := by
  show (if t ≤ dst s e then _ else _) = _
  rw [if_neg h]
/-- along the legs L one comes nearer with each part of a step -/
def PathOk (F : List Fact) (S : Int) (g : Nat) (p : Int) (L : List Leg) : Prop := ∀ t, 0 ≤ t → t ≤ total L → On F S (posL L t).1 (posL L t).2 ∧ hP F S g p (posL L t).1 (posL L t).2 = total L - t ∧
  (t + 1 ≤ total L → Adj F S (node F S (posL L t).1 (posL L t).2) (node F S (posL L (t + 1)).1 (posL L (t + 1)).2))
omit T hS hg in
theorem leg_in {k : Nat} {s e t : Int} (hs : On F S k s) (he : On F S k e) (t0 : 0 ≤ t) (t1 : t ≤ dst s e) : On F S k (if s < e then s + t else s - t) ∧ dst (if s < e then s + t else s - t) e = dst s e - t := by
  obtain ⟨a, b, c⟩ := hs
  obtain ⟨_, b', c'⟩ := he
  unfold dst at t1 ⊢
  by_cases h : s < e
  · rw [if_pos h]
    have h1 : ¬ e - s < 0 := by omega
    rw [if_neg h1] at t1 ⊢
    have h2 : ¬ e - (s + t) < 0 := by omega
    rw [if_neg h2]
    exact ⟨⟨a, by omega, by omega⟩, by omega⟩
  · rw [if_neg h]
    by_cases h1 : e - s < 0
    · rw [if_pos h1] at t1 ⊢
      refine ⟨⟨a, by omega, by omega⟩, ?_⟩
      split <;> omega
    · rw [if_neg h1] at t1 ⊢
      refine ⟨⟨a, by omega, by omega⟩, ?_⟩
      split <;> omega
omit T hS hg in
theorem path_cons {k : Nat} {s e : Int} {L : List Leg} (hs : On F S k s) (he : On F S k e) (lin : ∀ i, On F S k i → hP F S g p k i = dst i e + total L) (ok : PathOk F S g p L) (j : 1 ≤ total L → node F S k e = node F S (posL L 0).1 (posL L 0).2) : PathOk F S g p ((k, s, e) :: L) := by
  intro t t0 t1
  have tot : total ((k, s, e) :: L) = dst s e + total L := rfl
  rw [tot] at t1 ⊢
  by_cases h : t ≤ dst s e
  · obtain ⟨o, d⟩ := leg_in hs he t0 h
    rw [posL_le h]
    refine ⟨o, by rw [lin _ o, d]; omega, fun t2 => ?_⟩
    by_cases h2 : t + 1 ≤ dst s e
    · obtain ⟨o2, _⟩ := leg_in hs he (show 0 ≤ t + 1 by omega) h2
      rw [posL_le h2]
      refine Adj.of o o2 ?_
      split
      · exact .inl (by omega)
      · exact .inr (by omega)
    · have et : t = dst s e := by omega
      rw [posL_gt h2]
      have e1 : t + 1 - dst s e = 0 + 1 := by omega
      rw [e1]
      have ee : (if s < e then s + t else s - t) = e := by
        rw [et]
        unfold dst
        split <;> split <;> omega
      simp only [ee]
      rw [j (by omega)]
      exact (ok 0 (Int.le_refl _) (total_nn _)).2.2 (by omega)
  · rw [posL_gt h, posL_gt (show ¬ t + 1 ≤ dst s e by omega)]
    obtain ⟨o, d, a⟩ := ok (t - dst s e) (by omega) (by omega)
    refine ⟨o, by rw [d]; omega, fun t2 => ?_⟩
    have e1 : t + 1 - dst s e = t - dst s e + 1 := by omega
    rw [e1]
    exact a (by omega)
theorem path_last {s : Int} (hs : On F S g s) : PathOk F S g p [(g, s, p)] := by
  intro t t0 t1
  have tot : total [(g, s, p)] = dst s p := by show dst s p + 0 = _; omega
  rw [tot] at t1 ⊢
  obtain ⟨o, d⟩ := leg_in hs hg t0 t1
  rw [posL_le t1]
  refine ⟨o, by rw [hP_g, d], fun t2 => ?_⟩
  obtain ⟨o2, _⟩ := leg_in hs hg (show 0 ≤ t + 1 by omega) t2
  rw [posL_le t2]
  refine Adj.of o o2 ?_
  split
  · exact .inl (by omega)
  · exact .inr (by omega)
omit T hS hg in
theorem posL_zero {k : Nat} {s e : Int} {L : List Leg} : posL ((k, s, e) :: L) 0 = (k, s) := by
  rw [posL_le (dst_nn s e)]
  split <;> simp
theorem legsC_ok : ∀ (l : List Nat) (c : Int), In n c → tr F c (rd F g).1 = l → PathOk F S g p (legsC F S g p c l) ∧ node F S (posL (legsC F S g p c l) 0).1 (posL (legsC F S g p c l) 0).2 = .cr c := by
  have hr := (rd_ok T hg.1).1
  have last : ∀ c, ((rd F g).1 = c ∨ (rd F g).2.1 = c) → PathOk F S g p [(g, eAt F S g c, p)] ∧ node F S (posL [(g, eAt F S g c, p)] 0).1 (posL [(g, eAt F S g c, p)] 0).2 = .cr c := fun c hc => by
    refine ⟨path_last T hS hg (eAt_on T hS hg.1 c), ?_⟩
    rw [posL_zero]
    exact node_eAt T hS hg.1 hc
  intro l
  induction l with
  | nil =>
    intro c ic e
    obtain ⟨w, _⟩ := tr_of T ic hr
    rw [e] at w
    cases w
    exact last _ (.inl rfl)
  | cons k l ih =>
    intro c ic e
    obtain ⟨w, nd⟩ := tr_of T ic hr
    rw [e] at w nd
    cases w with
    | @cons _ c' _ _ r _ ek j w =>
      have hk : k < F.length := (List.getElem?_eq_some_iff.mp ek).1
      rw [rd_get hk] at ek
      cases ek
      obtain ⟨_, _, _, ne⟩ := rd_ok T hk
      have hc : (rd F k).1 = c ∨ (rd F k).2.1 = c := by
        rcases j with ⟨a, _⟩ | ⟨_, a⟩
        · exact .inl a
        · exact .inr a
      by_cases h : k = g
      · subst h
        rw [legsC_g]
        have el : l = [] := by
          rcases hc with rfl | rfl
          · rw [tr_self T hr] at e
            cases e
          · rw [tr_root T hg.1] at e
            exact (List.cons.inj e).2.symm
        rw [el]
        exact last _ hc
      · rw [legsC_k h]
        obtain ⟨eu, el⟩ := up_of T hg.1 hk hc e
        have ic' : In n (eBy F k c) := by
          have o := rd_ok T hk
          rcases jn_by hc with ⟨_, b⟩ | ⟨b, _⟩
          · exact b ▸ o.2.1
          · exact b ▸ o.1
        obtain ⟨ok, st⟩ := ih (eBy F k c) ic' el.symm
        refine ⟨path_cons (eAt_on T hS hk c) (eAt_on T hS hk _) (fun i hi => ?_) ok fun _ => ?_, ?_⟩
        · rw [hP_k h, eu]
          unfold hC
          rw [← el]
        · rw [st]
          refine node_eAt T hS hk ?_
          rcases jn_by hc with ⟨_, b⟩ | ⟨b, _⟩
          · exact .inr b
          · exact .inl b
        · rw [posL_zero]
          exact node_eAt T hS hk hc
theorem legsP_ok {k : Nat} {i : Int} (h : On F S k i) : PathOk F S g p (legsP F S g p k i) ∧ node F S (posL (legsP F S g p k i) 0).1 (posL (legsP F S g p k i) 0).2 = node F S k i := by
  unfold legsP
  by_cases e : k = g
  · subst e
    rw [if_pos rfl, posL_zero]
    exact ⟨path_last T hS hg h, rfl⟩
  · rw [if_neg e, posL_zero]
    have ic : In n (up F g k) := by
      have o := rd_ok T h.1
      rcases up_end T h.1 (g := g) with b | b
      · exact b ▸ o.1
      · exact b ▸ o.2.1
    obtain ⟨ok, st⟩ := legsC_ok T hS hg _ (up F g k) ic rfl
    refine ⟨path_cons h (eAt_on T hS h.1 _) (fun j hj => hP_k e j) ok fun _ => ?_, rfl⟩
    rw [st]
    exact node_eAt T hS h.1 (up_end T h.1)
theorem hC_zero {c : Int} (ic : In n c) (h : hC F S g p c = 0) : node F S g p = .cr c := by
  have hr := (rd_ok T hg.1).1
  have fin : ((rd F g).1 = c ∨ (rd F g).2.1 = c) → node F S g p = .cr c := fun hc => by
    rw [hC_end T hS hg hc] at h
    have : p = eAt F S g c := by
      unfold dst at h
      split at h <;> omega
    rw [this]
    exact node_eAt T hS hg.1 hc
  cases e : tr F c (rd F g).1 with
  | nil =>
    obtain ⟨w, _⟩ := tr_of T ic hr
    rw [e] at w
    cases w
    exact fin (.inl rfl)
  | cons k l =>
    obtain ⟨w, nd⟩ := tr_of T ic hr
    rw [e] at w nd
    cases w with
    | @cons _ c' _ _ r _ ek j w =>
      have hk : k < F.length := (List.getElem?_eq_some_iff.mp ek).1
      rw [rd_get hk] at ek
      cases ek
      have hc : (rd F k).1 = c ∨ (rd F k).2.1 = c := by
        rcases j with ⟨a, _⟩ | ⟨_, a⟩
        · exact .inl a
        · exact .inr a
      by_cases q : k = g
      · exact fin (q ▸ hc)
      · exfalso
        unfold hC at h
        rw [e, legsC_k q] at h
        have h' : dst (eAt F S k c) (eAt F S k (eBy F k c)) + total (legsC F S g p (eBy F k c) l) = 0 := h
        rw [dst_ends T hS hk hc] at h'
        have := sz_pos T hS hk
        have := total_nn (legsC F S g p (eBy F k c) l)
        omega
/-- only the goal is at no distance -/
theorem hP_zero {k : Nat} {i : Int} (h : On F S k i) (z : hP F S g p k i = 0) : node F S k i = node F S g p := by
  by_cases e : k = g
  · subst e
    rw [hP_g] at z
    have : i = p := by
      unfold dst at z
      split at z <;> omega
    rw [this]
  · rw [hP_k e] at z
    have d := dst_nn i (eAt F S k (up F g k))
    have c := total_nn (legsC F S g p (up F g k) (tr F (up F g k) (rd F g).1))
    have z' : dst i (eAt F S k (up F g k)) + total (legsC F S g p (up F g k) (tr F (up F g k) (rd F g).1)) = 0 := z
    have ei : i = eAt F S k (up F g k) := by
      have : dst i (eAt F S k (up F g k)) = 0 := by omega
      unfold dst at this
      split at this <;> omega
    have ic : In n (up F g k) := by
      have o := rd_ok T h.1
      rcases up_end T h.1 (g := g) with b | b
      · exact b ▸ o.1
      · exact b ▸ o.2.1
    rw [hC_zero T hS hg ic (show hC F S g p (up F g k) = 0 by unfold hC; omega), ei]
    exact node_eAt T hS h.1 (up_end T h.1)
end
end OT

set_option linter.all false
namespace OT
/-! ### another number of parts to the step -/
theorem sz_mul (F : List Fact) (S c : Int) (k : Nat) : sz F (S * c) k = sz F S k * c := by
  unfold sz
  rw [Int.mul_assoc]
theorem eAt_mul (F : List Fact) (S c : Int) (k : Nat) (x : Int) : eAt F (S * c) k x = eAt F S k x * c := by
  unfold eAt
  split
  · rw [Int.zero_mul]
  · exact sz_mul F S c k
theorem dst_mul {c : Int} (hc : 0 < c) (s e : Int) : dst (s * c) (e * c) = dst s e * c := by
  have h : e * c - s * c = (e - s) * c := by rw [Int.sub_mul]
  unfold dst
  rw [h]
  by_cases q : e - s < 0
  · have q' : (e - s) * c < 0 := Int.mul_neg_of_neg_of_pos q hc
    rw [if_pos q, if_pos q', Int.neg_mul]
  · have q' : ¬ (e - s) * c < 0 := by
      have := Int.mul_nonneg (a := e - s) (b := c) (by omega) (by omega)
      omega
    rw [if_neg q, if_neg q']
def scL (c : Int) (l : Leg) : Leg := (l.1, l.2.1 * c, l.2.2 * c)
theorem legsC_mul (F : List Fact) (S c : Int) (g : Nat) (p : Int) : ∀ (l : List Nat) (x : Int), legsC F (S * c) g (p * c) x l = (legsC F S g p x l).map (scL c)
  | [], x => by
    show [(g, eAt F (S * c) g x, p * c)] = [scL c (g, eAt F S g x, p)]
    rw [eAt_mul]
    rfl
  | k :: l, x => by
    by_cases h : k = g
    · subst h
      rw [legsC_g, legsC_g]
      exact legsC_mul F S c k p l x
    · rw [legsC_k h, legsC_k h, List.map_cons, legsC_mul F S c g p l, eAt_mul, eAt_mul]
      rfl
theorem legsP_mul (F : List Fact) (S c : Int) (g : Nat) (p : Int) (k : Nat) (i : Int) : legsP F (S * c) g (p * c) k (i * c) = (legsP F S g p k i).map (scL c) := by
  unfold legsP
  by_cases h : k = g
  · rw [if_pos h, if_pos h]
    rfl
  · rw [if_neg h, if_neg h, List.map_cons, legsC_mul, eAt_mul]
    rfl
theorem total_mul {c : Int} (hc : 0 < c) : ∀ L : List Leg, total (L.map (scL c)) = total L * c
  | [] => by
    show (0 : Int) = 0 * c
    rw [Int.zero_mul]
  | (k, s, e) :: L => by
    show dst (s * c) (e * c) + total (L.map (scL c)) = (dst s e + total L) * c
    rw [dst_mul hc, total_mul hc L, Int.add_mul]
theorem hP_mul {c : Int} (hc : 0 < c) (F : List Fact) (S : Int) (g : Nat) (p : Int) (k : Nat) (i : Int) : hP F (S * c) g (p * c) k (i * c) = hP F S g p k i * c := by
  unfold hP
  rw [legsP_mul, total_mul hc]
theorem posL_mul {c : Int} (hc : 0 < c) : ∀ (L : List Leg) (t : Int), posL (L.map (scL c)) (t * c) = ((posL L t).1, (posL L t).2 * c)
  | [], t => by
    show ((0 : Nat), (0 : Int)) = (0, 0 * c)
    rw [Int.zero_mul]
  | (k, s, e) :: L, t => by
    show posL ((k, s * c, e * c) :: L.map (scL c)) (t * c) = _
    by_cases h : t ≤ dst s e
    · have h' : t * c ≤ dst (s * c) (e * c) := by
        rw [dst_mul hc]
        exact Int.mul_le_mul_of_nonneg_right h (by omega)
      rw [posL_le h, posL_le h']
      have q : (s * c < e * c) ↔ s < e := ⟨fun z => Int.lt_of_mul_lt_mul_right z (by omega), fun z => Int.mul_lt_mul_of_pos_right z hc⟩
      by_cases r : s < e
      · simp only [q.mpr r, r, if_true]
        rw [Int.add_mul]
      · simp only [fun z => r (q.mp z), r, if_false]
        have : ¬ s * c < e * c := fun z => r (q.mp z)
        rw [if_neg this, Int.sub_mul]
    · have h' : ¬ t * c ≤ dst (s * c) (e * c) := by
        rw [dst_mul hc]
        exact fun z => h (Int.le_of_mul_le_mul_right z hc)
      rw [posL_gt h, posL_gt h', dst_mul hc, ← Int.sub_mul, posL_mul hc L]
def scN (c : Int) : Nd → Nd
  | .cr x => .cr x
  | .mid k i => .mid k (i * c)
theorem node_mul {c : Int} (hc : 0 < c) (F : List Fact) (S : Int) (k : Nat) (i : Int) : node F (S * c) k (i * c) = scN c (node F S k i) := by
  unfold node
  rw [sz_mul]
  by_cases h : i = 0
  · rw [if_pos h, if_pos (by rw [h, Int.zero_mul])]
    rfl
  · have h' : ¬ i * c = 0 := fun z => (Int.mul_eq_zero.mp z).elim h (by omega)
    rw [if_neg h, if_neg h']
    by_cases q : i = sz F S k
    · rw [if_pos q, if_pos (by rw [q])]
      rfl
    · rw [if_neg q, if_neg (fun z => q (Int.eq_of_mul_eq_mul_right (by omega) z))]
      rfl
/-! ### keys -/
/-- the lowest-numbered road at a crossing -/
def fstR (F : List Fact) (c : Int) : Nat := F.findIdx fun r => decide (r.1 = c ∨ r.2.1 = c)
/-- the key of a place, as a road, a number and parts -/
def keyF (F : List Fact) (S : Int) : Nd → Fact
  | .cr c => ((fstR F c : Nat), eAt F 1 (fstR F c) c, 1)
  | .mid k i => low ((k : Nat), i, S)
theorem keyF_mul {c : Int} (hc : 0 < c) (F : List Fact) (S : Int) (v : Nd) : keyF F (S * c) (scN c v) = keyF F S v := by
  cases v with
  | cr x => rfl
  | mid k i => exact low_mul c hc
theorem keyF_node_mul {c : Int} (hc : 0 < c) (F : List Fact) (S : Int) (k : Nat) (i : Int) : keyF F (S * c) (node F (S * c) k (i * c)) = keyF F S (node F S k i) := by
  rw [node_mul hc, keyF_mul hc]
theorem fstR_spec {n : Int} {F : List Fact} (T : TreeM n F) {c : Int} (hc : In n c) (h2 : 2 ≤ n) : fstR F c < F.length ∧ ((rd F (fstR F c)).1 = c ∨ (rd F (fstR F c)).2.1 = c) ∧ ∀ j, j < fstR F c → ¬ ((rd F j).1 = c ∨ (rd F j).2.1 = c) := by
  have ex : ∃ r ∈ F, r.1 = c ∨ r.2.1 = c := by
    obtain ⟨d, hd, ne⟩ : ∃ d, In n d ∧ d ≠ c := by
      by_cases z : c = 0
      · exact ⟨1, ⟨by decide, by omega⟩, by omega⟩
      · exact ⟨0, ⟨by decide, by omega⟩, fun q => z q.symm⟩
    have q := T.con d c hd hc
    cases q with
    | refl => exact absurd rfl ne
    | step _ m j =>
      refine ⟨_, m, ?_⟩
      rcases j with ⟨_, b⟩ | ⟨b, _⟩
      · exact .inr b
      · exact .inl b
  obtain ⟨r, m, e⟩ := ex
  have lt : fstR F c < F.length := List.findIdx_lt_length_of_exists ⟨r, m, by simpa using e⟩
  refine ⟨lt, ?_, fun j hj q => ?_⟩
  · have z := List.findIdx_getElem (xs := F) (p := fun r : Fact => decide (r.1 = c ∨ r.2.1 = c)) (w := lt)
    have z2 := of_decide_eq_true z
    have e2 : rd F (fstR F c) = F[fstR F c] := rd_of (List.getElem?_eq_getElem lt)
    rw [e2]
    exact z2
  · have lj : j < F.length := Nat.lt_trans hj lt
    have z := List.not_of_lt_findIdx (xs := F) (p := fun r : Fact => decide (r.1 = c ∨ r.2.1 = c)) hj
    have e2 : rd F j = F[j] := rd_of (List.getElem?_eq_getElem lj)
    rw [e2] at q
    simp only [decide_eq_false_iff_not] at z
    exact z q
/-- a fraction in lowest terms -/
def Low (r : Fact) : Prop := 1 ≤ r.2.2 ∧ low r = r
theorem low_low {r : Fact} (h : 1 ≤ r.2.2) : Low (low r) := by
  have g0 := gcd_pos (a := r.2.1) h
  have dl := gcdI_left r.2.1 r.2.2
  have dr := gcdI_right r.2.1 r.2.2
  have p1 : 1 ≤ r.2.2 / gcdI r.2.1 r.2.2 := by
    have z := back_of dr
    have q : r.2.2 / gcdI r.2.1 r.2.2 ≠ 0 := fun q => by rw [q, Int.zero_mul] at z; omega
    have := Int.ediv_nonneg (a := r.2.2) (b := gcdI r.2.1 r.2.2) (by omega) (by omega)
    omega
  refine ⟨p1, ?_⟩
  have one : gcdI (r.2.1 / gcdI r.2.1 r.2.2) (r.2.2 / gcdI r.2.1 r.2.2) = 1 := by
    have e1 := back_of dl
    have e2 := back_of dr
    generalize hg : gcdI r.2.1 r.2.2 = g at *
    have z : gcdI (r.2.1 / g * g) (r.2.2 / g * g) = gcdI (r.2.1 / g) (r.2.2 / g) * g := by
      unfold gcdI
      rw [Int.natAbs_mul, Int.natAbs_mul, Nat.gcd_mul_right, Int.natCast_mul]
      congr 1
      omega
    rw [← e1, ← e2, hg] at z
    have : 1 * g = gcdI (r.2.1 / g) (r.2.2 / g) * g := by rw [← z, Int.one_mul]
    exact (Int.eq_of_mul_eq_mul_right (by omega) this).symm
  show (_, _ / gcdI _ _, _ / gcdI _ _) = _
  show (r.1, r.2.1 / gcdI r.2.1 r.2.2 / gcdI (r.2.1 / gcdI r.2.1 r.2.2) (r.2.2 / gcdI r.2.1 r.2.2), r.2.2 / gcdI r.2.1 r.2.2 / gcdI (r.2.1 / gcdI r.2.1 r.2.2) (r.2.2 / gcdI r.2.1 r.2.2)) = _
  rw [one, Int.ediv_one, Int.ediv_one]
  rfl
theorem low_back {r : Fact} (h : 1 ≤ r.2.2) : ∃ c, 0 < c ∧ r.2.1 = (low r).2.1 * c ∧ r.2.2 = (low r).2.2 * c := ⟨gcdI r.2.1 r.2.2, gcd_pos h, back_of (gcdI_left _ _), back_of (gcdI_right _ _)⟩
end OT

set_option Elab.async false
set_option linter.all false
set_option maxRecDepth 100000
set_option maxHeartbeats 1000000
namespace OTR
open PySem PySem.Spec PyProof.Rows L2
section
variable {X : Cx}
/-- math.lcm of two -/
def rLcm : List V → Hp → VK → Prop := fun vs G Q => ∃ a b : Int, vs = [.int a, .int b] ∧ a.natAbs < 2 ^ 64 ∧ b.natAbs < 2 ^ 64 ∧ Q (.int ((Nat.lcm a.natAbs b.natAbs : Nat) : Int)) G
theorem cr_lcm : CallR X (.builtin "math.lcm") rLcm := by
  intro p0 s0 g0 G vs us Q J r h
  obtain ⟨a, b, rfl, la, lb, q⟩ := h
  obtain ⟨t, u, rfl⟩ := Vals.int2 r
  exact PySem.W.mc_lcm la lb fun _ => ⟨.int _, G, J.tok _, ⟨_, rfl⟩, q⟩
end
end OTR

set_option Elab.async false
set_option linter.all false
set_option maxRecDepth 100000
set_option maxHeartbeats 4000000
namespace OT
open PySem L2 OTR
abbrev sNoRd : Stmt := inClass (top 7) 0
abbrev sOff : Stmt := inClass (top 8) 0
abbrev sCheckPl : Stmt := top 24
abbrev sEndAt : Stmt := top 20
abbrev sCorner : Stmt := top 26
abbrev sKey : Stmt := top 25
theorem PlaceAt.kp {C : Addr} {H H' : Hp} {p : Addr} {r : Fact} (h : PlaceAt C H p r) (k : Kp H H') : PlaceAt C H' p r := let ⟨dx, e⟩ := h; ⟨dx, k _ _ e fun _ z => nomatch z⟩
/-- a tree that the program has made -/
structure TreeG (n : Int) (F : List Fact) : Prop where
  m : TreeM n F
  big : ∀ r ∈ F, r.2.2 ≤ 1000000000
  n2 : 2 ≤ n
  n24 : n ≤ 24
  len : (F.length : Int) = n - 1
theorem TreeG.rd {n : Int} {F : List Fact} (T : TreeG n F) {k : Nat} (h : k < F.length) : 1 ≤ (rd F k).2.2 ∧ (OT.rd F k).2.2 ≤ 1000000000 := ⟨(rd_ok T.m h).2.2.1, T.big _ (List.mem_of_getElem? (rd_get h))⟩
theorem RoadsAt.at_ {CR : Addr} {H : Hp} {ps : List Addr} {F : List Fact} (h : RoadsAt CR H ps F) {k : Nat} (hk : k < F.length) : ∃ p, (ps.map V.ref)[k]? = some (V.ref p) ∧ RoadAt CR H p (rd F k) := by
  have lk : k < ps.length := by rw [h.len]; exact hk
  obtain ⟨r, e, a⟩ := h.get (List.getElem?_eq_getElem lk)
  refine ⟨ps[k], by rw [List.getElem?_map, List.getElem?_eq_getElem lk]; rfl, ?_⟩
  rw [rd_of e]
  exact a
/-- the place lies on the tree -/
def PlOn (F : List Fact) (r : Fact) : Prop := (0 ≤ r.1 ∧ r.1 < (F.length : Int)) ∧ 0 ≤ r.2.1 ∧ r.2.1 ≤ (rd F r.1.toNat).2.2 * r.2.2
/-- its parts: few enough -/
def PlSm (r : Fact) : Prop := 1 ≤ r.2.2 ∧ r.2.2 < 2 ^ 60
def spCheckPl (K : PySem.W.Frag) (CT CR CP CNR COR : Addr) : Sp := fun vs H Q E => ∃ (a p : Addr) (n : Int) (ps : List Addr) (F : List Fact) (r : Fact), vs = [.ref a, .ref p] ∧ TreeAt K CT CR H a n ps F ∧ PlaceAt CP H p r ∧ TreeG n F ∧ PlSm r ∧
  (¬ (0 ≤ r.1 ∧ r.1 < (F.length : Int)) → Raised CNR [("road", .int r.1)] H E) ∧ ((0 ≤ r.1 ∧ r.1 < (F.length : Int)) → ¬ (0 ≤ r.2.1 ∧ r.2.1 ≤ (rd F r.1.toNat).2.2 * r.2.2) → Raised COR [("road", .int r.1)] H E) ∧ (PlOn F r → Q .non H)
def spEndAt (CR : Addr) : Sp := fun vs H Q _ => ∃ (p : Addr) (r : Fact) (c : Int), vs = [.ref p, .int c] ∧ RoadAt CR H p r ∧ Q (.int (if r.1 = c then 0 else r.2.2)) H
def spCorner (K : PySem.W.Frag) (CT CR CP CN : Addr) : Sp := fun vs H Q E => ∃ (a : Addr) (n : Int) (ps : List Addr) (F : List Fact) (c : Int), vs = [.ref a, .int c] ∧ TreeAt K CT CR H a n ps F ∧ TreeG n F ∧
  (¬ In n c → Raised CN [("crossing", .int c)] H E) ∧ (In n c → ∀ p H', Same H H' → H p = none → PlaceAt CP H' p (keyF F 1 (.cr c)) → Q (.ref p) H')
section
variable {P : Program} {w : World} {K : PySem.W.Frag} {mg : Str → Option Value} {base : Heap}
theorem scNoRd : FnScope ["self", "road"] ["self", "road"] (defScope sNoRd) := ⟨rfl, rfl, rfl, by decide +kernel, rfl, by decide +kernel, by decide +kernel⟩
theorem ok_noRd {f C : Addr} {fd : FuncData} (F : Fun K "__init__" "NoRoad.__init__" sNoRd f fd) (T : OexC K C) (n1 : PySem.W.findIn K (.ref C) "road" = some none) : FnOk P w K mg base CX0 1 f fd ["self", "road"] (spEr1 C "road") := by
  refine F.ok scNoRd (fun vs H Q E h => ?_) (fun cdv A outer s H vs Q E hr h => ?_)
  · obtain ⟨a, v, rfl, _⟩ := h
    rfl
  · obtain ⟨a, v, rfl, ha, k⟩ := h
    refine ⟨_, pss_one (ps_ost (pv 0) (pv 1)), ?_⟩
    exact ⟨_, rfl, _, rfl, a, C, rfl, T, n1, .inl ⟨ha, fun dx n ne => k dx n ne⟩⟩
theorem scOff : FnScope ["self", "road"] ["self", "road"] (defScope sOff) := ⟨rfl, rfl, rfl, by decide +kernel, rfl, by decide +kernel, by decide +kernel⟩
theorem ok_off {f C : Addr} {fd : FuncData} (F : Fun K "__init__" "OffRoad.__init__" sOff f fd) (T : OexC K C) (n1 : PySem.W.findIn K (.ref C) "road" = some none) : FnOk P w K mg base CX0 1 f fd ["self", "road"] (spEr1 C "road") := by
  refine F.ok scOff (fun vs H Q E h => ?_) (fun cdv A outer s H vs Q E hr h => ?_)
  · obtain ⟨a, v, rfl, _⟩ := h
    rfl
  · obtain ⟨a, v, rfl, ha, k⟩ := h
    refine ⟨_, pss_one (ps_ost (pv 0) (pv 1)), ?_⟩
    exact ⟨_, rfl, _, rfl, a, C, rfl, T, n1, .inl ⟨ha, fun dx n ne => k dx n ne⟩⟩
theorem scEndAt : FnScope ["road", "crossing"] ["road", "crossing"] (defScope sEndAt) := ⟨rfl, rfl, rfl, by decide +kernel, rfl, by decide +kernel, by decide +kernel⟩
theorem ok_endAt {f CR : Addr} {fd : FuncData} (F : Fun K "end_at" "end_at" sEndAt f fd) (TR : RdT K mg CR) : FnOk P w K mg base CX0 1 f fd ["road", "crossing"] (spEndAt CR) := by
  refine F.ok scEndAt (fun vs H Q E h => ?_) (fun cdv A outer s H vs Q E hr h => ?_)
  · obtain ⟨p, r, c, rfl, _⟩ := h
    rfl
  · obtain ⟨p, r, c, rfl, ⟨dx, e⟩, k⟩ := h
    refine ⟨_, pss_one (ps_ret (pe_ifExp (pt_cmpR op_eq (pe_fld (pv 0) rfl) (pv 1) (nomark _)) pe_int (pe_fld (pv 0) rfl))), ?_⟩
    refine ⟨_, rfl, p, CR, dx, _, _, rfl, e, TR.cl, TR.nA, rdF_a r, _, rfl, rfl, _, rfl, ?_⟩
    by_cases h : r.1 = c
    · rw [if_pos h] at k
      exact iteV h k
    · rw [if_neg h] at k
      exact iteN h ⟨_, rfl, p, CR, dx, _, _, rfl, e, TR.cl, TR.nL, rdF_l r, k⟩
theorem scCheckPl : FnScope ["tree", "place"] ["tree", "place"] (defScope sCheckPl) := ⟨rfl, rfl, rfl, by decide +kernel, rfl, by decide +kernel, by decide +kernel⟩
theorem ok_checkPl {f CT CR CP CNR COR fNR fOR : Addr} {fd fdNR fdOR : FuncData} (F : Fun K "check_place" "check_place" sCheckPl f fd) (TT : TeT K mg CT) (TR : RdT K mg CR) (TP : PlT K mg CP) (TN : ErT K mg "NoRoad" CNR fNR) (TO : ErT K mg "OffRoad" COR fOR)
    (FN : FnOk P w K mg base CX0 1 fNR fdNR ["self", "road"] (spEr1 CNR "road")) (bN : Binds K fdNR ["self", "road"] []) (FO : FnOk P w K mg base CX0 1 fOR fdOR ["self", "road"] (spEr1 COR "road")) (bO : Binds K fdOR ["self", "road"] [])
    (hLen : mg "len" = none) : FnOk P w K mg base (L2.CX P w) 3 f fd ["tree", "place"] (spCheckPl K CT CR CP CNR COR) := by
  refine F.okX scCheckPl (fun vs H Q E h => ?_) (fun cdv A outer s H vs Q E hr h => ?_)
  · obtain ⟨a, p, n, ps, F, r, rfl, _⟩ := h
    rfl
  · obtain ⟨a, p, n, ps, F, r, rfl, TA, ⟨dp, ep⟩, G, ⟨sm1, sm2⟩, k1, k2, k3⟩ := h
    refine ⟨_, pss_cons (ps_if (pt_not (pt_chain op_le op_lt pe_int (pe_fld (pv 1) rfl) (pe_callB call_len_seq (by rfl) hLen PySem.boot_len (pa_cons (pe_fld (pv 0) rfl) pa_nil))))
          (pss_one (ps_raise rfl (takes_of rfl rfl rfl rfl) (pmk_oex TN.ox TN.iC TN.tI FN hr bN .nil pass0 (by rfl) TN.gC (pa_cons (pe_fld (pv 1) rfl) pa_nil)))) pss_nil)
      (pss_one (ps_if (pt_not (pt_chain op_le op_le pe_int (pe_fld (pv 1) rfl) (pe_op op_mul (pe_fld (pe_ix ix_tup (pe_fld (pv 0) rfl) (pe_fld (pv 1) rfl) (fun _ _ => rfl)) rfl) (pe_fld (pv 1) rfl))))
          (pss_one (ps_raise rfl (takes_of rfl rfl rfl rfl) (pmk_oex TO.ox TO.iC TO.tI FO hr bO .nil pass0 (by rfl) TO.gC (pa_cons (pe_fld (pv 1) rfl) pa_nil)))) pss_nil)), ?_⟩
    obtain ⟨dx, t, d, kvs, ea, et, rds, _⟩ := TA
    have pl : (ps.map V.ref).length = F.length := by rw [List.length_map]; exact rds.len
    refine ⟨_, rfl, p, CP, dp, _, _, rfl, ep, TP.cl, TP.nR, plF_r r, _, _, rfl, rfl, _, rfl, ?_⟩
    by_cases h0 : 0 ≤ r.1
    · rw [decide_eq_true h0]
      refine iteT ⟨_, rfl, a, CT, dx, _, _, rfl, ea, TT.cl, TT.nR, teF_r n t d, t, _, rfl, .inr et, _, _, rfl, rfl, _, rfl, ?_⟩
      rw [pl]
      by_cases h1 : r.1 < (F.length : Int)
      · rw [decide_eq_true h1]
        refine iteF ⟨_, rfl, p, CP, dp, _, _, rfl, ep, TP.cl, TP.nN, plF_n r, _, _, rfl, rfl, _, rfl, ?_⟩
        have lk : r.1.toNat < F.length := by omega
        obtain ⟨q, eq, dq, rq⟩ := rds.at_ lk
        have e1 : r.1 = ((r.1.toNat : Nat) : Int) := by omega
        by_cases h2 : 0 ≤ r.2.1
        · rw [decide_eq_true h2]
          have z := G.rd lk
          refine iteT ⟨_, rfl, a, CT, dx, _, _, rfl, ea, TT.cl, TT.nR, teF_r n t d, _, rfl, p, CP, dp, _, _, rfl, ep, TP.cl, TP.nR, plF_r r, t, _, _, _, rfl, rfl, et, at_of e1 eq, q, CR, dq, _, _, rfl, rq, TR.cl, TR.nL, rdF_l _, _, rfl, p, CP, dp, _, _, rfl, ep, TP.cl, TP.nP, plF_p r, _, _, rfl, rfl, .inl ⟨by omega, by omega⟩, _, _, rfl, rfl, _, rfl, ?_⟩
          by_cases h3 : r.2.1 ≤ (rd F r.1.toNat).2.2 * r.2.2
          · rw [decide_eq_true h3]
            exact iteF (k3 ⟨⟨h0, h1⟩, h2, h3⟩)
          · rw [decide_eq_false h3]
            exact iteT ⟨_, rfl, p, CP, dp, _, _, rfl, ep, TP.cl, TP.nR, plF_r r, len1, fun b hb => er1 hb (k2 ⟨h0, h1⟩ fun z => h3 z.2)⟩
        · rw [decide_eq_false h2]
          refine iteF ⟨_, rfl, ?_⟩
          exact iteT ⟨_, rfl, p, CP, dp, _, _, rfl, ep, TP.cl, TP.nR, plF_r r, len1, fun b hb => er1 hb (k2 ⟨h0, h1⟩ fun z => h2 z.1)⟩
      · rw [decide_eq_false h1]
        exact iteT ⟨_, rfl, p, CP, dp, _, _, rfl, ep, TP.cl, TP.nR, plF_r r, len1, fun b hb => er1 hb (k1 fun z => h1 z.2)⟩
    · rw [decide_eq_false h0]
      refine iteF ⟨_, rfl, ?_⟩
      exact iteT ⟨_, rfl, p, CP, dp, _, _, rfl, ep, TP.cl, TP.nR, plF_r r, len1, fun b hb => er1 hb (k1 fun z => h0 z.1)⟩
end
end OT

set_option Elab.async false
set_option linter.all false
set_option maxRecDepth 100000
set_option maxHeartbeats 4000000
namespace OT
open PySem L2 OTR
/-- a drawn tree, with its roads' facts -/
structure TrAt (H : Hp) (p q : Addr) (n : Int) (F : List Fact) : Prop where
  t : H p = some (.tup [.int n, .ref q])
  f : FactsAt H q F
theorem FactsAt.same {H H' : Hp} {q : Addr} {F : List Fact} (h : FactsAt H q F) (s : Same H H') : FactsAt H' q F := let ⟨ts, a, b⟩ := h; ⟨ts, s _ _ a, tups_same b s⟩
theorem TrAt.same {H H' : Hp} {p q : Addr} {n : Int} {F : List Fact} (h : TrAt H p q n F) (s : Same H H') : TrAt H' p q n F := ⟨s _ _ h.t, h.f.same s⟩
theorem TrAt.but {H H' : Hp} {a p q : Addr} {n : Int} {F : List Fact} (h : TrAt H p q n F) (s : Src H a) (b : But a H H') : TrAt H' p q n F := by
  obtain ⟨hp, ts, hq, hts⟩ := h
  obtain ⟨x, y, z, _, hs⟩ := id s
  refine ⟨b _ _ hp (ne_of hp hs fun e => nomatch e), ts, b _ _ hq (ne_of hq hs fun e => ?_), tups_but hts s b⟩
  have e1 := HO.lst.inj e
  cases ts with
  | nil => exact nomatch e1
  | cons t r =>
    rw [List.map_cons] at e1
    exact nomatch (List.cons.inj e1).1
def spMade (K : PySem.W.Frag) (CT CR : Addr) : Sp := fun vs H Q _ => ∃ (p q : Addr) (n : Int) (F : List Fact), vs = [.ref p] ∧ TrAt H p q n F ∧ due n F = none ∧ F.length ≤ 23 ∧ ∀ x ps H', Same H H' → TreeAt K CT CR H' x n ps F → Q (.ref x) H'
section
variable {P : Program} {w : World} {K : PySem.W.Frag} {mg : Str → Option Value} {base : Heap}
abbrev nMade : List Str := ["_law_m", "_law_one", "_law_other", "_law_size"]
end
end OT

set_option Elab.async false
set_option linter.all false
set_option maxRecDepth 100000
set_option maxHeartbeats 4000000
namespace OT
open PySem L2 OTR
theorem same_but {H G G' : Hp} {s : Addr} (h : Same H G) (b : But s G G') (n : H s = none) : Same H G' := fun c o e => b c o (h c o e) (ne_of_none e n)
def spLaw (K : PySem.W.Frag) : Sp := fun vs H Q _ => ∃ (a : Addr) (ns : List Int), vs = [.ref a] ∧ SqL K H a (ns.map V.int) ∧ ns.length ≤ 63 ∧ ∀ H', Q (.bl true) H'
theorem Drawn.treeG {most long n : Int} {fs : List Fact} (d : Drawn most long n fs) (h24 : most ≤ 24) (hl : long ≤ 1000000000) : TreeG n fs :=
  ⟨⟨fun r hr => let ⟨a, b, c, _⟩ := d.ok r hr; ⟨a, b, c⟩, d.nr, d.con⟩, fun r hr => by
    obtain ⟨_, _, _, z⟩ := d.ok r hr
    omega, d.lo, by have := d.hi; omega, d.len⟩
theorem refs_flat (ps : List Addr) : ∀ v ∈ ps.map V.ref, flatB v = true ∨ ∃ p, v = V.ref p := fun v hv => by
  obtain ⟨p, _, rfl⟩ := List.mem_map.mp hv
  exact .inr ⟨p, rfl⟩
def rInt1 : List V → Hp → VK → Prop := fun xs H Q => (∃ i, xs = [.int i] ∧ Q (.int i) H) ∨ ∃ k, xs = [.bl k] ∧ Q (.int (if k then 1 else 0)) H
/-- a list is written: what else stands -/
theorem TrAt.put {H : Hp} {D p q : Addr} {n : Int} {F : List Fact} {xs ys : List V} (h : TrAt H p q n F) (hD : H D = some (.lst xs)) (nq : q ≠ D) : TrAt (upd H D (.lst ys)) p q n F := by
  obtain ⟨hp, ts, hq, hts⟩ := h
  exact ⟨by rw [upd_ne (ne_of hp hD (fun z => nomatch z))]; exact hp, ts, by rw [upd_ne nq]; exact hq, tups_put hts hD⟩
theorem TreeAt.but {K : PySem.W.Frag} {CT CR : Addr} {H H' : Hp} {s p : Addr} {n : Int} {ps : List Addr} {F : List Fact} (h : TreeAt K CT CR H p n ps F) (src : Src H s) (b : But s H H') : TreeAt K CT CR H' p n ps F := h.kp (.src src b)
end OT

set_option Elab.async false
set_option linter.all false
set_option maxRecDepth 100000
set_option maxHeartbeats 4000000
-- own words
namespace OT
open PySem L2 OTR
abbrev sState : Stmt := top 52
abbrev sDigit : Stmt := top 53
/-- _law_digit(state, base): a number from 0 to base - 1 -/
def spDigit : Sp := fun vs H Q _ => ∃ (s : Addr) (m : Int), vs = [.ref s, .int m] ∧ Src H s ∧ 0 < m ∧ m < 2 ^ 62 ∧ ∀ r H', 0 ≤ r → r < m → Src H' s → But s H H' → Q (.int r) H'
section
variable {P : Program} {w : World} {K : PySem.W.Frag} {mg : Str → Option Value} {base : Heap}
abbrev nState : List Str := ["_law_source"]
theorem scState : FnScope nState ["_law_source"] (defScope sState) := ⟨rfl, rfl, rfl, by decide +kernel, rfl, by decide +kernel, by decide +kernel⟩
theorem ok_state {f : Addr} {fd : FuncData} (F : Fun K "_law_state" "_law_state" sState f fd) (hAbs : mg "abs" = none) (hInt : mg "int" = none) : FnOk P w K mg base CX0 1 f fd ["_law_source"] spSource := by
  refine F.ok scState (fun vs H Q E h => ?_) (fun cdv A outer s H vs Q E hr h => ?_)
  · obtain ⟨n, rfl, _⟩ := h
    rfl
  · obtain ⟨n, rfl, k⟩ := h
    refine ⟨_, pss_cons (ps_set (i := 0) scState.nd rfl (Or.inl rfl) (pe_callB call_abs (by rfl) hAbs (by decide +kernel) (pa_cons (pv 0) pa_nil)))
      (pss_one (ps_ret (pe_lst (pa_cons (pe_op op_mul (pv 0) (pe_callTy (r := rInt1) call_int1 (by rfl) hInt (by decide +kernel) (pa_cons (pe_cmpR op_ge (pv 0) (pe_op op_pow pe_int pe_int) (nomark _)) pa_nil))) (pa_cons (pe_op op_add (pe_op op_mod (pv 0) pe_int) pe_int) (pa_cons (pe_op op_mod (pv 0) pe_int) pa_nil)))))), ?_⟩
    refine ⟨_, rfl, _, rfl, ?_⟩
    generalize hx : (if n < 0 then -n else n) = x
    have x0 : 0 ≤ x := by rw [← hx]; split <;> omega
    have i01 : ∀ k : Bool, 0 ≤ (if k then (1 : Int) else 0) ∧ (if k then (1 : Int) else 0) ≤ 1 := fun k => by cases k <;> decide
    refine ⟨_, rfl, _, rfl, _, _, rfl, rfl, ⟨by decide, by decide, by decide⟩, _, _, rfl, rfl, .inr ⟨_, rfl, _, _, rfl, rfl, .inr ⟨by have := i01 (decide (((10 : Int) ^ (18 : Int).toNat) ≤ x)); omega, by have := i01 (decide (((10 : Int) ^ (18 : Int).toNat) ≤ x)); omega⟩, ?_⟩⟩
    have m1 := mod_in (x := x) (show (0 : Int) < 2147483629 by decide)
    refine ⟨_, rfl, _, _, rfl, rfl, (by show (0 : Int) < 2147483629; decide), _, _, rfl, rfl, _, rfl, _, _, rfl, rfl, (by show (0 : Int) < 2147483587; decide), (by show 3 ≤ sizeLine; decide), fun p hp => ?_⟩
    exact k p _ hp ⟨_, _, _, ⟨Int.mul_nonneg x0 (i01 _).1, by omega, by omega⟩, upd_same⟩ (Same.new hp)
abbrev nDigit : List Str := ["_law_state_here", "_law_base", "_law_found", "_law_mixed"]
theorem scDigit : FnScope nDigit ["_law_state_here", "_law_base"] (defScope sDigit) := ⟨rfl, rfl, rfl, by decide +kernel, rfl, by decide +kernel, by decide +kernel⟩
theorem ok_digit {f : Addr} {fd : FuncData} (F : Fun K "_law_digit" "_law_digit" sDigit f fd) : FnOk P w K mg base CX0 1 f fd ["_law_state_here", "_law_base"] spDigit := by
  refine F.ok scDigit (fun vs H Q E h => ?_) (fun cdv A outer s H vs Q E hr h => ?_)
  · obtain ⟨s, m, rfl, _⟩ := h
    rfl
  · obtain ⟨s, m, rfl, ⟨a, b, c, ⟨ha, hb0, hb1⟩, hs⟩, hm0, hm1, k⟩ := h
    refine ⟨_, pss_cons (ps_if (pt_cmpR op_gt (pe_ix ix_list (pv 0) pe_int (fun _ _ => rfl)) pe_int (nomark _))
        (pss_cons (ps_set (i := 2) scDigit.nd rfl (Or.inl rfl) (pe_op op_mod (pe_ix ix_list (pv 0) pe_int (fun _ _ => rfl)) (pv 1)))
        (pss_cons (ps_asg (pe_op op_fdivW (pe_ix ix_list (pv 0) pe_int (fun _ _ => rfl)) (pv 1)) (pg_sub (pv 0) pe_int set_list))
        (pss_one (ps_ret (pv 2)))))
        pss_nil)
      (pss_cons (ps_set (i := 3) scDigit.nd rfl (Or.inl rfl) (pe_op op_mul (pe_ix ix_list (pv 0) pe_int (fun _ _ => rfl)) (pe_op op_add (pe_op op_fdiv (pe_ix ix_list (pv 0) pe_int (fun _ _ => rfl)) pe_int) pe_int)))
      (pss_cons (ps_asg (pe_op op_add (pe_op op_mod (pe_op op_add (pv 3) (pe_ix ix_list (pv 0) pe_int (fun _ _ => rfl))) pe_int) pe_int) (pg_sub (pv 0) pe_int set_list))
      (pss_one (ps_ret (pe_op op_mod (pe_op op_fdiv (pe_ix ix_list (pv 0) pe_int (fun _ _ => rfl)) pe_int) (pv 1)))))), ?_⟩
    refine ⟨_, rfl, _, _, _, _, rfl, rfl, SqL.of hs, rfl, _, _, rfl, rfl, _, rfl, ?_⟩
    refine ite2 (fun _ => ?_) (fun _ => ?_)
    · refine ⟨_, rfl, _, _, _, _, rfl, rfl, SqL.of hs, rfl, _, rfl, _, _, rfl, rfl, hm0, ?_⟩
      refine ⟨_, rfl, _, _, _, _, rfl, rfl, SqL.of hs, rfl, _, rfl, _, _, rfl, rfl, wide_div hm0 (b := 62) (by omega) (by decide) (by decide), ?_⟩
      refine ⟨_, rfl, _, _, _, _, rfl, rfl, hs, rfl, ?_⟩
      refine ⟨_, rfl, ?_⟩
      exact k _ _ (mod_in hm0).1 (mod_in hm0).2 ⟨_, _, _, ⟨Int.ediv_nonneg ha (by omega), hb0, hb1⟩, upd_same⟩ But.upd
    · refine ⟨_, rfl, _, _, _, _, rfl, rfl, SqL.of hs, rfl, _, rfl, _, _, _, _, rfl, rfl, SqL.of hs, rfl, _, _, rfl, rfl, ⟨by decide, by decide⟩, _, _, rfl, rfl, _, _, rfl, rfl, .inl ⟨by omega, by omega⟩, ?_⟩
      have y0 := mod_in (x := b * (b / 1009 + 69621) + c) (show (0 : Int) < 2147483629 by decide)
      refine ⟨_, rfl, _, rfl, _, _, _, _, rfl, rfl, SqL.of hs, rfl, _, _, rfl, rfl, _, _, rfl, rfl, (by show (0 : Int) < 2147483629; decide), _, _, rfl, rfl, _, rfl, _, _, _, _, rfl, rfl, hs, rfl, ?_⟩
      have hs' : SqL K (upd H s (.lst [.int a, .int ((b * (b / 1009 + 69621) + c) % 2147483629 + 7), .int c])) s [.int a, .int ((b * (b / 1009 + 69621) + c) % 2147483629 + 7), .int c] := SqL.of upd_same
      refine ⟨_, rfl, _, _, _, _, rfl, rfl, hs', rfl, _, _, rfl, rfl, ⟨by decide, by decide⟩, _, rfl, _, _, rfl, rfl, hm0, ?_⟩
      exact k _ _ (mod_in hm0).1 (mod_in hm0).2 ⟨_, _, _, ⟨ha, by omega, by omega⟩, upd_same⟩ But.upd
end
end OT

set_option Elab.async false
set_option linter.all false
set_option maxRecDepth 100000
set_option maxHeartbeats 4000000
-- own words
namespace OT
open PySem L2 OTR
abbrev sTreeN : Stmt := top 54
theorem Part.perm {os : List Int} {long : Int} {i : Nat} {fs gs : List Fact} (p : gs.Perm fs) (h : Part os long i fs) : Part os long i gs :=
  ⟨by rw [p.length_eq, h.len], fun r hr => h.ok r (p.mem_iff.mp hr), noRing_perm p h.nr, fun x y hx hy => (h.con x y hx hy).mono fun r hr => p.mem_iff.mpr hr⟩
theorem ins_perm {α : Type} (l : List α) (x : α) (j : Nat) : (l.take j ++ [x] ++ l.drop j).Perm (l ++ [x]) := by
  have h1 : (l.take j ++ [x] ++ l.drop j).Perm (l.take j ++ l.drop j ++ [x]) := by
    rw [List.append_assoc, List.append_assoc]
    exact (List.Perm.refl _).append List.perm_append_comm
  rw [List.take_append_drop] at h1
  exact h1
theorem paired_take {α β : Type} {R : α → β → Prop} : ∀ {a : List α} {b : List β} (j : Nat), Paired R a b → Paired R (a.take j) (b.take j)
  | _, _, 0, _ => .nil
  | _, _, _ + 1, .nil => .nil
  | _, _, j + 1, .cons x h => .cons x (paired_take j h)
theorem paired_drop {α β : Type} {R : α → β → Prop} : ∀ {a : List α} {b : List β} (j : Nat), Paired R a b → Paired R (a.drop j) (b.drop j)
  | _, _, 0, h => h
  | _, _, _ + 1, .nil => .nil
  | _, _, j + 1, .cons x h => paired_drop j h
theorem paired_app {α β : Type} {R : α → β → Prop} {a a' : List α} {b b' : List β} (h : Paired R a b) (k : Paired R a' b') : Paired R (a ++ a') (b ++ b') := by
  induction h with
  | nil => exact k
  | cons x _ ih => exact .cons x ih
theorem swap_perm {α : Type} {l : List α} {i j : Nat} {a b : α} (hi : l[i]? = some a) (hj : l[j]? = some b) : ((l.set i b).set j a).Perm l := by
  obtain ⟨li, rfl⟩ := List.getElem?_eq_some_iff.mp hi
  obtain ⟨lj, rfl⟩ := List.getElem?_eq_some_iff.mp hj
  exact List.set_set_perm li lj
theorem ixN_at {n j : Nat} {i : Int} (h : j < n) (e : i = (j : Int)) : ixN n i = some j := by
  subst e
  unfold ixN
  simp [h]
/-- _law_tree(state, crossings, most): the roads of a tree -/
def spTreeN : Sp := fun vs H Q _ => ∃ (s : Addr) (n most : Int), vs = [.ref s, .int n, .int most] ∧ Src H s ∧ 2 ≤ n ∧ n ≤ 24 ∧ 1 ≤ most ∧ most ≤ 1000000000 ∧
  ∀ q fs H', H q = none → FactsAt H' q fs → Drawn n most n fs → (∀ r ∈ fs, r.2.2 ≤ most) → Src H' s → But s H H' → Q (.ref q) H'
section
variable {P : Program} {w : World} {K : PySem.W.Frag} {mg : Str → Option Value} {base : Heap}
abbrev nTreeN : List Str := ["_law_s", "_law_crossings", "_law_most", "_law_names", "_law_k", "_law_other", "_law_roads", "_law_ends"]
theorem scTreeN : FnScope nTreeN ["_law_s", "_law_crossings", "_law_most"] (defScope sTreeN) := ⟨rfl, rfl, rfl, by decide +kernel, rfl, by decide +kernel, by decide +kernel⟩
theorem ok_treeN {f fDG : Addr} {fd fdDG : FuncData} (F : Fun K "_law_tree" "_law_tree" sTreeN f fd)
    (FDG : FnOk P w K mg base CX0 1 fDG fdDG ["_law_state_here", "_law_base"] spDigit) (bDG : Binds K fdDG ["_law_state_here", "_law_base"] []) (mDG : mg "_law_digit" = some (.ref fDG)) (kDG : PySem.W.keepIn K (.ref fDG) = true)
    (hList : mg "list" = none) (hRg : mg "range" = none) : FnOk P w K mg base CX0 2 f fd ["_law_s", "_law_crossings", "_law_most"] spTreeN := by
  refine F.ok scTreeN (fun vs H Q E h => ?_) (fun cdv A outer s' H vs Q E hr h => ?_)
  · obtain ⟨s, n, most, rfl, _⟩ := h
    rfl
  · obtain ⟨s, n, most, rfl, hs, n2, n24, l1, l9, k⟩ := h
    have hr1 : Room 1 _ := hr.mono (by decide)
    refine ⟨_, pss_cons (ps_set (i := 3) scTreeN.nd rfl (Or.inl rfl) (pe_listRg rfl rfl hList (prg_1 rfl hRg (pv 1))))
      (pss_cons (ps_for PassesOwn.never rfl (pi_range1 (by rfl) hRg (pa_cons (pv 1) pa_nil)) (pg_name (i := 4) scTreeN.nd rfl (Or.inl rfl))
        (pss_cons (ps_set (i := 5) scTreeN.nd rfl (Or.inl rfl) (pe_call FDG hr1 rfl mDG kDG bDG .nil pass0 (pa_cons (pv 0) (pa_cons (pv 1) pa_nil))))
        (pss_one (ps_asg (pe_tup (pa_cons (pe_ix ix_list (pv 3) (pv 5) (fun _ _ => rfl)) (pa_cons (pe_ix ix_list (pv 3) (pv 4) (fun _ _ => rfl)) pa_nil))) (pg_tup rfl (pgs_cons (pg_sub (pv 3) (pv 4) set_list) (pgs_cons (pg_sub (pv 3) (pv 5) set_list) pgs_nil)))))))
      (pss_cons (ps_set (i := 6) scTreeN.nd rfl (Or.inl rfl) (pe_lst pa_nil))
      (pss_cons (ps_for PassesOwn.never rfl (pi_range2 (by rfl) hRg (pa_cons pe_int (pa_cons (pv 1) pa_nil))) (pg_name (i := 4) scTreeN.nd rfl (Or.inl rfl))
        (pss_cons (ps_set (i := 7) scTreeN.nd rfl (Or.inl rfl) (pe_lst (pa_cons (pe_ix ix_list (pv 3) (pv 4) (fun _ _ => rfl)) (pa_cons (pe_ix ix_list (pv 3) (pe_call FDG hr1 rfl mDG kDG bDG .nil pass0 (pa_cons (pv 0) (pa_cons (pv 4) pa_nil))) (fun _ _ => rfl)) pa_nil))))
        (C8.pss_cut (ps_if (pt_cmpR op_eq (pe_call FDG hr1 rfl mDG kDG bDG .nil pass0 (pa_cons (pv 0) (pa_cons pe_int pa_nil))) pe_int (nomark _))
          (pss_one (ps_set (i := 7) scTreeN.nd rfl (Or.inl rfl) (pe_revL (pv 7))))
          pss_nil)
        (pss_one (ps_expr (pe_bm PySem.F.plainAttrs_list PySem.F.slot_list_insert PySem.F.type_list_insert mt_insert (pv 6) (pa_cons (pe_call FDG hr1 rfl mDG kDG bDG .nil pass0 (pa_cons (pv 0) (pa_cons (pv 4) pa_nil))) (pa_cons (pe_tup (pa_cons (pe_ix ix_list (pv 7) pe_int (fun _ _ => rfl)) (pa_cons (pe_ix ix_list (pv 7) pe_int (fun _ _ => rfl)) (pa_cons (pe_op op_add pe_int (pe_call FDG hr1 rfl mDG kDG bDG .nil pass0 (pa_cons (pv 0) (pa_cons (pv 2) pa_nil)))) pa_nil)))) pa_nil))))))))
      (pss_one (ps_ret (pv 6)))))), ?_⟩
    have fresh : ∀ {G : Hp} {p : Addr}, But s H G → Src G s → G p = none → H p = none := fun {G p} b sg hp => by
      cases e : H p with
      | none => rfl
      | some o =>
        have z := b p o e (sg.new hp)
        rw [hp] at z
        cases z
    -- names = list(range(crossings))
    refine ⟨_, rfl, n, rfl, RgOk.of_le (by omega) (by omega) (by omega) (by omega), fun pn hpn => ?_⟩
    have npn : pn ≠ s := hs.new hpn
    have e0 : rgV 0 n = ((List.range (n - 0).toNat).map fun i : Nat => (0 : Int) + (i : Nat)).map V.int := by
      unfold rgV
      rw [List.map_map]
      rfl
    have g0 : upd H pn (.lst (rgV 0 n)) pn = some (.lst (((List.range (n - 0).toNat).map fun i : Nat => (0 : Int) + (i : Nat)).map V.int)) := by rw [e0]; exact upd_same
    have src1 : Src (upd H pn (.lst (rgV 0 n))) s := hs.same (Same.new hpn)
    have b1 : But s H (upd H pn (.lst (rgV 0 n))) := fun b o e _ => Same.new hpn b o e
    generalize hbase : ((List.range (n - 0).toNat).map fun i : Nat => (0 : Int) + (i : Nat)) = base0 at g0
    have lb : base0.length = n.toNat := by
      rw [← hbase, List.length_map, List.length_range]
      congr 1
      omega
    generalize upd H pn (.lst (rgV 0 n)) = H1 at g0 src1 b1 ⊢
    -- for k in range(crossings)
    refine ⟨_, rfl, n, rfl, by omega, by omega, for_range (lo := 0) (n := n.toNat) (fun j σ G => ∃ (v4 v5 v6 v7 : Option V) (os : List Int), σ = [some (.ref s), some (.int n), some (.int most), some (.ref pn), v4, v5, v6, v7] ∧ Src G s ∧ But s H G ∧ G pn = some (.lst (os.map V.int)) ∧ os.Perm base0)
      ⟨none, none, none, none, _, rfl, src1, b1, g0, .refl _⟩ ?_ ?_⟩
    · rintro j σ G hj ⟨v4, v5, v6, v7, os, rfl, sg, bg, gp, pm⟩
      have ol : os.length = n.toNat := by rw [pm.length_eq, lb]
      refine ⟨_, rfl, _, rfl, s, n, rfl, sg, by omega, by omega, fun d G1 d0 d1 sg1 b1' => ?_⟩
      obtain ⟨d, rfl⟩ : ∃ x : Nat, d = (x : Int) := ⟨d.toNat, by omega⟩
      have bg1 := bg.trans b1'
      have gp1 := b1' _ _ gp npn
      have jl : j < os.length := by omega
      have dl : d < os.length := by omega
      have hj' : os[j]? = some os[j] := List.getElem?_eq_getElem jl
      have hd' : os[d]? = some os[d] := List.getElem?_eq_getElem dl
      generalize os[j] = a at hj'
      generalize os[d] = b at hd'
      have hav : (os.map V.int)[j]? = some (V.int a) := by rw [List.getElem?_map, hj']; rfl
      have hbv : (os.map V.int)[d]? = some (V.int b) := by rw [List.getElem?_map, hd']; rfl
      refine ⟨_, rfl, _, rfl, pn, os.map V.int, (d : Int), V.int b, rfl, rfl, SqL.of gp1, atI_nat hbv, _, rfl, _, rfl, pn, os.map V.int, 0 + (j : Int), V.int a, rfl, rfl, SqL.of gp1, at_of (by omega) hav, (by show 2 ≤ sizeLine; decide), fun pt hpt => ?_⟩
      have s2 := Same.new (o := .tup [.int b, .int a]) hpt
      refine ⟨pt, _, rfl, SqT.of upd_same, rfl, ?_⟩
      refine ⟨_, _, rfl, _, rfl, _, rfl, pn, os.map V.int, 0 + (j : Int), j, rfl, rfl, s2 _ _ gp1, ixN_at (by rw [List.length_map]; omega) (by omega), ?_⟩
      have e1 : (os.map V.int).set j (V.int b) = (os.set j b).map V.int := List.map_set.symm
      rw [e1]
      refine ⟨_, _, rfl, _, rfl, _, rfl, pn, (os.set j b).map V.int, (d : Int), d, rfl, rfl, upd_same, ixN_at (by rw [List.length_map, List.length_set]; omega) rfl, ?_⟩
      have e2 : ((os.set j b).map V.int).set d (V.int a) = ((os.set j b).set d a).map V.int := List.map_set.symm
      rw [e2]
      have npt : pn ≠ pt := ne_of_none gp1 hpt
      refine ⟨rfl, _, _, _, _, _, rfl, ((sg1.same s2).upd npn).upd npn, ((bg1.same s2).put hpn).put hpn, upd_same, (swap_perm hj' hd').trans pm⟩
    · rintro σ G ⟨v4, v5, v6, v7, os, rfl, sg, bg, gp, pm⟩
      have ol : os.length = n.toNat := by rw [pm.length_eq, lb]
      have ond : os.Nodup := pm.nodup_iff.mpr (by rw [← hbase]; exact List.Pairwise.map _ (fun a b (z : a < b) => by omega) (List.pairwise_lt_range))
      have oin : ∀ x ∈ os, In n x := fun x hx => by
        have hx := pm.mem_iff.mp hx
        rw [← hbase] at hx
        obtain ⟨i, hi, rfl⟩ := List.mem_map.mp hx
        have := List.mem_range.mp hi
        exact ⟨by omega, by omega⟩
      -- roads = []
      refine ⟨Nat.zero_le _, fun pf hpf => ?_⟩
      have npf : pf ≠ s := sg.new hpf
      have hpfH : H pf = none := fresh bg sg hpf
      have npp : pn ≠ pf := ne_of_none gp hpf
      have src3 : Src (upd G pf (.lst [])) s := sg.same (Same.new hpf)
      -- for k in range(1, crossings)
      refine ⟨_, rfl, 1, n, rfl, ⟨by omega, by omega, by omega, by omega⟩, for_range (lo := 1) (n := (n - 1).toNat) (fun i σ G => ∃ (v4 v5 v7 : Option V) (ts : List Addr) (fs : List Fact), σ = [some (.ref s), some (.int n), some (.int most), some (.ref pn), v4, v5, some (.ref pf), v7] ∧
          Src G s ∧ But s H G ∧ G pn = some (.lst (os.map V.int)) ∧ G pf = some (.lst (ts.map V.ref)) ∧ Paired (TupAt G) ts fs ∧ Part os most i fs ∧ ∀ r ∈ fs, r.2.2 ≤ most)
        ⟨v4, v5, v7, [], [], rfl, src3, bg.put hpfH, by rw [upd_ne npp]; exact gp, upd_same, .nil, ⟨rfl, fun r z => (by cases z), noRing_nil, fun x y hx hy => one_con hx hy⟩, fun r z => (by cases z)⟩ ?_ ?_⟩
      · rintro i σ G hi ⟨v4, v5, v7, ts, fs, rfl, sg, bg, gpo, gpf, gts, part, big⟩
        have il : i + 1 < os.length := by omega
        have ha : os[i + 1]? = some os[i + 1] := List.getElem?_eq_getElem il
        generalize os[i + 1] = a at ha
        have hav : (os.map V.int)[i + 1]? = some (V.int a) := by rw [List.getElem?_map, ha]; rfl
        have tsl : ts.length ≤ 1000 := by
          have := Paired.length gts
          have := part.len
          omega
        -- ends = [names[k], names[digit(s, k)]]
        refine ⟨_, rfl, _, rfl, pn, os.map V.int, 1 + (i : Int), V.int a, rfl, rfl, SqL.of gpo, at_of (by omega) hav, ?_⟩
        refine ⟨_, rfl, _, rfl, _, rfl, s, 1 + (i : Int), rfl, sg, by omega, by omega, fun d G2 d0 d1 sg2 bg2 => ?_⟩
        obtain ⟨j, rfl⟩ : ∃ j : Nat, d = (j : Int) := ⟨d.toNat, by omega⟩
        have hj : j ≤ i := by omega
        have gpo2 : G2 pn = some (.lst (os.map V.int)) := bg2 _ _ gpo npn
        have gpf2 : G2 pf = some (.lst (ts.map V.ref)) := bg2 _ _ gpf npf
        have gts2 : Paired (TupAt G2) ts fs := tups_but gts sg bg2
        have bgg2 : But s H G2 := bg.trans bg2
        have jl : j < os.length := by omega
        have hb : os[j]? = some os[j] := List.getElem?_eq_getElem jl
        generalize os[j] = b at hb
        have hbv : (os.map V.int)[j]? = some (V.int b) := by rw [List.getElem?_map, hb]; rfl
        refine ⟨pn, os.map V.int, (j : Int), V.int b, rfl, rfl, SqL.of gpo2, atI_nat hbv, (by show 2 ≤ sizeLine; decide), fun pe hpe => ?_⟩
        have npe : pe ≠ s := sg2.new hpe
        have poe : pn ≠ pe := ne_of_none gpo2 hpe
        have pfe : pf ≠ pe := ne_of_none gpf2 hpe
        have hpeH : H pe = none := fresh bgg2 sg2 hpe
        have s3 : Same G2 (upd G2 pe (.lst [.int a, .int b])) := Same.new hpe
        -- if digit(s, 2) == 0: ends = ends[::-1]
        refine ⟨fun σ' G' => ∃ (pe : Addr) (x y : Int), σ' = [some (.ref s), some (.int n), some (.int most), some (.ref pn), some (.int (1 + (i : Int))), v5, some (.ref pf), some (.ref pe)] ∧ G' pe = some (.lst [.int x, .int y]) ∧ ((x = a ∧ y = b) ∨ (x = b ∧ y = a)) ∧
            Src G' s ∧ But s H G' ∧ G' pn = some (.lst (os.map V.int)) ∧ G' pf = some (.lst (ts.map V.ref)) ∧ Paired (TupAt G') ts fs ∧ pe ≠ s ∧ pf ≠ pe, ?_, ?_⟩
        · refine ⟨_, rfl, s, 2, rfl, sg2.same s3, by decide, by decide, fun c G4 c0 c1 sg4 bg4 => ?_⟩
          have e4 := bg4 _ _ (upd_same (H := G2) (a := pe) (o := .lst [.int a, .int b])) npe
          have gpo4 := bg4 _ _ (s3 _ _ gpo2) npn
          have gpf4 := bg4 _ _ (s3 _ _ gpf2) npf
          have gts4 := tups_but (tups_same gts2 s3) (sg2.same s3) bg4
          have bgg4 : But s H G4 := fun b o e nb => bg4 b o (s3 b o (bgg2 b o e nb)) nb
          refine ⟨rfl, _, rfl, ?_⟩
          by_cases hc : c = 0
          · subst hc
            refine iteT ⟨_, rfl, pe, _, rfl, SqL.of e4, fun pr hpr => ?_⟩
            have s5 : Same G4 (upd G4 pr (.lst [V.int a, V.int b].reverse)) := Same.new hpr
            exact ⟨pr, b, a, rfl, upd_same, .inr ⟨rfl, rfl⟩, sg4.same s5, bgg4.same s5, s5 _ _ gpo4, s5 _ _ gpf4, tups_same gts4 s5, sg4.new hpr, ne_of_none gpf4 hpr⟩
          · have h3 : ¬ (V.int c = V.int 0) := fun z => hc (V.int.inj z)
            rw [decide_eq_false h3]
            exact iteF ⟨pe, a, b, rfl, e4, .inl ⟨rfl, rfl⟩, sg4, bgg4, gpo4, gpf4, gts4, npe, pfe⟩
        · clear npe poe pfe hpeH s3 hpe
          rintro σ' G4 ⟨pe, x, y, rfl, e4, hxy, sg4, bgg4, gpo4, gpf4, gts4, npe, pfe⟩
          -- roads.insert(digit(s, k), (ends[0], ends[1], 1 + digit(s, most)))
          refine ⟨_, rfl, .inl ⟨rfl, _, SqL.of gpf4⟩, ?_⟩
          refine ⟨_, rfl, _, rfl, s, 1 + (i : Int), rfl, sg4, by omega, by omega, fun e G5 e0 e1 sg5 bg5 => ?_⟩
          obtain ⟨j', rfl⟩ : ∃ j : Nat, e = (j : Int) := ⟨e.toNat, by omega⟩
          have e5 := bg5 _ _ e4 npe
          refine ⟨_, rfl, pe, _, 0, V.int x, rfl, rfl, SqL.of e5, rfl, _, rfl, pe, _, 1, V.int y, rfl, rfl, SqL.of e5, rfl, ?_⟩
          refine ⟨_, rfl, _, rfl, s, most, rfl, sg5, by omega, by omega, fun l G6 l0 l1' sg6 bg6 => ⟨_, _, rfl, rfl, (by show 3 ≤ sizeLine; decide), fun pt hpt => ?_⟩⟩
          have gpo6 := bg6 _ _ (bg5 _ _ gpo4 npn) npn
          have gpf6 := bg6 _ _ (bg5 _ _ gpf4 npf) npf
          have gts6 := tups_but (tups_but gts4 sg4 bg5) sg5 bg6
          have bgg6 : But s H G6 := (bgg4.trans bg5).trans bg6
          have s6 : Same G6 (upd G6 pt (.tup [.int x, .int y, .int (1 + l)])) := Same.new hpt
          refine ⟨pf, ts.map V.ref, (j' : Int), .ref pt, rfl, rfl, s6 _ _ gpf6, small1000 (by rw [List.length_map]; omega), by omega, by omega, ?_⟩
          have nft : pt ≠ pf := (ne_of_none gpf6 hpt).symm
          have emap : (ts.map V.ref).take (j' : Int).toNat ++ [V.ref pt] ++ (ts.map V.ref).drop (j' : Int).toNat = (ts.take j' ++ [pt] ++ ts.drop j').map V.ref := by
            rw [Int.toNat_natCast, List.map_append, List.map_append, List.map_take, List.map_drop]
            rfl
          have gts7 := tups_put (tups_same gts6 s6) (s6 _ _ gpf6) (ys := (ts.take j' ++ [pt] ++ ts.drop j').map V.ref)
          have pin : (fs.take j' ++ [(x, y, 1 + l)] ++ fs.drop j').Perm (fs ++ [(x, y, 1 + l)]) := ins_perm fs _ j'
          rw [emap]
          refine ⟨_, _, _, ts.take j' ++ [pt] ++ ts.drop j', fs.take j' ++ [(x, y, 1 + l)] ++ fs.drop j', rfl, (sg6.same s6).upd npf, (bgg6.same s6).put hpfH, by rw [upd_ne npp]; exact s6 _ _ gpo6, upd_same, paired_app (paired_app (paired_take j' gts7) (.cons ?_ .nil)) (paired_drop j' gts7), (part.add ond ha hb hj hxy (show 1 ≤ 1 + l by omega) (.inr (show 1 + l ≤ most by omega))).perm pin, fun r hr => ?_⟩
          · show upd _ pf _ pt = _
            rw [upd_ne nft]
            exact upd_same
          · rcases List.mem_append.mp (pin.mem_iff.mp hr) with h | h
            · exact big r h
            · rw [List.mem_singleton.mp h]
              show 1 + l ≤ most
              omega
      · rintro σ G ⟨v4, v5, v7, ts, fs, rfl, sg, bg, gpo, gpf, gts, part, big⟩
        have allin : ∀ x, In n x → x ∈ os.take ((n - 1).toNat + 1) := fun x hx => by
          rw [List.take_of_length_le (by omega)]
          refine pm.mem_iff.mpr ?_
          rw [← hbase]
          refine List.mem_map.mpr ⟨x.toNat, List.mem_range.mpr ?_, ?_⟩
          · have := hx.1
            have := hx.2
            omega
          · have := hx.1
            omega
        refine ⟨_, rfl, k pf fs _ hpfH ⟨ts, gpf, gts⟩ ⟨n2, Int.le_refl _, by rw [part.len]; omega, fun r hr => ?_, part.nr, fun x y hx hy => part.con x y (allin x hx) (allin y hy)⟩ big sg bg⟩
        obtain ⟨a, b, c⟩ := part.ok r hr
        exact ⟨oin _ (List.mem_of_mem_take a), oin _ (List.mem_of_mem_take b), c⟩
end
end OT

set_option linter.all false
namespace OT
def OnT (F : List Fact) (S : Int) (u : Nd) : Prop := ∃ k i, On F S k i ∧ u = node F S k i
theorem Adj.on {F : List Fact} {S : Int} {u v : Nd} (h : Adj F S u v) : OnT F S u ∧ OnT F S v := by
  obtain ⟨k, i, a, b, c, d⟩ := h
  have h1 : OnT F S (node F S k i) := ⟨k, i, ⟨a, b, by omega⟩, rfl⟩
  have h2 : OnT F S (node F S k (i + 1)) := ⟨k, i + 1, ⟨a, by omega, c⟩, rfl⟩
  rcases d with ⟨rfl, rfl⟩ | ⟨rfl, rfl⟩
  · exact ⟨h1, h2⟩
  · exact ⟨h2, h1⟩
/-- where one is t parts on the way -/
noncomputable def pth (F : List Fact) (S : Int) (g : Nat) (p : Int) (k : Nat) (i t : Int) : Nd := node F S (posL (legsP F S g p k i) t).1 (posL (legsP F S g p k i) t).2
section
variable {n : Int} {F : List Fact} {S : Int} {g : Nat} {p : Int} (T : TreeM n F) (hS : 1 ≤ S) (hg : On F S g p)
include T hS hg
theorem hN_nn {u : Nd} (h : OnT F S u) : 0 ≤ hN F S g p u := by
  obtain ⟨k, i, o, rfl⟩ := h
  rw [hN_node T hS hg o]
  exact total_nn _
theorem pth_ok {k : Nat} {i t : Int} (h : On F S k i) (t0 : 0 ≤ t) (t1 : t ≤ hP F S g p k i) : OnT F S (pth F S g p k i t) ∧ hN F S g p (pth F S g p k i t) = hP F S g p k i - t ∧ (t + 1 ≤ hP F S g p k i → Adj F S (pth F S g p k i t) (pth F S g p k i (t + 1))) := by
  obtain ⟨a, b, c⟩ := (legsP_ok T hS hg h).1 t t0 t1
  refine ⟨⟨_, _, a, rfl⟩, ?_, c⟩
  unfold pth
  rw [hN_node T hS hg a, b]
  rfl
theorem pth_0 {k : Nat} {i : Int} (h : On F S k i) : pth F S g p k i 0 = node F S k i := (legsP_ok T hS hg h).2
theorem low_ex {u : Nd} (h : OnT F S u) (z : hN F S g p u ≠ 0) : ∃ v, Adj F S u v ∧ hN F S g p v + 1 = hN F S g p u := by
  obtain ⟨k, i, o, rfl⟩ := h
  have h0 := hN_nn T hS hg ⟨k, i, o, rfl⟩
  have e := hN_node T hS hg o
  rw [e] at z h0 ⊢
  obtain ⟨_, _, c⟩ := pth_ok T hS hg o (t := 0) (Int.le_refl _) h0
  obtain ⟨_, d, _⟩ := pth_ok T hS hg o (t := 1) (by decide) (by omega)
  have a := c (by omega)
  rw [pth_0 T hS hg o] at a
  exact ⟨_, a, by rw [show (0 : Int) + 1 = 1 from rfl, d]; omega⟩
theorem zero_aim {u : Nd} (h : OnT F S u) (z : hN F S g p u = 0) : u = node F S g p := by
  obtain ⟨k, i, o, rfl⟩ := h
  rw [hN_node T hS hg o] at z
  exact hP_zero T hS hg o z
theorem reach {Fd : Nd → Prop} (aim : Fd (node F S g p)) (cl : ∀ u v, Fd u → Adj F S u v → Fd v) : ∀ (m : Nat) (u : Nd), OnT F S u → (hN F S g p u).toNat = m → Fd u := by
  intro m
  induction m with
  | zero =>
    intro u o e
    have := hN_nn T hS hg o
    rw [zero_aim T hS hg o (by omega)]
    exact aim
  | succ m ih =>
    intro u o e
    obtain ⟨v, a, b⟩ := low_ex T hS hg o (by omega)
    exact cl v u (ih v a.on.2 (by omega)) a.symm
end
noncomputable def nodesL (F : List Fact) (S : Int) : List Nd := (List.range F.length).flatMap fun k => (List.range ((sz F S k).toNat + 1)).map fun i : Nat => node F S k (i : Int)
theorem mem_nodes {F : List Fact} {S : Int} {u : Nd} (h : OnT F S u) : u ∈ nodesL F S := by
  obtain ⟨k, i, ⟨a, b, c⟩, rfl⟩ := h
  refine List.mem_flatMap.mpr ⟨k, List.mem_range.mpr a, List.mem_map.mpr ⟨i.toNat, List.mem_range.mpr (by omega), ?_⟩⟩
  rw [Int.toNat_of_nonneg b]
theorem sum_le {α : Type} {f : α → Nat} {B : Nat} : ∀ {l : List α}, (∀ a ∈ l, f a ≤ B) → (l.map f).sum ≤ l.length * B
  | [], _ => Nat.zero_le _
  | a :: l, h => by
    rw [List.map_cons, List.sum_cons, List.length_cons, Nat.succ_mul, Nat.add_comm]
    exact Nat.add_le_add (sum_le fun x hx => h x (List.mem_cons_of_mem _ hx)) (h a List.mem_cons_self)
theorem len_nodes {F : List Fact} {S : Int} {M : Nat} (h : ∀ r ∈ F, r.2.2 * S ≤ M) : (nodesL F S).length ≤ F.length * (M + 1) := by
  unfold nodesL
  rw [List.length_flatMap]
  have e := sum_le (l := List.range F.length) (f := fun k => ((List.range ((sz F S k).toNat + 1)).map fun i : Nat => node F S k (i : Int)).length) (B := M + 1) fun k hk => by
    rw [List.length_map, List.length_range]
    have hk := List.mem_range.mp hk
    have := h _ (List.mem_of_getElem? (rd_get hk))
    unfold sz
    omega
  rw [List.length_range] at e
  exact e
theorem nodup_len {α : Type} [DecidableEq α] : ∀ {l m : List α}, l.Nodup → (∀ x ∈ l, x ∈ m) → l.length ≤ m.length
  | [], _, _, _ => Nat.zero_le _
  | x :: l, m, nd, h => by
    have nd2 := List.nodup_cons.mp nd
    have hx := h x List.mem_cons_self
    have ih := nodup_len (m := m.erase x) nd2.2 fun y hy => by
      have ne : y ≠ x := fun z => nd2.1 (z ▸ hy)
      exact (List.mem_erase_of_ne ne).mpr (h y (List.mem_cons_of_mem _ hy))
    rw [List.length_erase_of_mem hx] at ih
    have := List.length_pos_of_mem hx
    rw [List.length_cons]
    omega
end OT

set_option Elab.async false
set_option linter.all false
set_option maxRecDepth 100000
set_option maxHeartbeats 4000000
namespace OTR
open PySem PySem.Spec PyProof.Rows L2
/-- a key: an int, or a tuple of ints and texts -/
abbrev MKy := Int ⊕ List Key
section
variable {P : Program} {w : World}
def mIs (P : Program) (w : World) (h : Heap) : MKy → Value → Prop
  | .inl i, v => ∃ t, v = .int i t
  | .inr ks, v => ∃ a, v = .ref a ∧ (tupleKind (mixKind P w)).is h ks a
def mHash (P : Program) (w : World) : MKy → Int
  | .inl i => (mixKind P w).hash (.inl i)
  | .inr ks => (tupleKind (mixKind P w)).hash ks
def mTok : MKy → Nat
  | .inl _ => 1
  | .inr ks => ks.length + 1
theorem mIs_inj {h : Heap} {x y : MKy} {v : Value} (p : mIs P w h x v) (q : mIs P w h y v) : x = y := by
  cases x with
  | inl i =>
    cases y with
    | inl j =>
      obtain ⟨t, rfl⟩ := p
      obtain ⟨u, e⟩ := q
      injection e with e1 _
      rw [e1]
    | inr ks =>
      obtain ⟨t, rfl⟩ := p
      obtain ⟨a, e, _⟩ := q
      exact nomatch e
  | inr ks =>
    cases y with
    | inl j =>
      obtain ⟨a, rfl, _⟩ := p
      obtain ⟨u, e⟩ := q
      exact nomatch e
    | inr ls =>
      obtain ⟨a, rfl, p1⟩ := p
      obtain ⟨b, e, q1⟩ := q
      injection e with e1
      subst e1
      rw [(tupleKind (mixKind P w)).inj p1 q1]
variable {A : Around} {E : Value → Shared → Prop} {s : Shared}
theorem int_is (i : Int) (t : Tok) : (mixKind P w).is (.inl i) (.int i t) = true := kV_is (k := .inl i) ⟨t, rfl⟩
theorem m_hash {k : MKy} {v : Value} {Q : Int → Shared → Prop} (hu : A.units < cLine) (m : mIs P w s.heap k v) (q : Q (mHash P w k) { s with toks := s.toks + mTok k }) : wpAny (model P w) A (PySem.pyHash v) Q E s := by
  cases k with
  | inl i =>
    obtain ⟨t, rfl⟩ := m
    exact (mixKind P w).pyHash (int_is i t) q
  | inr ks =>
    obtain ⟨a, rfl, m1⟩ := m
    exact (tupleKind (mixKind P w)).pyHash hu m1 q
theorem tup_is {ks : List Key} {a : Addr} (m : (tupleKind (mixKind P w)).is s.heap ks a) : ∃ its, s.heap.IsTuple a its := by
  obtain ⟨o, its, n, h1, h2, h3, h4⟩ := m
  exact ⟨its, o, h1, h2, n, h3⟩
theorem m_eq {x y : MKy} {u v : Value} {Q : Bool → Shared → Prop} (hu : A.units < cLine) (m : mIs P w s.heap x u) (n : mIs P w s.heap y v) (q : Q (decide (x = y)) s) : wpAny (model P w) A (PySem.eqBool u v) Q E s := by
  cases x with
  | inl i =>
    obtain ⟨t, rfl⟩ := m
    cases y with
    | inl j =>
      obtain ⟨t2, rfl⟩ := n
      have e : decide ((Sum.inl i : MKy) = Sum.inl j) = decide ((Sum.inl i : Key) = Sum.inl j) := by
        by_cases z : i = j
        · subst z; simp
        · have h1 : ¬ (Sum.inl i : MKy) = Sum.inl j := fun c => z (Sum.inl.inj c)
          have h2 : ¬ (Sum.inl i : Key) = Sum.inl j := fun c => z (Sum.inl.inj c)
          rw [decide_eq_false h1, decide_eq_false h2]
      rw [e] at q
      exact (mixKind P w).eqBool (int_is i t) (int_is j t2) q
    | inr ls =>
      obtain ⟨b, rfl, n1⟩ := n
      obtain ⟨its, hb⟩ := tup_is n1
      have e : decide ((Sum.inl i : MKy) = Sum.inr ls) = false := decide_eq_false fun c => nomatch c
      rw [e] at q
      exact SeqAt.EqAt.int_tuple i t hb hu _ _ _ _ q
  | inr ks =>
    obtain ⟨a, rfl, m1⟩ := m
    cases y with
    | inl j =>
      obtain ⟨t2, rfl⟩ := n
      obtain ⟨its, ha⟩ := tup_is m1
      have e : decide ((Sum.inr ks : MKy) = Sum.inl j) = false := decide_eq_false fun c => nomatch c
      rw [e] at q
      exact SeqAt.EqAt.tuple_int j t2 ha hu _ _ _ _ q
    | inr ls =>
      obtain ⟨b, rfl, n1⟩ := n
      have e : decide ((Sum.inr ks : MKy) = Sum.inr ls) = decide (ks = ls) := by
        by_cases z : ks = ls
        · subst z; simp
        · have h1 : ¬ (Sum.inr ks : MKy) = Sum.inr ls := fun c => z (Sum.inr.inj c)
          rw [decide_eq_false h1, decide_eq_false z]
      rw [e] at q
      exact (tupleKind (mixKind P w)).eqBool hu m1 n1 q
theorem m_quiet {k : MKy} {v : Value} {Q : Bool → Shared → Prop} (m : mIs P w s.heap k v) (q : Q true s) : wpAny (model P w) A (eqIsQuiet 8 v) Q E s := by
  cases k with
  | inl i =>
    obtain ⟨t, rfl⟩ := m
    rw [eqIsQuiet_byValue 8 rfl]
    exact wpAny_pure q
  | inr ks =>
    obtain ⟨a, rfl, m1⟩ := m
    exact (tupleKind (mixKind P w)).quiet m1 q
theorem m_tells {k : MKy} {v : Value} {st : List Value} {Q : Bool → Shared → Prop} (m : mIs P w s.heap k v) (hs : ∀ y ∈ st, ∃ k2, mIs P w s.heap k2 y) (q : Q false s) : wpAny (model P w) A (tableMayTell v st) Q E s := by
  unfold tableMayTell
  split
  · exact wpAny_pure q
  · refine wpAny_bind (m_quiet m ?_)
    rw [if_neg (by decide)]
    refine wpAny_bind (wpAny_forIn_list _ (fun rest r s2 => s2 = s ∧ r = (none, ()) ∧ ∀ y ∈ rest, ∃ k2, mIs P w s.heap k2 y) _ (fun y rest r s2 I => ?_) (fun r s2 I => ?_) _ _ ⟨rfl, rfl, hs⟩)
    · obtain ⟨rfl, rfl, hr⟩ := I
      obtain ⟨k2, hy⟩ := hr y List.mem_cons_self
      refine wpAny_bind (m_quiet hy ?_)
      rw [if_neg (by decide)]
      exact wpAny_pure ⟨rfl, rfl, fun z hz => hr z (List.mem_cons_of_mem _ hz)⟩
    · obtain ⟨rfl, rfl, _⟩ := I
      exact wpAny_pure q
/-- the entries that are told: each key is a key, with its hash; no two are the same -/
structure Ents (P : Program) (w : World) (h : Heap) (es : Array DictEntry) : Prop where
  key : ∀ (j : Nat) (e : DictEntry), es[j]? = some e → ∃ k, mIs P w h k e.key ∧ e.hash = mHash P w k
  uniq : ∀ (i j : Nat) (e f : DictEntry) (k : MKy), es[i]? = some e → es[j]? = some f → mIs P w h k e.key → mIs P w h k f.key → i = j
theorem m_find {d : Addr} {o : Obj} {es : Array DictEntry} {ep : Nat} {k : MKy} {v : Value} {Q : Option Nat → Shared → Prop} (hu : A.units < cLine) (m : mIs P w s.heap k v) (ho : s.heap.get? d = some o) (hd : o.data = .dict es ep) (T : Ents P w s.heap es)
    (q0 : (∀ (j : Nat) (e : DictEntry), es[j]? = some e → ¬ mIs P w s.heap k e.key) → Q none s) (q1 : ∀ (j : Nat) (e : DictEntry), es[j]? = some e → mIs P w s.heap k e.key → Q (some j) s) :
    wpAny (model P w) A (dictFind d v (mHash P w k)) Q E s := by
  generalize eL : placesWithHash es.size (fun i => es[i]?.map (·.hash)) (mHash P w k) = L
  have nd : L.Nodup := by rw [← eL]; exact List.filter_sublist.nodup List.nodup_range
  have all : ∀ (j : Nat) (e : DictEntry), es[j]? = some e → mIs P w s.heap k e.key → j ∈ L := fun j e hj he => by
    rw [← eL]
    refine List.mem_filter.mpr ⟨List.mem_range.mpr (Array.getElem?_eq_some_iff.mp hj).1, ?_⟩
    obtain ⟨k2, h1, h2⟩ := T.key j e hj
    show (es[j]?.map (·.hash) == some (mHash P w k)) = true
    rw [hj, Option.map_some, h2, mIs_inj h1 he]
    exact beq_self_eq_true _
  have inL : ∀ j ∈ L, ∃ e, es[j]? = some e ∧ e.hash = mHash P w k := fun j hj => by
    rw [← eL] at hj
    obtain ⟨h1, h2⟩ := List.mem_filter.mp hj
    have lt : j < es.size := List.mem_range.mp h1
    refine ⟨es[j], Array.getElem?_eq_getElem lt, ?_⟩
    replace h2 : (es[j]?.map (·.hash) == some (mHash P w k)) = true := h2
    rw [Array.getElem?_eq_getElem lt, Option.map_some] at h2
    exact Option.some.inj (eq_of_beq h2)
  have st : ∀ y ∈ L.filterMap (fun i => es[i]?.map (·.key)), ∃ k2, mIs P w s.heap k2 y := fun y hy => by
    obtain ⟨i, _, hi⟩ := List.mem_filterMap.mp hy
    cases hei : es[i]? with
    | none => rw [hei] at hi; cases hi
    | some e =>
      rw [hei] at hi
      obtain ⟨k2, h1, _⟩ := T.key i e hei
      have z : e.key = y := Option.some.inj hi
      rw [← z]
      exact ⟨k2, h1⟩
  have nstr : ∀ (x : Str) (t : Tok), v ≠ .str x t := fun x t e => by
    cases k with
    | inl i =>
      obtain ⟨t2, rfl⟩ := m
      exact nomatch e
    | inr ks =>
      obtain ⟨a, rfl, _⟩ := m
      exact nomatch e
  have one : ∀ (x : Nat) (rest : List Nat), x ∈ L → ∃ e k2, es[x]? = some e ∧ mIs P w s.heap k2 e.key ∧ e.hash = mHash P w k := fun x rest hx => by
    obtain ⟨e, h1, h2⟩ := inL x hx
    obtain ⟨k2, h3, _⟩ := T.key x e h1
    exact ⟨e, k2, h1, h3, h2⟩
  unfold dictFind
  with_reducible refine wpAny_holding ?_
  refine wpAny_bind (wpAny_dictEntries ho hd ?_)
  cases k with
  | inl i =>
    obtain ⟨t, rfl⟩ := id m
    dsimp only
    rw [eL]
    by_cases hc : ((Value.int i t :: L.filterMap fun i => es[i]?.map (·.key)).all carriedByValue) = true
    · rw [if_pos hc]
      unfold dictWalkPlain
      refine wpAny_bind (wpAny_forIn_list _ (fun rest r s2 => s2 = s ∧ r = (none, ()) ∧ (∀ x ∈ rest, x ∈ L) ∧ ∀ (j : Nat) (e : DictEntry), es[j]? = some e → mIs P w s.heap (.inl i) e.key → j ∈ rest) _ (fun x rest r s2 I => ?_) (fun r s2 I => ?_) _ _ ⟨rfl, rfl, fun _ z => z, all⟩)
      · obtain ⟨rfl, rfl, h1, h2⟩ := I
        obtain ⟨e, k2, ex, hk, hh⟩ := one x rest (h1 x List.mem_cons_self)
        rw [ex]
        dsimp only
        rw [hh, if_pos (beq_self_eq_true _)]
        refine wpAny_bind (wpAny_dictEpoch ho hd (wpAny_bind (m_eq hu hk m (wpAny_bind (wpAny_dictEpoch ho hd ?_)))))
        rw [if_neg (by rw [bne_self_eq_false]; exact Bool.false_ne_true)]
        by_cases z : k2 = .inl i
        · rw [decide_eq_true z, if_pos rfl]
          refine wpAny_bind (wpAny_rule (wpAny_pure ?_))
          exact wpAny_pure (q1 x e ex (z ▸ hk))
        · rw [decide_eq_false z, if_neg Bool.false_ne_true]
          refine wpAny_bind (wpAny_rule (wpAny_pure ⟨rfl, rfl, fun y hy => h1 y (List.mem_cons_of_mem _ hy), fun j f hj hf => ?_⟩))
          rcases List.mem_cons.mp (h2 j f hj hf) with q | q
          · subst q
            rw [ex] at hj
            cases Option.some.inj hj
            exact absurd (mIs_inj hk hf) z
          · exact q
      · obtain ⟨rfl, rfl, _, h2⟩ := I
        exact wpAny_pure (q0 fun j e hj he => nomatch h2 j e hj he)
    · rw [if_neg hc]
      split
      · refine wpAny_bind (wpAny_pure ?_)
        rw [if_neg (by rw [Bool.false_and]; exact Bool.false_ne_true)]
        refine wpAny_bind (wpAny_forIn_list _ (fun rest r s2 => s2 = s ∧ rest.Nodup ∧ (∀ x ∈ rest, x ∈ L) ∧ ∃ hit, r = (none, hit) ∧ (hit = none ∨ ∃ j e, hit = some j ∧ es[j]? = some e ∧ mIs P w s.heap (Sum.inl i) e.key ∧ j ∉ rest) ∧ ∀ (j : Nat) (e : DictEntry), es[j]? = some e → mIs P w s.heap (Sum.inl i) e.key → j ∈ rest ∨ hit = some j) _ (fun x rest r s2 I => ?_) (fun r s2 I => ?_) _ _ ⟨rfl, nd, fun _ z => z, none, rfl, .inl rfl, fun j e h1 h2 => .inl (all j e h1 h2)⟩)
        · obtain ⟨rfl, nd2, h1, hit, rfl, hh, h2⟩ := I
          obtain ⟨e, k2, ex, hk, eh⟩ := one x rest (h1 x List.mem_cons_self)
          have nd3 := List.nodup_cons.mp nd2
          rw [ex]
          dsimp only
          rw [eh, if_pos (beq_self_eq_true _)]
          refine wpAny_bind (wpAny_dictEpoch ho hd (wpAny_bind (m_eq hu hk m (wpAny_bind (wpAny_dictEpoch ho hd ?_)))))
          rw [if_neg (by rw [bne_self_eq_false]; exact Bool.false_ne_true)]
          by_cases z : k2 = (Sum.inl i)
          · subst z
            have hn : hit = none := by
              rcases hh with q | ⟨j, f, _, q1, q2, q3⟩
              · exact q
              · have := T.uniq j x f e _ q1 ex q2 hk
                subst this
                exact absurd List.mem_cons_self q3
            subst hn
            rw [decide_eq_true rfl, if_pos rfl, if_neg (show ¬ (none : Option Nat).isSome = true from Bool.false_ne_true)]
            refine wpAny_bind (wpAny_rule ?_)
            split
            · exact wpAny_pure (wpAny_pure (q1 x e ex hk))
            · refine wpAny_pure ⟨rfl, nd3.2, fun y hy => h1 y (List.mem_cons_of_mem _ hy), some x, rfl, .inr ⟨x, e, rfl, ex, hk, nd3.1⟩, fun j f hj hf => .inr ?_⟩
              rw [T.uniq j x f e _ hj ex hf hk]
          · rw [decide_eq_false z, if_neg Bool.false_ne_true]
            refine wpAny_bind (wpAny_rule ?_)
            rw [if_neg (by rw [Bool.false_and]; exact Bool.false_ne_true)]
            refine wpAny_pure ⟨rfl, nd3.2, fun y hy => h1 y (List.mem_cons_of_mem _ hy), hit, rfl, ?_, fun j f hj hf => ?_⟩
            · rcases hh with q | ⟨j, f, q1, q2, q3, q4⟩
              · exact .inl q
              · exact .inr ⟨j, f, q1, q2, q3, fun c => q4 (List.mem_cons_of_mem _ c)⟩
            · rcases h2 j f hj hf with q | q
              · rcases List.mem_cons.mp q with c | c
                · subst c
                  rw [ex] at hj
                  cases Option.some.inj hj
                  exact absurd (mIs_inj hk hf) z
                · exact .inl c
              · exact .inr q
        · obtain ⟨rfl, _, _, hit, rfl, hh, h2⟩ := I
          rcases hh with q | ⟨j, f, q1, q2, q3, _⟩
          · subst q
            exact wpAny_pure (q0 fun j e hj he => (h2 j e hj he).elim (fun z => nomatch z) fun z => nomatch z)
          · subst q1
            exact wpAny_pure (q1 j f q2 q3)
      · refine wpAny_bind (m_tells m st ?_)
        rw [if_neg (by rw [Bool.false_and]; exact Bool.false_ne_true)]
        refine wpAny_bind (wpAny_forIn_list _ (fun rest r s2 => s2 = s ∧ rest.Nodup ∧ (∀ x ∈ rest, x ∈ L) ∧ ∃ hit, r = (none, hit) ∧ (hit = none ∨ ∃ j e, hit = some j ∧ es[j]? = some e ∧ mIs P w s.heap (Sum.inl i) e.key ∧ j ∉ rest) ∧ ∀ (j : Nat) (e : DictEntry), es[j]? = some e → mIs P w s.heap (Sum.inl i) e.key → j ∈ rest ∨ hit = some j) _ (fun x rest r s2 I => ?_) (fun r s2 I => ?_) _ _ ⟨rfl, nd, fun _ z => z, none, rfl, .inl rfl, fun j e h1 h2 => .inl (all j e h1 h2)⟩)
        · obtain ⟨rfl, nd2, h1, hit, rfl, hh, h2⟩ := I
          obtain ⟨e, k2, ex, hk, eh⟩ := one x rest (h1 x List.mem_cons_self)
          have nd3 := List.nodup_cons.mp nd2
          rw [ex]
          dsimp only
          rw [eh, if_pos (beq_self_eq_true _)]
          refine wpAny_bind (wpAny_dictEpoch ho hd (wpAny_bind (m_eq hu hk m (wpAny_bind (wpAny_dictEpoch ho hd ?_)))))
          rw [if_neg (by rw [bne_self_eq_false]; exact Bool.false_ne_true)]
          by_cases z : k2 = (Sum.inl i)
          · subst z
            have hn : hit = none := by
              rcases hh with q | ⟨j, f, _, q1, q2, q3⟩
              · exact q
              · have := T.uniq j x f e _ q1 ex q2 hk
                subst this
                exact absurd List.mem_cons_self q3
            subst hn
            rw [decide_eq_true rfl, if_pos rfl, if_neg (show ¬ (none : Option Nat).isSome = true from Bool.false_ne_true)]
            refine wpAny_bind (wpAny_rule ?_)
            split
            · exact wpAny_pure (wpAny_pure (q1 x e ex hk))
            · refine wpAny_pure ⟨rfl, nd3.2, fun y hy => h1 y (List.mem_cons_of_mem _ hy), some x, rfl, .inr ⟨x, e, rfl, ex, hk, nd3.1⟩, fun j f hj hf => .inr ?_⟩
              rw [T.uniq j x f e _ hj ex hf hk]
          · rw [decide_eq_false z, if_neg Bool.false_ne_true]
            refine wpAny_bind (wpAny_rule ?_)
            rw [if_neg (by rw [Bool.false_and]; exact Bool.false_ne_true)]
            refine wpAny_pure ⟨rfl, nd3.2, fun y hy => h1 y (List.mem_cons_of_mem _ hy), hit, rfl, ?_, fun j f hj hf => ?_⟩
            · rcases hh with q | ⟨j, f, q1, q2, q3, q4⟩
              · exact .inl q
              · exact .inr ⟨j, f, q1, q2, q3, fun c => q4 (List.mem_cons_of_mem _ c)⟩
            · rcases h2 j f hj hf with q | q
              · rcases List.mem_cons.mp q with c | c
                · subst c
                  rw [ex] at hj
                  cases Option.some.inj hj
                  exact absurd (mIs_inj hk hf) z
                · exact .inl c
              · exact .inr q
        · obtain ⟨rfl, _, _, hit, rfl, hh, h2⟩ := I
          rcases hh with q | ⟨j, f, q1, q2, q3, _⟩
          · subst q
            exact wpAny_pure (q0 fun j e hj he => (h2 j e hj he).elim (fun z => nomatch z) fun z => nomatch z)
          · subst q1
            exact wpAny_pure (q1 j f q2 q3)
  | inr ks =>
    obtain ⟨a, rfl, m1⟩ := id m
    dsimp only
    rw [eL]
    have hc : ¬ ((Value.ref a :: L.filterMap fun i => es[i]?.map (·.key)).all carriedByValue) = true := fun z => by
      rw [List.all_cons] at z
      exact absurd z Bool.false_ne_true
    rw [if_neg hc]
    have ha : ¬ (es.any fun e => e.key == Value.ref a && e.hash != mHash P w (.inr ks)) = true := fun z => by
      obtain ⟨j, hj, z⟩ := Array.any_eq_true.mp z
      obtain ⟨k2, h1, h2⟩ := T.key j es[j] (Array.getElem?_eq_getElem hj)
      obtain ⟨z1, z2⟩ := Bool.and_eq_true_iff.mp z
      rw [eq_of_beq z1] at h1
      rw [h2, mIs_inj h1 m] at z2
      exact absurd z2 (by rw [bne_self_eq_false]; exact Bool.false_ne_true)
    rw [if_neg ha]
    split
    · refine wpAny_bind (wpAny_pure ?_)
      rw [if_neg (by rw [Bool.false_and]; exact Bool.false_ne_true)]
      refine wpAny_bind (wpAny_forIn_list _ (fun rest r s2 => s2 = s ∧ rest.Nodup ∧ (∀ x ∈ rest, x ∈ L) ∧ ∃ hit, r = (none, hit) ∧ (hit = none ∨ ∃ j e, hit = some j ∧ es[j]? = some e ∧ mIs P w s.heap (Sum.inr ks) e.key ∧ j ∉ rest) ∧ ∀ (j : Nat) (e : DictEntry), es[j]? = some e → mIs P w s.heap (Sum.inr ks) e.key → j ∈ rest ∨ hit = some j) _ (fun x rest r s2 I => ?_) (fun r s2 I => ?_) _ _ ⟨rfl, nd, fun _ z => z, none, rfl, .inl rfl, fun j e h1 h2 => .inl (all j e h1 h2)⟩)
      · obtain ⟨rfl, nd2, h1, hit, rfl, hh, h2⟩ := I
        obtain ⟨e, k2, ex, hk, eh⟩ := one x rest (h1 x List.mem_cons_self)
        have nd3 := List.nodup_cons.mp nd2
        rw [ex]
        dsimp only
        rw [eh, if_pos (beq_self_eq_true _)]
        refine wpAny_bind (wpAny_dictEpoch ho hd (wpAny_bind (m_eq hu hk m (wpAny_bind (wpAny_dictEpoch ho hd ?_)))))
        rw [if_neg (by rw [bne_self_eq_false]; exact Bool.false_ne_true)]
        by_cases z : k2 = (Sum.inr ks)
        · subst z
          have hn : hit = none := by
            rcases hh with q | ⟨j, f, _, q1, q2, q3⟩
            · exact q
            · have := T.uniq j x f e _ q1 ex q2 hk
              subst this
              exact absurd List.mem_cons_self q3
          subst hn
          rw [decide_eq_true rfl, if_pos rfl, if_neg (show ¬ (none : Option Nat).isSome = true from Bool.false_ne_true)]
          refine wpAny_bind (wpAny_rule ?_)
          split
          · exact wpAny_pure (wpAny_pure (q1 x e ex hk))
          · refine wpAny_pure ⟨rfl, nd3.2, fun y hy => h1 y (List.mem_cons_of_mem _ hy), some x, rfl, .inr ⟨x, e, rfl, ex, hk, nd3.1⟩, fun j f hj hf => .inr ?_⟩
            rw [T.uniq j x f e _ hj ex hf hk]
        · rw [decide_eq_false z, if_neg Bool.false_ne_true]
          refine wpAny_bind (wpAny_rule ?_)
          rw [if_neg (by rw [Bool.false_and]; exact Bool.false_ne_true)]
          refine wpAny_pure ⟨rfl, nd3.2, fun y hy => h1 y (List.mem_cons_of_mem _ hy), hit, rfl, ?_, fun j f hj hf => ?_⟩
          · rcases hh with q | ⟨j, f, q1, q2, q3, q4⟩
            · exact .inl q
            · exact .inr ⟨j, f, q1, q2, q3, fun c => q4 (List.mem_cons_of_mem _ c)⟩
          · rcases h2 j f hj hf with q | q
            · rcases List.mem_cons.mp q with c | c
              · subst c
                rw [ex] at hj
                cases Option.some.inj hj
                exact absurd (mIs_inj hk hf) z
              · exact .inl c
            · exact .inr q
      · obtain ⟨rfl, _, _, hit, rfl, hh, h2⟩ := I
        rcases hh with q | ⟨j, f, q1, q2, q3, _⟩
        · subst q
          exact wpAny_pure (q0 fun j e hj he => (h2 j e hj he).elim (fun z => nomatch z) fun z => nomatch z)
        · subst q1
          exact wpAny_pure (q1 j f q2 q3)
    · refine wpAny_bind (m_tells m st ?_)
      rw [if_neg (by rw [Bool.false_and]; exact Bool.false_ne_true)]
      refine wpAny_bind (wpAny_forIn_list _ (fun rest r s2 => s2 = s ∧ rest.Nodup ∧ (∀ x ∈ rest, x ∈ L) ∧ ∃ hit, r = (none, hit) ∧ (hit = none ∨ ∃ j e, hit = some j ∧ es[j]? = some e ∧ mIs P w s.heap (Sum.inr ks) e.key ∧ j ∉ rest) ∧ ∀ (j : Nat) (e : DictEntry), es[j]? = some e → mIs P w s.heap (Sum.inr ks) e.key → j ∈ rest ∨ hit = some j) _ (fun x rest r s2 I => ?_) (fun r s2 I => ?_) _ _ ⟨rfl, nd, fun _ z => z, none, rfl, .inl rfl, fun j e h1 h2 => .inl (all j e h1 h2)⟩)
      · obtain ⟨rfl, nd2, h1, hit, rfl, hh, h2⟩ := I
        obtain ⟨e, k2, ex, hk, eh⟩ := one x rest (h1 x List.mem_cons_self)
        have nd3 := List.nodup_cons.mp nd2
        rw [ex]
        dsimp only
        rw [eh, if_pos (beq_self_eq_true _)]
        refine wpAny_bind (wpAny_dictEpoch ho hd (wpAny_bind (m_eq hu hk m (wpAny_bind (wpAny_dictEpoch ho hd ?_)))))
        rw [if_neg (by rw [bne_self_eq_false]; exact Bool.false_ne_true)]
        by_cases z : k2 = (Sum.inr ks)
        · subst z
          have hn : hit = none := by
            rcases hh with q | ⟨j, f, _, q1, q2, q3⟩
            · exact q
            · have := T.uniq j x f e _ q1 ex q2 hk
              subst this
              exact absurd List.mem_cons_self q3
          subst hn
          rw [decide_eq_true rfl, if_pos rfl, if_neg (show ¬ (none : Option Nat).isSome = true from Bool.false_ne_true)]
          refine wpAny_bind (wpAny_rule ?_)
          split
          · exact wpAny_pure (wpAny_pure (q1 x e ex hk))
          · refine wpAny_pure ⟨rfl, nd3.2, fun y hy => h1 y (List.mem_cons_of_mem _ hy), some x, rfl, .inr ⟨x, e, rfl, ex, hk, nd3.1⟩, fun j f hj hf => .inr ?_⟩
            rw [T.uniq j x f e _ hj ex hf hk]
        · rw [decide_eq_false z, if_neg Bool.false_ne_true]
          refine wpAny_bind (wpAny_rule ?_)
          rw [if_neg (by rw [Bool.false_and]; exact Bool.false_ne_true)]
          refine wpAny_pure ⟨rfl, nd3.2, fun y hy => h1 y (List.mem_cons_of_mem _ hy), hit, rfl, ?_, fun j f hj hf => ?_⟩
          · rcases hh with q | ⟨j, f, q1, q2, q3, q4⟩
            · exact .inl q
            · exact .inr ⟨j, f, q1, q2, q3, fun c => q4 (List.mem_cons_of_mem _ c)⟩
          · rcases h2 j f hj hf with q | q
            · rcases List.mem_cons.mp q with c | c
              · subst c
                rw [ex] at hj
                cases Option.some.inj hj
                exact absurd (mIs_inj hk hf) z
              · exact .inl c
            · exact .inr q
      · obtain ⟨rfl, _, _, hit, rfl, hh, h2⟩ := I
        rcases hh with q | ⟨j, f, q1, q2, q3, _⟩
        · subst q
          exact wpAny_pure (q0 fun j e hj he => (h2 j e hj he).elim (fun z => nomatch z) fun z => nomatch z)
        · subst q1
          exact wpAny_pure (q1 j f q2 q3)
/-- an entry of the dict: its key's hash, its key, its value -/
def EntR (P : Program) (w : World) (x : MKy × V × V) (e : DictEntry) : Prop := e.hash = mHash P w x.1 ∧ RelV x.2.1 e.key ∧ RelV x.2.2 e.val
/-- what stands at d: a dict with these entries -/
def DictM (P : Program) (w : World) (d : Addr) (ent : List (MKy × V × V)) (h : Heap) : Prop := ∃ o es ep, h.get? d = some o ∧ o.ExactDict ∧ o.data = .dict es ep ∧ Paired (EntR P w) ent es.toList
theorem DictM.stay {d : Addr} {ent : List (MKy × V × V)} (h1 h2 : Heap) (x : DictM P w d ent h1) (k : ∀ o, h1.get? d = some o → h2.get? d = some o) : DictM P w d ent h2 := let ⟨o, es, ep, e, r⟩ := x; ⟨o, es, ep, k o e, r⟩
def KeyM (H : Hp) : MKy → V → Prop
  | .inl i, y => y = .int i
  | .inr ks, y => ∃ b, y = .ref b ∧ H b = some (.tup (ks.map kV))
/-- a dict whose keys are ints and tuples of ints and texts -/
def MixAt (P : Program) (w : World) (H : Hp) (d : Addr) (kvs : List (MKy × V)) : Prop := ∃ ent : List (MKy × V × V), H d = some (.ext (DictM P w d ent)) ∧ (d == sysModules) = false ∧ ent.length ≤ sizeLine ∧ ent.map (fun x => (x.1, x.2.2)) = kvs ∧
  (∀ x ∈ ent, KeyM H x.1 x.2.1) ∧ (ent.map (·.1)).Nodup
theorem KeyM.keep {H H' : Hp} {k : MKy} {y : V} (x : KeyM H k y) (t : ∀ b xs, H b = some (.tup xs) → H' b = some (.tup xs)) : KeyM H' k y := by
  cases k with
  | inl i => exact x
  | inr ks =>
    obtain ⟨b, e, h⟩ := x
    exact ⟨b, e, t b _ h⟩
theorem MixAt.keep {H H' : Hp} {d : Addr} {kvs : List (MKy × V)} (x : MixAt P w H d kvs) (hd : ∀ o, H d = some o → H' d = some o) (t : ∀ b xs, H b = some (.tup xs) → H' b = some (.tup xs)) : MixAt P w H' d kvs :=
  let ⟨ent, e, a, b, c, f, g⟩ := x
  ⟨ent, hd _ e, a, b, c, fun y hy => (f y hy).keep t, g⟩
theorem KeyM.is {H : Hp} {h : Heap} {k : MKy} {y : V} {u : Value} (ok : HOk P w H h) (x : KeyM H k y) (r : RelV y u) : mIs P w h k u := by
  cases k with
  | inl i =>
    obtain rfl := (show y = .int i from x)
    exact r
  | inr ks =>
    obtain ⟨b, rfl, e⟩ := x
    exact ⟨b, r, key_of ok e⟩
theorem pair_at {α β : Type} {R : α → β → Prop} : ∀ {as : List α} {bs : List β} {i : Nat} {b : β}, Paired R as bs → bs[i]? = some b → ∃ a, as[i]? = some a ∧ R a b
  | _, _, _, _, .nil, e => by simp at e
  | _, _, 0, _, .cons r _, e => by
    have z := Option.some.inj e
    subst z
    exact ⟨_, rfl, r⟩
  | _, _, i + 1, _, .cons _ t, e => pair_at (i := i) t e
theorem ents_of {H : Hp} {h : Heap} {ent : List (MKy × V × V)} {es : Array DictEntry} (ok : HOk P w H h) (r : Paired (EntR P w) ent es.toList) (ks : ∀ x ∈ ent, KeyM H x.1 x.2.1) (nd : (ent.map (·.1)).Nodup) : Ents P w h es := by
  have at_ : ∀ (j : Nat) (e : DictEntry), es[j]? = some e → ∃ x, ent[j]? = some x ∧ mIs P w h x.1 e.key ∧ e.hash = mHash P w x.1 := fun j e hj => by
    rw [← Array.getElem?_toList] at hj
    obtain ⟨x, hx, h1, h2, _⟩ := pair_at r hj
    exact ⟨x, hx, (ks x (List.mem_of_getElem? hx)).is ok h2, h1⟩
  refine ⟨fun j e hj => ?_, fun i j e f k hi hj he hf => ?_⟩
  · obtain ⟨x, _, h1, h2⟩ := at_ j e hj
    exact ⟨x.1, h1, h2⟩
  · obtain ⟨x, hx, h1, _⟩ := at_ i e hi
    obtain ⟨y, hy, h3, _⟩ := at_ j f hj
    have ex := mIs_inj h1 he
    have ey := mIs_inj h3 hf
    have a1 : (ent.map (·.1))[i]? = some k := by rw [List.getElem?_map, hx, Option.map_some, ex]
    have a2 : (ent.map (·.1))[j]? = some k := by rw [List.getElem?_map, hy, Option.map_some, ey]
    exact (List.getElem?_inj (List.getElem?_eq_some_iff.mp a1).1 nd).mp (a1.trans a2.symm)
end
end OTR

set_option Elab.async false
set_option linter.all false
set_option maxRecDepth 100000
set_option maxHeartbeats 4000000
namespace OTR
open PySem PySem.Spec PyProof.Rows L2
/-- the entries, with the value at k put anew -/
def putE (ent : List (MKy × V × V)) (k : MKy) (v : V) : List (MKy × V × V) := ent.map fun x => if x.1 = k then (x.1, x.2.1, v) else x
theorem putE_no {ent : List (MKy × V × V)} {k : MKy} {v : V} (h : k ∉ ent.map (·.1)) : putE ent k v = ent := by
  induction ent with
  | nil => rfl
  | cons x r ih =>
    rw [List.map_cons] at h
    have h1 : ¬ x.1 = k := fun z => h (by rw [z]; exact List.mem_cons_self)
    have h2 := ih fun z => h (List.mem_cons_of_mem _ z)
    unfold putE at h2 ⊢
    rw [List.map_cons, if_neg h1, h2]
theorem putE_keys (ent : List (MKy × V × V)) (k : MKy) (v : V) : (putE ent k v).map (·.1) = ent.map (·.1) := by
  unfold putE
  rw [List.map_map]
  refine List.map_congr_left fun x _ => ?_
  show (if x.1 = k then (x.1, x.2.1, v) else x).1 = x.1
  split <;> rfl
theorem putE_mod {P : Program} {w : World} {k : MKy} {v : V} {r : Value} (rv : RelV v r) : ∀ {ent : List (MKy × V × V)} {es : List DictEntry} {j : Nat} {x : MKy × V × V}, Paired (EntR P w) ent es → (ent.map (·.1)).Nodup → ent[j]? = some x → x.1 = k →
    Paired (EntR P w) (putE ent k v) (es.modify j fun e => { e with val := r })
  | _, _, _, _, .nil, _, e, _ => by simp at e
  | _, _, 0, _, .cons (a := a) (l₁ := l1) h t, nd, e, ex => by
    have z := Option.some.inj e
    subst z
    rw [List.map_cons, List.nodup_cons] at nd
    have h2 := putE_no (v := v) (k := k) (ent := l1) (by rw [← ex]; exact nd.1)
    unfold putE at h2 ⊢
    rw [List.map_cons, if_pos ex, h2]
    exact .cons ⟨h.1, h.2.1, rv⟩ t
  | _, _, j + 1, x, .cons (a := a) (l₁ := l1) h t, nd, e, ex => by
    rw [List.map_cons, List.nodup_cons] at nd
    have hm : x ∈ l1 := List.mem_of_getElem? (i := j) e
    have h1 : ¬ a.1 = k := fun z => nd.1 (by rw [z, ← ex]; exact List.mem_map.mpr ⟨x, hm, rfl⟩)
    have h2 := putE_mod rv (j := j) t nd.2 e ex
    unfold putE at h2 ⊢
    rw [List.map_cons, if_neg h1]
    exact .cons h h2
theorem val_at {ent : List (MKy × V × V)} {k : MKy} (nd : (ent.map (·.1)).Nodup) : ∀ {j : Nat} {x : MKy × V × V}, ent[j]? = some x → x.1 = k → valV (ent.map fun x => (x.1, x.2.2)) k = some x.2.2 := by
  induction ent with
  | nil => intro j x e _; simp at e
  | cons a r ih =>
    intro j x e ex
    rw [List.map_cons, List.nodup_cons] at nd
    cases j with
    | zero =>
      have z := Option.some.inj e
      subst z
      rw [List.map_cons]
      exact valV_pos ex
    | succ j =>
      have h1 : ¬ a.1 = k := fun z => nd.1 (by rw [z, ← ex]; exact List.mem_map.mpr ⟨x, List.mem_of_getElem? (i := j) e, rfl⟩)
      rw [List.map_cons, valV_neg (p := (a.1, a.2.2)) h1]
      exact ih nd.2 e ex
theorem val_no {ent : List (MKy × V × V)} {k : MKy} : (∀ x ∈ ent, x.1 ≠ k) → valV (ent.map fun x => (x.1, x.2.2)) k = none := by
  induction ent with
  | nil => exact fun _ => rfl
  | cons a r ih =>
    intro h
    rw [List.map_cons, valV_neg (p := (a.1, a.2.2)) (h a List.mem_cons_self)]
    exact ih fun x hx => h x (List.mem_cons_of_mem _ hx)
theorem put_at {ent : List (MKy × V × V)} {k : MKy} {v : V} (h : (valV (ent.map fun x => (x.1, x.2.2)) k).isSome = true) : (putE ent k v).map (fun x => (x.1, x.2.2)) = putK (ent.map fun x => (x.1, x.2.2)) k v := by
  unfold putK putE
  rw [valV_any, if_pos h, List.map_map, List.map_map]
  refine List.map_congr_left fun x _ => ?_
  show ((if x.1 = k then (x.1, x.2.1, v) else x).1, (if x.1 = k then (x.1, x.2.1, v) else x).2.2) = if x.1 = k then (x.1, v) else (x.1, x.2.2)
  by_cases z : x.1 = k
  · rw [if_pos z, if_pos z]
  · rw [if_neg z, if_neg z]
section
variable {X : Cx} {pins : List (Addr × Obj)} {σ : L2.St} {H : Hp} {s : Shared} {a : Addr} {y v : V} {u r : Value} {A : Around} {E : Value → Shared → Prop} {k : MKy} {kvs : List (MKy × V)}
theorem mixOf (I : Inv X pins σ H s) (g : MixAt X.prog X.w H a kvs) : ∃ ent o es ep, s.heap.get? a = some o ∧ o.ExactDict ∧ o.data = .dict es ep ∧ Paired (EntR X.prog X.w) ent es.toList ∧ (a == sysModules) = false ∧ ent.length ≤ sizeLine ∧ ent.map (fun x => (x.1, x.2.2)) = kvs ∧
    (∀ x ∈ ent, KeyM H x.1 x.2.1) ∧ (ent.map (·.1)).Nodup ∧ H a = some (.ext (DictM X.prog X.w a ent)) := by
  obtain ⟨ent, e, a1, a2, a3, a4, a5⟩ := g
  obtain ⟨⟨o, es, ep, h1, h2, h3, h4⟩, _, _⟩ := (show ObjOk X.prog X.w H s.heap a (.ext (DictM X.prog X.w a ent)) from I.hok a _ e)
  exact ⟨ent, o, es, ep, h1, h2, h3, h4, a1, a2, a3, a4, a5, e⟩
/-- what a look-up finds -/
theorem d_mget {Q : Option Value → Shared → Prop} (hu : A.units < cLine) (I : Inv X pins σ H s) (g : MixAt X.prog X.w H a kvs) (ky : KeyM H k y) (ry : RelV y u) (h : ∀ o s', Inv X pins σ H s' → RelO (valV kvs k) o → Q o s') :
    wpAny (model X.prog X.w) A (dictGet a u) Q E s := by
  obtain ⟨ent, o, es, ep, h1, h2, h3, h4, a1, a2, a3, a4, a5, _⟩ := mixOf I g
  have T := ents_of I.hok h4 a4 a5
  have m := ky.is I.hok ry
  unfold dictGet
  with_reducible refine wpAny_holding ?_
  refine wpAny_bind (m_hash hu m (wpAny_bind (m_find (s := { s with toks := s.toks + mTok k }) hu m h1 h3 T (fun no => ?_) (fun j e hj he => ?_))))
  · refine wpAny_pure (h none _ (I.tok _) ?_)
    rw [← a3, val_no fun x hx z => ?_]
    · exact True.intro
    · obtain ⟨j, hj⟩ := List.mem_iff_getElem?.mp hx
      obtain ⟨e, he, r1, r2, _⟩ := OT.paired_get h4 hj
      rw [Array.getElem?_toList] at he
      exact no j e he (z ▸ (a4 x hx).is I.hok r2)
  · have hj2 := hj
    rw [← Array.getElem?_toList] at hj2
    obtain ⟨x, hx, r1, r2, r3⟩ := pair_at h4 hj2
    refine wpAny_bind (wpAny_dictEntries (s := { s with toks := s.toks + mTok k }) h1 h3 ?_)
    rw [hj]
    refine wpAny_pure (h _ _ (I.tok _) ?_)
    rw [← a3, val_at a5 hx (mIs_inj ((a4 x (List.mem_of_getElem? hx)).is I.hok r2) he)]
    exact r3
theorem upd_keep {H : Hp} {a : Addr} {φ : Heap → Prop} {ob : HO} (e : H a = some (.ext φ)) : ∀ b xs, H b = some (.tup xs) → upd H a ob b = some (.tup xs) := fun b xs h => by
  rw [upd_ne (ne_of h e fun z => nomatch z)]
  exact h
/-- a value is put -/
theorem d_mset {Q : Unit → Shared → Prop} (hu : A.units < cLine) (I : Inv X pins σ H s) (g : MixAt X.prog X.w H a kvs) (hz : kvs.length < sizeLine) (ky : KeyM H k y) (ry : RelV y u) (rv : RelV v r)
    (h : ∀ ob s', Inv X pins σ (upd H a ob) s' → MixAt X.prog X.w (upd H a ob) a (putK kvs k v) → Q () s') : wpAny (model X.prog X.w) A (dictSet a u r) Q E s := by
  obtain ⟨ent, o, es, ep, h1, h2, h3, h4, a1, a2, a3, a4, a5, eH⟩ := mixOf I g
  have T := ents_of I.hok h4 a4 a5
  have m := ky.is I.hok ry
  have len : es.size = ent.length := by rw [← Array.length_toList, ← Paired.length h4]
  have len2 : ent.length = kvs.length := by rw [← a3, List.length_map]
  have mu : Mut (H a) := by rw [eH]; exact True.intro
  unfold dictSet
  with_reducible refine wpAny_holding ?_
  refine wpAny_bind (m_hash hu m ?_)
  unfold dictSetHashed
  with_reducible refine wpAny_holding ?_
  refine wpAny_bind (m_find (s := { s with toks := s.toks + mTok k }) hu m h1 h3 T (fun no => ?_) (fun j e hj he => ?_))
  · have new : ∀ x ∈ ent, x.1 ≠ k := fun x hx z => by
      obtain ⟨j, hj⟩ := List.mem_iff_getElem?.mp hx
      obtain ⟨e, he, r1, r2, _⟩ := OT.paired_get h4 hj
      rw [Array.getElem?_toList] at he
      exact no j e he (z ▸ (a4 x hx).is I.hok r2)
    have vn : valV kvs k = none := by rw [← a3]; exact val_no new
    refine wpAny_bind (wpAny_rule (wpAny_updateDictKeys (hz := by omega) (s := { s with toks := s.toks + mTok k }) h1 h3 (h (.ext (DictM X.prog X.w a (ent ++ [(k, y, v)]))) _ ?_ ?_)))
    · have at2 := Heap.get?_update_self (Obj.mapDictKeys fun es => es.push ⟨mHash X.prog X.w k, u, r⟩) h1 (Obj.isFreed_of_dict (Obj.data_mapDictKeys h3 _))
      refine d_write (I.tok (s.toks + mTok k)) mu (Heap.SameBut.update ..) ⟨_, at2⟩ ⟨⟨_, _, _, at2, h2.mapDictKeys _, Obj.data_mapDictKeys h3 _, ?_⟩, ⟨_, at2⟩, DictM.stay⟩
      rw [Array.toList_push]
      exact Paired.snoc h4 ⟨rfl, ry, rv⟩
    · refine ⟨_, upd_same, a1, by rw [List.length_append, len2]; show kvs.length + 1 ≤ _; omega, ?_, fun x hx => ?_, ?_⟩
      · rw [List.map_append, a3, putK_new v vn]
        rfl
      · rcases List.mem_append.mp hx with c | c
        · exact (a4 x c).keep (upd_keep eH)
        · rw [List.mem_singleton.mp c]
          exact ky.keep (upd_keep eH)
      · rw [List.map_append, List.nodup_append]
        refine ⟨a5, by simp, fun p hp q hq e => ?_⟩
        rw [List.map_singleton, List.mem_singleton] at hq
        obtain ⟨x, hx, ex⟩ := List.mem_map.mp hp
        exact new x hx (ex.trans (e.trans hq))
  · have hj2 := hj
    rw [← Array.getElem?_toList] at hj2
    obtain ⟨x, hx, r1, r2, r3⟩ := pair_at h4 hj2
    have ek := mIs_inj ((a4 x (List.mem_of_getElem? hx)).is I.hok r2) he
    have va := val_at a5 hx ek
    refine wpAny_bind (wpAny_rule (wpAny_bind (wpAny_updateDict (s := { s with toks := s.toks + mTok k }) h1 h3 (wpAny_point (h (.ext (DictM X.prog X.w a (putE ent k v))) _ ?_ ?_)))))
    · have at2 := Heap.get?_update_self (Obj.mapDict fun es => es.modify j fun e => { e with val := r }) h1 (Obj.isFreed_of_dict (Obj.data_mapDict h3 _))
      refine d_write (I.tok (s.toks + mTok k)) mu (Heap.SameBut.update ..) ⟨_, at2⟩ ⟨⟨_, _, _, at2, h2.mapDict _, Obj.data_mapDict h3 _, ?_⟩, ⟨_, at2⟩, DictM.stay⟩
      rw [Array.toList_modify]
      exact putE_mod rv h4 a5 hx ek
    · refine ⟨_, upd_same, a1, ?_, ?_, fun z hz => ?_, by rw [putE_keys]; exact a5⟩
      · unfold putE
        rw [List.length_map]
        exact a2
      · rw [put_at (by rw [va]; rfl), a3]
      · unfold putE at hz
        obtain ⟨z0, hz0, rfl⟩ := List.mem_map.mp hz
        by_cases c : z0.1 = k
        · rw [if_pos c]
          exact (a4 z0 hz0).keep (upd_keep eH)
        · rw [if_neg c]
          exact (a4 z0 hz0).keep (upd_keep eH)
end
end OTR

set_option Elab.async false
set_option linter.all false
set_option maxRecDepth 100000
set_option maxHeartbeats 4000000
namespace OTR
open PySem PySem.Spec PyProof.Rows L2
section
variable {X : Cx} {pins : List (Addr × Obj)} {σ : L2.St} {H : Hp} {s : Shared} {a : Addr} {y v z : V} {u r : Value} {A : Around} {E : Value → Shared → Prop} {k : MKy} {kvs : List (MKy × V)}
theorem mixTy (I : Inv X pins σ H s) (g : MixAt X.prog X.w H a kvs) : s.TypeIs (.ref a) "dict" ∧ (∀ b, Value.ref a = .ref b → ∃ ob, s.heap.get? b = some ob ∧ ob.dict = none) ∧ (a == sysModules) = false := by
  obtain ⟨ent, o, es, ep, h1, h2, _, _, a1, _⟩ := mixOf I g
  exact ⟨⟨o, h1, h2.1⟩, fun b e => by cases e; exact ⟨o, h1, h2.2.1⟩, a1⟩
theorem d_mitem {Q : Value → Shared → Prop} (hu : A.units + 1 < cLine) (I : Inv X pins σ H s) (g : MixAt X.prog X.w H a kvs) (ky : KeyM H k y) (ry : RelV y u) (e : valV kvs k = some v) (h : ∀ w' s', Inv X pins σ H s' → RelV v w' → Q w' s') :
    wpAny (model X.prog X.w) A (getItem (.ref a) u) Q E s := by
  have ty := (mixTy I g).1
  unfold getItem
  with_reducible refine wpAny_holding ?_
  refine wpAny_bind (wpAny_sequenceKey ty (by decide) (wpAny_bind (wpAny_callSpecial?_slot (name := Str.ofString "__getitem__") ty slot_dict_getitem (wpAny_call_entry slot_dict_getitem ty entry_dict_getitem ?_ (args_dict_getitem _ _)))))
  show wpAny _ _ (dictGet a u >>= _) _ _ s
  refine wpAny_bind (d_mget hu I g ky ry fun o s2 I2 ro => ?_)
  rw [e] at ro
  cases o with
  | none => exact absurd ro id
  | some p => exact wpAny_pure ⟨p, rfl, wpAny_pure (h p _ I2 ro)⟩
theorem d_mno {Q : Value → Shared → Prop} (hu : A.units + 1 < cLine) (I : Inv X pins σ H s) (g : MixAt X.prog X.w H a kvs) (ky : KeyM H k y) (ry : RelV y u) (h : ∀ s', Inv X pins σ H s' → Q (.bool (!(valV kvs k).isSome)) s') :
    wpAny (model X.prog X.w) A (compareOp .NotIn u (.ref a)) Q E s := by
  obtain ⟨ty, _, hd⟩ := mixTy I g
  show wpAny _ _ (do return .bool (!(← contains (.ref a) u))) Q E s
  refine wpAny_bind ?_
  unfold contains
  with_reducible refine wpAny_holding ?_
  refine wpAny_bind (wpAny_specialOf ty slot_dict_contains.lookup ?_)
  show wpAny _ _ (ite ((some (Value.builtin "dict.__contains__") == some Value.none) = true) _ _) _ E s
  rw [if_neg (show ¬ _ from by rw [beq_builtin_none]; exact Bool.false_ne_true)]
  refine wpAny_bind (wpAny_callSpecialUnlessNone?_slot (name := Str.ofString "__contains__") ty slot_dict_contains (wpAny_call_entry slot_dict_contains ty entry_dict_contains ?_ (args_dict_contains _ _)))
  show wpAny _ _ (dictGet a u >>= _) _ _ s
  refine wpAny_bind (d_mget hu I g ky ry fun o s2 I2 ro => ?_)
  have e := RelO.isSome_eq ro
  cases o with
  | some p =>
    have q := h _ I2
    rw [e] at q
    show wpAny _ _ (ret (.bool true)) _ _ s2
    exact wpAny_pure ⟨_, rfl, wpAny_truthy_bool (wpAny_pure q)⟩
  | none =>
    have q := h _ I2
    rw [e] at q
    show wpAny _ _ (Builtin.Dict.pendingKey? a u >>= _) _ _ s2
    exact wpAny_bind (wpAny_pendingKey_other hd (wpAny_pure ⟨_, rfl, wpAny_truthy_bool (wpAny_pure q)⟩))
theorem d_mget2 {Q : Value → Shared → Prop} (hu : A.units + 1 < cLine) (I : Inv X pins σ H s) (g : MixAt X.prog X.w H a kvs) (ky : KeyM H k y) (ry : RelV y u) (rz : RelV z r) (h : ∀ w' s', Inv X pins σ H s' → RelV ((valV kvs k).getD z) w' → Q w' s') :
    wpAny (model X.prog X.w) A (call (.builtin "dict.get") [.ref a, u, r]) Q E s := by
  obtain ⟨ty, _, hd⟩ := mixTy I g
  refine call_meetsIn (S := fun A2 R s2 => A2.in1.units < cLine ∧ s2 = s ∧ ∀ w' s', Inv X pins σ H s' → RelV ((valV kvs k).getD z) w' → R (.ok (.ret w')) s') PySem.F.slot_dict_get ty PySem.F.entry_dict_get (PySem.F.args_dict_get_3 _ _ _) (.of_wp fun A2 R s2 ⟨hu2, e, q⟩ => ?_) ⟨hu, rfl, h⟩
  subst e
  show wpAny _ _ (dictGet a u >>= _) _ _ s2
  refine wpAny_bind (d_mget hu2 I g ky ry fun o s3 I3 ro => ?_)
  cases o with
  | some p =>
    refine wpAny_pure ⟨p, rfl, q p _ I3 ?_⟩
    exact RelO.getD (o := valV kvs k) (u := some p) (d' := r) ro rz
  | none =>
    show wpAny _ _ (Builtin.Dict.missed a u >>= _) _ _ _
    refine wpAny_bind (wpAny_missed_other hd (wpAny_pure ⟨r, rfl, q r _ I3 ?_⟩))
    exact RelO.getD (o := valV kvs k) (u := none) (d' := r) ro rz
theorem d_mput {Q : Unit → Shared → Prop} (hu : A.units + 1 < cLine) (I : Inv X pins σ H s) (g : MixAt X.prog X.w H a kvs) (hz : kvs.length < sizeLine) (ky : KeyM H k y) (ry : RelV y u) (rv : RelV v r)
    (h : ∀ ob s', Inv X pins σ (upd H a ob) s' → MixAt X.prog X.w (upd H a ob) a (putK kvs k v) → Q () s') : wpAny (model X.prog X.w) A (setItem (.ref a) u r) Q E s := by
  have ty := (mixTy I g).1
  unfold setItem
  with_reducible refine wpAny_holding ?_
  refine wpAny_bind (wpAny_sequenceKey ty (by decide) (wpAny_bind (wpAny_callSpecial?_slot (name := Str.ofString "__setitem__") ty slot_dict_setitem (wpAny_call_entry slot_dict_setitem ty entry_dict_setitem ?_ (args_dict_setitem _ _ _)))))
  show wpAny _ _ (Builtin.Dict.notOrdered "__setitem__" ⟨[.ref a, u, r], []⟩ >>= _) _ _ s
  refine wpAny_bind (wpAny_notOrdered_dict ty ?_)
  show wpAny _ _ (dictSet a u r >>= _) _ _ s
  exact wpAny_bind (d_mset hu I g hz ky ry rv fun ob s2 I2 g2 => wpAny_pure ⟨.none, rfl, wpAny_pure (h ob s2 I2 g2)⟩)
end
/-- {} -/
def tMNew (P : Program) (w : World) : TE := fun _ H Q => ∀ p o, H p = none → MixAt P w (upd H p o) p [] → Q (.ref p) (upd H p o)
/-- {k: v} -/
def tMOne (P : Program) (w : World) (tk tv : TE) : TE := fun σ H Q => ∀ p o, H p = none → MixAt P w (upd H p o) p [] → tk σ (upd H p o) fun y H1 => tv σ H1 fun v H2 => MixAt P w H2 p [] ∧ ∃ k, KeyM H2 k y ∧
  ∀ o2, MixAt P w (upd H2 p o2) p [(k, v)] → Q (.ref p) (upd H2 p o2)
/-- d[y] -/
def tMGet (P : Program) (w : World) (td ty : TE) : TE := fun σ H Q => td σ H fun x H1 => ty σ H1 fun y H2 => ∃ a kvs k v, x = .ref a ∧ MixAt P w H2 a kvs ∧ KeyM H2 k y ∧ valV kvs k = some v ∧ Q v H2
/-- y not in d -/
def tMNo (P : Program) (w : World) (ty td : TE) : TE := fun σ H Q => ty σ H fun y H1 => td σ H1 fun x H2 => ∃ a kvs k, x = .ref a ∧ MixAt P w H2 a kvs ∧ KeyM H2 k y ∧ Q (.bl (!(valV kvs k).isSome)) H2
/-- d.get(y, z) -/
def tMGet2 (P : Program) (w : World) (td ty tx : TE) : TE := fun σ H Q => td σ H fun x H1 => ∃ a k0, x = .ref a ∧ MixAt P w H1 a k0 ∧ ty σ H1 fun y H2 => tx σ H2 fun z H3 => ∃ kvs k, MixAt P w H3 a kvs ∧ KeyM H3 k y ∧ Q ((valV kvs k).getD z) H3
/-- d[y] = v -/
def sMPut (P : Program) (w : World) (td ty tv : TE) : TS := fun D σ H => tv σ H fun v H1 => td σ H1 fun x H2 => ty σ H2 fun y H3 => ∃ a kvs k, x = .ref a ∧ MixAt P w H3 a kvs ∧ kvs.length < sizeLine ∧ KeyM H3 k y ∧
  ∀ o, MixAt P w (upd H3 a o) a (putK kvs k v) → D.nx σ (upd H3 a o)
section
variable {X : Cx} {o i e f value : Expr} {pos pos' apos cpos : Pos} {td ty tx tv tk : TE}
theorem mix_new {P : Program} {w : World} {H : Hp} (h : Heap) (hb : sysModules < h.objs.size) (hn : H h.objs.size = none) :
    ObjOk P w (upd H h.objs.size (.ext (DictM P w h.objs.size []))) (h.push { cls := .type "dict", data := .dict #[] }) h.objs.size (.ext (DictM P w h.objs.size [])) ∧ MixAt P w (upd H h.objs.size (.ext (DictM P w h.objs.size []))) h.objs.size [] :=
  ⟨⟨⟨_, #[], 0, Heap.get?_push_size _ rfl, ⟨rfl, rfl, rfl⟩, rfl, .nil⟩, ⟨_, Heap.get?_push_size _ rfl⟩, DictM.stay⟩,
    [], upd_same, beq_eq_false_iff_ne.mpr (Ne.symm (Nat.ne_of_lt hb)), Nat.zero_le _, rfl, fun x hx => absurd hx List.not_mem_nil, List.nodup_nil⟩
theorem pe_mnew : PE X (.Dict [] [] pos) (tMNew X.prog X.w) := ⟨fun pins s σ H Q I h => by
  have hn := I.hok.fresh (Nat.le_refl s.heap.objs.size)
  obtain ⟨h1, h2⟩ := mix_new (P := X.prog) (w := X.w) s.heap I.big hn
  exact wpAny_Dict_empty ⟨.ref s.heap.objs.size, _, I.laid (a := s.heap.objs.size) (t' := s.toks) (fun _ _ q => Heap.get?_push_of_some _ q) (Nat.le_refl _) h1, rfl, h _ _ hn h2⟩⟩
theorem pe_mone {ke : Expr} (hu : X.A.units < cLine) (hk : PE X ke tk) (hv : PE X e tv) : PE X (.Dict [some ke] [e] pos) (tMOne X.prog X.w tk tv) := by
  refine ⟨fun pins s σ H Q I h => ?_⟩
  have hn := I.hok.fresh (Nat.le_refl s.heap.objs.size)
  obtain ⟨h1, h2⟩ := mix_new (P := X.prog) (w := X.w) s.heap I.big hn
  have I1 := I.laid (a := s.heap.objs.size) (t' := s.toks) (fun _ _ q => Heap.get?_push_of_some _ q) (Nat.le_refl _) h1
  rw [arm_eval_Dict, zip_pairTrees [some ke] [e] X.env pos rfl rfl, dictDisplay_pairs (pairTrees [some ke] [e] X.env pos) (by rw [pairTrees]; exact fun z => nomatch z) (by rw [pairTrees, pairTrees]; exact Nat.le_of_ble_eq_true rfl; all_goals (intros; contradiction))]
  refine wpAny_bind (wpAny_standAt (wpAny_bind ?_))
  unfold subDict
  refine wpAny_bind (wpAny_alloc (wpAny_bind (wpAny_holding ?_)))
  rw [if_pos (show (pairTrees [some ke] [e] X.env pos).length ≤ 15 from by rw [pairTrees_length [some ke] [e] X.env pos rfl rfl]; exact Nat.le_of_ble_eq_true rfl)]
  refine wpAny_bind (pairTrees_cons_walk (thn (hk.run pins _ σ _ _ I1 (h _ _ hn h2)) fun u s1 ⟨y, H1, I2, ry, q1⟩ => thn (hv.run pins s1 σ H1 _ I2 q1) fun r s2 ⟨v, H2, I3, rv, g, k, ky, q2⟩ => pairTrees_nil_walk ?_))
  refine wpAny_holding ?_
  rw [List.forIn_cons]
  refine wpAny_bind (wpAny_bind (wpAny_bind (d_mset hu I3 g (by decide) ky ry rv fun ob s3 I4 g4 => wpAny_pure ?_)))
  dsimp only
  rw [List.forIn_nil]
  exact wpAny_pure (wpAny_pure (wpAny_pure (wpAny_pure ⟨.ref s.heap.objs.size, _, I4, rfl, q2 ob g4⟩)))
theorem pe_mget (hu : X.A.units + 1 < cLine) (ho : PE X o td) (hi : PE X i ty) (hs : NoSl i) : PE X (.Subscript o i pos) (tMGet X.prog X.w td ty) := by
  refine ⟨fun pins s σ H Q I h => ?_⟩
  refine subD_of slot_dict_getitem.lookup hs (thn (ho.run pins s σ H _ I h) fun u s1 ⟨x, H1, I1, rx, q1⟩ => thn (hi.run pins s1 σ H1 _ I1 q1) fun iv s2 ⟨y, H2, I2, ry, a, kvs, k, v, ex, g, ky, ev, q2⟩ => ?_)
  subst ex
  cases (show u = Value.ref a from rx)
  exact ⟨(mixTy I2 g).1, d_mitem hu I2 g ky ry ev fun w' s3 I3 rw' => ⟨v, H2, I3, rw', q2⟩⟩
theorem pc_mno (hu : X.A.units + 1 < cLine) (hi : PE X i ty) (ho : PE X o td) : PC X .NotIn i o (tMNo X.prog X.w ty td) := by
  refine ⟨fun pins s σ H Q I h => ?_⟩
  refine thn (hi.run pins s σ H _ I h) fun iv s1 ⟨y, H1, I1, ry, q1⟩ => thn (ho.run pins s1 σ H1 _ I1 q1) fun u s2 ⟨x, H2, I2, rx, a, kvs, k, ex, g, ky, q2⟩ => ?_
  subst ex
  cases (show u = Value.ref a from rx)
  exact d_mno hu I2 g ky ry fun s3 I3 => ⟨.bl (!(valV kvs k).isSome), H2, I3, rfl, q2⟩
theorem ps_mput (hu : X.A.units + 1 < cLine) (ho : PE X o td) (hi : PE X i ty) (hv : PE X value tv) (hs : swapsWith value (some (.Subscript o i pos')) pos.line X.env = pure false) :
    PS X (.Assign [.Subscript o i pos'] value pos) (sMPut X.prog X.w td ty tv) := by
  refine ⟨fun pins s σ H D I h => ?_⟩
  refine wpAny_Assign_Subscript (thn (hv.run pins s σ H _ I h) fun r s1 ⟨v, H1, I1, rv, q1⟩ => thn (ho.run pins s1 σ H1 _ I1 q1) fun u s2 ⟨x, H2, I2, rx, q2⟩ => thn (hi.run pins s2 σ H2 _ I2 q2) fun iv s3 ⟨y, H3, I3, ry, a, kvs, k, ex, g, hz, ky, q3⟩ => ?_) hs
  subst ex
  cases (show u = Value.ref a from rx)
  exact d_mput hu I3 g hz ky ry rv fun ob s4 I4 g4 => ⟨σ, _, I4, q3 ob g4⟩
theorem pe_mget2 (hu : X.A.units + 1 < cLine) (ho : PE X o td) (he : PE X e ty) (hf : PE X f tx) (m : M2 X o "get" apos e f cpos) : PE X (.Call (.Attribute o "get" apos) [e, f] [] cpos) (tMGet2 X.prog X.w td ty tx) := by
  refine ⟨fun pins s σ H Q I h => ?_⟩
  refine wpAny_Call_method m.base m.few m.line PySem.F.plainAttrs_dict PySem.F.slot_dict_get PySem.F.type_dict_get (thn (ho.run pins s σ H _ I h) fun u s1 ⟨x, H1, I1, rx, a, k0, ex, g0, q1⟩ => ?_)
  subst ex
  cases (show u = Value.ref a from rx)
  obtain ⟨t1, t2, _⟩ := mixTy I1 g0
  refine ⟨t1, t2, ?_⟩
  rw [m.trees]
  refine Calls.callWith_builtin rfl (Calls.evalArgs_plain (Calls.spliced_cons (thn (he.run pins s1 σ H1 _ I1 q1) fun iv s2 ⟨y, H2, I2, ry, q2⟩ => Calls.spliced_cons (thn (hf.run pins s2 σ H2 _ I2 q2) fun fv s3 ⟨z, H3, I3, rz, kvs, k, g, ky, q3⟩ => Calls.spliced_nil ?_))))
  exact d_mget2 hu I3 g ky ry rz fun w' s4 I4 rw' => ⟨_, H3, I4, rw', q3⟩
end
end OTR

set_option Elab.async false
set_option linter.all false
set_option maxRecDepth 100000
set_option maxHeartbeats 4000000
namespace OT
open PySem L2 OTR
/-- the key of a node -/
def nk : Nd → MKy
  | .cr c => .inl c
  | .mid k i => .inr [.inl (k : Int), .inl i]
def spNode : Sp := fun vs H Q _ => ∃ (p q : Addr) (n S i : Int) (k : Nat) (F : List Fact), vs = [.ref p, .int S, .int (k : Nat), .int i] ∧ TrAt H p q n F ∧ k < F.length ∧ 1 ≤ S ∧ S ≤ 1000 ∧ ∀ v H', Same H H' → KeyM H' (nk (node F S k i)) v → Q v H'
section
variable {P : Program} {w : World} {K : PySem.W.Frag} {mg : Str → Option Value} {base : Heap}
abbrev nNode : List Str := ["_law_m", "_law_share", "_law_road", "_law_at", "_law_one", "_law_other", "_law_size"]
end
end OT

set_option Elab.async false
set_option linter.all false
set_option maxRecDepth 100000
set_option maxHeartbeats 4000000
namespace OT
open PySem L2 OTR
theorem inV_int {b : Int} {fl : List Int} : inV (.int b) (fl.map V.int) = decide (b ∈ fl) := by
  unfold inV
  induction fl with
  | nil => rfl
  | cons a l ih =>
    rw [List.map_cons, List.any_cons, ih]
    show ((a == b) || decide (b ∈ l)) = decide (b ∈ a :: l)
    by_cases e : a = b
    · subst e
      simp
    · have e1 : (a == b) = false := by simpa using e
      have e2 : ¬ b = a := fun z => e z.symm
      rw [e1]
      simp [e2]
theorem flat_ints (fl : List Int) : (fl.map V.int).all flatV = true := by
  rw [List.all_eq_true]
  intro x hx
  obtain ⟨i, _, rfl⟩ := List.mem_map.mp hx
  rfl
theorem low_one (a b : Int) : low (a, b, 1) = (a, b, 1) := by
  have g : gcdI b 1 = 1 := by
    unfold gcdI
    rw [show (1 : Int).natAbs = 1 from rfl, Nat.gcd_one_right]
    rfl
  show (a, b / gcdI b 1, 1 / gcdI b 1) = _
  rw [g, Int.ediv_one]
  rfl
theorem lg60 {b : Int} (h1 : 1 ≤ b) (h2 : b < 2 ^ 60) : b.natAbs.log2 < 9000 := by
  rw [Nat.log2_lt (by omega)]
  have h3 : b.natAbs < 2 ^ 60 := by omega
  have h5 : (2 : Nat) ^ 60 ≤ 2 ^ 9000 := Nat.pow_le_pow_right (by decide) (by decide)
  omega
/-- the road with this number ends at the crossing -/
def atEnd (F : List Fact) (c : Int) (x : Int) : Bool := decide ((rd F x.toNat).1 = c ∨ (rd F x.toNat).2.1 = c)
def spKey (K : PySem.W.Frag) (CT CR CP CNR COR : Addr) : Sp := fun vs H Q E => ∃ (a p : Addr) (n : Int) (ps : List Addr) (F : List Fact) (r : Fact), vs = [.ref a, .ref p] ∧ TreeAt K CT CR H a n ps F ∧ PlaceAt CP H p r ∧ TreeG n F ∧ PlSm r ∧ low r = r ∧
  (¬ (0 ≤ r.1 ∧ r.1 < (F.length : Int)) → Raised CNR [("road", .int r.1)] H E) ∧ ((0 ≤ r.1 ∧ r.1 < (F.length : Int)) → ¬ (0 ≤ r.2.1 ∧ r.2.1 ≤ (rd F r.1.toNat).2.2 * r.2.2) → Raised COR [("road", .int r.1)] H E) ∧
  (PlOn F r → ∀ p' H', Same H H' → PlaceAt CP H' p' (keyF F r.2.2 (node F r.2.2 r.1.toNat r.2.1)) → Q (.ref p') H')
section
variable {P : Program} {w : World} {K : PySem.W.Frag} {mg : Str → Option Value} {base : Heap}
abbrev nCor : List Str := ["tree", "crossing", "number", "at", "road"]
theorem scCor : FnScope nCor ["tree", "crossing"] (defScope sCorner) := ⟨rfl, rfl, rfl, by decide +kernel, rfl, by decide +kernel, by decide +kernel⟩
theorem ok_corner {f CT CR CP CN CB fN fE fP : Addr} {fd fdN fdE fdP : FuncData} (F : Fun K "corner" "corner" sCorner f fd) (TT : TeT K mg CT) (TR : RdT K mg CR) (TP : PlT K mg CP) (TN : ErT K mg "NoCrossing" CN fN)
    (FN : FnOk P w K mg base CX0 1 fN fdN ["self", "crossing"] (spEr1 CN "crossing")) (bN : Binds K fdN ["self", "crossing"] [])
    (FE : FnOk P w K mg base CX0 1 fE fdE ["road", "crossing"] (spEndAt CR)) (bE : Binds K fdE ["road", "crossing"] []) (mE : mg "end_at" = some (.ref fE)) (kE : PySem.W.keepIn K (.ref fE) = true)
    (MP : Mk K CP fP) (FP : FnOk P w K mg base (L2.CX P w) 3 fP fdP ["self", "road", "number", "parts"] (spPlaceI CP CB)) (bP : Binds K fdP ["self", "road", "number", "parts"] [])
    (hMin : mg "min" = none) (hEn : mg "enumerate" = none) : FnOk P w K mg base (L2.CX P w) 5 f fd ["tree", "crossing"] (spCorner K CT CR CP CN) := by
  refine F.okX scCor (fun vs H Q E h => ?_) (fun cdv A outer s H vs Q E hr h => ?_)
  · obtain ⟨a, n, ps, F, c, rfl, _⟩ := h
    rfl
  · obtain ⟨a, n, ps, F, c, rfl, TA, G, k1, k2⟩ := h
    have hr1 : Room 1 _ := hr.mono (by decide)
    have hr2 : Room 2 _ := hr.mono (by decide)
    refine ⟨_, pss_cons (ps_if (pt_not (pt_chain op_le op_lt pe_int (pv 1) (pe_fld (pv 0) rfl)))
          (pss_one (ps_raise rfl (takes_of rfl rfl rfl rfl) (pmk_oex TN.ox TN.iC TN.tI FN hr2 bN .nil pass0 (by rfl) TN.gC (pa_cons (pv 1) pa_nil)))) pss_nil)
      (pss_cons (ps_set (i := 2) scCor.nd rfl (Or.inl rfl) (pe_callB (cr_min rfl) (by rfl) hMin (by decide +kernel) (pa_cons
          (pe_lc (own := [("at", 3), ("road", 4)]) (g := gTup K 2 (gCons (gName 3) (gCons (gName 4) gNil))) (tt := tTest (tOp (rIn K false) (tVar 1) (tTup (tCons (tFld K (tVar 4) "a") (tCons (tFld K (tVar 4) "b") tNil))))) rfl scCor.nd (pi_enumT (by rfl) hEn (pa_cons (pe_fld (pv 0) rfl) pa_nil))
            (blkOk_by (own := [("at", 3), ("road", 4)]) (N := nCor) (sc := defScope sCorner) (by decide +kernel))
            (fun _ _ _ _ _ => pg_tup rfl (pgs_cons (pg_name (i := 3) scCor.nd rfl (Or.inl rfl)) (pgs_cons (pg_name (i := 4) scCor.nd rfl (Or.inl rfl)) pgs_nil)))
            (fun _ _ _ _ _ => pts_one (pt_cmpR op_in_seq (pv 1) (pe_tup (pa_cons (pe_fld (pv 4) rfl) (pa_cons (pe_fld (pv 4) rfl) pa_nil))) (by rfl))) (fun _ _ _ _ _ => pv 3)) pa_nil)))
      (pss_one (ps_ret (pe_make MP FP hr (by rfl) TP.mgC bP .nil passF (pa_cons (pv 2) (pa_cons (pe_call FE hr1 rfl mE kE bE .nil pass0 (pa_cons (pe_ix ix_tup (pe_fld (pv 0) rfl) (pv 2) (fun _ _ => rfl)) (pa_cons (pv 1) pa_nil))) (pa_cons pe_int pa_nil))))))), ?_⟩
    obtain ⟨dx, t, d, kvs, ea, et, rds, _⟩ := TA
    have pl : (ps.map V.ref).length = F.length := by rw [List.length_map]; exact rds.len
    have l23 : F.length ≤ 23 := by have := G.len; have := G.n24; omega
    have ifin : In n c → _ := k2
    refine ⟨_, rfl, _, _, rfl, rfl, _, rfl, ?_⟩
    by_cases h0 : 0 ≤ c
    · rw [decide_eq_true h0]
      refine iteT ⟨_, rfl, a, CT, dx, _, _, rfl, ea, TT.cl, TT.nC, teF_c n t d, _, _, rfl, rfl, _, rfl, ?_⟩
      by_cases h1 : c < n
      · rw [decide_eq_true h1]
        refine iteF ?_
        have ic : In n c := ⟨h0, h1⟩
        obtain ⟨f1, f2, f3⟩ := fstR_spec G.m ic G.n2
        -- number = min([at ..])
        refine ⟨_, rfl, a, CT, dx, _, _, rfl, ea, TT.cl, TT.nR, teF_r n t d, t, _, rfl, et, fun D hD => lc_it (walk_enumT (K := K) (a := t) (xs := ps.map V.ref)) (fun i Hc => ∃ l : List Int, Hc D = some (.lst (l.map V.int)) ∧ Same H Hc ∧ Kept l i (atEnd F c))
          ⟨[], upd_same, Same.new hD, Kept.zero⟩ (fun i Hc _ ⟨_, _, sc, _⟩ => sqT_same et sc) ?_ ?_⟩
        · rintro i v Hc H' hi ⟨l, hl, sc, kp⟩ ⟨T, x1, y1, rfl, hT, rfl, hx1, hy1⟩
          cases hx1
          rw [pl] at hi
          obtain ⟨q, hq, rfl⟩ := map_get (show (ps.map V.ref)[i]? = some y1 from hy1)
          obtain ⟨r, hr', hrd⟩ := rds.get hq
          have s1 : Same H (upd Hc T (.tup [.int (i : Nat), .ref q])) := sc.trans (Same.new hT)
          obtain ⟨dq, eq⟩ := hrd.same s1
          have nD : D ≠ T := ne_of_none hl hT
          refine ⟨T, _, rfl, SqT.of upd_same, rfl, _, _, rfl, _, _, rfl, rfl, rfl, ?_⟩
          refine ⟨_, rfl, _, rfl, q, CR, dq, _, _, rfl, eq, TR.cl, TR.nA, rdF_a r, _, rfl, q, CR, dq, _, _, rfl, eq, TR.cl, TR.nB, rdF_b r, (by show 2 ≤ sizeLine; decide), fun t2 h2 => ⟨t2, _, rfl, .inr (SqT.of upd_same), rfl, rfl, _, rfl, ?_⟩⟩
          have s2 := s1.trans (Same.new (o := .tup [.int r.1, .int r.2.1]) h2)
          have n2 : D ≠ t2 := ne_of_none (by rw [upd_ne nD]; exact hl) h2
          have eb : inV (.int c) [.int r.1, .int r.2.1] = atEnd F c (i : Int) := by
            rw [show ([V.int r.1, V.int r.2.1] : List V) = [r.1, r.2.1].map V.int from rfl, inV_int]
            unfold atEnd
            rw [Int.toNat_natCast, rd_of hr']
            rw [decide_eq_decide]
            simp only [List.mem_cons, List.not_mem_nil, or_false]
            exact ⟨fun z => z.elim (fun z => .inl z.symm) fun z => .inr z.symm, fun z => z.elim (fun z => .inl z.symm) fun z => .inr z.symm⟩
          show if inV (.int c) [.int r.1, .int r.2.1] = true then _ else _
          rw [eb]
          cases e : atEnd F c (i : Int) with
          | true =>
            refine iteT ⟨_, rfl, l.map V.int, by rw [upd_ne n2, upd_ne nD]; exact hl, small1000 (by rw [List.length_map]; have := kp.2; omega), l ++ [(i : Int)], by rw [List.map_append]; exact upd_same, fun b o z => ?_, kp.yes e⟩
            rw [upd_ne (ne_of_none z hD)]
            exact s2 b o z
          | false => exact iteF ⟨l, by rw [upd_ne n2, upd_ne nD]; exact hl, s2, kp.no e⟩
        · rintro H4 ⟨l, hl, s4, kp⟩
          rw [pl] at kp
          have inl : ((fstR F c : Nat) : Int) ∈ l := (kp.1 _).mpr ⟨⟨by omega, by omega⟩, by unfold atEnd; rw [Int.toNat_natCast]; exact decide_eq_true f2⟩
          refine ⟨D, l, rfl, SqL.of hl, List.length_pos_of_mem inl, fun m hm hle => ?_⟩
          have em : m = ((fstR F c : Nat) : Int) := by
            obtain ⟨⟨m0, m1⟩, m2⟩ := (kp.1 m).mp hm
            have m3 := hle _ inl
            have m4 : ¬ m.toNat < fstR F c := fun z => f3 _ z (of_decide_eq_true m2)
            omega
          subst em
          obtain ⟨q, eq, rq⟩ := rds.at_ f1
          have rq4 := rq.same s4
          -- return Place(number, end_at(tree.roads[number], crossing), 1)
          refine ⟨_, rfl, _, rfl, a, CT, dx, _, _, rfl, s4 _ _ ea, TT.cl, TT.nR, teF_r n t d, _, rfl, t, _, _, _, rfl, rfl, sqT_same et s4, atI_nat eq, _, rfl, q, rd F (fstR F c), c, rfl, rq4, fun x dx' nx ndx nex => ⟨x, dx', (((fstR F c : Nat) : Int), _, 1), rfl, upd_same, fun z => absurd z (by show ¬ (1 : Int) < 1; decide), fun _ => ⟨(by show (1 : Int).natAbs.log2 < 9000; decide), fun H5 px keep => ⟨rfl, ?_⟩⟩⟩⟩
          have s5 := made_same nx ndx keep
          refine k2 ic x H5 (s4.trans s5) (s4.free nx) ?_
          rw [low_one] at px
          have ek : keyF F 1 (.cr c) = (((fstR F c : Nat) : Int), (if (rd F (fstR F c)).1 = c then 0 else (rd F (fstR F c)).2.2), 1) := by
            show (((fstR F c : Nat) : Int), eAt F 1 (fstR F c) c, (1 : Int)) = _
            unfold eAt sz
            rw [Int.mul_one]
          rw [ek]
          exact px
      · rw [decide_eq_false h1]
        exact iteT ⟨_, rfl, len1, fun b hb => er1 hb (k1 fun z => h1 z.2)⟩
    · rw [decide_eq_false h0]
      exact iteF ⟨_, rfl, iteT ⟨_, rfl, len1, fun b hb => er1 hb (k1 fun z => h0 z.1)⟩⟩
end
end OT

set_option Elab.async false
set_option linter.all false
set_option maxRecDepth 100000
set_option maxHeartbeats 4000000
namespace OT
open PySem L2 OTR
theorem keyF_cr (F : List Fact) (S : Int) (c : Int) : keyF F S (.cr c) = keyF F 1 (.cr c) := rfl
section
variable {P : Program} {w : World} {K : PySem.W.Frag} {mg : Str → Option Value} {base : Heap}
theorem scKey : FnScope ["tree", "place", "road"] ["tree", "place"] (defScope sKey) := ⟨rfl, rfl, rfl, by decide +kernel, rfl, by decide +kernel, by decide +kernel⟩
theorem ok_key {f CT CR CP CN CNR COR fC fK : Addr} {fd fdC fdK : FuncData} (F : Fun K "key" "key" sKey f fd) (TT : TeT K mg CT) (TR : RdT K mg CR) (TP : PlT K mg CP)
    (FC : FnOk P w K mg base (L2.CX P w) 3 fC fdC ["tree", "place"] (spCheckPl K CT CR CP CNR COR)) (bC : Binds K fdC ["tree", "place"] []) (mC : mg "check_place" = some (.ref fC)) (kC : PySem.W.keepIn K (.ref fC) = true)
    (FK : FnOk P w K mg base (L2.CX P w) 5 fK fdK ["tree", "crossing"] (spCorner K CT CR CP CN)) (bK : Binds K fdK ["tree", "crossing"] []) (mK : mg "corner" = some (.ref fK)) (kK : PySem.W.keepIn K (.ref fK) = true) :
    FnOk P w K mg base (L2.CX P w) 6 f fd ["tree", "place"] (spKey K CT CR CP CNR COR) := by
  refine F.okX scKey (fun vs H Q E h => ?_) (fun cdv A outer s H vs Q E hr h => ?_)
  · obtain ⟨a, p, n, ps, F, r, rfl, _⟩ := h
    rfl
  · obtain ⟨a, p, n, ps, F, r, rfl, TA, PA', G, sm, lo, k1, k2, k3⟩ := h
    have hr3 : Room 3 _ := hr.mono (by decide)
    refine ⟨_, pss_cons (ps_expr (pe_call FC hr3 rfl mC kC bC .nil (passes_call (takes_of rfl rfl rfl rfl) fun _ _ _ _ h => h) (pa_cons (pv 0) (pa_cons (pv 1) pa_nil))))
      (pss_cons (ps_set (i := 2) scKey.nd rfl (Or.inl rfl) (pe_ix ix_tup (pe_fld (pv 0) rfl) (pe_fld (pv 1) rfl) (fun _ _ => rfl)))
      (pss_cons (ps_if (pt_cmpR op_eq (pe_fld (pv 1) rfl) pe_int (nomark _)) (pss_one (ps_ret (pe_call FK hr rfl mK kK bK .nil passF (pa_cons (pv 0) (pa_cons (pe_fld (pv 2) rfl) pa_nil))))) pss_nil)
      (pss_cons (ps_if (pt_cmpR op_eq (pe_fld (pv 1) rfl) (pe_op op_mul (pe_fld (pv 2) rfl) (pe_fld (pv 1) rfl)) (nomark _)) (pss_one (ps_ret (pe_call FK hr rfl mK kK bK .nil passF (pa_cons (pv 0) (pa_cons (pe_fld (pv 2) rfl) pa_nil))))) pss_nil)
      (pss_one (ps_ret (pv 1)))))), ?_⟩
    refine ⟨_, rfl, _, rfl, a, p, n, ps, F, r, rfl, TA, PA', G, sm, k1, k2, fun on => ?_⟩
    have k3' := k3 on
    obtain ⟨⟨o1, o2⟩, o3, o4⟩ := on
    have TA' := TA
    obtain ⟨dx, t, d, kvs, ea, et, rds, _⟩ := TA
    obtain ⟨dp, ep⟩ := id PA'
    have lk : r.1.toNat < F.length := by omega
    have e1 : r.1 = ((r.1.toNat : Nat) : Int) := by omega
    obtain ⟨q, eq, dq, rq⟩ := rds.at_ lk
    obtain ⟨ok1, ok2, ok3, ok4⟩ := rd_ok G.m lk
    have z := G.rd lk
    refine ⟨_, rfl, a, CT, dx, _, _, rfl, ea, TT.cl, TT.nR, teF_r n t d, _, rfl, p, CP, dp, _, _, rfl, ep, TP.cl, TP.nR, plF_r r, t, _, _, _, rfl, rfl, et, at_of e1 eq, ?_⟩
    refine ⟨_, rfl, p, CP, dp, _, _, rfl, ep, TP.cl, TP.nN, plF_n r, rfl, _, rfl, ?_⟩
    by_cases h0 : r.2.1 = 0
    · refine iteV h0 ⟨_, rfl, _, rfl, q, CR, dq, _, _, rfl, rq, TR.cl, TR.nA, rdF_a _, a, n, ps, F, _, rfl, TA', G, fun z => absurd ok1 z, fun _ p' H' s' hp' px => ?_⟩
      refine k3' p' H' s' ?_
      unfold node
      rw [if_pos h0, keyF_cr]
      exact px
    · refine iteN h0 ⟨_, rfl, p, CP, dp, _, _, rfl, ep, TP.cl, TP.nN, plF_n r, _, rfl, q, CR, dq, _, _, rfl, rq, TR.cl, TR.nL, rdF_l _, _, rfl, p, CP, dp, _, _, rfl, ep, TP.cl, TP.nP, plF_p r, _, _, rfl, rfl, .inl ⟨by omega, by omega⟩, rfl, _, rfl, ?_⟩
      by_cases h1 : r.2.1 = (rd F r.1.toNat).2.2 * r.2.2
      · refine iteV h1 ⟨_, rfl, _, rfl, q, CR, dq, _, _, rfl, rq, TR.cl, TR.nB, rdF_b _, a, n, ps, F, _, rfl, TA', G, fun z => absurd ok2 z, fun _ p' H' s' hp' px => ?_⟩
        refine k3' p' H' s' ?_
        unfold node
        rw [if_neg h0, if_pos (show r.2.1 = sz F r.2.2 r.1.toNat from h1), keyF_cr]
        exact px
      · refine iteN h1 ⟨_, rfl, k3' p H (Same.refl H) ?_⟩
        unfold node
        rw [if_neg h0, if_neg (show ¬ r.2.1 = sz F r.2.2 r.1.toNat from h1)]
        show PlaceAt CP H p (low (((r.1.toNat : Nat) : Int), r.2.1, r.2.2))
        rw [← e1]
        show PlaceAt CP H p (low r)
        rw [lo]
        exact PA'
end
end OT

set_option Elab.async false
set_option linter.all false
set_option maxRecDepth 100000
set_option maxHeartbeats 4000000
namespace OT
open PySem L2 OTR
abbrev sEndBeyond : Stmt := top 21
def spEndBy (CR : Addr) : Sp := fun vs H Q _ => ∃ (p : Addr) (r : Fact) (c : Int), vs = [.ref p, .int c] ∧ RoadAt CR H p r ∧ Q (.int (if r.1 = c then r.2.1 else r.1)) H
section
variable {P : Program} {w : World} {K : PySem.W.Frag} {mg : Str → Option Value} {base : Heap}
theorem scEndBy : FnScope ["road", "crossing"] ["road", "crossing"] (defScope sEndBeyond) := ⟨rfl, rfl, rfl, by decide +kernel, rfl, by decide +kernel, by decide +kernel⟩
theorem ok_endBy {f CR : Addr} {fd : FuncData} (F : Fun K "end_beyond" "end_beyond" sEndBeyond f fd) (TR : RdT K mg CR) : FnOk P w K mg base CX0 1 f fd ["road", "crossing"] (spEndBy CR) := by
  refine F.ok scEndBy (fun vs H Q E h => ?_) (fun cdv A outer s H vs Q E hr h => ?_)
  · obtain ⟨p, r, c, rfl, _⟩ := h
    rfl
  · obtain ⟨p, r, c, rfl, ⟨dx, e⟩, k⟩ := h
    refine ⟨_, pss_one (ps_ret (pe_ifExp (pt_cmpR op_eq (pe_fld (pv 0) rfl) (pv 1) (nomark _)) (pe_fld (pv 0) rfl) (pe_fld (pv 0) rfl))), ?_⟩
    refine ⟨_, rfl, p, CR, dx, _, _, rfl, e, TR.cl, TR.nA, rdF_a r, _, rfl, rfl, _, rfl, ?_⟩
    by_cases h : r.1 = c
    · rw [if_pos h] at k
      exact iteV h ⟨_, rfl, p, CR, dx, _, _, rfl, e, TR.cl, TR.nB, rdF_b r, k⟩
    · rw [if_neg h] at k
      exact iteN h ⟨_, rfl, p, CR, dx, _, _, rfl, e, TR.cl, TR.nA, rdF_a r, k⟩
end
end OT

set_option Elab.async false
set_option linter.all false
set_option maxRecDepth 100000
set_option maxHeartbeats 4000000
namespace OT
open PySem L2 OTR
abbrev sLegs : Stmt := top 30
def legF (l : Leg) : Fact := ((l.1 : Int), l.2.1, l.2.2)
/-- the legs from a crossing, the roads k0 and g left out -/
def legsK (F : List Fact) (S : Int) (g : Nat) (p : Int) (k0 : Nat) : Int → List Nat → List Leg
  | c, [] => [(g, eAt F S g c, p)]
  | c, k :: l => if k = k0 ∨ k = g then legsK F S g p k0 c l else (k, eAt F S k c, eAt F S k (eBy F k c)) :: legsK F S g p k0 (eBy F k c) l
theorem legsK_eq {F : List Fact} {S : Int} {g : Nat} {p : Int} {k0 : Nat} : ∀ {l : List Nat} {c : Int}, k0 ∉ l → legsK F S g p k0 c l = legsC F S g p c l
  | [], c, _ => rfl
  | k :: l, c, h => by
    have h1 : ¬ k = k0 := fun z => h (z ▸ List.mem_cons_self ..)
    have h2 : k0 ∉ l := fun z => h (List.mem_cons_of_mem _ z)
    by_cases e : k = g
    · show (if k = k0 ∨ k = g then _ else _) = _
      rw [if_pos (.inr e), legsK_eq h2, e, legsC_g]
    · show (if k = k0 ∨ k = g then _ else _) = _
      rw [if_neg (fun z => z.elim h1 e), legsK_eq h2, legsC_k e]
theorem legsK_skip {F : List Fact} {S : Int} {g : Nat} {p : Int} {k0 k : Nat} {c : Int} {l : List Nat} (h : k = k0 ∨ k = g) : legsK F S g p k0 c (k :: l) = legsK F S g p k0 c l := by
  show (if k = k0 ∨ k = g then _ else _) = _
  rw [if_pos h]
theorem legsK_go {F : List Fact} {S : Int} {g : Nat} {p : Int} {k0 k : Nat} {c : Int} {l : List Nat} (h : ¬ (k = k0 ∨ k = g)) : legsK F S g p k0 c (k :: l) = (k, eAt F S k c, eAt F S k (eBy F k c)) :: legsK F S g p k0 (eBy F k c) l := by
  show (if k = k0 ∨ k = g then _ else _) = _
  rw [if_neg h]
theorem legsP_K {n : Int} {F : List Fact} {S : Int} {g : Nat} {p : Int} (T : TreeM n F) (hg : g < F.length) {k0 : Nat} (hk : k0 < F.length) (ne : k0 ≠ g) (i : Int) :
    legsP F S g p k0 i = (k0, i, eAt F S k0 (up F g k0)) :: legsK F S g p k0 (up F g k0) (tr F (rd F k0).1 (rd F g).1) := by
  have hr := (rd_ok T hg).1
  have o := rd_ok T hk
  unfold legsP
  rw [if_neg ne]
  congr 1
  by_cases m : k0 ∈ tr F (rd F k0).1 (rd F g).1
  · have e : up F g k0 = (rd F k0).2.1 := by unfold up; rw [if_pos m]
    have z := tr_head T hk hr (.inl ⟨rfl, rfl⟩) m
    have nd := (tr_of T o.1 hr).2
    rw [z] at nd
    rw [e, z, legsK_skip (.inl rfl), legsK_eq (List.nodup_cons.mp nd).1]
  · have e : up F g k0 = (rd F k0).1 := by unfold up; rw [if_neg m]
    rw [e, legsK_eq m]
/-- either way gives v -/
theorem ite_val {b : Bool} {σ : L2.St} {H : Hp} {ta tb : TE} {Q : VK} (v : V) (h1 : b = true → ∀ Q : VK, Q v H → ta σ H Q) (h2 : b = false → ∀ Q : VK, Q v H → tb σ H Q) (q : Q v H) : if b = true then ta σ H Q else tb σ H Q := by
  cases b with
  | true => exact iteT (h1 rfl Q q)
  | false => exact iteF (h2 rfl Q q)
theorem eAt_prog (F : List Fact) (S : Int) (k : Nat) (c : Int) : (if (rd F k).1 = c then 0 else (rd F k).2.2) * S = eAt F S k c := by
  unfold eAt
  split
  · rw [Int.zero_mul]
  · rfl
theorem eBy_prog (F : List Fact) (k : Nat) (c : Int) : (if (rd F k).1 = c then (rd F k).2.1 else (rd F k).1) = eBy F k c := rfl
theorem Kp.but {H H' : Hp} {d : Addr} {xs : List V} (e : H d = some (.lst xs)) (b : But d H H') : Kp H H' := fun c o h n => b c o h (fun z => by
  rw [z, e] at h
  exact n xs (Option.some.inj h).symm)
theorem nats_ints (l : List Nat) : (l.map fun k => V.int (k : Nat)) = (l.map fun k => ((k : Nat) : Int)).map V.int := by rw [List.map_map]; rfl
theorem mem_nats {l : List Nat} {k : Nat} : ((k : Nat) : Int) ∈ (l.map fun k => ((k : Nat) : Int)) ↔ k ∈ l := by
  rw [List.mem_map]
  exact ⟨fun ⟨j, h, e⟩ => by have : j = k := by omega
                             exact this ▸ h, fun h => ⟨k, h, rfl⟩⟩
def spLegs (K : PySem.W.Frag) (CT CR CP : Addr) : Sp := fun vs H Q _ => ∃ (a p1 p2 : Addr) (n : Int) (ps : List Addr) (F : List Fact) (r1 r2 : Fact) (S c1 c2 : Int), vs = [.ref a, .ref p1, .ref p2, .int S] ∧ TreeAt K CT CR H a n ps F ∧ PlaceAt CP H p1 r1 ∧ PlaceAt CP H p2 r2 ∧ TreeG n F ∧
  PlSm r1 ∧ PlSm r2 ∧ PlOn F r1 ∧ PlOn F r2 ∧ S = r1.2.2 * c1 ∧ S = r2.2.2 * c2 ∧ 0 < c1 ∧ 0 < c2 ∧ S < 2 ^ 60 ∧
  ∀ L H', Same H H' → H L = none → FactsAt H' L ((legsP F S r2.1.toNat (r2.2.1 * c2) r1.1.toNat (r1.2.1 * c1)).map legF) → (legsP F S r2.1.toNat (r2.2.1 * c2) r1.1.toNat (r1.2.1 * c1)).length ≤ 100 → Q (.ref L) H'
section
variable {P : Program} {w : World} {K : PySem.W.Frag} {mg : Str → Option Value} {base : Heap}
abbrev nLegs : List Str := ["tree", "one", "other", "parts", "start", "end", "first", "last", "trail", "here", "found", "number", "road", "there"]
theorem scLegs : FnScope nLegs ["tree", "one", "other", "parts"] (defScope sLegs) := ⟨rfl, rfl, rfl, by decide +kernel, rfl, by decide +kernel, by decide +kernel⟩
theorem ok_legs {f CT CR CP fE fB : Addr} {fd fdE fdB : FuncData} (F : Fun K "legs" "legs" sLegs f fd) (TT : TeT K mg CT) (TR : RdT K mg CR) (TP : PlT K mg CP)
    (FE : FnOk P w K mg base CX0 1 fE fdE ["road", "crossing"] (spEndAt CR)) (bE : Binds K fdE ["road", "crossing"] []) (mE : mg "end_at" = some (.ref fE)) (kE : PySem.W.keepIn K (.ref fE) = true)
    (FB : FnOk P w K mg base CX0 1 fB fdB ["road", "crossing"] (spEndBy CR)) (bB : Binds K fdB ["road", "crossing"] []) (mB : mg "end_beyond" = some (.ref fB)) (kB : PySem.W.keepIn K (.ref fB) = true) :
    FnOk P w K mg base CX0 2 f fd ["tree", "one", "other", "parts"] (spLegs K CT CR CP) := by
  refine F.ok scLegs (fun vs H Q E h => ?_) (fun cdv A outer s H vs Q E hr h => ?_)
  · obtain ⟨a, p1, p2, n, ps, F, r1, r2, S, c1, c2, rfl, _⟩ := h
    rfl
  · obtain ⟨a, p1, p2, n, ps, F, r1, r2, S, c1, c2, rfl, TA, PA1, PA2, G, sm1, sm2, on1, on2, eS1, eS2, c10, c20, S60, k⟩ := h
    have hu := hu_of hr
    refine ⟨_, pss_cons (ps_set (i := 4) scLegs.nd rfl (Or.inl rfl) (pe_op op_mul (pe_fld (pv 1) rfl) (pe_op op_fdivW (pv 3) (pe_fld (pv 1) rfl))))
      (pss_cons (ps_set (i := 5) scLegs.nd rfl (Or.inl rfl) (pe_op op_mul (pe_fld (pv 2) rfl) (pe_op op_fdivW (pv 3) (pe_fld (pv 2) rfl))))
      (pss_cons (ps_if (pt_cmpR op_eq (pe_fld (pv 1) rfl) (pe_fld (pv 2) rfl) (nomark _)) (pss_one (ps_ret (pe_lst (pa_cons (pe_tup (pa_cons (pe_fld (pv 1) rfl) (pa_cons (pv 4) (pa_cons (pv 5) pa_nil)))) pa_nil)))) pss_nil)
      (pss_cons (ps_set (i := 6) scLegs.nd rfl (Or.inl rfl) (pe_ix ix_tup (pe_fld (pv 0) rfl) (pe_fld (pv 1) rfl) (fun _ _ => rfl)))
      (pss_cons (ps_set (i := 7) scLegs.nd rfl (Or.inl rfl) (pe_ix ix_tup (pe_fld (pv 0) rfl) (pe_fld (pv 2) rfl) (fun _ _ => rfl)))
      (pss_cons (ps_set (i := 8) scLegs.nd rfl (Or.inl rfl) (pe_dget hu (pe_fld (pv 0) rfl) (pe_tup (pa_cons (pe_fld (pv 6) rfl) (pa_cons (pe_fld (pv 7) rfl) pa_nil))) (fun _ _ => rfl)))
      (pss_cons (ps_set (i := 9) scLegs.nd rfl (Or.inl rfl) (pe_ifExp (pt_cmpR op_in_seq (pe_fld (pv 1) rfl) (pv 8) (by rfl)) (pe_fld (pv 6) rfl) (pe_fld (pv 6) rfl)))
      (pss_cons (ps_set (i := 10) scLegs.nd rfl (Or.inl rfl) (pe_lst (pa_cons (pe_tup (pa_cons (pe_fld (pv 1) rfl) (pa_cons (pv 4) (pa_cons (pe_op op_mul (pe_call FE hr rfl mE kE bE .nil pass0 (pa_cons (pv 6) (pa_cons (pv 9) pa_nil))) (pv 3)) pa_nil)))) pa_nil)))
      (pss_cons (ps_for PassesOwn.never rfl (pi_tup (pv 8)) (pg_name (i := 11) scLegs.nd rfl (Or.inl rfl))
        (pss_one (ps_if (pt_cmpR op_notIn_seq (pv 11) (pe_tup (pa_cons (pe_fld (pv 1) rfl) (pa_cons (pe_fld (pv 2) rfl) pa_nil))) (by rfl))
          (pss_cons (ps_set (i := 12) scLegs.nd rfl (Or.inl rfl) (pe_ix ix_tup (pe_fld (pv 0) rfl) (pv 11) (fun _ _ => rfl)))
          (pss_cons (ps_set (i := 13) scLegs.nd rfl (Or.inl rfl) (pe_call FB hr rfl mB kB bB .nil pass0 (pa_cons (pv 12) (pa_cons (pv 9) pa_nil))))
          (pss_cons (ps_expr (pe_bm PySem.F.plainAttrs_list PySem.F.slot_list_append PySem.F.type_list_append mt_append (pv 10) (pa_cons (pe_tup (pa_cons (pv 11) (pa_cons (pe_op op_mul (pe_call FE hr rfl mE kE bE .nil pass0 (pa_cons (pv 12) (pa_cons (pv 9) pa_nil))) (pv 3))
              (pa_cons (pe_op op_mul (pe_call FE hr rfl mE kE bE .nil pass0 (pa_cons (pv 12) (pa_cons (pv 13) pa_nil))) (pv 3)) pa_nil)))) pa_nil)))
          (pss_one (ps_set (i := 9) scLegs.nd rfl (Or.inl rfl) (pv 13)))))) pss_nil)))
      (pss_cons (ps_expr (pe_bm PySem.F.plainAttrs_list PySem.F.slot_list_append PySem.F.type_list_append mt_append (pv 10) (pa_cons (pe_tup (pa_cons (pe_fld (pv 2) rfl) (pa_cons (pe_op op_mul (pe_call FE hr rfl mE kE bE .nil pass0 (pa_cons (pv 7) (pa_cons (pv 9) pa_nil))) (pv 3)) (pa_cons (pv 5) pa_nil)))) pa_nil)))
      (pss_one (ps_ret (pv 10)))))))))))), ?_⟩
    have TA' := TA
    obtain ⟨dx, t, d, kvs, ea, et, rds, trs⟩ := TA
    obtain ⟨dp1, ep1⟩ := id PA1
    obtain ⟨dp2, ep2⟩ := id PA2
    obtain ⟨⟨a0, a1⟩, a2, a3⟩ := on1
    obtain ⟨⟨b0, b1⟩, b2, b3⟩ := on2
    have lk : r1.1.toNat < F.length := by omega
    have lg : r2.1.toNat < F.length := by omega
    have e1 : r1.1 = ((r1.1.toNat : Nat) : Int) := by omega
    have e2 : r2.1 = ((r2.1.toNat : Nat) : Int) := by omega
    have s1 : S / r1.2.2 = c1 := by rw [eS1]; exact Int.mul_ediv_cancel_left _ (by have := sm1.1; omega)
    have s2 : S / r2.2.2 = c2 := by rw [eS2]; exact Int.mul_ediv_cancel_left _ (by have := sm2.1; omega)
    have lg9 : ∀ {x : Int}, 1 ≤ x → x < 2 ^ 60 → x.natAbs.log2 < 9000 := fun {x} h1 h2 => lg60 h1 h2
    have S1 : 1 ≤ S := by
      rw [eS1]
      have := Int.mul_le_mul sm1.1 (show 1 ≤ c1 by omega) (by omega) (by have := sm1.1; omega)
      omega
    have cS : ∀ {r c : Int}, 1 ≤ r → 0 < c → S = r * c → c < 2 ^ 64 := fun {r c} h1 h2 h3 => by
      have := Int.mul_le_mul h1 (Int.le_refl c) (by omega) (by omega)
      omega
    have cc1 := cS sm1.1 c10 eS1
    have cc2 := cS sm2.1 c20 eS2
    have three : ∀ {u v x : V}, [u, v, x].length ≤ sizeLine := fun {u v x} => (by show 3 ≤ sizeLine; decide)
    -- start, end
    refine ⟨_, rfl, p1, CP, dp1, _, _, rfl, ep1, TP.cl, TP.nN, plF_n r1, _, rfl, _, rfl, p1, CP, dp1, _, _, rfl, ep1, TP.cl, TP.nP, plF_p r1, _, _, rfl, rfl, ⟨by have := sm1.1; omega, lg9 sm1.1 sm1.2⟩, _, _, rfl, rfl, .inr (by rw [s1]; exact ⟨by omega, by omega⟩), ?_⟩
    refine ⟨_, rfl, p2, CP, dp2, _, _, rfl, ep2, TP.cl, TP.nN, plF_n r2, _, rfl, _, rfl, p2, CP, dp2, _, _, rfl, ep2, TP.cl, TP.nP, plF_p r2, _, _, rfl, rfl, ⟨by have := sm2.1; omega, lg9 sm2.1 sm2.2⟩, _, _, rfl, rfl, .inr (by rw [s2]; exact ⟨by omega, by omega⟩), ?_⟩
    rw [s1, s2]
    -- if one.road == other.road
    refine ⟨_, rfl, p1, CP, dp1, _, _, rfl, ep1, TP.cl, TP.nR, plF_r r1, _, rfl, p2, CP, dp2, _, _, rfl, ep2, TP.cl, TP.nR, plF_r r2, rfl, _, rfl, ?_⟩
    by_cases same : r1.1 = r2.1
    · refine iteV same ⟨_, rfl, p1, CP, dp1, _, _, rfl, ep1, TP.cl, TP.nR, plF_r r1, _, rfl, _, rfl, three, fun tt htt => ⟨(by show 1 ≤ sizeLine; decide), fun L hL => ?_⟩⟩
      have s3 : Same H (upd (upd H tt (.tup [.int r1.1, .int (r1.2.1 * c1), .int (r2.2.1 * c2)])) L (.lst [.ref tt])) := Same.trans (Same.new htt) (Same.new hL)
      have el : legsP F S r2.1.toNat (r2.2.1 * c2) r1.1.toNat (r1.2.1 * c1) = [(r2.1.toNat, r1.2.1 * c1, r2.2.1 * c2)] := by
        unfold legsP
        rw [if_pos (by rw [same])]
      refine k L _ s3 ((Same.new htt).free hL) ?_ (by rw [el]; show 1 ≤ 100; decide)
      rw [el]
      refine ⟨[tt], upd_same, .cons ?_ .nil⟩
      show _ = some (HO.tup [.int ((r2.1.toNat : Nat) : Int), .int (r1.2.1 * c1), .int (r2.2.1 * c2)])
      rw [← e2, ← same]
      exact Same.new hL _ _ upd_same
    · refine iteN same ?_
      obtain ⟨q1, eq1, dq1, rq1⟩ := rds.at_ lk
      obtain ⟨q2, eq2, dq2, rq2⟩ := rds.at_ lg
      obtain ⟨o1, o2, _, _⟩ := rd_ok G.m lk
      obtain ⟨o3, o4, _, _⟩ := rd_ok G.m lg
      have l23 : F.length ≤ 23 := by have := G.len; have := G.n24; omega
      have kne : r1.1.toNat ≠ r2.1.toNat := fun z => same (by omega)
      refine ⟨_, rfl, a, CT, dx, _, _, rfl, ea, TT.cl, TT.nR, teF_r n t d, _, rfl, p1, CP, dp1, _, _, rfl, ep1, TP.cl, TP.nR, plF_r r1, t, _, _, _, rfl, rfl, et, at_of e1 eq1, ?_⟩
      refine ⟨_, rfl, a, CT, dx, _, _, rfl, ea, TT.cl, TT.nR, teF_r n t d, _, rfl, p2, CP, dp2, _, _, rfl, ep2, TP.cl, TP.nR, plF_r r2, t, _, _, _, rfl, rfl, et, at_of e2 eq2, ?_⟩
      -- trail = tree.trails[first.a, last.a]
      obtain ⟨v, hv⟩ := hasK_some ((trs.has (rd F r1.1.toNat).1 (rd F r2.1.toNat).1).mpr ⟨o1, o3, G.m.con _ _ o1 o3⟩)
      obtain ⟨pt, l, rfl, hpt, wl, nl⟩ := trs.val _ _ _ hv
      have el := tr_eq G.m wl nl
      refine ⟨_, rfl, a, CT, dx, _, _, rfl, ea, TT.cl, TT.nT, teF_t n t d, _, rfl, q1, CR, dq1, _, _, rfl, rq1, TR.cl, TR.nA, rdF_a _, _, rfl, q2, CR, dq2, _, _, rfl, rq2, TR.cl, TR.nA, rdF_a _, (by show 2 ≤ sizeLine; decide), fun tk htk => ?_⟩
      have s3 : Same H (upd H tk (.tup [.int (rd F r1.1.toNat).1, .int (rd F r2.1.toNat).1])) := Same.new htk
      refine ⟨d, _, rfl, by rw [← hv]; exact DGet.t (k := key2 _ _) (s3 _ _ trs.dc) upd_same, ?_⟩
      -- here = first.b if one.road in trail else first.a
      have hpt3 := sqT_same hpt s3
      have up1 : ∀ R : Prop, (∀ b : Bool, (b = true ↔ r1.1.toNat ∈ l) → R) → R := fun R z => z (decide (r1.1.toNat ∈ l)) decide_eq_true_iff
      have inb : inV (.int r1.1) (l.map fun k => V.int (k : Nat)) = decide (r1.1.toNat ∈ l) := by
        rw [nats_ints, inV_int, decide_eq_decide, e1, Int.toNat_natCast]
        exact mem_nats
      refine ⟨_, rfl, p1, CP, dp1, _, _, rfl, s3 _ _ ep1, TP.cl, TP.nR, plF_r r1, _, rfl, pt, _, rfl, .inr hpt3, rfl, by rw [nats_ints]; exact flat_ints _, _, rfl, ?_⟩
      show if inV (.int r1.1) (l.map fun k => V.int (k : Nat)) = true then _ else _
      rw [inb]
      have S64 : -(2 ^ 64 : Int) < S ∧ S < 2 ^ 64 := ⟨by omega, by omega⟩
      refine ite_val (.int (up F r2.1.toNat r1.1.toNat)) (fun hb Q q => ⟨_, rfl, q1, CR, dq1, _, _, rfl, s3 _ _ rq1, TR.cl, TR.nB, rdF_b _, ?_⟩) (fun hb Q q => ⟨_, rfl, q1, CR, dq1, _, _, rfl, s3 _ _ rq1, TR.cl, TR.nA, rdF_a _, ?_⟩) ?_
      · have e : up F r2.1.toNat r1.1.toNat = (rd F r1.1.toNat).2.1 := by
          unfold up
          rw [el, if_pos (of_decide_eq_true hb)]
        rw [e] at q
        exact q
      · have e : up F r2.1.toNat r1.1.toNat = (rd F r1.1.toNat).1 := by
          unfold up
          rw [el, if_neg (of_decide_eq_false hb)]
        rw [e] at q
        exact q
      -- found = [(one.road, start, end_at(first, here) * parts)]
      refine ⟨_, rfl, p1, CP, dp1, _, _, rfl, s3 _ _ ep1, TP.cl, TP.nR, plF_r r1, _, rfl, _, rfl, _, rfl, q1, rd F r1.1.toNat, up F r2.1.toNat r1.1.toNat, rfl, ⟨dq1, s3 _ _ rq1⟩, _, rfl, _, _, rfl, rfl, .inr S64, three, fun t0 ht0 => ⟨(by show 1 ≤ sizeLine; decide), fun L hL => ?_⟩⟩
      have e0 : ∀ x : Int, ([V.int r1.1, V.int (r1.2.1 * c1), V.int ((if (rd F r1.1.toNat).1 = x then 0 else (rd F r1.1.toNat).2.2) * S)] : List V) = [V.int (legF (r1.1.toNat, r1.2.1 * c1, eAt F S r1.1.toNat x)).1, V.int (legF (r1.1.toNat, r1.2.1 * c1, eAt F S r1.1.toNat x)).2.1, V.int (legF (r1.1.toNat, r1.2.1 * c1, eAt F S r1.1.toNat x)).2.2] := fun x => by
        rw [eAt_prog, e1]
        rfl
      have s4 : Same H (upd (upd (upd H tk (.tup [.int (rd F r1.1.toNat).1, .int (rd F r2.1.toNat).1])) t0 (.tup [V.int r1.1, V.int (r1.2.1 * c1), V.int ((if (rd F r1.1.toNat).1 = up F r2.1.toNat r1.1.toNat then 0 else (rd F r1.1.toNat).2.2) * S)])) L (.lst [.ref t0])) := s3.trans (Same.trans (Same.new ht0) (Same.new hL))
      have eL : upd (upd (upd H tk (.tup [.int (rd F r1.1.toNat).1, .int (rd F r2.1.toNat).1])) t0 (.tup [V.int r1.1, V.int (r1.2.1 * c1), V.int ((if (rd F r1.1.toNat).1 = up F r2.1.toNat r1.1.toNat then 0 else (rd F r1.1.toNat).2.2) * S)])) L (.lst [.ref t0]) L = some (.lst [.ref t0]) := upd_same
      have et0 : TupAt (upd (upd (upd H tk (.tup [.int (rd F r1.1.toNat).1, .int (rd F r2.1.toNat).1])) t0 (.tup [V.int r1.1, V.int (r1.2.1 * c1), V.int ((if (rd F r1.1.toNat).1 = up F r2.1.toNat r1.1.toNat then 0 else (rd F r1.1.toNat).2.2) * S)])) L (.lst [.ref t0])) t0 (legF (r1.1.toNat, r1.2.1 * c1, eAt F S r1.1.toNat (up F r2.1.toNat r1.1.toNat))) := by
        have z := Same.new (o := .lst [.ref t0]) hL t0 _ upd_same
        rw [e0] at z
        rw [e0]
        exact z
      have hLH : H L = none := (s3.trans (Same.new (o := .tup [V.int r1.1, V.int (r1.2.1 * c1), V.int ((if (rd F r1.1.toNat).1 = up F r2.1.toNat r1.1.toNat then 0 else (rd F r1.1.toNat).2.2) * S)]) ht0)).free hL
      generalize upd (upd (upd H tk (.tup [.int (rd F r1.1.toNat).1, .int (rd F r2.1.toNat).1])) t0 (.tup [V.int r1.1, V.int (r1.2.1 * c1), V.int ((if (rd F r1.1.toNat).1 = up F r2.1.toNat r1.1.toNat then 0 else (rd F r1.1.toNat).2.2) * S)])) L (.lst [.ref t0]) = G4 at s4 eL et0 ⊢
      have hpt4 := sqT_same hpt s4
      have ll : l.length ≤ 23 := Nat.le_trans (wl.short nl) l23
      have lP := legsP_K (S := S) (p := r2.2.1 * c2) G.m lg lk kne (r1.2.1 * c1)
      rw [el] at lP
      generalize hfin : legsP F S r2.1.toNat (r2.2.1 * c2) r1.1.toNat (r1.2.1 * c1) = fin at lP k
      -- for number in trail
      refine ⟨_, rfl, pt, rfl, ⟨_, hpt4⟩, for_tup (K := K) (a := pt) (xs := l.map fun k => V.int (k : Nat)) (fun j σ G' => ∃ (c : Int) (v11 v12 v13 : Option V) (ts : List Addr) (fs : List Leg), σ = [some (.ref a), some (.ref p1), some (.ref p2), some (.int S), some (.int (r1.2.1 * c1)), some (.int (r2.2.1 * c2)), some (.ref q1), some (.ref q2), some (.ref pt), some (.int c), some (.ref L), v11, v12, v13] ∧
          But L G4 G' ∧ G' L = some (.lst (ts.map V.ref)) ∧ Paired (TupAt G') ts (fs.map legF) ∧ fin = fs ++ legsK F S r2.1.toNat (r2.2.1 * c2) r1.1.toNat c (l.drop j) ∧ fs.length ≤ j + 1)
        ⟨up F r2.1.toNat r1.1.toNat, none, none, none, [t0], [(r1.1.toNat, r1.2.1 * c1, eAt F S r1.1.toNat (up F r2.1.toNat r1.1.toNat))], rfl, But.refl, eL, .cons et0 .nil, lP, Nat.le_refl _⟩ (fun j σ G' _ ⟨_, _, _, _, _, _, _, b', _⟩ => sqT_kp hpt4 (Kp.but eL b')) ?_ ?_⟩
      · rintro j y σ G' hj ⟨c, v11, v12, v13, ts, fs, rfl, b', gL, gts, ef, fl⟩
        obtain ⟨kj, hkj, rfl⟩ := map_get hj
        have kp' := Kp.but eL b'
        have lkj : kj < F.length := wl.lt (List.mem_of_getElem? hkj)
        have ea' := kp' _ _ (s4 _ _ ea) (fun _ z => nomatch z)
        have ep1' := kp' _ _ (s4 _ _ ep1) (fun _ z => nomatch z)
        have ep2' := kp' _ _ (s4 _ _ ep2) (fun _ z => nomatch z)
        have tl : ts.length ≤ 100 := by
          have := Paired.length gts
          rw [List.length_map] at this
          have := (List.getElem?_eq_some_iff.mp hkj).1
          omega
        rw [drop_get hkj] at ef
        refine ⟨_, rfl, _, rfl, p1, CP, dp1, _, _, rfl, ep1', TP.cl, TP.nR, plF_r r1, _, rfl, p2, CP, dp2, _, _, rfl, ep2', TP.cl, TP.nR, plF_r r2, (by show 2 ≤ sizeLine; decide), fun t3 ht3 => ⟨t3, _, rfl, .inr (SqT.of upd_same), rfl, rfl, ?_⟩⟩
        have s5 : Same G' (upd G' t3 (.tup [.int r1.1, .int r2.1])) := Same.new ht3
        have eb : (if true = true then !inV (V.int (kj : Nat)) [V.int r1.1, V.int r2.1] else inV (V.int (kj : Nat)) [V.int r1.1, V.int r2.1]) = !decide (kj = r1.1.toNat ∨ kj = r2.1.toNat) := by
          rw [if_pos rfl, show ([V.int r1.1, V.int r2.1] : List V) = [r1.1, r2.1].map V.int from rfl, inV_int]
          congr 1
          rw [decide_eq_decide]
          simp only [List.mem_cons, List.not_mem_nil, or_false]
          omega
        refine ⟨_, rfl, ?_⟩
        show if (if true = true then !inV (V.int (kj : Nat)) [V.int r1.1, V.int r2.1] else inV (V.int (kj : Nat)) [V.int r1.1, V.int r2.1]) = true then _ else _
        rw [eb]
        have b5 : But L G4 (upd G' t3 (.tup [.int r1.1, .int r2.1])) := fun b o e n => s5 b o (b' b o e n)
        by_cases sk : kj = r1.1.toNat ∨ kj = r2.1.toNat
        · rw [decide_eq_true sk]
          rw [legsK_skip sk] at ef
          exact iteF ⟨c, _, _, _, ts, fs, rfl, b5, s5 _ _ gL, tups_same gts s5, ef, by omega⟩
        · rw [decide_eq_false sk]
          rw [legsK_go sk] at ef
          obtain ⟨qj, eqj, rqj⟩ := rds.at_ lkj
          have rq5 := ((rqj.same s4).kp kp').same s5
          have ea5 := s5 _ _ ea'
          have gL5 := s5 _ _ gL
          refine iteT ⟨_, rfl, a, CT, dx, _, _, rfl, ea5, TT.cl, TT.nR, teF_r n t d, _, rfl, t, _, _, _, rfl, rfl, sqT_same (sqT_kp (sqT_same et s4) kp') s5, atI_nat eqj, ?_⟩
          refine ⟨_, rfl, _, rfl, qj, rd F kj, c, rfl, rq5, ?_⟩
          rw [eBy_prog]
          refine ⟨_, rfl, .inl ⟨rfl, _, SqL.of gL5⟩, _, rfl, _, rfl, _, rfl, qj, rd F kj, c, rfl, rq5, _, rfl, _, _, rfl, rfl, .inr S64, _, rfl, _, rfl, qj, rd F kj, eBy F kj c, rfl, rq5, _, rfl, _, _, rfl, rfl, .inr S64, three, fun t4 ht4 => ?_⟩
          have s6 := Same.new (o := .tup [V.int ((kj : Nat) : Int), V.int ((if (rd F kj).1 = c then 0 else (rd F kj).2.2) * S), V.int ((if (rd F kj).1 = eBy F kj c then 0 else (rd F kj).2.2) * S)]) ht4
          refine ⟨L, _, _, rfl, rfl, s6 _ _ gL5, small1000 (by rw [List.length_map]; omega), ?_⟩
          have n4 : t4 ≠ L := (ne_of_none gL5 ht4).symm
          refine ⟨_, rfl, eBy F kj c, _, _, _, ts ++ [t4], fs ++ [(kj, eAt F S kj c, eAt F S kj (eBy F kj c))], rfl, fun b o e n => ?_, by rw [List.map_append]; exact upd_same, ?_, by rw [ef, List.append_assoc]; rfl, by rw [List.length_append]; show _ + 1 ≤ _; omega⟩
          · rw [upd_ne n]
            exact s6 b o (b5 b o e n)
          · rw [List.map_append]
            refine paired_snoc (tups_put (tups_same (tups_same gts s5) s6) (s6 _ _ gL5)) ?_
            show upd _ L _ t4 = some (HO.tup [V.int ((kj : Nat) : Int), V.int (eAt F S kj c), V.int (eAt F S kj (eBy F kj c))])
            rw [upd_ne n4, ← eAt_prog F S kj c, ← eAt_prog F S kj (eBy F kj c)]
            exact upd_same
      · rintro σ G' ⟨c, v11, v12, v13, ts, fs, rfl, b', gL, gts, ef, fl⟩
        have elen : (l.map fun k => V.int (k : Nat)).length = l.length := List.length_map ..
        rw [elen] at ef fl
        rw [List.drop_length] at ef
        have kp' := Kp.but eL b'
        have ep2' := kp' _ _ (s4 _ _ ep2) (fun _ z => nomatch z)
        have rq2' : RoadAt CR G' q2 (rd F r2.1.toNat) := (RoadAt.same ⟨dq2, rq2⟩ s4).kp kp'
        have tl : ts.length ≤ 100 := by
          have := Paired.length gts
          rw [List.length_map] at this
          omega
        -- found.append((other.road, end_at(last, here) * parts, end))
        refine ⟨_, rfl, .inl ⟨rfl, _, SqL.of gL⟩, _, rfl, p2, CP, dp2, _, _, rfl, ep2', TP.cl, TP.nR, plF_r r2, _, rfl, _, rfl, q2, rd F r2.1.toNat, c, rfl, rq2', _, rfl, _, _, rfl, rfl, .inr S64, _, rfl, three, fun t4 ht4 => ?_⟩
        have s6 := Same.new (o := .tup [V.int r2.1, V.int ((if (rd F r2.1.toNat).1 = c then 0 else (rd F r2.1.toNat).2.2) * S), V.int (r2.2.1 * c2)]) ht4
        refine ⟨L, _, _, rfl, rfl, s6 _ _ gL, small1000 (by rw [List.length_map]; omega), ?_⟩
        have n4 : t4 ≠ L := (ne_of_none gL ht4).symm
        refine ⟨_, rfl, k L _ (fun b o e => ?_) hLH ⟨ts ++ [t4], by rw [List.map_append]; exact upd_same, ?_⟩ (by rw [ef, List.length_append]; show _ + 1 ≤ _; omega)⟩
        · have nb : b ≠ L := ne_of_none e hLH
          rw [upd_ne nb]
          exact s6 b o (b' b o (s4 b o e) nb)
        · rw [ef, List.map_append]
          refine paired_snoc (tups_put (tups_same gts s6) (s6 _ _ gL)) ?_
          show upd _ L _ t4 = some (HO.tup [V.int ((r2.1.toNat : Nat) : Int), V.int (eAt F S r2.1.toNat c), V.int (r2.2.1 * c2)])
          rw [upd_ne n4, ← eAt_prog F S r2.1.toNat c, ← e2]
          exact upd_same
end
end OT

set_option Elab.async false
set_option linter.all false
set_option maxRecDepth 100000
set_option maxHeartbeats 4000000
namespace OT
open PySem L2 OTR
abbrev sStep : Stmt := top 29
/-- what is raised for a place that the tree does not have -/
def PlErr (CNR COR : Addr) (F : List Fact) (r : Fact) (H : Hp) (E : XK) : Prop := (¬ (0 ≤ r.1 ∧ r.1 < (F.length : Int)) → Raised CNR [("road", .int r.1)] H E) ∧ ((0 ≤ r.1 ∧ r.1 < (F.length : Int)) → ¬ (0 ≤ r.2.1 ∧ r.2.1 ≤ (rd F r.1.toNat).2.2 * r.2.2) → Raised COR [("road", .int r.1)] H E)
theorem PlErr.none {CNR COR : Addr} {F : List Fact} {r : Fact} {H : Hp} {E : XK} (h : PlOn F r) : PlErr CNR COR F r H E := ⟨fun z => absurd h.1 z, fun _ z => absurd h.2 z⟩
def lcmI (a b : Int) : Int := ((Nat.lcm a.natAbs b.natAbs : Nat) : Int)
theorem lcm_of {a b : Int} (ha : 1 ≤ a) (hb : 1 ≤ b) : ∃ c1 c2, lcmI a b = a * c1 ∧ lcmI a b = b * c2 ∧ 0 < c1 ∧ 0 < c2 ∧ lcmI a b ≤ a * b ∧ lcmI a b / a = c1 ∧ lcmI a b / b = c2 := by
  obtain ⟨m, rfl⟩ := Int.eq_ofNat_of_zero_le (show 0 ≤ a by omega)
  obtain ⟨k, rfl⟩ := Int.eq_ofNat_of_zero_le (show 0 ≤ b by omega)
  obtain ⟨c1, e1⟩ := Nat.dvd_lcm_left m k
  obtain ⟨c2, e2⟩ := Nat.dvd_lcm_right m k
  have pos := Nat.lcm_pos (show 0 < m by omega) (show 0 < k by omega)
  have p1 : 0 < c1 := Nat.pos_of_ne_zero fun z => by rw [z, Nat.mul_zero] at e1; omega
  have p2 : 0 < c2 := Nat.pos_of_ne_zero fun z => by rw [z, Nat.mul_zero] at e2; omega
  have le := Nat.le_of_dvd (Nat.mul_pos (show 0 < m by omega) (show 0 < k by omega)) (Nat.lcm_dvd (Nat.dvd_mul_right m k) (Nat.dvd_mul_left k m))
  have q1 : lcmI (m : Int) (k : Int) = (m : Int) * (c1 : Int) := by
    unfold lcmI
    show ((Nat.lcm m k : Nat) : Int) = _
    rw [e1, Int.natCast_mul]
  have q2 : lcmI (m : Int) (k : Int) = (k : Int) * (c2 : Int) := by
    unfold lcmI
    show ((Nat.lcm m k : Nat) : Int) = _
    rw [e2, Int.natCast_mul]
  refine ⟨c1, c2, q1, q2, by omega, by omega, ?_, ?_, ?_⟩
  · unfold lcmI
    show ((Nat.lcm m k : Nat) : Int) ≤ _
    rw [← Int.natCast_mul]
    omega
  · rw [q1]
    exact Int.mul_ediv_cancel_left _ (by omega)
  · rw [q2]
    exact Int.mul_ediv_cancel_left _ (by omega)
theorem total_sum : ∀ L : List Leg, total L = (L.map fun l => dst l.2.1 l.2.2).sum
  | [] => rfl
  | (k, s, e) :: L => by
    rw [List.map_cons, List.sum_cons, ← total_sum L]
    rfl
/-- from one place to another: the parts to the step, how far, which way -/
noncomputable def hRR (F : List Fact) (S : Int) (r1 r2 : Fact) : Int := hP F S r2.1.toNat (r2.2.1 * (S / r2.2.2)) r1.1.toNat (r1.2.1 * (S / r1.2.2))
noncomputable def legsRR (F : List Fact) (S : Int) (r1 r2 : Fact) : List Leg := legsP F S r2.1.toNat (r2.2.1 * (S / r2.2.2)) r1.1.toNat (r1.2.1 * (S / r1.2.2))
theorem hRR_total (F : List Fact) (S : Int) (r1 r2 : Fact) : total (legsRR F S r1 r2) = hRR F S r1 r2 := rfl
def spDist (K : PySem.W.Frag) (CT CR CP CNR COR : Addr) : Sp := fun vs H Q E => ∃ (a p1 p2 : Addr) (n : Int) (ps : List Addr) (F : List Fact) (r1 r2 : Fact), vs = [.ref a, .ref p1, .ref p2] ∧ TreeAt K CT CR H a n ps F ∧ PlaceAt CP H p1 r1 ∧ PlaceAt CP H p2 r2 ∧ TreeG n F ∧
  PlSm r1 ∧ PlSm r2 ∧ r1.2.2 * r2.2.2 < 2 ^ 60 ∧ PlErr CNR COR F r1 H E ∧ (PlOn F r1 → PlErr CNR COR F r2 H E) ∧
  (PlOn F r1 → PlOn F r2 → ∀ t H', Same H H' → H' t = some (.tup [.int (low (0, hRR F (lcmI r1.2.2 r2.2.2) r1 r2, lcmI r1.2.2 r2.2.2)).2.1, .int (low (0, hRR F (lcmI r1.2.2 r2.2.2) r1 r2, lcmI r1.2.2 r2.2.2)).2.2]) → Q (.ref t) H')
section
variable {P : Program} {w : World} {K : PySem.W.Frag} {mg : Str → Option Value} {base : Heap}
end
end OT

set_option Elab.async false
set_option linter.all false
set_option maxRecDepth 100000
set_option maxHeartbeats 4000000
namespace OT
open PySem L2 OTR
/-- where one is after t parts of a step, or at the goal -/
noncomputable def walkN (F : List Fact) (S : Int) (r1 r2 : Fact) (t : Int) : Nd :=
  if t ≤ hRR F S r1 r2 then node F S (posL (legsRR F S r1 r2) t).1 (posL (legsRR F S r1 r2) t).2 else node F S r2.1.toNat (r2.2.1 * (S / r2.2.2))
/-- a place's own key, at any finer division -/
theorem key_at {F : List Fact} {S c : Int} {k : Nat} {i : Int} (hc : 0 < c) : keyF F (S * c) (node F (S * c) k (i * c)) = keyF F S (node F S k i) := keyF_node_mul hc F S k i
def spStep (K : PySem.W.Frag) (CT CR CP CB CNR COR : Addr) : Sp := fun vs H Q E => ∃ (a p1 p2 : Addr) (n : Int) (ps : List Addr) (F : List Fact) (r1 r2 : Fact) (m : Int), vs = [.ref a, .ref p1, .ref p2, .int m] ∧ TreeAt K CT CR H a n ps F ∧ PlaceAt CP H p1 r1 ∧ PlaceAt CP H p2 r2 ∧ TreeG n F ∧
  PlSm r1 ∧ PlSm r2 ∧ low r2 = r2 ∧ r1.2.2 * r2.2.2 < 2 ^ 60 ∧ PlErr CNR COR F r1 H E ∧ (PlOn F r1 → PlErr CNR COR F r2 H E) ∧ (PlOn F r1 → PlOn F r2 → m < 0 → Raised CB [("count", .int m), ("what", .str "steps")] H E) ∧
  (PlOn F r1 → PlOn F r2 → 0 ≤ m → ∀ p' H', Same H H' → PlaceAt CP H' p' (keyF F (lcmI r1.2.2 r2.2.2) (walkN F (lcmI r1.2.2 r2.2.2) r1 r2 (m * lcmI r1.2.2 r2.2.2))) → Q (.ref p') H')
/-- an on-road place in lowest terms lies on the tree -/
theorem on_low {F : List Fact} {S : Int} {k : Nat} {i : Int} (hS : 1 ≤ S) (h : On F S k i) : PlOn F (low ((k : Nat), i, S)) ∧ (low ((k : Nat), i, S)).1.toNat = k ∧ keyF F (low ((k : Nat), i, S)).2.2 (node F (low ((k : Nat), i, S)).2.2 k (low ((k : Nat), i, S)).2.1) = keyF F S (node F S k i) := by
  obtain ⟨c, hc, e1, e2⟩ := low_back (r := (((k : Nat) : Int), i, S)) hS
  have e1' : i = (low (((k : Nat) : Int), i, S)).2.1 * c := e1
  have e2' : S = (low (((k : Nat) : Int), i, S)).2.2 * c := e2
  obtain ⟨h1, h2, h3⟩ := h
  have ek : (low (((k : Nat) : Int), i, S)).1 = (k : Int) := rfl
  refine ⟨⟨⟨by rw [ek]; omega, by rw [ek]; omega⟩, ?_, ?_⟩, by rw [ek]; omega, ?_⟩
  · rw [e1'] at h2
    exact Int.le_of_mul_le_mul_right (by rw [Int.zero_mul]; exact h2) hc
  · rw [ek, Int.toNat_natCast]
    unfold sz at h3
    refine Int.le_of_mul_le_mul_right ?_ hc
    rw [← e1', Int.mul_assoc, ← e2']
    exact h3
  · generalize hr : low (((k : Nat) : Int), i, S) = r at *
    rw [e2', e1', keyF_node_mul hc]
section
variable {P : Program} {w : World} {K : PySem.W.Frag} {mg : Str → Option Value} {base : Heap}
abbrev nStep : List Str := ["tree", "place", "goal", "steps", "parts", "left", "number", "start", "end", "size", "at"]
theorem scStep : FnScope nStep ["tree", "place", "goal", "steps"] (defScope sStep) := ⟨rfl, rfl, rfl, by decide +kernel, rfl, by decide +kernel, by decide +kernel⟩
theorem ok_step {f CT CR CP CB CNR COR fC fL fK fP fB : Addr} {fd fdC fdL fdK fdP fdB : FuncData} (F : Fun K "step" "step" sStep f fd) (TP : PlT K mg CP) (TB : ErT K mg "BadCount" CB fB)
    (FB : FnOk P w K mg base CX0 1 fB fdB ["self", "what", "count"] (spEr2 CB "what" "count")) (bB : Binds K fdB ["self", "what", "count"] [])
    (FC : FnOk P w K mg base (L2.CX P w) 3 fC fdC ["tree", "place"] (spCheckPl K CT CR CP CNR COR)) (bC : Binds K fdC ["tree", "place"] []) (mC : mg "check_place" = some (.ref fC)) (kC : PySem.W.keepIn K (.ref fC) = true)
    (FL : FnOk P w K mg base CX0 2 fL fdL ["tree", "one", "other", "parts"] (spLegs K CT CR CP)) (bL : Binds K fdL ["tree", "one", "other", "parts"] []) (mL : mg "legs" = some (.ref fL)) (kL : PySem.W.keepIn K (.ref fL) = true)
    (FK : FnOk P w K mg base (L2.CX P w) 6 fK fdK ["tree", "place"] (spKey K CT CR CP CNR COR)) (bK : Binds K fdK ["tree", "place"] []) (mK : mg "key" = some (.ref fK)) (kK : PySem.W.keepIn K (.ref fK) = true)
    (MP : Mk K CP fP) (FP : FnOk P w K mg base (L2.CX P w) 3 fP fdP ["self", "road", "number", "parts"] (spPlaceI CP CB)) (bP : Binds K fdP ["self", "road", "number", "parts"] [])
    (hLcm : mg "lcm" = some (.builtin "math.lcm")) (hAbs : mg "abs" = none) :
    FnOk P w K mg base (L2.CX P w) 7 f fd ["tree", "place", "goal", "steps"] (spStep K CT CR CP CB CNR COR) := by
  refine F.okX scStep (fun vs H Q E h => ?_) (fun cdv A outer s H vs Q E hr h => ?_)
  · obtain ⟨a, p1, p2, n, ps, F, r1, r2, m, rfl, _⟩ := h
    rfl
  · obtain ⟨a, p1, p2, n, ps, F, r1, r2, m, rfl, TA, PA1, PA2, G, sm1, sm2, lo2, s60, x1, x2, x3, k⟩ := h
    have hr2 : Room 2 _ := hr.mono (by decide)
    have hr3 : Room 3 _ := hr.mono (by decide)
    have hr4 : Room 4 _ := hr.mono (by decide)
    refine ⟨_, pss_cons (ps_expr (pe_call FC hr3 rfl mC kC bC .nil (passes_call (takes_of rfl rfl rfl rfl) fun _ _ _ _ h => h) (pa_cons (pv 0) (pa_cons (pv 1) pa_nil))))
      (pss_cons (ps_expr (pe_call FC hr3 rfl mC kC bC .nil (passes_call (takes_of rfl rfl rfl rfl) fun _ _ _ _ h => h) (pa_cons (pv 0) (pa_cons (pv 2) pa_nil))))
      (pss_cons (ps_if (pt_cmpR op_lt (pv 3) pe_int (nomark _)) (pss_one (ps_raise rfl (takes_of rfl rfl rfl rfl) (pmk_oex TB.ox TB.iC TB.tI FB hr2 bB .nil pass0 (by rfl) TB.gC (pa_cons pe_str (pa_cons (pv 3) pa_nil))))) pss_nil)
      (pss_cons (ps_set (i := 4) scStep.nd rfl (Or.inl rfl) (pe_callBfun cr_lcm (by rfl) hLcm (pa_cons (pe_fld (pv 1) rfl) (pa_cons (pe_fld (pv 2) rfl) pa_nil))))
      (pss_cons (ps_set (i := 5) scStep.nd rfl (Or.inl rfl) (pe_op op_mul (pv 3) (pv 4)))
      (pss_cons (ps_for (passes_of rfl) rfl (pi_list (pe_call FL hr2 rfl mL kL bL .nil pass0 (pa_cons (pv 0) (pa_cons (pv 1) (pa_cons (pv 2) (pa_cons (pv 4) pa_nil)))))) (pg_tup rfl (pgs_cons (pg_name (i := 6) scStep.nd rfl (Or.inl rfl)) (pgs_cons (pg_name (i := 7) scStep.nd rfl (Or.inl rfl)) (pgs_cons (pg_name (i := 8) scStep.nd rfl (Or.inl rfl)) pgs_nil))))
        (pss_cons (ps_set (i := 9) scStep.nd rfl (Or.inl rfl) (pe_callB call_abs (by rfl) hAbs (by decide +kernel) (pa_cons (pe_op op_sub (pv 8) (pv 7)) pa_nil)))
        (pss_cons (ps_if (pt_cmpR op_le (pv 5) (pv 9) (nomark _))
            (pss_cons (ps_set (i := 10) scStep.nd rfl (Or.inl rfl) (pe_ifExp (pt_cmpR op_lt (pv 7) (pv 8) (nomark _)) (pe_op op_add (pv 7) (pv 5)) (pe_op op_sub (pv 7) (pv 5))))
            (pss_one (ps_ret (pe_call FK hr rfl mK kK bK .nil passF (pa_cons (pv 0) (pa_cons (pe_make MP FP hr4 (by rfl) TP.mgC bP .nil passF (pa_cons (pv 6) (pa_cons (pv 10) (pa_cons (pv 4) pa_nil)))) pa_nil)))))) pss_nil)
        (pss_one (ps_aug (i := 5) scStep.nd rfl (Or.inl rfl) (pv 9) ip_sub)))))
      (pss_one (ps_ret (pe_call FK hr rfl mK kK bK .nil passF (pa_cons (pv 0) (pa_cons (pv 2) pa_nil)))))))))), ?_⟩
    refine ⟨_, rfl, _, rfl, a, p1, n, ps, F, r1, rfl, TA, PA1, G, sm1, x1.1, x1.2, fun on1 => ?_⟩
    refine ⟨_, rfl, _, rfl, a, p2, n, ps, F, r2, rfl, TA, PA2, G, sm2, (x2 on1).1, (x2 on1).2, fun on2 => ?_⟩
    refine ⟨_, rfl, _, _, rfl, rfl, _, rfl, ?_⟩
    by_cases m0 : m < 0
    · rw [decide_eq_true m0]
      exact iteT ⟨_, rfl, len2, fun b hb => er2 hb (x3 on1 on2 m0)⟩
    rw [decide_eq_false m0]
    refine iteF ?_
    obtain ⟨dp1, ep1⟩ := id PA1
    obtain ⟨dp2, ep2⟩ := id PA2
    obtain ⟨sm11, sm12⟩ := sm1
    obtain ⟨sm21, sm22⟩ := sm2
    obtain ⟨c1, c2, eS1, eS2, c10, c20, le, dv1, dv2⟩ := lcm_of sm11 sm21
    have k' := k on1 on2 (by omega)
    refine ⟨_, rfl, p1, CP, dp1, _, _, rfl, ep1, TP.cl, TP.nP, plF_p r1, _, rfl, p2, CP, dp2, _, _, rfl, ep2, TP.cl, TP.nP, plF_p r2, _, _, rfl, by omega, by omega, ?_⟩
    have S1 : 1 ≤ lcmI r1.2.2 r2.2.2 := by
      rw [eS1]
      have := Int.mul_le_mul sm11 (show 1 ≤ c1 by omega) (by omega) (by omega)
      omega
    have S60 : lcmI r1.2.2 r2.2.2 < 2 ^ 60 := by omega
    show tSeq _ _ _ (List.set _ 4 (some (V.int (lcmI r1.2.2 r2.2.2)))) H
    unfold walkN legsRR hRR at k'
    rw [dv1, dv2] at k'
    generalize lcmI r1.2.2 r2.2.2 = S at *
    have S64 : -(2 ^ 64 : Int) < S ∧ S < 2 ^ 64 := ⟨by omega, by omega⟩
    refine ⟨_, rfl, _, rfl, _, _, rfl, rfl, .inr S64, ?_⟩
    -- for number, start, end in legs(..)
    refine ⟨_, rfl, _, rfl, _, rfl, _, rfl, a, p1, p2, n, ps, F, r1, r2, S, c1, c2, rfl, TA, PA1, PA2, G, ⟨sm11, sm12⟩, ⟨sm21, sm22⟩, on1, on2, eS1, eS2, c10, c20, S60, fun L H1 s1 hL fa ll => ?_⟩
    have hg : On F S r2.1.toNat (r2.2.1 * c2) := by
      obtain ⟨⟨b0, b1⟩, b2, b3⟩ := on2
      refine ⟨by omega, Int.mul_nonneg b2 (by omega), ?_⟩
      unfold sz
      rw [eS2, ← Int.mul_assoc]
      exact Int.mul_le_mul_of_nonneg_right b3 (by omega)
    have hk : On F S r1.1.toNat (r1.2.1 * c1) := by
      obtain ⟨⟨b0, b1⟩, b2, b3⟩ := on1
      refine ⟨by omega, Int.mul_nonneg b2 (by omega), ?_⟩
      unfold sz
      rw [eS1, ← Int.mul_assoc]
      exact Int.mul_le_mul_of_nonneg_right b3 (by omega)
    have path := (legsP_ok G.m S1 hg hk).1
    unfold hP at k'
    generalize hl : legsP F S r2.1.toNat (r2.2.1 * c2) r1.1.toNat (r1.2.1 * c1) = legs at fa ll path k'
    obtain ⟨ts, eL, pts⟩ := fa
    have el : (ts.map V.ref).length = legs.length := by rw [List.length_map, Paired.length pts, List.length_map]
    have TA1 := TA.same s1
    have PA21 := PA2.same s1
    have mS : 0 ≤ m * S := Int.mul_nonneg (by omega) (by omega)
    refine ⟨L, rfl, ⟨_, SqL.of eL⟩, for_list (K := K) (a := L) (xs := ts.map V.ref) (fun i σ G' => ∃ (left : Int) (v6 v7 v8 v9 : Option V), σ = [some (.ref a), some (.ref p1), some (.ref p2), some (.int m), some (.int S), some (.int left), v6, v7, v8, v9, none] ∧ G' = H1 ∧
        m * S = total (legs.take i) + left ∧ 0 ≤ left ∧ (0 < i → 0 < left) ∧ posL legs (m * S) = posL (legs.drop i) left)
      ⟨m * S, none, none, none, none, rfl, rfl, by show m * S = 0 + m * S; omega, mS, fun z => absurd z (Nat.lt_irrefl _), rfl⟩ (fun i σ G' _ ⟨_, _, _, _, _, _, e, _⟩ => by rw [e]; exact SqL.of eL) ?_ ?_⟩
    · rintro i y σ G' hi ⟨left, v6, v7, v8, v9, rfl, rfl, e1, l0, lp, ep⟩
      obtain ⟨t, ht, rfl⟩ := map_get hi
      obtain ⟨r, hr', tr⟩ := paired_get pts ht
      obtain ⟨⟨kk, ss, ee⟩, hl', rfl⟩ := map_get hr'
      rw [drop_get hl'] at ep
      refine ⟨t, _, rfl, SqT.of tr, rfl, _, _, rfl, _, _, rfl, _, _, rfl, rfl, ?_⟩
      refine ⟨_, rfl, _, rfl, _, _, rfl, rfl, _, rfl, ?_⟩
      show tSeq _ _ _ (List.set _ 9 (some (V.int (dst ss ee)))) _
      refine ⟨_, rfl, _, rfl, _, _, rfl, rfl, _, rfl, ?_⟩
      have tt : total legs = total (legs.take i) + dst ss ee + total (legs.drop (i + 1)) := by
        have z : ∀ (A B : List Leg), total (A ++ B) = total A + total B := fun A B => by rw [total_sum, total_sum, total_sum, List.map_append, List.sum_append]
        have z2 := z (legs.take i) (legs.drop i)
        rw [List.take_append_drop, drop_get hl'] at z2
        rw [z2]
        show _ + (dst ss ee + _) = _
        omega
      have rest := total_nn (legs.drop (i + 1))
      by_cases c : left ≤ dst ss ee
      · rw [decide_eq_true c]
        rw [posL_le c] at ep
        have le' : m * S ≤ total legs := by omega
        rw [if_pos le', ep] at k'
        have on := (path (m * S) mS le').1
        rw [ep] at on
        refine iteT ?_
        refine ⟨_, rfl, _, rfl, _, _, rfl, rfl, _, rfl, ?_⟩
        refine ite_val (.int (if ss < ee then ss + left else ss - left)) (fun hb Q q => ⟨_, rfl, _, rfl, _, _, rfl, rfl, ?_⟩) (fun hb Q q => ⟨_, rfl, _, rfl, _, _, rfl, rfl, ?_⟩) ?_
        · rw [if_pos (show ss < ee from of_decide_eq_true hb)] at q
          exact q
        · rw [if_neg (show ¬ ss < ee from of_decide_eq_false hb)] at q
          exact q
        generalize (if ss < ee then ss + left else ss - left) = at' at on k' ⊢
        refine ⟨_, rfl, _, rfl, _, rfl, _, rfl, fun x dx nx ndx nex => ⟨x, dx, (((kk : Nat) : Int), at', S), rfl, upd_same, fun z => absurd z (by show ¬ S < 1; omega), fun _ => ⟨lg60 S1 S60, fun H2 px keep => ⟨rfl, ?_⟩⟩⟩⟩
        have s2 := made_same nx ndx keep
        obtain ⟨o1, o2, o3⟩ := on_low S1 on
        have low1 := low_low (r := (((kk : Nat) : Int), at', S)) S1
        have lowS : (low (((kk : Nat) : Int), at', S)).2.2 < 2 ^ 60 := by
          obtain ⟨cc, hc, _, e2⟩ := low_back (r := (((kk : Nat) : Int), at', S)) S1
          have e2' : S = (low (((kk : Nat) : Int), at', S)).2.2 * cc := e2
          have := Int.mul_le_mul_of_nonneg_left (show 1 ≤ cc by omega) (show 0 ≤ (low (((kk : Nat) : Int), at', S)).2.2 by have := low1.1; omega)
          omega
        refine ⟨a, x, n, ps, F, _, rfl, TA1.same s2, px, G, ⟨low1.1, lowS⟩, low1.2, fun z => absurd o1.1 z, fun _ z => absurd o1.2 z, fun _ p' H' s' px' => ?_⟩
        rw [o2, o3] at px'
        exact k' p' H' ((s1.trans s2).trans s') px'
      · rw [decide_eq_false c]
        refine iteF ⟨_, rfl, _, rfl, _, _, rfl, rfl, left - dst ss ee, _, _, _, _, rfl, rfl, ?_, by omega, fun _ => by omega, ?_⟩
        · have z : ∀ (A B : List Leg), total (A ++ B) = total A + total B := fun A B => by rw [total_sum, total_sum, total_sum, List.map_append, List.sum_append]
          rw [take_get hl', z]
          show m * S = _ + (dst ss ee + 0) + _
          omega
        · rw [ep, posL_gt c]
    · rintro σ G' ⟨left, v6, v7, v8, v9, rfl, rfl, e1, l0, lp, ep⟩
      rw [el, List.take_length] at e1
      have pos : 0 < legs.length := by
        rw [← hl]
        unfold legsP
        split
        · exact Nat.one_pos
        · exact Nat.succ_pos _
      have l1 := lp (by rw [el]; exact pos)
      have gt : ¬ m * S ≤ total legs := by omega
      rw [if_neg gt] at k'
      refine ⟨_, rfl, _, rfl, a, p2, n, ps, F, r2, rfl, TA1, PA21, G, ⟨sm21, sm22⟩, lo2, fun z => absurd on2.1 z, fun _ z => absurd on2.2 z, fun _ p' H' s' px' => ?_⟩
      refine k' p' H' (s1.trans s') ?_
      rw [eS2, keyF_node_mul c20]
      exact px'
end
end OT

set_option Elab.async false
set_option linter.all false
set_option maxRecDepth 100000
set_option maxHeartbeats 4000000
namespace OT
open PySem L2 OTR
def spKeyL (K : PySem.W.Frag) (CP : Addr) : Sp := fun vs H Q _ => ∃ (p q : Addr) (n S : Int) (y : V) (F : List Fact) (u : Nd), vs = [.ref p, .int S, y] ∧ TrAt H p q n F ∧ TreeM n F ∧ 2 ≤ n ∧ F.length ≤ 23 ∧ (∀ r ∈ F, r.2.2 ≤ 1000000000) ∧ 1 ≤ S ∧ S ≤ 1000 ∧ OnT F S u ∧ KeyM H (nk u) y ∧
  ∀ x H', Same H H' → PlaceAt CP H' x (keyF F S u) → Q (.ref x) H'
section
variable {P : Program} {w : World} {K : PySem.W.Frag} {mg : Str → Option Value} {base : Heap}
abbrev nKeyL : List Str := ["_law_m", "_law_share", "_law_node_here", "_law_road", "_law_k", "_law_one", "_law_other", "_law_size"]
end
end OT

set_option Elab.async false
set_option linter.all false
set_option maxRecDepth 100000
set_option maxHeartbeats 4000000
namespace OT
open PySem L2 OTR
/-- the place r is the step i of S to the step, on the road k -/
structure PlE (F : List Fact) (S : Int) (r : Fact) (k : Nat) (i : Int) : Prop where
  rd : r.1 = (k : Nat)
  d : ∃ d, 0 < d ∧ S = r.2.2 * d ∧ i = r.2.1 * d
  on : On F S k i
  p1 : 1 ≤ r.2.2
  lo : low r = r
theorem PlE.pl {F : List Fact} {S : Int} {r : Fact} {k : Nat} {i : Int} (h : PlE F S r k i) : PlOn F r := by
  obtain ⟨d, d0, e1, e2⟩ := h.d
  obtain ⟨o1, o2, o3⟩ := h.on
  refine ⟨⟨by rw [h.rd]; omega, by rw [h.rd]; omega⟩, ?_, ?_⟩
  · rw [e2] at o2
    exact Int.le_of_mul_le_mul_right (by rw [Int.zero_mul]; exact o2) d0
  · rw [h.rd, Int.toNat_natCast]
    unfold sz at o3
    refine Int.le_of_mul_le_mul_right ?_ d0
    rw [← e2, Int.mul_assoc, ← e1]
    exact o3
theorem PlE.le {F : List Fact} {S : Int} {r : Fact} {k : Nat} {i : Int} (h : PlE F S r k i) : r.2.2 ≤ S := by
  obtain ⟨d, d0, e1, _⟩ := h.d
  have := Int.mul_le_mul_of_nonneg_left (show 1 ≤ d by omega) (show 0 ≤ r.2.2 by have := h.p1; omega)
  omega
theorem both {F : List Fact} {S : Int} {r1 r2 : Fact} {k g : Nat} {i p : Int} (h1 : PlE F S r1 k i) (h2 : PlE F S r2 g p) (hS : 1 ≤ S) : ∃ c, 0 < c ∧ 1 ≤ lcmI r1.2.2 r2.2.2 ∧ S = lcmI r1.2.2 r2.2.2 * c ∧ i = r1.2.1 * (lcmI r1.2.2 r2.2.2 / r1.2.2) * c ∧ p = r2.2.1 * (lcmI r1.2.2 r2.2.2 / r2.2.2) * c ∧
    On F (lcmI r1.2.2 r2.2.2) k (r1.2.1 * (lcmI r1.2.2 r2.2.2 / r1.2.2)) ∧ On F (lcmI r1.2.2 r2.2.2) g (r2.2.1 * (lcmI r1.2.2 r2.2.2 / r2.2.2)) := by
  obtain ⟨c1, c2, e1, e2, c10, c20, _, dv1, dv2⟩ := lcm_of h1.p1 h2.p1
  obtain ⟨d1, d10, a1, a2⟩ := h1.d
  obtain ⟨d2, d20, b1, b2⟩ := h2.d
  have q1 := h1.p1
  have q2 := h2.p1
  have dvd : lcmI r1.2.2 r2.2.2 ∣ S := by
    have z : Nat.lcm r1.2.2.natAbs r2.2.2.natAbs ∣ S.natAbs := Nat.lcm_dvd (Int.natAbs_dvd_natAbs.mpr ⟨d1, a1⟩) (Int.natAbs_dvd_natAbs.mpr ⟨d2, b1⟩)
    exact Int.natAbs_dvd_natAbs.mp (by unfold lcmI; rw [Int.natAbs_natCast]; exact z)
  obtain ⟨c, ec⟩ := dvd
  have L1 : 1 ≤ lcmI r1.2.2 r2.2.2 := by
    rw [e1]
    have := Int.mul_le_mul q1 (show 1 ≤ c1 by omega) (by omega) (by omega)
    omega
  have c0 : 0 < c := by
    rcases Int.lt_trichotomy c 0 with h | h | h
    · have := Int.mul_le_mul_of_nonneg_left (show c ≤ 0 by omega) (show 0 ≤ lcmI r1.2.2 r2.2.2 by omega)
      omega
    · rw [h, Int.mul_zero] at ec
      omega
    · exact h
  have ed1 : d1 = c1 * c := Int.eq_of_mul_eq_mul_left (a := r1.2.2) (by omega) (by rw [← a1, ec, e1, Int.mul_assoc])
  have ed2 : d2 = c2 * c := Int.eq_of_mul_eq_mul_left (a := r2.2.2) (by omega) (by rw [← b1, ec, e2, Int.mul_assoc])
  have ei : i = r1.2.1 * (lcmI r1.2.2 r2.2.2 / r1.2.2) * c := by rw [dv1, a2, ed1, Int.mul_assoc]
  have ep : p = r2.2.1 * (lcmI r1.2.2 r2.2.2 / r2.2.2) * c := by rw [dv2, b2, ed2, Int.mul_assoc]
  have on : ∀ {k : Nat} {x y : Int}, On F S k y → y = x * c → On F (lcmI r1.2.2 r2.2.2) k x := fun {k x y} o e => by
    obtain ⟨o1, o2, o3⟩ := o
    rw [e] at o2 o3
    rw [ec, sz_mul] at o3
    exact ⟨o1, Int.le_of_mul_le_mul_right (by rw [Int.zero_mul]; exact o2) c0, Int.le_of_mul_le_mul_right o3 c0⟩
  exact ⟨c, c0, L1, ec, ei, ep, on h1.on ei, on h2.on ep⟩
section
variable {n : Int} {F : List Fact} {S : Int} (T : TreeM n F) (hS : 1 ≤ S)
include T hS
/-- a way is no longer than a walk -/
theorem hP_le_sym {k g : Nat} {i p : Int} (hk : On F S k i) (hg : On F S g p) : hP F S g p k i ≤ hP F S k i g p := by
  have m0 : 0 ≤ hP F S k i g p := total_nn _
  have step : ∀ t : Nat, (t : Int) ≤ hP F S k i g p → hN F S g p (pth F S k i g p (t : Nat)) ≤ t := by
    intro t
    induction t with
    | zero =>
      intro _
      show hN F S g p (pth F S k i g p 0) ≤ 0
      rw [pth_0 T hS hk hg, hN_node T hS hg hg, hP_g, dst_self]
      exact Int.le_refl _
    | succ t ih =>
      intro h
      have h' : (t : Int) + 1 ≤ hP F S k i g p := by
        rw [← Int.natCast_succ]
        exact h
      have h2 : (t : Int) ≤ hP F S k i g p := Int.le_trans (Int.le_add_one (Int.le_refl _)) h'
      have a := (pth_ok T hS hk hg (t := (t : Nat)) (Int.natCast_nonneg t) h2).2.2 h'
      have b := ih h2
      have e := adj_step T hS hg a
      rw [Int.natCast_succ]
      rcases e with e | e
      · rw [e]
        exact Int.add_le_add_right b 1
      · rw [e]
        exact Int.le_trans (Int.sub_le_self _ (by decide)) (Int.le_trans b (Int.le_add_one (Int.le_refl _)))
  have ht := step (hP F S k i g p).toNat (by rw [Int.toNat_of_nonneg m0]; exact Int.le_refl _)
  rw [Int.toNat_of_nonneg m0] at ht
  obtain ⟨o, z, _⟩ := pth_ok T hS hk hg (t := hP F S k i g p) m0 (Int.le_refl _)
  rw [Int.sub_self] at z
  rw [zero_aim T hS hk o z, hN_node T hS hg hk] at ht
  exact ht
theorem hP_sym {k g : Nat} {i p : Int} (hk : On F S k i) (hg : On F S g p) : hP F S g p k i = hP F S k i g p := Int.le_antisymm (hP_le_sym T hS hk hg) (hP_le_sym T hS hg hk)
/-- a way passes each node once -/
theorem hP_few {k g : Nat} {i p : Int} (hk : On F S k i) (hg : On F S g p) : hP F S g p k i < ((nodesL F S).length : Int) := by
  have m0 : 0 ≤ hP F S g p k i := total_nn _
  have nd : ((List.range ((hP F S g p k i).toNat + 1)).map fun t : Nat => pth F S g p k i (t : Nat)).Nodup := by
    refine List.Pairwise.map _ (fun a b ⟨ha, hb, ne⟩ e => ne ?_) (List.Pairwise.and_mem.mp List.nodup_range)
    have la := List.mem_range.mp ha
    have lb := List.mem_range.mp hb
    have ea := (pth_ok T hS hg hk (t := (a : Nat)) (Int.natCast_nonneg a) (by omega)).2.1
    have eb := (pth_ok T hS hg hk (t := (b : Nat)) (Int.natCast_nonneg b) (by omega)).2.1
    rw [e, eb] at ea
    omega
  have h := nodup_len nd fun x hx => by
    obtain ⟨t, ht, rfl⟩ := List.mem_map.mp hx
    have := List.mem_range.mp ht
    exact mem_nodes (pth_ok T hS hg hk (t := (t : Nat)) (Int.natCast_nonneg t) (by omega)).1
  rw [List.length_map, List.length_range] at h
  omega
end
/-- what distance answers -/
theorem dist_eq {F : List Fact} {S : Int} {r1 r2 : Fact} {k g : Nat} {i p : Int} (h1 : PlE F S r1 k i) (h2 : PlE F S r2 g p) (hS : 1 ≤ S) : low (0, hRR F (lcmI r1.2.2 r2.2.2) r1 r2, lcmI r1.2.2 r2.2.2) = low (0, hP F S g p k i, S) := by
  obtain ⟨c, c0, L1, ec, ei, ep, o1, o2⟩ := both h1 h2 hS
  generalize hL : lcmI r1.2.2 r2.2.2 = L at *
  unfold hRR
  rw [h1.rd, h2.rd, Int.toNat_natCast, Int.toNat_natCast, ec, ei, ep, hP_mul c0, low_mul c c0]
/-- what step answers -/
theorem step_eq {n : Int} {F : List Fact} {S : Int} (T : TreeM n F) {r1 r2 : Fact} {k g : Nat} {i p m : Int} (h1 : PlE F S r1 k i) (h2 : PlE F S r2 g p) (hS : 1 ≤ S) : keyF F (lcmI r1.2.2 r2.2.2) (walkN F (lcmI r1.2.2 r2.2.2) r1 r2 (m * lcmI r1.2.2 r2.2.2)) = keyF F S (pth F S g p k i (if hP F S g p k i < m * S then hP F S g p k i else m * S)) := by
  have ho1 := h1.on
  have ho2 := h2.on
  obtain ⟨c, c0, L1, ec, ei, ep, o1, o2⟩ := both h1 h2 hS
  generalize hL : lcmI r1.2.2 r2.2.2 = L at *
  generalize hx : r1.2.1 * (L / r1.2.2) = x at *
  generalize hy : r2.2.1 * (L / r2.2.2) = y at *
  have eh : hP F S g p k i = hP F L g y k x * c := by rw [ec, ei, ep, hP_mul c0]
  have em : m * S = m * L * c := by rw [ec, Int.mul_assoc]
  have ept : ∀ t : Int, keyF F S (pth F S g p k i (t * c)) = keyF F L (pth F L g y k x t) := fun t => by
    unfold pth
    rw [ec, ei, ep, legsP_mul, posL_mul c0, keyF_node_mul c0]
  unfold walkN
  have e1 : hRR F L r1 r2 = hP F L g y k x := by unfold hRR; rw [h1.rd, h2.rd, Int.toNat_natCast, Int.toNat_natCast, hx, hy]
  have e2 : legsRR F L r1 r2 = legsP F L g y k x := by unfold legsRR; rw [h1.rd, h2.rd, Int.toNat_natCast, Int.toNat_natCast, hx, hy]
  rw [e1, e2, h2.rd, Int.toNat_natCast, hy, eh, em]
  by_cases c2 : m * L ≤ hP F L g y k x
  · have c3 : ¬ hP F L g y k x * c < m * L * c := Int.not_lt.mpr (Int.mul_le_mul_of_nonneg_right c2 (Int.le_of_lt c0))
    rw [if_pos c2, if_neg c3, ept]
    rfl
  · have c3 : hP F L g y k x * c < m * L * c := Int.mul_lt_mul_of_pos_right (Int.not_le.mp c2) c0
    rw [if_neg c2, if_pos c3, ept]
    obtain ⟨o, z, _⟩ := pth_ok T L1 o2 o1 (t := hP F L g y k x) (total_nn _) (Int.le_refl _)
    rw [Int.sub_self] at z
    rw [zero_aim T L1 o2 o z]
/-- a key, as a place -/
theorem key_pl {n : Int} {F : List Fact} {S : Int} (T : TreeM n F) (n2 : 2 ≤ n) (hS : 1 ≤ S) {u : Nd} (ou : OnT F S u) : PlOn F (keyF F S u) ∧ 1 ≤ (keyF F S u).2.2 ∧ (keyF F S u).2.2 ≤ S ∧ low (keyF F S u) = keyF F S u ∧ keyF F (keyF F S u).2.2 (node F (keyF F S u).2.2 (keyF F S u).1.toNat (keyF F S u).2.1) = keyF F S u := by
  obtain ⟨k, i, o, rfl⟩ := ou
  cases e : node F S k i with
  | cr c =>
    have ic : In n c := by
      obtain ⟨e1, _⟩ := node_cr T hS o.1 e
      have o := rd_ok T o.1
      rcases e1 with e1 | e1
      · exact e1 ▸ o.1
      · exact e1 ▸ o.2.1
    obtain ⟨f1, f2, f3⟩ := fstR_spec T ic n2
    have oe := eAt_on (S := 1) T (Int.le_refl 1) f1 c
    show PlOn F (((fstR F c : Nat) : Int), eAt F 1 (fstR F c) c, 1) ∧ (1 : Int) ≤ 1 ∧ (1 : Int) ≤ S ∧ low (((fstR F c : Nat) : Int), eAt F 1 (fstR F c) c, 1) = _ ∧ keyF F 1 (node F 1 (((fstR F c : Nat) : Int)).toNat (eAt F 1 (fstR F c) c)) = _
    rw [Int.toNat_natCast, node_eAt T (Int.le_refl 1) f1 f2]
    refine ⟨⟨⟨by show 0 ≤ ((fstR F c : Nat) : Int); omega, by show ((fstR F c : Nat) : Int) < _; omega⟩, oe.2.1, ?_⟩, Int.le_refl _, hS, low_one _ _, rfl⟩
    have := oe.2.2
    unfold sz at this
    show _ ≤ (rd F (((fstR F c : Nat) : Int)).toNat).2.2 * 1
    rw [Int.toNat_natCast]
    exact this
  | mid k2 i2 =>
    have e2 : k2 = k ∧ i2 = i := by
      unfold node at e
      split at e
      · cases e
      · split at e
        · cases e
        · cases e
          exact ⟨rfl, rfl⟩
    obtain ⟨rfl, rfl⟩ := e2
    obtain ⟨o1, o2, o3⟩ := on_low hS o
    have low1 := low_low (r := (((k2 : Nat) : Int), i2, S)) hS
    have le : (low (((k2 : Nat) : Int), i2, S)).2.2 ≤ S := by
      obtain ⟨c, c0, _, e2⟩ := low_back (r := (((k2 : Nat) : Int), i2, S)) hS
      have e2' : S = (low (((k2 : Nat) : Int), i2, S)).2.2 * c := e2
      have := Int.mul_le_mul_of_nonneg_left (show 1 ≤ c by omega) (show 0 ≤ (low (((k2 : Nat) : Int), i2, S)).2.2 by have := low1.1; omega)
      omega
    refine ⟨o1, low1.1, le, low1.2, ?_⟩
    show keyF F (low (((k2 : Nat) : Int), i2, S)).2.2 (node F (low (((k2 : Nat) : Int), i2, S)).2.2 (low (((k2 : Nat) : Int), i2, S)).1.toNat (low (((k2 : Nat) : Int), i2, S)).2.1) = low (((k2 : Nat) : Int), i2, S)
    rw [o2, o3, e]
    rfl
/-- no step from a place -/
theorem step_0 {n : Int} {F : List Fact} (T : TreeM n F) {r1 r2 : Fact} (o1 : PlOn F r1) (o2 : PlOn F r2) (p1 : 1 ≤ r1.2.2) (p2 : 1 ≤ r2.2.2) : keyF F (lcmI r1.2.2 r2.2.2) (walkN F (lcmI r1.2.2 r2.2.2) r1 r2 (0 * lcmI r1.2.2 r2.2.2)) = keyF F r1.2.2 (node F r1.2.2 r1.1.toNat r1.2.1) := by
  obtain ⟨c1, c2, e1, e2, c10, c20, _, dv1, dv2⟩ := lcm_of p1 p2
  have L1 : 1 ≤ lcmI r1.2.2 r2.2.2 := by
    rw [e1]
    have := Int.mul_le_mul p1 (show 1 ≤ c1 by omega) (by omega) (by omega)
    omega
  have on : ∀ {r : Fact} {c : Int}, PlOn F r → 0 < c → lcmI r1.2.2 r2.2.2 = r.2.2 * c → On F (lcmI r1.2.2 r2.2.2) r.1.toNat (r.2.1 * c) := fun {r c} h c0 e => by
    obtain ⟨⟨b0, b1⟩, b2, b3⟩ := h
    refine ⟨by omega, Int.mul_nonneg b2 (by omega), ?_⟩
    unfold sz
    rw [e, ← Int.mul_assoc]
    exact Int.mul_le_mul_of_nonneg_right b3 (by omega)
  have q1 := on o1 c10 e1
  have q2 := on o2 c20 e2
  unfold walkN
  have h0 : 0 ≤ hRR F (lcmI r1.2.2 r2.2.2) r1 r2 := total_nn _
  rw [Int.zero_mul, if_pos h0]
  unfold legsRR
  rw [dv1, dv2, (legsP_ok T L1 q2 q1).2]
  generalize lcmI r1.2.2 r2.2.2 = L at *
  rw [e1, keyF_node_mul c10]
theorem mkPlE {F : List Fact} {s c : Int} {k : Nat} {i : Int} (hs : 1 ≤ s) (hc : 1 ≤ c) (o : On F s k i) : PlE F (s * c) (low (((k : Nat) : Int), i, s)) k (i * c) := by
  obtain ⟨d, d0, e1, e2⟩ := low_back (r := (((k : Nat) : Int), i, s)) hs
  have e1' : i = (low (((k : Nat) : Int), i, s)).2.1 * d := e1
  have e2' : s = (low (((k : Nat) : Int), i, s)).2.2 * d := e2
  have lo := low_low (r := (((k : Nat) : Int), i, s)) hs
  obtain ⟨o1, o2, o3⟩ := o
  refine ⟨rfl, ⟨d * c, Int.mul_pos d0 (by omega), ?_, ?_⟩, ⟨o1, Int.mul_nonneg o2 (by omega), ?_⟩, lo.1, lo.2⟩
  · rw [← Int.mul_assoc, ← e2']
  · rw [← Int.mul_assoc, ← e1']
  · rw [sz_mul]
    exact Int.mul_le_mul_of_nonneg_right o3 (by omega)
end OT

set_option linter.all false
namespace OT
/-- a road o times as long -/
def lngR (o : Int) (r : Fact) : Fact := (r.1, r.2.1, r.2.2 * o)
def lng (o : Int) (F : List Fact) : List Fact := F.map (lngR o)
theorem lng_len (o : Int) (F : List Fact) : (lng o F).length = F.length := List.length_map _
theorem rd_lng (o : Int) (F : List Fact) (k : Nat) : rd (lng o F) k = lngR o (rd F k) := by
  unfold rd lng
  rw [List.getD_eq_getElem?_getD, List.getD_eq_getElem?_getD, List.getElem?_map]
  cases F[k]? with
  | none => show ((0, 0, 0) : Fact) = (0, 0, 0 * o); rw [Int.zero_mul]
  | some r => rfl
theorem con_lng {o : Int} {F : List Fact} {x y : Int} : Con (lng o F) x y ↔ Con F x y := by
  constructor
  · intro h
    induction h with
    | refl => exact .refl _
    | step _ m j ih =>
      obtain ⟨r, hr, rfl⟩ := List.mem_map.mp m
      exact .step ih hr j
  · intro h
    induction h with
    | refl => exact .refl _
    | @step b c r _ m j ih => exact .step (r := lngR o r) ih (List.mem_map.mpr ⟨r, m, rfl⟩) j
theorem way_lng {o : Int} {F : List Fact} : ∀ {l : List Nat} {x y : Int}, Way (lng o F) x l y ↔ Way F x l y := by
  intro l
  induction l with
  | nil =>
    intro x y
    constructor <;> (intro h; cases h; exact .nil _)
  | cons k l ih =>
    intro x y
    constructor
    · intro h
      cases h with
      | cons e j t =>
        unfold lng at e
        rw [List.getElem?_map] at e
        obtain ⟨r, hr, rfl⟩ := Option.map_eq_some_iff.mp e
        exact .cons hr j (ih.mp t)
    · intro h
      cases h with
      | @cons _ _ _ _ r _ e j t => exact .cons (r := lngR o r) (by unfold lng; rw [List.getElem?_map, e]; rfl) j (ih.mpr t)
theorem erase_lng (o : Int) : ∀ (F : List Fact) (k : Nat), (F.map (lngR o)).eraseIdx k = (F.eraseIdx k).map (lngR o)
  | [], _ => rfl
  | r :: F, 0 => rfl
  | r :: F, k + 1 => by
    rw [List.map_cons, List.eraseIdx_cons_succ, List.eraseIdx_cons_succ, List.map_cons, erase_lng o F k]
theorem noRing_lng {o : Int} {F : List Fact} (h : NoRing F) : NoRing (lng o F) := by
  intro k r e c
  unfold lng at e c
  rw [List.getElem?_map] at e
  obtain ⟨r, hr, rfl⟩ := Option.map_eq_some_iff.mp e
  rw [erase_lng] at c
  exact h k r hr (con_lng.mp c)
theorem Drawn.lng {most long n o : Int} {F : List Fact} (d : Drawn most long n F) (h1 : 1 ≤ o) (h2 : ∀ r ∈ F, r.2.2 * o ≤ 1000000000) : Drawn most 1000000000 n (lng o F) := by
  refine ⟨d.lo, d.hi, by rw [lng_len]; exact d.len, fun r hr => ?_, noRing_lng d.nr, fun x y hx hy => con_lng.mpr (d.con x y hx hy)⟩
  obtain ⟨r0, hr0, rfl⟩ := List.mem_map.mp hr
  obtain ⟨a, b, c, _⟩ := d.ok r0 hr0
  refine ⟨a, b, ?_, .inr (h2 r0 hr0)⟩
  have := Int.mul_le_mul c h1 (by omega) (by omega)
  show 1 ≤ r0.2.2 * o
  omega
theorem tr_lng (o : Int) (F : List Fact) (x y : Int) : tr (lng o F) x y = tr F x y := by
  have e : (fun l => Way (lng o F) x l y ∧ l.Nodup) = fun l => Way F x l y ∧ l.Nodup := funext fun l => propext (and_congr_left fun _ => way_lng)
  unfold tr
  rw [e]
theorem sz_lng (o : Int) (F : List Fact) (S : Int) (k : Nat) : sz (lng o F) S k = sz F (S * o) k := by
  unfold sz
  rw [rd_lng]
  show (rd F k).2.2 * o * S = _
  rw [Int.mul_assoc, Int.mul_comm o S]
theorem on_lng {o : Int} {F : List Fact} {S : Int} {k : Nat} {i : Int} : On (lng o F) S k i ↔ On F (S * o) k i := by
  unfold On
  rw [lng_len, sz_lng]
theorem eAt_lng (o : Int) (F : List Fact) (S : Int) (k : Nat) (c : Int) : eAt (lng o F) S k c = eAt F (S * o) k c := by
  unfold eAt
  rw [rd_lng, sz_lng]
  rfl
theorem eBy_lng (o : Int) (F : List Fact) (k : Nat) (c : Int) : eBy (lng o F) k c = eBy F k c := by
  unfold eBy
  rw [rd_lng]
  rfl
theorem node_lng (o : Int) (F : List Fact) (S : Int) (k : Nat) (i : Int) : node (lng o F) S k i = node F (S * o) k i := by
  unfold node
  rw [rd_lng, sz_lng]
  rfl
theorem legsC_lng (o : Int) (F : List Fact) (S : Int) (g : Nat) (p : Int) : ∀ (l : List Nat) (c : Int), legsC (lng o F) S g p c l = legsC F (S * o) g p c l
  | [], c => by rw [legsC_nil, legsC_nil, eAt_lng]
  | k :: l, c => by
    by_cases h : k = g
    · subst h
      rw [legsC_g, legsC_g, legsC_lng o F S k p l]
    · rw [legsC_k h, legsC_k h, eAt_lng, eAt_lng, eBy_lng, legsC_lng o F S g p l]
theorem up_lng (o : Int) (F : List Fact) (g k : Nat) : up (lng o F) g k = up F g k := by
  unfold up
  rw [rd_lng, rd_lng]
  show (if k ∈ tr (lng o F) (rd F k).1 (rd F g).1 then (rd F k).2.1 else (rd F k).1) = _
  rw [tr_lng]
theorem legsP_lng (o : Int) (F : List Fact) (S : Int) (g : Nat) (p : Int) (k : Nat) (i : Int) : legsP (lng o F) S g p k i = legsP F (S * o) g p k i := by
  unfold legsP
  rw [up_lng, eAt_lng, rd_lng]
  show (if k = g then _ else (k, i, _) :: legsC (lng o F) S g p (up F g k) (tr (lng o F) (up F g k) (rd F g).1)) = _
  rw [tr_lng, legsC_lng]
theorem hP_lng (o : Int) (F : List Fact) (S : Int) (g : Nat) (p : Int) (k : Nat) (i : Int) : hP (lng o F) S g p k i = hP F (S * o) g p k i := by
  unfold hP
  rw [legsP_lng]
theorem fstR_lng (o : Int) (F : List Fact) (c : Int) : fstR (lng o F) c = fstR F c := by
  unfold fstR lng
  rw [List.findIdx_map]
  rfl
/-- a key of the short tree, in the long one -/
def lngK (o : Int) (r : Fact) : Fact := low (r.1, r.2.1 * o, r.2.2)
/-- half-way along -/
theorem pth_lng {o : Int} (h : 0 < o) (F : List Fact) (S : Int) (g : Nat) (p : Int) (k : Nat) (i t : Int) : pth (lng o F) S g (p * o) k (i * o) (t * o) = scN o (pth F S g p k i t) := by
  unfold pth
  rw [legsP_lng, legsP_mul, posL_mul h, node_lng, node_mul h]
theorem hP_long {o : Int} (h : 0 < o) (F : List Fact) (S : Int) (g : Nat) (p : Int) (k : Nat) (i : Int) : hP (lng o F) S g (p * o) k (i * o) = hP F S g p k i * o := by rw [hP_lng, hP_mul h]
theorem keyF_lng {o : Int} (h : 0 < o) (F : List Fact) {S : Int} (hS : 1 ≤ S) (u : Nd) : keyF (lng o F) S (scN o u) = lngK o (keyF F S u) := by
  cases u with
  | cr c =>
    show (((fstR (lng o F) c : Nat) : Int), eAt (lng o F) 1 (fstR (lng o F) c) c, (1 : Int)) = low (((fstR F c : Nat) : Int), eAt F 1 (fstR F c) c * o, 1)
    rw [fstR_lng, eAt_lng, eAt_mul]
    unfold low gcdI
    simp
  | mid k i =>
    show low (((k : Nat) : Int), i * o, S) = low ((low (((k : Nat) : Int), i, S)).1, (low (((k : Nat) : Int), i, S)).2.1 * o, (low (((k : Nat) : Int), i, S)).2.2)
    obtain ⟨c, c0, e1, e2⟩ := low_back (r := (((k : Nat) : Int), i, S)) hS
    have e1' : i = (low (((k : Nat) : Int), i, S)).2.1 * c := e1
    have e2' : S = (low (((k : Nat) : Int), i, S)).2.2 * c := e2
    have e3 : i * o = (low (((k : Nat) : Int), i, S)).2.1 * o * c := by rw [Int.mul_assoc, Int.mul_comm o c, ← Int.mul_assoc, ← e1']
    have e4 := low_mul (a := ((k : Nat) : Int)) (n := (low (((k : Nat) : Int), i, S)).2.1 * o) (s := (low (((k : Nat) : Int), i, S)).2.2) c c0
    rw [← e3, ← e2'] at e4
    exact e4
end OT

set_option Elab.async false
set_option linter.all false
set_option maxRecDepth 100000
set_option maxHeartbeats 4000000
namespace OT
open PySem L2 OTR
theorem mkPl0 {F : List Fact} {s : Int} {k : Nat} {i : Int} (hs : 1 ≤ s) (o : On F s k i) : PlE F s (low (((k : Nat) : Int), i, s)) k i := by
  obtain ⟨d, d0, e1, e2⟩ := low_back (r := (((k : Nat) : Int), i, s)) hs
  have lo := low_low (r := (((k : Nat) : Int), i, s)) hs
  exact ⟨rfl, ⟨d, d0, e2, e1⟩, o, lo.1, lo.2⟩
theorem PlE.keyF {F : List Fact} {S : Int} {r : Fact} {k : Nat} {i : Int} (h : PlE F S r k i) : OT.keyF F r.2.2 (node F r.2.2 r.1.toNat r.2.1) = OT.keyF F S (node F S k i) := by
  obtain ⟨d, d0, e1, e2⟩ := h.d
  rw [h.rd, Int.toNat_natCast, e2]
  conv => rhs; rw [e1]
  rw [keyF_node_mul d0]
theorem on_long {o : Int} (h : 1 ≤ o) {F : List Fact} {S : Int} {k : Nat} {i : Int} (on : On F S k i) : On (lng o F) S k (i * o) := by
  obtain ⟨a, b, c⟩ := on
  refine on_lng.mpr ⟨a, Int.mul_nonneg b (by omega), ?_⟩
  rw [sz_mul]
  exact Int.mul_le_mul_of_nonneg_right c (by omega)
/-- a key, as a step of S to the step -/
theorem key_ple {n : Int} {F : List Fact} {S : Int} (T : TreeM n F) (n2 : 2 ≤ n) (hS : 1 ≤ S) {u : Nd} (ou : OnT F S u) : ∃ kk ii, PlE F S (OT.keyF F S u) kk ii ∧ node F S kk ii = u := by
  obtain ⟨k, i, o, rfl⟩ := ou
  cases e : node F S k i with
  | cr c =>
    have ic : In n c := by
      obtain ⟨e1, _⟩ := node_cr T hS o.1 e
      have o := rd_ok T o.1
      rcases e1 with e1 | e1
      · exact e1 ▸ o.1
      · exact e1 ▸ o.2.1
    obtain ⟨f1, f2, f3⟩ := fstR_spec T ic n2
    refine ⟨fstR F c, eAt F S (fstR F c) c, ⟨rfl, ⟨S, by omega, ?_, ?_⟩, eAt_on T hS f1 c, Int.le_refl 1, low_one _ _⟩, node_eAt T hS f1 f2⟩
    · show S = 1 * S
      rw [Int.one_mul]
    · show eAt F S (fstR F c) c = eAt F 1 (fstR F c) c * S
      rw [← eAt_mul, Int.one_mul]
  | mid k2 i2 =>
    have e2 : k2 = k ∧ i2 = i := by
      unfold node at e
      split at e
      · cases e
      · split at e
        · cases e
        · cases e
          exact ⟨rfl, rfl⟩
    obtain ⟨rfl, rfl⟩ := e2
    exact ⟨k2, i2, mkPl0 hS o, e⟩
section
variable {n : Int} {F : List Fact} {S : Int} (T : TreeM n F) (hS : 1 ≤ S)
include T hS
/-- how far one is from the start -/
theorem pth_start {k g : Nat} {i p : Int} (hk : On F S k i) (hg : On F S g p) : ∀ t : Nat, (t : Int) ≤ hP F S g p k i → hN F S k i (pth F S g p k i (t : Nat)) = t := by
  have up : ∀ t : Nat, (t : Int) ≤ hP F S g p k i → hN F S k i (pth F S g p k i (t : Nat)) ≤ t := by
    intro t
    induction t with
    | zero =>
      intro _
      show hN F S k i (pth F S g p k i 0) ≤ 0
      rw [pth_0 T hS hg hk, hN_node T hS hk hk, hP_g, dst_self]
      exact Int.le_refl _
    | succ t ih =>
      intro h
      have h' : (t : Int) + 1 ≤ hP F S g p k i := by
        rw [← Int.natCast_succ]
        exact h
      have h2 : (t : Int) ≤ hP F S g p k i := Int.le_trans (Int.le_add_one (Int.le_refl _)) h'
      have a := (pth_ok T hS hg hk (t := (t : Nat)) (Int.natCast_nonneg t) h2).2.2 h'
      have b := ih h2
      have e := adj_step T hS hk a
      rw [Int.natCast_succ]
      rcases e with e | e
      · rw [e]
        exact Int.add_le_add_right b 1
      · rw [e]
        exact Int.le_trans (Int.sub_le_self _ (by decide)) (Int.le_trans b (Int.le_add_one (Int.le_refl _)))
  intro t ht
  refine Int.le_antisymm (up t ht) ?_
  -- from here to the goal the way is no longer than it is left
  obtain ⟨o, z, _⟩ := pth_ok T hS hg hk (t := (t : Nat)) (Int.natCast_nonneg t) ht
  obtain ⟨kk, ii, oo, e⟩ := o
  have tri : ∀ s : Nat, (s : Int) ≤ hP F S g p k i - t → hN F S k i (pth F S g p k i ((t + s : Nat) : Int)) ≤ hN F S k i (pth F S g p k i (t : Nat)) + s := by
    intro s
    induction s with
    | zero =>
      intro _
      rw [Nat.add_zero]
      exact Int.le_of_eq (Int.add_zero _).symm
    | succ s ih =>
      intro h
      have h1 : (s : Int) ≤ hP F S g p k i - t := Int.le_trans (by rw [Int.natCast_succ]; exact Int.le_add_one (Int.le_refl _)) h
      have hs : ((t + s : Nat) : Int) + 1 ≤ hP F S g p k i := by
        have := Int.add_le_of_le_sub_right h
        rw [Int.natCast_succ] at this
        rw [Int.natCast_add]
        omega
      have a := (pth_ok T hS hg hk (t := ((t + s : Nat) : Int)) (Int.natCast_nonneg _) (Int.le_trans (Int.le_add_one (Int.le_refl _)) hs)).2.2 hs
      have b := ih h1
      have e := adj_step T hS hk a
      rw [show ((t + (s + 1) : Nat) : Int) = ((t + s : Nat) : Int) + 1 from rfl, Int.natCast_succ]
      omega
  have q := tri (hP F S g p k i - t).toNat (by rw [Int.toNat_of_nonneg (by omega)]; exact Int.le_refl _)
  rw [Int.natCast_add, Int.toNat_of_nonneg (by omega)] at q
  have e2 : (t : Int) + (hP F S g p k i - t) = hP F S g p k i := by omega
  rw [e2] at q
  obtain ⟨o3, z3, _⟩ := pth_ok T hS hg hk (t := hP F S g p k i) (total_nn _) (Int.le_refl _)
  rw [Int.sub_self] at z3
  rw [zero_aim T hS hg o3 z3, hN_node T hS hk hg, hP_sym T hS hg hk] at q
  omega
end
/-- a step count that reaches the goal -/
theorem step_far {n : Int} {F : List Fact} {S : Int} (T : TreeM n F) {r1 r2 : Fact} {k g : Nat} {i p m : Int} (h1 : PlE F S r1 k i) (h2 : PlE F S r2 g p) (hS : 1 ≤ S) (hm : hP F S g p k i ≤ m * S) : OT.keyF F (lcmI r1.2.2 r2.2.2) (walkN F (lcmI r1.2.2 r2.2.2) r1 r2 (m * lcmI r1.2.2 r2.2.2)) = OT.keyF F S (node F S g p) := by
  rw [step_eq T h1 h2 hS]
  have e : (if hP F S g p k i < m * S then hP F S g p k i else m * S) = hP F S g p k i := by
    split
    · rfl
    · exact Int.le_antisymm (Int.not_lt.mp (by assumption)) hm
  rw [e]
  obtain ⟨o, z, _⟩ := pth_ok T hS h2.on h1.on (t := hP F S g p k i) (total_nn _) (Int.le_refl _)
  rw [Int.sub_self] at z
  rw [zero_aim T hS h2.on o z]
/-- a step count in the long tree -/
theorem step_long {n o : Int} (ho : 0 < o) {F : List Fact} {S : Int} (T : TreeM n (lng o F)) {r1 r2 : Fact} {k g : Nat} {i p m : Int} (h1 : PlE (lng o F) S r1 k (i * o)) (h2 : PlE (lng o F) S r2 g (p * o)) (hS : 1 ≤ S) :
    OT.keyF (lng o F) (lcmI r1.2.2 r2.2.2) (walkN (lng o F) (lcmI r1.2.2 r2.2.2) r1 r2 (m * o * lcmI r1.2.2 r2.2.2)) = lngK o (OT.keyF F S (pth F S g p k i (if hP F S g p k i < m * S then hP F S g p k i else m * S))) := by
  rw [step_eq T h1 h2 hS, hP_long ho]
  have e : (if hP F S g p k i * o < m * o * S then hP F S g p k i * o else m * o * S) = (if hP F S g p k i < m * S then hP F S g p k i else m * S) * o := by
    have e1 : m * o * S = m * S * o := by rw [Int.mul_assoc, Int.mul_comm o S, ← Int.mul_assoc]
    rw [e1]
    by_cases c : hP F S g p k i < m * S
    · rw [if_pos c, if_pos (Int.mul_lt_mul_of_pos_right c ho)]
    · rw [if_neg c, if_neg (Int.not_lt.mpr (Int.mul_le_mul_of_nonneg_right (Int.not_lt.mp c) (Int.le_of_lt ho)))]
  rw [e, pth_lng ho, keyF_lng ho F hS]
/-- the place one step ahead of the goal -/
theorem step_last {n : Int} {F : List Fact} {S : Int} (T : TreeM n F) (n2 : 2 ≤ n) {r1 r2 : Fact} {k g : Nat} {i p w : Int} (h1 : PlE F S r1 k i) (h2 : PlE F S r2 g p) (hS : 1 ≤ S) (hw : 1 ≤ w) (e : hP F S g p k i = w * S) :
    ∃ kk ii, PlE F S (OT.keyF F (lcmI r1.2.2 r2.2.2) (walkN F (lcmI r1.2.2 r2.2.2) r1 r2 ((w - 1) * lcmI r1.2.2 r2.2.2))) kk ii ∧ hP F S g p kk ii = 1 * S ∧ hP F S kk ii k i = (w - 1) * S := by
  rw [step_eq T h1 h2 hS]
  have ws : (w - 1) * S = w * S - S := by rw [Int.sub_mul, Int.one_mul]
  have w0 : 0 ≤ (w - 1) * S := Int.mul_nonneg (by omega) (by omega)
  have e1 : (if hP F S g p k i < (w - 1) * S then hP F S g p k i else (w - 1) * S) = (w - 1) * S := if_neg (by omega)
  rw [e1]
  obtain ⟨o, z, _⟩ := pth_ok T hS h2.on h1.on (t := (w - 1) * S) w0 (by omega)
  obtain ⟨kk, ii, pe, en⟩ := key_ple T n2 hS o
  refine ⟨kk, ii, pe, ?_, ?_⟩
  · rw [← hN_node T hS h2.on pe.on, en, z]
    omega
  · have q := pth_start T hS h1.on h2.on ((w - 1) * S).toNat (by rw [Int.toNat_of_nonneg w0]; omega)
    rw [Int.toNat_of_nonneg w0, ← en, hN_node T hS h1.on pe.on] at q
    rw [hP_sym T hS h1.on pe.on, q]
theorem low_whole (m : Int) {S : Int} (hS : 1 ≤ S) : low (0, m * S, S) = (0, m, 1) := by
  have e := low_mul (a := 0) (n := m) (s := 1) S (by omega)
  rw [Int.one_mul, low_one] at e
  exact e
end OT

set_option Elab.async false
set_option linter.all false
set_option maxRecDepth 100000
set_option maxHeartbeats 4000000
-- own words
namespace OT
open PySem L2 OTR
abbrev sKeyN : Stmt := top 55
/-- a position's name: a road and a number on it -/
def nqk (F : List Fact) (S : Int) : Nd → Nat × Int
  | .cr c => (fstR F c, eAt F S (fstR F c) c)
  | .mid k i => (k, i)
theorem nqk_on {n : Int} {F : List Fact} {S : Int} (T : TreeM n F) (n2 : 2 ≤ n) (hS : 1 ≤ S) {u : Nd} (o : OnT F S u) : On F S (nqk F S u).1 (nqk F S u).2 ∧ node F S (nqk F S u).1 (nqk F S u).2 = u := by
  obtain ⟨k, i, o, rfl⟩ := o
  cases e : node F S k i with
  | cr c =>
    have ic : In n c := by
      obtain ⟨e1, _⟩ := node_cr T hS o.1 e
      have o := rd_ok T o.1
      rcases e1 with e1 | e1
      · exact e1 ▸ o.1
      · exact e1 ▸ o.2.1
    obtain ⟨f1, f2, f3⟩ := fstR_spec T ic n2
    exact ⟨eAt_on T hS f1 c, node_eAt T hS f1 f2⟩
  | mid k2 i2 =>
    have e' := e
    unfold node at e'
    split at e'
    · cases e'
    · split at e'
      · cases e'
      · cases e'
        exact ⟨o, e⟩
theorem nqk_inj {n : Int} {F : List Fact} {S : Int} (T : TreeM n F) (n2 : 2 ≤ n) (hS : 1 ≤ S) {u v : Nd} (ou : OnT F S u) (ov : OnT F S v) (e : nqk F S u = nqk F S v) : u = v := by
  rw [← (nqk_on T n2 hS ou).2, ← (nqk_on T n2 hS ov).2, e]
/-- at t the pair of a road and a number -/
def PrAt (H : Hp) (t : Addr) (x : Nat × Int) : Prop := H t = some (.tup [.int (x.1 : Nat), .int x.2])
theorem PrAt.same {H H' : Hp} {t : Addr} {x : Nat × Int} (h : PrAt H t x) (s : Same H H') : PrAt H' t x := s _ _ h
/-- the tree's roads, as the law's own tuples -/
def spKeyN : Sp := fun vs H Q _ => ∃ (q t : Addr) (n : Int) (F : List Fact) (k : Nat) (i : Int), vs = [.ref q, .ref t] ∧ FactsAt H q F ∧ TreeM n F ∧ 2 ≤ n ∧ F.length ≤ 23 ∧ On F 1 k i ∧ PrAt H t (k, i) ∧
  ∀ t' H', Same H H' → PrAt H' t' (nqk F 1 (node F 1 k i)) → Q (.ref t') H'
section
variable {P : Program} {w : World} {K : PySem.W.Frag} {mg : Str → Option Value} {base : Heap}
abbrev nKeyN : List Str := ["_law_roads", "_law_place", "_law_road", "_law_number", "_law_a", "_law_b", "_law_length", "_law_crossing", "_law_least", "_law_k", "_law_one"]
theorem scKeyN : FnScope nKeyN ["_law_roads", "_law_place"] (defScope sKeyN) := ⟨rfl, rfl, rfl, by decide +kernel, rfl, by decide +kernel, by decide +kernel⟩
theorem ok_keyN {f : Addr} {fd : FuncData} (F : Fun K "_law_key" "_law_key" sKeyN f fd)
    (hEn : mg "enumerate" = none) (hInt : mg "int" = none) : FnOk P w K mg base CX0 1 f fd ["_law_roads", "_law_place"] spKeyN := by
  refine F.ok scKeyN (fun vs H Q E h => ?_) (fun cdv A outer s H vs Q E hr h => ?_)
  · obtain ⟨q, t, n, fs, k, i, rfl, _⟩ := h
    rfl
  · obtain ⟨q, t, n, fs, k, i, rfl, hF, T, n2, f23, on, ht, kont⟩ := h
    obtain ⟨ts, hq, hts⟩ := id hF
    have tl : (ts.map V.ref).length = fs.length := by rw [List.length_map]; exact Paired.length hts
    refine ⟨_, pss_cons (ps_asg (pv 1) (pg_tup rfl (pgs_cons (pg_name (i := 2) scKeyN.nd rfl (Or.inl rfl)) (pgs_cons (pg_name (i := 3) scKeyN.nd rfl (Or.inl rfl)) pgs_nil))))
      (pss_cons (ps_asg (pe_ix ix_list (pv 0) (pv 2) (fun _ _ => rfl)) (pg_tup rfl (pgs_cons (pg_name (i := 4) scKeyN.nd rfl (Or.inl rfl)) (pgs_cons (pg_name (i := 5) scKeyN.nd rfl (Or.inl rfl)) (pgs_cons (pg_name (i := 6) scKeyN.nd rfl (Or.inl rfl)) pgs_nil)))))
      (C8.pss_cut (ps_if (pt_chain op_lt op_lt pe_int (pv 3) (pv 6))
        (pss_one (ps_ret (pv 1)))
        pss_nil)
      (pss_cons (ps_set (i := 7) scKeyN.nd rfl (Or.inr rfl) (pe_ix ix_list (pe_lst (pa_cons (pv 5) (pa_cons (pv 4) pa_nil))) (pe_callTy (r := rInt1) call_int1 (by rfl) hInt (by decide +kernel) (pa_cons (pe_cmpR op_eq (pv 3) pe_int (nomark _)) pa_nil)) (fun _ _ => rfl)))
      (pss_cons (ps_set (i := 8) scKeyN.nd rfl (Or.inl rfl) (pe_ix ix_list (pe_lc (own := [("_law_k", 9), ("_law_one", 10)]) (g := gTup K 2 (gCons (gName 9) (gCons (gName 10) gNil))) (tt := tTest (tOp (rIn K false) (tVar 7) (tSl (rSlT K) (tVar 10) tNoPart (tPart (tC (.int 2)))))) rfl scKeyN.nd (pi_enum (by rfl) hEn (pa_cons (pv 0) pa_nil)) (blkOk_by (own := [("_law_k", 9), ("_law_one", 10)]) (N := nKeyN) (sc := defScope sKeyN) (by decide +kernel)) (fun _ _ _ _ _ => (pg_tup rfl (pgs_cons (pg_name (i := 9) scKeyN.nd rfl (Or.inl rfl)) (pgs_cons (pg_name (i := 10) scKeyN.nd rfl (Or.inl rfl)) pgs_nil)))) (fun _ _ _ _ _ => (pts_one (pt_cmpR op_in_seq (pv 7) (pe_slice sl_tup (pv 10) po_none (po_some pe_int)) (by rfl)))) (fun _ _ _ _ _ => (pv 9))) pe_int (fun _ _ => rfl)))
      (pss_one (ps_ret (pe_tup (pa_cons (pv 8) (pa_cons (pe_ix ix_list (pe_lst (pa_cons (pe_ix ix_tup (pe_ix ix_list (pv 0) (pv 8) (fun _ _ => rfl)) pe_int (fun _ _ => rfl)) (pa_cons pe_int pa_nil))) (pe_callTy (r := rInt1) call_int1 (by rfl) hInt (by decide +kernel) (pa_cons (pe_cmpR op_eq (pe_ix ix_tup (pe_ix ix_list (pv 0) (pv 8) (fun _ _ => rfl)) pe_int (fun _ _ => rfl)) (pv 7) (nomark _)) pa_nil)) (fun _ _ => rfl)) pa_nil))))))))), ?_⟩
    have lt : k < ts.length := by rw [Paired.length hts]; exact on.1
    obtain ⟨r, hr', tr⟩ := paired_get hts (List.getElem?_eq_getElem lt)
    have er : rd fs k = r := rd_of hr'
    have ats : (ts.map V.ref)[k]? = some (.ref ts[k]) := by rw [List.getElem?_map, List.getElem?_eq_getElem lt]; rfl
    refine ⟨_, rfl, t, _, rfl, SqT.of ht, rfl, _, _, rfl, _, _, rfl, rfl, ?_⟩
    refine ⟨_, rfl, _, rfl, q, _, (k : Int), .ref ts[k], rfl, rfl, SqL.of hq, atI_nat ats, ts[k], _, rfl, SqT.of tr, rfl, _, _, rfl, _, _, rfl, _, _, rfl, rfl, ?_⟩
    dsimp only [gName]
    -- if 0 < number < length
    have kp := on.2.1
    have kq : i ≤ r.2.2 := by
      have h := on.2.2
      unfold sz at h
      rw [er, Int.mul_one] at h
      exact h
    refine ⟨fun σ' G' => σ' = [some (.ref q), some (.ref t), some (.int (k : Nat)), some (.int i), some (.int r.1), some (.int r.2.1), some (.int r.2.2), none, none, none, none] ∧ H = G' ∧ (i = 0 ∨ i = r.2.2), ?_, ?_⟩
    · have szk : sz fs 1 k = r.2.2 := by unfold sz; rw [er, Int.mul_one]
      refine ⟨_, rfl, _, _, rfl, rfl, _, rfl, ?_⟩
      refine iteB (fun h1 => ⟨_, rfl, _, _, rfl, rfl, _, rfl, iteB (fun h2 => ⟨_, rfl, kont t H (Same.refl H) ?_⟩) (fun h2 => ⟨rfl, rfl, .inr ?_⟩)⟩) (fun h1 => ⟨_, rfl, iteF ⟨rfl, rfl, .inl ?_⟩⟩)
      · have a1 : (0 : Int) < i := of_decide_eq_true h1
        have a2 : i < r.2.2 := of_decide_eq_true h2
        have em : node fs 1 k i = .mid k i := by
          unfold node
          rw [if_neg (by omega), if_neg (by rw [szk]; omega)]
        rw [em]
        exact ht
      · have a2 : ¬ i < r.2.2 := of_decide_eq_false h2
        omega
      · have a1 : ¬ (0 : Int) < i := of_decide_eq_false h1
        omega
    · rintro σ' G' ⟨rfl, rfl, end_⟩
      obtain ⟨c, hc⟩ : ∃ c : Int, c = if i = 0 then r.1 else r.2.1 := ⟨_, rfl⟩
      have enode : node fs 1 k i = .cr c := by
        unfold node
        rw [hc, er]
        by_cases z : i = 0
        · rw [if_pos z, if_pos z]
        · rw [if_neg z, if_neg z, if_pos]
          unfold sz
          rw [er, Int.mul_one]
          exact end_.resolve_left z
      have oU : OnT fs 1 (.cr c) := ⟨k, i, on, enode.symm⟩
      have ic : In n c := by
        have o := rd_ok T on.1
        rw [er] at o
        rw [hc]
        split
        · exact o.1
        · exact o.2.1
      have hx : atI [V.int r.2.1, V.int r.1] (if decide (V.int i = V.int 0) = true then (1 : Int) else 0) = some (V.int c) := by
        rw [hc]
        by_cases z : i = 0
        · rw [if_pos z, decide_eq_true (congrArg V.int z)]
          rfl
        · rw [if_neg z, decide_eq_false (fun h => z (V.int.inj h))]
          rfl
      -- crossing = [b, a][int(number == 0)]
      refine ⟨_, rfl, _, rfl, (by show 2 ≤ sizeLine; decide), fun pl hpl => ⟨_, rfl, rfl, .inr ⟨decide (V.int i = V.int 0), rfl, pl, _, _, V.int c, rfl, rfl, SqL.of upd_same, hx, ?_⟩⟩⟩
      have s1 := Same.new (o := .lst [.int r.2.1, .int r.1]) hpl
      have hq1 := s1 _ _ hq
      have hts1 := tups_same hts s1
      generalize upd H pl (.lst [.int r.2.1, .int r.1]) = H1 at s1 hq1 hts1 ⊢
      obtain ⟨f1, f2, f3⟩ := fstR_spec T ic n2
      -- least = [k for k, one in enumerate(roads) if crossing in one[:2]][0]
      refine ⟨_, rfl, q, _, rfl, SqL.of hq1, fun D hD => lc_it (walk_enum (K := K) (a := q) (xs := ts.map V.ref)) (fun i Hc => ∃ l : List Int, Hc D = some (.lst (l.map V.int)) ∧ Same H1 Hc ∧ l.length ≤ i ∧ (i ≤ fstR fs c → l = []) ∧ (fstR fs c < i → l[0]? = some ((fstR fs c : Nat) : Int)))
        ⟨[], upd_same, Same.new hD, Nat.le_refl _, fun _ => rfl, fun z => absurd z (Nat.not_lt_zero _)⟩ (fun i Hc _ ⟨_, _, sc, _⟩ => SqL.of (sc _ _ hq1)) ?_ ?_⟩
      · rintro i v Hc H' hi ⟨l, hl, sc, ll, l0, l1⟩ ⟨T', x1, y1, rfl, hT, rfl, hx1, hy1⟩
        cases hx1
        rw [tl] at hi
        obtain ⟨t, ht, rfl⟩ := map_get (show (ts.map V.ref)[i]? = some y1 from hy1)
        obtain ⟨r, hr', tr⟩ := paired_get hts1 ht
        have s2 : Same H1 (upd Hc T' (.tup [.int (i : Nat), .ref t])) := sc.trans (Same.new hT)
        have nD : D ≠ T' := ne_of_none hl hT
        refine ⟨T', _, rfl, SqT.of upd_same, rfl, _, _, rfl, _, _, rfl, rfl, rfl, ?_⟩
        refine ⟨_, rfl, _, rfl, _, rfl, t, _, rfl, SqT.of (s2 _ _ tr), (by show ¬ (HT.sIx 3 0 none = 0 ∧ HT.sIx 3 3 (some 2) = 3); decide), fun t2 h2 => ⟨t2, [.int r.1, .int r.2.1], rfl, .inr (SqT.of upd_same), rfl, rfl, _, rfl, ?_⟩⟩
        have s3 := s2.trans (Same.new (o := .tup (cutV [.int r.1, .int r.2.1, .int r.2.2] none (some 2))) h2)
        have nD2 : D ≠ t2 := ne_of_none (by rw [upd_ne nD]; exact hl) h2
        have eb : inV (.int c) [.int r.1, .int r.2.1] = atEnd fs c (i : Int) := by
          rw [show ([V.int r.1, V.int r.2.1] : List V) = [r.1, r.2.1].map V.int from rfl, inV_int]
          unfold atEnd
          rw [Int.toNat_natCast, rd_of hr', decide_eq_decide]
          simp only [List.mem_cons, List.not_mem_nil, or_false]
          exact ⟨fun z => z.elim (fun z => .inl z.symm) fun z => .inr z.symm, fun z => z.elim (fun z => .inl z.symm) fun z => .inr z.symm⟩
        show if inV (.int c) [.int r.1, .int r.2.1] = true then _ else _
        rw [eb]
        have hlD : upd (upd Hc T' (.tup [.int (i : Nat), .ref t])) t2 (.tup (cutV [.int r.1, .int r.2.1, .int r.2.2] none (some 2))) D = some (.lst (l.map V.int)) := by rw [upd_ne nD2, upd_ne nD]; exact hl
        cases e : atEnd fs c (i : Int) with
        | true =>
          refine iteT ⟨_, rfl, l.map V.int, hlD, small1000 (by rw [List.length_map]; omega), l ++ [(i : Int)], by rw [List.map_append]; exact upd_same, fun b o z => ?_, by rw [List.length_append]; exact Nat.succ_le_succ ll, fun z => ?_, fun z => ?_⟩
          · rw [upd_ne (ne_of_none z hD)]
            exact s3 b o z
          · exact absurd (of_decide_eq_true e) (by rw [Int.toNat_natCast]; exact f3 i (by omega))
          · by_cases c2 : i ≤ fstR fs c
            · have ei : fstR fs c = i := by omega
              rw [l0 c2, ei]
              rfl
            · have h := l1 (by omega)
              have lp := (List.getElem?_eq_some_iff.mp h).1
              rw [List.getElem?_append_left lp]
              exact h
        | false =>
          have ni : i ≠ fstR fs c := fun z => by
            have : atEnd fs c (i : Int) = true := by
              unfold atEnd
              rw [Int.toNat_natCast, z]
              exact decide_eq_true f2
            rw [e] at this
            cases this
          exact iteF ⟨l, hlD, s3, Nat.le_succ_of_le ll, fun z => l0 (by omega), fun z => l1 (by omega)⟩
      · rintro H4 ⟨l, hl, s4, ll, _, l1⟩
        rw [tl] at l1
        have h0 := l1 f1
        have enk : nqk fs 1 (.cr c) = (fstR fs c, eAt fs 1 (fstR fs c) c) := rfl
        generalize hk0 : fstR fs c = k0 at f1 f2 f3 h0 enk
        have lt0 : k0 < ts.length := by rw [Paired.length hts]; exact f1
        obtain ⟨r0, hr0, tr0⟩ := paired_get hts1 (List.getElem?_eq_getElem lt0)
        have er0 : rd fs k0 = r0 := rd_of hr0
        have ats0 : (ts.map V.ref)[k0]? = some (.ref ts[k0]) := by rw [List.getElem?_map, List.getElem?_eq_getElem lt0]; rfl
        have hq4 := s4 _ _ hq1
        have tr4 := s4 _ _ tr0
        have hy : atI [V.int r0.2.2, V.int 0] (if decide (V.int r0.1 = V.int c) = true then (1 : Int) else 0) = some (V.int (eAt fs 1 k0 c)) := by
          unfold eAt sz
          rw [er0, Int.mul_one]
          by_cases z : r0.1 = c
          · rw [if_pos z, decide_eq_true (congrArg V.int z)]
            rfl
          · rw [if_neg z, decide_eq_false (fun h => z (V.int.inj h))]
            rfl
        refine ⟨D, l.map V.int, 0, .int (k0 : Nat), rfl, rfl, SqL.of hl, atI_nat (j := 0) (by rw [List.getElem?_map, h0]; rfl), ?_⟩
        -- return (least, [roads[least][2], 0][int(roads[least][0] == crossing)])
        refine ⟨_, rfl, _, rfl, _, rfl, q, _, _, .ref ts[k0], rfl, rfl, SqL.of hq4, atI_nat ats0, _, _, _, _, rfl, rfl, SqT.of tr4, rfl, (by show 2 ≤ sizeLine; decide), fun p2 hp2 => ?_⟩
        have s5 := Same.new (o := .lst [.int r0.2.2, .int 0]) hp2
        refine ⟨_, rfl, _, rfl, q, _, _, .ref ts[k0], rfl, rfl, SqL.of (s5 _ _ hq4), atI_nat ats0, _, _, _, _, rfl, rfl, SqT.of (s5 _ _ tr4), rfl, _, rfl, rfl, .inr ⟨decide (V.int r0.1 = V.int c), rfl, p2, _, _, V.int (eAt fs 1 k0 c), rfl, rfl, SqL.of upd_same, hy, (by show 2 ≤ sizeLine; decide), fun pt hpt => ?_⟩⟩
        refine kont pt _ (((s1.trans s4).trans s5).trans (Same.new hpt)) ?_
        rw [enode, enk]
        exact upd_same
end
end OT

set_option Elab.async false
set_option linter.all false
set_option maxRecDepth 100000
set_option maxHeartbeats 4000000
-- own words
namespace OT
open PySem L2 OTR
abbrev sNear : Stmt := top 57
def d2 (x : Nat × Int) : PyData := .tuple [.int (x.1 : Nat), .int x.2]
theorem d2_shaped (x : Nat × Int) : SeqAt.shaped (d2 x) = true := rfl
theorem d2_at {K : PySem.W.Frag} {H : Hp} {t : Addr} {x : Nat × Int} (h : PrAt H t x) : Dp K H (.ref t) (d2 x) := .tup (SqT.of h) (.cons (.int _) (.cons (.int _) .nil))
theorem d2_eqv (x y : Nat × Int) : PyData.eqv (d2 x) (d2 y) = decide (x = y) := by
  obtain ⟨a, b⟩ := x
  obtain ⟨c, d⟩ := y
  show (((a : Int) == (c : Int)) && ((b == d) && true)) = _
  rw [Bool.eq_iff_iff]
  simp [Prod.ext_iff]
  omega
/-- the list of neighbours as far as it is found -/
structure NrAt (F : List Fact) (u : Nd) (D : Addr) (H G : Hp) (ys : List Addr) (ws : List Nd) : Prop where
  same : Same H G
  at_ : G D = some (.lst (ys.map V.ref))
  pr : Paired (fun t v => Adj F 1 u v ∧ PrAt G t (nqk F 1 v)) ys ws
theorem NrAt.keep {F : List Fact} {u : Nd} {D : Addr} {H G G' : Hp} {ys : List Addr} {ws : List Nd} (N : NrAt F u D H G ys ws) (s : Same G G') : NrAt F u D H G' ys ws :=
  ⟨N.same.trans s, s _ _ N.at_, Paired.mapP N.pr fun _ _ h => ⟨h.1, h.2.same s⟩⟩
theorem PrAt.put {G : Hp} {D t : Addr} {xs ys : List V} {x : Nat × Int} (h : PrAt G t x) (hD : G D = some (.lst xs)) : PrAt (upd G D (.lst ys)) t x := by
  unfold PrAt at h ⊢
  rw [upd_ne (ne_of h hD (fun z => nomatch z))]
  exact h
theorem NrAt.push {F : List Fact} {u v : Nd} {D t : Addr} {H G : Hp} {ys : List Addr} {ws : List Nd} (N : NrAt F u D H G ys ws) (hD : H D = none) (a : Adj F 1 u v) (p : PrAt G t (nqk F 1 v)) : NrAt F u D H (upd G D (.lst (ys.map V.ref ++ [.ref t]))) (ys ++ [t]) (ws ++ [v]) :=
  ⟨fun b o e => by rw [upd_ne (ne_of_none e hD)]; exact N.same b o e, by rw [List.map_append]; exact upd_same, paired_app (Paired.mapP N.pr fun _ _ h => ⟨h.1, h.2.put N.at_⟩) (.cons ⟨a, p.put N.at_⟩ .nil)⟩
/-- which neighbours have been found -/
def NbK (F : List Fact) (u : Nd) (k : Nat) (a : Int) (ws : List Nd) : Prop := ∀ b, On F 1 k b → (b = a + 1 ∨ b = a - 1) → node F 1 k a = u → node F 1 k b ∈ ws
theorem NbK.mono {F : List Fact} {u : Nd} {k : Nat} {a : Int} {ws ws' : List Nd} (h : NbK F u k a ws) (s : ∀ x ∈ ws, x ∈ ws') : NbK F u k a ws' := fun b o e z => s _ (h b o e z)
theorem nb_all {n : Int} {F : List Fact} (T : TreeM n F) {u : Nd} {ws : List Nd} (h0 : ∀ k, k < F.length → NbK F u k 0 ws ∧ NbK F u k (sz F 1 k) ws ∧ (k = (nqk F 1 u).1 → NbK F u k (nqk F 1 u).2 ws)) : ∀ v, Adj F 1 u v → v ∈ ws := fun v a => by
  obtain ⟨k, i, j, oi, oj, e, rfl, rfl⟩ := Adj.norm a
  obtain ⟨b1, b2, b3⟩ := h0 k oi.1
  by_cases z : i = 0
  · subst z
    exact b1 j oj e rfl
  · by_cases z2 : i = sz F 1 k
    · subst z2
      exact b2 j oj e rfl
    · have em : node F 1 k i = .mid k i := by
        unfold node
        rw [if_neg z, if_neg z2]
      rw [em] at b3
      exact b3 rfl j oj e em
def spNear : Sp := fun vs H Q _ => ∃ (q t : Addr) (n : Int) (F : List Fact) (u : Nd), vs = [.ref q, .ref t] ∧ FactsAt H q F ∧ TreeM n F ∧ 2 ≤ n ∧ F.length ≤ 23 ∧ OnT F 1 u ∧ PrAt H t (nqk F 1 u) ∧
  ∀ D ys ws H', NrAt F u D H H' ys ws → (∀ v, Adj F 1 u v → v ∈ ws) → ys.length ≤ 138 → H D = none → Q (.ref D) H'
section
variable {P : Program} {w : World} {K : PySem.W.Frag} {mg : Str → Option Value} {base : Heap}
abbrev nNear : List Str := ["_law_roads", "_law_place", "_law_found", "_law_road", "_law_one", "_law_number", "_law_other"]
theorem scNear : FnScope nNear ["_law_roads", "_law_place"] (defScope sNear) := ⟨rfl, rfl, rfl, by decide +kernel, rfl, by decide +kernel, by decide +kernel⟩
theorem ok_near {f fKY : Addr} {fd fdKY : FuncData} (F : Fun K "_law_near" "_law_near" sNear f fd)
    (FKY : FnOk P w K mg base CX0 1 fKY fdKY ["_law_roads", "_law_place"] spKeyN) (bKY : Binds K fdKY ["_law_roads", "_law_place"] []) (mKY : mg "_law_key" = some (.ref fKY)) (kKY : PySem.W.keepIn K (.ref fKY) = true)
    (hEn : mg "enumerate" = none) (hInt : mg "int" = none) : FnOk P w K mg base CX0 2 f fd ["_law_roads", "_law_place"] spNear := by
  refine F.ok scNear (fun vs H Q E h => ?_) (fun cdv A outer s H vs Q E hr h => ?_)
  · obtain ⟨q, t, n, fs, u, rfl, _⟩ := h
    rfl
  · obtain ⟨q, t, n, fs, u, rfl, hF, T, n2, f23, ou, ht, kont⟩ := h
    obtain ⟨ts, hq, hts⟩ := id hF
    have tl : (ts.map V.ref).length = fs.length := by rw [List.length_map]; exact Paired.length hts
    have hr1 : Room 1 _ := hr.mono (by decide)
    refine ⟨_, pss_cons (ps_set (i := 2) scNear.nd rfl (Or.inl rfl) (pe_lst pa_nil))
      (pss_cons (ps_for PassesOwn.never rfl (pi_enum (by rfl) hEn (pa_cons (pv 0) pa_nil)) (pg_tup rfl (pgs_cons (pg_name (i := 3) scNear.nd rfl (Or.inl rfl)) (pgs_cons (pg_name (i := 4) scNear.nd rfl (Or.inl rfl)) pgs_nil)))
        (pss_one (ps_for PassesOwn.never rfl (pi_list (pe_op op_catS (pe_lst (pa_cons pe_int (pa_cons (pe_ix ix_tup (pv 4) pe_int (fun _ _ => rfl)) pa_nil))) (pe_op op_rep (pe_lst (pa_cons (pe_ix ix_tup (pv 1) pe_int (fun _ _ => rfl)) pa_nil)) (pe_callTy (r := rInt1) call_int1 (by rfl) hInt (by decide +kernel) (pa_cons (pe_cmpR op_eq (pv 3) (pe_ix ix_tup (pv 1) pe_int (fun _ _ => rfl)) (nomark _)) pa_nil))))) (pg_name (i := 5) scNear.nd rfl (Or.inl rfl))
          (pss_one (ps_if (pt_cmpR (op_eqD hr.units) (pe_call FKY hr1 rfl mKY kKY bKY .nil pass0 (pa_cons (pv 0) (pa_cons (pe_tup (pa_cons (pv 3) (pa_cons (pv 5) pa_nil))) pa_nil))) (pv 1) (nomark _))
            (pss_one (ps_for PassesOwn.never rfl (pi_tup (pe_tup (pa_cons (pe_op op_sub (pv 5) pe_int) (pa_cons (pe_op op_add (pv 5) pe_int) pa_nil)))) (pg_name (i := 6) scNear.nd rfl (Or.inl rfl))
              (pss_one (ps_if (pt_chain op_le op_le pe_int (pv 6) (pe_ix ix_tup (pv 4) pe_int (fun _ _ => rfl)))
                (pss_one (ps_expr (pe_bm PySem.F.plainAttrs_list PySem.F.slot_list_append PySem.F.type_list_append mt_append (pv 2) (pa_cons (pe_call FKY hr1 rfl mKY kKY bKY .nil pass0 (pa_cons (pv 0) (pa_cons (pe_tup (pa_cons (pv 3) (pa_cons (pv 6) pa_nil))) pa_nil))) pa_nil))))
                pss_nil))))
            pss_nil)))))
      (pss_one (ps_ret (pv 2)))), ?_⟩
    obtain ⟨pk, pi, hp⟩ : ∃ (pk : Nat) (pi : Int), nqk fs 1 u = (pk, pi) := ⟨_, _, rfl⟩
    have onu := (nqk_on T n2 (show (1 : Int) ≤ 1 by decide) ou).1
    have two : ∀ {x y : V}, [x, y].length ≤ sizeLine := fun {x y} => (by show 2 ≤ sizeLine; decide)
    -- found = []
    refine ⟨Nat.zero_le _, fun D hD => ?_⟩
    have N0 : NrAt fs u D H (upd H D (.lst [])) [] [] := ⟨Same.new hD, upd_same, .nil⟩
    -- for road, one in enumerate(roads)
    refine ⟨_, rfl, q, _, rfl, SqL.of (N0.same _ _ hq), for_it (walk_enum (K := K) (a := q) (xs := ts.map V.ref)) (fun i σ G => ∃ (v3 v4 v5 v6 : Option V) (ys : List Addr) (ws : List Nd), σ = [some (.ref q), some (.ref t), some (.ref D), v3, v4, v5, v6] ∧ NrAt fs u D H G ys ws ∧ ys.length ≤ 6 * i ∧
        ∀ k, k < i → NbK fs u k 0 ws ∧ NbK fs u k (sz fs 1 k) ws ∧ (k = (nqk fs 1 u).1 → NbK fs u k (nqk fs 1 u).2 ws))
      ⟨none, none, none, none, [], [], rfl, N0, Nat.le_refl _, fun k z => absurd z (Nat.not_lt_zero _)⟩ (fun i σ G _ ⟨_, _, _, _, _, _, _, N, _⟩ => SqL.of (N.same _ _ hq)) ?_ ?_⟩
    · rintro i v σ G G1 hi ⟨v3, v4, v5, v6, ys, ws, rfl, N, yl, nb⟩ ⟨T', x1, y1, rfl, hT, rfl, hx1, hy1⟩
      cases hx1
      rw [tl] at hi
      obtain ⟨tt, htt, rfl⟩ := map_get (show (ts.map V.ref)[i]? = some y1 from hy1)
      obtain ⟨r, hr', tr0⟩ := paired_get hts htt
      have er : rd fs i = r := rd_of hr'
      have szk : sz fs 1 i = r.2.2 := by unfold sz; rw [er, Int.mul_one]
      have N1 := N.keep (Same.new (o := .tup [.int (i : Nat), .ref tt]) hT)
      refine ⟨T', _, rfl, SqT.of upd_same, rfl, _, _, rfl, _, _, rfl, rfl, ?_⟩
      dsimp only [gName]
      generalize upd G T' (.tup [.int (i : Nat), .ref tt]) = G2 at N1 ⊢
      have htp := ht
      rw [hp] at htp
      have trG := N1.same _ _ tr0
      have htG := N1.same _ _ htp
      -- [0, one[2]] + [place[1]] * int(road == place[0])
      refine ⟨_, rfl, tt, _, 2, .int r.2.2, rfl, rfl, SqT.of trG, rfl, two, fun p1 h1 => ?_⟩
      have s1 := Same.new (o := .lst [.int 0, .int r.2.2]) h1
      refine ⟨_, rfl, t, _, 1, .int pi, rfl, rfl, SqT.of (s1 _ _ htG), rfl, (by show 1 ≤ sizeLine; decide), fun p2 h2 => ?_⟩
      have s2 := s1.trans (Same.new (o := .lst [.int pi]) h2)
      obtain ⟨ext, hext, hxm, hxi, hxl⟩ : ∃ ext : List Int, (List.replicate (if decide (V.int (i : Nat) = V.int (pk : Nat)) = true then (1 : Int) else 0).toNat [V.int pi]).flatten = ext.map V.int ∧ (∀ a ∈ ext, a = pi ∧ i = pk) ∧ (i = pk → pi ∈ ext) ∧ ext.length ≤ 1 := by
        by_cases z : i = pk
        · rw [decide_eq_true (congrArg (fun x : Nat => V.int (x : Int)) z)]
          exact ⟨[pi], rfl, fun a ha => ⟨List.mem_singleton.mp ha, z⟩, fun _ => List.mem_singleton.mpr rfl, Nat.le_refl _⟩
        · rw [decide_eq_false (show ¬ (V.int ((i : Nat) : Int) = V.int ((pk : Nat) : Int)) from fun h => z (by have := V.int.inj h; omega))]
          exact ⟨[], rfl, fun a ha => (by cases ha), fun h => absurd h z, Nat.zero_le _⟩
      have i01 : -(2 ^ 63) ≤ (if decide (V.int (i : Nat) = V.int (pk : Nat)) = true then (1 : Int) else 0) ∧ (if decide (V.int (i : Nat) = V.int (pk : Nat)) = true then (1 : Int) else 0) < 2 ^ 63 ∧ [V.int pi].length * (if decide (V.int (i : Nat) = V.int (pk : Nat)) = true then (1 : Int) else 0).toNat ≤ sizeLine := by
        split
        · exact ⟨by decide, by decide, by show 1 * 1 ≤ sizeLine; decide⟩
        · exact ⟨by decide, by decide, by show 1 * 0 ≤ sizeLine; decide⟩
      refine ⟨_, rfl, _, rfl, t, _, 0, .int (pk : Nat), rfl, rfl, SqT.of (s2 _ _ htG), rfl, rfl, .inr ⟨decide (V.int (i : Nat) = V.int (pk : Nat)), rfl, p2, _, _, rfl, rfl, upd_same, i01.1, i01.2.1, i01.2.2, fun p3 h3 => ?_⟩⟩
      rw [hext]
      have s3' := Same.new (o := .lst (ext.map V.int)) h3
      have s3 := s2.trans s3'
      refine ⟨p1, p3, _, _, rfl, rfl, SqL.of (s3' _ _ (Same.new h2 _ _ upd_same)), SqL.of upd_same, by rw [List.length_map, PySem.sizeLine_eq]; show 2 + ext.length ≤ _; omega, fun p4 h4 => ?_⟩
      have s4 := s3.trans (Same.new (o := .lst ([.int 0, .int r.2.2] ++ ext.map V.int)) h4)
      have hp4 : upd (upd (upd (upd G2 p1 (.lst [.int 0, .int r.2.2])) p2 (.lst [.int pi])) p3 (.lst (ext.map V.int))) p4 (.lst ([.int 0, .int r.2.2] ++ ext.map V.int)) p4 = some (.lst ((0 :: r.2.2 :: ext).map V.int)) := upd_same
      have N2 := N1.keep s4
      generalize upd (upd (upd (upd G2 p1 (.lst [.int 0, .int r.2.2])) p2 (.lst [.int pi])) p3 (.lst (ext.map V.int))) p4 (.lst ([.int 0, .int r.2.2] ++ ext.map V.int)) = G3 at N2 hp4 ⊢
      clear h1 h2 h3 h4 s1 s2 s3 s3' s4 hext i01
      have asl : (0 :: r.2.2 :: ext).length ≤ 3 := by show ext.length + 2 ≤ 3; omega
      have ason : ∀ a ∈ (0 :: r.2.2 :: ext), On fs 1 i a := fun a ha => by
        have z := sz_pos T (show (1 : Int) ≤ 1 by decide) hi
        rcases List.mem_cons.mp ha with rfl | ha
        · exact ⟨hi, Int.le_refl _, by omega⟩
        · rcases List.mem_cons.mp ha with rfl | ha
          · exact ⟨hi, by omega, by omega⟩
          · obtain ⟨rfl, rfl⟩ := hxm a ha
            rw [hp] at onu
            exact onu
      have kin : (0 : Int) ∈ (0 :: r.2.2 :: ext) := List.mem_cons_self
      have kin2 : r.2.2 ∈ (0 :: r.2.2 :: ext) := List.mem_cons_of_mem _ List.mem_cons_self
      have kin3 : i = pk → pi ∈ (0 :: r.2.2 :: ext) := fun z => List.mem_cons_of_mem _ (List.mem_cons_of_mem _ (hxi z))
      generalize (0 :: r.2.2 :: ext) = as at hp4 asl ason kin kin2 kin3 ⊢
      have hp4D : p4 ≠ D := fun z => by
        rw [z, N2.at_] at hp4
        have e1 := HO.lst.inj (Option.some.inj hp4)
        cases as with
        | nil => cases kin
        | cons a as =>
          cases ys with
          | nil => cases e1
          | cons b ys => exact nomatch (List.cons.inj e1).1
      refine ⟨p4, rfl, ⟨_, SqL.of hp4⟩, for_list (K := K) (a := p4) (xs := as.map V.int) (fun j σ G => ∃ (v5 v6 : Option V) (ys : List Addr) (ws : List Nd), σ = [some (.ref q), some (.ref t), some (.ref D), some (.int (i : Nat)), some (.ref tt), v5, v6] ∧ NrAt fs u D H G ys ws ∧ ys.length ≤ 6 * i + 2 * j ∧ G p4 = some (.lst (as.map V.int)) ∧
          (∀ k, k < i → NbK fs u k 0 ws ∧ NbK fs u k (sz fs 1 k) ws ∧ (k = (nqk fs 1 u).1 → NbK fs u k (nqk fs 1 u).2 ws)) ∧ ∀ a ∈ as.take j, NbK fs u i a ws)
        ⟨v5, v6, ys, ws, rfl, N2, by omega, hp4, nb, fun a ha => (by cases ha)⟩ (fun j σ G _ ⟨_, _, _, _, _, _, _, e, _⟩ => SqL.of e) ?_ ?_⟩
      · clear N N1 N2 nb yl
        rintro j x σ G hj ⟨v5, v6, ys, ws, rfl, N, yl, gp4, nb, nbi⟩
        obtain ⟨a, ha, rfl⟩ := map_get hj
        have jl : j < as.length := (List.getElem?_eq_some_iff.mp ha).1
        have ona := ason a (List.mem_of_getElem? ha)
        -- if key(roads, (road, number)) == place
        refine ⟨_, rfl, _, rfl, _, rfl, two, fun pt hpt => ?_⟩
        have s5 := Same.new (o := .tup [.int (i : Nat), .int a]) hpt
        refine ⟨q, pt, n, fs, i, a, rfl, FactsAt.same (FactsAt.same hF N.same) s5, T, n2, f23, ona, upd_same, fun t' G5 s6 pr => ?_⟩
        have s56 := s5.trans s6
        have N5 := N.keep s56
        have gp5 := s56 _ _ gp4
        refine ⟨_, rfl, d2 _, d2 (nqk fs 1 u), d2_at pr, d2_at (ht.same N5.same), d2_shaped _, d2_shaped _, _, rfl, ?_⟩
        rw [d2_eqv]
        by_cases eu : nqk fs 1 (node fs 1 i a) = nqk fs 1 u
        · have eu' : node fs 1 i a = u := nqk_inj T n2 (by decide) ⟨i, a, ona, rfl⟩ ou eu
          rw [decide_eq_true eu]
          refine iteT ⟨_, rfl, _, _, rfl, rfl, _, rfl, _, _, rfl, rfl, two, fun pp hpp => ?_⟩
          have N6 := N5.keep (Same.new (o := .tup [.int (a - 1), .int (a + 1)]) hpp)
          have gp6 := Same.new (o := .tup [.int (a - 1), .int (a + 1)]) hpp _ _ gp5
          refine ⟨pp, rfl, ⟨_, SqT.of upd_same⟩, for_tup (K := K) (a := pp) (xs := [V.int (a - 1), V.int (a + 1)]) (fun m σ G => ∃ (v6 : Option V) (ys : List Addr) (ws' : List Nd), σ = [some (.ref q), some (.ref t), some (.ref D), some (.int (i : Nat)), some (.ref tt), some (.int a), v6] ∧ NrAt fs u D H G ys ws' ∧ ys.length ≤ 6 * i + 2 * j + m ∧ G p4 = some (.lst (as.map V.int)) ∧ G pp = some (.tup [.int (a - 1), .int (a + 1)]) ∧
              (∀ x ∈ ws, x ∈ ws') ∧ (1 ≤ m → On fs 1 i (a - 1) → node fs 1 i (a - 1) ∈ ws') ∧ (2 ≤ m → On fs 1 i (a + 1) → node fs 1 i (a + 1) ∈ ws'))
            ⟨_, ys, ws, rfl, N6, by omega, gp6, upd_same, fun x h => h, fun z => absurd z (by decide), fun z => absurd z (by decide)⟩ (fun m σ G _ ⟨_, _, _, _, _, _, _, e, _⟩ => SqT.of e) ?_ ?_⟩
          · clear N N5 N6 yl gp4 gp5 gp6 nbi
            rintro m x σ G hm ⟨v6, ys, ws', rfl, N, yl, gp4, gpp, sub, w1, w2⟩
            obtain ⟨b, rfl, hb⟩ : ∃ b : Int, x = .int b ∧ ((m = 0 ∧ b = a - 1) ∨ (m = 1 ∧ b = a + 1)) := by
              have hm2 : m < 2 := (List.getElem?_eq_some_iff.mp hm).1
              have hc : m = 0 ∨ m = 1 := by omega
              rcases hc with rfl | rfl
              · cases hm
                exact ⟨_, rfl, .inl ⟨rfl, rfl⟩⟩
              · cases hm
                exact ⟨_, rfl, .inr ⟨rfl, rfl⟩⟩
            have trN := N.same _ _ tr0
            have skip : ¬ On fs 1 i b → ∃ (v6 : Option V) (ys : List Addr) (ws' : List Nd), [some (.ref q), some (.ref t), some (.ref D), some (.int (i : Nat)), some (.ref tt), some (.int a), some (.int b)] = [some (.ref q), some (.ref t), some (.ref D), some (.int (i : Nat)), some (.ref tt), some (.int a), v6] ∧ NrAt fs u D H G ys ws' ∧ ys.length ≤ 6 * i + 2 * j + (m + 1) ∧ G p4 = some (.lst (as.map V.int)) ∧ G pp = some (.tup [.int (a - 1), .int (a + 1)]) ∧
                (∀ x ∈ ws, x ∈ ws') ∧ (1 ≤ m + 1 → On fs 1 i (a - 1) → node fs 1 i (a - 1) ∈ ws') ∧ (2 ≤ m + 1 → On fs 1 i (a + 1) → node fs 1 i (a + 1) ∈ ws') := fun no => by
              refine ⟨_, ys, ws', rfl, N, by omega, gp4, gpp, sub, fun z o => ?_, fun z o => ?_⟩
              · rcases hb with ⟨e, rfl⟩ | ⟨e, rfl⟩
                · exact absurd o no
                · exact w1 (by omega) o
              · rcases hb with ⟨e, rfl⟩ | ⟨e, rfl⟩
                · omega
                · exact absurd o no
            refine ⟨_, rfl, _, _, rfl, rfl, _, rfl, ?_⟩
            refine iteB (fun h1 => ⟨_, rfl, tt, _, 2, .int r.2.2, rfl, rfl, SqT.of trN, rfl, _, _, rfl, rfl, _, rfl, iteB (fun h2 => ?_) (fun h2 => ?_)⟩) (fun h1 => ⟨_, rfl, iteF ?_⟩)
            · have b0 : (0 : Int) ≤ b := of_decide_eq_true h1
              have b1 : b ≤ r.2.2 := of_decide_eq_true h2
              have onb : On fs 1 i b := ⟨hi, b0, by rw [szk]; exact b1⟩
              have adj : Adj fs 1 u (node fs 1 i b) := by
                rw [← eu']
                exact Adj.of ona onb (by rcases hb with ⟨_, e⟩ | ⟨_, e⟩ <;> omega)
              refine ⟨_, rfl, .inl ⟨rfl, _, SqL.of N.at_⟩, _, rfl, _, rfl, _, rfl, two, fun pt2 hpt2 => ?_⟩
              have s7 := Same.new (o := .tup [.int (i : Nat), .int b]) hpt2
              refine ⟨q, pt2, n, fs, i, b, rfl, FactsAt.same (FactsAt.same hF N.same) s7, T, n2, f23, onb, upd_same, fun t2 G7 s8 pr2 => ?_⟩
              have N7 := N.keep (s7.trans s8)
              have gp7 := (s7.trans s8) _ _ gp4
              have gpp7 := (s7.trans s8) _ _ gpp
              have yl2 : ys.length ≤ 200 := by omega
              refine ⟨D, ys.map V.ref, .ref t2, rfl, rfl, N7.at_, small1000 (by rw [List.length_map]; omega), ?_⟩
              refine ⟨_, ys ++ [t2], ws' ++ [node fs 1 i b], rfl, N7.push hD adj pr2, by rw [List.length_append]; show ys.length + 1 ≤ _; omega, by rw [upd_ne hp4D]; exact gp7, by rw [upd_ne (ne_of gpp7 N7.at_ (fun z => nomatch z))]; exact gpp7, fun x hx => List.mem_append_left _ (sub x hx), fun z o => ?_, fun z o => ?_⟩
              · rcases hb with ⟨e, rfl⟩ | ⟨e, rfl⟩
                · exact List.mem_append_right _ (List.mem_singleton.mpr rfl)
                · exact List.mem_append_left _ (w1 (by omega) o)
              · rcases hb with ⟨e, rfl⟩ | ⟨e, rfl⟩
                · omega
                · exact List.mem_append_right _ (List.mem_singleton.mpr rfl)
            · have b1 : ¬ b ≤ r.2.2 := of_decide_eq_false h2
              exact skip fun o => b1 (by have := o.2.2; rw [szk] at this; exact this)
            · have b0 : ¬ (0 : Int) ≤ b := of_decide_eq_false h1
              exact skip fun o => b0 o.2.1
          · rintro σ G ⟨v6, ys, ws', rfl, N, yl, gp4, gpp, sub, w1, w2⟩
            have yl : ys.length ≤ 6 * i + 2 * j + 2 := yl
            refine ⟨_, _, ys, ws', rfl, N, by omega, gp4, fun k hk => ?_, fun a' ha' => ?_⟩
            · obtain ⟨c1, c2, c3⟩ := nb k hk
              exact ⟨c1.mono sub, c2.mono sub, fun z => (c3 z).mono sub⟩
            · rw [take_get ha] at ha'
              rcases List.mem_append.mp ha' with h | h
              · exact (nbi a' h).mono sub
              · rw [List.mem_singleton.mp h]
                intro b ob ab en
                rcases ab with rfl | rfl
                · exact w2 (Nat.le_refl 2) ob
                · exact w1 (by show 1 ≤ 2; decide) ob
        · rw [decide_eq_false eu]
          refine iteF ⟨_, _, ys, ws, rfl, N5, by omega, gp5, nb, fun a' ha' => ?_⟩
          rw [take_get ha] at ha'
          rcases List.mem_append.mp ha' with h | h
          · exact nbi a' h
          · rw [List.mem_singleton.mp h]
            intro b ob ab en
            exact absurd (by rw [en]) eu
      · rintro σ G ⟨v5, v6, ys, ws, rfl, N, yl, gp4, nb, nbi⟩
        rw [List.length_map] at yl
        rw [List.length_map, List.take_length] at nbi
        refine ⟨_, _, _, _, ys, ws, rfl, N, by omega, fun k hk => ?_⟩
        by_cases z : k < i
        · exact nb k z
        · have e : k = i := by omega
          subst e
          rw [szk, hp]
          exact ⟨nbi _ kin, nbi _ kin2, fun z => nbi _ (kin3 z)⟩
    · rintro σ G ⟨v3, v4, v5, v6, ys, ws, rfl, N, yl, nb⟩
      rw [tl] at yl nb
      exact ⟨_, rfl, kont D ys ws G N (nb_all T nb) (by omega) hD⟩
end
end OT

set_option Elab.async false
set_option linter.all false
set_option maxRecDepth 100000
set_option maxHeartbeats 4000000
namespace OT
open PySem L2 OTR
theorem small6 {n : Nat} (h : n ≤ 10000000) : n < sizeLine := by rw [PySem.sizeLine_eq]; omega
theorem nk_inj : ∀ {u v : Nd}, nk u = nk v → u = v
  | .cr a, .cr b, e => by rw [Sum.inl.inj e]
  | .cr a, .mid k i, e => nomatch e
  | .mid k i, .cr b, e => nomatch e
  | .mid k i, .mid l j, e => by
    have e1 := Sum.inr.inj e
    have e2 := (List.cons.inj e1).1
    have e3 := (List.cons.inj (List.cons.inj e1).2).1
    have e4 := Sum.inl.inj e2
    have e5 := Sum.inl.inj e3
    have e6 : k = l := by omega
    rw [e5, e6]
/-- what the net is so far: Dn tells which neighbours have been put -/
structure NetK (P : Program) (w : World) (H0 : Hp) (F : List Fact) (S : Int) (H : Hp) (d : Addr) (kvs : List (MKy × V)) (Dn : Nd → Nd → Prop) (c : Nat) : Prop where
  at_ : MixAt P w H d kvs
  len : kvs.length ≤ c
  sep : ∀ u l, valV kvs (nk u) = some (.ref l) → H0 l = none
  has : ∀ u v, Dn u v → ∃ l vs y, valV kvs (nk u) = some (.ref l) ∧ H l = some (.lst vs) ∧ y ∈ vs ∧ KeyM H (nk v) y
  ok : ∀ u x, valV kvs (nk u) = some x → ∃ l vs, x = .ref l ∧ H l = some (.lst vs) ∧ vs.length ≤ c ∧ ∀ y ∈ vs, ∃ v, Adj F S u v ∧ KeyM H (nk v) y
section
variable {P : Program} {w : World} {H0 : Hp} {F : List Fact} {S : Int} {H H' : Hp} {d : Addr} {kvs : List (MKy × V)} {Dn Dm : Nd → Nd → Prop} {c : Nat}
theorem NetK.same (N : NetK P w H0 F S H d kvs Dn c) (s : Same H H') : NetK P w H0 F S H' d kvs Dn c :=
  ⟨N.at_.keep (fun o e => s _ _ e) (fun b xs e => s _ _ e), N.len, N.sep, fun u v x => let ⟨l, vs, y, h1, h2, h3, h4⟩ := N.has u v x; ⟨l, vs, y, h1, s _ _ h2, h3, h4.keep fun b xs e => s _ _ e⟩,
    fun u x e => let ⟨l, vs, h1, h2, h3, h4⟩ := N.ok u x e; ⟨l, vs, h1, s _ _ h2, h3, fun y hy => let ⟨v, a, b⟩ := h4 y hy; ⟨v, a, b.keep fun b xs e => s _ _ e⟩⟩⟩
theorem NetK.weak (N : NetK P w H0 F S H d kvs Dn c) (h : ∀ u v, Dm u v → Dn u v) {c' : Nat} (hc : c ≤ c') : NetK P w H0 F S H d kvs Dm c' :=
  ⟨N.at_, Nat.le_trans N.len hc, N.sep, fun u v x => N.has u v (h u v x), fun u x e => let ⟨l, vs, h1, h2, h3, h4⟩ := N.ok u x e; ⟨l, vs, h1, h2, Nat.le_trans h3 hc, h4⟩⟩
/-- what get(u, []) gives -/
def Got (H : Hp) (kvs : List (MKy × V)) (u : Nd) (vs : List V) : Prop := (∀ x, valV kvs (nk u) = some x → ∃ l, x = .ref l ∧ H l = some (.lst vs)) ∧ (valV kvs (nk u) = none → vs = [])
theorem NetK.put (N : NetK P w H0 F S H d kvs Dn c) {u v : Nd} {vs : List V} {y : V} {l2 : Addr} {ob : HO} (g : Got H kvs u vs) (e2 : H l2 = some (.lst (vs ++ [y]))) (ky : KeyM H (nk v) y) (a : Adj F S u v) (fr : H0 l2 = none)
    (m : MixAt P w (upd H d ob) d (putK kvs (nk u) (.ref l2))) : NetK P w H0 F S (upd H d ob) d (putK kvs (nk u) (.ref l2)) (fun x z => Dn x z ∨ (x = u ∧ z = v)) (c + 1) := by
  obtain ⟨ent, ed, _⟩ := id N.at_
  have st : ∀ b o, H b = some o → o ≠ HO.ext (DictM P w d ent) → upd H d ob b = some o := fun b o e ne => by
    rw [upd_ne (ne_of e ed ne)]
    exact e
  have sl : ∀ {b : Addr} {xs : List V}, H b = some (.lst xs) → upd H d ob b = some (.lst xs) := fun e => st _ _ e fun z => nomatch z
  have sk : ∀ {k : MKy} {y : V}, KeyM H k y → KeyM (upd H d ob) k y := fun x => x.keep (upd_keep ed)
  have vl : vs.length ≤ c := by
    cases e : valV kvs (nk u) with
    | none => rw [g.2 e]; exact Nat.zero_le _
    | some x =>
      obtain ⟨l, rfl, h1⟩ := g.1 x e
      obtain ⟨l', vs', h2, h3, h4, _⟩ := N.ok u _ e
      cases h2
      rw [h1] at h3
      cases h3
      exact h4
  refine ⟨m, Nat.le_trans (length_putK _ _ _) (Nat.succ_le_succ N.len), fun x l h => ?_, fun x z h => ?_, fun x e he => ?_⟩
  · rw [valV_put] at h
    by_cases q : x = u
    · subst q
      rw [if_pos rfl] at h
      cases h
      exact fr
    · rw [if_neg fun z => q (nk_inj z)] at h
      exact N.sep x l h
  · by_cases q : x = u
    · subst q
      refine ⟨l2, vs ++ [y], ?_⟩
      rw [valV_put, if_pos rfl]
      rcases h with h | ⟨_, rfl⟩
      · obtain ⟨l, vs', y', h1, h2, h3, h4⟩ := N.has x z h
        obtain ⟨l', h5, h6⟩ := g.1 _ h1
        cases h5
        rw [h2] at h6
        cases h6
        exact ⟨y', rfl, sl e2, List.mem_append_left _ h3, sk h4⟩
      · exact ⟨y, rfl, sl e2, List.mem_append_right _ (List.mem_singleton.mpr rfl), sk ky⟩
    · rcases h with h | ⟨h, _⟩
      · obtain ⟨l, vs', y', h1, h2, h3, h4⟩ := N.has x z h
        refine ⟨l, vs', y', ?_, sl h2, h3, sk h4⟩
        rw [valV_put, if_neg fun z => q (nk_inj z)]
        exact h1
      · exact absurd h q
  · rw [valV_put] at he
    by_cases q : x = u
    · subst q
      rw [if_pos rfl] at he
      cases he
      refine ⟨l2, vs ++ [y], rfl, sl e2, by rw [List.length_append]; exact Nat.succ_le_succ vl, fun y' hy => ?_⟩
      rcases List.mem_append.mp hy with h | h
      · cases e : valV kvs (nk x) with
        | none => rw [g.2 e] at h; cases h
        | some x' =>
          obtain ⟨l, rfl, h1⟩ := g.1 x' e
          obtain ⟨l', vs', h2, h3, _, h4⟩ := N.ok x _ e
          cases h2
          rw [h1] at h3
          cases h3
          obtain ⟨v', h5, h6⟩ := h4 y' h
          exact ⟨v', h5, sk h6⟩
      · rw [List.mem_singleton.mp h]
        exact ⟨v, a, sk ky⟩
    · rw [if_neg fun z => q (nk_inj z)] at he
      obtain ⟨l, vs', h1, h2, h3, h4⟩ := N.ok x e he
      exact ⟨l, vs', h1, sl h2, Nat.le_succ_of_le h3, fun y' hy => let ⟨v', h5, h6⟩ := h4 y' hy; ⟨v', h5, sk h6⟩⟩
end
theorem NetK.got {P : Program} {w : World} {H0 : Hp} {F : List Fact} {S : Int} {H : Hp} {d : Addr} {kvs : List (MKy × V)} {Dn : Nd → Nd → Prop} {c : Nat} (N : NetK P w H0 F S H d kvs Dn c) (u : Nd) {p0 : Addr} (h0 : H p0 = some (.lst [])) :
    ∃ l vs, (valV kvs (nk u)).getD (.ref p0) = .ref l ∧ H l = some (.lst vs) ∧ Got H kvs u vs ∧ vs.length ≤ c := by
  cases e : valV kvs (nk u) with
  | none => exact ⟨p0, [], rfl, h0, ⟨fun x h => (by rw [e] at h; cases h), fun _ => rfl⟩, Nat.zero_le _⟩
  | some x =>
    obtain ⟨l, vs, rfl, h1, h2, _⟩ := N.ok u x e
    exact ⟨l, vs, rfl, h1, ⟨fun y h => (by rw [e] at h; cases h; exact ⟨l, rfl, h1⟩), fun h => (by rw [e] at h; cases h)⟩, h2⟩
/-- found[u] = found.get(u, []) + [v] -/
theorem sput {P : Program} {w : World} {K : PySem.W.Frag} {H0 : Hp} {F : List Fact} {S : Int} {G : Hp} {d : Addr} {kvs : List (MKy × V)} {Dn : Nd → Nd → Prop} {c i j : Nat} {Ds : Ends} {σ : L2.St} {u v : Nd} {yu yv : V} (N : NetK P w H0 F S G d kvs Dn c) (hd : σ[2]? = some (some (.ref d))) (hi : σ[i]? = some (some yu)) (hj : σ[j]? = some (some yv))
    (ku : KeyM G (nk u) yu) (kv : KeyM G (nk v) yv) (a : Adj F S u v) (hc : c ≤ 10000000) (sb : ∀ l, G l = none → H0 l = none) (next : ∀ G' kvs', But d G G' → NetK P w H0 F S G' d kvs' (fun x z => Dn x z ∨ (x = u ∧ z = v)) (c + 1) → Ds.nx σ G') :
    sMPut P w (tVar 2) (tVar i) (tOp (rCatS K) (tMGet2 P w (tVar 2) (tVar i) (tLst tNil)) (tLst (tCons (tVar j) tNil))) Ds σ G := by
  refine ⟨_, hd, d, kvs, rfl, N.at_, _, hi, Nat.zero_le _, fun p0 h0 => ?_⟩
  have s1 : Same G (upd G p0 (.lst [])) := Same.new h0
  have N1 := N.same s1
  obtain ⟨l, vs, e1, e2, g, vl⟩ := N1.got u upd_same
  refine ⟨kvs, nk u, N1.at_, ku.keep (fun b xs e => s1 _ _ e), ?_⟩
  rw [e1]
  refine ⟨_, hj, (by show 1 ≤ sizeLine; decide), fun p1 h1 => ?_⟩
  have s2 := s1.trans (Same.new (o := .lst [yv]) h1)
  refine ⟨l, p1, vs, [yv], rfl, rfl, SqL.of (Same.new h1 _ _ e2), SqL.of upd_same, by rw [PySem.sizeLine_eq]; show vs.length + 1 ≤ _; omega, fun p2 h2 => ?_⟩
  have s12 : Same (upd G p0 (.lst [])) (upd (upd (upd G p0 (.lst [])) p1 (.lst [yv])) p2 (.lst (vs ++ [yv]))) := (Same.new h1).trans (Same.new h2)
  have s3 := s1.trans s12
  have N3 := N.same s3
  have ku3 : KeyM (upd (upd (upd G p0 (.lst [])) p1 (.lst [yv])) p2 (.lst (vs ++ [yv]))) (nk u) yu := ku.keep fun b xs e => s3 _ _ e
  have g3 : Got (upd (upd (upd G p0 (.lst [])) p1 (.lst [yv])) p2 (.lst (vs ++ [yv]))) kvs u vs := ⟨fun x h => let ⟨l, a1, a2⟩ := g.1 x h; ⟨l, a1, s12 _ _ a2⟩, g.2⟩
  refine ⟨_, hd, _, hi, d, kvs, nk u, rfl, N3.at_, by have := N.len; rw [PySem.sizeLine_eq]; omega, ku3, fun ob mo => ?_⟩
  refine next _ _ (fun b o e nb => ?_) (N3.put g3 upd_same (kv.keep fun b xs e => s3 _ _ e) a (sb p2 ((s1.trans (Same.new (o := .lst [yv]) h1)).free h2)) mo)
  rw [upd_ne nb]
  exact s3 _ _ e
/-- the neighbours that have been put ahead of road k, step i -/
def DnU (F : List Fact) (S : Int) (k : Nat) (i : Int) (u v : Nd) : Prop := ∃ k' i', (k' < k ∨ (k' = k ∧ i' < i)) ∧ k' < F.length ∧ 0 ≤ i' ∧ i' + 1 ≤ sz F S k' ∧ ((u = node F S k' i' ∧ v = node F S k' (i' + 1)) ∨ (u = node F S k' (i' + 1) ∧ v = node F S k' i'))
/-- all that is but for s, which was there ahead of the net -/
theorem NetK.but {P : Program} {w : World} {H0 : Hp} {F : List Fact} {S : Int} {H H' : Hp} {d s : Addr} {kvs : List (MKy × V)} {Dn : Nd → Nd → Prop} {c : Nat} (N : NetK P w H0 F S H d kvs Dn c) (h0 : H0 s ≠ none) (sr : Src H s) (b : But s H H') : NetK P w H0 F S H' d kvs Dn c := by
  obtain ⟨x, y, z, _, hs⟩ := sr
  have tp : ∀ b' xs, H b' = some (.tup xs) → H' b' = some (.tup xs) := fun b' xs e => b b' _ e (ne_of e hs fun z => nomatch z)
  have nl : ∀ {u : Nd} {l : Addr}, valV kvs (nk u) = some (.ref l) → l ≠ s := fun e z => h0 (z ▸ N.sep _ _ e)
  refine ⟨N.at_.keep (fun o e => ?_) tp, N.len, N.sep, fun u v x => ?_, fun u x e => ?_⟩
  · obtain ⟨ent, ed, _⟩ := N.at_
    exact b _ _ e (ne_of ed hs fun z => nomatch z)
  · obtain ⟨l, vs, y, h1, h2, h3, h4⟩ := N.has u v x
    exact ⟨l, vs, y, h1, b _ _ h2 (nl h1), h3, h4.keep tp⟩
  · obtain ⟨l, vs, rfl, h2, h3, h4⟩ := N.ok u x e
    exact ⟨l, vs, rfl, b _ _ h2 (nl e), h3, fun y hy => let ⟨v, a, c⟩ := h4 y hy; ⟨v, a, c.keep tp⟩⟩
def spNet (P : Program) (w : World) : Sp := fun vs H Q _ => ∃ (p q : Addr) (n S : Int) (F : List Fact) (M : Nat), vs = [.ref p, .int S] ∧ TrAt H p q n F ∧ F.length ≤ 23 ∧ 1 ≤ S ∧ S ≤ 1000 ∧ M ≤ 100000 ∧ (∀ r ∈ F, 1 ≤ r.2.2 ∧ r.2.2 * S ≤ M) ∧
  ∀ d H' kvs, Same H H' → NetK P w H F S H' d kvs (Adj F S) 10000000 → Q (.ref d) H'
section
variable {P : Program} {w : World} {K : PySem.W.Frag} {mg : Str → Option Value} {base : Heap}
abbrev nNet : List Str := ["_law_m", "_law_share", "_law_found", "_law_road", "_law_line", "_law_here", "_law_there", "_law_at"]
end
end OT

set_option Elab.async false
set_option linter.all false
set_option maxRecDepth 100000
set_option maxHeartbeats 4000000
namespace OT
open PySem L2 OTR
theorem KeyM.inj {H : Hp} {k l : MKy} {y : V} (a : KeyM H k y) (b : KeyM H l y) : k = l := by
  cases k with
  | inl i =>
    obtain rfl := (show y = .int i from a)
    cases l with
    | inl j => rw [V.int.inj (show V.int i = V.int j from b)]
    | inr ls =>
      obtain ⟨c, e, _⟩ := b
      exact nomatch e
  | inr ks =>
    obtain ⟨c, rfl, h⟩ := a
    cases l with
    | inl j => exact nomatch (show V.ref c = V.int j from b)
    | inr ls =>
      obtain ⟨c', e, h'⟩ := b
      cases e
      rw [h] at h'
      rw [kVs_inj (HO.tup.inj (Option.some.inj h'))]
theorem mix_nodup {P : Program} {w : World} {H : Hp} {d : Addr} {kvs : List (MKy × V)} (m : MixAt P w H d kvs) : (kvs.map (·.1)).Nodup := by
  obtain ⟨ent, _, _, _, e, _, nd⟩ := m
  rw [← e, List.map_map]
  exact nd
theorem val_mem {kvs : List (MKy × V)} {k : MKy} : (valV kvs k).isSome = true ↔ k ∈ kvs.map (·.1) := by
  rw [← valV_any, List.any_eq_true]
  constructor
  · rintro ⟨x, hx, e⟩
    exact List.mem_map.mpr ⟨x, hx, of_decide_eq_true e⟩
  · intro h
    obtain ⟨x, hx, e⟩ := List.mem_map.mp h
    exact ⟨x, hx, decide_eq_true e⟩
theorem has_nb {n : Int} {F : List Fact} {S : Int} (T : TreeM n F) (hS : 1 ≤ S) {u : Nd} (h : OnT F S u) : ∃ v, Adj F S u v := by
  obtain ⟨k, i, ⟨a, b, c⟩, rfl⟩ := h
  have z := sz_pos T hS a
  by_cases e : i < sz F S k
  · exact ⟨_, k, i, a, b, by omega, .inl ⟨rfl, rfl⟩⟩
  · exact ⟨_, k, i - 1, a, by omega, by omega, .inr ⟨by rw [Int.sub_add_cancel], rfl⟩⟩
/-- what has been found of the ways to the place p of the road g; W waits; the neighbours of what op tells need not be found yet -/
structure PathK (P : Program) (w : World) (F : List Fact) (S : Int) (g : Nat) (p : Int) (H : Hp) (f : Addr) (kvs : List (MKy × V)) (W : List V) (op : Nd → Prop) : Prop where
  at_ : MixAt P w H f kvs
  key : ∀ k ∈ kvs.map (·.1), ∃ u, k = nk u ∧ OnT F S u
  ok : ∀ u x, valV kvs (nk u) = some x → ∃ t z, x = .ref t ∧ H t = some (.tup [.int (hN F S g p u), z]) ∧ (hN F S g p u = 0 ∨ ∃ v, Adj F S u v ∧ hN F S g p v + 1 = hN F S g p u ∧ KeyM H (nk v) z ∧ (valV kvs (nk v)).isSome = true)
  wt : ∀ y ∈ W, ∃ u, KeyM H (nk u) y ∧ (valV kvs (nk u)).isSome = true
  cl : ∀ u, (valV kvs (nk u)).isSome = true → op u ∨ (∃ y ∈ W, KeyM H (nk u) y) ∨ ∀ v, Adj F S u v → (valV kvs (nk v)).isSome = true
  aim : (valV kvs (nk (node F S g p))).isSome = true
section
variable {P : Program} {w : World} {F : List Fact} {S : Int} {g : Nat} {p : Int} {H H' : Hp} {f : Addr} {kvs : List (MKy × V)} {W : List V} {op : Nd → Prop}
theorem PathK.len (N : PathK P w F S g p H f kvs W op) : kvs.length ≤ (nodesL F S).length := by
  have h := nodup_len (l := kvs.map (·.1)) (m := (nodesL F S).map nk) (mix_nodup N.at_) fun k hk => by
    obtain ⟨u, rfl, o⟩ := N.key k hk
    exact List.mem_map.mpr ⟨u, mem_nodes o, rfl⟩
  rw [List.length_map, List.length_map] at h
  exact h
theorem PathK.on (N : PathK P w F S g p H f kvs W op) {u : Nd} (h : (valV kvs (nk u)).isSome = true) : OnT F S u := by
  obtain ⟨v, e, o⟩ := N.key _ (val_mem.mp h)
  rw [nk_inj e]
  exact o
theorem PathK.keep (N : PathK P w F S g p H f kvs W op) (m : MixAt P w H' f kvs) (tp : ∀ b xs, H b = some (.tup xs) → H' b = some (.tup xs)) : PathK P w F S g p H' f kvs W op :=
  ⟨m, N.key, fun u x e => let ⟨t, z, h1, h2, h3⟩ := N.ok u x e; ⟨t, z, h1, tp _ _ h2, h3.elim .inl fun ⟨v, a, b, c, d⟩ => .inr ⟨v, a, b, c.keep tp, d⟩⟩,
    fun y hy => let ⟨u, a, b⟩ := N.wt y hy; ⟨u, a.keep tp, b⟩, fun u h => (N.cl u h).elim .inl fun h => .inr (h.elim (fun ⟨y, a, b⟩ => .inl ⟨y, a, b.keep tp⟩) .inr), N.aim⟩
/-- the last that waits is taken -/
theorem PathK.pop {y : V} {u : Nd} (N : PathK P w F S g p H f kvs (W ++ [y]) fun _ => False) (ku : KeyM H (nk u) y) : PathK P w F S g p H f kvs W fun x => x = u :=
  ⟨N.at_, N.key, N.ok, fun z hz => N.wt z (List.mem_append_left _ hz), fun x h => by
    rcases N.cl x h with h | ⟨z, hz, kz⟩ | h
    · exact absurd h id
    · rcases List.mem_append.mp hz with hz | hz
      · exact .inr (.inl ⟨z, hz, kz⟩)
      · rw [List.mem_singleton.mp hz] at kz
        exact .inl (nk_inj (KeyM.inj kz ku))
    · exact .inr (.inr h), N.aim⟩
theorem PathK.done {u : Nd} (N : PathK P w F S g p H f kvs W fun x => x = u) (h : ∀ v, Adj F S u v → (valV kvs (nk v)).isSome = true) : PathK P w F S g p H f kvs W fun _ => False :=
  ⟨N.at_, N.key, N.ok, N.wt, fun x hx => by
    rcases N.cl x hx with e | e
    · subst e
      exact .inr (.inr h)
    · exact .inr e, N.aim⟩
theorem PathK.add {n : Int} (T : TreeM n F) (hS : 1 ≤ S) (hg : On F S g p) (N : PathK P w F S g p H f kvs W op) {u v : Nd} {yu yv : V} {t : Addr} (fu : (valV kvs (nk u)).isSome = true) (a : Adj F S u v) (nv : valV kvs (nk v) = none) (tp : ∀ b xs, H b = some (.tup xs) → H' b = some (.tup xs))
    (et : H' t = some (.tup [.int (hN F S g p u + 1), yu])) (ku : KeyM H' (nk u) yu) (kv : KeyM H' (nk v) yv) (m : MixAt P w H' f (putK kvs (nk v) (.ref t))) : PathK P w F S g p H' f (putK kvs (nk v) (.ref t)) (W ++ [yv]) op ∧ (putK kvs (nk v) (.ref t)).length = kvs.length + 1 := by
  have oV := a.on.2
  have hv : hN F S g p v = hN F S g p u + 1 := by
    rcases adj_step T hS hg a with h | h
    · exact h
    · obtain ⟨x, hx⟩ := Option.isSome_iff_exists.mp fu
      obtain ⟨t, z, _, _, h3⟩ := N.ok u x hx
      rcases h3 with h3 | ⟨v', a', b', _, d'⟩
      · have := hN_nn T hS hg oV
        omega
      · have e := lower_uniq T hS hg a a' (by omega) b'
        subst e
        rw [nv] at d'
        cases d'
  have mono : ∀ {x : Nd}, (valV kvs (nk x)).isSome = true → (valV (putK kvs (nk v) (.ref t)) (nk x)).isSome = true := fun {x} h => by
    rw [valV_put]
    split
    · rfl
    · exact h
  have self : (valV (putK kvs (nk v) (.ref t)) (nk v)).isSome = true := by rw [valV_put, if_pos rfl]; rfl
  have ek : putK kvs (nk v) (.ref t) = kvs ++ [(nk v, .ref t)] := putK_new _ nv
  refine ⟨⟨m, fun k hk => ?_, fun x z hz => ?_, fun y hy => ?_, fun x hx => ?_, mono N.aim⟩, by rw [ek, List.length_append]; rfl⟩
  · rw [ek, List.map_append] at hk
    rcases List.mem_append.mp hk with h | h
    · exact N.key k h
    · exact ⟨v, List.mem_singleton.mp h, oV⟩
  · rw [valV_put] at hz
    by_cases e : x = v
    · subst e
      rw [if_pos rfl] at hz
      cases hz
      rw [hv]
      exact ⟨t, yu, rfl, et, .inr ⟨u, a.symm, rfl, ku, mono fu⟩⟩
    · rw [if_neg fun z => e (nk_inj z)] at hz
      obtain ⟨t', z', h1, h2, h3⟩ := N.ok x z hz
      exact ⟨t', z', h1, tp _ _ h2, h3.elim .inl fun ⟨v', a', b', c', d'⟩ => .inr ⟨v', a', b', c'.keep tp, mono d'⟩⟩
  · rcases List.mem_append.mp hy with h | h
    · obtain ⟨x, h1, h2⟩ := N.wt y h
      exact ⟨x, h1.keep tp, mono h2⟩
    · rw [List.mem_singleton.mp h]
      exact ⟨v, kv, self⟩
  · by_cases e : x = v
    · subst e
      exact .inr (.inl ⟨yv, List.mem_append_right _ (List.mem_singleton.mpr rfl), kv⟩)
    · have hx' : (valV kvs (nk x)).isSome = true := by
        rw [valV_put, if_neg fun z => e (nk_inj z)] at hx
        exact hx
      rcases N.cl x hx' with h | ⟨y, h1, h2⟩ | h
      · exact .inl h
      · exact .inr (.inl ⟨y, List.mem_append_left _ h1, h2.keep tp⟩)
      · exact .inr (.inr fun z az => mono (h z az))
end
/-- the ways to a place: each node's distance, and the next node -/
structure WaysAt (P : Program) (w : World) (F : List Fact) (S : Int) (g : Nat) (p : Int) (H : Hp) (f : Addr) (kvs : List (MKy × V)) : Prop where
  at_ : MixAt P w H f kvs
  ok : ∀ u, OnT F S u → ∃ t z, valV kvs (nk u) = some (.ref t) ∧ H t = some (.tup [.int (hN F S g p u), z]) ∧ (hN F S g p u = 0 ∨ ∃ v, Adj F S u v ∧ hN F S g p v + 1 = hN F S g p u ∧ KeyM H (nk v) z)
theorem PathK.ways {P : Program} {w : World} {n : Int} {F : List Fact} {S : Int} {g : Nat} {p : Int} {H : Hp} {f : Addr} {kvs : List (MKy × V)} (T : TreeM n F) (hS : 1 ≤ S) (hg : On F S g p) (N : PathK P w F S g p H f kvs [] fun _ => False) : WaysAt P w F S g p H f kvs := by
  refine ⟨N.at_, fun u o => ?_⟩
  have h := reach T hS hg (Fd := fun u => (valV kvs (nk u)).isSome = true) N.aim (fun u v hu a => ?_) _ u o rfl
  · obtain ⟨x, hx⟩ := Option.isSome_iff_exists.mp h
    obtain ⟨t, z, rfl, h2, h3⟩ := N.ok u x hx
    exact ⟨t, z, hx, h2, h3.elim .inl fun ⟨v, a, b, c, _⟩ => .inr ⟨v, a, b, c⟩⟩
  · rcases N.cl u hu with h | ⟨y, h, _⟩ | h
    · exact absurd h id
    · cases h
    · exact h v a
theorem WaysAt.same {P : Program} {w : World} {F : List Fact} {S : Int} {g : Nat} {p : Int} {H H' : Hp} {f : Addr} {kvs : List (MKy × V)} (N : WaysAt P w F S g p H f kvs) (s : Same H H') : WaysAt P w F S g p H' f kvs :=
  ⟨N.at_.keep (fun o e => s _ _ e) (fun b xs e => s _ _ e), fun u o => let ⟨t, z, a, b, c⟩ := N.ok u o; ⟨t, z, a, s _ _ b, c.elim .inl fun ⟨v, h1, h2, h3⟩ => .inr ⟨v, h1, h2, h3.keep fun b xs e => s _ _ e⟩⟩⟩
def spPath (P : Program) (w : World) : Sp := fun vs H Q _ => ∃ (H0 : Hp) (d : Addr) (y : V) (n S : Int) (F : List Fact) (kvs : List (MKy × V)) (g : Nat) (p : Int) (M : Nat), vs = [.ref d, y] ∧ NetK P w H0 F S H d kvs (Adj F S) 10000000 ∧ TreeM n F ∧ F.length ≤ 23 ∧ 1 ≤ S ∧ M ≤ 100000 ∧ (∀ r ∈ F, r.2.2 * S ≤ M) ∧ On F S g p ∧ KeyM H (nk (node F S g p)) y ∧
  ∀ f H' kvs', Same H H' → WaysAt P w F S g p H' f kvs' → Q (.ref f) H'
section
variable {P : Program} {w : World} {K : PySem.W.Frag} {mg : Str → Option Value} {base : Heap}
abbrev nPath : List Str := ["_law_net_here", "_law_aim", "_law_found", "_law_waiting", "_law_here", "_law_there"]
end
end OT

set_option Elab.async false
set_option linter.all false
set_option maxRecDepth 100000
set_option maxHeartbeats 4000000
-- own words
namespace OT
open PySem L2 OTR
abbrev sWaysN : Stmt := top 58
/-- a position as a dict's key -/
def nq (F : List Fact) (S : Int) (u : Nd) : MKy := .inr [.inl (((nqk F S u).1 : Nat) : Int), .inl (nqk F S u).2]
theorem nq_inj {n : Int} {F : List Fact} {S : Int} (T : TreeM n F) (n2 : 2 ≤ n) (hS : 1 ≤ S) {u v : Nd} (ou : OnT F S u) (ov : OnT F S v) (e : nq F S u = nq F S v) : u = v := by
  refine nqk_inj T n2 hS ou ov ?_
  unfold nq at e
  have e1 := List.cons.inj (Sum.inr.inj e)
  have e2 := List.cons.inj e1.2
  have h1 := Sum.inl.inj e1.1
  have h2 := Sum.inl.inj e2.1
  exact Prod.ext (by omega) h2
theorem keyN {H : Hp} {F : List Fact} {S : Int} {u : Nd} {y : V} : KeyM H (nq F S u) y ↔ ∃ t, y = .ref t ∧ PrAt H t (nqk F S u) := Iff.rfl
/-- what has been found of the ways to the place p of the road g -/
structure PathN (P : Program) (w : World) (F : List Fact) (S : Int) (g : Nat) (p : Int) (H : Hp) (f : Addr) (kvs : List (MKy × V)) (W : List V) (op : Nd → Prop) : Prop where
  at_ : MixAt P w H f kvs
  key : ∀ k ∈ kvs.map (·.1), ∃ u, k = nq F S u ∧ OnT F S u
  ok : ∀ u x, OnT F S u → valV kvs (nq F S u) = some x → ∃ t z, x = .ref t ∧ H t = some (.tup [.int (hN F S g p u), z]) ∧ (hN F S g p u = 0 ∨ ∃ v, Adj F S u v ∧ hN F S g p v + 1 = hN F S g p u ∧ KeyM H (nq F S v) z ∧ (valV kvs (nq F S v)).isSome = true)
  wt : ∀ y ∈ W, ∃ u, OnT F S u ∧ KeyM H (nq F S u) y ∧ (valV kvs (nq F S u)).isSome = true
  cl : ∀ u, OnT F S u → (valV kvs (nq F S u)).isSome = true → op u ∨ (∃ y ∈ W, KeyM H (nq F S u) y) ∨ ∀ v, Adj F S u v → (valV kvs (nq F S v)).isSome = true
  aim : (valV kvs (nq F S (node F S g p))).isSome = true
section
variable {P : Program} {w : World} {F : List Fact} {S : Int} {g : Nat} {p : Int} {H H' : Hp} {f : Addr} {kvs : List (MKy × V)} {W : List V} {op : Nd → Prop}
theorem PathN.len (N : PathN P w F S g p H f kvs W op) : kvs.length ≤ (nodesL F S).length := by
  have h := nodup_len (l := kvs.map (·.1)) (m := (nodesL F S).map (nq F S)) (mix_nodup N.at_) fun k hk => by
    obtain ⟨u, rfl, o⟩ := N.key k hk
    exact List.mem_map.mpr ⟨u, mem_nodes o, rfl⟩
  rw [List.length_map, List.length_map] at h
  exact h
theorem PathN.keep (N : PathN P w F S g p H f kvs W op) (m : MixAt P w H' f kvs) (tp : ∀ b xs, H b = some (.tup xs) → H' b = some (.tup xs)) : PathN P w F S g p H' f kvs W op :=
  ⟨m, N.key, fun u x o e => let ⟨t, z, h1, h2, h3⟩ := N.ok u x o e; ⟨t, z, h1, tp _ _ h2, h3.elim .inl fun ⟨v, a, b, c, d⟩ => .inr ⟨v, a, b, c.keep tp, d⟩⟩,
    fun y hy => let ⟨u, o, a, b⟩ := N.wt y hy; ⟨u, o, a.keep tp, b⟩, fun u o h => (N.cl u o h).elim .inl fun h => .inr (h.elim (fun ⟨y, a, b⟩ => .inl ⟨y, a, b.keep tp⟩) .inr), N.aim⟩
/-- the first that waits is taken -/
theorem PathN.pop {n : Int} (T : TreeM n F) (n2 : 2 ≤ n) (hS : 1 ≤ S) {y : V} {u : Nd} (N : PathN P w F S g p H f kvs (y :: W) fun _ => False) (ou : OnT F S u) (ku : KeyM H (nq F S u) y) : PathN P w F S g p H f kvs W fun x => x = u :=
  ⟨N.at_, N.key, N.ok, fun z hz => N.wt z (List.mem_cons_of_mem _ hz), fun x o h => by
    rcases N.cl x o h with h | ⟨z, hz, kz⟩ | h
    · exact absurd h id
    · rcases List.mem_cons.mp hz with rfl | hz
      · exact .inl (nq_inj T n2 hS o ou (KeyM.inj kz ku))
      · exact .inr (.inl ⟨z, hz, kz⟩)
    · exact .inr (.inr h), N.aim⟩
theorem PathN.done {u : Nd} (N : PathN P w F S g p H f kvs W fun x => x = u) (h : ∀ v, Adj F S u v → (valV kvs (nq F S v)).isSome = true) : PathN P w F S g p H f kvs W fun _ => False :=
  ⟨N.at_, N.key, N.ok, N.wt, fun x o hx => by
    rcases N.cl x o hx with e | e
    · subst e
      exact .inr (.inr h)
    · exact .inr e, N.aim⟩
theorem PathN.add {n : Int} (T : TreeM n F) (n2 : 2 ≤ n) (hS : 1 ≤ S) (hg : On F S g p) (N : PathN P w F S g p H f kvs W op) {u v : Nd} {yu yv : V} {t : Addr} (fu : (valV kvs (nq F S u)).isSome = true) (a : Adj F S u v) (nv : valV kvs (nq F S v) = none) (tp : ∀ b xs, H b = some (.tup xs) → H' b = some (.tup xs))
    (et : H' t = some (.tup [.int (hN F S g p u + 1), yu])) (ku : KeyM H' (nq F S u) yu) (kv : KeyM H' (nq F S v) yv) (m : MixAt P w H' f (putK kvs (nq F S v) (.ref t))) : PathN P w F S g p H' f (putK kvs (nq F S v) (.ref t)) (W ++ [yv]) op ∧ (putK kvs (nq F S v) (.ref t)).length = kvs.length + 1 := by
  have oU := a.on.1
  have oV := a.on.2
  have hv : hN F S g p v = hN F S g p u + 1 := by
    rcases adj_step T hS hg a with h | h
    · exact h
    · obtain ⟨x, hx⟩ := Option.isSome_iff_exists.mp fu
      obtain ⟨t, z, _, _, h3⟩ := N.ok u x oU hx
      rcases h3 with h3 | ⟨v', a', b', _, d'⟩
      · have := hN_nn T hS hg oV
        omega
      · have e := lower_uniq T hS hg a a' (by omega) b'
        subst e
        rw [nv] at d'
        cases d'
  have mono : ∀ {x : Nd}, (valV kvs (nq F S x)).isSome = true → (valV (putK kvs (nq F S v) (.ref t)) (nq F S x)).isSome = true := fun {x} h => by
    rw [valV_put]
    split
    · rfl
    · exact h
  have self : (valV (putK kvs (nq F S v) (.ref t)) (nq F S v)).isSome = true := by rw [valV_put, if_pos rfl]; rfl
  have ek : putK kvs (nq F S v) (.ref t) = kvs ++ [(nq F S v, .ref t)] := putK_new _ nv
  refine ⟨⟨m, fun k hk => ?_, fun x z o hz => ?_, fun y hy => ?_, fun x o hx => ?_, mono N.aim⟩, by rw [ek, List.length_append]; rfl⟩
  · rw [ek, List.map_append] at hk
    rcases List.mem_append.mp hk with h | h
    · exact N.key k h
    · exact ⟨v, List.mem_singleton.mp h, oV⟩
  · rw [valV_put] at hz
    by_cases e : x = v
    · subst e
      rw [if_pos rfl] at hz
      cases hz
      rw [hv]
      exact ⟨t, yu, rfl, et, .inr ⟨u, a.symm, rfl, ku, mono fu⟩⟩
    · rw [if_neg fun z => e (nq_inj T n2 hS o oV z)] at hz
      obtain ⟨t', z', h1, h2, h3⟩ := N.ok x z o hz
      exact ⟨t', z', h1, tp _ _ h2, h3.elim .inl fun ⟨v', a', b', c', d'⟩ => .inr ⟨v', a', b', c'.keep tp, mono d'⟩⟩
  · rcases List.mem_append.mp hy with h | h
    · obtain ⟨x, o, h1, h2⟩ := N.wt y h
      exact ⟨x, o, h1.keep tp, mono h2⟩
    · rw [List.mem_singleton.mp h]
      exact ⟨v, oV, kv, self⟩
  · by_cases e : x = v
    · subst e
      exact .inr (.inl ⟨yv, List.mem_append_right _ (List.mem_singleton.mpr rfl), kv⟩)
    · have hx' : (valV kvs (nq F S x)).isSome = true := by
        rw [valV_put, if_neg fun z => e (nq_inj T n2 hS o oV z)] at hx
        exact hx
      rcases N.cl x o hx' with h | ⟨y, h1, h2⟩ | h
      · exact .inl h
      · exact .inr (.inl ⟨y, List.mem_append_left _ h1, h2.keep tp⟩)
      · exact .inr (.inr fun z az => mono (h z az))
end
/-- the ways to a place: each position's distance, and the next position -/
structure WayN (P : Program) (w : World) (F : List Fact) (S : Int) (g : Nat) (p : Int) (H : Hp) (f : Addr) (kvs : List (MKy × V)) : Prop where
  at_ : MixAt P w H f kvs
  ok : ∀ u, OnT F S u → ∃ t z, valV kvs (nq F S u) = some (.ref t) ∧ H t = some (.tup [.int (hN F S g p u), z]) ∧ (hN F S g p u = 0 ∨ ∃ v, Adj F S u v ∧ hN F S g p v + 1 = hN F S g p u ∧ KeyM H (nq F S v) z)
theorem PathN.ways {P : Program} {w : World} {n : Int} {F : List Fact} {S : Int} {g : Nat} {p : Int} {H : Hp} {f : Addr} {kvs : List (MKy × V)} (T : TreeM n F) (hS : 1 ≤ S) (hg : On F S g p) (N : PathN P w F S g p H f kvs [] fun _ => False) : WayN P w F S g p H f kvs := by
  refine ⟨N.at_, fun u o => ?_⟩
  have h := reach T hS hg (Fd := fun u => (valV kvs (nq F S u)).isSome = true) N.aim (fun u v hu a => ?_) _ u o rfl
  · obtain ⟨x, hx⟩ := Option.isSome_iff_exists.mp h
    obtain ⟨t, z, rfl, h2, h3⟩ := N.ok u x o hx
    exact ⟨t, z, hx, h2, h3.elim .inl fun ⟨v, a, b, c, _⟩ => .inr ⟨v, a, b, c⟩⟩
  · rcases N.cl u a.on.1 hu with h | ⟨y, h, _⟩ | h
    · exact absurd h id
    · cases h
    · exact h v a
theorem WayN.same {P : Program} {w : World} {F : List Fact} {S : Int} {g : Nat} {p : Int} {H H' : Hp} {f : Addr} {kvs : List (MKy × V)} (N : WayN P w F S g p H f kvs) (s : Same H H') : WayN P w F S g p H' f kvs :=
  ⟨N.at_.keep (fun o e => s _ _ e) (fun b xs e => s _ _ e), fun u o => let ⟨t, z, a, b, c⟩ := N.ok u o; ⟨t, z, a, s _ _ b, c.elim .inl fun ⟨v, h1, h2, h3⟩ => .inr ⟨v, h1, h2, h3.keep fun b xs e => s _ _ e⟩⟩⟩
def spWaysN (P : Program) (w : World) : Sp := fun vs H Q _ => ∃ (q t : Addr) (n : Int) (F : List Fact) (g : Nat) (p : Int) (M : Nat), vs = [.ref q, .ref t] ∧ FactsAt H q F ∧ TreeM n F ∧ 2 ≤ n ∧ F.length ≤ 23 ∧ M ≤ 100000 ∧ (∀ r ∈ F, r.2.2 ≤ M) ∧ On F 1 g p ∧ PrAt H t (nqk F 1 (node F 1 g p)) ∧
  ∀ f H' kvs', H f = none → Same H H' → WayN P w F 1 g p H' f kvs' → Q (.ref f) H'
section
variable {P : Program} {w : World} {K : PySem.W.Frag} {mg : Str → Option Value} {base : Heap}
abbrev nWaysN : List Str := ["_law_roads", "_law_goal", "_law_found", "_law_waiting", "_law_here", "_law_there"]
theorem scWaysN : FnScope nWaysN ["_law_roads", "_law_goal"] (defScope sWaysN) := ⟨rfl, rfl, rfl, by decide +kernel, rfl, by decide +kernel, by decide +kernel⟩
theorem ok_waysN {f fNE : Addr} {fd fdNE : FuncData} (F : Fun K "_law_ways" "_law_ways" sWaysN f fd)
    (FNE : FnOk P w K mg base CX0 2 fNE fdNE ["_law_roads", "_law_place"] spNear) (bNE : Binds K fdNE ["_law_roads", "_law_place"] []) (mNE : mg "_law_near" = some (.ref fNE)) (kNE : PySem.W.keepIn K (.ref fNE) = true) : FnOk P w K mg base CX0 3 f fd ["_law_roads", "_law_goal"] (spWaysN P w) := by
  refine F.ok scWaysN (fun vs H Q E h => ?_) (fun cdv A outer s H vs Q E hr h => ?_)
  · obtain ⟨q, t, n, fs, g, p, M, rfl, _⟩ := h
    rfl
  · obtain ⟨q, t0, n, fs, g, p, M, rfl, hF, T, n2, f23, hM, big, hg, ht0, k⟩ := h
    have hS : (1 : Int) ≤ 1 := by decide
    have hr2 : Room 2 _ := hr.mono (by decide)
    have hu := hu_of hr
    have hu1 : (A.deeper (PyProof.Rows.envOfC "_law_ways" (defScope sWaysN) _ f cdv)).units < cLine := Nat.lt_of_succ_lt hu
    refine ⟨_, pss_cons (ps_set (i := 2) scWaysN.nd rfl (Or.inl rfl) (pe_mone hu1 (pv 1) (pe_tup (pa_cons pe_int (pa_cons (pv 1) pa_nil)))))
      (pss_cons (ps_set (i := 3) scWaysN.nd rfl (Or.inl rfl) (pe_lst (pa_cons (pv 1) pa_nil)))
      (pss_cons (ps_while PassesOwn.never (pt_cmpR (op_neNil hu1) (pv 3) (pe_lst pa_nil) (nomark _))
        (pss_cons (ps_set (i := 4) scWaysN.nd rfl (Or.inl rfl) (pe_bm PySem.F.plainAttrs_list PySem.F.slot_list_pop PySem.F.type_list_pop mt_popAt (pv 3) (pa_cons pe_int pa_nil)))
        (pss_one (ps_for PassesOwn.never rfl (pi_list (pe_call FNE hr2 rfl mNE kNE bNE .nil pass0 (pa_cons (pv 0) (pa_cons (pv 4) pa_nil)))) (pg_name (i := 5) scWaysN.nd rfl (Or.inl rfl))
          (pss_one (ps_if (pt_cmp (pc_mno hu (pv 5) (pv 2)))
            (pss_cons (ps_mput hu (pv 2) (pv 5) (pe_tup (pa_cons (pe_op op_add (pe_ix ix_tup (pe_mget hu (pv 2) (pv 4) (fun _ _ => rfl)) pe_int (fun _ _ => rfl)) pe_int) (pa_cons (pv 4) pa_nil))) rfl)
            (pss_one (ps_expr (pe_bm PySem.F.plainAttrs_list PySem.F.slot_list_append PySem.F.type_list_append mt_append (pv 3) (pa_cons (pv 5) pa_nil))))) pss_nil))))))
      (pss_one (ps_ret (pv 2))))), ?_⟩
    have NN : (nodesL fs 1).length ≤ 2400000 := by
      have a1 := len_nodes (F := fs) (S := 1) (M := M) (fun r hr => by rw [Int.mul_one]; exact big r hr)
      have a2 : fs.length * (M + 1) ≤ 23 * 100001 := Nat.mul_le_mul f23 (by omega)
      omega
    have h0 : hN fs 1 g p (node fs 1 g p) = 0 := by rw [hN_node T hS hg hg, hP_g, dst_self]
    have oA : OnT fs 1 (node fs 1 g p) := ⟨g, p, hg, rfl⟩
    have ky : KeyM H (nq fs 1 (node fs 1 g p)) (.ref t0) := keyN.mpr ⟨t0, rfl, ht0⟩
    refine fun fa o hf mf => ⟨_, rfl, _, rfl, (by show 2 ≤ sizeLine; decide), fun t ht => ?_⟩
    have s1 : Same H (upd H fa o) := Same.new hf
    have s2 : Same (upd H fa o) (upd (upd H fa o) t (.tup [.int 0, .ref t0])) := Same.new ht
    refine ⟨mf.keep (fun o e => s2 _ _ e) (fun b xs e => s2 _ _ e), nq fs 1 (node fs 1 g p), ky.keep (fun b xs e => s2 _ _ (s1 _ _ e)), fun o2 m2 => ?_⟩
    have nft : t ≠ fa := (ne_of_none (upd_same (H := H) (a := fa) (o := o)) ht).symm
    have s3 : Same H (upd (upd (upd H fa o) t (.tup [.int 0, .ref t0])) fa o2) := fun b o' e => by
      rw [upd_ne (ne_of_none e hf)]
      exact s2 _ _ (s1 _ _ e)
    have et : upd (upd (upd H fa o) t (.tup [.int 0, .ref t0])) fa o2 t = some (.tup [.int 0, .ref t0]) := by rw [upd_ne nft]; exact upd_same
    generalize upd (upd (upd H fa o) t (.tup [.int 0, .ref t0])) fa o2 = H3 at s3 et m2 ⊢
    refine ⟨_, rfl, (by show 1 ≤ sizeLine; decide), fun wl hw => ?_⟩
    have s4 : Same H3 (upd H3 wl (.lst [.ref t0])) := Same.new hw
    have hwH : H wl = none := by
      cases e : H wl with
      | none => rfl
      | some q =>
        have := s3 _ _ e
        rw [hw] at this
        cases this
    have N0 : PathN P w fs 1 g p (upd H3 wl (.lst [.ref t0])) fa [(nq fs 1 (node fs 1 g p), .ref t)] [.ref t0] fun _ => False := by
      have key : ∀ {u : Nd} {x : V}, OnT fs 1 u → valV [(nq fs 1 (node fs 1 g p), V.ref t)] (nq fs 1 u) = some x → u = node fs 1 g p ∧ x = .ref t := fun {u x} ou h => by
        by_cases e : nq fs 1 (node fs 1 g p) = nq fs 1 u
        · rw [valV_pos e] at h
          cases h
          exact ⟨(nq_inj T n2 hS oA ou e).symm, rfl⟩
        · rw [valV_neg e] at h
          cases h
      refine ⟨m2.keep (fun o e => s4 _ _ e) (fun b xs e => s4 _ _ e), fun k hk => ⟨node fs 1 g p, List.mem_singleton.mp hk, oA⟩, fun u x ou h => ?_, fun z hz => ⟨node fs 1 g p, oA, ?_, by rw [valV_pos rfl]; rfl⟩, fun u ou h => ?_, by rw [valV_pos rfl]; rfl⟩
      · obtain ⟨rfl, rfl⟩ := key ou h
        rw [h0]
        exact ⟨t, .ref t0, rfl, s4 _ _ et, .inl rfl⟩
      · rw [List.mem_singleton.mp hz]
        exact ky.keep fun b xs e => s4 _ _ (s3 _ _ e)
      · obtain ⟨x, hx⟩ := Option.isSome_iff_exists.mp h
        obtain ⟨rfl, _⟩ := key ou hx
        exact .inr (.inl ⟨.ref t0, List.mem_singleton.mpr rfl, ky.keep fun b xs e => s4 _ _ (s3 _ _ e)⟩)
    refine ⟨fun m σ G => ∃ (W : List V) (kv : List (MKy × V)) (v4 v5 : Option V), σ = [some (.ref q), some (.ref t0), some (.ref fa), some (.ref wl), v4, v5] ∧ Same H G ∧ G wl = some (.lst W) ∧ W.length ≤ kv.length ∧ PathN P w fs 1 g p G fa kv W (fun _ => False) ∧ m = 2 * ((nodesL fs 1).length - kv.length) + W.length,
      ⟨_, [.ref t0], [(nq fs 1 (node fs 1 g p), .ref t)], none, none, rfl, fun b o e => s4 _ _ (s3 _ _ e), upd_same, Nat.le_refl 1, N0, rfl⟩, ?_⟩
    rintro m σ G ⟨W, kv, v4, v5, rfl, sH, eW, lW, Nk, rfl⟩
    have lN := Nk.len
    refine ⟨_, rfl, Nat.zero_le _, fun q' hq => ⟨wl, q', W, rfl, rfl, SqL.of (by rw [upd_ne (ne_of_none eW hq)]; exact eW), SqL.of upd_same, _, rfl, ?_⟩⟩
    have sq : Same G (upd G q' (.lst [])) := Same.new hq
    have N1 := Nk.keep (Nk.at_.keep (fun o e => sq _ _ e) (fun b xs e => sq _ _ e)) (fun b xs e => sq _ _ e)
    have sH1 : Same H (upd G q' (.lst [])) := sH.trans sq
    have eW1 := sq _ _ eW
    generalize upd G q' (.lst []) = G1 at N1 sH1 eW1 ⊢
    cases W with
    | nil => exact iteF ⟨_, rfl, k fa G1 kv hf sH1 (N1.ways T hS hg)⟩
    | cons y0 W0 =>
      refine iteT ⟨fun σ' G' => ∃ (W' : List V) (kv' : List (MKy × V)) (v4 v5 : Option V), σ' = [some (.ref q), some (.ref t0), some (.ref fa), some (.ref wl), v4, v5] ∧ Same H G' ∧ G' wl = some (.lst W') ∧ W'.length ≤ kv'.length ∧ PathN P w fs 1 g p G' fa kv' W' (fun _ => False) ∧
          2 * ((nodesL fs 1).length - kv'.length) + W'.length < 2 * ((nodesL fs 1).length - kv.length) + (y0 :: W0).length,
        fun σ' G' ⟨W', kv', v4, v5, e1, e2, e3, e4, e5, e6⟩ => ⟨_, e6, W', kv', v4, v5, e1, e2, e3, e4, e5, rfl⟩, ?_⟩
      refine ⟨_, rfl, .inl ⟨rfl, _, SqL.of eW1⟩, wl, y0 :: W0, 0, 0, y0, rfl, rfl, eW1, by decide, by decide, seqIx (by decide) (by show (0 : Int) < ((W0.length + 1 : Nat) : Int); omega), rfl, ?_⟩
      rw [show (y0 :: W0).eraseIdx 0 = W0 from rfl]
      have tp1 : ∀ b xs, G1 b = some (.tup xs) → upd G1 wl (.lst W0) b = some (.tup xs) := fun b xs e => by
        rw [upd_ne (ne_of e eW1 fun z => nomatch z)]
        exact e
      obtain ⟨u0, ou0, k0, f0⟩ := N1.wt y0 List.mem_cons_self
      have sH2 : Same H (upd G1 wl (.lst W0)) := fun b o e => by
        rw [upd_ne (ne_of_none e hwH)]
        exact sH1 _ _ e
      have N2 := (N1.pop T n2 hS ou0 k0).keep (H' := upd G1 wl (.lst W0)) (N1.at_.keep (fun o e => by
        obtain ⟨ent, ef, _⟩ := N1.at_
        rw [upd_ne (ne_of ef eW1 fun z => nomatch z)]
        exact e) tp1) tp1
      have k2 : KeyM (upd G1 wl (.lst W0)) (nq fs 1 u0) y0 := k0.keep tp1
      have eW2 : upd G1 wl (.lst W0) wl = some (.lst W0) := upd_same
      have lW0 : W0.length + 1 ≤ kv.length := lW
      generalize upd G1 wl (.lst W0) = G2 at N2 sH2 k2 eW2 ⊢
      obtain ⟨c0, rfl, pc0⟩ := keyN.mp k2
      obtain ⟨ent2, ef2, _⟩ := id N2.at_
      -- near(roads, here)
      refine ⟨_, rfl, _, rfl, q, c0, n, fs, u0, rfl, FactsAt.same hF sH2, T, n2, f23, ou0, pc0, fun D ys ws G3 NR allv yl hD => ?_⟩
      have s23 := NR.same
      have N3 := N2.keep (N2.at_.keep (fun o e => s23 _ _ e) (fun b xs e => s23 _ _ e)) (fun b xs e => s23 _ _ e)
      have wD : wl ≠ D := ne_of_none eW2 hD
      have fD : fa ≠ D := ne_of_none ef2 hD
      refine ⟨D, rfl, ⟨_, SqL.of NR.at_⟩, for_list (K := K) (a := D) (xs := ys.map V.ref) (fun i σ G' => ∃ (W' : List V) (kv' : List (MKy × V)) (v5 : Option V), σ = [some (.ref q), some (.ref t0), some (.ref fa), some (.ref wl), some (.ref c0), v5] ∧ Same H G' ∧ G' wl = some (.lst W') ∧ W'.length ≤ kv'.length ∧
          PathN P w fs 1 g p G' fa kv' W' (fun x => x = u0) ∧ KeyM G' (nq fs 1 u0) (.ref c0) ∧ (valV kv' (nq fs 1 u0)).isSome = true ∧ G' D = some (.lst (ys.map V.ref)) ∧ (∀ b xs, G3 b = some (.tup xs) → G' b = some (.tup xs)) ∧ (∀ v ∈ ws.take i, (valV kv' (nq fs 1 v)).isSome = true) ∧ 2 * ((nodesL fs 1).length - kv'.length) + W'.length ≤ 2 * ((nodesL fs 1).length - kv.length) + W0.length)
        ⟨W0, kv, _, rfl, sH2.trans s23, s23 _ _ eW2, by omega, N3, k2.keep (fun b xs e => s23 _ _ e), f0, NR.at_, fun b xs e => e, (fun v hv => by cases hv), Nat.le_refl _⟩ (fun i σ G' _ ⟨_, _, _, _, _, _, _, _, _, _, e, _⟩ => SqL.of e) ?_ ?_⟩
      · rintro i yv σ G' hi ⟨W', kv', v5, rfl, sg, eW', lW', N', k', fu, eD, tg, dn, ms⟩
        obtain ⟨ti, hti, rfl⟩ := map_get hi
        obtain ⟨v, hv, av, pv⟩ := paired_get NR.pr hti
        have kv3 : KeyM G' (nq fs 1 v) (.ref ti) := keyN.mpr ⟨ti, rfl, tg _ _ pv⟩
        have lN' := N'.len
        refine ⟨_, rfl, _, rfl, fa, kv', nq fs 1 v, rfl, N'.at_, kv3, _, rfl, ?_⟩
        cases e : valV kv' (nq fs 1 v) with
        | some x =>
          refine iteF ⟨W', kv', _, rfl, sg, eW', lW', N', k', fu, eD, tg, fun z hz => ?_, ms⟩
          rw [take_get hv] at hz
          rcases List.mem_append.mp hz with h | h
          · exact dn z h
          · rw [List.mem_singleton.mp h, e]
            rfl
        | none =>
          obtain ⟨x, hx⟩ := Option.isSome_iff_exists.mp fu
          obtain ⟨tu, zu, rfl, etu, _⟩ := N'.ok u0 x ou0 hx
          refine iteT ⟨_, rfl, _, rfl, fa, kv', nq fs 1 u0, .ref tu, rfl, N'.at_, k', hx, tu, _, 0, _, rfl, rfl, SqT.of etu, rfl, _, _, rfl, rfl, _, rfl, (by show 2 ≤ sizeLine; decide), fun t2 ht2 => ?_⟩
          have s5 : Same G' (upd G' t2 (.tup [.int (hN fs 1 g p u0 + 1), .ref c0])) := Same.new ht2
          have m5 := N'.at_.keep (fun o e => s5 _ _ e) (fun b xs e => s5 _ _ e)
          obtain ⟨ent, ef, _⟩ := id m5
          refine ⟨_, rfl, _, rfl, fa, kv', nq fs 1 v, rfl, m5, small6 (by omega), kv3.keep (fun b xs e => s5 _ _ e), fun ob mo => ?_⟩
          have wf : wl ≠ fa := ne_of (s5 _ _ eW') ef fun z => nomatch z
          have eW6 : upd (upd G' t2 (.tup [.int (hN fs 1 g p u0 + 1), .ref c0])) fa ob wl = some (.lst W') := by rw [upd_ne wf]; exact s5 _ _ eW'
          refine ⟨_, rfl, .inl ⟨rfl, _, SqL.of eW6⟩, _, rfl, wl, W', .ref ti, rfl, rfl, eW6, small6 (by omega), ?_⟩
          have tp : ∀ b xs, upd G' t2 (.tup [.int (hN fs 1 g p u0 + 1), .ref c0]) b = some (.tup xs) → upd (upd (upd G' t2 (.tup [.int (hN fs 1 g p u0 + 1), .ref c0])) fa ob) wl (.lst (W' ++ [.ref ti])) b = some (.tup xs) := fun b xs e => by
            rw [upd_ne (ne_of e (s5 _ _ eW') fun z => nomatch z), upd_ne (ne_of e ef fun z => nomatch z)]
            exact e
          have mo2 : MixAt P w (upd (upd (upd G' t2 (.tup [.int (hN fs 1 g p u0 + 1), .ref c0])) fa ob) wl (.lst (W' ++ [.ref ti]))) fa (putK kv' (nq fs 1 v) (.ref t2)) := mo.keep (fun o e => by rw [upd_ne wf.symm]; exact e) fun b xs e => by
            rw [upd_ne (ne_of e eW6 fun z => nomatch z)]
            exact e
          obtain ⟨N7, l7⟩ := N'.add T n2 hS hg fu av e (fun b xs e => tp b xs (s5 _ _ e)) (tp _ _ upd_same) (k'.keep fun b xs e => tp b xs (s5 _ _ e)) (kv3.keep fun b xs e => tp b xs (s5 _ _ e)) mo2
          have l8 := N7.len
          have mono : ∀ {x : Nd}, (valV kv' (nq fs 1 x)).isSome = true → (valV (putK kv' (nq fs 1 v) (.ref t2)) (nq fs 1 x)).isSome = true := fun {x} h => by
            rw [valV_put]
            split
            · rfl
            · exact h
          refine ⟨W' ++ [.ref ti], _, _, rfl, fun b o e => ?_, upd_same, by rw [List.length_append, l7]; exact Nat.succ_le_succ lW', N7, k'.keep fun b xs e => tp b xs (s5 _ _ e), mono fu, by rw [upd_ne wD.symm, upd_ne fD.symm]; exact s5 _ _ eD, fun b xs e => tp _ _ (s5 _ _ (tg _ _ e)), fun z hz => ?_, by rw [List.length_append, l7]; show _ + (W'.length + 1) ≤ _; omega⟩
          · have n1 : b ≠ wl := ne_of_none e hwH
            have n2 : b ≠ fa := ne_of_none e hf
            rw [upd_ne n1, upd_ne n2]
            exact s5 _ _ (sg _ _ e)
          · rw [take_get hv] at hz
            rcases List.mem_append.mp hz with h | h
            · exact mono (dn z h)
            · rw [List.mem_singleton.mp h, valV_put, if_pos rfl]
              rfl
      · rintro σ G' ⟨W', kv', v5, rfl, sg, eW', lW', N', k', fu, eD, tg, dn, ms⟩
        refine ⟨W', kv', _, _, rfl, sg, eW', lW', N'.done fun v a => ?_, by show _ < _ + (W0.length + 1); omega⟩
        rw [List.length_map, Paired.length NR.pr, List.take_length] at dn
        exact dn v (allv v a)
end
end OT

set_option Elab.async false
set_option linter.all false
set_option maxRecDepth 100000
set_option maxHeartbeats 4000000
-- own words
namespace OT
open PySem L2 OTR
abbrev sPlacesN : Stmt := top 56
/-- the list of all positions' names as far as it is found: those before the number j of the road i -/
structure PsAt (F : List Fact) (D : Addr) (H G : Hp) (ys : List Addr) (us : List Nd) (i : Nat) (j : Int) : Prop where
  same : Same H G
  at_ : G D = some (.lst (ys.map V.ref))
  pr : Paired (fun t u => OnT F 1 u ∧ PrAt G t (nqk F 1 u)) ys us
  nd : us.Nodup
  lt : ∀ u ∈ us, (nqk F 1 u).1 < i ∨ ((nqk F 1 u).1 = i ∧ (nqk F 1 u).2 < j)
  all : ∀ k a, On F 1 k a → (k < i ∨ (k = i ∧ a < j)) → nqk F 1 (node F 1 k a) = (k, a) → node F 1 k a ∈ us
theorem paired_mem {α β : Type} {R : α → β → Prop} : ∀ {as : List α} {bs : List β}, Paired R as bs → ∀ b ∈ bs, ∃ a, R a b
  | _, _, .nil, b, h => by cases h
  | _, _, .cons x r, b, h => by
    rcases List.mem_cons.mp h with rfl | h
    · exact ⟨_, x⟩
    · exact paired_mem r b h
theorem PsAt.len {F : List Fact} {D : Addr} {H G : Hp} {ys : List Addr} {us : List Nd} {i : Nat} {j : Int} (N : PsAt F D H G ys us i j) : ys.length ≤ (nodesL F 1).length := by
  rw [Paired.length N.pr]
  exact nodup_len N.nd fun u hu => let ⟨_, o, _⟩ := paired_mem N.pr u hu; mem_nodes o
theorem PsAt.keep {F : List Fact} {D : Addr} {H G G' : Hp} {ys : List Addr} {us : List Nd} {i : Nat} {j : Int} (N : PsAt F D H G ys us i j) (s : Same G G') : PsAt F D H G' ys us i j :=
  ⟨N.same.trans s, s _ _ N.at_, Paired.mapP N.pr fun _ _ h => ⟨h.1, h.2.same s⟩, N.nd, N.lt, N.all⟩
theorem PsAt.skip {F : List Fact} {D : Addr} {H G : Hp} {ys : List Addr} {us : List Nd} {i : Nat} {j : Int} (N : PsAt F D H G ys us i j) (no : nqk F 1 (node F 1 i j) ≠ (i, j)) : PsAt F D H G ys us i (j + 1) :=
  ⟨N.same, N.at_, N.pr, N.nd, fun u hu => (N.lt u hu).elim .inl fun h => .inr ⟨h.1, by omega⟩, fun k a o h e => by
    by_cases z : k = i ∧ a = j
    · obtain ⟨rfl, rfl⟩ := z
      exact absurd e no
    · exact N.all k a o (by omega) e⟩
theorem PsAt.push {F : List Fact} {D t : Addr} {H G : Hp} {ys : List Addr} {us : List Nd} {i : Nat} {j : Int} (N : PsAt F D H G ys us i j) (hD : H D = none) (o : On F 1 i j) (e : nqk F 1 (node F 1 i j) = (i, j)) (p : PrAt G t (i, j)) : PsAt F D H (upd G D (.lst (ys.map V.ref ++ [.ref t]))) (ys ++ [t]) (us ++ [node F 1 i j]) i (j + 1) := by
  refine ⟨fun b o e => by rw [upd_ne (ne_of_none e hD)]; exact N.same b o e, by rw [List.map_append]; exact upd_same, paired_app (Paired.mapP N.pr fun _ _ h => ⟨h.1, h.2.put N.at_⟩) (.cons ⟨⟨i, j, o, rfl⟩, by rw [e]; exact p.put N.at_⟩ .nil), ?_, fun u hu => ?_, fun k a oa h ea => ?_⟩
  · rw [List.nodup_append]
    refine ⟨N.nd, by simp, fun a ha b hb z => ?_⟩
    rw [List.mem_singleton.mp hb] at z
    subst z
    have := N.lt _ ha
    rw [e] at this
    rcases this with h | h
    · exact absurd h (Nat.lt_irrefl _)
    · exact absurd h.2 (Int.lt_irrefl _)
  · rcases List.mem_append.mp hu with h | h
    · exact (N.lt u h).elim .inl fun h => .inr ⟨h.1, by omega⟩
    · rw [List.mem_singleton.mp h, e]
      exact .inr ⟨rfl, by show j < j + 1; omega⟩
  · by_cases z : k = i ∧ a = j
    · obtain ⟨rfl, rfl⟩ := z
      exact List.mem_append_right _ (List.mem_singleton.mpr rfl)
    · exact List.mem_append_left _ (N.all k a oa (by omega) ea)
theorem PsAt.next {F : List Fact} {D : Addr} {H G : Hp} {ys : List Addr} {us : List Nd} {i : Nat} {j : Int} (N : PsAt F D H G ys us i j) (hj : sz F 1 i < j) : PsAt F D H G ys us (i + 1) 0 :=
  ⟨N.same, N.at_, N.pr, N.nd, fun u hu => (N.lt u hu).elim (fun h => .inl (by omega)) fun h => .inl (by omega), fun k a o h e => N.all k a o (by
    rcases h with h | h
    · by_cases z : k = i
      · subst z
        have := o.2.2
        exact .inr ⟨rfl, by omega⟩
      · exact .inl (by omega)
    · have := o.2.1
      omega) e⟩
def spPlacesN : Sp := fun vs H Q _ => ∃ (q : Addr) (n : Int) (F : List Fact) (M : Nat), vs = [.ref q] ∧ FactsAt H q F ∧ TreeM n F ∧ 2 ≤ n ∧ F.length ≤ 23 ∧ M ≤ 100000 ∧ (∀ r ∈ F, r.2.2 ≤ M) ∧
  ∀ D ys us H', H D = none → Same H H' → H' D = some (.lst (ys.map V.ref)) → Paired (fun t u => OnT F 1 u ∧ PrAt H' t (nqk F 1 u)) ys us → us.Nodup → (∀ u, OnT F 1 u → u ∈ us) → ys.length ≤ 2400000 → Q (.ref D) H'
section
variable {P : Program} {w : World} {K : PySem.W.Frag} {mg : Str → Option Value} {base : Heap}
abbrev nPlacesN : List Str := ["_law_roads", "_law_found", "_law_road", "_law_one", "_law_number"]
theorem scPlacesN : FnScope nPlacesN ["_law_roads"] (defScope sPlacesN) := ⟨rfl, rfl, rfl, by decide +kernel, rfl, by decide +kernel, by decide +kernel⟩
theorem ok_placesN {f fKY : Addr} {fd fdKY : FuncData} (F : Fun K "_law_places" "_law_places" sPlacesN f fd)
    (FKY : FnOk P w K mg base CX0 1 fKY fdKY ["_law_roads", "_law_place"] spKeyN) (bKY : Binds K fdKY ["_law_roads", "_law_place"] []) (mKY : mg "_law_key" = some (.ref fKY)) (kKY : PySem.W.keepIn K (.ref fKY) = true)
    (hEn : mg "enumerate" = none) (hRg : mg "range" = none) : FnOk P w K mg base CX0 2 f fd ["_law_roads"] spPlacesN := by
  refine F.ok scPlacesN (fun vs H Q E h => ?_) (fun cdv A outer s H vs Q E hr h => ?_)
  · obtain ⟨q, n, fs, M, rfl, _⟩ := h
    rfl
  · obtain ⟨q, n, fs, M, rfl, hF, T, n2, f23, hM, big, kont⟩ := h
    obtain ⟨ts, hq, hts⟩ := id hF
    have tl : (ts.map V.ref).length = fs.length := by rw [List.length_map]; exact Paired.length hts
    have hr1 : Room 1 _ := hr.mono (by decide)
    refine ⟨_, pss_cons (ps_set (i := 1) scPlacesN.nd rfl (Or.inl rfl) (pe_lst pa_nil))
      (pss_cons (ps_for PassesOwn.never rfl (pi_enum (by rfl) hEn (pa_cons (pv 0) pa_nil)) (pg_tup rfl (pgs_cons (pg_name (i := 2) scPlacesN.nd rfl (Or.inl rfl)) (pgs_cons (pg_name (i := 3) scPlacesN.nd rfl (Or.inl rfl)) pgs_nil)))
        (pss_one (ps_for PassesOwn.never rfl (pi_range1 (by rfl) hRg (pa_cons (pe_op op_add (pe_ix ix_tup (pv 3) pe_int (fun _ _ => rfl)) pe_int) pa_nil)) (pg_name (i := 4) scPlacesN.nd rfl (Or.inl rfl))
          (pss_one (ps_if (pt_cmpR (op_eqD hr.units) (pe_call FKY hr1 rfl mKY kKY bKY .nil pass0 (pa_cons (pv 0) (pa_cons (pe_tup (pa_cons (pv 2) (pa_cons (pv 4) pa_nil))) pa_nil))) (pe_tup (pa_cons (pv 2) (pa_cons (pv 4) pa_nil))) (nomark _))
            (pss_one (ps_expr (pe_bm PySem.F.plainAttrs_list PySem.F.slot_list_append PySem.F.type_list_append mt_append (pv 1) (pa_cons (pe_tup (pa_cons (pv 2) (pa_cons (pv 4) pa_nil))) pa_nil))))
            pss_nil)))))
      (pss_one (ps_ret (pv 1)))), ?_⟩
    have two : ∀ {x y : V}, [x, y].length ≤ sizeLine := fun {x y} => (by show 2 ≤ sizeLine; decide)
    have NN : (nodesL fs 1).length ≤ 2400000 := by
      have a1 := len_nodes (F := fs) (S := 1) (M := M) (fun r hr => by rw [Int.mul_one]; exact big r hr)
      have a2 : fs.length * (M + 1) ≤ 23 * 100001 := Nat.mul_le_mul f23 (by omega)
      omega
    refine ⟨Nat.zero_le _, fun D hD => ?_⟩
    have N0 : PsAt fs D H (upd H D (.lst [])) [] [] 0 0 := ⟨Same.new hD, upd_same, .nil, List.nodup_nil, fun u hu => (by cases hu), fun k a o h _ => by have := o.2.1; omega⟩
    refine ⟨_, rfl, q, _, rfl, SqL.of (N0.same _ _ hq), for_it (walk_enum (K := K) (a := q) (xs := ts.map V.ref)) (fun i σ G => ∃ (v2 v3 v4 : Option V) (ys : List Addr) (us : List Nd), σ = [some (.ref q), some (.ref D), v2, v3, v4] ∧ PsAt fs D H G ys us i 0)
      ⟨none, none, none, [], [], rfl, N0⟩ (fun i σ G _ ⟨_, _, _, _, _, _, N⟩ => SqL.of (N.same _ _ hq)) ?_ ?_⟩
    · rintro i v σ G G1 hi ⟨v2, v3, v4, ys, us, rfl, N⟩ ⟨T', x1, y1, rfl, hT, rfl, hx1, hy1⟩
      cases hx1
      rw [tl] at hi
      obtain ⟨tt, htt, rfl⟩ := map_get (show (ts.map V.ref)[i]? = some y1 from hy1)
      obtain ⟨r, hr', tr0⟩ := paired_get hts htt
      have er : rd fs i = r := rd_of hr'
      have szk : sz fs 1 i = r.2.2 := by unfold sz; rw [er, Int.mul_one]
      have rpos : 0 < r.2.2 := by have := sz_pos T (show (1 : Int) ≤ 1 by decide) hi; omega
      have rbig : r.2.2 ≤ 100000 := by have := big r (List.mem_of_getElem? hr'); omega
      have N1 := N.keep (Same.new (o := .tup [.int (i : Nat), .ref tt]) hT)
      refine ⟨T', _, rfl, SqT.of upd_same, rfl, _, _, rfl, _, _, rfl, rfl, ?_⟩
      dsimp only [gName]
      generalize upd G T' (.tup [.int (i : Nat), .ref tt]) = G2 at N1 ⊢
      -- for number in range(one[2] + 1)
      refine ⟨_, rfl, tt, _, 2, .int r.2.2, rfl, rfl, SqT.of (N1.same _ _ tr0), rfl, _, _, rfl, rfl, _, rfl, by omega, by omega, for_range (lo := 0) (n := (r.2.2 + 1).toNat) (fun j σ G => ∃ (v4 : Option V) (ys : List Addr) (us : List Nd), σ = [some (.ref q), some (.ref D), some (.int (i : Nat)), some (.ref tt), v4] ∧ PsAt fs D H G ys us i j)
        ⟨v4, ys, us, rfl, N1⟩ ?_ ?_⟩
      · clear N N1
        rintro j σ G hj ⟨v4, ys, us, rfl, N⟩
        have onj : On fs 1 i (j : Int) := ⟨hi, by omega, by rw [szk]; omega⟩
        have e0 : (0 : Int) + (j : Nat) = (j : Int) := Int.zero_add _
        refine ⟨_, rfl, _, rfl, _, rfl, two, fun pt hpt => ?_⟩
        have s5 := Same.new (o := .tup [.int (i : Nat), .int (0 + (j : Nat))]) hpt
        refine ⟨q, pt, n, fs, i, j, rfl, FactsAt.same (FactsAt.same hF N.same) s5, T, n2, f23, onj, by unfold PrAt; rw [e0]; exact upd_same, fun t' G5 s6 pr => ?_⟩
        have N5 := N.keep (s5.trans s6)
        refine ⟨_, rfl, _, rfl, two, fun pu hpu => ?_⟩
        have s7 := Same.new (o := .tup [.int (i : Nat), .int (0 + (j : Nat))]) hpu
        have N6 := N5.keep s7
        have hpu' : PrAt (upd G5 pu (.tup [.int (i : Nat), .int (0 + (j : Nat))])) pu (i, (j : Int)) := by unfold PrAt; rw [e0]; exact upd_same
        refine ⟨d2 _, d2 (i, (j : Int)), d2_at (pr.same s7), d2_at hpu', d2_shaped _, d2_shaped _, _, rfl, ?_⟩
        rw [d2_eqv]
        by_cases e : nqk fs 1 (node fs 1 i j) = (i, (j : Int))
        · rw [decide_eq_true e]
          refine iteT ⟨_, rfl, .inl ⟨rfl, _, SqL.of N6.at_⟩, _, rfl, _, rfl, two, fun pw hpw => ?_⟩
          have s8 := Same.new (o := .tup [.int (i : Nat), .int (0 + (j : Nat))]) hpw
          have N7 := N6.keep s8
          have l7 := N7.len
          have hpw' : PrAt (upd (upd G5 pu (.tup [.int (i : Nat), .int (0 + (j : Nat))])) pw (.tup [.int (i : Nat), .int (0 + (j : Nat))])) pw (i, (j : Int)) := by unfold PrAt; rw [e0]; exact upd_same
          refine ⟨D, ys.map V.ref, .ref pw, rfl, rfl, N7.at_, small6 (by rw [List.length_map]; omega), ?_⟩
          exact ⟨_, ys ++ [pw], us ++ [node fs 1 i j], rfl, N7.push hD onj e hpw'⟩
        · rw [decide_eq_false e]
          exact iteF ⟨_, ys, us, rfl, N6.skip e⟩
      · rintro σ G ⟨v4, ys, us, rfl, N⟩
        exact ⟨_, _, _, ys, us, rfl, N.next (by rw [szk]; omega)⟩
    · rintro σ G ⟨v2, v3, v4, ys, us, rfl, N⟩
      rw [tl] at N
      have l := N.len
      refine ⟨_, rfl, kont D ys us G hD N.same N.at_ N.pr N.nd (fun u ou => ?_) (by omega)⟩
      obtain ⟨o, e⟩ := nqk_on T n2 (by decide) ou
      rw [← e]
      exact N.all _ _ o (.inl o.1) (by rw [e])
end
end OT

set_option Elab.async false
set_option linter.all false
set_option maxRecDepth 100000
set_option maxHeartbeats 1000000
namespace OT
open PySem L2 OTR
theorem iteYS {c A B : Prop} [Decidable c] (hc : ¬ c) (h : A) : if (!decide c) = true then A else B := by
  rw [decide_eq_false hc]
  exact h
/-- a march: the road, the distance and the parts of its goal; its steps -/
abbrev MFact := Int × Int × Int × Int
def mPl (m : MFact) : Fact := (m.1, m.2.1, m.2.2.1)
inductive ErrM where
  | marches (n : Int)
  | no (r : Int)
  | off (r : Int)
  | whole (k : Int)
  | steps (n : Int)
def RdIn (F : List Fact) (x : Int) : Prop := 0 ≤ x ∧ x < (F.length : Int)
instance (F : List Fact) (x : Int) : Decidable (RdIn F x) := by unfold RdIn; exact inferInstance
def SpIn (F : List Fact) (r : Fact) : Prop := 0 ≤ r.2.1 ∧ r.2.1 ≤ (rd F r.1.toNat).2.2 * r.2.2
instance (F : List Fact) (r : Fact) : Decidable (SpIn F r) := by unfold SpIn; exact inferInstance
def StIn (n : Int) : Prop := 1 ≤ n ∧ n ≤ 1000000000
instance (n : Int) : Decidable (StIn n) := by unfold StIn; exact inferInstance
/-- the error of the march with the number k -/
def dueO (F : List Fact) (k : Int) (m : MFact) : Option ErrM :=
  if ¬ RdIn F m.1 then some (.no m.1) else if ¬ SpIn F (mPl m) then some (.off m.1) else if m.2.1 % m.2.2.1 ≠ 0 then some (.whole k) else if ¬ StIn m.2.2.2 then some (.steps m.2.2.2) else none
def dueL (F : List Fact) : Nat → List MFact → Option ErrM
  | _, [] => none
  | k, m :: l => match dueO F (k : Nat) m with
    | some e => some e
    | none => dueL F (k + 1) l
def dueM (F : List Fact) (l : List MFact) : Option ErrM := if 24 < l.length then some (.marches l.length) else dueL F 0 l
theorem dueL_cons_some {F : List Fact} {k : Nat} {m : MFact} {l : List MFact} {e : ErrM} (h : dueO F (k : Nat) m = some e) : dueL F k (m :: l) = some e := by
  unfold dueL
  rw [h]
theorem dueL_cons_none {F : List Fact} {k : Nat} {m : MFact} {l : List MFact} (h : dueO F (k : Nat) m = none) : dueL F k (m :: l) = dueL F (k + 1) l := by
  rw [dueL, h]
theorem dueO_no {F : List Fact} {k : Int} {m : MFact} (h : ¬ RdIn F m.1) : dueO F k m = some (.no m.1) := by
  unfold dueO
  rw [if_pos h]
theorem dueO_off {F : List Fact} {k : Int} {m : MFact} (h : RdIn F m.1) (h2 : ¬ SpIn F (mPl m)) : dueO F k m = some (.off m.1) := by
  unfold dueO
  rw [if_neg (fun z => z h), if_pos h2]
theorem dueO_whole {F : List Fact} {k : Int} {m : MFact} (h : RdIn F m.1) (h2 : SpIn F (mPl m)) (h3 : m.2.1 % m.2.2.1 ≠ 0) : dueO F k m = some (.whole k) := by
  unfold dueO
  rw [if_neg (fun z => z h), if_neg (fun z => z h2), if_pos h3]
theorem dueO_steps {F : List Fact} {k : Int} {m : MFact} (h : RdIn F m.1) (h2 : SpIn F (mPl m)) (h3 : m.2.1 % m.2.2.1 = 0) (h4 : ¬ StIn m.2.2.2) : dueO F k m = some (.steps m.2.2.2) := by
  unfold dueO
  rw [if_neg (fun z => z h), if_neg (fun z => z h2), if_neg (fun z => z h3), if_pos h4]
theorem dueO_go {F : List Fact} {k : Int} {m : MFact} (h : RdIn F m.1) (h2 : SpIn F (mPl m)) (h3 : m.2.1 % m.2.2.1 = 0) (h4 : StIn m.2.2.2) : dueO F k m = none := by
  unfold dueO
  rw [if_neg (fun z => z h), if_neg (fun z => z h2), if_neg (fun z => z h3), if_neg (fun z => z h4)]
theorem low_pos {r : Fact} (h : 1 ≤ r.2.2) : 1 ≤ (low r).2.2 ∧ (low r).2.2 ≤ r.2.2 := by
  have g0 := gcd_pos (a := r.2.1) (b := r.2.2) h
  have d := back_of (gcdI_right r.2.1 r.2.2)
  show 1 ≤ r.2.2 / gcdI r.2.1 r.2.2 ∧ r.2.2 / gcdI r.2.1 r.2.2 ≤ r.2.2
  generalize gcdI r.2.1 r.2.2 = g at *
  generalize r.2.2 / g = q at *
  have q1 : 1 ≤ q := by
    have z : 0 < q * g := by omega
    by_cases c : 0 < q
    · omega
    · have : q * g ≤ 0 := Int.mul_nonpos_of_nonpos_of_nonneg (by omega) (by omega)
      omega
  refine ⟨q1, ?_⟩
  have : q * 1 ≤ q * g := Int.mul_le_mul_of_nonneg_left (by omega) (by omega)
  omega
theorem low_sm {r : Fact} (h : 1 ≤ r.2.2) (h2 : r.2.2 < 2 ^ 60) : PlSm (low r) := ⟨(low_pos h).1, by have := (low_pos h).2; omega⟩
theorem low_sp {F : List Fact} {r : Fact} (h : 1 ≤ r.2.2) : SpIn F (low r) ↔ SpIn F r := by
  have g0 := gcd_pos (a := r.2.1) (b := r.2.2) h
  have d := back_of (gcdI_right r.2.1 r.2.2)
  have c := back_of (gcdI_left r.2.1 r.2.2)
  unfold SpIn
  show (0 ≤ r.2.1 / gcdI r.2.1 r.2.2 ∧ r.2.1 / gcdI r.2.1 r.2.2 ≤ (rd F r.1.toNat).2.2 * (r.2.2 / gcdI r.2.1 r.2.2)) ↔ _
  generalize gcdI r.2.1 r.2.2 = g at *
  generalize r.2.2 / g = q at *
  generalize r.2.1 / g = p at *
  generalize (rd F r.1.toNat).2.2 = L at *
  rw [c, d, ← Int.mul_assoc]
  constructor
  · rintro ⟨a, b⟩
    exact ⟨Int.mul_nonneg a (by omega), Int.mul_le_mul_of_nonneg_right b (by omega)⟩
  · rintro ⟨a, b⟩
    refine ⟨?_, Int.le_of_mul_le_mul_right b g0⟩
    by_cases z : 0 ≤ p
    · exact z
    · have : p * g < 0 := Int.mul_neg_of_neg_of_pos (by omega) g0
      omega
theorem low_whl {r : Fact} (h : 1 ≤ r.2.2) : (low r).2.2 = 1 ↔ r.2.1 % r.2.2 = 0 := by
  have g0 := gcd_pos (a := r.2.1) (b := r.2.2) h
  have d := back_of (gcdI_right r.2.1 r.2.2)
  have c := back_of (gcdI_left r.2.1 r.2.2)
  show r.2.2 / gcdI r.2.1 r.2.2 = 1 ↔ _
  constructor
  · intro e
    rw [e, Int.one_mul] at d
    exact Int.emod_eq_zero_of_dvd (by rw [d]; exact gcdI_left _ _)
  · intro e
    have dv : r.2.2 ∣ r.2.1 := Int.dvd_of_emod_eq_zero e
    have dg : r.2.2 ∣ gcdI r.2.1 r.2.2 := by
      unfold gcdI
      exact Int.dvd_coe_gcd dv (Int.dvd_refl _)
    have le : r.2.2 ≤ gcdI r.2.1 r.2.2 := Int.le_of_dvd g0 dg
    have ge : gcdI r.2.1 r.2.2 ≤ r.2.2 := Int.le_of_dvd (by omega) (gcdI_right _ _)
    have e1 : gcdI r.2.1 r.2.2 = r.2.2 := by omega
    rw [e1]
    exact Int.ediv_self (by omega)
end OT

set_option Elab.async false
set_option linter.all false
set_option maxRecDepth 100000
set_option maxHeartbeats 4000000
namespace OT
open PySem L2 OTR
abbrev sNotW : Stmt := inClass (top 9) 0
abbrev sMarchI : Stmt := inClass (top 35) 0
abbrev sRowI : Stmt := inClass (top 36) 0
abbrev sCheckMa : Stmt := top 37
structure MaT (K : PySem.W.Frag) (mg : Str → Option Value) (C : Addr) : Prop where
  cl : Cls K C
  nG : NoAttr K C "goal"
  nS : NoAttr K C "steps"
  mgC : mg "March" = some (.ref C)
structure RwT (K : PySem.W.Frag) (mg : Str → Option Value) (C : Addr) : Prop where
  cl : Cls K C
  nT : NoAttr K C "tree"
  nM : NoAttr K C "marches"
  mgC : mg "Row" = some (.ref C)
def maF (g : Addr) (n : Int) : List (Str × V) := [("goal", .ref g), ("steps", .int n)]
theorem maF_g (g : Addr) (n : Int) : (maF g n).lookup ("goal" : Str) = some (.ref g) := lk0
theorem maF_s (g : Addr) (n : Int) : (maF g n).lookup ("steps" : Str) = some (.int n) := by
  unfold maF
  rw [lk1 (by decide +kernel)]
  exact lk0
theorem maF_put (g : Addr) (n : Int) : putF "steps" (.int n) (putF "goal" (.ref g) []) = maF g n := by
  have h1 : ¬ (("goal" : Str) = "steps") := by decide +kernel
  show (if ("goal" : Str) = "steps" then _ else (("goal" : Str), V.ref g) :: putF "steps" (.int n) []) = maF g n
  rw [if_neg h1]
  rfl
def rwF (a t : Addr) : List (Str × V) := [("tree", .ref a), ("marches", .ref t)]
theorem rwF_t (a t : Addr) : (rwF a t).lookup ("tree" : Str) = some (.ref a) := lk0
theorem rwF_m (a t : Addr) : (rwF a t).lookup ("marches" : Str) = some (.ref t) := by
  unfold rwF
  rw [lk1 (by decide +kernel)]
  exact lk0
theorem rwF_put (a t : Addr) : putF "marches" (.ref t) (putF "tree" (.ref a) []) = rwF a t := by
  have h1 : ¬ (("tree" : Str) = "marches") := by decide +kernel
  show (if ("tree" : Str) = "marches" then _ else (("tree" : Str), V.ref a) :: putF "marches" (.ref t) []) = rwF a t
  rw [if_neg h1]
  rfl
def MarchAt (C : Addr) (H : Hp) (p g : Addr) (n : Int) : Prop := ∃ dx, H p = some (.ins C dx (maF g n))
theorem MarchAt.same {C : Addr} {H H' : Hp} {p g : Addr} {n : Int} (h : MarchAt C H p g n) (s : Same H H') : MarchAt C H' p g n := let ⟨dx, e⟩ := h; ⟨dx, s _ _ e⟩
/-- a march of the program, as the law tells it -/
def MaAt (CM CP : Addr) (H : Hp) (p : Addr) (m : MFact) : Prop := ∃ g, MarchAt CM H p g m.2.2.2 ∧ PlaceAt CP H g (low (mPl m))
theorem MaAt.same {CM CP : Addr} {H H' : Hp} {p : Addr} {m : MFact} (h : MaAt CM CP H p m) (s : Same H H') : MaAt CM CP H' p m := let ⟨g, a, b⟩ := h; ⟨g, a.same s, b.same s⟩
abbrev MasAt (CM CP : Addr) (H : Hp) (ps : List Addr) (l : List MFact) : Prop := Paired (MaAt CM CP H) ps l
theorem MasAt.same {CM CP : Addr} {H H' : Hp} {ps : List Addr} {l : List MFact} (h : MasAt CM CP H ps l) (s : Same H H') : MasAt CM CP H' ps l := Paired.mapP h fun _ _ a => a.same s
/-- the parts of the goals: few enough -/
def MSm (m : MFact) : Prop := 1 ≤ m.2.2.1 ∧ m.2.2.1 < 2 ^ 60
def RaisM (CB CNR COR CNW : Addr) (H : Hp) (E : XK) : ErrM → Prop
  | .marches n => Raised CB [("count", .int n), ("what", .str "marches")] H E
  | .no r => Raised CNR [("road", .int r)] H E
  | .off r => Raised COR [("road", .int r)] H E
  | .whole k => Raised CNW [("march", .int k)] H E
  | .steps n => Raised CB [("count", .int n), ("what", .str "steps")] H E
theorem RaisM.mono {CB CNR COR CNW : Addr} {H H1 : Hp} {E : XK} {e : ErrM} (h : RaisM CB CNR COR CNW H E e) (s : ∀ b o, H b = some o → H1 b = some o) : RaisM CB CNR COR CNW H1 E e := by
  cases e <;> exact Raised.mono h s
def spMarchI (C : Addr) : Sp := fun vs H Q _ => ∃ (p dx g : Addr) (n : Int), vs = [.ref p, .ref g, .int n] ∧ H p = some (.ins C dx []) ∧ ∀ H', MarchAt C H' p g n → (∀ b o, H b = some o → b ≠ p → H' b = some o) → Q .non H'
def spCheckMa (K : PySem.W.Frag) (CT CR CM CP CB CNR COR CNW : Addr) : Sp := fun vs H Q E => ∃ (a p : Addr) (k n : Int) (ps : List Addr) (F : List Fact) (m : MFact), vs = [.ref a, .int k, .ref p] ∧ TreeAt K CT CR H a n ps F ∧ TreeG n F ∧ MaAt CM CP H p m ∧ MSm m ∧
  (∀ e, dueO F k m = some e → RaisM CB CNR COR CNW H E e) ∧ (dueO F k m = none → Q .non H)
def RowAt (K : PySem.W.Frag) (CW : Addr) (H : Hp) (p a : Addr) (ms : List Addr) : Prop := ∃ dx t, H p = some (.ins CW dx (rwF a t)) ∧ SqT K H t (ms.map V.ref)
def spRowI (K : PySem.W.Frag) (CT CR CM CP CW CB CNR COR CNW : Addr) : Sp := fun vs H Q E => ∃ (p dx a l : Addr) (n : Int) (ps : List Addr) (F : List Fact) (ms : List Addr) (fs : List MFact) (H0 : Hp), vs = [.ref p, .ref a, .ref l] ∧ H p = some (.ins CW dx []) ∧ H0 p = none ∧ Same H0 H ∧
  TreeAt K CT CR H0 a n ps F ∧ TreeG n F ∧ SqA K H0 l (ms.map V.ref) ∧ MasAt CM CP H0 ms fs ∧ (∀ m ∈ fs, MSm m) ∧ fs.length ≤ 1000 ∧
  (∀ e, dueM F fs = some e → RaisM CB CNR COR CNW H0 E e) ∧ (dueM F fs = none → ∀ H', RowAt K CW H' p a ms → Same H0 H' → Q .non H')
theorem TreeAt.same1 {K : PySem.W.Frag} {CT CR : Addr} {H H' : Hp} {p : Addr} {n : Int} {ps : List Addr} {F : List Fact} (h : TreeAt K CT CR H p n ps F) (s : Same H H') : TreeAt K CT CR H' p n ps F := h.same s
section
variable {P : Program} {w : World} {K : PySem.W.Frag} {mg : Str → Option Value} {base : Heap}
theorem scNotW : FnScope ["self", "march"] ["self", "march"] (defScope sNotW) := ⟨rfl, rfl, rfl, by decide +kernel, rfl, by decide +kernel, by decide +kernel⟩
theorem ok_notW {f C : Addr} {fd : FuncData} (F : Fun K "__init__" "NotWhole.__init__" sNotW f fd) (T : OexC K C) (n1 : PySem.W.findIn K (.ref C) "march" = some none) : FnOk P w K mg base CX0 1 f fd ["self", "march"] (spEr1 C "march") := by
  refine F.ok scNotW (fun vs H Q E h => ?_) (fun cdv A outer s H vs Q E hr h => ?_)
  · obtain ⟨a, v, rfl, _⟩ := h
    rfl
  · obtain ⟨a, v, rfl, ha, k⟩ := h
    refine ⟨_, pss_one (ps_ost (pv 0) (pv 1)), ?_⟩
    exact ⟨_, rfl, _, rfl, a, C, rfl, T, n1, .inl ⟨ha, fun dx n ne => k dx n ne⟩⟩
theorem scMarchI : FnScope ["self", "goal", "steps"] ["self", "goal", "steps"] (defScope sMarchI) := ⟨rfl, rfl, rfl, by decide +kernel, rfl, by decide +kernel, by decide +kernel⟩
theorem ok_marchI {f C : Addr} {fd : FuncData} (F : Fun K "__init__" "March.__init__" sMarchI f fd) (T : MaT K mg C) : FnOk P w K mg base CX0 1 f fd ["self", "goal", "steps"] (spMarchI C) := by
  refine F.ok scMarchI (fun vs H Q E h => ?_) (fun cdv A outer s H vs Q E hr h => ?_)
  · obtain ⟨p, dx, g, n, rfl, _⟩ := h
    rfl
  · obtain ⟨p, dx, g, n, rfl, hp, k⟩ := h
    refine ⟨_, pss_cons (ps_fld (pv 0) (pv 1) rfl) (pss_one (ps_fld (pv 0) (pv 2) rfl)), ?_⟩
    refine ⟨_, rfl, _, rfl, p, C, dx, [], rfl, hp, T.cl, T.nG, (by show 0 < 1000; decide), ?_⟩
    refine ⟨_, rfl, _, rfl, p, C, dx, _, rfl, upd_same, T.cl, T.nS, (by show 1 < 1000; decide), ?_⟩
    refine k _ ⟨dx, ?_⟩ fun b o e n => ?_
    · rw [← maF_put]
      exact upd_same
    · rw [upd_ne n, upd_ne n]
      exact e
theorem scCheckMa : FnScope ["tree", "number", "march"] ["tree", "number", "march"] (defScope sCheckMa) := ⟨rfl, rfl, rfl, by decide +kernel, rfl, by decide +kernel, by decide +kernel⟩
theorem ok_checkMa {f CT CR CM CP CB CNR COR CNW fC fB fW : Addr} {fd fdC fdB fdW : FuncData} (F : Fun K "check_march" "check_march" sCheckMa f fd) (TM : MaT K mg CM) (TP : PlT K mg CP) (TB : ErT K mg "BadCount" CB fB) (TW : ErT K mg "NotWhole" CNW fW)
    (FC : FnOk P w K mg base (L2.CX P w) 3 fC fdC ["tree", "place"] (spCheckPl K CT CR CP CNR COR)) (bC : Binds K fdC ["tree", "place"] []) (mC : mg "check_place" = some (.ref fC)) (kC : PySem.W.keepIn K (.ref fC) = true)
    (FB : FnOk P w K mg base CX0 1 fB fdB ["self", "what", "count"] (spEr2 CB "what" "count")) (bB : Binds K fdB ["self", "what", "count"] [])
    (FW : FnOk P w K mg base CX0 1 fW fdW ["self", "march"] (spEr1 CNW "march")) (bW : Binds K fdW ["self", "march"] []) (hL : ∃ t, mg "MOST_STEPS" = some (.int 1000000000 t)) :
    FnOk P w K mg base (L2.CX P w) 4 f fd ["tree", "number", "march"] (spCheckMa K CT CR CM CP CB CNR COR CNW) := by
  refine F.okX scCheckMa (fun vs H Q E h => ?_) (fun cdv A outer s H vs Q E hr h => ?_)
  · obtain ⟨a, p, k, n, ps, F, m, rfl, _⟩ := h
    rfl
  · obtain ⟨a, p, k, n, ps, F, m, rfl, TA, G, ⟨g, ⟨dm, em⟩, pl⟩, ⟨sm1, sm2⟩, kE, kQ⟩ := h
    obtain ⟨tL, hL⟩ := hL
    have hr1 : Room 2 _ := hr.mono (by decide)
    refine ⟨_, pss_cons (ps_expr (pe_call FC hr rfl mC kC bC .nil (passes_call (takes_of rfl rfl rfl rfl) fun _ _ _ _ h => h) (pa_cons (pv 0) (pa_cons (pe_fld (pv 2) rfl) pa_nil))))
      (pss_cons (ps_if (pt_cmpR op_ne (pe_fld (pe_fld (pv 2) rfl) rfl) pe_int (nomark _))
          (pss_one (ps_raise rfl (takes_of rfl rfl rfl rfl) (pmk_oex TW.ox TW.iC TW.tI FW hr1 bW .nil pass0 (by rfl) TW.gC (pa_cons (pv 1) pa_nil)))) pss_nil)
      (pss_one (ps_if (pt_not (pt_chain op_le op_le pe_int (pe_fld (pv 2) rfl) (pe_glob (v := V.int 1000000000) rfl hL ⟨tL, rfl⟩)))
          (pss_one (ps_raise rfl (takes_of rfl rfl rfl rfl) (pmk_oex TB.ox TB.iC TB.tI FB hr1 bB .nil pass0 (by rfl) TB.gC (pa_cons pe_str (pa_cons (pe_fld (pv 2) rfl) pa_nil))))) pss_nil))), ?_⟩
    have lsm := low_sm (r := mPl m) sm1 sm2
    have lsp := low_sp (F := F) (r := mPl m) sm1
    have lwh := low_whl (r := mPl m) sm1
    obtain ⟨dp, ep⟩ := id pl
    refine ⟨_, rfl, _, rfl, p, CM, dm, _, _, rfl, em, TM.cl, TM.nG, maF_g g _, a, g, n, ps, F, low (mPl m), rfl, TA, pl, G, lsm, fun z => ?_, fun z1 z2 => ?_, fun on => ?_⟩
    · exact kE _ (dueO_no (m := m) z)
    · exact kE _ (dueO_off (m := m) z1 fun z => z2 (lsp.mpr z))
    obtain ⟨on1, on2⟩ := on
    have on2' := lsp.mp on2
    refine ⟨_, rfl, p, CM, dm, _, _, rfl, em, TM.cl, TM.nG, maF_g g _, g, CP, dp, _, _, rfl, ep, TP.cl, TP.nP, plF_p _, rfl, _, rfl, ?_⟩
    by_cases h3 : (low (mPl m)).2.2 = 1
    · have w3 := lwh.mp h3
      refine iteNS (by rw [h3]) ?_
      refine ⟨_, rfl, p, CM, dm, _, _, rfl, em, TM.cl, TM.nS, maF_s g _, _, _, rfl, rfl, _, rfl, ?_⟩
      by_cases h0 : 1 ≤ m.2.2.2
      · rw [decide_eq_true h0]
        refine iteT ⟨_, _, rfl, rfl, _, rfl, ?_⟩
        by_cases h1 : m.2.2.2 ≤ 1000000000
        · rw [decide_eq_true h1]
          exact iteF (kQ (dueO_go on1 on2' w3 ⟨h0, h1⟩))
        · rw [decide_eq_false h1]
          exact iteT ⟨_, rfl, p, CM, dm, _, _, rfl, em, TM.cl, TM.nS, maF_s g _, len2, fun b hb => er2 hb (kE _ (dueO_steps on1 on2' w3 fun z => h1 z.2))⟩
      · rw [decide_eq_false h0]
        refine iteF ⟨_, rfl, ?_⟩
        exact iteT ⟨_, rfl, p, CM, dm, _, _, rfl, em, TM.cl, TM.nS, maF_s g _, len2, fun b hb => er2 hb (kE _ (dueO_steps on1 on2' w3 fun z => h0 z.1))⟩
    · have h4 : ¬ (V.int (low (mPl m)).2.2 = V.int 1) := fun z => h3 (V.int.inj z)
      rw [decide_eq_false h4]
      exact iteT ⟨_, rfl, len1, fun b hb => er1 hb (kE _ (dueO_whole (m := m) on1 on2' fun z => h3 (lwh.mpr z)))⟩
abbrev nRowI : List Str := ["self", "tree", "marches", "number", "march"]
theorem scRowI : FnScope nRowI ["self", "tree", "marches"] (defScope sRowI) := ⟨rfl, rfl, rfl, by decide +kernel, rfl, by decide +kernel, by decide +kernel⟩
theorem ok_rowI {f CT CR CM CP CW CB CNR COR CNW fC fB : Addr} {fd fdC fdB : FuncData} (F : Fun K "__init__" "Row.__init__" sRowI f fd) (TW : RwT K mg CW) (TB : ErT K mg "BadCount" CB fB)
    (FC : FnOk P w K mg base (L2.CX P w) 4 fC fdC ["tree", "number", "march"] (spCheckMa K CT CR CM CP CB CNR COR CNW)) (bC : Binds K fdC ["tree", "number", "march"] []) (mC : mg "check_march" = some (.ref fC)) (kC : PySem.W.keepIn K (.ref fC) = true)
    (FB : FnOk P w K mg base CX0 1 fB fdB ["self", "what", "count"] (spEr2 CB "what" "count")) (bB : Binds K fdB ["self", "what", "count"] [])
    (hMost : ∃ t, mg "MOST_MARCHES" = some (.int 24 t)) (hLen : mg "len" = none) (hEn : mg "enumerate" = none) (hTup : mg "tuple" = none) :
    FnOk P w K mg base (L2.CX P w) 5 f fd ["self", "tree", "marches"] (spRowI K CT CR CM CP CW CB CNR COR CNW) := by
  refine F.okX scRowI (fun vs H Q E h => ?_) (fun cdv A outer s H vs Q E hr h => ?_)
  · obtain ⟨p, dx, a, l, n, ps, F, ms, fs, H0, rfl, _⟩ := h
    rfl
  · obtain ⟨p, dx, a, l, n, ps, F, ms, fs, H0, rfl, hp, hp0, s0, TA, G, hS, hM, sm, hl, kE, kQ⟩ := h
    obtain ⟨tm, hMost⟩ := hMost
    have hr1 : Room 2 _ := hr.mono (by decide)
    have lenE : (ms.map V.ref).length = fs.length := by rw [List.length_map]; exact Paired.length hM
    -- behind the loop: the fields
    have sp : ∀ {H2 : Hp} {o : HO}, Same H0 H2 → Same H0 (upd H2 p o) := fun {H2 o} s2 b u e => by
      rw [upd_ne (ne_of_none e hp0)]
      exact s2 b u e
    have due0 : ¬ 24 < fs.length → dueM F fs = dueL F 0 fs := fun z => by
      unfold dueM
      rw [if_neg z]
    have due1 : 24 < fs.length → dueM F fs = some (.marches fs.length) := fun z => by
      unfold dueM
      rw [if_pos z]
    -- one turn
    have turn : ∀ {i : Nat} {q : Addr} {H2 : Hp}, ms[i]? = some q → dueM F fs = dueL F i (fs.drop i) → Same H0 H2 → ∃ m, fs[i]? = some m ∧ MaAt CM CP H2 q m ∧ MSm m ∧ (∀ e, dueO F (i : Nat) m = some e → RaisM CB CNR COR CNW H2 E e) ∧ (dueO F (i : Nat) m = none → dueM F fs = dueL F (i + 1) (fs.drop (i + 1))) := fun {i q H2} hq e2 s2 => by
      obtain ⟨m, hm, am⟩ := paired_get hM hq
      have ed := drop_get hm
      refine ⟨m, hm, am.same s2, sm m (List.mem_of_getElem? hm), fun e he => ?_, fun he => ?_⟩
      · refine RaisM.mono (kE e ?_) s2
        rw [e2, ed, dueL_cons_some he]
      · rw [e2, ed, dueL_cons_none he]
    rcases hS with hS | hS
    · refine ⟨_, pss_cons (ps_if (pt_cmpR op_gt (pe_callB call_len_seq (by rfl) hLen PySem.boot_len (pa_cons (pv 2) pa_nil)) (pe_glob (v := V.int 24) rfl hMost ⟨tm, rfl⟩) (nomark _))
          (pss_one (ps_raise rfl (takes_of rfl rfl rfl rfl) (pmk_oex TB.ox TB.iC TB.tI FB hr1 bB .nil pass0 (by rfl) TB.gC (pa_cons pe_str (pa_cons (pe_callB call_len_seq (by rfl) hLen PySem.boot_len (pa_cons (pv 2) pa_nil)) pa_nil))))) pss_nil)
        (pss_cons (ps_for (passes_of rfl) rfl (pi_enum rfl hEn (pa_cons (pv 2) pa_nil)) (pg_tup rfl (pgs_cons (pg_name (i := 3) scRowI.nd rfl (Or.inl rfl)) (pgs_cons (pg_name (i := 4) scRowI.nd rfl (Or.inl rfl)) pgs_nil)))
          (pss_one (ps_expr (pe_call FC hr rfl mC kC bC .nil (passes_call (takes_of rfl rfl rfl rfl) fun _ _ _ _ h => h) (pa_cons (pv 1) (pa_cons (pv 3) (pa_cons (pv 4) pa_nil)))))))
        (pss_cons (ps_fld (pv 0) (pv 1) rfl)
        (pss_one (ps_fld (pv 0) (pe_callTy (r := rTupO K) call_tuple_of (by rfl) hTup (by decide +kernel) (pa_cons (pv 2) pa_nil)) rfl)))), ?_⟩
      refine ⟨_, rfl, l, _, rfl, .inl (s0.seq hS), _, _, rfl, rfl, _, rfl, ?_⟩
      rw [lenE]
      by_cases h24 : 24 < fs.length
      · rw [decide_eq_true (by omega : (fs.length : Int) > 24)]
        refine iteT ⟨_, rfl, l, _, rfl, .inl (s0.seq hS), len2, fun b hb => ?_⟩
        rw [lenE]
        exact er2 hb (RaisM.mono (e := .marches fs.length) (kE _ (due1 h24)) s0)
      · rw [decide_eq_false (by omega : ¬ (fs.length : Int) > 24)]
        refine iteF ?_
        refine ⟨_, rfl, l, _, rfl, s0.seq hS, for_it (walk_enum (K := K) (a := l) (xs := ms.map V.ref)) (fun i σ H2 => ∃ (v3 v4 : Option V), σ = [some (.ref p), some (.ref a), some (.ref l), v3, v4] ∧ Same H H2 ∧ dueM F fs = dueL F i (fs.drop i))
          ⟨none, none, rfl, Same.refl H, due0 h24⟩ (fun i σ H2 _ ⟨_, _, _, s2, _⟩ => (s0.trans s2).seq hS) ?_ ?_⟩
        · rintro i x σ H2 H3 hi ⟨v3, v4, rfl, s2, e2⟩ ⟨T, x1, y1, rfl, hT, rfl, hx1, hy1⟩
          cases hx1
          obtain ⟨q, hq, rfl⟩ := map_get (show (ms.map V.ref)[i]? = some y1 from hy1)
          have s3 : Same H2 (upd H2 T (.tup [.int (i : Nat), .ref q])) := Same.new hT
          obtain ⟨m, hm, am, smm, t1, t2⟩ := turn hq e2 ((s0.trans s2).trans s3)
          refine ⟨T, _, rfl, SqT.of upd_same, rfl, _, _, rfl, _, _, rfl, rfl, ?_⟩
          refine ⟨_, rfl, _, rfl, _, rfl, a, q, (i : Nat), n, ps, F, m, rfl, TA.same ((s0.trans s2).trans s3), G, am, smm, t1, fun he => ?_⟩
          exact ⟨_, _, rfl, s2.trans s3, t2 he⟩
        · rintro σ H2 ⟨v3, v4, rfl, s2, e2⟩
          rw [lenE, List.drop_length] at e2
          refine ⟨_, rfl, _, rfl, p, CW, dx, [], rfl, s2 _ _ hp, TW.cl, TW.nT, (by show 0 < 1000; decide), ?_⟩
          refine tupE rfl (.inl (sp (s0.trans s2) |>.seq hS)) fun t Hb sb ht => ?_
          have hpb := sb _ _ (upd_same (H := H2) (a := p) (o := .ins CW dx (putF "tree" (.ref a) [])))
          refine ⟨_, rfl, p, CW, dx, _, rfl, hpb, TW.cl, TW.nM, (by show 1 < 1000; decide), ?_⟩
          rw [rwF_put]
          exact kQ e2 _ ⟨dx, t, upd_same, sqT_ins hpb ht⟩ (sp ((sp (s0.trans s2)).trans sb))
    · refine ⟨_, pss_cons (ps_if (pt_cmpR op_gt (pe_callB call_len_seq (by rfl) hLen PySem.boot_len (pa_cons (pv 2) pa_nil)) (pe_glob (v := V.int 24) rfl hMost ⟨tm, rfl⟩) (nomark _))
          (pss_one (ps_raise rfl (takes_of rfl rfl rfl rfl) (pmk_oex TB.ox TB.iC TB.tI FB hr1 bB .nil pass0 (by rfl) TB.gC (pa_cons pe_str (pa_cons (pe_callB call_len_seq (by rfl) hLen PySem.boot_len (pa_cons (pv 2) pa_nil)) pa_nil))))) pss_nil)
        (pss_cons (ps_for (passes_of rfl) rfl (pi_enumT (by rfl) hEn (pa_cons (pv 2) pa_nil)) (pg_tup rfl (pgs_cons (pg_name (i := 3) scRowI.nd rfl (Or.inl rfl)) (pgs_cons (pg_name (i := 4) scRowI.nd rfl (Or.inl rfl)) pgs_nil)))
          (pss_one (ps_expr (pe_call FC hr rfl mC kC bC .nil (passes_call (takes_of rfl rfl rfl rfl) fun _ _ _ _ h => h) (pa_cons (pv 1) (pa_cons (pv 3) (pa_cons (pv 4) pa_nil)))))))
        (pss_cons (ps_fld (pv 0) (pv 1) rfl)
        (pss_one (ps_fld (pv 0) (pe_callTy (r := rTupO K) call_tuple_of (by rfl) hTup (by decide +kernel) (pa_cons (pv 2) pa_nil)) rfl)))), ?_⟩
      refine ⟨_, rfl, l, _, rfl, .inr (sqT_same hS s0), _, _, rfl, rfl, _, rfl, ?_⟩
      rw [lenE]
      by_cases h24 : 24 < fs.length
      · rw [decide_eq_true (by omega : (fs.length : Int) > 24)]
        refine iteT ⟨_, rfl, l, _, rfl, .inr (sqT_same hS s0), len2, fun b hb => ?_⟩
        rw [lenE]
        exact er2 hb (RaisM.mono (e := .marches fs.length) (kE _ (due1 h24)) s0)
      · rw [decide_eq_false (by omega : ¬ (fs.length : Int) > 24)]
        refine iteF ?_
        refine ⟨_, rfl, l, _, rfl, sqT_same hS s0, for_it (walk_enumT (K := K) (a := l) (xs := ms.map V.ref)) (fun i σ H2 => ∃ (v3 v4 : Option V), σ = [some (.ref p), some (.ref a), some (.ref l), v3, v4] ∧ Same H H2 ∧ dueM F fs = dueL F i (fs.drop i))
          ⟨none, none, rfl, Same.refl H, due0 h24⟩ (fun i σ H2 _ ⟨_, _, _, s2, _⟩ => sqT_same hS (s0.trans s2)) ?_ ?_⟩
        · rintro i x σ H2 H3 hi ⟨v3, v4, rfl, s2, e2⟩ ⟨T, x1, y1, rfl, hT, rfl, hx1, hy1⟩
          cases hx1
          obtain ⟨q, hq, rfl⟩ := map_get (show (ms.map V.ref)[i]? = some y1 from hy1)
          have s3 : Same H2 (upd H2 T (.tup [.int (i : Nat), .ref q])) := Same.new hT
          obtain ⟨m, hm, am, smm, t1, t2⟩ := turn hq e2 ((s0.trans s2).trans s3)
          refine ⟨T, _, rfl, SqT.of upd_same, rfl, _, _, rfl, _, _, rfl, rfl, ?_⟩
          refine ⟨_, rfl, _, rfl, _, rfl, a, q, (i : Nat), n, ps, F, m, rfl, TA.same ((s0.trans s2).trans s3), G, am, smm, t1, fun he => ?_⟩
          exact ⟨_, _, rfl, s2.trans s3, t2 he⟩
        · rintro σ H2 ⟨v3, v4, rfl, s2, e2⟩
          rw [lenE, List.drop_length] at e2
          refine ⟨_, rfl, _, rfl, p, CW, dx, [], rfl, s2 _ _ hp, TW.cl, TW.nT, (by show 0 < 1000; decide), ?_⟩
          refine tupE rfl (.inr (sqT_same hS (sp (s0.trans s2)))) fun t Hb sb ht => ?_
          have hpb := sb _ _ (upd_same (H := H2) (a := p) (o := .ins CW dx (putF "tree" (.ref a) [])))
          refine ⟨_, rfl, p, CW, dx, _, rfl, hpb, TW.cl, TW.nM, (by show 1 < 1000; decide), ?_⟩
          rw [rwF_put]
          exact kQ e2 _ ⟨dx, t, upd_same, sqT_ins hpb ht⟩ (sp ((sp (s0.trans s2)).trans sb))
end
end OT

set_option Elab.async false
set_option linter.all false
set_option maxRecDepth 100000
set_option maxHeartbeats 4000000
namespace OT
open PySem L2 OTR
/-- a drawn march (road, distance, steps) -/
structure MrOk (F : List Fact) (far : Int) (r : Fact) : Prop where
  rd : RdIn F r.1
  lo : 0 ≤ r.2.1
  hi : r.2.1 ≤ (OT.rd F r.1.toNat).2.2
  s1 : 1 ≤ r.2.2
  s2 : r.2.2 ≤ 2 ∨ r.2.2 ≤ far
theorem Src.fresh {s p : Addr} {H G : Hp} (b : But s H G) (sg : Src G s) (hp : G p = none) : H p = none := by
  cases e : H p with
  | none => rfl
  | some o =>
    have z := b p o e (sg.new hp)
    rw [hp] at z
    cases z
def spMarches : Sp := fun vs H Q _ => ∃ (s p q : Addr) (n most far : Int) (F : List Fact), vs = [.ref s, .ref p, .int most, .int far] ∧ Src H s ∧ TrAt H p q n F ∧ 0 < F.length ∧ F.length ≤ 23 ∧ (∀ r ∈ F, 1 ≤ r.2.2 ∧ r.2.2 ≤ 1000000000) ∧
  0 ≤ most ∧ most ≤ 100 ∧ 1 ≤ far ∧ far ≤ 1000000000 ∧ ∀ q' fs H', H q' = none → FactsAt H' q' fs → (∀ r ∈ fs, MrOk F far r) → (fs.length : Int) ≤ most → Src H' s → But s H H' → Q (.ref q') H'
end OT

set_option Elab.async false
set_option linter.all false
set_option maxRecDepth 100000
set_option maxHeartbeats 4000000
namespace OT
open PySem L2 OTR
/-- a march: the road of its goal, the distance, the steps -/
abbrev MG := Nat × Int × Int
structure MgOk (F : List Fact) (x : MG) : Prop where
  rd : x.1 < F.length
  lo : 0 ≤ x.2.1
  hi : x.2.1 ≤ (OT.rd F x.1).2.2
  s1 : 1 ≤ x.2.2
  s2 : x.2.2 ≤ 1000000000
theorem MgOk.on {F : List Fact} {x : MG} (h : MgOk F x) {S : Int} (hS : 1 ≤ S) : On F S x.1 (x.2.1 * S) := ⟨h.rd, Int.mul_nonneg h.lo (by omega), Int.mul_le_mul_of_nonneg_right h.hi (by omega)⟩
theorem MgOk.m0 {F : List Fact} {x : MG} (h : MgOk F x) {S : Int} (hS : 1 ≤ S) : 0 ≤ x.2.2 * S := Int.mul_nonneg (by have := h.s1; omega) (by omega)
def mf (x : MG) : MFact := (((x.1 : Nat) : Int), x.2.1, 1, x.2.2)
theorem low_mf (x : MG) : low (mPl (mf x)) = (((x.1 : Nat) : Int), x.2.1, 1) := low_one _ _
/-- a drawn march, as a march -/
def mg3 (r : Fact) : MG := (r.1.toNat, r.2.1, r.2.2)
theorem MrOk.mg {F : List Fact} {far : Int} {r : Fact} (h : MrOk F far r) (hf : far ≤ 1000000000) : MgOk F (mg3 r) :=
  ⟨by show r.1.toNat < F.length; have := h.rd.1; have := h.rd.2; omega, h.lo, h.hi, h.s1, by show r.2.2 ≤ _; rcases h.s2 with z | z <;> omega⟩
theorem MrOk.mf {F : List Fact} {far : Int} {r : Fact} (h : MrOk F far r) : mf (mg3 r) = (r.1, r.2.1, 1, r.2.2) := by
  show (((r.1.toNat : Nat) : Int), r.2.1, (1 : Int), r.2.2) = _
  rw [Int.toNat_of_nonneg h.rd.1]
theorem mgs_ok {F : List Fact} {far : Int} {gs : List Fact} (h : ∀ r ∈ gs, MrOk F far r) (hf : far ≤ 1000000000) : ∀ x ∈ gs.map mg3, MgOk F x := fun x hx => by
  obtain ⟨r, hr, rfl⟩ := List.mem_map.mp hx
  exact (h r hr).mg hf
theorem dueO_mg {F : List Fact} {x : MG} (h : MgOk F x) (k : Int) : dueO F k (mf x) = none := by
  refine dueO_go (m := mf x) ⟨by show 0 ≤ ((x.1 : Nat) : Int); omega, by show ((x.1 : Nat) : Int) < _; have := h.rd; omega⟩ ⟨h.lo, ?_⟩ (by show x.2.1 % 1 = 0; omega) ⟨h.s1, h.s2⟩
  show x.2.1 ≤ (rd F ((x.1 : Nat) : Int).toNat).2.2 * 1
  rw [Int.toNat_natCast, Int.mul_one]
  exact h.hi
theorem dueL_mg {F : List Fact} : ∀ {xs : List MG} {k : Nat}, (∀ x ∈ xs, MgOk F x) → dueL F k (xs.map mf) = none
  | [], _, _ => rfl
  | x :: xs, k, h => by
    show dueL F k (mf x :: xs.map mf) = none
    rw [dueL_cons_none (dueO_mg (h x List.mem_cons_self) _)]
    exact dueL_mg fun y hy => h y (List.mem_cons_of_mem _ hy)
theorem dueM_mg {F : List Fact} {xs : List MG} (h : ∀ x ∈ xs, MgOk F x) (hl : xs.length ≤ 24) : dueM F (xs.map mf) = none := by
  unfold dueM
  rw [if_neg (by rw [List.length_map]; omega)]
  exact dueL_mg h
theorem noM {CB CNR COR CNW : Addr} {H : Hp} {E : XK} {F : List Fact} {fs : List MFact} (h : dueM F fs = none) : ∀ e, dueM F fs = some e → RaisM CB CNR COR CNW H E e := fun e z => by
  rw [h] at z
  cases z
theorem msm_mf (x : MG) : MSm (mf x) := ⟨Int.le_refl 1, by show (1 : Int) < 2 ^ 60; omega⟩
theorem MarchAt.kp {C : Addr} {H H' : Hp} {p g : Addr} {n : Int} (h : MarchAt C H p g n) (k : Kp H H') : MarchAt C H' p g n := let ⟨dx, e⟩ := h; ⟨dx, k _ _ e fun _ z => nomatch z⟩
theorem MaAt.kp {CM CP : Addr} {H H' : Hp} {p : Addr} {m : MFact} (h : MaAt CM CP H p m) (k : Kp H H') : MaAt CM CP H' p m := let ⟨g, a, b⟩ := h; ⟨g, a.kp k, b.kp k⟩
theorem MasAt.kp {CM CP : Addr} {H H' : Hp} {ps : List Addr} {l : List MFact} (h : MasAt CM CP H ps l) (k : Kp H H') : MasAt CM CP H' ps l := Paired.mapP h fun _ _ a => a.kp k
theorem RowAt.kp {K : PySem.W.Frag} {CW : Addr} {H H' : Hp} {p a : Addr} {ms : List Addr} (h : RowAt K CW H p a ms) (k : Kp H H') : RowAt K CW H' p a ms := let ⟨dx, t, e, u⟩ := h; ⟨dx, t, k _ _ e (fun _ z => nomatch z), sqT_kp u k⟩
/-- [March(Place(at, spot, 1), many) for at, spot, many in facts] -/
theorem lc_line {K : PySem.W.Frag} {CM CP CB a D : Addr} {ts : List Addr} {gs : List Fact} {F : List Fact} {far : Int} {σ : L2.St} {H1 : Hp} {i1 i2 i3 : Nat} {Qd : Hp → Prop} (hq : H1 a = some (.lst (ts.map V.ref))) (hts : Paired (TupAt H1) ts gs) (ok : ∀ r ∈ gs, MrOk F far r) (hD : H1 D = none) (hl : gs.length ≤ 900)
    (st : ∀ x y z : V, wipe ((((wipe σ [i1, i2, i3]).set i1 (some x)).set i2 (some y)).set i3 (some z)) [i1, i2, i3] = wipe σ [i1, i2, i3] ∧ ((((wipe σ [i1, i2, i3]).set i1 (some x)).set i2 (some y)).set i3 (some z))[i1]? = some (some x) ∧
      ((((wipe σ [i1, i2, i3]).set i1 (some x)).set i2 (some y)).set i3 (some z))[i2]? = some (some y) ∧ ((((wipe σ [i1, i2, i3]).set i1 (some x)).set i2 (some y)).set i3 (some z))[i3]? = some (some z))
    (k : ∀ G ms, G D = some (.lst (ms.map V.ref)) → Same H1 G → MasAt CM CP G ms ((gs.map mg3).map mf) → Qd G) :
    ∃ W : Nat → Nat → Hp → Prop, (∃ m, W 0 m (upd H1 D (.lst []))) ∧ ∀ i m H, W i m H →
      ((Itl K a).stop i H ∧ Qd H) ∨ ((Itl K a).go i H ∧ ∃ Nx : Hp → Prop, (∀ H', Nx H' → ∃ m', m' < m ∧ W (i + 1) m' H') ∧ ∀ x H', (Itl K a).yld i H x H' → gTup K 3 (gCons (gName i1) (gCons (gName i2) (gCons (gName i3) gNil))) x (wipe σ [i1, i2, i3]) H' fun σ2 H2 => wipe σ2 [i1, i2, i3] = wipe σ [i1, i2, i3] ∧ tYes σ2 H2 fun b H3 =>
        if b = true then tMake CM (spMarchI CM) [] E0 (tCons (tMake CP (spPlaceI CP CB) [] E0 (tCons (tVar i1) (tCons (tVar i2) (tCons (tC (.int 1)) tNil)))) (tCons (tVar i3) tNil)) σ2 H3 fun y H4 => ∃ acc, H4 D = some (.lst acc) ∧ acc.length < sizeLine ∧ Nx (upd H4 D (.lst (acc ++ [y]))) else Nx H3) := by
  have el : (ts.map V.ref).length = gs.length := by rw [List.length_map]; exact Paired.length hts
  refine lc_list (K := K) (a := a) (xs := ts.map V.ref) (fun i Gc => ∃ ms : List Addr, Gc D = some (.lst (ms.map V.ref)) ∧ Same H1 Gc ∧ MasAt CM CP Gc ms (((gs.take i).map mg3).map mf) ∧ ms.length = i)
    ⟨[], upd_same, Same.new hD, .nil, rfl⟩ (fun i Gc _ ⟨_, _, sc, _⟩ => SqL.of (sc _ _ hq)) ?_ ?_
  · rintro i y Gc hi ⟨ms, hms, sc, rd, pl⟩
    obtain ⟨t, ht, rfl⟩ := map_get hi
    obtain ⟨r, hr, tr⟩ := paired_get hts ht
    have ih : i < gs.length := (List.getElem?_eq_some_iff.mp hr).1
    have okr := ok r (List.mem_of_getElem? hr)
    obtain ⟨st0, st1, st2, st3⟩ := st (.int r.1) (.int r.2.1) (.int r.2.2)
    refine ⟨t, _, rfl, SqT.of (sc _ _ tr), rfl, _, _, rfl, _, _, rfl, _, _, rfl, rfl, st0, ?_⟩
    unfold tYes
    refine iteT ?_
    refine ⟨_, st1, _, st2, fun x dx nx ndx nex => ⟨x, dx, (r.1, r.2.1, 1), rfl, upd_same, fun z => absurd z (by show ¬ (1 : Int) < 1; omega), fun _ => ⟨(by show (1 : Int).natAbs.log2 < 9000; decide), fun G5 px keep => ⟨rfl, _, st3, fun x2 dx2 nx2 ndx2 nex2 => ⟨x2, dx2, x, r.2.2, rfl, upd_same, fun G6 mx keep2 => ⟨rfl, ms.map V.ref, ?_, small1000 (by rw [List.length_map]; omega), ms ++ [x2], by rw [List.map_append]; exact upd_same, fun b o e => ?_, ?_, by rw [List.length_append, pl]; rfl⟩⟩⟩⟩⟩⟩
    · exact made_same nx2 ndx2 keep2 _ _ (made_same nx ndx keep _ _ hms)
    · rw [upd_ne (ne_of_none e hD)]
      exact made_same nx2 ndx2 keep2 _ _ (made_same nx ndx keep _ _ (sc b o e))
    · have s6 : Same Gc G6 := (made_same nx ndx keep).trans (made_same nx2 ndx2 keep2)
      have gD : G6 D = some (.lst (ms.map V.ref)) := s6 _ _ hms
      have kD : Kp G6 (upd G6 D (.lst (ms.map V.ref ++ [V.ref x2]))) := .put gD
      have old : MasAt CM CP (upd G6 D (.lst (ms.map V.ref ++ [V.ref x2]))) ms (((gs.take i).map mg3).map mf) := MasAt.kp (MasAt.same rd s6) kD
      rw [take_get hr, List.map_append, List.map_append]
      refine paired_snoc old (MaAt.kp ?_ kD)
      rw [okr.mf]
      exact ⟨x, mx, px.same (made_same nx2 ndx2 keep2)⟩
  · rintro G4 ⟨ms, hms, sc, rd, pl⟩
    rw [el, List.take_length] at rd
    exact k G4 ms hms sc rd
end OT

set_option linter.all false
set_option maxRecDepth 100000
set_option maxHeartbeats 1000000
namespace OT
/-- a march of m parts towards the place p of the road g leads from u to v -/
def Go (F : List Fact) (S : Int) (g : Nat) (p m : Int) (u v : Nd) : Prop := ∃ k i, On F S k i ∧ u = node F S k i ∧ v = pth F S g p k i (if hP F S g p k i < m then hP F S g p k i else m)
theorem arA {a b : Int} {t : Nat} (e : a = b - t) {c : Int} (f : c = b - (t + 1)) : c + 1 = a := by omega
theorem arB {h m : Int} (h0 : 0 ≤ h) (m0 : 0 ≤ m) : 0 ≤ (if h < m then h else m) ∧ (if h < m then h else m) ≤ h := by
  split <;> omega
theorem arC {t : Nat} {b : Int} (h : ((t + 1 : Nat) : Int) ≤ b) : (t : Int) + 1 ≤ b ∧ (t : Int) ≤ b := by omega
section
variable {n : Int} {F : List Fact} {S : Int} {g : Nat} {p : Int} (T : TreeM n F) (hS : 1 ≤ S) (hg : On F S g p)
include T hS hg
theorem pth_rep {k k' : Nat} {i i' : Int} (h : On F S k i) (h' : On F S k' i') (e : node F S k i = node F S k' i') : ∀ t : Nat, (t : Int) ≤ hP F S g p k i → pth F S g p k i (t : Nat) = pth F S g p k' i' (t : Nat) := by
  have eh : hP F S g p k i = hP F S g p k' i' := by rw [← hN_node T hS hg h, ← hN_node T hS hg h', e]
  intro t
  induction t with
  | zero =>
    intro _
    show pth F S g p k i 0 = pth F S g p k' i' 0
    rw [pth_0 T hS hg h, pth_0 T hS hg h', e]
  | succ t ih =>
    intro ht
    obtain ⟨h1, h2⟩ := arC ht
    have ih := ih h2
    obtain ⟨o, z, a⟩ := pth_ok T hS hg h (t := (t : Nat)) (Int.natCast_nonneg t) h2
    obtain ⟨o', z', a'⟩ := pth_ok T hS hg h' (t := (t : Nat)) (Int.natCast_nonneg t) (by rw [← eh]; exact h2)
    have a := a h1
    have a' := a' (by rw [← eh]; exact h1)
    rw [← ih] at a'
    obtain ⟨_, zz, _⟩ := pth_ok T hS hg h (t := (t : Int) + 1) (Int.le_trans (Int.natCast_nonneg t) (Int.le_add_one (Int.le_refl _))) h1
    obtain ⟨_, zz', _⟩ := pth_ok T hS hg h' (t := (t : Int) + 1) (Int.le_trans (Int.natCast_nonneg t) (Int.le_add_one (Int.le_refl _))) (by rw [← eh]; exact h1)
    rw [← eh] at zz'
    have r := lower_uniq T hS hg a a' (arA z zz) (arA z zz')
    rw [Int.natCast_succ]
    exact r
theorem Go.uniq {m : Int} (m0 : 0 ≤ m) {u v v' : Nd} (a : Go F S g p m u v) (b : Go F S g p m u v') : v = v' := by
  obtain ⟨k, i, o, rfl, rfl⟩ := a
  obtain ⟨k', i', o', e, rfl⟩ := b
  have eh : hP F S g p k i = hP F S g p k' i' := by rw [← hN_node T hS hg o, ← hN_node T hS hg o', e]
  rw [← eh]
  obtain ⟨b1, b2⟩ := arB (show 0 ≤ hP F S g p k i from total_nn _) m0
  have r := pth_rep T hS hg o o' e (if hP F S g p k i < m then hP F S g p k i else m).toNat (by rw [Int.toNat_of_nonneg b1]; exact b2)
  rw [Int.toNat_of_nonneg b1] at r
  exact r
theorem Go.on {m : Int} (m0 : 0 ≤ m) {u v : Nd} (a : Go F S g p m u v) : OnT F S v := by
  obtain ⟨k, i, o, rfl, rfl⟩ := a
  obtain ⟨b1, b2⟩ := arB (show 0 ≤ hP F S g p k i from total_nn _) m0
  exact (pth_ok T hS hg o b1 b2).1
end
theorem Go.ex {F : List Fact} {S : Int} {g : Nat} {p m : Int} {u : Nd} (h : OnT F S u) : ∃ v, Go F S g p m u v := let ⟨k, i, o, e⟩ := h; ⟨_, k, i, o, e, rfl⟩
def GoX (F : List Fact) (S : Int) (x : MG) (u v : Nd) : Prop := Go F S x.1 (x.2.1 * S) (x.2.2 * S) u v
/-- a row's marches, one behind the other -/
def GoL (F : List Fact) (S : Int) : List MG → Nd → Nd → Prop
  | [], u, v => u = v
  | x :: l, u, v => ∃ w, GoX F S x u w ∧ GoL F S l w v
def GoR (F : List Fact) (S : Int) (l : List MG) : Nat → Nd → Nd → Prop
  | 0, u, v => u = v
  | c + 1, u, v => ∃ w, GoR F S l c u w ∧ GoL F S l w v
theorem GoL.append {F : List Fact} {S : Int} : ∀ {l m : List MG} {u v w : Nd}, GoL F S l u v → GoL F S m v w → GoL F S (l ++ m) u w
  | [], _, _, _, _, h, k => by
    cases (show _ = _ from h)
    exact k
  | _ :: _, _, _, _, _, ⟨z, h1, h2⟩, k => ⟨z, h1, h2.append k⟩
theorem GoL.snoc {F : List Fact} {S : Int} {l : List MG} {x : MG} {u v w : Nd} (h : GoL F S l u v) (k : GoX F S x v w) : GoL F S (l ++ [x]) u w := h.append ⟨w, k, rfl⟩
section
variable {n : Int} {F : List Fact} {S : Int} (T : TreeM n F) (hS : 1 ≤ S)
include T hS
theorem GoL.uniq : ∀ {l : List MG} {u v v' : Nd}, (∀ x ∈ l, MgOk F x) → GoL F S l u v → GoL F S l u v' → v = v'
  | [], _, _, _, _, a, b => (show _ = _ from a).symm.trans b
  | x :: l, _, _, _, ok, ⟨w, a1, a2⟩, ⟨w', b1, b2⟩ => by
    have h := ok x List.mem_cons_self
    have e : w = w' := Go.uniq T hS (h.on hS) (h.m0 hS) a1 b1
    subst e
    exact GoL.uniq (fun y hy => ok y (List.mem_cons_of_mem _ hy)) a2 b2
theorem GoL.on : ∀ {l : List MG} {u v : Nd}, (∀ x ∈ l, MgOk F x) → OnT F S u → GoL F S l u v → OnT F S v
  | [], _, _, _, o, a => (show _ = _ from a) ▸ o
  | x :: l, _, _, ok, o, ⟨w, a1, a2⟩ => by
    have h := ok x List.mem_cons_self
    exact GoL.on (fun y hy => ok y (List.mem_cons_of_mem _ hy)) (Go.on T hS (h.on hS) (h.m0 hS) a1) a2
theorem GoR.uniq {l : List MG} (ok : ∀ x ∈ l, MgOk F x) : ∀ {c : Nat} {u v v' : Nd}, GoR F S l c u v → GoR F S l c u v' → v = v'
  | 0, _, _, _, a, b => (show _ = _ from a).symm.trans b
  | c + 1, _, _, _, ⟨w, a1, a2⟩, ⟨w', b1, b2⟩ => by
    have e : w = w' := GoR.uniq ok a1 b1
    subst e
    exact GoL.uniq T hS ok a2 b2
theorem GoR.on {l : List MG} (ok : ∀ x ∈ l, MgOk F x) : ∀ {c : Nat} {u v : Nd}, OnT F S u → GoR F S l c u v → OnT F S v
  | 0, _, _, o, a => (show _ = _ from a) ▸ o
  | c + 1, _, _, o, ⟨w, a1, a2⟩ => GoL.on T hS ok (GoR.on ok o a1) a2
end
end OT

set_option Elab.async false
set_option linter.all false
set_option maxRecDepth 100000
set_option maxHeartbeats 4000000
-- own words
namespace OT
open PySem L2 OTR
abbrev sMarchesN : Stmt := top 60
theorem PrAt.kp {H H' : Hp} {t : Addr} {x : Nat × Int} (h : PrAt H t x) (k : Kp H H') : PrAt H' t x := k _ _ h fun _ z => nomatch z
/-- at t the law's own march: the pair of a place's name and the steps -/
def MrN (H : Hp) (t : Addr) (x : MG) : Prop := ∃ b, H t = some (.tup [.ref b, .int x.2.2]) ∧ PrAt H b (x.1, x.2.1)
theorem MrN.kp {H H' : Hp} {t : Addr} {x : MG} (h : MrN H t x) (k : Kp H H') : MrN H' t x := let ⟨b, e, p⟩ := h; ⟨b, k _ _ e (fun _ z => nomatch z), p.kp k⟩
theorem MrN.same {H H' : Hp} {t : Addr} {x : MG} (h : MrN H t x) (k : Same H H') : MrN H' t x := h.kp (.of k)
def MsN (H : Hp) (l : Addr) (gs : List MG) : Prop := ∃ ts : List Addr, H l = some (.lst (ts.map V.ref)) ∧ Paired (MrN H) ts gs
theorem MsN.same {H H' : Hp} {l : Addr} {gs : List MG} (h : MsN H l gs) (k : Same H H') : MsN H' l gs := let ⟨ts, e, p⟩ := h; ⟨ts, k _ _ e, Paired.mapP p fun _ _ a => a.same k⟩
theorem refs_ints {ts : List Addr} (a b c : Int) : HO.lst (ts.map V.ref) ≠ .lst [.int a, .int b, .int c] := fun e => by
  have e1 := HO.lst.inj e
  cases ts with
  | nil => exact nomatch e1
  | cons t r =>
    rw [List.map_cons] at e1
    exact nomatch (List.cons.inj e1).1
theorem MsN.but {H H' : Hp} {s l : Addr} {gs : List MG} (h : MsN H l gs) (src : Src H s) (b : But s H H') : MsN H' l gs := by
  obtain ⟨ts, e, p⟩ := h
  exact ⟨ts, b _ _ e (src.ne e fun x y z => refs_ints x y z), Paired.mapP p fun _ _ a => a.kp (.src src b)⟩
theorem FactsAt.butN {H H' : Hp} {s q : Addr} {F : List Fact} (h : FactsAt H q F) (src : Src H s) (b : But s H H') : FactsAt H' q F := by
  obtain ⟨ts, hq, hts⟩ := h
  exact ⟨ts, b _ _ hq (src.ne hq fun x y z => refs_ints x y z), tups_but hts src b⟩
def spMarchesN : Sp := fun vs H Q _ => ∃ (s q : Addr) (many most : Int) (F : List Fact), vs = [.ref s, .ref q, .int many, .int most] ∧ Src H s ∧ FactsAt H q F ∧ 0 < F.length ∧ F.length ≤ 23 ∧ (∀ r ∈ F, 1 ≤ r.2.2 ∧ r.2.2 ≤ 1000000000) ∧ 0 ≤ many ∧ many ≤ 24 ∧ 1 ≤ most ∧ most ≤ 1000000000 ∧
  ∀ l gs H', H l = none → Src H' s → But s H H' → MsN H' l gs → (∀ x ∈ gs, MgOk F x ∧ x.2.2 ≤ most) → (gs.length : Int) = many → Q (.ref l) H'
section
variable {P : Program} {w : World} {K : PySem.W.Frag} {mg : Str → Option Value} {base : Heap}
abbrev nMarchesN : List Str := ["_law_s", "_law_roads", "_law_many", "_law_most", "_law_found", "_law_k", "_law_road", "_law_number"]
theorem scMarchesN : FnScope nMarchesN ["_law_s", "_law_roads", "_law_many", "_law_most"] (defScope sMarchesN) := ⟨rfl, rfl, rfl, by decide +kernel, rfl, by decide +kernel, by decide +kernel⟩
theorem ok_marchesN {f fDG : Addr} {fd fdDG : FuncData} (F : Fun K "_law_marches" "_law_marches" sMarchesN f fd)
    (FDG : FnOk P w K mg base CX0 1 fDG fdDG ["_law_state_here", "_law_base"] spDigit) (bDG : Binds K fdDG ["_law_state_here", "_law_base"] []) (mDG : mg "_law_digit" = some (.ref fDG)) (kDG : PySem.W.keepIn K (.ref fDG) = true)
    (hLen : mg "len" = none) (hRg : mg "range" = none) : FnOk P w K mg base CX0 2 f fd ["_law_s", "_law_roads", "_law_many", "_law_most"] spMarchesN := by
  refine F.ok scMarchesN (fun vs H Q E h => ?_) (fun cdv A outer s' H vs Q E hr h => ?_)
  · obtain ⟨s, q, many, most, fs, rfl, _⟩ := h
    rfl
  · obtain ⟨s, q, many, most, fs, rfl, hs, hF, f0, f23, big, m0, m24, t1, t9, kont⟩ := h
    have hr1 : Room 1 _ := hr.mono (by decide)
    refine ⟨_, pss_cons (ps_set (i := 4) scMarchesN.nd rfl (Or.inl rfl) (pe_lst pa_nil))
      (pss_cons (ps_for PassesOwn.never rfl (pi_range1 (by rfl) hRg (pa_cons (pv 2) pa_nil)) (pg_name (i := 5) scMarchesN.nd rfl (Or.inl rfl))
        (pss_cons (ps_set (i := 6) scMarchesN.nd rfl (Or.inl rfl) (pe_call FDG hr1 rfl mDG kDG bDG .nil pass0 (pa_cons (pv 0) (pa_cons (pe_callB call_len (by rfl) hLen (by decide +kernel) (pa_cons (pv 1) pa_nil)) pa_nil))))
        (pss_cons (ps_set (i := 7) scMarchesN.nd rfl (Or.inl rfl) (pe_ix ix_list (pe_lst (pa_cons pe_int (pa_cons (pe_ix ix_tup (pe_ix ix_list (pv 1) (pv 6) (fun _ _ => rfl)) pe_int (fun _ _ => rfl)) (pa_cons (pe_call FDG hr1 rfl mDG kDG bDG .nil pass0 (pa_cons (pv 0) (pa_cons (pe_op op_add (pe_ix ix_tup (pe_ix ix_list (pv 1) (pv 6) (fun _ _ => rfl)) pe_int (fun _ _ => rfl)) pe_int) pa_nil))) pa_nil)))) (pe_call FDG hr1 rfl mDG kDG bDG .nil pass0 (pa_cons (pv 0) (pa_cons pe_int pa_nil))) (fun _ _ => rfl)))
        (pss_one (ps_expr (pe_bm PySem.F.plainAttrs_list PySem.F.slot_list_append PySem.F.type_list_append mt_append (pv 4) (pa_cons (pe_tup (pa_cons (pe_tup (pa_cons (pv 6) (pa_cons (pv 7) pa_nil))) (pa_cons (pe_op op_add pe_int (pe_call FDG hr1 rfl mDG kDG bDG .nil pass0 (pa_cons (pv 0) (pa_cons (pv 3) pa_nil)))) pa_nil))) pa_nil)))))))
      (pss_one (ps_ret (pv 4)))), ?_⟩
    have two : ∀ {x y : V}, [x, y].length ≤ sizeLine := fun {x y} => (by show 2 ≤ sizeLine; decide)
    refine ⟨Nat.zero_le _, fun D hD => ?_⟩
    have nD : D ≠ s := hs.new hD
    have src0 : Src (upd H D (.lst [])) s := hs.same (Same.new hD)
    have b0 : But s H (upd H D (.lst [])) := fun b o e _ => Same.new hD b o e
    refine ⟨_, rfl, many, rfl, by omega, by omega, for_range (lo := 0) (n := many.toNat) (fun j σ G => ∃ (v5 v6 v7 : Option V) (ts : List Addr) (gs : List MG), σ = [some (.ref s), some (.ref q), some (.int many), some (.int most), some (.ref D), v5, v6, v7] ∧
        Src G s ∧ But s H G ∧ G D = some (.lst (ts.map V.ref)) ∧ Paired (MrN G) ts gs ∧ (∀ x ∈ gs, MgOk fs x ∧ x.2.2 ≤ most) ∧ gs.length = j)
      ⟨none, none, none, [], [], rfl, src0, b0, upd_same, .nil, fun x hx => (by cases hx), rfl⟩ ?_ ?_⟩
    · rintro j σ G hj ⟨v5, v6, v7, ts, gs, rfl, sg, bg, gD, pr, ok, gl⟩
      obtain ⟨tsF, hq, hts⟩ := hF.butN hs bg
      have tl : (tsF.map V.ref).length = fs.length := by rw [List.length_map]; exact Paired.length hts
      -- road = digit(s, len(roads))
      refine ⟨_, rfl, _, rfl, _, _, rfl, .inl ⟨_, SqL.of hq, rfl⟩, s, _, rfl, sg, by rw [tl]; omega, by rw [tl]; omega, fun d G1 d0 d1 sg1 b1 => ?_⟩
      rw [tl] at d1
      obtain ⟨g, rfl⟩ : ∃ g : Nat, d = (g : Int) := ⟨d.toNat, by omega⟩
      have hg : g < fs.length := by omega
      have bg1 := bg.trans b1
      obtain ⟨tsF, hq, hts⟩ := hF.butN hs bg1
      have lt : g < tsF.length := by rw [Paired.length hts]; exact hg
      obtain ⟨r, hr', trr⟩ := paired_get hts (List.getElem?_eq_getElem lt)
      have er : rd fs g = r := rd_of hr'
      obtain ⟨bg1', bg2⟩ := big _ (List.mem_of_getElem? hr')
      have ats : (tsF.map V.ref)[g]? = some (.ref tsF[g]) := by rw [List.getElem?_map, List.getElem?_eq_getElem lt]; rfl
      have gD1 := b1 _ _ gD nD
      have pr1 := Paired.mapP pr fun _ _ a => a.kp (.src sg b1)
      -- number = [0, roads[road][2], digit(s, roads[road][2] + 1)][digit(s, 3)]
      refine ⟨_, rfl, _, rfl, q, _, _, .ref tsF[g], rfl, rfl, SqL.of hq, atI_nat ats, _, _, _, _, rfl, rfl, SqT.of trr, rfl, ?_⟩
      refine ⟨_, rfl, _, rfl, _, rfl, q, _, _, .ref tsF[g], rfl, rfl, SqL.of hq, atI_nat ats, _, _, _, _, rfl, rfl, SqT.of trr, rfl, _, _, rfl, rfl, s, _, rfl, sg1, by omega, by omega, fun e G2 e0 e1 sg2 b2 => ?_⟩
      refine ⟨(by show 3 ≤ sizeLine; decide), fun pl hpl => ?_⟩
      have s3 := Same.new (o := .lst [.int 0, .int r.2.2, .int e]) hpl
      have npl : pl ≠ s := sg2.new hpl
      refine ⟨_, rfl, s, 3, rfl, sg2.same s3, by decide, by decide, fun c G4 c0 c1 sg4 b4 => ?_⟩
      have gpl := b4 _ _ (upd_same (H := G2) (a := pl) (o := .lst [.int 0, .int r.2.2, .int e])) npl
      obtain ⟨p, hp, p0, p1⟩ : ∃ p : Int, atI [V.int 0, V.int r.2.2, V.int e] c = some (V.int p) ∧ 0 ≤ p ∧ p ≤ r.2.2 := by
        have hc : c = 0 ∨ c = 1 ∨ c = 2 := by omega
        rcases hc with rfl | rfl | rfl
        · exact ⟨0, rfl, Int.le_refl _, by omega⟩
        · exact ⟨r.2.2, rfl, by omega, Int.le_refl _⟩
        · exact ⟨e, rfl, e0, by omega⟩
      refine ⟨pl, _, _, V.int p, rfl, rfl, SqL.of gpl, hp, ?_⟩
      have gD4 := b4 _ _ (s3 _ _ (b2 _ _ gD1 nD)) nD
      have pr4 := Paired.mapP pr1 fun _ _ a => ((a.kp (.src sg1 b2)).same s3).kp (.src (sg2.same s3) b4)
      have bg4 : But s H G4 := fun b o z nb => b4 b o (s3 b o (b2 b o (bg1 b o z nb) nb)) nb
      -- found.append(((road, number), 1 + digit(s, most)))
      refine ⟨_, rfl, .inl ⟨rfl, _, SqL.of gD4⟩, _, rfl, _, rfl, two, fun pb hpb => ?_⟩
      have s5 := Same.new (o := .tup [.int (g : Nat), .int p]) hpb
      refine ⟨_, rfl, _, rfl, s, most, rfl, sg4.same s5, by omega, by omega, fun l G6 l0 l1 sg6 b6 => ⟨_, _, rfl, rfl, two, fun pt hpt => ?_⟩⟩
      have s7 := Same.new (o := .tup [.ref pb, .int (1 + l)]) hpt
      have gD6 := b6 _ _ (s5 _ _ gD4) nD
      have k56 : Kp (upd G4 pb (.tup [.int (g : Nat), .int p])) G6 := .src (sg4.same s5) b6
      have pb6 : PrAt G6 pb (g, p) := PrAt.kp (show PrAt (upd G4 pb (.tup [.int (g : Nat), .int p])) pb (g, p) from upd_same) k56
      have pr6 := Paired.mapP pr4 fun _ _ a => (a.same s5).kp k56
      have mr : MrN (upd G6 pt (.tup [.ref pb, .int (1 + l)])) pt (g, p, 1 + l) := ⟨pb, upd_same, pb6.same s7⟩
      have pr7 := Paired.mapP pr6 fun _ _ a => a.same s7
      have kput : Kp (upd G6 pt (.tup [.ref pb, .int (1 + l)])) (upd (upd G6 pt (.tup [.ref pb, .int (1 + l)])) D (.lst (ts.map V.ref ++ [.ref pt]))) := Kp.put (s7 _ _ gD6)
      refine ⟨D, ts.map V.ref, .ref pt, rfl, rfl, s7 _ _ gD6, small1000 (by rw [List.length_map, Paired.length pr, gl]; omega), ?_⟩
      have bg6 : But s H G6 := fun b o z nb => b6 b o (s5 b o (bg4 b o z nb)) nb
      refine ⟨_, _, _, ts ++ [pt], gs ++ [(g, p, 1 + l)], rfl, (sg6.same s7).upd nD, (bg6.same s7).put hD, by rw [List.map_append]; exact upd_same, paired_app (Paired.mapP pr7 fun _ _ a => a.kp kput) (.cons (mr.kp kput) .nil), fun x hx => ?_, by rw [List.length_append, gl]; rfl⟩
      rcases List.mem_append.mp hx with h | h
      · exact ok x h
      · rw [List.mem_singleton.mp h]
        exact ⟨⟨hg, p0, by show p ≤ (rd fs g).2.2; rw [er]; exact p1, by show 1 ≤ 1 + l; omega, by show 1 + l ≤ 1000000000; omega⟩, by show 1 + l ≤ most; omega⟩
    · rintro σ G ⟨v5, v6, v7, ts, gs, rfl, sg, bg, gD, pr, ok, gl⟩
      exact ⟨_, rfl, kont D gs G hD sg bg ⟨ts, gD, pr⟩ ok (by omega)⟩
end
end OT

set_option Elab.async false
set_option linter.all false
set_option maxRecDepth 100000
set_option maxHeartbeats 4000000
-- own words
namespace OT
open PySem L2 OTR
abbrev sRowN : Stmt := top 61
def spRowN (K : PySem.W.Frag) (CT CR CM CP CW : Addr) : Sp := fun vs H Q _ => ∃ (q l : Addr) (n : Int) (F : List Fact) (gs : List MG), vs = [.ref q, .ref l] ∧ FactsAt H q F ∧ TreeG n F ∧ due n F = none ∧ MsN H l gs ∧ (∀ x ∈ gs, MgOk F x) ∧ gs.length ≤ 24 ∧
  ∀ p x ps ms H', Same H H' → TreeAt K CT CR H' x n ps F → RowAt K CW H' p x ms → MasAt CM CP H' ms (gs.map mf) → Q (.ref p) H'
section
variable {P : Program} {w : World} {K : PySem.W.Frag} {mg : Str → Option Value} {base : Heap}
abbrev nRowN : List Str := ["_law_roads", "_law_marches_here", "_law_tree_here", "_law_one", "_law_goal", "_law_steps"]
theorem scRowN : FnScope nRowN ["_law_roads", "_law_marches_here"] (defScope sRowN) := ⟨rfl, rfl, rfl, by decide +kernel, rfl, by decide +kernel, by decide +kernel⟩
theorem ok_rowN {f fR fT fRw fMa fPl CT CR CM CP CW CB CN CG CNR COR CNW : Addr} {fd fdR fdT fdRw fdMa fdPl : FuncData} (F : Fun K "_law_row" "_law_row" sRowN f fd) (TR : RdT K mg CR) (TT : TeT K mg CT) (TW : RwT K mg CW) (TM : MaT K mg CM) (TP : PlT K mg CP)
    (MR : Mk K CR fR) (MT : Mk K CT fT) (MRw : Mk K CW fRw) (MMa : Mk K CM fMa) (MPl : Mk K CP fPl)
    (FR : FnOk P w K mg base CX0 1 fR fdR ["self", "a", "b", "length"] (spRoadI CR)) (bR : Binds K fdR ["self", "a", "b", "length"] [])
    (FT : FnOk P w K mg base (L2.CX P w) 5 fT fdT ["self", "crossings", "roads"] (spTreeI K CT CR CB CN CG)) (bT : Binds K fdT ["self", "crossings", "roads"] [])
    (FRw : FnOk P w K mg base (L2.CX P w) 5 fRw fdRw ["self", "tree", "marches"] (spRowI K CT CR CM CP CW CB CNR COR CNW)) (bRw : Binds K fdRw ["self", "tree", "marches"] [])
    (FMa : FnOk P w K mg base CX0 1 fMa fdMa ["self", "goal", "steps"] (spMarchI CM)) (bMa : Binds K fdMa ["self", "goal", "steps"] [])
    (FPl : FnOk P w K mg base (L2.CX P w) 3 fPl fdPl ["self", "road", "number", "parts"] (spPlaceI CP CB)) (bPl : Binds K fdPl ["self", "road", "number", "parts"] [])
    (hLen : mg "len" = none) : FnOk P w K mg base CX0 7 f fd ["_law_roads", "_law_marches_here"] (spRowN K CT CR CM CP CW) := by
  refine F.ok scRowN (fun vs H Q E h => ?_) (fun cdv A outer s H vs Q E hr h => ?_)
  · obtain ⟨q, l, n, fs, gs, rfl, _⟩ := h
    rfl
  · obtain ⟨q, l, n, fs, gs, rfl, ⟨ts, hq, hts⟩, TG, hd, hM, ok, l24, kont⟩ := h
    have tl : (ts.map V.ref).length = fs.length := by rw [List.length_map]; exact Paired.length hts
    have l23 : fs.length ≤ 23 := by have := TG.len; have := TG.n24; omega
    have hr2 : Room 2 _ := hr.mono (by decide)
    have hr4 : Room 4 _ := hr.mono (by decide)
    have hr6 : Room 6 _ := hr.mono (by decide)
    refine ⟨_, pss_cons (ps_set (i := 2) scRowN.nd rfl (Or.inl rfl) (pe_make MT FT hr6 (by rfl) TT.mgC bT .nil passF (pa_cons (pe_op op_add (pe_callB call_len (by rfl) hLen (by decide +kernel) (pa_cons (pv 0) pa_nil)) pe_int) (pa_cons
        (pe_lc (own := [("_law_one", 3)]) (g := gName 3) (tt := tYes) (te := tMake CR (spRoadI CR) [] E0 (tCons (tOp (rIxT K) (tVar 3) (tC (.int 0))) (tCons (tOp (rIxT K) (tVar 3) (tC (.int 1))) (tCons (tOp (rIxT K) (tVar 3) (tC (.int 2))) tNil)))) rfl scRowN.nd (pi_list (pv 0)) (blkOk_by (own := [("_law_one", 3)]) (N := nRowN) (sc := defScope sRowN) (by decide +kernel)) (fun _ _ _ _ _ => (pg_name (i := 3) scRowN.nd rfl (Or.inl rfl))) (fun _ _ _ _ _ => pts_nil)
          (fun _ _ _ _ _ => (pe_make MR FR hr2 (by rfl) TR.mgC bR .nil pass0 (pa_cons (pe_ix ix_tup (pv 3) pe_int (fun _ _ => rfl)) (pa_cons (pe_ix ix_tup (pv 3) pe_int (fun _ _ => rfl)) (pa_cons (pe_ix ix_tup (pv 3) pe_int (fun _ _ => rfl)) pa_nil)))))) pa_nil))))
      (pss_one (ps_ret (pe_make MRw FRw hr6 (by rfl) TW.mgC bRw .nil passF (pa_cons (pv 2) (pa_cons
        (pe_lc (own := [("_law_goal", 4), ("_law_steps", 5)]) (g := gTup K 2 (gCons (gName 4) (gCons (gName 5) gNil))) (tt := tYes) (te := tMake CM (spMarchI CM) [] E0 (tCons (tMake CP (spPlaceI CP CB) [] E0 (tCons (tOp (rIxT K) (tVar 4) (tC (.int 0))) (tCons (tOp (rIxT K) (tVar 4) (tC (.int 1))) (tCons (tC (.int 1)) tNil)))) (tCons (tVar 5) tNil))) rfl scRowN.nd (pi_list (pv 1)) (blkOk_by (own := [("_law_goal", 4), ("_law_steps", 5)]) (N := nRowN) (sc := defScope sRowN) (by decide +kernel)) (fun _ _ _ _ _ => (pg_tup rfl (pgs_cons (pg_name (i := 4) scRowN.nd rfl (Or.inl rfl)) (pgs_cons (pg_name (i := 5) scRowN.nd rfl (Or.inl rfl)) pgs_nil)))) (fun _ _ _ _ _ => pts_nil)
          (fun _ _ _ _ _ => (pe_make MMa FMa hr2 (by rfl) TM.mgC bMa .nil pass0 (pa_cons (pe_make MPl FPl hr4 (by rfl) TP.mgC bPl .nil passF (pa_cons (pe_ix ix_tup (pv 4) pe_int (fun _ _ => rfl)) (pa_cons (pe_ix ix_tup (pv 4) pe_int (fun _ _ => rfl)) (pa_cons pe_int pa_nil)))) (pa_cons (pv 5) pa_nil))))) pa_nil))))), ?_⟩
    have en : n = ((ts.map V.ref).length : Int) + 1 := by rw [tl]; have := TG.len; omega
    -- Tree(len(roads) + 1, [Road(..) for one in roads])
    refine ⟨_, rfl, _, _, rfl, .inl ⟨_, SqL.of hq, rfl⟩, _, _, rfl, rfl, _, rfl, q, rfl, ⟨_, SqL.of hq⟩, fun D hD => lc_list (K := K) (a := q) (xs := ts.map V.ref) (fun i Gc => ∃ ps : List Addr, Gc D = some (.lst (ps.map V.ref)) ∧ Same H Gc ∧ RoadsAt CR Gc ps (fs.take i) ∧ ps.length = i)
      ⟨[], upd_same, Same.new hD, .nil, rfl⟩ (fun i Gc _ ⟨_, _, sc, _⟩ => SqL.of (sc _ _ hq)) ?_ ?_⟩
    · rintro i y Gc hi ⟨ps, hps, sc, rd, pl⟩
      obtain ⟨t, ht, rfl⟩ := map_get hi
      obtain ⟨r, hr', tr⟩ := paired_get hts ht
      have ih : i < fs.length := (List.getElem?_eq_some_iff.mp hr').1
      have trG := sc _ _ tr
      refine ⟨rfl, ?_⟩
      unfold tYes
      refine iteT ?_
      refine ⟨_, rfl, t, _, 0, .int r.1, rfl, rfl, SqT.of trG, rfl, _, rfl, t, _, 1, .int r.2.1, rfl, rfl, SqT.of trG, rfl, _, rfl, t, _, 2, .int r.2.2, rfl, rfl, SqT.of trG, rfl, fun x dx nx ndx nex => ⟨x, dx, r, rfl, upd_same, fun G' rx keep => ⟨rfl, ps.map V.ref, ?_, small1000 (by rw [List.length_map]; omega), ps ++ [x], by rw [List.map_append]; exact upd_same, fun b o e => ?_, ?_, by rw [List.length_append, pl]; rfl⟩⟩⟩
      · exact made_same nx ndx keep _ _ hps
      · rw [upd_ne (ne_of_none e hD)]
        exact made_same nx ndx keep _ _ (sc b o e)
      · have gD : G' D = some (.lst (ps.map V.ref)) := made_same nx ndx keep _ _ hps
        have kD : Kp G' (upd G' D (.lst (ps.map V.ref ++ [V.ref x]))) := .put gD
        rw [take_get hr']
        exact paired_snoc (Paired.mapP rd fun p r' h => (RoadAt.kp h (.of (made_same nx ndx keep))).kp kD) (rx.kp kD)
    · rintro G1 ⟨ps, gD, s1, rd, pl⟩
      rw [tl, List.take_length] at rd
      refine fun x dx nx ndx nex => ⟨x, dx, D, n, ps, fs, G1, by rw [en]; rfl, upd_same, nx, made_old nx ndx, .inl (SqL.of gD), rd, by omega, no_err hd, fun _ G2 T1 s2 => ⟨rfl, ?_⟩⟩
      have s12 := s1.trans s2
      obtain ⟨ls, hl, hls⟩ := hM.same s12
      have ll : (ls.map V.ref).length = gs.length := by rw [List.length_map]; exact Paired.length hls
      have lx : gs.length ≤ 24 := l24
      have hdm := dueM_mg ok lx
      -- Row(tree, [March(..) for goal, steps in marches])
      refine ⟨_, rfl, _, rfl, l, rfl, ⟨_, SqL.of hl⟩, fun D2 hD2 => lc_list (K := K) (a := l) (xs := ls.map V.ref) (fun i Gc => ∃ ms : List Addr, Gc D2 = some (.lst (ms.map V.ref)) ∧ Same G2 Gc ∧ MasAt CM CP Gc ms ((gs.take i).map mf) ∧ ms.length = i)
        ⟨[], upd_same, Same.new hD2, .nil, rfl⟩ (fun i Gc _ ⟨_, _, sc, _⟩ => SqL.of (sc _ _ hl)) ?_ ?_⟩
      · rintro i y Gc hi ⟨ms, hms, sc, rdm, plm⟩
        obtain ⟨t, ht, rfl⟩ := map_get hi
        obtain ⟨r, hr', b, tr0, pb0⟩ := paired_get hls ht
        have ih : i < gs.length := (List.getElem?_eq_some_iff.mp hr').1
        have trG := sc _ _ tr0
        have pbG := pb0.same sc
        refine ⟨t, _, rfl, SqT.of trG, rfl, _, _, rfl, _, _, rfl, rfl, rfl, ?_⟩
        unfold tYes
        refine iteT ?_
        refine ⟨_, rfl, b, _, 0, .int (r.1 : Nat), rfl, rfl, SqT.of pbG, rfl, _, rfl, b, _, 1, .int r.2.1, rfl, rfl, SqT.of pbG, rfl, fun x dx nx ndx nex => ⟨x, dx, (((r.1 : Nat) : Int), r.2.1, 1), rfl, upd_same, fun z => absurd z (by show ¬ (1 : Int) < 1; omega), fun _ => ⟨(by show (1 : Int).natAbs.log2 < 9000; decide), fun G5 px keep => ⟨rfl, _, rfl, fun x2 dx2 nx2 ndx2 nex2 => ⟨x2, dx2, x, r.2.2, rfl, upd_same, fun G6 mx keep2 => ⟨rfl, ms.map V.ref, ?_, small1000 (by rw [List.length_map]; omega), ms ++ [x2], by rw [List.map_append]; exact upd_same, fun b o e => ?_, ?_, by rw [List.length_append, plm]; rfl⟩⟩⟩⟩⟩⟩
        · exact made_same nx2 ndx2 keep2 _ _ (made_same nx ndx keep _ _ hms)
        · rw [upd_ne (ne_of_none e hD2)]
          exact made_same nx2 ndx2 keep2 _ _ (made_same nx ndx keep _ _ (sc b o e))
        · have s6 : Same Gc G6 := (made_same nx ndx keep).trans (made_same nx2 ndx2 keep2)
          have gD : G6 D2 = some (.lst (ms.map V.ref)) := s6 _ _ hms
          have kD : Kp G6 (upd G6 D2 (.lst (ms.map V.ref ++ [V.ref x2]))) := .put gD
          have old : MasAt CM CP (upd G6 D2 (.lst (ms.map V.ref ++ [V.ref x2]))) ms ((gs.take i).map mf) := MasAt.kp (MasAt.same rdm s6) kD
          rw [take_get hr', List.map_append]
          refine paired_snoc old (MaAt.kp ?_ kD)
          exact ⟨x, mx, px.same (made_same nx2 ndx2 keep2)⟩
      · rintro G4 ⟨ms, gD2, s4, rdm, plm⟩
        rw [ll, List.take_length] at rdm
        refine fun p dp np ndp nep => ⟨p, dp, x, D2, n, ps, fs, ms, gs.map mf, G4, rfl, upd_same, np, made_old np ndp, T1.same s4, TG, .inl (SqL.of gD2), rdm, fun m hm => ?_, by rw [List.length_map]; omega, noM hdm, fun _ G5 R s5 => ⟨rfl, ?_⟩⟩
        · obtain ⟨y, _, rfl⟩ := List.mem_map.mp hm
          exact msm_mf y
        · exact kont p x ps ms G5 (s12.trans (s4.trans s5)) (T1.same (s4.trans s5)) R (MasAt.same rdm s5)
end
end OT

set_option Elab.async false
set_option linter.all false
set_option maxRecDepth 100000
set_option maxHeartbeats 4000000
-- own words
namespace OT
open PySem L2 OTR
theorem storedAll_new {α : Type} [DecidableEq α] : ∀ (ps acc : List (α × Addr × Value)), ((acc ++ ps).map (·.1)).Nodup → storedAllH acc ps = acc ++ ps
  | [], acc, _ => by rw [List.append_nil]; rfl
  | p :: ps, acc, nd => by
    have hn : atKey acc p.1 = none := by
      cases e : atKey acc p.1 with
      | none => rfl
      | some z =>
        exfalso
        have hm : p.1 ∈ acc.map (·.1) := by
          clear nd
          induction acc with
          | nil => cases e
          | cons x acc ih =>
            by_cases h : x.1 = p.1
            · rw [List.map_cons, h]
              exact List.mem_cons_self
            · refine List.mem_cons_of_mem _ (ih ?_)
              unfold atKey at e ⊢
              simpa [h] using e
        rw [List.map_append, List.nodup_append] at nd
        exact nd.2.2 _ hm _ (by rw [List.map_cons]; exact List.mem_cons_self) rfl
    have h1 : storedAllH acc (p :: ps) = storedAllH (acc ++ [p]) ps := by
      unfold storedAllH
      rw [List.foldl_cons, storedH_new hn]
    rw [h1, storedAll_new ps (acc ++ [p]) (by rw [List.append_assoc]; exact nd), List.append_assoc]
    rfl
theorem vals_ref : ∀ {ts : List Addr} {us : List Value}, Vals (ts.map V.ref) us → us = ts.map Value.ref
  | [], us, r => by cases r; rfl
  | t :: ts, us, r => by
    cases r with
    | cons h r =>
      have h' : _ = Value.ref t := h
      rw [h', vals_ref r]
      rfl
/-- the pairs of a list: a key's tuple and a value -/
def PairL (H : Hp) (t : Addr) (x : List Key × Addr × V) : Prop := H t = some (.tup [.ref x.2.1, x.2.2]) ∧ H x.2.1 = some (.tup (x.1.map kV))
section
variable {X : Cx}
theorem call_dictT (hu : X.A.units + 2 < cLine) (hc : X.calm = true) : CallR X (.type "dict") (fun xs H Q => ∃ (l : Addr) (ts : List Addr) (kvs : List (List Key × Addr × V)), xs = [.ref l] ∧ H l = some (.lst (ts.map V.ref)) ∧ Paired (PairL H) ts kvs ∧ (kvs.map (·.1)).Nodup ∧
    ∀ p, H p = none → Q (.ref p) (upd H p (.dT (kvs.map fun x => (x.1, x.2.2))))) := by
  intro pins s σ H xs us Q I r h
  obtain ⟨l, ts, kvs, rfl, hl, pr, nd, q⟩ := h
  obtain ⟨u, rfl, rx⟩ := r.one
  cases rx
  obtain ⟨zl, its, n, rl, ho⟩ := (show ObjOk X.prog X.w H s.heap l (.lst (ts.map V.ref)) from I.hok l _ hl)
  have eits := vals_ref rl
  subst eits
  rw [List.length_map] at zl
  -- the values
  have vs : ∃ ps : List (List Key × Addr × Value), Paired (fun (x : List Key × Addr × V) (p : List Key × Addr × Value) => x.1 = p.1 ∧ x.2.1 = p.2.1 ∧ RelV x.2.2 p.2.2) kvs ps ∧ Paired (fun t (p : List Key × Addr × Value) => PairAt s.heap t (.ref p.2.1) p.2.2) ts ps := by
    clear nd q zl rl ho hl
    induction pr with
    | nil => exact ⟨[], .nil, .nil⟩
    | @cons t x ts kvs h _ ih =>
      obtain ⟨ps, i1, i2⟩ := ih
      obtain ⟨_, us, r, o, h1, h2, m, h3⟩ := (show ObjOk X.prog X.w H s.heap t (.tup [.ref x.2.1, x.2.2]) from I.hok t _ h.1)
      obtain ⟨u1, u2, rfl, r1, r2⟩ := r.two
      have e1 : u1 = Value.ref x.2.1 := r1
      subst e1
      exact ⟨(x.1, x.2.1, u2) :: ps, .cons ⟨rfl, rfl, r2⟩ i1, .cons (.inl ⟨o, h1, h2, m, h3⟩) i2⟩
  obtain ⟨ps, rp, at_⟩ := vs
  have lp : ps.length = ts.length := (Paired.length at_).symm
  have lk : kvs.length = ts.length := (Paired.length pr).symm
  have keysOk : ∀ x ∈ ps, (tupleKind (mixKind X.prog X.w)).is s.heap x.1 x.2.1 := by
    have all : ∀ {ts : List Addr} {kvs : List (List Key × Addr × V)} {ps : List (List Key × Addr × Value)}, Paired (PairL H) ts kvs → Paired (fun (x : List Key × Addr × V) (p : List Key × Addr × Value) => x.1 = p.1 ∧ x.2.1 = p.2.1 ∧ RelV x.2.2 p.2.2) kvs ps → ∀ x ∈ ps, (tupleKind (mixKind X.prog X.w)).is s.heap x.1 x.2.1 := by
      intro ts kvs ps a
      induction a generalizing ps with
      | nil => intro b; cases b; intro x hx; cases hx
      | cons h _ ih =>
        intro b
        cases b with
        | cons hb b =>
          intro x hx
          rcases List.mem_cons.mp hx with e | hx
          · subst e
            rw [← hb.1, ← hb.2.1]
            exact key_of I.hok h.2
          · exact ih b x hx
    exact all pr rp
  let psV : List (Value × Value) := ps.map fun p => (Value.ref p.2.1, p.2.2)
  have lV : psV.length = ps.length := List.length_map _
  have P := PairArg.list (prog := X.prog) (w := X.w) l (ts.map Value.ref).toArray (fun j => ts.getD j 0) psV
  refine call_dict_pairsH (knd := tupleKind (mixKind X.prog X.w)) (ps := ps) P (I.ok.hd hc) (by show X.A.units + 1 + 1 < cLine; omega) ⟨⟨_, n, ho, rfl, rfl, rfl⟩, by show (ts.map Value.ref).toArray.size = psV.length; rw [lV, lp]; simp, fun j k v hj => ?_⟩ ⟨lV.symm, fun i key v hi => ?_⟩ (fun h' hk x hx => ?_) (by rw [lV, lp]; exact zl) fun h' tk hd hk => ?_
  · obtain ⟨p, hp, e⟩ := map_get hj
    cases e
    have tj : ts[j]? = some (ts.getD j 0) := by
      have := (List.getElem?_eq_some_iff.mp hp).1
      rw [List.getD_eq_getElem?_getD, List.getElem?_eq_getElem (by omega)]
      rfl
    obtain ⟨p', hp', a⟩ := paired_get at_ tj
    rw [hp] at hp'
    cases hp'
    exact ⟨by rw [List.getElem?_toArray, List.getElem?_map, tj]; rfl, a⟩
  · obtain ⟨p, hp, e⟩ := map_get (show psV[i]? = some (key, v) from hi)
    cases e
    exact ⟨p.1, p.2.1, hp, rfl⟩
  · obtain ⟨o, its, m, h1, h2, h3, h4⟩ := keysOk x hx
    exact ⟨o, its, m, hk _ _ (Nat.ne_of_lt (Heap.lt_size h1)) (by simp) h1, h2, h3, h4⟩
  · have ndp : (ps.map (·.1)).Nodup := by
      have e : ps.map (·.1) = kvs.map (·.1) := by
        clear P psV lV lp lk nd q keysOk at_ hd pr
        induction rp with
        | nil => rfl
        | cons h _ ih => rw [List.map_cons, List.map_cons, h.1, ih]
      rw [e]
      exact nd
    rw [storedAll_new ps [] ndp, List.nil_append] at hd
    obtain ⟨o, es, ep, h1, h2, h3, h4, _, h5⟩ := hd
    refine ⟨.ref s.heap.objs.size, _, I.laid (t' := tk) (o := .dT (kvs.map fun x => (x.1, x.2.2))) (fun b o e => hk b o (by simp) e) (Nat.le_refl _) ?_, rfl, q _ (I.hok.fresh (Nat.le_refl _))⟩
    refine ⟨by rw [List.length_map, lk]; exact zl, beq_eq_false_iff_ne.mpr (Ne.symm (Nat.ne_of_lt I.big)), ps, ?_, o, es, ep, h1, h2, h3, h4, h5⟩
    have all : ∀ {o : HO} {ts : List Addr} {kvs : List (List Key × Addr × V)} {ps : List (List Key × Addr × Value)}, Paired (PairL H) ts kvs → Paired (fun (x : List Key × Addr × V) (p : List Key × Addr × Value) => x.1 = p.1 ∧ x.2.1 = p.2.1 ∧ RelV x.2.2 p.2.2) kvs ps →
        Paired (fun (p : List Key × V) (q : List Key × Addr × Value) => p.1 = q.1 ∧ upd H s.heap.objs.size o q.2.1 = some (.tup (p.1.map kV)) ∧ RelV p.2 q.2.2) (kvs.map fun x => (x.1, x.2.2)) ps := by
      intro o ts kvs ps a
      induction a generalizing ps with
      | nil => intro b; cases b; exact .nil
      | cons h _ ih =>
        intro b
        cases b with
        | cons hb b =>
          refine .cons ⟨hb.1, ?_, hb.2.2⟩ (ih b)
          rw [← hb.2.1, upd_ne (ne_of_none h.2 (I.hok.fresh (Nat.le_refl _)))]
          exact h.2
    exact all pr rp
end
end OT

set_option Elab.async false
set_option linter.all false
set_option maxRecDepth 100000
set_option maxHeartbeats 4000000
-- own words
namespace OT
open PySem L2 OTR
def nqL (F : List Fact) (u : Nd) : List Key := [.inl (((nqk F 1 u).1 : Nat) : Int), .inl (nqk F 1 u).2]
theorem nqL_inj {n : Int} {F : List Fact} (T : TreeM n F) (n2 : 2 ≤ n) {u v : Nd} (ou : OnT F 1 u) (ov : OnT F 1 v) (e : nqL F u = nqL F v) : u = v :=
  nq_inj T n2 (by decide) ou ov (congrArg Sum.inr e)
theorem putK_keys {κ : Type} [DecidableEq κ] {kvs : List (κ × V)} {k : κ} {v : V} (h : (valV kvs k).isSome = true) : (putK kvs k v).map (·.1) = kvs.map (·.1) := by
  unfold putK
  rw [valV_any, if_pos h, List.map_map]
  refine List.map_congr_left fun x _ => ?_
  show (if x.1 = k then (x.1, v) else x).1 = x.1
  split <;> rfl
/-- what stands in the table behind the marches gs, where D tells which entries are already those behind the next march x -/
structure TabN (F : List Fact) (us : List Nd) (G : Hp) (f : Addr) (kvs : List (List Key × V)) (im : Nd → Nd → Prop) : Prop where
  at_ : G f = some (.dT kvs)
  keys : kvs.map (·.1) = us.map (nqL F)
  ok : ∀ u, OnT F 1 u → ∃ t v, valV kvs (nqL F u) = some (.ref t) ∧ im u v ∧ OnT F 1 v ∧ PrAt G t (nqk F 1 v)
theorem TabN.keep {F : List Fact} {us : List Nd} {G G' : Hp} {f : Addr} {kvs : List (List Key × V)} {im : Nd → Nd → Prop} (N : TabN F us G f kvs im) (s : Same G G') : TabN F us G' f kvs im :=
  ⟨s _ _ N.at_, N.keys, fun u o => let ⟨t, v, a, b, c, d⟩ := N.ok u o; ⟨t, v, a, b, c, d.same s⟩⟩
theorem TabN.imp {F : List Fact} {us : List Nd} {G : Hp} {f : Addr} {kvs : List (List Key × V)} {im im' : Nd → Nd → Prop} (N : TabN F us G f kvs im) (h : ∀ u v, OnT F 1 u → im u v → im' u v) : TabN F us G f kvs im' :=
  ⟨N.at_, N.keys, fun u o => let ⟨t, v, a, b, c, d⟩ := N.ok u o; ⟨t, v, a, h u v o b, c, d⟩⟩
theorem TabN.put {n : Int} {F : List Fact} {us : List Nd} {G : Hp} {f : Addr} {kvs : List (List Key × V)} {im im' : Nd → Nd → Prop} {u0 v0 : Nd} {t0 : Addr} (T : TreeM n F) (n2 : 2 ≤ n) (N : TabN F us G f kvs im) (o0 : OnT F 1 u0) (ov : OnT F 1 v0) (p0 : PrAt G t0 (nqk F 1 v0)) (h0 : im' u0 v0)
    (h : ∀ u v, OnT F 1 u → u ≠ u0 → im u v → im' u v) : TabN F us (upd G f (.dT (putK kvs (nqL F u0) (.ref t0)))) f (putK kvs (nqL F u0) (.ref t0)) im' := by
  have keep : ∀ {t : Addr} {x : Nat × Int}, PrAt G t x → PrAt (upd G f (.dT (putK kvs (nqL F u0) (.ref t0)))) t x := fun {t x} p => by
    unfold PrAt at p ⊢
    rw [upd_ne (ne_of p N.at_ fun z => nomatch z)]
    exact p
  refine ⟨upd_same, ?_, fun u o => ?_⟩
  · obtain ⟨t, v, a, _⟩ := N.ok u0 o0
    rw [putK_keys (by rw [a]; rfl)]
    exact N.keys
  · by_cases e : u = u0
    · subst e
      exact ⟨t0, v0, by rw [valV_put, if_pos rfl], h0, ov, keep p0⟩
    · obtain ⟨t, v, a, b, c, d⟩ := N.ok u o
      exact ⟨t, v, by rw [valV_put, if_neg fun z => e (nqL_inj T n2 o o0 z)]; exact a, h u v o e b, c, keep d⟩
theorem WayN.put {P : Program} {w : World} {F : List Fact} {S : Int} {g : Nat} {p : Int} {H : Hp} {f d : Addr} {kvs : List (MKy × V)} {kd kd' : List (List Key × V)} (N : WayN P w F S g p H f kvs) (e : H d = some (.dT kd)) : WayN P w F S g p (upd H d (.dT kd')) f kvs := by
  have tp : ∀ b xs, H b = some (.tup xs) → upd H d (.dT kd') b = some (.tup xs) := fun b xs h => by
    rw [upd_ne (ne_of h e fun z => nomatch z)]
    exact h
  obtain ⟨ent, ef, _⟩ := id N.at_
  exact ⟨N.at_.keep (fun o h => by rw [upd_ne (ne_of ef e fun z => nomatch z)]; exact h) tp, fun u o => let ⟨t, z, a, b, c⟩ := N.ok u o; ⟨t, z, a, tp _ _ b, c.elim .inl fun ⟨v, h1, h2, h3⟩ => .inr ⟨v, h1, h2, h3.keep tp⟩⟩⟩
/-- the pairs (place, place) -/
def zs0 (F : List Fact) (ys : List Addr) (us : List Nd) : List (List Key × Addr × V) := List.zipWith (fun y u => (nqL F u, y, V.ref y)) ys us
theorem zs0_keys {F : List Fact} : ∀ {ys : List Addr} {us : List Nd}, ys.length = us.length → (zs0 F ys us).map (·.1) = us.map (nqL F)
  | [], [], _ => rfl
  | y :: ys, u :: us, h => by
    show nqL F u :: (zs0 F ys us).map (·.1) = nqL F u :: us.map (nqL F)
    rw [zs0_keys (Nat.succ.inj h)]
theorem zs0_val {n : Int} {F : List Fact} (T : TreeM n F) (n2 : 2 ≤ n) {R : Addr → Nd → Prop} : ∀ {ys : List Addr} {us : List Nd}, Paired (fun t u => OnT F 1 u ∧ R t u) ys us → ∀ u ∈ us, ∃ y, valV ((zs0 F ys us).map fun x => (x.1, x.2.2)) (nqL F u) = some (.ref y) ∧ R y u
  | _, _, .nil, u, h => by cases h
  | _, _, .cons (a := y) (b := u') hd tl, u, h => by
    by_cases e : nqL F u' = nqL F u
    · have : u' = u := by
        rcases List.mem_cons.mp h with h | h
        · exact h.symm
        · obtain ⟨_, o, _⟩ := paired_mem tl u h
          exact nqL_inj T n2 hd.1 o e
      subst this
      exact ⟨y, valV_pos rfl, hd.2⟩
    · obtain ⟨y', h1, h2⟩ := zs0_val T n2 tl u ((List.mem_cons.mp h).resolve_left fun z => e (by rw [z]))
      exact ⟨y', by
        show valV ((nqL F u', V.ref y) :: (zs0 F _ _).map fun x => (x.1, x.2.2)) (nqL F u) = _
        rw [valV_neg e]
        exact h1, h2⟩
/-- a walk's next position -/
theorem pth_next {n : Int} {F : List Fact} {S : Int} {g : Nat} {p : Int} (T : TreeM n F) (hS : 1 ≤ S) (hg : On F S g p) {k : Nat} {i : Int} (hk : On F S k i) {j : Nat} (hj : (j : Int) + 1 ≤ hP F S g p k i) {v : Nd} (a : Adj F S (pth F S g p k i (j : Nat)) v) (l : hN F S g p v + 1 = hN F S g p (pth F S g p k i (j : Nat))) : v = pth F S g p k i ((j : Int) + 1) := by
  obtain ⟨h1, h2⟩ := arC (t := j) (by rw [Int.natCast_succ]; exact hj)
  obtain ⟨o, z, a'⟩ := pth_ok T hS hg hk (t := (j : Nat)) (Int.natCast_nonneg j) h2
  obtain ⟨_, z', _⟩ := pth_ok T hS hg hk (t := (j : Int) + 1) (Int.le_trans (Int.natCast_nonneg j) (Int.le_add_one (Int.le_refl _))) h1
  exact (lower_uniq T hS hg (a' h1) a (arA z z') l).symm
end OT

set_option Elab.async false
set_option linter.all false
set_option maxRecDepth 100000
set_option maxHeartbeats 4000000
-- own words
namespace OT
open PySem L2 OTR
abbrev sTable : Stmt := top 59
theorem zs0_get {F : List Fact} {y : Addr} {u : Nd} : ∀ {ys : List Addr} {us : List Nd} {i : Nat}, ys[i]? = some y → us[i]? = some u → (zs0 F ys us)[i]? = some (nqL F u, y, V.ref y)
  | [], _, _, h, _ => by cases h
  | _ :: _, [], _, _, h => by cases h
  | a :: ys, b :: us, 0, h, k => by
    cases h
    cases k
    rfl
  | a :: ys, b :: us, i + 1, h, k => zs0_get (ys := ys) (us := us) (i := i) h k
theorem zs0_len {F : List Fact} {ys : List Addr} {us : List Nd} (h : ys.length = us.length) : (zs0 F ys us).length = ys.length := by
  unfold zs0
  rw [List.length_zipWith, h, Nat.min_self]
theorem nodup_on {α β : Type} {f : α → β} : ∀ {l : List α}, l.Nodup → (∀ a ∈ l, ∀ b ∈ l, f a = f b → a = b) → (l.map f).Nodup
  | [], _, _ => List.nodup_nil
  | a :: l, h, i => by
    rw [List.map_cons, List.nodup_cons]
    obtain ⟨h1, h2⟩ := List.nodup_cons.mp h
    refine ⟨fun m => ?_, nodup_on h2 fun x hx y hy => i x (List.mem_cons_of_mem _ hx) y (List.mem_cons_of_mem _ hy)⟩
    obtain ⟨b, hb, e⟩ := List.mem_map.mp m
    have := i b (List.mem_cons_of_mem _ hb) a List.mem_cons_self e
    subst this
    exact h1 hb
theorem PairL.kp {H H' : Hp} {t : Addr} {x : List Key × Addr × V} (h : PairL H t x) (k : Kp H H') : PairL H' t x := ⟨k _ _ h.1 (fun _ z => nomatch z), k _ _ h.2 (fun _ z => nomatch z)⟩
/-- a table behind the first j marches, and for the first i positions behind one more -/
def imN (F : List Fact) (gs : List MG) (us : List Nd) (j i : Nat) (u v : Nd) : Prop := (u ∈ us.take i ∧ GoL F 1 (gs.take (j + 1)) u v) ∨ (u ∉ us.take i ∧ GoL F 1 (gs.take j) u v)
def spTable : Sp := fun vs H Q _ => ∃ (q l : Addr) (n : Int) (F : List Fact) (gs : List MG) (M : Nat), vs = [.ref q, .ref l] ∧ FactsAt H q F ∧ TreeM n F ∧ 2 ≤ n ∧ F.length ≤ 23 ∧ M ≤ 100000 ∧ (∀ r ∈ F, r.2.2 ≤ M) ∧ MsN H l gs ∧ (∀ x ∈ gs, MgOk F x) ∧
  ∀ f us kvs H', Same H H' → TabN F us H' f kvs (GoL F 1 gs) → (∀ u ∈ us, OnT F 1 u) → Q (.ref f) H'
section
variable {P : Program} {w : World} {K : PySem.W.Frag} {mg : Str → Option Value} {base : Heap}
abbrev nTable : List Str := ["_law_roads", "_law_marches_here", "_law_found", "_law_goal", "_law_steps", "_law_ways_here", "_law_begun", "_law_here", "_law_turn", "_law_place"]
theorem scTable : FnScope nTable ["_law_roads", "_law_marches_here"] (defScope sTable) := ⟨rfl, rfl, rfl, by decide +kernel, rfl, by decide +kernel, by decide +kernel⟩
theorem ok_table {f fPC fWY fKN : Addr} {fd fdPC fdWY fdKN : FuncData} (F : Fun K "_law_table" "_law_table" sTable f fd)
    (FPC : FnOk P w K mg base CX0 2 fPC fdPC ["_law_roads"] spPlacesN) (bPC : Binds K fdPC ["_law_roads"] []) (mPC : mg "_law_places" = some (.ref fPC)) (kPC : PySem.W.keepIn K (.ref fPC) = true)
    (FWY : FnOk P w K mg base CX0 3 fWY fdWY ["_law_roads", "_law_goal"] (spWaysN P w)) (bWY : Binds K fdWY ["_law_roads", "_law_goal"] []) (mWY : mg "_law_ways" = some (.ref fWY)) (kWY : PySem.W.keepIn K (.ref fWY) = true)
    (FKN : FnOk P w K mg base CX0 1 fKN fdKN ["_law_roads", "_law_place"] spKeyN) (bKN : Binds K fdKN ["_law_roads", "_law_place"] []) (mKN : mg "_law_key" = some (.ref fKN)) (kKN : PySem.W.keepIn K (.ref fKN) = true)
    (hDict : mg "dict" = none) (hList : mg "list" = none) (hRg : mg "range" = none) (hMin : mg "min" = none) : FnOk P w K mg base CX0 4 f fd ["_law_roads", "_law_marches_here"] spTable := by
  refine F.ok scTable (fun vs H Q E h => ?_) (fun cdv A outer s H vs Q E hr h => ?_)
  · obtain ⟨q, l, n, fs, gs, M, rfl, _⟩ := h
    rfl
  · obtain ⟨q, l, n, fs, gs, M, rfl, hF, T, n2, f23, hM, big, hMs, ok, kont⟩ := h
    have hr1 : Room 1 _ := hr.mono (by decide)
    have hr2 : Room 2 _ := hr.mono (by decide)
    have hr3 : Room 3 _ := hr.mono (by decide)
    have hu := hu_of hr
    have hu2 : (A.deeper (PyProof.Rows.envOfC "_law_table" (defScope sTable) s.heap.objs.size f cdv)).units + 2 < cLine := Nat.lt_of_le_of_lt (Nat.add_le_add_left (by decide) _) hr.units
    refine ⟨_, pss_cons (ps_set (i := 2) scTable.nd rfl (Or.inl rfl) (pe_callTy (call_dictT hu2 rfl) (by rfl) hDict (by decide +kernel) (pa_cons (pe_lc (own := [("_law_place", 9)]) (g := gName 9) (tt := tYes) (te := tTup (tCons (tVar 9) (tCons (tVar 9) tNil))) rfl scTable.nd (pi_list (pe_call FPC hr2 rfl mPC kPC bPC .nil pass0 (pa_cons (pv 0) pa_nil))) (blkOk_by (own := [("_law_place", 9)]) (N := nTable) (sc := defScope sTable) (by decide +kernel)) (fun _ _ _ _ _ => (pg_name (i := 9) scTable.nd rfl (Or.inl rfl))) (fun _ _ _ _ _ => pts_nil) (fun _ _ _ _ _ => (pe_tup (pa_cons (pv 9) (pa_cons (pv 9) pa_nil))))) pa_nil)))
      (pss_cons (ps_for PassesOwn.never rfl (pi_list (pv 1)) (pg_tup rfl (pgs_cons (pg_name (i := 3) scTable.nd rfl (Or.inl rfl)) (pgs_cons (pg_name (i := 4) scTable.nd rfl (Or.inl rfl)) pgs_nil)))
        (pss_cons (ps_set (i := 5) scTable.nd rfl (Or.inl rfl) (pe_call FWY hr3 rfl mWY kWY bWY .nil pass0 (pa_cons (pv 0) (pa_cons (pe_call FKN hr1 rfl mKN kKN bKN .nil pass0 (pa_cons (pv 0) (pa_cons (pv 3) pa_nil))) pa_nil))))
        (pss_one (ps_for PassesOwn.never rfl (pi_list (pe_callTy (call_list_dT rfl) (by rfl) hList (by decide +kernel) (pa_cons (pv 2) pa_nil))) (pg_name (i := 6) scTable.nd rfl (Or.inl rfl))
          (pss_cons (ps_set (i := 7) scTable.nd rfl (Or.inl rfl) (pe_dget hu (pv 2) (pv 6) (fun _ _ => rfl)))
          (pss_cons (ps_for PassesOwn.never rfl (pi_range1 (by rfl) hRg (pa_cons (pe_callB (call_min2 rfl) (by rfl) hMin (by decide +kernel) (pa_cons (pv 4) (pa_cons (pe_ix ix_tup (pe_mget hu (pv 5) (pv 7) (fun _ _ => rfl)) pe_int (fun _ _ => rfl)) pa_nil))) pa_nil)) (pg_name (i := 8) scTable.nd rfl (Or.inl rfl))
            (pss_one (ps_set (i := 7) scTable.nd rfl (Or.inl rfl) (pe_ix ix_tup (pe_mget hu (pv 5) (pv 7) (fun _ _ => rfl)) pe_int (fun _ _ => rfl)))))
          (pss_one (ps_dput hu (pv 2) (pv 6) (pv 7) rfl))))))))
      (pss_one (ps_ret (pv 2)))), ?_⟩
    have two : ∀ {x y : V}, [x, y].length ≤ sizeLine := fun {x y} => (by show 2 ≤ sizeLine; decide)
    -- found = dict([(place, place) for place in places(roads)])
    refine ⟨_, rfl, q, n, fs, M, rfl, hF, T, n2, f23, hM, big, fun D0 ys us G1 hD0 s1 gD0 pr nd all yl => ?_⟩
    have lys : ys.length = us.length := Paired.length pr
    refine ⟨D0, rfl, ⟨_, SqL.of gD0⟩, fun D hD => lc_list (K := K) (a := D0) (xs := ys.map V.ref) (fun i Gc => ∃ ts : List Addr, Gc D = some (.lst (ts.map V.ref)) ∧ Same G1 Gc ∧ Paired (PairL Gc) ts ((zs0 fs ys us).take i) ∧ ts.length = i)
      ⟨[], upd_same, Same.new hD, .nil, rfl⟩ (fun i Gc _ ⟨_, _, sc, _⟩ => SqL.of (sc _ _ gD0)) ?_ ?_⟩
    · rintro i x Gc hi ⟨ts, gD, sc, prL, tlen⟩
      obtain ⟨y, hy, rfl⟩ := map_get hi
      obtain ⟨u, hu', ou, py⟩ := paired_get pr hy
      have il : i < ys.length := (List.getElem?_eq_some_iff.mp hy).1
      refine ⟨rfl, ?_⟩
      unfold tYes
      refine iteT ⟨_, rfl, _, rfl, two, fun pt hpt => ?_⟩
      have s2 := Same.new (o := .tup [.ref y, .ref y]) hpt
      have kput : Kp (upd Gc pt (.tup [.ref y, .ref y])) (upd (upd Gc pt (.tup [.ref y, .ref y])) D (.lst (ts.map V.ref ++ [.ref pt]))) := .put (s2 _ _ gD)
      have pnew : PairL (upd Gc pt (.tup [.ref y, .ref y])) pt (nqL fs u, y, V.ref y) := ⟨upd_same, (py.same sc).same s2⟩
      refine ⟨ts.map V.ref, s2 _ _ gD, small6 (by rw [List.length_map, tlen]; omega), ts ++ [pt], by rw [List.map_append]; exact upd_same, fun b o e => ?_, ?_, by rw [List.length_append, tlen]; rfl⟩
      · rw [upd_ne (ne_of_none e hD)]
        exact s2 _ _ (sc b o e)
      · rw [take_get (zs0_get hy hu')]
        exact paired_app (Paired.mapP prL fun _ _ a => (a.kp (.of s2)).kp kput) (.cons (pnew.kp kput) .nil)
    · rintro G4 ⟨ts, gD, s4, prL, tlen⟩
      rw [List.length_map, List.take_of_length_le (by rw [zs0_len lys]; exact Nat.le_refl _)] at prL
      have oin : ∀ u ∈ us, OnT fs 1 u := fun u hu => let ⟨_, o, _⟩ := paired_mem pr u hu; o
      have ndk : ((zs0 fs ys us).map (·.1)).Nodup := by
        rw [zs0_keys lys]
        exact nodup_on nd fun a ha b hb e => nqL_inj T n2 (oin a ha) (oin b hb) e
      refine ⟨D, ts, zs0 fs ys us, rfl, gD, prL, ndk, fun f hf => ?_⟩
      have s5 : Same G4 (upd G4 f (.dT ((zs0 fs ys us).map fun x => (x.1, x.2.2)))) := Same.new hf
      have s05 : Same H (upd G4 f (.dT ((zs0 fs ys us).map fun x => (x.1, x.2.2)))) := (s1.trans s4).trans s5
      have N0 : TabN fs us (upd G4 f (.dT ((zs0 fs ys us).map fun x => (x.1, x.2.2)))) f ((zs0 fs ys us).map fun x => (x.1, x.2.2)) (GoL fs 1 (gs.take 0)) := by
        refine ⟨upd_same, ?_, fun u ou => ?_⟩
        · rw [List.map_map]
          exact zs0_keys lys
        · obtain ⟨y, h1, h2⟩ := zs0_val T n2 pr u (all u ou)
          exact ⟨y, u, h1, rfl, ou, (h2.same s4).same s5⟩
      have lus : us.length ≤ 2400000 := by rw [← lys]; exact yl
      clear prL gD pr gD0 ndk yl
      have hfH : H f = none := by
        cases e : H f with
        | none => rfl
        | some o =>
          have z := (s1.trans s4) _ _ e
          rw [hf] at z
          cases z
      generalize upd G4 f (.dT ((zs0 fs ys us).map fun x => (x.1, x.2.2))) = G5 at s05 N0 ⊢
      generalize (zs0 fs ys us).map (fun x => (x.1, x.2.2)) = kvs0 at N0
      have MsK := hMs
      obtain ⟨ms, hl, hms⟩ := id hMs
      have ml : (ms.map V.ref).length = gs.length := by rw [List.length_map]; exact Paired.length hms
      dsimp only [gName]
      -- for goal, steps in marches
      refine ⟨_, rfl, l, rfl, ⟨_, SqL.of (s05 _ _ hl)⟩, for_list (K := K) (a := l) (xs := ms.map V.ref) (fun j σ G => ∃ (v3 v4 v5 v6 v7 v8 v9 : Option V) (kvs : List (List Key × V)), σ = [some (.ref q), some (.ref l), some (.ref f), v3, v4, v5, v6, v7, v8, v9] ∧ Same H G ∧ TabN fs us G f kvs (GoL fs 1 (gs.take j)))
        ⟨none, none, none, none, none, none, none, kvs0, rfl, s05, N0⟩ (fun j σ G _ ⟨_, _, _, _, _, _, _, _, _, sg, _⟩ => SqL.of (sg _ _ hl)) ?_ ?_⟩
      · clear N0 s05
        rintro j x σ G hj ⟨v3, v4, v5, v6, v7, v8, v9, kvs, rfl, sg, N⟩
        obtain ⟨t, ht, rfl⟩ := map_get hj
        obtain ⟨r, hr', b, et, pb⟩ := paired_get hms ht
        obtain ⟨rg, rp, rm⟩ := r
        have okr := ok _ (List.mem_of_getElem? hr')
        have og : On fs 1 rg rp := by
          have h := okr.on (S := 1) (by decide)
          rw [Int.mul_one] at h
          exact h
        have m0 : 1 ≤ rm := okr.s1
        have m9 : rm ≤ 1000000000 := okr.s2
        refine ⟨t, _, rfl, SqT.of (sg _ _ et), rfl, _, _, rfl, _, _, rfl, rfl, ?_⟩
        -- ways_here = ways(roads, key(roads, goal))
        refine ⟨_, rfl, _, rfl, _, rfl, q, b, n, fs, rg, rp, rfl, FactsAt.same hF sg, T, n2, f23, og, pb.same sg, fun t' G2 s2 pr2 => ?_⟩
        refine ⟨q, t', n, fs, rg, rp, M, rfl, FactsAt.same hF (sg.trans s2), T, n2, f23, hM, big, og, pr2, fun fa G3 kw hfa s3 W => ?_⟩
        have N3 := N.keep (s2.trans s3)
        have sg3 := sg.trans (s2.trans s3)
        clear N sg
        -- for begun in list(found)
        refine ⟨_, rfl, f, kvs, rfl, .inl N3.at_, fun pl bs hpl isk => ?_⟩
        have s4 := Same.new (o := .lst (bs.map V.ref)) hpl
        have N4 := N3.keep s4
        have W4 := W.same s4
        have sg4 := sg3.trans s4
        have epl : upd G3 pl (.lst (bs.map V.ref)) pl = some (.lst (bs.map V.ref)) := upd_same
        have isk4 : Paired (fun (p : List Key × V) b => upd G3 pl (.lst (bs.map V.ref)) b = some (.tup (p.1.map kV))) kvs bs := Paired.mapP isk fun _ _ h => s4 _ _ h
        have lbs : bs.length = us.length := by
          have h1 := Paired.length isk
          have h2 := congrArg List.length N3.keys
          rw [List.length_map, List.length_map] at h2
          omega
        clear N3 W sg3 isk s4
        generalize upd G3 pl (.lst (bs.map V.ref)) = G4 at N4 W4 sg4 epl isk4 ⊢
        refine ⟨pl, rfl, ⟨_, SqL.of epl⟩, for_list (K := K) (a := pl) (xs := bs.map V.ref) (fun i σ G => ∃ (v6 v7 v8 v9 : Option V) (kv : List (List Key × V)), σ = [some (.ref q), some (.ref l), some (.ref f), some (.ref b), some (.int rm), some (.ref fa), v6, v7, v8, v9] ∧ Same H G ∧ G pl = some (.lst (bs.map V.ref)) ∧ (∀ b xs, G4 b = some (.tup xs) → G b = some (.tup xs)) ∧
            WayN P w fs 1 rg rp G fa kw ∧ TabN fs us G f kv (imN fs gs us j i))
          ⟨v6, v7, v8, v9, kvs, rfl, sg4, epl, fun b xs h => h, W4, N4.imp fun u v _ h => .inr ⟨fun z => (by cases z), h⟩⟩ (fun i σ G _ ⟨_, _, _, _, _, _, _, e, _⟩ => SqL.of e) ?_ ?_⟩
        · rintro i x σ G hi ⟨v6, v7, v8, v9, kv, rfl, sg, gpl, tg, W, N⟩
          obtain ⟨b0, hb0, rfl⟩ := map_get hi
          obtain ⟨kv0, hkv0, eb0⟩ := pair_at isk4 hb0
          have eb := tg _ _ eb0
          obtain ⟨u0, hu0, ek⟩ : ∃ u0, us[i]? = some u0 ∧ nqL fs u0 = kv0.1 := by
            have h1 : (us.map (nqL fs))[i]? = some kv0.1 := by
              rw [← N4.keys, List.getElem?_map, hkv0]
              rfl
            obtain ⟨u0, h2, h3⟩ := map_get h1
            exact ⟨u0, h2, h3.symm⟩
          rw [← ek] at eb
          have ou0 : OnT fs 1 u0 := oin u0 (List.mem_of_getElem? hu0)
          have nin : u0 ∉ us.take i := fun z => by
            obtain ⟨i', hi', e'⟩ := List.getElem_of_mem z
            rw [List.length_take] at hi'
            rw [List.getElem_take] at e'
            obtain ⟨l1, e1⟩ := List.getElem?_eq_some_iff.mp hu0
            have := (List.getElem_inj nd).mp (e'.trans e1.symm)
            omega
          obtain ⟨tv, v, hv, im, ov, pv'⟩ := N.ok u0 ou0
          have gl : GoL fs 1 (gs.take j) u0 v := im.elim (fun h => absurd h.1 nin) fun h => h.2
          have dget : DGet G f (.ref b0) (some (.ref tv)) := by
            have h := DGet.t (k := nqL fs u0) N.at_ eb
            rw [hv] at h
            exact h
          -- here = found[begun]
          refine ⟨_, rfl, _, rfl, f, .ref tv, rfl, dget, ?_⟩
          dsimp only [gName]
          obtain ⟨k, i0, hk, rfl⟩ := id ov
          have eh : hN fs 1 rg rp (node fs 1 k i0) = hP fs 1 rg rp k i0 := hN_node T (by decide) og hk
          have h0 : 0 ≤ hP fs 1 rg rp k i0 := total_nn _
          obtain ⟨tw, z, e1, e2, _⟩ := W.ok _ ⟨k, i0, hk, rfl⟩
          rw [eh] at e2
          -- for turn in range(min(steps, ways_here[here][0]))
          refine ⟨_, rfl, _, rfl, _, rfl, fa, kw, nq fs 1 (node fs 1 k i0), .ref tw, rfl, W.at_, keyN.mpr ⟨tv, rfl, pv'⟩, e1, tw, _, 0, _, rfl, rfl, SqT.of e2, rfl, rm, hP fs 1 rg rp k i0, rfl, ?_⟩
          have eGo : Go fs 1 rg (rp * 1) (rm * 1) (node fs 1 k i0) (pth fs 1 rg rp k i0 (if hP fs 1 rg rp k i0 < rm then hP fs 1 rg rp k i0 else rm)) := by
            rw [Int.mul_one, Int.mul_one]
            exact ⟨k, i0, hk, rfl, rfl⟩
          generalize eT : (if hP fs 1 rg rp k i0 < rm then hP fs 1 rg rp k i0 else rm) = tt at eGo ⊢
          have t0 : 0 ≤ tt := by rw [← eT]; split <;> omega
          have t1 : tt ≤ hP fs 1 rg rp k i0 := by rw [← eT]; split <;> omega
          have t2 : tt ≤ rm := by rw [← eT]; split <;> omega
          clear eT
          refine ⟨tt, rfl, by omega, by omega, for_range (lo := 0) (n := tt.toNat) (fun c σ G' => ∃ (ty : Addr) (v8 : Option V), σ = [some (.ref q), some (.ref l), some (.ref f), some (.ref b), some (.int rm), some (.ref fa), some (.ref b0), some (.ref ty), v8, v9] ∧ G' = G ∧ PrAt G ty (nqk fs 1 (pth fs 1 rg rp k i0 (c : Nat))))
            ⟨tv, v8, rfl, rfl, by show PrAt G tv (nqk fs 1 (pth fs 1 rg rp k i0 0)); rw [pth_0 T (by decide) og hk]; exact pv'⟩ ?_ ?_⟩
          · rintro c σ G' hc ⟨ty, w8, rfl, rfl, py⟩
            have c1 : (c : Int) + 1 ≤ hP fs 1 rg rp k i0 := by omega
            obtain ⟨o, hj1, aj⟩ := pth_ok T (by decide) og hk (t := (c : Nat)) (Int.natCast_nonneg c) (by omega)
            obtain ⟨t'', z', e3, e4, e5⟩ := W.ok _ o
            obtain ⟨v', av, bv, kv'⟩ : ∃ v', Adj fs 1 (pth fs 1 rg rp k i0 (c : Nat)) v' ∧ hN fs 1 rg rp v' + 1 = hN fs 1 rg rp (pth fs 1 rg rp k i0 (c : Nat)) ∧ KeyM G' (nq fs 1 v') z' := e5.resolve_left (by rw [hj1]; omega)
            have ev := pth_next T (by decide) og hk c1 av bv
            rw [ev] at kv'
            obtain ⟨tz, rfl, pz⟩ := keyN.mp kv'
            exact ⟨_, rfl, _, rfl, fa, kw, _, .ref t'', rfl, W.at_, keyN.mpr ⟨ty, rfl, py⟩, e3, t'', _, 1, .ref tz, rfl, rfl, SqT.of e4, rfl, tz, _, rfl, rfl, pz⟩
          · rintro σ G' ⟨ty, w8, rfl, rfl, py⟩
            rw [Int.toNat_of_nonneg t0] at py
            have lkv : kv.length ≤ 2400000 := by
              have h2 := congrArg List.length N.keys
              rw [List.length_map, List.length_map] at h2
              omega
            have lz : kv.length < sizeLine := small6 (by omega)
            have gl' : GoL fs 1 (gs.take (j + 1)) u0 (pth fs 1 rg rp k i0 tt) := by
              rw [take_get hr']
              exact gl.snoc eGo
            -- found[begun] = here
            refine ⟨_, rfl, _, rfl, _, rfl, f, _, rfl, DPut.t (k := nqL fs u0) N.at_ eb lz, ?_⟩
            have tup : ∀ b xs, G' b = some (.tup xs) → upd G' f (.dT (putK kv (nqL fs u0) (.ref ty))) b = some (.tup xs) := fun b xs h => by
              rw [upd_ne (ne_of h N.at_ fun z => nomatch z)]
              exact h
            refine ⟨_, _, _, _, _, rfl, fun c o e => by rw [upd_ne (ne_of_none e hfH)]; exact sg _ _ e, by rw [upd_ne (ne_of gpl N.at_ fun z => nomatch z)]; exact gpl, fun b xs h => tup b xs (tg b xs h), W.put N.at_, N.put T n2 ou0 (pth_ok T (by decide) og hk t0 t1).1 py ?_ ?_⟩
            · exact .inl ⟨by rw [take_get hu0]; exact List.mem_append_right _ (List.mem_singleton.mpr rfl), gl'⟩
            · intro u v ou ne h
              rcases h with h | h
              · exact .inl ⟨by rw [take_get hu0]; exact List.mem_append_left _ h.1, h.2⟩
              · refine .inr ⟨fun z => ?_, h.2⟩
                rw [take_get hu0] at z
                rcases List.mem_append.mp z with z | z
                · exact h.1 z
                · exact ne (List.mem_singleton.mp z)
        · rintro σ G ⟨v6, v7, v8, v9, kv, rfl, sg, gpl, tg, W, N⟩
          rw [List.length_map, lbs] at N
          refine ⟨_, _, _, _, _, _, _, kv, rfl, sg, N.imp fun u v ou h => ?_⟩
          rcases h with h | h
          · exact h.2
          · exact absurd (by rw [List.take_length]; exact all u ou) h.1
      · rintro σ G ⟨v3, v4, v5, v6, v7, v8, v9, kvs, rfl, sg, N⟩
        rw [ml, List.take_length] at N
        exact ⟨_, rfl, kont f us kvs G sg N oin⟩
end
end OT

set_option linter.all false
set_option maxRecDepth 100000
set_option maxHeartbeats 1000000
namespace OT
theorem mnI {h m : Int} (hm : m ≤ h) : (if h < m then h else m) = m := by
  rw [if_neg (by omega)]
section
variable {n : Int} {F : List Fact} {S : Int} {g : Nat} {p : Int} (T : TreeM n F) (hS : 1 ≤ S) (hg : On F S g p)
include T hS hg
/-- a way is gone on from any of its places -/
theorem pth_on {k k' : Nat} {i i' : Int} (h : On F S k i) (h' : On F S k' i') {d : Int} (d0 : 0 ≤ d) (dh : d ≤ hP F S g p k i) (e : pth F S g p k i d = node F S k' i') :
    hP F S g p k' i' = hP F S g p k i - d ∧ ∀ t : Nat, d + (t : Int) ≤ hP F S g p k i → pth F S g p k i (d + (t : Nat)) = pth F S g p k' i' (t : Nat) := by
  obtain ⟨o0, z0, _⟩ := pth_ok T hS hg h d0 dh
  have eh : hP F S g p k' i' = hP F S g p k i - d := by rw [← hN_node T hS hg h', ← e, z0]
  refine ⟨eh, fun t => ?_⟩
  induction t with
  | zero =>
    intro _
    show pth F S g p k i (d + 0) = pth F S g p k' i' 0
    rw [Int.add_zero, e, pth_0 T hS hg h']
  | succ t ih =>
    intro ht
    have ht' : d + (t : Int) + 1 ≤ hP F S g p k i := by omega
    have ih := ih (by omega)
    obtain ⟨o, z, a⟩ := pth_ok T hS hg h (t := d + (t : Nat)) (by omega) (by omega)
    obtain ⟨o', z', a'⟩ := pth_ok T hS hg h' (t := (t : Nat)) (Int.natCast_nonneg t) (by omega)
    have a := a ht'
    have a' := a' (by omega)
    rw [← ih] at a'
    obtain ⟨_, zz, _⟩ := pth_ok T hS hg h (t := d + (t : Int) + 1) (by omega) ht'
    obtain ⟨_, zz', _⟩ := pth_ok T hS hg h' (t := (t : Int) + 1) (by omega) (by omega)
    have r := lower_uniq T hS hg a a' (by omega) (by omega)
    have e1 : d + ((t + 1 : Nat) : Int) = d + (t : Int) + 1 := by omega
    rw [e1, Int.natCast_succ]
    exact r
/-- two marches to one goal are one march -/
theorem Go.add {m1 m2 : Int} (m0 : 0 ≤ m1) (m20 : 0 ≤ m2) {u v w : Nd} (a : Go F S g p m1 u v) (b : Go F S g p m2 v w) : Go F S g p (m1 + m2) u w := by
  obtain ⟨k, i, o, rfl, rfl⟩ := a
  obtain ⟨k', i', o', e, rfl⟩ := b
  have h0 : 0 ≤ hP F S g p k i := total_nn _
  obtain ⟨b1, b2⟩ := arB h0 m0
  obtain ⟨eh, go⟩ := pth_on T hS hg o o' b1 b2 e
  have h0' : 0 ≤ hP F S g p k' i' := total_nn _
  obtain ⟨c1, c2⟩ := arB h0' m20
  refine ⟨k, i, o, rfl, ?_⟩
  have q := go (if hP F S g p k' i' < m2 then hP F S g p k' i' else m2).toNat (by rw [Int.toNat_of_nonneg c1]; omega)
  rw [Int.toNat_of_nonneg c1] at q
  rw [← q]
  congr 1
  clear q go
  generalize hP F S g p k' i' = y at *
  generalize hP F S g p k i = x at *
  split at * <;> split at * <;> split at * <;> omega
theorem Go.zero {u : Nd} (h : OnT F S u) : Go F S g p 0 u u := by
  obtain ⟨k, i, o, rfl⟩ := h
  refine ⟨k, i, o, rfl, ?_⟩
  have h0 : 0 ≤ hP F S g p k i := total_nn _
  rw [mnI h0, pth_0 T hS hg o]
/-- a march that is long enough leads to the goal -/
theorem Go.all {m : Int} {u v : Nd} (a : Go F S g p m u v) (hm : ∀ k i, On F S k i → hP F S g p k i ≤ m) : v = node F S g p := by
  obtain ⟨k, i, o, rfl, rfl⟩ := a
  have h0 : 0 ≤ hP F S g p k i := total_nn _
  have h1 := hm k i o
  have e : (if hP F S g p k i < m then hP F S g p k i else m) = hP F S g p k i := by split <;> omega
  rw [e]
  obtain ⟨o1, z1, _⟩ := pth_ok T hS hg o h0 (Int.le_refl _)
  exact zero_aim T hS hg o1 (by rw [z1]; omega)
/-- several marches alike -/
theorem go_times {m : Int} (m0 : 0 ≤ m) : ∀ (j : Nat) {u v : Nd} (R : Nat → Nd), R 0 = u → R j = v → OnT F S u → (∀ c, c < j → Go F S g p m (R c) (R (c + 1))) → Go F S g p (j * m) u v
  | 0, u, v, R, e0, ej, o, _ => by
    cases e0
    cases ej
    rw [show (((0 : Nat) : Int) * m) = 0 by simp]
    exact Go.zero T hS hg o
  | j + 1, u, v, R, e0, ej, o, h => by
    have ih := go_times m0 j R e0 rfl o fun c hc => h c (by omega)
    have q := Go.add T hS hg (Int.mul_nonneg (by omega) m0) m0 ih (h j (by omega))
    rw [← ej]
    have e : ((j + 1 : Nat) : Int) * m = (j : Int) * m + m := by
      rw [Int.natCast_succ, Int.add_mul, Int.one_mul]
    rw [e]
    exact q
variable {g' : Nat} {p' : Int} (hg' : On F S g' p') (eg : node F S g p = node F S g' p')
include hg' eg
/-- a goal may be given by any road of its crossing -/
theorem hP_goal {k : Nat} {i : Int} (h : On F S k i) : hP F S g p k i = hP F S g' p' k i := by
  rw [hP_sym T hS h hg, hP_sym T hS h hg', ← hN_node T hS h hg, ← hN_node T hS h hg', eg]
theorem hN_goal {u : Nd} (h : OnT F S u) : hN F S g p u = hN F S g' p' u := by
  obtain ⟨k, i, o, rfl⟩ := h
  rw [hN_node T hS hg o, hN_node T hS hg' o, hP_goal T hS hg hg' eg o]
theorem pth_goal {k : Nat} {i : Int} (h : On F S k i) : ∀ t : Nat, (t : Int) ≤ hP F S g p k i → pth F S g p k i (t : Nat) = pth F S g' p' k i (t : Nat) := by
  have eh := hP_goal T hS hg hg' eg h
  intro t
  induction t with
  | zero =>
    intro _
    show pth F S g p k i 0 = pth F S g' p' k i 0
    rw [pth_0 T hS hg h, pth_0 T hS hg' h]
  | succ t ih =>
    intro ht
    obtain ⟨h1, h2⟩ := arC ht
    have ih := ih h2
    obtain ⟨o, z, a⟩ := pth_ok T hS hg h (t := (t : Nat)) (Int.natCast_nonneg t) h2
    obtain ⟨o', z', a'⟩ := pth_ok T hS hg' h (t := (t : Nat)) (Int.natCast_nonneg t) (by rw [← eh]; exact h2)
    have a := a h1
    have a' := a' (by rw [← eh]; exact h1)
    rw [← ih] at a'
    obtain ⟨_, zz, _⟩ := pth_ok T hS hg h (t := (t : Int) + 1) (Int.le_trans (Int.natCast_nonneg t) (Int.le_add_one (Int.le_refl _))) h1
    obtain ⟨ot, zz', _⟩ := pth_ok T hS hg' h (t := (t : Int) + 1) (Int.le_trans (Int.natCast_nonneg t) (Int.le_add_one (Int.le_refl _))) (by rw [← eh]; exact h1)
    rw [← eh, ← hN_goal T hS hg hg' eg ot] at zz'
    have r := lower_uniq T hS hg a a' (arA z zz) (arA z zz')
    rw [Int.natCast_succ]
    exact r
theorem Go.goal {m : Int} (m0 : 0 ≤ m) {u v : Nd} (a : Go F S g p m u v) : Go F S g' p' m u v := by
  obtain ⟨k, i, o, rfl, rfl⟩ := a
  refine ⟨k, i, o, rfl, ?_⟩
  rw [← hP_goal T hS hg hg' eg o]
  obtain ⟨b1, b2⟩ := arB (show 0 ≤ hP F S g p k i from total_nn _) m0
  have q := pth_goal T hS hg hg' eg o (if hP F S g p k i < m then hP F S g p k i else m).toNat (by rw [Int.toNat_of_nonneg b1]; exact b2)
  rw [Int.toNat_of_nonneg b1] at q
  exact q
end
theorem GoR.add {F : List Fact} {S : Int} {l : List MG} {a : Nat} {u v : Nd} (h : GoR F S l a u v) : ∀ {b : Nat} {w : Nd}, GoR F S l b v w → GoR F S l (a + b) u w
  | 0, _, k => by
    cases (show _ = _ from k)
    exact h
  | b + 1, w, ⟨z, k1, k2⟩ => ⟨z, GoR.add h k1, k2⟩
theorem GoR.one {F : List Fact} {S : Int} {l : List MG} {u v : Nd} (h : GoL F S l u v) : GoR F S l 1 u v := ⟨u, rfl, h⟩
theorem GoR.the {F : List Fact} {S : Int} {l : List MG} {u v : Nd} (h : GoR F S l 1 u v) : GoL F S l u v := by
  obtain ⟨w, a, b⟩ := h
  cases (show _ = _ from a)
  exact b
/-- how far it is at most -/
theorem hP_most {n : Int} {F : List Fact} {S : Int} {g : Nat} {p : Int} (T : TreeM n F) (hS : 1 ≤ S) (hg : On F S g p) (big : ∀ r ∈ F, r.2.2 ≤ 1000000000) (f7 : F.length ≤ 7) {k : Nat} {i : Int} (h : On F S k i) : hP F S g p k i ≤ 8 * (1000000000 * S) := by
  have h1 := hP_few T hS h hg
  have h2 := len_nodes (F := F) (S := S) (M := (1000000000 * S).toNat) fun r hr => by
    rw [Int.toNat_of_nonneg (by omega)]
    exact Int.mul_le_mul_of_nonneg_right (big r hr) (by omega)
  have h3 : F.length * ((1000000000 * S).toNat + 1) ≤ 7 * ((1000000000 * S).toNat + 1) := Nat.mul_le_mul_right _ f7
  have h4 : (((1000000000 * S).toNat : Nat) : Int) = 1000000000 * S := Int.toNat_of_nonneg (by omega)
  omega
/-- on a road but the goal's one goes towards its nearer end -/
theorem Go.leg {n : Int} {F : List Fact} {S : Int} {g : Nat} {p : Int} (T : TreeM n F) (hS : 1 ≤ S) (hg : On F S g p) {k : Nat} {i m : Int} (h : On F S k i) (ne : k ≠ g) (m0 : 0 ≤ m) (hm : m ≤ dst i (eAt F S k (up F g k))) :
    Go F S g p m (node F S k i) (node F S k (if i < eAt F S k (up F g k) then i + m else i - m)) := by
  refine ⟨k, i, h, rfl, ?_⟩
  have e : hP F S g p k i = dst i (eAt F S k (up F g k)) + hC F S g p (up F g k) := hP_k ne i
  have c0 : 0 ≤ hC F S g p (up F g k) := total_nn _
  rw [mnI (by omega)]
  unfold pth legsP
  rw [if_neg ne, posL_le hm]
/-- on the goal's road -/
theorem Go.end {n : Int} {F : List Fact} {S : Int} {g : Nat} {p : Int} (T : TreeM n F) (hS : 1 ≤ S) (hg : On F S g p) {i m : Int} (h : On F S g i) (m0 : 0 ≤ m) : Go F S g p m (node F S g i) (node F S g (if i < p then i + (if dst i p < m then dst i p else m) else i - (if dst i p < m then dst i p else m))) := by
  refine ⟨g, i, h, rfl, ?_⟩
  rw [hP_g]
  have q : (if dst i p < m then dst i p else m) ≤ dst i p := by split <;> omega
  generalize (if dst i p < m then dst i p else m) = t at *
  unfold pth legsP
  rw [if_pos rfl, posL_le q]
section
variable {n : Int} {F : List Fact} {S : Int} {g : Nat} {p : Int} (T : TreeM n F) (hS : 1 ≤ S) (hg : On F S g p)
include T hS hg
/-- which end of a road is nearer, by the distances -/
theorem up_dist {k : Nat} (hk : k < F.length) (ne : k ≠ g) : (hC F S g p (rd F k).2.1 < hC F S g p (rd F k).1 ↔ up F g k = (rd F k).2.1) ∧ (up F g k = (rd F k).1 ∨ up F g k = (rd F k).2.1) := by
  have far := hC_far T hS hg hk ne
  have z := sz_pos T hS hk
  have o := rd_ok T hk
  rcases up_end T (g := g) hk with e | e
  · rw [← e] at far
    have eb : eBy F k (rd F k).1 = (rd F k).2.1 := if_pos rfl
    rw [eb] at far
    rw [← e]
    exact ⟨⟨fun q => by omega, fun q => absurd q o.2.2.2⟩, .inl rfl⟩
  · rw [← e] at far
    have eb : eBy F k (rd F k).2.1 = (rd F k).1 := if_neg o.2.2.2
    rw [eb] at far
    rw [← e]
    exact ⟨⟨fun _ => rfl, fun _ => by omega⟩, .inr rfl⟩
/-- the road on which the way goes on from a crossing -/
noncomputable def nxR (F : List Fact) (g : Nat) (c : Int) : Nat := (tr F c (rd F g).1).headD g
omit T hS hg in
theorem nxR_nil {F : List Fact} {g : Nat} {c : Int} (h : tr F c (rd F g).1 = []) : nxR F g c = g := by
  unfold nxR
  rw [h]
  rfl
omit T hS hg in
theorem nxR_cons {F : List Fact} {g k : Nat} {c : Int} {l : List Nat} (h : tr F c (rd F g).1 = k :: l) : nxR F g c = k := by
  unfold nxR
  rw [h]
  rfl
/-- it is a road of the crossing's -/
theorem nxR_ok {c : Int} (hc : In n c) : nxR F g c < F.length ∧ ((rd F (nxR F g c)).1 = c ∨ (rd F (nxR F g c)).2.1 = c) := by
  have hg1 := hg.1
  have og := rd_ok T hg1
  obtain ⟨w, nd⟩ := tr_of T hc og.1
  generalize hl : tr F c (rd F g).1 = l at w nd
  cases w with
  | nil =>
    rw [nxR_nil hl]
    exact ⟨hg1, .inl rfl⟩
  | cons e j w' =>
    rw [nxR_cons hl]
    refine ⟨(List.getElem?_eq_some_iff.mp e).1, ?_⟩
    rw [rd_of e]
    rcases j with ⟨a, _⟩ | ⟨_, a⟩
    · exact .inl a
    · exact .inr a
/-- the law's test finds just that road -/
theorem nxR_test {c : Int} (hc : In n c) {k : Nat} (hk : k < F.length) (ke : (rd F k).1 = c ∨ (rd F k).2.1 = c) : (k = g ∨ hC F S g p (eBy F k c) + sz F S k = hC F S g p c) ↔ k = nxR F g c := by
  have hg1 := hg.1
  have og := rd_ok T hg1
  constructor
  · intro h
    by_cases e : k = g
    · subst e
      rcases ke with q | q
      · rw [← q]
        exact (nxR_nil (tr_self T og.1)).symm
      · rw [← q]
        exact (nxR_cons (tr_root T hg1)).symm
    · have h := h.resolve_left e
      have far := hC_far T hS hg hk e
      have z := sz_pos T hS hk
      by_cases q : up F g k = c
      · rw [q] at far
        omega
      · have ec := oth_end T hS hg hk ke q
        have f := up_far T hg1 hk
        rw [← ec] at f
        exact (nxR_cons f).symm
  · intro h
    by_cases e : k = g
    · exact .inl e
    · refine .inr ?_
      obtain ⟨w, nd⟩ := tr_of T hc og.1
      generalize hl : tr F c (rd F g).1 = l at w nd
      cases w with
      | nil =>
        rw [nxR_nil hl] at h
        exact absurd h e
      | cons e1 j w' =>
        rw [nxR_cons hl] at h
        subst h
        have u := (up_of T hg1 hk ke hl).1
        have far := hC_far T hS hg hk e
        have o := rd_ok T hk
        have eb : eBy F k (eBy F k c) = c := by
          rcases ke with q | q
          · have e2 : eBy F k c = (rd F k).2.1 := if_pos q
            rw [e2]
            exact (if_neg o.2.2.2).trans q
          · have e2 : eBy F k c = (rd F k).1 := if_neg (fun z => o.2.2.2 (z.trans q.symm))
            rw [e2]
            exact (if_pos rfl).trans q
        rw [u, eb] at far
        omega
/-- behind the nearer end the way goes over another road, and has fewer roads left -/
theorem nxR_far {k : Nat} (hk : k < F.length) : nxR F g (up F g k) ≠ k ∨ k = g := by
  by_cases e : k = g
  · exact .inr e
  · refine .inl fun q => ?_
    have f := up_far T (g := g) hg.1 hk
    have o := rd_ok T hk
    have og := rd_ok T hg.1
    have ic : In n (eBy F k (up F g k)) := by
      unfold eBy
      split
      · exact o.2.1
      · exact o.1
    obtain ⟨_, nd⟩ := tr_of T ic og.1
    rw [f] at nd
    have nm := (List.nodup_cons.mp nd).1
    generalize hl : tr F (up F g k) (rd F g).1 = l at *
    cases l with
    | nil =>
      rw [nxR_nil hl] at q
      exact e q.symm
    | cons k1 l =>
      rw [nxR_cons hl] at q
      exact nm (q ▸ List.mem_cons_self)
/-- what is left of the roads -/
noncomputable def lftR (F : List Fact) (g k : Nat) : Nat := if k = g then 0 else (tr F (up F g k) (rd F g).1).length + 1
theorem lftR_lt {k : Nat} (hk : k < F.length) (ne : k ≠ g) : lftR F g (nxR F g (up F g k)) < lftR F g k := by
  have hg1 := hg.1
  have o := rd_ok T hk
  have og := rd_ok T hg1
  have iu : In n (up F g k) := by
    rcases up_end T (g := g) hk with e | e
    · exact e ▸ o.1
    · exact e ▸ o.2.1
  unfold lftR
  rw [if_neg ne]
  generalize up F g k = cc at *
  by_cases e : nxR F g cc = g
  · rw [if_pos e]
    omega
  · rw [if_neg e]
    obtain ⟨w, nd⟩ := tr_of T iu og.1
    generalize hl : tr F cc (rd F g).1 = l at w nd
    cases w with
    | nil => exact absurd (nxR_nil hl) e
    | cons e1 j w' =>
      rw [nxR_cons hl] at e ⊢
      rename_i k1 r l1
      have k1l := (List.getElem?_eq_some_iff.mp e1).1
      have ke : (rd F k1).1 = cc ∨ (rd F k1).2.1 = cc := by
        rw [rd_of e1]
        rcases j with ⟨a, _⟩ | ⟨_, a⟩
        · exact .inl a
        · exact .inr a
      obtain ⟨u1, u2⟩ := up_of T hg1 k1l ke hl
      rw [u1, ← u2, List.length_cons]
      omega
end
end OT

set_option Elab.async false
set_option linter.all false
set_option maxRecDepth 100000
set_option maxHeartbeats 1000000
-- own words
namespace OT
/-- legs between whole places, one behind the other -/
def Chn (F : List Fact) (S : Int) : List Leg → Prop
  | [] => True
  | (k, s, e) :: L => (∃ s' e' : Int, s = s' * S ∧ e = e' * S) ∧ (On F S k s ∧ On F S k e) ∧ (L = [] ∨ node F S k e = node F S (posL L 0).1 (posL L 0).2) ∧ Chn F S L
theorem eAt_wh (F : List Fact) (S : Int) (k : Nat) (c : Int) : ∃ j, eAt F S k c = j * S := by
  unfold eAt
  split
  · exact ⟨0, by rw [Int.zero_mul]⟩
  · exact ⟨_, rfl⟩
section
variable {n : Int} {F : List Fact} {S : Int} {g : Nat} {p : Int} (T : TreeM n F) (hS : 1 ≤ S) (hg : On F S g p) (hp : ∃ p0, p = p0 * S)
include T hS hg hp
theorem legsC_chn : ∀ (l : List Nat) (c : Int), In n c → tr F c (rd F g).1 = l → Chn F S (legsC F S g p c l) := by
  have hr := (rd_ok T hg.1).1
  have last : ∀ c, Chn F S [(g, eAt F S g c, p)] := fun c => by
    obtain ⟨j, e⟩ := eAt_wh F S g c
    obtain ⟨p0, e0⟩ := hp
    exact ⟨⟨j, p0, e, e0⟩, ⟨eAt_on T hS hg.1 c, hg⟩, .inl rfl, trivial⟩
  intro l
  induction l with
  | nil =>
    intro c ic e
    exact last _
  | cons k l ih =>
    intro c ic e
    obtain ⟨w, nd⟩ := tr_of T ic hr
    rw [e] at w nd
    cases w with
    | @cons _ c' _ _ r _ ek j w =>
      have hk : k < F.length := (List.getElem?_eq_some_iff.mp ek).1
      rw [rd_get hk] at ek
      cases ek
      obtain ⟨_, _, _, ne⟩ := rd_ok T hk
      have hc : (rd F k).1 = c ∨ (rd F k).2.1 = c := by
        rcases j with ⟨a, _⟩ | ⟨_, a⟩
        · exact .inl a
        · exact .inr a
      by_cases h : k = g
      · subst h
        rw [legsC_g]
        have el : l = [] := by
          rcases hc with rfl | rfl
          · rw [tr_self T hr] at e
            cases e
          · rw [tr_root T hg.1] at e
            exact (List.cons.inj e).2.symm
        rw [el]
        exact last _
      · rw [legsC_k h]
        obtain ⟨eu, el⟩ := up_of T hg.1 hk hc e
        have ic' : In n (eBy F k c) := by
          have o := rd_ok T hk
          rcases jn_by hc with ⟨_, b⟩ | ⟨b, _⟩
          · exact b ▸ o.2.1
          · exact b ▸ o.1
        obtain ⟨_, st⟩ := legsC_ok T hS hg l (eBy F k c) ic' el.symm
        obtain ⟨j1, e1⟩ := eAt_wh F S k c
        obtain ⟨j2, e2⟩ := eAt_wh F S k (eBy F k c)
        refine ⟨⟨j1, j2, e1, e2⟩, ⟨eAt_on T hS hk c, eAt_on T hS hk _⟩, .inr ?_, ih (eBy F k c) ic' el.symm⟩
        rw [st]
        refine node_eAt T hS hk ?_
        rcases jn_by hc with ⟨_, b⟩ | ⟨b, _⟩
        · exact .inr b
        · exact .inl b
/-- the first leg of a way from a road, and the others -/
theorem legsP_chn {k : Nat} (hk : k < F.length) : ∃ (e0 : Int) (L : List Leg), On F S k (e0 * S) ∧ (∀ i, legsP F S g p k i = (k, i, e0 * S) :: L) ∧ ∀ j : Int, On F S k (j * S) → Chn F S ((k, j * S, e0 * S) :: L) := by
  unfold legsP
  by_cases e : k = g
  · subst e
    obtain ⟨p0, rfl⟩ := hp
    refine ⟨p0, [], hg, fun i => if_pos rfl, fun j h => ⟨⟨j, p0, rfl, rfl⟩, ⟨h, hg⟩, .inl rfl, trivial⟩⟩
  · have ic : In n (up F g k) := by
      have o := rd_ok T hk
      rcases up_end T hk (g := g) with b | b
      · exact b ▸ o.1
      · exact b ▸ o.2.1
    obtain ⟨ok, st⟩ := legsC_ok T hS hg _ (up F g k) ic rfl
    obtain ⟨e0, ee⟩ := eAt_wh F S k (up F g k)
    have oe : On F S k (e0 * S) := by rw [← ee]; exact eAt_on T hS hk _
    refine ⟨e0, _, oe, fun i => by rw [if_neg e, ← ee], fun j h => ⟨⟨j, e0, rfl, rfl⟩, ⟨h, oe⟩, .inr ?_, legsC_chn T hS hg hp _ _ ic rfl⟩⟩
    rw [st, ← ee]
    exact node_eAt T hS hk (up_end T hk)
end
theorem chn_total {F : List Fact} {S : Int} (hS : 1 ≤ S) : ∀ {L : List Leg}, Chn F S L → ∃ j, total L = j * S
  | [], _ => ⟨0, by rw [Int.zero_mul]; rfl⟩
  | (k, s, e) :: L, ⟨⟨s', e', h1, h2⟩, _, _, h⟩ => by
    obtain ⟨j, hj⟩ := chn_total hS h
    subst h1 h2
    refine ⟨dst s' e' + j, ?_⟩
    show dst (s' * S) (e' * S) + total L = _
    rw [dst_mul (by omega), hj, Int.add_mul]
theorem mulS_le {S a b : Int} (hS : 1 ≤ S) (h : a * S < b * S + S) : a ≤ b := by
  have e : b * S + S = (b + 1) * S := by rw [Int.add_mul, Int.one_mul]
  rw [e] at h
  have := Int.lt_of_mul_lt_mul_right h (by omega)
  omega
theorem mulS_mono {S a b : Int} (hS : 1 ≤ S) (h : a ≤ b) : a * S ≤ b * S := Int.mul_le_mul_of_nonneg_right h (by omega)
/-- each unit of a way lies on one road -/
theorem chn_seg {F : List Fact} {S : Int} (hS : 1 ≤ S) : ∀ {L : List Leg}, Chn F S L → ∀ m : Int, 0 ≤ m → m * S + S ≤ total L →
    ∃ (k : Nat) (j t : Int), (t = 1 ∨ t = -1) ∧ On F S k (j * S) ∧ On F S k (j * S + t * S) ∧ ∀ c, 0 ≤ c → c ≤ S → node F S (posL L (m * S + c)).1 (posL L (m * S + c)).2 = node F S k (j * S + t * c)
  | [], _, m, m0, h => by
    have h1 : 0 ≤ m * S := Int.mul_nonneg m0 (by omega)
    have h2 : total ([] : List Leg) = 0 := rfl
    omega
  | (k, s, e) :: L, ⟨⟨s', e', h1, h2⟩, ⟨os, oe⟩, jn, hc⟩, m, m0, h => by
    subst h1 h2
    have ht : total ((k, s' * S, e' * S) :: L) = dst (s' * S) (e' * S) + total L := rfl
    have hd : dst (s' * S) (e' * S) = dst s' e' * S := dst_mul (by omega) s' e'
    have mS : 0 ≤ m * S := Int.mul_nonneg m0 (by omega)
    by_cases q : m * S + S ≤ dst (s' * S) (e' * S)
    · by_cases lt : s' * S < e' * S
      · have dv : dst (s' * S) (e' * S) = e' * S - s' * S := by unfold dst; rw [if_neg (by omega)]
        refine ⟨k, s' + m, 1, .inl rfl, ?_, ?_, fun c c0 c1 => ?_⟩
        · rw [Int.add_mul]
          exact ⟨os.1, by have := os.2.1; omega, by have := oe.2.2; omega⟩
        · rw [Int.add_mul, Int.one_mul]
          exact ⟨os.1, by have := os.2.1; omega, by have := oe.2.2; omega⟩
        · rw [posL_le (by omega), if_pos lt, Int.add_mul, Int.one_mul]
          show node F S k (s' * S + (m * S + c)) = _
          rw [Int.add_assoc]
      · have dv : dst (s' * S) (e' * S) = s' * S - e' * S := by unfold dst; split <;> omega
        refine ⟨k, s' - m, -1, .inr rfl, ?_, ?_, fun c c0 c1 => ?_⟩
        · rw [Int.sub_mul]
          exact ⟨os.1, by have := oe.2.1; omega, by have := os.2.2; omega⟩
        · rw [Int.sub_mul, Int.neg_mul, Int.one_mul]
          exact ⟨os.1, by have := oe.2.1; omega, by have := os.2.2; omega⟩
        · rw [posL_le (by omega), if_neg lt, Int.sub_mul, Int.neg_mul, Int.one_mul]
          show node F S k (s' * S - (m * S + c)) = _
          congr 1
          omega
    · have dle : dst s' e' ≤ m := mulS_le hS (by rw [← hd]; omega)
      have dS : dst s' e' * S ≤ m * S := mulS_mono hS dle
      have e1 : (m - dst s' e') * S = m * S - dst s' e' * S := Int.sub_mul _ _ _
      obtain ⟨k2, j, t, ht2, o1, o2, all⟩ := chn_seg hS hc (m - dst s' e') (by omega) (by rw [e1]; omega)
      refine ⟨k2, j, t, ht2, o1, o2, fun c c0 c1 => ?_⟩
      rw [← all c c0 c1, e1]
      by_cases z : m * S + c ≤ dst (s' * S) (e' * S)
      · have c00 : c = 0 := by omega
        have em : m * S = dst s' e' * S := by omega
        subst c00
        rw [posL_le z, em, Int.sub_self, Int.add_zero, Int.add_zero]
        have ne : L ≠ [] := fun w => by
          subst w
          have : total ([] : List Leg) = 0 := rfl
          omega
        rw [← jn.resolve_left ne]
        show node F S k (if s' * S < e' * S then s' * S + dst s' e' * S else s' * S - dst s' e' * S) = _
        congr 1
        rw [← hd]
        unfold dst
        split <;> split <;> omega
      · rw [posL_gt z, hd]
        congr 2 <;> (congr 1; omega)
end OT

set_option Elab.async false
set_option linter.all false
set_option maxRecDepth 100000
set_option maxHeartbeats 1000000
-- own words
namespace OT
/-- y 0 to y S is a unit of a road, from a whole place to the next -/
def Seg (F : List Fact) (S : Int) (y : Int → Nd) : Prop := ∃ (k : Nat) (j t : Int), (t = 1 ∨ t = -1) ∧ On F S k (j * S) ∧ On F S k (j * S + t * S) ∧ ∀ c, 0 ≤ c → c ≤ S → y c = node F S k (j * S + t * c)
def Pnt (S : Int) (y : Int → Nd) : Prop := ∃ v, ∀ c, 0 ≤ c → c ≤ S → y c = v
theorem Seg.rev {F : List Fact} {S : Int} {y : Int → Nd} (h : Seg F S y) : Seg F S (fun c => y (S - c)) := by
  obtain ⟨k, j, t, ht, o1, o2, all⟩ := h
  have e0 : (j + t) * S = j * S + t * S := Int.add_mul _ _ _
  refine ⟨k, j + t, -t, ht.elim (fun z => .inr (by omega)) fun z => .inl (by omega), by rw [e0]; exact o2, ?_, fun c c0 c1 => ?_⟩
  · rw [e0, Int.neg_mul, Int.add_neg_cancel_right]
    exact o1
  · show y (S - c) = _
    rw [all (S - c) (by omega) (by omega), e0, Int.mul_sub, Int.neg_mul]
    congr 1
    omega
theorem seg_back {F : List Fact} {S : Int} {y : Int → Nd} (h : Seg F S (fun c => y (S - c)) ∨ Pnt S (fun c => y (S - c))) : Seg F S y ∨ Pnt S y := by
  rcases h with h | ⟨v, h⟩
  · obtain ⟨k, j, t, ht, o1, o2, all⟩ := h.rev
    refine .inl ⟨k, j, t, ht, o1, o2, fun c c0 c1 => ?_⟩
    rw [← all c c0 c1]
    show y c = y (S - (S - c))
    congr 1
    omega
  · refine .inr ⟨v, fun c c0 c1 => ?_⟩
    rw [← h (S - c) (by omega) (by omega)]
    show y c = y (S - (S - c))
    congr 1
    omega
section
variable {n : Int} {F : List Fact} {S : Int} {g : Nat} {p : Int} (T : TreeM n F) (hS : 1 ≤ S) (hg : On F S g p) (hp : ∃ p0, p = p0 * S)
include T hS hg hp
/-- a unit that leads towards the goal -/
theorem seg_to {k : Nat} {j : Int} (o : On F S k (j * S)) {y y' : Int → Nd} {m : Int} (m0 : 0 ≤ m) (to : ∀ c, 0 ≤ c → c ≤ S → y c = pth F S g p k (j * S) c) (far : S ≤ hP F S g p k (j * S)) (go : ∀ c, 0 ≤ c → c ≤ S → Go F S g p (m * S) (y c) (y' c)) : Seg F S y' ∨ Pnt S y' := by
  obtain ⟨e0, L, oe, hl, hc⟩ := legsP_chn T hS hg hp o.1
  have hch := hc j o
  rw [← hl] at hch
  obtain ⟨h', eh⟩ := chn_total hS hch
  have eh : hP F S g p k (j * S) = h' * S := eh
  have mS : 0 ≤ m * S := Int.mul_nonneg m0 (by omega)
  have im : ∀ c, 0 ≤ c → c ≤ S → y' c = pth F S g p k (j * S) (c + if hP F S g p k (j * S) - c < m * S then hP F S g p k (j * S) - c else m * S) := fun c c0 c1 => by
    obtain ⟨k1, i1, o1, e1, e2⟩ := go c c0 c1
    obtain ⟨h1, h2⟩ := pth_on T hS hg o o1 c0 (by omega) ((to c c0 c1).symm.trans e1)
    rw [e2, h1]
    have q0 : 0 ≤ (if hP F S g p k (j * S) - c < m * S then hP F S g p k (j * S) - c else m * S) := by split <;> omega
    have q := h2 (if hP F S g p k (j * S) - c < m * S then hP F S g p k (j * S) - c else m * S).toNat (by rw [Int.toNat_of_nonneg q0]; split <;> omega)
    rw [Int.toNat_of_nonneg q0] at q
    exact q.symm
  by_cases q : m * S + S ≤ hP F S g p k (j * S)
  · obtain ⟨k2, j2, t, ht, o1, o2, all⟩ := chn_seg hS hch m m0 q
    refine .inl ⟨k2, j2, t, ht, o1, o2, fun c c0 c1 => ?_⟩
    rw [im c c0 c1, ← all c c0 c1]
    have e : (if hP F S g p k (j * S) - c < m * S then hP F S g p k (j * S) - c else m * S) = m * S := by split <;> omega
    rw [e, Int.add_comm]
    rfl
  · have hm : hP F S g p k (j * S) ≤ m * S := by
      rw [eh] at q ⊢
      exact mulS_mono hS (mulS_le hS (by omega))
    refine .inr ⟨pth F S g p k (j * S) (hP F S g p k (j * S)), fun c c0 c1 => ?_⟩
    rw [im c c0 c1]
    congr 1
    split <;> omega
/-- a march keeps a unit a unit, or draws it together -/
theorem Seg.go {y y' : Int → Nd} {m : Int} (m0 : 0 ≤ m) (h : Seg F S y) (go : ∀ c, 0 ≤ c → c ≤ S → Go F S g p (m * S) (y c) (y' c)) : Seg F S y' ∨ Pnt S y' := by
  -- towards the end e of the road that the way leaves by
  have one : ∀ {y y' : Int → Nd} {k : Nat} {j t e0 : Int} {L : List Leg}, (t = 1 ∨ t = -1) → On F S k (j * S) → On F S k (j * S + t * S) → (∀ c, 0 ≤ c → c ≤ S → y c = node F S k (j * S + t * c)) → (∀ i, legsP F S g p k i = (k, i, e0 * S) :: L) → ((t = 1 ∧ j + 1 ≤ e0) ∨ (t = -1 ∧ e0 + 1 ≤ j)) →
      (∀ c, 0 ≤ c → c ≤ S → Go F S g p (m * S) (y c) (y' c)) → Seg F S y' ∨ Pnt S y' := fun {y y' k j t e0 L} ht o1 o2 all hl dir go => by
    have hh : hP F S g p k (j * S) = dst (j * S) (e0 * S) + total L := by
      unfold hP
      rw [hl]
      rfl
    have tn := total_nn L
    have dS : S ≤ dst (j * S) (e0 * S) := by
      rcases dir with ⟨_, d⟩ | ⟨_, d⟩
      · have := mulS_mono hS d
        rw [Int.add_mul, Int.one_mul] at this
        unfold dst
        split <;> omega
      · have := mulS_mono hS d
        rw [Int.add_mul, Int.one_mul] at this
        unfold dst
        split <;> omega
    refine seg_to T hS hg hp o1 m0 (fun c c0 c1 => ?_) (by omega) go
    rw [all c c0 c1]
    unfold pth
    rw [hl, posL_le (by omega)]
    rcases dir with ⟨rfl, d⟩ | ⟨rfl, d⟩
    · have := mulS_mono hS d
      rw [Int.add_mul, Int.one_mul] at this
      rw [if_pos (by omega), Int.one_mul]
    · have := mulS_mono hS d
      rw [Int.add_mul, Int.one_mul] at this
      rw [if_neg (by omega), Int.neg_mul, Int.one_mul]
      rfl
  obtain ⟨k, j, t, ht, o1, o2, all⟩ := id h
  obtain ⟨e0, L, oe, hl, hc⟩ := legsP_chn T hS hg hp o1.1
  by_cases d : (t = 1 ∧ j + 1 ≤ e0) ∨ (t = -1 ∧ e0 + 1 ≤ j)
  · exact one ht o1 o2 all hl d go
  · have e1 : (j + t) * S = j * S + t * S := Int.add_mul _ _ _
    refine seg_back (one (y := fun c => y (S - c)) (y' := fun c => y' (S - c)) (k := k) (j := j + t) (t := -t) (e0 := e0) (L := L) (ht.elim (fun z => .inr (by omega)) fun z => .inl (by omega)) (by rw [e1]; exact o2) ?_ (fun c c0 c1 => ?_) hl ?_ fun c c0 c1 => go (S - c) (by omega) (by omega))
    · rw [e1, Int.neg_mul, Int.add_neg_cancel_right]
      exact o1
    · show y (S - c) = _
      rw [all (S - c) (by omega) (by omega), e1, Int.mul_sub, Int.neg_mul]
      congr 1
      omega
    · rcases ht with rfl | rfl
      · exact .inr ⟨rfl, by omega⟩
      · exact .inl ⟨rfl, by omega⟩
end
/-- a row keeps a unit a unit, or draws it together -/
theorem Seg.row {n : Int} {F : List Fact} {S : Int} (T : TreeM n F) (hS : 1 ≤ S) : ∀ {l : List MG}, (∀ x ∈ l, MgOk F x) → ∀ {y y' : Int → Nd}, Seg F S y ∨ Pnt S y → (∀ c, 0 ≤ c → c ≤ S → GoL F S l (y c) (y' c)) → Seg F S y' ∨ Pnt S y'
  | [], _, y, y', h, go => by
    have e : ∀ c, 0 ≤ c → c ≤ S → y c = y' c := fun c c0 c1 => go c c0 c1
    rcases h with ⟨k, j, t, ht, o1, o2, all⟩ | ⟨v, all⟩
    · exact .inl ⟨k, j, t, ht, o1, o2, fun c c0 c1 => by rw [← e c c0 c1]; exact all c c0 c1⟩
    · exact .inr ⟨v, fun c c0 c1 => by rw [← e c c0 c1]; exact all c c0 c1⟩
  | x :: l, ok, y, y', h, go => by
    have okx := ok x List.mem_cons_self
    have okl : ∀ x ∈ l, MgOk F x := fun x hx => ok x (List.mem_cons_of_mem _ hx)
    have ex : ∀ c, ∃ v, 0 ≤ c → c ≤ S → GoX F S x (y c) v ∧ GoL F S l v (y' c) := fun c => by
      by_cases h0 : 0 ≤ c ∧ c ≤ S
      · obtain ⟨v, a, b⟩ := go c h0.1 h0.2
        exact ⟨v, fun _ _ => ⟨a, b⟩⟩
      · exact ⟨y c, fun a b => absurd ⟨a, b⟩ h0⟩
    obtain ⟨y1, hy1⟩ := Classical.skolem.mp ex
    refine Seg.row T hS okl (y := y1) (y' := y') ?_ fun c c0 c1 => (hy1 c c0 c1).2
    rcases h with h | ⟨v, all⟩
    · exact h.go T hS (okx.on hS) ⟨_, rfl⟩ (m := x.2.2) (by have := okx.s1; omega) fun c c0 c1 => (hy1 c c0 c1).1
    · refine .inr ⟨y1 0, fun c c0 c1 => ?_⟩
      have a := (hy1 c c0 c1).1
      have b := (hy1 0 (Int.le_refl _) (by omega)).1
      rw [all c c0 c1] at a
      rw [all 0 (Int.le_refl _) (by omega)] at b
      exact Go.uniq T hS (okx.on hS) (okx.m0 hS) a b
end OT

set_option Elab.async false
set_option linter.all false
set_option maxRecDepth 100000
set_option maxHeartbeats 4000000
namespace OT
open PySem L2 OTR
abbrev sDist : Stmt := top 27
section
variable {P : Program} {w : World} {K : PySem.W.Frag} {mg : Str → Option Value} {base : Heap}
abbrev nDist : List Str := ["tree", "one", "other", "parts", "top", "shared", "number", "start", "end"]
theorem scDist : FnScope nDist ["tree", "one", "other"] (defScope sDist) := ⟨rfl, rfl, rfl, by decide +kernel, rfl, by decide +kernel, by decide +kernel⟩
theorem ok_dist {f CT CR CP CNR COR fC fL : Addr} {fd fdC fdL : FuncData} (F : Fun K "distance" "distance" sDist f fd) (TP : PlT K mg CP)
    (FC : FnOk P w K mg base (L2.CX P w) 3 fC fdC ["tree", "place"] (spCheckPl K CT CR CP CNR COR)) (bC : Binds K fdC ["tree", "place"] []) (mC : mg "check_place" = some (.ref fC)) (kC : PySem.W.keepIn K (.ref fC) = true)
    (FL : FnOk P w K mg base CX0 2 fL fdL ["tree", "one", "other", "parts"] (spLegs K CT CR CP)) (bL : Binds K fdL ["tree", "one", "other", "parts"] []) (mL : mg "legs" = some (.ref fL)) (kL : PySem.W.keepIn K (.ref fL) = true)
    (hLcm : mg "lcm" = some (.builtin "math.lcm")) (hGcd : mg "gcd" = some (.builtin "math.gcd")) (hSum : mg "sum" = none) (hAbs : mg "abs" = none) :
    FnOk P w K mg base (L2.CX P w) 4 f fd ["tree", "one", "other"] (spDist K CT CR CP CNR COR) := by
  refine F.okX scDist (fun vs H Q E h => ?_) (fun cdv A outer s H vs Q E hr h => ?_)
  · obtain ⟨a, p1, p2, n, ps, F, r1, r2, rfl, _⟩ := h
    rfl
  · obtain ⟨a, p1, p2, n, ps, F, r1, r2, rfl, TA, PA1, PA2, G, sm1, sm2, s60, x1, x2, k⟩ := h
    have hr2 : Room 2 _ := hr.mono (by decide)
    refine ⟨_, pss_cons (ps_expr (pe_call FC hr rfl mC kC bC .nil (passes_call (takes_of rfl rfl rfl rfl) fun _ _ _ _ h => h) (pa_cons (pv 0) (pa_cons (pv 1) pa_nil))))
      (pss_cons (ps_expr (pe_call FC hr rfl mC kC bC .nil (passes_call (takes_of rfl rfl rfl rfl) fun _ _ _ _ h => h) (pa_cons (pv 0) (pa_cons (pv 2) pa_nil))))
      (pss_cons (ps_set (i := 3) scDist.nd rfl (Or.inl rfl) (pe_callBfun cr_lcm (by rfl) hLcm (pa_cons (pe_fld (pv 1) rfl) (pa_cons (pe_fld (pv 2) rfl) pa_nil))))
      (pss_cons (ps_set (i := 4) scDist.nd rfl (Or.inl rfl) (pe_callB (cr_sum rfl) (by rfl) hSum (by decide +kernel) (pa_cons
          (pe_lc (own := [("number", 6), ("start", 7), ("end", 8)]) (g := gTup K 3 (gCons (gName 6) (gCons (gName 7) (gCons (gName 8) gNil)))) (tt := tYes) rfl scDist.nd (pi_list (pe_call FL hr2 rfl mL kL bL .nil pass0 (pa_cons (pv 0) (pa_cons (pv 1) (pa_cons (pv 2) (pa_cons (pv 3) pa_nil))))))
            (blkOk_by (own := [("number", 6), ("start", 7), ("end", 8)]) (N := nDist) (sc := defScope sDist) (by decide +kernel))
            (fun _ _ _ _ _ => pg_tup rfl (pgs_cons (pg_name (i := 6) scDist.nd rfl (Or.inl rfl)) (pgs_cons (pg_name (i := 7) scDist.nd rfl (Or.inl rfl)) (pgs_cons (pg_name (i := 8) scDist.nd rfl (Or.inl rfl)) pgs_nil)))) (fun _ _ _ _ _ => pts_nil)
            (fun _ _ _ _ _ => pe_callB call_abs (by rfl) hAbs (by decide +kernel) (pa_cons (pe_op op_sub (pv 8) (pv 7)) pa_nil))) pa_nil)))
      (pss_cons (ps_set (i := 5) scDist.nd rfl (Or.inl rfl) (pe_callBfun cr_gcd (by rfl) hGcd (pa_cons (pv 4) (pa_cons (pv 3) pa_nil))))
      (pss_one (ps_ret (pe_tup (pa_cons (pe_op op_fdivW (pv 4) (pv 5)) (pa_cons (pe_op op_fdivW (pv 3) (pv 5)) pa_nil))))))))), ?_⟩
    refine ⟨_, rfl, _, rfl, a, p1, n, ps, F, r1, rfl, TA, PA1, G, sm1, x1.1, x1.2, fun on1 => ?_⟩
    refine ⟨_, rfl, _, rfl, a, p2, n, ps, F, r2, rfl, TA, PA2, G, sm2, (x2 on1).1, (x2 on1).2, fun on2 => ?_⟩
    obtain ⟨dp1, ep1⟩ := id PA1
    obtain ⟨dp2, ep2⟩ := id PA2
    obtain ⟨sm11, sm12⟩ := sm1
    obtain ⟨sm21, sm22⟩ := sm2
    obtain ⟨c1, c2, eS1, eS2, c10, c20, le, dv1, dv2⟩ := lcm_of sm11 sm21
    have k' := k on1 on2
    refine ⟨_, rfl, p1, CP, dp1, _, _, rfl, ep1, TP.cl, TP.nP, plF_p r1, _, rfl, p2, CP, dp2, _, _, rfl, ep2, TP.cl, TP.nP, plF_p r2, _, _, rfl, by omega, by omega, ?_⟩
    have S1 : 1 ≤ lcmI r1.2.2 r2.2.2 := by
      rw [eS1]
      have := Int.mul_le_mul sm11 (show 1 ≤ c1 by omega) (by omega) (by omega)
      omega
    have S60 : lcmI r1.2.2 r2.2.2 < 2 ^ 60 := by omega
    show tSeq _ _ _ (List.set _ 3 (some (V.int (lcmI r1.2.2 r2.2.2)))) H
    unfold hRR at k'
    rw [dv1, dv2] at k'
    generalize lcmI r1.2.2 r2.2.2 = S at *
    -- top = sum([abs(end - start) for number, start, end in legs(..)])
    refine ⟨_, rfl, _, rfl, _, rfl, _, rfl, a, p1, p2, n, ps, F, r1, r2, S, c1, c2, rfl, TA, PA1, PA2, G, ⟨sm11, sm12⟩, ⟨sm21, sm22⟩, on1, on2, eS1, eS2, c10, c20, S60, fun L H1 s1 hL fa ll => ?_⟩
    generalize hl : legsP F S r2.1.toNat (r2.2.1 * c2) r1.1.toNat (r1.2.1 * c1) = legs at fa ll
    have hT : hP F S r2.1.toNat (r2.2.1 * c2) r1.1.toNat (r1.2.1 * c1) = total legs := by unfold hP; rw [hl]
    rw [hT] at k'
    obtain ⟨ts, eL, pts⟩ := fa
    have el : (ts.map V.ref).length = legs.length := by rw [List.length_map, Paired.length pts, List.length_map]
    refine ⟨L, rfl, ⟨_, SqL.of eL⟩, fun D hD => lc_list (K := K) (a := L) (xs := ts.map V.ref) (fun i Gc => Gc D = some (.lst (((legs.take i).map fun l => dst l.2.1 l.2.2).map V.int)) ∧ Same H1 Gc)
      ⟨upd_same, Same.new hD⟩ (fun i Gc _ ⟨_, sc⟩ => SqL.of (sc _ _ eL)) ?_ ?_⟩
    · rintro i y Gc hi ⟨eD, sc⟩
      obtain ⟨t, ht, rfl⟩ := map_get hi
      obtain ⟨r, hr', tr⟩ := paired_get pts ht
      obtain ⟨l, hl', rfl⟩ := map_get hr'
      refine ⟨t, _, rfl, SqT.of (sc _ _ tr), rfl, _, _, rfl, _, _, rfl, _, _, rfl, rfl, rfl, ?_⟩
      unfold tYes
      refine iteT ⟨_, rfl, _, rfl, _, _, rfl, rfl, _, rfl, _, eD, small1000 (by rw [List.length_map, List.length_map, List.length_take]; omega), ?_, fun b o e => ?_⟩
      · rw [take_get hl', List.map_append, List.map_append]
        exact upd_same
      · rw [upd_ne (ne_of_none e hD)]
        exact sc b o e
    · rintro H2 ⟨eD, s2⟩
      rw [el, List.take_length] at eD
      refine ⟨D, _, rfl, SqL.of eD, ?_⟩
      rw [← total_sum]
      -- shared = gcd(top, parts)
      refine ⟨_, rfl, _, rfl, _, _, rfl, ?_⟩
      have g0 := gcd_pos (a := total legs) S1
      have gl := gcd_log (a := total legs) S1 (lg60 S1 S60)
      refine ⟨_, rfl, _, rfl, _, _, rfl, rfl, ⟨g0, gl⟩, _, rfl, _, rfl, _, _, rfl, rfl, ⟨g0, gl⟩, (by show 2 ≤ sizeLine; decide), fun t ht => ?_⟩
      exact k' t _ ((s1.trans s2).trans (Same.new ht)) upd_same
end
end OT

set_option Elab.async false
set_option linter.all false
set_option maxRecDepth 100000
set_option maxHeartbeats 4000000
-- own words
namespace OT
open PySem L2 OTR
abbrev sStretchI : Stmt := inClass (top 42) 0
/-- what the walk asks of Stretch -/
structure StT (K : PySem.W.Frag) (mg : Str → Option Value) (C : Addr) : Prop where
  cl : Cls K C
  nR : NoAttr K C "road"
  nL : NoAttr K C "least"
  nG : NoAttr K C "greatest"
  nF : NoAttr K C "first"
  nA : NoAttr K C "last"
  mgC : mg "Stretch" = some (.ref C)
/-- a stretch's facts: road, least, greatest, and where its first and its last are -/
abbrev SFact := Int × Int × Int × Addr × Addr
def stF (x : SFact) : List (Str × V) := putF "last" (.ref x.2.2.2.2) (putF "first" (.ref x.2.2.2.1) (putF "greatest" (.int x.2.2.1) (putF "least" (.int x.2.1) (putF "road" (.int x.1) []))))
theorem stF_r (x : SFact) : (stF x).lookup ("road" : Str) = some (.int x.1) := by
  unfold stF
  rw [lookup_putF, lookup_putF, lookup_putF, lookup_putF, lookup_putF]
  rw [if_neg (by decide +kernel), if_neg (by decide +kernel), if_neg (by decide +kernel), if_neg (by decide +kernel), if_pos rfl]
theorem stF_l (x : SFact) : (stF x).lookup ("least" : Str) = some (.int x.2.1) := by
  unfold stF
  rw [lookup_putF, lookup_putF, lookup_putF, lookup_putF]
  rw [if_neg (by decide +kernel), if_neg (by decide +kernel), if_neg (by decide +kernel), if_pos rfl]
theorem stF_g (x : SFact) : (stF x).lookup ("greatest" : Str) = some (.int x.2.2.1) := by
  unfold stF
  rw [lookup_putF, lookup_putF, lookup_putF]
  rw [if_neg (by decide +kernel), if_neg (by decide +kernel), if_pos rfl]
theorem stF_f (x : SFact) : (stF x).lookup ("first" : Str) = some (.ref x.2.2.2.1) := by
  unfold stF
  rw [lookup_putF, lookup_putF]
  rw [if_neg (by decide +kernel), if_pos rfl]
theorem stF_a (x : SFact) : (stF x).lookup ("last" : Str) = some (.ref x.2.2.2.2) := by
  unfold stF
  rw [lookup_putF, if_pos rfl]
def StAt (C : Addr) (H : Hp) (p : Addr) (x : SFact) : Prop := ∃ dx, H p = some (.ins C dx (stF x))
theorem StAt.kp {C : Addr} {H H' : Hp} {p : Addr} {x : SFact} (h : StAt C H p x) (k : Kp H H') : StAt C H' p x := let ⟨dx, e⟩ := h; ⟨dx, k _ _ e fun _ z => nomatch z⟩
theorem StAt.same {C : Addr} {H H' : Hp} {p : Addr} {x : SFact} (h : StAt C H p x) (k : Same H H') : StAt C H' p x := h.kp (.of k)
def spStretchI (C : Addr) : Sp := fun vs H Q _ => ∃ (p dx : Addr) (x : SFact), vs = [.ref p, .int x.1, .int x.2.1, .int x.2.2.1, .ref x.2.2.2.1, .ref x.2.2.2.2] ∧ H p = some (.ins C dx []) ∧ ∀ H', StAt C H' p x → (∀ b o, H b = some o → b ≠ p → H' b = some o) → Q .non H'
section
variable {P : Program} {w : World} {K : PySem.W.Frag} {mg : Str → Option Value} {base : Heap}
abbrev nStretchI : List Str := ["self", "road", "least", "greatest", "first", "last"]
theorem scStretchI : FnScope nStretchI ["self", "road", "least", "greatest", "first", "last"] (defScope sStretchI) := ⟨rfl, rfl, rfl, by decide +kernel, rfl, by decide +kernel, by decide +kernel⟩
theorem ok_stretchI {f C : Addr} {fd : FuncData} (F : Fun K "__init__" "Stretch.__init__" sStretchI f fd) (T : StT K mg C) : FnOk P w K mg base CX0 1 f fd ["self", "road", "least", "greatest", "first", "last"] (spStretchI C) := by
  refine F.ok scStretchI (fun vs H Q E h => ?_) (fun cdv A outer s H vs Q E hr h => ?_)
  · obtain ⟨p, dx, x, rfl, _⟩ := h
    rfl
  · obtain ⟨p, dx, x, rfl, hp, k⟩ := h
    refine ⟨_, pss_cons (ps_fld (pv 0) (pv 1) rfl) (pss_cons (ps_fld (pv 0) (pv 2) rfl) (pss_cons (ps_fld (pv 0) (pv 3) rfl) (pss_cons (ps_fld (pv 0) (pv 4) rfl) (pss_one (ps_fld (pv 0) (pv 5) rfl))))), ?_⟩
    have l0 : ([] : List (Str × V)).length < 1000 := by decide
    have lp : ∀ (s : Str) (v : V) (fs : List (Str × V)), (putF s v fs).length ≤ fs.length + 1 := fun s v fs => by
      induction fs with
      | nil => exact Nat.le_refl _
      | cons a fs ih =>
        show (if a.1 = s then (a.1, v) :: fs else a :: putF s v fs).length ≤ _
        split
        · exact Nat.le_succ _
        · exact Nat.succ_le_succ ih
    refine ⟨_, rfl, _, rfl, p, C, dx, [], rfl, hp, T.cl, T.nR, l0, ?_⟩
    refine ⟨_, rfl, _, rfl, p, C, dx, _, rfl, upd_same, T.cl, T.nL, Nat.lt_of_le_of_lt (lp _ _ _) (by decide), ?_⟩
    refine ⟨_, rfl, _, rfl, p, C, dx, _, rfl, upd_same, T.cl, T.nG, Nat.lt_of_le_of_lt (lp _ _ _) (Nat.lt_of_le_of_lt (Nat.succ_le_succ (lp _ _ _)) (by decide)), ?_⟩
    refine ⟨_, rfl, _, rfl, p, C, dx, _, rfl, upd_same, T.cl, T.nF, Nat.lt_of_le_of_lt (lp _ _ _) (Nat.lt_of_le_of_lt (Nat.succ_le_succ (Nat.le_trans (lp _ _ _) (Nat.succ_le_succ (lp _ _ _)))) (by decide)), ?_⟩
    refine ⟨_, rfl, _, rfl, p, C, dx, _, rfl, upd_same, T.cl, T.nA, Nat.lt_of_le_of_lt (lp _ _ _) (Nat.lt_of_le_of_lt (Nat.succ_le_succ (Nat.le_trans (lp _ _ _) (Nat.succ_le_succ (Nat.le_trans (lp _ _ _) (Nat.succ_le_succ (lp _ _ _)))))) (by decide)), ?_⟩
    refine k _ ⟨dx, upd_same⟩ fun b o e n => ?_
    rw [upd_ne n, upd_ne n, upd_ne n, upd_ne n, upd_ne n]
    exact e
end
end OT

set_option Elab.async false
set_option linter.all false
set_option maxRecDepth 100000
set_option maxHeartbeats 4000000
-- own words
namespace OT
open PySem L2 OTR
abbrev sGathered : Stmt := top 47
abbrev sStepsB : Stmt := top 28
theorem tn {σ : List (Option V)} {H : Hp} {Q : List V → Hp → Prop} (h : Q [] H) : tNil σ H Q := h
/-- the distance of two keys of whole places -/
theorem dist_1 {K : PySem.W.Frag} {CT CR CP CNR COR : Addr} {x p1 p2 : Addr} {n : Int} {ps : List Addr} {F : List Fact} {r1 r2 : Fact} {k g : Nat} {i p : Int} {G : Hp} {Q : VK} {E : XK} (te : TreeAt K CT CR G x n ps F) (TG : TreeG n F) (a1 : PlaceAt CP G p1 r1) (a2 : PlaceAt CP G p2 r2) (e1 : PlE F 1 r1 k i) (e2 : PlE F 1 r2 g p)
    (fin : ∀ t G', Same G G' → G' t = some (.tup [.int (hP F 1 g p k i), .int 1]) → Q (.ref t) G') : spDist K CT CR CP CNR COR [.ref x, .ref p1, .ref p2] G Q E := by
  have l1 := e1.le
  have l2 := e2.le
  have q1 := e1.p1
  have q2 := e2.p1
  refine ⟨x, p1, p2, n, ps, F, r1, r2, rfl, te, a1, a2, TG, ⟨q1, by omega⟩, ⟨q2, by omega⟩, ?_, PlErr.none e1.pl, fun _ => PlErr.none e2.pl, fun _ _ t G' s h => fin t G' s ?_⟩
  · have := Int.mul_le_mul l1 l2 (by omega) (by omega)
    omega
  · rw [dist_eq e1 e2 (by decide), low_one] at h
    exact h
/-- one step of the program's from a whole place towards a march's goal -/
theorem step_1 {K : PySem.W.Frag} {CT CR CP CB CNR COR : Addr} {x p1 p2 : Addr} {n m : Int} {ps : List Addr} {F : List Fact} {r1 r2 : Fact} {k g : Nat} {i p : Int} {G : Hp} {Q : VK} {E : XK} (te : TreeAt K CT CR G x n ps F) (TG : TreeG n F) (a1 : PlaceAt CP G p1 r1) (a2 : PlaceAt CP G p2 r2) (e1 : PlE F 1 r1 k i) (e2 : PlE F 1 r2 g p) (m0 : 0 ≤ m)
    (fin : ∀ t G' v, Same G G' → Go F 1 g p m (node F 1 k i) v → PlaceAt CP G' t (keyF F 1 v) → Q (.ref t) G') : spStep K CT CR CP CB CNR COR [.ref x, .ref p1, .ref p2, .int m] G Q E := by
  have l1 := e1.le
  have l2 := e2.le
  have q1 := e1.p1
  have q2 := e2.p1
  refine ⟨x, p1, p2, n, ps, F, r1, r2, m, rfl, te, a1, a2, TG, ⟨q1, by omega⟩, ⟨q2, by omega⟩, e2.lo, ?_, PlErr.none e1.pl, fun _ => PlErr.none e2.pl, fun _ _ z => absurd z (by omega), fun _ _ _ t G' s h => ?_⟩
  · have := Int.mul_le_mul l1 l2 (by omega) (by omega)
    omega
  · rw [step_eq TG.m e1 e2 (by decide), Int.mul_one] at h
    exact fin t G' _ s ⟨k, i, e1.on, rfl, rfl⟩ h
def spGath (CS CP : Addr) : Sp := fun vs H Q _ => ∃ (p : Addr) (x : SFact) (r1 r2 : Fact), vs = [.ref p] ∧ StAt CS H p x ∧ PlaceAt CP H x.2.2.2.1 r1 ∧ PlaceAt CP H x.2.2.2.2 r2 ∧ Q (.bl (decide (r1 = r2))) H
def spStepsB (K : PySem.W.Frag) (CT CR CP : Addr) : Sp := fun vs H Q _ => ∃ (x p1 p2 : Addr) (n : Int) (ps : List Addr) (F : List Fact) (r1 r2 : Fact) (k g : Nat) (i p : Int), vs = [.ref x, .ref p1, .ref p2] ∧ TreeAt K CT CR H x n ps F ∧ TreeG n F ∧ PlaceAt CP H p1 r1 ∧ PlaceAt CP H p2 r2 ∧ PlE F 1 r1 k i ∧ PlE F 1 r2 g p ∧
  ∀ H', Same H H' → Q (.int (hP F 1 g p k i)) H'
section
variable {P : Program} {w : World} {K : PySem.W.Frag} {mg : Str → Option Value} {base : Heap}
abbrev nGathered : List Str := ["stretch"]
theorem scGathered : FnScope nGathered ["stretch"] (defScope sGathered) := ⟨rfl, rfl, rfl, by decide +kernel, rfl, by decide +kernel, by decide +kernel⟩
theorem ok_gathered {f CS CP fPE : Addr} {fd fdPE : FuncData} (F : Fun K "is_gathered" "is_gathered" sGathered f fd) (TS : StT K mg CS)
    (cP : QC K CP fPE) (FPE : FnOk P w K mg base CX0 1 fPE fdPE ["self", "other"] (spPlaceE CP)) (bPE : Binds K fdPE ["self", "other"] []) : FnOk P w K mg base CX0 2 f fd ["stretch"] (spGath CS CP) := by
  refine F.ok scGathered (fun vs H Q E h => ?_) (fun cdv A outer s H vs Q E hr h => ?_)
  · obtain ⟨p, x, r1, r2, rfl, _⟩ := h
    rfl
  · obtain ⟨p, x, r1, r2, rfl, ⟨dx, ex⟩, P1, P2, k⟩ := h
    refine ⟨_, pss_one (ps_ret (pe_cmpR (op_eqB (rcB_own FPE cP.eq cP.fn bPE) hr) (pe_fld (pv 0) rfl) (pe_fld (pv 0) rfl) (nomark _))), ?_⟩
    obtain ⟨da, ea⟩ := id P1
    obtain ⟨db, eb⟩ := id P2
    refine ⟨_, rfl, p, CS, dx, _, _, rfl, ex, TS.cl, TS.nF, stF_f x, _, rfl, p, CS, dx, _, _, rfl, ex, TS.cl, TS.nA, stF_a x, ?_⟩
    exact ⟨_, da, plF _, _, rfl, ea, .ins eb, nf_same, _, da, _, _, rfl, ea, .inl ⟨_, db, _, rfl, eb, _, rfl, k⟩⟩
abbrev nStepsB : List Str := ["tree", "one", "other"]
theorem scStepsB : FnScope nStepsB ["tree", "one", "other"] (defScope sStepsB) := ⟨rfl, rfl, rfl, by decide +kernel, rfl, by decide +kernel, by decide +kernel⟩
theorem ok_stepsB {f fDI CT CR CP CNR COR : Addr} {fd fdDI : FuncData} (F : Fun K "steps_between" "steps_between" sStepsB f fd)
    (FDI : FnOk P w K mg base (L2.CX P w) 4 fDI fdDI ["tree", "one", "other"] (spDist K CT CR CP CNR COR)) (bDI : Binds K fdDI ["tree", "one", "other"] []) (mDI : mg "distance" = some (.ref fDI)) (kDI : PySem.W.keepIn K (.ref fDI) = true) : FnOk P w K mg base CX0 5 f fd ["tree", "one", "other"] (spStepsB K CT CR CP) := by
  refine F.ok scStepsB (fun vs H Q E h => ?_) (fun cdv A outer s H vs Q E hr h => ?_)
  · obtain ⟨x, p1, p2, n, ps, fs, r1, r2, k, g, i, p, rfl, _⟩ := h
    rfl
  · obtain ⟨x, p1, p2, n, ps, fs, r1, r2, k, g, i, p, rfl, TA, TG, P1, P2, e1, e2, kont⟩ := h
    refine ⟨_, pss_one (ps_ret (pe_ix ix_tup (pe_call FDI hr rfl mDI kDI bDI .nil passF (pa_cons (pv 0) (pa_cons (pv 1) (pa_cons (pv 2) pa_nil)))) pe_int (fun _ _ => rfl))), ?_⟩
    refine ⟨_, rfl, _, rfl, _, rfl, tn ?_⟩
    show spDist K CT CR CP CNR COR [V.ref x, V.ref p1, V.ref p2] H _ _
    refine dist_1 TA TG P1 P2 e1 e2 fun t G' s ht => ?_
    exact ⟨t, _, 0, _, rfl, rfl, SqT.of ht, rfl, kont G' s⟩
end
end OT

set_option linter.all false
set_option maxRecDepth 100000
namespace OT
open PySem L2 OTR
theorem FactsAt.but {H H' : Hp} {s q : Addr} {F : List Fact} (h : FactsAt H q F) (src : Src H s) (b : But s H H') : FactsAt H' q F := by
  obtain ⟨ts, hq, hts⟩ := h
  refine ⟨ts, b _ _ hq (src.ne hq fun x y z e => ?_), tups_but hts src b⟩
  have e1 := HO.lst.inj e
  cases ts with
  | nil => exact nomatch e1
  | cons t r =>
    rw [List.map_cons] at e1
    exact nomatch (List.cons.inj e1).1
/-- a key in whole steps, as a place -/
theorem key_ple1 {n : Int} {F : List Fact} (T : TreeM n F) (n2 : 2 ≤ n) {u : Nd} (ou : OnT F 1 u) : ∃ kk ii, ((keyF F 1 u).1 = ((kk : Nat) : Int) ∧ On F 1 kk (keyF F 1 u).2.1) ∧ node F 1 kk (keyF F 1 u).2.1 = u ∧ ii = (keyF F 1 u).2.1 := by
  obtain ⟨k, i, o, rfl⟩ := ou
  cases e : node F 1 k i with
  | cr c =>
    have ic : In n c := by
      obtain ⟨e1, _⟩ := node_cr T (Int.le_refl 1) o.1 e
      have o := rd_ok T o.1
      rcases e1 with e1 | e1
      · exact e1 ▸ o.1
      · exact e1 ▸ o.2.1
    obtain ⟨f1, f2, f3⟩ := fstR_spec T ic n2
    exact ⟨fstR F c, _, ⟨rfl, eAt_on T (Int.le_refl 1) f1 c⟩, node_eAt T (Int.le_refl 1) f1 f2, rfl⟩
  | mid k2 i2 =>
    have e2 : k2 = k ∧ i2 = i := by
      unfold node at e
      split at e
      · cases e
      · split at e
        · cases e
        · cases e
          exact ⟨rfl, rfl⟩
    obtain ⟨rfl, rfl⟩ := e2
    have z : keyF F 1 (.mid k2 i2) = (((k2 : Nat) : Int), i2, 1) := low_one _ _
    refine ⟨k2, i2, ?_, ?_, ?_⟩
    · rw [z]
      exact ⟨rfl, o⟩
    · rw [z]
      exact e
    · rw [z]
end OT

set_option Elab.async false
set_option linter.all false
set_option maxRecDepth 100000
set_option maxHeartbeats 1000000
-- own words
namespace OT
section
variable {n : Int} {F : List Fact} (T : TreeM n F) (n2 : 2 ≤ n)
/-- how far it is from u to v -/
noncomputable def Dn (F : List Fact) (u v : Nd) : Int := hN F 1 (nqk F 1 v).1 (nqk F 1 v).2 u
include T n2
theorem Dn_hN {u v : Nd} (ou : OnT F 1 u) (ov : OnT F 1 v) {g : Nat} {p : Int} (og : On F 1 g p) (e : node F 1 g p = v) : Dn F u v = hN F 1 g p u := by
  obtain ⟨o, e'⟩ := nqk_on T n2 (by decide) ov
  exact hN_goal T (by decide) o og (e'.trans e.symm) ou
theorem Dn_hP {k g : Nat} {i p : Int} (ok : On F 1 k i) (og : On F 1 g p) : Dn F (node F 1 k i) (node F 1 g p) = hP F 1 g p k i := by
  rw [Dn_hN T n2 ⟨k, i, ok, rfl⟩ ⟨g, p, og, rfl⟩ og rfl, hN_node T (by decide) og ok]
theorem Dn_nn {u v : Nd} (ou : OnT F 1 u) (ov : OnT F 1 v) : 0 ≤ Dn F u v := by
  obtain ⟨k, i, ok, rfl⟩ := ou
  obtain ⟨g, p, og, rfl⟩ := ov
  rw [Dn_hP T n2 ok og]
  exact total_nn _
theorem Dn_self {u : Nd} (ou : OnT F 1 u) : Dn F u u = 0 := by
  obtain ⟨k, i, ok, rfl⟩ := ou
  rw [Dn_hP T n2 ok ok, hP_g, dst_self]
theorem Dn_sym {u v : Nd} (ou : OnT F 1 u) (ov : OnT F 1 v) : Dn F u v = Dn F v u := by
  obtain ⟨k, i, ok, rfl⟩ := ou
  obtain ⟨g, p, og, rfl⟩ := ov
  rw [Dn_hP T n2 ok og, Dn_hP T n2 og ok]
  exact hP_sym T (by decide) ok og
theorem Dn_zero {u v : Nd} (ou : OnT F 1 u) (ov : OnT F 1 v) (h : Dn F u v = 0) : u = v := by
  obtain ⟨g, p, og, rfl⟩ := ov
  rw [Dn_hN T n2 ou ⟨g, p, og, rfl⟩ og rfl] at h
  exact zero_aim T (by decide) og ou h
theorem Dn_adj {u u' v : Nd} (a : Adj F 1 u u') (ov : OnT F 1 v) : Dn F u' v = Dn F u v + 1 ∨ Dn F u' v = Dn F u v - 1 := by
  obtain ⟨g, p, og, rfl⟩ := ov
  rw [Dn_hN T n2 a.on.1 ⟨g, p, og, rfl⟩ og rfl, Dn_hN T n2 a.on.2 ⟨g, p, og, rfl⟩ og rfl]
  exact adj_step T (by decide) og a
/-- a chain of neighbours -/
def Chain (F : List Fact) (c : Nat) (x : Nat → Nd) : Prop := ∀ t, t < c → Adj F 1 (x t) (x (t + 1))
theorem chain_far {v : Nd} (ov : OnT F 1 v) {x : Nat → Nd} : ∀ {c : Nat}, Chain F c x → Dn F (x c) v ≤ Dn F (x 0) v + c ∧ Dn F (x 0) v ≤ Dn F (x c) v + c
  | 0, _ => ⟨by simp, by simp⟩
  | c + 1, h => by
    obtain ⟨a, b⟩ := chain_far ov (c := c) fun t ht => h t (by omega)
    have := Dn_adj T n2 (h c (by omega)) ov
    omega
/-- the way from one position to another, as a chain -/
theorem way_chain {u v : Nd} (ou : OnT F 1 u) (ov : OnT F 1 v) : ∃ x : Nat → Nd, x 0 = u ∧ x (Dn F u v).toNat = v ∧ Chain F (Dn F u v).toNat x ∧ ∀ t : Nat, (t : Int) ≤ Dn F u v → OnT F 1 (x t) ∧ Dn F (x t) v = Dn F u v - t := by
  obtain ⟨k, i, ok, rfl⟩ := ou
  obtain ⟨g, p, og, rfl⟩ := ov
  have eD := Dn_hP T n2 ok og
  have h0 : 0 ≤ hP F 1 g p k i := total_nn _
  rw [eD]
  have en : ((hP F 1 g p k i).toNat : Int) = hP F 1 g p k i := Int.toNat_of_nonneg h0
  refine ⟨fun t => pth F 1 g p k i (t : Nat), pth_0 T (by decide) og ok, ?_, fun t ht => ?_, fun t ht => ?_⟩
  · show pth F 1 g p k i ((hP F 1 g p k i).toNat : Nat) = _
    rw [en]
    obtain ⟨o, z, _⟩ := pth_ok T (by decide) og ok h0 (Int.le_refl _)
    exact zero_aim T (by decide) og o (by rw [z]; omega)
  · obtain ⟨_, _, a⟩ := pth_ok T (by decide) og ok (t := (t : Nat)) (Int.natCast_nonneg t) (by omega)
    have := a (by omega)
    show Adj F 1 (pth F 1 g p k i (t : Nat)) (pth F 1 g p k i ((t + 1 : Nat) : Int))
    rw [Int.natCast_succ]
    exact this
  · obtain ⟨o, z, _⟩ := pth_ok T (by decide) og ok (t := (t : Nat)) (Int.natCast_nonneg t) ht
    refine ⟨o, ?_⟩
    show Dn F (pth F 1 g p k i (t : Nat)) _ = _
    rw [Dn_hN T n2 o ⟨g, p, og, rfl⟩ og rfl]
    exact z
theorem Dn_tri {u v z : Nd} (ou : OnT F 1 u) (ov : OnT F 1 v) (oz : OnT F 1 z) : Dn F u z ≤ Dn F u v + Dn F v z := by
  obtain ⟨x, x0, xc, ch, _⟩ := way_chain T n2 ou ov
  have h := (chain_far T n2 oz ch).2
  rw [x0, xc, Int.toNat_of_nonneg (Dn_nn T n2 ou ov)] at h
  omega
/-- a chain that comes nearer to something with each step, or goes away from it with each, has no shorter way -/
theorem chain_iso {v : Nd} (ov : OnT F 1 v) {x : Nat → Nd} {c : Nat} (h : Chain F c x) (on_ : ∀ t, t ≤ c → OnT F 1 (x t)) (d : Dn F (x c) v = Dn F (x 0) v - c ∨ Dn F (x c) v = Dn F (x 0) v + c) : Dn F (x 0) (x c) = c := by
  have o0 := on_ 0 (Nat.zero_le _)
  have oc := on_ c (Nat.le_refl _)
  have h1 := (chain_far T n2 oc h).2
  rw [Dn_self T n2 oc] at h1
  have h2 := Dn_tri T n2 o0 oc ov
  have h3 := Dn_tri T n2 oc o0 ov
  rw [Dn_sym T n2 oc o0] at h3
  omega
end
end OT

set_option Elab.async false
set_option linter.all false
set_option maxRecDepth 100000
set_option maxHeartbeats 1000000
-- own words
namespace OT
/-- a chain without a shorter way -/
structure Geo (F : List Fact) (c : Nat) (x : Nat → Nd) : Prop where
  ch : Chain F c x
  on_ : ∀ t, t ≤ c → OnT F 1 (x t)
  far : Dn F (x 0) (x c) = c
theorem Chain.sub {F : List Fact} {c a b : Nat} {x : Nat → Nd} (h : Chain F c x) (hb : a + b ≤ c) : Chain F b (fun t => x (a + t)) := fun t ht => h (a + t) (by omega)
section
variable {n : Int} {F : List Fact} (T : TreeM n F) (n2 : 2 ≤ n)
include T n2
theorem Geo.sub {c : Nat} {x : Nat → Nd} (h : Geo F c x) {a b : Nat} (hb : a + b ≤ c) : Geo F b (fun t => x (a + t)) := by
  have o0 := h.on_ 0 (Nat.zero_le _)
  have oa := h.on_ a (by omega)
  have ob := h.on_ (a + b) hb
  have oc := h.on_ c (Nat.le_refl _)
  refine ⟨h.ch.sub hb, fun t ht => h.on_ (a + t) (by omega), ?_⟩
  show Dn F (x (a + 0)) (x (a + b)) = b
  rw [Nat.add_zero]
  have h1 := (chain_far T n2 oa (h.ch.sub (a := 0) (b := a) (by omega))).2
  have h2 := (chain_far T n2 ob (h.ch.sub (a := a) (b := b) hb)).2
  have h3 := (chain_far T n2 oc (h.ch.sub (a := a + b) (b := c - (a + b)) (by omega))).2
  simp only [Nat.zero_add, Nat.add_zero] at h1 h2 h3
  rw [Dn_self T n2 oa] at h1
  rw [Dn_self T n2 ob] at h2
  have e : a + b + (c - (a + b)) = c := by omega
  rw [e, Dn_self T n2 oc] at h3
  have t1 := Dn_tri T n2 o0 oa oc
  have t2 := Dn_tri T n2 oa ob oc
  have := h.far
  omega
theorem Geo.rev {c : Nat} {x : Nat → Nd} (h : Geo F c x) : Geo F c (fun t => x (c - t)) := by
  refine ⟨fun t ht => ?_, fun t _ => h.on_ (c - t) (by omega), ?_⟩
  · show Adj F 1 (x (c - t)) (x (c - (t + 1)))
    have := (h.ch (c - (t + 1)) (by omega)).symm
    rw [show c - (t + 1) + 1 = c - t by omega] at this
    exact this
  · show Dn F (x (c - 0)) (x (c - c)) = c
    rw [Nat.sub_zero, Nat.sub_self, Dn_sym T n2 (h.on_ c (Nat.le_refl _)) (h.on_ 0 (Nat.zero_le _))]
    exact h.far
/-- towards a position: first nearer, then farther -/
theorem Geo.turn {v : Nd} (ov : OnT F 1 v) : ∀ {c : Nat} {x : Nat → Nd}, Geo F c x → ∃ a, a ≤ c ∧ (∀ t, t ≤ a → Dn F (x t) v = Dn F (x 0) v - t) ∧ ∀ t, a ≤ t → t ≤ c → Dn F (x t) v = Dn F (x a) v + (t - a : Nat)
  | 0, x, _ => ⟨0, Nat.le_refl _, fun t ht => by
      have : t = 0 := by omega
      subst this
      simp, fun t _ ht => by
      have : t = 0 := by omega
      subst this
      simp⟩
  | c + 1, x, h => by
    have hs := h.sub T n2 (a := 0) (b := c) (by omega)
    simp only [Nat.zero_add] at hs
    obtain ⟨a, ha, down, up⟩ := Geo.turn ov hs
    have ad := h.ch c (by omega)
    have st := Dn_adj T n2 ad ov
    have uc := up c ha (Nat.le_refl _)
    by_cases e : a = c
    · subst e
      rcases st with s | s
      · refine ⟨a, by omega, down, fun t h1 h2 => ?_⟩
        by_cases z : t = a
        · subst z
          simp
        · have : t = a + 1 := by omega
          subst this
          rw [s]
          omega
      · refine ⟨a + 1, Nat.le_refl _, fun t ht => ?_, fun t h1 h2 => ?_⟩
        · by_cases z : t = a + 1
          · subst z
            rw [s, down a (Nat.le_refl _)]
            omega
          · exact down t (by omega)
        · have : t = a + 1 := by omega
          subst this
          simp
    · rcases st with s | s
      · refine ⟨a, by omega, down, fun t h1 h2 => ?_⟩
        by_cases z : t = c + 1
        · subst z
          rw [s, uc]
          omega
        · exact up t h1 (by omega)
      · exfalso
        have pc : Dn F (x (c - 1)) v + 1 = Dn F (x c) v := by
          rw [up (c - 1) (by omega) (by omega), uc]
          omega
        have a1 : Adj F 1 (x c) (x (c - 1)) := by
          have := (h.ch (c - 1) (by omega)).symm
          rw [show c - 1 + 1 = c by omega] at this
          exact this
        obtain ⟨g, p, og, rfl⟩ := ov
        have hN_ : ∀ {u : Nd}, OnT F 1 u → Dn F u (node F 1 g p) = hN F 1 g p u := fun ou => Dn_hN T n2 ou ⟨g, p, og, rfl⟩ og rfl
        have oc := h.on_ c (by omega)
        have o1 := h.on_ (c - 1) (by omega)
        have o2 := h.on_ (c + 1) (Nat.le_refl _)
        rw [hN_ o1, hN_ oc] at pc
        rw [hN_ o2, hN_ oc] at s
        have eq := lower_uniq T (by decide) og a1 ad pc (by omega)
        have gs := (h.sub T n2 (a := c - 1) (b := 2) (by omega)).far
        simp only [Nat.add_zero] at gs
        rw [show c - 1 + 2 = c + 1 by omega, ← eq, Dn_self T n2 o1] at gs
        omega
/-- while it comes nearer it is the way -/
theorem Geo.way {c : Nat} {x : Nat → Nd} (h : Geo F c x) {k g : Nat} {i p : Int} (ok : On F 1 k i) (og : On F 1 g p) (e0 : x 0 = node F 1 k i) {a : Nat} (ha : a ≤ c) (down : ∀ t, t ≤ a → Dn F (x t) (node F 1 g p) = Dn F (x 0) (node F 1 g p) - t) : ∀ t, t ≤ a → x t = pth F 1 g p k i (t : Nat)
  | 0, _ => by
    show x 0 = pth F 1 g p k i 0
    rw [pth_0 T (by decide) og ok]
    exact e0
  | t + 1, ht => by
    have ih := Geo.way h ok og e0 ha down t (by omega)
    have hN_ : ∀ {u : Nd}, OnT F 1 u → Dn F u (node F 1 g p) = hN F 1 g p u := fun ou => Dn_hN T n2 ou ⟨g, p, og, rfl⟩ og rfl
    have d0 : Dn F (x 0) (node F 1 g p) = hP F 1 g p k i := by rw [e0, Dn_hP T n2 ok og]
    have o1 := h.on_ (t + 1) (by omega)
    have o := h.on_ t (by omega)
    have d1 := down (t + 1) ht
    have dt := down t (by omega)
    rw [d0] at d1 dt
    have nn := Dn_nn T n2 o1 ⟨g, p, og, rfl⟩
    rw [hN_ o1] at d1
    rw [hN_ o] at dt
    have ad := h.ch t (by omega)
    rw [ih] at ad dt
    have hj : (t : Int) + 1 ≤ hP F 1 g p k i := by
      rw [hN_ o1] at nn
      omega
    obtain ⟨h1, h2⟩ := arC (t := t) (by rw [Int.natCast_succ]; exact hj)
    obtain ⟨oo, z, a'⟩ := pth_ok T (by decide) og ok (t := (t : Nat)) (Int.natCast_nonneg t) h2
    obtain ⟨_, z', _⟩ := pth_ok T (by decide) og ok (t := (t : Int) + 1) (Int.le_trans (Int.natCast_nonneg t) (Int.le_add_one (Int.le_refl _))) h1
    have r := lower_uniq T (by decide) og (a' h1) ad (arA z z') (by omega)
    rw [Int.natCast_succ]
    exact r.symm
end
end OT

set_option Elab.async false
set_option linter.all false
set_option maxRecDepth 100000
set_option maxHeartbeats 1000000
-- own words
namespace OT
section
variable {n : Int} {F : List Fact} (T : TreeM n F) (n2 : 2 ≤ n)
include T n2
theorem geo_0 {x : Nat → Nd} (o : OnT F 1 (x 0)) : Geo F 0 x := ⟨fun t ht => absurd ht (Nat.not_lt_zero _), fun t ht => by
  have : t = 0 := by omega
  subst this
  exact o, Dn_self T n2 o⟩
section
variable {c : Nat} {x f : Nat → Nd} (h : Geo F c x) {g : Nat} {p m : Int} (og : On F 1 g p) (m0 : 0 ≤ m) (go : ∀ t, t ≤ c → Go F 1 g p m (x t) (f t)) {a : Nat} (ha : a ≤ c) (down : ∀ t, t ≤ a → Dn F (x t) (node F 1 g p) = Dn F (x 0) (node F 1 g p) - t)
include h og m0 go ha down
/-- where the part that comes nearer is led -/
theorem img_down {k : Nat} {i : Int} (ok : On F 1 k i) (e0 : x 0 = node F 1 k i) {t : Nat} (ht : t ≤ a) : (t : Int) ≤ hP F 1 g p k i ∧ f t = pth F 1 g p k i (t + (if hP F 1 g p k i - t < m then hP F 1 g p k i - t else m)) := by
  have w := h.way T n2 ok og e0 ha down t ht
  have d0 : Dn F (x 0) (node F 1 g p) = hP F 1 g p k i := by rw [e0, Dn_hP T n2 ok og]
  have dt := down t ht
  have nn := Dn_nn T n2 (h.on_ t (by omega)) ⟨g, p, og, rfl⟩
  rw [d0] at dt
  have th : (t : Int) ≤ hP F 1 g p k i := by omega
  refine ⟨th, ?_⟩
  obtain ⟨k1, i1, o1, e1, e2⟩ := go t (by omega)
  obtain ⟨h1, h2⟩ := pth_on T (by decide) og ok o1 (Int.natCast_nonneg t) th (w.symm.trans e1)
  rw [e2, h1]
  have q0 : 0 ≤ (if hP F 1 g p k i - t < m then hP F 1 g p k i - t else m) := by split <;> omega
  have q := h2 (if hP F 1 g p k i - t < m then hP F 1 g p k i - t else m).toNat (by rw [Int.toNat_of_nonneg q0]; split <;> omega)
  rw [Int.toNat_of_nonneg q0] at q
  exact q.symm
/-- its part that doesn't reach the goal stays what it was -/
theorem geo_down {lo : Nat} (hlo : lo ≤ a) (far : lo = 0 ∨ (lo : Int) + m ≤ Dn F (x 0) (node F 1 g p)) : Geo F lo f := by
  obtain ⟨k, i, ok, e0⟩ := h.on_ 0 (Nat.zero_le _)
  have d0 : Dn F (x 0) (node F 1 g p) = hP F 1 g p k i := by rw [e0, Dn_hP T n2 ok og]
  have on_ : ∀ t, t ≤ c → OnT F 1 (f t) := fun t ht => Go.on T (by decide) og m0 (go t ht)
  rcases far with z | far
  · subst z
    exact geo_0 T n2 (on_ 0 (Nat.zero_le _))
  · rw [d0] at far
    have im : ∀ t : Nat, t ≤ lo → f t = pth F 1 g p k i ((t : Int) + m) := fun t ht => by
      obtain ⟨_, e⟩ := img_down T n2 h og m0 go ha down ok e0 (t := t) (by omega)
      rw [e]
      congr 2
      split <;> omega
    have ch : Chain F lo f := fun t ht => by
      rw [im t (by omega), im (t + 1) (by omega)]
      obtain ⟨_, _, ad⟩ := pth_ok T (by decide) og ok (t := (t : Int) + m) (by omega) (by omega)
      have := ad (by omega)
      rw [show ((t + 1 : Nat) : Int) + m = (t : Int) + m + 1 by omega]
      exact this
    have dist : ∀ t : Nat, t ≤ lo → Dn F (f t) (node F 1 g p) = hP F 1 g p k i - ((t : Int) + m) := fun t ht => by
      rw [Dn_hN T n2 (on_ t (by omega)) ⟨g, p, og, rfl⟩ og rfl, im t ht]
      exact (pth_ok T (by decide) og ok (t := (t : Int) + m) (by omega) (by omega)).2.1
    refine ⟨ch, fun t ht => on_ t (by omega), chain_iso T n2 (v := node F 1 g p) ⟨g, p, og, rfl⟩ ch (fun t ht => on_ t (by omega)) (.inl ?_)⟩
    rw [dist lo (Nat.le_refl _), dist 0 (Nat.zero_le _)]
    omega
/-- its part that is near enough is led to the goal -/
theorem img_goal {t : Nat} (ht : t ≤ a) (near : Dn F (x 0) (node F 1 g p) - t ≤ m) : f t = node F 1 g p := by
  obtain ⟨k, i, ok, e0⟩ := h.on_ 0 (Nat.zero_le _)
  have d0 : Dn F (x 0) (node F 1 g p) = hP F 1 g p k i := by rw [e0, Dn_hP T n2 ok og]
  rw [d0] at near
  obtain ⟨th, e⟩ := img_down T n2 h og m0 go ha down ok e0 ht
  have z : (t : Int) + (if hP F 1 g p k i - t < m then hP F 1 g p k i - t else m) = hP F 1 g p k i := by split <;> omega
  rw [e, z]
  obtain ⟨o, q, _⟩ := pth_ok T (by decide) og ok (t := hP F 1 g p k i) (by omega) (Int.le_refl _)
  exact zero_aim T (by decide) og o (by rw [q]; omega)
/-- one may as well begin at the path's first and go so much farther -/
theorem img_from {t : Nat} (ht : t ≤ a) {w : Nd} (gw : Go F 1 g p (t + m) (x 0) w) : w = f t := by
  obtain ⟨k, i, ok, e0⟩ := h.on_ 0 (Nat.zero_le _)
  obtain ⟨th, e⟩ := img_down T n2 h og m0 go ha down ok e0 ht
  refine Go.uniq T (by decide) og (by omega) gw ⟨k, i, ok, e0, ?_⟩
  rw [e]
  congr 1
  split <;> split <;> omega
end
/-- what a march makes of a path: two paths, and what is led to the goal between them -/
theorem Geo.march {c : Nat} {x f : Nat → Nd} (h : Geo F c x) {g : Nat} {p m : Int} (og : On F 1 g p) (m0 : 0 ≤ m) (go : ∀ t, t ≤ c → Go F 1 g p m (x t) (f t)) : ∃ a : Nat, a ≤ c ∧ (c : Int) + Dn F (x 0) (node F 1 g p) - Dn F (x c) (node F 1 g p) = 2 * a ∧
    ∀ lo hi : Nat, lo ≤ a → a ≤ hi → hi ≤ c → (lo = 0 ∨ (lo : Int) + m ≤ Dn F (x 0) (node F 1 g p)) → (lo = a ∨ Dn F (x 0) (node F 1 g p) - m ≤ lo) → (hi = c ∨ (c : Int) - hi + m ≤ Dn F (x c) (node F 1 g p)) → (hi = a ∨ Dn F (x c) (node F 1 g p) - m ≤ (c : Int) - hi) →
      Geo F lo f ∧ Geo F (c - hi) (fun t => f (hi + t)) ∧ (lo < hi → ∀ t, lo ≤ t → t ≤ hi → f t = node F 1 g p) ∧ (∀ t w, t ≤ lo → Go F 1 g p (t + m) (x 0) w → w = f t) ∧ ∀ (t : Nat) w, hi ≤ t → t ≤ c → Go F 1 g p ((c - t : Nat) + m) (x c) w → w = f t := by
  obtain ⟨a, ha, down, up⟩ := h.turn T n2 (v := node F 1 g p) ⟨g, p, og, rfl⟩
  have ua := up c ha (Nat.le_refl _)
  have da := down a (Nat.le_refl _)
  have hr := h.rev T n2
  have gor : ∀ t, t ≤ c → Go F 1 g p m (x (c - t)) (f (c - t)) := fun t ht => go (c - t) (by omega)
  have downr : ∀ t, t ≤ c - a → Dn F (x (c - t)) (node F 1 g p) = Dn F (x (c - 0)) (node F 1 g p) - t := fun t ht => by
    rw [Nat.sub_zero, up (c - t) (by omega) (by omega), ua]
    omega
  refine ⟨a, ha, by omega, fun lo hi l1 h1 h2 l2 l3 h3 h4 => ⟨geo_down T n2 h og m0 go ha down l1 l2, ?_, fun lt t t1 t2 => ?_, fun t w ht gw => img_from T n2 h og m0 go ha down (t := t) (by omega) gw, fun t w h1 h2 gw => ?_⟩⟩
  · have g1 := geo_down T n2 (x := fun t => x (c - t)) (f := fun t => f (c - t)) hr og m0 gor (a := c - a) (by omega) downr (lo := c - hi) (by omega) (by
      rcases h3 with e | e
      · exact .inl (by omega)
      · refine .inr ?_
        show ((c - hi : Nat) : Int) + m ≤ Dn F (x (c - 0)) (node F 1 g p)
        rw [Nat.sub_zero]
        omega)
    have g2 := g1.rev T n2
    refine ⟨fun t ht => ?_, fun t ht => ?_, ?_⟩
    · have := g2.ch t ht
      rw [show c - (c - hi - t) = hi + t by omega, show c - (c - hi - (t + 1)) = hi + (t + 1) by omega] at this
      exact this
    · have := g2.on_ t ht
      rw [show c - (c - hi - t) = hi + t by omega] at this
      exact this
    · have := g2.far
      rw [show c - (c - hi - 0) = hi + 0 by omega, show c - (c - hi - (c - hi)) = hi + (c - hi) by omega] at this
      exact this
  · by_cases q : t ≤ a
    · refine img_goal T n2 h og m0 go ha down q ?_
      rcases l3 with e | e
      · subst e
        have : t = lo := by omega
        subst this
        rcases h4 with e | e
        · omega
        · omega
      · omega
    · have gg := img_goal T n2 (x := fun t => x (c - t)) (f := fun t => f (c - t)) hr og m0 gor (a := c - a) (by omega) downr (t := c - t) (by omega) (by
        show Dn F (x (c - 0)) (node F 1 g p) - ((c - t : Nat) : Int) ≤ m
        rw [Nat.sub_zero]
        rcases h4 with e | e
        · omega
        · omega)
      rw [show c - (c - t) = t by omega] at gg
      exact gg
  · have gg := img_from T n2 (x := fun t => x (c - t)) (f := fun t => f (c - t)) hr og m0 gor (a := c - a) (by omega) downr (t := c - t) (by omega) (w := w) (by
      show Go F 1 g p (((c - t : Nat) : Int) + m) (x (c - 0)) w
      rw [Nat.sub_zero]
      exact gw)
    rw [show c - (c - t) = t by omega] at gg
    exact gg
end
end OT

set_option Elab.async false
set_option linter.all false
set_option maxRecDepth 100000
set_option maxHeartbeats 4000000
-- own words
namespace OT
open PySem L2 OTR
abbrev sMarksOf : Stmt := top 46
/-- at t a mark: so many steps from the stretch's start, and where that is led -/
def MkAt (CP : Addr) (F : List Fact) (H : Hp) (t : Addr) (z : Nat × Nd) : Prop := ∃ b, H t = some (.tup [.int (z.1 : Nat), .ref b]) ∧ PlaceAt CP H b (keyF F 1 z.2)
theorem MkAt.kp {CP : Addr} {F : List Fact} {H H' : Hp} {t : Addr} {z : Nat × Nd} (h : MkAt CP F H t z) (k : Kp H H') : MkAt CP F H' t z := let ⟨b, e, p⟩ := h; ⟨b, k _ _ e (fun _ q => nomatch q), p.kp k⟩
theorem MkAt.same {CP : Addr} {F : List Fact} {H H' : Hp} {t : Addr} {z : Nat × Nd} (h : MkAt CP F H t z) (k : Same H H') : MkAt CP F H' t z := h.kp (.of k)
def spMarks (K : PySem.W.Frag) (CT CR CM CP CS : Addr) : Sp := fun vs H Q _ => ∃ (x p q : Addr) (n : Int) (ps : List Addr) (F : List Fact) (st : SFact) (mg : MG) (c : Nat) (xs f : Nat → Nd), vs = [.ref x, .ref p, .ref q] ∧ TreeAt K CT CR H x n ps F ∧ TreeG n F ∧ StAt CS H p st ∧ PlaceAt CP H st.2.2.2.1 (keyF F 1 (xs 0)) ∧ PlaceAt CP H st.2.2.2.2 (keyF F 1 (xs c)) ∧
  MaAt CM CP H q (mf mg) ∧ MgOk F mg ∧ Geo F c xs ∧ st.2.2.1 - st.2.1 = (c : Int) ∧ (∀ t, t ≤ c → Go F 1 mg.1 mg.2.1 mg.2.2 (xs t) (f t)) ∧
  ∀ (l : Addr) (ts : List Addr) (H' : Hp) (lo hi : Nat), Same H H' → lo ≤ hi → hi ≤ c → Geo F lo f → Geo F (c - hi) (fun t => f (hi + t)) → (lo < hi → ∀ t, lo ≤ t → t ≤ hi → f t = node F 1 mg.1 mg.2.1) → H' l = some (.lst (ts.map V.ref)) → Paired (MkAt CP F H') ts [(0, f 0), (lo, f lo), (hi, f hi), (c, f c)] → Q (.ref l) H'
section
variable {P : Program} {w : World} {K : PySem.W.Frag} {mg : Str → Option Value} {base : Heap}
abbrev nMarksOf : List Str := ["tree", "stretch", "march", "size", "ahead", "behind", "turn", "low", "high", "from_first", "from_last", "at"]
theorem scMarksOf : FnScope nMarksOf ["tree", "stretch", "march"] (defScope sMarksOf) := ⟨rfl, rfl, rfl, by decide +kernel, rfl, by decide +kernel, by decide +kernel⟩
theorem ok_marks {f0 fSB fST CT CR CM CP CS CB CNR COR : Addr} {fd fdSB fdST : FuncData} (F0 : Fun K "marks_of" "marks_of" sMarksOf f0 fd) (TS : StT K mg CS) (TM : MaT K mg CM)
    (FSB : FnOk P w K mg base CX0 5 fSB fdSB ["tree", "one", "other"] (spStepsB K CT CR CP)) (bSB : Binds K fdSB ["tree", "one", "other"] []) (mSB : mg "steps_between" = some (.ref fSB)) (kSB : PySem.W.keepIn K (.ref fSB) = true)
    (FST : FnOk P w K mg base (L2.CX P w) 7 fST fdST ["tree", "place", "goal", "steps"] (spStep K CT CR CP CB CNR COR)) (bST : Binds K fdST ["tree", "place", "goal", "steps"] []) (mST : mg "step" = some (.ref fST)) (kST : PySem.W.keepIn K (.ref fST) = true)
    (hMin : mg "min" = none) (hMax : mg "max" = none) : FnOk P w K mg base CX0 8 f0 fd ["tree", "stretch", "march"] (spMarks K CT CR CM CP CS) := by
  refine F0.ok scMarksOf (fun vs H Q E h => ?_) (fun cdv A outer s H vs Q E hr h => ?_)
  · obtain ⟨x, p, q, n, ps, fs, st, g, c, xs, f, rfl, _⟩ := h
    rfl
  · obtain ⟨x, p, q, n, ps, fs, st, g, c, xs, f, rfl, TA, TG, ⟨dx, ex⟩, P1, P2, ⟨gp, ⟨dm, em⟩, pg⟩, okg, geo, hsz, go, kont⟩ := h
    have T := TG.m
    have hr5 : Room 5 _ := hr.mono (by decide)
    refine ⟨_, pss_cons (ps_set (i := 3) scMarksOf.nd rfl (Or.inr rfl) (pe_op op_sub (pe_fld (pv 1) rfl) (pe_fld (pv 1) rfl)))
      (pss_cons (ps_set (i := 4) scMarksOf.nd rfl (Or.inl rfl) (pe_call FSB hr5 rfl mSB kSB bSB .nil pass0 (pa_cons (pv 0) (pa_cons (pe_fld (pv 1) rfl) (pa_cons (pe_fld (pv 2) rfl) pa_nil)))))
      (pss_cons (ps_set (i := 5) scMarksOf.nd rfl (Or.inl rfl) (pe_call FSB hr5 rfl mSB kSB bSB .nil pass0 (pa_cons (pv 0) (pa_cons (pe_fld (pv 1) rfl) (pa_cons (pe_fld (pv 2) rfl) pa_nil)))))
      (pss_cons (ps_set (i := 6) scMarksOf.nd rfl (Or.inl rfl) (pe_op op_fdiv (pe_op op_sub (pe_op op_add (pv 3) (pv 4)) (pv 5)) pe_int))
      (pss_cons (ps_set (i := 7) scMarksOf.nd rfl (Or.inl rfl) (pe_callB (call_min2 rfl) (by rfl) hMin (by decide +kernel) (pa_cons (pv 6) (pa_cons (pe_callB (call_max2 rfl) (by rfl) hMax (by decide +kernel) (pa_cons pe_int (pa_cons (pe_op op_sub (pv 4) (pe_fld (pv 2) rfl)) pa_nil))) pa_nil))))
      (pss_cons (ps_set (i := 8) scMarksOf.nd rfl (Or.inl rfl) (pe_callB (call_max2 rfl) (by rfl) hMax (by decide +kernel) (pa_cons (pv 6) (pa_cons (pe_callB (call_min2 rfl) (by rfl) hMin (by decide +kernel) (pa_cons (pv 3) (pa_cons (pe_op op_add (pe_op op_sub (pv 3) (pv 5)) (pe_fld (pv 2) rfl)) pa_nil))) pa_nil))))
      (pss_cons (ps_setLc (i := 9) (own := [("at", 11)]) (g := gName 11) (tt := tYes) (te := tTup (tCons (tVar 11) (tCons (tCall (spStep K CT CR CP CB CNR COR) [] L2.E0 (tCons (tVar 0) (tCons (tFld K (tVar 1) "first") (tCons (tFld K (tVar 2) "goal") (tCons (tOp (rI0 fun i j => .int (i + j)) (tVar 11) (tFld K (tVar 2) "steps")) tNil))))) tNil))) rfl scMarksOf.nd rfl rfl (sw_true rfl rfl rfl (by decide +kernel)) (pi_tup (pe_tup (pa_cons pe_int (pa_cons (pv 7) pa_nil)))) (blkOk_by (own := [("at", 11)]) (N := nMarksOf) (sc := defScope sMarksOf) (by decide +kernel)) (fun _ _ _ _ _ => (pg_name (i := 11) scMarksOf.nd rfl (Or.inl rfl))) (fun _ _ _ _ _ => pts_nil) (fun _ _ _ _ _ => (pe_tup (pa_cons (pv 11) (pa_cons (pe_call FST (hr.mono (by decide)) rfl mST kST bST .nil passF (pa_cons (pv 0) (pa_cons (pe_fld (pv 1) rfl) (pa_cons (pe_fld (pv 2) rfl) (pa_cons (pe_op op_add (pv 11) (pe_fld (pv 2) rfl)) pa_nil))))) pa_nil)))))
      (pss_cons (ps_setLc (i := 10) (own := [("at", 11)]) (g := gName 11) (tt := tYes) (te := tTup (tCons (tVar 11) (tCons (tCall (spStep K CT CR CP CB CNR COR) [] L2.E0 (tCons (tVar 0) (tCons (tFld K (tVar 1) "last") (tCons (tFld K (tVar 2) "goal") (tCons (tOp (rI0 fun i j => .int (i + j)) (tOp (rI0 fun i j => .int (i - j)) (tVar 3) (tVar 11)) (tFld K (tVar 2) "steps")) tNil))))) tNil))) rfl scMarksOf.nd rfl rfl (sw_true rfl rfl rfl (by decide +kernel)) (pi_tup (pe_tup (pa_cons (pv 8) (pa_cons (pv 3) pa_nil)))) (blkOk_by (own := [("at", 11)]) (N := nMarksOf) (sc := defScope sMarksOf) (by decide +kernel)) (fun _ _ _ _ _ => (pg_name (i := 11) scMarksOf.nd rfl (Or.inl rfl))) (fun _ _ _ _ _ => pts_nil) (fun _ _ _ _ _ => (pe_tup (pa_cons (pv 11) (pa_cons (pe_call FST (hr.mono (by decide)) rfl mST kST bST .nil passF (pa_cons (pv 0) (pa_cons (pe_fld (pv 1) rfl) (pa_cons (pe_fld (pv 2) rfl) (pa_cons (pe_op op_add (pe_op op_sub (pv 3) (pv 11)) (pe_fld (pv 2) rfl)) pa_nil))))) pa_nil)))))
      (pss_one (ps_ret (pe_op op_catS (pv 9) (pv 10))))))))))), ?_⟩
    have two : ∀ {x y : V}, [x, y].length ≤ sizeLine := fun {x y} => (by show 2 ≤ sizeLine; decide)
    obtain ⟨gk, gi, gm⟩ := g
    have og : On fs 1 gk gi := by
      have h := okg.on (S := 1) (by decide)
      rw [Int.mul_one] at h
      exact h
    have m1 : 1 ≤ gm := okg.s1
    have pg : PlaceAt CP H gp (((gk : Nat) : Int), gi, 1) := by
      have z : low (mPl (mf (gk, gi, gm))) = (((gk : Nat) : Int), gi, 1) := low_one _ _
      rw [← z]
      exact pg
    have peg : PlE fs 1 (((gk : Nat) : Int), gi, 1) gk gi := ⟨rfl, ⟨1, by decide, by show (1 : Int) = 1 * 1; decide, by show gi = gi * 1; rw [Int.mul_one]⟩, og, Int.le_refl 1, low_one _ _⟩
    obtain ⟨k1, i1, pe1, n1⟩ := key_ple T TG.n2 (show (1 : Int) ≤ 1 by decide) (geo.on_ 0 (Nat.zero_le _))
    obtain ⟨k2, i2, pe2, n2⟩ := key_ple T TG.n2 (show (1 : Int) ≤ 1 by decide) (geo.on_ c (Nat.le_refl _))
    have d1 : Dn fs (xs 0) (node fs 1 gk gi) = hP fs 1 gk gi k1 i1 := by rw [← n1, Dn_hP T TG.n2 pe1.on og]
    have d2 : Dn fs (xs c) (node fs 1 gk gi) = hP fs 1 gk gi k2 i2 := by rw [← n2, Dn_hP T TG.n2 pe2.on og]
    have st_g := stF_g st
    -- size, ahead, behind
    refine ⟨_, rfl, p, CS, dx, _, _, rfl, ex, TS.cl, TS.nG, stF_g st, _, rfl, p, CS, dx, _, _, rfl, ex, TS.cl, TS.nL, stF_l st, _, _, rfl, rfl, ?_⟩
    show tSeq _ _ _ [some (.ref x), some (.ref p), some (.ref q), some (.int (st.2.2.1 - st.2.1)), none, none, none, none, none, none, none, none] _
    rw [hsz]
    refine ⟨_, rfl, _, rfl, p, CS, dx, _, _, rfl, ex, TS.cl, TS.nF, stF_f st, _, rfl, q, CM, dm, _, _, rfl, em, TM.cl, TM.nG, maF_g _ _, x, _, gp, n, ps, fs, _, _, k1, gk, i1, gi, rfl, TA, TG, P1, pg, pe1, peg, fun H1 s1 => ?_⟩
    refine ⟨_, rfl, _, rfl, p, CS, dx, _, _, rfl, s1 _ _ ex, TS.cl, TS.nA, stF_a st, _, rfl, q, CM, dm, _, _, rfl, s1 _ _ em, TM.cl, TM.nG, maF_g _ _, x, _, gp, n, ps, fs, _, _, k2, gk, i2, gi, rfl, TA.same s1, TG, P2.same s1, pg.same s1, pe2, peg, fun H2 s2 => ?_⟩
    have s12 := s1.trans s2
    obtain ⟨a, ha, ea, parts⟩ := Geo.march T TG.n2 geo og (show (0 : Int) ≤ gm by omega) go
    rw [d1, d2] at ea parts
    have hA : 0 ≤ hP fs 1 gk gi k1 i1 := total_nn _
    have hB : 0 ≤ hP fs 1 gk gi k2 i2 := total_nn _
    generalize hP fs 1 gk gi k1 i1 = A0 at ea parts hA ⊢
    generalize hP fs 1 gk gi k2 i2 = B0 at ea parts hB ⊢
    have ex2 := s12 _ _ ex
    have em2 := s12 _ _ em
    have TA2 := TA.same s12
    have P12 := P1.same s12
    have P22 := P2.same s12
    have pg2 := pg.same s12
    clear ex em TA P1 P2 pg s1 s2
    show tSeq _ _ _ [some (.ref x), some (.ref p), some (.ref q), some (.int (c : Nat)), some (.int A0), some (.int B0), none, none, none, none, none, none] _
    -- turn
    refine ⟨_, rfl, _, rfl, _, _, rfl, rfl, _, rfl, _, _, rfl, rfl, _, _, rfl, rfl, ⟨by decide, by decide⟩, ?_⟩
    have et : ((c : Int) + A0 - B0) / 2 = (a : Int) := by omega
    show tSeq _ _ _ [some (.ref x), some (.ref p), some (.ref q), some (.int (c : Nat)), some (.int A0), some (.int B0), some (.int (((c : Int) + A0 - B0) / 2)), none, none, none, none, none] _
    rw [et]
    -- low
    obtain ⟨lo, hlo⟩ : ∃ lo : Nat, (if (if A0 - gm > 0 then A0 - gm else 0) < (a : Int) then (if A0 - gm > 0 then A0 - gm else 0) else (a : Int)) = (lo : Int) := ⟨((if (if A0 - gm > 0 then A0 - gm else 0) < (a : Int) then (if A0 - gm > 0 then A0 - gm else 0) else (a : Int))).toNat, by rw [Int.toNat_of_nonneg]; split <;> split <;> omega⟩
    refine ⟨_, rfl, _, rfl, _, rfl, q, CM, dm, _, _, rfl, em2, TM.cl, TM.nS, maF_s _ _, _, _, rfl, rfl, _, _, rfl, _, _, rfl, ?_⟩
    show tSeq _ _ _ [some (.ref x), some (.ref p), some (.ref q), some (.int (c : Nat)), some (.int A0), some (.int B0), some (.int (a : Nat)), some (.int (if (if A0 - gm > 0 then A0 - gm else 0) < (a : Int) then (if A0 - gm > 0 then A0 - gm else 0) else (a : Int))), none, none, none, none] _
    rw [hlo]
    -- high
    obtain ⟨hi, hhi⟩ : ∃ hi : Nat, (if (if (c : Int) - B0 + gm < (c : Int) then (c : Int) - B0 + gm else (c : Int)) > (a : Int) then (if (c : Int) - B0 + gm < (c : Int) then (c : Int) - B0 + gm else (c : Int)) else (a : Int)) = (hi : Int) := ⟨((if (if (c : Int) - B0 + gm < (c : Int) then (c : Int) - B0 + gm else (c : Int)) > (a : Int) then (if (c : Int) - B0 + gm < (c : Int) then (c : Int) - B0 + gm else (c : Int)) else (a : Int))).toNat, by rw [Int.toNat_of_nonneg]; split <;> split <;> omega⟩
    refine ⟨_, rfl, _, rfl, _, rfl, _, rfl, _, _, rfl, rfl, _, rfl, q, CM, dm, _, _, rfl, em2, TM.cl, TM.nS, maF_s _ _, _, _, rfl, rfl, _, _, rfl, _, _, rfl, ?_⟩
    show tSeq _ _ _ [some (.ref x), some (.ref p), some (.ref q), some (.int (c : Nat)), some (.int A0), some (.int B0), some (.int (a : Nat)), some (.int (lo : Nat)), some (.int (if (if (c : Int) - B0 + gm < (c : Int) then (c : Int) - B0 + gm else (c : Int)) > (a : Int) then (if (c : Int) - B0 + gm < (c : Int) then (c : Int) - B0 + gm else (c : Int)) else (a : Int))), none, none, none] _
    rw [hhi]
    have la : lo ≤ a := by split at hlo <;> split at hlo <;> omega
    have l2 : lo = 0 ∨ (lo : Int) + gm ≤ A0 := by split at hlo <;> split at hlo <;> omega
    have l3 : lo = a ∨ A0 - gm ≤ (lo : Int) := by split at hlo <;> split at hlo <;> omega
    have ah : a ≤ hi := by split at hhi <;> split at hhi <;> omega
    have hc : hi ≤ c := by split at hhi <;> split at hhi <;> omega
    have h3 : hi = c ∨ (c : Int) - hi + gm ≤ B0 := by split at hhi <;> split at hhi <;> omega
    have h4 : hi = a ∨ B0 - gm ≤ (c : Int) - hi := by split at hhi <;> split at hhi <;> omega
    obtain ⟨g1, g2, g3, u1, u2⟩ := parts lo hi la ah hc l2 l3 h3 h4
    clear parts hlo hhi
    -- from_first
    refine ⟨_, rfl, two, fun pt hpt => ?_⟩
    have s3 := Same.new (o := .tup [.int 0, .int (lo : Nat)]) hpt
    have ept : upd H2 pt (.tup [.int 0, .int (lo : Nat)]) pt = some (.tup [.int 0, .int (lo : Nat)]) := upd_same
    generalize upd H2 pt (.tup [.int 0, .int (lo : Nat)]) = H3 at s3 ept ⊢
    have step : ∀ {G : Hp} {pa : Addr} {u : Nd} {kk : Nat} {ii d : Int} {Q : VK}, Same H2 G → PlaceAt CP G pa (keyF fs 1 u) → PlE fs 1 (keyF fs 1 u) kk ii → node fs 1 kk ii = u → 0 ≤ d → (∀ t G' v, Same G G' → Go fs 1 gk gi d u v → PlaceAt CP G' t (keyF fs 1 v) → Q (.ref t) G') → spStep K CT CR CP CB CNR COR [.ref x, .ref pa, .ref gp, .int d] G Q L2.E0 := fun {G pa u kk ii d Q} sG pl pe en d0 fin => by
      refine step_1 (TA2.same sG) TG pl (pg2.same sG) pe peg d0 fun t G' v s gv pv => fin t G' v s ?_ pv
      rw [← en]
      exact gv
    have fin : ∀ {G G' : Hp} {D pw b : Addr} {ls : List Addr} {L : List (Nat × Nd)} {t : Nat}, G D = some (.lst (ls.map V.ref)) → Paired (MkAt CP fs G) ls L → Same G G' → G' pw = none → PlaceAt CP G' b (keyF fs 1 (f t)) →
        Paired (MkAt CP fs (upd (upd G' pw (.tup [.int (t : Nat), .ref b])) D (.lst (ls.map V.ref ++ [.ref pw])))) (ls ++ [pw]) (L ++ [(t, f t)]) ∧ upd G' pw (.tup [.int (t : Nat), .ref b]) D = some (.lst (ls.map V.ref)) := fun {G G' D pw b ls L t} gD pl s hpw pb => by
      have s' := Same.new (o := .tup [.int (t : Nat), .ref b]) hpw
      have gD' := s' _ _ (s _ _ gD)
      have kput : Kp (upd G' pw (.tup [.int (t : Nat), .ref b])) (upd (upd G' pw (.tup [.int (t : Nat), .ref b])) D (.lst (ls.map V.ref ++ [.ref pw]))) := .put gD'
      have mk : MkAt CP fs (upd G' pw (.tup [.int (t : Nat), .ref b])) pw (t, f t) := ⟨b, upd_same, pb.same s'⟩
      exact ⟨paired_app (Paired.mapP pl fun _ _ h => ((h.same s).same s').kp kput) (.cons (mk.kp kput) .nil), gD'⟩
    refine ⟨pt, rfl, ⟨_, SqT.of ept⟩, fun D hD => lc_tup (K := K) (a := pt) (xs := [.int 0, .int (lo : Nat)]) (fun i Gc => ∃ ls : List Addr, Gc D = some (.lst (ls.map V.ref)) ∧ Same H3 Gc ∧ Paired (MkAt CP fs Gc) ls ([(0, f 0), (lo, f lo)].take i) ∧ ls.length = i)
      ⟨[], upd_same, Same.new hD, .nil, rfl⟩ (fun i Gc _ ⟨_, _, sc, _⟩ => SqT.of (sc _ _ ept)) ?_ ?_⟩
    · rintro i x' Gc hi' ⟨ls, gD, sc, pls, ll⟩
      have hil : i < 2 := (List.getElem?_eq_some_iff.mp hi').1
      obtain ⟨t, rfl, hz, tl⟩ : ∃ t : Nat, x' = .int (t : Nat) ∧ [(0, f 0), (lo, f lo)][i]? = some (t, f t) ∧ t ≤ lo := by
        have hc' : i = 0 ∨ i = 1 := by omega
        rcases hc' with rfl | rfl
        · cases hi'
          exact ⟨0, rfl, rfl, Nat.zero_le _⟩
        · cases hi'
          exact ⟨lo, rfl, rfl, Nat.le_refl _⟩
      have s2c := s3.trans sc
      refine ⟨rfl, ?_⟩
      unfold tYes
      refine iteT ⟨_, rfl, _, rfl, _, rfl, p, CS, dx, _, _, rfl, s2c _ _ ex2, TS.cl, TS.nF, stF_f st, _, rfl, q, CM, dm, _, _, rfl, s2c _ _ em2, TM.cl, TM.nG, maF_g _ _, _, rfl, _, rfl, q, CM, dm, _, _, rfl, s2c _ _ em2, TM.cl, TM.nS, maF_s _ _, _, _, rfl, rfl, tn ?_⟩
      show spStep K CT CR CP CB CNR COR [V.ref x, V.ref st.2.2.2.1, V.ref gp, V.int ((t : Nat) + gm)] Gc _ _
      refine step s2c (P12.same s2c) pe1 n1 (by omega) fun tt G' v s gv pv => ⟨two, fun pw hpw => ?_⟩
      have ev := u1 t v tl gv
      subst ev
      obtain ⟨f1, f2⟩ := fin gD pls s hpw pv
      refine ⟨ls.map V.ref, f2, small1000 (by rw [List.length_map, ll]; omega), ls ++ [pw], by rw [List.map_append]; exact upd_same, fun b o e => ?_, by rw [take_get hz]; exact f1, by rw [List.length_append, ll]; rfl⟩
      rw [upd_ne (ne_of_none e hD)]
      exact Same.new hpw _ _ (s _ _ (sc b o e))
    · rintro H4 ⟨ls, gD, s4, pls, ll⟩
      have pls : Paired (MkAt CP fs H4) ls [(0, f 0), (lo, f lo)] := pls
      have s24 := s3.trans s4
      dsimp only [gName]
      -- from_last
      refine ⟨_, rfl, _, rfl, two, fun pu hpu => ?_⟩
      have s5 := Same.new (o := .tup [.int (hi : Nat), .int (c : Nat)]) hpu
      have epu : upd H4 pu (.tup [.int (hi : Nat), .int (c : Nat)]) pu = some (.tup [.int (hi : Nat), .int (c : Nat)]) := upd_same
      have gD5 := s5 _ _ gD
      have pls5 := Paired.mapP pls fun _ _ h => h.same s5
      have s25 := s24.trans s5
      clear gD pls s5 s24 hpu
      generalize upd H4 pu (.tup [.int (hi : Nat), .int (c : Nat)]) = H5 at epu gD5 pls5 s25 ⊢
      refine ⟨pu, rfl, ⟨_, SqT.of epu⟩, fun D2 hD2 => lc_tup (K := K) (a := pu) (xs := [.int (hi : Nat), .int (c : Nat)]) (fun i Gc => ∃ ls2 : List Addr, Gc D2 = some (.lst (ls2.map V.ref)) ∧ Same H5 Gc ∧ Paired (MkAt CP fs Gc) ls2 ([(hi, f hi), (c, f c)].take i) ∧ ls2.length = i)
        ⟨[], upd_same, Same.new hD2, .nil, rfl⟩ (fun i Gc _ ⟨_, _, sc, _⟩ => SqT.of (sc _ _ epu)) ?_ ?_⟩
      · rintro i x' Gc hi' ⟨ls2, gD2, sc, pls2, ll2⟩
        have hil : i < 2 := (List.getElem?_eq_some_iff.mp hi').1
        obtain ⟨t, rfl, hz, tl1, tl2⟩ : ∃ t : Nat, x' = .int (t : Nat) ∧ [(hi, f hi), (c, f c)][i]? = some (t, f t) ∧ hi ≤ t ∧ t ≤ c := by
          have hc' : i = 0 ∨ i = 1 := by omega
          rcases hc' with rfl | rfl
          · cases hi'
            exact ⟨hi, rfl, rfl, Nat.le_refl _, hc⟩
          · cases hi'
            exact ⟨c, rfl, rfl, hc, Nat.le_refl _⟩
        have s2c := s25.trans sc
        refine ⟨rfl, ?_⟩
        unfold tYes
        refine iteT ⟨_, rfl, _, rfl, _, rfl, p, CS, dx, _, _, rfl, s2c _ _ ex2, TS.cl, TS.nA, stF_a st, _, rfl, q, CM, dm, _, _, rfl, s2c _ _ em2, TM.cl, TM.nG, maF_g _ _, _, rfl, _, rfl, _, _, rfl, rfl, _, rfl, q, CM, dm, _, _, rfl, s2c _ _ em2, TM.cl, TM.nS, maF_s _ _, _, _, rfl, rfl, tn ?_⟩
        show spStep K CT CR CP CB CNR COR [V.ref x, V.ref st.2.2.2.2, V.ref gp, V.int ((c : Nat) - (t : Nat) + gm)] Gc _ _
        refine step s2c (P22.same s2c) pe2 n2 (by omega) fun tt G' v s gv pv => ⟨two, fun pw hpw => ?_⟩
        have ec : ((c : Int) - (t : Int)) = ((c - t : Nat) : Int) := by omega
        rw [ec] at gv
        have ev := u2 t v tl1 tl2 gv
        subst ev
        obtain ⟨f1, f2⟩ := fin gD2 pls2 s hpw pv
        refine ⟨ls2.map V.ref, f2, small1000 (by rw [List.length_map, ll2]; omega), ls2 ++ [pw], by rw [List.map_append]; exact upd_same, fun b o e => ?_, by rw [take_get hz]; exact f1, by rw [List.length_append, ll2]; rfl⟩
        rw [upd_ne (ne_of_none e hD2)]
        exact Same.new hpw _ _ (s _ _ (sc b o e))
      · rintro H6 ⟨ls2, gD2, s6, pls2, ll2⟩
        have pls2 : Paired (MkAt CP fs H6) ls2 [(hi, f hi), (c, f c)] := pls2
        dsimp only [gName]
        refine ⟨_, rfl, _, rfl, D, D2, ls.map V.ref, ls2.map V.ref, rfl, rfl, SqL.of (s6 _ _ gD5), SqL.of gD2, by rw [List.length_map, List.length_map, ll, ll2, PySem.sizeLine_eq]; show 2 + 2 ≤ _; omega, fun pr hpr => ?_⟩
        have s7 := Same.new (o := .lst (ls.map V.ref ++ ls2.map V.ref)) hpr
        exact kont pr (ls ++ ls2) _ lo hi ((s12.trans s25).trans (s6.trans s7)) (by omega) hc g1 g2 g3 (by rw [List.map_append]; exact upd_same) (paired_app (Paired.mapP pls5 fun _ _ h => (h.same s6).same s7) (Paired.mapP pls2 fun _ _ h => h.same s7))
end
end OT

set_option Elab.async false
set_option linter.all false
set_option maxRecDepth 100000
set_option maxHeartbeats 4000000
-- own words
namespace OT
open PySem L2 OTR
/-- from s to e all is led to one position, or onto a path -/
def Pw (F : List Fact) (f : Nat → Nd) (s e : Nat) : Prop := (∀ t, s ≤ t → t ≤ e → f t = f s) ∨ Geo F (e - s) (fun t => f (s + t))
/-- at p the stretch of the road k from s to e, where f tells where each position is led -/
def SpAt (CS CP : Addr) (F : List Fact) (H : Hp) (k : Nat) (f : Nat → Nd) (p : Addr) (z : Nat × Nat) : Prop := ∃ a b, StAt CS H p (((k : Nat) : Int), ((z.1 : Nat) : Int), ((z.2 : Nat) : Int), a, b) ∧ PlaceAt CP H a (keyF F 1 (f z.1)) ∧ PlaceAt CP H b (keyF F 1 (f z.2))
theorem SpAt.kp {CS CP : Addr} {F : List Fact} {H H' : Hp} {k : Nat} {f : Nat → Nd} {p : Addr} {z : Nat × Nat} (h : SpAt CS CP F H k f p z) (kp : Kp H H') : SpAt CS CP F H' k f p z := let ⟨a, b, h1, h2, h3⟩ := h; ⟨a, b, h1.kp kp, h2.kp kp, h3.kp kp⟩
theorem SpAt.same {CS CP : Addr} {F : List Fact} {H H' : Hp} {k : Nat} {f : Nat → Nd} {p : Addr} {z : Nat × Nat} (h : SpAt CS CP F H k f p z) (kp : Same H H') : SpAt CS CP F H' k f p z := h.kp (.of kp)
/-- one behind the other from s to e -/
def Cov : Nat → Nat → List (Nat × Nat) → Prop
  | s, e, [] => s = e
  | s, e, z :: L => z.1 = s ∧ s < z.2 ∧ Cov z.2 e L
theorem Cov.snoc {e e' : Nat} : ∀ {L : List (Nat × Nat)} {s : Nat}, Cov s e L → e < e' → Cov s e' (L ++ [(e, e')])
  | [], s, h, l => by
    cases (show s = e from h)
    exact ⟨rfl, l, rfl⟩
  | z :: L, s, ⟨h1, h2, h3⟩, l => ⟨h1, h2, h3.snoc l⟩
theorem Cov.append {e e' : Nat} {M : List (Nat × Nat)} : ∀ {L : List (Nat × Nat)} {s : Nat}, Cov s e L → Cov e e' M → Cov s e' (L ++ M)
  | [], s, h, k => by
    cases (show s = e from h)
    exact k
  | z :: L, s, ⟨h1, h2, h3⟩, k => ⟨h1, h2, h3.append k⟩
theorem Cov.le {e : Nat} : ∀ {L : List (Nat × Nat)} {s : Nat}, Cov s e L → s ≤ e ∧ L.length ≤ e - s
  | [], s, h => by
    cases (show s = e from h)
    exact ⟨Nat.le_refl _, Nat.zero_le _⟩
  | z :: L, s, ⟨h1, h2, h3⟩ => by
    obtain ⟨a, b⟩ := h3.le
    refine ⟨by omega, ?_⟩
    rw [List.length_cons]
    omega
theorem key_inj {n : Int} {F : List Fact} (T : TreeM n F) (n2 : 2 ≤ n) {u v : Nd} (ou : OnT F 1 u) (ov : OnT F 1 v) (e : keyF F 1 u = keyF F 1 v) : u = v := by
  obtain ⟨k1, i1, p1, n1⟩ := key_ple T n2 (show (1 : Int) ≤ 1 by decide) ou
  obtain ⟨k2, i2, p2, n2'⟩ := key_ple T n2 (show (1 : Int) ≤ 1 by decide) ov
  rw [← n1, ← n2']
  obtain ⟨d1, _, a1, b1⟩ := p1.d
  obtain ⟨d2, _, a2, b2⟩ := p2.d
  have r1 := p1.rd
  have r2 := p2.rd
  rw [e] at a1 b1 r1
  have ek : k1 = k2 := by omega
  have ed : d1 = d2 := by
    have hz : (keyF F 1 v).2.2 ≠ 0 := by have := p2.p1; omega
    exact Int.eq_of_mul_eq_mul_left hz (a1.symm.trans a2)
  rw [ek, b1, b2, ed]
end OT

set_option Elab.async false
set_option linter.all false
set_option maxRecDepth 100000
set_option maxHeartbeats 1000000
-- own words
namespace OT
section
variable {n : Int} {F : List Fact} (T : TreeM n F) (n2 : 2 ≤ n)
include T n2
theorem Pw.geo {f : Nat → Nd} {s e : Nat} (h : Pw F f s e) (se : s ≤ e) (ne : f s ≠ f e) : Geo F (e - s) (fun t => f (s + t)) := by
  rcases h with h | h
  · exact absurd (h e se (Nat.le_refl _)).symm ne
  · exact h
theorem Pw.gat {f : Nat → Nd} {s e : Nat} (h : Pw F f s e) (se : s < e) (oe : OnT F 1 (f e)) (eq : f s = f e) : ∀ t, s ≤ t → t ≤ e → f t = f s := by
  rcases h with h | h
  · exact h
  · exfalso
    have h1 := h.far
    rw [show s + 0 = s from rfl, show s + (e - s) = e by omega, eq, Dn_self T n2 oe] at h1
    omega
theorem Geo.ne {f : Nat → Nd} {s e : Nat} (h : Geo F (e - s) (fun t => f (s + t))) (se : s < e) (oe : OnT F 1 (f e)) : f s ≠ f e := fun eq => by
  have h1 := h.far
  rw [show s + 0 = s from rfl, show s + (e - s) = e by omega, eq, Dn_self T n2 oe] at h1
  omega
/-- two stretches behind each other are one just if they say so -/
theorem pw_join {f : Nat → Nd} {s m e : Nat} (sm : s < m) (me : m < e) (on_ : ∀ t, s ≤ t → t ≤ e → OnT F 1 (f t)) (p1 : Pw F f s m) (p2 : Pw F f m e) : ((f s = f m ↔ f m = f e) ∧ (f s = f m ∨ Dn F (f s) (f e) = (e : Int) - (s : Int))) ↔ Pw F f s e := by
  have os := on_ s (Nat.le_refl _) (by omega)
  have om := on_ m (by omega) (by omega)
  have oe := on_ e (by omega) (Nat.le_refl _)
  constructor
  · rintro ⟨iff, h⟩
    by_cases c : f s = f m
    · have a1 := p1.gat T n2 sm om c
      have a2 := p2.gat T n2 me oe (iff.mp c)
      refine .inl fun t t1 t2 => ?_
      by_cases q : t ≤ m
      · exact a1 t t1 q
      · rw [a2 t (by omega) t2, c]
    · have g1 := p1.geo T n2 (by omega) c
      have g2 := p2.geo T n2 (by omega) fun z => c (iff.mpr z)
      refine .inr ⟨fun t ht => ?_, fun t ht => on_ (s + t) (by omega) (by omega), ?_⟩
      · by_cases q : t < m - s
        · exact g1.ch t q
        · have := g2.ch (t - (m - s)) (by omega)
          rw [show m + (t - (m - s)) = s + t by omega, show m + (t - (m - s) + 1) = s + (t + 1) by omega] at this
          exact this
      · show Dn F (f (s + 0)) (f (s + (e - s))) = ((e - s : Nat) : Int)
        rw [Nat.add_zero, show s + (e - s) = e by omega, h.resolve_left c]
        omega
  · intro h
    rcases h with h | h
    · have e1 := h m (by omega) (by omega)
      have e2 := h e (by omega) (Nat.le_refl _)
      exact ⟨⟨fun _ => by rw [e1, e2], fun _ => e1.symm⟩, .inl e1.symm⟩
    · have g1 : Geo F (m - s) (fun t => f (s + t)) := by
        have := h.sub T n2 (a := 0) (b := m - s) (by omega)
        simp only [Nat.zero_add] at this
        exact this
      have g2 : Geo F (e - m) (fun t => f (m + t)) := by
        have := h.sub T n2 (a := m - s) (b := e - m) (by omega)
        have e' : (fun t => f (s + (m - s + t))) = fun t => f (m + t) := funext fun t => by rw [show s + (m - s + t) = m + t by omega]
        rw [e'] at this
        exact this
      refine ⟨⟨fun z => absurd z (Geo.ne T n2 g1 sm om), fun z => absurd z (Geo.ne T n2 g2 me oe)⟩, .inr ?_⟩
      have hf := h.far
      rw [Nat.add_zero, show s + (e - s) = e by omega] at hf
      rw [hf]
      omega
end
end OT

set_option Elab.async false
set_option linter.all false
set_option maxRecDepth 100000
set_option maxHeartbeats 1000000
-- own words
namespace OT
/-- a road, and from where to where on it -/
abbrev It := Nat × Nat × Nat
/-- where the next stretch begins -/
def nx (F : List Fact) (k e : Nat) : Nat × Nat := if (e : Int) = sz F 1 k then (k + 1, 0) else (k, e)
def CovS (F : List Fact) : Nat × Nat → Nat × Nat → List It → Prop
  | a, b, [] => a = b
  | a, b, z :: L => (z.1, z.2.1) = a ∧ z.2.1 < z.2.2 ∧ CovS F (nx F z.1 z.2.2) b L
theorem CovS.append {F : List Fact} {b c : Nat × Nat} {M : List It} : ∀ {L : List It} {a : Nat × Nat}, CovS F a b L → CovS F b c M → CovS F a c (L ++ M)
  | [], a, h, k => by
    cases (show a = b from h)
    exact k
  | z :: L, a, ⟨h1, h2, h3⟩, k => ⟨h1, h2, h3.append k⟩
theorem CovS.split {F : List Fact} {c : Nat × Nat} {M : List It} : ∀ {L : List It} {a : Nat × Nat}, CovS F a c (L ++ M) → ∃ b, CovS F a b L ∧ CovS F b c M
  | [], a, h => ⟨a, rfl, h⟩
  | z :: L, a, ⟨h1, h2, h3⟩ => by
    obtain ⟨b, x, y⟩ := CovS.split (L := L) h3
    exact ⟨b, ⟨h1, h2, x⟩, y⟩
theorem CovS.snoc {F : List Fact} {a b : Nat × Nat} {L : List It} {z : It} (h : CovS F a b L) (e : (z.1, z.2.1) = b) (lt : z.2.1 < z.2.2) : CovS F a (nx F z.1 z.2.2) (L ++ [z]) := h.append ⟨e, lt, rfl⟩
/-- a stretch that says what is so -/
structure ItOk (F : List Fact) (f : Nat → Nat → Nd) (z : It) : Prop where
  lt : z.2.1 < z.2.2
  pw : Pw F (f z.1) z.2.1 z.2.2
  on_ : ∀ t, z.2.1 ≤ t → t ≤ z.2.2 → OnT F 1 (f z.1 t)
structure JOk (F : List Fact) (f : Nat → Nat → Nd) (a b : Nat × Nat) (M : List It) : Prop where
  cov : CovS F a b M
  ok : ∀ z ∈ M, ItOk F f z
  max : ∀ i y z, M[i]? = some y → M[i + 1]? = some z → y.1 = z.1 → ¬ Pw F (f y.1) y.2.1 z.2.2
theorem jok_nil (F : List Fact) (f : Nat → Nat → Nd) (a : Nat × Nat) : JOk F f a a [] := ⟨rfl, fun z hz => (by cases hz), fun i y z h => (by simp at h)⟩
theorem Pw.pre {n : Int} {F : List Fact} (T : TreeM n F) (n2 : 2 ≤ n) {f : Nat → Nd} {s m e : Nat} (h : Pw F f s e) (sm : s ≤ m) (me : m ≤ e) : Pw F f s m := by
  rcases h with h | h
  · exact .inl fun t t1 t2 => h t t1 (by omega)
  · refine .inr ?_
    have := h.sub T n2 (a := 0) (b := m - s) (by omega)
    simp only [Nat.zero_add] at this
    exact this
theorem max_snoc {F : List Fact} {f : Nat → Nat → Nd} {M : List It} {z : It} (h : ∀ i y z, M[i]? = some y → M[i + 1]? = some z → y.1 = z.1 → ¬ Pw F (f y.1) y.2.1 z.2.2) (l : ∀ y, M.getLast? = some y → y.1 = z.1 → ¬ Pw F (f y.1) y.2.1 z.2.2) : ∀ i y w, (M ++ [z])[i]? = some y → (M ++ [z])[i + 1]? = some w → y.1 = w.1 → ¬ Pw F (f y.1) y.2.1 w.2.2 := fun i y w hy hw e => by
  have lw := (List.getElem?_eq_some_iff.mp hw).1
  rw [List.length_append] at lw
  have lw : i + 1 < M.length + 1 := lw
  rw [List.getElem?_append_left (by omega)] at hy
  by_cases q : i + 1 < M.length
  · rw [List.getElem?_append_left q] at hw
    exact h i y w hy hw e
  · have ei : i + 1 = M.length := by omega
    rw [ei, List.getElem?_append_right (Nat.le_refl _), Nat.sub_self] at hw
    cases hw
    refine l y ?_ e
    rw [List.getLast?_eq_getElem?, ← ei]
    exact hy
theorem JOk.push {F : List Fact} {f : Nat → Nat → Nd} {a b : Nat × Nat} {M : List It} {z : It} (h : JOk F f a b M) (oz : ItOk F f z) (e : (z.1, z.2.1) = b) (l : ∀ y, M.getLast? = some y → y.1 = z.1 → ¬ Pw F (f y.1) y.2.1 z.2.2) : JOk F f a (nx F z.1 z.2.2) (M ++ [z]) :=
  ⟨h.cov.snoc e oz.lt, fun y hy => (List.mem_append.mp hy).elim (h.ok y) fun q => by rw [List.mem_singleton.mp q]; exact oz, max_snoc h.max l⟩
theorem last_of {F : List Fact} {a b : Nat × Nat} {M : List It} {y : It} (h : CovS F a b (M ++ [y])) : ∃ c, CovS F a c M ∧ (y.1, y.2.1) = c ∧ y.2.1 < y.2.2 ∧ nx F y.1 y.2.2 = b := by
  obtain ⟨c, h1, h2, h3, h4⟩ := CovS.split h
  exact ⟨c, h1, h2, h3, h4⟩
/-- behind a stretch of the same road there is no gap -/
theorem nx_same {F : List Fact} {k e k' s : Nat} (h : nx F k e = (k', s)) (q : k = k') : e = s := by
  unfold nx at h
  split at h
  · have := (Prod.mk.inj h).1
    omega
  · exact (Prod.mk.inj h).2
theorem JOk.merge {n : Int} {F : List Fact} (T : TreeM n F) (n2 : 2 ≤ n) {f : Nat → Nat → Nd} {a b : Nat × Nat} {M : List It} {y z : It} (h : JOk F f a b (M ++ [y])) (oz : ItOk F f z) (e : (z.1, z.2.1) = b) (q : y.1 = z.1) (pw : Pw F (f y.1) y.2.1 z.2.2) : JOk F f a (nx F z.1 z.2.2) (M ++ [(y.1, y.2.1, z.2.2)]) := by
  obtain ⟨c, h1, h2, h3, h4⟩ := last_of h.cov
  have ee := nx_same (h4.trans e.symm) q
  have oy := h.ok y (List.mem_append_right _ (List.mem_singleton.mpr rfl))
  have lz := oz.lt
  have oM : ∀ w ∈ M, ItOk F f w := fun w hw => h.ok w (List.mem_append_left _ hw)
  have mM : ∀ i u w, M[i]? = some u → M[i + 1]? = some w → u.1 = w.1 → ¬ Pw F (f u.1) u.2.1 w.2.2 := fun i u w hu hw => h.max i u w (by rw [List.getElem?_append_left (List.getElem?_eq_some_iff.mp hu).1]; exact hu) (by rw [List.getElem?_append_left (List.getElem?_eq_some_iff.mp hw).1]; exact hw)
  have jM : JOk F f a c M := ⟨h1, oM, mM⟩
  have on' : ItOk F f (y.1, y.2.1, z.2.2) := ⟨by show y.2.1 < z.2.2; omega, pw, fun t t1 t2 => by
    by_cases tt : t ≤ y.2.2
    · exact oy.on_ t t1 tt
    · have := oz.on_ t (by omega) t2
      rw [← q] at this
      exact this⟩
  have r := jM.push (z := (y.1, y.2.1, z.2.2)) on' h2 fun w hw qw pz => by
    have li : M.length - 1 + 1 = M.length := by
      cases M with
      | nil => cases hw
      | cons _ _ => simp
    obtain ⟨M1, hM1⟩ := List.getLast?_eq_some_iff.mp hw
    have c1 : w.2.1 ≤ y.2.2 := by
      rw [hM1] at h1
      obtain ⟨_, _, _, lw, nw⟩ := last_of h1
      have qw' : w.1 = y.1 := qw
      have := nx_same (nw.trans h2.symm) qw'
      omega
    rw [List.getLast?_eq_getElem?] at hw
    refine h.max (M.length - 1) w y (by rw [List.getElem?_append_left (List.getElem?_eq_some_iff.mp hw).1]; exact hw) (by rw [li, List.getElem?_append_right (Nat.le_refl _), Nat.sub_self]; rfl) qw ?_
    exact Pw.pre T n2 pz c1 (by show y.2.2 ≤ z.2.2; omega)
  rw [← q]
  exact r
end OT

set_option Elab.async false
set_option linter.all false
set_option maxRecDepth 100000
set_option maxHeartbeats 1000000
-- own words
namespace OT
/-- the pieces of one stretch, as items of its road -/
theorem CovS.pieces {F : List Fact} {k e : Nat} (he : (e : Int) ≤ sz F 1 k) : ∀ {L : List (Nat × Nat)} {s : Nat}, s < e → Cov s e L → CovS F (k, s) (nx F k e) (L.map fun z => (k, z.1, z.2))
  | [], s, lt, h => by
    have : s = e := h
    omega
  | z :: L, s, lt, ⟨h1, h2, h3⟩ => by
    subst h1
    refine ⟨rfl, h2, ?_⟩
    show CovS F (nx F k z.2) (nx F k e) (L.map fun z => (k, z.1, z.2))
    by_cases q : z.2 = e
    · have := h3.le.2
      rw [q, Nat.sub_self] at this
      have el : L = [] := List.length_eq_zero_iff.mp (Nat.le_zero.mp this)
      rw [el, q]
      exact rfl
    · have lz := h3.le.1
      have nz : nx F k z.2 = (k, z.2) := by
        unfold nx
        rw [if_neg (by omega)]
      rw [nz]
      exact CovS.pieces he (by omega) h3
/-- each item put as its pieces -/
theorem CovS.flat {F : List Fact} {b : Nat × Nat} {g : It → List (Nat × Nat)} : ∀ {L : List It} {a : Nat × Nat}, CovS F a b L → (∀ z ∈ L, (z.2.2 : Int) ≤ sz F 1 z.1 ∧ Cov z.2.1 z.2.2 (g z)) → CovS F a b (L.flatMap fun z => (g z).map fun w => (z.1, w.1, w.2))
  | [], a, h, _ => h
  | z :: L, a, ⟨h1, h2, h3⟩, h => by
    subst h1
    obtain ⟨x, y⟩ := h z (List.mem_cons_self ..)
    rw [List.flatMap_cons]
    exact (CovS.pieces x h2 y).append (h3.flat fun w hw => h w (List.mem_cons_of_mem _ hw))
/-- what lies before, or is the same -/
def Le2 (a b : Nat × Nat) : Prop := a.1 < b.1 ∨ (a.1 = b.1 ∧ a.2 ≤ b.2)
theorem Le2.trans {a b c : Nat × Nat} (h : Le2 a b) (k : Le2 b c) : Le2 a c := by
  unfold Le2 at *
  omega
theorem nx_fwd {F : List Fact} {k s e : Nat} (h : s < e) : Le2 (k, s + 1) (nx F k e) := by
  unfold nx Le2
  split
  · exact .inl (Nat.lt_succ_self k)
  · exact .inr ⟨rfl, h⟩
/-- items lead forward only -/
theorem CovS.fwd {F : List Fact} {b : Nat × Nat} : ∀ {L : List It} {a : Nat × Nat}, CovS F a b L → Le2 a b ∧ (L ≠ [] → Le2 (a.1, a.2 + 1) b)
  | [], a, h => by
    cases (show a = b from h)
    exact ⟨.inr ⟨rfl, Nat.le_refl _⟩, fun h => absurd rfl h⟩
  | z :: L, a, ⟨h1, h2, h3⟩ => by
    subst h1
    have r := (nx_fwd h2).trans h3.fwd.1
    refine ⟨?_, fun _ => r⟩
    unfold Le2 at r ⊢
    dsimp only at r ⊢
    omega
end OT

set_option Elab.async false
set_option linter.all false
set_option maxRecDepth 100000
set_option maxHeartbeats 1000000
-- own words
namespace OT
/-- f tells where the marches gs lead each whole position of a road -/
def Img (F : List Fact) (gs : List MG) (f : Nat → Nat → Nd) : Prop := ∀ k t : Nat, k < F.length → (t : Int) ≤ sz F 1 k → GoL F 1 gs (node F 1 k ((t : Nat) : Int)) (f k t)
theorem Img.zero (F : List Fact) : Img F [] (fun k t => node F 1 k ((t : Nat) : Int)) := fun k t _ _ => rfl
/-- where a path is cut -/
def Cut (f : Nat → Nd) (t : Nat) : Prop := ¬ (f (t - 1) = f t ↔ f t = f (t + 1)) ∨ (f (t - 1) ≠ f t ∧ f (t - 1) = f (t + 1))
structure CutOk (F : List Fact) (f : Nat → Nat → Nd) (a b : Nat × Nat) (M : List It) : Prop where
  cov : CovS F a b M
  inn : ∀ z ∈ M, ∀ t, z.2.1 < t → t < z.2.2 → ¬ Cut (f z.1) t
  bnd : ∀ i y z, M[i]? = some y → M[i + 1]? = some z → y.1 = z.1 → Cut (f y.1) y.2.2
theorem covS_stuck {F : List Fact} {b : Nat × Nat} : ∀ {L : List It} {k e : Nat}, CovS F (k, e) b L → sz F 1 k < (e : Int) → b.1 = k
  | [], k, e, h, _ => by
    cases (show (k, e) = b from h)
    rfl
  | z :: L, k, e, ⟨h1, h2, h3⟩, lt => by
    have e1 : z.1 = k := (Prod.mk.inj h1).1
    have e2 : z.2.1 = e := (Prod.mk.inj h1).2
    have nz : nx F z.1 z.2.2 = (k, z.2.2) := by
      unfold nx
      rw [e1, if_neg (by omega)]
    rw [nz] at h3
    exact covS_stuck h3 (by omega)
/-- items that lead to the tree's end lie on its roads -/
theorem CovS.in_ {F : List Fact} {N : Nat} : ∀ {L : List It} {a : Nat × Nat}, CovS F a (N, 0) L → ∀ z ∈ L, z.1 < N ∧ (z.2.2 : Int) ≤ sz F 1 z.1
  | [], _, _, z, h => by cases h
  | y :: L, a, ⟨h1, h2, h3⟩, z, h => by
    rcases List.mem_cons.mp h with e | h
    · subst e
      have fw := h3.fwd.1
      by_cases q : (z.2.2 : Int) = sz F 1 z.1
      · have nz : nx F z.1 z.2.2 = (z.1 + 1, 0) := by
          unfold nx
          rw [if_pos q]
        rw [nz] at fw
        unfold Le2 at fw
        dsimp only at fw
        omega
      · have nz : nx F z.1 z.2.2 = (z.1, z.2.2) := by
          unfold nx
          rw [if_neg q]
        rw [nz] at fw h3
        unfold Le2 at fw
        dsimp only at fw
        refine ⟨by omega, ?_⟩
        by_cases w : sz F 1 z.1 < (z.2.2 : Int)
        · have := covS_stuck h3 w
          dsimp only at this
          omega
        · omega
    · exact CovS.in_ h3 z h
/-- one list of longest stretches there is -/
theorem CutOk.uniq {F : List Fact} {f : Nat → Nat → Nd} {N : Nat} : ∀ {L M : List It} {a : Nat × Nat}, CutOk F f a (N, 0) L → CutOk F f a (N, 0) M → L = M
  | [], M, a, h, k => by
    cases M with
    | nil => rfl
    | cons z M =>
      exfalso
      have e : a = (N, 0) := h.cov
      have := k.cov.fwd.2 (fun z => nomatch z)
      rw [e] at this
      unfold Le2 at this
      dsimp only at this
      omega
  | y :: L, M, a, h, k => by
    cases M with
    | nil =>
      exfalso
      have e : a = (N, 0) := k.cov
      have := h.cov.fwd.2 (fun z => nomatch z)
      rw [e] at this
      unfold Le2 at this
      dsimp only at this
      omega
    | cons z M =>
      have key : ∀ {y z : It} {L M : List It}, CutOk F f a (N, 0) (y :: L) → CutOk F f a (N, 0) (z :: M) → ¬ y.2.2 < z.2.2 := fun {y z L M} h k lt => by
        obtain ⟨h1, h2, h3⟩ := h.cov
        obtain ⟨k1, k2, k3⟩ := id k.cov
        have e1 : z.1 = y.1 := (Prod.mk.inj (k1.trans h1.symm)).1
        have e2 : z.2.1 = y.2.1 := (Prod.mk.inj (k1.trans h1.symm)).2
        have iz := CovS.in_ k.cov z (List.mem_cons_self ..)
        have nz : nx F y.1 y.2.2 = (y.1, y.2.2) := by
          unfold nx
          rw [← e1, if_neg (by omega)]
        rw [nz] at h3
        cases L with
        | nil =>
          have : (y.1, y.2.2) = (N, 0) := h3
          have := (Prod.mk.inj this).2
          omega
        | cons w L =>
          obtain ⟨w1, w2, _⟩ := h3
          have c := h.bnd 0 y w rfl rfl (Prod.mk.inj w1).1.symm
          exact k.inn z (List.mem_cons_self ..) y.2.2 (by omega) lt (by rw [e1]; exact c)
      have n1 := key h k
      have n2 := key k h
      obtain ⟨h1, h2, h3⟩ := id h.cov
      obtain ⟨k1, k2, k3⟩ := id k.cov
      have e1 : y.1 = z.1 := (Prod.mk.inj (h1.trans k1.symm)).1
      have e2 : y.2.1 = z.2.1 := (Prod.mk.inj (h1.trans k1.symm)).2
      have e3 : y.2.2 = z.2.2 := by omega
      obtain ⟨y1, y2, y3⟩ := y
      obtain ⟨z1, z2, z3⟩ := z
      dsimp only at e1 e2 e3
      subst e1 e2 e3
      have tl : ∀ {L : List It}, CutOk F f a (N, 0) ((y1, y2, y3) :: L) → CutOk F f (nx F y1 y3) (N, 0) L := fun {L} h => ⟨h.cov.2.2, fun w hw => h.inn w (List.mem_cons_of_mem _ hw), fun i u w hu hw => h.bnd (i + 1) u w hu hw⟩
      rw [CutOk.uniq (tl h) (tl k)]
section
variable {n : Int} {F : List Fact} (T : TreeM n F) (n2 : 2 ≤ n)
include T n2
theorem Img.next {gs : List MG} {f : Nat → Nat → Nd} {x : MG} (ok : ∀ y ∈ gs, MgOk F y) (h : Img F gs f) : ∃ f', Img F (gs ++ [x]) f' ∧ ∀ k t : Nat, k < F.length → (t : Int) ≤ sz F 1 k → Go F 1 x.1 x.2.1 x.2.2 (f k t) (f' k t) := by
  have ex : ∀ k t : Nat, ∃ v, k < F.length → (t : Int) ≤ sz F 1 k → Go F 1 x.1 x.2.1 x.2.2 (f k t) v := fun k t => by
    by_cases c : k < F.length ∧ (t : Int) ≤ sz F 1 k
    · have o : OnT F 1 (f k t) := GoL.on T (by decide) ok ⟨k, (t : Nat), ⟨c.1, Int.natCast_nonneg t, c.2⟩, rfl⟩ (h k t c.1 c.2)
      obtain ⟨v, hv⟩ := Go.ex (g := x.1) (p := x.2.1) (m := x.2.2) o
      exact ⟨v, fun _ _ => hv⟩
    · exact ⟨.cr 0, fun a b => absurd ⟨a, b⟩ c⟩
  obtain ⟨f', hf⟩ := Classical.skolem.mp fun k => Classical.skolem.mp (ex k)
  refine ⟨f', fun k t hk ht => (h k t hk ht).snoc ?_, hf⟩
  show Go F 1 x.1 (x.2.1 * 1) (x.2.2 * 1) _ _
  rw [Int.mul_one, Int.mul_one]
  exact hf k t hk ht
theorem Img.on {gs : List MG} {f : Nat → Nat → Nd} (ok : ∀ y ∈ gs, MgOk F y) (h : Img F gs f) {k t : Nat} (hk : k < F.length) (ht : (t : Int) ≤ sz F 1 k) : OnT F 1 (f k t) :=
  GoL.on T (by decide) ok ⟨k, (t : Nat), ⟨hk, Int.natCast_nonneg t, ht⟩, rfl⟩ (h k t hk ht)
theorem road_geo {k L : Nat} (hk : k < F.length) (hL : (L : Int) ≤ sz F 1 k) : Geo F L (fun t => node F 1 k ((t : Nat) : Int)) := by
  have on_ : ∀ t : Nat, t ≤ L → On F 1 k ((t : Nat) : Int) := fun t ht => ⟨hk, Int.natCast_nonneg t, by omega⟩
  refine ⟨fun t ht => ⟨k, (t : Nat), hk, Int.natCast_nonneg t, by omega, .inl ⟨rfl, ?_⟩⟩, fun t ht => ⟨k, _, on_ t ht, rfl⟩, ?_⟩
  · show node F 1 k ((t + 1 : Nat) : Int) = _
    rw [Int.natCast_succ]
  · have e := Dn_hP T n2 (on_ 0 (Nat.zero_le _)) (on_ L (Nat.le_refl _))
    show Dn F (node F 1 k ((0 : Nat) : Int)) (node F 1 k ((L : Nat) : Int)) = _
    rw [e, hP_g]
    unfold dst
    split <;> omega
theorem adj_ne {u v : Nd} (a : Adj F 1 u v) : u ≠ v := fun e => by
  have h := Dn_adj T n2 a a.on.1
  rw [← e] at h
  omega
/-- a path that doesn't turn back stays one -/
theorem Geo.ext {c : Nat} {x : Nat → Nd} (h : Geo F c x) (c1 : 1 ≤ c) (ad : Adj F 1 (x c) (x (c + 1))) (ne : x (c - 1) ≠ x (c + 1)) : Geo F (c + 1) x := by
  have o0 := h.on_ 0 (Nat.zero_le _)
  have on_ : ∀ t, t ≤ c + 1 → OnT F 1 (x t) := fun t ht => by
    by_cases q : t ≤ c
    · exact h.on_ t q
    · have : t = c + 1 := by omega
      subst this
      exact ad.on.2
  refine ⟨fun t ht => ?_, on_, ?_⟩
  · by_cases q : t < c
    · exact h.ch t q
    · have : t = c := by omega
      subst this
      exact ad
  · have st := Dn_adj T n2 ad o0
    have dc := h.far
    rw [Dn_sym T n2 o0 (on_ c (by omega))] at dc
    rw [Dn_sym T n2 o0 (on_ (c + 1) (Nat.le_refl _))]
    rcases st with s | s
    · rw [s, dc]
      omega
    · exfalso
      have d1 := (h.sub T n2 (a := 0) (b := c - 1) (by omega)).far
      simp only [Nat.zero_add] at d1
      rw [Dn_sym T n2 o0 (on_ (c - 1) (by omega))] at d1
      have a1 : Adj F 1 (x c) (x (c - 1)) := by
        have := (h.ch (c - 1) (by omega)).symm
        rw [show c - 1 + 1 = c by omega] at this
        exact this
      have oc1 := on_ (c - 1) (by omega)
      have oc := on_ c (by omega)
      have oc2 := on_ (c + 1) (Nat.le_refl _)
      obtain ⟨g, p, og, e0⟩ := o0
      have hN_ : ∀ {u : Nd}, OnT F 1 u → Dn F u (x 0) = hN F 1 g p u := fun ou => Dn_hN T n2 ou ⟨g, p, og, e0⟩ og e0.symm
      rw [hN_ oc1] at d1
      rw [hN_ oc] at dc
      rw [hN_ oc2, hN_ oc] at s
      exact ne (lower_uniq T (by decide) og a1 ad (by omega) (by omega))
theorem Pw.no_cut {f : Nat → Nd} {s e : Nat} (h : Pw F f s e) {t : Nat} (h1 : s < t) (h2 : t < e) : ¬ Cut f t := by
  rcases h with h | h
  · have a1 := h (t - 1) (by omega) (by omega)
    have a2 := h t (by omega) (by omega)
    have a3 := h (t + 1) (by omega) (by omega)
    rintro (c | c)
    · exact c ⟨fun _ => by rw [a2, a3], fun _ => by rw [a1, a2]⟩
    · exact c.1 (by rw [a1, a2])
  · have c1 := h.ch (t - 1 - s) (by omega)
    have c2 := h.ch (t - s) (by omega)
    have c3 := (h.sub T n2 (a := t - 1 - s) (b := 2) (by omega)).far
    have n1 := adj_ne T n2 c1
    have n2' := adj_ne T n2 c2
    simp only [Nat.add_zero] at c3
    rw [show s + (t - 1 - s) = t - 1 by omega] at n1 c3
    rw [show s + (t - 1 - s + 1) = t by omega] at n1
    rw [show s + (t - s) = t by omega, show s + (t - s + 1) = t + 1 by omega] at n2'
    rw [show s + (t - 1 - s + 2) = t + 1 by omega] at c3
    rintro (c | c)
    · exact c ⟨fun z => absurd z n1, fun z => absurd z n2'⟩
    · have o := h.on_ (t + 1 - s) (by omega)
      rw [show s + (t + 1 - s) = t + 1 by omega] at o
      rw [c.2, Dn_self T n2 o] at c3
      omega
theorem pw_union {f : Nat → Nd} {s m e : Nat} (sm : s < m) (me : m < e) (p1 : Pw F f s m) (p2 : Pw F f m e) (nc : ¬ Cut f m) : Pw F f s e := by
  have nc1 : (f (m - 1) = f m ↔ f m = f (m + 1)) := Classical.byContradiction fun z => nc (.inl z)
  rcases p1 with p1 | p1
  · have a1 := p1 (m - 1) (by omega) (by omega)
    have a2 := p1 m (by omega) (by omega)
    have st : f m = f (m + 1) := nc1.mp (by rw [a1, a2])
    rcases p2 with p2 | p2
    · refine .inl fun t t1 t2 => ?_
      by_cases q : t ≤ m
      · exact p1 t t1 q
      · rw [p2 t (by omega) t2, a2]
    · have := adj_ne T n2 (p2.ch 0 (by omega))
      exact absurd st this
  · have c1 := adj_ne T n2 (p1.ch (m - 1 - s) (by omega))
    rw [show s + (m - 1 - s) = m - 1 by omega, show s + (m - 1 - s + 1) = m by omega] at c1
    have st : f m ≠ f (m + 1) := fun z => c1 (nc1.mpr z)
    have nb : f (m - 1) ≠ f (m + 1) := fun z => nc (.inr ⟨c1, z⟩)
    rcases p2 with p2 | p2
    · exact absurd (p2 (m + 1) (by omega) (by omega)).symm st
    · have grow : ∀ j, j ≤ e - m → Geo F (m - s + j) (fun t => f (s + t)) := fun j => by
        induction j with
        | zero => exact fun _ => p1
        | succ j ih =>
          intro hj
          have g := ih (by omega)
          refine g.ext T n2 (by omega) ?_ ?_
          · have := p2.ch j (by omega)
            show Adj F 1 (f (s + (m - s + j))) (f (s + (m - s + j + 1)))
            rw [show s + (m - s + j) = m + j by omega, show s + (m - s + j + 1) = m + (j + 1) by omega]
            exact this
          · show f (s + (m - s + j - 1)) ≠ f (s + (m - s + j + 1))
            rw [show s + (m - s + j + 1) = m + j + 1 by omega]
            by_cases q : j = 0
            · subst q
              rw [show s + (m - s + 0 - 1) = m - 1 by omega, Nat.add_zero]
              exact nb
            · rw [show s + (m - s + j - 1) = m + (j - 1) by omega]
              intro z
              have c3 := (p2.sub T n2 (a := j - 1) (b := 2) (by omega)).far
              simp only [Nat.add_zero] at c3
              rw [show m + (j - 1 + 2) = m + j + 1 by omega, z] at c3
              have o := p2.on_ (j + 1) (by omega)
              rw [show m + (j + 1) = m + j + 1 by omega] at o
              rw [Dn_self T n2 o] at c3
              omega
      have g := grow (e - m) (Nat.le_refl _)
      rw [show m - s + (e - m) = e - s by omega] at g
      exact .inr g
theorem JOk.cut {f : Nat → Nat → Nd} {a b : Nat × Nat} {M : List It} (h : JOk F f a b M) : CutOk F f a b M := by
  refine ⟨h.cov, fun z hz t t1 t2 => (h.ok z hz).pw.no_cut T n2 t1 t2, fun i y z hy hz e => Classical.byContradiction fun nc => h.max i y z hy hz e ?_⟩
  have oy := h.ok y (List.mem_of_getElem? hy)
  have oz := h.ok z (List.mem_of_getElem? hz)
  have em : y.2.2 = z.2.1 := by
    have ly : M = M.take i ++ y :: z :: M.drop (i + 2) := by
      have l2 := (List.getElem?_eq_some_iff.mp hz).1
      have e1 : M.drop i = y :: M.drop (i + 1) := by
        rw [List.drop_eq_getElem_cons (by omega)]
        congr 1
        exact (List.getElem?_eq_some_iff.mp hy).2
      have e2 : M.drop (i + 1) = z :: M.drop (i + 2) := by
        rw [List.drop_eq_getElem_cons (by omega)]
        congr 1
        exact (List.getElem?_eq_some_iff.mp hz).2
      rw [← e2, ← e1, List.take_append_drop]
    have hc := h.cov
    rw [ly] at hc
    obtain ⟨c, _, _, _, h4, _, _⟩ := CovS.split hc
    exact nx_same h4.symm e
  refine pw_union T n2 oy.lt (by rw [em]; exact oz.lt) oy.pw ?_ nc
  rw [em, e]
  exact oz.pw
/-- a road each, from end to end -/
def bsI (F : List Fact) (k : Nat) : It := (k, 0, (sz F 1 k).toNat)
omit n2 in
theorem sz_pos1 {k : Nat} (hk : k < F.length) : 1 ≤ sz F 1 k := by
  unfold sz
  rw [Int.mul_one]
  exact (rd_ok T hk).2.2.1
theorem base_jok : ∀ {i : Nat}, i ≤ F.length → JOk F (fun k t => node F 1 k ((t : Nat) : Int)) (0, 0) (i, 0) ((List.range i).map (bsI F))
  | 0, _ => jok_nil ..
  | i + 1, hi => by
    have ih := base_jok (i := i) (by omega)
    have p := sz_pos1 T (k := i) (by omega)
    have ec : (((sz F 1 i).toNat : Nat) : Int) = sz F 1 i := Int.toNat_of_nonneg (by omega)
    have it : ItOk F (fun k t => node F 1 k ((t : Nat) : Int)) (bsI F i) := ⟨by show 0 < (sz F 1 i).toNat; omega, .inr (by
      have := road_geo T n2 (k := i) (L := (sz F 1 i).toNat) (by omega) (by omega)
      show Geo F ((sz F 1 i).toNat - 0) (fun t => node F 1 i ((0 + t : Nat) : Int))
      simp only [Nat.zero_add]
      exact this), fun t _ ht => ⟨i, (t : Nat), ⟨by omega, Int.natCast_nonneg t, by have : t ≤ (sz F 1 i).toNat := ht; omega⟩, rfl⟩⟩
    have r := ih.push it rfl fun y hy ey => by
      exfalso
      rw [List.getLast?_eq_getElem?] at hy
      obtain ⟨l, e⟩ := List.getElem?_eq_some_iff.mp hy
      rw [List.getElem_map, List.getElem_range] at e
      rw [List.length_map, List.length_range] at l e
      rw [← e] at ey
      have : i - 1 = i := ey
      omega
    rw [List.range_succ, List.map_append]
    have nz : nx F (bsI F i).1 (bsI F i).2.2 = (i + 1, 0) := by
      unfold nx
      rw [if_pos (show (((bsI F i).2.2 : Nat) : Int) = sz F 1 (bsI F i).1 from ec)]
      rfl
    rw [nz] at r
    exact r
end
end OT

set_option Elab.async false
set_option linter.all false
set_option maxRecDepth 100000
set_option maxHeartbeats 4000000
-- own words
namespace OT
open PySem L2 OTR
abbrev sIsOne : Stmt := top 49
def spIsOne (K : PySem.W.Frag) (CT CR CP CS : Addr) : Sp := fun vs H Q _ => ∃ (x p1 p2 : Addr) (n : Int) (ps : List Addr) (F : List Fact) (k1 k2 s1 e1 s2 e2 : Nat) (f1 f2 : Nat → Nd), vs = [.ref x, .ref p1, .ref p2] ∧ TreeAt K CT CR H x n ps F ∧ TreeG n F ∧ SpAt CS CP F H k1 f1 p1 (s1, e1) ∧ SpAt CS CP F H k2 f2 p2 (s2, e2) ∧ OnT F 1 (f1 s1) ∧ OnT F 1 (f1 e1) ∧ OnT F 1 (f2 s2) ∧ OnT F 1 (f2 e2) ∧
  ∀ H' (c : Bool), Same H H' → (c = true ↔ k1 = k2 ∧ (f1 s1 = f1 e1 ↔ f2 s2 = f2 e2) ∧ (f1 s1 = f1 e1 ∨ Dn F (f1 s1) (f2 e2) = (e2 : Int) - (s1 : Int))) → Q (.bl c) H'
section
variable {P : Program} {w : World} {K : PySem.W.Frag} {mg : Str → Option Value} {base : Heap}
abbrev nIsOne : List Str := ["tree", "one", "other"]
theorem scIsOne : FnScope nIsOne ["tree", "one", "other"] (defScope sIsOne) := ⟨rfl, rfl, rfl, by decide +kernel, rfl, by decide +kernel, by decide +kernel⟩
theorem ok_isOne {f0 fGA fSB CT CR CP CS : Addr} {fd fdGA fdSB : FuncData} (F0 : Fun K "is_one" "is_one" sIsOne f0 fd) (TS : StT K mg CS)
    (FGA : FnOk P w K mg base CX0 2 fGA fdGA ["stretch"] (spGath CS CP)) (bGA : Binds K fdGA ["stretch"] []) (mGA : mg "is_gathered" = some (.ref fGA)) (kGA : PySem.W.keepIn K (.ref fGA) = true)
    (FSB : FnOk P w K mg base CX0 5 fSB fdSB ["tree", "one", "other"] (spStepsB K CT CR CP)) (bSB : Binds K fdSB ["tree", "one", "other"] []) (mSB : mg "steps_between" = some (.ref fSB)) (kSB : PySem.W.keepIn K (.ref fSB) = true) : FnOk P w K mg base CX0 6 f0 fd ["tree", "one", "other"] (spIsOne K CT CR CP CS) := by
  refine F0.ok scIsOne (fun vs H Q E h => ?_) (fun cdv A outer s0 H vs Q E hr h => ?_)
  · obtain ⟨x, p1, p2, n, ps, fs, k1, k2, s1, e1, s2, e2, f1, f2, rfl, _⟩ := h
    rfl
  · obtain ⟨x, p1, p2, n, ps, fs, k1, k2, s1, e1, s2, e2, f1, f2, rfl, TA, TG, ⟨a1, b1, ⟨d1, x1⟩, A1, B1⟩, ⟨a2, b2, ⟨d2, x2⟩, A2, B2⟩, o1, o2, o3, o4, kont⟩ := h
    have T := TG.m
    have hr2 : Room 2 _ := hr.mono (by decide)
    refine ⟨_, pss_cons (ps_if (PW.pt (pw_or (pt_cmpR op_ne (pe_fld (pv 1) rfl) (pe_fld (pv 2) rfl) (nomark _)) (pw_or1 (pt_cmpR op_ne (pe_call FGA hr2 rfl mGA kGA bGA .nil pass0 (pa_cons (pv 1) pa_nil)) (pe_call FGA hr2 rfl mGA kGA bGA .nil pass0 (pa_cons (pv 2) pa_nil)) (nomark _)))))
        (pss_one (ps_ret pe_bl))
        pss_nil)
      (pss_one (ps_ret (pe_or (pe_call FGA hr2 rfl mGA kGA bGA .nil pass0 (pa_cons (pv 1) pa_nil)) (pe_one (pe_cmpR op_eq (pe_call FSB hr rfl mSB kSB bSB .nil pass0 (pa_cons (pv 0) (pa_cons (pe_fld (pv 1) rfl) (pa_cons (pe_fld (pv 2) rfl) pa_nil)))) (pe_op op_sub (pe_fld (pv 2) rfl) (pe_fld (pv 1) rfl)) (nomark _)))))), ?_⟩
    have d1e : decide (keyF fs 1 (f1 s1) = keyF fs 1 (f1 e1)) = decide (f1 s1 = f1 e1) := by
      rw [decide_eq_decide]
      exact ⟨fun z => key_inj T TG.n2 o1 o2 z, fun z => by rw [z]⟩
    have d2e : decide (keyF fs 1 (f2 s2) = keyF fs 1 (f2 e2)) = decide (f2 s2 = f2 e2) := by
      rw [decide_eq_decide]
      exact ⟨fun z => key_inj T TG.n2 o3 o4 z, fun z => by rw [z]⟩
    refine ⟨_, rfl, p1, CS, d1, _, _, rfl, x1, TS.cl, TS.nR, stF_r _, _, rfl, p2, CS, d2, _, _, rfl, x2, TS.cl, TS.nR, stF_r _, rfl, _, rfl, ?_⟩
    by_cases ek : k1 = k2
    · subst ek
      rw [show (!decide (V.int ((k1 : Nat) : Int) = V.int ((k1 : Nat) : Int))) = false by rw [decide_eq_true rfl]; rfl]
      refine iteF ⟨_, rfl, p1, _, _, _, rfl, ⟨d1, x1⟩, A1, B1, _, rfl, p2, _, _, _, rfl, ⟨d2, x2⟩, A2, B2, rfl, _, rfl, ?_⟩
      show if (!decide (V.bl (decide (keyF fs 1 (f1 s1) = keyF fs 1 (f1 e1))) = V.bl (decide (keyF fs 1 (f2 s2) = keyF fs 1 (f2 e2))))) = true then _ else _
      rw [d1e, d2e]
      by_cases same : (f1 s1 = f1 e1 ↔ f2 s2 = f2 e2)
      · have hb : decide (f1 s1 = f1 e1) = decide (f2 s2 = f2 e2) := by rw [decide_eq_decide]; exact same
        rw [hb, decide_eq_true (rfl : V.bl (decide (f2 s2 = f2 e2)) = V.bl (decide (f2 s2 = f2 e2)))]
        refine iteF ⟨_, rfl, p1, _, _, _, rfl, ⟨d1, x1⟩, A1, B1, _, rfl, ?_⟩
        show if decide (keyF fs 1 (f1 s1) = keyF fs 1 (f1 e1)) = true then _ else _
        rw [d1e]
        by_cases c1 : f1 s1 = f1 e1
        · rw [decide_eq_true c1]
          exact iteT (kont H true (Same.refl H) ⟨fun _ => ⟨rfl, same, .inl c1⟩, fun _ => rfl⟩)
        · rw [decide_eq_false c1]
          obtain ⟨ka, ia, pa, na⟩ := key_ple T TG.n2 (show (1 : Int) ≤ 1 by decide) o1
          obtain ⟨kb, ib, pb, nb⟩ := key_ple T TG.n2 (show (1 : Int) ≤ 1 by decide) o4
          refine iteF ⟨_, rfl, _, rfl, p1, CS, d1, _, _, rfl, x1, TS.cl, TS.nF, stF_f _, _, rfl, p2, CS, d2, _, _, rfl, x2, TS.cl, TS.nA, stF_a _, x, a1, b2, n, ps, fs, _, _, ka, kb, ia, ib, rfl, TA, TG, A1, B2, pa, pb, fun H1 sH => ?_⟩
          refine ⟨_, rfl, p2, CS, d2, _, _, rfl, sH _ _ x2, TS.cl, TS.nG, stF_g _, _, rfl, p1, CS, d1, _, _, rfl, sH _ _ x1, TS.cl, TS.nL, stF_l _, _, _, rfl, rfl, rfl, ?_⟩
          have eD : Dn fs (f1 s1) (f2 e2) = hP fs 1 kb ib ka ia := by rw [← na, ← nb, Dn_hP T TG.n2 pa.on pb.on]
          refine kont H1 _ sH ⟨fun z => ⟨rfl, same, .inr ?_⟩, fun z => ?_⟩
          · rw [eD]
            exact V.int.inj (of_decide_eq_true z)
          · refine decide_eq_true (congrArg V.int ?_)
            rw [← eD]
            exact z.2.2.resolve_left c1
      · have hb : ¬ (V.bl (decide (f1 s1 = f1 e1)) = V.bl (decide (f2 s2 = f2 e2))) := fun z => same (decide_eq_decide.mp (V.bl.inj z))
        rw [decide_eq_false hb]
        exact iteT (kont H false (Same.refl H) ⟨fun z => (by cases z), fun z => absurd z.2.1 same⟩)
    · have hne : ¬ (V.int ((k1 : Nat) : Int) = V.int ((k2 : Nat) : Int)) := fun z => ek (by have := V.int.inj z; omega)
      rw [show (!decide (V.int ((k1 : Nat) : Int) = V.int ((k2 : Nat) : Int))) = true by rw [decide_eq_false hne]; rfl]
      exact iteT (kont H false (Same.refl H) ⟨fun z => (by cases z), fun z => absurd z.1 ek⟩)
end
end OT

set_option Elab.async false
set_option linter.all false
set_option maxRecDepth 100000
set_option maxHeartbeats 4000000
-- own words
namespace OT
open PySem L2 OTR
abbrev sJoinedP : Stmt := top 48
def SpL (CS CP : Addr) (F : List Fact) (f : Nat → Nat → Nd) (H : Hp) (p : Addr) (z : It) : Prop := SpAt CS CP F H z.1 (f z.1) p (z.2.1, z.2.2)
def spJoinedP (K : PySem.W.Frag) (CT CR CP CS : Addr) : Sp := fun vs H Q _ => ∃ (x l : Addr) (n : Int) (ps ts : List Addr) (F : List Fact) (f : Nat → Nat → Nd) (L : List It) (a b : Nat × Nat), vs = [.ref x, .ref l] ∧ TreeAt K CT CR H x n ps F ∧ TreeG n F ∧ H l = some (.lst (ts.map V.ref)) ∧ Paired (SpL CS CP F f H) ts L ∧ CovS F a b L ∧ (∀ z ∈ L, ItOk F f z) ∧ L.length ≤ 2000000 ∧
  ∀ D us M H', Same H H' → H D = none → H' D = some (.lst (us.map V.ref)) → Paired (SpL CS CP F f H') us M → JOk F f a b M → M.length ≤ L.length → Q (.ref D) H'
theorem isEmpty_app {α : Type} {a : List α} {x : α} {f : α → V} : (!(a.map f ++ [x].map f).isEmpty) = true := by cases a <;> rfl
theorem ix_lastQ (n : Nat) : ixN (n + 1) (-1) = some n := by
  unfold ixN
  rw [if_neg (by decide), if_pos (by omega)]
  exact congrArg some (by omega)
theorem at_lastQ (xs : List V) (x : V) : atI (xs ++ [x]) (-1) = some x := by
  unfold atI
  rw [List.length_append, show xs.length + [x].length = xs.length + 1 from rfl, ix_lastQ]
  simp
theorem paired_snocQ {α β : Type} {R : α → β → Prop} {b : β} : ∀ {bs : List β} {as : List α}, Paired R as (bs ++ [b]) → ∃ as0 a, as = as0 ++ [a] ∧ Paired R as0 bs ∧ R a b
  | [], _, .cons h .nil => ⟨[], _, rfl, .nil, h⟩
  | _ :: bs, _, .cons h k => by
    obtain ⟨as0, a, rfl, k0, r⟩ := paired_snocQ (bs := bs) k
    exact ⟨_ :: as0, a, rfl, .cons h k0, r⟩
section
variable {P : Program} {w : World} {K : PySem.W.Frag} {mg : Str → Option Value} {base : Heap}
abbrev nJoinedP : List Str := ["tree", "stretches", "found", "stretch", "start"]
theorem scJoinedP : FnScope nJoinedP ["tree", "stretches"] (defScope sJoinedP) := ⟨rfl, rfl, rfl, by decide +kernel, rfl, by decide +kernel, by decide +kernel⟩
theorem ok_joinedP {f0 fIO fSI CT CR CP CS : Addr} {fd fdIO fdSI : FuncData} (F0 : Fun K "joined" "joined" sJoinedP f0 fd) (TS : StT K mg CS)
    (FIO : FnOk P w K mg base CX0 6 fIO fdIO ["tree", "one", "other"] (spIsOne K CT CR CP CS)) (bIO : Binds K fdIO ["tree", "one", "other"] []) (mIO : mg "is_one" = some (.ref fIO)) (kIO : PySem.W.keepIn K (.ref fIO) = true)
    (MSI : Mk K CS fSI) (FSI : FnOk P w K mg base CX0 1 fSI fdSI ["self", "road", "least", "greatest", "first", "last"] (spStretchI CS)) (bSI : Binds K fdSI ["self", "road", "least", "greatest", "first", "last"] []) : FnOk P w K mg base CX0 7 f0 fd ["tree", "stretches"] (spJoinedP K CT CR CP CS) := by
  refine F0.ok scJoinedP (fun vs H Q E h => ?_) (fun cdv A outer s0 H vs Q E hr h => ?_)
  · obtain ⟨x, l, n, ps, ts, fs, f, L, a, b, rfl, _⟩ := h
    rfl
  · obtain ⟨x, l, n, ps, ts, fs, f, L, a, b, rfl, TA, TG, hl, hL, cov, ok, big, kont⟩ := h
    have T := TG.m
    have hr2 : Room 2 _ := hr.mono (by decide)
    have hr6 : Room 6 _ := hr.mono (by decide)
    refine ⟨_, pss_cons (ps_set (i := 2) scJoinedP.nd rfl (Or.inl rfl) (pe_lst pa_nil))
      (pss_cons (ps_for PassesOwn.never rfl (pi_list (pv 1)) (pg_name (i := 3) scJoinedP.nd rfl (Or.inl rfl))
        (pss_one (ps_if (PW.pt (pw_and (pt_truth (pv 2) (fun _ => rfl)) (pw_and1 (pt_val (pe_call FIO hr6 rfl mIO kIO bIO .nil pass0 (pa_cons (pv 0) (pa_cons (pe_ix ix_list (pv 2) (pe_un un_neg pe_int) (fun _ _ => rfl)) (pa_cons (pv 3) pa_nil))))))))
          (pss_cons (ps_set (i := 4) scJoinedP.nd rfl (Or.inl rfl) (pe_ix ix_list (pv 2) (pe_un un_neg pe_int) (fun _ _ => rfl)))
          (pss_one (ps_asg (pe_make MSI FSI hr2 (by rfl) TS.mgC bSI .nil pass0 (pa_cons (pe_fld (pv 4) rfl) (pa_cons (pe_fld (pv 4) rfl) (pa_cons (pe_fld (pv 3) rfl) (pa_cons (pe_fld (pv 4) rfl) (pa_cons (pe_fld (pv 3) rfl) pa_nil)))))) (pg_sub (pv 2) (pe_un un_neg pe_int) set_list))))
          (pss_one (ps_expr (pe_bm PySem.F.plainAttrs_list PySem.F.slot_list_append PySem.F.type_list_append mt_append (pv 2) (pa_cons (pv 3) pa_nil)))))))
      (pss_one (ps_ret (pv 2)))), ?_⟩
    refine ⟨Nat.zero_le _, fun D hD => ?_⟩
    have tl : (ts.map V.ref).length = L.length := by rw [List.length_map]; exact Paired.length hL
    refine ⟨_, rfl, l, rfl, ⟨_, SqL.of (Same.new hD _ _ hl)⟩, for_list (K := K) (a := l) (xs := ts.map V.ref) (fun i σ G => ∃ (v3 v4 : Option V) (us : List Addr) (M : List It) (st : Nat × Nat), σ = [some (.ref x), some (.ref l), some (.ref D), v3, v4] ∧ Same H G ∧ G D = some (.lst (us.map V.ref)) ∧ Paired (SpL CS CP fs f G) us M ∧ JOk fs f a st M ∧ CovS fs st b (L.drop i) ∧ M.length ≤ i)
      ⟨none, none, [], [], a, rfl, Same.new hD, upd_same, .nil, jok_nil fs f a, cov, Nat.le_refl _⟩ (fun i σ G _ ⟨_, _, _, _, _, _, sg, _⟩ => SqL.of (sg _ _ hl)) ?_ ?_⟩
    · rintro i y σ G hi ⟨v3, v4, us, M, st, rfl, sg, gD, pr, jo, cv, ml⟩
      obtain ⟨t, ht, rfl⟩ := map_get hi
      obtain ⟨z, hz, sz0⟩ := paired_get hL ht
      have il := (List.getElem?_eq_some_iff.mp hz).1
      have ed : L.drop i = z :: L.drop (i + 1) := by
        rw [List.drop_eq_getElem_cons il]
        congr 1
        exact (List.getElem?_eq_some_iff.mp hz).2
      rw [ed] at cv
      obtain ⟨e1, e2, cv⟩ := cv
      have oz := ok z (List.mem_of_getElem? hz)
      dsimp only [gName]
      have put : ∀ (G1 : Hp) (o : HO), Same H G1 → Same H (upd G1 D o) := fun G1 o s1 b q e => by rw [upd_ne (ne_of_none e hD)]; exact s1 b q e
      have ul : us.length = M.length := Paired.length pr
      have sl : (us.map V.ref).length < PySem.sizeLine := by rw [List.length_map, PySem.sizeLine_eq]; omega
      have push : ∀ (w4 : Option V) (G1 : Hp), Same G G1 → G1 D = some (.lst (us.map V.ref)) → (∀ y, M.getLast? = some y → y.1 = z.1 → ¬ Pw fs (f y.1) y.2.1 z.2.2) → ∃ v3 v4 us' M' st', ([some (.ref x), some (.ref l), some (.ref D), some (.ref t), w4] : List (Option V)) = [some (.ref x), some (.ref l), some (.ref D), v3, v4] ∧ Same H (upd G1 D (.lst (us.map V.ref ++ [.ref t]))) ∧ (upd G1 D (.lst (us.map V.ref ++ [.ref t]))) D = some (.lst (us'.map V.ref)) ∧ Paired (SpL CS CP fs f (upd G1 D (.lst (us.map V.ref ++ [.ref t])))) us' M' ∧ JOk fs f a st' M' ∧ CovS fs st' b (L.drop (i + 1)) ∧ M'.length ≤ i + 1 := fun w4 G1 s1 g1 nl =>
        ⟨_, _, us ++ [t], M ++ [z], _, rfl, put G1 _ (sg.trans s1), by rw [List.map_append]; exact upd_same,
          paired_snoc (Paired.mapP pr fun _ _ h => (SpAt.same h s1).kp (Kp.put g1)) (((SpAt.same sz0 sg).same s1).kp (Kp.put g1)), jo.push oz e1 nl, cv, by rw [List.length_append]; show M.length + 1 ≤ _; omega⟩
      rcases List.eq_nil_or_concat M with e | ⟨M0, y, e⟩
      · subst e
        cases pr
        refine ⟨_, rfl, _, .inl ⟨_, SqL.of gD, rfl⟩, iteF (iteF ?_)⟩
        exact ⟨_, rfl, .inl ⟨rfl, _, SqL.of gD⟩, _, rfl, D, _, _, rfl, rfl, gD, sl, push _ G (Same.refl G) gD (fun y hy => by cases hy)⟩
      · rw [List.concat_eq_append] at e
        subst e
        obtain ⟨us0, u, rfl, pr0, sy⟩ := paired_snocQ pr
        have hat : ∀ {x : V}, atI ((us0 ++ [u]).map V.ref) (-1) = some (.ref u) := fun {_} => by rw [List.map_append]; exact at_lastQ _ _
        have hix : ixN ((us0 ++ [u]).map V.ref).length (-1) = some us0.length := by rw [List.length_map, List.length_append]; exact ix_lastQ _
        obtain ⟨k1, s1, t1⟩ := y
        obtain ⟨k2, s2, t2⟩ := z
        obtain ⟨_, _, _, ly, ny⟩ := last_of jo.cov
        have oy := jo.ok _ (List.mem_append_right _ (List.mem_singleton.mpr rfl))
        have szG := SpAt.same sz0 sg
        refine ⟨_, rfl, _, .inl ⟨_, SqL.of gD, by rw [List.map_append, isEmpty_app]⟩, iteT ⟨_, rfl, ?_⟩⟩
        refine ⟨_, rfl, 1, rfl, D, _, _, _, rfl, rfl, SqL.of gD, hat (x := .non), _, rfl, x, u, t, n, ps, fs, k1, k2, s1, t1, s2, t2, f k1, f k2, rfl, TA.same sg, TG, sy, szG, oy.on_ _ (Nat.le_refl _) (Nat.le_of_lt oy.lt), oy.on_ _ (Nat.le_of_lt oy.lt) (Nat.le_refl _), oz.on_ _ (Nat.le_refl _) (Nat.le_of_lt oz.lt), oz.on_ _ (Nat.le_of_lt oz.lt) (Nat.le_refl _), fun G1 c sG ci => ⟨c, rfl, ?_⟩⟩
        have g1 := sG _ _ gD
        have join : k1 = k2 → (((f k1 s1 = f k1 t1 ↔ f k2 s2 = f k2 t2) ∧ (f k1 s1 = f k1 t1 ∨ Dn fs (f k1 s1) (f k2 t2) = (t2 : Int) - (s1 : Int))) ↔ Pw fs (f k1) s1 t2) := fun ek => by
          subst ek
          have ee : t1 = s2 := nx_same (ny.trans e1.symm) rfl
          subst ee
          exact pw_join T TG.n2 oy.lt oz.lt (fun q q1 q2 => (Nat.le_total q t1).elim (fun w => oy.on_ q q1 w) (fun w => oz.on_ q w q2)) oy.pw oz.pw
        cases c with
        | true =>
          obtain ⟨ek, c1, c2⟩ := ci.mp rfl
          have pw := (join ek).mp ⟨c1, c2⟩
          have jm := jo.merge T TG.n2 oz e1 ek pw
          have sy1 := SpAt.same sy sG
          have sz1 := SpAt.same szG sG
          obtain ⟨a1, b1, ⟨d1, x1⟩, A1, B1⟩ := sy1
          obtain ⟨a2, b2, ⟨d2, x2⟩, A2, B2⟩ := sz1
          refine iteT ⟨_, rfl, 1, rfl, D, _, _, _, rfl, rfl, SqL.of g1, hat (x := .non), ?_⟩
          refine ⟨_, rfl, u, CS, d1, _, _, rfl, x1, TS.cl, TS.nR, stF_r _, _, rfl, u, CS, d1, _, _, rfl, x1, TS.cl, TS.nL, stF_l _, _, rfl, t, CS, d2, _, _, rfl, x2, TS.cl, TS.nG, stF_g _, _, rfl, u, CS, d1, _, _, rfl, x1, TS.cl, TS.nF, stF_f _, _, rfl, t, CS, d2, _, _, rfl, x2, TS.cl, TS.nA, stF_a _, fun pS dS nS ndS neS => ⟨pS, dS, (((k1 : Nat) : Int), ((s1 : Nat) : Int), ((t2 : Nat) : Int), a1, b2), rfl, upd_same, fun G2 PS keep => ⟨rfl, ?_⟩⟩⟩
          have s12 : Same G1 G2 := fun b' o e => keep b' o (by rw [upd_ne (ne_of_none e nS), upd_ne (ne_of_none e ndS)]; exact e) (ne_of_none e nS)
          have g2 := s12 _ _ g1
          have spn : SpAt CS CP fs G2 k1 (f k1) pS (s1, t2) := ⟨a1, b2, PS, A1.same s12, by
            rw [ek]
            exact B2.same s12⟩
          refine ⟨_, rfl, 1, rfl, D, _, _, _, rfl, rfl, g2, hix, ?_⟩
          refine ⟨_, _, us0 ++ [pS], M0 ++ [(k1, s1, t2)], _, rfl, put G2 _ ((sg.trans sG).trans s12), by simp [upd_same], paired_snoc (Paired.mapP pr0 fun _ _ h => ((SpAt.same h sG).same s12).kp (Kp.put g2)) (spn.kp (Kp.put g2)), jm, cv, ?_⟩
          rw [List.length_append] at ml ⊢
          exact Nat.le_succ_of_le ml
        | false =>
          refine iteF ⟨_, rfl, .inl ⟨rfl, _, SqL.of g1⟩, _, rfl, D, _, _, rfl, rfl, g1, sl, push _ G1 sG g1 (fun y hy ek pz => ?_)⟩
          rw [List.getLast?_append, List.getLast?_singleton] at hy
          cases hy
          exact Bool.false_ne_true (ci.mpr ⟨ek, (join ek).mpr pz⟩)
    · rintro σ G ⟨v3, v4, us, M, st, rfl, sg, gD, pr, jo, cv, ml⟩
      rw [tl, List.drop_length] at cv
      rw [tl] at ml
      cases (show st = b from cv)
      exact ⟨_, rfl, kont D us M G sg hD gD pr jo ml⟩
end
end OT

set_option Elab.async false
set_option linter.all false
set_option maxRecDepth 100000
set_option maxHeartbeats 4000000
-- own words
namespace OT
open PySem L2 OTR
abbrev sMarched : Stmt := top 45
def spMarched (K : PySem.W.Frag) (CT CR CM CP CS : Addr) : Sp := fun vs H Q _ => ∃ (x p q : Addr) (n : Int) (ps : List Addr) (F : List Fact) (mg : MG) (k s e : Nat) (f f' : Nat → Nd), vs = [.ref x, .ref p, .ref q] ∧ TreeAt K CT CR H x n ps F ∧ TreeG n F ∧ SpAt CS CP F H k f p (s, e) ∧ MaAt CM CP H q (mf mg) ∧ MgOk F mg ∧ s < e ∧ Pw F f s e ∧ (∀ t, s ≤ t → t ≤ e → OnT F 1 (f t)) ∧ (∀ t, s ≤ t → t ≤ e → Go F 1 mg.1 mg.2.1 mg.2.2 (f t) (f' t)) ∧
  ∀ (l : Addr) (ts : List Addr) (H' : Hp) (L : List (Nat × Nat)), Same H H' → H' l = some (.lst (ts.map V.ref)) → Paired (SpAt CS CP F H' k f') ts L → Cov s e L → L.length ≤ 3 → (∀ z ∈ L, Pw F f' z.1 z.2) → H l = none → Q (.ref l) H'
section
variable {P : Program} {w : World} {K : PySem.W.Frag} {mg : Str → Option Value} {base : Heap}
abbrev nMarched : List Str := ["tree", "stretch", "march", "there", "marks", "start", "first", "end", "last"]
theorem scMarched : FnScope nMarched ["tree", "stretch", "march"] (defScope sMarched) := ⟨rfl, rfl, rfl, by decide +kernel, rfl, by decide +kernel, by decide +kernel⟩
theorem ok_marched {f0 fGA fST fMK fSI CT CR CM CP CS CB CNR COR : Addr} {fd fdGA fdST fdMK fdSI : FuncData} (F0 : Fun K "marched" "marched" sMarched f0 fd) (TS : StT K mg CS) (TM : MaT K mg CM)
    (FGA : FnOk P w K mg base CX0 2 fGA fdGA ["stretch"] (spGath CS CP)) (bGA : Binds K fdGA ["stretch"] []) (mGA : mg "is_gathered" = some (.ref fGA)) (kGA : PySem.W.keepIn K (.ref fGA) = true)
    (FST : FnOk P w K mg base (L2.CX P w) 7 fST fdST ["tree", "place", "goal", "steps"] (spStep K CT CR CP CB CNR COR)) (bST : Binds K fdST ["tree", "place", "goal", "steps"] []) (mST : mg "step" = some (.ref fST)) (kST : PySem.W.keepIn K (.ref fST) = true)
    (FMK : FnOk P w K mg base CX0 8 fMK fdMK ["tree", "stretch", "march"] (spMarks K CT CR CM CP CS)) (bMK : Binds K fdMK ["tree", "stretch", "march"] []) (mMK : mg "marks_of" = some (.ref fMK)) (kMK : PySem.W.keepIn K (.ref fMK) = true)
    (MSI : Mk K CS fSI) (FSI : FnOk P w K mg base CX0 1 fSI fdSI ["self", "road", "least", "greatest", "first", "last"] (spStretchI CS)) (bSI : Binds K fdSI ["self", "road", "least", "greatest", "first", "last"] [])
    (hZip : mg "zip" = none) : FnOk P w K mg base CX0 9 f0 fd ["tree", "stretch", "march"] (spMarched K CT CR CM CP CS) := by
  refine F0.ok scMarched (fun vs H Q E h => ?_) (fun cdv A outer s0 H vs Q E hr h => ?_)
  · obtain ⟨x, p, q, n, ps, fs, g, k, s, e, f, f', rfl, _⟩ := h
    rfl
  · obtain ⟨x, p, q, n, ps, fs, g, k, s, e, f, f', rfl, TA, TG, ⟨a, b, ⟨dx, ex⟩, P1, P2⟩, ⟨gp, ⟨dm, em⟩, pg⟩, okg, se, pw, on_, go, kont⟩ := h
    have T := TG.m
    have hr2 : Room 2 _ := hr.mono (by decide)
    have hr7 : Room 7 _ := hr.mono (by decide)
    have hr8 : Room 8 _ := hr.mono (by decide)
    refine ⟨_, pss_cons (ps_if (pt_val (pe_call FGA hr2 rfl mGA kGA bGA .nil pass0 (pa_cons (pv 1) pa_nil)))
        (pss_cons (ps_set (i := 3) scMarched.nd rfl (Or.inl rfl) (pe_call FST hr7 rfl mST kST bST .nil passF (pa_cons (pv 0) (pa_cons (pe_fld (pv 1) rfl) (pa_cons (pe_fld (pv 2) rfl) (pa_cons (pe_fld (pv 2) rfl) pa_nil))))))
        (pss_one (ps_ret (pe_lst (pa_cons (pe_make MSI FSI hr2 (by rfl) TS.mgC bSI .nil pass0 (pa_cons (pe_fld (pv 1) rfl) (pa_cons (pe_fld (pv 1) rfl) (pa_cons (pe_fld (pv 1) rfl) (pa_cons (pv 3) (pa_cons (pv 3) pa_nil)))))) pa_nil)))))
        pss_nil)
      (pss_cons (ps_set (i := 4) scMarched.nd rfl (Or.inl rfl) (pe_call FMK hr8 rfl mMK kMK bMK .nil pass0 (pa_cons (pv 0) (pa_cons (pv 1) (pa_cons (pv 2) pa_nil)))))
      (pss_one (ps_ret (pe_lc (own := [("start", 5), ("first", 6), ("end", 7), ("last", 8)]) (g := gTup K 2 (gCons (gTup K 2 (gCons (gName 5) (gCons (gName 6) gNil))) (gCons (gTup K 2 (gCons (gName 7) (gCons (gName 8) gNil))) gNil))) (tt := tTest (tOp (rI0 fun i j => .bl (decide (i < j))) (tVar 5) (tVar 7)))
        (te := tMake CS (spStretchI CS) [] L2.E0 (tCons (tFld K (tVar 1) "road") (tCons (tOp (rI0 fun i j => .int (i + j)) (tFld K (tVar 1) "least") (tVar 5)) (tCons (tOp (rI0 fun i j => .int (i + j)) (tFld K (tVar 1) "least") (tVar 7)) (tCons (tVar 6) (tCons (tVar 8) tNil)))))) rfl scMarched.nd (pi_zip (by rfl) hZip (pa_cons (pv 4) (pa_cons (pe_slice sl_list (pv 4) (po_some pe_int) po_none) pa_nil))) (blkOk_by (own := [("start", 5), ("first", 6), ("end", 7), ("last", 8)]) (N := nMarched) (sc := defScope sMarched) (by decide +kernel)) (fun _ _ _ _ _ => (pg_tup rfl (pgs_cons (pg_tup rfl (pgs_cons (pg_name (i := 5) scMarched.nd rfl (Or.inl rfl)) (pgs_cons (pg_name (i := 6) scMarched.nd rfl (Or.inl rfl)) pgs_nil))) (pgs_cons (pg_tup rfl (pgs_cons (pg_name (i := 7) scMarched.nd rfl (Or.inl rfl)) (pgs_cons (pg_name (i := 8) scMarched.nd rfl (Or.inl rfl)) pgs_nil))) pgs_nil)))) (fun _ _ _ _ _ => (pts_one (pt_cmpR op_lt (pv 5) (pv 7) (nomark _))))
        (fun _ _ _ _ _ => (pe_make MSI FSI hr2 (by rfl) TS.mgC bSI .nil pass0 (pa_cons (pe_fld (pv 1) rfl) (pa_cons (pe_op op_add (pe_fld (pv 1) rfl) (pv 5)) (pa_cons (pe_op op_add (pe_fld (pv 1) rfl) (pv 7)) (pa_cons (pv 6) (pa_cons (pv 8) pa_nil))))))))))), ?_⟩
    obtain ⟨gk, gi, gm⟩ := g
    have og : On fs 1 gk gi := by
      have h := okg.on (S := 1) (by decide)
      rw [Int.mul_one] at h
      exact h
    have m1 : 1 ≤ gm := okg.s1
    have os := on_ s (Nat.le_refl _) (by omega)
    have oe := on_ e (by omega) (Nat.le_refl _)
    -- if is_gathered(stretch)
    refine ⟨_, rfl, p, _, _, _, rfl, ⟨dx, ex⟩, P1, P2, _, rfl, ?_⟩
    by_cases eq : f s = f e
    · have gat : ∀ t, s ≤ t → t ≤ e → f t = f s := by
        rcases pw with h | h
        · exact h
        · exfalso
          have h1 := h.far
          rw [show s + 0 = s from rfl, show s + (e - s) = e by omega, eq, Dn_self T TG.n2 oe] at h1
          omega
      rw [decide_eq_true (by show keyF fs 1 (f s) = keyF fs 1 (f e); rw [eq])]
      refine iteT ?_
      obtain ⟨k1, i1, pe1, n1⟩ := key_ple T TG.n2 (show (1 : Int) ≤ 1 by decide) os
      have pg : PlaceAt CP H gp (((gk : Nat) : Int), gi, 1) := by
        have z : low (mPl (mf (gk, gi, gm))) = (((gk : Nat) : Int), gi, 1) := low_one _ _
        rw [← z]
        exact pg
      have peg : PlE fs 1 (((gk : Nat) : Int), gi, 1) gk gi := ⟨rfl, ⟨1, by decide, by show (1 : Int) = 1 * 1; decide, by show gi = gi * 1; rw [Int.mul_one]⟩, og, Int.le_refl 1, low_one _ _⟩
      refine ⟨_, rfl, _, rfl, p, CS, dx, _, _, rfl, ex, TS.cl, TS.nF, stF_f _, _, rfl, q, CM, dm, _, _, rfl, em, TM.cl, TM.nG, maF_g _ _, _, rfl, q, CM, dm, _, _, rfl, em, TM.cl, TM.nS, maF_s _ _, tn ?_⟩
      show spStep K CT CR CP CB CNR COR [V.ref x, V.ref a, V.ref gp, V.int gm] H _ _
      refine step_1 TA TG P1 pg pe1 peg (by omega) fun th G1 v s1 gv pv => ?_
      rw [n1] at gv
      have all' : ∀ t, s ≤ t → t ≤ e → f' t = v := fun t t1 t2 => by
        have h1 := go t t1 t2
        rw [gat t t1 t2] at h1
        exact Go.uniq T (by decide) og (show 0 ≤ gm by omega) h1 gv
      have ex1 := s1 _ _ ex
      refine ⟨_, rfl, p, CS, dx, _, _, rfl, ex1, TS.cl, TS.nR, stF_r _, _, rfl, p, CS, dx, _, _, rfl, ex1, TS.cl, TS.nL, stF_l _, _, rfl, p, CS, dx, _, _, rfl, ex1, TS.cl, TS.nG, stF_g _, _, rfl, _, rfl, fun pS dS nS ndS neS => ⟨pS, dS, (((k : Nat) : Int), ((s : Nat) : Int), ((e : Nat) : Int), th, th), rfl, upd_same, fun G2 PS keep => ⟨rfl, (by show 1 ≤ sizeLine; decide), fun pl hpl => ?_⟩⟩⟩
      have s2 := made_same nS ndS keep
      have s3 := Same.new (o := .lst [.ref pS]) hpl
      have s13 := s1.trans (s2.trans s3)
      have pv3 := (pv.same s2).same s3
      have hplH : H pl = none := by
        cases z : H pl with
        | none => rfl
        | some o =>
          have := (s1.trans s2) _ _ z
          rw [hpl] at this
          cases this
      refine kont pl [pS] _ [(s, e)] s13 upd_same (.cons ⟨th, th, PS.same s3, by show PlaceAt CP _ th (keyF fs 1 (f' s)); rw [all' s (Nat.le_refl _) (by omega)]; exact pv3, by show PlaceAt CP _ th (keyF fs 1 (f' e)); rw [all' e (by omega) (Nat.le_refl _)]; exact pv3⟩ .nil) ⟨rfl, se, rfl⟩ (by show 1 ≤ 3; decide) (fun z hz => ?_) hplH
      rw [List.mem_singleton.mp hz]
      exact .inl fun t t1 t2 => by rw [all' t t1 t2, all' s (Nat.le_refl _) (by omega)]
    · rw [decide_eq_false (fun z => eq (key_inj T TG.n2 os oe z))]
      have geo : Geo fs (e - s) (fun t => f (s + t)) := by
        rcases pw with h | h
        · exact absurd (h e (by omega) (Nat.le_refl _)).symm eq
        · exact h
      have eN : s + (e - s) = e := by omega
      refine iteF ⟨_, rfl, _, rfl, _, rfl, x, p, q, n, ps, fs, (((k : Nat) : Int), ((s : Nat) : Int), ((e : Nat) : Int), a, b), (gk, gi, gm), e - s, (fun t => f (s + t)), (fun t => f' (s + t)), rfl, TA, TG, ⟨dx, ex⟩, P1, by show PlaceAt CP H b (keyF fs 1 (f (s + (e - s)))); rw [eN]; exact P2, ⟨gp, ⟨dm, em⟩, pg⟩, okg, geo, by show ((e : Nat) : Int) - ((s : Nat) : Int) = ((e - s : Nat) : Int); omega, fun t ht => go (s + t) (by omega) (by omega), fun l ts G1 lo hi s1 lh hc g1 g2 g3 hl mk => ?_⟩
      obtain ⟨t0, t1, t2, t3, rfl, m0, m2, m3, m4⟩ : ∃ t0 t1 t2 t3, ts = [t0, t1, t2, t3] ∧ MkAt CP fs G1 t0 (0, f' (s + 0)) ∧ MkAt CP fs G1 t1 (lo, f' (s + lo)) ∧ MkAt CP fs G1 t2 (hi, f' (s + hi)) ∧ MkAt CP fs G1 t3 (e - s, f' (s + (e - s))) := by
        cases mk with
        | cons h1 r1 => cases r1 with
          | cons h2 r2 => cases r2 with
            | cons h3 r3 => cases r3 with
              | cons h4 r4 =>
                cases r4
                exact ⟨_, _, _, _, rfl, h1, h2, h3, h4⟩
      dsimp only [gName]
      -- zip(marks, marks[1:])
      refine ⟨_, rfl, _, rfl, _, rfl, l, _, rfl, SqL.of hl, fun D3 h3 => ?_⟩
      have s3 : Same G1 (upd G1 D3 (.lst [.ref t1, .ref t2, .ref t3])) := Same.new h3
      rw [show cutV ([t0, t1, t2, t3].map V.ref) (some 1) none = [.ref t1, .ref t2, .ref t3] from rfl]
      have e3 : upd G1 D3 (.lst [.ref t1, .ref t2, .ref t3]) D3 = some (.lst [.ref t1, .ref t2, .ref t3]) := upd_same
      have hl3 := s3 _ _ hl
      have n0 := m0.same s3
      have n1 := m2.same s3
      have n2 := m3.same s3
      have n3 := m4.same s3
      have s13 := s1.trans s3
      have ex3 := s13 _ _ ex
      clear m0 m2 m3 m4 hl mk
      generalize upd G1 D3 (.lst [.ref t1, .ref t2, .ref t3]) = G2 at e3 hl3 n0 n1 n2 n3 s13 ex3 ⊢
      refine ⟨l, D3, _, _, rfl, SqL.of hl3, SqL.of e3, fun D hD => ?_⟩
      obtain ⟨bd, b0, b1, b2, b3⟩ : ∃ bd : Nat → Nat, bd 0 = 0 ∧ bd 1 = lo ∧ bd 2 = hi ∧ bd 3 = e - s := ⟨fun i => [0, lo, hi, e - s].getD i 0, rfl, rfl, rfl, rfl⟩
      have hlH : ∀ {G : Hp} {pp : Addr}, Same H G → G pp = none → H pp = none := fun {G pp} sG hp => by
        cases z : H pp with
        | none => rfl
        | some o =>
          have := sG _ _ z
          rw [hp] at this
          cases this
      have tup : ∀ i, i < 3 → ∃ ti tj, [V.ref t0, V.ref t1, V.ref t2, V.ref t3][i]? = some (.ref ti) ∧ [V.ref t1, V.ref t2, V.ref t3][i]? = some (.ref tj) ∧ MkAt CP fs G2 ti (bd i, f' (s + bd i)) ∧ MkAt CP fs G2 tj (bd (i + 1), f' (s + bd (i + 1))) ∧ bd i ≤ bd (i + 1) ∧ bd (i + 1) ≤ e - s ∧ (bd i < bd (i + 1) → Pw fs f' (s + bd i) (s + bd (i + 1))) := fun i hi' => by
        have hc' : i = 0 ∨ i = 1 ∨ i = 2 := by omega
        rcases hc' with rfl | rfl | rfl
        · refine ⟨t0, t1, rfl, rfl, by rw [b0]; exact n0, by rw [b1]; exact n1, by show bd 0 ≤ bd 1; omega, by show bd 1 ≤ e - s; omega, fun _ => .inr ?_⟩
          rw [b0, b1, show s + lo - (s + 0) = lo by omega]
          exact g1
        · refine ⟨t1, t2, rfl, rfl, by rw [b1]; exact n1, by rw [b2]; exact n2, by show bd 1 ≤ bd 2; omega, by show bd 2 ≤ e - s; omega, fun lt => .inl fun t h1 h2 => ?_⟩
          rw [b1] at h1 lt ⊢
          rw [b2] at h2 lt
          have a1 := g3 lt (t - s) (by omega) (by omega)
          have a2 := g3 lt lo (Nat.le_refl _) (by omega)
          have a1 : f' (s + (t - s)) = _ := a1
          have a2 : f' (s + lo) = _ := a2
          rw [show s + (t - s) = t by omega] at a1
          rw [a1, a2]
        · refine ⟨t2, t3, rfl, rfl, by rw [b2]; exact n2, by rw [b3]; exact n3, by show bd 2 ≤ bd 3; omega, by show bd 3 ≤ e - s; omega, fun _ => .inr ?_⟩
          rw [b2, b3, show s + (e - s) - (s + hi) = e - s - hi by omega]
          have g2 : Geo fs (e - s - hi) (fun t => f' (s + (hi + t))) := g2
          have e' : (fun t => f' (s + hi + t)) = fun t => f' (s + (hi + t)) := funext fun t => by rw [Nat.add_assoc]
          rw [e']
          exact g2
      clear n0 n1 n2 n3 g1 g2 g3
      refine lc_it (walk_zip (K := K) (a := l) (b := D3) (n := 3) rfl) (fun i Gc => ∃ (ls : List Addr) (L : List (Nat × Nat)), Gc D = some (.lst (ls.map V.ref)) ∧ Same G2 Gc ∧ Paired (SpAt CS CP fs Gc k f') ls L ∧ Cov s (s + bd i) L ∧ L.length ≤ i ∧ ∀ z ∈ L, Pw fs f' z.1 z.2)
        ⟨[], [], upd_same, Same.new hD, .nil, by rw [b0]; rfl, Nat.le_refl _, fun z hz => (by cases hz)⟩ (fun i Gc _ ⟨_, _, _, sc, _⟩ => ⟨SqL.of (sc _ _ hl3), SqL.of (sc _ _ e3)⟩) ?_ ?_
      · rintro i v Gc G' hi' ⟨ls, L, gD, sc, pls, cov, ll, pws⟩ ⟨T', x1, y1, rfl, hT, rfl, hx1, hy1⟩
        obtain ⟨ti, tj, q1, q2, ⟨pi, ei, pli⟩, ⟨pj, ej, plj⟩, le1, le2, pwi⟩ := tup i hi'
        have hx1 : [V.ref t0, V.ref t1, V.ref t2, V.ref t3][i]? = some x1 := hx1
        have hy1 : [V.ref t1, V.ref t2, V.ref t3][i]? = some y1 := hy1
        rw [q1] at hx1
        rw [q2] at hy1
        cases hx1
        cases hy1
        have sT := Same.new (o := .tup [.ref ti, .ref tj]) hT
        have s2T := sc.trans sT
        have gDT := sT _ _ gD
        have exT := s2T _ _ ex3
        refine ⟨T', _, rfl, SqT.of upd_same, rfl, _, _, rfl, ti, _, rfl, SqT.of (s2T _ _ ei), rfl, _, _, rfl, _, _, rfl, rfl, _, _, rfl, tj, _, rfl, SqT.of (s2T _ _ ej), rfl, _, _, rfl, _, _, rfl, rfl, rfl, rfl, ?_⟩
        refine ⟨_, rfl, _, rfl, _, _, rfl, rfl, _, rfl, ?_⟩
        by_cases lt : bd i < bd (i + 1)
        · rw [decide_eq_true (show ((bd i : Nat) : Int) < ((bd (i + 1) : Nat) : Int) by omega)]
          refine iteT ⟨_, rfl, p, CS, dx, _, _, rfl, exT, TS.cl, TS.nR, stF_r _, _, rfl, p, CS, dx, _, _, rfl, exT, TS.cl, TS.nL, stF_l _, _, rfl, _, _, rfl, rfl, _, rfl, p, CS, dx, _, _, rfl, exT, TS.cl, TS.nL, stF_l _, _, rfl, _, _, rfl, rfl, _, rfl, _, rfl, fun pS dS nS ndS neS => ⟨pS, dS, (((k : Nat) : Int), ((s : Nat) : Int) + ((bd i : Nat) : Int), ((s : Nat) : Int) + ((bd (i + 1) : Nat) : Int), pi, pj), rfl, upd_same, fun G5 PS keep => ⟨rfl, ?_⟩⟩⟩
          have s5 := made_same nS ndS keep
          have s25 := s2T.trans s5
          have gD5 := s5 _ _ gDT
          have kput : Kp G5 (upd G5 D (.lst (ls.map V.ref ++ [.ref pS]))) := .put gD5
          have spn : SpAt CS CP fs G5 k f' pS (s + bd i, s + bd (i + 1)) := ⟨pi, pj, by
            obtain ⟨d, h⟩ := PS
            refine ⟨d, ?_⟩
            rw [h]
            show some (HO.ins CS d (stF (((k : Nat) : Int), ((s : Nat) : Int) + ((bd i : Nat) : Int), ((s : Nat) : Int) + ((bd (i + 1) : Nat) : Int), pi, pj))) = some (HO.ins CS d (stF (((k : Nat) : Int), ((s + bd i : Nat) : Int), ((s + bd (i + 1) : Nat) : Int), pi, pj)))
            rw [Int.natCast_add, Int.natCast_add], pli.same s25, plj.same s25⟩
          refine ⟨ls.map V.ref, gD5, small1000 (by rw [List.length_map, Paired.length pls]; omega), ls ++ [pS], L ++ [(s + bd i, s + bd (i + 1))], by rw [List.map_append]; exact upd_same, fun b o e => ?_, paired_app (Paired.mapP pls fun _ _ h => ((h.same sT).same s5).kp kput) (.cons (spn.kp kput) .nil), cov.snoc (by omega), by rw [List.length_append]; show L.length + 1 ≤ _; omega, fun z hz => ?_⟩
          · rw [upd_ne (ne_of_none e hD)]
            exact s25 _ _ e
          · rcases List.mem_append.mp hz with h | h
            · exact pws z h
            · rw [List.mem_singleton.mp h]
              exact pwi lt
        · rw [decide_eq_false (show ¬ ((bd i : Nat) : Int) < ((bd (i + 1) : Nat) : Int) by omega)]
          have eb : bd (i + 1) = bd i := by omega
          exact iteF ⟨ls, L, gDT, s2T, Paired.mapP pls fun _ _ h => h.same sT, by rw [eb]; exact cov, by omega, pws⟩
      · rintro G6 ⟨ls, L, gD, sc, pls, cov, ll, pws⟩
        rw [b3, eN] at cov
        exact kont D ls G6 L (s13.trans sc) gD pls cov ll pws (hlH s13 hD)
end
end OT

set_option Elab.async false
set_option linter.all false
set_option maxRecDepth 100000
set_option maxHeartbeats 4000000
-- own words
namespace OT
open PySem L2 OTR
abbrev sWideI : Stmt := inClass (top 10) 0
abbrev sStretchesA : Stmt := top 44
abbrev sDoing : Stmt := top 43
/-- a walk over a list, whatever is done with its items -/
theorem it_list {K : PySem.W.Frag} {a : Addr} {xs : List V} {B : V → Hp → (Hp → Prop) → Prop} {H0 : Hp} {Qd : Hp → Prop} (Pv : Nat → Hp → Prop) (h0 : Pv 0 H0) (hl : ∀ i H, i ≤ xs.length → Pv i H → SqL K H a xs)
    (hs : ∀ i x H, xs[i]? = some x → Pv i H → B x H (Pv (i + 1))) (hd : ∀ H, Pv xs.length H → Qd H) :
    ∃ W : Nat → Nat → Hp → Prop, (∃ m, W 0 m H0) ∧ ∀ i m H, W i m H →
      ((Itl K a).stop i H ∧ Qd H) ∨ ((Itl K a).go i H ∧ ∃ Nx : Hp → Prop, (∀ H', Nx H' → ∃ m', m' < m ∧ W (i + 1) m' H') ∧ ∀ x H', (Itl K a).yld i H x H' → B x H' Nx) := by
  refine ⟨fun i m H => m = xs.length - i ∧ i ≤ xs.length ∧ Pv i H, ⟨xs.length, by simp, Nat.zero_le _, h0⟩, ?_⟩
  rintro i m H ⟨rfl, hi, p⟩
  have q := hl i H hi p
  by_cases hlt : i < xs.length
  · refine .inr ⟨⟨xs, xs[i], q, by simp [hlt]⟩, Pv (i + 1), fun H' p' => ⟨xs.length - (i + 1), by omega, rfl, hlt, p'⟩, fun x H' y => ?_⟩
    obtain ⟨e, y⟩ := y
    subst e
    exact hs i x _ (y xs q) p
  · have e : i = xs.length := by omega
    subst e
    exact .inl ⟨⟨xs, q, Nat.le_refl _⟩, hd H p⟩
theorem iteTd {p : Prop} [Decidable p] {A B : Prop} (h : p) (a : A) : if decide p = true then A else B := by rw [if_pos (decide_eq_true h)]; exact a
theorem iteFd {p : Prop} [Decidable p] {A B : Prop} (h : ¬ p) (b : B) : if decide p = true then A else B := by rw [if_neg (fun z => h (of_decide_eq_true z))]; exact b
theorem Cov.mem {e : Nat} : ∀ {L : List (Nat × Nat)} {s : Nat}, Cov s e L → ∀ z ∈ L, s ≤ z.1 ∧ z.1 < z.2 ∧ z.2 ≤ e
  | [], s, _, z, h => by cases h
  | y :: L, s, ⟨h1, h2, h3⟩, z, h => by
    have l := h3.le.1
    rcases List.mem_cons.mp h with q | h
    · subst q
      omega
    · have := h3.mem z h
      omega
def spStretchesA (K : PySem.W.Frag) (CT CR CM CP CS CWd : Addr) : Sp := fun vs H Q E => ∃ (x a : Addr) (n : Int) (ps : List Addr) (F : List Fact) (ms : List Addr) (gs : List MG), vs = [.ref x, .ref a] ∧ TreeAt K CT CR H x n ps F ∧ TreeG n F ∧ SqT K H a (ms.map V.ref) ∧ MasAt CM CP H ms (gs.map mf) ∧ (∀ g ∈ gs, MgOk F g) ∧
  (∀ j f M, j ≤ gs.length → Img F (gs.take j) f → JOk F f (0, 0) (F.length, 0) M → 400 < M.length → Raised CWd [("count", .int 401)] H E) ∧
  (∀ D us M f H', Same H H' → H D = none → H' D = some (.lst (us.map V.ref)) → Img F gs f → Paired (SpL CS CP F f H') us M → JOk F f (0, 0) (F.length, 0) M → M.length ≤ 400 → Q (.ref D) H')
def spDoing (K : PySem.W.Frag) (CT CR CM CP CS CW CWd : Addr) : Sp := fun vs H Q E => ∃ (r x : Addr) (n : Int) (ps : List Addr) (F : List Fact) (ms : List Addr) (gs : List MG), vs = [.ref r] ∧ RowAt K CW H r x ms ∧ TreeAt K CT CR H x n ps F ∧ TreeG n F ∧ MasAt CM CP H ms (gs.map mf) ∧ (∀ g ∈ gs, MgOk F g) ∧
  (∀ j f M, j ≤ gs.length → Img F (gs.take j) f → JOk F f (0, 0) (F.length, 0) M → 400 < M.length → Raised CWd [("count", .int 401)] H E) ∧
  (∀ D us M f H', Same H H' → H D = none → H' D = some (.lst (us.map V.ref)) → Img F gs f → Paired (SpL CS CP F f H') us M → JOk F f (0, 0) (F.length, 0) M → M.length ≤ 400 → Q (.ref D) H')
section
variable {P : Program} {w : World} {K : PySem.W.Frag} {mg : Str → Option Value} {base : Heap}
theorem scWideI : FnScope ["self", "count"] ["self", "count"] (defScope sWideI) := ⟨rfl, rfl, rfl, by decide +kernel, rfl, by decide +kernel, by decide +kernel⟩
theorem ok_wideI {f C : Addr} {fd : FuncData} (F : Fun K "__init__" "Wide.__init__" sWideI f fd) (T : OexC K C) (n1 : PySem.W.findIn K (.ref C) "count" = some none) : FnOk P w K mg base CX0 1 f fd ["self", "count"] (spEr1 C "count") := by
  refine F.ok scWideI (fun vs H Q E h => ?_) (fun cdv A outer s H vs Q E hr h => ?_)
  · obtain ⟨a, v, rfl, _⟩ := h
    rfl
  · obtain ⟨a, v, rfl, ha, k⟩ := h
    refine ⟨_, pss_one (ps_ost (pv 0) (pv 1)), ?_⟩
    exact ⟨_, rfl, _, rfl, a, C, rfl, T, n1, .inl ⟨ha, fun dx n ne => k dx n ne⟩⟩
abbrev nStretchesA : List Str := ["tree", "marches", "found", "march", "number", "road", "stretch", "part"]
theorem scStretchesA : FnScope nStretchesA ["tree", "marches"] (defScope sStretchesA) := ⟨rfl, rfl, rfl, by decide +kernel, rfl, by decide +kernel, by decide +kernel⟩
theorem ok_stretchesA {f0 fCO fMA fJO fSI fWd CT CR CM CP CS CN CWd : Addr} {fd fdCO fdMA fdJO fdSI fdWd : FuncData} (F0 : Fun K "stretches_after" "stretches_after" sStretchesA f0 fd) (TS : StT K mg CS) (TT : TeT K mg CT) (TR : RdT K mg CR) (TWd : ErT K mg "Wide" CWd fWd)
    (FWd : FnOk P w K mg base CX0 1 fWd fdWd ["self", "count"] (spEr1 CWd "count")) (bWd : Binds K fdWd ["self", "count"] [])
    (FCO : FnOk P w K mg base (L2.CX P w) 5 fCO fdCO ["tree", "crossing"] (spCorner K CT CR CP CN)) (bCO : Binds K fdCO ["tree", "crossing"] []) (mCO : mg "corner" = some (.ref fCO)) (kCO : PySem.W.keepIn K (.ref fCO) = true)
    (FMA : FnOk P w K mg base CX0 9 fMA fdMA ["tree", "stretch", "march"] (spMarched K CT CR CM CP CS)) (bMA : Binds K fdMA ["tree", "stretch", "march"] []) (mMA : mg "marched" = some (.ref fMA)) (kMA : PySem.W.keepIn K (.ref fMA) = true)
    (FJO : FnOk P w K mg base CX0 7 fJO fdJO ["tree", "stretches"] (spJoinedP K CT CR CP CS)) (bJO : Binds K fdJO ["tree", "stretches"] []) (mJO : mg "joined" = some (.ref fJO)) (kJO : PySem.W.keepIn K (.ref fJO) = true)
    (MSI : Mk K CS fSI) (FSI : FnOk P w K mg base CX0 1 fSI fdSI ["self", "road", "least", "greatest", "first", "last"] (spStretchI CS)) (bSI : Binds K fdSI ["self", "road", "least", "greatest", "first", "last"] [])
    (hMost : ∃ t, mg "MOST_STRETCHES" = some (.int 400 t)) (hEn : mg "enumerate" = none) (hLen : mg "len" = none) : FnOk P w K mg base (L2.CX P w) 10 f0 fd ["tree", "marches"] (spStretchesA K CT CR CM CP CS CWd) := by
  refine F0.okX scStretchesA (fun vs H Q E h => ?_) (fun cdv A outer s0 H vs Q E hr h => ?_)
  · obtain ⟨x, a, n, ps, fs, ms, gs, rfl, _⟩ := h
    rfl
  · obtain ⟨x, a, n, ps, fs, ms, gs, rfl, TA, TG, hS, hM, okg, wide, kont⟩ := h
    obtain ⟨tm, hMost⟩ := hMost
    have T := TG.m
    have hr2 : Room 2 _ := hr.mono (by decide)
    have hr5 : Room 5 _ := hr.mono (by decide)
    have hr7 : Room 7 _ := hr.mono (by decide)
    have hr9 : Room 9 _ := hr.mono (by decide)
    refine ⟨_, pss_cons (ps_setLc (i := 2) (own := [("number", 4), ("road", 5)]) (g := gTup K 2 (gCons (gName 4) (gCons (gName 5) gNil))) (tt := tYes) (te := tMake CS (spStretchI CS) [] L2.E0 (tCons (tVar 4) (tCons (tC (.int 0)) (tCons (tFld K (tVar 5) "length") (tCons (tCall (spCorner K CT CR CP CN) [] L2.E0 (tCons (tVar 0) (tCons (tFld K (tVar 5) "a") tNil))) (tCons (tCall (spCorner K CT CR CP CN) [] L2.E0 (tCons (tVar 0) (tCons (tFld K (tVar 5) "b") tNil))) tNil)))))) rfl scStretchesA.nd rfl rfl (sw_true rfl rfl rfl (by decide +kernel)) (pi_enumT (by rfl) hEn (pa_cons (pe_fld (pv 0) rfl) pa_nil))
        (blkOk_by (own := [("number", 4), ("road", 5)]) (N := nStretchesA) (sc := defScope sStretchesA) (by decide +kernel))
        (fun _ _ _ _ _ => (pg_tup rfl (pgs_cons (pg_name (i := 4) scStretchesA.nd rfl (Or.inl rfl)) (pgs_cons (pg_name (i := 5) scStretchesA.nd rfl (Or.inl rfl)) pgs_nil)))) (fun _ _ _ _ _ => pts_nil)
        (fun _ _ _ _ _ => (pe_make MSI FSI hr2 (by rfl) TS.mgC bSI .nil pass0 (pa_cons (pv 4) (pa_cons pe_int (pa_cons (pe_fld (pv 5) rfl) (pa_cons (pe_call FCO hr5 rfl mCO kCO bCO .nil passF (pa_cons (pv 0) (pa_cons (pe_fld (pv 5) rfl) pa_nil))) (pa_cons (pe_call FCO hr5 rfl mCO kCO bCO .nil passF (pa_cons (pv 0) (pa_cons (pe_fld (pv 5) rfl) pa_nil))) pa_nil))))))))
      (pss_cons (ps_for (passes_of rfl) rfl (pi_tup (pv 1)) (pg_name (i := 3) scStretchesA.nd rfl (Or.inr rfl))
        (pss_cons (ps_set (i := 2) scStretchesA.nd rfl (Or.inl rfl) (pe_call FJO hr7 rfl mJO kJO bJO .nil pass0 (pa_cons (pv 0) (pa_cons
          (pe_lc2 (own := [("stretch", 6), ("part", 7)]) (vs1 := [7]) (g := gName 6) (tt := tYes) (wi1 := iList K (tCall (spMarched K CT CR CM CP CS) [] L2.E0 (tCons (tVar 0) (tCons (tVar 6) (tCons (tVar 3) tNil))))) (g1 := gName 7) (tt1 := tYes) (te := tVar 7) rfl scStretchesA.nd (pi_list (pv 2))
            (blkOk_by (own := [("stretch", 6), ("part", 7)]) (N := nStretchesA) (sc := defScope sStretchesA) (by decide +kernel)) (by decide)
            (fun _ _ _ _ _ => (pg_name (i := 6) scStretchesA.nd rfl (Or.inl rfl))) (fun _ _ _ _ _ => pts_nil)
            (fun _ _ _ _ _ => (pi_list (pe_call FMA hr9 rfl mMA kMA bMA .nil pass0 (pa_cons (pv 0) (pa_cons (pv 6) (pa_cons (pv 3) pa_nil))))))
            (fun _ _ _ _ _ => (pg_name (i := 7) scStretchesA.nd rfl (Or.inl rfl))) (fun _ _ _ _ _ => pts_nil) (fun _ _ _ _ _ => pv 7)) pa_nil))))
        (pss_one (ps_if (pt_cmpR op_gt (pe_callB call_len (by rfl) hLen (by decide +kernel) (pa_cons (pv 2) pa_nil)) (pe_glob (v := V.int 400) rfl hMost ⟨tm, rfl⟩) (nomark _))
          (pss_one (ps_raise rfl (takes_of rfl rfl rfl rfl) (pmk_oex TWd.ox TWd.iC TWd.tI FWd hr2 bWd .nil pass0 (by rfl) TWd.gC (pa_cons (pe_op op_add (pe_glob (v := V.int 400) rfl hMost ⟨tm, rfl⟩) pe_int) pa_nil)))) pss_nil))))
      (pss_one (ps_ret (pv 2)))), ?_⟩
    obtain ⟨dx, t, d, kvs, ea, et, rds, _⟩ := id TA
    have pl : (ps.map V.ref).length = fs.length := by rw [List.length_map]; exact rds.len
    have l23 : fs.length ≤ 23 := by have := TG.len; have := TG.n24; omega
    -- found = [Stretch(number, 0, road.length, ..) for number, road in enumerate(tree.roads)]
    refine ⟨_, rfl, x, CT, dx, _, _, rfl, ea, TT.cl, TT.nR, teF_r n t d, t, _, rfl, et, fun D hD => lc_it (walk_enumT (K := K) (a := t) (xs := ps.map V.ref)) (fun i Gc => ∃ us : List Addr, Gc D = some (.lst (us.map V.ref)) ∧ Same H Gc ∧ Paired (SpL CS CP fs (fun k t => node fs 1 k ((t : Nat) : Int)) Gc) us ((List.range i).map (bsI fs)))
      ⟨[], upd_same, Same.new hD, .nil⟩ (fun i Gc _ ⟨_, _, sc, _⟩ => sqT_same et sc) ?_ ?_⟩
    · rintro i v Hc H' hi ⟨us, hl, sc, pr⟩ ⟨T', x1, y1, rfl, hT, rfl, hx1, hy1⟩
      cases hx1
      rw [pl] at hi
      obtain ⟨q, hq, rfl⟩ := map_get (show (ps.map V.ref)[i]? = some y1 from hy1)
      obtain ⟨r, hr', hrd⟩ := rds.get hq
      have er : rd fs i = r := rd_of hr'
      obtain ⟨ok1, ok2, ok3, ok4⟩ := rd_ok T hi
      rw [er] at ok1 ok2 ok3
      have sT := Same.new (o := .tup [.int (i : Nat), .ref q]) hT
      have s1 : Same H (upd Hc T' (.tup [.int (i : Nat), .ref q])) := sc.trans sT
      have gD1 := sT _ _ hl
      obtain ⟨dq, eq⟩ := hrd.same s1
      refine ⟨T', _, rfl, SqT.of upd_same, rfl, _, _, rfl, _, _, rfl, rfl, rfl, ?_⟩
      unfold tYes
      refine iteT ⟨_, rfl, _, rfl, q, CR, dq, _, _, rfl, eq, TR.cl, TR.nL, rdF_l r, _, rfl, _, rfl, q, CR, dq, _, _, rfl, eq, TR.cl, TR.nA, rdF_a r, x, n, ps, fs, r.1, rfl, TA.same s1, TG, fun z => absurd ok1 z, fun _ p1 H1 s2 n1 pl1 => ?_⟩
      refine ⟨_, rfl, _, rfl, q, CR, dq, _, _, rfl, s2 _ _ eq, TR.cl, TR.nB, rdF_b r, x, n, ps, fs, r.2.1, rfl, (TA.same s1).same s2, TG, fun z => absurd ok2 z, fun _ p2 H2 s3 n2 pl2 => ?_⟩
      refine fun pS dS nS ndS neS => ⟨pS, dS, (((i : Nat) : Int), 0, r.2.2, p1, p2), rfl, upd_same, fun G5 PS keep => ⟨rfl, ?_⟩⟩
      have s5 := made_same nS ndS keep
      have s25 := s2.trans (s3.trans s5)
      have gD5 := s25 _ _ gD1
      have kput : Kp G5 (upd G5 D (.lst (us.map V.ref ++ [.ref pS]))) := .put gD5
      have esz : sz fs 1 i = r.2.2 := by unfold sz; rw [er, Int.mul_one]
      have spn : SpL CS CP fs (fun k t => node fs 1 k ((t : Nat) : Int)) G5 pS (bsI fs i) := by
        refine ⟨p1, p2, ?_, ?_, ?_⟩
        · have e1 : (((bsI fs i).2.2 : Nat) : Int) = r.2.2 := by
            show (((sz fs 1 i).toNat : Nat) : Int) = r.2.2
            rw [esz, Int.toNat_of_nonneg (by omega)]
          show StAt CS G5 pS (((i : Nat) : Int), ((0 : Nat) : Int), (((bsI fs i).2.2 : Nat) : Int), p1, p2)
          rw [e1]
          exact PS
        · have e1 : node fs 1 i ((0 : Nat) : Int) = .cr r.1 := by
            unfold node
            rw [if_pos (show ((0 : Nat) : Int) = 0 from rfl), er]
          show PlaceAt CP G5 p1 (keyF fs 1 (node fs 1 i ((0 : Nat) : Int)))
          rw [e1]
          exact (pl1.same s3).same s5
        · have e1 : node fs 1 i (((sz fs 1 i).toNat : Nat) : Int) = .cr r.2.1 := by
            unfold node
            rw [Int.toNat_of_nonneg (by omega), if_neg (by omega), if_pos rfl, er]
          show PlaceAt CP G5 p2 (keyF fs 1 (node fs 1 i (((sz fs 1 i).toNat : Nat) : Int)))
          rw [e1]
          exact pl2.same s5
      refine ⟨us.map V.ref, gD5, small1000 (by rw [List.length_map, Paired.length pr, List.length_map, List.length_range]; omega), us ++ [pS], by rw [List.map_append]; exact upd_same, fun b o e => ?_, ?_⟩
      · rw [upd_ne (ne_of_none e hD)]
        exact s25 _ _ (s1 b o e)
      · rw [List.range_succ, List.map_append]
        exact paired_app (Paired.mapP pr fun _ _ h => SpAt.kp (SpAt.same (SpAt.same h sT) s25) kput) (.cons (SpAt.kp spn kput) .nil)
    · rintro H4 ⟨us, gD, s4, pr⟩
      rw [pl] at pr
      dsimp only [gName]
      have lenE : (ms.map V.ref).length = gs.length := by rw [List.length_map, Paired.length hM, List.length_map]
      -- for march in marches
      refine ⟨_, rfl, a, rfl, ⟨_, sqT_same hS s4⟩, for_tup (K := K) (a := a) (xs := ms.map V.ref) (fun j σ G => ∃ (v3 : Option V) (D : Addr) (us : List Addr) (M : List It) (f : Nat → Nat → Nd), σ = [some (.ref x), some (.ref a), some (.ref D), v3, none, none, none, none] ∧ Same H G ∧ H D = none ∧ G D = some (.lst (us.map V.ref)) ∧ Img fs (gs.take j) f ∧ Paired (SpL CS CP fs f G) us M ∧ JOk fs f (0, 0) (fs.length, 0) M ∧ M.length ≤ 400)
        ⟨none, D, us, _, _, rfl, s4, hD, gD, Img.zero fs, pr, base_jok T TG.n2 (Nat.le_refl _), by rw [List.length_map, List.length_range]; omega⟩ (fun j σ G _ ⟨_, _, _, _, _, _, sg, _⟩ => sqT_same hS sg) ?_ ?_⟩
      · clear gD s4 pr hD
        rintro j y σ G hj ⟨v3, D, us, M, f, rfl, sg, hD, gD, im, pr, jo, ml⟩
        obtain ⟨q, hq, rfl⟩ := map_get hj
        obtain ⟨m, hm, maq⟩ := paired_get hM hq
        obtain ⟨g, hg, rfl⟩ := map_get hm
        have og := okg g (List.mem_of_getElem? hg)
        have okt : ∀ y ∈ gs.take j, MgOk fs y := fun y hy => okg y (List.mem_of_mem_take hy)
        obtain ⟨f', im', go⟩ := Img.next T TG.n2 (x := g) okt im
        rw [← take_get hg] at im'
        have okt' : ∀ y ∈ gs.take (j + 1), MgOk fs y := fun y hy => okg y (List.mem_of_mem_take hy)
        have TAg := TA.same sg
        have maG := maq.same sg
        -- found = joined(tree, [part for stretch in found for part in marched(tree, stretch, march)])
        dsimp only [gName]
        refine ⟨_, rfl, _, rfl, D, rfl, ⟨_, SqL.of gD⟩, fun D2 hD2 => it_list (K := K) (a := D) (xs := us.map V.ref) (fun i Gc => ∃ (ws : List Addr) (A : List It) (st : Nat × Nat), Gc D2 = some (.lst (ws.map V.ref)) ∧ Same G Gc ∧ Paired (SpL CS CP fs f' Gc) ws A ∧ CovS fs (0, 0) st A ∧ CovS fs st (fs.length, 0) (M.drop i) ∧ (∀ z ∈ A, ItOk fs f' z) ∧ A.length ≤ 3 * i)
          ⟨[], [], _, upd_same, Same.new hD2, .nil, rfl, jo.cov, fun z hz => (by cases hz), Nat.le_refl _⟩ (fun i Gc _ ⟨_, _, _, _, sc, _⟩ => SqL.of (sc _ _ gD)) ?_ ?_⟩
        · rintro i y Gc hi ⟨ws, B, st, gD2, sc, prB, cv1, cv2, okB, bl⟩
          obtain ⟨u, hu, rfl⟩ := map_get hi
          obtain ⟨z, hz, sz0⟩ := paired_get pr hu
          have il := (List.getElem?_eq_some_iff.mp hz).1
          have ed : M.drop i = z :: M.drop (i + 1) := by
            rw [List.drop_eq_getElem_cons il]
            congr 1
            exact (List.getElem?_eq_some_iff.mp hz).2
          have zin := CovS.in_ cv2 z (by rw [ed]; exact List.mem_cons_self ..)
          rw [ed] at cv2
          obtain ⟨e1, e2, cv3⟩ := cv2
          have oz := jo.ok z (List.mem_of_getElem? hz)
          obtain ⟨k, s, e⟩ := z
          dsimp only at zin e1 e2 cv3
          subst e1
          refine ⟨rfl, ?_⟩
          unfold tYes
          refine iteT ⟨_, rfl, _, rfl, _, rfl, x, u, q, n, ps, fs, g, k, s, e, f k, f' k, rfl, TAg.same sc, TG, SpAt.same sz0 sc, maG.same sc, og, e2, oz.pw, oz.on_, fun t t1 t2 => go k t zin.1 (by omega), fun l ts G1 L s1 hl pL cov l3 pws hlH => ?_⟩
          have gD21 := s1 _ _ gD2
          have nlD : l ≠ D2 := fun e => by rw [e, gD2] at hlH; cases hlH
          refine ⟨l, rfl, ⟨_, SqL.of hl⟩, it_list (K := K) (a := l) (xs := ts.map V.ref) (fun j' Gd => ∃ ws' : List Addr, Gd D2 = some (.lst (ws'.map V.ref)) ∧ (∀ b o, G1 b = some o → b ≠ D2 → Gd b = some o) ∧ Paired (SpL CS CP fs f' Gd) ws' (B ++ (L.take j').map fun w => (k, w.1, w.2)))
            ⟨ws, gD21, fun b o e _ => e, by rw [List.take_zero, List.map_nil, List.append_nil]; exact Paired.mapP prB fun _ _ h => SpAt.same h s1⟩ (fun j' Gd _ ⟨_, _, kd, _⟩ => SqL.of (kd _ _ hl nlD)) ?_ ?_⟩
          · rintro j' y Gd hj' ⟨ws', gd, kd, pd⟩
            obtain ⟨v, hv, rfl⟩ := map_get hj'
            obtain ⟨w, hw, sw⟩ := paired_get pL hv
            have jl := (List.getElem?_eq_some_iff.mp hw).1
            have kpd : Kp G1 Gd := fun b o e ne => kd b o e fun eb => ne _ (by rw [eb, gD21] at e; cases e; rfl)
            have kput : Kp Gd (upd Gd D2 (.lst (ws'.map V.ref ++ [.ref v]))) := .put gd
            have ll : (ws'.map V.ref).length ≤ 10000000 := by
              rw [List.length_map, Paired.length pd, List.length_append, List.length_map, List.length_take]
              omega
            refine ⟨rfl, iteT ⟨_, rfl, ws'.map V.ref, gd, small6 ll, ws' ++ [v], by rw [List.map_append]; exact upd_same, fun b o e ne => by rw [upd_ne ne]; exact kd b o e ne, ?_⟩⟩
            rw [take_get hw, List.map_append, ← List.append_assoc]
            exact paired_app (Paired.mapP pd fun _ _ h => SpAt.kp h kput) (.cons (SpAt.kp (SpAt.kp sw kpd) kput) .nil)
          · rintro Gd ⟨ws', gd, kd, pd⟩
            have tl : (ts.map V.ref).length = L.length := by rw [List.length_map]; exact Paired.length pL
            rw [tl, List.take_length] at pd
            refine ⟨ws', _, _, gd, fun b o e => ?_, pd, cv1.append (CovS.pieces zin.2 e2 cov), cv3, fun z hz => ?_, ?_⟩
            · have nb : b ≠ D2 := ne_of_none e hD2
              exact kd b o (s1 _ _ (sc b o e)) nb
            · rcases List.mem_append.mp hz with h | h
              · exact okB z h
              · obtain ⟨w, hw, rfl⟩ := List.mem_map.mp h
                obtain ⟨w1, w2, w3⟩ := cov.mem w hw
                exact ⟨w2, pws w hw, fun t t1 t2 => im'.on T TG.n2 okt' zin.1 (by have t2' : t ≤ w.2 := t2; show (t : Int) ≤ sz fs 1 k; omega)⟩
            · rw [List.length_append, List.length_map]
              omega
        · rintro Gc ⟨ws, B, st, gD2, sc, prB, cv1, cv2, okB, bl⟩
          have ul : (us.map V.ref).length = M.length := by rw [List.length_map]; exact Paired.length pr
          rw [ul, List.drop_length] at cv2
          cases (show st = (fs.length, 0) from cv2)
          rw [ul] at bl
          refine ⟨x, D2, n, ps, ws, fs, f', B, _, _, rfl, TAg.same sc, TG, gD2, prB, cv1, okB, by omega, fun D3 us' M' G4 s4 hD3 g4 pr4 jo4 ml4 => ?_⟩
          have sH4 := sg.trans (sc.trans s4)
          have hD3H : H D3 = none := by
            cases e : H D3 with
            | none => rfl
            | some o =>
              have := (sg.trans sc) _ _ e
              rw [hD3] at this
              cases this
          have lM : (us'.map V.ref).length = M'.length := by rw [List.length_map]; exact Paired.length pr4
          -- if len(found) > MOST_STRETCHES
          refine ⟨_, rfl, .ref D3, _, rfl, .inl ⟨_, SqL.of g4, rfl⟩, _, _, rfl, rfl, _, rfl, ?_⟩
          by_cases big : 400 < M'.length
          · refine iteTd (by rw [lM]; omega) ⟨_, _, rfl, rfl, len1, fun b hb => er1 hb ((wide (j + 1) f' M' ?_ im' jo4 big).mono sH4)⟩
            have := (List.getElem?_eq_some_iff.mp hg).1
            omega
          · refine iteFd (by rw [lM]; omega) ⟨_, D3, us', M', f', rfl, sH4, hD3H, g4, im', pr4, jo4, by omega⟩
      · rintro σ G ⟨v3, D, us, M, f, rfl, sg, hD, gD, im, pr, jo, ml⟩
        rw [lenE, List.take_length] at im
        exact ⟨_, rfl, kont D us M f G sg hD gD im pr jo ml⟩
abbrev nDoing : List Str := ["row"]
theorem scDoing : FnScope nDoing ["row"] (defScope sDoing) := ⟨rfl, rfl, rfl, by decide +kernel, rfl, by decide +kernel, by decide +kernel⟩
theorem ok_doing {f0 fSA CT CR CM CP CS CW CWd : Addr} {fd fdSA : FuncData} (F0 : Fun K "doing" "doing" sDoing f0 fd) (TW : RwT K mg CW)
    (FSA : FnOk P w K mg base (L2.CX P w) 10 fSA fdSA ["tree", "marches"] (spStretchesA K CT CR CM CP CS CWd)) (bSA : Binds K fdSA ["tree", "marches"] []) (mSA : mg "stretches_after" = some (.ref fSA)) (kSA : PySem.W.keepIn K (.ref fSA) = true) :
    FnOk P w K mg base (L2.CX P w) 11 f0 fd ["row"] (spDoing K CT CR CM CP CS CW CWd) := by
  refine F0.okX scDoing (fun vs H Q E h => ?_) (fun cdv A outer s0 H vs Q E hr h => ?_)
  · obtain ⟨r, x, n, ps, fs, ms, gs, rfl, _⟩ := h
    rfl
  · obtain ⟨r, x, n, ps, fs, ms, gs, rfl, ⟨dw, t, ew, et⟩, TA, TG, hM, okg, wide, kont⟩ := h
    refine ⟨_, pss_one (ps_ret (pe_call FSA hr rfl mSA kSA bSA .nil (passes_call (takes_of rfl rfl rfl rfl) fun _ _ _ _ h => h) (pa_cons (pe_fld (pv 0) rfl) (pa_cons (pe_fld (pv 0) rfl) pa_nil)))), ?_⟩
    exact ⟨_, rfl, r, CW, dw, _, _, rfl, ew, TW.cl, TW.nT, rwF_t x t, _, rfl, r, CW, dw, _, _, rfl, ew, TW.cl, TW.nM, rwF_m x t, x, t, n, ps, fs, ms, gs, rfl, TA, TG, et, hM, okg, wide, kont⟩
end
end OT

set_option Elab.async false
set_option linter.all false
set_option maxRecDepth 100000
set_option maxHeartbeats 4000000
-- own words
namespace OT
open PySem L2 OTR
abbrev sNameN : Stmt := top 62
abbrev sTold : Stmt := top 64
theorem key1 (F : List Fact) (v : Nd) : keyF F 1 v = ((((nqk F 1 v).1 : Nat) : Int), (nqk F 1 v).2, (1 : Int)) := by
  cases v with
  | cr c => rfl
  | mid k i => exact low_one _ _
/-- a stretch as the law tells it -/
def dSt (F : List Fact) (f : Nat → Nat → Nd) (z : It) : PyData := .tuple [.int ((z.1 : Nat) : Int), .int ((z.2.1 : Nat) : Int), .int ((z.2.2 : Nat) : Int), d2 (nqk F 1 (f z.1 z.2.1)), d2 (nqk F 1 (f z.1 z.2.2))]
def dSts (F : List Fact) (f : Nat → Nat → Nd) (L : List It) : PyData := .list (L.map (dSt F f))
theorem dSts_shaped (F : List Fact) (f : Nat → Nat → Nd) (L : List It) : SeqAt.shaped (dSts F f L) = true := by
  have h1 : ∀ L : List It, PyData.canLayAll0 (L.map (dSt F f)) = true := fun L => by
    induction L with
    | nil => rfl
    | cons z L ih =>
      show (PyData.canLay0 (dSt F f z) && PyData.canLayAll0 (L.map (dSt F f))) = true
      rw [ih]
      rfl
  have h2 : ∀ L : List It, PyData.depthAll (L.map (dSt F f)) ≤ 10 := fun L => by
    induction L with
    | nil => exact Nat.zero_le _
    | cons z L ih =>
      show max (PyData.depth (dSt F f z)) (PyData.depthAll (L.map (dSt F f))) ≤ 10
      have e : PyData.depth (dSt F f z) ≤ 10 := by show _ ≤ 10; unfold dSt d2; simp only [PyData.depth, PyData.depthAll]; decide
      omega
  unfold SeqAt.shaped
  rw [Bool.and_eq_true]
  refine ⟨h1 L, decide_eq_true ?_⟩
  have := h2 L
  show PyData.depthAll (L.map (dSt F f)) + 1 ≤ 64
  omega
theorem dSts_eqv (F : List Fact) (f : Nat → Nat → Nd) (L : List It) : PyData.eqv (dSts F f L) (dSts F f L) = true := SeqAt.eqv_refl _ (SeqAt.canLay_of_shaped (dSts_shaped F f L))
def TdAt (F : List Fact) (f : Nat → Nat → Nd) (H : Hp) (t : Addr) (z : It) : Prop := ∃ a b, H t = some (.tup [.int ((z.1 : Nat) : Int), .int ((z.2.1 : Nat) : Int), .int ((z.2.2 : Nat) : Int), .ref a, .ref b]) ∧ PrAt H a (nqk F 1 (f z.1 z.2.1)) ∧ PrAt H b (nqk F 1 (f z.1 z.2.2))
theorem TdAt.kp {F : List Fact} {f : Nat → Nat → Nd} {H H' : Hp} {t : Addr} {z : It} (h : TdAt F f H t z) (k : Kp H H') : TdAt F f H' t z := let ⟨a, b, e, p, q⟩ := h; ⟨a, b, k _ _ e (fun _ w => nomatch w), p.kp k, q.kp k⟩
theorem TdAt.same {F : List Fact} {f : Nat → Nat → Nd} {H H' : Hp} {t : Addr} {z : It} (h : TdAt F f H t z) (k : Same H H') : TdAt F f H' t z := h.kp (.of k)
theorem TdAt.dp {K : PySem.W.Frag} {F : List Fact} {f : Nat → Nat → Nd} {H : Hp} {t : Addr} {z : It} (h : TdAt F f H t z) : Dp K H (.ref t) (dSt F f z) :=
  let ⟨_, _, e, p, q⟩ := h
  .tup (SqT.of e) (.cons (.int _) (.cons (.int _) (.cons (.int _) (.cons (d2_at p) (.cons (d2_at q) .nil)))))
theorem tds_all {K : PySem.W.Frag} {F : List Fact} {f : Nat → Nat → Nd} {H : Hp} : ∀ {ts : List Addr} {L : List It}, Paired (TdAt F f H) ts L → DpAll K H (ts.map V.ref) (L.map (dSt F f))
  | _, _, .nil => .nil
  | _, _, .cons h k => .cons h.dp (tds_all k)
theorem tds_dp {K : PySem.W.Frag} {F : List Fact} {f : Nat → Nat → Nd} {H : Hp} {D : Addr} {ts : List Addr} {L : List It} (h : H D = some (.lst (ts.map V.ref))) (k : Paired (TdAt F f H) ts L) : Dp K H (.ref D) (dSts F f L) := .lst (SqL.of h) (tds_all k)
def spNameN (CP : Addr) : Sp := fun vs H Q _ => ∃ (p : Addr) (F : List Fact) (v : Nd), vs = [.ref p] ∧ PlaceAt CP H p (keyF F 1 v) ∧ ∀ t H', Same H H' → PrAt H' t (nqk F 1 v) → Q (.ref t) H'
def spTold (CS CP : Addr) : Sp := fun vs H Q _ => ∃ (l : Addr) (us : List Addr) (M : List It) (F : List Fact) (f : Nat → Nat → Nd), vs = [.ref l] ∧ H l = some (.lst (us.map V.ref)) ∧ Paired (SpL CS CP F f H) us M ∧ M.length ≤ 1000000 ∧
  ∀ D ts H', Same H H' → H' D = some (.lst (ts.map V.ref)) → Paired (TdAt F f H') ts M → Q (.ref D) H'
section
variable {P : Program} {w : World} {K : PySem.W.Frag} {mg : Str → Option Value} {base : Heap}
abbrev nNameN : List Str := ["_law_place"]
theorem scNameN : FnScope nNameN ["_law_place"] (defScope sNameN) := ⟨rfl, rfl, rfl, by decide +kernel, rfl, by decide +kernel, by decide +kernel⟩
theorem ok_nameN {f CP : Addr} {fd : FuncData} (F : Fun K "_law_name" "_law_name" sNameN f fd) (TP : PlT K mg CP) : FnOk P w K mg base CX0 1 f fd ["_law_place"] (spNameN CP) := by
  refine F.ok scNameN (fun vs H Q E h => ?_) (fun cdv A outer s H vs Q E hr h => ?_)
  · obtain ⟨p, fs, v, rfl, _⟩ := h
    rfl
  · obtain ⟨p, fs, v, rfl, ⟨dp, ep⟩, k⟩ := h
    rw [key1] at ep
    refine ⟨_, pss_one (ps_ret (pe_ifExp (pt_cmpR op_eq (pe_fld (pv 0) rfl) pe_int (nomark _)) (pe_tup (pa_cons (pe_fld (pv 0) rfl) (pa_cons (pe_fld (pv 0) rfl) pa_nil))) pe_non)), ?_⟩
    refine ⟨_, rfl, p, CP, dp, _, _, rfl, ep, TP.cl, TP.nP, plF_p _, rfl, _, rfl, ?_⟩
    show if decide (V.int 1 = V.int 1) = true then _ else _
    refine iteTd rfl ⟨_, rfl, p, CP, dp, _, _, rfl, ep, TP.cl, TP.nR, plF_r _, _, rfl, p, CP, dp, _, _, rfl, ep, TP.cl, TP.nN, plF_n _, (by show 2 ≤ sizeLine; decide), fun t ht => ?_⟩
    exact k t _ (Same.new ht) upd_same
abbrev nTold : List Str := ["_law_stretches_here", "_law_found", "_law_one"]
theorem scTold : FnScope nTold ["_law_stretches_here"] (defScope sTold) := ⟨rfl, rfl, rfl, by decide +kernel, rfl, by decide +kernel, by decide +kernel⟩
theorem ok_told {f0 fNM CS CP : Addr} {fd fdNM : FuncData} (F0 : Fun K "_law_told" "_law_told" sTold f0 fd) (TS : StT K mg CS)
    (FNM : FnOk P w K mg base CX0 1 fNM fdNM ["_law_place"] (spNameN CP)) (bNM : Binds K fdNM ["_law_place"] []) (mNM : mg "_law_name" = some (.ref fNM)) (kNM : PySem.W.keepIn K (.ref fNM) = true) : FnOk P w K mg base CX0 2 f0 fd ["_law_stretches_here"] (spTold CS CP) := by
  refine F0.ok scTold (fun vs H Q E h => ?_) (fun cdv A outer s H vs Q E hr h => ?_)
  · obtain ⟨l, us, M, fs, f, rfl, _⟩ := h
    rfl
  · obtain ⟨l, us, M, fs, f, rfl, hl, pr, ml, kont⟩ := h
    have hr1 : Room 1 _ := hr.mono (by decide)
    refine ⟨_, pss_cons (ps_set (i := 1) scTold.nd rfl (Or.inl rfl) (pe_lst pa_nil))
      (pss_cons (ps_for PassesOwn.never rfl (pi_list (pv 0)) (pg_name (i := 2) scTold.nd rfl (Or.inl rfl))
        (pss_one (ps_expr (pe_bm PySem.F.plainAttrs_list PySem.F.slot_list_append PySem.F.type_list_append mt_append (pv 1) (pa_cons (pe_tup (pa_cons (pe_fld (pv 2) rfl) (pa_cons (pe_fld (pv 2) rfl) (pa_cons (pe_fld (pv 2) rfl) (pa_cons (pe_call FNM hr1 rfl mNM kNM bNM .nil pass0 (pa_cons (pe_fld (pv 2) rfl) pa_nil)) (pa_cons (pe_call FNM hr1 rfl mNM kNM bNM .nil pass0 (pa_cons (pe_fld (pv 2) rfl) pa_nil)) pa_nil)))))) pa_nil)))))
      (pss_one (ps_ret (pv 1)))), ?_⟩
    have ul : (us.map V.ref).length = M.length := by rw [List.length_map]; exact Paired.length pr
    refine ⟨Nat.zero_le _, fun D hD => ?_⟩
    refine ⟨_, rfl, l, rfl, ⟨_, SqL.of (Same.new hD _ _ hl)⟩, for_list (K := K) (a := l) (xs := us.map V.ref) (fun i σ G => ∃ (v2 : Option V) (ts : List Addr), σ = [some (.ref l), some (.ref D), v2] ∧ Same H G ∧ G D = some (.lst (ts.map V.ref)) ∧ Paired (TdAt fs f G) ts (M.take i))
      ⟨none, [], rfl, Same.new hD, upd_same, .nil⟩ (fun i σ G _ ⟨_, _, _, sg, _⟩ => SqL.of (sg _ _ hl)) ?_ ?_⟩
    · rintro i y σ G hi ⟨v2, ts, rfl, sg, gD, prT⟩
      obtain ⟨u, hu, rfl⟩ := map_get hi
      obtain ⟨z, hz, sz0⟩ := paired_get pr hu
      have il := (List.getElem?_eq_some_iff.mp hz).1
      obtain ⟨a, b, ⟨dx, ex⟩, pa, pb⟩ := SpAt.same sz0 sg
      have ex : G u = some (.ins CS dx (stF (((z.1 : Nat) : Int), ((z.2.1 : Nat) : Int), ((z.2.2 : Nat) : Int), a, b))) := ex
      refine ⟨_, rfl, .inl ⟨rfl, _, SqL.of gD⟩, _, rfl, u, CS, dx, _, _, rfl, ex, TS.cl, TS.nR, stF_r _, _, rfl, u, CS, dx, _, _, rfl, ex, TS.cl, TS.nL, stF_l _, _, rfl, u, CS, dx, _, _, rfl, ex, TS.cl, TS.nG, stF_g _, _, rfl, u, CS, dx, _, _, rfl, ex, TS.cl, TS.nF, stF_f _, a, fs, _, rfl, pa, fun ta G1 s1 p1 => ?_⟩
      have ex1 := s1 _ _ ex
      refine ⟨_, rfl, u, CS, dx, _, _, rfl, ex1, TS.cl, TS.nA, stF_a _, b, fs, _, rfl, PlaceAt.kp pb (.of s1), fun tb G2 s2 p2 => ?_⟩
      refine ⟨(by show 5 ≤ sizeLine; decide), fun t ht => ?_⟩
      have s3 := Same.new (o := .tup [.int ((z.1 : Nat) : Int), .int ((z.2.1 : Nat) : Int), .int ((z.2.2 : Nat) : Int), .ref ta, .ref tb]) ht
      have s13 := s1.trans (s2.trans s3)
      have gD3 := s13 _ _ gD
      have kput : Kp (upd G2 t (.tup [.int ((z.1 : Nat) : Int), .int ((z.2.1 : Nat) : Int), .int ((z.2.2 : Nat) : Int), .ref ta, .ref tb])) (upd (upd G2 t (.tup [.int ((z.1 : Nat) : Int), .int ((z.2.1 : Nat) : Int), .int ((z.2.2 : Nat) : Int), .ref ta, .ref tb])) D (.lst (ts.map V.ref ++ [.ref t]))) := .put gD3
      refine ⟨D, _, _, rfl, rfl, gD3, small6 (by rw [List.length_map, Paired.length prT, List.length_take]; omega), ?_⟩
      refine ⟨_, ts ++ [t], rfl, fun b o e => by rw [upd_ne (ne_of_none e hD)]; exact s13 _ _ (sg b o e), by rw [List.map_append]; exact upd_same, ?_⟩
      rw [take_get hz]
      have new : TdAt fs f (upd G2 t (.tup [.int ((z.1 : Nat) : Int), .int ((z.2.1 : Nat) : Int), .int ((z.2.2 : Nat) : Int), .ref ta, .ref tb])) t z := ⟨ta, tb, upd_same, (p1.same s2).same s3, p2.same s3⟩
      exact paired_app (Paired.mapP prT fun _ _ h => (h.same s13).kp kput) (.cons (new.kp kput) .nil)
    · rintro σ G ⟨v2, ts, rfl, sg, gD, prT⟩
      rw [ul, List.take_length] at prT
      exact ⟨_, rfl, kont D ts G sg gD prT⟩
end
end OT

set_option Elab.async false
set_option linter.all false
set_option maxRecDepth 100000
set_option maxHeartbeats 4000000
-- own words
namespace OT
open PySem L2 OTR
abbrev sStretchesN : Stmt := top 63
theorem cutOk_nil (F : List Fact) (f : Nat → Nat → Nd) (a : Nat × Nat) : CutOk F f a a [] := ⟨rfl, fun z hz => (by cases hz), fun i y z h => (by simp at h)⟩
theorem CutOk.push {F : List Fact} {f : Nat → Nat → Nd} {a b : Nat × Nat} {L : List It} {z : It} (h : CutOk F f a b L) (lt : z.2.1 < z.2.2) (e : (z.1, z.2.1) = b) (inn : ∀ t, z.2.1 < t → t < z.2.2 → ¬ Cut (f z.1) t) (c : z.2.1 = 0 ∨ Cut (f z.1) z.2.1) : CutOk F f a (nx F z.1 z.2.2) (L ++ [z]) := by
  refine ⟨h.cov.snoc e lt, fun y hy => (List.mem_append.mp hy).elim (h.inn y) fun q => by rw [List.mem_singleton.mp q]; exact inn, fun i y w hy hw q => ?_⟩
  have lw := (List.getElem?_eq_some_iff.mp hw).1
  rw [List.length_append] at lw
  have lw : i + 1 < L.length + 1 := lw
  rw [List.getElem?_append_left (by omega)] at hy
  by_cases r : i + 1 < L.length
  · rw [List.getElem?_append_left r] at hw
    exact h.bnd i y w hy hw q
  · have ei : i + 1 = L.length := by omega
    rw [ei, List.getElem?_append_right (Nat.le_refl _), Nat.sub_self] at hw
    cases hw
    have el : L = L.take i ++ [y] := by
      have := take_get hy
      rw [ei, List.take_length] at this
      exact this
    have hc := h.cov
    rw [el] at hc
    obtain ⟨_, _, _, l1, n1⟩ := last_of hc
    have ey := nx_same (n1.trans e.symm) q
    rw [ey, q]
    exact c.resolve_left (by omega)
def spStretchesN : Sp := fun vs H Q _ => ∃ (q tb : Addr) (n : Int) (F : List Fact) (us : List Nd) (kvs : List (List Key × V)) (gs : List MG) (f : Nat → Nat → Nd) (B : Nat), vs = [.ref q, .ref tb] ∧ FactsAt H q F ∧ TreeM n F ∧ 2 ≤ n ∧ F.length ≤ 23 ∧ B ≤ 10000 ∧ (∀ r ∈ F, r.2.2 ≤ B) ∧ TabN F us H tb kvs (GoL F 1 gs) ∧ (∀ x ∈ gs, MgOk F x) ∧ Img F gs f ∧
  ∀ D ts L H', Same H H' → H' D = some (.lst (ts.map V.ref)) → Paired (TdAt F f H') ts L → CutOk F f (0, 0) (F.length, 0) L → Q (.ref D) H'
theorem neB_t {A B : Bool} {X Y : Prop} (h : A ≠ B) (x : X) : if (!decide (V.bl A = V.bl B)) = true then X else Y := by
  rw [decide_eq_false (fun z => h (V.bl.inj z))]
  exact iteT x
theorem neB_f {A B : Bool} {X Y : Prop} (h : A = B) (y : Y) : if (!decide (V.bl A = V.bl B)) = true then X else Y := by
  rw [decide_eq_true (congrArg V.bl h)]
  exact iteF y
theorem ifS_cut {tt : TT} {b1 b2 : TS} {D : Ends} {σ : L2.St} {H : Hp} (c : Prop) (h1 : ∀ Q : Bool → Hp → Prop, (c → Q true H) → (¬ c → Q false H) → tt σ H Q) (h2 : c → b1 D σ H) (h3 : ¬ c → b2 D σ H) : tIfS tt b1 b2 D σ H := h1 _ (fun z => iteT (h2 z)) fun z => iteF (h3 z)
theorem covS_len {F : List Fact} {N B : Nat} (hB : ∀ k, k < N → sz F 1 k ≤ B) : ∀ {L : List It} {a : Nat × Nat}, CovS F a (N, 0) L → a.2 ≤ B → L.length + a.1 * (B + 1) + a.2 ≤ N * (B + 1)
  | [], a, h, _ => by
    cases (show a = (N, 0) from h)
    simp
  | z :: L, a, h, ha => by
    have zi := CovS.in_ h z (List.mem_cons_self ..)
    obtain ⟨h1, h2, h3⟩ := h
    subst h1
    have bz := hB _ zi.1
    have en : (nx F z.1 z.2.2).2 ≤ B ∧ (z.1 * (B + 1) + z.2.1 + 1 ≤ (nx F z.1 z.2.2).1 * (B + 1) + (nx F z.1 z.2.2).2) := by
      unfold nx
      split
      · refine ⟨Nat.zero_le _, ?_⟩
        show z.1 * (B + 1) + z.2.1 + 1 ≤ (z.1 + 1) * (B + 1) + 0
        rw [Nat.add_mul, Nat.one_mul]
        omega
      · refine ⟨?_, ?_⟩
        · show z.2.2 ≤ B
          omega
        · show z.1 * (B + 1) + z.2.1 + 1 ≤ z.1 * (B + 1) + z.2.2
          omega
    have ih := covS_len hB h3 en.1
    rw [List.length_cons]
    dsimp only
    omega
section
variable {P : Program} {w : World} {K : PySem.W.Frag} {mg : Str → Option Value} {base : Heap}
abbrev nStretchesN : List Str := ["_law_roads", "_law_table_here", "_law_found", "_law_road", "_law_one", "_law_led", "_law_begun", "_law_is_still", "_law_number"]
theorem scStretchesN : FnScope nStretchesN ["_law_roads", "_law_table_here"] (defScope sStretchesN) := ⟨rfl, rfl, rfl, by decide +kernel, rfl, by decide +kernel, by decide +kernel⟩
theorem ok_stretchesN {f0 fKN : Addr} {fd fdKN : FuncData} (F0 : Fun K "_law_stretches" "_law_stretches" sStretchesN f0 fd)
    (FKN : FnOk P w K mg base CX0 1 fKN fdKN ["_law_roads", "_law_place"] spKeyN) (bKN : Binds K fdKN ["_law_roads", "_law_place"] []) (mKN : mg "_law_key" = some (.ref fKN)) (kKN : PySem.W.keepIn K (.ref fKN) = true)
    (hEn : mg "enumerate" = none) (hRg : mg "range" = none) : FnOk P w K mg base CX0 2 f0 fd ["_law_roads", "_law_table_here"] spStretchesN := by
  refine F0.ok scStretchesN (fun vs H Q E h => ?_) (fun cdv A outer s H vs Q E hr h => ?_)
  · obtain ⟨q, tb, n, fs, us, kvs, gs, f, B, rfl, _⟩ := h
    rfl
  · obtain ⟨q, tb, n, fs, us, kvs, gs, f, B, rfl, hF, T, n2, f23, hB, big, N, ok, im, kont⟩ := h
    have hr1 : Room 1 _ := hr.mono (by decide)
    have hu := hu_of hr
    have two : ∀ {x y : V}, [x, y].length ≤ sizeLine := fun {x y} => (by show 2 ≤ sizeLine; decide)
    refine ⟨_, pss_cons (ps_set (i := 2) scStretchesN.nd rfl (Or.inl rfl) (pe_lst pa_nil))
      (pss_cons (ps_for PassesOwn.never rfl (pi_enum (by rfl) hEn (pa_cons (pv 0) pa_nil)) (pg_tup rfl (pgs_cons (pg_name (i := 3) scStretchesN.nd rfl (Or.inr rfl)) (pgs_cons (pg_name (i := 4) scStretchesN.nd rfl (Or.inl rfl)) pgs_nil)))
        (pss_cons (ps_setLc (i := 5) (own := [("_law_number", 8)]) (g := gName 8) (tt := tYes) (te := tDGet (tVar 1) (tCall spKeyN [] L2.E0 (tCons (tVar 0) (tCons (tTup (tCons (tVar 3) (tCons (tVar 8) tNil))) tNil)))) rfl scStretchesN.nd rfl rfl (sw_true rfl rfl rfl (by decide +kernel)) (pi_range1 (by rfl) hRg (pa_cons (pe_op op_add (pe_ix ix_tup (pv 4) pe_int (fun _ _ => rfl)) pe_int) pa_nil)) (blkOk_by (own := [("_law_number", 8)]) (N := nStretchesN) (sc := defScope sStretchesN) (by decide +kernel)) (fun _ _ _ _ _ => (pg_name (i := 8) scStretchesN.nd rfl (Or.inl rfl))) (fun _ _ _ _ _ => pts_nil) (fun _ _ _ _ _ => (pe_dget hu (pv 1) (pe_call FKN hr1 rfl mKN kKN bKN .nil pass0 (pa_cons (pv 0) (pa_cons (pe_tup (pa_cons (pv 3) (pa_cons (pv 8) pa_nil))) pa_nil))) (fun _ _ => rfl))))
        (pss_cons (ps_set (i := 6) scStretchesN.nd rfl (Or.inl rfl) pe_int)
        (pss_cons (ps_for PassesOwn.never rfl (pi_range2 (by rfl) hRg (pa_cons pe_int (pa_cons (pe_ix ix_tup (pv 4) pe_int (fun _ _ => rfl)) pa_nil))) (pg_name (i := 8) scStretchesN.nd rfl (Or.inl rfl))
          (pss_cons (ps_set (i := 7) scStretchesN.nd rfl (Or.inl rfl) (pe_lst (pa_cons (pe_cmpR (op_eqD hr.units) (pe_ix ix_list (pv 5) (pe_op op_sub (pv 8) pe_int) (fun _ _ => rfl)) (pe_ix ix_list (pv 5) (pv 8) (fun _ _ => rfl)) (nomark _)) (pa_cons (pe_cmpR (op_eqD hr.units) (pe_ix ix_list (pv 5) (pv 8) (fun _ _ => rfl)) (pe_ix ix_list (pv 5) (pe_op op_add (pv 8) pe_int) (fun _ _ => rfl)) (nomark _)) pa_nil))))
          (pss_one (ps_if (PW.pt (pw_or (pt_cmpR op_ne (pe_ix ix_list (pv 7) pe_int (fun _ _ => rfl)) (pe_ix ix_list (pv 7) pe_int (fun _ _ => rfl)) (nomark _)) (pw_or1 (PW.pt (pw_and (pt_not (pt_val (pe_ix ix_list (pv 7) pe_int (fun _ _ => rfl)))) (pw_and1 (pt_cmpR (op_eqD hr.units) (pe_ix ix_list (pv 5) (pe_op op_sub (pv 8) pe_int) (fun _ _ => rfl)) (pe_ix ix_list (pv 5) (pe_op op_add (pv 8) pe_int) (fun _ _ => rfl)) (nomark _))))))))
            (pss_cons (ps_expr (pe_bm PySem.F.plainAttrs_list PySem.F.slot_list_append PySem.F.type_list_append mt_append (pv 2) (pa_cons (pe_tup (pa_cons (pv 3) (pa_cons (pv 6) (pa_cons (pv 8) (pa_cons (pe_ix ix_list (pv 5) (pv 6) (fun _ _ => rfl)) (pa_cons (pe_ix ix_list (pv 5) (pv 8) (fun _ _ => rfl)) pa_nil)))))) pa_nil)))
            (pss_one (ps_set (i := 6) scStretchesN.nd rfl (Or.inl rfl) (pv 8))))
            pss_nil))))
        (pss_one (ps_expr (pe_bm PySem.F.plainAttrs_list PySem.F.slot_list_append PySem.F.type_list_append mt_append (pv 2) (pa_cons (pe_tup (pa_cons (pv 3) (pa_cons (pv 6) (pa_cons (pe_ix ix_tup (pv 4) pe_int (fun _ _ => rfl)) (pa_cons (pe_ix ix_list (pv 5) (pv 6) (fun _ _ => rfl)) (pa_cons (pe_ix ix_list (pv 5) (pe_ix ix_tup (pv 4) pe_int (fun _ _ => rfl)) (fun _ _ => rfl)) pa_nil)))))) pa_nil))))))))
      (pss_one (ps_ret (pv 2)))), ?_⟩
    obtain ⟨ts0, hq, hts⟩ := id hF
    have tl : (ts0.map V.ref).length = fs.length := by rw [List.length_map]; exact Paired.length hts
    refine ⟨Nat.zero_le _, fun D hD => ?_⟩
    have fr : ∀ {G : Hp} {b : Addr} {o : HO}, Same H G → H b = some o → b ≠ D := fun {G b o} _ e => ne_of_none e hD
    -- for road, one in enumerate(roads)
    refine ⟨_, rfl, q, _, rfl, SqL.of (Same.new hD _ _ hq), for_it (walk_enum (K := K) (a := q) (xs := ts0.map V.ref)) (fun i σ G => ∃ (v3 v4 v5 v6 v7 v8 : Option V) (ts : List Addr) (L : List It), σ = [some (.ref q), some (.ref tb), some (.ref D), v3, v4, v5, v6, v7, v8] ∧ Same H G ∧ G D = some (.lst (ts.map V.ref)) ∧ Paired (TdAt fs f G) ts L ∧ CutOk fs f (0, 0) (i, 0) L ∧ L.length ≤ 10001 * i)
      ⟨none, none, none, none, none, none, [], [], rfl, Same.new hD, upd_same, .nil, cutOk_nil fs f _, Nat.le_refl _⟩ (fun i σ G _ ⟨_, _, _, _, _, _, _, _, _, sg, _⟩ => SqL.of (sg _ _ hq)) ?_ ?_⟩
    · rintro i v σ G0 G1 hi ⟨v3, v4, v5, v6, v7, v8, ts, L, rfl, sg, gD, pr, co, ll0⟩ ⟨T', x1, y1, rfl, hT, rfl, hx1, hy1⟩
      cases hx1
      rw [tl] at hi
      obtain ⟨tt, htt, rfl⟩ := map_get (show (ts0.map V.ref)[i]? = some y1 from hy1)
      obtain ⟨r, hr', tr0⟩ := paired_get hts htt
      have er : rd fs i = r := rd_of hr'
      have szk : sz fs 1 i = r.2.2 := by unfold sz; rw [er, Int.mul_one]
      obtain ⟨len, hlen⟩ : ∃ len : Nat, (len : Int) = r.2.2 := ⟨r.2.2.toNat, by have := sz_pos T (show (1 : Int) ≤ 1 by decide) hi; rw [Int.toNat_of_nonneg]; omega⟩
      have rpos : 0 < len := by have := sz_pos T (show (1 : Int) ≤ 1 by decide) hi; omega
      have rbig : len ≤ 10000 := by have := big r (List.mem_of_getElem? hr'); omega
      have sT := Same.new (o := .tup [.int (i : Nat), .ref tt]) hT
      refine ⟨T', _, rfl, SqT.of upd_same, rfl, _, _, rfl, _, _, rfl, rfl, ?_⟩
      dsimp only [gName]
      have gD1 := sT _ _ gD
      have pr1 := Paired.mapP pr fun _ _ h => h.same sT
      have sg1 := sg.trans sT
      clear gD pr sg sT hT
      generalize upd G0 T' (.tup [.int (i : Nat), .ref tt]) = G1 at gD1 pr1 sg1 ⊢
      have tr1 := sg1 _ _ tr0
      have onf : ∀ j : Nat, j ≤ len → OnT fs 1 (f i j) := fun j hj => im.on T n2 ok hi (by omega)
      -- led = [table[key(roads, (road, number))] for number in range(one[2] + 1)]
      refine ⟨_, rfl, tt, _, 2, .int r.2.2, rfl, rfl, SqT.of tr1, rfl, _, _, rfl, rfl, _, rfl, by omega, by omega, fun D2 hD2 => lc_range (lo := 0) (n := (r.2.2 + 1).toNat) (fun j Gc => ∃ ls : List Addr, Gc D2 = some (.lst (ls.map V.ref)) ∧ Same G1 Gc ∧ Paired (fun t (c : Nat) => PrAt Gc t (nqk fs 1 (f i c))) ls (List.range j))
        ⟨[], upd_same, Same.new hD2, .nil⟩ ?_ ?_⟩
      · rintro j Gc hj ⟨ls, gl, sc, pl⟩
        have s1c := sg1.trans sc
        have onj : On fs 1 i ((j : Nat) : Int) := ⟨hi, Int.natCast_nonneg j, by rw [szk]; omega⟩
        have e0 : (0 : Int) + ((j : Nat) : Int) = ((j : Nat) : Int) := Int.zero_add _
        refine ⟨rfl, ?_⟩
        unfold tYes
        refine iteT ⟨_, rfl, _, rfl, _, rfl, _, rfl, two, fun pt hpt => ?_⟩
        have s2 := Same.new (o := .tup [.int (i : Nat), .int (0 + (j : Nat))]) hpt
        refine ⟨q, pt, n, fs, i, ((j : Nat) : Int), rfl, FactsAt.same (FactsAt.same hF s1c) s2, T, n2, f23, onj, by unfold PrAt; rw [e0]; exact upd_same, fun t' G3 s3 pk => ?_⟩
        have s23 := s2.trans s3
        have Nc := N.keep (s1c.trans s23)
        obtain ⟨t, v, hv, gv, ov, pv'⟩ := Nc.ok _ ⟨i, _, onj, rfl⟩
        have ev : v = f i j := GoL.uniq T (by decide) ok gv (im i j hi (by omega))
        subst ev
        have dget : DGet G3 tb (.ref t') (some (.ref t)) := by
          have h := DGet.t (k := nqL fs (node fs 1 i ((j : Nat) : Int))) Nc.at_ pk
          rw [hv] at h
          exact h
        have gl3 := s23 _ _ gl
        have kput : Kp G3 (upd G3 D2 (.lst (ls.map V.ref ++ [.ref t]))) := .put gl3
        refine ⟨tb, .ref t, rfl, dget, ls.map V.ref, gl3, small6 (by rw [List.length_map, Paired.length pl, List.length_range]; omega), ls ++ [t], by rw [List.map_append]; exact upd_same, fun b o e => ?_, ?_⟩
        · rw [upd_ne (ne_of_none e hD2)]
          exact s23 _ _ (sc b o e)
        · rw [List.range_succ]
          exact paired_app (Paired.mapP pl fun _ _ h => (h.same s23).kp kput) (.cons (pv'.kp kput) .nil)
      · rintro H4 ⟨ls, gl, s4, pl⟩
        have s14 := sg1.trans s4
        have gD4 := s4 _ _ gD1
        have pr4 := Paired.mapP pr1 fun _ _ h => h.same s4
        have tr4 := s4 _ _ tr1
        have nD2 : D2 ≠ D := fun e => by rw [e, gD1] at hD2; cases hD2
        clear pr1 gD1 s4 tr1
        have ld : ∀ c, c ≤ len → ∃ t, (ls.map V.ref)[c]? = some (.ref t) ∧ PrAt H4 t (nqk fs 1 (f i c)) := fun c hc => by
          have lc : c < ls.length := by rw [Paired.length pl, List.length_range]; omega
          obtain ⟨c', hc', pc⟩ := paired_get pl (List.getElem?_eq_getElem lc)
          have ec : c' = c := by
            obtain ⟨_, e⟩ := List.getElem?_eq_some_iff.mp hc'
            rw [List.getElem_range] at e
            exact e.symm
          subst ec
          exact ⟨ls[c'], by rw [List.getElem?_map, List.getElem?_eq_getElem lc]; rfl, pc⟩
        have tupk : ∀ {G : Hp} {t : Addr} {x : Nat × Int}, (∀ a o, H4 a = some o → a ≠ D → G a = some o) → PrAt H4 t x → PrAt G t x := fun {G t x} kd p => kd _ _ p (ne_of p gD4 fun z => nomatch z)
        have ck : ∀ x y : Nat, x ≤ len → y ≤ len → PyData.eqv (d2 (nqk fs 1 (f i x))) (d2 (nqk fs 1 (f i y))) = decide (f i x = f i y) := fun x y hx hy => by
          rw [d2_eqv, decide_eq_decide]
          exact ⟨fun z => nqk_inj T n2 (by decide) (onf x hx) (onf y hy) z, fun z => by rw [z]⟩
        have hB' : ∀ k, k < fs.length → sz fs 1 k ≤ B := fun k hk => by
          unfold sz
          rw [Int.mul_one]
          exact big _ (List.mem_of_getElem? (rd_get hk))
        -- begun = 0; for number in range(1, one[2])
        dsimp only [gName]
        refine ⟨_, rfl, tt, _, 2, .int r.2.2, rfl, rfl, SqT.of tr4, rfl, 1, r.2.2, rfl, ⟨by omega, by omega, by omega, by omega⟩, for_range (lo := 1) (n := (r.2.2 - 1).toNat) (fun j σ G => ∃ (b : Nat) (v7 v8 : Option V) (ts : List Addr) (L : List It), σ = [some (.ref q), some (.ref tb), some (.ref D), some (.int (i : Nat)), some (.ref tt), some (.ref D2), some (.int (b : Nat)), v7, v8] ∧ (∀ a o, H4 a = some o → a ≠ D → G a = some o) ∧ G D = some (.lst (ts.map V.ref)) ∧ Paired (TdAt fs f G) ts L ∧ CutOk fs f (0, 0) (i, b) L ∧ b ≤ j ∧ (∀ t, b < t → t < j + 1 → ¬ Cut (f i) t) ∧ (b = 0 ∨ Cut (f i) b) ∧ L.length ≤ 10001 * i + j)
          ⟨0, v7, v8, ts, L, rfl, fun a o e _ => e, gD4, pr4, co, Nat.zero_le _, fun t t1 t2 => by omega, .inl rfl, by omega⟩ ?_ ?_⟩
        · rintro j σ G hj ⟨b, v7, v8, ts, L, rfl, kd, gD, pr, co, bj, inn, cb, ll⟩
          have jl : j + 2 ≤ len := by omega
          obtain ⟨t0, a0, p0⟩ := ld j (by omega)
          obtain ⟨t1, a1, p1⟩ := ld (j + 1) (by omega)
          obtain ⟨t2, a2, p2⟩ := ld (j + 2) (by omega)
          obtain ⟨tb', ab, pb⟩ := ld b (by omega)
          have i0 : (1 : Int) + ((j : Nat) : Int) - 1 = ((j : Nat) : Int) := by omega
          have i1 : (1 : Int) + ((j : Nat) : Int) = ((j + 1 : Nat) : Int) := by omega
          have i2 : (1 : Int) + ((j : Nat) : Int) + 1 = ((j + 2 : Nat) : Int) := by omega
          have at0 : atI (ls.map V.ref) ((1 : Int) + ((j : Nat) : Int) - 1) = some (.ref t0) := by rw [i0]; exact atI_nat a0
          have at1 : atI (ls.map V.ref) ((1 : Int) + ((j : Nat) : Int)) = some (.ref t1) := by rw [i1]; exact atI_nat a1
          have at2 : atI (ls.map V.ref) ((1 : Int) + ((j : Nat) : Int) + 1) = some (.ref t2) := by rw [i2]; exact atI_nat a2
          have atb : atI (ls.map V.ref) ((b : Nat) : Int) = some (.ref tb') := atI_nat ab
          have glG := kd _ _ gl nD2
          dsimp only [gName]
          -- is_still = [led[number - 1] == led[number], led[number] == led[number + 1]]
          refine ⟨_, rfl, _, rfl, _, _, rfl, rfl, D2, _, _, .ref t0, rfl, rfl, SqL.of glG, at0, _, rfl, _, rfl, D2, _, _, .ref t1, rfl, rfl, SqL.of glG, at1, d2 _, d2 _, d2_at (tupk kd p0), d2_at (tupk kd p1), d2_shaped _, d2_shaped _, _, rfl, _, rfl, D2, _, _, .ref t1, rfl, rfl, SqL.of glG, at1, _, rfl, _, rfl, _, _, rfl, rfl, D2, _, _, .ref t2, rfl, rfl, SqL.of glG, at2, d2 _, d2 _, d2_at (tupk kd p1), d2_at (tupk kd p2), d2_shaped _, d2_shaped _, two, fun pl hpl => ?_⟩
          rw [ck j (j + 1) (by omega) (by omega), ck (j + 1) (j + 2) (by omega) (by omega)]
          dsimp only [gName]
          have s5 := Same.new (o := .lst [.bl (decide (f i j = f i (j + 1))), .bl (decide (f i (j + 1) = f i (j + 2)))]) hpl
          have epl : upd G pl (.lst [.bl (decide (f i j = f i (j + 1))), .bl (decide (f i (j + 1) = f i (j + 2)))]) pl = some (.lst [.bl (decide (f i j = f i (j + 1))), .bl (decide (f i (j + 1) = f i (j + 2)))]) := upd_same
          have kd5 : ∀ a o, H4 a = some o → a ≠ D → upd G pl (.lst [.bl (decide (f i j = f i (j + 1))), .bl (decide (f i (j + 1) = f i (j + 2)))]) a = some o := fun a o e n => s5 _ _ (kd a o e n)
          have gD5 := s5 _ _ gD
          have pr5 := Paired.mapP pr fun _ _ h => h.same s5
          clear pr gD s5 kd glG hpl
          generalize upd G pl (.lst [.bl (decide (f i j = f i (j + 1))), .bl (decide (f i (j + 1) = f i (j + 2)))]) = G5 at epl kd5 gD5 pr5 ⊢
          have gl5 := kd5 _ _ gl nD2
          refine ifS_cut (Cut (f i) (j + 1)) (fun Qt qt qf => ?_) (fun hc => ?_) (fun hc => ?_)
          · refine ⟨_, rfl, pl, _, _, _, rfl, rfl, SqL.of epl, rfl, _, rfl, pl, _, _, _, rfl, rfl, SqL.of epl, rfl, rfl, _, rfl, ?_⟩
            by_cases hA : f i j = f i (j + 1)
            · by_cases hB : f i (j + 1) = f i (j + 2)
              · refine neB_f (by rw [decide_eq_true hA, decide_eq_true hB]) ⟨_, rfl, pl, _, _, _, rfl, rfl, SqL.of epl, rfl, _, rfl, ?_⟩
                rw [decide_eq_true hA]
                refine iteF (qf ?_)
                rintro (c | c)
                · exact c ⟨fun _ => hB, fun _ => hA⟩
                · exact c.1 hA
              · refine neB_t (by rw [decide_eq_true hA, decide_eq_false hB]; decide) (qt (.inl fun z => hB (z.mp hA)))
            · by_cases hB : f i (j + 1) = f i (j + 2)
              · refine neB_t (by rw [decide_eq_false hA, decide_eq_true hB]; decide) (qt (.inl fun z => hA (z.mpr hB)))
              · refine neB_f (by rw [decide_eq_false hA, decide_eq_false hB]) ⟨_, rfl, pl, _, _, _, rfl, rfl, SqL.of epl, rfl, _, rfl, ?_⟩
                rw [decide_eq_false hA]
                refine iteT ⟨_, rfl, _, rfl, _, _, rfl, rfl, D2, _, _, .ref t0, rfl, rfl, SqL.of gl5, at0, _, rfl, _, rfl, _, _, rfl, rfl, D2, _, _, .ref t2, rfl, rfl, SqL.of gl5, at2, d2 _, d2 _, d2_at (tupk kd5 p0), d2_at (tupk kd5 p2), d2_shaped _, d2_shaped _, _, rfl, ?_⟩
                rw [ck j (j + 2) (by omega) (by omega)]
                by_cases hC : f i j = f i (j + 2)
                · rw [decide_eq_true hC]
                  exact qt (.inr ⟨hA, hC⟩)
                · rw [decide_eq_false hC]
                  refine qf ?_
                  rintro (c | c)
                  · exact c ⟨fun z => absurd z hA, fun z => absurd z hB⟩
                  · exact hC c.2
          · refine ⟨_, rfl, .inl ⟨rfl, _, SqL.of gD5⟩, _, rfl, _, rfl, _, rfl, _, rfl, _, rfl, D2, _, _, .ref tb', rfl, rfl, SqL.of gl5, atb, _, rfl, _, rfl, D2, _, _, .ref t1, rfl, rfl, SqL.of gl5, at1, (by show 5 ≤ sizeLine; decide), fun pt hpt => ?_⟩
            have s6 := Same.new (o := .tup [.int ((i : Nat) : Int), .int ((b : Nat) : Int), .int (1 + ((j : Nat) : Int)), .ref tb', .ref t1]) hpt
            have ept : upd G5 pt (.tup [.int ((i : Nat) : Int), .int ((b : Nat) : Int), .int (1 + ((j : Nat) : Int)), .ref tb', .ref t1]) pt = some (.tup [.int ((i : Nat) : Int), .int ((b : Nat) : Int), .int (1 + ((j : Nat) : Int)), .ref tb', .ref t1]) := upd_same
            have gD6 := s6 _ _ gD5
            have pr6 := Paired.mapP pr5 fun _ _ h => h.same s6
            have pb6 := (tupk kd5 pb).same s6
            have p16 := (tupk kd5 p1).same s6
            have kd6 := fun a o e n => s6 _ _ (kd5 a o e n)
            clear pr5 gD5 s6 hpt epl
            generalize upd G5 pt (.tup [.int ((i : Nat) : Int), .int ((b : Nat) : Int), .int (1 + ((j : Nat) : Int)), .ref tb', .ref t1]) = G6 at ept gD6 pr6 pb6 p16 kd6 ⊢
            have kput : Kp G6 (upd G6 D (.lst (ts.map V.ref ++ [.ref pt]))) := .put gD6
            have new : TdAt fs f G6 pt (i, b, j + 1) := ⟨tb', t1, by
              show G6 pt = some (.tup [.int ((i : Nat) : Int), .int ((b : Nat) : Int), .int ((j + 1 : Nat) : Int), .ref tb', .ref t1])
              rw [← i1]
              exact ept, pb6, p16⟩
            refine ⟨D, _, _, rfl, rfl, gD6, small6 (by rw [List.length_map, Paired.length pr6]; omega), ?_⟩
            have co' := co.push (z := (i, b, j + 1)) (by show b < j + 1; omega) rfl (fun t t1' t2' => inn t t1' t2') cb
            have nz : nx fs i (j + 1) = (i, j + 1) := by
              unfold nx
              rw [if_neg (by omega)]
            have co' : CutOk fs f (0, 0) (nx fs i (j + 1)) (L ++ [(i, b, j + 1)]) := co'
            rw [nz] at co'
            dsimp only [gName]
            refine ⟨_, rfl, j + 1, _, _, ts ++ [pt], L ++ [(i, b, j + 1)], by rw [← i1]; rfl, fun a o e n => by rw [upd_ne n]; exact kd6 a o e n, by rw [List.map_append]; exact upd_same, paired_app (Paired.mapP pr6 fun _ _ h => h.kp kput) (.cons (new.kp kput) .nil), co', Nat.le_refl _, fun t t1' t2' => by omega, .inr hc, by rw [List.length_append]; show L.length + 1 ≤ _; omega⟩
          · refine ⟨b, _, _, ts, L, rfl, kd5, gD5, pr5, co, by omega, fun t t1' t2' => ?_, cb, by omega⟩
            by_cases e : t = j + 1
            · rw [e]
              exact hc
            · exact inn t t1' (by omega)
        · rintro σ G ⟨b, v7, v8, ts, L, rfl, kd, gD, pr, co, bj, inn, cb, ll⟩
          have en : (r.2.2 - 1).toNat + 1 = len := by omega
          obtain ⟨t1, a1, p1⟩ := ld len (Nat.le_refl _)
          obtain ⟨tb', ab, pb⟩ := ld b (by omega)
          have at1 : atI (ls.map V.ref) r.2.2 = some (.ref t1) := by rw [← hlen]; exact atI_nat a1
          have atb : atI (ls.map V.ref) ((b : Nat) : Int) = some (.ref tb') := atI_nat ab
          have glG := kd _ _ gl nD2
          have trG := kd _ _ tr4 (ne_of tr4 gD4 fun z => nomatch z)
          refine ⟨_, rfl, .inl ⟨rfl, _, SqL.of gD⟩, _, rfl, _, rfl, _, rfl, tt, _, 2, .int r.2.2, rfl, rfl, SqT.of trG, rfl, _, rfl, _, rfl, D2, _, _, .ref tb', rfl, rfl, SqL.of glG, atb, _, rfl, _, rfl, tt, _, 2, .int r.2.2, rfl, rfl, SqT.of trG, rfl, D2, _, _, .ref t1, rfl, rfl, SqL.of glG, at1, (by show 5 ≤ sizeLine; decide), fun pt hpt => ?_⟩
          have s6 := Same.new (o := .tup [.int ((i : Nat) : Int), .int ((b : Nat) : Int), .int r.2.2, .ref tb', .ref t1]) hpt
          have ept : upd G pt (.tup [.int ((i : Nat) : Int), .int ((b : Nat) : Int), .int r.2.2, .ref tb', .ref t1]) pt = some (.tup [.int ((i : Nat) : Int), .int ((b : Nat) : Int), .int r.2.2, .ref tb', .ref t1]) := upd_same
          have gD6 := s6 _ _ gD
          have pr6 := Paired.mapP pr fun _ _ h => h.same s6
          have pb6 := (tupk kd pb).same s6
          have p16 := (tupk kd p1).same s6
          have kd6 := fun a o e n => s6 _ _ (kd a o e n)
          clear pr gD s6 hpt
          generalize upd G pt (.tup [.int ((i : Nat) : Int), .int ((b : Nat) : Int), .int r.2.2, .ref tb', .ref t1]) = G6 at ept gD6 pr6 pb6 p16 kd6 ⊢
          have kput : Kp G6 (upd G6 D (.lst (ts.map V.ref ++ [.ref pt]))) := .put gD6
          have new : TdAt fs f G6 pt (i, b, len) := ⟨tb', t1, by
            show G6 pt = some (.tup [.int ((i : Nat) : Int), .int ((b : Nat) : Int), .int ((len : Nat) : Int), .ref tb', .ref t1])
            rw [hlen]
            exact ept, pb6, p16⟩
          refine ⟨D, _, _, rfl, rfl, gD6, small6 (by rw [List.length_map, Paired.length pr6]; omega), ?_⟩
          have co' : CutOk fs f (0, 0) (nx fs i len) (L ++ [(i, b, len)]) := co.push (z := (i, b, len)) (by show b < len; omega) rfl (fun t t1' t2' => inn t t1' (by have : t < len := t2'; omega)) cb
          have nz : nx fs i len = (i + 1, 0) := by
            unfold nx
            rw [if_pos (by omega)]
          rw [nz] at co'
          have n4 : ∀ a o, H a = some o → a ≠ D := fun a o e => ne_of_none e hD
          refine ⟨_, _, _, _, _, _, ts ++ [pt], L ++ [(i, b, len)], rfl, fun a o e => by rw [upd_ne (n4 a o e)]; exact kd6 a o (s14 _ _ e) (n4 a o e), by rw [List.map_append]; exact upd_same, paired_app (Paired.mapP pr6 fun _ _ h => h.kp kput) (.cons (new.kp kput) .nil), co', by rw [List.length_append]; show L.length + 1 ≤ _; omega⟩
    · rintro σ G ⟨v3, v4, v5, v6, v7, v8, ts, L, rfl, sg, gD, pr, co, _⟩
      rw [tl] at co
      exact ⟨_, rfl, kont D ts L G sg gD pr co⟩
end
end OT

set_option Elab.async false
set_option linter.all false
set_option maxRecDepth 100000
set_option maxHeartbeats 4000000
-- own words
namespace OTR
open PySem L2 PyProof.Rows
/-! xs[::n] of a list, n above 0: a new list of some of its items -/
theorem vals_at : ∀ {xs : List V} {us : List Value}, Vals xs us → ∀ i : Nat, (xs[i]? = none ∧ us[i]? = none) ∨ ∃ x u, xs[i]? = some x ∧ us[i]? = some u ∧ RelV x u
  | [], us, r, i => by
    cases r
    exact .inl ⟨rfl, rfl⟩
  | x :: xs, us, r, i => by
    cases r with
    | cons p q =>
      cases i with
      | zero => exact .inr ⟨_, _, rfl, rfl, p⟩
      | succ i => exact vals_at q i
theorem vals_pick {xs : List V} {us : List Value} (r : Vals xs us) : ∀ is : List Nat, Vals (is.filterMap (xs[·]?)) (is.filterMap (us.toArray[·]?))
  | [] => .nil
  | i :: is => by
    have ih := vals_pick r is
    have e : us.toArray[i]? = us[i]? := List.getElem?_toArray ..
    rcases vals_at r i with ⟨h1, h2⟩ | ⟨x, u, h1, h2, h3⟩
    · rw [List.filterMap_cons_none h1, List.filterMap_cons_none (by rw [e]; exact h2)]
      exact ih
    · rw [List.filterMap_cons_some h1, List.filterMap_cons_some (by rw [e]; exact h2)]
      exact .cons h3 ih
theorem pick_mem {xs : List V} {is : List Nat} {z : V} (h : z ∈ is.filterMap (xs[·]?)) : z ∈ xs := by
  obtain ⟨i, _, e⟩ := List.mem_filterMap.mp h
  exact List.mem_of_getElem? e
section
variable {X : Cx}
def tStepL (K : PySem.W.Frag) (te ts : TE) : TE := fun σ H Q => te σ H fun x H1 => ∃ a, x = .ref a ∧ ts σ H1 fun y H2 => ∃ xs i, y = .int i ∧ 1 ≤ i ∧ SqL K H2 a xs ∧ ∀ p zs, H2 p = none → (∀ z ∈ zs, z ∈ xs) → zs.length ≤ xs.length → Q (.ref p) (upd H2 p (.lst zs))
theorem pe_stepL {e i : Expr} {te ts : TE} {p3 pos : Pos} (he : PE X e te) (hi : PE X i ts) : PE X (.Subscript e (.Slice none none (some i) p3) pos) (tStepL X.K te ts) := by
  refine ⟨fun pins s σ H Q I h => ?_⟩
  refine Subscript_ (thn (he.run pins s σ H _ I h) fun v s1 ⟨x, H1, I1, r1, q1⟩ => ?_)
  obtain ⟨a, ex, q⟩ := q1
  subst ex
  cases r1
  have hst : PO X (some i) (tPart ts) := po_some hi
  refine wpAny_Slice (thn (po_none.run pins s1 σ H1 (fun o H2 => o = none ∧ H2 = H1) I1 ⟨rfl, rfl⟩) fun vl s2 ⟨l, H2, I2, pl, el, e2⟩ => ?_)
  subst el e2
  refine thn (po_none.run pins s2 σ H2 (fun o H3 => o = none ∧ H3 = H2) I2 ⟨rfl, rfl⟩) fun vu s3 ⟨u, H3, I3, pu, eu, e3⟩ => ?_
  subst eu e3
  refine thn (hst.run pins s3 σ H3 (fun o H4 => ∃ xs j, o = some j ∧ 1 ≤ j ∧ SqL X.K H4 a xs ∧ ∀ p zs, H4 p = none → (∀ z ∈ zs, z ∈ xs) → zs.length ≤ xs.length → Q (.ref p) (upd H4 p (.lst zs))) I3 (show ts σ H3 _ from ?_)) fun vs s4 ⟨o, H4, I4, ps, q4⟩ => ?_
  · refine cast ?_ q
    congr 1
    funext y G
    apply propext
    constructor
    · rintro ⟨xs, j, rfl, j1, sq, k⟩
      exact ⟨j, rfl, xs, j, rfl, j1, sq, k⟩
    · rintro ⟨j, rfl, xs, j', e, j1, sq, k⟩
      cases e
      exact ⟨xs, j, rfl, j1, sq, k⟩
  obtain ⟨xs, j, rfl, j1, hx, q⟩ := q4
  have I5 : Inv X pins σ H4 { s4 with heap := s4.heap.push { cls := .type "slice", data := .fields #[vl, vu, vs] } } := I4.kept (t' := s4.toks) fun b ob q => Heap.get?_push_of_some _ q
  obtain ⟨its, r, ht, hz⟩ := I5.list hx
  have hlen := r.length
  show wpAny (model X.prog X.w) X.A (subscriptTail e (.Slice none none (some i) p3) (.ref a) (.ref s4.heap.objs.size)) (EP X pins σ Q) X.xe { s4 with heap := s4.heap.push { cls := .type "slice", data := .fields #[vl, vu, vs] } }
  refine tail_any (ops := [.ref a, .ref s4.heap.objs.size]) ht.isList.typeIs (PySem.slot_list_getitem.lookup) ?_ (by with_unfolding_all rfl)
  refine wpAny_getItem_list_slice ht.isList (Heap.IsSliceOf.new _ vl vu vs) pl pu ps (fun z => by cases z; omega) ?_ (by rw [List.size_toArray]; omega)
  have szp := slicePick_size_le its.toArray none none (some j)
  unfold slicePick at szp ⊢
  generalize sliceRange (sliceBounds none none (some j) its.toArray.size).1 (sliceBounds none none (some j) its.toArray.size).2.1 (sliceBounds none none (some j) its.toArray.size).2.2 = is at szp ⊢
  have vp := vals_pick r is
  have ln : (is.filterMap (xs[·]?)).length ≤ xs.length := by
    have := vp.length
    rw [List.size_toArray, List.size_toArray] at szp
    omega
  refine ⟨.ref _, _, I5.laid (t' := s4.toks) (o := .lst (is.filterMap (xs[·]?))) (fun b ob q => Heap.get?_push_of_some _ q) (Nat.le_refl _) ?_, rfl, q _ _ (I5.hok.fresh (Nat.le_refl _)) (fun z hz => pick_mem hz) ln⟩
  exact ⟨by omega, _, 0, vp, Heap.get?_push_size _ rfl⟩
end
end OTR

set_option Elab.async false
set_option linter.all false
set_option maxRecDepth 100000
set_option maxHeartbeats 2000000
namespace OTR
open PySem PySem.Spec PyProof.Rows L2
open AutoSeq1 (wpAny_loadPart')
open MeetsSeq MeetsSeq2 MeetsSeq3 SeqRoads2 SeqAt
/-! ### == of lists, the items compared by their own __eq__; items that are flat and the same -/
def RFlat : Rdg := fun x y H Q => x = y ∧ flatB x = true ∧ Q true H
section
variable {X : Cx} {n : Nat} {R R' : Rdg}
theorem eqB_flat : EqB X n RFlat := fun A pn t σ H x y u v Q sb I rx ry h => by
  obtain ⟨rfl, f, q⟩ := h
  exact eqAt_same rx ry f X.prog X.w X.xe _ ⟨H, I, q⟩
theorem EqB.or (h : EqB X n R) (h' : EqB X n R') : EqB X n (fun x y H Q => R x y H Q ∨ R' x y H Q) := fun A pn t σ H x y u v Q sb I rx ry d => by
  rcases d with d | d
  · exact h A pn t σ H x y u v Q sb I rx ry d
  · exact h' A pn t σ H x y u v Q sb I rx ry d
end
/-- the lists at a and b hold all; what is left of them is compared -/
def lsAll (R : Rdg) (a b : Addr) (xa ya : List V) : List V → List V → Hp → (Bool → Hp → Prop) → Prop
  | x :: xs, y :: ys, H, Q => (H a = some (.lst xa) ∧ H b = some (.lst ya)) ∧ R x y H fun r H' => if r = true then lsAll R a b xa ya xs ys H' Q else (H' a = some (.lst xa) ∧ H' b = some (.lst ya)) ∧ Q false H'
  | _, _, H, Q => (H a = some (.lst xa) ∧ H b = some (.lst ya)) ∧ Q true H
theorem lsAll.at_ {R : Rdg} {a b : Addr} {xa ya xs ys : List V} {H : Hp} {Q : Bool → Hp → Prop} (h : lsAll R a b xa ya xs ys H Q) : H a = some (.lst xa) ∧ H b = some (.lst ya) := by
  cases xs <;> cases ys <;> exact h.1
section
variable {X : Cx} {n : Nat} {R : Rdg} {a b : Addr} {xa ya : List V} {Q : Bool → Hp → Prop} {pn : List (Addr × Obj)} {σ : L2.St} {A : Around}
theorem ls_loop (eq : EqB X n R) (sb : Sub X (n + 1) A) (hl : xa.length = ya.length) : ∀ (xs ys : List V) (i : Nat) (H : Hp) (t : Shared), xs = xa.drop i → ys = ya.drop i → i + xs.length = xa.length → Inv X pn σ H t → lsAll R a b xa ya xs ys H Q →
    wpAny (model X.prog X.w) A.in1 (Builtin.«list.__eq__.loop» ⟨[.ref a, .ref b, rawInt i, rawInt 2], []⟩) (GQ.FinOf X.prog X.w A (wants (toldB X pn σ Q) X.xe)) (fun e t' => wants (toldB X pn σ Q) X.xe (.error e) t') t := by
  intro xs
  induction xs with
  | nil =>
    intro ys i H t hx hy hi I h
    obtain ⟨ha, hb⟩ := h.at_
    obtain ⟨_, its, k, rv, e⟩ := (show ObjOk X.prog X.w H t.heap a (.lst xa) from I.hok a _ ha)
    obtain ⟨_, its2, k2, rv2, e2⟩ := (show ObjOk X.prog X.w H t.heap b (.lst ya) from I.hok b _ hb)
    have q : Q true H := by cases ys <;> exact h.2
    have fin : wants (toldB X pn σ Q) X.xe (.ok (.ret (.bool true))) t := ⟨true, H, rfl, I, q⟩
    have l1 := rv.length
    have l2 := rv2.length
    have n1 : its.toArray[((i : Nat) : Int).toNat]? = none := by
      simp at hi
      simp
      omega
    have n2 : its2.toArray[((i : Nat) : Int).toNat]? = none := by
      simp at hi
      simp
      omega
    have sz : (its.toArray.size == its2.toArray.size) = true := by
      simp
      omega
    obtain ⟨hp, g, d, tk, os⟩ := t
    wp_walk using wpAny_loadPart' e, wpAny_loadPart' e2
    rw [n1, n2]
    wp_walk using wpAny_loadPart' e, wpAny_loadPart' e2
    show wants (toldB X pn σ Q) X.xe (.ok (.ret (.bool (its.toArray.size == its2.toArray.size)))) _
    rw [sz]
    exact fin
  | cons x xs ih =>
    intro ys i H t hx hy hi I h
    obtain ⟨ha, hb⟩ := h.at_
    obtain ⟨_, its, k, rv, e⟩ := (show ObjOk X.prog X.w H t.heap a (.lst xa) from I.hok a _ ha)
    obtain ⟨_, its2, k2, rv2, e2⟩ := (show ObjOk X.prog X.w H t.heap b (.lst ya) from I.hok b _ hb)
    have lt : i < xa.length := by
      rw [List.length_cons] at hi
      omega
    have lt2 : i < ya.length := by omega
    have hx2 := hx
    rw [List.drop_eq_getElem_cons lt] at hx2
    injection hx2 with ex etx
    have hy2 := hy
    rw [List.drop_eq_getElem_cons lt2] at hy2
    subst hy2
    obtain ⟨v, hv, r1⟩ := rv.get (List.getElem?_eq_getElem lt)
    obtain ⟨v2, hv2, r2⟩ := rv2.get (List.getElem?_eq_getElem lt2)
    rw [← ex] at r1
    have one : its.toArray[((i : Nat) : Int).toNat]? = some v := by simpa using hv
    have two : its2.toArray[((i : Nat) : Int).toNat]? = some v2 := by simpa using hv2
    have step := eq A.in1 pn t σ H x _ v v2 _ sb.in1 I r1 r2 h.2
    obtain ⟨hp, g, d, tk, os⟩ := t
    wp_walk using wpAny_loadPart' e, wpAny_loadPart' e2
    rw [one, two]
    refine wpAny_bind (wpAny_mono step (fun r t2 q => ?_) fun _ _ z => z)
    obtain ⟨H2, I2, q⟩ := q
    cases r with
    | true =>
      have more := ih (ya.drop (i + 1)) (i + 1) H2 t2 etx rfl (by rw [List.length_cons] at hi; omega) I2 q
      have nx : ((i : Int) + 1) = ((i + 1 : Nat) : Int) := by omega
      obtain ⟨hp2, g2, d2, tk2, os2⟩ := t2
      wp_walk
      rw [nx]
      exact ⟨plainId_quiet plain_eq_loop _, codeAny_builtin entry_eq_loop (by
        rw [Around.under_plainId plain_eq_loop _]
        exact more)⟩
    | false =>
      obtain ⟨⟨ha2, hb2⟩, q⟩ := (show (H2 a = some (.lst xa) ∧ H2 b = some (.lst ya)) ∧ Q false H2 from q)
      have fin : wants (toldB X pn σ Q) X.xe (.ok (.ret (.bool false))) t2 := ⟨false, H2, rfl, I2, q⟩
      obtain ⟨_, its3, k3, rv3, e3⟩ := (show ObjOk X.prog X.w H2 t2.heap a (.lst xa) from I2.hok a _ ha2)
      obtain ⟨_, its4, k4, rv4, e4⟩ := (show ObjOk X.prog X.w H2 t2.heap b (.lst ya) from I2.hok b _ hb2)
      obtain ⟨v3, hv3, _⟩ := rv3.get (List.getElem?_eq_getElem lt)
      obtain ⟨v4, hv4, _⟩ := rv4.get (List.getElem?_eq_getElem lt2)
      have three : its3.toArray[((i : Nat) : Int).toNat]? = some v3 := by simpa using hv3
      have four : its4.toArray[((i : Nat) : Int).toNat]? = some v4 := by simpa using hv4
      obtain ⟨hp2, g2, d2, tk2, os2⟩ := t2
      wp_walk using wpAny_loadPart' e3, wpAny_loadPart' e4
      rw [three, four]
      wp_walk
      exact fin
/-- xs == ys of two lists -/
def RLst (R : Rdg) : Rdg := fun x y H Q => ∃ (a b : Addr) (xs ys : List V), x = .ref a ∧ y = .ref b ∧ H a = some (.lst xs) ∧ H b = some (.lst ys) ∧ (xs.length ≠ ys.length → Q false H) ∧ (xs.length = ys.length → lsAll R a b xs ys xs ys H Q)
theorem ls_call {H : Hp} {t : Shared} (eq : EqB X n R) (sb : Sub X (n + 1) A) (I : Inv X pn σ H t) (ha : H a = some (.lst xa)) (hb : H b = some (.lst ya)) (h1 : xa.length ≠ ya.length → Q false H) (h2 : xa.length = ya.length → lsAll R a b xa ya xa ya H Q) :
    wpAny (model X.prog X.w) A (call (.builtin "list.__eq__") [.ref a, .ref b]) (toldB X pn σ Q) X.xe t := by
  obtain ⟨_, its, k, rv, e⟩ := (show ObjOk X.prog X.w H t.heap a (.lst xa) from I.hok a _ ha)
  obtain ⟨_, its2, k2, rv2, e2⟩ := (show ObjOk X.prog X.w H t.heap b (.lst ya) from I.hok b _ hb)
  have l1 := rv.length
  have l2 := rv2.length
  have f3 := AutoSeq1.sub_list_list
  refine GQ.call_here F.slot_list_eq ⟨_, e, rfl⟩ F.entry_list_eq (F.args_list_eq_2 _ _) ?_
  by_cases hl : xa.length = ya.length
  · have go := ls_loop (A := A) (a := a) (b := b) eq sb hl xa ya 0 H t rfl rfl (by simp) I (h2 hl)
    have hne : ¬ (its.toArray.size != its2.toArray.size) = true := by
      simp
      omega
    obtain ⟨hp, g, d, tk, os⟩ := t
    wp_walk using wpAny_loadPart' e, wpAny_loadPart' e2
    rw [if_neg hne]
    wp_walk
    exact ⟨plainId_quiet plain_eq_loop _, codeAny_builtin entry_eq_loop (by
      rw [Around.under_plainId plain_eq_loop _]
      exact go)⟩
  · have hne : (its.toArray.size != its2.toArray.size) = true := by
      simp
      omega
    have fin : wants (toldB X pn σ Q) X.xe (.ok (.ret (.bool false))) t := ⟨false, H, rfl, I, h1 hl⟩
    obtain ⟨hp, g, d, tk, os⟩ := t
    wp_walk using wpAny_loadPart' e, wpAny_loadPart' e2
    rw [if_pos hne]
    wp_walk
    exact fin
theorem rcB_lst (eq : EqB X n R) : RcB X (n + 1) .Eq (RLst R) := by
  intro A pn t σ H x y u v Q sb I rx ry h
  obtain ⟨a, b, xs, ys, rfl, rfl, ha, hb, h1, h2⟩ := h
  cases (show u = Value.ref a from rx)
  cases (show v = Value.ref b from ry)
  obtain ⟨_, its, k, rv, e⟩ := (show ObjOk X.prog X.w H t.heap a (.lst xs) from I.hok a _ ha)
  obtain ⟨_, its2, k2, rv2, e2⟩ := (show ObjOk X.prog X.w H t.heap b (.lst ys) from I.hok b _ hb)
  refine wpAny_richCompare_same_room (op := .Eq) (T := "list") ⟨_, e, rfl⟩ ⟨_, e2, rfl⟩ F.slot_list_eq (wpAny_mono (ls_call eq sb I ha hb h1 h2) (fun r t' q => ?_) fun _ _ z => z) sb.room.units0
  obtain ⟨r', H', rfl, I', q⟩ := q
  exact ⟨(fun z => nomatch z), r', H', rfl, I', q⟩
end
end OTR

set_option Elab.async false
set_option linter.all false
set_option maxRecDepth 100000
set_option maxHeartbeats 4000000
namespace OT
open PySem L2 OTR
abbrev sMarchE : Stmt := inClass (top 35) 1
abbrev sKeyed : Stmt := top 38
abbrev sRowE : Stmt := inClass (top 36) 1
/-- a march as it counts: the key of its goal, its steps -/
def kOf (F : List Fact) (x : MG) : Fact × Int := (keyF F 1 (node F 1 x.1 x.2.1), x.2.2)
def rowK (F : List Fact) (xs : List MG) : List (Fact × Int) := xs.map (kOf F)
def MzAt (CM CP : Addr) (H : Hp) (p : Addr) (z : Fact × Int) : Prop := ∃ g, MarchAt CM H p g z.2 ∧ PlaceAt CP H g z.1
theorem MzAt.same {CM CP : Addr} {H H' : Hp} {p : Addr} {z : Fact × Int} (h : MzAt CM CP H p z) (s : Same H H') : MzAt CM CP H' p z := let ⟨g, a, b⟩ := h; ⟨g, a.same s, b.same s⟩
theorem plF_inj {r r' : Fact} (h : plF r = plF r') : r = r' := by
  unfold plF at h
  simp only [List.cons.injEq, Prod.mk.injEq, V.int.injEq, true_and, and_true] at h
  exact Prod.ext h.1 (Prod.ext h.2.1 h.2.2)
theorem PlaceAt.inj {C : Addr} {H : Hp} {p : Addr} {r r' : Fact} (h : PlaceAt C H p r) (k : PlaceAt C H p r') : r = r' := by
  obtain ⟨dx, e⟩ := h
  obtain ⟨dy, e'⟩ := k
  rw [e] at e'
  injection e' with e'
  injection e' with _ _ e'
  exact plF_inj e'
theorem MarchAt.inj {C : Addr} {H : Hp} {p g g' : Addr} {n n' : Int} (h : MarchAt C H p g n) (k : MarchAt C H p g' n') : g = g' ∧ n = n' := by
  obtain ⟨dx, e⟩ := h
  obtain ⟨dy, e'⟩ := k
  rw [e] at e'
  injection e' with e'
  injection e' with _ _ e'
  unfold maF at e'
  simp only [List.cons.injEq, Prod.mk.injEq, V.int.injEq, V.ref.injEq, true_and, and_true] at e'
  exact e'
theorem MzAt.inj {CM CP : Addr} {H : Hp} {p : Addr} {z z' : Fact × Int} (h : MzAt CM CP H p z) (k : MzAt CM CP H p z') : z = z' := by
  obtain ⟨g, a, b⟩ := h
  obtain ⟨g', a', b'⟩ := k
  obtain ⟨rfl, e⟩ := a.inj a'
  exact Prod.ext (b.inj b') e
def spMarchE (CM CP : Addr) : Sp := fun vs H Q _ => ∃ (a : Addr) (z : Fact × Int) (y : V), vs = [.ref a, y] ∧ MzAt CM CP H a z ∧ ((∃ (b : Addr) (z' : Fact × Int), y = .ref b ∧ MzAt CM CP H b z' ∧ Q (.bl (decide (z = z'))) H) ∨ ((∃ T, HasT H y (.type T)) ∧ Q (.bl false) H))
def spKeyed (K : PySem.W.Frag) (CT CR CM CP CW : Addr) : Sp := fun vs H Q _ => ∃ (rw a : Addr) (n : Int) (ps : List Addr) (F : List Fact) (ms : List Addr) (xs : List MG), vs = [.ref rw] ∧ RowAt K CW H rw a ms ∧ TreeAt K CT CR H a n ps F ∧ TreeG n F ∧ MasAt CM CP H ms (xs.map mf) ∧ (∀ x ∈ xs, MgOk F x) ∧ xs.length ≤ 900 ∧
  ∀ D H' ks, Same H H' → H D = none → H' D = some (.lst (ks.map V.ref)) → Paired (MzAt CM CP H') ks (rowK F xs) → Q (.ref D) H'
/-- a row, with all that it rests on -/
structure RowS (K : PySem.W.Frag) (CT CR CM CP CW : Addr) (H : Hp) (p : Addr) (n : Int) (F : List Fact) (xs : List MG) : Prop where
  ok : ∀ x ∈ xs, MgOk F x
  len : xs.length ≤ 900
  G : TreeG n F
  at_ : ∃ (a : Addr) (ps ms : List Addr), RowAt K CW H p a ms ∧ TreeAt K CT CR H a n ps F ∧ MasAt CM CP H ms (xs.map mf)
def spRowE (K : PySem.W.Frag) (CT CR CM CP CW : Addr) : Sp := fun vs H Q _ => ∃ (a : Addr) (n : Int) (F : List Fact) (xs : List MG) (y : V), vs = [.ref a, y] ∧ RowS K CT CR CM CP CW H a n F xs ∧
  ((∃ (b : Addr) (n' : Int) (F' : List Fact) (xs' : List MG), y = .ref b ∧ RowS K CT CR CM CP CW H b n' F' xs' ∧ ∀ H', Same H H' → Q (.bl (decide ((n = n' ∧ F = F') ∧ rowK F xs = rowK F' xs'))) H') ∨ ((∃ T, HasT H y (.type T)) ∧ Q (.bl false) H))
theorem eq_mk {K : PySem.W.Frag} {CM CP : Addr} {H : Hp} {p p' : Addr} {z z' : Fact × Int} {Q : Bool → Hp → Prop} (h : MzAt CM CP H p z) (k : MzAt CM CP H p' z') (q : Q (decide (z = z')) H) : ROr (ROwn K CM (spMarchE CM CP)) (.ref p) (.ref p') H Q := by
  by_cases e : p = p'
  · subst e
    refine .inl ⟨p, rfl, rfl, ?_⟩
    rw [decide_eq_true (h.inj k)] at q
    exact q
  · obtain ⟨g, ⟨dx, e1⟩, h2⟩ := id h
    obtain ⟨g', ⟨dy, e2⟩, k2⟩ := id k
    exact .inr ⟨⟨_, _, .ins e1, .ins e2⟩, fun z => e (V.ref.inj z), p, dx, maF g z.2, _, rfl, e1, .ins e2, nf_same, p, z, _, rfl, h, .inl ⟨p', z', rfl, k, _, rfl, q⟩⟩
theorem ls_mk {K : PySem.W.Frag} {CM CP : Addr} {H : Hp} {a b : Addr} {xa ya : List V} {Q : Bool → Hp → Prop} (ha : H a = some (.lst xa)) (hb : H b = some (.lst ya)) : ∀ {ps ps' : List Addr} {zs zs' : List (Fact × Int)}, Paired (MzAt CM CP H) ps zs → Paired (MzAt CM CP H) ps' zs' → ps.length = ps'.length → Q (decide (zs = zs')) H → lsAll (ROr (ROwn K CM (spMarchE CM CP))) a b xa ya (ps.map V.ref) (ps'.map V.ref) H Q
  | _, _, _, _, .nil, .nil, _, q => ⟨⟨ha, hb⟩, q⟩
  | _, _, _, _, .nil, .cons _ _, l, _ => by simp at l
  | _, _, _, _, .cons _ _, .nil, l, _ => by simp at l
  | _, _, _, _, .cons (b := z) h t, .cons (b := z') k u, l, q => by
    refine ⟨⟨ha, hb⟩, eq_mk h k ?_⟩
    by_cases e : z = z'
    · subst e
      rw [decide_eq_true rfl, if_pos rfl]
      refine ls_mk ha hb t u (by simpa using l) ?_
      have w : ∀ zs zs' : List (Fact × Int), decide (z :: zs = z :: zs') = decide (zs = zs') := fun zs zs' => by simp
      rw [w] at q
      exact q
    · rw [decide_eq_false e, if_neg Bool.false_ne_true]
      rw [decide_eq_false (fun w => e (List.cons.inj w).1)] at q
      exact ⟨⟨ha, hb⟩, q⟩
section
variable {P : Program} {w : World} {K : PySem.W.Frag} {mg : Str → Option Value} {base : Heap}
theorem scMarchE : FnScope ["self", "other"] ["self", "other"] (defScope sMarchE) := ⟨rfl, rfl, rfl, by decide +kernel, rfl, by decide +kernel, by decide +kernel⟩
theorem ok_marchE {f C CP fe fPE : Addr} {fd fdPE : FuncData} (F : Fun K "__eq__" "March.__eq__" sMarchE f fd) (T : MaT K mg C) (c : QC K C fe) (cP : QC K CP fPE) (FPE : FnOk P w K mg base CX0 1 fPE fdPE ["self", "other"] (spPlaceE CP)) (bPE : Binds K fdPE ["self", "other"] []) (hIs : mg "isinstance" = none) :
    FnOk P w K mg base CX0 2 f fd ["self", "other"] (spMarchE C CP) := by
  refine F.ok scMarchE (fun vs H Q E h => ?_) (fun cdv A outer s H vs Q E hr h => ?_)
  · obtain ⟨a, z, y, rfl, _⟩ := h
    rfl
  · obtain ⟨a, z, y, rfl, ⟨g, ⟨dx, ea⟩, dg, eg⟩, h⟩ := h
    refine ⟨_, pss_one (ps_ret (pe_and (pe_callB call_isi (by rfl) hIs (by decide +kernel) (pa_cons (pv 1) (pa_cons (pe_glob (v := V.ref C) rfl T.mgC rfl) pa_nil)))
      (pe_and (pe_cmpR (op_eqB (rcB_own FPE cP.eq cP.fn bPE) hr) (pe_fld (pv 0) rfl) (pe_fld (pv 1) rfl) (nomark _)) (pe_one (pe_cmpR op_eq (pe_fld (pv 0) rfl) (pe_fld (pv 1) rfl) (nomark _)))))), ?_⟩
    rcases h with ⟨b, z', rfl, ⟨g', ⟨dy, eb⟩, dg', eg'⟩, k⟩ | ⟨⟨ty, hy⟩, k⟩
    · refine ⟨_, rfl, _, _, _, _, true, rfl, .own C, c.tyx eb, kit_same, _, rfl, ?_⟩
      refine iteT ⟨_, rfl, a, C, dx, _, _, rfl, ea, T.cl, T.nG, maF_g g _, _, rfl, b, C, dy, _, _, rfl, eb, T.cl, T.nG, maF_g g' _, ?_⟩
      refine ⟨g, dg, plF z.1, _, rfl, eg, .ins eg', nf_same, g, dg, z.1, _, rfl, eg, .inl ⟨g', dg', z'.1, rfl, eg', _, rfl, ?_⟩⟩
      by_cases h1 : z.1 = z'.1
      · rw [decide_eq_true h1]
        refine ⟨_, rfl, iteT ⟨_, rfl, a, C, dx, _, _, rfl, ea, T.cl, T.nS, maF_s g _, _, rfl, b, C, dy, _, _, rfl, eb, T.cl, T.nS, maF_s g' _, rfl, ?_⟩⟩
        have e : decide (z = z') = decide (V.int z.2 = V.int z'.2) := by
          rw [decide_eq_decide]
          exact ⟨fun w => by rw [w], fun w => Prod.ext h1 (V.int.inj w)⟩
        rw [e] at k
        exact k
      · rw [decide_eq_false h1]
        refine ⟨_, rfl, iteF ?_⟩
        rw [decide_eq_false (fun w : z = z' => h1 (by rw [w]))] at k
        exact k
    · exact ⟨_, rfl, _, _, _, _, false, rfl, .own C, hasTyx hy, c.kit _ (hasT_oth hy), _, rfl, iteF k⟩
theorem scKeyed : FnScope ["row", "march"] ["row"] (defScope sKeyed) := ⟨rfl, rfl, rfl, by decide +kernel, rfl, by decide +kernel, by decide +kernel⟩
theorem ok_keyed {f fK fM CT CR CM CP CW CNR COR : Addr} {fd fdK fdM : FuncData} (F : Fun K "keyed" "keyed" sKeyed f fd) (TRw : RwT K mg CW) (TM : MaT K mg CM) (MM : Mk K CM fM) (FM : FnOk P w K mg base CX0 1 fM fdM ["self", "goal", "steps"] (spMarchI CM)) (bM : Binds K fdM ["self", "goal", "steps"] [])
    (FK : FnOk P w K mg base (L2.CX P w) 6 fK fdK ["tree", "place"] (spKey K CT CR CP CNR COR)) (bK : Binds K fdK ["tree", "place"] []) (mK : mg "key" = some (.ref fK)) (kK : PySem.W.keepIn K (.ref fK) = true) : FnOk P w K mg base CX0 7 f fd ["row"] (spKeyed K CT CR CM CP CW) := by
  refine F.ok scKeyed (fun vs H Q E h => ?_) (fun cdv A outer s H vs Q E hr h => ?_)
  · obtain ⟨rw, a, n, ps, F, ms, xs, rfl, _⟩ := h
    rfl
  · obtain ⟨rw, a, n, ps, F, ms, xs, rfl, ⟨dw, t, ew, et⟩, TA, G, hM, ok, lx, kont⟩ := h
    have hr2 : Room 2 _ := hr.mono (by decide)
    refine ⟨_, pss_one (ps_ret (pe_lc (own := [("march", 1)]) (g := gName 1) (tt := tYes) (te := tMake CM (spMarchI CM) [] E0 (tCons (tCall (spKey K CT CR CP CNR COR) [] E0 (tCons (tFld K (tVar 0) "tree") (tCons (tFld K (tVar 1) "goal") tNil))) (tCons (tFld K (tVar 1) "steps") tNil))) rfl scKeyed.nd (pi_tup (pe_fld (pv 0) rfl))
        (blkOk_by (own := [("march", 1)]) (N := ["row", "march"]) (sc := defScope sKeyed) (by decide +kernel)) (fun _ _ _ _ _ => pg_name (i := 1) scKeyed.nd rfl (Or.inl rfl)) (fun _ _ _ _ _ => pts_nil)
        (fun _ _ _ _ _ => pe_make MM FM hr2 (by rfl) TM.mgC bM .nil pass0 (pa_cons (pe_call FK hr rfl mK kK bK .nil passF (pa_cons (pe_fld (pv 0) rfl) (pa_cons (pe_fld (pv 1) rfl) pa_nil))) (pa_cons (pe_fld (pv 1) rfl) pa_nil))))), ?_⟩
    have lenE : (ms.map V.ref).length = xs.length := by rw [List.length_map, Paired.length hM, List.length_map]
    refine ⟨_, rfl, rw, CW, dw, _, _, rfl, ew, TRw.cl, TRw.nM, rwF_m a t, t, rfl, ⟨_, et⟩, fun D hD => lc_tup (K := K) (a := t) (xs := ms.map V.ref) (fun i Gc => ∃ ks : List Addr, Gc D = some (.lst (ks.map V.ref)) ∧ Same H Gc ∧ Paired (MzAt CM CP Gc) ks (rowK F (xs.take i)) ∧ ks.length = i)
      ⟨[], upd_same, Same.new hD, .nil, rfl⟩ (fun i Gc _ ⟨_, _, sc, _⟩ => sqT_same et sc) ?_ ?_⟩
    · rintro i y Gc hi ⟨ks, hks, sc, pk, kl⟩
      obtain ⟨q, hq, rfl⟩ := map_get hi
      obtain ⟨m, hm, g, ⟨dm, em⟩, gp⟩ := paired_get hM hq
      obtain ⟨x, hx, rfl⟩ := map_get hm
      have ix : i < xs.length := (List.getElem?_eq_some_iff.mp hx).1
      have mx := ok x (List.mem_of_getElem? hx)
      have gp' : PlaceAt CP H g (((x.1 : Nat) : Int), x.2.1, 1) := by
        have z := gp
        rw [show low (mPl (mf x)) = (((x.1 : Nat) : Int), x.2.1, 1) from low_one _ _] at z
        exact z
      have on : PlOn F (((x.1 : Nat) : Int), x.2.1, (1 : Int)) := ⟨⟨by show 0 ≤ ((x.1 : Nat) : Int); omega, by show ((x.1 : Nat) : Int) < _; have := mx.rd; omega⟩, mx.lo, by show x.2.1 ≤ (rd F ((x.1 : Nat) : Int).toNat).2.2 * 1; rw [Int.toNat_natCast, Int.mul_one]; exact mx.hi⟩
      refine ⟨rfl, ?_⟩
      unfold tYes
      refine iteT ?_
      refine ⟨_, rfl, rw, CW, dw, _, _, rfl, sc _ _ ew, TRw.cl, TRw.nT, rwF_t a t, _, rfl, q, CM, dm, _, _, rfl, sc _ _ em, TM.cl, TM.nG, maF_g g _, a, g, n, ps, F, (((x.1 : Nat) : Int), x.2.1, 1), rfl, TA.same sc, gp'.same sc, G, ⟨by show (1 : Int) ≤ 1; omega, by show (1 : Int) < 2 ^ 60; omega⟩, low_one _ _, fun z => absurd on.1 z, fun _ z => absurd on.2 z, fun _ pk' G1 s1 pk1 => ?_⟩
      have s1' := sc.trans s1
      refine ⟨_, rfl, q, CM, dm, _, _, rfl, s1' _ _ em, TM.cl, TM.nS, maF_s g _, fun x2 dx2 nx2 ndx2 nex2 => ⟨x2, dx2, pk', x.2.2, rfl, upd_same, fun G2 mx2 keep2 => ⟨rfl, ks.map V.ref, ?_, small1000 (by rw [List.length_map]; omega), ks ++ [x2], by rw [List.map_append]; exact upd_same, fun b o e => ?_, ?_, by rw [List.length_append, kl]; rfl⟩⟩⟩
      · exact made_same nx2 ndx2 keep2 _ _ (s1 _ _ hks)
      · rw [upd_ne (ne_of_none e hD)]
        exact made_same nx2 ndx2 keep2 _ _ (s1' b o e)
      · have s2 : Same Gc G2 := s1.trans (made_same nx2 ndx2 keep2)
        have gD : G2 D = some (.lst (ks.map V.ref)) := s2 _ _ hks
        have put : ∀ {p : Addr} {z : Fact × Int}, MzAt CM CP G2 p z → MzAt CM CP (upd G2 D (.lst (ks.map V.ref ++ [V.ref x2]))) p z := fun {p z} ⟨g, ⟨d1, e1⟩, d2, e2⟩ =>
          ⟨g, ⟨d1, by rw [upd_ne (ne_of e1 gD (fun z => nomatch z))]; exact e1⟩, d2, by rw [upd_ne (ne_of e2 gD (fun z => nomatch z))]; exact e2⟩
        show Paired _ (ks ++ [x2]) ((xs.take (i + 1)).map (kOf F))
        rw [take_get hx, List.map_append]
        refine paired_snoc (Paired.mapP pk fun _ _ a => put (a.same s2)) (put ⟨pk', mx2, ?_⟩)
        have z := pk1.same (made_same nx2 ndx2 keep2)
        rw [Int.toNat_natCast] at z
        exact z
    · rintro G4 ⟨ks, hks, sc, pk, kl⟩
      rw [lenE, List.take_length] at pk
      exact kont D G4 ks sc hD hks pk
theorem scRowE : FnScope ["self", "other"] ["self", "other"] (defScope sRowE) := ⟨rfl, rfl, rfl, by decide +kernel, rfl, by decide +kernel, by decide +kernel⟩
theorem RowS.same {CT CR CM CP CW : Addr} {H H' : Hp} {p : Addr} {n : Int} {F : List Fact} {xs : List MG} (h : RowS K CT CR CM CP CW H p n F xs) (s : Same H H') : RowS K CT CR CM CP CW H' p n F xs := by
  obtain ⟨ok, len, G, a, ps, ms, ⟨dx, t, e, u⟩, T, M⟩ := h
  exact ⟨ok, len, G, a, ps, ms, ⟨dx, t, s _ _ e, sqT_same u s⟩, T.same s, MasAt.same M s⟩
theorem ok_rowE {f C CT CR CM CP fe fTE fME fKd : Addr} {fd fdTE fdME fdKd : FuncData} (F : Fun K "__eq__" "Row.__eq__" sRowE f fd) (T : RwT K mg C) (c : QC K C fe) (cT : QC K CT fTE) (cM : QC K CM fME)
    (FTE : FnOk P w K mg base CX0 3 fTE fdTE ["self", "other"] (spTreeE K CT CR)) (bTE : Binds K fdTE ["self", "other"] []) (FME : FnOk P w K mg base CX0 2 fME fdME ["self", "other"] (spMarchE CM CP)) (bME : Binds K fdME ["self", "other"] [])
    (FKd : FnOk P w K mg base CX0 7 fKd fdKd ["row"] (spKeyed K CT CR CM CP C)) (bKd : Binds K fdKd ["row"] []) (mKd : mg "keyed" = some (.ref fKd)) (kKd : PySem.W.keepIn K (.ref fKd) = true) (hIs : mg "isinstance" = none) :
    FnOk P w K mg base CX0 8 f fd ["self", "other"] (spRowE K CT CR CM CP C) := by
  refine F.ok scRowE (fun vs H Q E h => ?_) (fun cdv A outer s H vs Q E hr h => ?_)
  · obtain ⟨a, n, F, xs, y, rfl, _⟩ := h
    rfl
  · obtain ⟨a, n, F, xs, y, rfl, R1, h⟩ := h
    have hr3 : Room 3 _ := hr.mono (by decide)
    refine ⟨_, pss_one (ps_ret (pe_and (pe_callB call_isi (by rfl) hIs (by decide +kernel) (pa_cons (pv 1) (pa_cons (pe_glob (v := V.ref C) rfl T.mgC rfl) pa_nil)))
      (pe_and (pe_cmpR (op_eqB (rcB_own FTE cT.eq cT.fn bTE) hr3) (pe_fld (pv 0) rfl) (pe_fld (pv 1) rfl) (nomark _))
        (pe_one (pe_cmpR (op_eqB (rcB_lst (RcB.eqB (rcB_own FME cM.eq cM.fn bME))) hr3) (pe_call FKd hr rfl mKd kKd bKd .nil pass0 (pa_cons (pv 0) pa_nil)) (pe_call FKd hr rfl mKd kKd bKd .nil pass0 (pa_cons (pv 1) pa_nil)) (nomark _)))))), ?_⟩
    obtain ⟨ta, ps, ms, ⟨da, t, ea, et⟩, TA, M⟩ := R1.at_
    rcases h with ⟨b, n', F', xs', rfl, R2, k⟩ | ⟨⟨ty, hy⟩, k⟩
    · obtain ⟨tb, ps', ms', ⟨db, t', eb, et'⟩, TB, M'⟩ := R2.at_
      refine ⟨_, rfl, _, _, _, _, true, rfl, .own C, c.tyx eb, kit_same, _, rfl, ?_⟩
      refine iteT ⟨_, rfl, a, C, da, _, _, rfl, ea, T.cl, T.nT, rwF_t ta t, _, rfl, b, C, db, _, _, rfl, eb, T.cl, T.nT, rwF_t tb t', ?_⟩
      obtain ⟨dxa, ua, _, _, eta, _⟩ := id TA
      obtain ⟨dxb, ub, _, _, etb, _⟩ := id TB
      refine ⟨ta, dxa, _, _, rfl, eta, .ins etb, nf_same, ta, n, ps, F, _, rfl, TA, .inl ⟨tb, n', ps', F', rfl, TB, _, rfl, ?_⟩⟩
      by_cases h1 : n = n' ∧ F = F'
      · rw [decide_eq_true h1]
        refine ⟨_, rfl, iteT ?_⟩
        obtain ⟨rfl, rfl⟩ := h1
        refine ⟨_, rfl, a, ta, n, ps, F, ms, xs, rfl, ⟨da, t, ea, et⟩, TA, R1.G, M, R1.ok, R1.len, fun D1 H1 ks s1 n1 g1 p1 => ?_⟩
        refine ⟨_, rfl, b, tb, n, ps', F, ms', xs', rfl, ⟨db, t', s1 _ _ eb, sqT_same et' s1⟩, TB.same s1, R2.G, MasAt.same M' s1, R2.ok, R2.len, fun D2 H2 ks' s2 n2 g2 p2 => ?_⟩
        have k' := k H2 (s1.trans s2)
        have g1' := s2 _ _ g1
        have p1' : Paired (MzAt CM CP H2) ks (rowK F xs) := Paired.mapP p1 fun _ _ a => a.same s2
        have e : decide ((n = n ∧ F = F) ∧ rowK F xs = rowK F xs') = decide (rowK F xs = rowK F xs') := by
          rw [decide_eq_decide]
          exact ⟨fun w => w.2, fun w => ⟨⟨rfl, rfl⟩, w⟩⟩
        rw [e] at k'
        have l1 := Paired.length p1'
        have l2 := Paired.length p2
        refine ⟨D1, D2, _, _, rfl, rfl, g1', g2, fun ne => ?_, fun el => ls_mk g1' g2 p1' p2 (by simpa using el) k'⟩
        rw [decide_eq_false (fun w => ne (by rw [List.length_map, List.length_map, l1, l2, w]))] at k'
        exact k'
      · rw [decide_eq_false h1]
        have k' := k H (Same.refl H)
        rw [decide_eq_false (fun w => h1 w.1)] at k'
        exact ⟨_, rfl, iteF k'⟩
    · exact ⟨_, rfl, _, _, _, _, false, rfl, .own C, hasTyx hy, c.kit _ (hasT_oth hy), _, rfl, iteF k⟩
end
end OT

set_option Elab.async false
set_option linter.all false
set_option maxRecDepth 100000
set_option maxHeartbeats 4000000
namespace OT
open PySem L2 OTR
abbrev sAfter : Stmt := top 39
def spAfter (K : PySem.W.Frag) (CT CR CM CP CW CB CNR COR : Addr) : Sp := fun vs H Q E => ∃ (rw p a : Addr) (c n S i : Int) (k : Nat) (ps : List Addr) (F : List Fact) (ms : List Addr) (xs : List MG) (r : Fact), vs = [.ref rw, .ref p, .int c] ∧ RowAt K CW H rw a ms ∧ TreeAt K CT CR H a n ps F ∧ TreeG n F ∧
  MasAt CM CP H ms (xs.map mf) ∧ (∀ x ∈ xs, MgOk F x) ∧ xs.length ≤ 1000 ∧ PlaceAt CP H p r ∧ PlSm r ∧ low r = r ∧ PlErr CNR COR F r H E ∧ (PlOn F r → ¬ (0 ≤ c ∧ c ≤ 1000) → Raised CB [("count", .int c), ("what", .str "rounds")] H E) ∧ (PlOn F r → PlE F S r k i ∧ 1 ≤ S ∧ S ≤ 1000) ∧
  (PlOn F r → 0 ≤ c → c ≤ 1000 → ∀ p' H' v, Same H H' → GoR F S xs c.toNat (node F S k i) v → PlaceAt CP H' p' (keyF F S v) → Q (.ref p') H')
section
variable {P : Program} {w : World} {K : PySem.W.Frag} {mg : Str → Option Value} {base : Heap}
abbrev nAfter : List Str := ["row", "place", "rounds", "there", "_", "march"]
theorem scAfter : FnScope nAfter ["row", "place", "rounds"] (defScope sAfter) := ⟨rfl, rfl, rfl, by decide +kernel, rfl, by decide +kernel, by decide +kernel⟩
theorem ok_after {f CT CR CM CP CW CB CNR COR fK fS fB : Addr} {fd fdK fdS fdB : FuncData} (F : Fun K "after" "after" sAfter f fd) (TRw : RwT K mg CW) (TM : MaT K mg CM) (TB : ErT K mg "BadCount" CB fB)
    (FB : FnOk P w K mg base CX0 1 fB fdB ["self", "what", "count"] (spEr2 CB "what" "count")) (bB : Binds K fdB ["self", "what", "count"] [])
    (FK : FnOk P w K mg base (L2.CX P w) 6 fK fdK ["tree", "place"] (spKey K CT CR CP CNR COR)) (bK : Binds K fdK ["tree", "place"] []) (mK : mg "key" = some (.ref fK)) (kK : PySem.W.keepIn K (.ref fK) = true)
    (FS : FnOk P w K mg base (L2.CX P w) 7 fS fdS ["tree", "place", "goal", "steps"] (spStep K CT CR CP CB CNR COR)) (bS : Binds K fdS ["tree", "place", "goal", "steps"] []) (mS : mg "step" = some (.ref fS)) (kS : PySem.W.keepIn K (.ref fS) = true)
    (hMost : ∃ t, mg "MOST_ROUNDS" = some (.int 1000 t)) (hRg : mg "range" = none) :
    FnOk P w K mg base (L2.CX P w) 8 f fd ["row", "place", "rounds"] (spAfter K CT CR CM CP CW CB CNR COR) := by
  refine F.okX scAfter (fun vs H Q E h => ?_) (fun cdv A outer s H vs Q E hr h => ?_)
  · obtain ⟨rw, p, a, c, n, S, i, k, ps, F, ms, xs, r, rfl, _⟩ := h
    rfl
  · obtain ⟨rw, p, a, c, n, S, i, k, ps, F, ms, xs, r, rfl, ⟨dw, t, ew, et⟩, TA, G, hM, ok, lx, pl, sm, lo, x1, x2, x3, kont⟩ := h
    obtain ⟨tm, hMost⟩ := hMost
    have hr2 : Room 2 _ := hr.mono (by decide)
    have hr6 : Room 6 _ := hr.mono (by decide)
    refine ⟨_, pss_cons (ps_set (i := 3) scAfter.nd rfl (Or.inl rfl) (pe_call FK hr6 rfl mK kK bK .nil (passes_call (takes_of rfl rfl rfl rfl) fun _ _ _ _ h => h) (pa_cons (pe_fld (pv 0) rfl) (pa_cons (pv 1) pa_nil))))
      (pss_cons (ps_if (pt_not (pt_chain op_le op_le pe_int (pv 2) (pe_glob (v := V.int 1000) rfl hMost ⟨tm, rfl⟩)))
          (pss_one (ps_raise rfl (takes_of rfl rfl rfl rfl) (pmk_oex TB.ox TB.iC TB.tI FB hr2 bB .nil pass0 (by rfl) TB.gC (pa_cons pe_str (pa_cons (pv 2) pa_nil))))) pss_nil)
      (pss_cons (ps_for (passes_of rfl) rfl (pi_range1 (by rfl) hRg (pa_cons (pv 2) pa_nil)) (pg_name (i := 4) scAfter.nd rfl (Or.inl rfl))
        (pss_one (ps_for (passes_of rfl) rfl (pi_tup (pe_fld (pv 0) rfl)) (pg_name (i := 5) scAfter.nd rfl (Or.inl rfl))
          (pss_one (ps_set (i := 3) scAfter.nd rfl (Or.inl rfl) (pe_call FS hr rfl mS kS bS .nil passF (pa_cons (pe_fld (pv 0) rfl) (pa_cons (pv 3) (pa_cons (pe_fld (pv 5) rfl) (pa_cons (pe_fld (pv 5) rfl) pa_nil))))))))))
      (pss_one (ps_ret (pv 3))))), ?_⟩
    have lenE : (ms.map V.ref).length = xs.length := by rw [List.length_map, Paired.length hM, List.length_map]
    -- there = key(row.tree, place)
    refine ⟨_, rfl, rw, CW, dw, _, _, rfl, ew, TRw.cl, TRw.nT, rwF_t a t, _, rfl, a, p, n, ps, F, r, rfl, TA, pl, G, sm, lo, x1.1, x1.2, fun on p1 H1 s1 pl1 => ?_⟩
    obtain ⟨pe, S1, S2⟩ := x3 on
    rw [pe.keyF] at pl1
    have x2 := x2 on
    have kont := kont on
    have oU : OnT F S (node F S k i) := ⟨k, i, pe.on, rfl⟩
    refine ⟨_, rfl, _, _, rfl, rfl, _, rfl, ?_⟩
    by_cases h0 : 0 ≤ c
    · rw [decide_eq_true h0]
      refine iteT ⟨_, _, rfl, rfl, _, rfl, ?_⟩
      by_cases h1 : c ≤ 1000
      · rw [decide_eq_true h1]
        refine iteF ?_
        refine ⟨_, rfl, c, rfl, by omega, by omega, for_range (lo := 0) (n := c.toNat) (fun j σ G2 => ∃ (p2 : Addr) (u : Nd) (v4 v5 : Option V), σ = [some (.ref rw), some (.ref p), some (.int c), some (.ref p2), v4, v5] ∧ Same H G2 ∧ GoR F S xs j (node F S k i) u ∧ PlaceAt CP G2 p2 (keyF F S u))
          ⟨p1, _, none, none, rfl, s1, rfl, pl1⟩ ?_ ?_⟩
        · rintro j σ G2 hj ⟨p2, u, v4, v5, rfl, s2, gr, pl2⟩
          have ou := GoR.on G.m S1 ok oU gr
          refine ⟨_, rfl, rw, CW, dw, _, _, rfl, s2 _ _ ew, TRw.cl, TRw.nM, rwF_m a t, t, rfl, ⟨_, sqT_same et s2⟩, for_tup (K := K) (a := t) (xs := ms.map V.ref) (fun b σ G3 => ∃ (p3 : Addr) (u' : Nd) (v5 : Option V), σ = [some (.ref rw), some (.ref p), some (.int c), some (.ref p3), some (.int (0 + (j : Nat))), v5] ∧ Same H G3 ∧ GoL F S (xs.take b) u u' ∧ PlaceAt CP G3 p3 (keyF F S u'))
            ⟨p2, u, v5, rfl, s2, rfl, pl2⟩ (fun b σ G3 _ ⟨_, _, _, _, s3, _⟩ => sqT_same et s3) ?_ ?_⟩
          · rintro b y σ G3 hb ⟨p3, u', v5, rfl, s3, gl, pl3⟩
            obtain ⟨q, hq, rfl⟩ := map_get hb
            obtain ⟨m, hm, g, ⟨dm, em⟩, gp⟩ := paired_get hM hq
            obtain ⟨x, hx, rfl⟩ := map_get hm
            have mx := ok x (List.mem_of_getElem? hx)
            have okT : ∀ y ∈ xs.take b, MgOk F y := fun y hy => ok y (List.mem_of_mem_take hy)
            have ou' := GoL.on G.m S1 okT ou gl
            obtain ⟨kk, ii, pk, en⟩ := key_ple G.m G.n2 S1 ou'
            rw [low_mf] at gp
            have pg : PlE F S (((x.1 : Nat) : Int), x.2.1, 1) x.1 (x.2.1 * S) := by
              have z := mkPlE (F := F) (s := 1) (c := S) (k := x.1) (i := x.2.1) (Int.le_refl 1) S1 ⟨mx.rd, mx.lo, by unfold sz; rw [Int.mul_one]; exact mx.hi⟩
              rw [low_one, Int.one_mul] at z
              exact z
            have l1 := pk.le
            have l2 := pk.p1
            refine ⟨_, rfl, rw, CW, dw, _, _, rfl, s3 _ _ ew, TRw.cl, TRw.nT, rwF_t a t, _, rfl, _, rfl, q, CM, dm, _, _, rfl, s3 _ _ em, TM.cl, TM.nG, maF_g g _, _, rfl, q, CM, dm, _, _, rfl, s3 _ _ em, TM.cl, TM.nS, maF_s g _, ?_⟩
            refine ⟨a, p3, g, n, ps, F, keyF F S u', (((x.1 : Nat) : Int), x.2.1, 1), x.2.2, rfl, TA.same s3, pl3, gp.same s3, G, ⟨l2, by omega⟩, ⟨by show (1 : Int) ≤ 1; omega, by show (1 : Int) < 2 ^ 60; omega⟩, low_one _ _, by show _ * (1 : Int) < _; omega, PlErr.none pk.pl, fun _ => PlErr.none pg.pl, fun _ _ z => absurd z (by have := mx.s1; omega), fun _ _ _ p4 G4 s4 pl4 => ?_⟩
            rw [step_eq G.m pk pg S1] at pl4
            refine ⟨p4, _, _, rfl, s3.trans s4, ?_, pl4⟩
            rw [take_get hx]
            exact gl.snoc ⟨kk, ii, pk.on, en.symm, rfl⟩
          · rintro σ G3 ⟨p3, u', v5, rfl, s3, gl, pl3⟩
            rw [lenE, List.take_length] at gl
            exact ⟨p3, u', _, _, rfl, s3, ⟨u, gr, gl⟩, pl3⟩
        · rintro σ G2 ⟨p2, u, v4, v5, rfl, s2, gr, pl2⟩
          exact ⟨_, rfl, kont h0 h1 p2 G2 u s2 gr pl2⟩
      · rw [decide_eq_false h1]
        exact iteT ⟨_, rfl, len2, fun b hb => er2 hb ((x2 fun z => h1 z.2).mono s1)⟩
    · rw [decide_eq_false h0]
      exact iteF ⟨_, rfl, iteT ⟨_, rfl, len2, fun b hb => er2 hb ((x2 fun z => h0 z.1).mono s1)⟩⟩
end
end OT

set_option Elab.async false
set_option linter.all false
set_option maxRecDepth 100000
set_option maxHeartbeats 4000000
-- own words
namespace OT
open PySem L2 OTR
abbrev sLaw : Stmt := top 65
def catK {α : Type} (us ws : List α) : List α := us ++ ws
theorem catK_rel {vs zs : List V} {us ws : List Value} (r1 : Vals vs us) (r2 : Vals zs ws) : Vals (catK vs zs) (catK us ws) := r1.append r2
theorem after1 {K : PySem.W.Frag} {CT CR CM CP CW CB CNR COR : Addr} {rw x pp : Addr} {n S c i : Int} {k : Nat} {ps ms : List Addr} {F : List Fact} {gs : List MG} {r : Fact} {G : Hp} {Q : VK} {E : XK} (row : RowAt K CW G rw x ms) (te : TreeAt K CT CR G x n ps F) (TG : TreeG n F) (mas : MasAt CM CP G ms (gs.map mf)) (ok : ∀ y ∈ gs, MgOk F y) (lx : gs.length ≤ 1000) (pl : PlaceAt CP G pp r) (pe : PlE F S r k i) (S1 : 1 ≤ S) (S2 : S ≤ 1000) (c0 : 0 ≤ c) (c1 : c ≤ 1000)
    (fin : ∀ pa G' v, Same G G' → GoR F S gs c.toNat (node F S k i) v → PlaceAt CP G' pa (keyF F S v) → Q (.ref pa) G') : spAfter K CT CR CM CP CW CB CNR COR [.ref rw, .ref pp, .int c] G Q E := by
  have := pe.le
  exact ⟨rw, pp, x, c, n, S, i, k, ps, F, ms, gs, r, rfl, row, te, TG, mas, ok, lx, pl, ⟨pe.p1, by omega⟩, pe.lo, PlErr.none pe.pl, fun _ z => absurd ⟨c0, c1⟩ z, fun _ => ⟨pe, S1, S2⟩, fun _ _ _ pa G' v s gr pk => fin pa G' v s gr pk⟩
theorem ple1 {F : List Fact} {k : Nat} {i : Int} (o : On F 1 k i) : PlE F 1 (((k : Nat) : Int), i, 1) k i := ⟨rfl, ⟨1, by decide, by show (1 : Int) = 1 * 1; decide, by show i = i * 1; rw [Int.mul_one]⟩, o, Int.le_refl 1, low_one _ _⟩
section
variable {P : Program} {w : World} {K : PySem.W.Frag} {mg : Str → Option Value} {base : Heap}
abbrev nLaw : List Str := ["_law_script", "_law_number", "_law_s", "_law_roads", "_law_marches_here", "_law_row_here", "_law_table_here", "_law_found", "_law_place"]
theorem scLaw : FnScope nLaw ["_law_script"] (defScope sLaw) := ⟨rfl, rfl, rfl, by decide +kernel, rfl, by decide +kernel, by decide +kernel⟩
theorem ok_law {f fSt fTN fMN fAF fDG fRN fTB fPl fWE fDo fTo fSn fNM CT CR CM CP CW CB CNR COR CS CWd : Addr} {fd fdSt fdTN fdMN fdAF fdDG fdRN fdTB fdPl fdWE fdDo fdTo fdSn fdNM : FuncData} {ds : List Value} (F : Fun K "law" "law" sLaw f fd) (TW : RwT K mg CW) (TP : PlT K mg CP)
    (FSt : FnOk P w K mg base CX0 1 fSt fdSt ["_law_source"] spSource) (bSt : Binds K fdSt ["_law_source"] []) (mSt : mg "_law_state" = some (.ref fSt)) (kSt : PySem.W.keepIn K (.ref fSt) = true)
    (FTN : FnOk P w K mg base CX0 2 fTN fdTN ["_law_s", "_law_crossings", "_law_most"] spTreeN) (bTN : Binds K fdTN ["_law_s", "_law_crossings", "_law_most"] []) (mTN : mg "_law_tree" = some (.ref fTN)) (kTN : PySem.W.keepIn K (.ref fTN) = true)
    (FMN : FnOk P w K mg base CX0 2 fMN fdMN ["_law_s", "_law_roads", "_law_many", "_law_most"] spMarchesN) (bMN : Binds K fdMN ["_law_s", "_law_roads", "_law_many", "_law_most"] []) (mMN : mg "_law_marches" = some (.ref fMN)) (kMN : PySem.W.keepIn K (.ref fMN) = true)
    (FAF : FnOk P w K mg base (L2.CX P w) 8 fAF fdAF ["row", "place", "rounds"] (spAfter K CT CR CM CP CW CB CNR COR)) (rAF : Vals [V.int 1] ds) (bAF : Binds K fdAF ["row", "place", "rounds"] ds) (mAF : mg "after" = some (.ref fAF)) (kAF : PySem.W.keepIn K (.ref fAF) = true)
    (FDG : FnOk P w K mg base CX0 1 fDG fdDG ["_law_state_here", "_law_base"] spDigit) (bDG : Binds K fdDG ["_law_state_here", "_law_base"] []) (mDG : mg "_law_digit" = some (.ref fDG)) (kDG : PySem.W.keepIn K (.ref fDG) = true)
    (FRN : FnOk P w K mg base CX0 7 fRN fdRN ["_law_roads", "_law_marches_here"] (spRowN K CT CR CM CP CW)) (bRN : Binds K fdRN ["_law_roads", "_law_marches_here"] []) (mRN : mg "_law_row" = some (.ref fRN)) (kRN : PySem.W.keepIn K (.ref fRN) = true)
    (FTB : FnOk P w K mg base CX0 4 fTB fdTB ["_law_roads", "_law_marches_here"] spTable) (bTB : Binds K fdTB ["_law_roads", "_law_marches_here"] []) (mTB : mg "_law_table" = some (.ref fTB)) (kTB : PySem.W.keepIn K (.ref fTB) = true)
    (FDo : FnOk P w K mg base (L2.CX P w) 11 fDo fdDo ["row"] (spDoing K CT CR CM CP CS CW CWd)) (bDo : Binds K fdDo ["row"] []) (mDo : mg "doing" = some (.ref fDo)) (kDo : PySem.W.keepIn K (.ref fDo) = true)
    (FTo : FnOk P w K mg base CX0 2 fTo fdTo ["_law_stretches_here"] (spTold CS CP)) (bTo : Binds K fdTo ["_law_stretches_here"] []) (mTo : mg "_law_told" = some (.ref fTo)) (kTo : PySem.W.keepIn K (.ref fTo) = true)
    (FSn : FnOk P w K mg base CX0 2 fSn fdSn ["_law_roads", "_law_table_here"] spStretchesN) (bSn : Binds K fdSn ["_law_roads", "_law_table_here"] []) (mSn : mg "_law_stretches" = some (.ref fSn)) (kSn : PySem.W.keepIn K (.ref fSn) = true)
    (FNM : FnOk P w K mg base CX0 1 fNM fdNM ["_law_place"] (spNameN CP)) (bNM : Binds K fdNM ["_law_place"] []) (mNM : mg "_law_name" = some (.ref fNM)) (kNM : PySem.W.keepIn K (.ref fNM) = true)
    (MPl : Mk K CP fPl) (FPl : FnOk P w K mg base (L2.CX P w) 3 fPl fdPl ["self", "road", "number", "parts"] (spPlaceI CP CB)) (bPl : Binds K fdPl ["self", "road", "number", "parts"] [])
    (cW : QC K CW fWE) (FWE : FnOk P w K mg base CX0 8 fWE fdWE ["self", "other"] (spRowE K CT CR CM CP CW)) (bWE : Binds K fdWE ["self", "other"] [])
    (hList : mg "list" = none) (hLen : mg "len" = none) : FnOk P w K mg base CX0 12 f fd ["_law_script"] (spLaw K) := by
  refine F.ok scLaw (fun vs H Q E h => ?_) (fun cdv A outer s H vs Q E hr h => ?_)
  · obtain ⟨a, ns, rfl, _⟩ := h
    rfl
  · obtain ⟨a, ns, rfl, hS, hlen, k⟩ := h
    have hr1 : Room 1 _ := hr.mono (by decide)
    have hr2 : Room 2 _ := hr.mono (by decide)
    have hr4 : Room 4 _ := hr.mono (by decide)
    have hr7 : Room 7 _ := hr.mono (by decide)
    have hr8 : Room 8 _ := hr.mono (by decide)
    have hr9 : Room 9 _ := hr.mono (by decide)
    have hr11 : Room 11 _ := hr.mono (by decide)
    have hu := hu_of hr
    refine ⟨_, pss_cons (ps_for PassesOwn.never rfl (pi_list (pe_slice sl_list (pe_op op_catS (pv 0) (pe_lst (pa_cons pe_int pa_nil))) po_none (po_some pe_int))) (pg_name (i := 1) scLaw.nd rfl (Or.inl rfl))
        (pss_cons (ps_set (i := 2) scLaw.nd rfl (Or.inl rfl) (pe_call FSt hr1 rfl mSt kSt bSt .nil pass0 (pa_cons (pv 1) pa_nil)))
        (pss_cons (ps_set (i := 3) scLaw.nd rfl (Or.inl rfl) (pe_call FTN hr2 rfl mTN kTN bTN .nil pass0 (pa_cons (pv 2) (pa_cons (pe_op op_add pe_int (pe_call FDG hr1 rfl mDG kDG bDG .nil pass0 (pa_cons (pv 2) (pa_cons pe_int pa_nil)))) (pa_cons pe_int pa_nil)))))
        (pss_cons (ps_set (i := 4) scLaw.nd rfl (Or.inl rfl) (pe_call FMN hr2 rfl mMN kMN bMN .nil pass0 (pa_cons (pv 2) (pa_cons (pv 3) (pa_cons (pe_call FDG hr1 rfl mDG kDG bDG .nil pass0 (pa_cons (pv 2) (pa_cons pe_int pa_nil))) (pa_cons pe_int pa_nil))))))
        (pss_cons (ps_set (i := 5) scLaw.nd rfl (Or.inl rfl) (pe_call FRN hr7 rfl mRN kRN bRN .nil pass0 (pa_cons (pv 3) (pa_cons (pv 4) pa_nil))))
        (pss_cons (ps_set (i := 6) scLaw.nd rfl (Or.inl rfl) (pe_call FTB hr4 rfl mTB kTB bTB .nil pass0 (pa_cons (pv 3) (pa_cons (pv 4) pa_nil))))
        (pss_cons (ps_set (i := 7) scLaw.nd rfl (Or.inl rfl) (pe_call FDo hr11 rfl mDo kDo bDo .nil passF (pa_cons (pv 5) pa_nil)))
        (pss_cons (ps_if (pt_cmpR (op_neD hr.units) (pe_call FTo hr2 rfl mTo kTo bTo .nil pass0 (pa_cons (pv 7) pa_nil)) (pe_call FSn hr2 rfl mSn kSn bSn .nil pass0 (pa_cons (pv 3) (pa_cons (pv 6) pa_nil))) (nomark _))
          (pss_one (ps_ret pe_bl))
          pss_nil)
        (pss_cons (ps_expr (pe_bm0 PySem.F.plainAttrs_list PySem.F.slot_list_clear PySem.F.type_list_clear mt_clear (pv 7)))
        (pss_cons (ps_if (PW.pt (pw_or (pt_cmpR op_eq (pe_callB call_len (by rfl) hLen (by decide +kernel) (pa_cons (pe_call FDo hr11 rfl mDo kDo bDo .nil passF (pa_cons (pv 5) pa_nil)) pa_nil)) pe_int (nomark _)) (pw_or1 (pt_cmpR (op_neB (rcB_ne FWE cW.eq cW.fn bWE cW.ne cW.hm) hr9) (pv 5) (pe_call FRN hr7 rfl mRN kRN bRN .nil pass0 (pa_cons (pv 3) (pa_cons (pv 4) pa_nil))) (nomark _)))))
          (pss_one (ps_ret pe_bl))
          pss_nil)
        (pss_one (ps_for PassesOwn.never rfl (pi_list (pe_stepL (pe_callTy (call_list_dT rfl) (by rfl) hList (by decide +kernel) (pa_cons (pv 6) pa_nil)) (pe_op op_add pe_int (pe_op op_fdiv (pe_callB call_len_dT (by rfl) hLen (by decide +kernel) (pa_cons (pv 6) pa_nil)) pe_int)))) (pg_name (i := 8) scLaw.nd rfl (Or.inl rfl))
          (pss_one (ps_if (pt_cmpR (op_neD hr.units) (pe_call FNM hr1 rfl mNM kNM bNM .nil pass0 (pa_cons (pe_call FAF hr8 rfl mAF kAF bAF rAF passF (pa_cons (pv 5) (pa_cons (pe_make MPl FPl hr4 (by rfl) TP.mgC bPl .nil passF (pa_cons (pe_ix ix_tup (pv 8) pe_int (fun _ _ => rfl)) (pa_cons (pe_ix ix_tup (pv 8) pe_int (fun _ _ => rfl)) (pa_cons pe_int pa_nil)))) pa_nil))) pa_nil)) (pe_dget hu (pv 6) (pv 8) (fun _ _ => rfl)) (nomark _))
            (pss_one (ps_ret pe_bl))
            pss_nil))))))))))))))
      (pss_one (ps_ret pe_bl)), ?_⟩
    have one1 : ∀ {v : V}, [v].length ≤ sizeLine := fun {v} => (by show 1 ≤ sizeLine; decide)
    have flat0 : ∀ {v : V}, v ∈ (ns.map V.int ++ [V.int 0]) → ∃ z : Int, v = V.int z := fun {v} hv => by
      rcases List.mem_append.mp hv with hv | hv
      · obtain ⟨z, _, rfl⟩ := List.mem_map.mp hv
        exact ⟨z, rfl⟩
      · exact ⟨0, List.mem_singleton.mp hv⟩
    -- (script + [0])[:2]
    refine ⟨_, rfl, one1, fun p0 h0 => ⟨a, p0, _, _, rfl, rfl, (Same.new h0).seq hS, SqL.of upd_same, by rw [List.length_map, PySem.sizeLine_eq]; show _ + 1 ≤ _; omega, fun p1 h1 => ?_⟩⟩
    refine ⟨_, rfl, p1, _, rfl, SqL.of upd_same, fun p2 h2 => ?_⟩
    have g2 : upd (upd (upd H p0 (.lst [.int 0])) p1 (.lst (ns.map V.int ++ [.int 0]))) p2 (.lst (cutV (ns.map V.int ++ [V.int 0]) none (some 2))) p2 = some (.lst (cutV (ns.map V.int ++ [V.int 0]) none (some 2))) := upd_same
    have cm : ∀ v ∈ cutV (ns.map V.int ++ [V.int 0]) none (some 2), v ∈ ns.map V.int ++ [V.int 0] := fun v hv => List.mem_of_mem_drop (List.mem_of_mem_take hv)
    generalize cutV (ns.map V.int ++ [V.int 0]) none (some 2) = cs at g2 cm ⊢
    generalize upd (upd (upd H p0 (.lst [.int 0])) p1 (.lst (ns.map V.int ++ [.int 0]))) p2 (.lst cs) = H1 at g2 ⊢
    refine ⟨p2, rfl, ⟨_, SqL.of g2⟩, for_list (K := K) (a := p2) (xs := cs) (fun i σ G => ∃ (v1 v2 v3 v4 v5 v6 v7 v8 : Option V), σ = [some (.ref a), v1, v2, v3, v4, v5, v6, v7, v8] ∧ Same H1 G)
      ⟨none, none, none, none, none, none, none, none, rfl, Same.refl H1⟩ (fun i σ G _ ⟨_, _, _, _, _, _, _, _, _, sg⟩ => SqL.of (sg _ _ g2)) ?_ ?_⟩
    · rintro i y σ G hi ⟨v1, v2, v3, v4, v5, v6, v7, v8, rfl, sg⟩
      obtain ⟨z, rfl⟩ := flat0 (cm _ (List.mem_of_getElem? hi))
      -- s = state(number)
      refine ⟨_, rfl, z, rfl, fun s G1 hsn src1 sg1 => ?_⟩
      have hs1 : H1 s = none := Same.free sg hsn
      have sH1 : Same H1 G1 := sg.trans sg1
      -- roads = tree(s, 2 + digit(s, 5), 6)
      refine ⟨_, rfl, _, rfl, s, 5, rfl, src1, by decide, by decide, fun d1 G2 a0 a1 src2 b2 => ⟨_, _, rfl, rfl, ?_⟩⟩
      have sH2 := same_but sH1 b2 hs1
      refine ⟨s, 2 + d1, 6, rfl, src2, by omega, by omega, by decide, by decide, fun q fs G3 hq hf dr mo src3 b3 => ?_⟩
      have sH3 := same_but sH2 b3 hs1
      have TG := dr.treeG (by omega) (by decide)
      have T := TG.m
      have big : ∀ r ∈ fs, 1 ≤ r.2.2 ∧ r.2.2 ≤ 6 := fun r hr => ⟨(dr.ok r hr).2.2.1, mo r hr⟩
      have l5 : fs.length ≤ 5 := by have := TG.len; omega
      have l0 : 0 < fs.length := by have := TG.len; have := TG.n2; omega
      have due0 : due (2 + d1) fs = none := dr.due (by omega) (by decide)
      clear src1 sH1 sg1 sg hsn src2 sH2 b2 b3
      -- marches = marches(s, roads, digit(s, 7), 9)
      refine ⟨_, rfl, _, rfl, _, rfl, s, 7, rfl, src3, by decide, by decide, fun d2 G4 c0 c1 src4 b4 => ?_⟩
      have sH4 := same_but sH3 b4 hs1
      have hf4 := hf.butN src3 b4
      refine ⟨s, q, d2, 9, fs, rfl, src4, hf4, l0, by omega, fun r hr => by have := big r hr; omega, by omega, by omega, by decide, by decide, fun l gs G5 hl src5 b5 hM okm gl => ?_⟩
      have sH5 := same_but sH4 b5 hs1
      have hf5 := hf4.butN src4 b5
      have ok : ∀ x ∈ gs, MgOk fs x := fun x hx => (okm x hx).1
      have lg : gs.length ≤ 6 := by omega
      -- row = row(roads, marches)
      refine ⟨_, rfl, _, rfl, q, l, 2 + d1, fs, gs, rfl, hf5, TG, due0, hM, ok, by omega, fun rw x ps ms G6 s6 T6 R6 M6 => ?_⟩
      have hf6 := hf5.same s6
      have hM6 := hM.same s6
      have sH6 := sH5.trans s6
      clear src3 sH3 hf src4 sH4 hf4 b4 src5 b5 sH5 hf5 hM s6
      -- table = table(roads, marches)
      refine ⟨_, rfl, _, rfl, q, l, 2 + d1, fs, gs, 6, rfl, hf6, T, TG.n2, by omega, by decide, fun r hr => (big r hr).2, hM6, ok, fun ff us kvs G7 s7 N7 oin => ?_⟩
      have hf7 := hf6.same s7
      have hM7 := hM6.same s7
      have sH7 := sH6.trans s7
      have T7 := T6.same s7
      have R7 := R6.kp (.of s7)
      have M7 := MasAt.same M6 s7
      clear hf6 hM6 sH6 T6 R6 M6 s7
      dsimp only [gName]
      have szB : ∀ k, k < fs.length → sz fs 1 k ≤ ((6 : Nat) : Int) := fun k hk => by
        unfold sz
        rw [Int.mul_one]
        exact (big _ (List.mem_of_getElem? (rd_get hk))).2
      have few : ∀ {f' : Nat → Nat → Nd} {M' : List It}, JOk fs f' (0, 0) (fs.length, 0) M' → M'.length ≤ 400 := fun {f' M'} jo => by
        have := covS_len (B := 6) szB jo.cov (Nat.zero_le _)
        simp only [Nat.zero_mul] at this
        omega
      -- found = doing(row)
      refine ⟨_, rfl, rw, x, 2 + d1, ps, fs, ms, gs, rfl, R7, T7, TG, M7, ok, fun j f' M' _ _ jo bg => absurd (few jo) (by omega), fun D us' M f G8 s8 hD8 g8 im pr8 jo ml => ?_⟩
      -- if told(found) != stretches(roads, table)
      refine ⟨_, rfl, D, us', M, fs, f, rfl, g8, pr8, by omega, fun Dt ts G9 s9 g9 pt9 => ?_⟩
      have s79 := s8.trans s9
      refine ⟨_, rfl, _, rfl, q, ff, 2 + d1, fs, us, kvs, gs, f, 6, rfl, hf7.same s79, T, TG.n2, by omega, by decide, fun r hr => (big r hr).2, N7.keep s79, ok, im, fun Ds tss L G10 s10 g10 pt10 cut10 => ?_⟩
      have eLM : M = L := CutOk.uniq (JOk.cut T TG.n2 jo) cut10
      subst eLM
      refine ⟨dSts fs f M, dSts fs f M, tds_dp (s10 _ _ g9) (Paired.mapP pt9 fun _ _ h => h.same s10), tds_dp g10 pt10, dSts_shaped fs f M, dSts_shaped fs f M, _, rfl, ?_⟩
      rw [dSts_eqv]
      refine iteF ?_
      -- found.clear()
      have gD10 := s10 _ _ (s9 _ _ g8)
      refine ⟨_, rfl, .inl ⟨rfl, _, SqL.of gD10⟩, D, _, rfl, rfl, gD10, ?_⟩
      have s7c : Same G7 (upd G10 D (.lst [])) := fun b o e => by
        rw [upd_ne (ne_of_none e hD8)]
        exact s10 _ _ (s79 _ _ e)
      clear g8 pr8 g9 pt9 s79 g10 pt10 gD10 s8 s9 s10 cut10 ml jo
      generalize upd G10 D (.lst []) = Gc at s7c ⊢
      -- if len(doing(row)) == 0 or row != row(roads, marches)
      refine ⟨_, rfl, rw, x, 2 + d1, ps, fs, ms, gs, rfl, R7.kp (.of s7c), T7.same s7c, TG, MasAt.same M7 s7c, ok, fun j f' M' _ _ jo bg => absurd (few jo) (by omega), fun D' us'' M' f' Gd sd hDd gd im' prd jo' ml' => ?_⟩
      refine ⟨.ref D', _, rfl, .inl ⟨_, SqL.of gd, rfl⟩, rfl, _, rfl, ?_⟩
      have ne0 : M'.length ≠ 0 := fun e => by
        have e' : M' = [] := List.length_eq_zero_iff.mp e
        subst e'
        have := (Prod.mk.inj (show ((0 : Nat), (0 : Nat)) = (fs.length, 0) from jo'.cov)).1
        omega
      have s7d := s7c.trans sd
      refine iteFd (fun z => ne0 (by
        have := V.int.inj z
        rw [List.length_map, Paired.length prd] at this
        omega)) ?_
      refine ⟨_, rfl, _, rfl, _, rfl, q, l, 2 + d1, fs, gs, rfl, hf7.same s7d, TG, due0, hM7.same s7d, ok, by omega, fun rw2 x2 ps2 ms2 Ge se Te Re Me => ?_⟩
      have s7e := s7d.trans se
      obtain ⟨dw, tw, ew, etw⟩ := id (R7.kp (.of s7e))
      obtain ⟨dw2, tw2, ew2, etw2⟩ := id Re
      have RS : RowS K CT CR CM CP CW Ge rw (2 + d1) fs gs := ⟨ok, by omega, TG, x, ps, ms, R7.kp (.of s7e), T7.same s7e, MasAt.same M7 s7e⟩
      have RT : RowS K CT CR CM CP CW Ge rw2 (2 + d1) fs gs := ⟨ok, by omega, TG, x2, ps2, ms2, Re, Te, Me⟩
      refine ⟨rw, dw, _, _, rfl, ew, .ins ew2, nf_same, rw, 2 + d1, fs, gs, _, rfl, RS, .inl ⟨rw2, 2 + d1, fs, gs, rfl, RT, fun Gf sf => ⟨_, rfl, ?_⟩⟩⟩
      have s7f := s7e.trans sf
      rw [decide_eq_true (show ((2 + d1 = 2 + d1 ∧ fs = fs) ∧ rowK fs gs = rowK fs gs) from ⟨⟨rfl, rfl⟩, rfl⟩)]
      refine ⟨_, rfl, iteF ?_⟩
      clear RS RT Te Re Me ew2 etw2 ew etw s7c sd s7d se s7e sf gd prd
      -- for place in list(table)[::1 + len(table) // 9]
      have Nf := N7.keep s7f
      refine ⟨_, rfl, ff, kvs, rfl, .inl Nf.at_, fun pl bs hpl isk => ?_⟩
      have sg7 := Same.new (o := .lst (bs.map V.ref)) hpl
      have epl : upd Gf pl (.lst (bs.map V.ref)) pl = some (.lst (bs.map V.ref)) := upd_same
      have isg : Paired (fun (p : List Key × V) b => upd Gf pl (.lst (bs.map V.ref)) b = some (.tup (p.1.map kV))) kvs bs := Paired.mapP isk fun _ _ h => sg7 _ _ h
      have s7g := s7f.trans sg7
      clear isk sg7 s7f hpl Nf
      generalize upd Gf pl (.lst (bs.map V.ref)) = Gg at epl isg s7g ⊢
      refine ⟨pl, rfl, _, rfl, ff, kvs, rfl, s7g _ _ N7.at_, _, _, rfl, rfl, ⟨by decide, by decide⟩, _, _, rfl, rfl, _, _, rfl, by omega, SqL.of epl, fun pz zs hpz sub _ => ?_⟩
      have sh := Same.new (o := .lst zs) hpz
      have epz : upd Gg pz (.lst zs) pz = some (.lst zs) := upd_same
      have isz : Paired (fun (p : List Key × V) b => upd Gg pz (.lst zs) b = some (.tup (p.1.map kV))) kvs bs := Paired.mapP isg fun _ _ h => sh _ _ h
      have s7h := s7g.trans sh
      clear isg epl s7g sh hpz
      generalize upd Gg pz (.lst zs) = Gh at epz isz s7h ⊢
      refine ⟨pz, rfl, ⟨_, SqL.of epz⟩, for_list (K := K) (a := pz) (xs := zs) (fun i σ G => ∃ (v8 : Option V), σ = [some (.ref a), some (.int z), some (.ref s), some (.ref q), some (.ref l), some (.ref rw), some (.ref ff), some (.ref D), v8] ∧ Same Gh G)
        ⟨v8, rfl, Same.refl Gh⟩ (fun i σ G _ ⟨_, _, sg⟩ => SqL.of (sg _ _ epz)) ?_ ?_⟩
      · rintro i y σ G hi ⟨w8, rfl, sg⟩
        obtain ⟨b, hb, rfl⟩ := List.mem_map.mp (sub y (List.mem_of_getElem? hi))
        obtain ⟨ib, hib⟩ := List.getElem?_of_mem hb
        obtain ⟨kv0, hkv0, eb0⟩ := pair_at isz hib
        obtain ⟨u0, hu0, ek⟩ : ∃ u0, us[ib]? = some u0 ∧ nqL fs u0 = kv0.1 := by
          have h1 : (us.map (nqL fs))[ib]? = some kv0.1 := by
            rw [← N7.keys, List.getElem?_map, hkv0]
            rfl
          obtain ⟨u0, h2, h3⟩ := map_get h1
          exact ⟨u0, h2, h3.symm⟩
        rw [← ek] at eb0
        have ou0 := oin u0 (List.mem_of_getElem? hu0)
        obtain ⟨on0, en0⟩ := nqk_on T TG.n2 (by decide) ou0
        have s7G := s7h.trans sg
        have eb : G b = some (.tup [.int (((nqk fs 1 u0).1 : Nat) : Int), .int (nqk fs 1 u0).2]) := sg _ _ eb0
        generalize ek0 : (nqk fs 1 u0).1 = kk at eb on0 en0
        generalize ei0 : (nqk fs 1 u0).2 = ii at eb on0 en0
        -- name(after(row, Place(place[0], place[1], 1))) != table[place]
        refine ⟨_, rfl, _, rfl, b, _, 0, .int (kk : Nat), rfl, rfl, SqT.of eb, rfl, _, rfl, b, _, 1, .int ii, rfl, rfl, SqT.of eb, rfl, fun pA dpA npA ndpA nepA => ⟨pA, dpA, (((kk : Nat) : Int), ii, 1), rfl, upd_same, fun z => absurd z (by show ¬ (1 : Int) < 1; decide), fun _ => ⟨(by show (1 : Int).natAbs.log2 < 9000; decide), fun GA PA keepA => ⟨rfl, tn ?_⟩⟩⟩⟩
        have sA := made_same npA ndpA keepA
        rw [low_one] at PA
        have s7A := s7G.trans sA
        show spAfter K CT CR CM CP CW CB CNR COR [V.ref rw, V.ref pA, V.int 1] GA _ _
        refine after1 (c := 1) (R7.kp (.of s7A)) (T7.same s7A) TG (MasAt.same M7 s7A) ok (by omega) PA (ple1 on0) (by decide) (by decide) (by decide) (by decide) fun pr' GB v' sB gr' pk => ?_
        have gl' : GoL fs 1 gs u0 v' := by
          obtain ⟨w', a', b'⟩ := gr'
          cases (show _ = _ from a')
          rw [en0] at b'
          exact b'
        refine ⟨pr', fs, v', rfl, pk, fun tn GC sC pn => ?_⟩
        have s7C := s7A.trans (sB.trans sC)
        have NC := N7.keep s7C
        obtain ⟨t2, v2, hv, gl2, ov2, pv2⟩ := NC.ok u0 ou0
        have ev : v2 = v' := GoL.uniq T (by decide) ok gl2 gl'
        subst ev
        have ebC : GC b = some (.tup ((nqL fs u0).map kV)) := sC _ _ (sB _ _ (sA _ _ (sg _ _ eb0)))
        have dget : DGet GC ff (.ref b) (some (.ref t2)) := by
          have h := DGet.t (k := nqL fs u0) NC.at_ ebC
          rw [hv] at h
          exact h
        refine ⟨_, rfl, _, rfl, ff, .ref t2, rfl, dget, OT.d2 _, OT.d2 _, d2_at pn, d2_at pv2, d2_shaped _, d2_shaped _, _, rfl, ?_⟩
        rw [d2_eqv, decide_eq_true rfl]
        exact iteF ⟨_, rfl, sg.trans (sA.trans (sB.trans sC))⟩
      · rintro σ G ⟨w8, rfl, sg⟩
        exact ⟨_, _, _, _, _, _, _, _, rfl, sH7.trans (s7h.trans sg)⟩
    · rintro σ G ⟨v1, v2, v3, v4, v5, v6, v7, v8, rfl, sg⟩
      exact k G
end
end OT

set_option Elab.async false
set_option linter.all false
set_option maxRecDepth 100000
set_option maxHeartbeats 2000000
namespace OT
open PySem L2 OTR
theorem oth3 {p : String → Prop} (h0 : p "NoneType") (h1 : p "tuple") (h2 : p "list") (T : String) (h : oth T) : p T := by
  rcases h with rfl | rfl | rfl
  · exact h0
  · exact h1
  · exact h2
theorem nf_sub {K : PySem.W.Frag} {C : Addr} {T : String} (h : PySem.W.subIn K (.type T) (.ref C) = some false) : PySem.W.notFirst K C (.type T) = true := by
  unfold PySem.W.notFirst
  rw [h]
  simp
theorem all_mk {P : Program} {w : World} {K : PySem.W.Frag} {h : Heap} {mg : Str → Option Value} {fa CR CT CP CM CW CS CB CN CG CNR COR CNW CWd : Addr} (X : K.In h) (G : h.Ns mainGlobals mg) (hfa : mg "law" = some (.ref fa))
    {fC fI fA fCK fCH fEA fEB fCO fKY fKD fLG fDI fST fAF fZG fZB fZK fZM fZO fZJ fZA fZD fXS fXD fXT fXK fXN fXW fXP fXB fXM fXR fXA fXV fXO fL fB fN fG fNR fOR fNW fR fT fPl fMa fRw fRE fTE fPE fME fWE fZI fZW : Addr} {odC anC odI anI odA anA odCK anCK odCH anCH odEA anEA odEB anEB odCO anCO odKY anKY odKD anKD odLG anLG odDI anDI odST anST odAF anAF odZG anZG odZB anZB odZK anZK odZM anZM odZO anZO odZJ anZJ odZA anZA odZD anZD odXS anXS odXD anXD odXT anXT odXK anXK odXN anXN odXW anXW odXP anXP odXB anXB odXM anXM odXR anXR odXA anXA odXV anXV odXO anXO odL anL odB anB odN anN odG anG odNR anNR odOR anOR odNW anNW odR anR odT anT odPl anPl odMa anMa odRw anRw odRE anRE odTE anTE odPE anPE odME anME odWE anWE odZI anZI odZW anZW : Option Addr} {slC slI slA slCK slCH slEA slEB slCO slKY slKD slLG slDI slST slAF slZG slZB slZK slZM slZO slZJ slZA slZD slXS slXD slXT slXK slXN slXW slXP slXB slXM slXR slXA slXV slXO slL slB slN slG slNR slOR slNW slR slT slPl slMa slRw slRE slTE slPE slME slWE slZI slZW : Array (Option Value)}
    {ocC dcC pmC ctC kVC cdC ocI dcI pmI ctI kVI cdI ocA dcA pmA ctA kVA cdA ocCK dcCK pmCK ctCK kVCK cdCK ocCH dcCH pmCH ctCH kVCH cdCH ocEA dcEA pmEA ctEA kVEA cdEA ocEB dcEB pmEB ctEB kVEB cdEB ocCO dcCO pmCO ctCO kVCO cdCO ocKY dcKY pmKY ctKY kVKY cdKY ocKD dcKD pmKD ctKD kVKD cdKD ocLG dcLG pmLG ctLG kVLG cdLG ocDI dcDI pmDI ctDI kVDI cdDI ocST dcST pmST ctST kVST cdST ocAF dcAF pmAF ctAF cdAF ocZG dcZG pmZG ctZG kVZG cdZG ocZB dcZB pmZB ctZB kVZB cdZB ocZK dcZK pmZK ctZK kVZK cdZK ocZM dcZM pmZM ctZM kVZM cdZM ocZO dcZO pmZO ctZO kVZO cdZO ocZJ dcZJ pmZJ ctZJ kVZJ cdZJ ocZA dcZA pmZA ctZA kVZA cdZA ocZD dcZD pmZD ctZD kVZD cdZD ocXS dcXS pmXS ctXS kVXS cdXS ocXD dcXD pmXD ctXD kVXD cdXD ocXT dcXT pmXT ctXT kVXT cdXT ocXK dcXK pmXK ctXK kVXK cdXK ocXN dcXN pmXN ctXN kVXN cdXN ocXW dcXW pmXW ctXW kVXW cdXW ocXP dcXP pmXP ctXP kVXP cdXP ocXB dcXB pmXB ctXB kVXB cdXB ocXM dcXM pmXM ctXM kVXM cdXM ocXR dcXR pmXR ctXR kVXR cdXR ocXA dcXA pmXA ctXA kVXA cdXA ocXV dcXV pmXV ctXV kVXV cdXV ocXO dcXO pmXO ctXO kVXO cdXO ocL dcL pmL ctL kVL cdL ocB dcB pmB ctB kVB cdB ocN dcN pmN ctN kVN cdN ocG dcG pmG ctG kVG cdG ocNR dcNR pmNR ctNR kVNR cdNR ocOR dcOR pmOR ctOR kVOR cdOR ocNW dcNW pmNW ctNW kVNW cdNW ocR dcR pmR ctR kVR cdR ocT dcT pmT ctT kVT cdT ocPl dcPl pmPl ctPl kVPl cdPl ocMa dcMa pmMa ctMa kVMa cdMa ocRw dcRw pmRw ctRw kVRw cdRw ocRE dcRE pmRE ctRE kVRE cdRE ocTE dcTE pmTE ctTE kVTE cdTE ocPE dcPE pmPE ctPE kVPE cdPE ocME dcME pmME ctME kVME cdME ocWE dcWE pmWE ctWE kVWE cdWE ocZI dcZI pmZI ctZI kVZI cdZI ocZW dcZW pmZW ctZW kVZW cdZW : Value}
    {DAF : Addr} {tgAFrounds : _}
    {nmCB qCB : Str} {NCB : Addr} {bsCB bmCB subCB : List Value} {snCB : List Str} {abCB : Bool} {colCB : Option Bool} {ddCB : Option Addr} {m0CB m1CB m2CB m3CB m5CB : Option Value}
    {nmCN qCN : Str} {NCN : Addr} {bsCN bmCN subCN : List Value} {snCN : List Str} {abCN : Bool} {colCN : Option Bool} {ddCN : Option Addr} {m0CN m1CN m2CN m3CN m5CN : Option Value}
    {nmCG qCG : Str} {NCG : Addr} {bsCG bmCG subCG : List Value} {snCG : List Str} {abCG : Bool} {colCG : Option Bool} {ddCG : Option Addr} {m0CG m1CG m2CG m3CG m5CG : Option Value}
    {nmCNR qCNR : Str} {NCNR : Addr} {bsCNR bmCNR subCNR : List Value} {snCNR : List Str} {abCNR : Bool} {colCNR : Option Bool} {ddCNR : Option Addr} {m0CNR m1CNR m2CNR m3CNR m5CNR : Option Value}
    {nmCOR qCOR : Str} {NCOR : Addr} {bsCOR bmCOR subCOR : List Value} {snCOR : List Str} {abCOR : Bool} {colCOR : Option Bool} {ddCOR : Option Addr} {m0COR m1COR m2COR m3COR m5COR : Option Value}
    {nmCNW qCNW : Str} {NCNW : Addr} {bsCNW bmCNW subCNW : List Value} {snCNW : List Str} {abCNW : Bool} {colCNW : Option Bool} {ddCNW : Option Addr} {m0CNW m1CNW m2CNW m3CNW m5CNW : Option Value}
    {nmCWd qCWd : Str} {NCWd : Addr} {bsCWd bmCWd subCWd : List Value} {snCWd : List Str} {abCWd : Bool} {colCWd : Option Bool} {ddCWd : Option Addr} {m0CWd m1CWd m2CWd m3CWd m5CWd : Option Value}
    {tg0 tg1 tg2 tg3 tg4 : _}
    (aC : PySem.W.nsIn K mainGlobals "check_road" = some (some (.ref fC)))
    (lC : K.lookup fC = some ⟨ocC, odC, .func (PySem.W.fnOf "check_road" "check_road" (defArgs sCheck) (defBody sCheck) (defScope sCheck) .none kVC dcC pmC anC cdC ctC), slC⟩)
    (cC : PySem.W.codeIn K cdC "check_road" = true)
    (kC : PySem.W.keepIn K (.ref fC) = true)
    (aI : PySem.W.nsIn K mainGlobals "join_trails" = some (some (.ref fI)))
    (lI : K.lookup fI = some ⟨ocI, odI, .func (PySem.W.fnOf "join_trails" "join_trails" (defArgs sJoin) (defBody sJoin) (defScope sJoin) .none kVI dcI pmI anI cdI ctI), slI⟩)
    (cI : PySem.W.codeIn K cdI "join_trails" = true)
    (kI : PySem.W.keepIn K (.ref fI) = true)
    (aA : PySem.W.nsIn K mainGlobals "trails_along" = some (some (.ref fA)))
    (lA : K.lookup fA = some ⟨ocA, odA, .func (PySem.W.fnOf "trails_along" "trails_along" (defArgs sTrails) (defBody sTrails) (defScope sTrails) .none kVA dcA pmA anA cdA ctA), slA⟩)
    (cA : PySem.W.codeIn K cdA "trails_along" = true)
    (kA : PySem.W.keepIn K (.ref fA) = true)
    (aCK : PySem.W.nsIn K mainGlobals "check_place" = some (some (.ref fCK)))
    (lCK : K.lookup fCK = some ⟨ocCK, odCK, .func (PySem.W.fnOf "check_place" "check_place" (defArgs sCheckPl) (defBody sCheckPl) (defScope sCheckPl) .none kVCK dcCK pmCK anCK cdCK ctCK), slCK⟩)
    (cCK : PySem.W.codeIn K cdCK "check_place" = true)
    (kCK : PySem.W.keepIn K (.ref fCK) = true)
    (aCH : PySem.W.nsIn K mainGlobals "check_march" = some (some (.ref fCH)))
    (lCH : K.lookup fCH = some ⟨ocCH, odCH, .func (PySem.W.fnOf "check_march" "check_march" (defArgs sCheckMa) (defBody sCheckMa) (defScope sCheckMa) .none kVCH dcCH pmCH anCH cdCH ctCH), slCH⟩)
    (cCH : PySem.W.codeIn K cdCH "check_march" = true)
    (kCH : PySem.W.keepIn K (.ref fCH) = true)
    (aEA : PySem.W.nsIn K mainGlobals "end_at" = some (some (.ref fEA)))
    (lEA : K.lookup fEA = some ⟨ocEA, odEA, .func (PySem.W.fnOf "end_at" "end_at" (defArgs sEndAt) (defBody sEndAt) (defScope sEndAt) .none kVEA dcEA pmEA anEA cdEA ctEA), slEA⟩)
    (cEA : PySem.W.codeIn K cdEA "end_at" = true)
    (kEA : PySem.W.keepIn K (.ref fEA) = true)
    (aEB : PySem.W.nsIn K mainGlobals "end_beyond" = some (some (.ref fEB)))
    (lEB : K.lookup fEB = some ⟨ocEB, odEB, .func (PySem.W.fnOf "end_beyond" "end_beyond" (defArgs sEndBeyond) (defBody sEndBeyond) (defScope sEndBeyond) .none kVEB dcEB pmEB anEB cdEB ctEB), slEB⟩)
    (cEB : PySem.W.codeIn K cdEB "end_beyond" = true)
    (kEB : PySem.W.keepIn K (.ref fEB) = true)
    (aCO : PySem.W.nsIn K mainGlobals "corner" = some (some (.ref fCO)))
    (lCO : K.lookup fCO = some ⟨ocCO, odCO, .func (PySem.W.fnOf "corner" "corner" (defArgs sCorner) (defBody sCorner) (defScope sCorner) .none kVCO dcCO pmCO anCO cdCO ctCO), slCO⟩)
    (cCO : PySem.W.codeIn K cdCO "corner" = true)
    (kCO : PySem.W.keepIn K (.ref fCO) = true)
    (aKY : PySem.W.nsIn K mainGlobals "key" = some (some (.ref fKY)))
    (lKY : K.lookup fKY = some ⟨ocKY, odKY, .func (PySem.W.fnOf "key" "key" (defArgs sKey) (defBody sKey) (defScope sKey) .none kVKY dcKY pmKY anKY cdKY ctKY), slKY⟩)
    (cKY : PySem.W.codeIn K cdKY "key" = true)
    (kKY : PySem.W.keepIn K (.ref fKY) = true)
    (aKD : PySem.W.nsIn K mainGlobals "keyed" = some (some (.ref fKD)))
    (lKD : K.lookup fKD = some ⟨ocKD, odKD, .func (PySem.W.fnOf "keyed" "keyed" (defArgs sKeyed) (defBody sKeyed) (defScope sKeyed) .none kVKD dcKD pmKD anKD cdKD ctKD), slKD⟩)
    (cKD : PySem.W.codeIn K cdKD "keyed" = true)
    (kKD : PySem.W.keepIn K (.ref fKD) = true)
    (aLG : PySem.W.nsIn K mainGlobals "legs" = some (some (.ref fLG)))
    (lLG : K.lookup fLG = some ⟨ocLG, odLG, .func (PySem.W.fnOf "legs" "legs" (defArgs sLegs) (defBody sLegs) (defScope sLegs) .none kVLG dcLG pmLG anLG cdLG ctLG), slLG⟩)
    (cLG : PySem.W.codeIn K cdLG "legs" = true)
    (kLG : PySem.W.keepIn K (.ref fLG) = true)
    (aDI : PySem.W.nsIn K mainGlobals "distance" = some (some (.ref fDI)))
    (lDI : K.lookup fDI = some ⟨ocDI, odDI, .func (PySem.W.fnOf "distance" "distance" (defArgs sDist) (defBody sDist) (defScope sDist) .none kVDI dcDI pmDI anDI cdDI ctDI), slDI⟩)
    (cDI : PySem.W.codeIn K cdDI "distance" = true)
    (kDI : PySem.W.keepIn K (.ref fDI) = true)
    (aST : PySem.W.nsIn K mainGlobals "step" = some (some (.ref fST)))
    (lST : K.lookup fST = some ⟨ocST, odST, .func (PySem.W.fnOf "step" "step" (defArgs sStep) (defBody sStep) (defScope sStep) .none kVST dcST pmST anST cdST ctST), slST⟩)
    (cST : PySem.W.codeIn K cdST "step" = true)
    (kST : PySem.W.keepIn K (.ref fST) = true)
    (aAF : PySem.W.nsIn K mainGlobals "after" = some (some (.ref fAF)))
    (lAF : K.lookup fAF = some ⟨ocAF, odAF, .func (PySem.W.fnOf "after" "after" (defArgs sAfter) (defBody sAfter) (defScope sAfter) .none (.ref DAF) dcAF pmAF anAF cdAF ctAF), slAF⟩)
    (cAF : PySem.W.codeIn K cdAF "after" = true)
    (kAF : PySem.W.keepIn K (.ref fAF) = true)
    (kwAFrounds : PySem.W.nsIn K DAF "rounds" = some (some (.int 1 tgAFrounds)))
    (aZG : PySem.W.nsIn K mainGlobals "is_gathered" = some (some (.ref fZG)))
    (lZG : K.lookup fZG = some ⟨ocZG, odZG, .func (PySem.W.fnOf "is_gathered" "is_gathered" (defArgs sGathered) (defBody sGathered) (defScope sGathered) .none kVZG dcZG pmZG anZG cdZG ctZG), slZG⟩)
    (cZG : PySem.W.codeIn K cdZG "is_gathered" = true)
    (kZG : PySem.W.keepIn K (.ref fZG) = true)
    (aZB : PySem.W.nsIn K mainGlobals "steps_between" = some (some (.ref fZB)))
    (lZB : K.lookup fZB = some ⟨ocZB, odZB, .func (PySem.W.fnOf "steps_between" "steps_between" (defArgs sStepsB) (defBody sStepsB) (defScope sStepsB) .none kVZB dcZB pmZB anZB cdZB ctZB), slZB⟩)
    (cZB : PySem.W.codeIn K cdZB "steps_between" = true)
    (kZB : PySem.W.keepIn K (.ref fZB) = true)
    (aZK : PySem.W.nsIn K mainGlobals "marks_of" = some (some (.ref fZK)))
    (lZK : K.lookup fZK = some ⟨ocZK, odZK, .func (PySem.W.fnOf "marks_of" "marks_of" (defArgs sMarksOf) (defBody sMarksOf) (defScope sMarksOf) .none kVZK dcZK pmZK anZK cdZK ctZK), slZK⟩)
    (cZK : PySem.W.codeIn K cdZK "marks_of" = true)
    (kZK : PySem.W.keepIn K (.ref fZK) = true)
    (aZM : PySem.W.nsIn K mainGlobals "marched" = some (some (.ref fZM)))
    (lZM : K.lookup fZM = some ⟨ocZM, odZM, .func (PySem.W.fnOf "marched" "marched" (defArgs sMarched) (defBody sMarched) (defScope sMarched) .none kVZM dcZM pmZM anZM cdZM ctZM), slZM⟩)
    (cZM : PySem.W.codeIn K cdZM "marched" = true)
    (kZM : PySem.W.keepIn K (.ref fZM) = true)
    (aZO : PySem.W.nsIn K mainGlobals "is_one" = some (some (.ref fZO)))
    (lZO : K.lookup fZO = some ⟨ocZO, odZO, .func (PySem.W.fnOf "is_one" "is_one" (defArgs sIsOne) (defBody sIsOne) (defScope sIsOne) .none kVZO dcZO pmZO anZO cdZO ctZO), slZO⟩)
    (cZO : PySem.W.codeIn K cdZO "is_one" = true)
    (kZO : PySem.W.keepIn K (.ref fZO) = true)
    (aZJ : PySem.W.nsIn K mainGlobals "joined" = some (some (.ref fZJ)))
    (lZJ : K.lookup fZJ = some ⟨ocZJ, odZJ, .func (PySem.W.fnOf "joined" "joined" (defArgs sJoinedP) (defBody sJoinedP) (defScope sJoinedP) .none kVZJ dcZJ pmZJ anZJ cdZJ ctZJ), slZJ⟩)
    (cZJ : PySem.W.codeIn K cdZJ "joined" = true)
    (kZJ : PySem.W.keepIn K (.ref fZJ) = true)
    (aZA : PySem.W.nsIn K mainGlobals "stretches_after" = some (some (.ref fZA)))
    (lZA : K.lookup fZA = some ⟨ocZA, odZA, .func (PySem.W.fnOf "stretches_after" "stretches_after" (defArgs sStretchesA) (defBody sStretchesA) (defScope sStretchesA) .none kVZA dcZA pmZA anZA cdZA ctZA), slZA⟩)
    (cZA : PySem.W.codeIn K cdZA "stretches_after" = true)
    (kZA : PySem.W.keepIn K (.ref fZA) = true)
    (aZD : PySem.W.nsIn K mainGlobals "doing" = some (some (.ref fZD)))
    (lZD : K.lookup fZD = some ⟨ocZD, odZD, .func (PySem.W.fnOf "doing" "doing" (defArgs sDoing) (defBody sDoing) (defScope sDoing) .none kVZD dcZD pmZD anZD cdZD ctZD), slZD⟩)
    (cZD : PySem.W.codeIn K cdZD "doing" = true)
    (kZD : PySem.W.keepIn K (.ref fZD) = true)
    (aXS : PySem.W.nsIn K mainGlobals "_law_state" = some (some (.ref fXS)))
    (lXS : K.lookup fXS = some ⟨ocXS, odXS, .func (PySem.W.fnOf "_law_state" "_law_state" (defArgs sState) (defBody sState) (defScope sState) .none kVXS dcXS pmXS anXS cdXS ctXS), slXS⟩)
    (cXS : PySem.W.codeIn K cdXS "_law_state" = true)
    (kXS : PySem.W.keepIn K (.ref fXS) = true)
    (aXD : PySem.W.nsIn K mainGlobals "_law_digit" = some (some (.ref fXD)))
    (lXD : K.lookup fXD = some ⟨ocXD, odXD, .func (PySem.W.fnOf "_law_digit" "_law_digit" (defArgs sDigit) (defBody sDigit) (defScope sDigit) .none kVXD dcXD pmXD anXD cdXD ctXD), slXD⟩)
    (cXD : PySem.W.codeIn K cdXD "_law_digit" = true)
    (kXD : PySem.W.keepIn K (.ref fXD) = true)
    (aXT : PySem.W.nsIn K mainGlobals "_law_tree" = some (some (.ref fXT)))
    (lXT : K.lookup fXT = some ⟨ocXT, odXT, .func (PySem.W.fnOf "_law_tree" "_law_tree" (defArgs sTreeN) (defBody sTreeN) (defScope sTreeN) .none kVXT dcXT pmXT anXT cdXT ctXT), slXT⟩)
    (cXT : PySem.W.codeIn K cdXT "_law_tree" = true)
    (kXT : PySem.W.keepIn K (.ref fXT) = true)
    (aXK : PySem.W.nsIn K mainGlobals "_law_key" = some (some (.ref fXK)))
    (lXK : K.lookup fXK = some ⟨ocXK, odXK, .func (PySem.W.fnOf "_law_key" "_law_key" (defArgs sKeyN) (defBody sKeyN) (defScope sKeyN) .none kVXK dcXK pmXK anXK cdXK ctXK), slXK⟩)
    (cXK : PySem.W.codeIn K cdXK "_law_key" = true)
    (kXK : PySem.W.keepIn K (.ref fXK) = true)
    (aXN : PySem.W.nsIn K mainGlobals "_law_near" = some (some (.ref fXN)))
    (lXN : K.lookup fXN = some ⟨ocXN, odXN, .func (PySem.W.fnOf "_law_near" "_law_near" (defArgs sNear) (defBody sNear) (defScope sNear) .none kVXN dcXN pmXN anXN cdXN ctXN), slXN⟩)
    (cXN : PySem.W.codeIn K cdXN "_law_near" = true)
    (kXN : PySem.W.keepIn K (.ref fXN) = true)
    (aXW : PySem.W.nsIn K mainGlobals "_law_ways" = some (some (.ref fXW)))
    (lXW : K.lookup fXW = some ⟨ocXW, odXW, .func (PySem.W.fnOf "_law_ways" "_law_ways" (defArgs sWaysN) (defBody sWaysN) (defScope sWaysN) .none kVXW dcXW pmXW anXW cdXW ctXW), slXW⟩)
    (cXW : PySem.W.codeIn K cdXW "_law_ways" = true)
    (kXW : PySem.W.keepIn K (.ref fXW) = true)
    (aXP : PySem.W.nsIn K mainGlobals "_law_places" = some (some (.ref fXP)))
    (lXP : K.lookup fXP = some ⟨ocXP, odXP, .func (PySem.W.fnOf "_law_places" "_law_places" (defArgs sPlacesN) (defBody sPlacesN) (defScope sPlacesN) .none kVXP dcXP pmXP anXP cdXP ctXP), slXP⟩)
    (cXP : PySem.W.codeIn K cdXP "_law_places" = true)
    (kXP : PySem.W.keepIn K (.ref fXP) = true)
    (aXB : PySem.W.nsIn K mainGlobals "_law_table" = some (some (.ref fXB)))
    (lXB : K.lookup fXB = some ⟨ocXB, odXB, .func (PySem.W.fnOf "_law_table" "_law_table" (defArgs sTable) (defBody sTable) (defScope sTable) .none kVXB dcXB pmXB anXB cdXB ctXB), slXB⟩)
    (cXB : PySem.W.codeIn K cdXB "_law_table" = true)
    (kXB : PySem.W.keepIn K (.ref fXB) = true)
    (aXM : PySem.W.nsIn K mainGlobals "_law_marches" = some (some (.ref fXM)))
    (lXM : K.lookup fXM = some ⟨ocXM, odXM, .func (PySem.W.fnOf "_law_marches" "_law_marches" (defArgs sMarchesN) (defBody sMarchesN) (defScope sMarchesN) .none kVXM dcXM pmXM anXM cdXM ctXM), slXM⟩)
    (cXM : PySem.W.codeIn K cdXM "_law_marches" = true)
    (kXM : PySem.W.keepIn K (.ref fXM) = true)
    (aXR : PySem.W.nsIn K mainGlobals "_law_row" = some (some (.ref fXR)))
    (lXR : K.lookup fXR = some ⟨ocXR, odXR, .func (PySem.W.fnOf "_law_row" "_law_row" (defArgs sRowN) (defBody sRowN) (defScope sRowN) .none kVXR dcXR pmXR anXR cdXR ctXR), slXR⟩)
    (cXR : PySem.W.codeIn K cdXR "_law_row" = true)
    (kXR : PySem.W.keepIn K (.ref fXR) = true)
    (aXA : PySem.W.nsIn K mainGlobals "_law_name" = some (some (.ref fXA)))
    (lXA : K.lookup fXA = some ⟨ocXA, odXA, .func (PySem.W.fnOf "_law_name" "_law_name" (defArgs sNameN) (defBody sNameN) (defScope sNameN) .none kVXA dcXA pmXA anXA cdXA ctXA), slXA⟩)
    (cXA : PySem.W.codeIn K cdXA "_law_name" = true)
    (kXA : PySem.W.keepIn K (.ref fXA) = true)
    (aXV : PySem.W.nsIn K mainGlobals "_law_stretches" = some (some (.ref fXV)))
    (lXV : K.lookup fXV = some ⟨ocXV, odXV, .func (PySem.W.fnOf "_law_stretches" "_law_stretches" (defArgs sStretchesN) (defBody sStretchesN) (defScope sStretchesN) .none kVXV dcXV pmXV anXV cdXV ctXV), slXV⟩)
    (cXV : PySem.W.codeIn K cdXV "_law_stretches" = true)
    (kXV : PySem.W.keepIn K (.ref fXV) = true)
    (aXO : PySem.W.nsIn K mainGlobals "_law_told" = some (some (.ref fXO)))
    (lXO : K.lookup fXO = some ⟨ocXO, odXO, .func (PySem.W.fnOf "_law_told" "_law_told" (defArgs sTold) (defBody sTold) (defScope sTold) .none kVXO dcXO pmXO anXO cdXO ctXO), slXO⟩)
    (cXO : PySem.W.codeIn K cdXO "_law_told" = true)
    (kXO : PySem.W.keepIn K (.ref fXO) = true)
    (aL : PySem.W.nsIn K mainGlobals "law" = some (some (.ref fL)))
    (lL : K.lookup fL = some ⟨ocL, odL, .func (PySem.W.fnOf "law" "law" (defArgs sLaw) (defBody sLaw) (defScope sLaw) .none kVL dcL pmL anL cdL ctL), slL⟩)
    (cL : PySem.W.codeIn K cdL "law" = true)
    (kL : PySem.W.keepIn K (.ref fL) = true)
    (mCR : PySem.W.nsIn K mainGlobals "Road" = some (some (.ref CR)))
    (mCT : PySem.W.nsIn K mainGlobals "Tree" = some (some (.ref CT)))
    (mCP : PySem.W.nsIn K mainGlobals "Place" = some (some (.ref CP)))
    (mCM : PySem.W.nsIn K mainGlobals "March" = some (some (.ref CM)))
    (mCW : PySem.W.nsIn K mainGlobals "Row" = some (some (.ref CW)))
    (mCS : PySem.W.nsIn K mainGlobals "Stretch" = some (some (.ref CS)))
    (mCB : PySem.W.nsIn K mainGlobals "BadCount" = some (some (.ref CB)))
    (mCN : PySem.W.nsIn K mainGlobals "NoCrossing" = some (some (.ref CN)))
    (mCG : PySem.W.nsIn K mainGlobals "RingRoad" = some (some (.ref CG)))
    (mCNR : PySem.W.nsIn K mainGlobals "NoRoad" = some (some (.ref CNR)))
    (mCOR : PySem.W.nsIn K mainGlobals "OffRoad" = some (some (.ref COR)))
    (mCNW : PySem.W.nsIn K mainGlobals "NotWhole" = some (some (.ref CNW)))
    (mCWd : PySem.W.nsIn K mainGlobals "Wide" = some (some (.ref CWd)))
    (aB : PySem.W.findIn K (.ref CB) "__init__" = some (some (.ref fB)))
    (lB : K.lookup fB = some ⟨ocB, odB, .func (PySem.W.fnOf "__init__" "BadCount.__init__" (defArgs sBad) (defBody sBad) (defScope sBad) .none kVB dcB pmB anB cdB ctB), slB⟩)
    (cB : PySem.W.codeIn K cdB "BadCount.__init__" = true)
    (kB : PySem.W.keepIn K (.ref fB) = true)
    (aN : PySem.W.findIn K (.ref CN) "__init__" = some (some (.ref fN)))
    (lN : K.lookup fN = some ⟨ocN, odN, .func (PySem.W.fnOf "__init__" "NoCrossing.__init__" (defArgs sNoC) (defBody sNoC) (defScope sNoC) .none kVN dcN pmN anN cdN ctN), slN⟩)
    (cN : PySem.W.codeIn K cdN "NoCrossing.__init__" = true)
    (kN : PySem.W.keepIn K (.ref fN) = true)
    (aG : PySem.W.findIn K (.ref CG) "__init__" = some (some (.ref fG)))
    (lG : K.lookup fG = some ⟨ocG, odG, .func (PySem.W.fnOf "__init__" "RingRoad.__init__" (defArgs sRing) (defBody sRing) (defScope sRing) .none kVG dcG pmG anG cdG ctG), slG⟩)
    (cG : PySem.W.codeIn K cdG "RingRoad.__init__" = true)
    (kG : PySem.W.keepIn K (.ref fG) = true)
    (aNR : PySem.W.findIn K (.ref CNR) "__init__" = some (some (.ref fNR)))
    (lNR : K.lookup fNR = some ⟨ocNR, odNR, .func (PySem.W.fnOf "__init__" "NoRoad.__init__" (defArgs sNoRd) (defBody sNoRd) (defScope sNoRd) .none kVNR dcNR pmNR anNR cdNR ctNR), slNR⟩)
    (cNR : PySem.W.codeIn K cdNR "NoRoad.__init__" = true)
    (kNR : PySem.W.keepIn K (.ref fNR) = true)
    (aOR : PySem.W.findIn K (.ref COR) "__init__" = some (some (.ref fOR)))
    (lOR : K.lookup fOR = some ⟨ocOR, odOR, .func (PySem.W.fnOf "__init__" "OffRoad.__init__" (defArgs sOff) (defBody sOff) (defScope sOff) .none kVOR dcOR pmOR anOR cdOR ctOR), slOR⟩)
    (cOR : PySem.W.codeIn K cdOR "OffRoad.__init__" = true)
    (kOR : PySem.W.keepIn K (.ref fOR) = true)
    (aNW : PySem.W.findIn K (.ref CNW) "__init__" = some (some (.ref fNW)))
    (lNW : K.lookup fNW = some ⟨ocNW, odNW, .func (PySem.W.fnOf "__init__" "NotWhole.__init__" (defArgs sNotW) (defBody sNotW) (defScope sNotW) .none kVNW dcNW pmNW anNW cdNW ctNW), slNW⟩)
    (cNW : PySem.W.codeIn K cdNW "NotWhole.__init__" = true)
    (kNW : PySem.W.keepIn K (.ref fNW) = true)
    (aR : PySem.W.findIn K (.ref CR) "__init__" = some (some (.ref fR)))
    (lR : K.lookup fR = some ⟨ocR, odR, .func (PySem.W.fnOf "__init__" "Road.__init__" (defArgs sRoadI) (defBody sRoadI) (defScope sRoadI) .none kVR dcR pmR anR cdR ctR), slR⟩)
    (cR : PySem.W.codeIn K cdR "Road.__init__" = true)
    (kR : PySem.W.keepIn K (.ref fR) = true)
    (aT : PySem.W.findIn K (.ref CT) "__init__" = some (some (.ref fT)))
    (lT : K.lookup fT = some ⟨ocT, odT, .func (PySem.W.fnOf "__init__" "Tree.__init__" (defArgs sTreeI) (defBody sTreeI) (defScope sTreeI) .none kVT dcT pmT anT cdT ctT), slT⟩)
    (cT : PySem.W.codeIn K cdT "Tree.__init__" = true)
    (kT : PySem.W.keepIn K (.ref fT) = true)
    (aPl : PySem.W.findIn K (.ref CP) "__init__" = some (some (.ref fPl)))
    (lPl : K.lookup fPl = some ⟨ocPl, odPl, .func (PySem.W.fnOf "__init__" "Place.__init__" (defArgs sPlaceI) (defBody sPlaceI) (defScope sPlaceI) .none kVPl dcPl pmPl anPl cdPl ctPl), slPl⟩)
    (cPl : PySem.W.codeIn K cdPl "Place.__init__" = true)
    (kPl : PySem.W.keepIn K (.ref fPl) = true)
    (aMa : PySem.W.findIn K (.ref CM) "__init__" = some (some (.ref fMa)))
    (lMa : K.lookup fMa = some ⟨ocMa, odMa, .func (PySem.W.fnOf "__init__" "March.__init__" (defArgs sMarchI) (defBody sMarchI) (defScope sMarchI) .none kVMa dcMa pmMa anMa cdMa ctMa), slMa⟩)
    (cMa : PySem.W.codeIn K cdMa "March.__init__" = true)
    (kMa : PySem.W.keepIn K (.ref fMa) = true)
    (aRw : PySem.W.findIn K (.ref CW) "__init__" = some (some (.ref fRw)))
    (lRw : K.lookup fRw = some ⟨ocRw, odRw, .func (PySem.W.fnOf "__init__" "Row.__init__" (defArgs sRowI) (defBody sRowI) (defScope sRowI) .none kVRw dcRw pmRw anRw cdRw ctRw), slRw⟩)
    (cRw : PySem.W.codeIn K cdRw "Row.__init__" = true)
    (kRw : PySem.W.keepIn K (.ref fRw) = true)
    (aRE : PySem.W.findIn K (.ref CR) "__eq__" = some (some (.ref fRE)))
    (lRE : K.lookup fRE = some ⟨ocRE, odRE, .func (PySem.W.fnOf "__eq__" "Road.__eq__" (defArgs sRoadE) (defBody sRoadE) (defScope sRoadE) .none kVRE dcRE pmRE anRE cdRE ctRE), slRE⟩)
    (cRE : PySem.W.codeIn K cdRE "Road.__eq__" = true)
    (kRE : PySem.W.keepIn K (.ref fRE) = true)
    (aTE : PySem.W.findIn K (.ref CT) "__eq__" = some (some (.ref fTE)))
    (lTE : K.lookup fTE = some ⟨ocTE, odTE, .func (PySem.W.fnOf "__eq__" "Tree.__eq__" (defArgs sTreeE) (defBody sTreeE) (defScope sTreeE) .none kVTE dcTE pmTE anTE cdTE ctTE), slTE⟩)
    (cTE : PySem.W.codeIn K cdTE "Tree.__eq__" = true)
    (kTE : PySem.W.keepIn K (.ref fTE) = true)
    (aPE : PySem.W.findIn K (.ref CP) "__eq__" = some (some (.ref fPE)))
    (lPE : K.lookup fPE = some ⟨ocPE, odPE, .func (PySem.W.fnOf "__eq__" "Place.__eq__" (defArgs sPlaceE) (defBody sPlaceE) (defScope sPlaceE) .none kVPE dcPE pmPE anPE cdPE ctPE), slPE⟩)
    (cPE : PySem.W.codeIn K cdPE "Place.__eq__" = true)
    (kPE : PySem.W.keepIn K (.ref fPE) = true)
    (aME : PySem.W.findIn K (.ref CM) "__eq__" = some (some (.ref fME)))
    (lME : K.lookup fME = some ⟨ocME, odME, .func (PySem.W.fnOf "__eq__" "March.__eq__" (defArgs sMarchE) (defBody sMarchE) (defScope sMarchE) .none kVME dcME pmME anME cdME ctME), slME⟩)
    (cME : PySem.W.codeIn K cdME "March.__eq__" = true)
    (kME : PySem.W.keepIn K (.ref fME) = true)
    (aWE : PySem.W.findIn K (.ref CW) "__eq__" = some (some (.ref fWE)))
    (lWE : K.lookup fWE = some ⟨ocWE, odWE, .func (PySem.W.fnOf "__eq__" "Row.__eq__" (defArgs sRowE) (defBody sRowE) (defScope sRowE) .none kVWE dcWE pmWE anWE cdWE ctWE), slWE⟩)
    (cWE : PySem.W.codeIn K cdWE "Row.__eq__" = true)
    (kWE : PySem.W.keepIn K (.ref fWE) = true)
    (aZI : PySem.W.findIn K (.ref CS) "__init__" = some (some (.ref fZI)))
    (lZI : K.lookup fZI = some ⟨ocZI, odZI, .func (PySem.W.fnOf "__init__" "Stretch.__init__" (defArgs sStretchI) (defBody sStretchI) (defScope sStretchI) .none kVZI dcZI pmZI anZI cdZI ctZI), slZI⟩)
    (cZI : PySem.W.codeIn K cdZI "Stretch.__init__" = true)
    (kZI : PySem.W.keepIn K (.ref fZI) = true)
    (aZW : PySem.W.findIn K (.ref CWd) "__init__" = some (some (.ref fZW)))
    (lZW : K.lookup fZW = some ⟨ocZW, odZW, .func (PySem.W.fnOf "__init__" "Wide.__init__" (defArgs sWideI) (defBody sWideI) (defScope sWideI) .none kVZW dcZW pmZW anZW cdZW ctZW), slZW⟩)
    (cZW : PySem.W.codeIn K cdZW "Wide.__init__" = true)
    (kZW : PySem.W.keepIn K (.ref fZW) = true)
    (isfR : PySem.W.isFn K (.ref fR) = true)
    (pgCR : PySem.W.plainGet K CR Str.empty = true)
    (hdCR : PySem.W.hasDictIn K CR = true)
    (poCR : PySem.W.plainOver K CR = true)
    (saCR : PySem.W.findIn K (.ref CR) "__setattr__" = some (some (.builtin "object.__setattr__")))
    (mkCR : PySem.W.makesIn K CR = true)
    (kcCR : PySem.W.keepIn K (.ref CR) = true)
    (nCR0 : PySem.W.findIn K (.ref CR) "a" = some none)
    (nCR1 : PySem.W.findIn K (.ref CR) "b" = some none)
    (nCR2 : PySem.W.findIn K (.ref CR) "length" = some none)
    (hcCR : PySem.W.findIn K (.ref CR) "__class__" = some (some (.builtin "object.__class__")))
    (moCR : PySem.W.mroIn K CR (.type "object") = some true)
    (isfRE : PySem.W.isFn K (.ref fRE) = true)
    (neCR : PySem.W.findIn K (.ref CR) "__ne__" = some (some (.builtin "object.__ne__")))
    (kiCR0 : PySem.W.kitOne K (.type "NoneType") (.ref CR) = some false)
    (sfCR0 : PySem.W.subIn K (.type "NoneType") (.ref CR) = some false)
    (stCR0 : PySem.W.subIn K (.ref CR) (.type "NoneType") = some false)
    (kiCR1 : PySem.W.kitOne K (.type "tuple") (.ref CR) = some false)
    (sfCR1 : PySem.W.subIn K (.type "tuple") (.ref CR) = some false)
    (stCR1 : PySem.W.subIn K (.ref CR) (.type "tuple") = some false)
    (kiCR2 : PySem.W.kitOne K (.type "list") (.ref CR) = some false)
    (sfCR2 : PySem.W.subIn K (.type "list") (.ref CR) = some false)
    (stCR2 : PySem.W.subIn K (.ref CR) (.type "list") = some false)
    (isfT : PySem.W.isFn K (.ref fT) = true)
    (pgCT : PySem.W.plainGet K CT Str.empty = true)
    (hdCT : PySem.W.hasDictIn K CT = true)
    (poCT : PySem.W.plainOver K CT = true)
    (saCT : PySem.W.findIn K (.ref CT) "__setattr__" = some (some (.builtin "object.__setattr__")))
    (mkCT : PySem.W.makesIn K CT = true)
    (kcCT : PySem.W.keepIn K (.ref CT) = true)
    (nCT0 : PySem.W.findIn K (.ref CT) "crossings" = some none)
    (nCT1 : PySem.W.findIn K (.ref CT) "roads" = some none)
    (nCT2 : PySem.W.findIn K (.ref CT) "trails" = some none)
    (hcCT : PySem.W.findIn K (.ref CT) "__class__" = some (some (.builtin "object.__class__")))
    (moCT : PySem.W.mroIn K CT (.type "object") = some true)
    (isfTE : PySem.W.isFn K (.ref fTE) = true)
    (neCT : PySem.W.findIn K (.ref CT) "__ne__" = some (some (.builtin "object.__ne__")))
    (kiCT0 : PySem.W.kitOne K (.type "NoneType") (.ref CT) = some false)
    (sfCT0 : PySem.W.subIn K (.type "NoneType") (.ref CT) = some false)
    (stCT0 : PySem.W.subIn K (.ref CT) (.type "NoneType") = some false)
    (kiCT1 : PySem.W.kitOne K (.type "tuple") (.ref CT) = some false)
    (sfCT1 : PySem.W.subIn K (.type "tuple") (.ref CT) = some false)
    (stCT1 : PySem.W.subIn K (.ref CT) (.type "tuple") = some false)
    (kiCT2 : PySem.W.kitOne K (.type "list") (.ref CT) = some false)
    (sfCT2 : PySem.W.subIn K (.type "list") (.ref CT) = some false)
    (stCT2 : PySem.W.subIn K (.ref CT) (.type "list") = some false)
    (isfPl : PySem.W.isFn K (.ref fPl) = true)
    (pgCP : PySem.W.plainGet K CP Str.empty = true)
    (hdCP : PySem.W.hasDictIn K CP = true)
    (poCP : PySem.W.plainOver K CP = true)
    (saCP : PySem.W.findIn K (.ref CP) "__setattr__" = some (some (.builtin "object.__setattr__")))
    (mkCP : PySem.W.makesIn K CP = true)
    (kcCP : PySem.W.keepIn K (.ref CP) = true)
    (nCP0 : PySem.W.findIn K (.ref CP) "road" = some none)
    (nCP1 : PySem.W.findIn K (.ref CP) "number" = some none)
    (nCP2 : PySem.W.findIn K (.ref CP) "parts" = some none)
    (hcCP : PySem.W.findIn K (.ref CP) "__class__" = some (some (.builtin "object.__class__")))
    (moCP : PySem.W.mroIn K CP (.type "object") = some true)
    (isfPE : PySem.W.isFn K (.ref fPE) = true)
    (neCP : PySem.W.findIn K (.ref CP) "__ne__" = some (some (.builtin "object.__ne__")))
    (kiCP0 : PySem.W.kitOne K (.type "NoneType") (.ref CP) = some false)
    (sfCP0 : PySem.W.subIn K (.type "NoneType") (.ref CP) = some false)
    (stCP0 : PySem.W.subIn K (.ref CP) (.type "NoneType") = some false)
    (kiCP1 : PySem.W.kitOne K (.type "tuple") (.ref CP) = some false)
    (sfCP1 : PySem.W.subIn K (.type "tuple") (.ref CP) = some false)
    (stCP1 : PySem.W.subIn K (.ref CP) (.type "tuple") = some false)
    (kiCP2 : PySem.W.kitOne K (.type "list") (.ref CP) = some false)
    (sfCP2 : PySem.W.subIn K (.type "list") (.ref CP) = some false)
    (stCP2 : PySem.W.subIn K (.ref CP) (.type "list") = some false)
    (isfMa : PySem.W.isFn K (.ref fMa) = true)
    (pgCM : PySem.W.plainGet K CM Str.empty = true)
    (hdCM : PySem.W.hasDictIn K CM = true)
    (poCM : PySem.W.plainOver K CM = true)
    (saCM : PySem.W.findIn K (.ref CM) "__setattr__" = some (some (.builtin "object.__setattr__")))
    (mkCM : PySem.W.makesIn K CM = true)
    (kcCM : PySem.W.keepIn K (.ref CM) = true)
    (nCM0 : PySem.W.findIn K (.ref CM) "goal" = some none)
    (nCM1 : PySem.W.findIn K (.ref CM) "steps" = some none)
    (hcCM : PySem.W.findIn K (.ref CM) "__class__" = some (some (.builtin "object.__class__")))
    (moCM : PySem.W.mroIn K CM (.type "object") = some true)
    (isfME : PySem.W.isFn K (.ref fME) = true)
    (neCM : PySem.W.findIn K (.ref CM) "__ne__" = some (some (.builtin "object.__ne__")))
    (kiCM0 : PySem.W.kitOne K (.type "NoneType") (.ref CM) = some false)
    (sfCM0 : PySem.W.subIn K (.type "NoneType") (.ref CM) = some false)
    (stCM0 : PySem.W.subIn K (.ref CM) (.type "NoneType") = some false)
    (kiCM1 : PySem.W.kitOne K (.type "tuple") (.ref CM) = some false)
    (sfCM1 : PySem.W.subIn K (.type "tuple") (.ref CM) = some false)
    (stCM1 : PySem.W.subIn K (.ref CM) (.type "tuple") = some false)
    (kiCM2 : PySem.W.kitOne K (.type "list") (.ref CM) = some false)
    (sfCM2 : PySem.W.subIn K (.type "list") (.ref CM) = some false)
    (stCM2 : PySem.W.subIn K (.ref CM) (.type "list") = some false)
    (isfRw : PySem.W.isFn K (.ref fRw) = true)
    (pgCW : PySem.W.plainGet K CW Str.empty = true)
    (hdCW : PySem.W.hasDictIn K CW = true)
    (poCW : PySem.W.plainOver K CW = true)
    (saCW : PySem.W.findIn K (.ref CW) "__setattr__" = some (some (.builtin "object.__setattr__")))
    (mkCW : PySem.W.makesIn K CW = true)
    (kcCW : PySem.W.keepIn K (.ref CW) = true)
    (nCW0 : PySem.W.findIn K (.ref CW) "tree" = some none)
    (nCW1 : PySem.W.findIn K (.ref CW) "marches" = some none)
    (hcCW : PySem.W.findIn K (.ref CW) "__class__" = some (some (.builtin "object.__class__")))
    (moCW : PySem.W.mroIn K CW (.type "object") = some true)
    (isfWE : PySem.W.isFn K (.ref fWE) = true)
    (neCW : PySem.W.findIn K (.ref CW) "__ne__" = some (some (.builtin "object.__ne__")))
    (kiCW0 : PySem.W.kitOne K (.type "NoneType") (.ref CW) = some false)
    (sfCW0 : PySem.W.subIn K (.type "NoneType") (.ref CW) = some false)
    (stCW0 : PySem.W.subIn K (.ref CW) (.type "NoneType") = some false)
    (kiCW1 : PySem.W.kitOne K (.type "tuple") (.ref CW) = some false)
    (sfCW1 : PySem.W.subIn K (.type "tuple") (.ref CW) = some false)
    (stCW1 : PySem.W.subIn K (.ref CW) (.type "tuple") = some false)
    (kiCW2 : PySem.W.kitOne K (.type "list") (.ref CW) = some false)
    (sfCW2 : PySem.W.subIn K (.type "list") (.ref CW) = some false)
    (stCW2 : PySem.W.subIn K (.ref CW) (.type "list") = some false)
    (isfZI : PySem.W.isFn K (.ref fZI) = true)
    (pgCS : PySem.W.plainGet K CS Str.empty = true)
    (hdCS : PySem.W.hasDictIn K CS = true)
    (poCS : PySem.W.plainOver K CS = true)
    (saCS : PySem.W.findIn K (.ref CS) "__setattr__" = some (some (.builtin "object.__setattr__")))
    (mkCS : PySem.W.makesIn K CS = true)
    (kcCS : PySem.W.keepIn K (.ref CS) = true)
    (nCS0 : PySem.W.findIn K (.ref CS) "road" = some none)
    (nCS1 : PySem.W.findIn K (.ref CS) "least" = some none)
    (nCS2 : PySem.W.findIn K (.ref CS) "greatest" = some none)
    (nCS3 : PySem.W.findIn K (.ref CS) "first" = some none)
    (nCS4 : PySem.W.findIn K (.ref CS) "last" = some none)
    (nCB0 : PySem.W.findIn K (.ref CB) "what" = some none)
    (nCB1 : PySem.W.findIn K (.ref CB) "count" = some none)
    (xCB : K.lookup CB = some (excClassObj nmCB qCB CB NCB bsCB bmCB true snCB subCB abCB colCB ddCB m0CB m1CB m2CB m3CB m5CB "ValueError.__new__"))
    (rCB : PySem.HandSPX.refsVE bmCB = true)
    (saCB : PySem.W.findIn K (.ref CB) "__setattr__" = some (some (.builtin "object.__setattr__")))
    (eCB : PySem.W.subIn K (.ref CB) (.type "BaseException") = some true)
    (tCB : PySem.W.typeIn K (.ref CB) = some (.type "type"))
    (kcCB : PySem.W.keepIn K (.ref CB) = true)
    (gaCB : PySem.W.findIn K (.ref CB) "__getattribute__" = some (some (.builtin "BaseException.__getattribute__")))
    (ggCB : PySem.W.findIn K (.ref CB) "__getattr__" = some none)
    (hdCB : PySem.W.hasDictIn K CB = true)
    (hcCB : PySem.W.findIn K (.ref CB) "__class__" = some (some (.builtin "object.__class__")))
    (moCB : PySem.W.mroIn K CB (.type "object") = some true)
    (tiCB : PySem.W.typeIn K (.ref fB) = some (.type "function"))
    (nCN0 : PySem.W.findIn K (.ref CN) "crossing" = some none)
    (xCN : K.lookup CN = some (excClassObj nmCN qCN CN NCN bsCN bmCN true snCN subCN abCN colCN ddCN m0CN m1CN m2CN m3CN m5CN "ValueError.__new__"))
    (rCN : PySem.HandSPX.refsVE bmCN = true)
    (saCN : PySem.W.findIn K (.ref CN) "__setattr__" = some (some (.builtin "object.__setattr__")))
    (eCN : PySem.W.subIn K (.ref CN) (.type "BaseException") = some true)
    (tCN : PySem.W.typeIn K (.ref CN) = some (.type "type"))
    (kcCN : PySem.W.keepIn K (.ref CN) = true)
    (gaCN : PySem.W.findIn K (.ref CN) "__getattribute__" = some (some (.builtin "BaseException.__getattribute__")))
    (ggCN : PySem.W.findIn K (.ref CN) "__getattr__" = some none)
    (hdCN : PySem.W.hasDictIn K CN = true)
    (hcCN : PySem.W.findIn K (.ref CN) "__class__" = some (some (.builtin "object.__class__")))
    (moCN : PySem.W.mroIn K CN (.type "object") = some true)
    (tiCN : PySem.W.typeIn K (.ref fN) = some (.type "function"))
    (nCG0 : PySem.W.findIn K (.ref CG) "road" = some none)
    (xCG : K.lookup CG = some (excClassObj nmCG qCG CG NCG bsCG bmCG true snCG subCG abCG colCG ddCG m0CG m1CG m2CG m3CG m5CG "ValueError.__new__"))
    (rCG : PySem.HandSPX.refsVE bmCG = true)
    (saCG : PySem.W.findIn K (.ref CG) "__setattr__" = some (some (.builtin "object.__setattr__")))
    (eCG : PySem.W.subIn K (.ref CG) (.type "BaseException") = some true)
    (tCG : PySem.W.typeIn K (.ref CG) = some (.type "type"))
    (kcCG : PySem.W.keepIn K (.ref CG) = true)
    (gaCG : PySem.W.findIn K (.ref CG) "__getattribute__" = some (some (.builtin "BaseException.__getattribute__")))
    (ggCG : PySem.W.findIn K (.ref CG) "__getattr__" = some none)
    (hdCG : PySem.W.hasDictIn K CG = true)
    (hcCG : PySem.W.findIn K (.ref CG) "__class__" = some (some (.builtin "object.__class__")))
    (moCG : PySem.W.mroIn K CG (.type "object") = some true)
    (tiCG : PySem.W.typeIn K (.ref fG) = some (.type "function"))
    (nCNR0 : PySem.W.findIn K (.ref CNR) "road" = some none)
    (xCNR : K.lookup CNR = some (excClassObj nmCNR qCNR CNR NCNR bsCNR bmCNR true snCNR subCNR abCNR colCNR ddCNR m0CNR m1CNR m2CNR m3CNR m5CNR "ValueError.__new__"))
    (rCNR : PySem.HandSPX.refsVE bmCNR = true)
    (saCNR : PySem.W.findIn K (.ref CNR) "__setattr__" = some (some (.builtin "object.__setattr__")))
    (eCNR : PySem.W.subIn K (.ref CNR) (.type "BaseException") = some true)
    (tCNR : PySem.W.typeIn K (.ref CNR) = some (.type "type"))
    (kcCNR : PySem.W.keepIn K (.ref CNR) = true)
    (gaCNR : PySem.W.findIn K (.ref CNR) "__getattribute__" = some (some (.builtin "BaseException.__getattribute__")))
    (ggCNR : PySem.W.findIn K (.ref CNR) "__getattr__" = some none)
    (hdCNR : PySem.W.hasDictIn K CNR = true)
    (hcCNR : PySem.W.findIn K (.ref CNR) "__class__" = some (some (.builtin "object.__class__")))
    (moCNR : PySem.W.mroIn K CNR (.type "object") = some true)
    (tiCNR : PySem.W.typeIn K (.ref fNR) = some (.type "function"))
    (nCOR0 : PySem.W.findIn K (.ref COR) "road" = some none)
    (xCOR : K.lookup COR = some (excClassObj nmCOR qCOR COR NCOR bsCOR bmCOR true snCOR subCOR abCOR colCOR ddCOR m0COR m1COR m2COR m3COR m5COR "ValueError.__new__"))
    (rCOR : PySem.HandSPX.refsVE bmCOR = true)
    (saCOR : PySem.W.findIn K (.ref COR) "__setattr__" = some (some (.builtin "object.__setattr__")))
    (eCOR : PySem.W.subIn K (.ref COR) (.type "BaseException") = some true)
    (tCOR : PySem.W.typeIn K (.ref COR) = some (.type "type"))
    (kcCOR : PySem.W.keepIn K (.ref COR) = true)
    (gaCOR : PySem.W.findIn K (.ref COR) "__getattribute__" = some (some (.builtin "BaseException.__getattribute__")))
    (ggCOR : PySem.W.findIn K (.ref COR) "__getattr__" = some none)
    (hdCOR : PySem.W.hasDictIn K COR = true)
    (hcCOR : PySem.W.findIn K (.ref COR) "__class__" = some (some (.builtin "object.__class__")))
    (moCOR : PySem.W.mroIn K COR (.type "object") = some true)
    (tiCOR : PySem.W.typeIn K (.ref fOR) = some (.type "function"))
    (nCNW0 : PySem.W.findIn K (.ref CNW) "march" = some none)
    (xCNW : K.lookup CNW = some (excClassObj nmCNW qCNW CNW NCNW bsCNW bmCNW true snCNW subCNW abCNW colCNW ddCNW m0CNW m1CNW m2CNW m3CNW m5CNW "ValueError.__new__"))
    (rCNW : PySem.HandSPX.refsVE bmCNW = true)
    (saCNW : PySem.W.findIn K (.ref CNW) "__setattr__" = some (some (.builtin "object.__setattr__")))
    (eCNW : PySem.W.subIn K (.ref CNW) (.type "BaseException") = some true)
    (tCNW : PySem.W.typeIn K (.ref CNW) = some (.type "type"))
    (kcCNW : PySem.W.keepIn K (.ref CNW) = true)
    (gaCNW : PySem.W.findIn K (.ref CNW) "__getattribute__" = some (some (.builtin "BaseException.__getattribute__")))
    (ggCNW : PySem.W.findIn K (.ref CNW) "__getattr__" = some none)
    (hdCNW : PySem.W.hasDictIn K CNW = true)
    (hcCNW : PySem.W.findIn K (.ref CNW) "__class__" = some (some (.builtin "object.__class__")))
    (moCNW : PySem.W.mroIn K CNW (.type "object") = some true)
    (tiCNW : PySem.W.typeIn K (.ref fNW) = some (.type "function"))
    (nCWd0 : PySem.W.findIn K (.ref CWd) "count" = some none)
    (xCWd : K.lookup CWd = some (excClassObj nmCWd qCWd CWd NCWd bsCWd bmCWd true snCWd subCWd abCWd colCWd ddCWd m0CWd m1CWd m2CWd m3CWd m5CWd "ValueError.__new__"))
    (rCWd : PySem.HandSPX.refsVE bmCWd = true)
    (saCWd : PySem.W.findIn K (.ref CWd) "__setattr__" = some (some (.builtin "object.__setattr__")))
    (eCWd : PySem.W.subIn K (.ref CWd) (.type "BaseException") = some true)
    (tCWd : PySem.W.typeIn K (.ref CWd) = some (.type "type"))
    (kcCWd : PySem.W.keepIn K (.ref CWd) = true)
    (gaCWd : PySem.W.findIn K (.ref CWd) "__getattribute__" = some (some (.builtin "BaseException.__getattribute__")))
    (ggCWd : PySem.W.findIn K (.ref CWd) "__getattr__" = some none)
    (hdCWd : PySem.W.hasDictIn K CWd = true)
    (hcCWd : PySem.W.findIn K (.ref CWd) "__class__" = some (some (.builtin "object.__class__")))
    (moCWd : PySem.W.mroIn K CWd (.type "object") = some true)
    (tiCWd : PySem.W.typeIn K (.ref fZW) = some (.type "function"))
    (g1 : PySem.W.specialIn K (.builtin "object.__class__") "__get__" = some (some (.builtin "getset_descriptor.__get__")))
    (g2 : PySem.W.takesIn K (.builtin "object.__class__") = some true)
    (z_abs : PySem.W.nsIn K mainGlobals "abs" = some none)
    (z_dict : PySem.W.nsIn K mainGlobals "dict" = some none)
    (z_enumerate : PySem.W.nsIn K mainGlobals "enumerate" = some none)
    (z_int : PySem.W.nsIn K mainGlobals "int" = some none)
    (z_isinstance : PySem.W.nsIn K mainGlobals "isinstance" = some none)
    (z_len : PySem.W.nsIn K mainGlobals "len" = some none)
    (z_list : PySem.W.nsIn K mainGlobals "list" = some none)
    (z_max : PySem.W.nsIn K mainGlobals "max" = some none)
    (z_min : PySem.W.nsIn K mainGlobals "min" = some none)
    (z_range : PySem.W.nsIn K mainGlobals "range" = some none)
    (z_sum : PySem.W.nsIn K mainGlobals "sum" = some none)
    (z_tuple : PySem.W.nsIn K mainGlobals "tuple" = some none)
    (z_zip : PySem.W.nsIn K mainGlobals "zip" = some none)
    (v0 : PySem.W.nsIn K mainGlobals "LEAST_CROSSINGS" = some (some (.int 2 tg0)))
    (v1 : PySem.W.nsIn K mainGlobals "MOST_CROSSINGS" = some (some (.int 24 tg1)))
    (v2 : PySem.W.nsIn K mainGlobals "MOST_MARCHES" = some (some (.int 24 tg2)))
    (v3 : PySem.W.nsIn K mainGlobals "MOST_ROUNDS" = some (some (.int 1000 tg3)))
    (v4 : PySem.W.nsIn K mainGlobals "MOST_STRETCHES" = some (some (.int 400 tg4)))
    (gcdB : PySem.W.nsIn K mainGlobals "gcd" = some (some (.builtin "math.gcd")))
    (lcmB : PySem.W.nsIn K mainGlobals "lcm" = some (some (.builtin "math.lcm")))
    (hL0 : ∃ t, mg "LONGEST_ROAD" = some (.int 1000000000 t))
    (hL1 : ∃ t, mg "MOST_STEPS" = some (.int 1000000000 t))
    : ∃ fd : FuncData, (∀ (s : Shared) (v : Value), BindsTo s fd ⟨[v], []⟩ [("_law_script", v)]) ∧ ∀ base : Heap, K.In base → base.Ns mainGlobals mg → FnOk P w K mg base CX0 12 fa fd ["_law_script"] (spLaw K) := by
  have e := hfa.symm.trans (PySem.W.mg_of X G aL)
  cases e
  have FC := fun_mk (st := sCheck) lC cC kC
  have FI := fun_mk (st := sJoin) lI cI kI
  have FA := fun_mk (st := sTrails) lA cA kA
  have FCK := fun_mk (st := sCheckPl) lCK cCK kCK
  have FCH := fun_mk (st := sCheckMa) lCH cCH kCH
  have FEA := fun_mk (st := sEndAt) lEA cEA kEA
  have FEB := fun_mk (st := sEndBeyond) lEB cEB kEB
  have FCO := fun_mk (st := sCorner) lCO cCO kCO
  have FKY := fun_mk (st := sKey) lKY cKY kKY
  have FKD := fun_mk (st := sKeyed) lKD cKD kKD
  have FLG := fun_mk (st := sLegs) lLG cLG kLG
  have FDI := fun_mk (st := sDist) lDI cDI kDI
  have FST := fun_mk (st := sStep) lST cST kST
  have FAF := fun_mk (st := sAfter) lAF cAF kAF
  have FZG := fun_mk (st := sGathered) lZG cZG kZG
  have FZB := fun_mk (st := sStepsB) lZB cZB kZB
  have FZK := fun_mk (st := sMarksOf) lZK cZK kZK
  have FZM := fun_mk (st := sMarched) lZM cZM kZM
  have FZO := fun_mk (st := sIsOne) lZO cZO kZO
  have FZJ := fun_mk (st := sJoinedP) lZJ cZJ kZJ
  have FZA := fun_mk (st := sStretchesA) lZA cZA kZA
  have FZD := fun_mk (st := sDoing) lZD cZD kZD
  have FXS := fun_mk (st := sState) lXS cXS kXS
  have FXD := fun_mk (st := sDigit) lXD cXD kXD
  have FXT := fun_mk (st := sTreeN) lXT cXT kXT
  have FXK := fun_mk (st := sKeyN) lXK cXK kXK
  have FXN := fun_mk (st := sNear) lXN cXN kXN
  have FXW := fun_mk (st := sWaysN) lXW cXW kXW
  have FXP := fun_mk (st := sPlacesN) lXP cXP kXP
  have FXB := fun_mk (st := sTable) lXB cXB kXB
  have FXM := fun_mk (st := sMarchesN) lXM cXM kXM
  have FXR := fun_mk (st := sRowN) lXR cXR kXR
  have FXA := fun_mk (st := sNameN) lXA cXA kXA
  have FXV := fun_mk (st := sStretchesN) lXV cXV kXV
  have FXO := fun_mk (st := sTold) lXO cXO kXO
  have FL := fun_mk (st := sLaw) lL cL kL
  have FB := fun_mk (st := sBad) lB cB kB
  have FN := fun_mk (st := sNoC) lN cN kN
  have FG := fun_mk (st := sRing) lG cG kG
  have FNR := fun_mk (st := sNoRd) lNR cNR kNR
  have FOR := fun_mk (st := sOff) lOR cOR kOR
  have FNW := fun_mk (st := sNotW) lNW cNW kNW
  have FR := fun_mk (st := sRoadI) lR cR kR
  have FT := fun_mk (st := sTreeI) lT cT kT
  have FPl := fun_mk (st := sPlaceI) lPl cPl kPl
  have FMa := fun_mk (st := sMarchI) lMa cMa kMa
  have FRw := fun_mk (st := sRowI) lRw cRw kRw
  have FRE := fun_mk (st := sRoadE) lRE cRE kRE
  have FTE := fun_mk (st := sTreeE) lTE cTE kTE
  have FPE := fun_mk (st := sPlaceE) lPE cPE kPE
  have FME := fun_mk (st := sMarchE) lME cME kME
  have FWE := fun_mk (st := sRowE) lWE cWE kWE
  have FZI := fun_mk (st := sStretchI) lZI cZI kZI
  have FZW := fun_mk (st := sWideI) lZW cZW kZW
  have bC := FC.binds (ps := ["crossings", "road"]) fun _ _ _ _ _ _ us hl => match us, hl with | [_, _], _ => rfl
  have bI := FI.binds (ps := ["trails", "crossings", "number", "road"]) fun _ _ _ _ _ _ us hl => match us, hl with | [_, _, _, _], _ => rfl
  have bA := FA.binds (ps := ["crossings", "roads"]) fun _ _ _ _ _ _ us hl => match us, hl with | [_, _], _ => rfl
  have bCK := FCK.binds (ps := ["tree", "place"]) fun _ _ _ _ _ _ us hl => match us, hl with | [_, _], _ => rfl
  have bCH := FCH.binds (ps := ["tree", "number", "march"]) fun _ _ _ _ _ _ us hl => match us, hl with | [_, _, _], _ => rfl
  have bEA := FEA.binds (ps := ["road", "crossing"]) fun _ _ _ _ _ _ us hl => match us, hl with | [_, _], _ => rfl
  have bEB := FEB.binds (ps := ["road", "crossing"]) fun _ _ _ _ _ _ us hl => match us, hl with | [_, _], _ => rfl
  have bCO := FCO.binds (ps := ["tree", "crossing"]) fun _ _ _ _ _ _ us hl => match us, hl with | [_, _], _ => rfl
  have bKY := FKY.binds (ps := ["tree", "place"]) fun _ _ _ _ _ _ us hl => match us, hl with | [_, _], _ => rfl
  have bKD := FKD.binds (ps := ["row"]) fun _ _ _ _ _ _ us hl => match us, hl with | [_], _ => rfl
  have bLG := FLG.binds (ps := ["tree", "one", "other", "parts"]) fun _ _ _ _ _ _ us hl => match us, hl with | [_, _, _, _], _ => rfl
  have bDI := FDI.binds (ps := ["tree", "one", "other"]) fun _ _ _ _ _ _ us hl => match us, hl with | [_, _, _], _ => rfl
  have bST := FST.binds (ps := ["tree", "place", "goal", "steps"]) fun _ _ _ _ _ _ us hl => match us, hl with | [_, _, _, _], _ => rfl
  have bZG := FZG.binds (ps := ["stretch"]) fun _ _ _ _ _ _ us hl => match us, hl with | [_], _ => rfl
  have bZB := FZB.binds (ps := ["tree", "one", "other"]) fun _ _ _ _ _ _ us hl => match us, hl with | [_, _, _], _ => rfl
  have bZK := FZK.binds (ps := ["tree", "stretch", "march"]) fun _ _ _ _ _ _ us hl => match us, hl with | [_, _, _], _ => rfl
  have bZM := FZM.binds (ps := ["tree", "stretch", "march"]) fun _ _ _ _ _ _ us hl => match us, hl with | [_, _, _], _ => rfl
  have bZO := FZO.binds (ps := ["tree", "one", "other"]) fun _ _ _ _ _ _ us hl => match us, hl with | [_, _, _], _ => rfl
  have bZJ := FZJ.binds (ps := ["tree", "stretches"]) fun _ _ _ _ _ _ us hl => match us, hl with | [_, _], _ => rfl
  have bZA := FZA.binds (ps := ["tree", "marches"]) fun _ _ _ _ _ _ us hl => match us, hl with | [_, _], _ => rfl
  have bZD := FZD.binds (ps := ["row"]) fun _ _ _ _ _ _ us hl => match us, hl with | [_], _ => rfl
  have bXS := FXS.binds (ps := ["_law_source"]) fun _ _ _ _ _ _ us hl => match us, hl with | [_], _ => rfl
  have bXD := FXD.binds (ps := ["_law_state_here", "_law_base"]) fun _ _ _ _ _ _ us hl => match us, hl with | [_, _], _ => rfl
  have bXT := FXT.binds (ps := ["_law_s", "_law_crossings", "_law_most"]) fun _ _ _ _ _ _ us hl => match us, hl with | [_, _, _], _ => rfl
  have bXK := FXK.binds (ps := ["_law_roads", "_law_place"]) fun _ _ _ _ _ _ us hl => match us, hl with | [_, _], _ => rfl
  have bXN := FXN.binds (ps := ["_law_roads", "_law_place"]) fun _ _ _ _ _ _ us hl => match us, hl with | [_, _], _ => rfl
  have bXW := FXW.binds (ps := ["_law_roads", "_law_goal"]) fun _ _ _ _ _ _ us hl => match us, hl with | [_, _], _ => rfl
  have bXP := FXP.binds (ps := ["_law_roads"]) fun _ _ _ _ _ _ us hl => match us, hl with | [_], _ => rfl
  have bXB := FXB.binds (ps := ["_law_roads", "_law_marches_here"]) fun _ _ _ _ _ _ us hl => match us, hl with | [_, _], _ => rfl
  have bXM := FXM.binds (ps := ["_law_s", "_law_roads", "_law_many", "_law_most"]) fun _ _ _ _ _ _ us hl => match us, hl with | [_, _, _, _], _ => rfl
  have bXR := FXR.binds (ps := ["_law_roads", "_law_marches_here"]) fun _ _ _ _ _ _ us hl => match us, hl with | [_, _], _ => rfl
  have bXA := FXA.binds (ps := ["_law_place"]) fun _ _ _ _ _ _ us hl => match us, hl with | [_], _ => rfl
  have bXV := FXV.binds (ps := ["_law_roads", "_law_table_here"]) fun _ _ _ _ _ _ us hl => match us, hl with | [_, _], _ => rfl
  have bXO := FXO.binds (ps := ["_law_stretches_here"]) fun _ _ _ _ _ _ us hl => match us, hl with | [_], _ => rfl
  have bB := FB.binds (ps := ["self", "what", "count"]) fun _ _ _ _ _ _ us hl => match us, hl with | [_, _, _], _ => rfl
  have bN := FN.binds (ps := ["self", "crossing"]) fun _ _ _ _ _ _ us hl => match us, hl with | [_, _], _ => rfl
  have bG := FG.binds (ps := ["self", "road"]) fun _ _ _ _ _ _ us hl => match us, hl with | [_, _], _ => rfl
  have bNR := FNR.binds (ps := ["self", "road"]) fun _ _ _ _ _ _ us hl => match us, hl with | [_, _], _ => rfl
  have bOR := FOR.binds (ps := ["self", "road"]) fun _ _ _ _ _ _ us hl => match us, hl with | [_, _], _ => rfl
  have bNW := FNW.binds (ps := ["self", "march"]) fun _ _ _ _ _ _ us hl => match us, hl with | [_, _], _ => rfl
  have bR := FR.binds (ps := ["self", "a", "b", "length"]) fun _ _ _ _ _ _ us hl => match us, hl with | [_, _, _, _], _ => rfl
  have bT := FT.binds (ps := ["self", "crossings", "roads"]) fun _ _ _ _ _ _ us hl => match us, hl with | [_, _, _], _ => rfl
  have bPl := FPl.binds (ps := ["self", "road", "number", "parts"]) fun _ _ _ _ _ _ us hl => match us, hl with | [_, _, _, _], _ => rfl
  have bMa := FMa.binds (ps := ["self", "goal", "steps"]) fun _ _ _ _ _ _ us hl => match us, hl with | [_, _, _], _ => rfl
  have bRw := FRw.binds (ps := ["self", "tree", "marches"]) fun _ _ _ _ _ _ us hl => match us, hl with | [_, _, _], _ => rfl
  have bRE := FRE.binds (ps := ["self", "other"]) fun _ _ _ _ _ _ us hl => match us, hl with | [_, _], _ => rfl
  have bTE := FTE.binds (ps := ["self", "other"]) fun _ _ _ _ _ _ us hl => match us, hl with | [_, _], _ => rfl
  have bPE := FPE.binds (ps := ["self", "other"]) fun _ _ _ _ _ _ us hl => match us, hl with | [_, _], _ => rfl
  have bME := FME.binds (ps := ["self", "other"]) fun _ _ _ _ _ _ us hl => match us, hl with | [_, _], _ => rfl
  have bWE := FWE.binds (ps := ["self", "other"]) fun _ _ _ _ _ _ us hl => match us, hl with | [_, _], _ => rfl
  have bZI := FZI.binds (ps := ["self", "road", "least", "greatest", "first", "last"]) fun _ _ _ _ _ _ us hl => match us, hl with | [_, _, _, _, _, _], _ => rfl
  have bZW := FZW.binds (ps := ["self", "count"]) fun _ _ _ _ _ _ us hl => match us, hl with | [_, _], _ => rfl
  have mg1 : ∀ {n : Str} {v : Value}, PySem.W.nsIn K mainGlobals n = some (some v) → mg n = some v := fun z => PySem.W.mg_of X G z
  have mg0 : ∀ {n : Str}, PySem.W.nsIn K mainGlobals n = some none → mg n = none := fun z => PySem.W.mg_none_of X G z
  have clCR : Cls K CR := ⟨pgCR, hdCR, poCR, saCR⟩
  have MCR : Mk K CR fR := ⟨mkCR, aR, isfR, kcCR⟩
  have QCR : QC K CR fRE := ⟨clCR, hcCR, g1, g2, moCR, aRE, isfRE, neCR, oth3 kiCR0 kiCR1 kiCR2, oth3 (nf_sub sfCR0) (nf_sub sfCR1) (nf_sub sfCR2), oth3 stCR0 stCR1 stCR2⟩
  have clCT : Cls K CT := ⟨pgCT, hdCT, poCT, saCT⟩
  have MCT : Mk K CT fT := ⟨mkCT, aT, isfT, kcCT⟩
  have QCT : QC K CT fTE := ⟨clCT, hcCT, g1, g2, moCT, aTE, isfTE, neCT, oth3 kiCT0 kiCT1 kiCT2, oth3 (nf_sub sfCT0) (nf_sub sfCT1) (nf_sub sfCT2), oth3 stCT0 stCT1 stCT2⟩
  have clCP : Cls K CP := ⟨pgCP, hdCP, poCP, saCP⟩
  have MCP : Mk K CP fPl := ⟨mkCP, aPl, isfPl, kcCP⟩
  have QCP : QC K CP fPE := ⟨clCP, hcCP, g1, g2, moCP, aPE, isfPE, neCP, oth3 kiCP0 kiCP1 kiCP2, oth3 (nf_sub sfCP0) (nf_sub sfCP1) (nf_sub sfCP2), oth3 stCP0 stCP1 stCP2⟩
  have clCM : Cls K CM := ⟨pgCM, hdCM, poCM, saCM⟩
  have MCM : Mk K CM fMa := ⟨mkCM, aMa, isfMa, kcCM⟩
  have QCM : QC K CM fME := ⟨clCM, hcCM, g1, g2, moCM, aME, isfME, neCM, oth3 kiCM0 kiCM1 kiCM2, oth3 (nf_sub sfCM0) (nf_sub sfCM1) (nf_sub sfCM2), oth3 stCM0 stCM1 stCM2⟩
  have clCW : Cls K CW := ⟨pgCW, hdCW, poCW, saCW⟩
  have MCW : Mk K CW fRw := ⟨mkCW, aRw, isfRw, kcCW⟩
  have QCW : QC K CW fWE := ⟨clCW, hcCW, g1, g2, moCW, aWE, isfWE, neCW, oth3 kiCW0 kiCW1 kiCW2, oth3 (nf_sub sfCW0) (nf_sub sfCW1) (nf_sub sfCW2), oth3 stCW0 stCW1 stCW2⟩
  have clCS : Cls K CS := ⟨pgCS, hdCS, poCS, saCS⟩
  have MCS : Mk K CS fZI := ⟨mkCS, aZI, isfZI, kcCS⟩
  have TCB : ErT K mg "BadCount" CB fB := ⟨mg1 mCB, ⟨⟨_, _, _, _, _, _, _, _, _, _, _, _, _, _, _, xCB, rCB⟩, saCB, eCB, tCB, kcCB⟩, ⟨gaCB, ggCB, eCB, hdCB⟩, ⟨gaCB, ggCB, eCB, hdCB, hcCB, g1, g2, moCB⟩, aB, tiCB⟩
  have TCN : ErT K mg "NoCrossing" CN fN := ⟨mg1 mCN, ⟨⟨_, _, _, _, _, _, _, _, _, _, _, _, _, _, _, xCN, rCN⟩, saCN, eCN, tCN, kcCN⟩, ⟨gaCN, ggCN, eCN, hdCN⟩, ⟨gaCN, ggCN, eCN, hdCN, hcCN, g1, g2, moCN⟩, aN, tiCN⟩
  have TCG : ErT K mg "RingRoad" CG fG := ⟨mg1 mCG, ⟨⟨_, _, _, _, _, _, _, _, _, _, _, _, _, _, _, xCG, rCG⟩, saCG, eCG, tCG, kcCG⟩, ⟨gaCG, ggCG, eCG, hdCG⟩, ⟨gaCG, ggCG, eCG, hdCG, hcCG, g1, g2, moCG⟩, aG, tiCG⟩
  have TCNR : ErT K mg "NoRoad" CNR fNR := ⟨mg1 mCNR, ⟨⟨_, _, _, _, _, _, _, _, _, _, _, _, _, _, _, xCNR, rCNR⟩, saCNR, eCNR, tCNR, kcCNR⟩, ⟨gaCNR, ggCNR, eCNR, hdCNR⟩, ⟨gaCNR, ggCNR, eCNR, hdCNR, hcCNR, g1, g2, moCNR⟩, aNR, tiCNR⟩
  have TCOR : ErT K mg "OffRoad" COR fOR := ⟨mg1 mCOR, ⟨⟨_, _, _, _, _, _, _, _, _, _, _, _, _, _, _, xCOR, rCOR⟩, saCOR, eCOR, tCOR, kcCOR⟩, ⟨gaCOR, ggCOR, eCOR, hdCOR⟩, ⟨gaCOR, ggCOR, eCOR, hdCOR, hcCOR, g1, g2, moCOR⟩, aOR, tiCOR⟩
  have TCNW : ErT K mg "NotWhole" CNW fNW := ⟨mg1 mCNW, ⟨⟨_, _, _, _, _, _, _, _, _, _, _, _, _, _, _, xCNW, rCNW⟩, saCNW, eCNW, tCNW, kcCNW⟩, ⟨gaCNW, ggCNW, eCNW, hdCNW⟩, ⟨gaCNW, ggCNW, eCNW, hdCNW, hcCNW, g1, g2, moCNW⟩, aNW, tiCNW⟩
  have TCWd : ErT K mg "Wide" CWd fZW := ⟨mg1 mCWd, ⟨⟨_, _, _, _, _, _, _, _, _, _, _, _, _, _, _, xCWd, rCWd⟩, saCWd, eCWd, tCWd, kcCWd⟩, ⟨gaCWd, ggCWd, eCWd, hdCWd⟩, ⟨gaCWd, ggCWd, eCWd, hdCWd, hcCWd, g1, g2, moCWd⟩, aZW, tiCWd⟩
  have TR : RdT K mg CR := ⟨clCR, nCR0, nCR1, nCR2, mg1 mCR⟩
  have TT : TeT K mg CT := ⟨clCT, nCT0, nCT1, nCT2, mg1 mCT⟩
  have TP : PlT K mg CP := ⟨clCP, nCP0, nCP1, nCP2, mg1 mCP⟩
  have TM : MaT K mg CM := ⟨clCM, nCM0, nCM1, mg1 mCM⟩
  have TW : RwT K mg CW := ⟨clCW, nCW0, nCW1, mg1 mCW⟩
  have TS : StT K mg CS := ⟨clCS, nCS0, nCS1, nCS2, nCS3, nCS4, mg1 mCS⟩
  have DA : FunD K "after" "after" (defArgs sAfter) (defBody sAfter) (defScope sAfter) [] [("rounds", V.int 1)] fAF _ := ⟨⟨_, _, _, _, _, _, _, _, _, _, rfl, lAF, cAF, .inl ⟨rfl, rfl⟩, .inr ⟨DAF, rfl, fun q hq => by rw [List.mem_singleton.mp hq]; exact ⟨_, kwAFrounds, ⟨tgAFrounds, rfl⟩⟩⟩⟩, kAF⟩
  obtain ⟨dsAF, rAF, bAF⟩ := DA.binds0 (ps := ["row", "place", "rounds"]) 2 (by simp) rfl fun _ _ _ _ _ _ us ks h1 h2 => match us, ks, h1, h2 with | [_, _], [_], _, _ => ⟨_, _, _, _, _, _, rfl, rfl, rfl⟩
  have kbAF : KBn K _ ["row", "place", "rounds"] 2 ["rounds"] (fun us ws => catK us ws) (fun vs zs => catK vs zs) := kb_of FAF catK catK_rel fun _ _ _ _ _ _ us ws h1 h2 => match us, ws, h1, h2 with | [_, _], [_], _, _ => rfl
  refine ⟨PySem.W.fnOf "law" "law" (defArgs sLaw) (defBody sLaw) (defScope sLaw) .none kVL dcL pmL anL cdL ctL, fun s v => .of_eq rfl, fun base _ _ => ?_⟩
  have OB : FnOk P w K mg base CX0 1 _ _ _ _ := ok_bad FB TCB.ox nCB0 nCB1
  have ON : FnOk P w K mg base CX0 1 _ _ _ _ := ok_noc FN TCN.ox nCN0
  have OG : FnOk P w K mg base CX0 1 _ _ _ _ := ok_ringI FG TCG.ox nCG0
  have ONR : FnOk P w K mg base CX0 1 _ _ _ _ := ok_noRd FNR TCNR.ox nCNR0
  have OOR : FnOk P w K mg base CX0 1 _ _ _ _ := ok_off FOR TCOR.ox nCOR0
  have ONW : FnOk P w K mg base CX0 1 _ _ _ _ := ok_notW FNW TCNW.ox nCNW0
  have OR_ : FnOk P w K mg base CX0 1 _ _ _ (spRoadI CR) := ok_roadI FR TR
  have OC : FnOk P w K mg base (L2.CX P w) 3 _ _ _ (spCheck CR CB CN) := ok_check FC TR TCB TCN OB bB ON bN hL0
  have OI : FnOk P w K mg base CX0 1 _ _ _ (spJoin K CR) := ok_join FI TR (mg0 z_range)
  have OA : FnOk P w K mg base (L2.CX P w) 4 _ _ _ (spTrails K CR CB CN CG) := ok_trails FA TR TCG OG bG OC bC (mg1 aC) kC OI bI (mg1 aI) kI (mg0 z_range) (mg0 z_enumerate)
  have OT : FnOk P w K mg base (L2.CX P w) 5 _ _ _ (spTreeI K CT CR CB CN CG) := ok_treeI FT TT TCB OB bB OA bA (mg1 aA) kA ⟨_, mg1 v0⟩ ⟨_, mg1 v1⟩ (mg0 z_len) (mg0 z_tuple)
  have OPl : FnOk P w K mg base (L2.CX P w) 3 _ _ _ (spPlaceI CP CB) := ok_placeI FPl TP TCB OB bB (mg1 gcdB)
  have OCK : FnOk P w K mg base (L2.CX P w) 3 _ _ _ (spCheckPl K CT CR CP CNR COR) := ok_checkPl FCK TT TR TP TCNR TCOR ONR bNR OOR bOR (mg0 z_len)
  have OMa : FnOk P w K mg base CX0 1 _ _ _ (spMarchI CM) := ok_marchI FMa TM
  have OCH : FnOk P w K mg base (L2.CX P w) 4 _ _ _ (spCheckMa K CT CR CM CP CB CNR COR CNW) := ok_checkMa FCH TM TP TCB TCNW OCK bCK (mg1 aCK) kCK OB bB ONW bNW hL1
  have ORw : FnOk P w K mg base (L2.CX P w) 5 _ _ _ (spRowI K CT CR CM CP CW CB CNR COR CNW) := ok_rowI FRw TW TCB OCH bCH (mg1 aCH) kCH OB bB ⟨_, mg1 v2⟩ (mg0 z_len) (mg0 z_enumerate) (mg0 z_tuple)
  have ORE : FnOk P w K mg base CX0 1 _ _ _ (spRoadE CR) := ok_roadE FRE TR QCR (mg0 z_isinstance)
  have OTE : FnOk P w K mg base CX0 3 _ _ _ (spTreeE K CT CR) := ok_treeE FTE TT QCT QCR ORE bRE (mg0 z_isinstance)
  have OPE : FnOk P w K mg base CX0 1 _ _ _ (spPlaceE CP) := ok_placeE FPE TP QCP (mg0 z_isinstance)
  have OME : FnOk P w K mg base CX0 2 _ _ _ (spMarchE CM CP) := ok_marchE FME TM QCM QCP OPE bPE (mg0 z_isinstance)
  have OEA : FnOk P w K mg base CX0 1 _ _ _ (spEndAt CR) := ok_endAt FEA TR
  have OEB : FnOk P w K mg base CX0 1 _ _ _ (spEndBy CR) := ok_endBy FEB TR
  have OCO : FnOk P w K mg base (L2.CX P w) 5 _ _ _ (spCorner K CT CR CP CN) := ok_corner FCO TT TR TP TCN ON bN OEA bEA (mg1 aEA) kEA MCP OPl bPl (mg0 z_min) (mg0 z_enumerate)
  have OKY : FnOk P w K mg base (L2.CX P w) 6 _ _ _ (spKey K CT CR CP CNR COR) := ok_key FKY TT TR TP OCK bCK (mg1 aCK) kCK OCO bCO (mg1 aCO) kCO
  have OKD : FnOk P w K mg base CX0 7 _ _ _ (spKeyed K CT CR CM CP CW) := ok_keyed FKD TW TM MCM OMa bMa OKY bKY (mg1 aKY) kKY
  have OWE : FnOk P w K mg base CX0 8 _ _ _ (spRowE K CT CR CM CP CW) := ok_rowE FWE TW QCW QCT QCM OTE bTE OME bME OKD bKD (mg1 aKD) kKD (mg0 z_isinstance)
  have OLG : FnOk P w K mg base CX0 2 _ _ _ (spLegs K CT CR CP) := ok_legs FLG TT TR TP OEA bEA (mg1 aEA) kEA OEB bEB (mg1 aEB) kEB
  have ODI : FnOk P w K mg base (L2.CX P w) 4 _ _ _ (spDist K CT CR CP CNR COR) := ok_dist FDI TP OCK bCK (mg1 aCK) kCK OLG bLG (mg1 aLG) kLG (mg1 lcmB) (mg1 gcdB) (mg0 z_sum) (mg0 z_abs)
  have OST : FnOk P w K mg base (L2.CX P w) 7 _ _ _ (spStep K CT CR CP CB CNR COR) := ok_step FST TP TCB OB bB OCK bCK (mg1 aCK) kCK OLG bLG (mg1 aLG) kLG OKY bKY (mg1 aKY) kKY MCP OPl bPl (mg1 lcmB) (mg0 z_abs)
  have OAF : FnOk P w K mg base (L2.CX P w) 8 _ _ _ (spAfter K CT CR CM CP CW CB CNR COR) := ok_after FAF TW TM TCB OB bB OKY bKY (mg1 aKY) kKY OST bST (mg1 aST) kST ⟨_, mg1 v3⟩ (mg0 z_range)
  have OZI : FnOk P w K mg base CX0 1 _ _ _ (spStretchI CS) := ok_stretchI FZI TS
  have OZW : FnOk P w K mg base CX0 1 _ _ _ _ := ok_wideI FZW TCWd.ox nCWd0
  have OZG : FnOk P w K mg base CX0 2 _ _ _ (spGath CS CP) := ok_gathered FZG TS QCP OPE bPE
  have OZB : FnOk P w K mg base CX0 5 _ _ _ (spStepsB K CT CR CP) := ok_stepsB FZB ODI bDI (mg1 aDI) kDI
  have OZK : FnOk P w K mg base CX0 8 _ _ _ (spMarks K CT CR CM CP CS) := ok_marks FZK TS TM OZB bZB (mg1 aZB) kZB OST bST (mg1 aST) kST (mg0 z_min) (mg0 z_max)
  have OZM : FnOk P w K mg base CX0 9 _ _ _ (spMarched K CT CR CM CP CS) := ok_marched FZM TS TM OZG bZG (mg1 aZG) kZG OST bST (mg1 aST) kST OZK bZK (mg1 aZK) kZK MCS OZI bZI (mg0 z_zip)
  have OZO : FnOk P w K mg base CX0 6 _ _ _ (spIsOne K CT CR CP CS) := ok_isOne FZO TS OZG bZG (mg1 aZG) kZG OZB bZB (mg1 aZB) kZB
  have OZJ : FnOk P w K mg base CX0 7 _ _ _ (spJoinedP K CT CR CP CS) := ok_joinedP FZJ TS OZO bZO (mg1 aZO) kZO MCS OZI bZI
  have OZA : FnOk P w K mg base (L2.CX P w) 10 _ _ _ (spStretchesA K CT CR CM CP CS CWd) := ok_stretchesA FZA TS TT TR TCWd OZW bZW OCO bCO (mg1 aCO) kCO OZM bZM (mg1 aZM) kZM OZJ bZJ (mg1 aZJ) kZJ MCS OZI bZI ⟨_, mg1 v4⟩ (mg0 z_enumerate) (mg0 z_len)
  have OZD : FnOk P w K mg base (L2.CX P w) 11 _ _ _ (spDoing K CT CR CM CP CS CW CWd) := ok_doing FZD TW OZA bZA (mg1 aZA) kZA
  have OXS : FnOk P w K mg base CX0 1 _ _ _ spSource := ok_state FXS (mg0 z_abs) (mg0 z_int)
  have OXD : FnOk P w K mg base CX0 1 _ _ _ spDigit := ok_digit FXD
  have OXT : FnOk P w K mg base CX0 2 _ _ _ spTreeN := ok_treeN FXT OXD bXD (mg1 aXD) kXD (mg0 z_list) (mg0 z_range)
  have OXK : FnOk P w K mg base CX0 1 _ _ _ spKeyN := ok_keyN FXK (mg0 z_enumerate) (mg0 z_int)
  have OXN : FnOk P w K mg base CX0 2 _ _ _ spNear := ok_near FXN OXK bXK (mg1 aXK) kXK (mg0 z_enumerate) (mg0 z_int)
  have OXW : FnOk P w K mg base CX0 3 _ _ _ (spWaysN P w) := ok_waysN FXW OXN bXN (mg1 aXN) kXN
  have OXP : FnOk P w K mg base CX0 2 _ _ _ spPlacesN := ok_placesN FXP OXK bXK (mg1 aXK) kXK (mg0 z_enumerate) (mg0 z_range)
  have OXB : FnOk P w K mg base CX0 4 _ _ _ spTable := ok_table FXB OXP bXP (mg1 aXP) kXP OXW bXW (mg1 aXW) kXW OXK bXK (mg1 aXK) kXK (mg0 z_dict) (mg0 z_list) (mg0 z_range) (mg0 z_min)
  have OXM : FnOk P w K mg base CX0 2 _ _ _ spMarchesN := ok_marchesN FXM OXD bXD (mg1 aXD) kXD (mg0 z_len) (mg0 z_range)
  have OXR : FnOk P w K mg base CX0 7 _ _ _ (spRowN K CT CR CM CP CW) := ok_rowN FXR TR TT TW TM TP MCR MCT MCW MCM MCP OR_ bR OT bT ORw bRw OMa bMa OPl bPl (mg0 z_len)
  have OXA : FnOk P w K mg base CX0 1 _ _ _ (spNameN CP) := ok_nameN FXA TP
  have OXO : FnOk P w K mg base CX0 2 _ _ _ (spTold CS CP) := ok_told FXO TS OXA bXA (mg1 aXA) kXA
  have OXV : FnOk P w K mg base CX0 2 _ _ _ spStretchesN := ok_stretchesN FXV OXK bXK (mg1 aXK) kXK (mg0 z_enumerate) (mg0 z_range)
  exact ok_law FL TW TP OXS bXS (mg1 aXS) kXS OXT bXT (mg1 aXT) kXT OXM bXM (mg1 aXM) kXM OAF rAF bAF (mg1 aAF) kAF OXD bXD (mg1 aXD) kXD OXR bXR (mg1 aXR) kXR OXB bXB (mg1 aXB) kXB OZD bZD (mg1 aZD) kZD OXO bXO (mg1 aXO) kXO OXV bXV (mg1 aXV) kXV OXA bXA (mg1 aXA) kXA MCP OPl bPl QCW OWE bWE (mg0 z_list) (mg0 z_len)
end OT

set_option Elab.async false
set_option linter.all false
set_option maxRecDepth 100000
namespace OT
open PySem L2 OTR
/-- the goal behind the head, from the law's promise; F is also told what the head found at the names that it read -/
theorem walk {l : PySem.W.OpenLaw} {q : Program} {loose : List Str} {XP : (Str → Option Value) → Heap → Prop} {YP : World → Heap → Prop} {d : DefRec} {K : Params → PySem.W.Frag} (most : l.most = some 63) (plain : d.params.defaults = [])
    (part : ∀ (w : World) (h : Heap), YP w h → (K w.params).In h)
    (F : ∀ (w : World) (mg : Str → Option Value) (fa : Addr) (h : Heap), XP mg h → (K w.params).In h → h.Ns mainGlobals mg → mg d.name = some (.ref fa) →
      ∃ fd : FuncData, (∀ (s : Shared) (u : Value), BindsTo s fd ⟨[u], []⟩ [("_law_script", u)]) ∧ ∀ base : Heap, (K w.params).In base → base.Ns mainGlobals mg → FnOk l.prog w (K w.params) mg base CX0 12 fa fd ["_law_script"] (spLaw (K w.params))) :
    PySem.W.WalkO q loose XP YP l.row.toRowW d [] (fun f vs => PySem.call f vs) := by
  refine Att.attach_call most plain fun w _ t mg _ g _ _ _ _ b _ ms gr y _ _ _ named place nums short gens => ?_
  obtain ⟨fd, takes, holds⟩ := F w mg g _ gr.X (part w _ y) gr.T.g named
  exact law_call (part w _ y) gr.T.g gr.T.b gr.T.builtins gr.T.nolimit gens place nums (Nat.le_trans short (by decide)) ⟨rfl, by decide, by decide⟩ holds takes (fun _ _ hs => ⟨b, ms, rfl, hs, short, fun _ => rfl⟩) fun _ _ _ z => z
theorem loose_int {lv : List (Str × PySem.W.WData)} {mg : Str → Option Value} {h : Heap} (z : PySem.W.LooseAre lv mg h) {x : Str} {n : Int} (m : (x, PySem.W.WData.int n) ∈ lv) : ∃ t, mg x = some (.int n t) := by
  obtain ⟨v, e, r⟩ := z.val _ m
  cases r with
  | int => exact ⟨_, e⟩
end OT
open PySem PySem.W PyProof.Rows
set_option maxHeartbeats 0 in
theorem PySem.Challenge.cw_onetrain_k21_what_rows_do_by_whole_place_holds : PySem.Challenge.rw_onetrain_k21_what_rows_do_by_whole_place.Holds := by
  w_on; o_law; k_head; (case hw => w_witness2)
  k_fill
  refine OT.walk (l := PySem.Challenge.rw_onetrain_k21_what_rows_do_by_whole_place) rfl rfl (fun w h Y => PySem.W.kIn_of Y) ?F
  case F =>
    intro w mg fa h hx KX G hmg
    refine' OT.all_mk KX G hmg ?aC ?lC ?cC ?kC ?aI ?lI ?cI ?kI ?aA ?lA ?cA ?kA ?aCK ?lCK ?cCK ?kCK ?aCH ?lCH ?cCH ?kCH ?aEA ?lEA ?cEA ?kEA ?aEB ?lEB ?cEB ?kEB ?aCO ?lCO ?cCO ?kCO ?aKY ?lKY ?cKY ?kKY ?aKD ?lKD ?cKD ?kKD ?aLG ?lLG ?cLG ?kLG ?aDI ?lDI ?cDI ?kDI ?aST ?lST ?cST ?kST ?aAF ?lAF ?cAF ?kAF ?kwAFrounds ?aZG ?lZG ?cZG ?kZG ?aZB ?lZB ?cZB ?kZB ?aZK ?lZK ?cZK ?kZK ?aZM ?lZM ?cZM ?kZM ?aZO ?lZO ?cZO ?kZO ?aZJ ?lZJ ?cZJ ?kZJ ?aZA ?lZA ?cZA ?kZA ?aZD ?lZD ?cZD ?kZD ?aXS ?lXS ?cXS ?kXS ?aXD ?lXD ?cXD ?kXD ?aXT ?lXT ?cXT ?kXT ?aXK ?lXK ?cXK ?kXK ?aXN ?lXN ?cXN ?kXN ?aXW ?lXW ?cXW ?kXW ?aXP ?lXP ?cXP ?kXP ?aXB ?lXB ?cXB ?kXB ?aXM ?lXM ?cXM ?kXM ?aXR ?lXR ?cXR ?kXR ?aXA ?lXA ?cXA ?kXA ?aXV ?lXV ?cXV ?kXV ?aXO ?lXO ?cXO ?kXO ?aL ?lL ?cL ?kL ?mCR ?mCT ?mCP ?mCM ?mCW ?mCS ?mCB ?mCN ?mCG ?mCNR ?mCOR ?mCNW ?mCWd ?aB ?lB ?cB ?kB ?aN ?lN ?cN ?kN ?aG ?lG ?cG ?kG ?aNR ?lNR ?cNR ?kNR ?aOR ?lOR ?cOR ?kOR ?aNW ?lNW ?cNW ?kNW ?aR ?lR ?cR ?kR ?aT ?lT ?cT ?kT ?aPl ?lPl ?cPl ?kPl ?aMa ?lMa ?cMa ?kMa ?aRw ?lRw ?cRw ?kRw ?aRE ?lRE ?cRE ?kRE ?aTE ?lTE ?cTE ?kTE ?aPE ?lPE ?cPE ?kPE ?aME ?lME ?cME ?kME ?aWE ?lWE ?cWE ?kWE ?aZI ?lZI ?cZI ?kZI ?aZW ?lZW ?cZW ?kZW ?isfR ?pgCR ?hdCR ?poCR ?saCR ?mkCR ?kcCR ?nCR0 ?nCR1 ?nCR2 ?hcCR ?moCR ?isfRE ?neCR ?kiCR0 ?sfCR0 ?stCR0 ?kiCR1 ?sfCR1 ?stCR1 ?kiCR2 ?sfCR2 ?stCR2 ?isfT ?pgCT ?hdCT ?poCT ?saCT ?mkCT ?kcCT ?nCT0 ?nCT1 ?nCT2 ?hcCT ?moCT ?isfTE ?neCT ?kiCT0 ?sfCT0 ?stCT0 ?kiCT1 ?sfCT1 ?stCT1 ?kiCT2 ?sfCT2 ?stCT2 ?isfPl ?pgCP ?hdCP ?poCP ?saCP ?mkCP ?kcCP ?nCP0 ?nCP1 ?nCP2 ?hcCP ?moCP ?isfPE ?neCP ?kiCP0 ?sfCP0 ?stCP0 ?kiCP1 ?sfCP1 ?stCP1 ?kiCP2 ?sfCP2 ?stCP2 ?isfMa ?pgCM ?hdCM ?poCM ?saCM ?mkCM ?kcCM ?nCM0 ?nCM1 ?hcCM ?moCM ?isfME ?neCM ?kiCM0 ?sfCM0 ?stCM0 ?kiCM1 ?sfCM1 ?stCM1 ?kiCM2 ?sfCM2 ?stCM2 ?isfRw ?pgCW ?hdCW ?poCW ?saCW ?mkCW ?kcCW ?nCW0 ?nCW1 ?hcCW ?moCW ?isfWE ?neCW ?kiCW0 ?sfCW0 ?stCW0 ?kiCW1 ?sfCW1 ?stCW1 ?kiCW2 ?sfCW2 ?stCW2 ?isfZI ?pgCS ?hdCS ?poCS ?saCS ?mkCS ?kcCS ?nCS0 ?nCS1 ?nCS2 ?nCS3 ?nCS4 ?nCB0 ?nCB1 ?xCB ?rCB ?saCB ?eCB ?tCB ?kcCB ?gaCB ?ggCB ?hdCB ?hcCB ?moCB ?tiCB ?nCN0 ?xCN ?rCN ?saCN ?eCN ?tCN ?kcCN ?gaCN ?ggCN ?hdCN ?hcCN ?moCN ?tiCN ?nCG0 ?xCG ?rCG ?saCG ?eCG ?tCG ?kcCG ?gaCG ?ggCG ?hdCG ?hcCG ?moCG ?tiCG ?nCNR0 ?xCNR ?rCNR ?saCNR ?eCNR ?tCNR ?kcCNR ?gaCNR ?ggCNR ?hdCNR ?hcCNR ?moCNR ?tiCNR ?nCOR0 ?xCOR ?rCOR ?saCOR ?eCOR ?tCOR ?kcCOR ?gaCOR ?ggCOR ?hdCOR ?hcCOR ?moCOR ?tiCOR ?nCNW0 ?xCNW ?rCNW ?saCNW ?eCNW ?tCNW ?kcCNW ?gaCNW ?ggCNW ?hdCNW ?hcCNW ?moCNW ?tiCNW ?nCWd0 ?xCWd ?rCWd ?saCWd ?eCWd ?tCWd ?kcCWd ?gaCWd ?ggCWd ?hdCWd ?hcCWd ?moCWd ?tiCWd ?g1 ?g2 ?z_abs ?z_dict ?z_enumerate ?z_int ?z_isinstance ?z_len ?z_list ?z_max ?z_min ?z_range ?z_sum ?z_tuple ?z_zip ?v0 ?v1 ?v2 ?v3 ?v4 ?gcdB ?lcmB (OT.loose_int hx.2 (List.Mem.head _)) (OT.loose_int hx.2 (List.Mem.tail _ (List.Mem.head _)))
    (case aC => k_is); (case lC => k_is); (case cC => k_is); (case kC => k_is); (case aI => k_is); (case lI => k_is)
    (case cI => k_is); (case kI => k_is); (case aA => k_is); (case lA => k_is); (case cA => k_is); (case kA => k_is)
    (case aCK => k_is); (case lCK => k_is); (case cCK => k_is); (case kCK => k_is); (case aCH => k_is); (case lCH => k_is)
    (case cCH => k_is); (case kCH => k_is); (case aEA => k_is); (case lEA => k_is); (case cEA => k_is); (case kEA => k_is)
    (case aEB => k_is); (case lEB => k_is); (case cEB => k_is); (case kEB => k_is); (case aCO => k_is); (case lCO => k_is)
    (case cCO => k_is); (case kCO => k_is); (case aKY => k_is); (case lKY => k_is); (case cKY => k_is); (case kKY => k_is)
    (case aKD => k_is); (case lKD => k_is); (case cKD => k_is); (case kKD => k_is); (case aLG => k_is); (case lLG => k_is)
    (case cLG => k_is); (case kLG => k_is); (case aDI => k_is); (case lDI => k_is); (case cDI => k_is); (case kDI => k_is)
    (case aST => k_is); (case lST => k_is); (case cST => k_is); (case kST => k_is); (case aAF => k_is); (case lAF => k_is)
    (case cAF => k_is); (case kAF => k_is); (case kwAFrounds => k_is); (case aZG => k_is); (case lZG => k_is); (case cZG => k_is)
    (case kZG => k_is); (case aZB => k_is); (case lZB => k_is); (case cZB => k_is); (case kZB => k_is); (case aZK => k_is)
    (case lZK => k_is); (case cZK => k_is); (case kZK => k_is); (case aZM => k_is); (case lZM => k_is); (case cZM => k_is)
    (case kZM => k_is); (case aZO => k_is); (case lZO => k_is); (case cZO => k_is); (case kZO => k_is); (case aZJ => k_is)
    (case lZJ => k_is); (case cZJ => k_is); (case kZJ => k_is); (case aZA => k_is); (case lZA => k_is); (case cZA => k_is)
    (case kZA => k_is); (case aZD => k_is); (case lZD => k_is); (case cZD => k_is); (case kZD => k_is); (case aXS => k_is)
    (case lXS => k_is); (case cXS => k_is); (case kXS => k_is); (case aXD => k_is); (case lXD => k_is); (case cXD => k_is)
    (case kXD => k_is); (case aXT => k_is); (case lXT => k_is); (case cXT => k_is); (case kXT => k_is); (case aXK => k_is)
    (case lXK => k_is); (case cXK => k_is); (case kXK => k_is); (case aXN => k_is); (case lXN => k_is); (case cXN => k_is)
    (case kXN => k_is); (case aXW => k_is); (case lXW => k_is); (case cXW => k_is); (case kXW => k_is); (case aXP => k_is)
    (case lXP => k_is); (case cXP => k_is); (case kXP => k_is); (case aXB => k_is); (case lXB => k_is); (case cXB => k_is)
    (case kXB => k_is); (case aXM => k_is); (case lXM => k_is); (case cXM => k_is); (case kXM => k_is); (case aXR => k_is)
    (case lXR => k_is); (case cXR => k_is); (case kXR => k_is); (case aXA => k_is); (case lXA => k_is); (case cXA => k_is)
    (case kXA => k_is); (case aXV => k_is); (case lXV => k_is); (case cXV => k_is); (case kXV => k_is); (case aXO => k_is)
    (case lXO => k_is); (case cXO => k_is); (case kXO => k_is); (case aL => k_is); (case lL => k_is); (case cL => k_is)
    (case kL => k_is); (case mCR => k_is); (case mCT => k_is); (case mCP => k_is); (case mCM => k_is); (case mCW => k_is)
    (case mCS => k_is); (case mCB => k_is); (case mCN => k_is); (case mCG => k_is); (case mCNR => k_is); (case mCOR => k_is)
    (case mCNW => k_is); (case mCWd => k_is); (case aB => k_is); (case lB => k_is); (case cB => k_is); (case kB => k_is)
    (case aN => k_is); (case lN => k_is); (case cN => k_is); (case kN => k_is); (case aG => k_is); (case lG => k_is)
    (case cG => k_is); (case kG => k_is); (case aNR => k_is); (case lNR => k_is); (case cNR => k_is); (case kNR => k_is)
    (case aOR => k_is); (case lOR => k_is); (case cOR => k_is); (case kOR => k_is); (case aNW => k_is); (case lNW => k_is)
    (case cNW => k_is); (case kNW => k_is); (case aR => k_is); (case lR => k_is); (case cR => k_is); (case kR => k_is)
    (case aT => k_is); (case lT => k_is); (case cT => k_is); (case kT => k_is); (case aPl => k_is); (case lPl => k_is)
    (case cPl => k_is); (case kPl => k_is); (case aMa => k_is); (case lMa => k_is); (case cMa => k_is); (case kMa => k_is)
    (case aRw => k_is); (case lRw => k_is); (case cRw => k_is); (case kRw => k_is); (case aRE => k_is); (case lRE => k_is)
    (case cRE => k_is); (case kRE => k_is); (case aTE => k_is); (case lTE => k_is); (case cTE => k_is); (case kTE => k_is)
    (case aPE => k_is); (case lPE => k_is); (case cPE => k_is); (case kPE => k_is); (case aME => k_is); (case lME => k_is)
    (case cME => k_is); (case kME => k_is); (case aWE => k_is); (case lWE => k_is); (case cWE => k_is); (case kWE => k_is)
    (case aZI => k_is); (case lZI => k_is); (case cZI => k_is); (case kZI => k_is); (case aZW => k_is); (case lZW => k_is)
    (case cZW => k_is); (case kZW => k_is); (case isfR => k_is); (case pgCR => k_is); (case hdCR => k_is); (case poCR => k_is)
    (case saCR => k_is); (case mkCR => k_is); (case kcCR => k_is); (case nCR0 => k_is); (case nCR1 => k_is); (case nCR2 => k_is)
    (case hcCR => k_is); (case moCR => k_is); (case isfRE => k_is); (case neCR => k_is); (case kiCR0 => kit_is); (case sfCR0 => k_is)
    (case stCR0 => k_is); (case kiCR1 => kit_is); (case sfCR1 => k_is); (case stCR1 => k_is); (case kiCR2 => kit_is); (case sfCR2 => k_is)
    (case stCR2 => k_is); (case isfT => k_is); (case pgCT => k_is); (case hdCT => k_is); (case poCT => k_is); (case saCT => k_is)
    (case mkCT => k_is); (case kcCT => k_is); (case nCT0 => k_is); (case nCT1 => k_is); (case nCT2 => k_is); (case hcCT => k_is)
    (case moCT => k_is); (case isfTE => k_is); (case neCT => k_is); (case kiCT0 => kit_is); (case sfCT0 => k_is); (case stCT0 => k_is)
    (case kiCT1 => kit_is); (case sfCT1 => k_is); (case stCT1 => k_is); (case kiCT2 => kit_is); (case sfCT2 => k_is); (case stCT2 => k_is)
    (case isfPl => k_is); (case pgCP => k_is); (case hdCP => k_is); (case poCP => k_is); (case saCP => k_is); (case mkCP => k_is)
    (case kcCP => k_is); (case nCP0 => k_is); (case nCP1 => k_is); (case nCP2 => k_is); (case hcCP => k_is); (case moCP => k_is)
    (case isfPE => k_is); (case neCP => k_is); (case kiCP0 => kit_is); (case sfCP0 => k_is); (case stCP0 => k_is); (case kiCP1 => kit_is)
    (case sfCP1 => k_is); (case stCP1 => k_is); (case kiCP2 => kit_is); (case sfCP2 => k_is); (case stCP2 => k_is); (case isfMa => k_is)
    (case pgCM => k_is); (case hdCM => k_is); (case poCM => k_is); (case saCM => k_is); (case mkCM => k_is); (case kcCM => k_is)
    (case nCM0 => k_is); (case nCM1 => k_is); (case hcCM => k_is); (case moCM => k_is); (case isfME => k_is); (case neCM => k_is)
    (case kiCM0 => kit_is); (case sfCM0 => k_is); (case stCM0 => k_is); (case kiCM1 => kit_is); (case sfCM1 => k_is); (case stCM1 => k_is)
    (case kiCM2 => kit_is); (case sfCM2 => k_is); (case stCM2 => k_is); (case isfRw => k_is); (case pgCW => k_is); (case hdCW => k_is)
    (case poCW => k_is); (case saCW => k_is); (case mkCW => k_is); (case kcCW => k_is); (case nCW0 => k_is); (case nCW1 => k_is)
    (case hcCW => k_is); (case moCW => k_is); (case isfWE => k_is); (case neCW => k_is); (case kiCW0 => kit_is); (case sfCW0 => k_is)
    (case stCW0 => k_is); (case kiCW1 => kit_is); (case sfCW1 => k_is); (case stCW1 => k_is); (case kiCW2 => kit_is); (case sfCW2 => k_is)
    (case stCW2 => k_is); (case isfZI => k_is); (case pgCS => k_is); (case hdCS => k_is); (case poCS => k_is); (case saCS => k_is)
    (case mkCS => k_is); (case kcCS => k_is); (case nCS0 => k_is); (case nCS1 => k_is); (case nCS2 => k_is); (case nCS3 => k_is)
    (case nCS4 => k_is); (case nCB0 => k_is); (case nCB1 => k_is); (case xCB => k_is); (case saCB => k_is); (case eCB => k_is)
    (case tCB => k_is); (case kcCB => k_is); (case gaCB => k_is); (case ggCB => k_is); (case hdCB => k_is); (case hcCB => k_is)
    (case moCB => k_is); (case tiCB => k_is); (case nCN0 => k_is); (case xCN => k_is); (case saCN => k_is); (case eCN => k_is)
    (case tCN => k_is); (case kcCN => k_is); (case gaCN => k_is); (case ggCN => k_is); (case hdCN => k_is); (case hcCN => k_is)
    (case moCN => k_is); (case tiCN => k_is); (case nCG0 => k_is); (case xCG => k_is); (case saCG => k_is); (case eCG => k_is)
    (case tCG => k_is); (case kcCG => k_is); (case gaCG => k_is); (case ggCG => k_is); (case hdCG => k_is); (case hcCG => k_is)
    (case moCG => k_is); (case tiCG => k_is); (case nCNR0 => k_is); (case xCNR => k_is); (case saCNR => k_is); (case eCNR => k_is)
    (case tCNR => k_is); (case kcCNR => k_is); (case gaCNR => k_is); (case ggCNR => k_is); (case hdCNR => k_is); (case hcCNR => k_is)
    (case moCNR => k_is); (case tiCNR => k_is); (case nCOR0 => k_is); (case xCOR => k_is); (case saCOR => k_is); (case eCOR => k_is)
    (case tCOR => k_is); (case kcCOR => k_is); (case gaCOR => k_is); (case ggCOR => k_is); (case hdCOR => k_is); (case hcCOR => k_is)
    (case moCOR => k_is); (case tiCOR => k_is); (case nCNW0 => k_is); (case xCNW => k_is); (case saCNW => k_is); (case eCNW => k_is)
    (case tCNW => k_is); (case kcCNW => k_is); (case gaCNW => k_is); (case ggCNW => k_is); (case hdCNW => k_is); (case hcCNW => k_is)
    (case moCNW => k_is); (case tiCNW => k_is); (case nCWd0 => k_is); (case xCWd => k_is); (case saCWd => k_is); (case eCWd => k_is)
    (case tCWd => k_is); (case kcCWd => k_is); (case gaCWd => k_is); (case ggCWd => k_is); (case hdCWd => k_is); (case hcCWd => k_is)
    (case moCWd => k_is); (case tiCWd => k_is); (case g1 => k_is); (case g2 => k_is); (case z_abs => k_is); (case z_dict => k_is)
    (case z_enumerate => k_is); (case z_int => k_is); (case z_isinstance => k_is); (case z_len => k_is); (case z_list => k_is); (case z_max => k_is)
    (case z_min => k_is); (case z_range => k_is); (case z_sum => k_is); (case z_tuple => k_is); (case z_zip => k_is); (case v0 => k_is)
    (case v1 => k_is); (case v2 => k_is); (case v3 => k_is); (case v4 => k_is); (case gcdB => k_is); (case lcmB => k_is)
    (case rCB => decide +kernel); (case rCN => decide +kernel); (case rCG => decide +kernel); (case rCNR => decide +kernel); (case rCOR => decide +kernel); (case rCNW => decide +kernel)
    (case rCWd => decide +kernel)
