import PyProof.Rows.All
import Wide.All
import OpenK.AllK
import Wide.FinOn
import HandS.Base
import HandS.Call
import HandS.List
import HandS.Ends
import HandS.Words
import HandS.WordsList
import HandS.Comp
import HandS.Dict
import HandS.Iter
import HandS.Text
import HandS.WordsDict
import HandS.ForMost
import HandS.Conv
import HandS.Walk
import HandS.More
import HandS.TupAny
import HandS.DeepEq
import HandS.SetFor
import HandS.Style
import KE.GoesEnum
import HandS.Exc
import HandS.ExcInit
import HandS.ExcField
import HandS.ExcIs
import HandS.IsInst
import HandS.WordsExc
import HandS.DictComp
import KE.KExcIs
import HandS.Codes
import PySem.Challenge.RW_onetrain_k02_trees_refused
/-! Trees of roads: who is joined, ways, and what a tree's maker answers. -/
namespace OT
/-- a road: its ends and its length -/
abbrev Fact := Int × Int × Int
/-- the road r joins x and y -/
def Jn (r : Fact) (x y : Int) : Prop := (r.1 = x ∧ r.2.1 = y) ∨ (r.1 = y ∧ r.2.1 = x)
theorem Jn.symm {r : Fact} {x y : Int} (h : Jn r x y) : Jn r y x := Or.symm h
/-- x and y are joined by roads of F -/
inductive Con (F : List Fact) : Int → Int → Prop
  | refl (x : Int) : Con F x x
  | step {x y z : Int} {r : Fact} (h : Con F x y) (m : r ∈ F) (j : Jn r y z) : Con F x z
theorem Con.one {F : List Fact} {x y : Int} {r : Fact} (m : r ∈ F) (j : Jn r x y) : Con F x y := .step (.refl x) m j
theorem Con.trans {F : List Fact} {x y z : Int} (h : Con F x y) (k : Con F y z) : Con F x z := by
  induction k with
  | refl => exact h
  | step _ m j ih => exact .step ih m j
theorem Con.symm {F : List Fact} {x y : Int} (h : Con F x y) : Con F y x := by
  induction h with
  | refl => exact .refl _
  | step _ m j ih => exact (Con.one m j.symm).trans ih
theorem Con.mono {F G : List Fact} (s : ∀ r ∈ F, r ∈ G) {x y : Int} (h : Con F x y) : Con G x y := by
  induction h with
  | refl => exact .refl _
  | step _ m j ih => exact .step ih (s _ m) j
theorem Con.nil {x y : Int} (h : Con [] x y) : x = y := by
  cases h with
  | refl => rfl
  | step _ m _ => cases m
theorem con_snoc {F : List Fact} {r : Fact} {x y : Int} : Con (F ++ [r]) x y ↔ Con F x y ∨ (Con F x r.1 ∧ Con F r.2.1 y) ∨ (Con F x r.2.1 ∧ Con F r.1 y) := by
  constructor
  · intro h
    induction h with
    | refl => exact .inl (.refl _)
    | @step y z q _ m j ih =>
      rcases List.mem_append.mp m with m | m
      · rcases ih with h | ⟨h, k⟩ | ⟨h, k⟩
        · exact .inl (.step h m j)
        · exact .inr (.inl ⟨h, .step k m j⟩)
        · exact .inr (.inr ⟨h, .step k m j⟩)
      · obtain rfl := List.mem_singleton.mp m
        rcases j with ⟨rfl, rfl⟩ | ⟨rfl, rfl⟩
        · rcases ih with h | ⟨h, k⟩ | ⟨h, k⟩
          · exact .inr (.inl ⟨h, .refl _⟩)
          · exact .inr (.inl ⟨h, .refl _⟩)
          · exact .inl h
        · rcases ih with h | ⟨h, k⟩ | ⟨h, k⟩
          · exact .inr (.inr ⟨h, .refl _⟩)
          · exact .inl h
          · exact .inr (.inr ⟨h, .refl _⟩)
  · have s : ∀ q ∈ F, q ∈ F ++ [r] := fun q h => List.mem_append_left _ h
    have m : r ∈ F ++ [r] := List.mem_append_right _ (List.mem_singleton.mpr rfl)
    rintro (h | ⟨h, k⟩ | ⟨h, k⟩)
    · exact h.mono s
    · exact ((h.mono s).trans (.one m (.inl ⟨rfl, rfl⟩))).trans (k.mono s)
    · exact ((h.mono s).trans (.one m (.inr ⟨rfl, rfl⟩))).trans (k.mono s)
/-- the way from x to y over the roads with these numbers -/
inductive Way (F : List Fact) : Int → List Nat → Int → Prop
  | nil (x : Int) : Way F x [] x
  | cons {x y z : Int} {k : Nat} {r : Fact} {l : List Nat} (e : F[k]? = some r) (j : Jn r x y) (w : Way F y l z) : Way F x (k :: l) z
theorem Way.append {F : List Fact} {x y z : Int} {l m : List Nat} (h : Way F x l y) (k : Way F y m z) : Way F x (l ++ m) z := by
  induction h with
  | nil => exact k
  | cons e j _ ih => exact .cons e j (ih k)
theorem Way.rev {F : List Fact} {x y : Int} {l : List Nat} (h : Way F x l y) : Way F y l.reverse x := by
  induction h with
  | nil => exact .nil _
  | cons e j _ ih =>
    rw [List.reverse_cons]
    exact ih.append (.cons e j.symm (.nil _))
theorem Way.con {F : List Fact} {x y : Int} {l : List Nat} (h : Way F x l y) : Con F x y := by
  induction h with
  | nil => exact .refl _
  | cons e j _ ih => exact (Con.one (List.mem_of_getElem? e) j).trans ih
theorem Way.mono {F G : List Fact} {x y : Int} {l : List Nat} (h : Way F x l y) : Way (F ++ G) x l y := by
  induction h with
  | nil => exact .nil _
  | cons e j _ ih => exact .cons (by rw [List.getElem?_append_left (List.getElem?_eq_some_iff.mp e).1]; exact e) j ih
theorem Way.mem {F : List Fact} {x y : Int} {l : List Nat} (h : Way F x l y) : ∀ k ∈ l, ∃ r, F[k]? = some r ∧ Con F x r.1 := by
  induction h with
  | nil => intro k h; cases h
  | @cons x y z k r l e j w ih =>
    intro q hq
    rcases List.mem_cons.mp hq with rfl | hq
    · refine ⟨r, e, ?_⟩
      rcases j with ⟨rfl, rfl⟩ | ⟨rfl, rfl⟩
      · exact .refl _
      · exact Con.one (List.mem_of_getElem? e) (.inr ⟨rfl, rfl⟩)
    · obtain ⟨r', e', c⟩ := ih q hq
      exact ⟨r', e', (Con.one (List.mem_of_getElem? e) j).trans c⟩
theorem Way.lt {F : List Fact} {x y : Int} {l : List Nat} (h : Way F x l y) {k : Nat} (m : k ∈ l) : k < F.length := by
  obtain ⟨r, e, _⟩ := h.mem k m
  exact (List.getElem?_eq_some_iff.mp e).1
/-- a way over the new road -/
theorem way_over {F : List Fact} {r : Fact} {x y : Int} {l m : List Nat} (h : Way F x l r.1) (k : Way F r.2.1 m y) : Way (F ++ [r]) x (l ++ F.length :: m) y :=
  h.mono.append (.cons (by rw [List.getElem?_append_right (Nat.le_refl _)]; simp) (.inl ⟨rfl, rfl⟩) k.mono)
theorem way_nodup {F : List Fact} {r : Fact} {x y : Int} {l m : List Nat} (no : ¬ Con F r.1 r.2.1) (h : Way F x l r.1) (k : Way F r.2.1 m y) (hl : l.Nodup) (hm : m.Nodup) : (l ++ F.length :: m).Nodup := by
  rw [List.nodup_append]
  refine ⟨hl, List.nodup_cons.mpr ⟨fun z => Nat.lt_irrefl _ (k.lt z), hm⟩, ?_⟩
  intro a ha b hb e
  subst e
  rcases List.mem_cons.mp hb with rfl | hb
  · exact Nat.lt_irrefl _ (h.lt ha)
  · obtain ⟨q, e1, c1⟩ := h.rev.mem a (List.mem_reverse.mpr ha)
    obtain ⟨q', e2, c2⟩ := k.mem a hb
    rw [e1] at e2
    cases e2
    exact no (c1.trans c2.symm)
theorem nodup_le : ∀ (n : Nat) (l : List Nat), l.Nodup → (∀ k ∈ l, k < n) → l.length ≤ n
  | 0, l, _, h => by
    cases l with
    | nil => exact Nat.le_refl _
    | cons a l => exact absurd (h a (List.mem_cons_self ..)) (Nat.not_lt_zero _)
  | n + 1, l, hn, h => by
    have q := nodup_le n (l.erase n) (hn.erase n) fun k hk => by
      have h1 := h k (List.mem_of_mem_erase hk)
      have h2 : k ≠ n := fun z => by
        rw [z] at hk
        exact (List.Nodup.not_mem_erase hn) hk
      omega
    by_cases m : n ∈ l
    · have := List.length_erase_of_mem m
      omega
    · rw [List.erase_of_not_mem m] at q
      omega
theorem Way.short {F : List Fact} {x y : Int} {l : List Nat} (h : Way F x l y) (n : l.Nodup) : l.length ≤ F.length := nodup_le _ l n fun _ m => h.lt m
/-- the crossings are 0 to n - 1 -/
def In (n x : Int) : Prop := 0 ≤ x ∧ x < n
instance (n x : Int) : Decidable (In n x) := inferInstanceAs (Decidable (0 ≤ x ∧ x < n))
/-- what a tree's maker finds -/
inductive Err
  | crossings (n : Int) | roads (k : Int) | crossing (c : Int) | length (s : Int) | ring (k : Int)
  deriving DecidableEq
open Classical in
noncomputable def dueR (n : Int) : List Fact → List Fact → Option Err
  | _, [] => none
  | done, r :: rest => if ¬ In n r.1 then some (.crossing r.1) else if ¬ In n r.2.1 then some (.crossing r.2.1) else if ¬ (1 ≤ r.2.2 ∧ r.2.2 ≤ 1000000000) then some (.length r.2.2)
      else if Con done r.1 r.2.1 then some (.ring done.length) else dueR n (done ++ [r]) rest
noncomputable def due (n : Int) (F : List Fact) : Option Err :=
  if ¬ (2 ≤ n ∧ n ≤ 24) then some (.crossings n) else if (F.length : Int) ≠ n - 1 then some (.roads F.length) else dueR n [] F
theorem dueR_nil (n : Int) (done : List Fact) : dueR n done [] = none := by unfold dueR; rfl
theorem dueR_a {n : Int} {done rest : List Fact} {r : Fact} (h : ¬ In n r.1) : dueR n done (r :: rest) = some (.crossing r.1) := by
  rw [dueR, if_pos h]
theorem dueR_b {n : Int} {done rest : List Fact} {r : Fact} (h : In n r.1) (h2 : ¬ In n r.2.1) : dueR n done (r :: rest) = some (.crossing r.2.1) := by
  rw [dueR, if_neg (fun z => z h), if_pos h2]
theorem dueR_l {n : Int} {done rest : List Fact} {r : Fact} (h : In n r.1) (h2 : In n r.2.1) (h3 : ¬ (1 ≤ r.2.2 ∧ r.2.2 ≤ 1000000000)) : dueR n done (r :: rest) = some (.length r.2.2) := by
  rw [dueR, if_neg (fun z => z h), if_neg (fun z => z h2), if_pos h3]
theorem dueR_ring {n : Int} {done rest : List Fact} {r : Fact} (h : In n r.1) (h2 : In n r.2.1) (h3 : 1 ≤ r.2.2 ∧ r.2.2 ≤ 1000000000) (h4 : Con done r.1 r.2.1) : dueR n done (r :: rest) = some (.ring done.length) := by
  rw [dueR, if_neg (fun z => z h), if_neg (fun z => z h2), if_neg (fun z => z h3), if_pos h4]
theorem dueR_go {n : Int} {done rest : List Fact} {r : Fact} (h : In n r.1) (h2 : In n r.2.1) (h3 : 1 ≤ r.2.2 ∧ r.2.2 ≤ 1000000000) (h4 : ¬ Con done r.1 r.2.1) : dueR n done (r :: rest) = dueR n (done ++ [r]) rest := by
  rw [dueR, if_neg (fun z => z h), if_neg (fun z => z h2), if_neg (fun z => z h3), if_neg h4]
end OT

namespace OT
/-- no road of fs joins what the others join already -/
def NoRing (fs : List Fact) : Prop := ∀ (i : Nat) (r : Fact), fs[i]? = some r → ¬ Con (fs.eraseIdx i) r.1 r.2.1
theorem con_congr {F G : List Fact} (h : ∀ r, r ∈ F ↔ r ∈ G) {x y : Int} : Con F x y ↔ Con G x y := ⟨Con.mono fun r => (h r).mp, Con.mono fun r => (h r).mpr⟩
/-- a crossing that no road of F meets -/
theorem Con.alone {F : List Fact} {v x : Int} (h : Con F x v) (no : ∀ r ∈ F, r.1 ≠ v ∧ r.2.1 ≠ v) : x = v := by
  cases h with
  | refl => rfl
  | step _ m j =>
    obtain ⟨n1, n2⟩ := no _ m
    rcases j with ⟨_, e⟩ | ⟨e, _⟩
    · exact absurd e n2
    · exact absurd e n1
theorem noRing_nil : NoRing [] := fun i r h => by simp at h
theorem noRing_add {fs : List Fact} {r : Fact} {v u : Int} (h : NoRing fs) (no : ∀ q ∈ fs, q.1 ≠ v ∧ q.2.1 ≠ v) (e : (r.1 = v ∧ r.2.1 = u) ∨ (r.1 = u ∧ r.2.1 = v)) (ne : u ≠ v) : NoRing (fs ++ [r]) := by
  intro i q hi c
  by_cases hl : i < fs.length
  · rw [List.getElem?_append_left hl] at hi
    rw [List.eraseIdx_append_of_lt_length hl] at c
    have mq : q ∈ fs := List.mem_of_getElem? hi
    have no' : ∀ p ∈ fs.eraseIdx i, p.1 ≠ v ∧ p.2.1 ≠ v := fun p hp => no p (List.mem_of_mem_eraseIdx hp)
    obtain ⟨q1, q2⟩ := no q mq
    rcases con_snoc.mp c with c | ⟨c1, c2⟩ | ⟨c1, c2⟩
    · exact h i q hi c
    · rcases e with ⟨e1, e2⟩ | ⟨e1, e2⟩
      · rw [e1] at c1
        exact q1 (c1.alone no')
      · rw [e2] at c2
        exact q2 (c2.symm.alone no')
    · rcases e with ⟨e1, e2⟩ | ⟨e1, e2⟩
      · rw [e1] at c2
        exact q2 (c2.symm.alone no')
      · rw [e2] at c1
        exact q1 (c1.alone no')
  · have hl2 : fs.length ≤ i := Nat.le_of_not_lt hl
    rw [List.getElem?_append_right hl2] at hi
    have e0 : i = fs.length := by
      have z := (List.getElem?_eq_some_iff.mp hi).1
      simp at z
      omega
    subst e0
    rw [Nat.sub_self] at hi
    cases hi
    rw [List.eraseIdx_append_of_length_le (Nat.le_refl _), Nat.sub_self] at c
    have c' : Con fs r.1 r.2.1 := by simpa using c
    rcases e with ⟨e1, e2⟩ | ⟨e1, e2⟩
    · rw [e1, e2] at c'
      exact ne (c'.symm.alone no)
    · rw [e1, e2] at c'
      exact ne (c'.alone no)
theorem take_sub_erase {α : Type} : ∀ {l : List α} {i : Nat} {x : α}, x ∈ l.take i → x ∈ l.eraseIdx i
  | [], i, x, h => by simp at h
  | a :: l, 0, x, h => by simp at h
  | a :: l, i + 1, x, h => by
    rcases List.mem_cons.mp h with e | h
    · exact List.mem_cons.mpr (.inl e)
    · exact List.mem_cons.mpr (.inr (take_sub_erase h))
theorem noRing_due {n : Int} {fs : List Fact} (h : NoRing fs) (ok : ∀ r ∈ fs, In n r.1 ∧ In n r.2.1 ∧ 1 ≤ r.2.2 ∧ r.2.2 ≤ 1000000000) : dueR n [] fs = none := by
  have key : ∀ (k i : Nat), i + k = fs.length → dueR n (fs.take i) (fs.drop i) = none := by
    intro k
    induction k with
    | zero =>
      intro i hi
      rw [List.drop_of_length_le (by omega), dueR_nil]
    | succ k ih =>
      intro i hi
      have hl : i < fs.length := by omega
      have g : fs[i]? = some fs[i] := List.getElem?_eq_getElem hl
      obtain ⟨a, b, c, d⟩ := ok _ (List.getElem_mem hl)
      rw [List.drop_eq_getElem_cons hl, dueR_go a b ⟨c, d⟩ (fun z => h i _ g (z.mono fun r hr => take_sub_erase hr))]
      have e : fs.take i ++ [fs[i]] = fs.take (i + 1) := by
        rw [List.take_succ, g]
        rfl
      rw [e]
      exact ih (i + 1) (by omega)
  have z := key fs.length 0 (by omega)
  simpa using z
theorem erase_perm {α : Type} : ∀ {l : List α} {k : Nat} {y : α}, l[k]? = some y → (y :: l.eraseIdx k).Perm l
  | [], k, y, h => by simp at h
  | a :: l, 0, y, h => by
    have e := Option.some.inj h
    subst e
    exact List.Perm.refl _
  | a :: l, k + 1, y, h => by
    have ih := erase_perm (l := l) (k := k) (y := y) h
    exact (List.Perm.swap a y _).trans (ih.cons a)
theorem noRing_perm {fs gs : List Fact} (p : gs.Perm fs) (h : NoRing fs) : NoRing gs := by
  intro i r hi c
  have m : r ∈ fs := p.mem_iff.mp (List.mem_of_getElem? hi)
  obtain ⟨j, hj, e⟩ := List.getElem_of_mem m
  have hj' : fs[j]? = some r := by rw [List.getElem?_eq_getElem hj, e]
  have q : (gs.eraseIdx i).Perm (fs.eraseIdx j) := List.Perm.cons_inv (((erase_perm hi).trans p).trans (erase_perm hj').symm)
  exact h j r hj' (c.mono fun x hx => q.mem_iff.mp hx)
/-- what a drawn tree is -/
structure Drawn (most long n : Int) (fs : List Fact) : Prop where
  lo : 2 ≤ n
  hi : n ≤ most
  len : (fs.length : Int) = n - 1
  ok : ∀ r ∈ fs, In n r.1 ∧ In n r.2.1 ∧ 1 ≤ r.2.2 ∧ (r.2.2 ≤ 2 ∨ r.2.2 ≤ long)
  nr : NoRing fs
theorem Drawn.due {most long n : Int} {fs : List Fact} (h : Drawn most long n fs) (h24 : most ≤ 24) (hl : long ≤ 1000000000) : due n fs = none := by
  unfold OT.due
  have a := h.lo
  have b := h.hi
  rw [if_neg (fun z => z ⟨a, by omega⟩), if_neg (fun z => z h.len)]
  exact noRing_due h.nr fun r hr => let ⟨x, y, z, w⟩ := h.ok r hr; ⟨x, y, z, by omega⟩
end OT

namespace OT
theorem nodup_sub {α : Type} [DecidableEq α] : ∀ {l m : List α}, l.Nodup → (∀ x ∈ l, x ∈ m) → l.length ≤ m.length
  | [], m, _, _ => Nat.zero_le _
  | a :: l, m, h, s => by
    obtain ⟨h1, h2⟩ := List.nodup_cons.mp h
    have ma : a ∈ m := s a (List.mem_cons_self ..)
    have ih := nodup_sub (l := l) (m := m.erase a) h2 fun x hx => (List.mem_erase_of_ne (fun (e : x = a) => h1 (e ▸ hx))).mpr (s x (List.mem_cons_of_mem _ hx))
    have e := List.length_erase_of_mem ma
    have pos : 0 < m.length := List.length_pos_of_mem ma
    rw [List.length_cons]
    omega
theorem con_end {F : List Fact} {a x : Int} (h : Con F a x) : x = a ∨ ∃ r ∈ F, r.1 = x ∨ r.2.1 = x := by
  cases h with
  | refl => exact .inl rfl
  | step _ m j => exact .inr ⟨_, m, j.elim (fun z => .inr z.2) fun z => .inl z.1⟩
/-- a search's list: who was found, the first k of them gone through -/
structure Bf (fs : List Fact) (a : Int) (fl : List Int) (k : Nat) : Prop where
  nd : fl.Nodup
  con : ∀ x ∈ fl, Con fs a x
  hd : a ∈ fl
  cl : ∀ (i : Nat) (x : Int), i < k → fl[i]? = some x → ∀ r ∈ fs, ∀ y, Jn r x y → y ∈ fl
theorem Bf.one (fs : List Fact) (a : Int) : Bf fs a [a] 0 := ⟨by simp, fun x h => by rw [List.mem_singleton.mp h]; exact .refl _, List.mem_singleton.mpr rfl, fun i x h => absurd h (Nat.not_lt_zero i)⟩
theorem Bf.small {fs : List Fact} {a : Int} {fl : List Int} {k : Nat} (h : Bf fs a fl k) : fl.length ≤ 2 * fs.length + 1 := by
  have z := nodup_sub (m := a :: (fs.map (fun r => r.1) ++ fs.map fun r => r.2.1)) h.nd fun x hx => by
    rcases con_end (h.con x hx) with e | ⟨r, m, e | e⟩
    · exact List.mem_cons.mpr (.inl e)
    · exact List.mem_cons_of_mem _ (List.mem_append_left _ (List.mem_map.mpr ⟨r, m, e⟩))
    · exact List.mem_cons_of_mem _ (List.mem_append_right _ (List.mem_map.mpr ⟨r, m, e⟩))
  rw [List.length_cons, List.length_append, List.length_map, List.length_map] at z
  omega
theorem Bf.add {fs : List Fact} {a x y : Int} {fl : List Int} {k : Nat} {r : Fact} (h : Bf fs a fl k) (hx : x ∈ fl) (m : r ∈ fs) (j : Jn r x y) (no : y ∉ fl) (hk : k ≤ fl.length) : Bf fs a (fl ++ [y]) k := by
  refine ⟨List.nodup_append.mpr ⟨h.nd, by simp, fun u hu v hv e => ?_⟩, fun u hu => ?_, List.mem_append_left _ h.hd, fun i u hi hu q hq v hv => ?_⟩
  · rw [List.mem_singleton.mp hv] at e
    exact no (e ▸ hu)
  · rcases List.mem_append.mp hu with hu | hu
    · exact h.con u hu
    · rw [List.mem_singleton.mp hu]
      exact .step (h.con x hx) m j
  · rw [List.getElem?_append_left (by omega)] at hu
    exact List.mem_append_left _ (h.cl i u hi hu q hq v hv)
theorem Bf.next {fs : List Fact} {a x : Int} {fl : List Int} {k : Nat} (h : Bf fs a fl k) (hx : fl[k]? = some x) (all : ∀ r ∈ fs, ∀ y, Jn r x y → y ∈ fl) : Bf fs a fl (k + 1) := by
  refine ⟨h.nd, h.con, h.hd, fun i u hi hu r hr y hy => ?_⟩
  by_cases e : i = k
  · subst e
    rw [hx] at hu
    cases hu
    exact all r hr y hy
  · exact h.cl i u (by omega) hu r hr y hy
theorem Bf.done {fs : List Fact} {a b : Int} {fl : List Int} {k : Nat} (h : Bf fs a fl k) (hk : fl.length ≤ k) : b ∈ fl ↔ Con fs a b := by
  refine ⟨h.con b, fun c => ?_⟩
  induction c with
  | refl => exact h.hd
  | step _ m j ih =>
    obtain ⟨i, hi, e⟩ := List.getElem_of_mem ih
    exact h.cl i _ (by omega) (by rw [List.getElem?_eq_getElem hi, e]) _ m _ j
end OT

set_option Elab.async false
set_option linter.all false
set_option maxRecDepth 100000
set_option maxHeartbeats 1000000
namespace OT
open PySem L2
def top (i : Nat) : Stmt := PySem.Challenge.pw_onetrain_k02_trees_refused.main.body.getD i (.Pass ⟨0, 0, 0, 0⟩)
abbrev sSource : Stmt := top 18
abbrev sDraw : Stmt := top 19
abbrev sPick : Stmt := top 20
abbrev sShuf : Stmt := top 21
/-- the source of draws at s: three ints, the first not below 0 -/
def Src (H : Hp) (s : Addr) : Prop := ∃ a b c : Int, 0 ≤ a ∧ H s = some (.lst [.int a, .int b, .int c])
/-- all that was tracked is as it was, but at s -/
def But (s : Addr) (H H' : Hp) : Prop := ∀ b o, H b = some o → b ≠ s → H' b = some o
theorem But.refl {s : Addr} {H : Hp} : But s H H := fun _ _ e _ => e
theorem But.trans {s : Addr} {H H1 H2 : Hp} (x : But s H H1) (y : But s H1 H2) : But s H H2 := fun b o e n => y b o (x b o e n) n
theorem But.same {s : Addr} {H H1 H2 : Hp} (x : But s H H1) (y : Same H1 H2) : But s H H2 := fun b o e n => y b o (x b o e n)
theorem But.upd {s : Addr} {H : Hp} {o : HO} : But s H (upd H s o) := fun b _ e n => by rw [upd_ne n]; exact e
theorem Same.new {H : Hp} {p : Addr} {o : HO} (n : H p = none) : Same H (upd H p o) := fun b _ e => by rw [upd_ne (ne_of_none e n)]; exact e
/-- _law_source(cell): a new source -/
def spSource : Sp := fun vs H Q _ => ∃ n : Int, vs = [.int n] ∧ ∀ s H', H s = none → Src H' s → Same H H' → Q (.ref s) H'
/-- _law_draw(source, many): a number from 0 to many - 1 -/
def spDraw : Sp := fun vs H Q _ => ∃ (s : Addr) (m : Int), vs = [.ref s, .int m] ∧ Src H s ∧ 0 < m ∧ m < 1073741824 ∧ ∀ r H', 0 ≤ r → r < m → Src H' s → But s H H' → Q (.int r) H'
/-- _law_pick(source, some): one of the items -/
def spPick (K : PySem.W.Frag) : Sp := fun vs H Q _ => ∃ (s l : Addr) (xs : List V), vs = [.ref s, .ref l] ∧ Src H s ∧ l ≠ s ∧ SqL K H l xs ∧ 0 < xs.length ∧ xs.length < 1000000 ∧ ∀ v H', v ∈ xs → Src H' s → But s H H' → Q v H'
section
variable {P : Program} {w : World} {K : PySem.W.Frag} {mg : Str → Option Value} {base : Heap}
theorem scSource : FnScope ["_law_cell"] ["_law_cell"] (defScope sSource) := ⟨rfl, rfl, rfl, by decide +kernel, rfl, by decide +kernel, by decide +kernel⟩
theorem ok_source {f : Addr} {fd : FuncData} (F : Fun K "_law_source" "_law_source" sSource f fd) (hA : mg "abs" = none) : FnOk P w K mg base CX0 1 f fd ["_law_cell"] spSource := by
  refine F.ok scSource (fun vs H Q E h => ?_) (fun cdv A outer s H vs Q E hr h => ?_)
  · obtain ⟨n, rfl, _⟩ := h
    rfl
  · obtain ⟨n, rfl, k⟩ := h
    refine ⟨_, pss_one (ps_ret (pe_lst (pa_cons (pe_callB call_abs (by rfl) hA (by decide +kernel) (pa_cons (pv 0) pa_nil)) (pa_cons (pe_op op_mod (pv 0) pe_int) (pa_cons pe_int pa_nil))))), ?_⟩
    refine ⟨_, rfl, _, rfl, ?_⟩
    refine ⟨_, rfl, _, _, rfl, rfl, (by show (0 : Int) < 2147483629; decide), ?_⟩
    refine ⟨(by show 3 ≤ sizeLine; decide), fun p hp => ?_⟩
    exact k p _ hp ⟨_, _, _, (by split <;> omega), upd_same⟩ (Same.new hp)
theorem scDraw : FnScope ["_law_source_here", "_law_many", "_law_found", "_law_number"] ["_law_source_here", "_law_many"] (defScope sDraw) := ⟨rfl, rfl, rfl, by decide +kernel, rfl, by decide +kernel, by decide +kernel⟩
end
end OT

set_option Elab.async false
set_option linter.all false
set_option maxRecDepth 100000
set_option maxHeartbeats 1000000
namespace OT
open PySem L2
section
variable {P : Program} {w : World} {K : PySem.W.Frag} {mg : Str → Option Value} {base : Heap}
theorem mod_in {x m : Int} (h : 0 < m) : 0 ≤ x % m ∧ x % m < m := ⟨Int.emod_nonneg _ (by omega), Int.emod_lt_of_pos _ h⟩
theorem ok_draw {f : Addr} {fd : FuncData} (F : Fun K "_law_draw" "_law_draw" sDraw f fd) : FnOk P w K mg base CX0 1 f fd ["_law_source_here", "_law_many"] spDraw := by
  refine F.ok scDraw (fun vs H Q E h => ?_) (fun cdv A outer s H vs Q E hr h => ?_)
  · obtain ⟨s, m, rfl, _⟩ := h
    rfl
  · obtain ⟨s, m, rfl, ⟨a, b, c, ha, hs⟩, hm0, hm1, k⟩ := h
    refine ⟨_, pss_cons (ps_if (pt_cmpR op_ge (pe_ix ix_list (pv 0) pe_int (fun _ _ => rfl)) (pe_op op_pow pe_int pe_int) (nomark _))
        (pss_cons (ps_set (i := 2) scDraw.nd rfl (Or.inl rfl) (pe_op op_mod (pe_ix ix_list (pv 0) pe_int (fun _ _ => rfl)) (pv 1)))
        (pss_cons (ps_asg (pe_op op_fdiv (pe_ix ix_list (pv 0) pe_int (fun _ _ => rfl)) (pv 1)) (pg_sub (pv 0) pe_int set_list))
        (pss_one (ps_ret (pv 2))))) pss_nil)
      (pss_cons (ps_asg (pe_op op_add (pe_ix ix_list (pv 0) pe_int (fun _ _ => rfl)) pe_int) (pg_sub (pv 0) pe_int set_list))
      (pss_cons (ps_set (i := 3) scDraw.nd rfl (Or.inl rfl) (pe_op op_mod (pe_op op_mul (pe_op op_add (pe_op op_add (pe_ix ix_list (pv 0) pe_int (fun _ _ => rfl)) (pe_op op_mul pe_int (pe_ix ix_list (pv 0) pe_int (fun _ _ => rfl)))) pe_int) pe_int) pe_int))
      (pss_cons (ps_set (i := 3) scDraw.nd rfl (Or.inl rfl) (pe_op op_mod (pe_op op_mul (pv 3) (pe_op op_add (pe_op op_fdiv (pv 3) pe_int) pe_int)) pe_int))
      (pss_one (ps_ret (pe_op op_mod (pe_op op_mod (pe_op op_add (pe_op op_fdiv (pv 3) pe_int) (pe_op op_mul (pe_op op_mod (pv 3) pe_int) pe_int)) pe_int) (pv 1))))))), ?_⟩
    refine ⟨_, rfl, _, _, _, _, rfl, rfl, SqL.of hs, rfl, _, _, rfl, rfl, ⟨by decide, by decide, by decide⟩, _, _, rfl, rfl, _, rfl, ?_⟩
    refine ite2 (fun _ => ?_) (fun _ => ?_)
    · refine ⟨_, rfl, _, _, _, _, rfl, rfl, SqL.of hs, rfl, _, rfl, _, _, rfl, rfl, hm0, ?_⟩
      refine ⟨_, rfl, _, _, _, _, rfl, rfl, SqL.of hs, rfl, _, rfl, _, _, rfl, rfl, ⟨hm0, hm1⟩, ?_⟩
      refine ⟨_, rfl, _, _, _, _, rfl, rfl, hs, rfl, ?_⟩
      refine ⟨_, rfl, ?_⟩
      exact k _ _ (mod_in hm0).1 (mod_in hm0).2 ⟨_, _, _, Int.ediv_nonneg ha (by omega), upd_same⟩ But.upd
    · refine ⟨_, rfl, _, _, _, _, rfl, rfl, SqL.of hs, rfl, _, _, rfl, rfl, ?_⟩
      refine ⟨_, rfl, _, _, _, _, rfl, rfl, hs, rfl, ?_⟩
      have hs' : SqL K (upd H s (.lst [.int a, .int b, .int (c + 1)])) s [.int a, .int b, .int (c + 1)] := SqL.of upd_same
      refine ⟨_, rfl, _, _, _, _, rfl, rfl, hs', rfl, _, rfl, _, _, _, _, rfl, rfl, hs', rfl, _, _, rfl, rfl, .inl ⟨by decide, by decide⟩, _, _, rfl, rfl, _, _, rfl, rfl, _, _, rfl, rfl, .inr ⟨by decide, by decide⟩, _, _, rfl, rfl, (by show (0 : Int) < 2147483647; decide), ?_⟩
      generalize hx : ((b + 7919 * (c + 1) + 1) * 48271 % 2147483647 : Int) = x
      have x0 : 0 ≤ x ∧ x < 2147483647 := by rw [← hx]; exact mod_in (by decide)
      refine ⟨_, rfl, _, rfl, _, _, rfl, rfl, ⟨by decide, by decide⟩, _, _, rfl, rfl, _, _, rfl, rfl, .inl ⟨by omega, by omega⟩, _, _, rfl, rfl, (by show (0 : Int) < 2147483587; decide), ?_⟩
      generalize hy : (x * (x / 1013 + 69621) % 2147483587 : Int) = y
      refine ⟨_, rfl, _, _, rfl, rfl, ⟨by decide, by decide⟩, _, rfl, _, _, rfl, rfl, (by show (0 : Int) < 7919; decide), _, _, rfl, rfl, .inr ⟨by decide, by decide⟩, _, _, rfl, rfl, _, _, rfl, rfl, (by show (0 : Int) < 2147483399; decide), _, rfl, _, _, rfl, rfl, hm0, ?_⟩
      exact k _ _ (mod_in hm0).1 (mod_in hm0).2 ⟨_, _, _, ha, upd_same⟩ But.upd
end
end OT

set_option Elab.async false
set_option linter.all false
set_option maxRecDepth 100000
set_option maxHeartbeats 1000000
/-! further rules: a list against [], a list against its copy; the reverse of a tuple; enumerate of a tuple -/
namespace OTR
open PySem PySem.Spec PyProof.Rows L2
section
variable {X : Cx}
/-- xs != [] -/
def rNeNil (K : PySem.W.Frag) : R2 := fun x y H Q => ∃ a b xs, x = .ref a ∧ y = .ref b ∧ SqL K H a xs ∧ SqL K H b [] ∧ Q (.bl (!xs.isEmpty)) H
def rEqNil (K : PySem.W.Frag) : R2 := fun x y H Q => ∃ a b xs, x = .ref a ∧ y = .ref b ∧ SqL K H a xs ∧ SqL K H b [] ∧ Q (.bl xs.isEmpty) H
theorem op_neNil (hu : X.A.units < cLine) : OpR X (compareOp .NotEq) (rNeNil X.K) := by
  intro pins s σ H x y v u Q I rx ry h
  obtain ⟨a, b, xs, rfl, rfl, ha, hb, q⟩ := h
  obtain rfl : v = Value.ref a := rx
  obtain rfl : u = Value.ref b := ry
  obtain ⟨us, r1, p1, _⟩ := I.list ha
  obtain ⟨ws, r2, p2, _⟩ := I.list hb
  cases r2
  show wpAny (model X.prog X.w) X.A (richCompare .NotEq (.ref a) (.ref b)) _ _ _
  cases xs with
  | nil =>
    cases r1
    have z := SeqAt.RcNeAt.lists (A := X.A) (s := s) (e := fun _ => true) p1.isList p2.isList rfl hu (fun j h1 _ => absurd h1 (Nat.not_lt_zero j))
    exact z X.prog X.w _ _ ⟨.bl false, H, I, rfl, q⟩
  | cons y ys =>
    cases r1 with
    | cons r1 rr =>
      have z := SeqAt.RcNeAt.lists_lengths (A := X.A) (s := s) p1.isList p2.isList (by simp) hu
      exact z X.prog X.w _ _ ⟨.bl true, H, I, rfl, q⟩
/-- xs != ys where they hold the same things (a copy): False -/
def rNeSame (K : PySem.W.Frag) : R2 := fun x y H Q => ∃ a b xs, x = .ref a ∧ y = .ref b ∧ SqL K H a xs ∧ SqL K H b xs ∧ (∀ v ∈ xs, flatB v = true ∨ ∃ p, v = .ref p) ∧ Q (.bl false) H
theorem same_at {A : Around} {s : Shared} {v : V} {u w : Value} (r : RelV v u) (k : RelV v w) (h : flatB v = true ∨ ∃ p, v = .ref p) : SeqAt.EqAt A s u w true := by
  rcases h with h | ⟨p, rfl⟩
  · exact eqAt_same r k h
  · cases (show u = Value.ref p from r)
    cases (show w = Value.ref p from k)
    exact SeqAt.EqAt.same _
theorem same_run {A : Around} {s : Shared} {xs : List V} (h : ∀ v ∈ xs, flatB v = true ∨ ∃ p, v = .ref p) : ∀ {us ws : List Value}, Vals xs us → Vals xs ws → ∀ (j : Nat) (h1 : j < us.length) (h2 : j < ws.length), SeqAt.EqAt A s us[j] ws[j] true := by
  induction xs with
  | nil =>
    intro us ws r1 r2 j h1 h2
    cases r1
    exact absurd h1 (Nat.not_lt_zero j)
  | cons v xs ih =>
    intro us ws r1 r2 j h1 h2
    cases r1 with
    | cons a1 b1 =>
      cases r2 with
      | cons a2 b2 =>
        cases j with
        | zero => exact same_at a1 a2 (h v (List.mem_cons_self ..))
        | succ j => exact ih (fun v hv => h v (List.mem_cons_of_mem _ hv)) b1 b2 j (Nat.lt_of_succ_lt_succ h1) (Nat.lt_of_succ_lt_succ h2)
theorem op_neSame (hu : X.A.units < cLine) : OpR X (compareOp .NotEq) (rNeSame X.K) := by
  intro pins s σ H x y v u Q I rx ry h
  obtain ⟨a, b, xs, rfl, rfl, ha, hb, hx, q⟩ := h
  obtain rfl : v = Value.ref a := rx
  obtain rfl : u = Value.ref b := ry
  obtain ⟨us, r1, p1, _⟩ := I.list ha
  obtain ⟨ws, r2, p2, _⟩ := I.list hb
  show wpAny (model X.prog X.w) X.A (richCompare .NotEq (.ref a) (.ref b)) _ _ _
  have z := SeqAt.RcNeAt.lists (A := X.A) (s := s) (e := fun _ => true) p1.isList p2.isList (by simp [← r1.length, ← r2.length]) hu (fun j h1 h2 => by
    have k := same_run (A := X.A.in1) (s := s) hx r1 r2 j (by simpa using h1) (by simpa using h2)
    simpa using k)
  rw [show ((List.range us.toArray.size).all fun _ => true) = true from List.all_eq_true.mpr fun _ _ => rfl] at z
  exact z X.prog X.w _ _ ⟨.bl false, H, I, rfl, q⟩
end
/-! ### t[::-1] of a tuple -/
section
variable {prog : Program} {w : World} {A : Around} {E : Value → Shared → Prop} {s : Shared}
theorem adjust_rev (n : Nat) : Builtin.Slice.sliceAdjust none none (-1) (n : Int) = ((n : Int) - 1, -1) := by
  unfold Builtin.Slice.sliceAdjust
  simp
theorem places_rev (n : Nat) : Builtin.Slice.slicePlaces ((n : Int) - 1) (-1) (-1) = n := by
  unfold Builtin.Slice.slicePlaces
  have h1 : ¬ ((-1 : Int) > 0) := by omega
  simp only [h1, if_false]
  split
  · have e : ((n : Int) - 1 - -1 - 1) / (- -1) + 1 = n := by
      rw [show (- -1 : Int) = 1 by decide, Int.ediv_one]
      omega
    rw [e]
    simp
  · have e : n = 0 := by omega
    subst e
    rfl
theorem sliceApplied_rev {sl : Addr} {vl vu vs : Value} {n : Nat} {Q : Int × Int × Nat → Shared → Prop} (hs : s.heap.IsSliceOf sl vl vu vs) (pl : IsPart vl none) (pu : IsPart vu none) (ps : IsPart vs (some (-1)))
    (h : Q ((n : Int) - 1, -1, n) s) : wpAny (model prog w) A (Builtin.Slice.sliceApplied (.ref sl) (pure (n : Int))) Q E s := by
  obtain ⟨os, hos, hcs, hds⟩ := id hs
  unfold Builtin.Slice.sliceApplied Builtin.Slice.sliceFields
  refine wpAny_bind (wpAny_bind (wpAny_field hos hds (x := vl) rfl (wpAny_bind (wpAny_field hos hds (x := vu) rfl (wpAny_bind (wpAny_field hos hds (x := vs) rfl (wpAny_pure ?_)))))))
  refine wpAny_bind (HT.slicePart_ ps ?_)
  show wpAny _ _ (if ((-1 : Int) == 0) = true then _ else _) _ _ s
  rw [if_neg (by decide)]
  refine wpAny_bind (HT.slicePart_ pl (wpAny_bind (HT.slicePart_ pu (wpAny_bind (wpAny_pure ?_)))))
  show wpAny _ _ (match Builtin.Slice.sliceAdjust none none (-1) (n : Int) with | (lo, hi) => pure (lo, (-1 : Int), Builtin.Slice.slicePlaces lo hi (-1))) _ _ s
  rw [adjust_rev n]
  show wpAny _ _ (pure ((n : Int) - 1, (-1 : Int), Builtin.Slice.slicePlaces ((n : Int) - 1) (-1) (-1))) _ _ s
  rw [places_rev]
  exact wpAny_pure h
theorem fm_congr {α β : Type} {f g : α → Option β} : ∀ {l : List α}, (∀ a ∈ l, f a = g a) → l.filterMap f = l.filterMap g
  | [], _ => rfl
  | a :: l, h => by
    have h1 := h a (List.mem_cons_self ..)
    have h2 := fm_congr (l := l) fun b hb => h b (List.mem_cons_of_mem _ hb)
    rw [List.filterMap_cons, List.filterMap_cons, h1, h2]
theorem pick_rev (xs : Array Value) : ((List.range xs.size).filterMap fun (m : Nat) => xs[((xs.size : Int) - 1 + (m : Int) * -1).toNat]?).toArray = xs.toList.reverse.toArray := by
  have e : (List.range xs.size).filterMap (fun (m : Nat) => xs[((xs.size : Int) - 1 + (m : Int) * -1).toNat]?) = ((List.range xs.size).map fun k => xs.size - 1 - k).filterMap (xs[·]?) := by
    rw [List.filterMap_map]
    apply fm_congr
    intro m hm
    have h := List.mem_range.mp hm
    have z : ((xs.size : Int) - 1 + (m : Int) * -1).toNat = xs.size - 1 - m := by omega
    rw [z]
    rfl
  rw [e, PySem.W.krv_range, List.filterMap_reverse, PySem.W.krv_all]
theorem getItem_tuple_rev {t sl : Addr} {items : Array Value} {vl vu vs : Value} {Q : Value → Shared → Prop} (ht : IsTup s.heap t items) (hs : s.heap.IsSliceOf sl vl vu vs) (pl : IsPart vl none) (pu : IsPart vu none) (ps : IsPart vs (some (-1)))
    (h : Q (.ref s.heap.objs.size) { s with heap := s.heap.push { cls := .type "tuple", data := .seq items.toList.reverse.toArray } })
    (hsz : items.size ≤ sizeLine) : wpAny (model prog w) A (getItem (.ref t) (.ref sl)) Q E s := by
  have htake : sizeOk (.seq items.toList.reverse.toArray) := by
    show items.toList.reverse.toArray.size ≤ sizeLine
    rw [List.size_toArray, List.length_reverse, Array.length_toList]
    exact hsz
  obtain ⟨os, hos, hcs, hds⟩ := id hs
  have hTs : s.TypeIs (.ref sl) "slice" := ⟨os, hos, hcs⟩
  unfold getItem
  try with_reducible refine wpAny_holding ?_
  first | refine wpAny_bind (wpAny_pure ?_) | skip
  refine wpAny_bind (wpAny_sequenceKey ht.typeIs (by decide) ?_)
  refine wpAny_bind (wpAny_callSpecial?_slot (name := Str.ofString "__getitem__") ht.typeIs PyProof.Rows.slot_tuple_getitem
    (wpAny_call_entry PyProof.Rows.slot_tuple_getitem ht.typeIs entry_tuple_getitem ?_ (args_tuple_getitem _ _)))
  show wpAny _ _ (Builtin.Tuple.tupleItemsOf (.ref t) >>= _) _ _ s
  refine wpAny_bind (tupleItemsOf_ ht ?_)
  refine wpAny_bind (wpAny_typeOf hTs ?_)
  rw [if_pos (by decide)]
  refine wpAny_bind (sliceApplied_rev hs pl pu ps ?_)
  have hno : ¬ ((((items.size : Int) - 1) == 0 && (-1 : Int) == 1 && items.size == items.size) = true) := by
    intro q
    rw [Bool.and_eq_true, Bool.and_eq_true] at q
    exact absurd (eq_of_beq q.1.2) (by decide)
  show wpAny _ _ (if (((items.size : Int) - 1) == 0 && (-1 : Int) == 1 && items.size == items.size) = true then _ else _) _ _ s
  rw [if_neg hno, pick_rev]
  first
    | exact wpAny_bind (m := Builtin.Tuple.tupleExact _) (wpAny_newObj_type (wpAny_pure ⟨_, rfl, wpAny_pure h⟩) htake)
    | exact wpAny_bind (m := Builtin.Tuple.tupleExact _) (wpAny_newObj_type (wpAny_bind (wpAny_pure (wpAny_pure ⟨_, rfl, wpAny_pure h⟩))) htake)
    | exact wpAny_bind (wpAny_bind (m := Builtin.Tuple.tupleExact _) (wpAny_newObj_type (wpAny_pure (wpAny_pure ⟨_, rfl, wpAny_pure h⟩)) htake))
    | exact wpAny_bind (wpAny_bind (m := Builtin.Tuple.tupleExact _) (wpAny_newObj_type (wpAny_pure ⟨_, rfl, wpAny_pure h⟩) htake))
end
section
variable {X : Cx}
def tRevT (K : PySem.W.Frag) (te : TE) : TE := fun σ H Q => te σ H fun x H1 => ∃ a xs, x = .ref a ∧ SqT K H1 a xs ∧ ∀ p, H1 p = none → Q (.ref p) (upd H1 p (.tup xs.reverse))
theorem pe_revT {e : Expr} {te : TE} {k : Nat} {p1 p2 p3 pos : Pos} (he : PE X e te) : PE X (.Subscript e (.Slice none none (some (.UnaryOp .USub (.Constant (.int 1) k p1) p2)) p3) pos) (tRevT X.K te) := by
  refine ⟨fun pins s σ H Q I h => ?_⟩
  refine Subscript_ (thn (he.run pins s σ H _ I h) fun v s1 ⟨x, H1, I1, r1, q1⟩ => ?_)
  obtain ⟨a, xs, ex, hx, q⟩ := q1
  subst ex
  cases r1
  have hst : PO X (some (.UnaryOp .USub (.Constant (.int 1) k p1) p2)) (tPart (tUn (rU fun i => .int (-i)) (tC (.int 1)))) := po_some (pe_un un_neg pe_int)
  refine wpAny_Slice (thn (po_none.run pins s1 σ H1 (fun o H2 => o = none ∧ H2 = H1) I1 ⟨rfl, rfl⟩) fun vl s2 ⟨l, H2, I2, pl, el, e2⟩ => ?_)
  subst el e2
  refine thn (po_none.run pins s2 σ H2 (fun o H3 => o = none ∧ H3 = H2) I2 ⟨rfl, rfl⟩) fun vu s3 ⟨u, H3, I3, pu, eu, e3⟩ => ?_
  subst eu e3
  refine thn (hst.run pins s3 σ H3 (fun o H4 => o = some (-1) ∧ H4 = H3) I3 ⟨1, rfl, -1, rfl, rfl, rfl⟩) fun vs s4 ⟨o, H4, I4, ps, eo, e4⟩ => ?_
  subst eo e4
  have I5 : Inv X pins σ H4 { s4 with heap := s4.heap.push { cls := .type "slice", data := .fields #[vl, vu, vs] } } := I4.kept (t' := s4.toks) fun b ob q => Heap.get?_push_of_some _ q
  obtain ⟨its, r, ht, hz⟩ := I5.tuple hx
  have hlen := r.length
  show wpAny (model X.prog X.w) X.A (subscriptTail e (.Slice none none (some (.UnaryOp .USub (.Constant (.int 1) k p1) p2)) p3) (.ref a) (.ref s4.heap.objs.size)) (EP X pins σ Q) X.xe { s4 with heap := s4.heap.push { cls := .type "slice", data := .fields #[vl, vu, vs] } }
  refine tail_any (ops := [.ref a, .ref s4.heap.objs.size]) ht.typeIs (PyProof.Rows.slot_tuple_getitem.lookup) ?_ (by with_unfolding_all rfl)
  refine getItem_tuple_rev ht (Heap.IsSliceOf.new _ vl vu vs) pl pu ps ?_ (by rw [List.size_toArray]; omega)
  refine ⟨.ref _, _, I5.laid (t' := s4.toks) (o := .tup xs.reverse) (fun b ob q => Heap.get?_push_of_some _ q) (Nat.le_refl _) ?_, rfl, q _ (I5.hok.fresh (Nat.le_refl _))⟩
  refine ⟨by rw [List.length_reverse]; exact hz, its.reverse, r.reverse, ?_⟩
  have e := Heap.get?_push_size (s4.heap.push { cls := .type "slice", data := .fields #[vl, vu, vs] }) (o := { cls := .type "tuple", data := .seq its.reverse.toArray }) rfl
  exact ⟨_, by simpa using e, rfl, _, rfl⟩
end
end OTR

set_option Elab.async false
set_option linter.all false
set_option maxRecDepth 100000
set_option maxHeartbeats 1000000
namespace OTR
open PySem PySem.Spec PyProof.Rows L2
/-! ### enumerate(t), t a tuple -/
theorem meets_enumerate_new1 {v : Value} {ob : Obj} {H : Heap → Prop} (B : Begins v ob H) :
    Meets (Builtin.«enumerate.__new__» ⟨[.type "enumerate", v], []⟩) (fun _ R s => H s.heap ∧
      R (.ok (.ret (.ref (s.heap.push ob).objs.size))) { s with heap := (s.heap.push ob).push { cls := .type "enumerate", data := .fields #[.none, .bool false, .ref s.heap.objs.size, rawInt 0, .none, .none] } }) :=
  .of_wp fun prg w A R s h => by
    obtain ⟨hp, g, d, tk, os⟩ := s; obtain ⟨t1, h⟩ := h
    have hsub := sub_enumerate
    have qv : ∀ {A' : Around} {Er : Value → Shared → Prop} {Q : Value → Shared → Prop}, Q (.ref hp.objs.size) ⟨hp.push ob, g, d, tk, os⟩ → wpAny (model prg w) A' (pyIter v) Q Er ⟨hp, g, d, tk, os⟩ :=
      fun q => B.iter prg w _ _ ⟨hp, g, d, tk, os⟩ _ t1 q
    wp_walk using qv
    refine wpAny_stack_any fun _ => wpAny_pure ?_
    split
    · rename_i c _ _ _ _ _
      cases (c == Value.type "enumerate")
      · wp_walk using qv
        exact ⟨_, rfl, h⟩
      · wp_walk using qv
        exact ⟨_, rfl, h⟩
    · wp_walk using qv
      exact ⟨_, rfl, h⟩
section
variable {prg : Program} {w : World} {A : Around} {Er : Value → Shared → Prop} {s : Shared}
theorem enum_begins1 {v : Value} {ob : Obj} {H : Heap → Prop} {Q : Value → Shared → Prop} (B : Begins v ob H) (t1 : H s.heap)
    (h : ∀ g1, IsEnum g1 (s.heap.objs.size + 1) s.heap.objs.size 0 .none → g1.get? s.heap.objs.size = some ob → g1.objs.size = s.heap.objs.size + 2 →
      (∀ bb ob, s.heap.get? bb = some ob → g1.get? bb = some ob) → Q (.ref (s.heap.objs.size + 1)) { s with heap := g1 }) :
    wpAny (model prg w) A (call (.type "enumerate") [v]) Q Er s := by
  refine callType_new F.called_enumerate (by decide) (F.typeCall_enumerate_1 _) (F.newCall_enumerate_1 _) (fun x => F.args_object_init_2 x _) F.entry_enumerate_new
    (meets_enumerate_new1 B) ⟨t1, ?_⟩
  have sm : (s.heap.push ob).objs.size = s.heap.objs.size + 1 := Heap.size_push ..
  show _ ∧ _
  rw [sm]
  have en : IsEnum ((s.heap.push ob).push { cls := .type "enumerate", data := .fields #[.none, .bool false, .ref s.heap.objs.size, rawInt 0, .none, .none] }) (s.heap.objs.size + 1) s.heap.objs.size 0 .none := by
    have := Heap.get?_push_size (s.heap.push ob) (o := { cls := .type "enumerate", data := .fields #[.none, .bool false, .ref s.heap.objs.size, rawInt 0, .none, .none] }) rfl
    rw [sm] at this; exact this
  refine ⟨⟨_, en, rfl⟩, h _ en (Heap.get?_push_of_some _ (Heap.get?_push_size _ B.free)) (by rw [Heap.size_push, sm]) fun bb ob x => Heap.get?_push_of_some _ (Heap.get?_push_of_some _ x)⟩
end
def IteT (K : PySem.W.Frag) (a : Addr) : It :=
  ⟨fun i H => ∃ (xs : List V) (x : V), SqT K H a xs ∧ xs[i]? = some x, fun i H v H' => ∃ T x, v = .ref T ∧ H T = none ∧ H' = upd H T (.tup [.int (i : Nat), x]) ∧ ∀ xs, SqT K H a xs → xs[i]? = some x, fun i H => ∃ xs : List V, SqT K H a xs ∧ i = xs.length⟩
theorem turn_enumT {P : Program} {w : World} {K : PySem.W.Frag} {elts : List Expr} {kk : Nat} {tpos : Pos} (a e it : Addr) :
    Turn P w K (.Tuple elts kk tpos) (IteT K a) [e, it] e (fun i h => (∃ prv, IsEnum h e it ((i : Nat) : Int) prv) ∧ h.IsTupleIter it a i ∧ e ≠ it ∧ e ≠ a ∧ a ≠ it) where
  mem := by simp
  obj := fun i h st bb mb => by
    obtain ⟨⟨prv, en⟩, ⟨ob, hob, cal, hd⟩, _⟩ := st
    have alt : bb = e ∨ bb = it := by simpa using mb
    rcases alt with z | z
    · rw [z]; exact ⟨_, en, fun v q => nomatch q⟩
    · rw [z]; exact ⟨ob, hob, fun v q => by rw [hd] at q; cases q⟩
  keep := fun i h g1 st k => let ⟨⟨prv, en⟩, hi, n1⟩ := st; ⟨⟨prv, k e (by simp) _ en⟩, hi.at fun ob q => k it (by simp) ob q, n1⟩
  item := by
    intro X aP aw aK cal i pn s st1 H Er I off st hg
    subst aP aw aK
    obtain ⟨⟨prv, en⟩, ti, n1, n2, n3⟩ := st
    obtain ⟨xs, x, sq, hx⟩ := hg
    obtain ⟨ws, rel, p, sm⟩ := I.tuple sq
    obtain ⟨u, gu, relu⟩ := rel.get hx
    have lte : e < s.heap.objs.size := Heap.lt_size en
    have lti : it < s.heap.objs.size := by obtain ⟨_, q, _⟩ := ti; exact Heap.lt_size q
    have lti2 : i < ws.length := (List.getElem?_eq_some_iff.mp gu).1
    have D := Draws.tuple (prog := X.prog) (w := X.w) (A := X.A.in1) (I.ok.hd cal) it a n3 ws.toArray
    refine wpAny_pyNext_enum_itemD D en ⟨ti, p⟩ (by simpa using lti2) n1 (by simp [n1, n2]) fun y g1 tk hyy hob hst' hT szz kp => ?_
    obtain ⟨hit', _⟩ := hst'
    have ey : y = u := by
      have z : ws[i]? = some y := by simpa using hyy
      rw [gu] at z
      exact (Option.some.inj z).symm
    subst ey
    refine ⟨_, rfl, wpAny_letOwnedTupleGo_enum (s := { s with heap := g1, toks := tk + 1 }) hob fun g2 he' sb => ?_⟩
    have hT2 : g2.get? s.heap.objs.size = some { cls := .type "tuple", data := .seq #[.int i tk, y] } := (sb.2 _ (Nat.ne_of_gt lte)).trans hT
    have new : ObjOk X.prog X.w (upd H s.heap.objs.size (.tup [.int (i : Nat), x])) g2 s.heap.objs.size (.tup [.int (i : Nat), x]) :=
      ⟨by show 2 ≤ sizeLine; decide, [.int i tk, y], .cons ⟨_, rfl⟩ (.cons relu .nil), ⟨_, hT2, rfl, _, rfl⟩⟩
    have In1 : Inv X pn st1 (upd H s.heap.objs.size (.tup [.int (i : Nat), x])) { s with heap := g2, toks := tk + 1 } :=
      I.turnedNew (ch := [e, it]) (fun bb ob mb q => (sb.2 bb (fun z => mb (by simp [z]))).trans (kp bb ob (fun z => mb (by simp [z])) (fun z => mb (by simp [z])) q)) off (Nat.le_refl _) new
    refine ⟨.ref s.heap.objs.size, _, In1, rfl, ⟨_, x, rfl, I.hok.fresh (Nat.le_refl _), rfl, fun ys hyy => by rw [I.tuple_inj hyy sq]; exact hx⟩, ⟨⟨y, ?_⟩, hit'.at fun ob q => (sb.2 it (Ne.symm n1)).trans q, n1, n2, n3⟩, fun bb mb => ?_⟩
    · have nxt1 : ((i + 1 : Nat) : Int) = (i : Int) + 1 := by omega
      rw [nxt1]; exact he'
    · have mb2 : bb < s.heap.objs.size := by
        have alt : bb = e ∨ bb = it := by simpa using mb
        rcases alt with z | z
        · rw [z]; exact lte
        · rw [z]; exact lti
      rw [upd_ne (Nat.ne_of_lt mb2)]
      exact (off bb mb).1
  done := by
    intro X aP aw aK cal i pn s st1 H Er I off st hg
    subst aP aw aK
    obtain ⟨⟨prv, en⟩, ti, n1, n2, n3⟩ := st
    obtain ⟨xs, sq, hx⟩ := hg
    obtain ⟨ws, rel, p, sm⟩ := I.tuple sq
    obtain ⟨f0, f1, f2, f3, f4, f5⟩ := off it (by simp)
    have len1 := rel.length
    have eqi : i = ws.toArray.size := by simp; omega
    have D := Draws.tuple (prog := X.prog) (w := X.w) (A := X.A.in1) (I.ok.hd cal) it a n3 ws.toArray
    have stands : s.heap.IsTupleIter it a ws.toArray.size ∧ s.heap.IsTuple a ws.toArray := ⟨eqi ▸ ti, p⟩
    exact wpAny_pyNext_enum_endD D en stands fun g1 keepb => ⟨rfl, I.turned (t' := s.toks) (fun bb ob mb q => keepb bb ob mb q) f0 f1 f3 f4 f5⟩
  self := fun A i s Q Er st h => let ⟨⟨_, en⟩, _⟩ := st; wpAny_pyIter_enum en h
def iEnumT (K : PySem.W.Frag) (ta : TA) : TI := fun st1 H R => ta st1 H fun vs Hq => ∃ a xs, vs = [.ref a] ∧ SqT K Hq a xs ∧ R (IteT K a) Hq
theorem pi_enumT {X : Cx} {e : Expr} {ta : TA} {p pos tpos : Pos} {elts : List Expr} {kk : Nat} (hg : Gl X "enumerate") (hm : X.mg "enumerate" = none) (ha : PA X [e] ta) (hs : starEach [e] X.env = [(false, eval e X.env)] := by rfl) :
    PI X (.Tuple elts kk tpos) (.Call (.Name "enumerate" p) [e] [] pos) (iEnumT X.K ta) := by
  refine ⟨fun pn s st1 H R I h => ?_⟩
  refine Call_ (ld_blt I hg hm boot_enumerate (PyProof.Rows.callWith_type1 (thn (ha.run pos pn s st1 H _ I h) fun uu sq1 ⟨vs, Hq, In1, rq, qv⟩ => ?_) hs rfl))
  obtain ⟨a, xs, ex, sq, q⟩ := qv
  subst ex
  cases rq with
  | cons r rr =>
    cases rr
    cases r
    obtain ⟨ws, rel, p', sm⟩ := In1.tuple sq
    have lta : a < sq1.heap.objs.size := p'.lt
    refine enum_begins1 (begins_tuple a ws.toArray) p' fun g1 en ti szz kp => wpAny_pyIter_enum en ?_
    have In2 : Inv X pn st1 Hq { sq1 with heap := g1 } := In1.kept (t' := sq1.toks) kp
    refine ⟨sq1.heap.objs.size + 1, [sq1.heap.objs.size + 1, sq1.heap.objs.size], _, _, Hq, rfl, In2, turn_enumT a (sq1.heap.objs.size + 1) sq1.heap.objs.size, ⟨⟨.none, en⟩, ⟨_, ti, rfl, rfl⟩, Nat.succ_ne_self _, Nat.ne_of_gt (Nat.lt_succ_of_lt lta), Nat.ne_of_lt lta⟩, fun bb mb => ?_, q⟩
    have alt : bb = sq1.heap.objs.size + 1 ∨ bb = sq1.heap.objs.size := by simpa using mb
    have low : sq1.heap.objs.size ≤ bb := by
      rcases alt with z | z
      · rw [z]; exact Nat.le_add_right _ _
      · rw [z]; exact Nat.le_refl _
    exact In1.fpOk low (In1.hok.fresh low)
theorem walk_enumT {K : PySem.W.Frag} {a : Addr} {xs : List V} : Walk (IteT K a) xs.length (fun H => SqT K H a xs) (YPair (fun i => some (.int (i : Nat))) (fun i => xs[i]?)) := by
  refine ⟨fun i _ hi q => ⟨xs, xs[i], q, by simp [hi]⟩, fun _ q => ⟨xs, q, rfl⟩, fun i H v H' _ q y => ?_⟩
  obtain ⟨T, x, t1, t2, t3, t4⟩ := y
  exact ⟨T, .int (i : Nat), x, t1, t2, t3, rfl, t4 xs q⟩
/-! ### xs.count(True) of a list of True, False -/
theorem bools_of_vals : ∀ {bs : List Bool} {uu : List Value}, Vals (bs.map V.bl) uu → uu = bs.map Value.bool
  | [], uu, r => by cases r; rfl
  | bb :: bs, uu, r => by
    cases r with
    | cons h t =>
      cases (show _ = Value.bool bb from h)
      rw [bools_of_vals t]
      rfl
def rCntB (K : PySem.W.Frag) : V → List V → Hp → VK → Prop := fun x xs H Q => ∃ (p : Addr) (bs : List Bool), x = .ref p ∧ xs = [.bl true] ∧ SqL K H p (bs.map V.bl) ∧ Q (.int (bs.count true : Nat)) H
theorem mt_countB {X : Cx} : MtR X "list.count" (rCntB X.K) := by
  intro pn s st1 H x xs v uu Q I rx relx h
  obtain ⟨p, bs, rfl, rfl, hs, q⟩ := h
  cases rx
  obtain ⟨u, rfl, relu⟩ := relx.one
  cases (show u = Value.bool true from relu)
  obtain ⟨ws, rel, ⟨⟨cls, dct, data, sl⟩, n, hob, cal, nd, hd⟩, short⟩ := I.list hs
  simp only at cal hd
  subst cal hd
  have e := bools_of_vals rel
  subst e
  refine call_meets PySem.F.slot_list_count ⟨_, hob, rfl⟩ PySem.F.entry_list_count (PySem.F.args_list_count_2 _ _)
    (SeqAt.list_countAt p (bs.map Value.bool).toArray n dct sl (.bool true) (fun y => y == .bool true)) ⟨hob, fun y hyy => ?_, ?_⟩
  · have hy' : y ∈ bs.map Value.bool := by simpa using hyy
    obtain ⟨bb, _, rfl⟩ := List.mem_map.mp hy'
    have z := SeqAt.EqAt.bool_bool (A := X.A.in1) (s := s) bb true
    have e : ((Value.bool bb == Value.bool true) : Bool) = (bb == true) := by cases bb <;> rfl
    rw [e]
    exact z
  · have cnt : (bs.map Value.bool).toArray.toList.countP (fun y => y == Value.bool true) = bs.count true := by
      rw [List.toList_toArray, List.countP_map, List.count]
      congr 1
      funext bb
      cases bb <;> rfl
    refine ⟨.int (bs.count true : Nat), H, I.tok _, ⟨s.toks, ?_⟩, q⟩
    show Value.int (((bs.map Value.bool).toArray.toList.countP (fun y => y == Value.bool true) : Nat) : Int) s.toks = Value.int ((bs.count true : Nat) : Int) s.toks
    rw [cnt]
end OTR

set_option Elab.async false
set_option linter.all false
set_option maxRecDepth 100000
set_option maxHeartbeats 1000000
namespace OTR
open PySem PySem.Spec PyProof.Rows L2
/-! ### isinstance(e, C), e the error that the suite holds, with a dict of ws own -/
section
variable {X : Cx} {a : Addr} {oe : Obj} {cls : Value} {d : Option Addr} {pn : List (Addr × Obj)}
def rIsX (K : PySem.W.Frag) (a : Addr) (cls : Value) (d : Option Addr) : List V → Hp → VK → Prop := fun xs H Qr => ∃ (D dd : Addr) (fs : List (Str × V)) (c : V) (cv : Value) (b : Bool), cls = .ref D ∧ d = some dd ∧ H dd = some (.xd fs) ∧ xs = [.ref a, c] ∧ ClsV c cv ∧ ExcC K D ∧ PySem.W.kitOne K (.ref D) cv = some b ∧ Qr (.bl b) H
def rIsXT (K : PySem.W.Frag) (a : Addr) (cls : Value) (d : Option Addr) : List V → Hp → VK → Prop := fun xs H Qr => ∃ (D dd tp : Addr) (fs : List (Str × V)) (cs : List V) (uu : List Value) (b : Bool), cls = .ref D ∧ d = some dd ∧ H dd = some (.xd fs) ∧ xs = [.ref a, .ref tp] ∧ H tp = some (.tup cs) ∧ Paired ClsV cs uu ∧ ExcC K D ∧ PySem.W.kitAny K (.ref D) uu = some b ∧ Qr (.bl b) H
theorem inst_of {qs : List (Addr × Obj)} {σ : L2.St} {H : Hp} {s : Shared} {D dd : Addr} {fs : List (Str × V)} (I : Inv (X.suite a ((a, oe) :: pn)) qs σ H s) (hz : Zc (.ref D) (some dd) oe) (hf : ∃ vs, oe.data = .fields vs) (h : H dd = some (.xd fs)) : ∃ od : Obj, PySem.W.InstAt s.heap a oe D (some od) := by
  obtain ⟨ha, _⟩ := I.pin (a, oe) (List.mem_append_left _ List.mem_cons_self)
  obtain ⟨vs, hd⟩ := hf
  have hx : ObjOk X.prog X.w H s.heap dd (.xd fs) := I.hok dd _ h
  obtain ⟨mA, nsq, hr⟩ := hx
  obtain ⟨od, hob, lks⟩ := lookIn_ns nsq
  exact ⟨od, ha, hz.1, by unfold PySem.W.notCls; rw [hd] <;> rfl, by rw [hz.2]; exact hob⟩
theorem excC_cl {K : PySem.W.Frag} {D : Addr} (C : ExcC K D) : (PySem.W.clsIn K D).isSome = true := by
  obtain ⟨cd, hc, _⟩ := PySem.W.any_some C.hd
  rw [hc]
  rfl
theorem call_isX (hz : Zc cls d oe) (hf : ∃ vs, oe.data = .fields vs) : CallR (X.suite a ((a, oe) :: pn)) (.builtin "isinstance") (rIsX X.K a cls d) := by
  intro qs s σ H xs uu Qr I r h
  obtain ⟨D, dd, fs, c, cv, b, rfl, rfl, hx, rfl, hcv, C, e, q⟩ := h
  obtain ⟨ua, ub, rfl, ra, rb⟩ := vals2 r
  cases (show ua = Value.ref a from ra)
  have ec := hcv.eq rb
  subst ec
  obtain ⟨od, J⟩ := inst_of I hz hf hx
  exact PySem.W.kia_one (PySem.W.kitx_exc (excC_cl C) C.hg C.hk C.hs C.ha C.hn C.ht C.hm) I.kIn J e (fun z => nomatch z) fun tk => ⟨.bl b, H, I.kept (t' := tk) fun _ _ z => z, rfl, q⟩
theorem call_isXT (hz : Zc cls d oe) (hf : ∃ vs, oe.data = .fields vs) : CallR (X.suite a ((a, oe) :: pn)) (.builtin "isinstance") (rIsXT X.K a cls d) := by
  intro qs s σ H xs uu Qr I r h
  obtain ⟨D, dd, tp, fs, cs, ws, b, rfl, rfl, hx, rfl, hT, k, C, e, q⟩ := h
  obtain ⟨ua, ub, rfl, ra, rb⟩ := vals2 r
  cases (show ua = Value.ref a from ra)
  cases (show ub = Value.ref tp from rb)
  obtain ⟨od, J⟩ := inst_of I hz hf hx
  obtain ⟨_, ws, rel, o, t1, t2, n, t3⟩ := (show ObjOk X.prog X.w H s.heap tp (.tup cs) from I.hok tp _ hT)
  have e3 := ClsV.all k rel
  subst e3
  obtain ⟨oc, od', dt, sl⟩ := o
  simp only at t2 t3
  subst t2 t3
  exact PySem.W.kia_tup (PySem.W.kitx_exc (excC_cl C) C.hg C.hk C.hs C.ha C.hn C.ht C.hm) I.kIn J t1 e (fun z => nomatch z) fun tk => ⟨.bl b, H, I.kept (t' := tk) fun _ _ z => z, rfl, q⟩
end
/-! ### errors of the program's own: what is wanted of the one that is raised -/
/-- of an error of the class at C, with these fields: whatever ws dict's place -/
def Raised (C : Addr) (fs : List (Str × V)) (H : Hp) (E : XK) : Prop := ∀ (d : Addr) (H' : Hp), (∀ b o, H b = some o → H' b = some o) → H d = none → H' d = some (.xd fs) → E (.ref C) (some d) H'
theorem Raised.mono {C : Addr} {fs : List (Str × V)} {H H1 : Hp} {E : XK} (h : Raised C fs H E) (s : ∀ b o, H b = some o → H1 b = some o) : Raised C fs H1 E := fun d H' s' n e => h d H' (fun b o z => s' b o (s b o z)) (by
  cases q : H d with
  | none => rfl
  | some o =>
    rw [s d o q] at n
    cases n) e
/-- an error class with an __init__ of ws own -/
structure ErT (K : PySem.W.Frag) (mg : Str → Option Value) (nm : Str) (C fI : Addr) : Prop where
  gC : mg nm = some (.ref C)
  ox : OexC K C
  xf : XfC K C
  ex : ExcC K C
  iC : PySem.W.findIn K (.ref C) "__init__" = some (some (.ref fI))
  tI : PySem.W.typeIn K (.ref fI) = some (.type "function")
/-- __init__(self, f): self.f = f -/
def spEr1 (C : Addr) (f : Str) : Sp := fun vs H Qr _ => ∃ (a : Addr) (v : V), vs = [.ref a, v] ∧ H a = some (exo a C none) ∧ ∀ dx, H dx = none → dx ≠ a → Qr .non (upd (upd H dx (exd dx [(f, v)])) a (exo a C (some dx)))
/-- __init__(self, f, g): self.f = f; self.g = g -/
def spEr2 (C : Addr) (f g : Str) : Sp := fun vs H Qr _ => ∃ (a : Addr) (v y : V), vs = [.ref a, v, y] ∧ H a = some (exo a C none) ∧ ∀ dx, H dx = none → dx ≠ a → Qr .non (upd (upd (upd H dx (exd dx [(f, v)])) a (exo a C (some dx))) dx (exd dx [(g, y), (f, v)]))
def kEr (C : Addr) (a : Addr) (H : Hp) (Qr : XK) : VK := fun v H2 => v = .non ∧ ∃ (d : Addr) (fs : List (Str × V)), H2 a = some (exo a C (some d)) ∧ H2 d = some (exd d fs) ∧ H d = none ∧ Qr (.ref C) (some d) (upd (del H2 a) d (.xd fs))
theorem er1 {C a : Addr} {f : Str} {v : V} {H : Hp} {E : XK} (h : H a = none) (k : Raised C [(f, v)] H E) : spEr1 C f [.ref a, v] (upd H a (exo a C none)) (kEr C a H E) (fun _ _ _ => False) := by
  refine ⟨a, v, rfl, upd_same, fun dx n ne => ⟨rfl, dx, [(f, v)], upd_same, by rw [upd_ne ne]; exact upd_same, by rw [upd_ne ne] at n; exact n, ?_⟩⟩
  rw [upd_ne ne] at n
  refine k dx _ (fun b o e => ?_) n upd_same
  have t1 : b ≠ dx := ne_of_none e n
  have t2 : b ≠ a := ne_of_none e h
  rw [upd_ne t1, del_ne t2, upd_ne t2, upd_ne t1, upd_ne t2]
  exact e
theorem er2 {C a : Addr} {f g : Str} {v y : V} {H : Hp} {E : XK} (h : H a = none) (k : Raised C [(g, y), (f, v)] H E) : spEr2 C f g [.ref a, v, y] (upd H a (exo a C none)) (kEr C a H E) (fun _ _ _ => False) := by
  refine ⟨a, v, y, rfl, upd_same, fun dx n ne => ⟨rfl, dx, [(g, y), (f, v)], by rw [upd_ne (Ne.symm ne)]; exact upd_same, upd_same, by rw [upd_ne ne] at n; exact n, ?_⟩⟩
  rw [upd_ne ne] at n
  refine k dx _ (fun b o e => ?_) n upd_same
  have t1 : b ≠ dx := ne_of_none e n
  have t2 : b ≠ a := ne_of_none e h
  rw [upd_ne t1, del_ne t2, upd_ne t1, upd_ne t2, upd_ne t1, upd_ne t2]
  exact e
section
variable {P : Program} {w : World} {K : PySem.W.Frag} {mg : Str → Option Value} {bas : Heap}
theorem lk0 {f : Str} {v : V} {r : List (Str × V)} : ((f, v) :: r).lookup f = some v := by rw [lookup_put, if_pos rfl]
theorem lk1 {f g : Str} {v : V} {r : List (Str × V)} (h : f ≠ g) : ((g, v) :: r).lookup f = r.lookup f := by rw [lookup_put, if_neg h]
end
end OTR

set_option Elab.async false
set_option linter.all false
set_option maxRecDepth 100000
set_option maxHeartbeats 4000000
namespace OTR
open PySem PySem.Spec PyProof.Rows L2
theorem d_dictSetT {X : Cx} {pins : List (Addr × Obj)} {σ : L2.St} {H : Hp} {s : Shared} {E : Value → Shared → Prop} {D b : Addr} {ent : List (List Key × V)} {key : List Key} {v : V} {u r : Value} {Q : Unit → Shared → Prop} (hu : X.A.units + 1 < cLine) (Iv : Inv X pins σ H s) (atD : H D = some (.dT ent)) (eb : H b = some (.tup (key.map kV))) (hz : ent.length < sizeLine)
    (rky : RelV (.ref b) u) (rv : RelV v r) (h : ∀ s', Inv X pins σ (upd H D (.dT (putK ent key v))) s' → Q () s') : wpAny (model X.prog X.w) X.A (dictSet D u r) Q E s := by
  cases (show u = Value.ref b from rky)
  obtain ⟨zz, fin, xs, rel, dd⟩ := dt_of Iv.hok atD
  have hzv : xs.length ≤ sizeLine := by rw [← Paired.length rel]; exact zz
  have len1 : (putK ent key v).length ≤ sizeLine := by have := length_putK ent key v; omega
  refine wpAny_dictSet_heap (hsz := hzv) (Nat.lt_of_succ_lt hu) (key_of Iv.hok eb) dd fun h' dd' hs => h _ ?_
  obtain ⟨q, slots, prm, hq, t2, t3, t4, _, t5⟩ := dd'
  refine d_write Iv (by rw [atD]; exact True.intro) hs ⟨q, hq⟩ ⟨len1, fin, _, (rel.put key eb rv).keeps fun c ys ec => ?_, q, slots, prm, hq, t2, t3, t4, t5⟩
  rw [upd_ne (ne_of ec atD (fun zz => nomatch zz))]
  exact ec
section
variable {X : Cx}
def tDcT (wi : TI) (g : TG) (tt : TT) (tk tv : TE) (vs : List Nat) : TE := fun σ H Q => wi σ H fun J H1 => ∀ D, H1 D = none → ∃ W : Nat → Nat → Hp → Prop, (∃ mm, W 0 mm (upd H1 D (.dT []))) ∧ ∀ i mm H, W i mm H →
  (J.stop i H ∧ Q (.ref D) H) ∨ (J.go i H ∧ ∃ Nxt : Hp → Prop, (∀ H', Nxt H' → ∃ m', m' < mm ∧ W (i + 1) m' H') ∧ ∀ x H', J.yld i H x H' → g x (wipe σ vs) H' fun σ2 Hb => wipe σ2 vs = wipe σ vs ∧ tt σ2 Hb fun b Hc =>
    if b = true then tk σ2 Hc fun y Hk => tv σ2 Hk fun zz Hv => ∃ ent key b, y = .ref b ∧ Hv b = some (.tup (key.map kV)) ∧ Hv D = some (.dT ent) ∧ ent.length < sizeLine ∧ Nxt (upd Hv D (.dT (putK ent key zz))) else Nxt Hc)
theorem dcT_core {pin0 : List (Addr × Obj)} {s : Shared} {σ : L2.St} {H : Hp} {Q : VK} {kx vx tg iter : Expr} {ifs : List Expr} {scope : Scope} {own : List (Str × Nat)} {pos pos2 : Pos} {wi : TI} {g : TG} {tt : TT} {tk tv : TE} {aft : Option (Value → Sem Unit)} {Qq : Value → Shared → Prop}
    (hu : X.A.units + 1 < cLine) (hc : X.calm = true) (nodN : X.N.Nodup) (Iv : Inv X pin0 σ H s) (walk : PI X tg iter wi) (ok : BlkOk X.N X.env.scope scope own)
    (rdG : ∀ (s : Shared) (H : Hp) (Cn : Addr) (clo : List (Str × Addr)) (foot : List Addr), PG (X.blk s H scope (compEnvC scope clo Cn X.env) foot) tg g) (rdT : ∀ (s : Shared) (H : Hp) (Cn : Addr) (clo : List (Str × Addr)) (foot : List Addr), PTs (X.blk s H scope (compEnvC scope clo Cn X.env) foot) ifs tt)
    (rdK : ∀ (s : Shared) (H : Hp) (Cn : Addr) (clo : List (Str × Addr)) (foot : List Addr), PE (X.blk s H scope (compEnvC scope clo Cn X.env) foot) kx tk)
    (rdV : ∀ (s : Shared) (H : Hp) (Cn : Addr) (clo : List (Str × Addr)) (foot : List Addr), PE (X.blk s H scope (compEnvC scope clo Cn X.env) foot) vx tv) (hs : ∀ xx, foldedSetIterable iter X.env xx = pure xx)
    (h : tDcT wi g tt tk tv (own.map (·.2)) σ H Q)
    (goOn : ∀ D Cn s' mm H', Inv X pin0 σ H' s' → Q (.ref D) H' → s'.heap.Ns Cn mm → FpOk X pin0 H' Cn → compPost (model X.prog X.w) X.A X.xe aft Qq (.ref D) Cn (.ok .next) s') :
    wpAny (model X.prog X.w) X.A (comprehension (.DictComp kx vx [⟨tg, iter, ifs, 0⟩] scope pos) scope X.env pos2 newDict false (eval iter X.env) aft) Qq X.xe s := by
  have frees : ∀ y ∈ scope.names, y.2 = .free → ∃ c, X.env.cells.lookup y.1 = some c := fun y hy e => by
    rcases ok.free y hy e with key | key
    · exact Iv.ok.has _ (.inl key)
    · exact Iv.ok.has _ (.inr key)
  refine wpAny_comprehension_free (use := aft) rfl hs (closure_ok frees) ok.kind (fun y hy e => by rw [ok.uniq y hy, e])
    (thn (walk.run pin0 s σ H _ Iv h) fun xvv u1 hxx => thn hxx fun ivv u2 hv2 => ?_)
  obtain ⟨it, foot, tn, W1, U2, e, K2, T, at_2, off_2, q⟩ := hv2
  subst e
  refine wpAny_newObj_type (newEnv_comp ?_)
  generalize eD : u2.heap.objs.size = D
  have nD : U2 D = none := K2.hok.fresh (Nat.le_of_eq eD)
  obtain ⟨W, ⟨mv0, wv0⟩, round⟩ := q D nD
  -- the new list
  generalize es0 : ({ u2 with heap := u2.heap.push { cls := .type "dict", data := .dict #[] } } : Shared) = t0
  have J0 : Inv X pin0 σ (upd U2 D (.dT [])) t0 := by
    rw [← es0]
    refine K2.laid (t' := u2.toks) (fun b o e => Heap.get?_push_of_some _ e) (Nat.le_of_eq eD) ?_
    rw [← eD]
    exact dt_empty u2.heap K2.big
  have e0 : t0.heap = u2.heap.push { cls := .type "dict", data := .dict #[] } := by rw [← es0]
  have low0 : ∀ b ∈ foot, b < u2.heap.objs.size := fun b hb => by
    obtain ⟨o, e, _⟩ := T.obj _ _ at_2 b hb
    exact Heap.lt_size e
  have off0 : ∀ b ∈ foot, FpOk X pin0 (upd U2 D (.dT [])) b ∧ b < t0.heap.objs.size := fun b hb => by
    have lt2 := low0 b hb
    refine ⟨⟨?_, (off_2 b hb).2⟩, by rw [e0, Heap.size_push]; exact Nat.lt_succ_of_lt lt2⟩
    rw [upd_ne (by rw [← eD]; exact Nat.ne_of_lt lt2)]
    exact (off_2 b hb).1
  have at0 : tn 0 t0.heap := T.keep _ _ _ at_2 fun b _ o e => by rw [e0]; exact Heap.get?_push_of_some _ e
  have J1 := block_start J0 ok nodN off0
  have rg := rdG t0 (upd U2 D (.dT [])) t0.heap.objs.size (cellsFrom (t0.heap.objs.size + 1) scope.names (cloFrom X.env.cells scope.names [])) foot
  have rt := rdT t0 (upd U2 D (.dT [])) t0.heap.objs.size (cellsFrom (t0.heap.objs.size + 1) scope.names (cloFrom X.env.cells scope.names [])) foot
  have rk := rdK t0 (upd U2 D (.dT [])) t0.heap.objs.size (cellsFrom (t0.heap.objs.size + 1) scope.names (cloFrom X.env.cells scope.names [])) foot
  have rv := rdV t0 (upd U2 D (.dT [])) t0.heap.objs.size (cellsFrom (t0.heap.objs.size + 1) scope.names (cloFrom X.env.cells scope.names [])) foot
  show codeAny _ _ (.compStart (.DictComp kx vx [⟨tg, iter, ifs, 0⟩] scope pos) 0 (.ref it) (.ref D) (compEnvC scope (cellsFrom (t0.heap.objs.size + 1) scope.names (cloFrom X.env.cells scope.names [])) t0.heap.objs.size X.env)) (compPost (model X.prog X.w) X.A X.xe aft Qq (.ref D) t0.heap.objs.size) { t0 with heap := pushCells (t0.heap.push { cls := .type "dict", data := .dict #[] }) scope.names }
  have offs : ∀ b ∈ foot, (upd U2 D (.dT [])) b = none := fun b hb => (off0 b hb).1.1
  generalize ece : compEnvC scope (cellsFrom (t0.heap.objs.size + 1) scope.names (cloFrom X.env.cells scope.names [])) t0.heap.objs.size X.env = cenv at J1 rg rt rk rv ⊢
  have cL : cenv.locals = t0.heap.objs.size := by subst ece; rfl
  generalize hH3 : upd U2 D (.dT []) = G0 at J0 J1 rg rt rk rv wv0 offs off0
  generalize es1 : ({ t0 with heap := pushCells (t0.heap.push { cls := .type "dict", data := .dict #[] }) scope.names } : Shared) = t1 at J1 ⊢
  have at1 : tn 0 t1.heap := T.keep _ _ _ at0 fun b _ o e => by rw [← es1]; exact pushCells_keeps _ _ _ _ (Heap.get?_push_of_some _ e)
  have still : ∀ {σ' : L2.St} {H' : Hp} {s' : Shared}, Inv (X.blk t0 G0 scope cenv foot) [] σ' H' s' → (∀ b ∈ foot, H' b = none) → ∀ b ∈ foot, FpOk (X.blk t0 G0 scope cenv foot) [] H' b := fun {σ' H' s'} Iw hn b hb =>
    ⟨hn b hb, (Iw.ok.exf b hb).1, Iw.ok.exfs b hb, .inl hb, fun xx c e => (Iw.ok.exf b hb).2 xx c e, fun p hp => absurd (show p ∈ ([] : List (Addr × Obj)) ++ [] from hp) (by simp)⟩
  have whole : codeAny (model X.prog X.w) X.A (.compLoop (.DictComp kx vx [⟨tg, iter, ifs, 0⟩] scope pos) 0 (.ref it) (.ref D) cenv) (compPost (model X.prog X.w) X.A X.xe aft Qq (.ref D) t0.heap.objs.size) t1 := by
    refine compLoop_anyD (fun n s' => ∃ i H', Inv (X.blk t0 G0 scope cenv foot) [] (wipe σ (own.map (·.2))) H' s' ∧ tn i s'.heap ∧ (∀ b ∈ foot, H' b = none) ∧ W i n H') ?_ mv0 ⟨0, G0, J1, at1, offs, wv0⟩
    rintro n t2 ⟨i, G2, J2, at2, n5, w5⟩
    rcases round i n G2 w5 with ⟨stop, qd⟩ | ⟨go, Nxt, hNx, step⟩
    · have dn := T.done (X.blk t0 G0 scope cenv foot) rfl rfl rfl hc i [] t2 _ G2 (fun _ _ => False) J2 (still J2 n5) at2 stop
      refine thnF dn fun r t3 ⟨hr, J3⟩ => ?_
      subst hr
      -- back in the def's context
      have J4 : Inv X pin0 σ G2 t3 := J0.call' (ch := foot) J3.os J3.base J3.hok J3.bare fun b hb => ⟨(off0 b hb).1.2.2.2.1, (off0 b hb).1.2.1, (off0 b hb).1.2.2.2.2.1, (off0 b hb).1.2.2.2.2.2⟩
      have nC : G2 t0.heap.objs.size = none := by
        have zz : G2 cenv.locals = none := J3.free
        rw [cL] at zz
        exact zz
      obtain ⟨mm, hn, _⟩ := J3.loc
      have hn : t3.heap.Ns cenv.locals mm := hn
      rw [cL] at hn
      exact goOn D t0.heap.objs.size t3 mm G2 J4 qd hn (J0.fpOk (Nat.le_refl _) nC)
    · have im := T.item (X.blk t0 G0 scope cenv foot) rfl rfl rfl hc i [] t2 _ G2 (fun _ _ => False) J2 (still J2 n5) at2 go
      refine thnF im fun r t3 ⟨u, hr, h6⟩ => ?_
      subst hr
      refine thnF h6 fun _ t4 ⟨xx, G4, J4, r7, y7, at4, n7⟩ => ?_
      have I7' := J4.pinned (still J4 n7) (T.obj _ _ at4)
      refine thnF (rg.run _ t4 _ G4 xx u _ I7' r7 (step xx G4 y7)) fun _ t5 ⟨σ8, G5, J5, eqw, q8⟩ => ?_
      refine thnF (rt.run _ t5 σ8 G5 _ J5 q8) fun b t6 ⟨G6, J6, qb⟩ => ?_
      -- the turn's end
      have ended : ∀ {s' : Shared} {H' : Hp}, Inv (X.blk t0 G0 scope cenv foot) ([] ++ pinsAt foot t4.heap) σ8 H' s' → Nxt H' → ∃ mm, mm < n ∧ ∃ i H', Inv (X.blk t0 G0 scope cenv foot) [] (wipe σ (own.map (·.2))) H' s' ∧ tn i s'.heap ∧ (∀ b ∈ foot, H' b = none) ∧ W i mm H' := fun {s' H'} Iw nx => by
        obtain ⟨m', lt1, wn⟩ := hNx H' nx
        have pin' : ∀ b ∈ foot, ∀ o, t4.heap.get? b = some o → s'.heap.get? b = some o ∧ H' b = none := fun b hb o e =>
          let zz := Iw.pin (b, o) (List.mem_append_right _ (List.mem_append_right _ (mem_pinsAt hb e)))
          ⟨zz.1, zz.2.1⟩
        have len1 : (wipe σ (own.map (·.2))).length = σ8.length := by rw [← eqw, wipe_length]
        refine ⟨m', lt1, i + 1, H', (Iw.unpinned (pins := [])).weak len1 (fun j v e => ?_), T.keep _ _ _ at4 fun b hb o e => (pin' b hb o e).1, fun b hb => ?_, wn⟩
        · rw [← eqw] at e
          exact (wipe_some e).1
        · obtain ⟨o, e, _⟩ := T.obj _ _ at4 b hb
          exact (pin' b hb o e).2
      cases b with
      | false =>
        simp only [Bool.false_eq_true, if_false] at qb ⊢
        exact ended J6 qb
      | true =>
        simp only [if_true] at qb ⊢
        refine thnF (rk.run _ t6 σ8 G6 _ J6 qb) fun zz t7 ⟨yk, G7, J7, r10, q10⟩ => ?_
        refine thnF (rv.run _ t7 σ8 G7 _ J7 q10) fun z2 t8 ⟨yv, G8, J8, r11, ent, key, kb, ek, ekb, hD11, hz11, nx⟩ => ?_
        subst ek
        exact d_dictSetT (X := X.blk t0 G0 scope cenv foot) hu J8 hD11 ekb hz11 r10 r11 fun t9 J9 => ended J9 nx
  exact codeAny_compStart_dict whole (T.self X.A 0 _ _ _ at1 whole)
/-- as a value -/
theorem pe_dcT {kx vx tg iter : Expr} {ifs : List Expr} {scope : Scope} {own : List (Str × Nat)} {pos : Pos} {wi : TI} {g : TG} {tt : TT} {tk tv : TE} (hu : X.A.units + 1 < cLine) (hc : X.calm = true) (nodN : X.N.Nodup) (walk : PI X tg iter wi) (ok : BlkOk X.N X.env.scope scope own)
    (rdG : ∀ (s : Shared) (H : Hp) (Cn : Addr) (clo : List (Str × Addr)) (foot : List Addr), PG (X.blk s H scope (compEnvC scope clo Cn X.env) foot) tg g) (rdT : ∀ (s : Shared) (H : Hp) (Cn : Addr) (clo : List (Str × Addr)) (foot : List Addr), PTs (X.blk s H scope (compEnvC scope clo Cn X.env) foot) ifs tt)
    (rdK : ∀ (s : Shared) (H : Hp) (Cn : Addr) (clo : List (Str × Addr)) (foot : List Addr), PE (X.blk s H scope (compEnvC scope clo Cn X.env) foot) kx tk)
    (rdV : ∀ (s : Shared) (H : Hp) (Cn : Addr) (clo : List (Str × Addr)) (foot : List Addr), PE (X.blk s H scope (compEnvC scope clo Cn X.env) foot) vx tv) (hs : ∀ xx, foldedSetIterable iter X.env xx = pure xx := by intro _; rfl) :
    PE X (.DictComp kx vx [⟨tg, iter, ifs, 0⟩] scope pos) (tDcT wi g tt tk tv (own.map (·.2))) := by
  refine ⟨fun pin0 s σ H Q Iv h => ?_⟩
  rw [arm_eval_DictComp]
  refine dcT_core hu hc nodN Iv walk ok rdG rdT rdK rdV hs h fun D Cn s' mm H' Iw q hn f => ⟨mm, hn, fun h'' sb => ?_⟩
  obtain ⟨c0, c1, off_2, off0, c4, c5⟩ := f
  exact ⟨.ref D, H', Iw.turned (t' := s'.toks) (fun b o hb e => (sb.2 b hb).trans e) c0 c1 off0 c4 c5, rfl, q⟩
/-- name = {..} on one line, the name a local -/
theorem swD_true {kx vx : Expr} {gs : List Comprehension} {scope : Scope} {pos pp : Pos} {y : Str} {l : Nat} {env : Env} (h1 : env.scope.kind = .function) (t2 : env.scope.names.lookup y = some .local) (t3 : (pp.line == pos.line) = true)
    (t4 : (scope.names.any fun (n, key) => n == y && (key == .local || key == .cell)) = false) : swapsWith (.DictComp kx vx gs scope pos) (some (.Name y pp)) l env = pure true := by
  have e1 : env.kindOf y = some .local := t2
  have e2 : env.blockKind = .function := by
    unfold Env.blockKind
    rw [h1]
    rfl
  unfold swapsWith
  simp only [e2, e1, t4, Expr.pos, t3]
  rfl
theorem ps_setDcT {i : Nat} {y : Str} {pp : Pos} {kx vx tg iter : Expr} {ifs : List Expr} {scope : Scope} {own : List (Str × Nat)} {pos spos : Pos} {wi : TI} {g : TG} {tt : TT} {tk tv : TE} (hu : X.A.units + 1 < cLine) (cm : X.calm = true) (nN : X.N.Nodup) (iy : X.N[i]? = some y) (yl : X.env.scope.names.lookup y = some .local)
    (sw : swapsWith (.DictComp kx vx [⟨tg, iter, ifs, 0⟩] scope pos) (some (.Name y pp)) spos.line X.env = pure true) (walk : PI X tg iter wi) (bk : BlkOk X.N X.env.scope scope own)
    (a1 : ∀ (s : Shared) (H : Hp) (Cn : Addr) (clo : List (Str × Addr)) (foot : List Addr), PG (X.blk s H scope (compEnvC scope clo Cn X.env) foot) tg g)
    (a2 : ∀ (s : Shared) (H : Hp) (Cn : Addr) (clo : List (Str × Addr)) (foot : List Addr), PTs (X.blk s H scope (compEnvC scope clo Cn X.env) foot) ifs tt)
    (a3 : ∀ (s : Shared) (H : Hp) (Cn : Addr) (clo : List (Str × Addr)) (foot : List Addr), PE (X.blk s H scope (compEnvC scope clo Cn X.env) foot) kx tk)
    (a4 : ∀ (s : Shared) (H : Hp) (Cn : Addr) (clo : List (Str × Addr)) (foot : List Addr), PE (X.blk s H scope (compEnvC scope clo Cn X.env) foot) vx tv) (a5 : ∀ x, foldedSetIterable iter X.env x = pure x := by intro _; rfl) :
    PS X (.Assign [.Name y pp] (.DictComp kx vx [⟨tg, iter, ifs, 0⟩] scope pos) spos) (tAsg (tDcT wi g tt tk tv (own.map (·.2))) (gName i)) := by
  refine ⟨fun ps0 s0 σ0 G0 D I0 h0 => ?_⟩
  rw [exec_Assign_Name_used _ _ _ _ sw]
  refine wpAny_bind (wpAny_standAt (wpAny_bind ?_))
  show wpAny _ X.A (do let _ ← comprehension (.DictComp kx vx [⟨tg, iter, ifs, 0⟩] scope pos) scope X.env (firstIterPos [⟨tg, iter, ifs, 0⟩] pos) newDict false (eval iter X.env) (some (assign (.Name y pp) X.env))) _ _ s0
  have h1 : tDcT wi g tt tk tv (own.map (·.2)) σ0 G0 (fun x H1 => gName i x σ0 H1 D.nx) := h0
  refine wpAny_bind (thn (dcT_core (Qq := fun _ u => SP X ps0 D .next u) hu cm nN I0 walk bk a1 a2 a3 a4 a5 h1 fun Ln Cn u mm G' J' q hn f => ?_) fun _ u hq => wpAny_pure (wpAny_pure hq))
  show wpAny _ _ (assign (.Name y pp) X.env (.ref Ln)) _ _ _
  refine wpAny_assign_Name (store_ok2 (v := V.ref Ln) J' nN iy (.inl yl) rfl (fun u2 J2 ⟨a, sb, ha⟩ => ?_) (.inr yl))
  obtain ⟨c0, c1, c2, c3, c4, c5⟩ := f
  have apart : Cn ≠ a := by
    rcases ha with zz | zz
    · rw [zz]
      exact c1
    · exact fun e => c4 y a zz e.symm
  exact ⟨mm, hn.sameBut sb apart, fun g3 same3 => ⟨_, G', J2.turned (t' := u2.toks) (fun b o hb e => (same3.2 b hb).trans e) c0 c1 c3 c4 c5, q⟩⟩
/-- over range(n): Pv by the turn and the heap -/
theorem dcT_range {lo : Int} {n : Nat} {g : TG} {tt : TT} {tk tv : TE} {vs : List Nat} {σ : L2.St} {H1 : Hp} {D : Addr} {Qd : Hp → Prop} (Pv : Nat → Hp → Prop) (h0 : Pv 0 (upd H1 D (.dT [])))
    (hs : ∀ i H, i < n → Pv i H → g (.int (lo + i)) (wipe σ vs) H fun σ2 Hb => wipe σ2 vs = wipe σ vs ∧ tt σ2 Hb fun b Hc =>
      if b = true then tk σ2 Hc fun y Hk => tv σ2 Hk fun zz Hv => ∃ ent key b, y = .ref b ∧ Hv b = some (.tup (key.map kV)) ∧ Hv D = some (.dT ent) ∧ ent.length < sizeLine ∧ Pv (i + 1) (upd Hv D (.dT (putK ent key zz))) else Pv (i + 1) Hc) (fin : ∀ H, Pv n H → Qd H) :
    ∃ W : Nat → Nat → Hp → Prop, (∃ mm, W 0 mm (upd H1 D (.dT []))) ∧ ∀ i mm H, W i mm H →
      ((Itr lo n).stop i H ∧ Qd H) ∨ ((Itr lo n).go i H ∧ ∃ Nxt : Hp → Prop, (∀ H', Nxt H' → ∃ m', m' < mm ∧ W (i + 1) m' H') ∧ ∀ x H', (Itr lo n).yld i H x H' → g x (wipe σ vs) H' fun σ2 Hb => wipe σ2 vs = wipe σ vs ∧ tt σ2 Hb fun b Hc =>
        if b = true then tk σ2 Hc fun y Hk => tv σ2 Hk fun zz Hv => ∃ ent key b, y = .ref b ∧ Hv b = some (.tup (key.map kV)) ∧ Hv D = some (.dT ent) ∧ ent.length < sizeLine ∧ Nxt (upd Hv D (.dT (putK ent key zz))) else Nxt Hc) := by
  refine ⟨fun i mm H => mm = n - i ∧ i ≤ n ∧ Pv i H, ⟨n, by simp, Nat.zero_le _, h0⟩, ?_⟩
  rintro i mm H ⟨rfl, le1, p⟩
  by_cases lt2 : i < n
  · refine .inr ⟨lt2, Pv (i + 1), fun H' pp2 => ⟨n - (i + 1), by omega, rfl, lt2, pp2⟩, fun x H' y => ?_⟩
    obtain ⟨e, ex⟩ := y
    subst e ex
    exact hs i _ lt2 p
  · have e : i = n := by omega
    subst e
    exact .inl ⟨Nat.le_refl _, fin H p⟩
end
end OTR

set_option Elab.async false
set_option linter.all false
set_option maxRecDepth 100000
set_option maxHeartbeats 1000000
namespace OTR
open PySem PySem.Spec PyProof.Rows L2
section
variable {X : Cx}
/-- xs == [] -/
theorem op_eqNil (ul : X.A.units < cLine) : OpR X (compareOp .Eq) (rEqNil X.K) := by
  intro p0 s0 g0 H0 x y vx vy Q J rx ry h
  obtain ⟨a, b, xs, rfl, rfl, ea, eb, q⟩ := h
  obtain rfl : vx = Value.ref a := rx
  obtain rfl : vy = Value.ref b := ry
  obtain ⟨us, w1, l1, _⟩ := J.list ea
  obtain ⟨ws, w2, l2, _⟩ := J.list eb
  cases w2
  show wpAny (model X.prog X.w) X.A (richCompare .Eq (.ref a) (.ref b)) _ _ _
  cases xs with
  | nil =>
    cases w1
    have z := SeqAt.RcAt.lists (A := X.A) (s := s0) (e := fun _ => true) l1.isList l2.isList rfl ul (fun j h1 _ => absurd h1 (Nat.not_lt_zero j))
    exact z X.prog X.w _ _ ⟨.bl true, H0, J, rfl, q⟩
  | cons y ys =>
    cases w1 with
    | cons _ _ =>
      have z := SeqAt.RcAt.lists_lengths (A := X.A) (s := s0) l1.isList l2.isList (by simp) ul
      exact z X.prog X.w _ _ ⟨.bl false, H0, J, rfl, q⟩
/-- xs + ys, lists that are read -/
def rCatS (K : PySem.W.Frag) : R2 := fun x y H Q => ∃ l b xs zs, x = .ref l ∧ y = .ref b ∧ SqL K H l xs ∧ SqL K H b zs ∧ xs.length + zs.length ≤ sizeLine ∧ ∀ p, H p = none → Q (.ref p) (upd H p (.lst (xs ++ zs)))
theorem op_catS : OpR X (binaryOp .Add) (rCatS X.K) := by
  intro p0 s0 g0 H0 x y vx vy Q J rx ry h
  obtain ⟨l, b, xs, zs, rfl, rfl, ea, eb, hz, q⟩ := h
  cases rx
  cases ry
  obtain ⟨us, w1, l1, _⟩ := J.list ea
  obtain ⟨ws, w2, l2, _⟩ := J.list eb
  obtain ⟨⟨c1, d1, t1, k1⟩, o1, e1, n1, f1⟩ := l1.isList
  obtain ⟨⟨c2, d2, t2, k2⟩, o2, e2, n2, f2⟩ := l2.isList
  simp only at e1 f1 e2 f2
  subst e1 f1 e2 f2
  have zz : us.toArray.size + ws.toArray.size ≤ sizeLine := by
    rw [List.size_toArray, List.size_toArray, ← w1.length, ← w2.length]
    exact hz
  refine concat_meets ⟨_, o1, rfl⟩ ⟨_, o2, rfl⟩ noFill_list_add seq_list_add PySem.F.slot_list_add PySem.F.entry_list_add (PySem.F.args_list_add_2 _ _) (list_addW l b us.toArray ws.toArray n1 n2 d1 d2 k1 k2 zz) ⟨o1, o2, ?_⟩
  have ea' : us.toArray ++ ws.toArray = (us ++ ws).toArray := by simp
  rw [ea']
  exact ⟨.ref _, _, J.lnew (t' := s0.toks) (w1.append w2) (by rw [List.length_append]; exact hz), rfl, q _ J.fresh⟩
end
end OTR

set_option Elab.async false
set_option linter.all false
set_option maxRecDepth 100000
set_option maxHeartbeats 1000000
namespace OT
open PySem L2 OTR
abbrev sBad : Stmt := inClass (top 3) 0
abbrev sNoC : Stmt := inClass (top 4) 0
abbrev sRing : Stmt := inClass (top 5) 0
abbrev sRoadI : Stmt := inClass (top 12) 0
abbrev sTreeI : Stmt := inClass (top 13) 0
abbrev sTrails : Stmt := top 14
abbrev sCheck : Stmt := top 15
abbrev sJoin : Stmt := top 16
theorem len1 {v : V} : [v].length ≤ 1000 := by show 1 ≤ 1000; decide
theorem len2 {v y : V} : [v, y].length ≤ 1000 := by show 2 ≤ 1000; decide
/-! ### the classes -/
/-- what the walk asks of Road -/
structure RdT (K : PySem.W.Frag) (mg : Str → Option Value) (C : Addr) : Prop where
  cl : Cls K C
  nA : NoAttr K C "a"
  nB : NoAttr K C "b"
  nL : NoAttr K C "length"
  mgC : mg "Road" = some (.ref C)
def rdF (r : Fact) : List (Str × V) := [("a", .int r.1), ("b", .int r.2.1), ("length", .int r.2.2)]
theorem rdF_a (r : Fact) : (rdF r).lookup ("a" : Str) = some (.int r.1) := lk0
theorem rdF_b (r : Fact) : (rdF r).lookup ("b" : Str) = some (.int r.2.1) := by
  unfold rdF
  rw [lk1 (by decide +kernel)]
  exact lk0
theorem rdF_l (r : Fact) : (rdF r).lookup ("length" : Str) = some (.int r.2.2) := by
  unfold rdF
  rw [lk1 (by decide +kernel), lk1 (by decide +kernel)]
  exact lk0
theorem rdF_put (r : Fact) : putF "length" (.int r.2.2) (putF "b" (.int r.2.1) (putF "a" (.int r.1) [])) = rdF r := by
  have h1 : ¬ (("a" : Str) = "b") := by decide +kernel
  have h2 : ¬ (("a" : Str) = "length") := by decide +kernel
  have h3 : ¬ (("b" : Str) = "length") := by decide +kernel
  show putF "length" (.int r.2.2) (if ("a" : Str) = "b" then [(("a" : Str), V.int r.2.1)] else (("a" : Str), V.int r.1) :: putF "b" (.int r.2.1) []) = rdF r
  rw [if_neg h1]
  show (if ("a" : Str) = "length" then _ else (("a" : Str), V.int r.1) :: (if ("b" : Str) = "length" then _ else (("b" : Str), V.int r.2.1) :: putF "length" (.int r.2.2) [])) = rdF r
  rw [if_neg h2, if_neg h3]
  rfl
/-- a road at p -/
def RoadAt (CR : Addr) (H : Hp) (p : Addr) (r : Fact) : Prop := ∃ dx, H p = some (.ins CR dx (rdF r))
theorem RoadAt.same {CR : Addr} {H H' : Hp} {p : Addr} {r : Fact} (h : RoadAt CR H p r) (s : Same H H') : RoadAt CR H' p r := let ⟨dx, e⟩ := h; ⟨dx, s _ _ e⟩
/-- Road(a, b, length): its __init__ -/
def spRoadI (C : Addr) : Sp := fun vs H Q _ => ∃ (p dx : Addr) (r : Fact), vs = [.ref p, .int r.1, .int r.2.1, .int r.2.2] ∧ H p = some (.ins C dx []) ∧ ∀ H', RoadAt C H' p r → (∀ b o, H b = some o → b ≠ p → H' b = some o) → Q .non H'
/-- check_road -/
def LenOk (s : Int) : Prop := 1 ≤ s ∧ s ≤ 1000000000
def spCheck (CR CB CN : Addr) : Sp := fun vs H Q E => ∃ (n : Int) (p : Addr) (r : Fact), vs = [.int n, .ref p] ∧ RoadAt CR H p r ∧
  (¬ In n r.1 → Raised CN [("crossing", .int r.1)] H E) ∧ (In n r.1 → ¬ In n r.2.1 → Raised CN [("crossing", .int r.2.1)] H E) ∧
  (In n r.1 → In n r.2.1 → ¬ LenOk r.2.2 → Raised CB [("count", .int r.2.2), ("what", .str "length")] H E) ∧
  (In n r.1 → In n r.2.1 → LenOk r.2.2 → ∀ H', Same H H' → Q .non H')
section
variable {P : Program} {w : World} {K : PySem.W.Frag} {mg : Str → Option Value} {base : Heap}
theorem scBad : FnScope ["self", "what", "count"] ["self", "what", "count"] (defScope sBad) := ⟨rfl, rfl, rfl, by decide +kernel, rfl, by decide +kernel, by decide +kernel⟩
theorem ok_bad {f C : Addr} {fd : FuncData} (F : Fun K "__init__" "BadCount.__init__" sBad f fd) (T : OexC K C) (n1 : PySem.W.findIn K (.ref C) "what" = some none) (n2 : PySem.W.findIn K (.ref C) "count" = some none) : FnOk P w K mg base CX0 1 f fd ["self", "what", "count"] (spEr2 C "what" "count") := by
  refine F.ok scBad (fun vs H Q E h => ?_) (fun cdv A outer s H vs Q E hr h => ?_)
  · obtain ⟨a, v, y, rfl, _⟩ := h
    rfl
  · obtain ⟨a, v, y, rfl, ha, k⟩ := h
    refine ⟨_, pss_cons (ps_ost (pv 0) (pv 1)) (pss_one (ps_ost (pv 0) (pv 2))), ?_⟩
    refine ⟨_, rfl, _, rfl, a, C, rfl, T, n1, .inl ⟨ha, fun dx n ne => ?_⟩⟩
    refine ⟨_, rfl, _, rfl, a, C, rfl, T, n2, .inr ⟨dx, _, upd_same, by rw [upd_ne ne]; exact upd_same, (by show 1 ≤ 900; decide), ?_⟩⟩
    exact k dx n ne
theorem scNoC : FnScope ["self", "crossing"] ["self", "crossing"] (defScope sNoC) := ⟨rfl, rfl, rfl, by decide +kernel, rfl, by decide +kernel, by decide +kernel⟩
theorem ok_noc {f C : Addr} {fd : FuncData} (F : Fun K "__init__" "NoCrossing.__init__" sNoC f fd) (T : OexC K C) (n1 : PySem.W.findIn K (.ref C) "crossing" = some none) : FnOk P w K mg base CX0 1 f fd ["self", "crossing"] (spEr1 C "crossing") := by
  refine F.ok scNoC (fun vs H Q E h => ?_) (fun cdv A outer s H vs Q E hr h => ?_)
  · obtain ⟨a, v, rfl, _⟩ := h
    rfl
  · obtain ⟨a, v, rfl, ha, k⟩ := h
    refine ⟨_, pss_one (ps_ost (pv 0) (pv 1)), ?_⟩
    exact ⟨_, rfl, _, rfl, a, C, rfl, T, n1, .inl ⟨ha, fun dx n ne => k dx n ne⟩⟩
theorem scRing : FnScope ["self", "road"] ["self", "road"] (defScope sRing) := ⟨rfl, rfl, rfl, by decide +kernel, rfl, by decide +kernel, by decide +kernel⟩
theorem ok_ringI {f C : Addr} {fd : FuncData} (F : Fun K "__init__" "RingRoad.__init__" sRing f fd) (T : OexC K C) (n1 : PySem.W.findIn K (.ref C) "road" = some none) : FnOk P w K mg base CX0 1 f fd ["self", "road"] (spEr1 C "road") := by
  refine F.ok scRing (fun vs H Q E h => ?_) (fun cdv A outer s H vs Q E hr h => ?_)
  · obtain ⟨a, v, rfl, _⟩ := h
    rfl
  · obtain ⟨a, v, rfl, ha, k⟩ := h
    refine ⟨_, pss_one (ps_ost (pv 0) (pv 1)), ?_⟩
    exact ⟨_, rfl, _, rfl, a, C, rfl, T, n1, .inl ⟨ha, fun dx n ne => k dx n ne⟩⟩
theorem scRoadI : FnScope ["self", "a", "b", "length"] ["self", "a", "b", "length"] (defScope sRoadI) := ⟨rfl, rfl, rfl, by decide +kernel, rfl, by decide +kernel, by decide +kernel⟩
theorem ok_roadI {f C : Addr} {fd : FuncData} (F : Fun K "__init__" "Road.__init__" sRoadI f fd) (T : RdT K mg C) : FnOk P w K mg base CX0 1 f fd ["self", "a", "b", "length"] (spRoadI C) := by
  refine F.ok scRoadI (fun vs H Q E h => ?_) (fun cdv A outer s H vs Q E hr h => ?_)
  · obtain ⟨p, dx, r, rfl, _⟩ := h
    rfl
  · obtain ⟨p, dx, r, rfl, hp, k⟩ := h
    refine ⟨_, pss_cons (ps_fld (pv 0) (pv 1) rfl) (pss_cons (ps_fld (pv 0) (pv 2) rfl) (pss_one (ps_fld (pv 0) (pv 3) rfl))), ?_⟩
    refine ⟨_, rfl, _, rfl, p, C, dx, [], rfl, hp, T.cl, T.nA, (by show 0 < 1000; decide), ?_⟩
    refine ⟨_, rfl, _, rfl, p, C, dx, _, rfl, upd_same, T.cl, T.nB, (by show 1 < 1000; decide), ?_⟩
    refine ⟨_, rfl, _, rfl, p, C, dx, putF "b" (.int r.2.1) (putF "a" (.int r.1) []), rfl, upd_same, T.cl, T.nL, ?_, ?_⟩
    · have h1 : ¬ (("a" : Str) = "b") := by decide +kernel
      show (if ("a" : Str) = "b" then [(("a" : Str), V.int r.2.1)] else (("a" : Str), V.int r.1) :: putF "b" (.int r.2.1) []).length < 1000
      rw [if_neg h1]
      show 2 < 1000
      decide
    · refine k _ ⟨dx, ?_⟩ fun b o e n => ?_
      · rw [rdF_put]
        exact upd_same
      · rw [upd_ne n, upd_ne n, upd_ne n]
        exact e
theorem scCheck : FnScope ["crossings", "road", "crossing"] ["crossings", "road"] (defScope sCheck) := ⟨rfl, rfl, rfl, by decide +kernel, rfl, by decide +kernel, by decide +kernel⟩
theorem ok_check {f CR CB CN fB fN : Addr} {fd fdB fdN : FuncData} (F : Fun K "check_road" "check_road" sCheck f fd) (TR : RdT K mg CR) (TB : ErT K mg "BadCount" CB fB) (TN : ErT K mg "NoCrossing" CN fN)
    (FB : FnOk P w K mg base CX0 1 fB fdB ["self", "what", "count"] (spEr2 CB "what" "count")) (bB : Binds K fdB ["self", "what", "count"] [])
    (FN : FnOk P w K mg base CX0 1 fN fdN ["self", "crossing"] (spEr1 CN "crossing")) (bN : Binds K fdN ["self", "crossing"] []) (hL : ∃ t, mg "LONGEST_ROAD" = some (.int 1000000000 t)) :
    FnOk P w K mg base (L2.CX P w) 3 f fd ["crossings", "road"] (spCheck CR CB CN) := by
  refine F.okX scCheck (fun vs H Q E h => ?_) (fun cdv A outer s H vs Q E hr h => ?_)
  · obtain ⟨n, p, r, rfl, _⟩ := h
    rfl
  · obtain ⟨n, p, r, rfl, hR, k1, k2, k3, k4⟩ := h
    obtain ⟨tL, hL⟩ := hL
    refine ⟨_, pss_cons (ps_for (passes_of rfl) rfl (pi_tup (pe_tup (pa_cons (pe_fld (pv 1) rfl) (pa_cons (pe_fld (pv 1) rfl) pa_nil)))) (pg_name (i := 2) scCheck.nd rfl (Or.inl rfl))
        (pss_one (ps_if (pt_not (pt_chain op_le op_lt pe_int (pv 2) (pv 0))) (pss_one (ps_raise rfl (takes_of rfl rfl rfl rfl) (pmk_oex TN.ox TN.iC TN.tI FN hr bN .nil pass0 (by rfl) TN.gC (pa_cons (pv 2) pa_nil)))) pss_nil)))
      (pss_one (ps_if (pt_not (pt_chain op_le op_le pe_int (pe_fld (pv 1) rfl) (pe_glob (v := V.int 1000000000) rfl hL ⟨tL, rfl⟩)))
        (pss_one (ps_raise rfl (takes_of rfl rfl rfl rfl) (pmk_oex TB.ox TB.iC TB.tI FB hr bB .nil pass0 (by rfl) TB.gC (pa_cons pe_str (pa_cons (pe_fld (pv 1) rfl) pa_nil))))) pss_nil)), ?_⟩
    obtain ⟨dx, hp⟩ := id hR
    refine ⟨_, rfl, p, CR, dx, _, _, rfl, hp, TR.cl, TR.nA, rdF_a r, _, rfl, p, CR, dx, _, _, rfl, hp, TR.cl, TR.nB, rdF_b r, (by show 2 ≤ sizeLine; decide), fun t ht => ?_⟩
    refine ⟨t, rfl, ⟨_, SqT.of upd_same⟩, for_tup (K := K) (a := t) (xs := [V.int r.1, V.int r.2.1]) (fun i σ H2 => ∃ v : Option V, σ = [some (.int n), some (.ref p), v] ∧ Same (upd H t (.tup [V.int r.1, V.int r.2.1])) H2 ∧ (1 ≤ i → In n r.1) ∧ (2 ≤ i → In n r.2.1))
      ⟨none, rfl, Same.refl _, fun z => absurd z (by decide), fun z => absurd z (by decide)⟩ (fun i σ H2 _ ⟨_, _, s2, _⟩ => SqT.of (s2 _ _ upd_same)) ?_ ?_⟩
    · rintro i y σ H2 hi ⟨v, rfl, s2, i1, i2⟩
      have s1 : Same H H2 := (Same.new ht).trans s2
      have hil : i < 2 := (List.getElem?_eq_some_iff.mp hi).1
      have hc : i = 0 ∨ i = 1 := by omega
      rcases hc with rfl | rfl
      · cases hi
        refine ⟨_, rfl, _, _, rfl, rfl, _, rfl, ?_⟩
        by_cases h0 : 0 ≤ r.1
        · rw [decide_eq_true h0]
          refine iteT ⟨_, rfl, _, _, rfl, rfl, _, rfl, ?_⟩
          by_cases h1 : r.1 < n
          · rw [decide_eq_true h1]
            exact iteF ⟨_, rfl, s2, fun _ => ⟨h0, h1⟩, fun z => absurd z (by decide)⟩
          · rw [decide_eq_false h1]
            refine iteT ⟨_, rfl, len1, fun a ha => er1 ha ((k1 fun z => h1 z.2).mono s1)⟩
        · rw [decide_eq_false h0]
          refine iteF ⟨_, rfl, ?_⟩
          exact iteT ⟨_, rfl, len1, fun a ha => er1 ha ((k1 fun z => h0 z.1).mono s1)⟩
      · cases hi
        have in1 := i1 (Nat.le_refl _)
        refine ⟨_, rfl, _, _, rfl, rfl, _, rfl, ?_⟩
        by_cases h0 : 0 ≤ r.2.1
        · rw [decide_eq_true h0]
          refine iteT ⟨_, rfl, _, _, rfl, rfl, _, rfl, ?_⟩
          by_cases h1 : r.2.1 < n
          · rw [decide_eq_true h1]
            exact iteF ⟨_, rfl, s2, fun _ => in1, fun _ => ⟨h0, h1⟩⟩
          · rw [decide_eq_false h1]
            refine iteT ⟨_, rfl, len1, fun a ha => er1 ha ((k2 in1 fun z => h1 z.2).mono s1)⟩
        · rw [decide_eq_false h0]
          refine iteF ⟨_, rfl, ?_⟩
          exact iteT ⟨_, rfl, len1, fun a ha => er1 ha ((k2 in1 fun z => h0 z.1).mono s1)⟩
    · rintro σ H2 ⟨v, rfl, s2, i1, i2⟩
      have s1 : Same H H2 := (Same.new ht).trans s2
      have in1 := i1 (by show 1 ≤ 2; decide)
      have in2 := i2 (by show 2 ≤ 2; decide)
      have hp2 := s1 _ _ hp
      refine ⟨_, rfl, p, CR, dx, _, _, rfl, hp2, TR.cl, TR.nL, rdF_l r, _, _, rfl, rfl, _, rfl, ?_⟩
      by_cases h0 : 1 ≤ r.2.2
      · rw [decide_eq_true h0]
        refine iteT ⟨_, _, rfl, rfl, _, rfl, ?_⟩
        by_cases h1 : r.2.2 ≤ 1000000000
        · rw [decide_eq_true h1]
          exact iteF (k4 in1 in2 ⟨h0, h1⟩ _ s1)
        · rw [decide_eq_false h1]
          exact iteT ⟨_, rfl, p, CR, dx, _, _, rfl, hp2, TR.cl, TR.nL, rdF_l r, len2, fun a ha => er2 ha ((k3 in1 in2 fun z => h1 z.2).mono s1)⟩
      · rw [decide_eq_false h0]
        refine iteF ⟨_, rfl, ?_⟩
        exact iteT ⟨_, rfl, p, CR, dx, _, _, rfl, hp2, TR.cl, TR.nL, rdF_l r, len2, fun a ha => er2 ha ((k3 in1 in2 fun z => h0 z.1).mono s1)⟩
end
end OT

set_option Elab.async false
set_option linter.all false
set_option maxRecDepth 100000
set_option maxHeartbeats 2000000
namespace OT
open PySem L2 OTR
/-! ### the trails: a dict of pairs of crossings -/
abbrev key2 (x y : Int) : List Key := [Sum.inl x, Sum.inl y]
theorem key2_inj {x y a b : Int} : key2 x y = key2 a b ↔ x = a ∧ y = b := by simp [key2]
def hasK (kvs : List (List Key × V)) (x y : Int) : Bool := (valV kvs (key2 x y)).isSome
theorem hasK_some {kvs : List (List Key × V)} {x y : Int} (h : hasK kvs x y = true) : ∃ v, valV kvs (key2 x y) = some v := Option.isSome_iff_exists.mp h
theorem hasK_of {kvs : List (List Key × V)} {x y : Int} {v : V} (h : valV kvs (key2 x y) = some v) : hasK kvs x y = true := by
  unfold hasK
  rw [h]
  rfl
theorem hasK_put {kvs : List (List Key × V)} {x y a b : Int} {v : V} : hasK (putK kvs (key2 x y) v) a b = true ↔ (a = x ∧ b = y) ∨ hasK kvs a b = true := by
  unfold hasK
  rw [valV_put]
  by_cases h : key2 a b = key2 x y
  · rw [if_pos h]
    exact ⟨fun _ => .inl (key2_inj.mp h), fun _ => rfl⟩
  · rw [if_neg h]
    exact ⟨.inr, fun z => z.resolve_left fun q => h (key2_inj.mpr q)⟩
/-- v is the trail from x to y -/
def TrailAt (K : PySem.W.Frag) (H : Hp) (F : List Fact) (x y : Int) (v : V) : Prop := ∃ (p : Addr) (l : List Nat), v = .ref p ∧ SqT K H p (l.map fun k => V.int (k : Nat)) ∧ Way F x l y ∧ l.Nodup
theorem sqT_but {K : PySem.W.Frag} {H H' : Hp} {d p : Addr} {xs : List V} {kvs : List (List Key × V)} (h : SqT K H p xs) (hd : H d = some (.dT kvs)) (e : But d H H') : SqT K H' p xs := by
  rcases h with (h | ⟨o, h⟩) | h
  · exact .inl (.inl (e _ _ h (ne_of h hd (fun z => nomatch z))))
  · exact .inl (.inr ⟨o, e _ _ h (ne_of h hd (fun z => nomatch z))⟩)
  · exact .inr h
theorem sqT_same {K : PySem.W.Frag} {H H' : Hp} {p : Addr} {xs : List V} (h : SqT K H p xs) (e : Same H H') : SqT K H' p xs := by
  rcases h with (h | ⟨o, h⟩) | h
  · exact .inl (.inl (e _ _ h))
  · exact .inl (.inr ⟨o, e _ _ h⟩)
  · exact .inr h
theorem TrailAt.but {K : PySem.W.Frag} {H H' : Hp} {d : Addr} {kvs : List (List Key × V)} {F : List Fact} {x y : Int} {v : V} (h : TrailAt K H F x y v) (hd : H d = some (.dT kvs)) (e : But d H H') : TrailAt K H' F x y v :=
  let ⟨p, l, a, b, c⟩ := h; ⟨p, l, a, sqT_but b hd e, c⟩
theorem TrailAt.same {K : PySem.W.Frag} {H H' : Hp} {F : List Fact} {x y : Int} {v : V} (h : TrailAt K H F x y v) (e : Same H H') : TrailAt K H' F x y v :=
  let ⟨p, l, a, b, c⟩ := h; ⟨p, l, a, sqT_same b e, c⟩
/-- at d stand the trails of all pairs that F joins -/
structure TrOk (K : PySem.W.Frag) (H : Hp) (d : Addr) (kvs : List (List Key × V)) (n : Int) (F : List Fact) : Prop where
  dc : H d = some (.dT kvs)
  has : ∀ x y, hasK kvs x y = true ↔ In n x ∧ In n y ∧ Con F x y
  val : ∀ x y v, valV kvs (key2 x y) = some v → TrailAt K H F x y v
  len : kvs.length ≤ 24 + 1200 * F.length
theorem TrOk.same {K : PySem.W.Frag} {H H' : Hp} {d : Addr} {kvs : List (List Key × V)} {n : Int} {F : List Fact} (h : TrOk K H d kvs n F) (e : Same H H') : TrOk K H' d kvs n F := ⟨e _ _ h.dc, h.has, fun x y v z => (h.val x y v z).same e, h.len⟩
/-- while the trails over a new road are added -/
structure Grow (K : PySem.W.Frag) (H : Hp) (d : Addr) (old kvs : List (List Key × V)) (n : Int) (F : List Fact) (r : Fact) : Prop where
  dc : H d = some (.dT kvs)
  sound : ∀ x y, hasK kvs x y = true → In n x ∧ In n y ∧ Con (F ++ [r]) x y
  keep : ∀ x y v, valV old (key2 x y) = some v → valV kvs (key2 x y) = some v
  val : ∀ x y v, valV kvs (key2 x y) = some v → TrailAt K H (F ++ [r]) x y v
theorem TrOk.grow {K : PySem.W.Frag} {H : Hp} {d : Addr} {kvs : List (List Key × V)} {n : Int} {F : List Fact} {r : Fact} (h : TrOk K H d kvs n F) : Grow K H d kvs kvs n F r :=
  ⟨h.dc, fun x y z => let ⟨a, b, c⟩ := (h.has x y).mp z; ⟨a, b, con_snoc.mpr (.inl c)⟩, fun _ _ _ z => z, fun x y v z => let ⟨p, l, a, b, c, e⟩ := h.val x y v z; ⟨p, l, a, b, c.mono, e⟩⟩
theorem Grow.same {K : PySem.W.Frag} {H H' : Hp} {d : Addr} {old kvs : List (List Key × V)} {n : Int} {F : List Fact} {r : Fact} (h : Grow K H d old kvs n F r) (e : Same H H') : Grow K H' d old kvs n F r := ⟨e _ _ h.dc, h.sound, h.keep, fun x y v z => (h.val x y v z).same e⟩
theorem Grow.put {K : PySem.W.Frag} {H : Hp} {d p : Addr} {old kvs : List (List Key × V)} {n x y : Int} {F : List Fact} {r : Fact} {l : List Nat} (h : Grow K H d old kvs n F r) (no : hasK old x y = false) (hx : In n x) (hy : In n y)
    (hp : SqT K H p (l.map fun k => V.int (k : Nat))) (w : Way (F ++ [r]) x l y) (nd : l.Nodup) : Grow K (upd H d (.dT (putK kvs (key2 x y) (.ref p)))) d old (putK kvs (key2 x y) (.ref p)) n F r := by
  refine ⟨upd_same, fun a b z => ?_, fun a b v z => ?_, fun a b v z => ?_⟩
  · rcases hasK_put.mp z with ⟨rfl, rfl⟩ | z
    · exact ⟨hx, hy, w.con⟩
    · exact h.sound a b z
  · rw [valV_put, if_neg]
    · exact h.keep a b v z
    · intro q
      obtain ⟨rfl, rfl⟩ := key2_inj.mp q
      rw [hasK_of z] at no
      cases no
  · rw [valV_put] at z
    by_cases q : key2 a b = key2 x y
    · rw [if_pos q] at z
      obtain ⟨rfl, rfl⟩ := key2_inj.mp q
      cases z
      exact ⟨p, l, rfl, sqT_but hp h.dc But.upd, w, nd⟩
    · rw [if_neg q] at z
      exact (h.val a b v z).but h.dc But.upd
/-- the crossings that F joins with a -/
def Side (hs : List Int) (n : Int) (F : List Fact) (a : Int) : Prop := ∀ x, x ∈ hs ↔ In n x ∧ Con F x a
theorem grow_end {K : PySem.W.Frag} {H : Hp} {d : Addr} {old kvs : List (List Key × V)} {n : Int} {F : List Fact} {r : Fact} {hs ts : List Int} (g : Grow K H d old kvs n F r) (hold : ∀ x y, hasK old x y = true ↔ In n x ∧ In n y ∧ Con F x y)
    (hh : Side hs n F r.1) (ht : Side ts n F r.2.1) (all : ∀ x ∈ hs, ∀ y ∈ ts, hasK kvs x y = true ∧ hasK kvs y x = true) (len : kvs.length ≤ 24 + 1200 * (F.length + 1)) : TrOk K H d kvs n (F ++ [r]) := by
  refine ⟨g.dc, fun x y => ?_, g.val, by rw [List.length_append]; exact len⟩
  refine Iff.intro (g.sound x y) ?_
  rintro ⟨hx, hy, c⟩
  rcases con_snoc.mp c with c | ⟨c1, c2⟩ | ⟨c1, c2⟩
  · obtain ⟨v, hv⟩ := hasK_some ((hold x y).mpr ⟨hx, hy, c⟩)
    exact hasK_of (g.keep x y v hv)
  · exact (all x ((hh x).mpr ⟨hx, c1⟩) y ((ht y).mpr ⟨hy, c2.symm⟩)).1
  · exact (all y ((hh y).mpr ⟨hy, c2.symm⟩) x ((ht x).mpr ⟨hx, c1⟩)).2
def spJoin (K : PySem.W.Frag) (CR : Addr) : Sp := fun vs H Q _ => ∃ (d rp : Addr) (n : Int) (F : List Fact) (r : Fact) (kvs : List (List Key × V)), vs = [.ref d, .int n, .int (F.length : Nat), .ref rp] ∧ RoadAt CR H rp r ∧ TrOk K H d kvs n F ∧
  0 ≤ n ∧ n ≤ 24 ∧ F.length ≤ 24 ∧ In n r.1 ∧ In n r.2.1 ∧ ¬ Con F r.1 r.2.1 ∧ ∀ H' kvs', TrOk K H' d kvs' n (F ++ [r]) → But d H H' → Q .non H'
/-- t + u -/
theorem catA_of {K : PySem.W.Frag} {H : Hp} {a b : Addr} {xs ys : List V} {Q : VK} (ha : SqT K H a xs) (hb : SqT K H b ys) (hl : xs.length + ys.length ≤ sizeLine) (k : ∀ p H', Same H H' → SqT K H' p (xs ++ ys) → Q (.ref p) H') : rCatA K (.ref a) (.ref b) H Q := by
  refine ⟨a, b, xs, ys, rfl, rfl, ha, hb, hl, fun e => ?_, fun _ e => ?_, fun _ _ p hp => k p _ (Same.new hp) (SqT.of upd_same)⟩
  · subst e
    exact k b H (Same.refl H) hb
  · subst e
    exact k a H (Same.refl H) (by rw [List.append_nil]; exact ha)
section
variable {P : Program} {w : World} {K : PySem.W.Frag} {mg : Str → Option Value} {base : Heap}
abbrev nJoin : List Str := ["trails", "crossings", "number", "road", "heads", "tails", "head", "tail", "trail", "crossing"]
theorem scJoin : FnScope nJoin ["trails", "crossings", "number", "road"] (defScope sJoin) := ⟨rfl, rfl, rfl, by decide +kernel, rfl, by decide +kernel, by decide +kernel⟩
/-- what the comprehension over range(n) has kept behind i turns -/
def Kept (l : List Int) (i : Nat) (p : Int → Bool) : Prop := (∀ x, x ∈ l ↔ (0 ≤ x ∧ x < (i : Int)) ∧ p x = true) ∧ l.length ≤ i
theorem Kept.zero {p : Int → Bool} : Kept [] 0 p := ⟨fun x => ⟨fun h => (by cases h), fun h => (by omega)⟩, Nat.le_refl _⟩
theorem Kept.yes {l : List Int} {i : Nat} {p : Int → Bool} (h : Kept l i p) (e : p (i : Int) = true) : Kept (l ++ [(i : Int)]) (i + 1) p := by
  refine ⟨fun x => ?_, by rw [List.length_append]; exact Nat.succ_le_succ h.2⟩
  rw [List.mem_append, List.mem_singleton, h.1]
  constructor
  · rintro (⟨a, b⟩ | rfl)
    · exact ⟨by omega, b⟩
    · exact ⟨by omega, e⟩
  · rintro ⟨a, b⟩
    by_cases q : x = (i : Int)
    · exact .inr q
    · exact .inl ⟨by omega, b⟩
theorem Kept.no {l : List Int} {i : Nat} {p : Int → Bool} (h : Kept l i p) (e : p (i : Int) = false) : Kept l (i + 1) p := by
  refine ⟨fun x => ?_, Nat.le_succ_of_le h.2⟩
  rw [h.1]
  constructor
  · rintro ⟨a, b⟩
    exact ⟨by omega, b⟩
  · rintro ⟨a, b⟩
    refine ⟨?_, b⟩
    by_cases q : x = (i : Int)
    · rw [q, e] at b
      cases b
    · omega
theorem ok_join {f CR : Addr} {fd : FuncData} (F : Fun K "join_trails" "join_trails" sJoin f fd) (TR : RdT K mg CR) (hRg : mg "range" = none) : FnOk P w K mg base CX0 1 f fd ["trails", "crossings", "number", "road"] (spJoin K CR) := by
  refine F.ok scJoin (fun vs H Q E h => ?_) (fun cdv A outer s H vs Q E hr h => ?_)
  · obtain ⟨d, rp, n, F, r, kvs, rfl, _⟩ := h
    rfl
  · obtain ⟨d, rp, n, F, r, kvs, rfl, hR, hT, hn0, hn24, hF24, ia, ib, nc, k⟩ := h
    have hu := hu_of hr
    obtain ⟨dx, hrp⟩ := id hR
    refine ⟨_, pss_cons (ps_setLc (i := 4) (own := [("crossing", 9)]) (g := gName 9) (tt := tB (tDIn (tTup (tCons (tVar 9) (tCons (tFld K (tVar 3) "a") tNil))) (tVar 0))) rfl scJoin.nd rfl rfl (sw_true rfl rfl rfl (by decide +kernel)) (pi_range1 rfl hRg (pa_cons (pv 1) pa_nil))
          (blkOk_by (own := [("crossing", 9)]) (N := nJoin) (sc := defScope sJoin) (by decide +kernel)) (fun _ _ _ _ _ => pg_name (i := 9) scJoin.nd rfl (Or.inl rfl))
          (fun _ _ _ _ _ => pts_one (pt_cmp (pc_din hu (pe_tup (pa_cons (pv 9) (pa_cons (pe_fld (pv 3) rfl) pa_nil))) (pv 0)))) (fun _ _ _ _ _ => pv 9))
      (pss_cons (ps_setLc (i := 5) (own := [("crossing", 9)]) (g := gName 9) (tt := tB (tDIn (tTup (tCons (tFld K (tVar 3) "b") (tCons (tVar 9) tNil))) (tVar 0))) rfl scJoin.nd rfl rfl (sw_true rfl rfl rfl (by decide +kernel)) (pi_range1 rfl hRg (pa_cons (pv 1) pa_nil))
          (blkOk_by (own := [("crossing", 9)]) (N := nJoin) (sc := defScope sJoin) (by decide +kernel)) (fun _ _ _ _ _ => pg_name (i := 9) scJoin.nd rfl (Or.inl rfl))
          (fun _ _ _ _ _ => pts_one (pt_cmp (pc_din hu (pe_tup (pa_cons (pe_fld (pv 3) rfl) (pa_cons (pv 9) pa_nil))) (pv 0)))) (fun _ _ _ _ _ => pv 9))
      (pss_one (ps_for PassesOwn.never rfl (pi_list (pv 4)) (pg_name (i := 6) scJoin.nd rfl (Or.inl rfl))
        (pss_one (ps_for PassesOwn.never rfl (pi_list (pv 5)) (pg_name (i := 7) scJoin.nd rfl (Or.inl rfl))
          (pss_cons (ps_set (i := 8) scJoin.nd rfl (Or.inl rfl) (pe_op op_catA (pe_op op_catA (pe_dget hu (pv 0) (pe_tup (pa_cons (pv 6) (pa_cons (pe_fld (pv 3) rfl) pa_nil))) (fun _ _ => rfl)) (pe_tup (pa_cons (pv 2) pa_nil)))
              (pe_dget hu (pv 0) (pe_tup (pa_cons (pe_fld (pv 3) rfl) (pa_cons (pv 7) pa_nil))) (fun _ _ => rfl))))
          (pss_cons (ps_dput hu (pv 0) (pe_tup (pa_cons (pv 6) (pa_cons (pv 7) pa_nil))) (pv 8) rfl)
          (pss_one (ps_dput hu (pv 0) (pe_tup (pa_cons (pv 7) (pa_cons (pv 6) pa_nil))) (pe_revT (pv 8)) rfl))))))))), ?_⟩
    have hne : ∀ {b : Addr} {o : HO}, H b = some o → ∀ {Hc : Hp} {t : Addr}, Same H Hc → Hc t = none → b ≠ t := fun e _ _ sc n => ne_of_none (sc _ _ e) n
    -- heads
    refine ⟨_, rfl, n, rfl, by omega, by omega, fun D1 hD1 => lc_range (lo := 0) (n := n.toNat) (fun i Hc => ∃ l : List Int, Hc D1 = some (.lst (l.map V.int)) ∧ Same H Hc ∧ Kept l i fun x => hasK kvs x r.1)
      ⟨[], upd_same, Same.new hD1, Kept.zero⟩ ?_ ?_⟩
    · rintro i Hc hi ⟨l, hl, sc, kp⟩
      have e0 : (0 : Int) + (i : Int) = (i : Int) := Int.zero_add _
      rw [e0]
      refine ⟨rfl, _, rfl, _, rfl, rp, CR, dx, _, _, rfl, sc _ _ hrp, TR.cl, TR.nA, rdF_a r, (by show 2 ≤ sizeLine; decide), fun t ht => ?_⟩
      have nD : D1 ≠ t := ne_of_none hl ht
      have nd : d ≠ t := ne_of_none (sc _ _ hT.dc) ht
      have sc' : Same H (upd Hc t (.tup [.int (i : Int), .int r.1])) := sc.trans (Same.new ht)
      refine ⟨_, rfl, d, _, rfl, DGet.t (k := key2 (i : Int) r.1) (sc' _ _ hT.dc) upd_same, _, rfl, ?_⟩
      cases e : hasK kvs (i : Int) r.1 with
      | true =>
        have e' : (valV kvs (key2 (i : Int) r.1)).isSome = true := e
        rw [e']
        refine iteT ⟨_, rfl, l.map V.int, by rw [upd_ne nD]; exact hl, small1000 (by rw [List.length_map]; have := kp.2; omega), l ++ [(i : Int)], by rw [List.map_append]; exact upd_same, fun b o z => ?_, kp.yes e⟩
        rw [upd_ne (ne_of_none z hD1)]
        exact sc' b o z
      | false =>
        have e' : (valV kvs (key2 (i : Int) r.1)).isSome = false := e
        rw [e']
        exact iteF ⟨l, by rw [upd_ne nD]; exact hl, sc', kp.no e⟩
    rintro H4 ⟨hs, hh1, s4, kp1⟩
    have side1 : Side hs n F r.1 := fun x => by
      rw [kp1.1]
      show _ ∧ hasK kvs x r.1 = true ↔ _
      rw [hT.has]
      unfold In
      exact ⟨fun ⟨_, c, _, g⟩ => ⟨c, g⟩, fun ⟨⟨a, b⟩, g⟩ => ⟨⟨a, by omega⟩, ⟨a, b⟩, ia, g⟩⟩
    -- tails
    refine ⟨_, rfl, n, rfl, by omega, by omega, fun D2 hD2 => lc_range (lo := 0) (n := n.toNat) (fun i Hc => ∃ l : List Int, Hc D2 = some (.lst (l.map V.int)) ∧ Same H4 Hc ∧ Kept l i fun x => hasK kvs r.2.1 x)
      ⟨[], upd_same, Same.new hD2, Kept.zero⟩ ?_ ?_⟩
    · rintro i Hc hi ⟨l, hl, sc, kp⟩
      have e0 : (0 : Int) + (i : Int) = (i : Int) := Int.zero_add _
      rw [e0]
      have sH : Same H Hc := s4.trans sc
      refine ⟨rfl, _, rfl, rp, CR, dx, _, _, rfl, sH _ _ hrp, TR.cl, TR.nB, rdF_b r, _, rfl, (by show 2 ≤ sizeLine; decide), fun t ht => ?_⟩
      have nD : D2 ≠ t := ne_of_none hl ht
      have sc' : Same H4 (upd Hc t (.tup [.int r.2.1, .int (i : Int)])) := sc.trans (Same.new ht)
      refine ⟨_, rfl, d, _, rfl, DGet.t (k := key2 r.2.1 (i : Int)) ((s4.trans sc') _ _ hT.dc) upd_same, _, rfl, ?_⟩
      cases e : hasK kvs r.2.1 (i : Int) with
      | true =>
        have e' : (valV kvs (key2 r.2.1 (i : Int))).isSome = true := e
        rw [e']
        refine iteT ⟨_, rfl, l.map V.int, by rw [upd_ne nD]; exact hl, small1000 (by rw [List.length_map]; have := kp.2; omega), l ++ [(i : Int)], by rw [List.map_append]; exact upd_same, fun b o z => ?_, kp.yes e⟩
        rw [upd_ne (ne_of_none z hD2)]
        exact sc' b o z
      | false =>
        have e' : (valV kvs (key2 r.2.1 (i : Int))).isSome = false := e
        rw [e']
        exact iteF ⟨l, by rw [upd_ne nD]; exact hl, sc', kp.no e⟩
    rintro H5 ⟨ts, hh2, s5, kp2⟩
    have side2 : Side ts n F r.2.1 := fun x => by
      rw [kp2.1]
      show _ ∧ hasK kvs r.2.1 x = true ↔ _
      rw [hT.has]
      unfold In
      exact ⟨fun ⟨⟨a, b⟩, _, ⟨c, e⟩, g⟩ => ⟨⟨c, e⟩, g.symm⟩, fun ⟨⟨a, b⟩, g⟩ => ⟨⟨a, by omega⟩, ib, ⟨a, b⟩, g.symm⟩⟩
    have sH5 : Same H H5 := s4.trans s5
    have d1 : D1 ≠ d := (ne_of_none hT.dc hD1).symm
    have d2 : D2 ≠ d := (ne_of_none (s4 _ _ hT.dc) hD2).symm
    have rpd : rp ≠ d := ne_of hrp hT.dc (fun z => nomatch z)
    have lh : hs.length ≤ 24 := by have := kp1.2; omega
    have lt : ts.length ≤ 24 := by have := kp2.2; omega
    have hh1' : H5 D1 = some (.lst (hs.map V.int)) := s5 _ _ hh1
    -- for head in heads
    refine ⟨_, rfl, D1, rfl, ⟨_, SqL.of hh1'⟩, for_list (K := K) (a := D1) (xs := hs.map V.int) (fun i σ H2 => ∃ (v6 v7 v8 : Option V) (kvs' : List (List Key × V)), σ = [some (.ref d), some (.int n), some (.int (F.length : Nat)), some (.ref rp), some (.ref D1), some (.ref D2), v6, v7, v8, none] ∧
        But d H5 H2 ∧ Grow K H2 d kvs kvs' n F r ∧ (∀ (i' : Nat) (x : Int), i' < i → hs[i']? = some x → ∀ y ∈ ts, hasK kvs' x y = true ∧ hasK kvs' y x = true) ∧ kvs'.length ≤ kvs.length + 2 * (i * ts.length))
      ⟨none, none, none, kvs, rfl, But.refl, (hT.same sH5).grow, fun i' x z => absurd z (Nat.not_lt_zero _), by omega⟩ (fun i σ H2 _ ⟨_, _, _, _, _, b2, _⟩ => SqL.of (b2 _ _ hh1' d1)) ?_ ?_⟩
    · rintro i xv σ H2 hi ⟨v6, v7, v8, kvs1, rfl, b2, g2, done2, len2⟩
      have hil : i < hs.length := by
        have := (List.getElem?_eq_some_iff.mp hi).1
        rwa [List.length_map] at this
      obtain ⟨x, hx, rfl⟩ : ∃ x, hs[i]? = some x ∧ xv = V.int x := by
        rw [List.getElem?_map] at hi
        cases e : hs[i]? with
        | none => rw [e] at hi; cases hi
        | some z => rw [e] at hi; exact ⟨z, rfl, (Option.some.inj hi).symm⟩
      obtain ⟨ix, cx⟩ := (side1 x).mp (List.mem_of_getElem? hx)
      -- for tail in tails
      refine ⟨_, rfl, D2, rfl, ⟨_, SqL.of (b2 _ _ hh2 d2)⟩, for_list (K := K) (a := D2) (xs := ts.map V.int) (fun j σ H3 => ∃ (v7 v8 : Option V) (kvs' : List (List Key × V)), σ = [some (.ref d), some (.int n), some (.int (F.length : Nat)), some (.ref rp), some (.ref D1), some (.ref D2), some (.int x), v7, v8, none] ∧
          But d H5 H3 ∧ Grow K H3 d kvs kvs' n F r ∧ (∀ (i' : Nat) (x : Int), i' < i → hs[i']? = some x → ∀ y ∈ ts, hasK kvs' x y = true ∧ hasK kvs' y x = true) ∧ (∀ (j' : Nat) (y : Int), j' < j → ts[j']? = some y → hasK kvs' x y = true ∧ hasK kvs' y x = true) ∧ kvs'.length ≤ kvs.length + 2 * (i * ts.length + j))
        ⟨v7, v8, kvs1, rfl, b2, g2, done2, fun j' y z => absurd z (Nat.not_lt_zero _), by omega⟩ (fun j σ H3 _ ⟨_, _, _, _, b3, _⟩ => SqL.of (b3 _ _ hh2 d2)) ?_ ?_⟩
      · rintro j yv σ H3 hj ⟨v7, v8, kvs2, rfl, b3, g3, done3, row3, len3⟩
        have hjl : j < ts.length := by
          have := (List.getElem?_eq_some_iff.mp hj).1
          rwa [List.length_map] at this
        obtain ⟨y, hy, rfl⟩ : ∃ y, ts[j]? = some y ∧ yv = V.int y := by
          rw [List.getElem?_map] at hj
          cases e : ts[j]? with
          | none => rw [e] at hj; cases hj
          | some z => rw [e] at hj; exact ⟨z, rfl, (Option.some.inj hj).symm⟩
        obtain ⟨iy, cy⟩ := (side2 y).mp (List.mem_of_getElem? hy)
        have bH : But d H H3 := fun b o z nb => b3 b o (sH5 b o z) nb
        obtain ⟨v0, hv0⟩ := hasK_some ((hT.has x r.1).mpr ⟨ix, ia, cx⟩)
        obtain ⟨v1, hv1⟩ := hasK_some ((hT.has r.2.1 y).mpr ⟨ib, iy, cy.symm⟩)
        obtain ⟨p0, l0, rfl, q0, w0, n0⟩ := (hT.val _ _ _ hv0).but hT.dc bH
        obtain ⟨p1, l1, rfl, q1, w1, n1⟩ := (hT.val _ _ _ hv1).but hT.dc bH
        have kv0 := g3.keep _ _ _ hv0
        have kv1 := g3.keep _ _ _ hv1
        have no1 : hasK kvs x y = false := by
          cases e : hasK kvs x y with
          | false => rfl
          | true => exact absurd ((cx.symm.trans ((hT.has x y).mp e).2.2).trans cy) nc
        have no2 : hasK kvs y x = false := by
          cases e : hasK kvs y x with
          | false => rfl
          | true => exact absurd ((cx.symm.trans ((hT.has y x).mp e).2.2.symm).trans cy) nc
        have hrp3 : H3 rp = some (.ins CR dx (rdF r)) := bH _ _ hrp rpd
        have sl0 := w0.short n0
        have sl1 := w1.short n1
        have tot : i * ts.length ≤ 23 * 24 := Nat.mul_le_mul (by omega) lt
        have big : kvs2.length ≤ 24 + 1200 * 24 + 2 * (23 * 24 + 24) := by have := hT.len; omega
        -- trail = trails[head, road.a] + (number,) + trails[road.b, tail]
        refine ⟨_, rfl, _, rfl, _, rfl, rp, CR, dx, _, _, rfl, hrp3, TR.cl, TR.nA, rdF_a r, (by show 2 ≤ sizeLine; decide), fun t1 ht1 => ?_⟩
        have s1 : Same H3 (upd H3 t1 (.tup [.int x, .int r.1])) := Same.new ht1
        refine ⟨d, _, rfl, (by rw [← kv0]; exact DGet.t (k := key2 x r.1) (s1 _ _ g3.dc) upd_same), _, rfl, (by show 1 ≤ sizeLine; decide), fun t2 ht2 => ?_⟩
        have s2 := s1.trans (Same.new (o := .tup [.int (F.length : Nat)]) ht2)
        refine catA_of (sqT_same q0 s2) (SqT.of upd_same) (by rw [List.length_map]; show l0.length + 1 ≤ sizeLine; rw [PySem.sizeLine_eq]; omega) fun q2 H6 s6 hq2 => ?_
        have s6' : Same H3 H6 := s2.trans s6
        refine ⟨_, rfl, _, rfl, rp, CR, dx, _, _, rfl, s6' _ _ hrp3, TR.cl, TR.nB, rdF_b r, _, rfl, (by show 2 ≤ sizeLine; decide), fun t3 ht3 => ?_⟩
        have s7 : Same H3 (upd H6 t3 (.tup [.int r.2.1, .int y])) := s6'.trans (Same.new ht3)
        refine ⟨d, _, rfl, (by rw [← kv1]; exact DGet.t (k := key2 r.2.1 y) (s7 _ _ g3.dc) upd_same), ?_⟩
        refine catA_of (sqT_same hq2 (Same.new ht3)) (sqT_same q1 s7) (by rw [List.length_append, List.length_map, List.length_map]; show l0.length + 1 + l1.length ≤ sizeLine; rw [PySem.sizeLine_eq]; omega) fun q3 H8 s8 hq3 => ?_
        have s8' : Same H3 H8 := s7.trans s8
        have hq3' : SqT K H8 q3 ((l0 ++ F.length :: l1).map fun k => V.int (k : Nat)) := by
          rw [List.map_append, List.map_cons]
          rw [List.append_assoc] at hq3
          exact hq3
        have ww := way_over w0 w1
        have wn := way_nodup nc w0 w1 n0 n1
        -- trails[head, tail] = trail
        refine ⟨_, rfl, _, rfl, _, rfl, _, rfl, (by show 2 ≤ sizeLine; decide), fun t4 ht4 => ?_⟩
        have s9 : Same H3 (upd H8 t4 (.tup [.int x, .int y])) := s8'.trans (Same.new ht4)
        refine ⟨d, _, rfl, DPut.t (k := key2 x y) (s9 _ _ g3.dc) upd_same (by rw [PySem.sizeLine_eq]; omega), ?_⟩
        have g9 := (g3.same s9).put no1 ix iy (sqT_same hq3' (Same.new ht4)) ww wn
        have nq3 := sqT_but (sqT_same hq3' (Same.new (o := .tup [.int x, .int y]) ht4)) (s9 _ _ g3.dc) (But.upd (o := .dT (putK kvs2 (key2 x y) (.ref q3))))
        -- trails[tail, head] = trail[::-1]
        refine ⟨_, rfl, q3, _, rfl, nq3, fun q4 hq4 => ?_⟩
        refine ⟨_, rfl, _, rfl, _, rfl, (by show 2 ≤ sizeLine; decide), fun t5 ht5 => ?_⟩
        have s10 := (Same.new (o := .tup (((l0 ++ F.length :: l1).map fun k => V.int (k : Nat)).reverse)) hq4).trans (Same.new (o := .tup [.int y, .int x]) ht5)
        have g10 := g9.same s10
        refine ⟨d, _, rfl, DPut.t (k := key2 y x) g10.dc upd_same (by have := length_putK kvs2 (key2 x y) (V.ref q3); rw [PySem.sizeLine_eq]; omega), ?_⟩
        have hq4' := (Same.new (o := .tup [.int y, .int x]) ht5) q4 _ upd_same
        have g11 := g10.put (p := q4) (l := (l0 ++ F.length :: l1).reverse) no2 iy ix (by rw [List.map_reverse]; exact SqT.of hq4') ww.rev (List.pairwise_reverse.mpr (wn.imp Ne.symm))
        refine ⟨_, _, _, rfl, fun b o z nb => ?_, g11, fun i' x' a b y' c => ?_, fun j' y' a b => ?_, ?_⟩
        · rw [upd_ne nb]
          refine s10 b o ?_
          rw [upd_ne nb]
          exact s9 b o (b3 b o z nb)
        · obtain ⟨h1, h2⟩ := done3 i' x' a b y' c
          exact ⟨hasK_put.mpr (.inr (hasK_put.mpr (.inr h1))), hasK_put.mpr (.inr (hasK_put.mpr (.inr h2)))⟩
        · by_cases e : j' = j
          · subst e
            rw [hy] at b
            cases b
            exact ⟨hasK_put.mpr (.inr (hasK_put.mpr (.inl ⟨rfl, rfl⟩))), hasK_put.mpr (.inl ⟨rfl, rfl⟩)⟩
          · obtain ⟨h1, h2⟩ := row3 j' y' (by omega) b
            exact ⟨hasK_put.mpr (.inr (hasK_put.mpr (.inr h1))), hasK_put.mpr (.inr (hasK_put.mpr (.inr h2)))⟩
        · have z1 := length_putK kvs2 (key2 x y) (V.ref q3)
          have z2 := length_putK (putK kvs2 (key2 x y) (V.ref q3)) (key2 y x) (V.ref q4)
          omega
      · rintro σ H3 ⟨v7, v8, kvs2, rfl, b3, g3, done3, row3, len3⟩
        rw [List.length_map] at row3 len3
        refine ⟨_, _, _, kvs2, rfl, b3, g3, fun i' x' a b y c => ?_, by rw [Nat.add_mul, Nat.one_mul]; omega⟩
        by_cases e : i' = i
        · subst e
          rw [hx] at b
          cases b
          obtain ⟨j', hj', e'⟩ := List.getElem_of_mem c
          exact row3 j' y hj' (by rw [List.getElem?_eq_getElem hj', e'])
        · exact done3 i' x' (by omega) b y c
    · rintro σ H2 ⟨v6, v7, v8, kvs1, rfl, b2, g2, done2, len2⟩
      rw [List.length_map] at done2 len2
      have tot : hs.length * ts.length ≤ 24 * 24 := Nat.mul_le_mul lh lt
      refine k H2 kvs1 (grow_end g2 hT.has side1 side2 (fun x hx y hy => ?_) (by have := hT.len; omega)) (fun b o z nb => b2 b o (sH5 b o z) nb)
      obtain ⟨i', hi', e'⟩ := List.getElem_of_mem hx
      exact done2 i' x hi' (by rw [List.getElem?_eq_getElem hi', e']) y hy
end
end OT

set_option Elab.async false
set_option linter.all false
set_option maxRecDepth 100000
set_option maxHeartbeats 2000000
namespace OT
open PySem L2 OTR
/-- the error that a tree's maker raises -/
def ErrR (CB CN CG : Addr) (H : Hp) (E : XK) : Err → Prop
  | .crossings n => Raised CB [("count", .int n), ("what", .str "crossings")] H E
  | .roads k => Raised CB [("count", .int k), ("what", .str "roads")] H E
  | .crossing c => Raised CN [("crossing", .int c)] H E
  | .length s => Raised CB [("count", .int s), ("what", .str "length")] H E
  | .ring k => Raised CG [("road", .int k)] H E
theorem ErrR.mono {CB CN CG : Addr} {H H1 : Hp} {E : XK} {e : Err} (h : ErrR CB CN CG H E e) (s : Same H H1) : ErrR CB CN CG H1 E e := by
  cases e with
  | crossings n => exact Raised.mono h s
  | roads n => exact Raised.mono h s
  | crossing n => exact Raised.mono h s
  | length n => exact Raised.mono h s
  | ring n => exact Raised.mono h s
/-- roads at these places -/
def RoadsAt (CR : Addr) (H : Hp) (ps : List Addr) (F : List Fact) : Prop := Paired (RoadAt CR H) ps F
theorem RoadsAt.same {CR : Addr} {H H' : Hp} {ps : List Addr} {F : List Fact} (h : RoadsAt CR H ps F) (s : Same H H') : RoadsAt CR H' ps F := by
  unfold RoadsAt at h ⊢
  induction h with
  | nil => exact .nil
  | cons a _ ih => exact .cons (a.same s) ih
theorem RoadsAt.get {CR : Addr} {H : Hp} : ∀ {ps : List Addr} {F : List Fact}, RoadsAt CR H ps F → ∀ {i : Nat} {p : Addr}, ps[i]? = some p → ∃ r, F[i]? = some r ∧ RoadAt CR H p r
  | _, _, .nil, i, p, e => by simp at e
  | _, _, .cons a t, 0, p, e => by
    have z := Option.some.inj e
    subst z
    exact ⟨_, rfl, a⟩
  | _, _, .cons a t, i + 1, p, e => RoadsAt.get (ps := _) (F := _) t (i := i) e
theorem RoadsAt.len {CR : Addr} {H : Hp} {ps : List Addr} {F : List Fact} (h : RoadsAt CR H ps F) : ps.length = F.length := Paired.length h
def spTrails (K : PySem.W.Frag) (CR CB CN CG : Addr) : Sp := fun vs H Q E => ∃ (n : Int) (t : Addr) (ps : List Addr) (F : List Fact), vs = [.int n, .ref t] ∧ SqT K H t (ps.map V.ref) ∧ RoadsAt CR H ps F ∧ 0 ≤ n ∧ n ≤ 24 ∧ F.length ≤ 24 ∧
  (∀ e, dueR n [] F = some e → ErrR CB CN CG H E e) ∧ (dueR n [] F = none → ∀ d kvs H', TrOk K H' d kvs n F → Same H H' → H d = none → Q (.ref d) H')
theorem map_get {α β : Type} {f : α → β} {l : List α} {i : Nat} {y : β} (h : (l.map f)[i]? = some y) : ∃ p, l[i]? = some p ∧ y = f p := by
  rw [List.getElem?_map] at h
  cases e : l[i]? with
  | none =>
    rw [e] at h
    cases h
  | some z =>
    rw [e] at h
    exact ⟨z, rfl, (Option.some.inj h).symm⟩
theorem drop_get {α : Type} {l : List α} {i : Nat} {x : α} (h : l[i]? = some x) : l.drop i = x :: l.drop (i + 1) := by
  obtain ⟨hi, e⟩ := List.getElem?_eq_some_iff.mp h
  rw [List.drop_eq_getElem_cons hi, e]
theorem take_get {α : Type} {l : List α} {i : Nat} {x : α} (h : l[i]? = some x) : l.take (i + 1) = l.take i ++ [x] := by
  obtain ⟨hi, e⟩ := List.getElem?_eq_some_iff.mp h
  rw [List.take_succ, h]
  rfl
section
variable {P : Program} {w : World} {K : PySem.W.Frag} {mg : Str → Option Value} {base : Heap}
abbrev nTrails : List Str := ["crossings", "roads", "trails", "number", "road", "crossing"]
theorem scTrails : FnScope nTrails ["crossings", "roads"] (defScope sTrails) := ⟨rfl, rfl, rfl, by decide +kernel, rfl, by decide +kernel, by decide +kernel⟩
theorem ok_trails {f fC fJ CR CB CN CG fG : Addr} {fd fdC fdJ fdG : FuncData} (F : Fun K "trails_along" "trails_along" sTrails f fd) (TR : RdT K mg CR) (TG' : ErT K mg "RingRoad" CG fG)
    (FG : FnOk P w K mg base CX0 1 fG fdG ["self", "road"] (spEr1 CG "road")) (bG : Binds K fdG ["self", "road"] [])
    (FC : FnOk P w K mg base (L2.CX P w) 3 fC fdC ["crossings", "road"] (spCheck CR CB CN)) (bC : Binds K fdC ["crossings", "road"] []) (mC : mg "check_road" = some (.ref fC)) (kC : PySem.W.keepIn K (.ref fC) = true)
    (FJ : FnOk P w K mg base CX0 1 fJ fdJ ["trails", "crossings", "number", "road"] (spJoin K CR)) (bJ : Binds K fdJ ["trails", "crossings", "number", "road"] []) (mJ : mg "join_trails" = some (.ref fJ)) (kJ : PySem.W.keepIn K (.ref fJ) = true)
    (hRg : mg "range" = none) (hEn : mg "enumerate" = none) :
    FnOk P w K mg base (L2.CX P w) 4 f fd ["crossings", "roads"] (spTrails K CR CB CN CG) := by
  refine F.okX scTrails (fun vs H Q E h => ?_) (fun cdv A outer s H vs Q E hr h => ?_)
  · obtain ⟨n, t, ps, F, rfl, _⟩ := h
    rfl
  · obtain ⟨n, t, ps, F, rfl, hS, hR, hn0, hn24, hF, kE, kQ⟩ := h
    have hu := hu_of hr
    have hr2 : Room 2 _ := hr.mono (by decide)
    have hr1 : Room 1 _ := hr.mono (by decide)
    refine ⟨_, pss_cons (ps_setDcT (i := 2) (own := [("crossing", 5)]) (g := gName 5) hu rfl scTrails.nd rfl rfl (swD_true rfl rfl rfl (by decide +kernel)) (pi_range1 rfl hRg (pa_cons (pv 0) pa_nil))
          (blkOk_by (own := [("crossing", 5)]) (N := nTrails) (sc := defScope sTrails) (by decide +kernel)) (fun _ _ _ _ _ => pg_name (i := 5) scTrails.nd rfl (Or.inl rfl)) (fun _ _ _ _ _ => pts_nil)
          (fun _ _ _ _ _ => pe_tup (pa_cons (pv 5) (pa_cons (pv 5) pa_nil))) (fun _ _ _ _ _ => pe_tup pa_nil))
      (pss_cons (ps_for (passes_of rfl) rfl (pi_enumT rfl hEn (pa_cons (pv 1) pa_nil)) (pg_tup rfl (pgs_cons (pg_name (i := 3) scTrails.nd rfl (Or.inl rfl)) (pgs_cons (pg_name (i := 4) scTrails.nd rfl (Or.inl rfl)) pgs_nil)))
        (pss_cons (ps_expr (pe_call FC hr rfl mC kC bC .nil (passes_call (takes_of rfl rfl rfl rfl) fun _ _ _ _ h => h) (pa_cons (pv 0) (pa_cons (pv 4) pa_nil))))
        (pss_cons (ps_if (pt_cmp (pc_din hu (pe_tup (pa_cons (pe_fld (pv 4) rfl) (pa_cons (pe_fld (pv 4) rfl) pa_nil))) (pv 2)))
            (pss_one (ps_raise rfl (takes_of rfl rfl rfl rfl) (pmk_oex TG'.ox TG'.iC TG'.tI FG hr2 bG .nil pass0 (by rfl) TG'.gC (pa_cons (pv 3) pa_nil)))) pss_nil)
        (pss_one (ps_expr (pe_call FJ hr1 rfl mJ kJ bJ .nil pass0 (pa_cons (pv 2) (pa_cons (pv 0) (pa_cons (pv 3) (pa_cons (pv 4) pa_nil))))))))))
      (pss_one (ps_ret (pv 2)))), ?_⟩
    -- trails = {(crossing, crossing): () ..}
    refine ⟨_, rfl, n, rfl, by omega, by omega, fun D hD => dcT_range (lo := 0) (n := n.toNat) (fun i Hc => ∃ kvs : List (List Key × V), Hc D = some (.dT kvs) ∧ Same H Hc ∧ (∀ x y, hasK kvs x y = true ↔ (0 ≤ x ∧ x < (i : Int)) ∧ x = y) ∧
        (∀ x y v, valV kvs (key2 x y) = some v → TrailAt K Hc [] x y v) ∧ kvs.length ≤ i)
      ⟨[], upd_same, Same.new hD, fun x y => ⟨fun z => (by cases z), fun z => (by omega)⟩, fun x y v z => (by cases z), Nat.le_refl _⟩ ?_ ?_⟩
    · rintro i Hc hi ⟨kvs, hk, sc, has, val, len⟩
      have e0 : (0 : Int) + (i : Int) = (i : Int) := Int.zero_add _
      rw [e0]
      refine ⟨rfl, ?_⟩
      unfold tYes
      refine iteT ?_
      refine ⟨_, rfl, _, rfl, (by show 2 ≤ sizeLine; decide), fun t1 h1 => ⟨Nat.zero_le _, fun t2 h2 => ?_⟩⟩
      have s1 : Same Hc (upd Hc t1 (.tup [.int (i : Int), .int (i : Int)])) := Same.new h1
      have s2 : Same Hc (upd (upd Hc t1 (.tup [.int (i : Int), .int (i : Int)])) t2 (.tup [])) := s1.trans (Same.new h2)
      have n2 : t1 ≠ t2 := ne_of_none upd_same h2
      refine ⟨kvs, key2 (i : Int) (i : Int), t1, rfl, by rw [upd_ne n2]; exact upd_same, s2 _ _ hk, small1000 (by omega), putK kvs (key2 (i : Int) (i : Int)) (.ref t2), upd_same, fun b o z => ?_, fun x y => ?_, fun x y v z => ?_, Nat.le_trans (length_putK _ _ _) (Nat.succ_le_succ len)⟩
      · rw [upd_ne (ne_of_none z hD)]
        exact s2 b o (sc b o z)
      · rw [hasK_put, has]
        constructor
        · rintro (⟨rfl, rfl⟩ | ⟨a, rfl⟩)
          · exact ⟨by omega, rfl⟩
          · exact ⟨by omega, rfl⟩
        · rintro ⟨a, rfl⟩
          by_cases q : x = (i : Int)
          · exact .inl ⟨q, q⟩
          · exact .inr ⟨by omega, rfl⟩
      · rw [valV_put] at z
        by_cases q : key2 x y = key2 (i : Int) (i : Int)
        · rw [if_pos q] at z
          obtain ⟨rfl, rfl⟩ := key2_inj.mp q
          cases z
          exact ⟨t2, [], rfl, sqT_but (SqT.of upd_same) (s2 _ _ hk) But.upd, .nil _, List.nodup_nil⟩
        · rw [if_neg q] at z
          exact ((val x y v z).same s2).but (s2 _ _ hk) But.upd
    rintro H1 ⟨kvs0, hk0, s1, has0, val0, len0⟩
    have T0 : TrOk K H1 D kvs0 n [] := by
      refine ⟨hk0, fun x y => ?_, val0, by have : n.toNat ≤ 24 := by omega
                                           exact Nat.le_trans len0 (by omega)⟩
      rw [has0]
      unfold In
      constructor
      · rintro ⟨a, rfl⟩
        exact ⟨by omega, by omega, .refl _⟩
      · rintro ⟨a, b, c⟩
        have e := c.nil
        exact ⟨by omega, e⟩
    have hS1 : SqT K H1 t (ps.map V.ref) := sqT_same hS s1
    -- for number, road in enumerate(roads)
    refine ⟨_, rfl, t, _, rfl, hS1, for_it (walk_enumT (K := K) (a := t) (xs := ps.map V.ref)) (fun i σ H2 => ∃ (v3 v4 : Option V) (kvs : List (List Key × V)), σ = [some (.int n), some (.ref t), some (.ref D), v3, v4, none] ∧ But D H1 H2 ∧ TrOk K H2 D kvs n (F.take i) ∧ dueR n [] F = dueR n (F.take i) (F.drop i))
      ⟨none, none, kvs0, rfl, But.refl, T0, rfl⟩ (fun i σ H2 _ ⟨_, _, _, _, b2, T2, _⟩ => sqT_but hS1 hk0 b2) ?_ ?_⟩
    · rintro i x σ H2 H3 hi ⟨v3, v4, kvs, rfl, b2, T2, e2⟩ ⟨T, x1, y1, rfl, hT, rfl, hx1, hy1⟩
      cases hx1
      rw [List.length_map] at hi
      obtain ⟨p, hp, rfl⟩ := map_get (show (ps.map V.ref)[i]? = some y1 from hy1)
      obtain ⟨r, hr', hrd⟩ := hR.get hp
      have sB : ∀ b o, H b = some o → H2 b = some o := fun b o z => b2 b o (s1 b o z) (ne_of_none z hD)
      have s3 : Same H2 (upd H2 T (.tup [.int (i : Nat), .ref p])) := Same.new hT
      have rd3 := (hrd.same sB).same s3
      have ed := drop_get hr'
      rw [ed] at e2
      have iF : i < F.length := (List.getElem?_eq_some_iff.mp hr').1
      have lenT : (F.take i).length = i := by rw [List.length_take]; omega
      refine ⟨T, _, rfl, SqT.of upd_same, rfl, _, _, rfl, _, _, rfl, rfl, ?_⟩
      refine ⟨_, rfl, _, rfl, n, p, r, rfl, rd3, fun z => ?_, fun z1 z2 => ?_, fun z1 z2 z3 => ?_, fun z1 z2 z3 H4 s4 => ?_⟩
      · rw [dueR_a z] at e2
        exact (kE _ e2).mono fun b o q => s3 b o (sB b o q)
      · rw [dueR_b z1 z2] at e2
        exact (kE _ e2).mono fun b o q => s3 b o (sB b o q)
      · rw [dueR_l z1 z2 z3] at e2
        exact (kE _ e2).mono fun b o q => s3 b o (sB b o q)
      have s5 : Same H2 H4 := s3.trans s4
      have rd4 := rd3.same s4
      obtain ⟨dx, hpx⟩ := id rd4
      have T4 := T2.same s5
      refine ⟨_, rfl, p, CR, dx, _, _, rfl, hpx, TR.cl, TR.nA, rdF_a r, _, rfl, p, CR, dx, _, _, rfl, hpx, TR.cl, TR.nB, rdF_b r, (by show 2 ≤ sizeLine; decide), fun t1 h1 => ?_⟩
      have s6 : Same H4 (upd H4 t1 (.tup [.int r.1, .int r.2.1])) := Same.new h1
      refine ⟨_, rfl, D, _, rfl, DGet.t (k := key2 r.1 r.2.1) (s6 _ _ T4.dc) upd_same, _, rfl, ?_⟩
      have s7 : Same H2 (upd H4 t1 (.tup [.int r.1, .int r.2.1])) := s5.trans s6
      cases e : hasK kvs r.1 r.2.1 with
      | true =>
        have e' : (valV kvs (key2 r.1 r.2.1)).isSome = true := e
        rw [e']
        have c := ((T2.has _ _).mp e).2.2
        rw [dueR_ring z1 z2 z3 c, lenT] at e2
        refine iteT ⟨_, rfl, len1, fun a ha => er1 ha ?_⟩
        exact Raised.mono (kE _ e2) fun b o q => s7 b o (sB b o q)
      | false =>
        have e' : (valV kvs (key2 r.1 r.2.1)).isSome = false := e
        rw [e']
        have nc : ¬ Con (F.take i) r.1 r.2.1 := fun c => by
          rw [(T2.has _ _).mpr ⟨z1, z2, c⟩] at e
          cases e
        rw [dueR_go z1 z2 z3 nc] at e2
        refine iteF ⟨_, rfl, _, rfl, _, rfl, _, rfl, D, p, n, F.take i, r, kvs, by rw [lenT]; rfl, rd4.same s6, T4.same s6, hn0, hn24, by rw [lenT]; omega, z1, z2, nc, fun H8 kvs8 T8 b8 => ?_⟩
        refine ⟨_, _, kvs8, rfl, fun b o q nb => b8 b o (s7 b o (b2 b o q nb)) nb, ?_, ?_⟩
        · rw [take_get hr']
          exact T8
        · rw [take_get hr']
          exact e2
    · rintro σ H2 ⟨v3, v4, kvs, rfl, b2, T2, e2⟩
      have el : (ps.map V.ref).length = F.length := by rw [List.length_map]; exact hR.len
      rw [el, List.take_length] at T2
      rw [el, List.take_length, List.drop_length, dueR_nil] at e2
      exact ⟨_, rfl, kQ e2 D kvs H2 T2 (fun b o z => b2 b o (s1 b o z) (ne_of_none z hD)) hD⟩
end
end OT

set_option Elab.async false
set_option linter.all false
set_option maxRecDepth 100000
set_option maxHeartbeats 2000000
namespace OT
open PySem L2 OTR
/-- what the walk asks of Tree -/
structure TeT (K : PySem.W.Frag) (mg : Str → Option Value) (C : Addr) : Prop where
  cl : Cls K C
  nC : NoAttr K C "crossings"
  nR : NoAttr K C "roads"
  nT : NoAttr K C "trails"
  mgC : mg "Tree" = some (.ref C)
def teF (n : Int) (t d : Addr) : List (Str × V) := [("crossings", .int n), ("roads", .ref t), ("trails", .ref d)]
theorem teF_c (n : Int) (t d : Addr) : (teF n t d).lookup ("crossings" : Str) = some (.int n) := lk0
theorem teF_r (n : Int) (t d : Addr) : (teF n t d).lookup ("roads" : Str) = some (.ref t) := by
  unfold teF
  rw [lk1 (by decide +kernel)]
  exact lk0
theorem teF_t (n : Int) (t d : Addr) : (teF n t d).lookup ("trails" : Str) = some (.ref d) := by
  unfold teF
  rw [lk1 (by decide +kernel), lk1 (by decide +kernel)]
  exact lk0
theorem teF1 (n : Int) (t : Addr) : putF "roads" (.ref t) (putF "crossings" (.int n) []) = ([("crossings", V.int n), ("roads", V.ref t)] : List (Str × V)) := by
  have h1 : ¬ (("crossings" : Str) = "roads") := by decide +kernel
  show (if ("crossings" : Str) = "roads" then [(("crossings" : Str), V.ref t)] else (("crossings" : Str), V.int n) :: putF "roads" (.ref t) []) = _
  rw [if_neg h1]
  rfl
theorem teF2 (n : Int) (t d : Addr) : putF "trails" (.ref d) [("crossings", .int n), ("roads", .ref t)] = teF n t d := by
  have h2 : ¬ (("crossings" : Str) = "trails") := by decide +kernel
  have h3 : ¬ (("roads" : Str) = "trails") := by decide +kernel
  show (if ("crossings" : Str) = "trails" then _ else (("crossings" : Str), V.int n) :: (if ("roads" : Str) = "trails" then _ else (("roads" : Str), V.ref t) :: putF "trails" (.ref d) [])) = _
  rw [if_neg h2, if_neg h3]
  rfl
theorem teF1_r (n : Int) (t : Addr) : ([("crossings", .int n), ("roads", .ref t)] : List (Str × V)).lookup ("roads" : Str) = some (.ref t) := by
  rw [lk1 (by decide +kernel)]
  exact lk0
/-- a tree at p: n crossings, the roads at ps in a tuple, the trails in a dict -/
def TreeAt (K : PySem.W.Frag) (CT CR : Addr) (H : Hp) (p : Addr) (n : Int) (ps : List Addr) (F : List Fact) : Prop :=
  ∃ (dx t d : Addr) (kvs : List (List Key × V)), H p = some (.ins CT dx (teF n t d)) ∧ SqT K H t (ps.map V.ref) ∧ RoadsAt CR H ps F ∧ TrOk K H d kvs n F
def SqA (K : PySem.W.Frag) (H : Hp) (l : Addr) (xs : List V) : Prop := SqL K H l xs ∨ SqT K H l xs
theorem SqA.same {K : PySem.W.Frag} {H H' : Hp} {l : Addr} {xs : List V} (h : SqA K H l xs) (s : Same H H') : SqA K H' l xs := h.elim (fun h => .inl (s.seq h)) fun h => .inr (sqT_same h s)
def spTreeI (K : PySem.W.Frag) (CT CR CB CN CG : Addr) : Sp := fun vs H Q E => ∃ (p dx l : Addr) (n : Int) (ps : List Addr) (F : List Fact) (H0 : Hp), vs = [.ref p, .int n, .ref l] ∧ H p = some (.ins CT dx []) ∧ H0 p = none ∧ Same H0 H ∧ SqA K H0 l (ps.map V.ref) ∧ RoadsAt CR H0 ps F ∧ F.length ≤ 1000 ∧
  (∀ e, due n F = some e → ErrR CB CN CG H0 E e) ∧ (due n F = none → ∀ H', TreeAt K CT CR H' p n ps F → Same H0 H' → Q .non H')
/-- tuple(a name), a list or a tuple at the name -/
def rTupO (K : PySem.W.Frag) : List V → Hp → VK → Prop := fun xs H Q => ∃ p ys, xs = [.ref p] ∧ ((SqL K H p ys ∧ ∀ l, H l = none → Q (.ref l) (upd H l (.tup ys))) ∨ (SqT K H p ys ∧ Q (.ref p) H))
theorem tupE {K : PySem.W.Frag} {σ : L2.St} {H : Hp} {i : Nat} {l : Addr} {ys : List V} {Q : VK} (hi : σ[i]? = some (some (.ref l))) (h : SqA K H l ys) (k : ∀ t H', Same H H' → SqT K H' t ys → Q (.ref t) H') : tCB (rTupO K) (tCons (tVar i) tNil) σ H Q := by
  refine ⟨_, hi, l, ys, rfl, ?_⟩
  rcases h with h | h
  · exact .inl ⟨h, fun t ht => k t _ (Same.new ht) (SqT.of upd_same)⟩
  · exact .inr ⟨h, k l H (Same.refl H) h⟩
theorem sqT_ins {K : PySem.W.Frag} {H : Hp} {p q C dx : Addr} {fs : List (Str × V)} {o : HO} {xs : List V} (hp : H p = some (.ins C dx fs)) (h : SqT K H q xs) : SqT K (upd H p o) q xs := by
  rcases h with (h | ⟨u, h⟩) | h
  · exact .inl (.inl (by rw [upd_ne (ne_of h hp (fun z => nomatch z))]; exact h))
  · exact .inl (.inr ⟨u, by rw [upd_ne (ne_of h hp (fun z => nomatch z))]; exact h⟩)
  · exact .inr h
theorem TrOk.ins {K : PySem.W.Frag} {H : Hp} {p d C dx : Addr} {fs : List (Str × V)} {o : HO} {kvs : List (List Key × V)} {n : Int} {F : List Fact} (h : TrOk K H d kvs n F) (hp : H p = some (.ins C dx fs)) : TrOk K (upd H p o) d kvs n F :=
  ⟨by rw [upd_ne (ne_of h.dc hp (fun z => nomatch z))]; exact h.dc, h.has, fun x y v z => let ⟨q, l, a, b, c⟩ := h.val x y v z; ⟨q, l, a, sqT_ins hp b, c⟩, h.len⟩
theorem due_c {n : Int} {F : List Fact} (h : ¬ (2 ≤ n ∧ n ≤ 24)) : due n F = some (.crossings n) := by
  unfold due
  rw [if_pos h]
theorem due_r {n : Int} {F : List Fact} (h : 2 ≤ n ∧ n ≤ 24) (h2 : (F.length : Int) ≠ n - 1) : due n F = some (.roads F.length) := by
  unfold due
  rw [if_neg (fun z => z h), if_pos h2]
theorem due_go {n : Int} {F : List Fact} (h : 2 ≤ n ∧ n ≤ 24) (h2 : (F.length : Int) = n - 1) : due n F = dueR n [] F := by
  unfold due
  rw [if_neg (fun z => z h), if_neg (fun z => z h2)]
section
variable {P : Program} {w : World} {K : PySem.W.Frag} {mg : Str → Option Value} {base : Heap}
theorem scTreeI : FnScope ["self", "crossings", "roads"] ["self", "crossings", "roads"] (defScope sTreeI) := ⟨rfl, rfl, rfl, by decide +kernel, rfl, by decide +kernel, by decide +kernel⟩
theorem ok_treeI {f fA CT CR CB CN CG fB : Addr} {fd fdA fdB : FuncData} (F : Fun K "__init__" "Tree.__init__" sTreeI f fd) (TT : TeT K mg CT) (TB : ErT K mg "BadCount" CB fB)
    (FB : FnOk P w K mg base CX0 1 fB fdB ["self", "what", "count"] (spEr2 CB "what" "count")) (bB : Binds K fdB ["self", "what", "count"] [])
    (FA : FnOk P w K mg base (L2.CX P w) 4 fA fdA ["crossings", "roads"] (spTrails K CR CB CN CG)) (bA : Binds K fdA ["crossings", "roads"] []) (mA : mg "trails_along" = some (.ref fA)) (kA : PySem.W.keepIn K (.ref fA) = true)
    (hLeast : ∃ t, mg "LEAST_CROSSINGS" = some (.int 2 t)) (hMost : ∃ t, mg "MOST_CROSSINGS" = some (.int 24 t)) (hLen : mg "len" = none) (hTup : mg "tuple" = none) :
    FnOk P w K mg base (L2.CX P w) 5 f fd ["self", "crossings", "roads"] (spTreeI K CT CR CB CN CG) := by
  refine F.okX scTreeI (fun vs H Q E h => ?_) (fun cdv A outer s H vs Q E hr h => ?_)
  · obtain ⟨p, dx, l, n, ps, F, H0, rfl, _⟩ := h
    rfl
  · obtain ⟨p, dx, l, n, ps, F, H0, rfl, hp, hp0, s0, hS, hR, hF, kE, kQ⟩ := h
    obtain ⟨tl, hLeast⟩ := hLeast
    obtain ⟨tm, hMost⟩ := hMost
    have hr2 : Room 2 _ := hr.mono (by decide)
    refine ⟨_, pss_cons (ps_if (pt_not (pt_chain op_le op_le (pe_glob (v := V.int 2) rfl hLeast ⟨tl, rfl⟩) (pv 1) (pe_glob (v := V.int 24) rfl hMost ⟨tm, rfl⟩)))
          (pss_one (ps_raise rfl (takes_of rfl rfl rfl rfl) (pmk_oex TB.ox TB.iC TB.tI FB hr2 bB .nil pass0 (by rfl) TB.gC (pa_cons pe_str (pa_cons (pv 1) pa_nil))))) pss_nil)
      (pss_cons (ps_if (pt_cmpR op_ne (pe_callB call_len_seq (by rfl) hLen PySem.boot_len (pa_cons (pv 2) pa_nil)) (pe_op op_sub (pv 1) pe_int) (nomark _))
          (pss_one (ps_raise rfl (takes_of rfl rfl rfl rfl) (pmk_oex TB.ox TB.iC TB.tI FB hr2 bB .nil pass0 (by rfl) TB.gC (pa_cons pe_str (pa_cons (pe_callB call_len_seq (by rfl) hLen PySem.boot_len (pa_cons (pv 2) pa_nil)) pa_nil))))) pss_nil)
      (pss_cons (ps_fld (pv 0) (pv 1) rfl)
      (pss_cons (ps_fld (pv 0) (pe_callTy (r := rTupO K) call_tuple_of (by rfl) hTup (by decide +kernel) (pa_cons (pv 2) pa_nil)) rfl)
      (pss_one (ps_fld (pv 0) (pe_call FA hr rfl mA kA bA .nil (passes_call (takes_of rfl rfl rfl rfl) fun _ _ _ _ h => h) (pa_cons (pv 1) (pa_cons (pe_fld (pv 0) rfl) pa_nil))) rfl))))), ?_⟩
    have lenE : (ps.map V.ref).length = F.length := by rw [List.length_map]; exact hR.len
    have bad : ¬ (2 ≤ n ∧ n ≤ 24) → Raised CB [("count", .int n), ("what", .str "crossings")] H E := fun z => Raised.mono (kE _ (due_c z)) s0
    have sp : ∀ {o : HO}, Same H0 (upd H p o) := fun {o} b u e => by
      rw [upd_ne (ne_of_none e hp0)]
      exact s0 b u e
    refine ⟨_, rfl, _, _, rfl, rfl, _, rfl, ?_⟩
    by_cases h0 : 2 ≤ n
    · rw [decide_eq_true h0]
      refine iteT ⟨_, _, rfl, rfl, _, rfl, ?_⟩
      by_cases h1 : n ≤ 24
      · rw [decide_eq_true h1]
        refine iteF ?_
        refine ⟨_, rfl, l, _, rfl, hS.same s0, _, rfl, _, _, rfl, rfl, rfl, _, rfl, ?_⟩
        rw [lenE]
        by_cases h2 : (F.length : Int) = n - 1
        · have hd := due_go ⟨h0, h1⟩ h2
          refine iteNS (by rw [h2]) ?_
          refine ⟨_, rfl, _, rfl, p, CT, dx, [], rfl, hp, TT.cl, TT.nC, (by show 0 < 1000; decide), ?_⟩
          refine tupE rfl (hS.same sp) fun t Hb sb ht => ?_
          have hpb := sb _ _ (upd_same (H := H) (a := p) (o := .ins CT dx (putF "crossings" (.int n) [])))
          have s0b : Same H0 Hb := sp.trans sb
          refine ⟨_, rfl, p, CT, dx, _, rfl, hpb, TT.cl, TT.nR, (by show 1 < 1000; decide), ?_⟩
          rw [teF1]
          have s0c : Same H0 (upd Hb p (.ins CT dx [("crossings", .int n), ("roads", .ref t)])) := fun b u e => by
            rw [upd_ne (ne_of_none e hp0)]
            exact s0b b u e
          have htc : SqT K (upd Hb p (.ins CT dx [("crossings", .int n), ("roads", .ref t)])) t (ps.map V.ref) := sqT_ins hpb ht
          refine ⟨_, rfl, _, rfl, p, CT, dx, _, _, rfl, upd_same, TT.cl, TT.nR, teF1_r n t, n, t, ps, F, rfl, htc, hR.same s0c, by omega, h1, by omega, fun e he => ?_, fun he d kvs H' T s' hd' => ?_⟩
          · exact (kE e (by rw [hd]; exact he)).mono s0c
          · have hp' := s' _ _ (upd_same (H := Hb) (a := p) (o := .ins CT dx [("crossings", .int n), ("roads", .ref t)]))
            have ndp : d ≠ p := ne_of T.dc hp' (fun z => nomatch z)
            have s0d : Same H0 (upd H' p (.ins CT dx (teF n t d))) := fun b u e => by
              rw [upd_ne (ne_of_none e hp0)]
              exact s' b u (s0c b u e)
            refine ⟨_, rfl, p, CT, dx, _, rfl, hp', TT.cl, TT.nT, (by show 2 < 1000; decide), ?_⟩
            rw [teF2]
            exact kQ (by rw [hd]; exact he) _ ⟨dx, t, d, kvs, upd_same, sqT_ins hp' (sqT_same htc s'), hR.same s0d, T.ins hp'⟩ s0d
        · have k2 : Raised CB [("count", .int F.length), ("what", .str "roads")] H E := Raised.mono (kE _ (due_r ⟨h0, h1⟩ h2)) s0
          have h3 : ¬ (V.int (F.length : Int) = V.int (n - 1)) := fun z => h2 (V.int.inj z)
          rw [decide_eq_false h3]
          refine iteT ⟨_, rfl, l, _, rfl, hS.same s0, len2, fun a ha => ?_⟩
          rw [lenE]
          exact er2 ha k2
      · rw [decide_eq_false h1]
        exact iteT ⟨_, rfl, len2, fun a ha => er2 ha (bad fun z => h1 z.2)⟩
    · rw [decide_eq_false h0]
      exact iteF ⟨_, rfl, iteT ⟨_, rfl, len2, fun a ha => er2 ha (bad fun z => h0 z.1)⟩⟩
end
end OT

set_option Elab.async false
set_option linter.all false
set_option maxRecDepth 100000
set_option maxHeartbeats 2000000
namespace OT
open PySem L2 OTR
abbrev sTreeD : Stmt := top 22
theorem sqL_but {K : PySem.W.Frag} {H H' : Hp} {s l : Addr} {xs : List V} (h : SqL K H l xs) (n : l ≠ s) (e : But s H H') : SqL K H' l xs := by
  rcases h with (h | ⟨o, h⟩) | h
  · exact .inl (.inl (e _ _ h n))
  · exact .inl (.inr ⟨o, e _ _ h n⟩)
  · exact .inr h
theorem Src.same {s : Addr} {H H' : Hp} (h : Src H s) (e : Same H H') : Src H' s := let ⟨a, b, c, h0, h1⟩ := h; ⟨a, b, c, h0, e _ _ h1⟩
theorem Src.ne {s l : Addr} {H : Hp} {o : HO} (h : Src H s) (hl : H l = some o) (d : ∀ a b c : Int, o ≠ .lst [.int a, .int b, .int c]) : l ≠ s := fun z => by
  obtain ⟨a, b, c, _, h1⟩ := h
  rw [z, h1] at hl
  exact d a b c (Option.some.inj hl).symm
theorem Src.new {s l : Addr} {H : Hp} (h : Src H s) (hl : H l = none) : l ≠ s := fun z => by
  obtain ⟨a, b, c, _, h1⟩ := h
  rw [z, h1] at hl
  cases hl
theorem But.new {s l : Addr} {H H' : Hp} {o : HO} (b : But s H H') (hl : H l = none) : But s H (L2.upd H' l o) := fun c u e n => by
  rw [upd_ne (ne_of_none e hl)]
  exact b c u e n
theorem Src.upd {s l : Addr} {H : Hp} {o : HO} (h : Src H s) (n : l ≠ s) : Src (L2.upd H l o) s := let ⟨a, b, c, h0, h1⟩ := h; ⟨a, b, c, h0, by rw [upd_ne (Ne.symm n)]; exact h1⟩
def spShuf : Sp := fun vs H Q _ => ∃ (s l : Addr) (xs : List V), vs = [.ref s, .ref l] ∧ Src H s ∧ H l = some (.lst xs) ∧ xs.length ≤ 1000 ∧ ∀ p ys H', ys.Perm xs → H p = none → H' p = some (.lst ys) → Src H' s → But s H H' → Q (.ref p) H'
theorem seqIx {i : Int} {n : Nat} (h0 : 0 ≤ i) (h1 : i < n) : seqIndex? i n = some i.toNat := by
  unfold seqIndex?
  have e : (if i < 0 then i + (n : Int) else i) = i := if_neg (by omega)
  simp only [e]
  rw [if_pos (by simp; omega)]
theorem perm_erase {α : Type} : ∀ {l : List α} {k : Nat} {y : α}, l[k]? = some y → (y :: l.eraseIdx k).Perm l
  | [], k, y, h => by simp at h
  | a :: l, 0, y, h => by
    have e := Option.some.inj h
    subst e
    exact List.Perm.refl _
  | a :: l, k + 1, y, h => by
    have ih := perm_erase (l := l) (k := k) (y := y) h
    exact (List.Perm.swap a y _).trans (ih.cons a)
section
variable {P : Program} {w : World} {K : PySem.W.Frag} {mg : Str → Option Value} {base : Heap}
theorem scPick : FnScope ["_law_source_here", "_law_some"] ["_law_source_here", "_law_some"] (defScope sPick) := ⟨rfl, rfl, rfl, by decide +kernel, rfl, by decide +kernel, by decide +kernel⟩
theorem ok_pick {f fD : Addr} {fd fdD : FuncData} (F : Fun K "_law_pick" "_law_pick" sPick f fd) (FD : FnOk P w K mg base CX0 1 fD fdD ["_law_source_here", "_law_many"] spDraw) (bD : Binds K fdD ["_law_source_here", "_law_many"] []) (mD : mg "_law_draw" = some (.ref fD)) (kD : PySem.W.keepIn K (.ref fD) = true)
    (hLen : mg "len" = none) : FnOk P w K mg base CX0 2 f fd ["_law_source_here", "_law_some"] (spPick K) := by
  refine F.ok scPick (fun vs H Q E h => ?_) (fun cdv A outer s H vs Q E hr h => ?_)
  · obtain ⟨s, l, xs, rfl, _⟩ := h
    rfl
  · obtain ⟨s, l, xs, rfl, hs, hn, hl, l0, l1, k⟩ := h
    refine ⟨_, pss_one (ps_ret (pe_ix ix_list (pv 1) (pe_call FD hr rfl mD kD bD .nil pass0 (pa_cons (pv 0) (pa_cons (pe_callB call_len_seq (by rfl) hLen PySem.boot_len (pa_cons (pv 1) pa_nil)) pa_nil))) (fun _ _ => rfl))), ?_⟩
    refine ⟨_, rfl, _, rfl, _, rfl, l, xs, rfl, .inl hl, s, _, rfl, hs, by omega, by omega, fun r H' r0 r1 src b => ?_⟩
    obtain ⟨j, rfl⟩ : ∃ j : Nat, r = (j : Int) := ⟨r.toNat, by omega⟩
    have hj : j < xs.length := by omega
    exact ⟨l, xs, (j : Int), xs[j], rfl, rfl, sqL_but hl hn b, atI_nat (List.getElem?_eq_getElem hj), k _ _ (List.getElem_mem hj) src b⟩
theorem scShuf : FnScope ["_law_source_here", "_law_some", "_law_left", "_law_found"] ["_law_source_here", "_law_some"] (defScope sShuf) := ⟨rfl, rfl, rfl, by decide +kernel, rfl, by decide +kernel, by decide +kernel⟩
theorem ok_shuf {f fD : Addr} {fd fdD : FuncData} (F : Fun K "_law_shuffled" "_law_shuffled" sShuf f fd) (FD : FnOk P w K mg base CX0 1 fD fdD ["_law_source_here", "_law_many"] spDraw) (bD : Binds K fdD ["_law_source_here", "_law_many"] []) (mD : mg "_law_draw" = some (.ref fD)) (kD : PySem.W.keepIn K (.ref fD) = true)
    (hLen : mg "len" = none) (hList : mg "list" = none) : FnOk P w K mg base CX0 2 f fd ["_law_source_here", "_law_some"] spShuf := by
  refine F.ok scShuf (fun vs H Q E h => ?_) (fun cdv A outer s H vs Q E hr h => ?_)
  · obtain ⟨s, l, xs, rfl, _⟩ := h
    rfl
  · obtain ⟨s, l, xs, rfl, hs, hl, lx, k⟩ := h
    have hu : (A.deeper (PyProof.Rows.envOfC "_law_shuffled" (defScope sShuf) _ f cdv)).units < cLine := Nat.lt_of_succ_lt (hu_of hr)
    refine ⟨_, pss_cons (ps_set (i := 2) scShuf.nd rfl (Or.inl rfl) (pe_callTy call_list_of (by rfl) hList (by decide +kernel) (pa_cons (pv 1) pa_nil)))
      (pss_cons (ps_set (i := 3) scShuf.nd rfl (Or.inl rfl) (pe_lst pa_nil))
      (pss_cons (ps_while PassesOwn.never (pt_cmpR (op_neNil hu) (pv 2) (pe_lst pa_nil) (nomark _))
        (pss_one (ps_expr (pe_bm PySem.F.plainAttrs_list PySem.F.slot_list_append PySem.F.type_list_append mt_append (pv 3)
          (pa_cons (pe_bm PySem.F.plainAttrs_list PySem.F.slot_list_pop PySem.F.type_list_pop mt_popAt (pv 2) (pa_cons (pe_call FD hr rfl mD kD bD .nil pass0 (pa_cons (pv 0) (pa_cons (pe_callB call_len_seq (by rfl) hLen PySem.boot_len (pa_cons (pv 2) pa_nil)) pa_nil))) pa_nil)) pa_nil)))))
      (pss_one (ps_ret (pv 3))))), ?_⟩
    refine ⟨_, rfl, l, xs, rfl, .inl (SqL.of hl), fun p2 h2 => ⟨Nat.zero_le _, fun p3 h3 => ?_⟩⟩
    have n2 : p2 ≠ s := hs.new h2
    have hs2 : Src (upd H p2 (.lst xs)) s := hs.same (Same.new h2)
    have n3 : p3 ≠ s := hs2.new h3
    have n32 : p2 ≠ p3 := ne_of_none upd_same h3
    have H3 : H p3 = none := by
      rw [upd_ne (Ne.symm n32)] at h3
      exact h3
    refine ⟨fun m σ H2 => ∃ ls fs : List V, σ = [some (.ref s), some (.ref l), some (.ref p2), some (.ref p3)] ∧ H2 p2 = some (.lst ls) ∧ H2 p3 = some (.lst fs) ∧ (fs ++ ls).Perm xs ∧ Src H2 s ∧ But s H H2 ∧ m = ls.length,
      ⟨xs.length, xs, [], rfl, by rw [upd_ne n32]; exact upd_same, upd_same, List.Perm.refl _, hs2.same (Same.new h3), fun b o e nb => by rw [upd_ne (ne_of_none e H3), upd_ne (ne_of_none e h2)]; exact e, rfl⟩, ?_⟩
    rintro m σ H2 ⟨ls, fs, rfl, g2, g3, pm, src, b2, rfl⟩
    refine ⟨_, rfl, Nat.zero_le _, fun q hq => ⟨p2, q, ls, rfl, rfl, SqL.of (by rw [upd_ne (ne_of_none g2 hq)]; exact g2), SqL.of upd_same, _, rfl, ?_⟩⟩
    have sq : Same H2 (upd H2 q (.lst [])) := Same.new hq
    have ltot : ls.length ≤ 1000 := by
      have := pm.length_eq
      rw [List.length_append] at this
      omega
    have ftot : fs.length ≤ 1000 := by
      have := pm.length_eq
      rw [List.length_append] at this
      omega
    cases ls with
    | nil =>
      refine iteF ⟨_, rfl, k p3 fs _ (by rw [List.append_nil] at pm; exact pm) H3 (sq _ _ g3) (src.same sq) fun b o e nb => sq b o (b2 b o e nb)⟩
    | cons y ys =>
      refine iteT ⟨fun σ' H' => ∃ ls' fs' : List V, σ' = [some (.ref s), some (.ref l), some (.ref p2), some (.ref p3)] ∧ H' p2 = some (.lst ls') ∧ H' p3 = some (.lst fs') ∧ (fs' ++ ls').Perm xs ∧ Src H' s ∧ But s H H' ∧ ls'.length < (y :: ys).length,
        fun σ' H' ⟨ls', fs', e1, e2, e3, e4, e5, e6, e7⟩ => ⟨ls'.length, e7, ls', fs', e1, e2, e3, e4, e5, e6, rfl⟩, ?_⟩
      refine ⟨_, rfl, .inl ⟨rfl, _, SqL.of (sq _ _ g3)⟩, _, rfl, .inl ⟨rfl, _, SqL.of (sq _ _ g2)⟩, _, rfl, _, rfl, p2, y :: ys, rfl, .inl (SqL.of (sq _ _ g2)), s, _, rfl, src.same sq, by rw [List.length_cons]; omega, by omega, fun r H5 r0 r1 src5 b5 => ?_⟩
      have g25 := b5 _ _ (sq _ _ g2) n2
      have g35 := b5 _ _ (sq _ _ g3) n3
      obtain ⟨j, rfl⟩ : ∃ j : Nat, r = (j : Int) := ⟨r.toNat, by omega⟩
      have hj : j < (y :: ys).length := by omega
      refine ⟨p2, y :: ys, (j : Int), j, (y :: ys)[j], rfl, rfl, g25, by omega, by omega, by rw [seqIx r0 r1]; simp, List.getElem?_eq_getElem hj, ?_⟩
      refine ⟨p3, fs, _, rfl, rfl, by rw [upd_ne (Ne.symm n32)]; exact g35, small1000 ftot, ?_⟩
      have pe := perm_erase (List.getElem?_eq_getElem hj)
      refine ⟨(y :: ys).eraseIdx j, fs ++ [(y :: ys)[j]], rfl, by rw [upd_ne n32]; exact upd_same, upd_same, ?_, (src5.upd n2).upd n3, fun b o e nb => ?_, ?_⟩
      · rw [List.append_assoc]
        exact (List.Perm.append_left fs pe).trans pm
      · rw [upd_ne (ne_of_none e H3), upd_ne (ne_of_none e h2)]
        exact b5 b o (sq b o (b2 b o e nb)) nb
      · rw [List.length_eraseIdx_of_lt hj]
        omega
end
end OT

set_option Elab.async false
set_option linter.all false
set_option maxRecDepth 100000
set_option maxHeartbeats 2000000
namespace OT
open PySem L2 OTR
def TupAt (H : Hp) (t : Addr) (r : Fact) : Prop := H t = some (.tup [.int r.1, .int r.2.1, .int r.2.2])
theorem TupAt.but {H H' : Hp} {s t : Addr} {r : Fact} (h : TupAt H t r) (src : Src H s) (b : But s H H') : TupAt H' t r := b _ _ h (src.ne h fun _ _ _ z => nomatch z)
theorem tups_but {H H' : Hp} {s : Addr} {ts : List Addr} {fs : List Fact} (h : Paired (TupAt H) ts fs) (src : Src H s) (b : But s H H') : Paired (TupAt H') ts fs := by
  induction h with
  | nil => exact .nil
  | cons a _ ih => exact .cons (a.but src b) ih
theorem tups_same {H H' : Hp} {ts : List Addr} {fs : List Fact} (h : Paired (TupAt H) ts fs) (b : Same H H') : Paired (TupAt H') ts fs := by
  induction h with
  | nil => exact .nil
  | cons a _ ih => exact .cons (b _ _ a) ih
theorem paired_snoc {α β : Type} {R : α → β → Prop} {as : List α} {bs : List β} {a : α} {b : β} (h : Paired R as bs) (x : R a b) : Paired R (as ++ [a]) (bs ++ [b]) := by
  induction h with
  | nil => exact .cons x .nil
  | cons y _ ih => exact .cons y ih
theorem tups_put {H : Hp} {p : Addr} {xs ys : List V} {ts : List Addr} {fs : List Fact} (h : Paired (TupAt H) ts fs) (hp : H p = some (.lst xs)) : Paired (TupAt (upd H p (.lst ys))) ts fs := by
  induction h with
  | nil => exact .nil
  | cons a _ ih =>
    refine .cons ?_ ih
    unfold TupAt at a ⊢
    rw [upd_ne (ne_of a hp (fun z => nomatch z))]
    exact a
theorem But.put {s p : Addr} {H G : Hp} {o : HO} (b : But s H G) (hp : H p = none) : But s H (L2.upd G p o) := fun c u e n => by
  rw [upd_ne (ne_of_none e hp)]
  exact b c u e n
/-- at q a list of triples -/
def FactsAt (H : Hp) (q : Addr) (fs : List Fact) : Prop := ∃ ts : List Addr, H q = some (.lst (ts.map V.ref)) ∧ Paired (TupAt H) ts fs
theorem perm_map {α β : Type} {f : α → β} : ∀ {ys : List β} {l : List α}, ys.Perm (l.map f) → ∃ l' : List α, ys = l'.map f ∧ l'.Perm l := by
  intro ys l p
  generalize h : l.map f = zs at p
  induction p generalizing l with
  | nil =>
    cases l with
    | nil => exact ⟨[], rfl, .nil⟩
    | cons a l => cases h
  | cons x _ ih =>
    cases l with
    | nil => cases h
    | cons a l =>
      injection h with h1 h2
      obtain ⟨l', e, q⟩ := ih h2
      exact ⟨a :: l', by rw [List.map_cons, h1, e], q.cons a⟩
  | swap x y zs =>
    cases l with
    | nil => cases h
    | cons a l =>
      cases l with
      | nil =>
        injection h with h1 h2
        cases h2
      | cons b l =>
        injection h with h1 h2
        injection h2 with h2 h3
        exact ⟨b :: a :: l, by rw [List.map_cons, List.map_cons, h1, h2, h3], .swap a b l⟩
  | trans _ _ ih1 ih2 =>
    obtain ⟨l1, e1, q1⟩ := ih2 h
    obtain ⟨l2, e2, q2⟩ := ih1 e1.symm
    exact ⟨l2, e2, q2.trans q1⟩
theorem perm_paired {α β : Type} {R : α → β → Prop} : ∀ {as' as : List α}, as'.Perm as → ∀ {bs : List β}, Paired R as bs → ∃ bs', Paired R as' bs' ∧ bs'.Perm bs := by
  intro as' as p
  induction p with
  | nil =>
    intro bs h
    cases h
    exact ⟨[], .nil, .nil⟩
  | cons x _ ih =>
    intro bs h
    cases h with
    | cons y t =>
      obtain ⟨b', h', q⟩ := ih t
      exact ⟨_ :: b', .cons y h', q.cons _⟩
  | swap x y zs =>
    intro bs h
    cases h with
    | cons a t =>
      cases t with
      | cons b t => exact ⟨_ :: _ :: _, .cons b (.cons a t), .swap _ _ _⟩
  | trans _ _ ih1 ih2 =>
    intro bs h
    obtain ⟨b1, h1, q1⟩ := ih2 h
    obtain ⟨b2, h2, q2⟩ := ih1 h1
    exact ⟨b2, h2, q2.trans q1⟩
def spTreeD : Sp := fun vs H Q _ => ∃ (s : Addr) (most long : Int), vs = [.ref s, .int most, .int long] ∧ Src H s ∧ 2 ≤ most ∧ most ≤ 24 ∧ 1 ≤ long ∧ long ≤ 1000000000 ∧
  ∀ p q n fs H', H' p = some (.tup [.int n, .ref q]) → H q = none → FactsAt H' q fs → Drawn most long n fs → Src H' s → But s H H' → Q (.ref p) H'
/-- the roads drawn so far: their ends among the first crossings of the order -/
structure Part (os : List Int) (long : Int) (i : Nat) (fs : List Fact) : Prop where
  len : fs.length = i
  ok : ∀ r ∈ fs, r.1 ∈ os.take (i + 1) ∧ r.2.1 ∈ os.take (i + 1) ∧ 1 ≤ r.2.2 ∧ (r.2.2 ≤ 2 ∨ r.2.2 ≤ long)
  nr : NoRing fs
theorem Part.add {os : List Int} {long : Int} {i j : Nat} {fs : List Fact} {r : Fact} {a b : Int} (h : Part os long i fs) (nd : os.Nodup) (ha : os[i + 1]? = some a) (hb : os[j]? = some b) (hj : j ≤ i) (e : (r.1 = a ∧ r.2.1 = b) ∨ (r.1 = b ∧ r.2.1 = a))
    (l1 : 1 ≤ r.2.2) (l2 : r.2.2 ≤ 2 ∨ r.2.2 ≤ long) : Part os long (i + 1) (fs ++ [r]) := by
  have tk : os.take (i + 1 + 1) = os.take (i + 1) ++ [a] := take_get ha
  have mb : b ∈ os.take (i + 1) := List.mem_of_getElem? (i := j) (by rw [List.getElem?_take, if_pos (by omega)]; exact hb)
  have na : a ∉ os.take (i + 1) := fun m => by
    obtain ⟨q, hq, eq⟩ := List.getElem_of_mem m
    rw [List.length_take] at hq
    rw [List.getElem_take] at eq
    have h1 := (List.getElem?_eq_some_iff.mp ha)
    obtain ⟨h2, h3⟩ := h1
    have := (List.getElem_inj nd).mp (eq.trans h3.symm)
    omega
  have ba : b ≠ a := fun z => na (z ▸ mb)
  refine ⟨by rw [List.length_append, h.len]; rfl, fun q hq => ?_, noRing_add h.nr (fun q hq => ?_) e ba⟩
  · rw [tk]
    rcases List.mem_append.mp hq with hq | hq
    · obtain ⟨x, y, z⟩ := h.ok q hq
      exact ⟨List.mem_append_left _ x, List.mem_append_left _ y, z⟩
    · obtain rfl := List.mem_singleton.mp hq
      have m1 : a ∈ os.take (i + 1) ++ [a] := List.mem_append_right _ (List.mem_singleton.mpr rfl)
      have m2 : b ∈ os.take (i + 1) ++ [a] := List.mem_append_left _ mb
      rcases e with ⟨e1, e2⟩ | ⟨e1, e2⟩
      · rw [e1, e2]
        exact ⟨m1, m2, l1, l2⟩
      · rw [e1, e2]
        exact ⟨m2, m1, l1, l2⟩
  · obtain ⟨x, y, _⟩ := h.ok q hq
    exact ⟨fun z => na (z ▸ x), fun z => na (z ▸ y)⟩
section
variable {P : Program} {w : World} {K : PySem.W.Frag} {mg : Str → Option Value} {base : Heap}
abbrev nTreeD : List Str := ["_law_source_here", "_law_most", "_law_long", "_law_many", "_law_order", "_law_found", "_law_at", "_law_ends"]
theorem scTreeD : FnScope nTreeD ["_law_source_here", "_law_most", "_law_long"] (defScope sTreeD) := ⟨rfl, rfl, rfl, by decide +kernel, rfl, by decide +kernel, by decide +kernel⟩
theorem ok_treeD {f fD fP fS : Addr} {fd fdD fdP fdS : FuncData} (F : Fun K "_law_tree" "_law_tree" sTreeD f fd)
    (FD : FnOk P w K mg base CX0 1 fD fdD ["_law_source_here", "_law_many"] spDraw) (bD : Binds K fdD ["_law_source_here", "_law_many"] []) (mD : mg "_law_draw" = some (.ref fD)) (kD : PySem.W.keepIn K (.ref fD) = true)
    (FP : FnOk P w K mg base CX0 2 fP fdP ["_law_source_here", "_law_some"] (spPick K)) (bP : Binds K fdP ["_law_source_here", "_law_some"] []) (mP : mg "_law_pick" = some (.ref fP)) (kP : PySem.W.keepIn K (.ref fP) = true)
    (FS : FnOk P w K mg base CX0 2 fS fdS ["_law_source_here", "_law_some"] spShuf) (bS : Binds K fdS ["_law_source_here", "_law_some"] []) (mS : mg "_law_shuffled" = some (.ref fS)) (kS : PySem.W.keepIn K (.ref fS) = true)
    (hList : mg "list" = none) (hRg : mg "range" = none) : FnOk P w K mg base CX0 3 f fd ["_law_source_here", "_law_most", "_law_long"] spTreeD := by
  refine F.ok scTreeD (fun vs H Q E h => ?_) (fun cdv A outer s H vs Q E hr h => ?_)
  · obtain ⟨s, most, long, rfl, _⟩ := h
    rfl
  · obtain ⟨s, most, long, rfl, hs, m2, m24, l1, l9, k⟩ := h
    have hr1 : Room 1 _ := hr.mono (by decide)
    refine ⟨_, pss_cons (ps_set (i := 3) scTreeD.nd rfl (Or.inl rfl) (pe_op op_add pe_int (pe_call FD hr1 rfl mD kD bD .nil pass0 (pa_cons (pv 0) (pa_cons (pe_op op_sub (pv 1) pe_int) pa_nil)))))
      (pss_cons (ps_set (i := 4) scTreeD.nd rfl (Or.inl rfl) (pe_call FS hr rfl mS kS bS .nil pass0 (pa_cons (pv 0) (pa_cons (pe_listRg rfl rfl hList (prg_1 rfl hRg (pv 3))) pa_nil))))
      (pss_cons (ps_set (i := 5) scTreeD.nd rfl (Or.inl rfl) (pe_lst pa_nil))
      (pss_cons (ps_for PassesOwn.never rfl (pi_range2 (by rfl) hRg (pa_cons pe_int (pa_cons (pv 3) pa_nil))) (pg_name (i := 6) scTreeD.nd rfl (Or.inl rfl))
        (pss_cons (ps_set (i := 7) scTreeD.nd rfl (Or.inl rfl) (pe_lst (pa_cons (pe_ix ix_list (pv 4) (pv 6) (fun _ _ => rfl)) (pa_cons (pe_ix ix_list (pv 4)
            (pe_call FP hr rfl mP kP bP .nil pass0 (pa_cons (pv 0) (pa_cons (pe_lst (pa_cons (pe_op op_sub (pv 6) pe_int) (pa_cons pe_int (pa_cons (pe_call FD hr1 rfl mD kD bD .nil pass0 (pa_cons (pv 0) (pa_cons (pv 6) pa_nil))) pa_nil)))) pa_nil))) (fun _ _ => rfl)) pa_nil))))
        (C8.pss_cut (ps_if (pt_cmpR op_eq (pe_call FD hr1 rfl mD kD bD .nil pass0 (pa_cons (pv 0) (pa_cons pe_int pa_nil))) pe_int (nomark _))
            (pss_one (ps_expr (pe_bm0 PySem.F.plainAttrs_list PySem.F.slot_list_reverse PySem.F.type_list_reverse mt_reverse (pv 7)))) pss_nil)
        (pss_one (ps_expr (pe_bm PySem.F.plainAttrs_list PySem.F.slot_list_append PySem.F.type_list_append mt_append (pv 5)
            (pa_cons (pe_tup (pa_cons (pe_ix ix_list (pv 7) pe_int (fun _ _ => rfl)) (pa_cons (pe_ix ix_list (pv 7) pe_int (fun _ _ => rfl)) (pa_cons (pe_call FP hr rfl mP kP bP .nil pass0 (pa_cons (pv 0) (pa_cons
              (pe_lst (pa_cons pe_int (pa_cons pe_int (pa_cons (pe_op op_add pe_int (pe_call FD hr1 rfl mD kD bD .nil pass0 (pa_cons (pv 0) (pa_cons (pv 2) pa_nil)))) pa_nil)))) pa_nil))) pa_nil)))) pa_nil)))))))
      (pss_one (ps_ret (pe_tup (pa_cons (pv 3) (pa_cons (pe_call FS hr rfl mS kS bS .nil pass0 (pa_cons (pv 0) (pa_cons (pv 5) pa_nil))) pa_nil)))))))), ?_⟩
    -- many = 2 + draw(source, most - 1)
    refine ⟨_, rfl, _, rfl, _, _, rfl, rfl, s, most - 1, rfl, hs, by omega, by omega, fun r0 H1 r0a r0b src1 b1 => ⟨_, _, rfl, rfl, ?_⟩⟩
    let n : Int := 2 + r0
    have hn : n = 2 + r0 := rfl
    have n2 : 2 ≤ n := by omega
    have nm : n ≤ most := by omega
    -- order = shuffled(source, list(range(many)))
    refine ⟨_, rfl, _, rfl, n, rfl, RgOk.of_le (by omega) (by omega) (by omega) (by omega), fun q1 hq1 => ?_⟩
    have src1' : Src (upd H1 q1 (.lst (rgV 0 n))) s := src1.same (Same.new hq1)
    refine ⟨s, q1, rgV 0 n, rfl, src1', upd_same, by rw [rgV_length]; omega, fun po ys H2 pm hpo1 hpo src2 b2 => ?_⟩
    obtain ⟨os, rfl, po'⟩ : ∃ os : List Int, ys = os.map V.int ∧ os.Perm ((List.range (n - 0).toNat).map fun i : Nat => (0 : Int) + (i : Nat)) := by
      have e : rgV 0 n = ((List.range (n - 0).toNat).map fun i : Nat => (0 : Int) + (i : Nat)).map V.int := by
        unfold rgV
        rw [List.map_map]
        rfl
      rw [e] at pm
      exact perm_map pm
    have ol : os.length = n.toNat := by
      rw [po'.length_eq, List.length_map, List.length_range]
      congr 1
      omega
    have ond : os.Nodup := po'.nodup_iff.mpr (List.Pairwise.map _ (fun a b (z : a < b) => by omega) (List.pairwise_lt_range))
    have oin : ∀ x ∈ os, In n x := fun x hx => by
      obtain ⟨i, hi, rfl⟩ := List.mem_map.mp (po'.mem_iff.mp hx)
      have := List.mem_range.mp hi
      exact ⟨by omega, by omega⟩
    have b02 : But s H H2 := fun b o e nb => b2 b o (Same.new hq1 b o (b1 b o e nb)) nb
    have hpo0 : H1 po = none := by
      by_cases e : po = q1
      · rw [e]
        exact hq1
      · rw [upd_ne e] at hpo1
        exact hpo1
    have npo : po ≠ s := src1.new hpo0
    have fresh : ∀ {G : Hp} {p : Addr}, But s H G → Src G s → G p = none → H p = none := fun {G p} b sg hp => by
      cases e : H p with
      | none => rfl
      | some o =>
        have z := b p o e (sg.new hp)
        rw [hp] at z
        cases z
    have hpoH : H po = none := fresh b1 src1 hpo0
    -- found = []
    refine ⟨Nat.zero_le _, fun pf hpf => ?_⟩
    have npf : pf ≠ s := src2.new hpf
    have hpfH : H pf = none := fresh b02 src2 hpf
    have npp : po ≠ pf := ne_of_none hpo hpf
    have src3 : Src (upd H2 pf (.lst [])) s := src2.same (Same.new hpf)
    -- for at in range(1, many)
    refine ⟨_, rfl, 1, n, rfl, ⟨by omega, by omega, by omega, by omega⟩, for_range (lo := 1) (n := (n - 1).toNat) (fun i σ G => ∃ (v6 v7 : Option V) (ts : List Addr) (fs : List Fact), σ = [some (.ref s), some (.int most), some (.int long), some (.int n), some (.ref po), some (.ref pf), v6, v7] ∧
        Src G s ∧ But s H G ∧ G po = some (.lst (os.map V.int)) ∧ G pf = some (.lst (ts.map V.ref)) ∧ Paired (TupAt G) ts fs ∧ Part os long i fs)
      ⟨none, none, [], [], rfl, src3, b02.put hpfH, by rw [upd_ne npp]; exact hpo, upd_same, .nil, ⟨rfl, fun r z => (by cases z), noRing_nil⟩⟩ ?_ ?_⟩
    · rintro i σ G hi ⟨v6, v7, ts, fs, rfl, sg, bg, gpo, gpf, gts, part⟩
      let at' : Int := 1 + (i : Int)
      have hat : at' = 1 + (i : Int) := rfl
      have il : i + 1 < os.length := by omega
      have ha : os[i + 1]? = some os[i + 1] := List.getElem?_eq_getElem il
      generalize os[i + 1] = a at ha
      have hav : (os.map V.int)[i + 1]? = some (V.int a) := by rw [List.getElem?_map, ha]; rfl
      have tsl : ts.length ≤ 1000 := by
        have := Paired.length gts
        have := part.len
        omega
      -- ends = [order[at], order[pick(source, [at - 1, 0, draw(source, at)])]]
      refine ⟨_, rfl, _, rfl, po, os.map V.int, at', V.int a, rfl, rfl, SqL.of gpo, at_of (by omega) hav, ?_⟩
      refine ⟨_, rfl, _, rfl, _, rfl, _, _, rfl, rfl, _, rfl, _, rfl, s, at', rfl, sg, by omega, by omega, fun d G1 d0 d1 sg1 bg1 => ?_⟩
      refine ⟨(by show 3 ≤ sizeLine; decide), fun pl hpl => ?_⟩
      have sg1' := sg1.same (Same.new (o := .lst [.int (at' - 1), .int 0, .int d]) hpl)
      refine ⟨s, pl, _, rfl, sg1', sg1.new hpl, SqL.of upd_same, (by show 0 < 3; decide), (by show 3 < 1000000; decide), fun v G2 hv sg2 bg2 => ?_⟩
      have gpo2 : G2 po = some (.lst (os.map V.int)) := bg2 _ _ (Same.new hpl _ _ (bg1 _ _ gpo npo)) npo
      have gpf2 : G2 pf = some (.lst (ts.map V.ref)) := bg2 _ _ (Same.new hpl _ _ (bg1 _ _ gpf npf)) npf
      have gts2 : Paired (TupAt G2) ts fs := tups_but (tups_same (tups_but gts sg bg1) (Same.new hpl)) sg1' bg2
      have bgg2 : But s H G2 := fun b o e nb => bg2 b o (Same.new hpl b o (bg1 b o (bg b o e nb) nb)) nb
      obtain ⟨j, rfl, hj⟩ : ∃ j : Nat, v = V.int (j : Int) ∧ j ≤ i := by
        rcases List.mem_cons.mp hv with rfl | hv
        · exact ⟨i, congrArg V.int (show (at' - 1 : Int) = (i : Int) by omega), Nat.le_refl _⟩
        · rcases List.mem_cons.mp hv with rfl | hv
          · exact ⟨0, rfl, Nat.zero_le _⟩
          · rcases List.mem_cons.mp hv with rfl | hv
            · exact ⟨d.toNat, congrArg V.int (show (d : Int) = ((d.toNat : Nat) : Int) by omega), by omega⟩
            · cases hv
      have jl : j < os.length := by omega
      have hb : os[j]? = some os[j] := List.getElem?_eq_getElem jl
      generalize os[j] = b at hb
      have hbv : (os.map V.int)[j]? = some (V.int b) := by rw [List.getElem?_map, hb]; rfl
      refine ⟨po, os.map V.int, (j : Int), V.int b, rfl, rfl, SqL.of gpo2, atI_nat hbv, (by show 2 ≤ sizeLine; decide), fun pe hpe => ?_⟩
      have npe : pe ≠ s := sg2.new hpe
      have poe : po ≠ pe := ne_of_none gpo2 hpe
      have pfe : pf ≠ pe := ne_of_none gpf2 hpe
      have hpeH : H pe = none := fresh bgg2 sg2 hpe
      have s3 : Same G2 (upd G2 pe (.lst [.int a, .int b])) := Same.new hpe
      -- if draw(source, 2) == 0: ends.reverse()
      refine ⟨fun σ' G' => ∃ x y : Int, σ' = [some (.ref s), some (.int most), some (.int long), some (.int n), some (.ref po), some (.ref pf), some (.int at'), some (.ref pe)] ∧ G' pe = some (.lst [.int x, .int y]) ∧ ((x = a ∧ y = b) ∨ (x = b ∧ y = a)) ∧
          Src G' s ∧ But s H G' ∧ G' po = some (.lst (os.map V.int)) ∧ G' pf = some (.lst (ts.map V.ref)) ∧ Paired (TupAt G') ts fs, ?_, ?_⟩
      · refine ⟨_, rfl, s, 2, rfl, sg2.same s3, by decide, by decide, fun c G4 c0 c1 sg4 bg4 => ?_⟩
        have e4 := bg4 _ _ (upd_same (H := G2) (a := pe) (o := .lst [.int a, .int b])) npe
        have gpo4 := bg4 _ _ (s3 _ _ gpo2) npo
        have gpf4 := bg4 _ _ (s3 _ _ gpf2) npf
        have gts4 := tups_but (tups_same gts2 s3) (sg2.same s3) bg4
        have bgg4 : But s H G4 := fun b o e nb => bg4 b o (s3 b o (bgg2 b o e nb)) nb
        refine ⟨rfl, _, rfl, ?_⟩
        by_cases hc : c = 0
        · subst hc
          refine iteT ⟨_, rfl, .inl ⟨rfl, _, SqL.of e4⟩, pe, _, rfl, rfl, e4, b, a, rfl, upd_same, .inr ⟨rfl, rfl⟩, sg4.upd npe, bgg4.put hpeH, by rw [upd_ne poe]; exact gpo4, by rw [upd_ne pfe]; exact gpf4, ?_⟩
          exact tups_put gts4 e4
        · have h3 : ¬ (V.int c = V.int 0) := fun z => hc (V.int.inj z)
          rw [decide_eq_false h3]
          exact iteF ⟨a, b, rfl, e4, .inl ⟨rfl, rfl⟩, sg4, bgg4, gpo4, gpf4, gts4⟩
      · rintro σ' G4 ⟨x, y, rfl, e4, hxy, sg4, bgg4, gpo4, gpf4, gts4⟩
        refine ⟨_, rfl, .inl ⟨rfl, _, SqL.of gpf4⟩, ?_⟩
        refine ⟨_, rfl, pe, _, 0, V.int x, rfl, rfl, SqL.of e4, rfl, _, rfl, pe, _, 1, V.int y, rfl, rfl, SqL.of e4, rfl, ?_⟩
        refine ⟨_, rfl, _, rfl, _, rfl, s, long, rfl, sg4, by omega, by omega, fun d G5 d0 d1 sg5 bg5 => ⟨_, _, rfl, rfl, (by show 3 ≤ sizeLine; decide), fun pl hpl => ?_⟩⟩
        have s5 : Same G5 (upd G5 pl (.lst [.int 1, .int 2, .int (1 + d)])) := Same.new hpl
        refine ⟨s, pl, _, rfl, sg5.same s5, sg5.new hpl, SqL.of upd_same, (by show 0 < 3; decide), (by show 3 < 1000000; decide), fun v G6 hv sg6 bg6 => ?_⟩
        obtain ⟨z, rfl, z1, z2⟩ : ∃ z : Int, v = V.int z ∧ 1 ≤ z ∧ (z ≤ 2 ∨ z ≤ long) := by
          rcases List.mem_cons.mp hv with rfl | hv
          · exact ⟨1, rfl, by decide, .inl (by decide)⟩
          · rcases List.mem_cons.mp hv with rfl | hv
            · exact ⟨2, rfl, by decide, .inl (by decide)⟩
            · rcases List.mem_cons.mp hv with rfl | hv
              · exact ⟨1 + d, rfl, by omega, .inr (by omega)⟩
              · cases hv
        have gpo6 := bg6 _ _ (s5 _ _ (bg5 _ _ gpo4 npo)) npo
        have gpf6 := bg6 _ _ (s5 _ _ (bg5 _ _ gpf4 npf)) npf
        have gts6 := tups_but (tups_same (tups_but gts4 sg4 bg5) s5) (sg5.same s5) bg6
        have bgg6 : But s H G6 := fun b o e nb => bg6 b o (s5 b o (bg5 b o (bgg4 b o e nb) nb)) nb
        refine ⟨(by show 3 ≤ sizeLine; decide), fun pt hpt => ?_⟩
        have s6 : Same G6 (upd G6 pt (.tup [.int x, .int y, .int z])) := Same.new hpt
        refine ⟨pf, ts.map V.ref, .ref pt, rfl, rfl, s6 _ _ gpf6, small1000 (by rw [List.length_map]; omega), ?_⟩
        have nft : pt ≠ pf := (ne_of_none gpf6 hpt).symm
        refine ⟨_, _, ts ++ [pt], fs ++ [(x, y, z)], rfl, (sg6.same s6).upd npf, (bgg6.put (fresh bgg6 sg6 hpt)).put hpfH, by rw [upd_ne npp]; exact s6 _ _ gpo6, by rw [List.map_append]; exact upd_same, paired_snoc (tups_put (tups_same gts6 s6) (s6 _ _ gpf6)) ?_, part.add ond ha hb hj (hxy) z1 z2⟩
        show upd _ pf _ pt = _
        rw [upd_ne nft]
        exact upd_same
    · rintro σ G ⟨v6, v7, ts, fs, rfl, sg, bg, gpo, gpf, gts, part⟩
      have tsl : ts.length ≤ 1000 := by
        have := Paired.length gts
        have := part.len
        omega
      refine ⟨_, rfl, _, rfl, _, rfl, s, pf, ts.map V.ref, rfl, sg, gpf, by rw [List.length_map]; exact tsl, fun p ys G1 pm hp hys sg1 bg1 => ⟨(by show 2 ≤ sizeLine; decide), fun pt hpt => ?_⟩⟩
      obtain ⟨ts', rfl, q'⟩ := perm_map pm
      obtain ⟨fs', h', qf⟩ := perm_paired q' gts
      have s1 : Same G1 (upd G1 pt (.tup [.int n, .ref p])) := Same.new hpt
      refine k pt p n fs' _ upd_same (fresh bg sg hp) ⟨ts', s1 _ _ hys, tups_same (tups_but h' sg bg1) s1⟩ ⟨n2, nm, by rw [qf.length_eq, part.len]; omega, fun r hr => ?_, noRing_perm qf part.nr⟩ (sg1.same s1) fun b o e nb => s1 b o (bg1 b o (bg b o e nb) nb)
      obtain ⟨a, b, c⟩ := part.ok r (qf.mem_iff.mp hr)
      exact ⟨oin _ (List.mem_of_mem_take a), oin _ (List.mem_of_mem_take b), c⟩
end
end OT

set_option Elab.async false
set_option linter.all false
set_option maxRecDepth 100000
set_option maxHeartbeats 2000000
namespace OT
open PySem L2 OTR
abbrev sJoined : Stmt := top 23
theorem inV_int {b : Int} {fl : List Int} : inV (.int b) (fl.map V.int) = decide (b ∈ fl) := by
  unfold inV
  induction fl with
  | nil => rfl
  | cons a l ih =>
    rw [List.map_cons, List.any_cons, ih]
    show ((a == b) || decide (b ∈ l)) = decide (b ∈ a :: l)
    by_cases e : a = b
    · subst e
      simp
    · have e1 : (a == b) = false := by simpa using e
      have e2 : ¬ b = a := fun z => e z.symm
      rw [e1]
      simp [e2]
theorem flat_ints (fl : List Int) : (fl.map V.int).all flatV = true := by
  rw [List.all_eq_true]
  intro x hx
  obtain ⟨i, _, rfl⟩ := List.mem_map.mp hx
  rfl
def spJoined : Sp := fun vs H Q _ => ∃ (q : Addr) (a b : Int) (fs : List Fact), vs = [.ref q, .int a, .int b] ∧ FactsAt H q fs ∧ fs.length ≤ 1000 ∧ ∀ H' (c : Bool), (c = true ↔ Con fs a b) → Same H H' → Q (.bl c) H'
theorem paired_get {α β : Type} {R : α → β → Prop} : ∀ {as : List α} {bs : List β} {i : Nat} {a : α}, Paired R as bs → as[i]? = some a → ∃ b, bs[i]? = some b ∧ R a b
  | _, _, _, _, .nil, e => by simp at e
  | _, _, 0, _, .cons r _, e => by
    have z := Option.some.inj e
    subst z
    exact ⟨_, rfl, r⟩
  | _, _, i + 1, _, .cons _ t, e => paired_get (i := i) t e
section
variable {P : Program} {w : World} {K : PySem.W.Frag} {mg : Str → Option Value} {base : Heap}
abbrev nJoined : List Str := ["_law_facts", "_law_one", "_law_other", "_law_found", "_law_at", "_law_here", "_law_there", "_law_size"]
theorem scJoined : FnScope nJoined ["_law_facts", "_law_one", "_law_other"] (defScope sJoined) := ⟨rfl, rfl, rfl, by decide +kernel, rfl, by decide +kernel, by decide +kernel⟩
theorem ok_joined {f : Addr} {fd : FuncData} (F : Fun K "_law_joined" "_law_joined" sJoined f fd) (hLen : mg "len" = none) : FnOk P w K mg base CX0 1 f fd ["_law_facts", "_law_one", "_law_other"] spJoined := by
  refine F.ok scJoined (fun vs H Q E h => ?_) (fun cdv A outer s H vs Q E hr h => ?_)
  · obtain ⟨q, a, b, fs, rfl, _⟩ := h
    rfl
  · obtain ⟨q, a, b, fs, rfl, ⟨ts, hq, hts⟩, hl, k⟩ := h
    refine ⟨_, pss_cons (ps_set (i := 3) scJoined.nd rfl (Or.inl rfl) (pe_lst (pa_cons (pv 1) pa_nil)))
      (pss_cons (ps_set (i := 4) scJoined.nd rfl (Or.inl rfl) pe_int)
      (pss_cons (ps_while PassesOwn.never (pt_cmpR op_lt (pv 4) (pe_callB call_len_seq (by rfl) hLen PySem.boot_len (pa_cons (pv 3) pa_nil)) (nomark _))
        (pss_cons (ps_for PassesOwn.never rfl (pi_list (pv 0)) (pg_tup rfl (pgs_cons (pg_name (i := 5) scJoined.nd rfl (Or.inl rfl)) (pgs_cons (pg_name (i := 6) scJoined.nd rfl (Or.inl rfl)) (pgs_cons (pg_name (i := 7) scJoined.nd rfl (Or.inl rfl)) pgs_nil))))
          (C8.pss_cut (ps_if (PW.pt (pw_and (pt_cmpR op_eq (pv 5) (pe_ix ix_list (pv 3) (pv 4) (fun _ _ => rfl)) (nomark _)) (pw_and1 (pt_cmpR op_notIn_seq (pv 6) (pv 3) (by rfl)))))
              (pss_one (ps_expr (pe_bm PySem.F.plainAttrs_list PySem.F.slot_list_append PySem.F.type_list_append mt_append (pv 3) (pa_cons (pv 6) pa_nil)))) pss_nil)
          (pss_one (ps_if (PW.pt (pw_and (pt_cmpR op_eq (pv 6) (pe_ix ix_list (pv 3) (pv 4) (fun _ _ => rfl)) (nomark _)) (pw_and1 (pt_cmpR op_notIn_seq (pv 5) (pv 3) (by rfl)))))
              (pss_one (ps_expr (pe_bm PySem.F.plainAttrs_list PySem.F.slot_list_append PySem.F.type_list_append mt_append (pv 3) (pa_cons (pv 5) pa_nil)))) pss_nil))))
        (pss_one (ps_set (i := 4) scJoined.nd rfl (Or.inl rfl) (pe_op op_add (pv 4) pe_int)))))
      (pss_one (ps_ret (pe_cmpR op_in_seq (pv 2) (pv 3) (by rfl)))))), ?_⟩
    refine ⟨_, rfl, (by show 1 ≤ sizeLine; decide), fun pf hpf => ?_⟩
    have nqf : q ≠ pf := ne_of_none hq hpf
    -- while at < len(found)
    refine ⟨fun m σ G => ∃ (v5 v6 v7 : Option V) (fl : List Int) (at' : Nat), σ = [some (.ref q), some (.int a), some (.int b), some (.ref pf), some (.int (at' : Nat)), v5, v6, v7] ∧ Same H G ∧ G pf = some (.lst (fl.map V.int)) ∧ Bf fs a fl at' ∧ at' ≤ fl.length ∧ m = 2 * fs.length + 2 - at',
      ⟨2 * fs.length + 2, none, none, none, [a], 0, rfl, Same.new hpf, upd_same, Bf.one fs a, by simp, rfl⟩, ?_⟩
    rintro m σ G ⟨v5, v6, v7, fl, at', rfl, sg, gf, bf, atl, rfl⟩
    have sm := bf.small
    refine ⟨_, rfl, _, rfl, pf, _, rfl, .inl (SqL.of gf), _, _, rfl, rfl, _, rfl, ?_⟩
    rw [List.length_map]
    by_cases hc : (at' : Int) < (fl.length : Int)
    · rw [decide_eq_true hc]
      have al : at' < fl.length := by omega
      have hx : fl[at']? = some fl[at'] := List.getElem?_eq_getElem al
      generalize fl[at'] = cur at hx
      refine iteT ⟨fun σ' G' => ∃ (v5 v6 v7 : Option V) (fl' : List Int), σ' = [some (.ref q), some (.int a), some (.int b), some (.ref pf), some (.int ((at' + 1 : Nat) : Int)), v5, v6, v7] ∧ Same H G' ∧ G' pf = some (.lst (fl'.map V.int)) ∧ Bf fs a fl' (at' + 1) ∧ at' + 1 ≤ fl'.length,
        fun σ' G' ⟨v5, v6, v7, fl', e1, e2, e3, e4, e5⟩ => ⟨2 * fs.length + 2 - (at' + 1), by have := e4.small; omega, v5, v6, v7, fl', at' + 1, e1, e2, e3, e4, e5, rfl⟩, ?_⟩
      -- for here, there, size in facts
      refine ⟨_, rfl, q, rfl, ⟨_, SqL.of (sg _ _ hq)⟩, for_list (K := K) (a := q) (xs := ts.map V.ref) (fun j σ G2 => ∃ (v5 v6 v7 : Option V) (fl' : List Int), σ = [some (.ref q), some (.int a), some (.int b), some (.ref pf), some (.int (at' : Nat)), v5, v6, v7] ∧ Same H G2 ∧ G2 pf = some (.lst (fl'.map V.int)) ∧
          Bf fs a fl' at' ∧ at' < fl'.length ∧ fl'[at']? = some cur ∧ ∀ r ∈ fs.take j, ∀ y, Jn r cur y → y ∈ fl')
        ⟨v5, v6, v7, fl, rfl, sg, gf, bf, al, hx, fun r z => (by simp at z)⟩ (fun j σ G2 _ ⟨_, _, _, _, _, s2, _⟩ => SqL.of (s2 _ _ hq)) ?_ ?_⟩
      · rintro j y σ G2 hj ⟨v5, v6, v7, fl1, rfl, s2, g2, bf1, al1, hx1, row⟩
        obtain ⟨t, ht, rfl⟩ := map_get hj
        obtain ⟨r, hr', tr⟩ := paired_get hts ht
        have tr2 : G2 t = some (.tup [.int r.1, .int r.2.1, .int r.2.2]) := s2 _ _ tr
        have mr : r ∈ fs := List.mem_of_getElem? hr'
        have mc : cur ∈ fl1 := List.mem_of_getElem? hx1
        have cv : ∀ {l : List Int}, l[at']? = some cur → (l.map V.int)[at']? = some (V.int cur) := fun z => by rw [List.getElem?_map, z]; rfl
        have sm1 := bf1.small
        refine ⟨t, _, rfl, SqT.of tr2, rfl, _, _, rfl, _, _, rfl, _, _, rfl, rfl, ?_⟩
        -- the first if
        refine ⟨fun σ' G' => ∃ fl' : List Int, σ' = [some (.ref q), some (.int a), some (.int b), some (.ref pf), some (.int (at' : Nat)), some (.int r.1), some (.int r.2.1), some (.int r.2.2)] ∧ Same H G' ∧ G' pf = some (.lst (fl'.map V.int)) ∧
            Bf fs a fl' at' ∧ at' < fl'.length ∧ fl'[at']? = some cur ∧ (∀ r ∈ fs.take j, ∀ y, Jn r cur y → y ∈ fl') ∧ (r.1 = cur → r.2.1 ∈ fl'), ?_, ?_⟩
        · refine ⟨_, rfl, _, rfl, _, rfl, pf, _, _, _, rfl, rfl, SqL.of g2, atI_nat (cv hx1), rfl, _, rfl, ?_⟩
          by_cases e1 : r.1 = cur
          · rw [decide_eq_true (show V.int r.1 = V.int cur by rw [e1])]
            refine iteT ⟨_, rfl, _, rfl, pf, _, rfl, .inl (SqL.of g2), rfl, flat_ints _, _, rfl, ?_⟩
            rw [inV_int]
            by_cases e2 : r.2.1 ∈ fl1
            · rw [decide_eq_true e2]
              exact iteF ⟨fl1, rfl, s2, g2, bf1, al1, hx1, row, fun _ => e2⟩
            · rw [decide_eq_false e2]
              refine iteT ⟨_, rfl, .inl ⟨rfl, _, SqL.of g2⟩, _, rfl, pf, _, _, rfl, rfl, g2, by rw [List.length_map, PySem.sizeLine_eq]; omega, fl1 ++ [r.2.1], rfl, ?_, ?_, bf1.add mc mr (.inl ⟨e1, rfl⟩) e2 (Nat.le_of_lt al1), by rw [List.length_append]; omega, by rw [List.getElem?_append_left al1]; exact hx1, fun r' z y hy => List.mem_append_left _ (row r' z y hy), fun _ => List.mem_append_right _ (List.mem_singleton.mpr rfl)⟩
              · intro o u e
                rw [upd_ne (ne_of_none e hpf)]
                exact s2 o u e
              · rw [List.map_append]
                exact upd_same
          · rw [decide_eq_false (show ¬ V.int r.1 = V.int cur from fun z => e1 (V.int.inj z))]
            exact iteF ⟨fl1, rfl, s2, g2, bf1, al1, hx1, row, fun z => absurd z e1⟩
        · rintro σ' G3 ⟨fl2, rfl, s3, g3, bf2, al2, hx2, row2, one2⟩
          have mc2 : cur ∈ fl2 := List.mem_of_getElem? hx2
          have sm2 := bf2.small
          have fin : ∀ {fl' : List Int}, (∀ x ∈ fl2, x ∈ fl') → (r.2.1 = cur → r.1 ∈ fl') → ∀ r' ∈ fs.take (j + 1), ∀ y, Jn r' cur y → y ∈ fl' := fun {fl'} sub h2 r' hr2 y hy => by
            rw [take_get hr'] at hr2
            rcases List.mem_append.mp hr2 with z | z
            · exact sub _ (row2 r' z y hy)
            · obtain rfl := List.mem_singleton.mp z
              rcases hy with ⟨x1, x2⟩ | ⟨x1, x2⟩
              · rw [← x2]
                exact sub _ (one2 x1)
              · rw [← x1]
                exact h2 x2
          refine ⟨_, rfl, _, rfl, _, rfl, pf, _, _, _, rfl, rfl, SqL.of g3, atI_nat (cv hx2), rfl, _, rfl, ?_⟩
          by_cases e1 : r.2.1 = cur
          · rw [decide_eq_true (show V.int r.2.1 = V.int cur by rw [e1])]
            refine iteT ⟨_, rfl, _, rfl, pf, _, rfl, .inl (SqL.of g3), rfl, flat_ints _, _, rfl, ?_⟩
            rw [inV_int]
            by_cases e2 : r.1 ∈ fl2
            · rw [decide_eq_true e2]
              exact iteF ⟨_, _, _, fl2, rfl, s3, g3, bf2, al2, hx2, fin (fun _ z => z) fun _ => e2⟩
            · rw [decide_eq_false e2]
              refine iteT ⟨_, rfl, .inl ⟨rfl, _, SqL.of g3⟩, _, rfl, pf, _, _, rfl, rfl, g3, by rw [List.length_map, PySem.sizeLine_eq]; omega, _, _, _, fl2 ++ [r.1], rfl, ?_, ?_, bf2.add mc2 mr (.inr ⟨rfl, e1⟩) e2 (Nat.le_of_lt al2), by rw [List.length_append]; omega, by rw [List.getElem?_append_left al2]; exact hx2, fin (fun _ z => List.mem_append_left _ z) fun _ => List.mem_append_right _ (List.mem_singleton.mpr rfl)⟩
              · intro o u e
                rw [upd_ne (ne_of_none e hpf)]
                exact s3 o u e
              · rw [List.map_append]
                exact upd_same
          · rw [decide_eq_false (show ¬ V.int r.2.1 = V.int cur from fun z => e1 (V.int.inj z))]
            exact iteF ⟨_, _, _, fl2, rfl, s3, g3, bf2, al2, hx2, fin (fun _ z => z) fun z => absurd z e1⟩
      · rintro σ G2 ⟨v5, v6, v7, fl1, rfl, s2, g2, bf1, al1, hx1, row⟩
        have el : (ts.map V.ref).length = fs.length := by rw [List.length_map]; exact Paired.length hts
        rw [el, List.take_length] at row
        refine ⟨_, rfl, _, _, rfl, rfl, v5, v6, v7, fl1, ?_, s2, g2, bf1.next hx1 row, al1⟩
        have e : ((at' : Nat) : Int) + 1 = ((at' + 1 : Nat) : Int) := by omega
        show List.set _ 4 (some (V.int (((at' : Nat) : Int) + 1))) = _
        rw [e]
        rfl
    · rw [decide_eq_false hc]
      refine iteF ⟨_, rfl, _, rfl, pf, _, rfl, .inl (SqL.of gf), rfl, flat_ints _, ?_⟩
      show Q (.bl (inV (.int b) (fl.map V.int))) G
      rw [inV_int]
      exact k G _ (by rw [decide_eq_true_iff]; exact bf.done (by omega)) sg
end
end OT

set_option Elab.async false
set_option linter.all false
set_option maxRecDepth 100000
set_option maxHeartbeats 2000000
namespace OT
open PySem L2 OTR
abbrev sDue : Stmt := top 24
def errS : Err → Str
  | .crossings _ => "crossings"
  | .roads _ => "roads"
  | .crossing _ => "crossing"
  | .length _ => "length"
  | .ring _ => "ring"
def errI : Err → Int
  | .crossings n => n
  | .roads n => n
  | .crossing n => n
  | .length n => n
  | .ring n => n
/-- what stands for an error: a pair of its word and its number -/
def Told (H : Hp) : Option Err → V → Prop
  | none, v => v = .non
  | some e, v => ∃ p, v = .ref p ∧ H p = some (.tup [.str (errS e), .int (errI e)])
def spDue : Sp := fun vs H Q _ => ∃ (n : Int) (q : Addr) (fs : List Fact), vs = [.int n, .ref q] ∧ FactsAt H q fs ∧ fs.length ≤ 1000 ∧ ∀ v H', Same H H' → Told H' (due n fs) v → Q v H'
theorem cut_to {xs : List V} {i : Nat} (h : i ≤ xs.length) : cutV xs none (some (i : Int)) = xs.take i := by
  unfold cutV
  have e0 : HT.sIx xs.length 0 none = 0 := rfl
  have e1 : HT.sIx xs.length xs.length (some (i : Int)) = i := by
    rw [HT.sIx_nat]
    omega
  rw [e0, e1]
  simp
theorem paired_take {α β : Type} {R : α → β → Prop} : ∀ {as : List α} {bs : List β} (i : Nat), Paired R as bs → Paired R (as.take i) (bs.take i)
  | _, _, 0, _ => .nil
  | _, _, _ + 1, .nil => .nil
  | _, _, i + 1, .cons r t => .cons r (paired_take i t)
section
variable {P : Program} {w : World} {K : PySem.W.Frag} {mg : Str → Option Value} {base : Heap}
abbrev nDue : List Str := ["_law_many", "_law_facts", "_law_at", "_law_one", "_law_other", "_law_size", "_law_off", "_law_crossing_so"]
theorem scDue : FnScope nDue ["_law_many", "_law_facts"] (defScope sDue) := ⟨rfl, rfl, rfl, by decide +kernel, rfl, by decide +kernel, by decide +kernel⟩
theorem ok_due {f fJ : Addr} {fd fdJ : FuncData} (F : Fun K "_law_due" "_law_due" sDue f fd) (FJ : FnOk P w K mg base CX0 1 fJ fdJ ["_law_facts", "_law_one", "_law_other"] spJoined) (bJ : Binds K fdJ ["_law_facts", "_law_one", "_law_other"] []) (mJ : mg "_law_joined" = some (.ref fJ)) (kJ : PySem.W.keepIn K (.ref fJ) = true)
    (hLen : mg "len" = none) (hEn : mg "enumerate" = none) : FnOk P w K mg base CX0 2 f fd ["_law_many", "_law_facts"] spDue := by
  refine F.ok scDue (fun vs H Q E h => ?_) (fun cdv A outer s H vs Q E hr h => ?_)
  · obtain ⟨n, q, fs, rfl, _⟩ := h
    rfl
  · obtain ⟨n, q, fs, rfl, ⟨ts, hq, hts⟩, hl, k⟩ := h
    have hu : (A.deeper (PyProof.Rows.envOfC "_law_due" (defScope sDue) _ f cdv)).units < cLine := Nat.lt_of_succ_lt (hu_of hr)
    refine ⟨_, pss_cons (ps_if (pt_not (pt_chain op_le op_le pe_int (pv 0) pe_int)) (pss_one (ps_ret (pe_tup (pa_cons pe_str (pa_cons (pv 0) pa_nil))))) pss_nil)
      (pss_cons (ps_if (pt_cmpR op_ne (pe_callB call_len_seq (by rfl) hLen PySem.boot_len (pa_cons (pv 1) pa_nil)) (pe_op op_sub (pv 0) pe_int) (nomark _))
          (pss_one (ps_ret (pe_tup (pa_cons pe_str (pa_cons (pe_callB call_len_seq (by rfl) hLen PySem.boot_len (pa_cons (pv 1) pa_nil)) pa_nil))))) pss_nil)
      (pss_cons (ps_for PassesOwn.never rfl (pi_enum rfl hEn (pa_cons (pv 1) pa_nil)) (pg_tup rfl (pgs_cons (pg_name (i := 2) scDue.nd rfl (Or.inl rfl)) (pgs_cons (pg_tup rfl (pgs_cons (pg_name (i := 3) scDue.nd rfl (Or.inl rfl)) (pgs_cons (pg_name (i := 4) scDue.nd rfl (Or.inl rfl)) (pgs_cons (pg_name (i := 5) scDue.nd rfl (Or.inl rfl)) pgs_nil)))) pgs_nil)))
        (pss_cons (ps_setLc (i := 6) (own := [("_law_crossing_so", 7)]) (g := gName 7) rfl scDue.nd rfl rfl (sw_true rfl rfl rfl (by decide +kernel)) (pi_tup (pe_tup (pa_cons (pv 3) (pa_cons (pv 4) pa_nil))))
            (blkOk_by (own := [("_law_crossing_so", 7)]) (N := nDue) (sc := defScope sDue) (by decide +kernel)) (fun _ _ _ _ _ => pg_name (i := 7) scDue.nd rfl (Or.inl rfl))
            (fun _ _ _ _ _ => pts_one (pt_not (pt_chain op_le op_lt pe_int (pv 7) (pv 0)))) (fun _ _ _ _ _ => pv 7))
        (pss_cons (ps_if (pt_cmpR (op_neNil hu) (pv 6) (pe_lst pa_nil) (nomark _)) (pss_one (ps_ret (pe_tup (pa_cons pe_str (pa_cons (pe_ix ix_list (pv 6) pe_int (fun _ _ => rfl)) pa_nil))))) pss_nil)
        (pss_cons (ps_if (pt_not (pt_chain op_le op_le pe_int (pv 5) (pe_op op_pow pe_int pe_int))) (pss_one (ps_ret (pe_tup (pa_cons pe_str (pa_cons (pv 5) pa_nil))))) pss_nil)
        (pss_one (ps_if (pt_val (pe_call FJ hr rfl mJ kJ bJ .nil pass0 (pa_cons (pe_slice sl_list (pv 1) po_none (po_some (pv 2))) (pa_cons (pv 3) (pa_cons (pv 4) pa_nil))))) (pss_one (ps_ret (pe_tup (pa_cons pe_str (pa_cons (pv 2) pa_nil))))) pss_nil))))))
      (pss_one (ps_ret pe_non)))), ?_⟩
    have el : (ts.map V.ref).length = fs.length := by rw [List.length_map]; exact Paired.length hts
    have tell : ∀ {e : Err} {G : Hp} {p : Addr}, due n fs = some e → Same H G → G p = none → Q (.ref p) (upd G p (.tup [.str (errS e), .int (errI e)])) := fun {e G p} hd sg hp => by
      refine k _ _ (sg.trans (Same.new hp)) ?_
      rw [hd]
      exact ⟨p, rfl, upd_same⟩
    have two : ∀ {u v : V}, [u, v].length ≤ sizeLine := fun {u v} => (by show 2 ≤ sizeLine; decide)
    -- if not 2 <= many <= 24
    refine ⟨_, rfl, _, _, rfl, rfl, _, rfl, ?_⟩
    by_cases h0 : 2 ≤ n
    · rw [decide_eq_true h0]
      refine iteT ⟨_, _, rfl, rfl, _, rfl, ?_⟩
      by_cases h1 : n ≤ 24
      · rw [decide_eq_true h1]
        refine iteF ?_
        -- if len(facts) != many - 1
        refine ⟨_, rfl, q, _, rfl, .inl (SqL.of hq), _, rfl, _, _, rfl, rfl, rfl, _, rfl, ?_⟩
        rw [el]
        by_cases h2 : (fs.length : Int) = n - 1
        · have hd := due_go ⟨h0, h1⟩ h2
          refine iteNS (by rw [h2]) ?_
          refine ⟨_, rfl, q, _, rfl, SqL.of hq, for_it (walk_enum (K := K) (a := q) (xs := ts.map V.ref)) (fun i σ G => ∃ v2 v3 v4 v5 v6 : Option V, σ = [some (.int n), some (.ref q), v2, v3, v4, v5, v6, none] ∧ Same H G ∧ dueR n [] fs = dueR n (fs.take i) (fs.drop i))
            ⟨none, none, none, none, none, rfl, Same.refl H, rfl⟩ (fun i σ G _ ⟨_, _, _, _, _, _, sg, _⟩ => SqL.of (sg _ _ hq)) ?_ ?_⟩
          · rintro i x σ G G1 hi ⟨v2, v3, v4, v5, v6, rfl, sg, e2⟩ ⟨T, x1, y1, rfl, hT, rfl, hx1, hy1⟩
            cases hx1
            rw [el] at hi
            obtain ⟨t, ht, rfl⟩ := map_get (show (ts.map V.ref)[i]? = some y1 from hy1)
            obtain ⟨r, hr', tr⟩ := paired_get hts ht
            have s1 : Same H (upd G T (.tup [.int (i : Nat), .ref t])) := sg.trans (Same.new hT)
            have ed := drop_get hr'
            rw [ed] at e2
            have lenT : (fs.take i).length = i := by rw [List.length_take]; omega
            refine ⟨T, _, rfl, SqT.of upd_same, rfl, _, _, rfl, _, _, rfl, ⟨t, _, rfl, SqT.of (s1 _ _ tr), rfl, _, _, rfl, _, _, rfl, _, _, rfl, rfl, rfl, ?_⟩⟩
            -- off = [..]
            refine ⟨_, rfl, _, rfl, two, fun p1 hp1 => ⟨p1, rfl, ⟨_, SqT.of upd_same⟩, fun D hD => lc_tup (K := K) (a := p1) (xs := [V.int r.1, V.int r.2.1]) (fun j Gc => ∃ l : List Int, Gc D = some (.lst (l.map V.int)) ∧ Same (upd (upd G T (.tup [.int (i : Nat), .ref t])) p1 (.tup [V.int r.1, V.int r.2.1])) Gc ∧ l = ([r.1, r.2.1].take j).filter fun c => !decide (In n c))
              ⟨[], upd_same, Same.new hD, rfl⟩ (fun j Gc _ ⟨_, _, sc, _⟩ => SqT.of (sc _ _ upd_same)) ?_ ?_⟩⟩
            · rintro j y Gc hj ⟨l, hl1, sc, el1⟩
              have hjl : j < 2 := (List.getElem?_eq_some_iff.mp hj).1
              obtain ⟨c, hc, rfl⟩ : ∃ c : Int, [r.1, r.2.1][j]? = some c ∧ y = V.int c := map_get (f := V.int) (l := [r.1, r.2.1]) hj
              have step : ([r.1, r.2.1].take (j + 1)).filter (fun c => !decide (In n c)) = l ++ (if In n c then [] else [c]) := by
                rw [take_get hc, List.filter_append, el1]
                congr 1
                by_cases z : In n c
                · simp [z]
                · simp [z]
              have ll : l.length ≤ 2 := by
                rw [el1]
                refine Nat.le_trans (List.length_filter_le _ _) ?_
                rw [List.length_take]
                omega
              have yes : ¬ In n c → ∃ acc, Gc D = some (.lst acc) ∧ acc.length < sizeLine ∧ ∃ l' : List Int, upd Gc D (.lst (acc ++ [V.int c])) D = some (.lst (l'.map V.int)) ∧ Same (upd (upd G T (.tup [.int (i : Nat), .ref t])) p1 (.tup [V.int r.1, V.int r.2.1])) (upd Gc D (.lst (acc ++ [V.int c]))) ∧ l' = ([r.1, r.2.1].take (j + 1)).filter fun c => !decide (In n c) := fun z => by
                refine ⟨_, hl1, small1000 (by rw [List.length_map]; omega), l ++ [c], by rw [List.map_append]; exact upd_same, fun b o e => ?_, by rw [step, if_neg z]⟩
                rw [upd_ne (ne_of_none e hD)]
                exact sc b o e
              refine ⟨rfl, _, rfl, _, _, rfl, rfl, _, rfl, ?_⟩
              by_cases c0 : 0 ≤ c
              · rw [decide_eq_true c0]
                refine iteT ⟨_, rfl, _, _, rfl, rfl, _, rfl, ?_⟩
                by_cases c1 : c < n
                · rw [decide_eq_true c1]
                  exact iteF ⟨l, hl1, sc, by rw [step, if_pos ⟨c0, c1⟩, List.append_nil]⟩
                · rw [decide_eq_false c1]
                  exact iteT ⟨_, rfl, yes fun z => c1 z.2⟩
              · rw [decide_eq_false c0]
                refine iteF ⟨_, rfl, ?_⟩
                exact iteT ⟨_, rfl, yes fun z => c0 z.1⟩
            · rintro G2 ⟨l, hl1, sc, el1⟩
              have s2 : Same H G2 := (s1.trans (Same.new hp1)).trans sc
              have el2 : l = [r.1, r.2.1].filter fun c => !decide (In n c) := el1
              -- if off != []
              refine ⟨_, rfl, Nat.zero_le _, fun p2 hp2 => ⟨D, p2, _, rfl, rfl, SqL.of (by rw [upd_ne (ne_of_none hl1 hp2)]; exact hl1), SqL.of upd_same, _, rfl, ?_⟩⟩
              have s3 : Same H (upd G2 p2 (.lst [])) := s2.trans (Same.new hp2)
              have hl2 : upd G2 p2 (.lst []) D = some (.lst (l.map V.int)) := by rw [upd_ne (ne_of_none hl1 hp2)]; exact hl1
              by_cases i1 : In n r.1
              · by_cases i2 : In n r.2.1
                · have l0 : l = [] := by rw [el2]; simp [i1, i2]
                  subst l0
                  refine iteF ?_
                  -- if not 1 <= size <= 10 ** 9
                  refine ⟨_, rfl, _, _, rfl, rfl, _, rfl, ?_⟩
                  have k3 : ¬ LenOk r.2.2 → dueR n [] fs = some (.length r.2.2) := fun z => by rw [e2, dueR_l i1 i2 z]
                  by_cases c0 : 1 ≤ r.2.2
                  · rw [decide_eq_true c0]
                    refine iteT ⟨_, _, rfl, rfl, ⟨by decide, by decide, by decide⟩, _, _, rfl, rfl, _, rfl, ?_⟩
                    have e9 : ((10 : Int) ^ (9 : Int).toNat) = 1000000000 := rfl
                    rw [e9]
                    by_cases c1 : r.2.2 ≤ 1000000000
                    · rw [decide_eq_true c1]
                      refine iteF ?_
                      -- if joined(facts[:at], one, other)
                      refine ⟨_, rfl, _, rfl, _, rfl, q, _, rfl, SqL.of (s3 _ _ hq), fun p4 hp4 => ?_⟩
                      rw [cut_to (by rw [el]; omega), ← List.map_take]
                      have s4 : Same H (upd (upd G2 p2 (.lst [])) p4 (.lst ((ts.take i).map V.ref))) := s3.trans (Same.new hp4)
                      refine ⟨_, rfl, _, rfl, p4, r.1, r.2.1, fs.take i, rfl, ⟨ts.take i, upd_same, tups_same (paired_take i hts) s4⟩, by rw [lenT]; omega, fun G5 c hc s5 => ⟨c, rfl, ?_⟩⟩
                      have s6 := s4.trans s5
                      cases c with
                      | true =>
                        have cn := hc.mp rfl
                        rw [dueR_ring i1 i2 ⟨c0, c1⟩ cn, lenT] at e2
                        exact iteT ⟨_, rfl, two, fun p hp => tell (e := .ring (i : Nat)) (by rw [hd, e2]) s6 hp⟩
                      | false =>
                        have nc : ¬ Con (fs.take i) r.1 r.2.1 := fun z => by have := hc.mpr z; cases this
                        rw [dueR_go i1 i2 ⟨c0, c1⟩ nc] at e2
                        refine iteF ⟨_, _, _, _, _, rfl, s6, ?_⟩
                        rw [take_get hr']
                        exact e2
                    · rw [decide_eq_false c1]
                      exact iteT ⟨_, rfl, two, fun p hp => tell (e := .length r.2.2) (by rw [hd]; exact k3 fun z => c1 z.2) s3 hp⟩
                  · rw [decide_eq_false c0]
                    refine iteF ⟨_, rfl, ?_⟩
                    exact iteT ⟨_, rfl, two, fun p hp => tell (e := .length r.2.2) (by rw [hd]; exact k3 fun z => c0 z.1) s3 hp⟩
                · have l1 : l = [r.2.1] := by rw [el2]; simp [i1, i2]
                  subst l1
                  exact iteT ⟨_, rfl, D, _, 0, _, rfl, rfl, SqL.of hl2, rfl, two, fun p hp => tell (e := .crossing r.2.1) (by rw [hd, e2, dueR_b i1 i2]) s3 hp⟩
              · obtain ⟨m, l1⟩ : ∃ m : List Int, l = r.1 :: m := by rw [el2]; exact ⟨_, by rw [List.filter_cons, if_pos (by simp [i1])]⟩
                subst l1
                exact iteT ⟨_, rfl, D, _, 0, _, rfl, rfl, SqL.of hl2, at_of (j := 0) rfl rfl, two, fun p hp => tell (e := .crossing r.1) (by rw [hd, e2, dueR_a i1]) s3 hp⟩
          · rintro σ G ⟨v2, v3, v4, v5, v6, rfl, sg, e2⟩
            rw [el, List.take_length, List.drop_length, dueR_nil] at e2
            exact k .non G sg (by rw [hd, e2]; rfl)
        · have h3 : ¬ (V.int (fs.length : Int) = V.int (n - 1)) := fun z => h2 (V.int.inj z)
          rw [decide_eq_false h3]
          refine iteT ⟨_, rfl, q, _, rfl, .inl (SqL.of hq), two, fun p hp => ?_⟩
          rw [el]
          exact tell (e := .roads fs.length) (due_r ⟨h0, h1⟩ h2) (Same.refl H) hp
      · rw [decide_eq_false h1]
        exact iteT ⟨_, rfl, two, fun p hp => tell (e := .crossings n) (due_c fun z => h1 z.2) (Same.refl H) hp⟩
    · rw [decide_eq_false h0]
      refine iteF ⟨_, rfl, ?_⟩
      exact iteT ⟨_, rfl, two, fun p hp => tell (e := .crossings n) (due_c fun z => h0 z.1) (Same.refl H) hp⟩
end
end OT

set_option Elab.async false
set_option linter.all false
set_option maxRecDepth 100000
set_option maxHeartbeats 2000000
namespace OT
open PySem L2 OTR
abbrev sSaid : Stmt := top 25
/-- of an error of the class at C: what isinstance and the clause say of it -/
structure IsF (K : PySem.W.Frag) (C CB CN CG CNR COR CTE : Addr) (b1 b2 b3 : Bool) : Prop where
  k1 : PySem.W.kitOne K (.ref C) (.ref CB) = some b1
  k2 : PySem.W.kitOne K (.ref C) (.ref CN) = some b2
  k3 : PySem.W.kitOne K (.ref C) (.ref CG) = some b3
  k4 : PySem.W.kitAny K (.ref C) [.ref CNR, .ref COR] = some false
  k5 : PySem.W.kitOne K (.ref C) (.type "ValueError") = some true
  te : PySem.W.exmOne K (.ref C) (.ref CTE) = some true
def tIs (K : PySem.W.Frag) (a : Addr) (cls : Value) (d : Option Addr) (c : V) : TE := tCB (rIsX K a cls d) (tCons (tVar 2) (tCons (tC c) tNil))
def tTail (K : PySem.W.Frag) (CB CN CG : Addr) (a : Addr) (cls : Value) (d : Option Addr) : TS :=
  tSeq (tIfS (tB (tOp (rIxL K) (tVar 3) (tC (.int 0)))) (tRet (tTup (tCons (tXf a cls d CB "what" (tVar 2)) (tCons (tXf a cls d CB "count" (tVar 2)) tNil)))) tNext)
    (tRet (tIf (tB (tOp (rIxL K) (tVar 3) (tC (.int 1)))) (tTup (tCons (tC (.str "crossing")) (tCons (tXf a cls d CN "crossing" (tVar 2)) tNil))) (tTup (tCons (tC (.str "ring")) (tCons (tXf a cls d CG "road" (tVar 2)) tNil)))))
def tSuite (K : PySem.W.Frag) (CB CN CG CNR COR : Addr) (a : Addr) (cls : Value) (d : Option Addr) : TS :=
  tSeq (tAsg (tLst (tCons (tIs K a cls d (.ref CB)) (tCons (tIs K a cls d (.ref CN)) (tCons (tIs K a cls d (.ref CG)) tNil)))) (gName 3))
    (tSeq (tIfS (tOr (tTest (tOp rNe (tBM K "list" (rCntB K) (tVar 3) (tCons (tC (.bl true)) tNil)) (tC (.int 1)))) (tOr (tB (tCB (rIsXT K a cls d) (tCons (tVar 2) (tCons (tTup (tCons (tC (.ref CNR)) (tCons (tC (.ref COR)) tNil))) tNil)))) (tNot (tB (tIs K a cls d (.ty "ValueError"))))))
        (tRet (tTup (tCons (tC (.str "several")) (tCons (tC .non) tNil)))) tNext)
      (tTail K CB CN CG a cls d))
theorem suite_pre {K : PySem.W.Frag} {C CB CN CG CNR COR CTE a dd : Addr} {b1 b2 b3 : Bool} (I : IsF K C CB CN CG CNR COR CTE b1 b2 b3) (X : ExcC K C) (one : [b1, b2, b3].count true = 1) {H : Hp} {fs : List (Str × V)} (hd : H dd = some (.xd fs)) {v0 v1 v3 : Option V} {D : Ends}
    (k : ∀ L H', Same H H' → H' L = some (.lst [.bl b1, .bl b2, .bl b3]) → tTail K CB CN CG a (.ref C) (some dd) D [v0, v1, some (.ref a), some (.ref L)] H') : tSuite K CB CN CG CNR COR a (.ref C) (some dd) D [v0, v1, some (.ref a), v3] H := by
  refine ⟨_, rfl, C, dd, fs, _, _, b1, rfl, rfl, hd, rfl, .own CB, X, I.k1, _, rfl, C, dd, fs, _, _, b2, rfl, rfl, hd, rfl, .own CN, X, I.k2, _, rfl, C, dd, fs, _, _, b3, rfl, rfl, hd, rfl, .own CG, X, I.k3, (by show 3 ≤ sizeLine; decide), fun L hL => ?_⟩
  have s1 : Same H (upd H L (.lst [.bl b1, .bl b2, .bl b3])) := Same.new hL
  refine ⟨_, rfl, .inl ⟨rfl, _, SqL.of upd_same⟩, L, [b1, b2, b3], rfl, rfl, SqL.of upd_same, rfl, _, rfl, ?_⟩
  rw [one]
  refine iteF ?_
  refine ⟨_, rfl, (by show 2 ≤ sizeLine; decide), fun tp htp => ?_⟩
  have s2 := s1.trans (Same.new (o := .tup [.ref CNR, .ref COR]) htp)
  refine ⟨C, dd, tp, fs, _, _, false, rfl, rfl, s2 _ _ hd, rfl, upd_same, .cons (.own CNR) (.cons (.own COR) .nil), X, I.k4, _, rfl, ?_⟩
  refine iteF ⟨_, rfl, C, dd, fs, _, _, true, rfl, rfl, s2 _ _ hd, rfl, .ty "ValueError", X, I.k5, _, rfl, ?_⟩
  exact iteF (k L _ s2 (Same.new htp _ _ upd_same))
def EW (W : WX) : XK := fun cls d H => ∀ σ : L2.St, σ.length = 4 → W cls d σ H
def spSaid (K : PySem.W.Frag) (CR : Addr) : Sp := fun vs H Q _ => ∃ (n : Int) (l : Addr) (ps : List Addr) (F : List Fact), vs = [.int n, .ref l] ∧ SqA K H l (ps.map V.ref) ∧ RoadsAt CR H ps F ∧ F.length ≤ 1000 ∧ ∀ v H', Same H H' → Told H' (due n F) v → Q v H'
theorem st4 : ∀ {σ : L2.St}, σ.length = 4 → ∃ v0 v1 v2 v3, σ = [v0, v1, v2, v3]
  | [v0, v1, v2, v3], _ => ⟨v0, v1, v2, v3, rfl⟩
section
variable {P : Program} {w : World} {K : PySem.W.Frag} {mg : Str → Option Value} {base : Heap}
theorem scSaid : FnScope ["_law_many", "_law_roads_so", "e", "_law_kinds"] ["_law_many", "_law_roads_so"] (defScope sSaid) := ⟨rfl, rfl, rfl, by decide +kernel, rfl, by decide +kernel, by decide +kernel⟩
theorem ok_said {f fT CT CR CB CN CG CNR COR CTE fB fN fG : Addr} {fd fdT : FuncData} (F : Fun K "_law_said" "_law_said" sSaid f fd) (TT : TeT K mg CT) (TB : ErT K mg "BadCount" CB fB) (TN : ErT K mg "NoCrossing" CN fN) (TG' : ErT K mg "RingRoad" CG fG)
    (gNR : mg "NoRoad" = some (.ref CNR)) (gOR : mg "OffRoad" = some (.ref COR)) (gTE : mg "TrainError" = some (.ref CTE)) (IB : IsF K CB CB CN CG CNR COR CTE true false false) (IN : IsF K CN CB CN CG CNR COR CTE false true false) (IG : IsF K CG CB CN CG CNR COR CTE false false true)
    (nW : PySem.W.findIn K (.ref CB) "what" = some none) (nC : PySem.W.findIn K (.ref CB) "count" = some none) (nX : PySem.W.findIn K (.ref CN) "crossing" = some none) (nR : PySem.W.findIn K (.ref CG) "road" = some none)
    (M : Mk K CT fT) (FT : FnOk P w K mg base (L2.CX P w) 5 fT fdT ["self", "crossings", "roads"] (spTreeI K CT CR CB CN CG)) (bT : Binds K fdT ["self", "crossings", "roads"] []) (hIs : mg "isinstance" = none) (hVE : mg "ValueError" = none) :
    FnOk P w K mg base CX0 7 f fd ["_law_many", "_law_roads_so"] (spSaid K CR) := by
  refine F.ok scSaid (fun vs H Q E h => ?_) (fun cdv A outer s H vs Q E hr h => ?_)
  · obtain ⟨n, l, ps, F, rfl, _⟩ := h
    rfl
  · obtain ⟨n, l, ps, F, rfl, hS, hR, hF, k⟩ := h
    refine ⟨_, pss_cons (ps_try_as (i := 2) (tb := fun W => tDrop (tMake CT (spTreeI K CT CR CB CN CG) [] (EW W) (tCons (tVar 0) (tCons (tVar 1) tNil)))) (ts := tSuite K CB CN CG CNR COR) (Wout := fun _ _ _ _ => False) rfl rfl scSaid.nd rfl rfl ⟨rfl, by decide, Or.inl gTE⟩ takes0
        (fun W pn xe tk _ => pss_one (ps_expr (by exact (pe_make M FT hr rfl TT.mgC bT .nil (fun pins σ H s e s' I c => tk e s' (XE.of_call I (fun cls d H' h => h σ I.len) c)) (pa_cons (pv 0) (pa_cons (pv 1) pa_nil))))))
        (fun a oe cls d pn hz hf => pss_cons (ps_set (i := 3) scSaid.nd rfl (Or.inl rfl) (pe_lst (pa_cons (pe_callB (call_isX hz hf) (by rfl) hIs (by decide +kernel) (pa_cons (pv 2) (pa_cons (pe_glob rfl TB.gC rfl) pa_nil)))
              (pa_cons (pe_callB (call_isX hz hf) (by rfl) hIs (by decide +kernel) (pa_cons (pv 2) (pa_cons (pe_glob rfl TN.gC rfl) pa_nil))) (pa_cons (pe_callB (call_isX hz hf) (by rfl) hIs (by decide +kernel) (pa_cons (pv 2) (pa_cons (pe_glob rfl TG'.gC rfl) pa_nil))) pa_nil)))))
          (pss_cons (ps_if (PW.pt (pw_or (pt_cmpR op_ne (pe_bm PySem.F.plainAttrs_list PySem.F.slot_list_count PySem.F.type_list_count mt_countB (pv 3) (pa_cons pe_bl pa_nil)) pe_int (nomark _))
                (pw_or (pt_val (pe_callB (call_isXT hz hf) (by rfl) hIs (by decide +kernel) (pa_cons (pv 2) (pa_cons (pe_tup (pa_cons (pe_glob rfl gNR rfl) (pa_cons (pe_glob rfl gOR rfl) pa_nil))) pa_nil))))
                (pw_or1 (pt_not (pt_val (pe_callB (call_isX hz hf) (by rfl) hIs (by decide +kernel) (pa_cons (pv 2) (pa_cons (pe_bltn (by rfl) hVE (by decide +kernel) rfl) pa_nil)))))))))
              (pss_one (ps_ret (pe_tup (pa_cons pe_str (pa_cons pe_non pa_nil))))) pss_nil)
          (pss_cons (ps_if (pt_val (pe_ix ix_list (pv 3) pe_int (fun _ _ => rfl))) (pss_one (ps_ret (pe_tup (pa_cons (pe_xf TB.xf nW hz hf (pv 2)) (pa_cons (pe_xf TB.xf nC hz hf (pv 2)) pa_nil))))) pss_nil)
          (pss_one (ps_ret (pe_ifExp (pt_val (pe_ix ix_list (pv 3) pe_int (fun _ _ => rfl))) (pe_tup (pa_cons pe_str (pa_cons (pe_xf TN.xf nX hz hf (pv 2)) pa_nil))) (pe_tup (pa_cons pe_str (pa_cons (pe_xf TG'.xf nR hz hf (pv 2)) pa_nil))))))))))
      (pss_one (ps_ret pe_non)), ?_⟩
    have two : ∀ {u v : V}, [u, v].length ≤ sizeLine := fun {u v} => (by show 2 ≤ sizeLine; decide)
    have tell : ∀ {e : Err} {G : Hp} {p : Addr}, due n F = some e → Same H G → G p = none → Q (.ref p) (upd G p (.tup [.str (errS e), .int (errI e)])) := fun {e G p} hd sg hp => by
      refine k _ _ (sg.trans (Same.new hp)) ?_
      rw [hd]
      exact ⟨p, rfl, upd_same⟩
    refine ⟨_, rfl, _, rfl, fun x dx nx ndx nex => ⟨x, dx, l, n, ps, F, H, rfl, upd_same, nx, fun b o e => ?_, hS, hR, hF, fun e he => ?_, fun he H' T s' => ⟨rfl, ?_⟩⟩⟩
    · rw [upd_ne (ne_of_none e nx), upd_ne (ne_of_none e ndx)]
      exact e
    · have bad : ∀ (wd : Str) (m : Int), errS e = wd → errI e = m → Raised CB [("count", .int m), ("what", .str wd)] H (EW (wAs K (.ref CTE) 2 (tSuite K CB CN CG CNR COR) (fun _ _ _ _ => False) { nx := fun σ' H' => tRet (tC .non) { nx := fun _ H' => Q .non H', rt := Q } σ' H', rt := Q })) := by
        rintro wd m rfl rfl d H' s' hn hx σ hσ
        obtain ⟨v0, v1, v2, v3, rfl⟩ := st4 hσ
        refine ⟨true, IB.te, fun _ a ha => ?_, fun q => nomatch q⟩
        refine suite_pre IB TB.ex rfl hx fun L H2 s2 hL => ?_
        have hx2 := s2 _ _ hx
        refine ⟨_, rfl, L, _, 0, .bl true, rfl, rfl, SqL.of hL, rfl, _, rfl, ?_⟩
        refine iteT ⟨_, rfl, rfl, rfl, d, _, _, rfl, hx2, (by rw [lk1 (by decide +kernel)]; exact lk0), _, rfl, rfl, rfl, d, _, _, rfl, hx2, lk0, two, fun p hp => ?_⟩
        exact tell he (Same.trans s' s2) hp
      cases e with
      | crossings m => exact bad _ _ rfl rfl
      | roads m => exact bad _ _ rfl rfl
      | length m => exact bad _ _ rfl rfl
      | crossing m =>
        intro d H' s' hn hx σ hσ
        obtain ⟨v0, v1, v2, v3, rfl⟩ := st4 hσ
        refine ⟨true, IN.te, fun _ a ha => ?_, fun q => nomatch q⟩
        refine suite_pre IN TN.ex rfl hx fun L H2 s2 hL => ?_
        have hx2 := s2 _ _ hx
        refine ⟨_, rfl, L, _, 0, .bl false, rfl, rfl, SqL.of hL, rfl, _, rfl, iteF ?_⟩
        refine ⟨_, rfl, L, _, 1, .bl true, rfl, rfl, SqL.of hL, rfl, _, rfl, ?_⟩
        refine iteT ⟨_, rfl, rfl, rfl, d, _, _, rfl, hx2, lk0, two, fun p hp => ?_⟩
        exact tell he (Same.trans s' s2) hp
      | ring m =>
        intro d H' s' hn hx σ hσ
        obtain ⟨v0, v1, v2, v3, rfl⟩ := st4 hσ
        refine ⟨true, IG.te, fun _ a ha => ?_, fun q => nomatch q⟩
        refine suite_pre IG TG'.ex rfl hx fun L H2 s2 hL => ?_
        have hx2 := s2 _ _ hx
        refine ⟨_, rfl, L, _, 0, .bl false, rfl, rfl, SqL.of hL, rfl, _, rfl, iteF ?_⟩
        refine ⟨_, rfl, L, _, 1, .bl false, rfl, rfl, SqL.of hL, rfl, _, rfl, ?_⟩
        refine iteF ⟨_, rfl, rfl, rfl, d, _, _, rfl, hx2, lk0, two, fun p hp => ?_⟩
        exact tell he (Same.trans s' s2) hp
    · exact k .non H' s' (by rw [he]; rfl)
end
end OT

set_option Elab.async false
set_option linter.all false
set_option maxRecDepth 100000
set_option maxHeartbeats 2000000
namespace OT
open PySem L2 OTR
abbrev sSpoilt : Stmt := top 26
/-- all of xs are triples -/
def AllT (H : Hp) (xs : List V) : Prop := ∀ v ∈ xs, ∃ (t : Addr) (r : Fact), v = .ref t ∧ TupAt H t r
theorem AllT.same {H H' : Hp} {xs : List V} (h : AllT H xs) (s : Same H H') : AllT H' xs := fun v hv => let ⟨t, r, e, a⟩ := h v hv; ⟨t, r, e, s _ _ a⟩
theorem AllT.but {H H' : Hp} {xs : List V} {s : Addr} (h : AllT H xs) (src : Src H s) (b : But s H H') : AllT H' xs := fun v hv => let ⟨t, r, e, a⟩ := h v hv; ⟨t, r, e, a.but src b⟩
theorem AllT.append {H : Hp} {xs ys : List V} (h : AllT H xs) (k : AllT H ys) : AllT H (xs ++ ys) := fun v hv => (List.mem_append.mp hv).elim (h v) (k v)
theorem AllT.sub {H : Hp} {xs ys : List V} (h : AllT H xs) (s : ∀ v ∈ ys, v ∈ xs) : AllT H ys := fun v hv => h v (s v hv)
theorem AllT.nil {H : Hp} : AllT H [] := fun v hv => by cases hv
theorem AllT.cons {H : Hp} {xs : List V} {t : Addr} {r : Fact} (a : TupAt H t r) (h : AllT H xs) : AllT H (.ref t :: xs) := fun v hv => by
  rcases List.mem_cons.mp hv with rfl | hv
  · exact ⟨t, r, rfl, a⟩
  · exact h v hv
theorem allT_of {H : Hp} {ts : List Addr} {fs : List Fact} (h : Paired (TupAt H) ts fs) : AllT H (ts.map V.ref) := by
  induction h with
  | nil => exact .nil
  | cons a _ ih => exact .cons a ih
theorem allT_to {H : Hp} : ∀ {xs : List V}, AllT H xs → ∃ (ts : List Addr) (fs : List Fact), xs = ts.map V.ref ∧ Paired (TupAt H) ts fs
  | [], _ => ⟨[], [], rfl, .nil⟩
  | v :: xs, h => by
    obtain ⟨t, r, rfl, a⟩ := h v (List.mem_cons_self ..)
    obtain ⟨ts, fs, rfl, p⟩ := allT_to (xs := xs) fun u hu => h u (List.mem_cons_of_mem _ hu)
    exact ⟨t :: ts, r :: fs, rfl, .cons a p⟩
/-- at q a list of triples, m at most -/
def FactsLe (H : Hp) (q : Addr) (m : Nat) : Prop := ∃ xs : List V, H q = some (.lst xs) ∧ AllT H xs ∧ xs.length ≤ m
theorem FactsLe.facts {H : Hp} {q : Addr} {m : Nat} (h : FactsLe H q m) : ∃ fs, FactsAt H q fs ∧ fs.length ≤ m := by
  obtain ⟨xs, e, a, l⟩ := h
  obtain ⟨ts, fs, rfl, p⟩ := allT_to a
  rw [List.length_map] at l
  exact ⟨fs, ⟨ts, e, p⟩, by rw [← Paired.length p]; exact l⟩
theorem facts_le {H : Hp} {q : Addr} {fs : List Fact} (h : FactsAt H q fs) : FactsLe H q fs.length := by
  obtain ⟨ts, e, p⟩ := h
  exact ⟨_, e, allT_of p, by rw [List.length_map, Paired.length p]; exact Nat.le_refl _⟩
theorem src_list {H : Hp} {s q : Addr} {xs : List V} (src : Src H s) (e : H q = some (.lst xs)) (a : AllT H xs) : q ≠ s := src.ne e fun x y z h => by
  injection h with h
  subst h
  obtain ⟨t, r, e', _⟩ := a (.int x) (List.mem_cons_self ..)
  cases e'
theorem cut_from {xs : List V} {i : Nat} (h : i ≤ xs.length) : cutV xs (some (i : Int)) none = xs.drop i := by
  unfold cutV
  have e0 : HT.sIx xs.length 0 (some (i : Int)) = i := by
    rw [HT.sIx_nat]
    omega
  have e1 : HT.sIx xs.length xs.length none = xs.length := rfl
  rw [e0, e1]
  exact List.take_of_length_le (by rw [List.length_drop]; exact Nat.le_refl _)
theorem at_any {xs : List V} {i : Int} (h0 : -(xs.length : Int) ≤ i) (h1 : i < xs.length) : ∃ v ∈ xs, atI xs i = some v := by
  by_cases h : 0 ≤ i
  · obtain ⟨j, rfl⟩ : ∃ j : Nat, i = (j : Int) := ⟨i.toNat, by omega⟩
    have hj : j < xs.length := by omega
    exact ⟨xs[j], List.getElem_mem hj, atI_nat (List.getElem?_eq_getElem hj)⟩
  · have hj : (i + xs.length).toNat < xs.length := by omega
    refine ⟨xs[(i + xs.length).toNat], List.getElem_mem hj, ?_⟩
    unfold atI ixN
    rw [if_neg h, if_pos h0]
    exact List.getElem?_eq_getElem hj
def spSpoilt : Sp := fun vs H Q _ => ∃ (s q : Addr) (n : Int) (m : Nat), vs = [.ref s, .int n, .ref q] ∧ Src H s ∧ FactsLe H q m ∧ m ≤ 500 ∧ ∀ p q' n' H', H' p = some (.tup [.int n', .ref q']) → FactsLe H' q' (m + 1) → Src H' s → But s H H' → Q (.ref p) H'
/-- a part that gives v and leaves all as it is -/
def Pl (te : TE) (σ : L2.St) (v : V) : Prop := ∀ (G : Hp) (Q : VK), Q v G → te σ G Q
theorem pl_var {σ : L2.St} {i : Nat} {v : V} (h : σ[i]? = some (some v)) : Pl (tVar i) σ v := fun _ _ q => ⟨v, h, q⟩
theorem pl_c {σ : L2.St} {v : V} : Pl (tC v) σ v := fun _ _ q => q
theorem pl_op0 {σ : L2.St} {ta tb : TE} {g : Int → Int → V} {x y : Int} (h1 : Pl ta σ (.int x)) (h2 : Pl tb σ (.int y)) : Pl (tOp (rI0 g) ta tb) σ (g x y) := fun _ _ q => h1 _ _ (h2 _ _ ⟨x, y, rfl, rfl, q⟩)
theorem pl_op1 {σ : L2.St} {ta tb : TE} {C : Int → Int → Prop} {g : Int → Int → V} {x y : Int} (h1 : Pl ta σ (.int x)) (h2 : Pl tb σ (.int y)) (c : C x y) : Pl (tOp (rI C g) ta tb) σ (g x y) := fun _ _ q => h1 _ _ (h2 _ _ ⟨x, y, rfl, rfl, c, q⟩)
theorem tCons_go {σ : L2.St} {H : Hp} {ta : TE} {tr : TA} {Q : List V → Hp → Prop} (h : ta σ H fun x H1 => tr σ H1 fun xs H2 => Q (x :: xs) H2) : tCons ta tr σ H Q := h
theorem tLst_go {σ : L2.St} {H : Hp} {t : TA} {Q : VK} (h : t σ H fun xs H1 => xs.length ≤ sizeLine ∧ ∀ p, H1 p = none → Q (.ref p) (upd H1 p (.lst xs))) : tLst t σ H Q := h
theorem tSeq_go {σ : L2.St} {H : Hp} {t u : TS} {D : Ends} (h : t { D with nx := u D } σ H) : tSeq t u D σ H := h
theorem tAsg_go {σ : L2.St} {H : Hp} {te : TE} {g : TG} {D : Ends} (h : te σ H fun x H1 => g x σ H1 D.nx) : tAsg te g D σ H := h
theorem tOp_go {σ : L2.St} {H : Hp} {r : R2} {ta tb : TE} {Q : VK} (h : ta σ H fun x H1 => tb σ H1 fun y H2 => r x y H2 Q) : tOp r ta tb σ H Q := h
theorem triE {σ : L2.St} {G : Hp} {ta tb tc : TE} {x y z : Int} {Q : VK} (h1 : Pl ta σ (.int x)) (h2 : Pl tb σ (.int y)) (h3 : Pl tc σ (.int z)) (k : ∀ t G', Same G G' → TupAt G' t (x, y, z) → Q (.ref t) G') : tTup (tCons ta (tCons tb (tCons tc tNil))) σ G Q :=
  h1 _ _ (h2 _ _ (h3 _ _ ⟨(by show 3 ≤ sizeLine; decide), fun p hp => k p _ (Same.new hp) upd_same⟩))
section
variable {P : Program} {w : World} {K : PySem.W.Frag} {mg : Str → Option Value} {base : Heap}
abbrev nSpoilt : List Str := ["_law_source_here", "_law_many", "_law_facts", "_law_way", "_law_at", "_law_one", "_law_other", "_law_size", "_law_odd", "_law_some"]
theorem scSpoilt : FnScope nSpoilt ["_law_source_here", "_law_many", "_law_facts"] (defScope sSpoilt) := ⟨rfl, rfl, rfl, by decide +kernel, rfl, by decide +kernel, by decide +kernel⟩
theorem ok_spoilt {f fD fP : Addr} {fd fdD fdP : FuncData} (F : Fun K "_law_spoilt" "_law_spoilt" sSpoilt f fd)
    (FD : FnOk P w K mg base CX0 1 fD fdD ["_law_source_here", "_law_many"] spDraw) (bD : Binds K fdD ["_law_source_here", "_law_many"] []) (mD : mg "_law_draw" = some (.ref fD)) (kD : PySem.W.keepIn K (.ref fD) = true)
    (FP : FnOk P w K mg base CX0 2 fP fdP ["_law_source_here", "_law_some"] (spPick K)) (bP : Binds K fdP ["_law_source_here", "_law_some"] []) (mP : mg "_law_pick" = some (.ref fP)) (kP : PySem.W.keepIn K (.ref fP) = true)
    (hLen : mg "len" = none) : FnOk P w K mg base CX0 3 f fd ["_law_source_here", "_law_many", "_law_facts"] spSpoilt := by
  refine F.ok scSpoilt (fun vs H Q E h => ?_) (fun cdv A outer s H vs Q E hr h => ?_)
  · obtain ⟨s, q, n, m, rfl, _⟩ := h
    rfl
  · obtain ⟨s, q, n, m, rfl, hs, ⟨xs, hq, hx, hm⟩, m5, k⟩ := h
    have hr1 : Room 1 _ := hr.mono (by decide)
    have ul : (A.deeper (PyProof.Rows.envOfC "_law_spoilt" (defScope sSpoilt) _ f cdv)).units < cLine := Nat.lt_of_succ_lt (hu_of hr)
    refine ⟨_, pss_cons (ps_set (i := 3) scSpoilt.nd rfl (Or.inl rfl) (pe_call FD hr1 rfl mD kD bD .nil pass0 (pa_cons (pv 0) (pa_cons pe_int pa_nil))))
      (pss_cons (ps_if (pt_cmpR op_eq (pv 3) pe_int (nomark _)) (pss_one (ps_ret (pe_tup (pa_cons (pe_call FP hr rfl mP kP bP .nil pass0 (pa_cons (pv 0) (pa_cons
            (pe_lst (pa_cons (pe_op op_add (pv 1) pe_int) (pa_cons (pe_op op_sub (pv 1) pe_int) (pa_cons pe_int (pa_cons pe_int (pa_cons (pe_un un_neg pe_int) (pa_cons pe_int (pa_cons (pe_op op_pow pe_int pe_int) pa_nil)))))))) pa_nil))) (pa_cons (pv 2) pa_nil))))) pss_nil)
      (pss_cons (ps_if (pt_cmpR (op_eqNil ul) (pv 2) (pe_lst pa_nil) (nomark _)) (pss_one (ps_ret (pe_tup (pa_cons (pv 1) (pa_cons (pe_lst (pa_cons (pe_tup (pa_cons pe_int (pa_cons pe_int (pa_cons pe_int pa_nil)))) pa_nil)) pa_nil))))) pss_nil)
      (pss_cons (ps_set (i := 4) scSpoilt.nd rfl (Or.inl rfl) (pe_call FD hr1 rfl mD kD bD .nil pass0 (pa_cons (pv 0) (pa_cons (pe_callB call_len_seq (by rfl) hLen PySem.boot_len (pa_cons (pv 2) pa_nil)) pa_nil))))
      (pss_cons (ps_asg (pe_ix ix_list (pv 2) (pv 4) (fun _ _ => rfl)) (pg_tup rfl (pgs_cons (pg_name (i := 5) scSpoilt.nd rfl (Or.inl rfl)) (pgs_cons (pg_name (i := 6) scSpoilt.nd rfl (Or.inl rfl)) (pgs_cons (pg_name (i := 7) scSpoilt.nd rfl (Or.inl rfl)) pgs_nil)))))
      (pss_cons (ps_if (pt_cmpR op_eq (pv 3) pe_int (nomark _)) (pss_one (ps_ret (pe_tup (pa_cons (pv 1) (pa_cons (pe_op op_catS (pe_slice sl_list (pv 2) po_none (po_some (pv 4))) (pe_slice sl_list (pv 2) (po_some (pe_op op_add (pv 4) pe_int)) po_none)) pa_nil))))) pss_nil)
      (pss_cons (ps_if (pt_cmpR op_eq (pv 3) pe_int (nomark _)) (pss_one (ps_ret (pe_tup (pa_cons (pv 1) (pa_cons (pe_op op_catS (pe_slice sl_list (pv 2) po_none (po_some (pe_op op_add (pv 4) pe_int))) (pe_slice sl_list (pv 2) (po_some (pv 4)) po_none)) pa_nil))))) pss_nil)
      (pss_cons (ps_if (pt_cmpR op_eq (pv 3) pe_int (nomark _)) (pss_one (ps_ret (pe_tup (pa_cons (pv 1) (pa_cons (pe_op op_catS (pe_op op_catS (pe_slice sl_list (pv 2) po_none (po_some (pv 4))) (pe_lst (pa_cons (pe_ix ix_list (pv 2) (pe_op op_sub (pv 4) pe_int) (fun _ _ => rfl)) pa_nil))) (pe_slice sl_list (pv 2) (po_some (pe_op op_add (pv 4) pe_int)) po_none)) pa_nil))))) pss_nil)
      (pss_cons (ps_set (i := 8) scSpoilt.nd rfl (Or.inl rfl) (pe_call FP hr rfl mP kP bP .nil pass0 (pa_cons (pv 0) (pa_cons (pe_lst (pa_cons (pv 1) (pa_cons (pe_un un_neg pe_int) (pa_cons (pe_op op_add (pv 1) pe_int) (pa_cons (pe_op op_sub pe_int (pv 1)) pa_nil))))) pa_nil))))
      (pss_cons (ps_set (i := 9) scSpoilt.nd rfl (Or.inl rfl) (pe_lst (pa_cons (pe_tup (pa_cons (pv 8) (pa_cons (pv 6) (pa_cons (pv 7) pa_nil)))) (pa_cons (pe_tup (pa_cons (pv 5) (pa_cons (pv 8) (pa_cons (pv 7) pa_nil)))) (pa_cons (pe_tup (pa_cons (pv 8) (pa_cons (pv 8) (pa_cons (pv 7) pa_nil))))
          (pa_cons (pe_tup (pa_cons (pv 5) (pa_cons (pv 5) (pa_cons (pv 7) pa_nil)))) (pa_cons (pe_tup (pa_cons (pv 5) (pa_cons (pv 6) (pa_cons pe_int pa_nil)))) pa_nil)))))))
      (pss_cons (ps_set (i := 9) scSpoilt.nd rfl (Or.inl rfl) (pe_op op_catS (pv 9) (pe_lst (pa_cons (pe_tup (pa_cons (pv 5) (pa_cons (pv 6) (pa_cons (pe_op op_sub pe_int (pv 7)) pa_nil)))) (pa_cons (pe_tup (pa_cons (pv 5) (pa_cons (pv 6) (pa_cons (pe_op op_add (pe_op op_pow pe_int pe_int) pe_int) pa_nil))))
          (pa_cons (pe_tup (pa_cons (pv 5) (pa_cons (pv 6) (pa_cons (pe_op op_pow pe_int pe_int) pa_nil)))) (pa_cons (pe_tup (pa_cons (pv 6) (pa_cons (pv 5) (pa_cons (pv 7) pa_nil)))) pa_nil)))))))
      (pss_cons (ps_expr (pe_bm PySem.F.plainAttrs_list PySem.F.slot_list_append PySem.F.type_list_append mt_append (pv 9) (pa_cons (pe_tup (pa_cons (pe_call FD hr1 rfl mD kD bD .nil pass0 (pa_cons (pv 0) (pa_cons pe_int pa_nil))) (pa_cons (pe_call FD hr1 rfl mD kD bD .nil pass0 (pa_cons (pv 0) (pa_cons pe_int pa_nil))) (pa_cons (pv 7) pa_nil)))) pa_nil)))
      (pss_one (ps_ret (pe_tup (pa_cons (pv 1) (pa_cons (pe_op op_catS (pe_op op_catS (pe_slice sl_list (pv 2) po_none (po_some (pv 4))) (pe_lst (pa_cons (pe_call FP hr rfl mP kP bP .nil pass0 (pa_cons (pv 0) (pa_cons (pv 9) pa_nil))) pa_nil))) (pe_slice sl_list (pv 2) (po_some (pe_op op_add (pv 4) pe_int)) po_none)) pa_nil)))))))))))))))), ?_⟩
    have nqs : q ≠ s := src_list hs hq hx
    have l2 : ∀ {u v : V}, [u, v].length ≤ sizeLine := fun {u v} => (by show 2 ≤ sizeLine; decide)
    have szx : xs.length ≤ 500 := by omega
    -- what is handed back: many and a list of triples
    have back : ∀ {G : Hp} {n' : Int} {q' : Addr} {ys : List V}, Src G s → But s H G → G q' = some (.lst ys) → AllT G ys → ys.length ≤ m + 1 → [V.int n', V.ref q'].length ≤ sizeLine ∧ ∀ p, G p = none → Q (.ref p) (upd G p (.tup [V.int n', V.ref q'])) := fun {G n' q' ys} sg bg gq gy gl =>
      ⟨l2, fun p hp => k p q' n' _ upd_same ⟨ys, Same.new hp _ _ gq, gy.same (Same.new hp), gl⟩ (sg.same (Same.new hp)) fun b o e nb => Same.new hp b o (bg b o e nb)⟩
    -- way = draw(source, 9)
    refine ⟨_, rfl, s, 9, rfl, hs, by decide, by decide, fun way H1 w0 w1 src1 b1 => ?_⟩
    have hq1 := b1 _ _ hq nqs
    have hx1 := hx.but hs b1
    -- if way == 0
    refine ⟨_, rfl, rfl, _, rfl, ?_⟩
    by_cases c0 : V.int way = V.int 0
    · rw [decide_eq_true c0]
      refine iteT ⟨_, rfl, _, rfl, _, _, rfl, rfl, _, rfl, _, _, rfl, rfl, _, rfl, _, _, rfl, rfl, ⟨by decide, by decide, by decide⟩, (by show 7 ≤ sizeLine; decide), fun pl hpl => ?_⟩
      have s2 := Same.new (o := .lst [.int (n + 1), .int (n - 1), .int 0, .int 1, .int (-2), .int 25, .int (10 ^ (9 : Int).toNat)]) hpl
      refine ⟨s, pl, _, rfl, src1.same s2, src1.new hpl, SqL.of upd_same, (by show 0 < 7; decide), (by show 7 < 1000000; decide), fun v H3 hv src3 b3 => ?_⟩
      obtain ⟨i, _, rfl⟩ := List.mem_map.mp (show v ∈ ([n + 1, n - 1, 0, 1, -2, 25, 10 ^ (9 : Int).toNat] : List Int).map V.int from hv)
      refine ⟨_, rfl, ?_⟩
      exact back src3 (fun b o e nb => b3 b o (s2 b o (b1 b o e nb)) nb) (b3 _ _ (s2 _ _ hq1) nqs) ((hx1.same s2).but (src1.same s2) b3) (by omega)
    rw [decide_eq_false c0]
    refine iteF ?_
    -- if facts == []
    refine ⟨_, rfl, Nat.zero_le _, fun p0 hp0 => ⟨q, p0, xs, rfl, rfl, SqL.of (by rw [upd_ne (ne_of_none hq1 hp0)]; exact hq1), SqL.of upd_same, _, rfl, ?_⟩⟩
    have s2 : Same H1 (upd H1 p0 (.lst [])) := Same.new hp0
    cases hxe : xs with
    | nil =>
      refine iteT ⟨_, rfl, ?_⟩
      refine tCons_go (tLst_go (tCons_go ?_))
      refine triE pl_c pl_c pl_c fun t G st at1 => ⟨(by show 1 ≤ sizeLine; decide), fun L hL => ?_⟩
      have s3 := (s2.trans st).trans (Same.new (o := .lst [.ref t]) hL)
      exact back (src1.same s3) (fun b o e nb => s3 b o (b1 b o e nb)) upd_same (.cons (Same.new hL _ _ at1) .nil) (by show 1 ≤ m + 1; omega)
    | cons x0 xr =>
    refine iteF ?_
    have xpos : 0 < xs.length := by rw [hxe]; exact Nat.succ_pos _
    -- at = draw(source, len(facts))
    have src2 := src1.same s2
    have hq2 := s2 _ _ hq1
    refine ⟨_, rfl, _, rfl, q, xs, rfl, .inl (SqL.of hq2), s, _, rfl, src2, by omega, by omega, fun at' G a0 a1 sg bg => ?_⟩
    obtain ⟨j, rfl⟩ : ∃ j : Nat, at' = (j : Int) := ⟨at'.toNat, by omega⟩
    have jl : j < xs.length := by omega
    have gq := bg _ _ hq2 nqs
    have gx := (hx1.same s2).but src2 bg
    have bH : But s H G := fun b o e nb => bg b o (s2 b o (b1 b o e nb)) nb
    obtain ⟨t, r, et, ht⟩ := gx xs[j] (List.getElem_mem jl)
    have hj : xs[j]? = some (V.ref t) := by rw [List.getElem?_eq_getElem jl, et]
    refine ⟨_, rfl, _, rfl, q, xs, _, _, rfl, rfl, SqL.of gq, atI_nat hj, t, _, rfl, SqT.of ht, rfl, _, _, rfl, _, _, rfl, _, _, rfl, rfl, ?_⟩
    have ej : (j : Int) + 1 = ((j + 1 : Nat) : Int) := by omega
    have subT : ∀ i, ∀ v ∈ xs.take i, v ∈ xs := fun i v hv => List.mem_of_mem_take hv
    have subD : ∀ i, ∀ v ∈ xs.drop i, v ∈ xs := fun i v hv => List.mem_of_mem_drop hv
    -- if way == 1
    refine ⟨_, rfl, rfl, _, rfl, ?_⟩
    by_cases c1 : V.int way = V.int 1
    · rw [decide_eq_true c1]
      refine iteT ⟨_, rfl, _, rfl, _, rfl, _, rfl, q, xs, rfl, SqL.of gq, fun p1 h1 => ?_⟩
      rw [cut_to (Nat.le_of_lt jl)]
      have u1 := Same.new (o := .lst (xs.take j)) h1
      refine ⟨_, rfl, _, rfl, _, _, rfl, rfl, _, rfl, q, xs, rfl, SqL.of (u1 _ _ gq), fun p2 h2 => ?_⟩
      rw [ej, cut_from jl]
      have u2 := u1.trans (Same.new (o := .lst (xs.drop (j + 1))) h2)
      refine ⟨p1, p2, _, _, rfl, rfl, SqL.of (Same.new h2 _ _ upd_same), SqL.of upd_same, by rw [List.length_take, List.length_drop, PySem.sizeLine_eq]; omega, fun p3 h3 => ?_⟩
      have u3 := u2.trans (Same.new (o := .lst (xs.take j ++ xs.drop (j + 1))) h3)
      exact back (sg.same u3) (fun b o e nb => u3 b o (bH b o e nb)) upd_same (((gx.sub (subT j)).append (gx.sub (subD (j + 1)))).same u3) (by rw [List.length_append, List.length_take, List.length_drop]; omega)
    rw [decide_eq_false c1]
    refine iteF ?_
    -- if way == 2
    refine ⟨_, rfl, rfl, _, rfl, ?_⟩
    by_cases c2 : V.int way = V.int 2
    · rw [decide_eq_true c2]
      refine iteT ⟨_, rfl, _, rfl, _, rfl, _, _, rfl, rfl, _, rfl, q, xs, rfl, SqL.of gq, fun p1 h1 => ?_⟩
      rw [ej, cut_to jl]
      have u1 := Same.new (o := .lst (xs.take (j + 1))) h1
      refine ⟨_, rfl, _, rfl, _, rfl, q, xs, rfl, SqL.of (u1 _ _ gq), fun p2 h2 => ?_⟩
      rw [cut_from (Nat.le_of_lt jl)]
      have u2 := u1.trans (Same.new (o := .lst (xs.drop j)) h2)
      refine ⟨p1, p2, _, _, rfl, rfl, SqL.of (Same.new h2 _ _ upd_same), SqL.of upd_same, by rw [List.length_take, List.length_drop, PySem.sizeLine_eq]; omega, fun p3 h3 => ?_⟩
      have u3 := u2.trans (Same.new (o := .lst (xs.take (j + 1) ++ xs.drop j)) h3)
      exact back (sg.same u3) (fun b o e nb => u3 b o (bH b o e nb)) upd_same (((gx.sub (subT (j + 1))).append (gx.sub (subD j))).same u3) (by rw [List.length_append, List.length_take, List.length_drop]; omega)
    rw [decide_eq_false c2]
    refine iteF ?_
    -- if way == 3
    refine ⟨_, rfl, rfl, _, rfl, ?_⟩
    by_cases c3 : V.int way = V.int 3
    · rw [decide_eq_true c3]
      refine iteT ⟨_, rfl, _, rfl, _, rfl, _, rfl, q, xs, rfl, SqL.of gq, fun p1 h1 => ?_⟩
      rw [cut_to (Nat.le_of_lt jl)]
      have u1 := Same.new (o := .lst (xs.take j)) h1
      obtain ⟨v, mv, av⟩ := at_any (xs := xs) (i := (j : Int) - 1) (by omega) (by omega)
      refine ⟨_, rfl, _, rfl, _, _, rfl, rfl, q, xs, _, v, rfl, rfl, SqL.of (u1 _ _ gq), av, (by show 1 ≤ sizeLine; decide), fun p2 h2 => ?_⟩
      have u2 := u1.trans (Same.new (o := .lst [v]) h2)
      refine ⟨p1, p2, _, _, rfl, rfl, SqL.of (Same.new h2 _ _ upd_same), SqL.of upd_same, by rw [List.length_take, PySem.sizeLine_eq]; show _ + 1 ≤ _; omega, fun p3 h3 => ?_⟩
      have u3 := u2.trans (Same.new (o := .lst (xs.take j ++ [v])) h3)
      refine ⟨_, rfl, _, rfl, _, _, rfl, rfl, _, rfl, q, xs, rfl, SqL.of (u3 _ _ gq), fun p4 h4 => ?_⟩
      rw [ej, cut_from jl]
      have u4 := u3.trans (Same.new (o := .lst (xs.drop (j + 1))) h4)
      refine ⟨p3, p4, _, _, rfl, rfl, SqL.of (Same.new h4 _ _ upd_same), SqL.of upd_same, by rw [List.length_append, List.length_take, List.length_drop, PySem.sizeLine_eq]; show _ + 1 + _ ≤ _; omega, fun p5 h5 => ?_⟩
      have u5 := u4.trans (Same.new (o := .lst (xs.take j ++ [v] ++ xs.drop (j + 1))) h5)
      exact back (sg.same u5) (fun b o e nb => u5 b o (bH b o e nb)) upd_same ((((gx.sub (subT j)).append (gx.sub fun u hu => by rw [List.mem_singleton.mp hu]; exact mv)).append (gx.sub (subD (j + 1)))).same u5) (by rw [List.length_append, List.length_append, List.length_take, List.length_drop]; show _ + 1 + _ ≤ _; omega)
    rw [decide_eq_false c3]
    refine iteF ?_
    -- odd = pick(source, [many, -1, many + 5, 0 - many])
    refine ⟨_, rfl, _, rfl, _, rfl, _, rfl, _, _, rfl, rfl, _, rfl, _, _, rfl, rfl, (by show 4 ≤ sizeLine; decide), fun pl hpl => ?_⟩
    have u1 := Same.new (o := .lst [.int n, .int (-1), .int (n + 5), .int (0 - n)]) hpl
    refine ⟨s, pl, _, rfl, sg.same u1, sg.new hpl, SqL.of upd_same, (by show 0 < 4; decide), (by show 4 < 1000000; decide), fun v G2 hv sg2 bg2 => ?_⟩
    obtain ⟨odd, _, rfl⟩ := List.mem_map.mp (show v ∈ ([n, -1, n + 5, 0 - n] : List Int).map V.int from hv)
    have bH2 : But s H G2 := fun b o e nb => bg2 b o (u1 b o (bH b o e nb)) nb
    have gq2 := bg2 _ _ (u1 _ _ gq) nqs
    have gx2 := (gx.same u1).but (sg.same u1) bg2
    -- some = [..]
    dsimp only [gName]
    refine tSeq_go (tAsg_go (tLst_go (tCons_go ?_)))
    refine triE (pl_var rfl) (pl_var rfl) (pl_var rfl) fun t1 G3 v1 a1 => ?_
    refine triE (pl_var rfl) (pl_var rfl) (pl_var rfl) fun t2 G4 v2 a2 => ?_
    refine triE (pl_var rfl) (pl_var rfl) (pl_var rfl) fun t3 G5 v3 a3 => ?_
    refine triE (pl_var rfl) (pl_var rfl) (pl_var rfl) fun t4 G6 v4 a4 => ?_
    refine triE (pl_var rfl) (pl_var rfl) pl_c fun t5 G7 v5 a5 => ⟨(by show 5 ≤ sizeLine; decide), fun L1 hL1 => ?_⟩
    have all5 : AllT G7 [.ref t1, .ref t2, .ref t3, .ref t4, .ref t5] := .cons (v5 _ _ (v4 _ _ (v3 _ _ (v2 _ _ a1)))) (.cons (v5 _ _ (v4 _ _ (v3 _ _ a2))) (.cons (v5 _ _ (v4 _ _ a3)) (.cons (v5 _ _ a4) (.cons a5 .nil))))
    have w1' : Same G2 G7 := (((v1.trans v2).trans v3).trans v4).trans v5
    have w2 : Same G7 (upd G7 L1 (.lst [.ref t1, .ref t2, .ref t3, .ref t4, .ref t5])) := Same.new hL1
    refine ⟨_, rfl, ?_⟩
    refine tLst_go (tCons_go ?_)
    refine triE (pl_var rfl) (pl_var rfl) (pl_op0 pl_c (pl_var rfl)) fun t6 G8 v6 a6 => ?_
    refine triE (pl_var rfl) (pl_var rfl) (pl_op0 (pl_op1 pl_c pl_c ⟨by decide, by decide, by decide⟩) pl_c) fun t7 G9 v7 a7 => ?_
    refine triE (pl_var rfl) (pl_var rfl) (pl_op1 pl_c pl_c ⟨by decide, by decide, by decide⟩) fun t8 G10 v8 a8 => ?_
    refine triE (pl_var rfl) (pl_var rfl) (pl_var rfl) fun t9 G11 v9 a9 => ⟨(by show 4 ≤ sizeLine; decide), fun L2' hL2 => ?_⟩
    have w3 : Same (upd G7 L1 (.lst [.ref t1, .ref t2, .ref t3, .ref t4, .ref t5])) G11 := ((v6.trans v7).trans v8).trans v9
    have all4 : AllT G11 [.ref t6, .ref t7, .ref t8, .ref t9] := .cons (v9 _ _ (v8 _ _ (v7 _ _ a6))) (.cons (v9 _ _ (v8 _ _ a7)) (.cons (v9 _ _ a8) (.cons a9 .nil)))
    have w4 : Same G11 (upd G11 L2' (.lst [.ref t6, .ref t7, .ref t8, .ref t9])) := Same.new hL2
    refine ⟨L1, L2', _, _, rfl, rfl, SqL.of (w4 _ _ (w3 _ _ upd_same)), SqL.of upd_same, (by show 9 ≤ sizeLine; decide), fun L3 hL3 => ?_⟩
    have w5 := w4.trans (Same.new (o := .lst ([V.ref t1, .ref t2, .ref t3, .ref t4, .ref t5] ++ [.ref t6, .ref t7, .ref t8, .ref t9])) hL3)
    have all9 := (((all5.same (w2.trans w3)).append all4).same w5)
    have w6 : Same G2 _ := ((w1'.trans w2).trans w3).trans w5
    -- some.append((draw(source, 3), draw(source, 5), size))
    refine ⟨_, rfl, .inl ⟨rfl, _, SqL.of upd_same⟩, _, rfl, s, 3, rfl, sg2.same w6, by decide, by decide, fun d1 G13 _ _ sg13 b13 => ⟨_, rfl, s, 5, rfl, sg13, by decide, by decide, fun d2 G14 _ _ sg14 b14 => ⟨_, rfl, (by show 3 ≤ sizeLine; decide), fun t10 h10 => ?_⟩⟩⟩
    have n3 : L3 ≠ s := (sg2.same ((w1'.trans w2).trans (w3.trans w4))).new hL3
    have g14 := b14 _ _ (b13 _ _ (upd_same (H := upd G11 L2' (.lst [.ref t6, .ref t7, .ref t8, .ref t9])) (a := L3)) n3) n3
    have w7 := Same.new (o := .tup [.int d1, .int d2, .int r.2.2]) h10
    have all9' := ((all9.but (sg2.same w6) b13).but sg13 b14).same w7
    refine ⟨L3, _, _, rfl, rfl, w7 _ _ g14, (by show 9 < sizeLine; decide), ?_⟩
    have n10 : t10 ≠ L3 := (ne_of_none g14 h10).symm
    have L3H : H L3 = none := by
      cases e : H L3 with
      | none => rfl
      | some o =>
        have z := ((w1'.trans w2).trans (w3.trans w4)) L3 o (bH2 L3 o e n3)
        rw [hL3] at z
        cases z
    have bH3 : But s H (upd (upd G14 t10 (.tup [.int d1, .int d2, .int r.2.2])) L3 (.lst ([V.ref t1, .ref t2, .ref t3, .ref t4, .ref t5] ++ [.ref t6, .ref t7, .ref t8, .ref t9] ++ [.ref t10]))) := fun b o e nb => by
      rw [upd_ne (ne_of_none e L3H)]
      exact w7 b o (b14 b o (b13 b o (w6 b o (bH2 b o e nb)) nb) nb)
    have stay : ∀ {t : Addr} {r' : Fact}, TupAt (upd G14 t10 (.tup [.int d1, .int d2, .int r.2.2])) t r' → TupAt (upd (upd G14 t10 (.tup [.int d1, .int d2, .int r.2.2])) L3 (.lst ([V.ref t1, .ref t2, .ref t3, .ref t4, .ref t5] ++ [.ref t6, .ref t7, .ref t8, .ref t9] ++ [.ref t10]))) t r' := fun {t r'} a => by
      unfold TupAt at a ⊢
      rw [upd_ne (ne_of a (w7 _ _ g14) (fun z => nomatch z))]
      exact a
    have all10 : AllT (upd (upd G14 t10 (.tup [.int d1, .int d2, .int r.2.2])) L3 (.lst ([V.ref t1, .ref t2, .ref t3, .ref t4, .ref t5] ++ [.ref t6, .ref t7, .ref t8, .ref t9] ++ [.ref t10]))) ([V.ref t1, .ref t2, .ref t3, .ref t4, .ref t5] ++ [.ref t6, .ref t7, .ref t8, .ref t9] ++ [.ref t10]) :=
      AllT.append (fun v hv => let ⟨t, r', e, a⟩ := all9' v hv; ⟨t, r', e, stay a⟩) (.cons (r := (d1, d2, r.2.2)) (stay upd_same) .nil)
    have sgE := (sg14.same w7).upd (o := .lst ([V.ref t1, .ref t2, .ref t3, .ref t4, .ref t5] ++ [.ref t6, .ref t7, .ref t8, .ref t9] ++ [.ref t10])) n3
    have gqE := bH3 _ _ hq nqs
    have gxE := hx.but hs bH3
    -- return (many, facts[:at] + [pick(source, some)] + facts[at + 1:])
    refine ⟨_, rfl, _, rfl, _, rfl, _, rfl, q, xs, rfl, SqL.of gqE, fun p1 h1 => ?_⟩
    rw [cut_to (Nat.le_of_lt jl)]
    have y1 := Same.new (o := .lst (xs.take j)) h1
    refine ⟨_, rfl, _, rfl, s, L3, _, rfl, sgE.same y1, n3, SqL.of (y1 _ _ upd_same), (by show 0 < 10; decide), (by show 10 < 1000000; decide), fun v G17 hv sg17 b17 => ⟨(by show 1 ≤ sizeLine; decide), fun p2 h2 => ?_⟩⟩
    have n1 : p1 ≠ s := sgE.new h1
    obtain ⟨tv, rv, rfl, av⟩ := (all10.same y1) v hv
    have av17 := TupAt.but av (sgE.same y1) b17
    have bH4 : But s H G17 := fun b o e nb => b17 b o (y1 b o (bH3 b o e nb)) nb
    have gq17 := bH4 _ _ hq nqs
    have gx17 := hx.but hs bH4
    have g17 := b17 _ _ (upd_same (H := upd (upd G14 t10 (.tup [.int d1, .int d2, .int r.2.2])) L3 (.lst ([V.ref t1, .ref t2, .ref t3, .ref t4, .ref t5] ++ [.ref t6, .ref t7, .ref t8, .ref t9] ++ [.ref t10]))) (a := p1)) n1
    have y2 := Same.new (o := .lst [.ref tv]) h2
    refine ⟨p1, p2, _, _, rfl, rfl, SqL.of (y2 _ _ g17), SqL.of upd_same, by rw [List.length_take, PySem.sizeLine_eq]; show _ + 1 ≤ _; omega, fun p3 h3 => ?_⟩
    have y3 := y2.trans (Same.new (o := .lst (xs.take j ++ [V.ref tv])) h3)
    refine ⟨_, rfl, _, rfl, _, _, rfl, rfl, _, rfl, q, xs, rfl, SqL.of (y3 _ _ gq17), fun p4 h4 => ?_⟩
    rw [ej, cut_from jl]
    have y4 := y3.trans (Same.new (o := .lst (xs.drop (j + 1))) h4)
    refine ⟨p3, p4, _, _, rfl, rfl, SqL.of (Same.new h4 _ _ upd_same), SqL.of upd_same, by rw [List.length_append, List.length_take, List.length_drop, PySem.sizeLine_eq]; show _ + 1 + _ ≤ _; omega, fun p5 h5 => ?_⟩
    have y5 := y4.trans (Same.new (o := .lst (xs.take j ++ [V.ref tv] ++ xs.drop (j + 1))) h5)
    exact back (sg17.same y5) (fun b o e nb => y5 b o (bH4 b o e nb)) upd_same ((((gx17.sub (subT j)).append (.cons av17 .nil)).append (gx17.sub (subD (j + 1)))).same y5) (by rw [List.length_append, List.length_append, List.length_take, List.length_drop]; show _ + 1 + _ ≤ _; omega)
end
end OT

set_option Elab.async false
set_option linter.all false
set_option maxRecDepth 100000
set_option maxHeartbeats 2000000
namespace OT
open PySem L2 OTR
abbrev sLaw : Stmt := top 27
def spLaw (K : PySem.W.Frag) : Sp := fun vs H Q _ => ∃ (a : Addr) (ns : List Int), vs = [.ref a] ∧ SqL K H a (ns.map V.int) ∧ ns.length ≤ 63 ∧ ∀ H', Q (.bl true) H'
def dataOf : Option Err → PyData
  | none => .none
  | some e => .tuple [.str (errS e), .int (errI e)]
theorem errS_ok : ∀ e : Err, PyData.strOk (errS e) = true
  | .crossings _ => (by decide +kernel : PyData.strOk ("crossings" : Str) = true)
  | .roads _ => (by decide +kernel : PyData.strOk ("roads" : Str) = true)
  | .crossing _ => (by decide +kernel : PyData.strOk ("crossing" : Str) = true)
  | .length _ => (by decide +kernel : PyData.strOk ("length" : Str) = true)
  | .ring _ => (by decide +kernel : PyData.strOk ("ring" : Str) = true)
theorem data_shaped (o : Option Err) : SeqAt.shaped (dataOf o) = true := by
  cases o with
  | none => rfl
  | some e =>
    have z := errS_ok e
    unfold SeqAt.shaped dataOf
    simp [PyData.canLay0, PyData.canLayAll0, PyData.depth, PyData.depthAll, z]
theorem data_eqv (o : Option Err) : PyData.eqv (dataOf o) (dataOf o) = true := SeqAt.eqv_refl _ (SeqAt.canLay_of_shaped (data_shaped o))
theorem told_data {K : PySem.W.Frag} {H : Hp} {o : Option Err} {v : V} (h : Told H o v) : Dp K H v (dataOf o) := by
  cases o with
  | none =>
    cases (show v = .non from h)
    exact .non
  | some e =>
    obtain ⟨p, rfl, hp⟩ := (show ∃ p, v = .ref p ∧ H p = some (.tup [.str (errS e), .int (errI e)]) from h)
    exact .tup (SqT.of hp) (.cons (.str _) (.cons (.int _) .nil))
theorem Told.same {H H' : Hp} {o : Option Err} {v : V} (h : Told H o v) (s : Same H H') : Told H' o v := by
  cases o with
  | none => exact h
  | some e =>
    obtain ⟨p, rfl, hp⟩ := (show ∃ p, v = .ref p ∧ H p = some (.tup [.str (errS e), .int (errI e)]) from h)
    exact ⟨p, rfl, s _ _ hp⟩
theorem same_but {s : Addr} {H G G' : Hp} (h : Same H G) (b : But s G G') (hs : H s = none) : Same H G' := fun c o e => b c o (h c o e) (ne_of_none e hs)
theorem FactsAt.same {H H' : Hp} {q : Addr} {fs : List Fact} (h : FactsAt H q fs) (s : Same H H') : FactsAt H' q fs := let ⟨ts, e, p⟩ := h; ⟨ts, s _ _ e, tups_same p s⟩
theorem refs_flat (ps : List Addr) : ∀ v ∈ ps.map V.ref, flatB v = true ∨ ∃ p, v = V.ref p := fun v hv => by
  obtain ⟨p, _, rfl⟩ := List.mem_map.mp hv
  exact .inr ⟨p, rfl⟩
section
variable {P : Program} {w : World} {K : PySem.W.Frag} {mg : Str → Option Value} {base : Heap}
abbrev nLaw : List Str := ["_law_script", "_law_cell", "_law_source_here", "_law_turn", "_law_many", "_law_facts", "_law_k", "_law_roads_so", "_law_kept", "_law_one", "_law_other", "_law_size"]
theorem scLaw : FnScope nLaw ["_law_script"] (defScope sLaw) := ⟨rfl, rfl, rfl, by decide +kernel, rfl, by decide +kernel, by decide +kernel⟩
abbrev tgLaw (K : PySem.W.Frag) : TG := gTup K 3 (gCons (gName 9) (gCons (gName 10) (gCons (gName 11) gNil)))
theorem ok_law {f fSo fD fT fSp fSa fDu fR CR : Addr} {fd fdSo fdD fdT fdSp fdSa fdDu fdR : FuncData} (F : Fun K "law" "law" sLaw f fd) (TR : RdT K mg CR) (MR : Mk K CR fR)
    (FR : FnOk P w K mg base CX0 1 fR fdR ["self", "a", "b", "length"] (spRoadI CR)) (bR : Binds K fdR ["self", "a", "b", "length"] [])
    (FSo : FnOk P w K mg base CX0 1 fSo fdSo ["_law_cell"] spSource) (bSo : Binds K fdSo ["_law_cell"] []) (mSo : mg "_law_source" = some (.ref fSo)) (kSo : PySem.W.keepIn K (.ref fSo) = true)
    (FD : FnOk P w K mg base CX0 1 fD fdD ["_law_source_here", "_law_many"] spDraw) (bD : Binds K fdD ["_law_source_here", "_law_many"] []) (mD : mg "_law_draw" = some (.ref fD)) (kD : PySem.W.keepIn K (.ref fD) = true)
    (FT : FnOk P w K mg base CX0 3 fT fdT ["_law_source_here", "_law_most", "_law_long"] spTreeD) (bT : Binds K fdT ["_law_source_here", "_law_most", "_law_long"] []) (mT : mg "_law_tree" = some (.ref fT)) (kT : PySem.W.keepIn K (.ref fT) = true)
    (FSp : FnOk P w K mg base CX0 3 fSp fdSp ["_law_source_here", "_law_many", "_law_facts"] spSpoilt) (bSp : Binds K fdSp ["_law_source_here", "_law_many", "_law_facts"] []) (mSp : mg "_law_spoilt" = some (.ref fSp)) (kSp : PySem.W.keepIn K (.ref fSp) = true)
    (FSa : FnOk P w K mg base CX0 7 fSa fdSa ["_law_many", "_law_roads_so"] (spSaid K CR)) (bSa : Binds K fdSa ["_law_many", "_law_roads_so"] []) (mSa : mg "_law_said" = some (.ref fSa)) (kSa : PySem.W.keepIn K (.ref fSa) = true)
    (FDu : FnOk P w K mg base CX0 2 fDu fdDu ["_law_many", "_law_facts"] spDue) (bDu : Binds K fdDu ["_law_many", "_law_facts"] []) (mDu : mg "_law_due" = some (.ref fDu)) (kDu : PySem.W.keepIn K (.ref fDu) = true)
    (hRg : mg "range" = none) (hList : mg "list" = none) (hTup : mg "tuple" = none) : FnOk P w K mg base CX0 8 f fd ["_law_script"] (spLaw K) := by
  refine F.ok scLaw (fun vs H Q E h => ?_) (fun cdv A outer s H vs Q E hr h => ?_)
  · obtain ⟨a, ns, rfl, _⟩ := h
    rfl
  · obtain ⟨a, ns, rfl, hS, hlen, k⟩ := h
    have hr1 : Room 1 _ := hr.mono (by decide)
    have hr2 : Room 2 _ := hr.mono (by decide)
    have hr3 : Room 3 _ := hr.mono (by decide)
    have ul : (A.deeper (PyProof.Rows.envOfC "law" (defScope sLaw) _ f cdv)).units < cLine := Nat.lt_of_succ_lt (hu_of hr)
    have u64 := hr.units
    refine ⟨_, pss_cons (ps_for PassesOwn.never rfl (pi_list (pe_slice sl_list (pe_op op_catS (pv 0) (pe_lst (pa_cons pe_int pa_nil))) po_none (po_some pe_int))) (pg_name (i := 1) scLaw.nd rfl (Or.inl rfl))
        (pss_cons (ps_set (i := 2) scLaw.nd rfl (Or.inl rfl) (pe_call FSo hr1 rfl mSo kSo bSo .nil pass0 (pa_cons (pv 1) pa_nil)))
        (pss_one (ps_for PassesOwn.never rfl (pi_range1 (by rfl) hRg (pa_cons pe_int pa_nil)) (pg_name (i := 3) scLaw.nd rfl (Or.inl rfl))
          (pss_cons (ps_asg (pe_call FT hr3 rfl mT kT bT .nil pass0 (pa_cons (pv 2) (pa_cons pe_int (pa_cons pe_int pa_nil)))) (pg_tup rfl (pgs_cons (pg_name (i := 4) scLaw.nd rfl (Or.inl rfl)) (pgs_cons (pg_name (i := 5) scLaw.nd rfl (Or.inl rfl)) pgs_nil))))
          (pss_cons (ps_for PassesOwn.never rfl (pi_range1 (by rfl) hRg (pa_cons (pe_call FD hr1 rfl mD kD bD .nil pass0 (pa_cons (pv 2) (pa_cons pe_int pa_nil))) pa_nil)) (pg_name (i := 6) scLaw.nd rfl (Or.inl rfl))
              (pss_one (ps_asg (pe_call FSp hr3 rfl mSp kSp bSp .nil pass0 (pa_cons (pv 2) (pa_cons (pv 4) (pa_cons (pv 5) pa_nil)))) (pg_tup rfl (pgs_cons (pg_name (i := 4) scLaw.nd rfl (Or.inl rfl)) (pgs_cons (pg_name (i := 5) scLaw.nd rfl (Or.inl rfl)) pgs_nil))))))
          (pss_cons (ps_setLc (i := 7) (own := [("_law_one", 9), ("_law_other", 10), ("_law_size", 11)]) (g := tgLaw K) (tt := tYes) rfl scLaw.nd rfl rfl (sw_true rfl rfl rfl (by decide +kernel)) (pi_list (pv 5))
              (blkOk_by (own := [("_law_one", 9), ("_law_other", 10), ("_law_size", 11)]) (N := nLaw) (sc := defScope sLaw) (by decide +kernel))
              (fun _ _ _ _ _ => pg_tup rfl (pgs_cons (pg_name (i := 9) scLaw.nd rfl (Or.inl rfl)) (pgs_cons (pg_name (i := 10) scLaw.nd rfl (Or.inl rfl)) (pgs_cons (pg_name (i := 11) scLaw.nd rfl (Or.inl rfl)) pgs_nil)))) (fun _ _ _ _ _ => pts_nil)
              (fun _ _ _ _ _ => pe_make MR FR hr2 (by rfl) TR.mgC bR .nil pass0 (pa_cons (pv 9) (pa_cons (pv 10) (pa_cons (pv 11) pa_nil)))))
          (pss_cons (ps_set (i := 8) scLaw.nd rfl (Or.inl rfl) (pe_callTy call_list_of (by rfl) hList (by decide +kernel) (pa_cons (pv 7) pa_nil)))
          (pss_cons (ps_if (PW.pt (pw_or (pt_cmpR (op_neD u64) (pe_call FSa hr rfl mSa kSa bSa .nil pass0 (pa_cons (pv 4) (pa_cons (pv 7) pa_nil))) (pe_call FDu hr2 rfl mDu kDu bDu .nil pass0 (pa_cons (pv 4) (pa_cons (pv 5) pa_nil))) (nomark _))
                (pw_or1 (pt_cmpR (op_neSame ul) (pv 7) (pv 8) (nomark _))))) (pss_one (ps_ret pe_bl)) pss_nil)
          (pss_one (ps_if (pt_cmpR (op_neD u64) (pe_call FSa hr rfl mSa kSa bSa .nil pass0 (pa_cons (pv 4) (pa_cons (pe_callTy call_tuple_of (by rfl) hTup (by decide +kernel) (pa_cons (pv 7) pa_nil)) pa_nil))) (pe_call FDu hr2 rfl mDu kDu bDu .nil pass0 (pa_cons (pv 4) (pa_cons (pv 5) pa_nil))) (nomark _))
                (pss_one (ps_ret pe_bl)) pss_nil)))))))))))
      (pss_one (ps_ret pe_bl)), ?_⟩
    have two : ∀ {v : V}, [v].length ≤ sizeLine := fun {v} => (by show 1 ≤ sizeLine; decide)
    have flat0 : ∀ {v : V}, v ∈ (ns.map V.int ++ [V.int 0]) → ∃ z : Int, v = V.int z := fun {v} hv => by
      rcases List.mem_append.mp hv with hv | hv
      · obtain ⟨z, _, rfl⟩ := List.mem_map.mp hv
        exact ⟨z, rfl⟩
      · exact ⟨0, List.mem_singleton.mp hv⟩
    -- (script + [0])[:8]
    refine ⟨_, rfl, two, fun p0 h0 => ⟨a, p0, _, _, rfl, rfl, (Same.new h0).seq hS, SqL.of upd_same, by rw [List.length_map, PySem.sizeLine_eq]; show _ + 1 ≤ _; omega, fun p1 h1 => ?_⟩⟩
    refine ⟨_, rfl, p1, _, rfl, SqL.of upd_same, fun p2 h2 => ?_⟩
    have s2 : Same H _ := ((Same.new (o := .lst [.int 0]) h0).trans (Same.new (o := .lst (ns.map V.int ++ [.int 0])) h1)).trans (Same.new (o := .lst (cutV (ns.map V.int ++ [V.int 0]) none (some 8))) h2)
    have g2 : upd (upd (upd H p0 (.lst [.int 0])) p1 (.lst (ns.map V.int ++ [.int 0]))) p2 (.lst (cutV (ns.map V.int ++ [V.int 0]) none (some 8))) p2 = some (.lst (cutV (ns.map V.int ++ [V.int 0]) none (some 8))) := upd_same
    have cm : ∀ v ∈ cutV (ns.map V.int ++ [V.int 0]) none (some 8), v ∈ ns.map V.int ++ [V.int 0] := fun v hv => List.mem_of_mem_drop (List.mem_of_mem_take hv)
    generalize cutV (ns.map V.int ++ [V.int 0]) none (some 8) = cs at g2 cm s2 ⊢
    generalize upd (upd (upd H p0 (.lst [.int 0])) p1 (.lst (ns.map V.int ++ [.int 0]))) p2 (.lst cs) = H1 at g2 s2 ⊢
    refine ⟨p2, rfl, ⟨_, SqL.of g2⟩, for_list (K := K) (a := p2) (xs := cs) (fun i σ G => ∃ v1 v2 v3 v4 v5 v6 v7 v8 : Option V, σ = [some (.ref a), v1, v2, v3, v4, v5, v6, v7, v8, none, none, none] ∧ Same H1 G)
      ⟨none, none, none, none, none, none, none, none, rfl, Same.refl H1⟩ (fun i σ G _ ⟨_, _, _, _, _, _, _, _, _, sg⟩ => SqL.of (sg _ _ g2)) ?_ ?_⟩
    · rintro i y σ G hi ⟨v1, v2, v3, v4, v5, v6, v7, v8, rfl, sg⟩
      obtain ⟨z, rfl⟩ := flat0 (cm _ (List.mem_of_getElem? hi))
      -- source = source_of(cell)
      refine ⟨_, rfl, z, rfl, fun s G1 hsn src1 sg1 => ?_⟩
      have hs1 : H1 s = none := sg.free hsn
      have sH1 : Same H1 G1 := sg.trans sg1
      -- for turn in range(5)
      refine ⟨5, rfl, by decide, by decide, for_range (lo := 0) (n := 5) (fun j σ G => ∃ v3 v4 v5 v6 v7 v8 : Option V, σ = [some (.ref a), some (.int z), some (.ref s), v3, v4, v5, v6, v7, v8, none, none, none] ∧ Src G s ∧ Same H1 G)
        ⟨v3, v4, v5, v6, v7, v8, rfl, src1, sH1⟩ ?_ ?_⟩
      · rintro j σ G hj ⟨v3, v4, v5, v6, v7, v8, rfl, src, sH⟩
        -- many, facts = tree(source, 9, 9)
        refine ⟨_, rfl, s, 9, 9, rfl, src, by decide, by decide, by decide, by decide, fun p q n fs G2 hp hq hf dr src2 b2 => ?_⟩
        refine ⟨p, _, rfl, SqT.of hp, rfl, _, _, rfl, _, _, rfl, rfl, ?_⟩
        have sH2 := same_but sH b2 hs1
        have fl : fs.length ≤ 8 := by
          have := dr.len
          have := dr.hi
          omega
        -- for k in range(draw(source, 4))
        refine ⟨_, rfl, s, 4, rfl, src2, by decide, by decide, fun c G3 c0 c1 src3 b3 => ⟨c, rfl, by omega, by omega, ?_⟩⟩
        have sH3 := same_but sH2 b3 hs1
        have fle3 : FactsLe G3 q 8 := by
          obtain ⟨xs, e1, e2, e3⟩ := facts_le hf
          exact ⟨xs, b3 _ _ e1 (src_list src2 e1 e2), e2.but src2 b3, by omega⟩
        refine for_range (lo := 0) (n := c.toNat) (fun k σ G => ∃ (n : Int) (q : Addr) (v6 v7 v8 : Option V), σ = [some (.ref a), some (.int z), some (.ref s), some (.int (0 + (j : Nat))), some (.int n), some (.ref q), v6, v7, v8, none, none, none] ∧ Src G s ∧ Same H1 G ∧ FactsLe G q (8 + k))
          ⟨n, q, v6, v7, v8, rfl, src3, sH3, fle3⟩ ?_ ?_
        · rintro k' σ G hk ⟨n, q, v6, v7, v8, rfl, src, sH, fle⟩
          refine ⟨_, rfl, _, rfl, _, rfl, s, q, n, 8 + k', rfl, src, fle, by omega, fun p q' n' G' hp fle' src' b' => ?_⟩
          refine ⟨p, _, rfl, SqT.of hp, rfl, _, _, rfl, _, _, rfl, rfl, ?_⟩
          exact ⟨n', q', _, _, _, rfl, src', same_but sH b' hs1, by rw [Nat.add_assoc] at fle'; exact fle'⟩
        · rintro σ G ⟨n, q, v6, v7, v8, rfl, src, sH, fle⟩
          obtain ⟨fs, ⟨ts, gq, gts⟩, fl⟩ := fle.facts
          have fl12 : fs.length ≤ 100 := by omega
          have etf : (ts.map V.ref).length = fs.length := by rw [List.length_map]; exact Paired.length gts
          -- roads = [Road(..) ..]
          refine ⟨_, rfl, q, rfl, ⟨_, SqL.of gq⟩, fun D hD => lc_list (K := K) (a := q) (xs := ts.map V.ref) (fun i Gc => ∃ ps : List Addr, Gc D = some (.lst (ps.map V.ref)) ∧ Same G Gc ∧ RoadsAt CR Gc ps (fs.take i) ∧ ps.length = i)
            ⟨[], upd_same, Same.new hD, .nil, rfl⟩ (fun i Gc _ ⟨_, _, sc, _⟩ => SqL.of (sc _ _ gq)) ?_ ?_⟩
          · rintro i y Gc hi ⟨ps, hps, sc, rd, pl⟩
            obtain ⟨t, ht, rfl⟩ := map_get hi
            obtain ⟨r, hr', tr⟩ := paired_get gts ht
            have ih : i < fs.length := (List.getElem?_eq_some_iff.mp hr').1
            refine ⟨t, _, rfl, SqT.of (sc _ _ tr), rfl, _, _, rfl, _, _, rfl, _, _, rfl, rfl, rfl, ?_⟩
            unfold tYes
            refine iteT ?_
            refine ⟨_, rfl, _, rfl, _, rfl, fun x dx nx ndx nex => ⟨x, dx, r, rfl, upd_same, fun G' rx keep => ⟨rfl, ps.map V.ref, ?_, small1000 (by rw [List.length_map]; omega), ps ++ [x], by rw [List.map_append]; exact upd_same, fun b o e => ?_, ?_, by rw [List.length_append, pl]; rfl⟩⟩⟩
            · exact keep D _ (by rw [upd_ne (ne_of_none hps nx), upd_ne (ne_of_none hps ndx)]; exact hps) (ne_of_none hps nx)
            · rw [upd_ne (ne_of_none e hD)]
              exact keep b o (by rw [upd_ne (ne_of_none (sc b o e) nx), upd_ne (ne_of_none (sc b o e) ndx)]; exact sc b o e) (ne_of_none (sc b o e) nx)
            · have gD : G' D = some (.lst (ps.map V.ref)) := keep D _ (by rw [upd_ne (ne_of_none hps nx), upd_ne (ne_of_none hps ndx)]; exact hps) (ne_of_none hps nx)
              have stay : ∀ {p : Addr} {r' : Fact}, RoadAt CR G' p r' → RoadAt CR (upd G' D (.lst (ps.map V.ref ++ [V.ref x]))) p r' := fun {p r'} h => by
                obtain ⟨e, h⟩ := h
                refine ⟨e, ?_⟩
                rw [upd_ne (ne_of h gD (fun z => nomatch z))]
                exact h
              have old : RoadsAt CR (upd G' D (.lst (ps.map V.ref ++ [V.ref x]))) ps (fs.take i) := by
                refine Paired.mapP rd fun p r' h => stay ?_
                obtain ⟨e, h⟩ := h
                exact ⟨e, keep p _ (by rw [upd_ne (ne_of_none h nx), upd_ne (ne_of_none h ndx)]; exact h) (ne_of_none h nx)⟩
              rw [take_get hr']
              exact paired_snoc old (stay rx)
          · rintro G4 ⟨ps, hps, sc, rd, pl⟩
            rw [etf] at pl rd
            rw [List.take_length] at rd
            have sH4 : Same H1 G4 := sH.trans sc
            -- kept = list(roads)
            refine ⟨_, rfl, D, _, rfl, .inl (SqL.of hps), fun D2 hD2 => ?_⟩
            have s5 : Same G4 (upd G4 D2 (.lst (ps.map V.ref))) := Same.new hD2
            have fa5 : FactsAt (upd G4 D2 (.lst (ps.map V.ref))) q fs := FactsAt.same ⟨ts, gq, gts⟩ (sc.trans s5)
            -- said(many, roads) != due(many, facts) or roads != kept
            refine ⟨_, rfl, _, rfl, n, D, ps, fs, rfl, .inl (SqL.of (s5 _ _ hps)), rd.same s5, by omega, fun w1 G6 s6 t6 => ?_⟩
            refine ⟨_, rfl, _, rfl, n, q, fs, rfl, fa5.same s6, by omega, fun w2 G7 s7 t7 => ?_⟩
            refine ⟨dataOf (due n fs), dataOf (due n fs), told_data (t6.same s7), told_data t7, data_shaped _, data_shaped _, _, rfl, ?_⟩
            rw [data_eqv]
            refine iteF ?_
            have s57 : Same (upd G4 D2 (.lst (ps.map V.ref))) G7 := s6.trans s7
            refine ⟨_, rfl, _, rfl, D, D2, ps.map V.ref, rfl, rfl, SqL.of (s57 _ _ (s5 _ _ hps)), SqL.of (s57 _ _ upd_same), refs_flat ps, _, rfl, ?_⟩
            refine iteF ?_
            -- said(many, tuple(roads)) != due(many, facts)
            refine ⟨_, rfl, _, rfl, D, _, rfl, .inl ⟨SqL.of (s57 _ _ (s5 _ _ hps)), fun pt hpt => ?_⟩⟩
            have s8 : Same G7 (upd G7 pt (.tup (ps.map V.ref))) := Same.new hpt
            refine ⟨n, pt, ps, fs, rfl, .inr (SqT.of upd_same), (rd.same s5).same (s57.trans s8), by omega, fun w3 G9 s9 t9 => ?_⟩
            refine ⟨_, rfl, _, rfl, n, q, fs, rfl, fa5.same ((s57.trans s8).trans s9), by omega, fun w4 G10 s10 t10 => ?_⟩
            refine ⟨dataOf (due n fs), dataOf (due n fs), told_data (t9.same s10), told_data t10, data_shaped _, data_shaped _, _, rfl, ?_⟩
            rw [data_eqv]
            have sE : Same G G10 := ((((sc.trans s5).trans s57).trans s8).trans s9).trans s10
            exact iteF ⟨_, _, _, _, _, _, rfl, src.same sE, sH.trans sE⟩
      · rintro σ G ⟨v3, v4, v5, v6, v7, v8, rfl, src, sH⟩
        exact ⟨_, _, _, _, _, _, _, _, rfl, sH⟩
    · rintro σ G ⟨v1, v2, v3, v4, v5, v6, v7, v8, rfl, sg⟩
      exact k G
end
end OT

set_option Elab.async false
set_option linter.all false
set_option maxRecDepth 100000
set_option maxHeartbeats 2000000
namespace OT
open PySem L2 OTR
theorem all_mk {P : Program} {w : World} {K : PySem.W.Frag} {h : Heap} {mg : Str → Option Value} {fa CR CT CB CN CG CNR COR CTE : Addr} (X : K.In h) (G : h.Ns mainGlobals mg) (hfa : mg "law" = some (.ref fa))
    {fS fD fP fU fE fJ fQ fZ fO fL fC fA fI fR fT fB fN fG : Addr} {odS anS odD anD odP anP odU anU odE anE odJ anJ odQ anQ odZ anZ odO anO odL anL odC anC odA anA odI anI odR anR odT anT odB anB odN anN odG anG : Option Addr} {slS slD slP slU slE slJ slQ slZ slO slL slC slA slI slR slT slB slN slG : Array (Option Value)}
    {ocS kVS dcS pmS cdS ctS ocD kVD dcD pmD cdD ctD ocP kVP dcP pmP cdP ctP ocU kVU dcU pmU cdU ctU ocE kVE dcE pmE cdE ctE ocJ kVJ dcJ pmJ cdJ ctJ ocQ kVQ dcQ pmQ cdQ ctQ ocZ kVZ dcZ pmZ cdZ ctZ ocO kVO dcO pmO cdO ctO ocL kVL dcL pmL cdL ctL ocC kVC dcC pmC cdC ctC ocA kVA dcA pmA cdA ctA ocI kVI dcI pmI cdI ctI ocR kVR dcR pmR cdR ctR ocT kVT dcT pmT cdT ctT ocB kVB dcB pmB cdB ctB ocN kVN dcN pmN cdN ctN ocG kVG dcG pmG cdG ctG : Value}
    (aS : PySem.W.nsIn K mainGlobals "_law_source" = some (some (.ref fS))) (lS : K.lookup fS = some ⟨ocS, odS, .func (PySem.W.fnOf "_law_source" "_law_source" (defArgs sSource) (defBody sSource) (defScope sSource) .none kVS dcS pmS anS cdS ctS), slS⟩) (cS : PySem.W.codeIn K cdS "_law_source" = true) (kS : PySem.W.keepIn K (.ref fS) = true)
    (aD : PySem.W.nsIn K mainGlobals "_law_draw" = some (some (.ref fD))) (lD : K.lookup fD = some ⟨ocD, odD, .func (PySem.W.fnOf "_law_draw" "_law_draw" (defArgs sDraw) (defBody sDraw) (defScope sDraw) .none kVD dcD pmD anD cdD ctD), slD⟩) (cD : PySem.W.codeIn K cdD "_law_draw" = true) (kD : PySem.W.keepIn K (.ref fD) = true)
    (aP : PySem.W.nsIn K mainGlobals "_law_pick" = some (some (.ref fP))) (lP : K.lookup fP = some ⟨ocP, odP, .func (PySem.W.fnOf "_law_pick" "_law_pick" (defArgs sPick) (defBody sPick) (defScope sPick) .none kVP dcP pmP anP cdP ctP), slP⟩) (cP : PySem.W.codeIn K cdP "_law_pick" = true) (kP : PySem.W.keepIn K (.ref fP) = true)
    (aU : PySem.W.nsIn K mainGlobals "_law_shuffled" = some (some (.ref fU))) (lU : K.lookup fU = some ⟨ocU, odU, .func (PySem.W.fnOf "_law_shuffled" "_law_shuffled" (defArgs sShuf) (defBody sShuf) (defScope sShuf) .none kVU dcU pmU anU cdU ctU), slU⟩) (cU : PySem.W.codeIn K cdU "_law_shuffled" = true) (kU : PySem.W.keepIn K (.ref fU) = true)
    (aE : PySem.W.nsIn K mainGlobals "_law_tree" = some (some (.ref fE))) (lE : K.lookup fE = some ⟨ocE, odE, .func (PySem.W.fnOf "_law_tree" "_law_tree" (defArgs sTreeD) (defBody sTreeD) (defScope sTreeD) .none kVE dcE pmE anE cdE ctE), slE⟩) (cE : PySem.W.codeIn K cdE "_law_tree" = true) (kE : PySem.W.keepIn K (.ref fE) = true)
    (aJ : PySem.W.nsIn K mainGlobals "_law_joined" = some (some (.ref fJ))) (lJ : K.lookup fJ = some ⟨ocJ, odJ, .func (PySem.W.fnOf "_law_joined" "_law_joined" (defArgs sJoined) (defBody sJoined) (defScope sJoined) .none kVJ dcJ pmJ anJ cdJ ctJ), slJ⟩) (cJ : PySem.W.codeIn K cdJ "_law_joined" = true) (kJ : PySem.W.keepIn K (.ref fJ) = true)
    (aQ : PySem.W.nsIn K mainGlobals "_law_due" = some (some (.ref fQ))) (lQ : K.lookup fQ = some ⟨ocQ, odQ, .func (PySem.W.fnOf "_law_due" "_law_due" (defArgs sDue) (defBody sDue) (defScope sDue) .none kVQ dcQ pmQ anQ cdQ ctQ), slQ⟩) (cQ : PySem.W.codeIn K cdQ "_law_due" = true) (kQ : PySem.W.keepIn K (.ref fQ) = true)
    (aZ : PySem.W.nsIn K mainGlobals "_law_said" = some (some (.ref fZ))) (lZ : K.lookup fZ = some ⟨ocZ, odZ, .func (PySem.W.fnOf "_law_said" "_law_said" (defArgs sSaid) (defBody sSaid) (defScope sSaid) .none kVZ dcZ pmZ anZ cdZ ctZ), slZ⟩) (cZ : PySem.W.codeIn K cdZ "_law_said" = true) (kZ : PySem.W.keepIn K (.ref fZ) = true)
    (aO : PySem.W.nsIn K mainGlobals "_law_spoilt" = some (some (.ref fO))) (lO : K.lookup fO = some ⟨ocO, odO, .func (PySem.W.fnOf "_law_spoilt" "_law_spoilt" (defArgs sSpoilt) (defBody sSpoilt) (defScope sSpoilt) .none kVO dcO pmO anO cdO ctO), slO⟩) (cO : PySem.W.codeIn K cdO "_law_spoilt" = true) (kO : PySem.W.keepIn K (.ref fO) = true)
    (aL : PySem.W.nsIn K mainGlobals "law" = some (some (.ref fL))) (lL : K.lookup fL = some ⟨ocL, odL, .func (PySem.W.fnOf "law" "law" (defArgs sLaw) (defBody sLaw) (defScope sLaw) .none kVL dcL pmL anL cdL ctL), slL⟩) (cL : PySem.W.codeIn K cdL "law" = true) (kL : PySem.W.keepIn K (.ref fL) = true)
    (aC : PySem.W.nsIn K mainGlobals "check_road" = some (some (.ref fC))) (lC : K.lookup fC = some ⟨ocC, odC, .func (PySem.W.fnOf "check_road" "check_road" (defArgs sCheck) (defBody sCheck) (defScope sCheck) .none kVC dcC pmC anC cdC ctC), slC⟩) (cC : PySem.W.codeIn K cdC "check_road" = true) (kC : PySem.W.keepIn K (.ref fC) = true)
    (aA : PySem.W.nsIn K mainGlobals "trails_along" = some (some (.ref fA))) (lA : K.lookup fA = some ⟨ocA, odA, .func (PySem.W.fnOf "trails_along" "trails_along" (defArgs sTrails) (defBody sTrails) (defScope sTrails) .none kVA dcA pmA anA cdA ctA), slA⟩) (cA : PySem.W.codeIn K cdA "trails_along" = true) (kA : PySem.W.keepIn K (.ref fA) = true)
    (aI : PySem.W.nsIn K mainGlobals "join_trails" = some (some (.ref fI))) (lI : K.lookup fI = some ⟨ocI, odI, .func (PySem.W.fnOf "join_trails" "join_trails" (defArgs sJoin) (defBody sJoin) (defScope sJoin) .none kVI dcI pmI anI cdI ctI), slI⟩) (cI : PySem.W.codeIn K cdI "join_trails" = true) (kI : PySem.W.keepIn K (.ref fI) = true)
    (mCR : PySem.W.nsIn K mainGlobals "Road" = some (some (.ref CR)))
    (mCT : PySem.W.nsIn K mainGlobals "Tree" = some (some (.ref CT)))
    (mCB : PySem.W.nsIn K mainGlobals "BadCount" = some (some (.ref CB)))
    (mCN : PySem.W.nsIn K mainGlobals "NoCrossing" = some (some (.ref CN)))
    (mCG : PySem.W.nsIn K mainGlobals "RingRoad" = some (some (.ref CG)))
    (mCNR : PySem.W.nsIn K mainGlobals "NoRoad" = some (some (.ref CNR)))
    (mCOR : PySem.W.nsIn K mainGlobals "OffRoad" = some (some (.ref COR)))
    (mCTE : PySem.W.nsIn K mainGlobals "TrainError" = some (some (.ref CTE)))
    (aR : PySem.W.findIn K (.ref CR) "__init__" = some (some (.ref fR))) (lR : K.lookup fR = some ⟨ocR, odR, .func (PySem.W.fnOf "__init__" "Road.__init__" (defArgs sRoadI) (defBody sRoadI) (defScope sRoadI) .none kVR dcR pmR anR cdR ctR), slR⟩) (cR : PySem.W.codeIn K cdR "Road.__init__" = true) (kR : PySem.W.keepIn K (.ref fR) = true)
    (aT : PySem.W.findIn K (.ref CT) "__init__" = some (some (.ref fT))) (lT : K.lookup fT = some ⟨ocT, odT, .func (PySem.W.fnOf "__init__" "Tree.__init__" (defArgs sTreeI) (defBody sTreeI) (defScope sTreeI) .none kVT dcT pmT anT cdT ctT), slT⟩) (cT : PySem.W.codeIn K cdT "Tree.__init__" = true) (kT : PySem.W.keepIn K (.ref fT) = true)
    (aB : PySem.W.findIn K (.ref CB) "__init__" = some (some (.ref fB))) (lB : K.lookup fB = some ⟨ocB, odB, .func (PySem.W.fnOf "__init__" "BadCount.__init__" (defArgs sBad) (defBody sBad) (defScope sBad) .none kVB dcB pmB anB cdB ctB), slB⟩) (cB : PySem.W.codeIn K cdB "BadCount.__init__" = true) (kB : PySem.W.keepIn K (.ref fB) = true)
    (aN : PySem.W.findIn K (.ref CN) "__init__" = some (some (.ref fN))) (lN : K.lookup fN = some ⟨ocN, odN, .func (PySem.W.fnOf "__init__" "NoCrossing.__init__" (defArgs sNoC) (defBody sNoC) (defScope sNoC) .none kVN dcN pmN anN cdN ctN), slN⟩) (cN : PySem.W.codeIn K cdN "NoCrossing.__init__" = true) (kN : PySem.W.keepIn K (.ref fN) = true)
    (aG : PySem.W.findIn K (.ref CG) "__init__" = some (some (.ref fG))) (lG : K.lookup fG = some ⟨ocG, odG, .func (PySem.W.fnOf "__init__" "RingRoad.__init__" (defArgs sRing) (defBody sRing) (defScope sRing) .none kVG dcG pmG anG cdG ctG), slG⟩) (cG : PySem.W.codeIn K cdG "RingRoad.__init__" = true) (kG : PySem.W.keepIn K (.ref fG) = true)
    (iR : PySem.W.isFn K (.ref fR) = true)
    (pgR : PySem.W.plainGet K CR Str.empty = true)
    (hdR : PySem.W.hasDictIn K CR = true)
    (poR : PySem.W.plainOver K CR = true)
    (saR : PySem.W.findIn K (.ref CR) "__setattr__" = some (some (.builtin "object.__setattr__")))
    (mkR : PySem.W.makesIn K CR = true)
    (kcR : PySem.W.keepIn K (.ref CR) = true)
    (iT : PySem.W.isFn K (.ref fT) = true)
    (pgT : PySem.W.plainGet K CT Str.empty = true)
    (hdT : PySem.W.hasDictIn K CT = true)
    (poT : PySem.W.plainOver K CT = true)
    (saT : PySem.W.findIn K (.ref CT) "__setattr__" = some (some (.builtin "object.__setattr__")))
    (mkT : PySem.W.makesIn K CT = true)
    (kcT : PySem.W.keepIn K (.ref CT) = true)
    (nR0 : PySem.W.findIn K (.ref CR) "a" = some none)
    (nR1 : PySem.W.findIn K (.ref CR) "b" = some none)
    (nR2 : PySem.W.findIn K (.ref CR) "length" = some none)
    (nT0 : PySem.W.findIn K (.ref CT) "crossings" = some none)
    (nT1 : PySem.W.findIn K (.ref CT) "roads" = some none)
    (nT2 : PySem.W.findIn K (.ref CT) "trails" = some none)
    (nB0 : PySem.W.findIn K (.ref CB) "what" = some none)
    (nB1 : PySem.W.findIn K (.ref CB) "count" = some none)
    (nN0 : PySem.W.findIn K (.ref CN) "crossing" = some none)
    (nG0 : PySem.W.findIn K (.ref CG) "road" = some none)
    {nmB qB nmN qN nmG qG : Str} {NB NN NG : Addr} {bsB bmB subB bsN bmN subN bsG bmG subG : List Value} {snB snN snG : List Str} {abB abN abG : Bool} {colB colN colG : Option Bool} {ddB ddN ddG : Option Addr} {m0B m1B m2B m3B m5B m0N m1N m2N m3N m5N m0G m1G m2G m3G m5G : Option Value}
    (xB : K.lookup CB = some (excClassObj nmB qB CB NB bsB bmB true snB subB abB colB ddB m0B m1B m2B m3B m5B "ValueError.__new__"))
    (rB : PySem.HandSPX.refsVE bmB = true)
    (saB : PySem.W.findIn K (.ref CB) "__setattr__" = some (some (.builtin "object.__setattr__")))
    (eB : PySem.W.subIn K (.ref CB) (.type "BaseException") = some true)
    (tB : PySem.W.typeIn K (.ref CB) = some (.type "type"))
    (kcB : PySem.W.keepIn K (.ref CB) = true)
    (gaB : PySem.W.findIn K (.ref CB) "__getattribute__" = some (some (.builtin "BaseException.__getattribute__")))
    (ggB : PySem.W.findIn K (.ref CB) "__getattr__" = some none)
    (hdB : PySem.W.hasDictIn K CB = true)
    (hcB : PySem.W.findIn K (.ref CB) "__class__" = some (some (.builtin "object.__class__")))
    (moB : PySem.W.mroIn K CB (.type "object") = some true)
    (tiB : PySem.W.typeIn K (.ref fB) = some (.type "function"))
    (yB1 : PySem.W.kitOne K (.ref CB) (.ref CB) = some true)
    (yB2 : PySem.W.kitOne K (.ref CB) (.ref CN) = some false)
    (yB3 : PySem.W.kitOne K (.ref CB) (.ref CG) = some false)
    (yB4 : PySem.W.kitAny K (.ref CB) [.ref CNR, .ref COR] = some false)
    (yB5 : PySem.W.kitOne K (.ref CB) (.type "ValueError") = some true)
    (sB : PySem.W.subIn K (.ref CB) (.ref CTE) = some true)
    (xN : K.lookup CN = some (excClassObj nmN qN CN NN bsN bmN true snN subN abN colN ddN m0N m1N m2N m3N m5N "ValueError.__new__"))
    (rN : PySem.HandSPX.refsVE bmN = true)
    (saN : PySem.W.findIn K (.ref CN) "__setattr__" = some (some (.builtin "object.__setattr__")))
    (eN : PySem.W.subIn K (.ref CN) (.type "BaseException") = some true)
    (tN : PySem.W.typeIn K (.ref CN) = some (.type "type"))
    (kcN : PySem.W.keepIn K (.ref CN) = true)
    (gaN : PySem.W.findIn K (.ref CN) "__getattribute__" = some (some (.builtin "BaseException.__getattribute__")))
    (ggN : PySem.W.findIn K (.ref CN) "__getattr__" = some none)
    (hdN : PySem.W.hasDictIn K CN = true)
    (hcN : PySem.W.findIn K (.ref CN) "__class__" = some (some (.builtin "object.__class__")))
    (moN : PySem.W.mroIn K CN (.type "object") = some true)
    (tiN : PySem.W.typeIn K (.ref fN) = some (.type "function"))
    (yN1 : PySem.W.kitOne K (.ref CN) (.ref CB) = some false)
    (yN2 : PySem.W.kitOne K (.ref CN) (.ref CN) = some true)
    (yN3 : PySem.W.kitOne K (.ref CN) (.ref CG) = some false)
    (yN4 : PySem.W.kitAny K (.ref CN) [.ref CNR, .ref COR] = some false)
    (yN5 : PySem.W.kitOne K (.ref CN) (.type "ValueError") = some true)
    (sN : PySem.W.subIn K (.ref CN) (.ref CTE) = some true)
    (xG : K.lookup CG = some (excClassObj nmG qG CG NG bsG bmG true snG subG abG colG ddG m0G m1G m2G m3G m5G "ValueError.__new__"))
    (rG : PySem.HandSPX.refsVE bmG = true)
    (saG : PySem.W.findIn K (.ref CG) "__setattr__" = some (some (.builtin "object.__setattr__")))
    (eG : PySem.W.subIn K (.ref CG) (.type "BaseException") = some true)
    (tG : PySem.W.typeIn K (.ref CG) = some (.type "type"))
    (kcG : PySem.W.keepIn K (.ref CG) = true)
    (gaG : PySem.W.findIn K (.ref CG) "__getattribute__" = some (some (.builtin "BaseException.__getattribute__")))
    (ggG : PySem.W.findIn K (.ref CG) "__getattr__" = some none)
    (hdG : PySem.W.hasDictIn K CG = true)
    (hcG : PySem.W.findIn K (.ref CG) "__class__" = some (some (.builtin "object.__class__")))
    (moG : PySem.W.mroIn K CG (.type "object") = some true)
    (tiG : PySem.W.typeIn K (.ref fG) = some (.type "function"))
    (yG1 : PySem.W.kitOne K (.ref CG) (.ref CB) = some false)
    (yG2 : PySem.W.kitOne K (.ref CG) (.ref CN) = some false)
    (yG3 : PySem.W.kitOne K (.ref CG) (.ref CG) = some true)
    (yG4 : PySem.W.kitAny K (.ref CG) [.ref CNR, .ref COR] = some false)
    (yG5 : PySem.W.kitOne K (.ref CG) (.type "ValueError") = some true)
    (sG : PySem.W.subIn K (.ref CG) (.ref CTE) = some true)
    (g1 : PySem.W.specialIn K (.builtin "object.__class__") "__get__" = some (some (.builtin "getset_descriptor.__get__")))
    (g2 : PySem.W.takesIn K (.builtin "object.__class__") = some true)
    (eE : PySem.W.subIn K (.ref CTE) (.type "BaseException") = some true)
    (hE : PySem.W.hasDictIn K CTE = true)
    (tE : PySem.W.typeIn K (.ref CTE) = some (.type "type"))
    (z_abs : PySem.W.nsIn K mainGlobals "abs" = some none)
    (z_len : PySem.W.nsIn K mainGlobals "len" = some none)
    (z_list : PySem.W.nsIn K mainGlobals "list" = some none)
    (z_range : PySem.W.nsIn K mainGlobals "range" = some none)
    (z_enumerate : PySem.W.nsIn K mainGlobals "enumerate" = some none)
    (z_tuple : PySem.W.nsIn K mainGlobals "tuple" = some none)
    (z_isinstance : PySem.W.nsIn K mainGlobals "isinstance" = some none)
    (z_ValueError : PySem.W.nsIn K mainGlobals "ValueError" = some none)
    {tl tm : _}
    (v1 : PySem.W.nsIn K mainGlobals "LEAST_CROSSINGS" = some (some (.int 2 tl)))
    (v2 : PySem.W.nsIn K mainGlobals "MOST_CROSSINGS" = some (some (.int 24 tm)))
    (hL : ∃ t, mg "LONGEST_ROAD" = some (.int 1000000000 t)) :
    ∃ fd : FuncData, (∀ (s : Shared) (v : Value), BindsTo s fd ⟨[v], []⟩ [("_law_script", v)]) ∧ ∀ base : Heap, K.In base → base.Ns mainGlobals mg → FnOk P w K mg base CX0 8 fa fd ["_law_script"] (spLaw K) := by
  have e := hfa.symm.trans (PySem.W.mg_of X G aL)
  cases e
  have FS := fun_mk (st := sSource) lS cS kS
  have FD := fun_mk (st := sDraw) lD cD kD
  have FP := fun_mk (st := sPick) lP cP kP
  have FU := fun_mk (st := sShuf) lU cU kU
  have FE := fun_mk (st := sTreeD) lE cE kE
  have FJ := fun_mk (st := sJoined) lJ cJ kJ
  have FQ := fun_mk (st := sDue) lQ cQ kQ
  have FZ := fun_mk (st := sSaid) lZ cZ kZ
  have FO := fun_mk (st := sSpoilt) lO cO kO
  have FL := fun_mk (st := sLaw) lL cL kL
  have FC := fun_mk (st := sCheck) lC cC kC
  have FA := fun_mk (st := sTrails) lA cA kA
  have FI := fun_mk (st := sJoin) lI cI kI
  have FR := fun_mk (st := sRoadI) lR cR kR
  have FT := fun_mk (st := sTreeI) lT cT kT
  have FB := fun_mk (st := sBad) lB cB kB
  have FN := fun_mk (st := sNoC) lN cN kN
  have FG := fun_mk (st := sRing) lG cG kG
  have bS := FS.binds (ps := ["_law_cell"]) fun _ _ _ _ _ _ us hl => match us, hl with | [_], _ => rfl
  have bD := FD.binds (ps := ["_law_source_here", "_law_many"]) fun _ _ _ _ _ _ us hl => match us, hl with | [_, _], _ => rfl
  have bP := FP.binds (ps := ["_law_source_here", "_law_some"]) fun _ _ _ _ _ _ us hl => match us, hl with | [_, _], _ => rfl
  have bU := FU.binds (ps := ["_law_source_here", "_law_some"]) fun _ _ _ _ _ _ us hl => match us, hl with | [_, _], _ => rfl
  have bE := FE.binds (ps := ["_law_source_here", "_law_most", "_law_long"]) fun _ _ _ _ _ _ us hl => match us, hl with | [_, _, _], _ => rfl
  have bJ := FJ.binds (ps := ["_law_facts", "_law_one", "_law_other"]) fun _ _ _ _ _ _ us hl => match us, hl with | [_, _, _], _ => rfl
  have bQ := FQ.binds (ps := ["_law_many", "_law_facts"]) fun _ _ _ _ _ _ us hl => match us, hl with | [_, _], _ => rfl
  have bZ := FZ.binds (ps := ["_law_many", "_law_roads_so"]) fun _ _ _ _ _ _ us hl => match us, hl with | [_, _], _ => rfl
  have bO := FO.binds (ps := ["_law_source_here", "_law_many", "_law_facts"]) fun _ _ _ _ _ _ us hl => match us, hl with | [_, _, _], _ => rfl
  have bC := FC.binds (ps := ["crossings", "road"]) fun _ _ _ _ _ _ us hl => match us, hl with | [_, _], _ => rfl
  have bA := FA.binds (ps := ["crossings", "roads"]) fun _ _ _ _ _ _ us hl => match us, hl with | [_, _], _ => rfl
  have bI := FI.binds (ps := ["trails", "crossings", "number", "road"]) fun _ _ _ _ _ _ us hl => match us, hl with | [_, _, _, _], _ => rfl
  have bR := FR.binds (ps := ["self", "a", "b", "length"]) fun _ _ _ _ _ _ us hl => match us, hl with | [_, _, _, _], _ => rfl
  have bT := FT.binds (ps := ["self", "crossings", "roads"]) fun _ _ _ _ _ _ us hl => match us, hl with | [_, _, _], _ => rfl
  have bB := FB.binds (ps := ["self", "what", "count"]) fun _ _ _ _ _ _ us hl => match us, hl with | [_, _, _], _ => rfl
  have bN := FN.binds (ps := ["self", "crossing"]) fun _ _ _ _ _ _ us hl => match us, hl with | [_, _], _ => rfl
  have bG := FG.binds (ps := ["self", "road"]) fun _ _ _ _ _ _ us hl => match us, hl with | [_, _], _ => rfl
  have mg1 : ∀ {n : Str} {v : Value}, PySem.W.nsIn K mainGlobals n = some (some v) → mg n = some v := fun z => PySem.W.mg_of X G z
  have mg0 : ∀ {n : Str}, PySem.W.nsIn K mainGlobals n = some none → mg n = none := fun z => PySem.W.mg_none_of X G z
  have TR : RdT K mg CR := ⟨⟨pgR, hdR, poR, saR⟩, nR0, nR1, nR2, mg1 mCR⟩
  have TT : TeT K mg CT := ⟨⟨pgT, hdT, poT, saT⟩, nT0, nT1, nT2, mg1 mCT⟩
  have TB : ErT K mg "BadCount" CB fB := ⟨mg1 mCB, ⟨⟨_, _, _, _, _, _, _, _, _, _, _, _, _, _, _, xB, rB⟩, saB, eB, tB, kcB⟩, ⟨gaB, ggB, eB, hdB⟩, ⟨gaB, ggB, eB, hdB, hcB, g1, g2, moB⟩, aB, tiB⟩
  have TN : ErT K mg "NoCrossing" CN fN := ⟨mg1 mCN, ⟨⟨_, _, _, _, _, _, _, _, _, _, _, _, _, _, _, xN, rN⟩, saN, eN, tN, kcN⟩, ⟨gaN, ggN, eN, hdN⟩, ⟨gaN, ggN, eN, hdN, hcN, g1, g2, moN⟩, aN, tiN⟩
  have TG : ErT K mg "RingRoad" CG fG := ⟨mg1 mCG, ⟨⟨_, _, _, _, _, _, _, _, _, _, _, _, _, _, _, xG, rG⟩, saG, eG, tG, kcG⟩, ⟨gaG, ggG, eG, hdG⟩, ⟨gaG, ggG, eG, hdG, hcG, g1, g2, moG⟩, aG, tiG⟩
  have IB : IsF K CB CB CN CG CNR COR CTE true false false := ⟨yB1, yB2, yB3, yB4, yB5, PySem.W.exm_ref eE hE tE sB⟩
  have IN : IsF K CN CB CN CG CNR COR CTE false true false := ⟨yN1, yN2, yN3, yN4, yN5, PySem.W.exm_ref eE hE tE sN⟩
  have IG : IsF K CG CB CN CG CNR COR CTE false false true := ⟨yG1, yG2, yG3, yG4, yG5, PySem.W.exm_ref eE hE tE sG⟩
  refine ⟨PySem.W.fnOf "law" "law" (defArgs sLaw) (defBody sLaw) (defScope sLaw) .none kVL dcL pmL anL cdL ctL, fun s v => .of_eq rfl, fun base _ _ => ?_⟩
  have OS : FnOk P w K mg base CX0 1 _ _ _ _ := ok_source FS (mg0 z_abs)
  have OD : FnOk P w K mg base CX0 1 _ _ _ _ := ok_draw FD
  have OP : FnOk P w K mg base CX0 2 _ _ _ _ := ok_pick FP OD bD (mg1 aD) kD (mg0 z_len)
  have OU : FnOk P w K mg base CX0 2 _ _ _ _ := ok_shuf FU OD bD (mg1 aD) kD (mg0 z_len) (mg0 z_list)
  have OE : FnOk P w K mg base CX0 3 _ _ _ _ := ok_treeD FE OD bD (mg1 aD) kD OP bP (mg1 aP) kP OU bU (mg1 aU) kU (mg0 z_list) (mg0 z_range)
  have OJ : FnOk P w K mg base CX0 1 _ _ _ _ := ok_joined FJ (mg0 z_len)
  have OQ : FnOk P w K mg base CX0 2 _ _ _ _ := ok_due FQ OJ bJ (mg1 aJ) kJ (mg0 z_len) (mg0 z_enumerate)
  have OO : FnOk P w K mg base CX0 3 _ _ _ _ := ok_spoilt FO OD bD (mg1 aD) kD OP bP (mg1 aP) kP (mg0 z_len)
  have OB : FnOk P w K mg base CX0 1 _ _ _ _ := ok_bad FB TB.ox nB0 nB1
  have ON : FnOk P w K mg base CX0 1 _ _ _ _ := ok_noc FN TN.ox nN0
  have OG : FnOk P w K mg base CX0 1 _ _ _ _ := ok_ringI FG TG.ox nG0
  have OR : FnOk P w K mg base CX0 1 _ _ _ _ := ok_roadI FR TR
  have OC : FnOk P w K mg base (L2.CX P w) 3 _ _ _ (spCheck CR CB CN) := ok_check FC TR TB TN OB bB ON bN hL
  have OI : FnOk P w K mg base CX0 1 _ _ _ (spJoin K CR) := ok_join FI TR (mg0 z_range)
  have OA : FnOk P w K mg base (L2.CX P w) 4 _ _ _ (spTrails K CR CB CN CG) := ok_trails FA TR TG OG bG OC bC (mg1 aC) kC OI bI (mg1 aI) kI (mg0 z_range) (mg0 z_enumerate)
  have OT : FnOk P w K mg base (L2.CX P w) 5 _ _ _ (spTreeI K CT CR CB CN CG) := ok_treeI FT TT TB OB bB OA bA (mg1 aA) kA ⟨_, mg1 v1⟩ ⟨_, mg1 v2⟩ (mg0 z_len) (mg0 z_tuple)
  have OZ : FnOk P w K mg base CX0 7 _ _ _ (spSaid K CR) := ok_said FZ TT TB TN TG (mg1 mCNR) (mg1 mCOR) (mg1 mCTE) IB IN IG nB0 nB1 nN0 nG0 ⟨mkT, aT, iT, kcT⟩ OT bT (mg0 z_isinstance) (mg0 z_ValueError)
  exact ok_law FL TR ⟨mkR, aR, iR, kcR⟩ OR bR OS bS (mg1 aS) kS OD bD (mg1 aD) kD OE bE (mg1 aE) kE OO bO (mg1 aO) kO OZ bZ (mg1 aZ) kZ OQ bQ (mg1 aQ) kQ (mg0 z_range) (mg0 z_list) (mg0 z_tuple)
end OT

set_option Elab.async false
set_option linter.all false
set_option maxRecDepth 100000
namespace OT
open PySem L2 OTR
/-- the goal behind the head, from the law's promise; F is also told what the head found at the names that it read -/
theorem walk {l : PySem.W.OpenLaw} {q : Program} {loose : List Str} {XP : (Str → Option Value) → Heap → Prop} {YP : World → Heap → Prop} {d : DefRec} {K : Params → PySem.W.Frag} (most : l.most = some 63) (plain : d.params.defaults = [])
    (part : ∀ (w : World) (h : Heap), YP w h → (K w.params).In h)
    (F : ∀ (w : World) (mg : Str → Option Value) (fa : Addr) (h : Heap), XP mg h → (K w.params).In h → h.Ns mainGlobals mg → mg d.name = some (.ref fa) →
      ∃ fd : FuncData, (∀ (s : Shared) (u : Value), BindsTo s fd ⟨[u], []⟩ [("_law_script", u)]) ∧ ∀ base : Heap, (K w.params).In base → base.Ns mainGlobals mg → FnOk l.prog w (K w.params) mg base CX0 8 fa fd ["_law_script"] (spLaw (K w.params))) :
    PySem.W.WalkO q loose XP YP l.row.toRowW d [] (fun f vs => PySem.call f vs) := by
  refine Att.attach_call most plain fun w _ t mg _ g _ _ _ _ b _ ms gr y _ _ _ named place nums short gens => ?_
  obtain ⟨fd, takes, holds⟩ := F w mg g _ gr.X (part w _ y) gr.T.g named
  exact law_call (part w _ y) gr.T.g gr.T.b gr.T.builtins gr.T.nolimit gens place nums (Nat.le_trans short (by decide)) ⟨rfl, by decide, by decide⟩ holds takes (fun _ _ hs => ⟨b, ms, rfl, hs, short, fun _ => rfl⟩) fun _ _ _ z => z
theorem loose_int {lv : List (Str × PySem.W.WData)} {mg : Str → Option Value} {h : Heap} (z : PySem.W.LooseAre lv mg h) {x : Str} {n : Int} (m : (x, PySem.W.WData.int n) ∈ lv) : ∃ t, mg x = some (.int n t) := by
  obtain ⟨v, e, r⟩ := z.val _ m
  cases r with
  | int => exact ⟨_, e⟩
end OT
open PySem PySem.W PyProof.Rows
set_option maxHeartbeats 0 in
theorem PySem.Challenge.cw_onetrain_k02_trees_refused_holds : PySem.Challenge.rw_onetrain_k02_trees_refused.Holds := by
  w_on; o_law; k_head; (case hw => w_witness2)
  k_fill
  refine OT.walk (l := PySem.Challenge.rw_onetrain_k02_trees_refused) rfl rfl (fun w h Y => PySem.W.kIn_of Y) ?F
  case F =>
    intro w mg fa h hx KX G hmg
    refine' OT.all_mk KX G hmg ?aS ?lS ?cS ?kS ?aD ?lD ?cD ?kD ?aP ?lP ?cP ?kP ?aU ?lU ?cU ?kU ?aE ?lE ?cE ?kE ?aJ ?lJ ?cJ ?kJ ?aQ ?lQ ?cQ ?kQ ?aZ ?lZ ?cZ ?kZ ?aO ?lO ?cO ?kO ?aL ?lL ?cL ?kL ?aC ?lC ?cC ?kC ?aA ?lA ?cA ?kA ?aI ?lI ?cI ?kI ?mCR ?mCT ?mCB ?mCN ?mCG ?mCNR ?mCOR ?mCTE ?aR ?lR ?cR ?kR ?aT ?lT ?cT ?kT ?aB ?lB ?cB ?kB ?aN ?lN ?cN ?kN ?aG ?lG ?cG ?kG ?iR ?pgR ?hdR ?poR ?saR ?mkR ?kcR ?iT ?pgT ?hdT ?poT ?saT ?mkT ?kcT ?nR0 ?nR1 ?nR2 ?nT0 ?nT1 ?nT2 ?nB0 ?nB1 ?nN0 ?nG0 ?xB ?rB ?saB ?eB ?tB ?kcB ?gaB ?ggB ?hdB ?hcB ?moB ?tiB ?yB1 ?yB2 ?yB3 ?yB4 ?yB5 ?sB ?xN ?rN ?saN ?eN ?tN ?kcN ?gaN ?ggN ?hdN ?hcN ?moN ?tiN ?yN1 ?yN2 ?yN3 ?yN4 ?yN5 ?sN ?xG ?rG ?saG ?eG ?tG ?kcG ?gaG ?ggG ?hdG ?hcG ?moG ?tiG ?yG1 ?yG2 ?yG3 ?yG4 ?yG5 ?sG ?g1 ?g2 ?eE ?hE ?tE ?z_abs ?z_len ?z_list ?z_range ?z_enumerate ?z_tuple ?z_isinstance ?z_ValueError ?v1 ?v2 (OT.loose_int hx.2 (List.Mem.head _))
    (case aS => k_is); (case lS => k_is); (case cS => k_is); (case kS => k_is); (case aD => k_is); (case lD => k_is)
    (case cD => k_is); (case kD => k_is); (case aP => k_is); (case lP => k_is); (case cP => k_is); (case kP => k_is)
    (case aU => k_is); (case lU => k_is); (case cU => k_is); (case kU => k_is); (case aE => k_is); (case lE => k_is)
    (case cE => k_is); (case kE => k_is); (case aJ => k_is); (case lJ => k_is); (case cJ => k_is); (case kJ => k_is)
    (case aQ => k_is); (case lQ => k_is); (case cQ => k_is); (case kQ => k_is); (case aZ => k_is); (case lZ => k_is)
    (case cZ => k_is); (case kZ => k_is); (case aO => k_is); (case lO => k_is); (case cO => k_is); (case kO => k_is)
    (case aL => k_is); (case lL => k_is); (case cL => k_is); (case kL => k_is); (case aC => k_is); (case lC => k_is)
    (case cC => k_is); (case kC => k_is); (case aA => k_is); (case lA => k_is); (case cA => k_is); (case kA => k_is)
    (case aI => k_is); (case lI => k_is); (case cI => k_is); (case kI => k_is); (case mCR => k_is); (case mCT => k_is)
    (case mCB => k_is); (case mCN => k_is); (case mCG => k_is); (case mCNR => k_is); (case mCOR => k_is); (case mCTE => k_is)
    (case aR => k_is); (case lR => k_is); (case cR => k_is); (case kR => k_is); (case aT => k_is); (case lT => k_is)
    (case cT => k_is); (case kT => k_is); (case aB => k_is); (case lB => k_is); (case cB => k_is); (case kB => k_is)
    (case aN => k_is); (case lN => k_is); (case cN => k_is); (case kN => k_is); (case aG => k_is); (case lG => k_is)
    (case cG => k_is); (case kG => k_is); (case iR => k_is); (case pgR => k_is); (case hdR => k_is); (case poR => k_is)
    (case saR => k_is); (case mkR => k_is); (case kcR => k_is); (case iT => k_is); (case pgT => k_is); (case hdT => k_is)
    (case poT => k_is); (case saT => k_is); (case mkT => k_is); (case kcT => k_is); (case nR0 => k_is); (case nR1 => k_is)
    (case nR2 => k_is); (case nT0 => k_is); (case nT1 => k_is); (case nT2 => k_is); (case nB0 => k_is); (case nB1 => k_is)
    (case nN0 => k_is); (case nG0 => k_is); (case xB => k_is); (case saB => k_is); (case eB => k_is); (case tB => k_is)
    (case kcB => k_is); (case gaB => k_is); (case ggB => k_is); (case hdB => k_is); (case hcB => k_is); (case moB => k_is)
    (case tiB => k_is); (case yB1 => kit_is); (case yB2 => kit_is); (case yB3 => kit_is); (case yB4 => kit_is); (case yB5 => kit_is)
    (case sB => k_is); (case xN => k_is); (case saN => k_is); (case eN => k_is); (case tN => k_is); (case kcN => k_is)
    (case gaN => k_is); (case ggN => k_is); (case hdN => k_is); (case hcN => k_is); (case moN => k_is); (case tiN => k_is)
    (case yN1 => kit_is); (case yN2 => kit_is); (case yN3 => kit_is); (case yN4 => kit_is); (case yN5 => kit_is); (case sN => k_is)
    (case xG => k_is); (case saG => k_is); (case eG => k_is); (case tG => k_is); (case kcG => k_is); (case gaG => k_is)
    (case ggG => k_is); (case hdG => k_is); (case hcG => k_is); (case moG => k_is); (case tiG => k_is); (case yG1 => kit_is)
    (case yG2 => kit_is); (case yG3 => kit_is); (case yG4 => kit_is); (case yG5 => kit_is); (case sG => k_is); (case g1 => k_is)
    (case g2 => k_is); (case eE => k_is); (case hE => k_is); (case tE => k_is); (case z_abs => k_is); (case z_len => k_is)
    (case z_list => k_is); (case z_range => k_is); (case z_enumerate => k_is); (case z_tuple => k_is); (case z_isinstance => k_is); (case z_ValueError => k_is)
    (case v1 => k_is); (case v2 => k_is)
    (case rB => decide +kernel); (case rG => decide +kernel); (case rN => decide +kernel)
