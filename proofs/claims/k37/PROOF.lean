import PyProof.Rows.All
import Wide.All
import OpenK.AllK
import Wide.FinOn
import HandS.Base
import HandS.Call
import HandS.List
import HandS.Ends
import HandS.Words
import HandS.WordsList
import HandS.ExcField
import HandS.ExcInit
import HandS.Defaults
import HandS.HeadHook2
import HandS.Head0
import HandS.Head1
import HandS.Head2
import HandS.Head3
import HandS.Comp
import HandS.Dict
import HandS.Iter
import HandS.Text
import HandS.WordsDict
import HandS.ForMost
import HandS.Conv
import HandS.Walk
import HandS.More
import HandS.TupAny
import HandS.DeepEq
import HandS.SetFor
import HandS.Style
import KE.GoesEnum
import HandS.Exc
import HandS.ExcIs
import HandS.IsInst
import HandS.WordsExc
import HandS.DictComp
import KE.KExcIs
import HandS.Codes
import HandS.OwnEq
import HandS.Gcd
import HandS.Wide
import HandS.Zip
import HandS.MakeKwOnly
import KE.GoesZip
import KE.GoesMore
import KE.KMathGC
import KE.KDictPairs
import KE.KDictKeyed
import KE.KDictWalk
import HandS.Deep
import HandS.SortRule
import HandS.Flow
import HandS.TryOnly
import HandS.HeadEnd
import PySem.Challenge.RW_onetrain_k37_whole_back_and_after
set_option Elab.async false
set_option linter.all false
set_option maxRecDepth 100000
set_option maxHeartbeats 1000000
namespace OT
open PySem L2
def top (i : Nat) : Stmt := PySem.Challenge.pw_onetrain_k37_whole_back_and_after.main.body.getD i (.Pass ⟨0, 0, 0, 0⟩)
abbrev sRng : Stmt := top 59
abbrev sDraw : Stmt := top 60
abbrev sPick : Stmt := top 61
/-- the source of draws at s: three ints, the first not below 0 -/
def Src (H : Hp) (s : Addr) : Prop := ∃ a b c : Int, 0 ≤ a ∧ H s = some (.lst [.int a, .int b, .int c])
/-- all that was tracked is as it was, but at s -/
def But (s : Addr) (H H' : Hp) : Prop := ∀ b o, H b = some o → b ≠ s → H' b = some o
theorem But.refl {s : Addr} {H : Hp} : But s H H := fun _ _ e _ => e
theorem But.trans {s : Addr} {H H1 H2 : Hp} (x : But s H H1) (y : But s H1 H2) : But s H H2 := fun b o e n => y b o (x b o e n) n
theorem But.same {s : Addr} {H H1 H2 : Hp} (x : But s H H1) (y : Same H1 H2) : But s H H2 := fun b o e n => y b o (x b o e n)
theorem But.upd {s : Addr} {H : Hp} {o : HO} : But s H (upd H s o) := fun b _ e n => by rw [upd_ne n]; exact e
theorem Same.new {H : Hp} {p : Addr} {o : HO} (n : H p = none) : Same H (upd H p o) := fun b _ e => by rw [upd_ne (ne_of_none e n)]; exact e
/-- _law_source(cell): a new source -/
def spSource : Sp := fun vs H Q _ => ∃ n : Int, vs = [.int n] ∧ ∀ s H', H s = none → Src H' s → Same H H' → Q (.ref s) H'
/-- _law_draw(source, many): a number from 0 to many - 1 -/
def spDraw : Sp := fun vs H Q _ => ∃ (s : Addr) (m : Int), vs = [.ref s, .int m] ∧ Src H s ∧ 0 < m ∧ m < 1073741824 ∧ ∀ r H', 0 ≤ r → r < m → Src H' s → But s H H' → Q (.int r) H'
/-- _law_pick(source, some): one of the items -/
def spPick (K : PySem.W.Frag) : Sp := fun vs H Q _ => ∃ (s l : Addr) (xs : List V), vs = [.ref s, .ref l] ∧ Src H s ∧ l ≠ s ∧ SqL K H l xs ∧ 0 < xs.length ∧ xs.length < 1000000 ∧ ∀ v H', v ∈ xs → Src H' s → But s H H' → Q v H'
section
variable {P : Program} {w : World} {K : PySem.W.Frag} {mg : Str → Option Value} {base : Heap}
theorem scSource : FnScope ["_law_cell_here"] ["_law_cell_here"] (defScope sRng) := ⟨rfl, rfl, rfl, by decide +kernel, rfl, by decide +kernel, by decide +kernel⟩
theorem ok_source {f : Addr} {fd : FuncData} (F : Fun K "_law_rng" "_law_rng" sRng f fd) (hA : mg "abs" = none) : FnOk P w K mg base CX0 1 f fd ["_law_cell_here"] spSource := by
  refine F.ok scSource (fun vs H Q E h => ?_) (fun cdv A outer s H vs Q E hr h => ?_)
  · obtain ⟨n, rfl, _⟩ := h
    rfl
  · obtain ⟨n, rfl, k⟩ := h
    refine ⟨_, pss_one (ps_ret (pe_lst (pa_cons (pe_callB call_abs (by rfl) hA (by decide +kernel) (pa_cons (pv 0) pa_nil)) (pa_cons (pe_op op_mod (pv 0) pe_int) (pa_cons pe_int pa_nil))))), ?_⟩
    refine ⟨_, rfl, _, rfl, ?_⟩
    refine ⟨_, rfl, _, _, rfl, rfl, (by show (0 : Int) < 2147483629; decide), ?_⟩
    refine ⟨(by show 3 ≤ sizeLine; decide), fun p hp => ?_⟩
    exact k p _ hp ⟨_, _, _, (by split <;> omega), upd_same⟩ (Same.new hp)
theorem scDraw : FnScope ["_law_rng_here", "_law_limit", "_law_digit", "_law_mixed"] ["_law_rng_here", "_law_limit"] (defScope sDraw) := ⟨rfl, rfl, rfl, by decide +kernel, rfl, by decide +kernel, by decide +kernel⟩
end
end OT
set_option Elab.async false
set_option linter.all false
set_option maxRecDepth 100000
set_option maxHeartbeats 2000000
namespace OT
open PySem L2
theorem fun_of {K : PySem.W.Frag} {x qual : Str} {st : Stmt} {kws : List (Str × V)} {f : Addr} {fd : FuncData} (F : FunD K x qual (defArgs st) (defBody st) (defScope st) [] kws f fd) : Fun K x qual st f fd := by
  obtain ⟨oc, od, dV, kV, doc, pm, an, cdv, ct, osl, e0, lk, hcd, hD, hK⟩ := F.ex
  rcases hD with ⟨_, e1⟩ | ⟨e1, _⟩
  · rw [e1] at e0
    exact ⟨⟨oc, od, kV, doc, pm, an, cdv, ct, osl, e0, lk, hcd⟩, F.kp⟩
  · exact absurd rfl e1
theorem two {a b : Bool} (h : (a && b) = true) : a = true ∧ b = true := Bool.and_eq_true_iff.mp h
theorem ex_at {l : List Bool} (h : (l.all fun b => b) = true) (i : Nat) {b : Bool} (e : l[i]? = some b) : b = true := List.all_eq_true.mp h b (List.mem_of_getElem? e)
/-- the class's object is that of an error below ValueError -/
def veB (K : PySem.W.Frag) (C : Addr) : Bool := match K.lookup C with
  | some o => (match o.cls, o.data, o.slots.toList with
    | .type t, .cls cd, [_, _, _, _, some (.builtin n), _] => (match cd.mro with
      | .ref b :: bm => decide (t = "type" ∧ b = C ∧ n = "ValueError.__new__" ∧ cd.hasDel = false ∧ cd.hasDict = true ∧ PySem.HandSPX.refsVE bm = true)
      | _ => false)
    | _, _, _ => false)
  | none => false
theorem veB_ok {K : PySem.W.Frag} {C : Addr} (h : veB K C = true) :
    ∃ nm q N bs bm sn sub ab col dd k0 k1 k2 k3 k5, K.lookup C = some (excClassObj nm q C N bs bm true sn sub ab col dd k0 k1 k2 k3 k5 "ValueError.__new__") ∧ PySem.HandSPX.refsVE bm = true := by
  unfold veB at h
  split at h
  · rename_i o lk
    split at h
    · rename_i t cd x0 x1 x2 x3 n x5 e1 e2 e3
      split at h
      · rename_i b bm e4
        obtain ⟨h1, h2, h3, h4, h5, h6⟩ := of_decide_eq_true h
        obtain ⟨oc, od, dt, osl⟩ := o
        obtain ⟨c1, c2, c3, c4, c5, c6, c7, c8, c9, c10, c11⟩ := cd
        dsimp only at e1 e2 e3 e4 h4 h5
        subst e1 e2 e4 h1 h2 h3 h4 h5
        have e5 : osl = #[x0, x1, x2, x3, some (.builtin "ValueError.__new__"), x5] := Array.ext' e3
        subst e5
        exact ⟨_, _, _, _, _, _, _, _, _, _, _, _, _, _, _, lk, h6⟩
      · cases h
    · cases h
  · cases h
/-- what every instance's __class__ leans on -/
def gB (K : PySem.W.Frag) : Bool := He.eqO (PySem.W.specialIn K (.builtin "object.__class__") "__get__") (some (some (.builtin "getset_descriptor.__get__"))) && decide (PySem.W.takesIn K (.builtin "object.__class__") = some true)
/-- a class with an own __eq__ at f -/
def eqB (K : PySem.W.Frag) (C f : Addr) : Bool := He.eqO (PySem.W.findIn K (.ref C) "__class__") (some (some (.builtin "object.__class__"))) && (decide (PySem.W.mroIn K C (.type "object") = some true) &&
  (He.eqO (PySem.W.findIn K (.ref C) "__eq__") (some (some (.ref f))) && (PySem.W.isFn K (.ref f) && (He.eqO (PySem.W.findIn K (.ref C) "__ne__") (some (some (.builtin "object.__ne__"))) &&
  (["NoneType", "tuple", "list"].all fun T => decide (PySem.W.kitOne K (.type T) (.ref C) = some false) && (decide (PySem.W.subIn K (.type T) (.ref C) = some false) && decide (PySem.W.subIn K (.ref C) (.type T) = some false)))))))
/-- an error class with an own __init__ at f -/
def erB (K : PySem.W.Frag) (C f : Addr) : Bool := veB K C && (xfB K C && (He.eqO (PySem.W.findIn K (.ref C) "__setattr__") (some (some (.builtin "object.__setattr__"))) && (decide (PySem.W.typeIn K (.ref C) = some (.type "type")) &&
  (PySem.W.keepIn K (.ref C) && (He.eqO (PySem.W.findIn K (.ref C) "__class__") (some (some (.builtin "object.__class__"))) && (decide (PySem.W.mroIn K C (.type "object") = some true) &&
  (He.eqO (PySem.W.findIn K (.ref C) "__init__") (some (some (.ref f))) && decide (PySem.W.typeIn K (.ref f) = some (.type "function")))))))))
def kidsO (o : Obj) : List Addr := match o.data with
  | .dict es _ => es.toList.flatMap fun e => He.refV e.val
  | .func fd => He.refV fd.code ++ He.refV fd.kwdefaults
  | .cls cd => [cd.ns]
  | _ => []
def kids (g : Addr → Option Obj) (as : List Addr) : List Addr := as.flatMap fun a => match g a with
  | some o => kidsO o
  | none => []
/-- the list in its own words, part by part -/
def told {α β : Type} : List α → (List α → β) → β
  | [], k => k []
  | x :: xs, k => told xs fun ys => k (x :: ys)
theorem told_eq {α β : Type} : ∀ (l : List α) (k : List α → β), told l k = k l
  | [], _ => rfl
  | x :: xs, k => by
    unfold told
    exact told_eq xs _
def asP {β : Type} (g : Addr → Option Obj) (k : List Addr → β) : β := told (kids g [mainGlobals]) fun l1 => told (kids g l1) fun l2 => told (kids g l2) fun l3 => told (kids g l3) fun l4 => k (mainGlobals :: (l1 ++ (l2 ++ (l3 ++ l4))))
theorem asP_eq {β : Type} (g : Addr → Option Obj) (k : List Addr → β) : ∃ l, asP g k = k l := by
  unfold asP
  simp only [told_eq]
  exact ⟨_, rfl⟩
abbrev AlP : Type := He.AlD × Bool
def obsP (fa : List He.Fa) (fn : List He.DefD) (ex : PySem.W.Frag → List Bool) (K : PySem.W.Frag) : AlP := (He.obsD fa fn K, (ex K).all fun b => b)
def obsPG (fa : List He.Fa) (fn : List He.DefD) (ex : PySem.W.Frag → List Bool) (g : Addr → Option Obj) : AlP := asP g fun l => told (He.frG g l) fun K => obsP fa fn ex K
theorem obsPG_is (fa : List He.Fa) (fn : List He.DefD) (ex : PySem.W.Frag → List Bool) (g : Addr → Option Obj) : ∃ l, obsPG fa fn ex g = obsP fa fn ex (He.frG g l) := by
  unfold obsPG
  obtain ⟨l, e⟩ := asP_eq g fun l => told (He.frG g l) fun K => obsP fa fn ex K
  rw [e, told_eq]
  exact ⟨l, rfl⟩
/-- what the head says of the written part K -/
structure SaysP (fa : List He.Fa) (fn : List He.DefD) (ex : PySem.W.Frag → List Bool) (K : PySem.W.Frag) : Prop where
  d : He.SaysD fa fn K
  more : ((ex K).all fun b => b) = true
def hookP (fa : List He.Fa) (fn : List He.DefD) (ex : PySem.W.Frag → List Bool) : PySem.W.Hook where
  α := AlP
  obs := fun st => obsPG fa fn ex st.heap.get?
  val := fun _ => (He.valD fn, true)
  says := fun _ h => ∃ K : PySem.W.Frag, K.In h ∧ SaysP fa fn ex K
  of := fun _ st e => by
    obtain ⟨l, q⟩ := obsPG_is fa fn ex st.heap.get?
    have z : obsP fa fn ex (He.frG st.heap.get? l) = (He.valD fn, true) := q.symm.trans e
    exact ⟨_, He.frG_in, congrArg (fun y : AlP => y.1) z, congrArg (fun y : AlP => y.2) z⟩
  keeps := fun _ _ _ y old => by
    obtain ⟨K, inn, c⟩ := y
    exact ⟨K, inn.keeps old, c⟩
theorem obsPG_eq {fa : List He.Fa} {fn : List He.DefD} {ex : PySem.W.Frag → List Bool} {g : Addr → Option Obj} {st : Shared} (h : ∀ a, g a = st.heap.get? a) : obsPG fa fn ex g = (hookP fa fn ex).obs st := by
  have e : g = st.heap.get? := funext h
  subst e
  rfl
end OT
set_option Elab.async false
set_option linter.all false
set_option maxRecDepth 100000
set_option maxHeartbeats 0
namespace OT
open PySem L2
def hkNames0 : List PySem.Str := ["gcd", "lcm", "_wall", "TrainError", "BadCount", "NoCrossing", "RingRoad", "NoRoad", "OffRoad", "NotWhole", "Wide", "LEAST_CROSSINGS", "MOST_CROSSINGS", "LONGEST_ROAD", "Road", "Tree", "trails_along", "check_road", "join_trails", "end_at", "end_beyond", "Place", "check_place", "key", "corner", "distance", "steps_between", "step", "legs", "MOST_MARCHES"]
def hkNames1 : List PySem.Str := ["MOST_STEPS", "MOST_ROUNDS", "March", "Row", "check_march", "keyed", "after", "MOST_STRETCHES", "Stretch", "doing", "stretches_after", "marched", "marks_of", "is_gathered", "joined", "is_one", "is_one_doings", "Piece", "back", "pieces_in", "is_one_backs", "_law_cell", "_law_rng", "_law_draw", "_law_pick", "_law_sample", "_law_random_tree", "_law_build_tree", "_law_random_marches", "_law_build_row"]
def hkNames2 : List PySem.Str := ["_law_scaled", "_law_pieces_hold", "_law_samples", "_law_contains", "_law_composition_holds", "_law_scaling_holds"]
def hkNames : List PySem.Str := hkNames0 ++ hkNames1 ++ hkNames2
def hkFa0 : List He.Fa := [.glo "check_road", .glo "join_trails", .glo "trails_along", .glo "check_place", .glo "check_march", .glo "end_at", .glo "end_beyond", .glo "corner", .glo "key", .glo "legs", .glo "distance", .glo "step", .glo "after", .glo "is_gathered", .glo "steps_between", .glo "marks_of", .glo "marched", .glo "is_one_doings", .glo "joined", .glo "stretches_after", .glo "doing", .glo "is_one_backs", .glo "pieces_in", .glo "back", .glo "_law_cell", .glo "_law_rng", .glo "_law_draw", .glo "_law_pick", .glo "_law_sample", .glo "_law_random_tree"]
def hkFa1 : List He.Fa := [.glo "_law_build_tree", .glo "_law_random_marches", .glo "_law_build_row", .glo "_law_scaled", .glo "_law_pieces_hold", .glo "_law_samples", .glo "_law_contains", .glo "_law_composition_holds", .glo "_law_scaling_holds", .glo "law", .glo "Road", .glo "Tree", .glo "Place", .glo "March", .glo "Row", .glo "Stretch", .glo "Piece", .glo "BadCount", .glo "NoCrossing", .glo "RingRoad", .glo "NoRoad", .glo "OffRoad", .glo "NotWhole", .glo "Wide", .cls "Road", .noat "Road" "a", .noat "Road" "b", .noat "Road" "length", .mkr "Road", .cls "Tree"]
def hkFa2 : List He.Fa := [.noat "Tree" "crossings", .noat "Tree" "roads", .noat "Tree" "trails", .mkr "Tree", .cls "Place", .noat "Place" "road", .noat "Place" "number", .noat "Place" "parts", .mkr "Place", .cls "March", .noat "March" "goal", .noat "March" "steps", .mkr "March", .cls "Row", .noat "Row" "tree", .noat "Row" "marches", .mkr "Row", .cls "Stretch", .noat "Stretch" "road", .noat "Stretch" "least", .noat "Stretch" "greatest", .noat "Stretch" "first", .noat "Stretch" "last", .mkr "Stretch", .cls "Piece", .noat "Piece" "road", .noat "Piece" "least", .noat "Piece" "greatest", .noat "Piece" "parts", .mkr "Piece"]
def hkFa3 : List He.Fa := [.noat "BadCount" "what", .noat "BadCount" "count", .noat "NoCrossing" "crossing", .noat "RingRoad" "road", .noat "NoRoad" "road", .noat "OffRoad" "road", .noat "NotWhole" "march", .noat "Wide" "count", .free "abs", .free "enumerate", .free "isinstance", .free "len", .free "list", .free "max", .free "min", .free "range", .free "sum", .free "tuple", .free "zip", .int "LEAST_CROSSINGS" 2, .int "MOST_CROSSINGS" 24, .int "MOST_MARCHES" 24, .int "MOST_ROUNDS" 1000, .int "MOST_STRETCHES" 400, .int "LONGEST_ROAD" 1000000000, .int "MOST_STEPS" 1000000000]
def hkFa : List He.Fa := hkFa0 ++ hkFa1 ++ hkFa2 ++ hkFa3
def hkFn0 : List He.DefD := [⟨("check_road", none), "check_road", "check_road", defArgs (top 18), defBody (top 18), defScope (top 18), [], []⟩, ⟨("join_trails", none), "join_trails", "join_trails", defArgs (top 19), defBody (top 19), defScope (top 19), [], []⟩, ⟨("trails_along", none), "trails_along", "trails_along", defArgs (top 17), defBody (top 17), defScope (top 17), [], []⟩, ⟨("check_place", none), "check_place", "check_place", defArgs (top 24), defBody (top 24), defScope (top 24), [], []⟩, ⟨("check_march", none), "check_march", "check_march", defArgs (top 37), defBody (top 37), defScope (top 37), [], []⟩, ⟨("end_at", none), "end_at", "end_at", defArgs (top 20), defBody (top 20), defScope (top 20), [], []⟩, ⟨("end_beyond", none), "end_beyond", "end_beyond", defArgs (top 21), defBody (top 21), defScope (top 21), [], []⟩, ⟨("corner", none), "corner", "corner", defArgs (top 26), defBody (top 26), defScope (top 26), [], []⟩, ⟨("key", none), "key", "key", defArgs (top 25), defBody (top 25), defScope (top 25), [], []⟩, ⟨("legs", none), "legs", "legs", defArgs (top 30), defBody (top 30), defScope (top 30), [], []⟩, ⟨("distance", none), "distance", "distance", defArgs (top 27), defBody (top 27), defScope (top 27), [], []⟩, ⟨("step", none), "step", "step", defArgs (top 29), defBody (top 29), defScope (top 29), [], []⟩, ⟨("after", none), "after", "after", defArgs (top 39), defBody (top 39), defScope (top 39), [], [("rounds", .int 1)]⟩, ⟨("is_gathered", none), "is_gathered", "is_gathered", defArgs (top 47), defBody (top 47), defScope (top 47), [], []⟩, ⟨("steps_between", none), "steps_between", "steps_between", defArgs (top 28), defBody (top 28), defScope (top 28), [], []⟩, ⟨("marks_of", none), "marks_of", "marks_of", defArgs (top 46), defBody (top 46), defScope (top 46), [], []⟩, ⟨("marched", none), "marched", "marched", defArgs (top 45), defBody (top 45), defScope (top 45), [], []⟩, ⟨("is_one_doings", none), "is_one", "is_one", defArgs (top 49), defBody (top 49), defScope (top 49), [], []⟩, ⟨("joined", none), "joined", "joined", defArgs (top 48), defBody (top 48), defScope (top 48), [], []⟩, ⟨("stretches_after", none), "stretches_after", "stretches_after", defArgs (top 44), defBody (top 44), defScope (top 44), [], []⟩]
def hkFn1 : List He.DefD := [⟨("doing", none), "doing", "doing", defArgs (top 43), defBody (top 43), defScope (top 43), [], []⟩, ⟨("is_one_backs", none), "is_one", "is_one", defArgs (top 55), defBody (top 55), defScope (top 55), [], []⟩, ⟨("pieces_in", none), "pieces_in", "pieces_in", defArgs (top 54), defBody (top 54), defScope (top 54), [], []⟩, ⟨("back", none), "back", "back", defArgs (top 53), defBody (top 53), defScope (top 53), [], []⟩, ⟨("_law_cell", none), "_law_cell", "_law_cell", defArgs (top 58), defBody (top 58), defScope (top 58), [], []⟩, ⟨("_law_rng", none), "_law_rng", "_law_rng", defArgs (top 59), defBody (top 59), defScope (top 59), [], []⟩, ⟨("_law_draw", none), "_law_draw", "_law_draw", defArgs (top 60), defBody (top 60), defScope (top 60), [], []⟩, ⟨("_law_pick", none), "_law_pick", "_law_pick", defArgs (top 61), defBody (top 61), defScope (top 61), [], []⟩, ⟨("_law_sample", none), "_law_sample", "_law_sample", defArgs (top 62), defBody (top 62), defScope (top 62), [], []⟩, ⟨("_law_random_tree", none), "_law_random_tree", "_law_random_tree", defArgs (top 63), defBody (top 63), defScope (top 63), [], []⟩, ⟨("_law_build_tree", none), "_law_build_tree", "_law_build_tree", defArgs (top 64), defBody (top 64), defScope (top 64), [], []⟩, ⟨("_law_random_marches", none), "_law_random_marches", "_law_random_marches", defArgs (top 65), defBody (top 65), defScope (top 65), [], []⟩, ⟨("_law_build_row", none), "_law_build_row", "_law_build_row", defArgs (top 66), defBody (top 66), defScope (top 66), [], []⟩, ⟨("_law_scaled", none), "_law_scaled", "_law_scaled", defArgs (top 67), defBody (top 67), defScope (top 67), [], []⟩, ⟨("_law_pieces_hold", none), "_law_pieces_hold", "_law_pieces_hold", defArgs (top 68), defBody (top 68), defScope (top 68), [], []⟩, ⟨("_law_samples", none), "_law_samples", "_law_samples", defArgs (top 69), defBody (top 69), defScope (top 69), [], []⟩, ⟨("_law_contains", none), "_law_contains", "_law_contains", defArgs (top 70), defBody (top 70), defScope (top 70), [], []⟩, ⟨("_law_composition_holds", none), "_law_composition_holds", "_law_composition_holds", defArgs (top 71), defBody (top 71), defScope (top 71), [], []⟩, ⟨("_law_scaling_holds", none), "_law_scaling_holds", "_law_scaling_holds", defArgs (top 72), defBody (top 72), defScope (top 72), [], []⟩, ⟨("law", none), "law", "law", defArgs (top 73), defBody (top 73), defScope (top 73), [], []⟩]
def hkFn2 : List He.DefD := [⟨("BadCount", some "__init__"), "__init__", "BadCount.__init__", defArgs (inClass (top 4) 0), defBody (inClass (top 4) 0), defScope (inClass (top 4) 0), [], []⟩, ⟨("NoCrossing", some "__init__"), "__init__", "NoCrossing.__init__", defArgs (inClass (top 5) 0), defBody (inClass (top 5) 0), defScope (inClass (top 5) 0), [], []⟩, ⟨("RingRoad", some "__init__"), "__init__", "RingRoad.__init__", defArgs (inClass (top 6) 0), defBody (inClass (top 6) 0), defScope (inClass (top 6) 0), [], []⟩, ⟨("NoRoad", some "__init__"), "__init__", "NoRoad.__init__", defArgs (inClass (top 7) 0), defBody (inClass (top 7) 0), defScope (inClass (top 7) 0), [], []⟩, ⟨("OffRoad", some "__init__"), "__init__", "OffRoad.__init__", defArgs (inClass (top 8) 0), defBody (inClass (top 8) 0), defScope (inClass (top 8) 0), [], []⟩, ⟨("NotWhole", some "__init__"), "__init__", "NotWhole.__init__", defArgs (inClass (top 9) 0), defBody (inClass (top 9) 0), defScope (inClass (top 9) 0), [], []⟩, ⟨("Road", some "__init__"), "__init__", "Road.__init__", defArgs (inClass (top 15) 0), defBody (inClass (top 15) 0), defScope (inClass (top 15) 0), [], []⟩, ⟨("Tree", some "__init__"), "__init__", "Tree.__init__", defArgs (inClass (top 16) 0), defBody (inClass (top 16) 0), defScope (inClass (top 16) 0), [], []⟩, ⟨("Place", some "__init__"), "__init__", "Place.__init__", defArgs (inClass (top 23) 0), defBody (inClass (top 23) 0), defScope (inClass (top 23) 0), [], []⟩, ⟨("March", some "__init__"), "__init__", "March.__init__", defArgs (inClass (top 35) 0), defBody (inClass (top 35) 0), defScope (inClass (top 35) 0), [], []⟩, ⟨("Row", some "__init__"), "__init__", "Row.__init__", defArgs (inClass (top 36) 0), defBody (inClass (top 36) 0), defScope (inClass (top 36) 0), [], []⟩, ⟨("Place", some "__eq__"), "__eq__", "Place.__eq__", defArgs (inClass (top 23) 1), defBody (inClass (top 23) 1), defScope (inClass (top 23) 1), [], []⟩, ⟨("Stretch", some "__init__"), "__init__", "Stretch.__init__", defArgs (inClass (top 42) 0), defBody (inClass (top 42) 0), defScope (inClass (top 42) 0), [], []⟩, ⟨("Wide", some "__init__"), "__init__", "Wide.__init__", defArgs (inClass (top 10) 0), defBody (inClass (top 10) 0), defScope (inClass (top 10) 0), [], []⟩, ⟨("Piece", some "__init__"), "__init__", "Piece.__init__", defArgs (inClass (top 52) 0), defBody (inClass (top 52) 0), defScope (inClass (top 52) 0), [], []⟩]
def hkFn : List He.DefD := hkFn0 ++ hkFn1 ++ hkFn2
def hkEx0 (K : PySem.W.Frag) : List Bool := [gB K, eqB K (He.ga K "Place") (He.ma K (He.ga K "Place") "__eq__"), erB K (He.ga K "BadCount") (He.ma K (He.ga K "BadCount") "__init__"), erB K (He.ga K "NoCrossing") (He.ma K (He.ga K "NoCrossing") "__init__"), erB K (He.ga K "RingRoad") (He.ma K (He.ga K "RingRoad") "__init__"), erB K (He.ga K "NoRoad") (He.ma K (He.ga K "NoRoad") "__init__"), erB K (He.ga K "OffRoad") (He.ma K (He.ga K "OffRoad") "__init__"), erB K (He.ga K "NotWhole") (He.ma K (He.ga K "NotWhole") "__init__"), erB K (He.ga K "Wide") (He.ma K (He.ga K "Wide") "__init__"), He.eqO (PySem.W.nsIn K mainGlobals "gcd") (some (some (.builtin "math.gcd"))), He.eqO (PySem.W.nsIn K mainGlobals "lcm") (some (some (.builtin "math.lcm")))]
def hkEx (K : PySem.W.Frag) : List Bool := hkEx0 K
abbrev hkR : PySem.W.OpenRow := PySem.W.OpenLaw.row PySem.Challenge.rw_onetrain_k37_whole_back_and_after
abbrev hkQ : Program := PySem.W.view hkR.prog [73]
abbrev hk : PySem.W.Hook := hookP hkFa hkFn hkEx
def hkOb (s : PySem.W.SharedT) : AlP := obsPG hkFa hkFn hkEx (HandSHeadRun.getT s)
theorem hkOb_eq (s : PySem.W.SharedT) : hkOb s = hk.obs s.abs := obsPG_eq (HandSHeadRun.getT_eq s)
theorem hk_run (w : World) : HandSHeadRun.RunEqI hkR hkQ hk hkOb 6000 hkNames w := by
  unfold HandSHeadRun.RunEqI
  kernel_rfl
end OT
set_option Elab.async false
set_option linter.all false
set_option maxRecDepth 100000
set_option maxHeartbeats 1000000
namespace OT
open PySem L2
section
variable {P : Program} {w : World} {K : PySem.W.Frag} {mg : Str → Option Value} {base : Heap}
theorem mod_in {x m : Int} (h : 0 < m) : 0 ≤ x % m ∧ x % m < m := ⟨Int.emod_nonneg _ (by omega), Int.emod_lt_of_pos _ h⟩
theorem ok_draw {f : Addr} {fd : FuncData} (F : Fun K "_law_draw" "_law_draw" sDraw f fd) : FnOk P w K mg base CX0 1 f fd ["_law_rng_here", "_law_limit"] spDraw := by
  refine F.ok scDraw (fun vs H Q E h => ?_) (fun cdv A outer s H vs Q E hr h => ?_)
  · obtain ⟨s, m, rfl, _⟩ := h
    rfl
  · obtain ⟨s, m, rfl, ⟨a, b, c, ha, hs⟩, hm0, hm1, k⟩ := h
    refine ⟨_, pss_cons (ps_if (pt_cmpR op_ge (pe_ix ix_list (pv 0) pe_int (fun _ _ => rfl)) (pe_op op_pow pe_int pe_int) (nomark _))
        (pss_cons (ps_set (i := 2) scDraw.nd rfl (Or.inl rfl) (pe_op op_mod (pe_ix ix_list (pv 0) pe_int (fun _ _ => rfl)) (pv 1)))
        (pss_cons (ps_asg (pe_op op_fdiv (pe_ix ix_list (pv 0) pe_int (fun _ _ => rfl)) (pv 1)) (pg_sub (pv 0) pe_int set_list))
        (pss_one (ps_ret (pv 2))))) pss_nil)
      (pss_cons (ps_asg (pe_op op_add (pe_ix ix_list (pv 0) pe_int (fun _ _ => rfl)) pe_int) (pg_sub (pv 0) pe_int set_list))
      (pss_cons (ps_set (i := 3) scDraw.nd rfl (Or.inl rfl) (pe_op op_mod (pe_op op_mul (pe_op op_add (pe_op op_add (pe_ix ix_list (pv 0) pe_int (fun _ _ => rfl)) (pe_op op_mul pe_int (pe_ix ix_list (pv 0) pe_int (fun _ _ => rfl)))) pe_int) pe_int) pe_int))
      (pss_cons (ps_set (i := 3) scDraw.nd rfl (Or.inl rfl) (pe_op op_mod (pe_op op_mul (pv 3) (pe_op op_add (pe_op op_fdiv (pv 3) pe_int) pe_int)) pe_int))
      (pss_one (ps_ret (pe_op op_mod (pe_op op_mod (pe_op op_add (pe_op op_fdiv (pv 3) pe_int) (pe_op op_mul (pe_op op_mod (pv 3) pe_int) pe_int)) pe_int) (pv 1))))))), ?_⟩
    refine ⟨_, rfl, _, _, _, _, rfl, rfl, SqL.of hs, rfl, _, _, rfl, rfl, ⟨by decide, by decide, by decide⟩, _, _, rfl, rfl, _, rfl, ?_⟩
    refine ite2 (fun _ => ?_) (fun _ => ?_)
    · refine ⟨_, rfl, _, _, _, _, rfl, rfl, SqL.of hs, rfl, _, rfl, _, _, rfl, rfl, hm0, ?_⟩
      refine ⟨_, rfl, _, _, _, _, rfl, rfl, SqL.of hs, rfl, _, rfl, _, _, rfl, rfl, ⟨hm0, hm1⟩, ?_⟩
      refine ⟨_, rfl, _, _, _, _, rfl, rfl, hs, rfl, ?_⟩
      refine ⟨_, rfl, ?_⟩
      exact k _ _ (mod_in hm0).1 (mod_in hm0).2 ⟨_, _, _, Int.ediv_nonneg ha (by omega), upd_same⟩ But.upd
    · refine ⟨_, rfl, _, _, _, _, rfl, rfl, SqL.of hs, rfl, _, _, rfl, rfl, ?_⟩
      refine ⟨_, rfl, _, _, _, _, rfl, rfl, hs, rfl, ?_⟩
      have hs' : SqL K (upd H s (.lst [.int a, .int b, .int (c + 1)])) s [.int a, .int b, .int (c + 1)] := SqL.of upd_same
      refine ⟨_, rfl, _, _, _, _, rfl, rfl, hs', rfl, _, rfl, _, _, _, _, rfl, rfl, hs', rfl, _, _, rfl, rfl, .inl ⟨by decide, by decide⟩, _, _, rfl, rfl, _, _, rfl, rfl, _, _, rfl, rfl, .inr ⟨by decide, by decide⟩, _, _, rfl, rfl, (by show (0 : Int) < 2147483647; decide), ?_⟩
      generalize hx : ((b + 7919 * (c + 1) + 1) * 48271 % 2147483647 : Int) = x
      have x0 : 0 ≤ x ∧ x < 2147483647 := by rw [← hx]; exact mod_in (by decide)
      refine ⟨_, rfl, _, rfl, _, _, rfl, rfl, ⟨by decide, by decide⟩, _, _, rfl, rfl, _, _, rfl, rfl, .inl ⟨by omega, by omega⟩, _, _, rfl, rfl, (by show (0 : Int) < 2147483587; decide), ?_⟩
      generalize hy : (x * (x / 1013 + 69621) % 2147483587 : Int) = y
      refine ⟨_, rfl, _, _, rfl, rfl, ⟨by decide, by decide⟩, _, rfl, _, _, rfl, rfl, (by show (0 : Int) < 7919; decide), _, _, rfl, rfl, .inr ⟨by decide, by decide⟩, _, _, rfl, rfl, _, _, rfl, rfl, (by show (0 : Int) < 2147483399; decide), _, rfl, _, _, rfl, rfl, hm0, ?_⟩
      exact k _ _ (mod_in hm0).1 (mod_in hm0).2 ⟨_, _, _, ha, upd_same⟩ But.upd
end
end OT
set_option Elab.async false
set_option linter.all false
set_option maxRecDepth 100000
set_option maxHeartbeats 1000000
namespace OTR
open PySem PySem.Spec PyProof.Rows L2
section
variable {prog : Program} {w : World} {A : Around} {E : Value → Shared → Prop} {s : Shared}
theorem adjust_rev (n : Nat) : Builtin.Slice.sliceAdjust none none (-1) (n : Int) = ((n : Int) - 1, -1) := by
  unfold Builtin.Slice.sliceAdjust
  simp
theorem places_rev (n : Nat) : Builtin.Slice.slicePlaces ((n : Int) - 1) (-1) (-1) = n := by
  unfold Builtin.Slice.slicePlaces
  have h1 : ¬ ((-1 : Int) > 0) := by omega
  simp only [h1, if_false]
  split
  · have e : ((n : Int) - 1 - -1 - 1) / (- -1) + 1 = n := by
      rw [show (- -1 : Int) = 1 by decide, Int.ediv_one]
      omega
    rw [e]
    simp
  · have e : n = 0 := by omega
    subst e
    rfl
theorem sliceApplied_rev {sl : Addr} {vl vu vs : Value} {n : Nat} {Q : Int × Int × Nat → Shared → Prop} (hs : s.heap.IsSliceOf sl vl vu vs) (pl : IsPart vl none) (pu : IsPart vu none) (ps : IsPart vs (some (-1)))
    (h : Q ((n : Int) - 1, -1, n) s) : wpAny (model prog w) A (Builtin.Slice.sliceApplied (.ref sl) (pure (n : Int))) Q E s := by
  obtain ⟨os, hos, hcs, hds⟩ := id hs
  unfold Builtin.Slice.sliceApplied Builtin.Slice.sliceFields
  refine wpAny_bind (wpAny_bind (wpAny_field hos hds (x := vl) rfl (wpAny_bind (wpAny_field hos hds (x := vu) rfl (wpAny_bind (wpAny_field hos hds (x := vs) rfl (wpAny_pure ?_)))))))
  refine wpAny_bind (HT.slicePart_ ps ?_)
  show wpAny _ _ (if ((-1 : Int) == 0) = true then _ else _) _ _ s
  rw [if_neg (by decide)]
  refine wpAny_bind (HT.slicePart_ pl (wpAny_bind (HT.slicePart_ pu (wpAny_bind (wpAny_pure ?_)))))
  show wpAny _ _ (match Builtin.Slice.sliceAdjust none none (-1) (n : Int) with | (lo, hi) => pure (lo, (-1 : Int), Builtin.Slice.slicePlaces lo hi (-1))) _ _ s
  rw [adjust_rev n]
  show wpAny _ _ (pure ((n : Int) - 1, (-1 : Int), Builtin.Slice.slicePlaces ((n : Int) - 1) (-1) (-1))) _ _ s
  rw [places_rev]
  exact wpAny_pure h
theorem fm_congr {α β : Type} {f g : α → Option β} : ∀ {l : List α}, (∀ a ∈ l, f a = g a) → l.filterMap f = l.filterMap g
  | [], _ => rfl
  | a :: l, h => by
    have h1 := h a (List.mem_cons_self ..)
    have h2 := fm_congr (l := l) fun b hb => h b (List.mem_cons_of_mem _ hb)
    rw [List.filterMap_cons, List.filterMap_cons, h1, h2]
theorem pick_rev (xs : Array Value) : ((List.range xs.size).filterMap fun (m : Nat) => xs[((xs.size : Int) - 1 + (m : Int) * -1).toNat]?).toArray = xs.toList.reverse.toArray := by
  have e : (List.range xs.size).filterMap (fun (m : Nat) => xs[((xs.size : Int) - 1 + (m : Int) * -1).toNat]?) = ((List.range xs.size).map fun k => xs.size - 1 - k).filterMap (xs[·]?) := by
    rw [List.filterMap_map]
    apply fm_congr
    intro m hm
    have h := List.mem_range.mp hm
    have z : ((xs.size : Int) - 1 + (m : Int) * -1).toNat = xs.size - 1 - m := by omega
    rw [z]
    rfl
  rw [e, PySem.W.krv_range, List.filterMap_reverse, PySem.W.krv_all]
theorem getItem_tuple_rev {t sl : Addr} {items : Array Value} {vl vu vs : Value} {Q : Value → Shared → Prop} (ht : IsTup s.heap t items) (hs : s.heap.IsSliceOf sl vl vu vs) (pl : IsPart vl none) (pu : IsPart vu none) (ps : IsPart vs (some (-1)))
    (h : Q (.ref s.heap.objs.size) { s with heap := s.heap.push { cls := .type "tuple", data := .seq items.toList.reverse.toArray } })
    (hsz : items.size ≤ sizeLine) : wpAny (model prog w) A (getItem (.ref t) (.ref sl)) Q E s := by
  have htake : sizeOk (.seq items.toList.reverse.toArray) := by
    show items.toList.reverse.toArray.size ≤ sizeLine
    rw [List.size_toArray, List.length_reverse, Array.length_toList]
    exact hsz
  obtain ⟨os, hos, hcs, hds⟩ := id hs
  have hTs : s.TypeIs (.ref sl) "slice" := ⟨os, hos, hcs⟩
  unfold getItem
  try with_reducible refine wpAny_holding ?_
  first | refine wpAny_bind (wpAny_pure ?_) | skip
  refine wpAny_bind (wpAny_sequenceKey ht.typeIs (by decide) ?_)
  refine wpAny_bind (wpAny_callSpecial?_slot (name := Str.ofString "__getitem__") ht.typeIs PyProof.Rows.slot_tuple_getitem
    (wpAny_call_entry PyProof.Rows.slot_tuple_getitem ht.typeIs entry_tuple_getitem ?_ (args_tuple_getitem _ _)))
  show wpAny _ _ (Builtin.Tuple.tupleItemsOf (.ref t) >>= _) _ _ s
  refine wpAny_bind (tupleItemsOf_ ht ?_)
  refine wpAny_bind (wpAny_typeOf hTs ?_)
  rw [if_pos (by decide)]
  refine wpAny_bind (sliceApplied_rev hs pl pu ps ?_)
  have hno : ¬ ((((items.size : Int) - 1) == 0 && (-1 : Int) == 1 && items.size == items.size) = true) := by
    intro q
    rw [Bool.and_eq_true, Bool.and_eq_true] at q
    exact absurd (eq_of_beq q.1.2) (by decide)
  show wpAny _ _ (if (((items.size : Int) - 1) == 0 && (-1 : Int) == 1 && items.size == items.size) = true then _ else _) _ _ s
  rw [if_neg hno, pick_rev]
  first
    | exact wpAny_bind (m := Builtin.Tuple.tupleExact _) (wpAny_newObj_type (wpAny_pure ⟨_, rfl, wpAny_pure h⟩) htake)
    | exact wpAny_bind (m := Builtin.Tuple.tupleExact _) (wpAny_newObj_type (wpAny_bind (wpAny_pure (wpAny_pure ⟨_, rfl, wpAny_pure h⟩))) htake)
    | exact wpAny_bind (wpAny_bind (m := Builtin.Tuple.tupleExact _) (wpAny_newObj_type (wpAny_pure (wpAny_pure ⟨_, rfl, wpAny_pure h⟩)) htake))
    | exact wpAny_bind (wpAny_bind (m := Builtin.Tuple.tupleExact _) (wpAny_newObj_type (wpAny_pure ⟨_, rfl, wpAny_pure h⟩) htake))
end
section
variable {X : Cx}
def tRevT (K : PySem.W.Frag) (te : TE) : TE := fun σ H Q => te σ H fun x H1 => ∃ a xs, x = .ref a ∧ SqT K H1 a xs ∧ ∀ p, H1 p = none → Q (.ref p) (upd H1 p (.tup xs.reverse))
theorem pe_revT {e : Expr} {te : TE} {k : Nat} {p1 p2 p3 pos : Pos} (he : PE X e te) : PE X (.Subscript e (.Slice none none (some (.UnaryOp .USub (.Constant (.int 1) k p1) p2)) p3) pos) (tRevT X.K te) := by
  refine ⟨fun pins s σ H Q I h => ?_⟩
  refine Subscript_ (thn (he.run pins s σ H _ I h) fun v s1 ⟨x, H1, I1, r1, q1⟩ => ?_)
  obtain ⟨a, xs, ex, hx, q⟩ := q1
  subst ex
  cases r1
  have hst : PO X (some (.UnaryOp .USub (.Constant (.int 1) k p1) p2)) (tPart (tUn (rU fun i => .int (-i)) (tC (.int 1)))) := po_some (pe_un un_neg pe_int)
  refine wpAny_Slice (thn (po_none.run pins s1 σ H1 (fun o H2 => o = none ∧ H2 = H1) I1 ⟨rfl, rfl⟩) fun vl s2 ⟨l, H2, I2, pl, el, e2⟩ => ?_)
  subst el e2
  refine thn (po_none.run pins s2 σ H2 (fun o H3 => o = none ∧ H3 = H2) I2 ⟨rfl, rfl⟩) fun vu s3 ⟨u, H3, I3, pu, eu, e3⟩ => ?_
  subst eu e3
  refine thn (hst.run pins s3 σ H3 (fun o H4 => o = some (-1) ∧ H4 = H3) I3 ⟨1, rfl, -1, rfl, rfl, rfl⟩) fun vs s4 ⟨o, H4, I4, ps, eo, e4⟩ => ?_
  subst eo e4
  have I5 : Inv X pins σ H4 { s4 with heap := s4.heap.push { cls := .type "slice", data := .fields #[vl, vu, vs] } } := I4.kept (t' := s4.toks) fun b ob q => Heap.get?_push_of_some _ q
  obtain ⟨its, r, ht, hz⟩ := I5.tuple hx
  have hlen := r.length
  show wpAny (model X.prog X.w) X.A (subscriptTail e (.Slice none none (some (.UnaryOp .USub (.Constant (.int 1) k p1) p2)) p3) (.ref a) (.ref s4.heap.objs.size)) (EP X pins σ Q) X.xe { s4 with heap := s4.heap.push { cls := .type "slice", data := .fields #[vl, vu, vs] } }
  refine tail_any (ops := [.ref a, .ref s4.heap.objs.size]) ht.typeIs (PyProof.Rows.slot_tuple_getitem.lookup) ?_ (by with_unfolding_all rfl)
  refine getItem_tuple_rev ht (Heap.IsSliceOf.new _ vl vu vs) pl pu ps ?_ (by rw [List.size_toArray]; omega)
  refine ⟨.ref _, _, I5.laid (t' := s4.toks) (o := .tup xs.reverse) (fun b ob q => Heap.get?_push_of_some _ q) (Nat.le_refl _) ?_, rfl, q _ (I5.hok.fresh (Nat.le_refl _))⟩
  refine ⟨by rw [List.length_reverse]; exact hz, its.reverse, r.reverse, ?_⟩
  have e := Heap.get?_push_size (s4.heap.push { cls := .type "slice", data := .fields #[vl, vu, vs] }) (o := { cls := .type "tuple", data := .seq its.reverse.toArray }) rfl
  exact ⟨_, by simpa using e, rfl, _, rfl⟩
end
end OTR
set_option Elab.async false
set_option linter.all false
set_option maxRecDepth 100000
set_option maxHeartbeats 1000000
namespace OTR
open PySem PySem.Spec PyProof.Rows L2
theorem meets_enumerate_new1 {v : Value} {ob : Obj} {H : Heap → Prop} (B : Begins v ob H) :
    Meets (Builtin.«enumerate.__new__» ⟨[.type "enumerate", v], []⟩) (fun _ R s => H s.heap ∧
      R (.ok (.ret (.ref (s.heap.push ob).objs.size))) { s with heap := (s.heap.push ob).push { cls := .type "enumerate", data := .fields #[.none, .bool false, .ref s.heap.objs.size, rawInt 0, .none, .none] } }) :=
  .of_wp fun prg w A R s h => by
    obtain ⟨hp, g, d, tk, os⟩ := s; obtain ⟨t1, h⟩ := h
    have hsub := sub_enumerate
    have qv : ∀ {A' : Around} {Er : Value → Shared → Prop} {Q : Value → Shared → Prop}, Q (.ref hp.objs.size) ⟨hp.push ob, g, d, tk, os⟩ → wpAny (model prg w) A' (pyIter v) Q Er ⟨hp, g, d, tk, os⟩ :=
      fun q => B.iter prg w _ _ ⟨hp, g, d, tk, os⟩ _ t1 q
    wp_walk using qv
    refine wpAny_stack_any fun _ => wpAny_pure ?_
    split
    · rename_i c _ _ _ _ _
      cases (c == Value.type "enumerate")
      · wp_walk using qv
        exact ⟨_, rfl, h⟩
      · wp_walk using qv
        exact ⟨_, rfl, h⟩
    · wp_walk using qv
      exact ⟨_, rfl, h⟩
section
variable {prg : Program} {w : World} {A : Around} {Er : Value → Shared → Prop} {s : Shared}
theorem enum_begins1 {v : Value} {ob : Obj} {H : Heap → Prop} {Q : Value → Shared → Prop} (B : Begins v ob H) (t1 : H s.heap)
    (h : ∀ g1, IsEnum g1 (s.heap.objs.size + 1) s.heap.objs.size 0 .none → g1.get? s.heap.objs.size = some ob → g1.objs.size = s.heap.objs.size + 2 →
      (∀ bb ob, s.heap.get? bb = some ob → g1.get? bb = some ob) → Q (.ref (s.heap.objs.size + 1)) { s with heap := g1 }) :
    wpAny (model prg w) A (call (.type "enumerate") [v]) Q Er s := by
  refine callType_new F.called_enumerate (by decide) (F.typeCall_enumerate_1 _) (F.newCall_enumerate_1 _) (fun x => F.args_object_init_2 x _) F.entry_enumerate_new
    (meets_enumerate_new1 B) ⟨t1, ?_⟩
  have sm : (s.heap.push ob).objs.size = s.heap.objs.size + 1 := Heap.size_push ..
  show _ ∧ _
  rw [sm]
  have en : IsEnum ((s.heap.push ob).push { cls := .type "enumerate", data := .fields #[.none, .bool false, .ref s.heap.objs.size, rawInt 0, .none, .none] }) (s.heap.objs.size + 1) s.heap.objs.size 0 .none := by
    have := Heap.get?_push_size (s.heap.push ob) (o := { cls := .type "enumerate", data := .fields #[.none, .bool false, .ref s.heap.objs.size, rawInt 0, .none, .none] }) rfl
    rw [sm] at this; exact this
  refine ⟨⟨_, en, rfl⟩, h _ en (Heap.get?_push_of_some _ (Heap.get?_push_size _ B.free)) (by rw [Heap.size_push, sm]) fun bb ob x => Heap.get?_push_of_some _ (Heap.get?_push_of_some _ x)⟩
end
def IteT (K : PySem.W.Frag) (a : Addr) : It :=
  ⟨fun i H => ∃ (xs : List V) (x : V), SqT K H a xs ∧ xs[i]? = some x, fun i H v H' => ∃ T x, v = .ref T ∧ H T = none ∧ H' = upd H T (.tup [.int (i : Nat), x]) ∧ ∀ xs, SqT K H a xs → xs[i]? = some x, fun i H => ∃ xs : List V, SqT K H a xs ∧ i = xs.length⟩
theorem turn_enumT {P : Program} {w : World} {K : PySem.W.Frag} {elts : List Expr} {kk : Nat} {tpos : Pos} (a e it : Addr) :
    Turn P w K (.Tuple elts kk tpos) (IteT K a) [e, it] e (fun i h => (∃ prv, IsEnum h e it ((i : Nat) : Int) prv) ∧ h.IsTupleIter it a i ∧ e ≠ it ∧ e ≠ a ∧ a ≠ it) where
  mem := by simp
  obj := fun i h st bb mb => by
    obtain ⟨⟨prv, en⟩, ⟨ob, hob, cal, hd⟩, _⟩ := st
    have alt : bb = e ∨ bb = it := by simpa using mb
    rcases alt with z | z
    · rw [z]; exact ⟨_, en, fun v q => nomatch q⟩
    · rw [z]; exact ⟨ob, hob, fun v q => by rw [hd] at q; cases q⟩
  keep := fun i h g1 st k => let ⟨⟨prv, en⟩, hi, n1⟩ := st; ⟨⟨prv, k e (by simp) _ en⟩, hi.at fun ob q => k it (by simp) ob q, n1⟩
  item := by
    intro X aP aw aK cal i pn s st1 H Er I off st hg
    subst aP aw aK
    obtain ⟨⟨prv, en⟩, ti, n1, n2, n3⟩ := st
    obtain ⟨xs, x, sq, hx⟩ := hg
    obtain ⟨ws, rel, p, sm⟩ := I.tuple sq
    obtain ⟨u, gu, relu⟩ := rel.get hx
    have lte : e < s.heap.objs.size := Heap.lt_size en
    have lti : it < s.heap.objs.size := by obtain ⟨_, q, _⟩ := ti; exact Heap.lt_size q
    have lti2 : i < ws.length := (List.getElem?_eq_some_iff.mp gu).1
    have D := Draws.tuple (prog := X.prog) (w := X.w) (A := X.A.in1) (I.ok.hd cal) it a n3 ws.toArray
    refine wpAny_pyNext_enum_itemD D en ⟨ti, p⟩ (by simpa using lti2) n1 (by simp [n1, n2]) fun y g1 tk hyy hob hst' hT szz kp => ?_
    obtain ⟨hit', _⟩ := hst'
    have ey : y = u := by
      have z : ws[i]? = some y := by simpa using hyy
      rw [gu] at z
      exact (Option.some.inj z).symm
    subst ey
    refine ⟨_, rfl, wpAny_letOwnedTupleGo_enum (s := { s with heap := g1, toks := tk + 1 }) hob fun g2 he' sb => ?_⟩
    have hT2 : g2.get? s.heap.objs.size = some { cls := .type "tuple", data := .seq #[.int i tk, y] } := (sb.2 _ (Nat.ne_of_gt lte)).trans hT
    have new : ObjOk X.prog X.w (upd H s.heap.objs.size (.tup [.int (i : Nat), x])) g2 s.heap.objs.size (.tup [.int (i : Nat), x]) :=
      ⟨by show 2 ≤ sizeLine; decide, [.int i tk, y], .cons ⟨_, rfl⟩ (.cons relu .nil), ⟨_, hT2, rfl, _, rfl⟩⟩
    have In1 : Inv X pn st1 (upd H s.heap.objs.size (.tup [.int (i : Nat), x])) { s with heap := g2, toks := tk + 1 } :=
      I.turnedNew (ch := [e, it]) (fun bb ob mb q => (sb.2 bb (fun z => mb (by simp [z]))).trans (kp bb ob (fun z => mb (by simp [z])) (fun z => mb (by simp [z])) q)) off (Nat.le_refl _) new
    refine ⟨.ref s.heap.objs.size, _, In1, rfl, ⟨_, x, rfl, I.hok.fresh (Nat.le_refl _), rfl, fun ys hyy => by rw [I.tuple_inj hyy sq]; exact hx⟩, ⟨⟨y, ?_⟩, hit'.at fun ob q => (sb.2 it (Ne.symm n1)).trans q, n1, n2, n3⟩, fun bb mb => ?_⟩
    · have nxt1 : ((i + 1 : Nat) : Int) = (i : Int) + 1 := by omega
      rw [nxt1]; exact he'
    · have mb2 : bb < s.heap.objs.size := by
        have alt : bb = e ∨ bb = it := by simpa using mb
        rcases alt with z | z
        · rw [z]; exact lte
        · rw [z]; exact lti
      rw [upd_ne (Nat.ne_of_lt mb2)]
      exact (off bb mb).1
  done := by
    intro X aP aw aK cal i pn s st1 H Er I off st hg
    subst aP aw aK
    obtain ⟨⟨prv, en⟩, ti, n1, n2, n3⟩ := st
    obtain ⟨xs, sq, hx⟩ := hg
    obtain ⟨ws, rel, p, sm⟩ := I.tuple sq
    obtain ⟨f0, f1, f2, f3, f4, f5⟩ := off it (by simp)
    have len1 := rel.length
    have eqi : i = ws.toArray.size := by simp; omega
    have D := Draws.tuple (prog := X.prog) (w := X.w) (A := X.A.in1) (I.ok.hd cal) it a n3 ws.toArray
    have stands : s.heap.IsTupleIter it a ws.toArray.size ∧ s.heap.IsTuple a ws.toArray := ⟨eqi ▸ ti, p⟩
    exact wpAny_pyNext_enum_endD D en stands fun g1 keepb => ⟨rfl, I.turned (t' := s.toks) (fun bb ob mb q => keepb bb ob mb q) f0 f1 f3 f4 f5⟩
  self := fun A i s Q Er st h => let ⟨⟨_, en⟩, _⟩ := st; wpAny_pyIter_enum en h
def iEnumT (K : PySem.W.Frag) (ta : TA) : TI := fun st1 H R => ta st1 H fun vs Hq => ∃ a xs, vs = [.ref a] ∧ SqT K Hq a xs ∧ R (IteT K a) Hq
theorem pi_enumT {X : Cx} {e : Expr} {ta : TA} {p pos tpos : Pos} {elts : List Expr} {kk : Nat} (hg : Gl X "enumerate") (hm : X.mg "enumerate" = none) (ha : PA X [e] ta) (hs : starEach [e] X.env = [(false, eval e X.env)] := by rfl) :
    PI X (.Tuple elts kk tpos) (.Call (.Name "enumerate" p) [e] [] pos) (iEnumT X.K ta) := by
  refine ⟨fun pn s st1 H R I h => ?_⟩
  refine Call_ (ld_blt I hg hm boot_enumerate (PyProof.Rows.callWith_type1 (thn (ha.run pos pn s st1 H _ I h) fun uu sq1 ⟨vs, Hq, In1, rq, qv⟩ => ?_) hs rfl))
  obtain ⟨a, xs, ex, sq, q⟩ := qv
  subst ex
  cases rq with
  | cons r rr =>
    cases rr
    cases r
    obtain ⟨ws, rel, p', sm⟩ := In1.tuple sq
    have lta : a < sq1.heap.objs.size := p'.lt
    refine enum_begins1 (begins_tuple a ws.toArray) p' fun g1 en ti szz kp => wpAny_pyIter_enum en ?_
    have In2 : Inv X pn st1 Hq { sq1 with heap := g1 } := In1.kept (t' := sq1.toks) kp
    refine ⟨sq1.heap.objs.size + 1, [sq1.heap.objs.size + 1, sq1.heap.objs.size], _, _, Hq, rfl, In2, turn_enumT a (sq1.heap.objs.size + 1) sq1.heap.objs.size, ⟨⟨.none, en⟩, ⟨_, ti, rfl, rfl⟩, Nat.succ_ne_self _, Nat.ne_of_gt (Nat.lt_succ_of_lt lta), Nat.ne_of_lt lta⟩, fun bb mb => ?_, q⟩
    have alt : bb = sq1.heap.objs.size + 1 ∨ bb = sq1.heap.objs.size := by simpa using mb
    have low : sq1.heap.objs.size ≤ bb := by
      rcases alt with z | z
      · rw [z]; exact Nat.le_add_right _ _
      · rw [z]; exact Nat.le_refl _
    exact In1.fpOk low (In1.hok.fresh low)
theorem walk_enumT {K : PySem.W.Frag} {a : Addr} {xs : List V} : Walk (IteT K a) xs.length (fun H => SqT K H a xs) (YPair (fun i => some (.int (i : Nat))) (fun i => xs[i]?)) := by
  refine ⟨fun i _ hi q => ⟨xs, xs[i], q, by simp [hi]⟩, fun _ q => ⟨xs, q, rfl⟩, fun i H v H' _ q y => ?_⟩
  obtain ⟨T, x, t1, t2, t3, t4⟩ := y
  exact ⟨T, .int (i : Nat), x, t1, t2, t3, rfl, t4 xs q⟩
end OTR
set_option Elab.async false
set_option linter.all false
set_option maxRecDepth 100000
set_option maxHeartbeats 1000000
namespace OTR
open PySem PySem.Spec PyProof.Rows L2
/-- of an error of the class at C, with these fields: whatever ws dict's place -/
def Raised (C : Addr) (fs : List (Str × V)) (H : Hp) (E : XK) : Prop := ∀ (d : Addr) (H' : Hp), (∀ b o, H b = some o → H' b = some o) → H d = none → H' d = some (.xd fs) → E (.ref C) (some d) H'
theorem Raised.mono {C : Addr} {fs : List (Str × V)} {H H1 : Hp} {E : XK} (h : Raised C fs H E) (s : ∀ b o, H b = some o → H1 b = some o) : Raised C fs H1 E := fun d H' s' n e => h d H' (fun b o z => s' b o (s b o z)) (by
  cases q : H d with
  | none => rfl
  | some o =>
    rw [s d o q] at n
    cases n) e
/-- an error class with an __init__ of ws own -/
structure ErT (K : PySem.W.Frag) (mg : Str → Option Value) (nm : Str) (C fI : Addr) : Prop where
  gC : mg nm = some (.ref C)
  ox : OexC K C
  xf : XfC K C
  ex : ExcC K C
  iC : PySem.W.findIn K (.ref C) "__init__" = some (some (.ref fI))
  tI : PySem.W.typeIn K (.ref fI) = some (.type "function")
/-- __init__(self, f): self.f = f -/
def spEr1 (C : Addr) (f : Str) : Sp := fun vs H Qr _ => ∃ (a : Addr) (v : V), vs = [.ref a, v] ∧ H a = some (exo a C none) ∧ ∀ dx, H dx = none → dx ≠ a → Qr .non (upd (upd H dx (exd dx [(f, v)])) a (exo a C (some dx)))
/-- __init__(self, f, g): self.f = f; self.g = g -/
def spEr2 (C : Addr) (f g : Str) : Sp := fun vs H Qr _ => ∃ (a : Addr) (v y : V), vs = [.ref a, v, y] ∧ H a = some (exo a C none) ∧ ∀ dx, H dx = none → dx ≠ a → Qr .non (upd (upd (upd H dx (exd dx [(f, v)])) a (exo a C (some dx))) dx (exd dx [(g, y), (f, v)]))
def kEr (C : Addr) (a : Addr) (H : Hp) (Qr : XK) : VK := fun v H2 => v = .non ∧ ∃ (d : Addr) (fs : List (Str × V)), H2 a = some (exo a C (some d)) ∧ H2 d = some (exd d fs) ∧ H d = none ∧ Qr (.ref C) (some d) (upd (del H2 a) d (.xd fs))
theorem er1 {C a : Addr} {f : Str} {v : V} {H : Hp} {E : XK} (h : H a = none) (k : Raised C [(f, v)] H E) : spEr1 C f [.ref a, v] (upd H a (exo a C none)) (kEr C a H E) (fun _ _ _ => False) := by
  refine ⟨a, v, rfl, upd_same, fun dx n ne => ⟨rfl, dx, [(f, v)], upd_same, by rw [upd_ne ne]; exact upd_same, by rw [upd_ne ne] at n; exact n, ?_⟩⟩
  rw [upd_ne ne] at n
  refine k dx _ (fun b o e => ?_) n upd_same
  have t1 : b ≠ dx := ne_of_none e n
  have t2 : b ≠ a := ne_of_none e h
  rw [upd_ne t1, del_ne t2, upd_ne t2, upd_ne t1, upd_ne t2]
  exact e
theorem er2 {C a : Addr} {f g : Str} {v y : V} {H : Hp} {E : XK} (h : H a = none) (k : Raised C [(g, y), (f, v)] H E) : spEr2 C f g [.ref a, v, y] (upd H a (exo a C none)) (kEr C a H E) (fun _ _ _ => False) := by
  refine ⟨a, v, y, rfl, upd_same, fun dx n ne => ⟨rfl, dx, [(g, y), (f, v)], by rw [upd_ne (Ne.symm ne)]; exact upd_same, upd_same, by rw [upd_ne ne] at n; exact n, ?_⟩⟩
  rw [upd_ne ne] at n
  refine k dx _ (fun b o e => ?_) n upd_same
  have t1 : b ≠ dx := ne_of_none e n
  have t2 : b ≠ a := ne_of_none e h
  rw [upd_ne t1, del_ne t2, upd_ne t1, upd_ne t2, upd_ne t1, upd_ne t2]
  exact e
section
variable {P : Program} {w : World} {K : PySem.W.Frag} {mg : Str → Option Value} {bas : Heap}
theorem lk0 {f : Str} {v : V} {r : List (Str × V)} : ((f, v) :: r).lookup f = some v := by rw [lookup_put, if_pos rfl]
theorem lk1 {f g : Str} {v : V} {r : List (Str × V)} (h : f ≠ g) : ((g, v) :: r).lookup f = r.lookup f := by rw [lookup_put, if_neg h]
end
end OTR
namespace OT
/-- a road: its ends and its length -/
abbrev Fact := Int × Int × Int
/-- the road r joins x and y -/
def Jn (r : Fact) (x y : Int) : Prop := (r.1 = x ∧ r.2.1 = y) ∨ (r.1 = y ∧ r.2.1 = x)
theorem Jn.symm {r : Fact} {x y : Int} (h : Jn r x y) : Jn r y x := Or.symm h
/-- x and y are joined by roads of F -/
inductive Con (F : List Fact) : Int → Int → Prop
  | refl (x : Int) : Con F x x
  | step {x y z : Int} {r : Fact} (h : Con F x y) (m : r ∈ F) (j : Jn r y z) : Con F x z
theorem Con.one {F : List Fact} {x y : Int} {r : Fact} (m : r ∈ F) (j : Jn r x y) : Con F x y := .step (.refl x) m j
theorem Con.trans {F : List Fact} {x y z : Int} (h : Con F x y) (k : Con F y z) : Con F x z := by
  induction k with
  | refl => exact h
  | step _ m j ih => exact .step ih m j
theorem Con.symm {F : List Fact} {x y : Int} (h : Con F x y) : Con F y x := by
  induction h with
  | refl => exact .refl _
  | step _ m j ih => exact (Con.one m j.symm).trans ih
theorem Con.mono {F G : List Fact} (s : ∀ r ∈ F, r ∈ G) {x y : Int} (h : Con F x y) : Con G x y := by
  induction h with
  | refl => exact .refl _
  | step _ m j ih => exact .step ih (s _ m) j
theorem Con.nil {x y : Int} (h : Con [] x y) : x = y := by
  cases h with
  | refl => rfl
  | step _ m _ => cases m
theorem con_snoc {F : List Fact} {r : Fact} {x y : Int} : Con (F ++ [r]) x y ↔ Con F x y ∨ (Con F x r.1 ∧ Con F r.2.1 y) ∨ (Con F x r.2.1 ∧ Con F r.1 y) := by
  constructor
  · intro h
    induction h with
    | refl => exact .inl (.refl _)
    | @step y z q _ m j ih =>
      rcases List.mem_append.mp m with m | m
      · rcases ih with h | ⟨h, k⟩ | ⟨h, k⟩
        · exact .inl (.step h m j)
        · exact .inr (.inl ⟨h, .step k m j⟩)
        · exact .inr (.inr ⟨h, .step k m j⟩)
      · obtain rfl := List.mem_singleton.mp m
        rcases j with ⟨rfl, rfl⟩ | ⟨rfl, rfl⟩
        · rcases ih with h | ⟨h, k⟩ | ⟨h, k⟩
          · exact .inr (.inl ⟨h, .refl _⟩)
          · exact .inr (.inl ⟨h, .refl _⟩)
          · exact .inl h
        · rcases ih with h | ⟨h, k⟩ | ⟨h, k⟩
          · exact .inr (.inr ⟨h, .refl _⟩)
          · exact .inl h
          · exact .inr (.inr ⟨h, .refl _⟩)
  · have s : ∀ q ∈ F, q ∈ F ++ [r] := fun q h => List.mem_append_left _ h
    have m : r ∈ F ++ [r] := List.mem_append_right _ (List.mem_singleton.mpr rfl)
    rintro (h | ⟨h, k⟩ | ⟨h, k⟩)
    · exact h.mono s
    · exact ((h.mono s).trans (.one m (.inl ⟨rfl, rfl⟩))).trans (k.mono s)
    · exact ((h.mono s).trans (.one m (.inr ⟨rfl, rfl⟩))).trans (k.mono s)
/-- the way from x to y over the roads with these numbers -/
inductive Way (F : List Fact) : Int → List Nat → Int → Prop
  | nil (x : Int) : Way F x [] x
  | cons {x y z : Int} {k : Nat} {r : Fact} {l : List Nat} (e : F[k]? = some r) (j : Jn r x y) (w : Way F y l z) : Way F x (k :: l) z
theorem Way.append {F : List Fact} {x y z : Int} {l m : List Nat} (h : Way F x l y) (k : Way F y m z) : Way F x (l ++ m) z := by
  induction h with
  | nil => exact k
  | cons e j _ ih => exact .cons e j (ih k)
theorem Way.rev {F : List Fact} {x y : Int} {l : List Nat} (h : Way F x l y) : Way F y l.reverse x := by
  induction h with
  | nil => exact .nil _
  | cons e j _ ih =>
    rw [List.reverse_cons]
    exact ih.append (.cons e j.symm (.nil _))
theorem Way.con {F : List Fact} {x y : Int} {l : List Nat} (h : Way F x l y) : Con F x y := by
  induction h with
  | nil => exact .refl _
  | cons e j _ ih => exact (Con.one (List.mem_of_getElem? e) j).trans ih
theorem Way.mono {F G : List Fact} {x y : Int} {l : List Nat} (h : Way F x l y) : Way (F ++ G) x l y := by
  induction h with
  | nil => exact .nil _
  | cons e j _ ih => exact .cons (by rw [List.getElem?_append_left (List.getElem?_eq_some_iff.mp e).1]; exact e) j ih
theorem Way.mem {F : List Fact} {x y : Int} {l : List Nat} (h : Way F x l y) : ∀ k ∈ l, ∃ r, F[k]? = some r ∧ Con F x r.1 := by
  induction h with
  | nil => intro k h; cases h
  | @cons x y z k r l e j w ih =>
    intro q hq
    rcases List.mem_cons.mp hq with rfl | hq
    · refine ⟨r, e, ?_⟩
      rcases j with ⟨rfl, rfl⟩ | ⟨rfl, rfl⟩
      · exact .refl _
      · exact Con.one (List.mem_of_getElem? e) (.inr ⟨rfl, rfl⟩)
    · obtain ⟨r', e', c⟩ := ih q hq
      exact ⟨r', e', (Con.one (List.mem_of_getElem? e) j).trans c⟩
theorem Way.lt {F : List Fact} {x y : Int} {l : List Nat} (h : Way F x l y) {k : Nat} (m : k ∈ l) : k < F.length := by
  obtain ⟨r, e, _⟩ := h.mem k m
  exact (List.getElem?_eq_some_iff.mp e).1
/-- a way over the new road -/
theorem way_over {F : List Fact} {r : Fact} {x y : Int} {l m : List Nat} (h : Way F x l r.1) (k : Way F r.2.1 m y) : Way (F ++ [r]) x (l ++ F.length :: m) y :=
  h.mono.append (.cons (by rw [List.getElem?_append_right (Nat.le_refl _)]; simp) (.inl ⟨rfl, rfl⟩) k.mono)
theorem way_nodup {F : List Fact} {r : Fact} {x y : Int} {l m : List Nat} (no : ¬ Con F r.1 r.2.1) (h : Way F x l r.1) (k : Way F r.2.1 m y) (hl : l.Nodup) (hm : m.Nodup) : (l ++ F.length :: m).Nodup := by
  rw [List.nodup_append]
  refine ⟨hl, List.nodup_cons.mpr ⟨fun z => Nat.lt_irrefl _ (k.lt z), hm⟩, ?_⟩
  intro a ha b hb e
  subst e
  rcases List.mem_cons.mp hb with rfl | hb
  · exact Nat.lt_irrefl _ (h.lt ha)
  · obtain ⟨q, e1, c1⟩ := h.rev.mem a (List.mem_reverse.mpr ha)
    obtain ⟨q', e2, c2⟩ := k.mem a hb
    rw [e1] at e2
    cases e2
    exact no (c1.trans c2.symm)
theorem nodup_le : ∀ (n : Nat) (l : List Nat), l.Nodup → (∀ k ∈ l, k < n) → l.length ≤ n
  | 0, l, _, h => by
    cases l with
    | nil => exact Nat.le_refl _
    | cons a l => exact absurd (h a (List.mem_cons_self ..)) (Nat.not_lt_zero _)
  | n + 1, l, hn, h => by
    have q := nodup_le n (l.erase n) (hn.erase n) fun k hk => by
      have h1 := h k (List.mem_of_mem_erase hk)
      have h2 : k ≠ n := fun z => by
        rw [z] at hk
        exact (List.Nodup.not_mem_erase hn) hk
      omega
    by_cases m : n ∈ l
    · have := List.length_erase_of_mem m
      omega
    · rw [List.erase_of_not_mem m] at q
      omega
theorem Way.short {F : List Fact} {x y : Int} {l : List Nat} (h : Way F x l y) (n : l.Nodup) : l.length ≤ F.length := nodup_le _ l n fun _ m => h.lt m
/-- the crossings are 0 to n - 1 -/
def In (n x : Int) : Prop := 0 ≤ x ∧ x < n
instance (n x : Int) : Decidable (In n x) := inferInstanceAs (Decidable (0 ≤ x ∧ x < n))
/-- what a tree's maker finds -/
inductive Err
  | crossings (n : Int) | roads (k : Int) | crossing (c : Int) | length (s : Int) | ring (k : Int)
  deriving DecidableEq
open Classical in
noncomputable def dueR (n : Int) : List Fact → List Fact → Option Err
  | _, [] => none
  | done, r :: rest => if ¬ In n r.1 then some (.crossing r.1) else if ¬ In n r.2.1 then some (.crossing r.2.1) else if ¬ (1 ≤ r.2.2 ∧ r.2.2 ≤ 1000000000) then some (.length r.2.2)
      else if Con done r.1 r.2.1 then some (.ring done.length) else dueR n (done ++ [r]) rest
noncomputable def due (n : Int) (F : List Fact) : Option Err :=
  if ¬ (2 ≤ n ∧ n ≤ 24) then some (.crossings n) else if (F.length : Int) ≠ n - 1 then some (.roads F.length) else dueR n [] F
theorem dueR_nil (n : Int) (done : List Fact) : dueR n done [] = none := by unfold dueR; rfl
theorem dueR_a {n : Int} {done rest : List Fact} {r : Fact} (h : ¬ In n r.1) : dueR n done (r :: rest) = some (.crossing r.1) := by
  rw [dueR, if_pos h]
theorem dueR_b {n : Int} {done rest : List Fact} {r : Fact} (h : In n r.1) (h2 : ¬ In n r.2.1) : dueR n done (r :: rest) = some (.crossing r.2.1) := by
  rw [dueR, if_neg (fun z => z h), if_pos h2]
theorem dueR_l {n : Int} {done rest : List Fact} {r : Fact} (h : In n r.1) (h2 : In n r.2.1) (h3 : ¬ (1 ≤ r.2.2 ∧ r.2.2 ≤ 1000000000)) : dueR n done (r :: rest) = some (.length r.2.2) := by
  rw [dueR, if_neg (fun z => z h), if_neg (fun z => z h2), if_pos h3]
theorem dueR_ring {n : Int} {done rest : List Fact} {r : Fact} (h : In n r.1) (h2 : In n r.2.1) (h3 : 1 ≤ r.2.2 ∧ r.2.2 ≤ 1000000000) (h4 : Con done r.1 r.2.1) : dueR n done (r :: rest) = some (.ring done.length) := by
  rw [dueR, if_neg (fun z => z h), if_neg (fun z => z h2), if_neg (fun z => z h3), if_pos h4]
theorem dueR_go {n : Int} {done rest : List Fact} {r : Fact} (h : In n r.1) (h2 : In n r.2.1) (h3 : 1 ≤ r.2.2 ∧ r.2.2 ≤ 1000000000) (h4 : ¬ Con done r.1 r.2.1) : dueR n done (r :: rest) = dueR n (done ++ [r]) rest := by
  rw [dueR, if_neg (fun z => z h), if_neg (fun z => z h2), if_neg (fun z => z h3), if_neg h4]
end OT
set_option Elab.async false
set_option linter.all false
set_option maxRecDepth 100000
set_option maxHeartbeats 1000000
namespace OT
open PySem L2 OTR
abbrev sBad : Stmt := inClass (top 4) 0
abbrev sNoC : Stmt := inClass (top 5) 0
abbrev sRing : Stmt := inClass (top 6) 0
abbrev sRoadI : Stmt := inClass (top 15) 0
abbrev sTreeI : Stmt := inClass (top 16) 0
abbrev sTrails : Stmt := top 17
abbrev sCheck : Stmt := top 18
abbrev sJoin : Stmt := top 19
theorem len1 {v : V} : [v].length ≤ 1000 := by show 1 ≤ 1000; decide
theorem len2 {v y : V} : [v, y].length ≤ 1000 := by show 2 ≤ 1000; decide
/-- what the walk asks of Road -/
structure RdT (K : PySem.W.Frag) (mg : Str → Option Value) (C : Addr) : Prop where
  cl : Cls K C
  nA : NoAttr K C "a"
  nB : NoAttr K C "b"
  nL : NoAttr K C "length"
  mgC : mg "Road" = some (.ref C)
def rdF (r : Fact) : List (Str × V) := [("a", .int r.1), ("b", .int r.2.1), ("length", .int r.2.2)]
theorem rdF_a (r : Fact) : (rdF r).lookup ("a" : Str) = some (.int r.1) := lk0
theorem rdF_b (r : Fact) : (rdF r).lookup ("b" : Str) = some (.int r.2.1) := by
  unfold rdF
  rw [lk1 (by decide +kernel)]
  exact lk0
theorem rdF_l (r : Fact) : (rdF r).lookup ("length" : Str) = some (.int r.2.2) := by
  unfold rdF
  rw [lk1 (by decide +kernel), lk1 (by decide +kernel)]
  exact lk0
theorem rdF_put (r : Fact) : putF "length" (.int r.2.2) (putF "b" (.int r.2.1) (putF "a" (.int r.1) [])) = rdF r := by
  have h1 : ¬ (("a" : Str) = "b") := by decide +kernel
  have h2 : ¬ (("a" : Str) = "length") := by decide +kernel
  have h3 : ¬ (("b" : Str) = "length") := by decide +kernel
  show putF "length" (.int r.2.2) (if ("a" : Str) = "b" then [(("a" : Str), V.int r.2.1)] else (("a" : Str), V.int r.1) :: putF "b" (.int r.2.1) []) = rdF r
  rw [if_neg h1]
  show (if ("a" : Str) = "length" then _ else (("a" : Str), V.int r.1) :: (if ("b" : Str) = "length" then _ else (("b" : Str), V.int r.2.1) :: putF "length" (.int r.2.2) [])) = rdF r
  rw [if_neg h2, if_neg h3]
  rfl
/-- a road at p -/
def RoadAt (CR : Addr) (H : Hp) (p : Addr) (r : Fact) : Prop := ∃ dx, H p = some (.ins CR dx (rdF r))
theorem RoadAt.same {CR : Addr} {H H' : Hp} {p : Addr} {r : Fact} (h : RoadAt CR H p r) (s : Same H H') : RoadAt CR H' p r := let ⟨dx, e⟩ := h; ⟨dx, s _ _ e⟩
/-- Road(a, b, length): its __init__ -/
def spRoadI (C : Addr) : Sp := fun vs H Q _ => ∃ (p dx : Addr) (r : Fact), vs = [.ref p, .int r.1, .int r.2.1, .int r.2.2] ∧ H p = some (.ins C dx []) ∧ ∀ H', RoadAt C H' p r → (∀ b o, H b = some o → b ≠ p → H' b = some o) → Q .non H'
/-- check_road -/
def LenOk (s : Int) : Prop := 1 ≤ s ∧ s ≤ 1000000000
def spCheck (CR CB CN : Addr) : Sp := fun vs H Q E => ∃ (n : Int) (p : Addr) (r : Fact), vs = [.int n, .ref p] ∧ RoadAt CR H p r ∧
  (¬ In n r.1 → Raised CN [("crossing", .int r.1)] H E) ∧ (In n r.1 → ¬ In n r.2.1 → Raised CN [("crossing", .int r.2.1)] H E) ∧
  (In n r.1 → In n r.2.1 → ¬ LenOk r.2.2 → Raised CB [("count", .int r.2.2), ("what", .str "length")] H E) ∧
  (In n r.1 → In n r.2.1 → LenOk r.2.2 → ∀ H', Same H H' → Q .non H')
section
variable {P : Program} {w : World} {K : PySem.W.Frag} {mg : Str → Option Value} {base : Heap}
theorem scBad : FnScope ["self", "what", "count"] ["self", "what", "count"] (defScope sBad) := ⟨rfl, rfl, rfl, by decide +kernel, rfl, by decide +kernel, by decide +kernel⟩
theorem ok_bad {f C : Addr} {fd : FuncData} (F : Fun K "__init__" "BadCount.__init__" sBad f fd) (T : OexC K C) (n1 : PySem.W.findIn K (.ref C) "what" = some none) (n2 : PySem.W.findIn K (.ref C) "count" = some none) : FnOk P w K mg base CX0 1 f fd ["self", "what", "count"] (spEr2 C "what" "count") := by
  refine F.ok scBad (fun vs H Q E h => ?_) (fun cdv A outer s H vs Q E hr h => ?_)
  · obtain ⟨a, v, y, rfl, _⟩ := h
    rfl
  · obtain ⟨a, v, y, rfl, ha, k⟩ := h
    refine ⟨_, pss_cons (ps_ost (pv 0) (pv 1)) (pss_one (ps_ost (pv 0) (pv 2))), ?_⟩
    refine ⟨_, rfl, _, rfl, a, C, rfl, T, n1, .inl ⟨ha, fun dx n ne => ?_⟩⟩
    refine ⟨_, rfl, _, rfl, a, C, rfl, T, n2, .inr ⟨dx, _, upd_same, by rw [upd_ne ne]; exact upd_same, (by show 1 ≤ 900; decide), ?_⟩⟩
    exact k dx n ne
theorem scNoC : FnScope ["self", "crossing"] ["self", "crossing"] (defScope sNoC) := ⟨rfl, rfl, rfl, by decide +kernel, rfl, by decide +kernel, by decide +kernel⟩
theorem ok_noc {f C : Addr} {fd : FuncData} (F : Fun K "__init__" "NoCrossing.__init__" sNoC f fd) (T : OexC K C) (n1 : PySem.W.findIn K (.ref C) "crossing" = some none) : FnOk P w K mg base CX0 1 f fd ["self", "crossing"] (spEr1 C "crossing") := by
  refine F.ok scNoC (fun vs H Q E h => ?_) (fun cdv A outer s H vs Q E hr h => ?_)
  · obtain ⟨a, v, rfl, _⟩ := h
    rfl
  · obtain ⟨a, v, rfl, ha, k⟩ := h
    refine ⟨_, pss_one (ps_ost (pv 0) (pv 1)), ?_⟩
    exact ⟨_, rfl, _, rfl, a, C, rfl, T, n1, .inl ⟨ha, fun dx n ne => k dx n ne⟩⟩
theorem scRing : FnScope ["self", "road"] ["self", "road"] (defScope sRing) := ⟨rfl, rfl, rfl, by decide +kernel, rfl, by decide +kernel, by decide +kernel⟩
theorem ok_ringI {f C : Addr} {fd : FuncData} (F : Fun K "__init__" "RingRoad.__init__" sRing f fd) (T : OexC K C) (n1 : PySem.W.findIn K (.ref C) "road" = some none) : FnOk P w K mg base CX0 1 f fd ["self", "road"] (spEr1 C "road") := by
  refine F.ok scRing (fun vs H Q E h => ?_) (fun cdv A outer s H vs Q E hr h => ?_)
  · obtain ⟨a, v, rfl, _⟩ := h
    rfl
  · obtain ⟨a, v, rfl, ha, k⟩ := h
    refine ⟨_, pss_one (ps_ost (pv 0) (pv 1)), ?_⟩
    exact ⟨_, rfl, _, rfl, a, C, rfl, T, n1, .inl ⟨ha, fun dx n ne => k dx n ne⟩⟩
theorem scRoadI : FnScope ["self", "a", "b", "length"] ["self", "a", "b", "length"] (defScope sRoadI) := ⟨rfl, rfl, rfl, by decide +kernel, rfl, by decide +kernel, by decide +kernel⟩
theorem ok_roadI {f C : Addr} {fd : FuncData} (F : Fun K "__init__" "Road.__init__" sRoadI f fd) (T : RdT K mg C) : FnOk P w K mg base CX0 1 f fd ["self", "a", "b", "length"] (spRoadI C) := by
  refine F.ok scRoadI (fun vs H Q E h => ?_) (fun cdv A outer s H vs Q E hr h => ?_)
  · obtain ⟨p, dx, r, rfl, _⟩ := h
    rfl
  · obtain ⟨p, dx, r, rfl, hp, k⟩ := h
    refine ⟨_, pss_cons (ps_fld (pv 0) (pv 1) rfl) (pss_cons (ps_fld (pv 0) (pv 2) rfl) (pss_one (ps_fld (pv 0) (pv 3) rfl))), ?_⟩
    refine ⟨_, rfl, _, rfl, p, C, dx, [], rfl, hp, T.cl, T.nA, (by show 0 < 1000; decide), ?_⟩
    refine ⟨_, rfl, _, rfl, p, C, dx, _, rfl, upd_same, T.cl, T.nB, (by show 1 < 1000; decide), ?_⟩
    refine ⟨_, rfl, _, rfl, p, C, dx, putF "b" (.int r.2.1) (putF "a" (.int r.1) []), rfl, upd_same, T.cl, T.nL, ?_, ?_⟩
    · have h1 : ¬ (("a" : Str) = "b") := by decide +kernel
      show (if ("a" : Str) = "b" then [(("a" : Str), V.int r.2.1)] else (("a" : Str), V.int r.1) :: putF "b" (.int r.2.1) []).length < 1000
      rw [if_neg h1]
      show 2 < 1000
      decide
    · refine k _ ⟨dx, ?_⟩ fun b o e n => ?_
      · rw [rdF_put]
        exact upd_same
      · rw [upd_ne n, upd_ne n, upd_ne n]
        exact e
theorem scCheck : FnScope ["crossings", "road", "crossing"] ["crossings", "road"] (defScope sCheck) := ⟨rfl, rfl, rfl, by decide +kernel, rfl, by decide +kernel, by decide +kernel⟩
theorem ok_check {f CR CB CN fB fN : Addr} {fd fdB fdN : FuncData} (F : Fun K "check_road" "check_road" sCheck f fd) (TR : RdT K mg CR) (TB : ErT K mg "BadCount" CB fB) (TN : ErT K mg "NoCrossing" CN fN)
    (FB : FnOk P w K mg base CX0 1 fB fdB ["self", "what", "count"] (spEr2 CB "what" "count")) (bB : Binds K fdB ["self", "what", "count"] [])
    (FN : FnOk P w K mg base CX0 1 fN fdN ["self", "crossing"] (spEr1 CN "crossing")) (bN : Binds K fdN ["self", "crossing"] []) (hL : ∃ t, mg "LONGEST_ROAD" = some (.int 1000000000 t)) :
    FnOk P w K mg base (L2.CX P w) 3 f fd ["crossings", "road"] (spCheck CR CB CN) := by
  refine F.okX scCheck (fun vs H Q E h => ?_) (fun cdv A outer s H vs Q E hr h => ?_)
  · obtain ⟨n, p, r, rfl, _⟩ := h
    rfl
  · obtain ⟨n, p, r, rfl, hR, k1, k2, k3, k4⟩ := h
    obtain ⟨tL, hL⟩ := hL
    refine ⟨_, pss_cons (ps_for (passes_of rfl) rfl (pi_tup (pe_tup (pa_cons (pe_fld (pv 1) rfl) (pa_cons (pe_fld (pv 1) rfl) pa_nil)))) (pg_name (i := 2) scCheck.nd rfl (Or.inl rfl))
        (pss_one (ps_if (pt_not (pt_chain op_le op_lt pe_int (pv 2) (pv 0))) (pss_one (ps_raise rfl (takes_of rfl rfl rfl rfl) (pmk_oex TN.ox TN.iC TN.tI FN hr bN .nil pass0 (by rfl) TN.gC (pa_cons (pv 2) pa_nil)))) pss_nil)))
      (pss_one (ps_if (pt_not (pt_chain op_le op_le pe_int (pe_fld (pv 1) rfl) (pe_glob (v := V.int 1000000000) rfl hL ⟨tL, rfl⟩)))
        (pss_one (ps_raise rfl (takes_of rfl rfl rfl rfl) (pmk_oex TB.ox TB.iC TB.tI FB hr bB .nil pass0 (by rfl) TB.gC (pa_cons pe_str (pa_cons (pe_fld (pv 1) rfl) pa_nil))))) pss_nil)), ?_⟩
    obtain ⟨dx, hp⟩ := id hR
    refine ⟨_, rfl, p, CR, dx, _, _, rfl, hp, TR.cl, TR.nA, rdF_a r, _, rfl, p, CR, dx, _, _, rfl, hp, TR.cl, TR.nB, rdF_b r, (by show 2 ≤ sizeLine; decide), fun t ht => ?_⟩
    refine ⟨t, rfl, ⟨_, SqT.of upd_same⟩, for_tup (K := K) (a := t) (xs := [V.int r.1, V.int r.2.1]) (fun i σ H2 => ∃ v : Option V, σ = [some (.int n), some (.ref p), v] ∧ Same (upd H t (.tup [V.int r.1, V.int r.2.1])) H2 ∧ (1 ≤ i → In n r.1) ∧ (2 ≤ i → In n r.2.1))
      ⟨none, rfl, Same.refl _, fun z => absurd z (by decide), fun z => absurd z (by decide)⟩ (fun i σ H2 _ ⟨_, _, s2, _⟩ => SqT.of (s2 _ _ upd_same)) ?_ ?_⟩
    · rintro i y σ H2 hi ⟨v, rfl, s2, i1, i2⟩
      have s1 : Same H H2 := (Same.new ht).trans s2
      have hil : i < 2 := (List.getElem?_eq_some_iff.mp hi).1
      have hc : i = 0 ∨ i = 1 := by omega
      rcases hc with rfl | rfl
      · cases hi
        refine ⟨_, rfl, _, _, rfl, rfl, _, rfl, ?_⟩
        by_cases h0 : 0 ≤ r.1
        · rw [decide_eq_true h0]
          refine iteT ⟨_, rfl, _, _, rfl, rfl, _, rfl, ?_⟩
          by_cases h1 : r.1 < n
          · rw [decide_eq_true h1]
            exact iteF ⟨_, rfl, s2, fun _ => ⟨h0, h1⟩, fun z => absurd z (by decide)⟩
          · rw [decide_eq_false h1]
            refine iteT ⟨_, rfl, len1, fun a ha => er1 ha ((k1 fun z => h1 z.2).mono s1)⟩
        · rw [decide_eq_false h0]
          refine iteF ⟨_, rfl, ?_⟩
          exact iteT ⟨_, rfl, len1, fun a ha => er1 ha ((k1 fun z => h0 z.1).mono s1)⟩
      · cases hi
        have in1 := i1 (Nat.le_refl _)
        refine ⟨_, rfl, _, _, rfl, rfl, _, rfl, ?_⟩
        by_cases h0 : 0 ≤ r.2.1
        · rw [decide_eq_true h0]
          refine iteT ⟨_, rfl, _, _, rfl, rfl, _, rfl, ?_⟩
          by_cases h1 : r.2.1 < n
          · rw [decide_eq_true h1]
            exact iteF ⟨_, rfl, s2, fun _ => in1, fun _ => ⟨h0, h1⟩⟩
          · rw [decide_eq_false h1]
            refine iteT ⟨_, rfl, len1, fun a ha => er1 ha ((k2 in1 fun z => h1 z.2).mono s1)⟩
        · rw [decide_eq_false h0]
          refine iteF ⟨_, rfl, ?_⟩
          exact iteT ⟨_, rfl, len1, fun a ha => er1 ha ((k2 in1 fun z => h0 z.1).mono s1)⟩
    · rintro σ H2 ⟨v, rfl, s2, i1, i2⟩
      have s1 : Same H H2 := (Same.new ht).trans s2
      have in1 := i1 (by show 1 ≤ 2; decide)
      have in2 := i2 (by show 2 ≤ 2; decide)
      have hp2 := s1 _ _ hp
      refine ⟨_, rfl, p, CR, dx, _, _, rfl, hp2, TR.cl, TR.nL, rdF_l r, _, _, rfl, rfl, _, rfl, ?_⟩
      by_cases h0 : 1 ≤ r.2.2
      · rw [decide_eq_true h0]
        refine iteT ⟨_, _, rfl, rfl, _, rfl, ?_⟩
        by_cases h1 : r.2.2 ≤ 1000000000
        · rw [decide_eq_true h1]
          exact iteF (k4 in1 in2 ⟨h0, h1⟩ _ s1)
        · rw [decide_eq_false h1]
          exact iteT ⟨_, rfl, p, CR, dx, _, _, rfl, hp2, TR.cl, TR.nL, rdF_l r, len2, fun a ha => er2 ha ((k3 in1 in2 fun z => h1 z.2).mono s1)⟩
      · rw [decide_eq_false h0]
        refine iteF ⟨_, rfl, ?_⟩
        exact iteT ⟨_, rfl, p, CR, dx, _, _, rfl, hp2, TR.cl, TR.nL, rdF_l r, len2, fun a ha => er2 ha ((k3 in1 in2 fun z => h0 z.1).mono s1)⟩
end
end OT
set_option Elab.async false
set_option linter.all false
set_option maxRecDepth 100000
set_option maxHeartbeats 4000000
namespace OTR
open PySem PySem.Spec PyProof.Rows L2
theorem d_dictSetT {X : Cx} {pins : List (Addr × Obj)} {σ : L2.St} {H : Hp} {s : Shared} {E : Value → Shared → Prop} {D b : Addr} {ent : List (List Key × V)} {key : List Key} {v : V} {u r : Value} {Q : Unit → Shared → Prop} (hu : X.A.units + 1 < cLine) (Iv : Inv X pins σ H s) (atD : H D = some (.dT ent)) (eb : H b = some (.tup (key.map kV))) (hz : ent.length < sizeLine)
    (rky : RelV (.ref b) u) (rv : RelV v r) (h : ∀ s', Inv X pins σ (upd H D (.dT (putK ent key v))) s' → Q () s') : wpAny (model X.prog X.w) X.A (dictSet D u r) Q E s := by
  cases (show u = Value.ref b from rky)
  obtain ⟨zz, fin, xs, rel, dd⟩ := dt_of Iv.hok atD
  have hzv : xs.length ≤ sizeLine := by rw [← Paired.length rel]; exact zz
  have len1 : (putK ent key v).length ≤ sizeLine := by have := length_putK ent key v; omega
  refine wpAny_dictSet_heap (hsz := hzv) (Nat.lt_of_succ_lt hu) (key_of Iv.hok eb) dd fun h' dd' hs => h _ ?_
  obtain ⟨q, slots, prm, hq, t2, t3, t4, _, t5⟩ := dd'
  refine d_write Iv (by rw [atD]; exact True.intro) hs ⟨q, hq⟩ ⟨len1, fin, _, (rel.put key eb rv).keeps fun c ys ec => ?_, q, slots, prm, hq, t2, t3, t4, t5⟩
  rw [upd_ne (ne_of ec atD (fun zz => nomatch zz))]
  exact ec
section
variable {X : Cx}
def tDcT (wi : TI) (g : TG) (tt : TT) (tk tv : TE) (vs : List Nat) : TE := fun σ H Q => wi σ H fun J H1 => ∀ D, H1 D = none → ∃ W : Nat → Nat → Hp → Prop, (∃ mm, W 0 mm (upd H1 D (.dT []))) ∧ ∀ i mm H, W i mm H →
  (J.stop i H ∧ Q (.ref D) H) ∨ (J.go i H ∧ ∃ Nxt : Hp → Prop, (∀ H', Nxt H' → ∃ m', m' < mm ∧ W (i + 1) m' H') ∧ ∀ x H', J.yld i H x H' → g x (wipe σ vs) H' fun σ2 Hb => wipe σ2 vs = wipe σ vs ∧ tt σ2 Hb fun b Hc =>
    if b = true then tk σ2 Hc fun y Hk => tv σ2 Hk fun zz Hv => ∃ ent key b, y = .ref b ∧ Hv b = some (.tup (key.map kV)) ∧ Hv D = some (.dT ent) ∧ ent.length < sizeLine ∧ Nxt (upd Hv D (.dT (putK ent key zz))) else Nxt Hc)
theorem dcT_core {pin0 : List (Addr × Obj)} {s : Shared} {σ : L2.St} {H : Hp} {Q : VK} {kx vx tg iter : Expr} {ifs : List Expr} {scope : Scope} {own : List (Str × Nat)} {pos pos2 : Pos} {wi : TI} {g : TG} {tt : TT} {tk tv : TE} {aft : Option (Value → Sem Unit)} {Qq : Value → Shared → Prop}
    (hu : X.A.units + 1 < cLine) (hc : X.calm = true) (nodN : X.N.Nodup) (Iv : Inv X pin0 σ H s) (walk : PI X tg iter wi) (ok : BlkOk X.N X.env.scope scope own)
    (rdG : ∀ (s : Shared) (H : Hp) (Cn : Addr) (clo : List (Str × Addr)) (foot : List Addr), PG (X.blk s H scope (compEnvC scope clo Cn X.env) foot) tg g) (rdT : ∀ (s : Shared) (H : Hp) (Cn : Addr) (clo : List (Str × Addr)) (foot : List Addr), PTs (X.blk s H scope (compEnvC scope clo Cn X.env) foot) ifs tt)
    (rdK : ∀ (s : Shared) (H : Hp) (Cn : Addr) (clo : List (Str × Addr)) (foot : List Addr), PE (X.blk s H scope (compEnvC scope clo Cn X.env) foot) kx tk)
    (rdV : ∀ (s : Shared) (H : Hp) (Cn : Addr) (clo : List (Str × Addr)) (foot : List Addr), PE (X.blk s H scope (compEnvC scope clo Cn X.env) foot) vx tv) (hs : ∀ xx, foldedSetIterable iter X.env xx = pure xx)
    (h : tDcT wi g tt tk tv (own.map (·.2)) σ H Q)
    (goOn : ∀ D Cn s' mm H', Inv X pin0 σ H' s' → Q (.ref D) H' → s'.heap.Ns Cn mm → FpOk X pin0 H' Cn → compPost (model X.prog X.w) X.A X.xe aft Qq (.ref D) Cn (.ok .next) s') :
    wpAny (model X.prog X.w) X.A (comprehension (.DictComp kx vx [⟨tg, iter, ifs, 0⟩] scope pos) scope X.env pos2 newDict false (eval iter X.env) aft) Qq X.xe s := by
  have frees : ∀ y ∈ scope.names, y.2 = .free → ∃ c, X.env.cells.lookup y.1 = some c := fun y hy e => by
    rcases ok.free y hy e with key | key
    · exact Iv.ok.has _ (.inl key)
    · exact Iv.ok.has _ (.inr key)
  refine wpAny_comprehension_free (use := aft) rfl hs (closure_ok frees) ok.kind (fun y hy e => by rw [ok.uniq y hy, e])
    (thn (walk.run pin0 s σ H _ Iv h) fun xvv u1 hxx => thn hxx fun ivv u2 hv2 => ?_)
  obtain ⟨it, foot, tn, W1, U2, e, K2, T, at_2, off_2, q⟩ := hv2
  subst e
  refine wpAny_newObj_type (newEnv_comp ?_)
  generalize eD : u2.heap.objs.size = D
  have nD : U2 D = none := K2.hok.fresh (Nat.le_of_eq eD)
  obtain ⟨W, ⟨mv0, wv0⟩, round⟩ := q D nD
  -- the new list
  generalize es0 : ({ u2 with heap := u2.heap.push { cls := .type "dict", data := .dict #[] } } : Shared) = t0
  have J0 : Inv X pin0 σ (upd U2 D (.dT [])) t0 := by
    rw [← es0]
    refine K2.laid (t' := u2.toks) (fun b o e => Heap.get?_push_of_some _ e) (Nat.le_of_eq eD) ?_
    rw [← eD]
    exact dt_empty u2.heap K2.big
  have e0 : t0.heap = u2.heap.push { cls := .type "dict", data := .dict #[] } := by rw [← es0]
  have low0 : ∀ b ∈ foot, b < u2.heap.objs.size := fun b hb => by
    obtain ⟨o, e, _⟩ := T.obj _ _ at_2 b hb
    exact Heap.lt_size e
  have off0 : ∀ b ∈ foot, FpOk X pin0 (upd U2 D (.dT [])) b ∧ b < t0.heap.objs.size := fun b hb => by
    have lt2 := low0 b hb
    refine ⟨⟨?_, (off_2 b hb).2⟩, by rw [e0, Heap.size_push]; exact Nat.lt_succ_of_lt lt2⟩
    rw [upd_ne (by rw [← eD]; exact Nat.ne_of_lt lt2)]
    exact (off_2 b hb).1
  have at0 : tn 0 t0.heap := T.keep _ _ _ at_2 fun b _ o e => by rw [e0]; exact Heap.get?_push_of_some _ e
  have J1 := block_start J0 ok nodN off0
  have rg := rdG t0 (upd U2 D (.dT [])) t0.heap.objs.size (cellsFrom (t0.heap.objs.size + 1) scope.names (cloFrom X.env.cells scope.names [])) foot
  have rt := rdT t0 (upd U2 D (.dT [])) t0.heap.objs.size (cellsFrom (t0.heap.objs.size + 1) scope.names (cloFrom X.env.cells scope.names [])) foot
  have rk := rdK t0 (upd U2 D (.dT [])) t0.heap.objs.size (cellsFrom (t0.heap.objs.size + 1) scope.names (cloFrom X.env.cells scope.names [])) foot
  have rv := rdV t0 (upd U2 D (.dT [])) t0.heap.objs.size (cellsFrom (t0.heap.objs.size + 1) scope.names (cloFrom X.env.cells scope.names [])) foot
  show codeAny _ _ (.compStart (.DictComp kx vx [⟨tg, iter, ifs, 0⟩] scope pos) 0 (.ref it) (.ref D) (compEnvC scope (cellsFrom (t0.heap.objs.size + 1) scope.names (cloFrom X.env.cells scope.names [])) t0.heap.objs.size X.env)) (compPost (model X.prog X.w) X.A X.xe aft Qq (.ref D) t0.heap.objs.size) { t0 with heap := pushCells (t0.heap.push { cls := .type "dict", data := .dict #[] }) scope.names }
  have offs : ∀ b ∈ foot, (upd U2 D (.dT [])) b = none := fun b hb => (off0 b hb).1.1
  generalize ece : compEnvC scope (cellsFrom (t0.heap.objs.size + 1) scope.names (cloFrom X.env.cells scope.names [])) t0.heap.objs.size X.env = cenv at J1 rg rt rk rv ⊢
  have cL : cenv.locals = t0.heap.objs.size := by subst ece; rfl
  generalize hH3 : upd U2 D (.dT []) = G0 at J0 J1 rg rt rk rv wv0 offs off0
  generalize es1 : ({ t0 with heap := pushCells (t0.heap.push { cls := .type "dict", data := .dict #[] }) scope.names } : Shared) = t1 at J1 ⊢
  have at1 : tn 0 t1.heap := T.keep _ _ _ at0 fun b _ o e => by rw [← es1]; exact pushCells_keeps _ _ _ _ (Heap.get?_push_of_some _ e)
  have still : ∀ {σ' : L2.St} {H' : Hp} {s' : Shared}, Inv (X.blk t0 G0 scope cenv foot) [] σ' H' s' → (∀ b ∈ foot, H' b = none) → ∀ b ∈ foot, FpOk (X.blk t0 G0 scope cenv foot) [] H' b := fun {σ' H' s'} Iw hn b hb =>
    ⟨hn b hb, (Iw.ok.exf b hb).1, Iw.ok.exfs b hb, .inl hb, fun xx c e => (Iw.ok.exf b hb).2 xx c e, fun p hp => absurd (show p ∈ ([] : List (Addr × Obj)) ++ [] from hp) (by simp)⟩
  have whole : codeAny (model X.prog X.w) X.A (.compLoop (.DictComp kx vx [⟨tg, iter, ifs, 0⟩] scope pos) 0 (.ref it) (.ref D) cenv) (compPost (model X.prog X.w) X.A X.xe aft Qq (.ref D) t0.heap.objs.size) t1 := by
    refine compLoop_anyD (fun n s' => ∃ i H', Inv (X.blk t0 G0 scope cenv foot) [] (wipe σ (own.map (·.2))) H' s' ∧ tn i s'.heap ∧ (∀ b ∈ foot, H' b = none) ∧ W i n H') ?_ mv0 ⟨0, G0, J1, at1, offs, wv0⟩
    rintro n t2 ⟨i, G2, J2, at2, n5, w5⟩
    rcases round i n G2 w5 with ⟨stop, qd⟩ | ⟨go, Nxt, hNx, step⟩
    · have dn := T.done (X.blk t0 G0 scope cenv foot) rfl rfl rfl hc i [] t2 _ G2 (fun _ _ => False) J2 (still J2 n5) at2 stop
      refine thnF dn fun r t3 ⟨hr, J3⟩ => ?_
      subst hr
      -- back in the def's context
      have J4 : Inv X pin0 σ G2 t3 := J0.call' (ch := foot) J3.os J3.base J3.hok J3.bare fun b hb => ⟨(off0 b hb).1.2.2.2.1, (off0 b hb).1.2.1, (off0 b hb).1.2.2.2.2.1, (off0 b hb).1.2.2.2.2.2⟩
      have nC : G2 t0.heap.objs.size = none := by
        have zz : G2 cenv.locals = none := J3.free
        rw [cL] at zz
        exact zz
      obtain ⟨mm, hn, _⟩ := J3.loc
      have hn : t3.heap.Ns cenv.locals mm := hn
      rw [cL] at hn
      exact goOn D t0.heap.objs.size t3 mm G2 J4 qd hn (J0.fpOk (Nat.le_refl _) nC)
    · have im := T.item (X.blk t0 G0 scope cenv foot) rfl rfl rfl hc i [] t2 _ G2 (fun _ _ => False) J2 (still J2 n5) at2 go
      refine thnF im fun r t3 ⟨u, hr, h6⟩ => ?_
      subst hr
      refine thnF h6 fun _ t4 ⟨xx, G4, J4, r7, y7, at4, n7⟩ => ?_
      have I7' := J4.pinned (still J4 n7) (T.obj _ _ at4)
      refine thnF (rg.run _ t4 _ G4 xx u _ I7' r7 (step xx G4 y7)) fun _ t5 ⟨σ8, G5, J5, eqw, q8⟩ => ?_
      refine thnF (rt.run _ t5 σ8 G5 _ J5 q8) fun b t6 ⟨G6, J6, qb⟩ => ?_
      -- the turn's end
      have ended : ∀ {s' : Shared} {H' : Hp}, Inv (X.blk t0 G0 scope cenv foot) ([] ++ pinsAt foot t4.heap) σ8 H' s' → Nxt H' → ∃ mm, mm < n ∧ ∃ i H', Inv (X.blk t0 G0 scope cenv foot) [] (wipe σ (own.map (·.2))) H' s' ∧ tn i s'.heap ∧ (∀ b ∈ foot, H' b = none) ∧ W i mm H' := fun {s' H'} Iw nx => by
        obtain ⟨m', lt1, wn⟩ := hNx H' nx
        have pin' : ∀ b ∈ foot, ∀ o, t4.heap.get? b = some o → s'.heap.get? b = some o ∧ H' b = none := fun b hb o e =>
          let zz := Iw.pin (b, o) (List.mem_append_right _ (List.mem_append_right _ (mem_pinsAt hb e)))
          ⟨zz.1, zz.2.1⟩
        have len1 : (wipe σ (own.map (·.2))).length = σ8.length := by rw [← eqw, wipe_length]
        refine ⟨m', lt1, i + 1, H', (Iw.unpinned (pins := [])).weak len1 (fun j v e => ?_), T.keep _ _ _ at4 fun b hb o e => (pin' b hb o e).1, fun b hb => ?_, wn⟩
        · rw [← eqw] at e
          exact (wipe_some e).1
        · obtain ⟨o, e, _⟩ := T.obj _ _ at4 b hb
          exact (pin' b hb o e).2
      cases b with
      | false =>
        simp only [Bool.false_eq_true, if_false] at qb ⊢
        exact ended J6 qb
      | true =>
        simp only [if_true] at qb ⊢
        refine thnF (rk.run _ t6 σ8 G6 _ J6 qb) fun zz t7 ⟨yk, G7, J7, r10, q10⟩ => ?_
        refine thnF (rv.run _ t7 σ8 G7 _ J7 q10) fun z2 t8 ⟨yv, G8, J8, r11, ent, key, kb, ek, ekb, hD11, hz11, nx⟩ => ?_
        subst ek
        exact d_dictSetT (X := X.blk t0 G0 scope cenv foot) hu J8 hD11 ekb hz11 r10 r11 fun t9 J9 => ended J9 nx
  exact codeAny_compStart_dict whole (T.self X.A 0 _ _ _ at1 whole)
/-- name = {..} on one line, the name a local -/
theorem swD_true {kx vx : Expr} {gs : List Comprehension} {scope : Scope} {pos pp : Pos} {y : Str} {l : Nat} {env : Env} (h1 : env.scope.kind = .function) (t2 : env.scope.names.lookup y = some .local) (t3 : (pp.line == pos.line) = true)
    (t4 : (scope.names.any fun (n, key) => n == y && (key == .local || key == .cell)) = false) : swapsWith (.DictComp kx vx gs scope pos) (some (.Name y pp)) l env = pure true := by
  have e1 : env.kindOf y = some .local := t2
  have e2 : env.blockKind = .function := by
    unfold Env.blockKind
    rw [h1]
    rfl
  unfold swapsWith
  simp only [e2, e1, t4, Expr.pos, t3]
  rfl
theorem ps_setDcT {i : Nat} {y : Str} {pp : Pos} {kx vx tg iter : Expr} {ifs : List Expr} {scope : Scope} {own : List (Str × Nat)} {pos spos : Pos} {wi : TI} {g : TG} {tt : TT} {tk tv : TE} (hu : X.A.units + 1 < cLine) (cm : X.calm = true) (nN : X.N.Nodup) (iy : X.N[i]? = some y) (yl : X.env.scope.names.lookup y = some .local)
    (sw : swapsWith (.DictComp kx vx [⟨tg, iter, ifs, 0⟩] scope pos) (some (.Name y pp)) spos.line X.env = pure true) (walk : PI X tg iter wi) (bk : BlkOk X.N X.env.scope scope own)
    (a1 : ∀ (s : Shared) (H : Hp) (Cn : Addr) (clo : List (Str × Addr)) (foot : List Addr), PG (X.blk s H scope (compEnvC scope clo Cn X.env) foot) tg g)
    (a2 : ∀ (s : Shared) (H : Hp) (Cn : Addr) (clo : List (Str × Addr)) (foot : List Addr), PTs (X.blk s H scope (compEnvC scope clo Cn X.env) foot) ifs tt)
    (a3 : ∀ (s : Shared) (H : Hp) (Cn : Addr) (clo : List (Str × Addr)) (foot : List Addr), PE (X.blk s H scope (compEnvC scope clo Cn X.env) foot) kx tk)
    (a4 : ∀ (s : Shared) (H : Hp) (Cn : Addr) (clo : List (Str × Addr)) (foot : List Addr), PE (X.blk s H scope (compEnvC scope clo Cn X.env) foot) vx tv) (a5 : ∀ x, foldedSetIterable iter X.env x = pure x := by intro _; rfl) :
    PS X (.Assign [.Name y pp] (.DictComp kx vx [⟨tg, iter, ifs, 0⟩] scope pos) spos) (tAsg (tDcT wi g tt tk tv (own.map (·.2))) (gName i)) := by
  refine ⟨fun ps0 s0 σ0 G0 D I0 h0 => ?_⟩
  rw [exec_Assign_Name_used _ _ _ _ sw]
  refine wpAny_bind (wpAny_standAt (wpAny_bind ?_))
  show wpAny _ X.A (do let _ ← comprehension (.DictComp kx vx [⟨tg, iter, ifs, 0⟩] scope pos) scope X.env (firstIterPos [⟨tg, iter, ifs, 0⟩] pos) newDict false (eval iter X.env) (some (assign (.Name y pp) X.env))) _ _ s0
  have h1 : tDcT wi g tt tk tv (own.map (·.2)) σ0 G0 (fun x H1 => gName i x σ0 H1 D.nx) := h0
  refine wpAny_bind (thn (dcT_core (Qq := fun _ u => SP X ps0 D .next u) hu cm nN I0 walk bk a1 a2 a3 a4 a5 h1 fun Ln Cn u mm G' J' q hn f => ?_) fun _ u hq => wpAny_pure (wpAny_pure hq))
  show wpAny _ _ (assign (.Name y pp) X.env (.ref Ln)) _ _ _
  refine wpAny_assign_Name (store_ok2 (v := V.ref Ln) J' nN iy (.inl yl) rfl (fun u2 J2 ⟨a, sb, ha⟩ => ?_) (.inr yl))
  obtain ⟨c0, c1, c2, c3, c4, c5⟩ := f
  have apart : Cn ≠ a := by
    rcases ha with zz | zz
    · rw [zz]
      exact c1
    · exact fun e => c4 y a zz e.symm
  exact ⟨mm, hn.sameBut sb apart, fun g3 same3 => ⟨_, G', J2.turned (t' := u2.toks) (fun b o hb e => (same3.2 b hb).trans e) c0 c1 c3 c4 c5, q⟩⟩
/-- over range(n): Pv by the turn and the heap -/
theorem dcT_range {lo : Int} {n : Nat} {g : TG} {tt : TT} {tk tv : TE} {vs : List Nat} {σ : L2.St} {H1 : Hp} {D : Addr} {Qd : Hp → Prop} (Pv : Nat → Hp → Prop) (h0 : Pv 0 (upd H1 D (.dT [])))
    (hs : ∀ i H, i < n → Pv i H → g (.int (lo + i)) (wipe σ vs) H fun σ2 Hb => wipe σ2 vs = wipe σ vs ∧ tt σ2 Hb fun b Hc =>
      if b = true then tk σ2 Hc fun y Hk => tv σ2 Hk fun zz Hv => ∃ ent key b, y = .ref b ∧ Hv b = some (.tup (key.map kV)) ∧ Hv D = some (.dT ent) ∧ ent.length < sizeLine ∧ Pv (i + 1) (upd Hv D (.dT (putK ent key zz))) else Pv (i + 1) Hc) (fin : ∀ H, Pv n H → Qd H) :
    ∃ W : Nat → Nat → Hp → Prop, (∃ mm, W 0 mm (upd H1 D (.dT []))) ∧ ∀ i mm H, W i mm H →
      ((Itr lo n).stop i H ∧ Qd H) ∨ ((Itr lo n).go i H ∧ ∃ Nxt : Hp → Prop, (∀ H', Nxt H' → ∃ m', m' < mm ∧ W (i + 1) m' H') ∧ ∀ x H', (Itr lo n).yld i H x H' → g x (wipe σ vs) H' fun σ2 Hb => wipe σ2 vs = wipe σ vs ∧ tt σ2 Hb fun b Hc =>
        if b = true then tk σ2 Hc fun y Hk => tv σ2 Hk fun zz Hv => ∃ ent key b, y = .ref b ∧ Hv b = some (.tup (key.map kV)) ∧ Hv D = some (.dT ent) ∧ ent.length < sizeLine ∧ Nxt (upd Hv D (.dT (putK ent key zz))) else Nxt Hc) := by
  refine ⟨fun i mm H => mm = n - i ∧ i ≤ n ∧ Pv i H, ⟨n, by simp, Nat.zero_le _, h0⟩, ?_⟩
  rintro i mm H ⟨rfl, le1, p⟩
  by_cases lt2 : i < n
  · refine .inr ⟨lt2, Pv (i + 1), fun H' pp2 => ⟨n - (i + 1), by omega, rfl, lt2, pp2⟩, fun x H' y => ?_⟩
    obtain ⟨e, ex⟩ := y
    subst e ex
    exact hs i _ lt2 p
  · have e : i = n := by omega
    subst e
    exact .inl ⟨Nat.le_refl _, fin H p⟩
end
end OTR
set_option Elab.async false
set_option linter.all false
set_option maxRecDepth 100000
set_option maxHeartbeats 2000000
namespace OT
open PySem L2 OTR
abbrev key2 (x y : Int) : List Key := [Sum.inl x, Sum.inl y]
theorem key2_inj {x y a b : Int} : key2 x y = key2 a b ↔ x = a ∧ y = b := by simp [key2]
def hasK (kvs : List (List Key × V)) (x y : Int) : Bool := (valV kvs (key2 x y)).isSome
theorem hasK_some {kvs : List (List Key × V)} {x y : Int} (h : hasK kvs x y = true) : ∃ v, valV kvs (key2 x y) = some v := Option.isSome_iff_exists.mp h
theorem hasK_of {kvs : List (List Key × V)} {x y : Int} {v : V} (h : valV kvs (key2 x y) = some v) : hasK kvs x y = true := by
  unfold hasK
  rw [h]
  rfl
theorem hasK_put {kvs : List (List Key × V)} {x y a b : Int} {v : V} : hasK (putK kvs (key2 x y) v) a b = true ↔ (a = x ∧ b = y) ∨ hasK kvs a b = true := by
  unfold hasK
  rw [valV_put]
  by_cases h : key2 a b = key2 x y
  · rw [if_pos h]
    exact ⟨fun _ => .inl (key2_inj.mp h), fun _ => rfl⟩
  · rw [if_neg h]
    exact ⟨.inr, fun z => z.resolve_left fun q => h (key2_inj.mpr q)⟩
/-- v is the trail from x to y -/
def TrailAt (K : PySem.W.Frag) (H : Hp) (F : List Fact) (x y : Int) (v : V) : Prop := ∃ (p : Addr) (l : List Nat), v = .ref p ∧ SqT K H p (l.map fun k => V.int (k : Nat)) ∧ Way F x l y ∧ l.Nodup
theorem sqT_but {K : PySem.W.Frag} {H H' : Hp} {d p : Addr} {xs : List V} {kvs : List (List Key × V)} (h : SqT K H p xs) (hd : H d = some (.dT kvs)) (e : But d H H') : SqT K H' p xs := by
  rcases h with (h | ⟨o, h⟩) | h
  · exact .inl (.inl (e _ _ h (ne_of h hd (fun z => nomatch z))))
  · exact .inl (.inr ⟨o, e _ _ h (ne_of h hd (fun z => nomatch z))⟩)
  · exact .inr h
theorem sqT_same {K : PySem.W.Frag} {H H' : Hp} {p : Addr} {xs : List V} (h : SqT K H p xs) (e : Same H H') : SqT K H' p xs := by
  rcases h with (h | ⟨o, h⟩) | h
  · exact .inl (.inl (e _ _ h))
  · exact .inl (.inr ⟨o, e _ _ h⟩)
  · exact .inr h
theorem TrailAt.but {K : PySem.W.Frag} {H H' : Hp} {d : Addr} {kvs : List (List Key × V)} {F : List Fact} {x y : Int} {v : V} (h : TrailAt K H F x y v) (hd : H d = some (.dT kvs)) (e : But d H H') : TrailAt K H' F x y v :=
  let ⟨p, l, a, b, c⟩ := h; ⟨p, l, a, sqT_but b hd e, c⟩
theorem TrailAt.same {K : PySem.W.Frag} {H H' : Hp} {F : List Fact} {x y : Int} {v : V} (h : TrailAt K H F x y v) (e : Same H H') : TrailAt K H' F x y v :=
  let ⟨p, l, a, b, c⟩ := h; ⟨p, l, a, sqT_same b e, c⟩
/-- at d stand the trails of all pairs that F joins -/
structure TrOk (K : PySem.W.Frag) (H : Hp) (d : Addr) (kvs : List (List Key × V)) (n : Int) (F : List Fact) : Prop where
  dc : H d = some (.dT kvs)
  has : ∀ x y, hasK kvs x y = true ↔ In n x ∧ In n y ∧ Con F x y
  val : ∀ x y v, valV kvs (key2 x y) = some v → TrailAt K H F x y v
  len : kvs.length ≤ 24 + 1200 * F.length
theorem TrOk.same {K : PySem.W.Frag} {H H' : Hp} {d : Addr} {kvs : List (List Key × V)} {n : Int} {F : List Fact} (h : TrOk K H d kvs n F) (e : Same H H') : TrOk K H' d kvs n F := ⟨e _ _ h.dc, h.has, fun x y v z => (h.val x y v z).same e, h.len⟩
/-- while the trails over a new road are added -/
structure Grow (K : PySem.W.Frag) (H : Hp) (d : Addr) (old kvs : List (List Key × V)) (n : Int) (F : List Fact) (r : Fact) : Prop where
  dc : H d = some (.dT kvs)
  sound : ∀ x y, hasK kvs x y = true → In n x ∧ In n y ∧ Con (F ++ [r]) x y
  keep : ∀ x y v, valV old (key2 x y) = some v → valV kvs (key2 x y) = some v
  val : ∀ x y v, valV kvs (key2 x y) = some v → TrailAt K H (F ++ [r]) x y v
theorem TrOk.grow {K : PySem.W.Frag} {H : Hp} {d : Addr} {kvs : List (List Key × V)} {n : Int} {F : List Fact} {r : Fact} (h : TrOk K H d kvs n F) : Grow K H d kvs kvs n F r :=
  ⟨h.dc, fun x y z => let ⟨a, b, c⟩ := (h.has x y).mp z; ⟨a, b, con_snoc.mpr (.inl c)⟩, fun _ _ _ z => z, fun x y v z => let ⟨p, l, a, b, c, e⟩ := h.val x y v z; ⟨p, l, a, b, c.mono, e⟩⟩
theorem Grow.same {K : PySem.W.Frag} {H H' : Hp} {d : Addr} {old kvs : List (List Key × V)} {n : Int} {F : List Fact} {r : Fact} (h : Grow K H d old kvs n F r) (e : Same H H') : Grow K H' d old kvs n F r := ⟨e _ _ h.dc, h.sound, h.keep, fun x y v z => (h.val x y v z).same e⟩
theorem Grow.put {K : PySem.W.Frag} {H : Hp} {d p : Addr} {old kvs : List (List Key × V)} {n x y : Int} {F : List Fact} {r : Fact} {l : List Nat} (h : Grow K H d old kvs n F r) (no : hasK old x y = false) (hx : In n x) (hy : In n y)
    (hp : SqT K H p (l.map fun k => V.int (k : Nat))) (w : Way (F ++ [r]) x l y) (nd : l.Nodup) : Grow K (upd H d (.dT (putK kvs (key2 x y) (.ref p)))) d old (putK kvs (key2 x y) (.ref p)) n F r := by
  refine ⟨upd_same, fun a b z => ?_, fun a b v z => ?_, fun a b v z => ?_⟩
  · rcases hasK_put.mp z with ⟨rfl, rfl⟩ | z
    · exact ⟨hx, hy, w.con⟩
    · exact h.sound a b z
  · rw [valV_put, if_neg]
    · exact h.keep a b v z
    · intro q
      obtain ⟨rfl, rfl⟩ := key2_inj.mp q
      rw [hasK_of z] at no
      cases no
  · rw [valV_put] at z
    by_cases q : key2 a b = key2 x y
    · rw [if_pos q] at z
      obtain ⟨rfl, rfl⟩ := key2_inj.mp q
      cases z
      exact ⟨p, l, rfl, sqT_but hp h.dc But.upd, w, nd⟩
    · rw [if_neg q] at z
      exact (h.val a b v z).but h.dc But.upd
/-- the crossings that F joins with a -/
def Side (hs : List Int) (n : Int) (F : List Fact) (a : Int) : Prop := ∀ x, x ∈ hs ↔ In n x ∧ Con F x a
theorem grow_end {K : PySem.W.Frag} {H : Hp} {d : Addr} {old kvs : List (List Key × V)} {n : Int} {F : List Fact} {r : Fact} {hs ts : List Int} (g : Grow K H d old kvs n F r) (hold : ∀ x y, hasK old x y = true ↔ In n x ∧ In n y ∧ Con F x y)
    (hh : Side hs n F r.1) (ht : Side ts n F r.2.1) (all : ∀ x ∈ hs, ∀ y ∈ ts, hasK kvs x y = true ∧ hasK kvs y x = true) (len : kvs.length ≤ 24 + 1200 * (F.length + 1)) : TrOk K H d kvs n (F ++ [r]) := by
  refine ⟨g.dc, fun x y => ?_, g.val, by rw [List.length_append]; exact len⟩
  refine Iff.intro (g.sound x y) ?_
  rintro ⟨hx, hy, c⟩
  rcases con_snoc.mp c with c | ⟨c1, c2⟩ | ⟨c1, c2⟩
  · obtain ⟨v, hv⟩ := hasK_some ((hold x y).mpr ⟨hx, hy, c⟩)
    exact hasK_of (g.keep x y v hv)
  · exact (all x ((hh x).mpr ⟨hx, c1⟩) y ((ht y).mpr ⟨hy, c2.symm⟩)).1
  · exact (all y ((hh y).mpr ⟨hy, c2.symm⟩) x ((ht x).mpr ⟨hx, c1⟩)).2
def spJoin (K : PySem.W.Frag) (CR : Addr) : Sp := fun vs H Q _ => ∃ (d rp : Addr) (n : Int) (F : List Fact) (r : Fact) (kvs : List (List Key × V)), vs = [.ref d, .int n, .int (F.length : Nat), .ref rp] ∧ RoadAt CR H rp r ∧ TrOk K H d kvs n F ∧
  0 ≤ n ∧ n ≤ 24 ∧ F.length ≤ 24 ∧ In n r.1 ∧ In n r.2.1 ∧ ¬ Con F r.1 r.2.1 ∧ ∀ H' kvs', TrOk K H' d kvs' n (F ++ [r]) → But d H H' → Q .non H'
/-- t + u -/
theorem catA_of {K : PySem.W.Frag} {H : Hp} {a b : Addr} {xs ys : List V} {Q : VK} (ha : SqT K H a xs) (hb : SqT K H b ys) (hl : xs.length + ys.length ≤ sizeLine) (k : ∀ p H', Same H H' → SqT K H' p (xs ++ ys) → Q (.ref p) H') : rCatA K (.ref a) (.ref b) H Q := by
  refine ⟨a, b, xs, ys, rfl, rfl, ha, hb, hl, fun e => ?_, fun _ e => ?_, fun _ _ p hp => k p _ (Same.new hp) (SqT.of upd_same)⟩
  · subst e
    exact k b H (Same.refl H) hb
  · subst e
    exact k a H (Same.refl H) (by rw [List.append_nil]; exact ha)
section
variable {P : Program} {w : World} {K : PySem.W.Frag} {mg : Str → Option Value} {base : Heap}
abbrev nJoin : List Str := ["trails", "crossings", "number", "road", "heads", "tails", "head", "tail", "trail", "crossing"]
theorem scJoin : FnScope nJoin ["trails", "crossings", "number", "road"] (defScope sJoin) := ⟨rfl, rfl, rfl, by decide +kernel, rfl, by decide +kernel, by decide +kernel⟩
/-- what the comprehension over range(n) has kept behind i turns -/
def Kept (l : List Int) (i : Nat) (p : Int → Bool) : Prop := (∀ x, x ∈ l ↔ (0 ≤ x ∧ x < (i : Int)) ∧ p x = true) ∧ l.length ≤ i
theorem Kept.zero {p : Int → Bool} : Kept [] 0 p := ⟨fun x => ⟨fun h => (by cases h), fun h => (by omega)⟩, Nat.le_refl _⟩
theorem Kept.yes {l : List Int} {i : Nat} {p : Int → Bool} (h : Kept l i p) (e : p (i : Int) = true) : Kept (l ++ [(i : Int)]) (i + 1) p := by
  refine ⟨fun x => ?_, by rw [List.length_append]; exact Nat.succ_le_succ h.2⟩
  rw [List.mem_append, List.mem_singleton, h.1]
  constructor
  · rintro (⟨a, b⟩ | rfl)
    · exact ⟨by omega, b⟩
    · exact ⟨by omega, e⟩
  · rintro ⟨a, b⟩
    by_cases q : x = (i : Int)
    · exact .inr q
    · exact .inl ⟨by omega, b⟩
theorem Kept.no {l : List Int} {i : Nat} {p : Int → Bool} (h : Kept l i p) (e : p (i : Int) = false) : Kept l (i + 1) p := by
  refine ⟨fun x => ?_, Nat.le_succ_of_le h.2⟩
  rw [h.1]
  constructor
  · rintro ⟨a, b⟩
    exact ⟨by omega, b⟩
  · rintro ⟨a, b⟩
    refine ⟨?_, b⟩
    by_cases q : x = (i : Int)
    · rw [q, e] at b
      cases b
    · omega
theorem ok_join {f CR : Addr} {fd : FuncData} (F : Fun K "join_trails" "join_trails" sJoin f fd) (TR : RdT K mg CR) (hRg : mg "range" = none) : FnOk P w K mg base CX0 1 f fd ["trails", "crossings", "number", "road"] (spJoin K CR) := by
  refine F.ok scJoin (fun vs H Q E h => ?_) (fun cdv A outer s H vs Q E hr h => ?_)
  · obtain ⟨d, rp, n, F, r, kvs, rfl, _⟩ := h
    rfl
  · obtain ⟨d, rp, n, F, r, kvs, rfl, hR, hT, hn0, hn24, hF24, ia, ib, nc, k⟩ := h
    have hu := hu_of hr
    obtain ⟨dx, hrp⟩ := id hR
    refine ⟨_, pss_cons (ps_setLc (i := 4) (own := [("crossing", 9)]) (g := gName 9) (tt := tB (tDIn (tTup (tCons (tVar 9) (tCons (tFld K (tVar 3) "a") tNil))) (tVar 0))) rfl scJoin.nd rfl rfl (sw_true rfl rfl rfl (by decide +kernel)) (pi_range1 rfl hRg (pa_cons (pv 1) pa_nil))
          (blkOk_by (own := [("crossing", 9)]) (N := nJoin) (sc := defScope sJoin) (by decide +kernel)) (fun _ _ _ _ _ => pg_name (i := 9) scJoin.nd rfl (Or.inl rfl))
          (fun _ _ _ _ _ => pts_one (pt_cmp (pc_din hu (pe_tup (pa_cons (pv 9) (pa_cons (pe_fld (pv 3) rfl) pa_nil))) (pv 0)))) (fun _ _ _ _ _ => pv 9))
      (pss_cons (ps_setLc (i := 5) (own := [("crossing", 9)]) (g := gName 9) (tt := tB (tDIn (tTup (tCons (tFld K (tVar 3) "b") (tCons (tVar 9) tNil))) (tVar 0))) rfl scJoin.nd rfl rfl (sw_true rfl rfl rfl (by decide +kernel)) (pi_range1 rfl hRg (pa_cons (pv 1) pa_nil))
          (blkOk_by (own := [("crossing", 9)]) (N := nJoin) (sc := defScope sJoin) (by decide +kernel)) (fun _ _ _ _ _ => pg_name (i := 9) scJoin.nd rfl (Or.inl rfl))
          (fun _ _ _ _ _ => pts_one (pt_cmp (pc_din hu (pe_tup (pa_cons (pe_fld (pv 3) rfl) (pa_cons (pv 9) pa_nil))) (pv 0)))) (fun _ _ _ _ _ => pv 9))
      (pss_one (ps_for PassesOwn.never rfl (pi_list (pv 4)) (pg_name (i := 6) scJoin.nd rfl (Or.inl rfl))
        (pss_one (ps_for PassesOwn.never rfl (pi_list (pv 5)) (pg_name (i := 7) scJoin.nd rfl (Or.inl rfl))
          (pss_cons (ps_set (i := 8) scJoin.nd rfl (Or.inl rfl) (pe_op op_catA (pe_op op_catA (pe_dget hu (pv 0) (pe_tup (pa_cons (pv 6) (pa_cons (pe_fld (pv 3) rfl) pa_nil))) (fun _ _ => rfl)) (pe_tup (pa_cons (pv 2) pa_nil)))
              (pe_dget hu (pv 0) (pe_tup (pa_cons (pe_fld (pv 3) rfl) (pa_cons (pv 7) pa_nil))) (fun _ _ => rfl))))
          (pss_cons (ps_dput hu (pv 0) (pe_tup (pa_cons (pv 6) (pa_cons (pv 7) pa_nil))) (pv 8) rfl)
          (pss_one (ps_dput hu (pv 0) (pe_tup (pa_cons (pv 7) (pa_cons (pv 6) pa_nil))) (pe_revT (pv 8)) rfl))))))))), ?_⟩
    have hne : ∀ {b : Addr} {o : HO}, H b = some o → ∀ {Hc : Hp} {t : Addr}, Same H Hc → Hc t = none → b ≠ t := fun e _ _ sc n => ne_of_none (sc _ _ e) n
    -- heads
    refine ⟨_, rfl, n, rfl, by omega, by omega, fun D1 hD1 => lc_range (lo := 0) (n := n.toNat) (fun i Hc => ∃ l : List Int, Hc D1 = some (.lst (l.map V.int)) ∧ Same H Hc ∧ Kept l i fun x => hasK kvs x r.1)
      ⟨[], upd_same, Same.new hD1, Kept.zero⟩ ?_ ?_⟩
    · rintro i Hc hi ⟨l, hl, sc, kp⟩
      have e0 : (0 : Int) + (i : Int) = (i : Int) := Int.zero_add _
      rw [e0]
      refine ⟨rfl, _, rfl, _, rfl, rp, CR, dx, _, _, rfl, sc _ _ hrp, TR.cl, TR.nA, rdF_a r, (by show 2 ≤ sizeLine; decide), fun t ht => ?_⟩
      have nD : D1 ≠ t := ne_of_none hl ht
      have nd : d ≠ t := ne_of_none (sc _ _ hT.dc) ht
      have sc' : Same H (upd Hc t (.tup [.int (i : Int), .int r.1])) := sc.trans (Same.new ht)
      refine ⟨_, rfl, d, _, rfl, DGet.t (k := key2 (i : Int) r.1) (sc' _ _ hT.dc) upd_same, _, rfl, ?_⟩
      cases e : hasK kvs (i : Int) r.1 with
      | true =>
        have e' : (valV kvs (key2 (i : Int) r.1)).isSome = true := e
        rw [e']
        refine iteT ⟨_, rfl, l.map V.int, by rw [upd_ne nD]; exact hl, small1000 (by rw [List.length_map]; have := kp.2; omega), l ++ [(i : Int)], by rw [List.map_append]; exact upd_same, fun b o z => ?_, kp.yes e⟩
        rw [upd_ne (ne_of_none z hD1)]
        exact sc' b o z
      | false =>
        have e' : (valV kvs (key2 (i : Int) r.1)).isSome = false := e
        rw [e']
        exact iteF ⟨l, by rw [upd_ne nD]; exact hl, sc', kp.no e⟩
    rintro H4 ⟨hs, hh1, s4, kp1⟩
    have side1 : Side hs n F r.1 := fun x => by
      rw [kp1.1]
      show _ ∧ hasK kvs x r.1 = true ↔ _
      rw [hT.has]
      unfold In
      exact ⟨fun ⟨_, c, _, g⟩ => ⟨c, g⟩, fun ⟨⟨a, b⟩, g⟩ => ⟨⟨a, by omega⟩, ⟨a, b⟩, ia, g⟩⟩
    -- tails
    refine ⟨_, rfl, n, rfl, by omega, by omega, fun D2 hD2 => lc_range (lo := 0) (n := n.toNat) (fun i Hc => ∃ l : List Int, Hc D2 = some (.lst (l.map V.int)) ∧ Same H4 Hc ∧ Kept l i fun x => hasK kvs r.2.1 x)
      ⟨[], upd_same, Same.new hD2, Kept.zero⟩ ?_ ?_⟩
    · rintro i Hc hi ⟨l, hl, sc, kp⟩
      have e0 : (0 : Int) + (i : Int) = (i : Int) := Int.zero_add _
      rw [e0]
      have sH : Same H Hc := s4.trans sc
      refine ⟨rfl, _, rfl, rp, CR, dx, _, _, rfl, sH _ _ hrp, TR.cl, TR.nB, rdF_b r, _, rfl, (by show 2 ≤ sizeLine; decide), fun t ht => ?_⟩
      have nD : D2 ≠ t := ne_of_none hl ht
      have sc' : Same H4 (upd Hc t (.tup [.int r.2.1, .int (i : Int)])) := sc.trans (Same.new ht)
      refine ⟨_, rfl, d, _, rfl, DGet.t (k := key2 r.2.1 (i : Int)) ((s4.trans sc') _ _ hT.dc) upd_same, _, rfl, ?_⟩
      cases e : hasK kvs r.2.1 (i : Int) with
      | true =>
        have e' : (valV kvs (key2 r.2.1 (i : Int))).isSome = true := e
        rw [e']
        refine iteT ⟨_, rfl, l.map V.int, by rw [upd_ne nD]; exact hl, small1000 (by rw [List.length_map]; have := kp.2; omega), l ++ [(i : Int)], by rw [List.map_append]; exact upd_same, fun b o z => ?_, kp.yes e⟩
        rw [upd_ne (ne_of_none z hD2)]
        exact sc' b o z
      | false =>
        have e' : (valV kvs (key2 r.2.1 (i : Int))).isSome = false := e
        rw [e']
        exact iteF ⟨l, by rw [upd_ne nD]; exact hl, sc', kp.no e⟩
    rintro H5 ⟨ts, hh2, s5, kp2⟩
    have side2 : Side ts n F r.2.1 := fun x => by
      rw [kp2.1]
      show _ ∧ hasK kvs r.2.1 x = true ↔ _
      rw [hT.has]
      unfold In
      exact ⟨fun ⟨⟨a, b⟩, _, ⟨c, e⟩, g⟩ => ⟨⟨c, e⟩, g.symm⟩, fun ⟨⟨a, b⟩, g⟩ => ⟨⟨a, by omega⟩, ib, ⟨a, b⟩, g.symm⟩⟩
    have sH5 : Same H H5 := s4.trans s5
    have d1 : D1 ≠ d := (ne_of_none hT.dc hD1).symm
    have d2 : D2 ≠ d := (ne_of_none (s4 _ _ hT.dc) hD2).symm
    have rpd : rp ≠ d := ne_of hrp hT.dc (fun z => nomatch z)
    have lh : hs.length ≤ 24 := by have := kp1.2; omega
    have lt : ts.length ≤ 24 := by have := kp2.2; omega
    have hh1' : H5 D1 = some (.lst (hs.map V.int)) := s5 _ _ hh1
    -- for head in heads
    refine ⟨_, rfl, D1, rfl, ⟨_, SqL.of hh1'⟩, for_list (K := K) (a := D1) (xs := hs.map V.int) (fun i σ H2 => ∃ (v6 v7 v8 : Option V) (kvs' : List (List Key × V)), σ = [some (.ref d), some (.int n), some (.int (F.length : Nat)), some (.ref rp), some (.ref D1), some (.ref D2), v6, v7, v8, none] ∧
        But d H5 H2 ∧ Grow K H2 d kvs kvs' n F r ∧ (∀ (i' : Nat) (x : Int), i' < i → hs[i']? = some x → ∀ y ∈ ts, hasK kvs' x y = true ∧ hasK kvs' y x = true) ∧ kvs'.length ≤ kvs.length + 2 * (i * ts.length))
      ⟨none, none, none, kvs, rfl, But.refl, (hT.same sH5).grow, fun i' x z => absurd z (Nat.not_lt_zero _), by omega⟩ (fun i σ H2 _ ⟨_, _, _, _, _, b2, _⟩ => SqL.of (b2 _ _ hh1' d1)) ?_ ?_⟩
    · rintro i xv σ H2 hi ⟨v6, v7, v8, kvs1, rfl, b2, g2, done2, len2⟩
      have hil : i < hs.length := by
        have := (List.getElem?_eq_some_iff.mp hi).1
        rwa [List.length_map] at this
      obtain ⟨x, hx, rfl⟩ : ∃ x, hs[i]? = some x ∧ xv = V.int x := by
        rw [List.getElem?_map] at hi
        cases e : hs[i]? with
        | none => rw [e] at hi; cases hi
        | some z => rw [e] at hi; exact ⟨z, rfl, (Option.some.inj hi).symm⟩
      obtain ⟨ix, cx⟩ := (side1 x).mp (List.mem_of_getElem? hx)
      -- for tail in tails
      refine ⟨_, rfl, D2, rfl, ⟨_, SqL.of (b2 _ _ hh2 d2)⟩, for_list (K := K) (a := D2) (xs := ts.map V.int) (fun j σ H3 => ∃ (v7 v8 : Option V) (kvs' : List (List Key × V)), σ = [some (.ref d), some (.int n), some (.int (F.length : Nat)), some (.ref rp), some (.ref D1), some (.ref D2), some (.int x), v7, v8, none] ∧
          But d H5 H3 ∧ Grow K H3 d kvs kvs' n F r ∧ (∀ (i' : Nat) (x : Int), i' < i → hs[i']? = some x → ∀ y ∈ ts, hasK kvs' x y = true ∧ hasK kvs' y x = true) ∧ (∀ (j' : Nat) (y : Int), j' < j → ts[j']? = some y → hasK kvs' x y = true ∧ hasK kvs' y x = true) ∧ kvs'.length ≤ kvs.length + 2 * (i * ts.length + j))
        ⟨v7, v8, kvs1, rfl, b2, g2, done2, fun j' y z => absurd z (Nat.not_lt_zero _), by omega⟩ (fun j σ H3 _ ⟨_, _, _, _, b3, _⟩ => SqL.of (b3 _ _ hh2 d2)) ?_ ?_⟩
      · rintro j yv σ H3 hj ⟨v7, v8, kvs2, rfl, b3, g3, done3, row3, len3⟩
        have hjl : j < ts.length := by
          have := (List.getElem?_eq_some_iff.mp hj).1
          rwa [List.length_map] at this
        obtain ⟨y, hy, rfl⟩ : ∃ y, ts[j]? = some y ∧ yv = V.int y := by
          rw [List.getElem?_map] at hj
          cases e : ts[j]? with
          | none => rw [e] at hj; cases hj
          | some z => rw [e] at hj; exact ⟨z, rfl, (Option.some.inj hj).symm⟩
        obtain ⟨iy, cy⟩ := (side2 y).mp (List.mem_of_getElem? hy)
        have bH : But d H H3 := fun b o z nb => b3 b o (sH5 b o z) nb
        obtain ⟨v0, hv0⟩ := hasK_some ((hT.has x r.1).mpr ⟨ix, ia, cx⟩)
        obtain ⟨v1, hv1⟩ := hasK_some ((hT.has r.2.1 y).mpr ⟨ib, iy, cy.symm⟩)
        obtain ⟨p0, l0, rfl, q0, w0, n0⟩ := (hT.val _ _ _ hv0).but hT.dc bH
        obtain ⟨p1, l1, rfl, q1, w1, n1⟩ := (hT.val _ _ _ hv1).but hT.dc bH
        have kv0 := g3.keep _ _ _ hv0
        have kv1 := g3.keep _ _ _ hv1
        have no1 : hasK kvs x y = false := by
          cases e : hasK kvs x y with
          | false => rfl
          | true => exact absurd ((cx.symm.trans ((hT.has x y).mp e).2.2).trans cy) nc
        have no2 : hasK kvs y x = false := by
          cases e : hasK kvs y x with
          | false => rfl
          | true => exact absurd ((cx.symm.trans ((hT.has y x).mp e).2.2.symm).trans cy) nc
        have hrp3 : H3 rp = some (.ins CR dx (rdF r)) := bH _ _ hrp rpd
        have sl0 := w0.short n0
        have sl1 := w1.short n1
        have tot : i * ts.length ≤ 23 * 24 := Nat.mul_le_mul (by omega) lt
        have big : kvs2.length ≤ 24 + 1200 * 24 + 2 * (23 * 24 + 24) := by have := hT.len; omega
        -- trail = trails[head, road.a] + (number,) + trails[road.b, tail]
        refine ⟨_, rfl, _, rfl, _, rfl, rp, CR, dx, _, _, rfl, hrp3, TR.cl, TR.nA, rdF_a r, (by show 2 ≤ sizeLine; decide), fun t1 ht1 => ?_⟩
        have s1 : Same H3 (upd H3 t1 (.tup [.int x, .int r.1])) := Same.new ht1
        refine ⟨d, _, rfl, (by rw [← kv0]; exact DGet.t (k := key2 x r.1) (s1 _ _ g3.dc) upd_same), _, rfl, (by show 1 ≤ sizeLine; decide), fun t2 ht2 => ?_⟩
        have s2 := s1.trans (Same.new (o := .tup [.int (F.length : Nat)]) ht2)
        refine catA_of (sqT_same q0 s2) (SqT.of upd_same) (by rw [List.length_map]; show l0.length + 1 ≤ sizeLine; rw [PySem.sizeLine_eq]; omega) fun q2 H6 s6 hq2 => ?_
        have s6' : Same H3 H6 := s2.trans s6
        refine ⟨_, rfl, _, rfl, rp, CR, dx, _, _, rfl, s6' _ _ hrp3, TR.cl, TR.nB, rdF_b r, _, rfl, (by show 2 ≤ sizeLine; decide), fun t3 ht3 => ?_⟩
        have s7 : Same H3 (upd H6 t3 (.tup [.int r.2.1, .int y])) := s6'.trans (Same.new ht3)
        refine ⟨d, _, rfl, (by rw [← kv1]; exact DGet.t (k := key2 r.2.1 y) (s7 _ _ g3.dc) upd_same), ?_⟩
        refine catA_of (sqT_same hq2 (Same.new ht3)) (sqT_same q1 s7) (by rw [List.length_append, List.length_map, List.length_map]; show l0.length + 1 + l1.length ≤ sizeLine; rw [PySem.sizeLine_eq]; omega) fun q3 H8 s8 hq3 => ?_
        have s8' : Same H3 H8 := s7.trans s8
        have hq3' : SqT K H8 q3 ((l0 ++ F.length :: l1).map fun k => V.int (k : Nat)) := by
          rw [List.map_append, List.map_cons]
          rw [List.append_assoc] at hq3
          exact hq3
        have ww := way_over w0 w1
        have wn := way_nodup nc w0 w1 n0 n1
        -- trails[head, tail] = trail
        refine ⟨_, rfl, _, rfl, _, rfl, _, rfl, (by show 2 ≤ sizeLine; decide), fun t4 ht4 => ?_⟩
        have s9 : Same H3 (upd H8 t4 (.tup [.int x, .int y])) := s8'.trans (Same.new ht4)
        refine ⟨d, _, rfl, DPut.t (k := key2 x y) (s9 _ _ g3.dc) upd_same (by rw [PySem.sizeLine_eq]; omega), ?_⟩
        have g9 := (g3.same s9).put no1 ix iy (sqT_same hq3' (Same.new ht4)) ww wn
        have nq3 := sqT_but (sqT_same hq3' (Same.new (o := .tup [.int x, .int y]) ht4)) (s9 _ _ g3.dc) (But.upd (o := .dT (putK kvs2 (key2 x y) (.ref q3))))
        -- trails[tail, head] = trail[::-1]
        refine ⟨_, rfl, q3, _, rfl, nq3, fun q4 hq4 => ?_⟩
        refine ⟨_, rfl, _, rfl, _, rfl, (by show 2 ≤ sizeLine; decide), fun t5 ht5 => ?_⟩
        have s10 := (Same.new (o := .tup (((l0 ++ F.length :: l1).map fun k => V.int (k : Nat)).reverse)) hq4).trans (Same.new (o := .tup [.int y, .int x]) ht5)
        have g10 := g9.same s10
        refine ⟨d, _, rfl, DPut.t (k := key2 y x) g10.dc upd_same (by have := length_putK kvs2 (key2 x y) (V.ref q3); rw [PySem.sizeLine_eq]; omega), ?_⟩
        have hq4' := (Same.new (o := .tup [.int y, .int x]) ht5) q4 _ upd_same
        have g11 := g10.put (p := q4) (l := (l0 ++ F.length :: l1).reverse) no2 iy ix (by rw [List.map_reverse]; exact SqT.of hq4') ww.rev (List.pairwise_reverse.mpr (wn.imp Ne.symm))
        refine ⟨_, _, _, rfl, fun b o z nb => ?_, g11, fun i' x' a b y' c => ?_, fun j' y' a b => ?_, ?_⟩
        · rw [upd_ne nb]
          refine s10 b o ?_
          rw [upd_ne nb]
          exact s9 b o (b3 b o z nb)
        · obtain ⟨h1, h2⟩ := done3 i' x' a b y' c
          exact ⟨hasK_put.mpr (.inr (hasK_put.mpr (.inr h1))), hasK_put.mpr (.inr (hasK_put.mpr (.inr h2)))⟩
        · by_cases e : j' = j
          · subst e
            rw [hy] at b
            cases b
            exact ⟨hasK_put.mpr (.inr (hasK_put.mpr (.inl ⟨rfl, rfl⟩))), hasK_put.mpr (.inl ⟨rfl, rfl⟩)⟩
          · obtain ⟨h1, h2⟩ := row3 j' y' (by omega) b
            exact ⟨hasK_put.mpr (.inr (hasK_put.mpr (.inr h1))), hasK_put.mpr (.inr (hasK_put.mpr (.inr h2)))⟩
        · have z1 := length_putK kvs2 (key2 x y) (V.ref q3)
          have z2 := length_putK (putK kvs2 (key2 x y) (V.ref q3)) (key2 y x) (V.ref q4)
          omega
      · rintro σ H3 ⟨v7, v8, kvs2, rfl, b3, g3, done3, row3, len3⟩
        rw [List.length_map] at row3 len3
        refine ⟨_, _, _, kvs2, rfl, b3, g3, fun i' x' a b y c => ?_, by rw [Nat.add_mul, Nat.one_mul]; omega⟩
        by_cases e : i' = i
        · subst e
          rw [hx] at b
          cases b
          obtain ⟨j', hj', e'⟩ := List.getElem_of_mem c
          exact row3 j' y hj' (by rw [List.getElem?_eq_getElem hj', e'])
        · exact done3 i' x' (by omega) b y c
    · rintro σ H2 ⟨v6, v7, v8, kvs1, rfl, b2, g2, done2, len2⟩
      rw [List.length_map] at done2 len2
      have tot : hs.length * ts.length ≤ 24 * 24 := Nat.mul_le_mul lh lt
      refine k H2 kvs1 (grow_end g2 hT.has side1 side2 (fun x hx y hy => ?_) (by have := hT.len; omega)) (fun b o z nb => b2 b o (sH5 b o z) nb)
      obtain ⟨i', hi', e'⟩ := List.getElem_of_mem hx
      exact done2 i' x hi' (by rw [List.getElem?_eq_getElem hi', e']) y hy
end
end OT
set_option Elab.async false
set_option linter.all false
set_option maxRecDepth 100000
set_option maxHeartbeats 2000000
namespace OT
open PySem L2 OTR
/-- the error that a tree's maker raises -/
def ErrR (CB CN CG : Addr) (H : Hp) (E : XK) : Err → Prop
  | .crossings n => Raised CB [("count", .int n), ("what", .str "crossings")] H E
  | .roads k => Raised CB [("count", .int k), ("what", .str "roads")] H E
  | .crossing c => Raised CN [("crossing", .int c)] H E
  | .length s => Raised CB [("count", .int s), ("what", .str "length")] H E
  | .ring k => Raised CG [("road", .int k)] H E
theorem ErrR.mono {CB CN CG : Addr} {H H1 : Hp} {E : XK} {e : Err} (h : ErrR CB CN CG H E e) (s : Same H H1) : ErrR CB CN CG H1 E e := by
  cases e with
  | crossings n => exact Raised.mono h s
  | roads n => exact Raised.mono h s
  | crossing n => exact Raised.mono h s
  | length n => exact Raised.mono h s
  | ring n => exact Raised.mono h s
/-- roads at these places -/
def RoadsAt (CR : Addr) (H : Hp) (ps : List Addr) (F : List Fact) : Prop := Paired (RoadAt CR H) ps F
theorem RoadsAt.same {CR : Addr} {H H' : Hp} {ps : List Addr} {F : List Fact} (h : RoadsAt CR H ps F) (s : Same H H') : RoadsAt CR H' ps F := by
  unfold RoadsAt at h ⊢
  induction h with
  | nil => exact .nil
  | cons a _ ih => exact .cons (a.same s) ih
theorem RoadsAt.get {CR : Addr} {H : Hp} : ∀ {ps : List Addr} {F : List Fact}, RoadsAt CR H ps F → ∀ {i : Nat} {p : Addr}, ps[i]? = some p → ∃ r, F[i]? = some r ∧ RoadAt CR H p r
  | _, _, .nil, i, p, e => by simp at e
  | _, _, .cons a t, 0, p, e => by
    have z := Option.some.inj e
    subst z
    exact ⟨_, rfl, a⟩
  | _, _, .cons a t, i + 1, p, e => RoadsAt.get (ps := _) (F := _) t (i := i) e
theorem RoadsAt.len {CR : Addr} {H : Hp} {ps : List Addr} {F : List Fact} (h : RoadsAt CR H ps F) : ps.length = F.length := Paired.length h
def spTrails (K : PySem.W.Frag) (CR CB CN CG : Addr) : Sp := fun vs H Q E => ∃ (n : Int) (t : Addr) (ps : List Addr) (F : List Fact), vs = [.int n, .ref t] ∧ SqT K H t (ps.map V.ref) ∧ RoadsAt CR H ps F ∧ 0 ≤ n ∧ n ≤ 24 ∧ F.length ≤ 24 ∧
  (∀ e, dueR n [] F = some e → ErrR CB CN CG H E e) ∧ (dueR n [] F = none → ∀ d kvs H', TrOk K H' d kvs n F → Same H H' → H d = none → Q (.ref d) H')
theorem map_get {α β : Type} {f : α → β} {l : List α} {i : Nat} {y : β} (h : (l.map f)[i]? = some y) : ∃ p, l[i]? = some p ∧ y = f p := by
  rw [List.getElem?_map] at h
  cases e : l[i]? with
  | none =>
    rw [e] at h
    cases h
  | some z =>
    rw [e] at h
    exact ⟨z, rfl, (Option.some.inj h).symm⟩
theorem drop_get {α : Type} {l : List α} {i : Nat} {x : α} (h : l[i]? = some x) : l.drop i = x :: l.drop (i + 1) := by
  obtain ⟨hi, e⟩ := List.getElem?_eq_some_iff.mp h
  rw [List.drop_eq_getElem_cons hi, e]
theorem take_get {α : Type} {l : List α} {i : Nat} {x : α} (h : l[i]? = some x) : l.take (i + 1) = l.take i ++ [x] := by
  obtain ⟨hi, e⟩ := List.getElem?_eq_some_iff.mp h
  rw [List.take_succ, h]
  rfl
section
variable {P : Program} {w : World} {K : PySem.W.Frag} {mg : Str → Option Value} {base : Heap}
abbrev nTrails : List Str := ["crossings", "roads", "trails", "number", "road", "crossing"]
theorem scTrails : FnScope nTrails ["crossings", "roads"] (defScope sTrails) := ⟨rfl, rfl, rfl, by decide +kernel, rfl, by decide +kernel, by decide +kernel⟩
theorem ok_trails {f fC fJ CR CB CN CG fG : Addr} {fd fdC fdJ fdG : FuncData} (F : Fun K "trails_along" "trails_along" sTrails f fd) (TR : RdT K mg CR) (TG' : ErT K mg "RingRoad" CG fG)
    (FG : FnOk P w K mg base CX0 1 fG fdG ["self", "road"] (spEr1 CG "road")) (bG : Binds K fdG ["self", "road"] [])
    (FC : FnOk P w K mg base (L2.CX P w) 3 fC fdC ["crossings", "road"] (spCheck CR CB CN)) (bC : Binds K fdC ["crossings", "road"] []) (mC : mg "check_road" = some (.ref fC)) (kC : PySem.W.keepIn K (.ref fC) = true)
    (FJ : FnOk P w K mg base CX0 1 fJ fdJ ["trails", "crossings", "number", "road"] (spJoin K CR)) (bJ : Binds K fdJ ["trails", "crossings", "number", "road"] []) (mJ : mg "join_trails" = some (.ref fJ)) (kJ : PySem.W.keepIn K (.ref fJ) = true)
    (hRg : mg "range" = none) (hEn : mg "enumerate" = none) :
    FnOk P w K mg base (L2.CX P w) 4 f fd ["crossings", "roads"] (spTrails K CR CB CN CG) := by
  refine F.okX scTrails (fun vs H Q E h => ?_) (fun cdv A outer s H vs Q E hr h => ?_)
  · obtain ⟨n, t, ps, F, rfl, _⟩ := h
    rfl
  · obtain ⟨n, t, ps, F, rfl, hS, hR, hn0, hn24, hF, kE, kQ⟩ := h
    have hu := hu_of hr
    have hr2 : Room 2 _ := hr.mono (by decide)
    have hr1 : Room 1 _ := hr.mono (by decide)
    refine ⟨_, pss_cons (ps_setDcT (i := 2) (own := [("crossing", 5)]) (g := gName 5) hu rfl scTrails.nd rfl rfl (swD_true rfl rfl rfl (by decide +kernel)) (pi_range1 rfl hRg (pa_cons (pv 0) pa_nil))
          (blkOk_by (own := [("crossing", 5)]) (N := nTrails) (sc := defScope sTrails) (by decide +kernel)) (fun _ _ _ _ _ => pg_name (i := 5) scTrails.nd rfl (Or.inl rfl)) (fun _ _ _ _ _ => pts_nil)
          (fun _ _ _ _ _ => pe_tup (pa_cons (pv 5) (pa_cons (pv 5) pa_nil))) (fun _ _ _ _ _ => pe_tup pa_nil))
      (pss_cons (ps_for (passes_of rfl) rfl (pi_enumT rfl hEn (pa_cons (pv 1) pa_nil)) (pg_tup rfl (pgs_cons (pg_name (i := 3) scTrails.nd rfl (Or.inl rfl)) (pgs_cons (pg_name (i := 4) scTrails.nd rfl (Or.inl rfl)) pgs_nil)))
        (pss_cons (ps_expr (pe_call FC hr rfl mC kC bC .nil (passes_call (takes_of rfl rfl rfl rfl) fun _ _ _ _ h => h) (pa_cons (pv 0) (pa_cons (pv 4) pa_nil))))
        (pss_cons (ps_if (pt_cmp (pc_din hu (pe_tup (pa_cons (pe_fld (pv 4) rfl) (pa_cons (pe_fld (pv 4) rfl) pa_nil))) (pv 2)))
            (pss_one (ps_raise rfl (takes_of rfl rfl rfl rfl) (pmk_oex TG'.ox TG'.iC TG'.tI FG hr2 bG .nil pass0 (by rfl) TG'.gC (pa_cons (pv 3) pa_nil)))) pss_nil)
        (pss_one (ps_expr (pe_call FJ hr1 rfl mJ kJ bJ .nil pass0 (pa_cons (pv 2) (pa_cons (pv 0) (pa_cons (pv 3) (pa_cons (pv 4) pa_nil))))))))))
      (pss_one (ps_ret (pv 2)))), ?_⟩
    -- trails = {(crossing, crossing): () ..}
    refine ⟨_, rfl, n, rfl, by omega, by omega, fun D hD => dcT_range (lo := 0) (n := n.toNat) (fun i Hc => ∃ kvs : List (List Key × V), Hc D = some (.dT kvs) ∧ Same H Hc ∧ (∀ x y, hasK kvs x y = true ↔ (0 ≤ x ∧ x < (i : Int)) ∧ x = y) ∧
        (∀ x y v, valV kvs (key2 x y) = some v → TrailAt K Hc [] x y v) ∧ kvs.length ≤ i)
      ⟨[], upd_same, Same.new hD, fun x y => ⟨fun z => (by cases z), fun z => (by omega)⟩, fun x y v z => (by cases z), Nat.le_refl _⟩ ?_ ?_⟩
    · rintro i Hc hi ⟨kvs, hk, sc, has, val, len⟩
      have e0 : (0 : Int) + (i : Int) = (i : Int) := Int.zero_add _
      rw [e0]
      refine ⟨rfl, ?_⟩
      unfold tYes
      refine iteT ?_
      refine ⟨_, rfl, _, rfl, (by show 2 ≤ sizeLine; decide), fun t1 h1 => ⟨Nat.zero_le _, fun t2 h2 => ?_⟩⟩
      have s1 : Same Hc (upd Hc t1 (.tup [.int (i : Int), .int (i : Int)])) := Same.new h1
      have s2 : Same Hc (upd (upd Hc t1 (.tup [.int (i : Int), .int (i : Int)])) t2 (.tup [])) := s1.trans (Same.new h2)
      have n2 : t1 ≠ t2 := ne_of_none upd_same h2
      refine ⟨kvs, key2 (i : Int) (i : Int), t1, rfl, by rw [upd_ne n2]; exact upd_same, s2 _ _ hk, small1000 (by omega), putK kvs (key2 (i : Int) (i : Int)) (.ref t2), upd_same, fun b o z => ?_, fun x y => ?_, fun x y v z => ?_, Nat.le_trans (length_putK _ _ _) (Nat.succ_le_succ len)⟩
      · rw [upd_ne (ne_of_none z hD)]
        exact s2 b o (sc b o z)
      · rw [hasK_put, has]
        constructor
        · rintro (⟨rfl, rfl⟩ | ⟨a, rfl⟩)
          · exact ⟨by omega, rfl⟩
          · exact ⟨by omega, rfl⟩
        · rintro ⟨a, rfl⟩
          by_cases q : x = (i : Int)
          · exact .inl ⟨q, q⟩
          · exact .inr ⟨by omega, rfl⟩
      · rw [valV_put] at z
        by_cases q : key2 x y = key2 (i : Int) (i : Int)
        · rw [if_pos q] at z
          obtain ⟨rfl, rfl⟩ := key2_inj.mp q
          cases z
          exact ⟨t2, [], rfl, sqT_but (SqT.of upd_same) (s2 _ _ hk) But.upd, .nil _, List.nodup_nil⟩
        · rw [if_neg q] at z
          exact ((val x y v z).same s2).but (s2 _ _ hk) But.upd
    rintro H1 ⟨kvs0, hk0, s1, has0, val0, len0⟩
    have T0 : TrOk K H1 D kvs0 n [] := by
      refine ⟨hk0, fun x y => ?_, val0, by have : n.toNat ≤ 24 := by omega
                                           exact Nat.le_trans len0 (by omega)⟩
      rw [has0]
      unfold In
      constructor
      · rintro ⟨a, rfl⟩
        exact ⟨by omega, by omega, .refl _⟩
      · rintro ⟨a, b, c⟩
        have e := c.nil
        exact ⟨by omega, e⟩
    have hS1 : SqT K H1 t (ps.map V.ref) := sqT_same hS s1
    -- for number, road in enumerate(roads)
    refine ⟨_, rfl, t, _, rfl, hS1, for_it (walk_enumT (K := K) (a := t) (xs := ps.map V.ref)) (fun i σ H2 => ∃ (v3 v4 : Option V) (kvs : List (List Key × V)), σ = [some (.int n), some (.ref t), some (.ref D), v3, v4, none] ∧ But D H1 H2 ∧ TrOk K H2 D kvs n (F.take i) ∧ dueR n [] F = dueR n (F.take i) (F.drop i))
      ⟨none, none, kvs0, rfl, But.refl, T0, rfl⟩ (fun i σ H2 _ ⟨_, _, _, _, b2, T2, _⟩ => sqT_but hS1 hk0 b2) ?_ ?_⟩
    · rintro i x σ H2 H3 hi ⟨v3, v4, kvs, rfl, b2, T2, e2⟩ ⟨T, x1, y1, rfl, hT, rfl, hx1, hy1⟩
      cases hx1
      rw [List.length_map] at hi
      obtain ⟨p, hp, rfl⟩ := map_get (show (ps.map V.ref)[i]? = some y1 from hy1)
      obtain ⟨r, hr', hrd⟩ := hR.get hp
      have sB : ∀ b o, H b = some o → H2 b = some o := fun b o z => b2 b o (s1 b o z) (ne_of_none z hD)
      have s3 : Same H2 (upd H2 T (.tup [.int (i : Nat), .ref p])) := Same.new hT
      have rd3 := (hrd.same sB).same s3
      have ed := drop_get hr'
      rw [ed] at e2
      have iF : i < F.length := (List.getElem?_eq_some_iff.mp hr').1
      have lenT : (F.take i).length = i := by rw [List.length_take]; omega
      refine ⟨T, _, rfl, SqT.of upd_same, rfl, _, _, rfl, _, _, rfl, rfl, ?_⟩
      refine ⟨_, rfl, _, rfl, n, p, r, rfl, rd3, fun z => ?_, fun z1 z2 => ?_, fun z1 z2 z3 => ?_, fun z1 z2 z3 H4 s4 => ?_⟩
      · rw [dueR_a z] at e2
        exact (kE _ e2).mono fun b o q => s3 b o (sB b o q)
      · rw [dueR_b z1 z2] at e2
        exact (kE _ e2).mono fun b o q => s3 b o (sB b o q)
      · rw [dueR_l z1 z2 z3] at e2
        exact (kE _ e2).mono fun b o q => s3 b o (sB b o q)
      have s5 : Same H2 H4 := s3.trans s4
      have rd4 := rd3.same s4
      obtain ⟨dx, hpx⟩ := id rd4
      have T4 := T2.same s5
      refine ⟨_, rfl, p, CR, dx, _, _, rfl, hpx, TR.cl, TR.nA, rdF_a r, _, rfl, p, CR, dx, _, _, rfl, hpx, TR.cl, TR.nB, rdF_b r, (by show 2 ≤ sizeLine; decide), fun t1 h1 => ?_⟩
      have s6 : Same H4 (upd H4 t1 (.tup [.int r.1, .int r.2.1])) := Same.new h1
      refine ⟨_, rfl, D, _, rfl, DGet.t (k := key2 r.1 r.2.1) (s6 _ _ T4.dc) upd_same, _, rfl, ?_⟩
      have s7 : Same H2 (upd H4 t1 (.tup [.int r.1, .int r.2.1])) := s5.trans s6
      cases e : hasK kvs r.1 r.2.1 with
      | true =>
        have e' : (valV kvs (key2 r.1 r.2.1)).isSome = true := e
        rw [e']
        have c := ((T2.has _ _).mp e).2.2
        rw [dueR_ring z1 z2 z3 c, lenT] at e2
        refine iteT ⟨_, rfl, len1, fun a ha => er1 ha ?_⟩
        exact Raised.mono (kE _ e2) fun b o q => s7 b o (sB b o q)
      | false =>
        have e' : (valV kvs (key2 r.1 r.2.1)).isSome = false := e
        rw [e']
        have nc : ¬ Con (F.take i) r.1 r.2.1 := fun c => by
          rw [(T2.has _ _).mpr ⟨z1, z2, c⟩] at e
          cases e
        rw [dueR_go z1 z2 z3 nc] at e2
        refine iteF ⟨_, rfl, _, rfl, _, rfl, _, rfl, D, p, n, F.take i, r, kvs, by rw [lenT]; rfl, rd4.same s6, T4.same s6, hn0, hn24, by rw [lenT]; omega, z1, z2, nc, fun H8 kvs8 T8 b8 => ?_⟩
        refine ⟨_, _, kvs8, rfl, fun b o q nb => b8 b o (s7 b o (b2 b o q nb)) nb, ?_, ?_⟩
        · rw [take_get hr']
          exact T8
        · rw [take_get hr']
          exact e2
    · rintro σ H2 ⟨v3, v4, kvs, rfl, b2, T2, e2⟩
      have el : (ps.map V.ref).length = F.length := by rw [List.length_map]; exact hR.len
      rw [el, List.take_length] at T2
      rw [el, List.take_length, List.drop_length, dueR_nil] at e2
      exact ⟨_, rfl, kQ e2 D kvs H2 T2 (fun b o z => b2 b o (s1 b o z) (ne_of_none z hD)) hD⟩
end
end OT
set_option Elab.async false
set_option linter.all false
set_option maxRecDepth 100000
set_option maxHeartbeats 2000000
namespace OT
open PySem L2 OTR
/-- what the walk asks of Tree -/
structure TeT (K : PySem.W.Frag) (mg : Str → Option Value) (C : Addr) : Prop where
  cl : Cls K C
  nC : NoAttr K C "crossings"
  nR : NoAttr K C "roads"
  nT : NoAttr K C "trails"
  mgC : mg "Tree" = some (.ref C)
def teF (n : Int) (t d : Addr) : List (Str × V) := [("crossings", .int n), ("roads", .ref t), ("trails", .ref d)]
theorem teF_c (n : Int) (t d : Addr) : (teF n t d).lookup ("crossings" : Str) = some (.int n) := lk0
theorem teF_r (n : Int) (t d : Addr) : (teF n t d).lookup ("roads" : Str) = some (.ref t) := by
  unfold teF
  rw [lk1 (by decide +kernel)]
  exact lk0
theorem teF_t (n : Int) (t d : Addr) : (teF n t d).lookup ("trails" : Str) = some (.ref d) := by
  unfold teF
  rw [lk1 (by decide +kernel), lk1 (by decide +kernel)]
  exact lk0
theorem teF1 (n : Int) (t : Addr) : putF "roads" (.ref t) (putF "crossings" (.int n) []) = ([("crossings", V.int n), ("roads", V.ref t)] : List (Str × V)) := by
  have h1 : ¬ (("crossings" : Str) = "roads") := by decide +kernel
  show (if ("crossings" : Str) = "roads" then [(("crossings" : Str), V.ref t)] else (("crossings" : Str), V.int n) :: putF "roads" (.ref t) []) = _
  rw [if_neg h1]
  rfl
theorem teF2 (n : Int) (t d : Addr) : putF "trails" (.ref d) [("crossings", .int n), ("roads", .ref t)] = teF n t d := by
  have h2 : ¬ (("crossings" : Str) = "trails") := by decide +kernel
  have h3 : ¬ (("roads" : Str) = "trails") := by decide +kernel
  show (if ("crossings" : Str) = "trails" then _ else (("crossings" : Str), V.int n) :: (if ("roads" : Str) = "trails" then _ else (("roads" : Str), V.ref t) :: putF "trails" (.ref d) [])) = _
  rw [if_neg h2, if_neg h3]
  rfl
theorem teF1_r (n : Int) (t : Addr) : ([("crossings", .int n), ("roads", .ref t)] : List (Str × V)).lookup ("roads" : Str) = some (.ref t) := by
  rw [lk1 (by decide +kernel)]
  exact lk0
/-- a tree at p: n crossings, the roads at ps in a tuple, the trails in a dict -/
def TreeAt (K : PySem.W.Frag) (CT CR : Addr) (H : Hp) (p : Addr) (n : Int) (ps : List Addr) (F : List Fact) : Prop :=
  ∃ (dx t d : Addr) (kvs : List (List Key × V)), H p = some (.ins CT dx (teF n t d)) ∧ SqT K H t (ps.map V.ref) ∧ RoadsAt CR H ps F ∧ TrOk K H d kvs n F
def SqA (K : PySem.W.Frag) (H : Hp) (l : Addr) (xs : List V) : Prop := SqL K H l xs ∨ SqT K H l xs
theorem SqA.same {K : PySem.W.Frag} {H H' : Hp} {l : Addr} {xs : List V} (h : SqA K H l xs) (s : Same H H') : SqA K H' l xs := h.elim (fun h => .inl (s.seq h)) fun h => .inr (sqT_same h s)
def spTreeI (K : PySem.W.Frag) (CT CR CB CN CG : Addr) : Sp := fun vs H Q E => ∃ (p dx l : Addr) (n : Int) (ps : List Addr) (F : List Fact) (H0 : Hp), vs = [.ref p, .int n, .ref l] ∧ H p = some (.ins CT dx []) ∧ H0 p = none ∧ Same H0 H ∧ SqA K H0 l (ps.map V.ref) ∧ RoadsAt CR H0 ps F ∧ F.length ≤ 1000 ∧
  (∀ e, due n F = some e → ErrR CB CN CG H0 E e) ∧ (due n F = none → ∀ H', TreeAt K CT CR H' p n ps F → Same H0 H' → Q .non H')
/-- tuple(a name), a list or a tuple at the name -/
def rTupO (K : PySem.W.Frag) : List V → Hp → VK → Prop := fun xs H Q => ∃ p ys, xs = [.ref p] ∧ ((SqL K H p ys ∧ ∀ l, H l = none → Q (.ref l) (upd H l (.tup ys))) ∨ (SqT K H p ys ∧ Q (.ref p) H))
theorem tupE {K : PySem.W.Frag} {σ : L2.St} {H : Hp} {i : Nat} {l : Addr} {ys : List V} {Q : VK} (hi : σ[i]? = some (some (.ref l))) (h : SqA K H l ys) (k : ∀ t H', Same H H' → SqT K H' t ys → Q (.ref t) H') : tCB (rTupO K) (tCons (tVar i) tNil) σ H Q := by
  refine ⟨_, hi, l, ys, rfl, ?_⟩
  rcases h with h | h
  · exact .inl ⟨h, fun t ht => k t _ (Same.new ht) (SqT.of upd_same)⟩
  · exact .inr ⟨h, k l H (Same.refl H) h⟩
theorem sqT_ins {K : PySem.W.Frag} {H : Hp} {p q C dx : Addr} {fs : List (Str × V)} {o : HO} {xs : List V} (hp : H p = some (.ins C dx fs)) (h : SqT K H q xs) : SqT K (upd H p o) q xs := by
  rcases h with (h | ⟨u, h⟩) | h
  · exact .inl (.inl (by rw [upd_ne (ne_of h hp (fun z => nomatch z))]; exact h))
  · exact .inl (.inr ⟨u, by rw [upd_ne (ne_of h hp (fun z => nomatch z))]; exact h⟩)
  · exact .inr h
theorem TrOk.ins {K : PySem.W.Frag} {H : Hp} {p d C dx : Addr} {fs : List (Str × V)} {o : HO} {kvs : List (List Key × V)} {n : Int} {F : List Fact} (h : TrOk K H d kvs n F) (hp : H p = some (.ins C dx fs)) : TrOk K (upd H p o) d kvs n F :=
  ⟨by rw [upd_ne (ne_of h.dc hp (fun z => nomatch z))]; exact h.dc, h.has, fun x y v z => let ⟨q, l, a, b, c⟩ := h.val x y v z; ⟨q, l, a, sqT_ins hp b, c⟩, h.len⟩
theorem due_c {n : Int} {F : List Fact} (h : ¬ (2 ≤ n ∧ n ≤ 24)) : due n F = some (.crossings n) := by
  unfold due
  rw [if_pos h]
theorem due_r {n : Int} {F : List Fact} (h : 2 ≤ n ∧ n ≤ 24) (h2 : (F.length : Int) ≠ n - 1) : due n F = some (.roads F.length) := by
  unfold due
  rw [if_neg (fun z => z h), if_pos h2]
theorem due_go {n : Int} {F : List Fact} (h : 2 ≤ n ∧ n ≤ 24) (h2 : (F.length : Int) = n - 1) : due n F = dueR n [] F := by
  unfold due
  rw [if_neg (fun z => z h), if_neg (fun z => z h2)]
section
variable {P : Program} {w : World} {K : PySem.W.Frag} {mg : Str → Option Value} {base : Heap}
theorem scTreeI : FnScope ["self", "crossings", "roads"] ["self", "crossings", "roads"] (defScope sTreeI) := ⟨rfl, rfl, rfl, by decide +kernel, rfl, by decide +kernel, by decide +kernel⟩
theorem ok_treeI {f fA CT CR CB CN CG fB : Addr} {fd fdA fdB : FuncData} (F : Fun K "__init__" "Tree.__init__" sTreeI f fd) (TT : TeT K mg CT) (TB : ErT K mg "BadCount" CB fB)
    (FB : FnOk P w K mg base CX0 1 fB fdB ["self", "what", "count"] (spEr2 CB "what" "count")) (bB : Binds K fdB ["self", "what", "count"] [])
    (FA : FnOk P w K mg base (L2.CX P w) 4 fA fdA ["crossings", "roads"] (spTrails K CR CB CN CG)) (bA : Binds K fdA ["crossings", "roads"] []) (mA : mg "trails_along" = some (.ref fA)) (kA : PySem.W.keepIn K (.ref fA) = true)
    (hLeast : ∃ t, mg "LEAST_CROSSINGS" = some (.int 2 t)) (hMost : ∃ t, mg "MOST_CROSSINGS" = some (.int 24 t)) (hLen : mg "len" = none) (hTup : mg "tuple" = none) :
    FnOk P w K mg base (L2.CX P w) 5 f fd ["self", "crossings", "roads"] (spTreeI K CT CR CB CN CG) := by
  refine F.okX scTreeI (fun vs H Q E h => ?_) (fun cdv A outer s H vs Q E hr h => ?_)
  · obtain ⟨p, dx, l, n, ps, F, H0, rfl, _⟩ := h
    rfl
  · obtain ⟨p, dx, l, n, ps, F, H0, rfl, hp, hp0, s0, hS, hR, hF, kE, kQ⟩ := h
    obtain ⟨tl, hLeast⟩ := hLeast
    obtain ⟨tm, hMost⟩ := hMost
    have hr2 : Room 2 _ := hr.mono (by decide)
    refine ⟨_, pss_cons (ps_if (pt_not (pt_chain op_le op_le (pe_glob (v := V.int 2) rfl hLeast ⟨tl, rfl⟩) (pv 1) (pe_glob (v := V.int 24) rfl hMost ⟨tm, rfl⟩)))
          (pss_one (ps_raise rfl (takes_of rfl rfl rfl rfl) (pmk_oex TB.ox TB.iC TB.tI FB hr2 bB .nil pass0 (by rfl) TB.gC (pa_cons pe_str (pa_cons (pv 1) pa_nil))))) pss_nil)
      (pss_cons (ps_if (pt_cmpR op_ne (pe_callB call_len_seq (by rfl) hLen PySem.boot_len (pa_cons (pv 2) pa_nil)) (pe_op op_sub (pv 1) pe_int) (nomark _))
          (pss_one (ps_raise rfl (takes_of rfl rfl rfl rfl) (pmk_oex TB.ox TB.iC TB.tI FB hr2 bB .nil pass0 (by rfl) TB.gC (pa_cons pe_str (pa_cons (pe_callB call_len_seq (by rfl) hLen PySem.boot_len (pa_cons (pv 2) pa_nil)) pa_nil))))) pss_nil)
      (pss_cons (ps_fld (pv 0) (pv 1) rfl)
      (pss_cons (ps_fld (pv 0) (pe_callTy (r := rTupO K) call_tuple_of (by rfl) hTup (by decide +kernel) (pa_cons (pv 2) pa_nil)) rfl)
      (pss_one (ps_fld (pv 0) (pe_call FA hr rfl mA kA bA .nil (passes_call (takes_of rfl rfl rfl rfl) fun _ _ _ _ h => h) (pa_cons (pv 1) (pa_cons (pe_fld (pv 0) rfl) pa_nil))) rfl))))), ?_⟩
    have lenE : (ps.map V.ref).length = F.length := by rw [List.length_map]; exact hR.len
    have bad : ¬ (2 ≤ n ∧ n ≤ 24) → Raised CB [("count", .int n), ("what", .str "crossings")] H E := fun z => Raised.mono (kE _ (due_c z)) s0
    have sp : ∀ {o : HO}, Same H0 (upd H p o) := fun {o} b u e => by
      rw [upd_ne (ne_of_none e hp0)]
      exact s0 b u e
    refine ⟨_, rfl, _, _, rfl, rfl, _, rfl, ?_⟩
    by_cases h0 : 2 ≤ n
    · rw [decide_eq_true h0]
      refine iteT ⟨_, _, rfl, rfl, _, rfl, ?_⟩
      by_cases h1 : n ≤ 24
      · rw [decide_eq_true h1]
        refine iteF ?_
        refine ⟨_, rfl, l, _, rfl, hS.same s0, _, rfl, _, _, rfl, rfl, rfl, _, rfl, ?_⟩
        rw [lenE]
        by_cases h2 : (F.length : Int) = n - 1
        · have hd := due_go ⟨h0, h1⟩ h2
          refine iteNS (by rw [h2]) ?_
          refine ⟨_, rfl, _, rfl, p, CT, dx, [], rfl, hp, TT.cl, TT.nC, (by show 0 < 1000; decide), ?_⟩
          refine tupE rfl (hS.same sp) fun t Hb sb ht => ?_
          have hpb := sb _ _ (upd_same (H := H) (a := p) (o := .ins CT dx (putF "crossings" (.int n) [])))
          have s0b : Same H0 Hb := sp.trans sb
          refine ⟨_, rfl, p, CT, dx, _, rfl, hpb, TT.cl, TT.nR, (by show 1 < 1000; decide), ?_⟩
          rw [teF1]
          have s0c : Same H0 (upd Hb p (.ins CT dx [("crossings", .int n), ("roads", .ref t)])) := fun b u e => by
            rw [upd_ne (ne_of_none e hp0)]
            exact s0b b u e
          have htc : SqT K (upd Hb p (.ins CT dx [("crossings", .int n), ("roads", .ref t)])) t (ps.map V.ref) := sqT_ins hpb ht
          refine ⟨_, rfl, _, rfl, p, CT, dx, _, _, rfl, upd_same, TT.cl, TT.nR, teF1_r n t, n, t, ps, F, rfl, htc, hR.same s0c, by omega, h1, by omega, fun e he => ?_, fun he d kvs H' T s' hd' => ?_⟩
          · exact (kE e (by rw [hd]; exact he)).mono s0c
          · have hp' := s' _ _ (upd_same (H := Hb) (a := p) (o := .ins CT dx [("crossings", .int n), ("roads", .ref t)]))
            have ndp : d ≠ p := ne_of T.dc hp' (fun z => nomatch z)
            have s0d : Same H0 (upd H' p (.ins CT dx (teF n t d))) := fun b u e => by
              rw [upd_ne (ne_of_none e hp0)]
              exact s' b u (s0c b u e)
            refine ⟨_, rfl, p, CT, dx, _, rfl, hp', TT.cl, TT.nT, (by show 2 < 1000; decide), ?_⟩
            rw [teF2]
            exact kQ (by rw [hd]; exact he) _ ⟨dx, t, d, kvs, upd_same, sqT_ins hp' (sqT_same htc s'), hR.same s0d, T.ins hp'⟩ s0d
        · have k2 : Raised CB [("count", .int F.length), ("what", .str "roads")] H E := Raised.mono (kE _ (due_r ⟨h0, h1⟩ h2)) s0
          have h3 : ¬ (V.int (F.length : Int) = V.int (n - 1)) := fun z => h2 (V.int.inj z)
          rw [decide_eq_false h3]
          refine iteT ⟨_, rfl, l, _, rfl, hS.same s0, len2, fun a ha => ?_⟩
          rw [lenE]
          exact er2 ha k2
      · rw [decide_eq_false h1]
        exact iteT ⟨_, rfl, len2, fun a ha => er2 ha (bad fun z => h1 z.2)⟩
    · rw [decide_eq_false h0]
      exact iteF ⟨_, rfl, iteT ⟨_, rfl, len2, fun a ha => er2 ha (bad fun z => h0 z.1)⟩⟩
end
end OT
set_option Elab.async false
set_option linter.all false
set_option maxRecDepth 100000
set_option maxHeartbeats 2000000
namespace OT
open PySem L2 OTR
theorem sqL_but {K : PySem.W.Frag} {H H' : Hp} {s l : Addr} {xs : List V} (h : SqL K H l xs) (n : l ≠ s) (e : But s H H') : SqL K H' l xs := by
  rcases h with (h | ⟨o, h⟩) | h
  · exact .inl (.inl (e _ _ h n))
  · exact .inl (.inr ⟨o, e _ _ h n⟩)
  · exact .inr h
theorem Src.same {s : Addr} {H H' : Hp} (h : Src H s) (e : Same H H') : Src H' s := let ⟨a, b, c, h0, h1⟩ := h; ⟨a, b, c, h0, e _ _ h1⟩
theorem Src.ne {s l : Addr} {H : Hp} {o : HO} (h : Src H s) (hl : H l = some o) (d : ∀ a b c : Int, o ≠ .lst [.int a, .int b, .int c]) : l ≠ s := fun z => by
  obtain ⟨a, b, c, _, h1⟩ := h
  rw [z, h1] at hl
  exact d a b c (Option.some.inj hl).symm
theorem Src.new {s l : Addr} {H : Hp} (h : Src H s) (hl : H l = none) : l ≠ s := fun z => by
  obtain ⟨a, b, c, _, h1⟩ := h
  rw [z, h1] at hl
  cases hl
theorem But.new {s l : Addr} {H H' : Hp} {o : HO} (b : But s H H') (hl : H l = none) : But s H (L2.upd H' l o) := fun c u e n => by
  rw [upd_ne (ne_of_none e hl)]
  exact b c u e n
theorem Src.upd {s l : Addr} {H : Hp} {o : HO} (h : Src H s) (n : l ≠ s) : Src (L2.upd H l o) s := let ⟨a, b, c, h0, h1⟩ := h; ⟨a, b, c, h0, by rw [upd_ne (Ne.symm n)]; exact h1⟩
theorem seqIx {i : Int} {n : Nat} (h0 : 0 ≤ i) (h1 : i < n) : seqIndex? i n = some i.toNat := by
  unfold seqIndex?
  have e : (if i < 0 then i + (n : Int) else i) = i := if_neg (by omega)
  simp only [e]
  rw [if_pos (by simp; omega)]
theorem perm_erase {α : Type} : ∀ {l : List α} {k : Nat} {y : α}, l[k]? = some y → (y :: l.eraseIdx k).Perm l
  | [], k, y, h => by simp at h
  | a :: l, 0, y, h => by
    have e := Option.some.inj h
    subst e
    exact List.Perm.refl _
  | a :: l, k + 1, y, h => by
    have ih := perm_erase (l := l) (k := k) (y := y) h
    exact (List.Perm.swap a y _).trans (ih.cons a)
section
variable {P : Program} {w : World} {K : PySem.W.Frag} {mg : Str → Option Value} {base : Heap}
theorem scPick : FnScope ["_law_rng_here", "_law_items"] ["_law_rng_here", "_law_items"] (defScope sPick) := ⟨rfl, rfl, rfl, by decide +kernel, rfl, by decide +kernel, by decide +kernel⟩
theorem ok_pick {f fD : Addr} {fd fdD : FuncData} (F : Fun K "_law_pick" "_law_pick" sPick f fd) (FD : FnOk P w K mg base CX0 1 fD fdD ["_law_rng_here", "_law_limit"] spDraw) (bD : Binds K fdD ["_law_rng_here", "_law_limit"] []) (mD : mg "_law_draw" = some (.ref fD)) (kD : PySem.W.keepIn K (.ref fD) = true)
    (hLen : mg "len" = none) : FnOk P w K mg base CX0 2 f fd ["_law_rng_here", "_law_items"] (spPick K) := by
  refine F.ok scPick (fun vs H Q E h => ?_) (fun cdv A outer s H vs Q E hr h => ?_)
  · obtain ⟨s, l, xs, rfl, _⟩ := h
    rfl
  · obtain ⟨s, l, xs, rfl, hs, hn, hl, l0, l1, k⟩ := h
    refine ⟨_, pss_one (ps_ret (pe_ix ix_list (pv 1) (pe_call FD hr rfl mD kD bD .nil pass0 (pa_cons (pv 0) (pa_cons (pe_callB call_len_seq (by rfl) hLen PySem.boot_len (pa_cons (pv 1) pa_nil)) pa_nil))) (fun _ _ => rfl))), ?_⟩
    refine ⟨_, rfl, _, rfl, _, rfl, l, xs, rfl, .inl hl, s, _, rfl, hs, by omega, by omega, fun r H' r0 r1 src b => ?_⟩
    obtain ⟨j, rfl⟩ : ∃ j : Nat, r = (j : Int) := ⟨r.toNat, by omega⟩
    have hj : j < xs.length := by omega
    exact ⟨l, xs, (j : Int), xs[j], rfl, rfl, sqL_but hl hn b, atI_nat (List.getElem?_eq_getElem hj), k _ _ (List.getElem_mem hj) src b⟩
end
end OT
namespace OT
/-- no road of fs joins what the others join already -/
def NoRing (fs : List Fact) : Prop := ∀ (i : Nat) (r : Fact), fs[i]? = some r → ¬ Con (fs.eraseIdx i) r.1 r.2.1
/-- a crossing that no road of F meets -/
theorem Con.alone {F : List Fact} {v x : Int} (h : Con F x v) (no : ∀ r ∈ F, r.1 ≠ v ∧ r.2.1 ≠ v) : x = v := by
  cases h with
  | refl => rfl
  | step _ m j =>
    obtain ⟨n1, n2⟩ := no _ m
    rcases j with ⟨_, e⟩ | ⟨e, _⟩
    · exact absurd e n2
    · exact absurd e n1
theorem noRing_nil : NoRing [] := fun i r h => by simp at h
theorem noRing_add {fs : List Fact} {r : Fact} {v u : Int} (h : NoRing fs) (no : ∀ q ∈ fs, q.1 ≠ v ∧ q.2.1 ≠ v) (e : (r.1 = v ∧ r.2.1 = u) ∨ (r.1 = u ∧ r.2.1 = v)) (ne : u ≠ v) : NoRing (fs ++ [r]) := by
  intro i q hi c
  by_cases hl : i < fs.length
  · rw [List.getElem?_append_left hl] at hi
    rw [List.eraseIdx_append_of_lt_length hl] at c
    have mq : q ∈ fs := List.mem_of_getElem? hi
    have no' : ∀ p ∈ fs.eraseIdx i, p.1 ≠ v ∧ p.2.1 ≠ v := fun p hp => no p (List.mem_of_mem_eraseIdx hp)
    obtain ⟨q1, q2⟩ := no q mq
    rcases con_snoc.mp c with c | ⟨c1, c2⟩ | ⟨c1, c2⟩
    · exact h i q hi c
    · rcases e with ⟨e1, e2⟩ | ⟨e1, e2⟩
      · rw [e1] at c1
        exact q1 (c1.alone no')
      · rw [e2] at c2
        exact q2 (c2.symm.alone no')
    · rcases e with ⟨e1, e2⟩ | ⟨e1, e2⟩
      · rw [e1] at c2
        exact q2 (c2.symm.alone no')
      · rw [e2] at c1
        exact q1 (c1.alone no')
  · have hl2 : fs.length ≤ i := Nat.le_of_not_lt hl
    rw [List.getElem?_append_right hl2] at hi
    have e0 : i = fs.length := by
      have z := (List.getElem?_eq_some_iff.mp hi).1
      simp at z
      omega
    subst e0
    rw [Nat.sub_self] at hi
    cases hi
    rw [List.eraseIdx_append_of_length_le (Nat.le_refl _), Nat.sub_self] at c
    have c' : Con fs r.1 r.2.1 := by simpa using c
    rcases e with ⟨e1, e2⟩ | ⟨e1, e2⟩
    · rw [e1, e2] at c'
      exact ne (c'.symm.alone no)
    · rw [e1, e2] at c'
      exact ne (c'.alone no)
theorem take_sub_erase {α : Type} : ∀ {l : List α} {i : Nat} {x : α}, x ∈ l.take i → x ∈ l.eraseIdx i
  | [], i, x, h => by simp at h
  | a :: l, 0, x, h => by simp at h
  | a :: l, i + 1, x, h => by
    rcases List.mem_cons.mp h with e | h
    · exact List.mem_cons.mpr (.inl e)
    · exact List.mem_cons.mpr (.inr (take_sub_erase h))
theorem noRing_due {n : Int} {fs : List Fact} (h : NoRing fs) (ok : ∀ r ∈ fs, In n r.1 ∧ In n r.2.1 ∧ 1 ≤ r.2.2 ∧ r.2.2 ≤ 1000000000) : dueR n [] fs = none := by
  have key : ∀ (k i : Nat), i + k = fs.length → dueR n (fs.take i) (fs.drop i) = none := by
    intro k
    induction k with
    | zero =>
      intro i hi
      rw [List.drop_of_length_le (by omega), dueR_nil]
    | succ k ih =>
      intro i hi
      have hl : i < fs.length := by omega
      have g : fs[i]? = some fs[i] := List.getElem?_eq_getElem hl
      obtain ⟨a, b, c, d⟩ := ok _ (List.getElem_mem hl)
      rw [List.drop_eq_getElem_cons hl, dueR_go a b ⟨c, d⟩ (fun z => h i _ g (z.mono fun r hr => take_sub_erase hr))]
      have e : fs.take i ++ [fs[i]] = fs.take (i + 1) := by
        rw [List.take_succ, g]
        rfl
      rw [e]
      exact ih (i + 1) (by omega)
  have z := key fs.length 0 (by omega)
  simpa using z
theorem erase_perm {α : Type} : ∀ {l : List α} {k : Nat} {y : α}, l[k]? = some y → (y :: l.eraseIdx k).Perm l
  | [], k, y, h => by simp at h
  | a :: l, 0, y, h => by
    have e := Option.some.inj h
    subst e
    exact List.Perm.refl _
  | a :: l, k + 1, y, h => by
    have ih := erase_perm (l := l) (k := k) (y := y) h
    exact (List.Perm.swap a y _).trans (ih.cons a)
theorem noRing_perm {fs gs : List Fact} (p : gs.Perm fs) (h : NoRing fs) : NoRing gs := by
  intro i r hi c
  have m : r ∈ fs := p.mem_iff.mp (List.mem_of_getElem? hi)
  obtain ⟨j, hj, e⟩ := List.getElem_of_mem m
  have hj' : fs[j]? = some r := by rw [List.getElem?_eq_getElem hj, e]
  have q : (gs.eraseIdx i).Perm (fs.eraseIdx j) := List.Perm.cons_inv (((erase_perm hi).trans p).trans (erase_perm hj').symm)
  exact h j r hj' (c.mono fun x hx => q.mem_iff.mp hx)
/-- what a drawn tree is -/
structure Drawn (most long n : Int) (fs : List Fact) : Prop where
  lo : 2 ≤ n
  hi : n ≤ most
  len : (fs.length : Int) = n - 1
  ok : ∀ r ∈ fs, In n r.1 ∧ In n r.2.1 ∧ 1 ≤ r.2.2 ∧ (r.2.2 ≤ 2 ∨ r.2.2 ≤ long)
  nr : NoRing fs
  con : ∀ x y, In n x → In n y → Con fs x y
theorem Drawn.due {most long n : Int} {fs : List Fact} (h : Drawn most long n fs) (h24 : most ≤ 24) (hl : long ≤ 1000000000) : due n fs = none := by
  unfold OT.due
  have a := h.lo
  have b := h.hi
  rw [if_neg (fun z => z ⟨a, by omega⟩), if_neg (fun z => z h.len)]
  exact noRing_due h.nr fun r hr => let ⟨x, y, z, w⟩ := h.ok r hr; ⟨x, y, z, by omega⟩
end OT
set_option Elab.async false
set_option linter.all false
set_option maxRecDepth 100000
set_option maxHeartbeats 2000000
namespace OT
open PySem L2 OTR
def TupAt (H : Hp) (t : Addr) (r : Fact) : Prop := H t = some (.tup [.int r.1, .int r.2.1, .int r.2.2])
theorem TupAt.but {H H' : Hp} {s t : Addr} {r : Fact} (h : TupAt H t r) (src : Src H s) (b : But s H H') : TupAt H' t r := b _ _ h (src.ne h fun _ _ _ z => nomatch z)
theorem tups_but {H H' : Hp} {s : Addr} {ts : List Addr} {fs : List Fact} (h : Paired (TupAt H) ts fs) (src : Src H s) (b : But s H H') : Paired (TupAt H') ts fs := by
  induction h with
  | nil => exact .nil
  | cons a _ ih => exact .cons (a.but src b) ih
theorem tups_same {H H' : Hp} {ts : List Addr} {fs : List Fact} (h : Paired (TupAt H) ts fs) (b : Same H H') : Paired (TupAt H') ts fs := by
  induction h with
  | nil => exact .nil
  | cons a _ ih => exact .cons (b _ _ a) ih
theorem paired_snoc {α β : Type} {R : α → β → Prop} {as : List α} {bs : List β} {a : α} {b : β} (h : Paired R as bs) (x : R a b) : Paired R (as ++ [a]) (bs ++ [b]) := by
  induction h with
  | nil => exact .cons x .nil
  | cons y _ ih => exact .cons y ih
theorem tups_put {H : Hp} {p : Addr} {xs ys : List V} {ts : List Addr} {fs : List Fact} (h : Paired (TupAt H) ts fs) (hp : H p = some (.lst xs)) : Paired (TupAt (upd H p (.lst ys))) ts fs := by
  induction h with
  | nil => exact .nil
  | cons a _ ih =>
    refine .cons ?_ ih
    unfold TupAt at a ⊢
    rw [upd_ne (ne_of a hp (fun z => nomatch z))]
    exact a
theorem But.put {s p : Addr} {H G : Hp} {o : HO} (b : But s H G) (hp : H p = none) : But s H (L2.upd G p o) := fun c u e n => by
  rw [upd_ne (ne_of_none e hp)]
  exact b c u e n
/-- at q a list of triples -/
def FactsAt (H : Hp) (q : Addr) (fs : List Fact) : Prop := ∃ ts : List Addr, H q = some (.lst (ts.map V.ref)) ∧ Paired (TupAt H) ts fs
theorem perm_map {α β : Type} {f : α → β} : ∀ {ys : List β} {l : List α}, ys.Perm (l.map f) → ∃ l' : List α, ys = l'.map f ∧ l'.Perm l := by
  intro ys l p
  generalize h : l.map f = zs at p
  induction p generalizing l with
  | nil =>
    cases l with
    | nil => exact ⟨[], rfl, .nil⟩
    | cons a l => cases h
  | cons x _ ih =>
    cases l with
    | nil => cases h
    | cons a l =>
      injection h with h1 h2
      obtain ⟨l', e, q⟩ := ih h2
      exact ⟨a :: l', by rw [List.map_cons, h1, e], q.cons a⟩
  | swap x y zs =>
    cases l with
    | nil => cases h
    | cons a l =>
      cases l with
      | nil =>
        injection h with h1 h2
        cases h2
      | cons b l =>
        injection h with h1 h2
        injection h2 with h2 h3
        exact ⟨b :: a :: l, by rw [List.map_cons, List.map_cons, h1, h2, h3], .swap a b l⟩
  | trans _ _ ih1 ih2 =>
    obtain ⟨l1, e1, q1⟩ := ih2 h
    obtain ⟨l2, e2, q2⟩ := ih1 e1.symm
    exact ⟨l2, e2, q2.trans q1⟩
theorem perm_paired {α β : Type} {R : α → β → Prop} : ∀ {as' as : List α}, as'.Perm as → ∀ {bs : List β}, Paired R as bs → ∃ bs', Paired R as' bs' ∧ bs'.Perm bs := by
  intro as' as p
  induction p with
  | nil =>
    intro bs h
    cases h
    exact ⟨[], .nil, .nil⟩
  | cons x _ ih =>
    intro bs h
    cases h with
    | cons y t =>
      obtain ⟨b', h', q⟩ := ih t
      exact ⟨_ :: b', .cons y h', q.cons _⟩
  | swap x y zs =>
    intro bs h
    cases h with
    | cons a t =>
      cases t with
      | cons b t => exact ⟨_ :: _ :: _, .cons b (.cons a t), .swap _ _ _⟩
  | trans _ _ ih1 ih2 =>
    intro bs h
    obtain ⟨b1, h1, q1⟩ := ih2 h
    obtain ⟨b2, h2, q2⟩ := ih1 h1
    exact ⟨b2, h2, q2.trans q1⟩
theorem one_con {os : List Int} {fs : List Fact} {x y : Int} (hx : x ∈ os.take (0 + 1)) (hy : y ∈ os.take (0 + 1)) : Con fs x y := by
  cases os with
  | nil => cases hx
  | cons a r =>
    rw [List.take_succ_cons, List.take_zero] at hx hy
    rw [List.mem_singleton.mp hx, List.mem_singleton.mp hy]
    exact .refl a
/-- the roads drawn so far: their ends among the first crossings of the order -/
structure Part (os : List Int) (long : Int) (i : Nat) (fs : List Fact) : Prop where
  len : fs.length = i
  ok : ∀ r ∈ fs, r.1 ∈ os.take (i + 1) ∧ r.2.1 ∈ os.take (i + 1) ∧ 1 ≤ r.2.2 ∧ (r.2.2 ≤ 2 ∨ r.2.2 ≤ long)
  nr : NoRing fs
  con : ∀ x y, x ∈ os.take (i + 1) → y ∈ os.take (i + 1) → Con fs x y
theorem Part.add {os : List Int} {long : Int} {i j : Nat} {fs : List Fact} {r : Fact} {a b : Int} (h : Part os long i fs) (nd : os.Nodup) (ha : os[i + 1]? = some a) (hb : os[j]? = some b) (hj : j ≤ i) (e : (r.1 = a ∧ r.2.1 = b) ∨ (r.1 = b ∧ r.2.1 = a))
    (l1 : 1 ≤ r.2.2) (l2 : r.2.2 ≤ 2 ∨ r.2.2 ≤ long) : Part os long (i + 1) (fs ++ [r]) := by
  have tk : os.take (i + 1 + 1) = os.take (i + 1) ++ [a] := take_get ha
  have mb : b ∈ os.take (i + 1) := List.mem_of_getElem? (i := j) (by rw [List.getElem?_take, if_pos (by omega)]; exact hb)
  have na : a ∉ os.take (i + 1) := fun m => by
    obtain ⟨q, hq, eq⟩ := List.getElem_of_mem m
    rw [List.length_take] at hq
    rw [List.getElem_take] at eq
    have h1 := (List.getElem?_eq_some_iff.mp ha)
    obtain ⟨h2, h3⟩ := h1
    have := (List.getElem_inj nd).mp (eq.trans h3.symm)
    omega
  have ba : b ≠ a := fun z => na (z ▸ mb)
  refine ⟨by rw [List.length_append, h.len]; rfl, fun q hq => ?_, noRing_add h.nr (fun q hq => ?_) e ba, fun x y hx hy => ?_⟩
  · rw [tk]
    rcases List.mem_append.mp hq with hq | hq
    · obtain ⟨x, y, z⟩ := h.ok q hq
      exact ⟨List.mem_append_left _ x, List.mem_append_left _ y, z⟩
    · obtain rfl := List.mem_singleton.mp hq
      have m1 : a ∈ os.take (i + 1) ++ [a] := List.mem_append_right _ (List.mem_singleton.mpr rfl)
      have m2 : b ∈ os.take (i + 1) ++ [a] := List.mem_append_left _ mb
      rcases e with ⟨e1, e2⟩ | ⟨e1, e2⟩
      · rw [e1, e2]
        exact ⟨m1, m2, l1, l2⟩
      · rw [e1, e2]
        exact ⟨m2, m1, l1, l2⟩
  · obtain ⟨x, y, _⟩ := h.ok q hq
    exact ⟨fun z => na (z ▸ x), fun z => na (z ▸ y)⟩
  · have old : ∀ {x y : Int}, x ∈ os.take (i + 1) → y ∈ os.take (i + 1) → Con (fs ++ [r]) x y := fun hx hy => (h.con _ _ hx hy).mono fun q hq => List.mem_append_left _ hq
    have ab : Con (fs ++ [r]) a b := Con.one (r := r) (List.mem_append_right _ (List.mem_singleton.mpr rfl)) e
    have to : ∀ {x : Int}, x ∈ os.take (i + 1 + 1) → Con (fs ++ [r]) x b := fun hx => by
      rw [tk] at hx
      rcases List.mem_append.mp hx with c | c
      · exact old c mb
      · rw [List.mem_singleton.mp c]
        exact ab
    exact (to hx).trans (to hy).symm
end OT
set_option Elab.async false
set_option linter.all false
set_option maxRecDepth 100000
set_option maxHeartbeats 1000000
namespace OTR
open PySem PySem.Spec PyProof.Rows L2
section
variable {X : Cx}
/-- xs + ys, lists that are read -/
def rCatS (K : PySem.W.Frag) : R2 := fun x y H Q => ∃ l b xs zs, x = .ref l ∧ y = .ref b ∧ SqL K H l xs ∧ SqL K H b zs ∧ xs.length + zs.length ≤ sizeLine ∧ ∀ p, H p = none → Q (.ref p) (upd H p (.lst (xs ++ zs)))
theorem op_catS : OpR X (binaryOp .Add) (rCatS X.K) := by
  intro p0 s0 g0 H0 x y vx vy Q J rx ry h
  obtain ⟨l, b, xs, zs, rfl, rfl, ea, eb, hz, q⟩ := h
  cases rx
  cases ry
  obtain ⟨us, w1, l1, _⟩ := J.list ea
  obtain ⟨ws, w2, l2, _⟩ := J.list eb
  obtain ⟨⟨c1, d1, t1, k1⟩, o1, e1, n1, f1⟩ := l1.isList
  obtain ⟨⟨c2, d2, t2, k2⟩, o2, e2, n2, f2⟩ := l2.isList
  simp only at e1 f1 e2 f2
  subst e1 f1 e2 f2
  have zz : us.toArray.size + ws.toArray.size ≤ sizeLine := by
    rw [List.size_toArray, List.size_toArray, ← w1.length, ← w2.length]
    exact hz
  refine concat_meets ⟨_, o1, rfl⟩ ⟨_, o2, rfl⟩ noFill_list_add seq_list_add PySem.F.slot_list_add PySem.F.entry_list_add (PySem.F.args_list_add_2 _ _) (list_addW l b us.toArray ws.toArray n1 n2 d1 d2 k1 k2 zz) ⟨o1, o2, ?_⟩
  have ea' : us.toArray ++ ws.toArray = (us ++ ws).toArray := by simp
  rw [ea']
  exact ⟨.ref _, _, J.lnew (t' := s0.toks) (w1.append w2) (by rw [List.length_append]; exact hz), rfl, q _ J.fresh⟩
end
end OTR
set_option Elab.async false
set_option linter.all false
set_option maxRecDepth 100000
set_option maxHeartbeats 2000000
namespace OTR
open PySem PySem.Spec PyProof.Rows L2
/-- how two values are compared in the abstract heap: what is wanted of the answer -/
abbrev Rdg := V → V → Hp → (Bool → Hp → Prop) → Prop
def EqB (X : Cx) (n : Nat) (R : Rdg) : Prop := ∀ (A : Around) (pn : List (Addr × Obj)) (t : Shared) (σ : L2.St) (H : Hp) (x y : V) (u v : Value) (Q : Bool → Hp → Prop), Sub X n A → Inv X pn σ H t → RelV x u → RelV y v → R x y H Q →
  wpAny (model X.prog X.w) A (eqBool u v) (fun r t' => ∃ H', Inv X pn σ H' t' ∧ Q r H') X.xe t
def RcB (X : Cx) (n : Nat) (op : CmpOp) (R : Rdg) : Prop := ∀ (A : Around) (pn : List (Addr × Obj)) (t : Shared) (σ : L2.St) (H : Hp) (x y : V) (u v : Value) (Q : Bool → Hp → Prop), Sub X n A → Inv X pn σ H t → RelV x u → RelV y v → R x y H Q →
  wpAny (model X.prog X.w) A (richCompare op u v) (fun r t' => ∃ b H', r = .bool b ∧ Inv X pn σ H' t' ∧ Q b H') X.xe t
/-- what a value's type is -/
inductive HasT (H : Hp) : V → Value → Prop where
  | non : HasT H .non (.type "NoneType")
  | tup {a : Addr} {xs : List V} (e : H a = some (.tup xs)) : HasT H (.ref a) (.type "tuple")
  | lst {a : Addr} {xs : List V} (e : H a = some (.lst xs)) : HasT H (.ref a) (.type "list")
  | ins {a C dx : Addr} {fs : List (Str × V)} (e : H a = some (.ins C dx fs)) : HasT H (.ref a) (.ref C)
section
variable {X : Cx} {pn : List (Addr × Obj)} {σ : L2.St} {H : Hp} {t : Shared}
theorem HasT.looks {x : V} {u ty : Value} (h : HasT H x ty) (I : Inv X pn σ H t) (r : RelV x u) : PySem.W.Looks (model X.prog X.w) t.heap (typeOf u) ty := by
  cases h with
  | non =>
    cases (show u = Value.none from r)
    exact PySem.W.Looks.of_pure rfl
  | @tup a xs e =>
    cases (show u = Value.ref a from r)
    obtain ⟨_, _, _, o, g1, g2, _⟩ := (show ObjOk X.prog X.w H t.heap a (.tup xs) from I.hok a _ e)
    exact g2 ▸ (PySem.W.Looks.ld g1).andThen .now
  | @lst a xs e =>
    cases (show u = Value.ref a from r)
    obtain ⟨_, _, n, _, g1⟩ := (show ObjOk X.prog X.w H t.heap a (.lst xs) from I.hok a _ e)
    exact (PySem.W.Looks.ld g1).andThen .now
  | @ins a C dx fs e =>
    cases (show u = Value.ref a from r)
    obtain ⟨m, J, _⟩ := ins_get I.hok e
    obtain ⟨od, J, _⟩ := J.look
    exact J.type
variable {n : Nat} {C f : Addr} {fd : FuncData} {ps : List Str} {sp : Sp}
/-- the own __eq__ is called with the two -/
theorem run_own {A : Around} {x y : V} {u v : Value} {Q : VK} (F : FnOk X.prog X.w X.K X.mg X.base CX0 n f fd ps sp) (hb : Binds X.K fd ps []) (sb : Sub X n A) (I : Inv X pn σ H t) (rx : RelV x u) (ry : RelV y v) (h : sp [x, y] H Q fun _ _ _ => False) :
    wpAny (model X.prog X.w) A (call (.ref f) [u, v]) (fun r t' => ∃ z H', RelV z r ∧ Inv X pn σ H' t' ∧ Q z H') X.xe t := by
  have env : Env0 X.prog X.w X.K X.mg X.base A X.stack t H := by
    have e := I.env0
    exact ⟨by rw [sb.fr]; exact e.frames, e.mod, e.bs, e.bsz, e.funs, e.frf, e.hok, e.bare⟩
  have len := F.len _ _ _ _ h
  have two : Vals [x, y] [u, v] := .cons rx (.cons ry .nil)
  have bind := hb t [u, v] I.kIn (by simpa using len)
  refine wpAny_call (codeAny_mono (F.run A X.stack t H ⟨[u, v], []⟩ [u, v] [x, y] _ _ sb.room env (by simpa using bind) two h) fun r t' q => ?_)
  cases r with
  | error e => exact False.elim q
  | ok fl =>
    cases fl with
    | ret w =>
      obtain ⟨z, H', I', rz, q'⟩ := I.after q
      exact ⟨z, H', rz, I', q'⟩
    | next => exact False.elim q
    | brk => exact False.elim q
    | cont => exact False.elim q
end
section
variable {X : Cx} {n : Nat} {C f : Addr} {fd : FuncData} {ps : List Str} {sp : Sp}
/-- x is an instance of the class at C, y whatever its __eq__ takes -/
def ROwn (K : PySem.W.Frag) (C : Addr) (sp : Sp) : Rdg := fun x y H Q => ∃ (a dx : Addr) (fs : List (Str × V)) (ty : Value), x = .ref a ∧ H a = some (.ins C dx fs) ∧ HasT H y ty ∧ PySem.W.notFirst K C ty = true ∧ sp [x, y] H (fun z H' => ∃ b, z = .bl b ∧ Q b H') fun _ _ _ => False
theorem rcB_own (F : FnOk X.prog X.w X.K X.mg X.base CX0 n f fd ps sp) (hs : PySem.W.findIn X.K (.ref C) "__eq__" = some (some (.ref f))) (hf : PySem.W.isFn X.K (.ref f) = true) (hb : Binds X.K fd ps []) : RcB X n .Eq (ROwn X.K C sp) := by
  intro A pn t σ H x y u v Q sb I rx ry h
  obtain ⟨a, dx, fs, ty, rfl, ha, hy, nf, h⟩ := h
  have look := hy.looks I ry
  cases (show u = Value.ref a from rx)
  obtain ⟨m, J, _⟩ := ins_get I.hok ha
  obtain ⟨od, J, _⟩ := J.look
  obtain ⟨m2, fr⟩ := I.fr
  refine PySem.W.cmp_K (op := .Eq) sb.room.units0 fr I.ok.mod.kin J look nf hs hf ?_
  refine wpAny_mono (run_own F hb sb I rx ry h) (fun r t' q => ?_) fun _ _ z => z
  obtain ⟨z, H', rz, I', b, rfl, q⟩ := q
  cases (show r = Value.bool b from rz)
  exact ⟨b, H', rfl, I', q⟩
theorem HasT.val {H : Hp} {x : V} {u ty : Value} (h : HasT H x ty) (r : RelV x u) : (x = .non ∧ u = .none) ∨ ∃ a, x = .ref a ∧ u = .ref a := by
  cases h with
  | non => exact .inl ⟨rfl, r⟩
  | tup e => exact .inr ⟨_, rfl, r⟩
  | lst e => exact .inr ⟨_, rfl, r⟩
  | ins e => exact .inr ⟨_, rfl, r⟩
end
end OTR
set_option Elab.async false
set_option linter.all false
set_option maxRecDepth 100000
set_option maxHeartbeats 2000000
namespace OTR
open PySem PySem.Spec PyProof.Rows L2
open AutoSeq1 (wpAny_loadPart')
open MeetsSeq MeetsSeq2 MeetsSeq3 SeqRoads2
/-- the list at p holds all; x is looked for among the last ones -/
def inAll (R : Rdg) (p : Addr) (all : List V) (x : V) : List V → Hp → (Bool → Hp → Prop) → Prop
  | [], H, Q => H p = some (.lst all) ∧ Q false H
  | y :: ys, H, Q => H p = some (.lst all) ∧ R y x H fun b H' => if b = true then Q true H' else inAll R p all x ys H' Q
theorem inAll.at_ {R : Rdg} {p : Addr} {all ys : List V} {x : V} {H : Hp} {Q : Bool → Hp → Prop} (h : inAll R p all x ys H Q) : H p = some (.lst all) := by
  cases ys <;> exact h.1
end OTR
set_option Elab.async false
set_option linter.all false
set_option maxRecDepth 100000
set_option maxHeartbeats 2000000
namespace OTR
open PySem PySem.Spec PyProof.Rows L2
open AutoSeq1 (wpAny_loadPart')
open MeetsSeq MeetsSeq2 MeetsSeq3 SeqRoads2 SeqAt
section
variable {prog : Program} {w : World} {A : Around} {E : Value → Shared → Prop} {t : Shared} {K : PySem.W.Frag} {x C f : Addr} {ox : Obj} {od : Option Obj} {b tb : Value}
theorem ne_body {Q : Fin → Shared → Prop} (hu : A.units < cLine) (kin : K.In t.heap) (J : PySem.W.InstAt t.heap x ox C od) (hs : PySem.W.findIn K (.ref C) "__eq__" = some (some (.ref f))) (hf : PySem.W.isFn K (.ref f) = true)
    (h : wpAny (model prog w) A (call (.ref f) [.ref x, b]) (fun v t' => ∃ r, v = .bool r ∧ Q (.done (.ret (.bool (!r)))) t') E t) : wpAny (model prog w) A (Builtin.«object.__ne__» ⟨[.ref x, b], []⟩) Q E t := by
  unfold Builtin.«object.__ne__»
  repeat (first
    | with_reducible refine wpAny_cRoomFor hu ?_
    | (refine wpAny_bind (m := callSpecialIfBound? (.ref x) (Str.ofString "__eq__") [b]) (PySem.W.ifBound_K kin J hs hf (wpAny_mono h (fun r t' q => by
          obtain ⟨y, rfl, q⟩ := q
          repeat (first | exact q | exact wpAny_pure q | exact wpAny_truthy_bool q | (refine wpAny_bind (m := truthy (.bool _)) (wpAny_truthy_bool ?_)) | wp_step)) fun _ _ z => z)))
    | wp_step)
theorem ne_core {Q : Value → Shared → Prop} (hu : A.units + 1 < cLine) (kin : K.In t.heap) (J : PySem.W.InstAt t.heap x ox C od) (look : PySem.W.Looks (model prog w) t.heap (typeOf b) tb) (nf : PySem.W.notFirst K C tb = true) (hn : PySem.W.findIn K (.ref C) "__ne__" = some (some (.builtin "object.__ne__"))) (hm : PySem.W.mroIn K C (.type "object") = some true)
    (hs : PySem.W.findIn K (.ref C) "__eq__" = some (some (.ref f))) (hf : PySem.W.isFn K (.ref f) = true) (h : wpAny (model prog w) A.in1 (call (.ref f) [.ref x, b]) (fun v t' => ∃ r, v = .bool r ∧ Q (.bool (!r)) t') E t) : wpAny (model prog w) A (richCompare .NotEq (.ref x) b) Q E t := by
  have called : wpAny (model prog w) A (call (.builtin "object.__ne__") [.ref x, b]) (fun v t' => ∃ r, v = .bool r ∧ Q (.bool r) t') E t :=
    wpAny_call (codeAny_call_builtin F.cmp_object.ne.plain F.cmpEntry_ne (PySem.W.check_slot F.cmpKind_ne F.cmpSplit_ne (J.type.andThen (PySem.W.looks_mroIn kin hm)) (F.cmpArgs_ne _ _)
      (ne_body (A := A.in1) hu kin J hs hf (wpAny_mono h (fun v t' q => by
        obtain ⟨r, rfl, q⟩ := q
        exact ⟨r, rfl, _, rfl, q⟩) fun _ _ z => z))))
  have one : wpAny (model prog w) A (tryCompare (.ref x) "__ne__" b) (fun r t' => ∃ v, r = some (.bool v) ∧ Q (.bool v) t') E t := by
    unfold tryCompare
    refine wpAny_bind ?_
    simp only [callSpecialIfBound?, bindSpecialIfBound?]
    refine wpAny_holding (wpAny_bind (wpAny_bind (wpAny_bind (J.type.here ((PySem.W.looks_findIn kin hn).here ?_)))))
    refine wpAny_bind (wpAny_askSetting (wpAny_ite ?_))
    have fin : wpAny (model prog w) A (call (.builtin "object.__ne__") ([.ref x] ++ [b]) >>= fun v => pure (some v)) (fun r t' => wpAny (model prog w) A (match r with | some .notImplemented | none => pure none | some v => pure (some v)) (fun r t' => ∃ v, r = some (.bool v) ∧ Q (.bool v) t') E t') E t :=
      wpAny_bind (wpAny_mono called (fun v t' q => by
        obtain ⟨r, rfl, q⟩ := q
        exact wpAny_pure (wpAny_pure ⟨r, rfl, q⟩)) fun _ _ z => z)
    split
    · exact wpAny_bind (wpAny_of_eq (F.cmp_object.ne.bind _) (wpAny_pure (by exact fin)))
    · exact wpAny_tryCatch (wpAny_bind (wpAny_of_eq (F.cmp_object.ne.bind _) (wpAny_pure (by exact fin))))
  unfold richCompare
  simp only [oneThing_ref]
  refine wpAny_holding (wpAny_bind (wpAny_cRoomFor (Nat.lt_of_succ_lt hu) ?_))
  refine wpAny_bind (J.type.here (wpAny_bind (look.here ?_)))
  split
  · rename_i q
    have e : PySem.W.subIn K tb (.ref C) = some false := by
      rcases Bool.or_eq_true_iff.mp nf with e | e
      · rw [beq_iff_eq.mp e] at q
        simp at q
      · exact beq_iff_eq.mp e
    refine wpAny_bind ((PySem.W.looks_subIn kin e).here ?_)
    simp only [Bool.false_eq_true, if_false]
    refine wpAny_bind (wpAny_mono one (fun r t1 z => ?_) fun _ _ z => z)
    obtain ⟨v, rfl, z⟩ := z
    exact wpAny_pure z
  · refine wpAny_bind (wpAny_pure ?_)
    simp only [Bool.false_eq_true, if_false]
    refine wpAny_bind (wpAny_mono one (fun r t1 z => ?_) fun _ _ z => z)
    obtain ⟨v, rfl, z⟩ := z
    exact wpAny_pure z
end
section
variable {X : Cx} {n : Nat} {C f : Addr} {fd : FuncData} {ps : List Str} {sp : Sp} {R R' : Rdg}
def RNot (R : Rdg) : Rdg := fun x y H Q => R x y H fun b H' => Q (!b) H'
theorem rcB_ne (Fe : FnOk X.prog X.w X.K X.mg X.base CX0 n f fd ps sp) (hs : PySem.W.findIn X.K (.ref C) "__eq__" = some (some (.ref f))) (hf : PySem.W.isFn X.K (.ref f) = true) (hb : Binds X.K fd ps []) (hn : PySem.W.findIn X.K (.ref C) "__ne__" = some (some (.builtin "object.__ne__"))) (hm : PySem.W.mroIn X.K C (.type "object") = some true) : RcB X (n + 1) .NotEq (RNot (ROwn X.K C sp)) := by
  intro A pn t σ H x y u v Q sb I rx ry h
  obtain ⟨a, dx, fs, ty, rfl, ha, hy, nf, h⟩ := h
  have look := hy.looks I ry
  cases (show u = Value.ref a from rx)
  obtain ⟨m, J, _⟩ := ins_get I.hok ha
  obtain ⟨od, J, _⟩ := J.look
  refine ne_core (hu_of sb.room) I.kIn J look nf hn hm hs hf ?_
  refine wpAny_mono (run_own Fe hb sb.in1 I rx ry h) (fun r t' q => ?_) fun _ _ z => z
  obtain ⟨z, H', rz, I', b, rfl, q⟩ := q
  cases (show r = Value.bool b from rz)
  exact ⟨b, rfl, !b, H', rfl, I', q⟩
theorem RcB.mono {op : CmpOp} {m : Nat} (h : RcB X n op R) (le : n ≤ m) : RcB X m op R := fun A pn t σ H x y u v Q sb => h A pn t σ H x y u v Q (sb.mono le)
theorem EqB.mono {m : Nat} (h : EqB X n R) (le : n ≤ m) : EqB X m R := fun A pn t σ H x y u v Q sb => h A pn t σ H x y u v Q (sb.mono le)
/-- as an expression -/
def rCmpB (R : Rdg) : R2 := fun x y H Q => R x y H fun b H' => Q (.bl b) H'
theorem op_eqB (h : RcB X n .Eq R) (hr : Room n X.A) : OpR X (compareOp .Eq) (rCmpB R) := by
  intro pn t σ H x y u v Q I rx ry q
  show wpAny (model X.prog X.w) X.A (richCompare .Eq u v) (EP X pn σ Q) X.xe t
  refine wpAny_mono (h X.A pn t σ H x y u v _ ⟨hr, rfl⟩ I rx ry q) (fun r t' z => ?_) fun _ _ z => z
  obtain ⟨b, H', rfl, I', q⟩ := z
  exact ⟨.bl b, H', I', rfl, q⟩
theorem op_neB (h : RcB X n .NotEq R) (hr : Room n X.A) : OpR X (compareOp .NotEq) (rCmpB R) := by
  intro pn t σ H x y u v Q I rx ry q
  show wpAny (model X.prog X.w) X.A (richCompare .NotEq u v) (EP X pn σ Q) X.xe t
  refine wpAny_mono (h X.A pn t σ H x y u v _ ⟨hr, rfl⟩ I rx ry q) (fun r t' z => ?_) fun _ _ z => z
  obtain ⟨b, H', rfl, I', q⟩ := z
  exact ⟨.bl b, H', I', rfl, q⟩
end
end OTR
set_option Elab.async false
set_option linter.all false
set_option maxRecDepth 100000
set_option maxHeartbeats 2000000
namespace OTR
open PySem PySem.Spec PyProof.Rows L2
open AutoSeq1 (wpAny_loadPart')
open MeetsSeq MeetsSeq2 MeetsSeq3 SeqRoads2 SeqAt
end OTR
set_option Elab.async false
set_option linter.all false
set_option maxRecDepth 100000
set_option maxHeartbeats 2000000
namespace OT
open PySem L2 OTR
abbrev sPlaceE : Stmt := inClass (top 23) 1
theorem hasTyx {K : PySem.W.Frag} {H : Hp} {x : V} {T : String} (h : HasT H x (.type T)) : TyX K H x (.type T) := by
  cases h with
  | non => exact .base .non
  | tup e => exact .base (.tup e)
  | lst e => exact .base (.lst e)
/-- None, a tuple, a list -/
def oth (T : String) : Prop := T = "NoneType" ∨ T = "tuple" ∨ T = "list"
theorem hasT_oth {H : Hp} {x : V} {T : String} (h : HasT H x (.type T)) : oth T := by
  cases h with
  | non => exact .inl rfl
  | tup e => exact .inr (.inl rfl)
  | lst e => exact .inr (.inr rfl)
/-- a class with an own __eq__ -/
structure QC (K : PySem.W.Frag) (C f : Addr) : Prop where
  cl : Cls K C
  ha : PySem.W.findIn K (.ref C) "__class__" = some (some (.builtin "object.__class__"))
  hn : PySem.W.specialIn K (.builtin "object.__class__") "__get__" = some (some (.builtin "getset_descriptor.__get__"))
  ht : PySem.W.takesIn K (.builtin "object.__class__") = some true
  hm : PySem.W.mroIn K C (.type "object") = some true
  eq : PySem.W.findIn K (.ref C) "__eq__" = some (some (.ref f))
  fn : PySem.W.isFn K (.ref f) = true
  ne : PySem.W.findIn K (.ref C) "__ne__" = some (some (.builtin "object.__ne__"))
  kit : ∀ T, oth T → PySem.W.kitOne K (.type T) (.ref C) = some false
  nf : ∀ T, oth T → PySem.W.notFirst K C (.type T) = true
  sub : ∀ T, oth T → PySem.W.subIn K (.ref C) (.type T) = some false
theorem kit_same {K : PySem.W.Frag} {C : Addr} : PySem.W.kitOne K (.ref C) (.ref C) = some true := by
  unfold PySem.W.kitOne
  rw [if_pos (by simp)]
theorem nf_same {K : PySem.W.Frag} {C : Addr} : PySem.W.notFirst K C (.ref C) = true := by
  unfold PySem.W.notFirst
  simp
theorem QC.tyx {K : PySem.W.Frag} {C f : Addr} (c : QC K C f) {H : Hp} {a dx : Addr} {fs : List (Str × V)} (e : H a = some (.ins C dx fs)) : TyX K H (.ref a) (.ref C) := .base (.ins e c.cl c.ha c.hn c.ht c.hm)
theorem iteV {α β : Prop} {i j : Int} (h : i = j) (x : α) : if decide (V.int i = V.int j) = true then α else β := by
  rw [if_pos (decide_eq_true (by rw [h]))]
  exact x
theorem iteN {α β : Prop} {i j : Int} (h : i ≠ j) (x : β) : if decide (V.int i = V.int j) = true then α else β := by
  rw [if_neg (by rw [decide_eq_false (fun z => h (V.int.inj z))]; exact Bool.false_ne_true)]
  exact x
end OT
namespace OT
def SameEnds (r r' : Fact) : Prop := (r'.1 = r.1 ∧ r'.2.1 = r.2.1) ∨ (r'.1 = r.2.1 ∧ r'.2.1 = r.1)
theorem SameEnds.refl (r : Fact) : SameEnds r r := .inl ⟨rfl, rfl⟩
theorem SameEnds.symm {r r' : Fact} (h : SameEnds r r') : SameEnds r' r := h.elim (fun ⟨a, b⟩ => .inl ⟨a.symm, b.symm⟩) fun ⟨a, b⟩ => .inr ⟨b.symm, a.symm⟩
def gcdI (a b : Int) : Int := ((Nat.gcd a.natAbs b.natAbs : Nat) : Int)
/-- number / parts in lowest terms -/
def low (r : Fact) : Fact := (r.1, r.2.1 / gcdI r.2.1 r.2.2, r.2.2 / gcdI r.2.1 r.2.2)
theorem gcd_pos {a b : Int} (h : 1 ≤ b) : 0 < gcdI a b := by
  have : 0 < Nat.gcd a.natAbs b.natAbs := Nat.gcd_pos_of_pos_right _ (by omega)
  unfold gcdI
  omega
theorem gcd_log {a b : Int} (h : 1 ≤ b) (k : b.natAbs.log2 < 9000) : (gcdI a b).natAbs.log2 < 9000 := by
  have p := gcd_pos (a := a) h
  have l : Nat.gcd a.natAbs b.natAbs ≤ b.natAbs := Nat.gcd_le_right _ (by omega)
  have e : (gcdI a b).natAbs = Nat.gcd a.natAbs b.natAbs := by
    unfold gcdI
    omega
  rw [e]
  have n1 : Nat.gcd a.natAbs b.natAbs ≠ 0 := by omega
  have n2 : b.natAbs ≠ 0 := by omega
  rw [Nat.log2_lt n1]
  rw [Nat.log2_lt n2] at k
  omega
theorem gcdI_left (a b : Int) : gcdI a b ∣ a := Int.gcd_dvd_left a b
theorem gcdI_right (a b : Int) : gcdI a b ∣ b := Int.gcd_dvd_right a b
theorem low_mul {a n s : Int} (k : Int) (hk : 0 < k) : low (a, n * k, s * k) = low (a, n, s) := by
  have e : gcdI (n * k) (s * k) = gcdI n s * k := by
    unfold gcdI
    rw [Int.natAbs_mul, Int.natAbs_mul, Nat.gcd_mul_right, Int.natCast_mul]
    congr 1
    omega
  unfold low
  simp only
  rw [e, Int.mul_ediv_mul_of_pos_left n _ hk, Int.mul_ediv_mul_of_pos_left s _ hk]
theorem back_of {x g : Int} (h : g ∣ x) : x = x / g * g := (Int.ediv_mul_cancel h).symm
end OT
set_option Elab.async false
set_option linter.all false
set_option maxRecDepth 100000
set_option maxHeartbeats 2000000
namespace OT
open PySem L2 OTR
abbrev sPlaceI : Stmt := inClass (top 23) 0
structure PlT (K : PySem.W.Frag) (mg : Str → Option Value) (C : Addr) : Prop where
  cl : Cls K C
  nR : NoAttr K C "road"
  nN : NoAttr K C "number"
  nP : NoAttr K C "parts"
  mgC : mg "Place" = some (.ref C)
/-- a place: road, number, parts -/
def plF (r : Fact) : List (Str × V) := [("road", .int r.1), ("number", .int r.2.1), ("parts", .int r.2.2)]
theorem plF_r (r : Fact) : (plF r).lookup ("road" : Str) = some (.int r.1) := lk0
theorem plF_n (r : Fact) : (plF r).lookup ("number" : Str) = some (.int r.2.1) := by
  unfold plF
  rw [lk1 (by decide +kernel)]
  exact lk0
theorem plF_p (r : Fact) : (plF r).lookup ("parts" : Str) = some (.int r.2.2) := by
  unfold plF
  rw [lk1 (by decide +kernel), lk1 (by decide +kernel)]
  exact lk0
theorem plF_put1 (r : Fact) : putF "number" (.int r.2.1) (putF "road" (.int r.1) []) = ([("road", V.int r.1), ("number", V.int r.2.1)] : List (Str × V)) := by
  have h1 : ¬ (("road" : Str) = "number") := by decide +kernel
  show (if ("road" : Str) = "number" then _ else (("road" : Str), V.int r.1) :: putF "number" (.int r.2.1) []) = _
  rw [if_neg h1]
  rfl
theorem plF_put (r : Fact) : putF "parts" (.int r.2.2) (putF "number" (.int r.2.1) (putF "road" (.int r.1) [])) = plF r := by
  rw [plF_put1]
  have h2 : ¬ (("road" : Str) = "parts") := by decide +kernel
  have h3 : ¬ (("number" : Str) = "parts") := by decide +kernel
  show (if ("road" : Str) = "parts" then _ else (("road" : Str), V.int r.1) :: (if ("number" : Str) = "parts" then _ else (("number" : Str), V.int r.2.1) :: putF "parts" (.int r.2.2) [])) = plF r
  rw [if_neg h2, if_neg h3]
  rfl
def PlaceAt (C : Addr) (H : Hp) (p : Addr) (r : Fact) : Prop := ∃ dx, H p = some (.ins C dx (plF r))
theorem PlaceAt.same {C : Addr} {H H' : Hp} {p : Addr} {r : Fact} (h : PlaceAt C H p r) (s : Same H H') : PlaceAt C H' p r := let ⟨dx, e⟩ := h; ⟨dx, s _ _ e⟩
/-- Place(road, number, parts): its __init__ -/
def spPlaceI (C CB : Addr) : Sp := fun vs H Q E => ∃ (p dx : Addr) (r : Fact), vs = [.ref p, .int r.1, .int r.2.1, .int r.2.2] ∧ H p = some (.ins C dx []) ∧
  (r.2.2 < 1 → Raised CB [("count", .int r.2.2), ("what", .str "parts")] H E) ∧
  (1 ≤ r.2.2 → r.2.2.natAbs.log2 < 9000 ∧ ∀ H', PlaceAt C H' p (low r) → (∀ b o, H b = some o → b ≠ p → H' b = some o) → Q .non H')
section
variable {P : Program} {w : World} {K : PySem.W.Frag} {mg : Str → Option Value} {base : Heap}
theorem scPlaceI : FnScope ["self", "road", "number", "parts", "shared"] ["self", "road", "number", "parts"] (defScope sPlaceI) := ⟨rfl, rfl, rfl, by decide +kernel, rfl, by decide +kernel, by decide +kernel⟩
theorem ok_placeI {f C CB fB : Addr} {fd fdB : FuncData} (F : Fun K "__init__" "Place.__init__" sPlaceI f fd) (T : PlT K mg C) (TB : ErT K mg "BadCount" CB fB)
    (FB : FnOk P w K mg base CX0 1 fB fdB ["self", "what", "count"] (spEr2 CB "what" "count")) (bB : Binds K fdB ["self", "what", "count"] []) (hG : mg "gcd" = some (.builtin "math.gcd")) :
    FnOk P w K mg base (L2.CX P w) 3 f fd ["self", "road", "number", "parts"] (spPlaceI C CB) := by
  refine F.okX scPlaceI (fun vs H Q E h => ?_) (fun cdv A outer s H vs Q E hr h => ?_)
  · obtain ⟨p, dx, r, rfl, _⟩ := h
    rfl
  · obtain ⟨p, dx, r, rfl, hp, kE, kQ⟩ := h
    refine ⟨_, pss_cons (ps_if (pt_cmpR op_lt (pv 3) pe_int (nomark _)) (pss_one (ps_raise rfl (takes_of rfl rfl rfl rfl) (pmk_oex TB.ox TB.iC TB.tI FB hr bB .nil pass0 (by rfl) TB.gC (pa_cons pe_str (pa_cons (pv 3) pa_nil))))) pss_nil)
      (pss_cons (ps_set (i := 4) scPlaceI.nd rfl (Or.inl rfl) (pe_callBfun cr_gcd (by rfl) hG (pa_cons (pv 2) (pa_cons (pv 3) pa_nil))))
      (pss_cons (ps_fld (pv 0) (pv 1) rfl) (pss_cons (ps_fld (pv 0) (pe_op op_fdivW (pv 2) (pv 4)) rfl) (pss_one (ps_fld (pv 0) (pe_op op_fdivW (pv 3) (pv 4)) rfl))))), ?_⟩
    refine ⟨_, rfl, _, _, rfl, rfl, _, rfl, ?_⟩
    by_cases h1 : r.2.2 < 1
    · rw [decide_eq_true h1]
      exact iteT ⟨_, rfl, len2, fun a ha => er2 ha (kE h1)⟩
    · rw [decide_eq_false h1]
      obtain ⟨lg, k⟩ := kQ (by omega)
      have g0 := gcd_pos (a := r.2.1) (b := r.2.2) (by omega)
      have gl := gcd_log (a := r.2.1) (b := r.2.2) (by omega) lg
      refine iteF ?_
      refine ⟨_, rfl, _, rfl, _, _, rfl, ?_⟩
      refine ⟨_, rfl, _, rfl, p, C, dx, [], rfl, hp, T.cl, T.nR, (by show 0 < 1000; decide), ?_⟩
      refine ⟨_, rfl, _, rfl, _, _, rfl, rfl, ⟨g0, gl⟩, _, rfl, p, C, dx, _, rfl, upd_same, T.cl, T.nN, (by show 1 < 1000; decide), ?_⟩
      refine ⟨_, rfl, _, rfl, _, _, rfl, rfl, ⟨g0, gl⟩, _, rfl, p, C, dx, _, rfl, upd_same, T.cl, T.nP, ?_, ?_⟩
      · show (putF "number" (.int (low r).2.1) (putF "road" (.int (low r).1) [])).length < 1000
        rw [plF_put1 (low r)]
        show 2 < 1000
        decide
      · refine k _ ⟨dx, ?_⟩ fun b o e n => ?_
        · rw [← plF_put (low r)]
          exact upd_same
        · rw [upd_ne n, upd_ne n, upd_ne n]
          exact e
theorem scPlaceE : FnScope ["self", "other"] ["self", "other"] (defScope sPlaceE) := ⟨rfl, rfl, rfl, by decide +kernel, rfl, by decide +kernel, by decide +kernel⟩
/-- Place.__eq__ -/
def spPlaceE (C : Addr) : Sp := fun vs H Q _ => ∃ (a dx : Addr) (r : Fact) (y : V), vs = [.ref a, y] ∧ H a = some (.ins C dx (plF r)) ∧ ((∃ (b dy : Addr) (r' : Fact), y = .ref b ∧ H b = some (.ins C dy (plF r')) ∧ Q (.bl (decide (r = r'))) H) ∨ ((∃ T, HasT H y (.type T)) ∧ Q (.bl false) H))
theorem ok_placeE {f C fe : Addr} {fd : FuncData} (F : Fun K "__eq__" "Place.__eq__" sPlaceE f fd) (T : PlT K mg C) (c : QC K C fe) (hIs : mg "isinstance" = none) : FnOk P w K mg base CX0 1 f fd ["self", "other"] (spPlaceE C) := by
  refine F.ok scPlaceE (fun vs H Q E h => ?_) (fun cdv A outer s H vs Q E hr h => ?_)
  · obtain ⟨a, dx, r, y, rfl, _⟩ := h
    rfl
  · obtain ⟨a, dx, r, y, rfl, ea, h⟩ := h
    refine ⟨_, pss_one (ps_ret (pe_and (pe_callB call_isi (by rfl) hIs (by decide +kernel) (pa_cons (pv 1) (pa_cons (pe_glob (v := V.ref C) rfl T.mgC rfl) pa_nil)))
      (pe_and (pe_cmpR op_eq (pe_fld (pv 0) rfl) (pe_fld (pv 1) rfl) (nomark _)) (pe_and (pe_cmpR op_eq (pe_fld (pv 0) rfl) (pe_fld (pv 1) rfl) (nomark _)) (pe_one (pe_cmpR op_eq (pe_fld (pv 0) rfl) (pe_fld (pv 1) rfl) (nomark _))))))), ?_⟩
    rcases h with ⟨b, dy, r', rfl, eb, k⟩ | ⟨⟨ty, hy⟩, k⟩
    · refine ⟨_, rfl, _, _, _, _, true, rfl, .own C, c.tyx eb, kit_same, _, rfl, ?_⟩
      refine iteT ⟨_, rfl, a, C, dx, _, _, rfl, ea, T.cl, T.nR, plF_r r, _, rfl, b, C, dy, _, _, rfl, eb, T.cl, T.nR, plF_r r', rfl, _, rfl, ?_⟩
      by_cases h1 : r.1 = r'.1
      · refine iteV h1 ⟨_, rfl, a, C, dx, _, _, rfl, ea, T.cl, T.nN, plF_n r, _, rfl, b, C, dy, _, _, rfl, eb, T.cl, T.nN, plF_n r', rfl, _, rfl, ?_⟩
        by_cases h2 : r.2.1 = r'.2.1
        · refine iteV h2 ⟨_, rfl, a, C, dx, _, _, rfl, ea, T.cl, T.nP, plF_p r, _, rfl, b, C, dy, _, _, rfl, eb, T.cl, T.nP, plF_p r', rfl, ?_⟩
          have e : decide (V.int r.2.2 = V.int r'.2.2) = decide (r = r') := by
            rw [decide_eq_decide]
            exact ⟨fun z => Prod.ext h1 (Prod.ext h2 (V.int.inj z)), fun z => by rw [z]⟩
          rw [e]
          exact k
        · refine iteN h2 ?_
          rw [decide_eq_false (fun z : r = r' => h2 (by rw [z]))] at k
          exact k
      · refine iteN h1 ?_
        rw [decide_eq_false (fun z : r = r' => h1 (by rw [z]))] at k
        exact k
    · exact ⟨_, rfl, _, _, _, _, false, rfl, .own C, hasTyx hy, c.kit _ (hasT_oth hy), _, rfl, iteF k⟩
end
end OT
set_option Elab.async false
set_option linter.all false
set_option maxRecDepth 100000
set_option maxHeartbeats 2000000
namespace OT
open PySem L2 OTR
theorem rdF_inj {r r' : Fact} (h : rdF r = rdF r') : r = r' := by
  unfold rdF at h
  simp only [List.cons.injEq, Prod.mk.injEq, V.int.injEq, true_and, and_true] at h
  exact Prod.ext h.1 (Prod.ext h.2.1 h.2.2)
theorem RoadAt.inj {CR : Addr} {H : Hp} {p : Addr} {r r' : Fact} (h : RoadAt CR H p r) (k : RoadAt CR H p r') : r = r' := by
  obtain ⟨dx, e⟩ := h
  obtain ⟨dy, e'⟩ := k
  rw [e] at e'
  injection e' with e'
  injection e' with _ _ e'
  exact rdF_inj e'
end OT
set_option Elab.async false
set_option linter.all false
set_option maxRecDepth 100000
set_option maxHeartbeats 1000000
namespace OTR
open PySem PySem.Spec PyProof.Rows L2
end OTR
set_option Elab.async false
set_option linter.all false
set_option maxRecDepth 100000
set_option maxHeartbeats 2000000
namespace OT
open PySem L2 OTR
def Kp (H H' : Hp) : Prop := ∀ b o, H b = some o → (∀ xs, o ≠ .lst xs) → H' b = some o
theorem Kp.of {H H' : Hp} (s : Same H H') : Kp H H' := fun b o e _ => s b o e
theorem Kp.trans {H H1 H2 : Hp} (k : Kp H H1) (l : Kp H1 H2) : Kp H H2 := fun b o e n => l b o (k b o e n) n
theorem Kp.put {H : Hp} {q : Addr} {xs ys : List V} (h : H q = some (.lst xs)) : Kp H (upd H q (.lst ys)) := fun b o e n => by
  rw [upd_ne (fun z => by
    rw [z, h] at e
    exact n xs (Option.some.inj e).symm)]
  exact e
theorem Kp.src {H H' : Hp} {s : Addr} (src : Src H s) (b : But s H H') : Kp H H' := fun c o e n => b c o e (src.ne e fun x y z q => n _ q)
theorem sqT_kp {K : PySem.W.Frag} {H H' : Hp} {p : Addr} {xs : List V} (h : SqT K H p xs) (k : Kp H H') : SqT K H' p xs := by
  rcases h with (h | ⟨o, h⟩) | h
  · exact .inl (.inl (k _ _ h fun _ z => nomatch z))
  · exact .inl (.inr ⟨o, k _ _ h fun _ z => nomatch z⟩)
  · exact .inr h
theorem RoadAt.kp {CR : Addr} {H H' : Hp} {p : Addr} {r : Fact} (h : RoadAt CR H p r) (k : Kp H H') : RoadAt CR H' p r := let ⟨dx, e⟩ := h; ⟨dx, k _ _ e fun _ z => nomatch z⟩
theorem RoadsAt.kp {CR : Addr} {H H' : Hp} {ps : List Addr} {F : List Fact} (h : RoadsAt CR H ps F) (k : Kp H H') : RoadsAt CR H' ps F := by
  unfold RoadsAt at h ⊢
  induction h with
  | nil => exact .nil
  | cons a _ ih => exact .cons (a.kp k) ih
theorem TrOk.kp {K : PySem.W.Frag} {H H' : Hp} {d : Addr} {kvs : List (List Key × V)} {n : Int} {F : List Fact} (h : TrOk K H d kvs n F) (k : Kp H H') : TrOk K H' d kvs n F :=
  ⟨k _ _ h.dc (fun _ z => nomatch z), h.has, fun x y v z => let ⟨q, l, a, b, c⟩ := h.val x y v z; ⟨q, l, a, sqT_kp b k, c⟩, h.len⟩
theorem TreeAt.kp {K : PySem.W.Frag} {CT CR : Addr} {H H' : Hp} {p : Addr} {n : Int} {ps : List Addr} {F : List Fact} (h : TreeAt K CT CR H p n ps F) (k : Kp H H') : TreeAt K CT CR H' p n ps F :=
  let ⟨dx, t, d, kvs, a, b, c, e⟩ := h; ⟨dx, t, d, kvs, k _ _ a (fun _ z => nomatch z), sqT_kp b k, c.kp k, e.kp k⟩
theorem TreeAt.same {K : PySem.W.Frag} {CT CR : Addr} {H H' : Hp} {p : Addr} {n : Int} {ps : List Addr} {F : List Fact} (h : TreeAt K CT CR H p n ps F) (s : Same H H') : TreeAt K CT CR H' p n ps F := h.kp (.of s)
/-- a call that could raise and doesn't -/
theorem passF {P : Program} {w : World} {X : Cx} : Passes (L2.CX P w) X E0 := fun _ _ _ _ _ _ _ ⟨_, _, _, _, _, _, _, _, _, _, _, _, h⟩ => False.elim h
theorem no_err {CB CN CG : Addr} {H : Hp} {E : XK} {n : Int} {F : List Fact} (h : due n F = none) : ∀ e, due n F = some e → ErrR CB CN CG H E e := fun e z => by
  rw [h] at z
  cases z
theorem paired_get {α β : Type} {R : α → β → Prop} : ∀ {as : List α} {bs : List β} {i : Nat} {a : α}, Paired R as bs → as[i]? = some a → ∃ b, bs[i]? = some b ∧ R a b
  | _, _, _, _, .nil, e => by simp at e
  | _, _, 0, _, .cons r _, e => by
    have z := Option.some.inj e
    subst z
    exact ⟨_, rfl, r⟩
  | _, _, i + 1, _, .cons _ t, e => paired_get (i := i) t e
theorem made_same {G G' : Hp} {x dx C : Addr} (nx : G x = none) (ndx : G dx = none) (keep : ∀ b o, upd (upd G dx (.own x)) x (.ins C dx []) b = some o → b ≠ x → G' b = some o) : Same G G' := fun b o e =>
  keep b o (by rw [upd_ne (ne_of_none e nx), upd_ne (ne_of_none e ndx)]; exact e) (ne_of_none e nx)
theorem made_old {G : Hp} {x dx C : Addr} (nx : G x = none) (ndx : G dx = none) : Same G (upd (upd G dx (.own x)) x (.ins C dx [])) := fun b o e => by
  rw [upd_ne (ne_of_none e nx), upd_ne (ne_of_none e ndx)]
  exact e
/-- a triple of ints as data -/
def d3 (a b c : Int) : PyData := .tuple [.int a, .int b, .int c]
/-- [Road(a, b, length) for a, b, length in facts] -/
theorem lc_roads {K : PySem.W.Frag} {CR a D : Addr} {ts : List Addr} {fs : List Fact} {σ : L2.St} {H1 : Hp} {i1 i2 i3 : Nat} {Qd : Hp → Prop} (hq : H1 a = some (.lst (ts.map V.ref))) (hts : Paired (TupAt H1) ts fs) (hD : H1 D = none) (hl : fs.length ≤ 900)
    (st : ∀ x y z : V, wipe ((((wipe σ [i1, i2, i3]).set i1 (some x)).set i2 (some y)).set i3 (some z)) [i1, i2, i3] = wipe σ [i1, i2, i3] ∧ ((((wipe σ [i1, i2, i3]).set i1 (some x)).set i2 (some y)).set i3 (some z))[i1]? = some (some x) ∧
      ((((wipe σ [i1, i2, i3]).set i1 (some x)).set i2 (some y)).set i3 (some z))[i2]? = some (some y) ∧ ((((wipe σ [i1, i2, i3]).set i1 (some x)).set i2 (some y)).set i3 (some z))[i3]? = some (some z))
    (k : ∀ G ps, G D = some (.lst (ps.map V.ref)) → Same H1 G → RoadsAt CR G ps fs → Qd G) :
    ∃ W : Nat → Nat → Hp → Prop, (∃ m, W 0 m (upd H1 D (.lst []))) ∧ ∀ i m H, W i m H →
      ((Itl K a).stop i H ∧ Qd H) ∨ ((Itl K a).go i H ∧ ∃ Nx : Hp → Prop, (∀ H', Nx H' → ∃ m', m' < m ∧ W (i + 1) m' H') ∧ ∀ x H', (Itl K a).yld i H x H' → gTup K 3 (gCons (gName i1) (gCons (gName i2) (gCons (gName i3) gNil))) x (wipe σ [i1, i2, i3]) H' fun σ2 H2 => wipe σ2 [i1, i2, i3] = wipe σ [i1, i2, i3] ∧ tYes σ2 H2 fun b H3 =>
        if b = true then tMake CR (spRoadI CR) [] E0 (tCons (tVar i1) (tCons (tVar i2) (tCons (tVar i3) tNil))) σ2 H3 fun y H4 => ∃ acc, H4 D = some (.lst acc) ∧ acc.length < sizeLine ∧ Nx (upd H4 D (.lst (acc ++ [y]))) else Nx H3) := by
  have el : (ts.map V.ref).length = fs.length := by rw [List.length_map]; exact Paired.length hts
  refine lc_list (K := K) (a := a) (xs := ts.map V.ref) (fun i Gc => ∃ ps : List Addr, Gc D = some (.lst (ps.map V.ref)) ∧ Same H1 Gc ∧ RoadsAt CR Gc ps (fs.take i) ∧ ps.length = i)
    ⟨[], upd_same, Same.new hD, .nil, rfl⟩ (fun i Gc _ ⟨_, _, sc, _⟩ => SqL.of (sc _ _ hq)) ?_ ?_
  · rintro i y Gc hi ⟨ps, hps, sc, rd, pl⟩
    obtain ⟨t, ht, rfl⟩ := map_get hi
    obtain ⟨r, hr', tr⟩ := paired_get hts ht
    have ih : i < fs.length := (List.getElem?_eq_some_iff.mp hr').1
    obtain ⟨st0, st1, st2, st3⟩ := st (.int r.1) (.int r.2.1) (.int r.2.2)
    refine ⟨t, _, rfl, SqT.of (sc _ _ tr), rfl, _, _, rfl, _, _, rfl, _, _, rfl, rfl, st0, ?_⟩
    unfold tYes
    refine iteT ?_
    refine ⟨_, st1, _, st2, _, st3, fun x dx nx ndx nex => ⟨x, dx, r, rfl, upd_same, fun G' rx keep => ⟨rfl, ps.map V.ref, ?_, small1000 (by rw [List.length_map]; omega), ps ++ [x], by rw [List.map_append]; exact upd_same, fun b o e => ?_, ?_, by rw [List.length_append, pl]; rfl⟩⟩⟩
    · exact keep D _ (by rw [upd_ne (ne_of_none hps nx), upd_ne (ne_of_none hps ndx)]; exact hps) (ne_of_none hps nx)
    · rw [upd_ne (ne_of_none e hD)]
      exact keep b o (by rw [upd_ne (ne_of_none (sc b o e) nx), upd_ne (ne_of_none (sc b o e) ndx)]; exact sc b o e) (ne_of_none (sc b o e) nx)
    · have gD : G' D = some (.lst (ps.map V.ref)) := keep D _ (by rw [upd_ne (ne_of_none hps nx), upd_ne (ne_of_none hps ndx)]; exact hps) (ne_of_none hps nx)
      have stay : ∀ {p : Addr} {r' : Fact}, RoadAt CR G' p r' → RoadAt CR (upd G' D (.lst (ps.map V.ref ++ [V.ref x]))) p r' := fun {p r'} h => h.kp (.put gD)
      have old : RoadsAt CR (upd G' D (.lst (ps.map V.ref ++ [V.ref x]))) ps (fs.take i) := by
        refine Paired.mapP rd fun p r' h => stay ?_
        obtain ⟨e, h⟩ := h
        exact ⟨e, keep p _ (by rw [upd_ne (ne_of_none h nx), upd_ne (ne_of_none h ndx)]; exact h) (ne_of_none h nx)⟩
      rw [take_get hr']
      exact paired_snoc old (stay rx)
  · rintro G4 ⟨ps, hps, sc, rd, pl⟩
    rw [el, List.take_length] at rd
    exact k G4 ps hps sc rd
end OT
namespace OT
theorem Way.con_erase {F : List Fact} {x y : Int} {m : List Nat} {k : Nat} (w : Way F x m y) (n : k ∉ m) : Con (F.eraseIdx k) x y := by
  induction w with
  | nil => exact .refl _
  | @cons x y z j r l e jn w ih =>
    have ne : j ≠ k := fun z => n (z ▸ List.mem_cons_self ..)
    have mm : r ∈ F.eraseIdx k := List.mem_eraseIdx_iff_getElem?.mpr ⟨j, ne, e⟩
    exact (Con.one mm jn).trans (ih fun z => n (List.mem_cons_of_mem _ z))
/-- what joins a road's ends goes over it -/
theorem ring_no {F : List Fact} (nr : NoRing F) {k : Nat} {r : Fact} (e : F[k]? = some r) {x y : Int} (j : Jn r x y) {m : List Nat} (w : Way F x m y) : k ∈ m := by
  refine Classical.byContradiction fun n => ?_
  have c := w.con_erase n
  rcases j with ⟨rfl, rfl⟩ | ⟨rfl, rfl⟩
  · exact nr k r e c
  · exact nr k r e c.symm
theorem NoRing.ne {F : List Fact} (nr : NoRing F) {k : Nat} {r : Fact} (e : F[k]? = some r) : r.1 ≠ r.2.1 := fun z => nr k r e (by rw [z]; exact .refl _)
theorem Jn.end_eq {r : Fact} {x y z : Int} (ne : r.1 ≠ r.2.1) (j : Jn r x y) (j' : Jn r x z) : y = z := by
  rcases j with ⟨a, b⟩ | ⟨a, b⟩ <;> rcases j' with ⟨c, d⟩ | ⟨c, d⟩
  · exact b.symm.trans d
  · exact absurd (a.trans d.symm) ne
  · exact absurd (c.trans b.symm) ne
  · exact a.symm.trans c
theorem Jn.which {r : Fact} {x y u v : Int} (j : Jn r x y) (k : Jn r u v) : (u = x ∧ v = y) ∨ (u = y ∧ v = x) := by
  rcases j with ⟨a, b⟩ | ⟨a, b⟩ <;> rcases k with ⟨c, d⟩ | ⟨c, d⟩
  · exact .inl ⟨c.symm.trans a, d.symm.trans b⟩
  · exact .inr ⟨d.symm.trans b, c.symm.trans a⟩
  · exact .inr ⟨c.symm.trans a, d.symm.trans b⟩
  · exact .inl ⟨d.symm.trans b, c.symm.trans a⟩
theorem Way.split {F : List Fact} {x y : Int} {k : Nat} {m2 : List Nat} : ∀ {m1 : List Nat}, Way F x (m1 ++ k :: m2) y → ∃ u v r, Way F x m1 u ∧ F[k]? = some r ∧ Jn r u v ∧ Way F v m2 y := by
  intro m1
  induction m1 generalizing x with
  | nil =>
    intro w
    cases w with
    | cons e j w => exact ⟨_, _, _, .nil _, e, j, w⟩
  | cons a m1 ih =>
    intro w
    cases w with
    | cons e j w =>
      obtain ⟨u, v, r, w1, e1, j1, w2⟩ := ih w
      exact ⟨u, v, r, .cons e j w1, e1, j1, w2⟩
theorem mem_first {k : Nat} : ∀ {m : List Nat}, k ∈ m → ∃ m1 m2, m = m1 ++ k :: m2 ∧ k ∉ m1
  | [], h => by cases h
  | a :: m, h => by
    by_cases e : a = k
    · exact ⟨[], m, by rw [e]; rfl, by simp⟩
    · rcases List.mem_cons.mp h with h | h
      · exact absurd h.symm e
      · obtain ⟨m1, m2, rfl, n⟩ := mem_first h
        exact ⟨a :: m1, m2, rfl, fun z => by
          rcases List.mem_cons.mp z with z | z
          · exact e z.symm
          · exact n z⟩
theorem Way.uniq {F : List Fact} (nr : NoRing F) {y : Int} : ∀ {l m : List Nat} {x : Int}, Way F x l y → Way F x m y → l.Nodup → m.Nodup → l = m := by
  intro l
  induction l with
  | nil =>
    intro m x w v nl nm
    cases w
    cases v with
    | nil => rfl
    | cons e j v =>
      have z := ring_no nr e j v.rev
      exact absurd (List.mem_reverse.mp z) (List.nodup_cons.mp nm).1
  | cons k l ih =>
    intro m x w v nl nm
    cases w with
    | @cons _ z _ _ r _ e j w =>
      obtain ⟨nk, nl'⟩ := List.nodup_cons.mp nl
      cases v with
      | nil =>
        have z := ring_no nr e j w.rev
        exact absurd (List.mem_reverse.mp z) nk
      | @cons _ z' _ j' r' m' e' jn v =>
        obtain ⟨nj, nm'⟩ := List.nodup_cons.mp nm
        by_cases q : j' = k
        · subst q
          rw [e] at e'
          cases e'
          have ez := Jn.end_eq (nr.ne e) j jn
          subst ez
          rw [ih w v nl' nm']
        · exfalso
          by_cases km : k ∈ m'
          · obtain ⟨m1, m2, rfl, n1⟩ := mem_first km
            obtain ⟨u, u', r1, w1, e1, j1, w2⟩ := v.split
            rw [e] at e1
            cases e1
            rcases Jn.which j j1 with ⟨rfl, _⟩ | ⟨rfl, _⟩
            · have z := ring_no nr e' jn w1.rev
              exact nj (List.mem_append_left _ (List.mem_reverse.mp z))
            · have z := ring_no nr e j (Way.cons e' jn w1)
              rcases List.mem_cons.mp z with z | z
              · exact q z.symm
              · exact n1 z
          · have z := ring_no nr e j ((Way.cons e' jn v).append w.rev)
            rcases List.mem_append.mp z with z | z
            · rcases List.mem_cons.mp z with z | z
              · exact q z.symm
              · exact km z
            · exact nk (List.mem_reverse.mp z)
theorem way_of {F : List Fact} {x y : Int} (c : Con F x y) : ∃ l, Way F x l y ∧ l.Nodup := by
  induction c with
  | refl => exact ⟨[], .nil _, List.nodup_nil⟩
  | @step y z r h m j ih =>
    obtain ⟨l, w, n⟩ := ih
    obtain ⟨k, hk, e⟩ := List.getElem_of_mem m
    have e' : F[k]? = some r := by rw [List.getElem?_eq_getElem hk, e]
    by_cases kl : k ∈ l
    · obtain ⟨m1, m2, rfl, n1⟩ := mem_first kl
      obtain ⟨u, u', r1, w1, e1, j1, w2⟩ := w.split
      rw [e'] at e1
      cases e1
      have nm1 : m1.Nodup := (List.nodup_append.mp n).1
      rcases Jn.which j j1 with ⟨rfl, _⟩ | ⟨rfl, _⟩
      · refine ⟨m1 ++ [k], w1.append (.cons e' j (.nil _)), List.nodup_append.mpr ⟨nm1, by simp, fun a ha b hb q => ?_⟩⟩
        rw [List.mem_singleton.mp hb] at q
        exact n1 (q ▸ ha)
      · exact ⟨m1, w1, nm1⟩
    · refine ⟨l ++ [k], w.append (.cons e' j (.nil _)), List.nodup_append.mpr ⟨n, by simp, fun a ha b hb q => ?_⟩⟩
      rw [List.mem_singleton.mp hb] at q
      exact kl (q ▸ ha)
/-- a tree: the crossings 0 to n - 1, all joined, without a ring -/
structure TreeM (n : Int) (F : List Fact) : Prop where
  ok : ∀ r ∈ F, In n r.1 ∧ In n r.2.1 ∧ 1 ≤ r.2.2
  nr : NoRing F
  con : ∀ x y, In n x → In n y → Con F x y
open Classical in
/-- the way from x to y -/
noncomputable def tr (F : List Fact) (x y : Int) : List Nat := if h : ∃ l, Way F x l y ∧ l.Nodup then choose h else []
theorem tr_of {n : Int} {F : List Fact} (T : TreeM n F) {x y : Int} (hx : In n x) (hy : In n y) : Way F x (tr F x y) y ∧ (tr F x y).Nodup := by
  have h := way_of (T.con x y hx hy)
  unfold tr
  rw [dif_pos h]
  exact Classical.choose_spec h
theorem tr_eq {n : Int} {F : List Fact} (T : TreeM n F) {x y : Int} {l : List Nat} (w : Way F x l y) (nd : l.Nodup) : tr F x y = l := by
  have h : ∃ l, Way F x l y ∧ l.Nodup := ⟨l, w, nd⟩
  unfold tr
  rw [dif_pos h]
  exact (Classical.choose_spec h).1.uniq T.nr w (Classical.choose_spec h).2 nd
def rd (F : List Fact) (k : Nat) : Fact := F.getD k (0, 0, 0)
theorem rd_of {F : List Fact} {k : Nat} {r : Fact} (h : F[k]? = some r) : rd F k = r := by
  unfold rd
  rw [List.getD_eq_getElem?_getD, h]
  rfl
theorem rd_get {F : List Fact} {k : Nat} (h : k < F.length) : F[k]? = some (rd F k) := by
  unfold rd
  rw [List.getD_eq_getElem?_getD, List.getElem?_eq_getElem h]
  rfl
/-- the size of a road, in parts of a step -/
def sz (F : List Fact) (S : Int) (k : Nat) : Int := (rd F k).2.2 * S
/-- where a road meets the crossing at one of its ends -/
def eAt (F : List Fact) (S : Int) (k : Nat) (c : Int) : Int := if (rd F k).1 = c then 0 else sz F S k
/-- the crossing at the other end -/
def eBy (F : List Fact) (k : Nat) (c : Int) : Int := if (rd F k).1 = c then (rd F k).2.1 else (rd F k).1
theorem eBy_of {F : List Fact} {k : Nat} {x y : Int} (j : Jn (rd F k) x y) (ne : (rd F k).1 ≠ (rd F k).2.1) : eBy F k x = y := by
  unfold eBy
  rcases j with ⟨a, b⟩ | ⟨a, b⟩
  · rw [if_pos a, b]
  · rw [if_neg (fun z => ne (z.trans b.symm)), a]
theorem jn_by {F : List Fact} {k : Nat} {c : Int} (h : (rd F k).1 = c ∨ (rd F k).2.1 = c) : Jn (rd F k) c (eBy F k c) := by
  unfold eBy
  by_cases e : (rd F k).1 = c
  · rw [if_pos e]
    exact .inl ⟨e, rfl⟩
  · rw [if_neg e]
    exact .inr ⟨rfl, h.resolve_left e⟩
/-- a leg: a road, from where to where -/
abbrev Leg := Nat × Int × Int
def dst (s e : Int) : Int := if e - s < 0 then -(e - s) else e - s
def total : List Leg → Int
  | [] => 0
  | (_, s, e) :: l => dst s e + total l
/-- the legs from the crossing c along the roads l to the place p of the road g -/
def legsC (F : List Fact) (S : Int) (g : Nat) (p : Int) : Int → List Nat → List Leg
  | c, [] => [(g, eAt F S g c, p)]
  | c, k :: l => if k = g then legsC F S g p c l else (k, eAt F S k c, eAt F S k (eBy F k c)) :: legsC F S g p (eBy F k c) l
open Classical in
/-- the end by which the way to the road g leaves the road k -/
noncomputable def up (F : List Fact) (g k : Nat) : Int := if k ∈ tr F (rd F k).1 (rd F g).1 then (rd F k).2.1 else (rd F k).1
/-- the legs from the place i of the road k -/
noncomputable def legsP (F : List Fact) (S : Int) (g : Nat) (p : Int) (k : Nat) (i : Int) : List Leg :=
  if k = g then [(g, i, p)] else (k, i, eAt F S k (up F g k)) :: legsC F S g p (up F g k) (tr F (up F g k) (rd F g).1)
/-- where one is after t parts of a step -/
def posL : List Leg → Int → Nat × Int
  | [], _ => (0, 0)
  | (k, s, e) :: l, t => if t ≤ dst s e then (k, if s < e then s + t else s - t) else posL l (t - dst s e)
theorem dst_nn (s e : Int) : 0 ≤ dst s e := by unfold dst; split <;> omega
theorem total_nn : ∀ l : List Leg, 0 ≤ total l
  | [] => by unfold total; exact Int.le_refl _
  | (k, s, e) :: l => by
    have := total_nn l
    have := dst_nn s e
    unfold total
    omega
end OT
namespace OT
inductive Nd
  | cr (c : Int) | mid (k : Nat) (i : Int)
  deriving DecidableEq
def node (F : List Fact) (S : Int) (k : Nat) (i : Int) : Nd := if i = 0 then .cr (rd F k).1 else if i = sz F S k then .cr (rd F k).2.1 else .mid k i
/-- i is a place of the road k -/
def On (F : List Fact) (S : Int) (k : Nat) (i : Int) : Prop := k < F.length ∧ 0 ≤ i ∧ i ≤ sz F S k
/-- one part of a step apart -/
def Adj (F : List Fact) (S : Int) (u v : Nd) : Prop := ∃ k i, k < F.length ∧ 0 ≤ i ∧ i + 1 ≤ sz F S k ∧ ((u = node F S k i ∧ v = node F S k (i + 1)) ∨ (u = node F S k (i + 1) ∧ v = node F S k i))
theorem Adj.symm {F : List Fact} {S : Int} {u v : Nd} (h : Adj F S u v) : Adj F S v u := let ⟨k, i, a, b, c, d⟩ := h; ⟨k, i, a, b, c, d.elim (fun z => .inr ⟨z.2, z.1⟩) fun z => .inl ⟨z.2, z.1⟩⟩
/-- how far it is to the place p of the road g -/
noncomputable def hC (F : List Fact) (S : Int) (g : Nat) (p : Int) (c : Int) : Int := total (legsC F S g p c (tr F c (rd F g).1))
noncomputable def hP (F : List Fact) (S : Int) (g : Nat) (p : Int) (k : Nat) (i : Int) : Int := total (legsP F S g p k i)
noncomputable def hN (F : List Fact) (S : Int) (g : Nat) (p : Int) : Nd → Int
  | .cr c => hC F S g p c
  | .mid k i => hP F S g p k i
section
variable {n : Int} {F : List Fact} {S : Int} {g : Nat} {p : Int} (T : TreeM n F) (hS : 1 ≤ S) (hg : On F S g p)
include T
theorem rd_ok {k : Nat} (h : k < F.length) : In n (rd F k).1 ∧ In n (rd F k).2.1 ∧ 1 ≤ (rd F k).2.2 ∧ (rd F k).1 ≠ (rd F k).2.1 := by
  have e := rd_get h
  obtain ⟨a, b, c⟩ := T.ok _ (List.mem_of_getElem? e)
  exact ⟨a, b, c, T.nr.ne e⟩
include hS
theorem sz_pos {k : Nat} (h : k < F.length) : 1 ≤ sz F S k := by
  obtain ⟨_, _, c, _⟩ := rd_ok T h
  unfold sz
  have := Int.mul_le_mul c hS (by omega) (by omega)
  omega
theorem eAt_on {k : Nat} (h : k < F.length) (c : Int) : On F S k (eAt F S k c) := by
  have := sz_pos T hS h
  unfold eAt
  split
  · exact ⟨h, Int.le_refl _, by omega⟩
  · exact ⟨h, by omega, Int.le_refl _⟩
theorem node_eAt {k : Nat} (h : k < F.length) {c : Int} (hc : (rd F k).1 = c ∨ (rd F k).2.1 = c) : node F S k (eAt F S k c) = .cr c := by
  have := sz_pos T hS h
  unfold eAt node
  by_cases e : (rd F k).1 = c
  · rw [if_pos e, if_pos rfl, e]
  · rw [if_neg e, if_neg (by omega), if_pos rfl, hc.resolve_left e]
theorem node_cr {k : Nat} {i c : Int} (h : k < F.length) (e : node F S k i = .cr c) : ((rd F k).1 = c ∨ (rd F k).2.1 = c) ∧ i = eAt F S k c := by
  obtain ⟨_, _, _, ne⟩ := rd_ok T h
  unfold node at e
  unfold eAt
  by_cases e0 : i = 0
  · rw [if_pos e0] at e
    cases e
    exact ⟨.inl rfl, by rw [if_pos rfl]; exact e0⟩
  · rw [if_neg e0] at e
    by_cases e1 : i = sz F S k
    · rw [if_pos e1] at e
      cases e
      exact ⟨.inr rfl, by rw [if_neg ne]; exact e1⟩
    · rw [if_neg e1] at e
      cases e
theorem dst_ends {k : Nat} (h : k < F.length) {c : Int} (hc : (rd F k).1 = c ∨ (rd F k).2.1 = c) : dst (eAt F S k c) (eAt F S k (eBy F k c)) = sz F S k := by
  obtain ⟨_, _, _, ne⟩ := rd_ok T h
  have sp := sz_pos T hS h
  unfold eAt eBy dst
  by_cases e : (rd F k).1 = c
  · have e2 : ¬ (rd F k).1 = (rd F k).2.1 := ne
    rw [if_pos e, if_pos e, if_neg e2]
    split <;> omega
  · rw [if_neg e, if_neg e, if_pos rfl]
    split <;> omega
omit hS
/-- the way from a crossing over one of its roads, or towards it -/
theorem tr_head {k : Nat} {r c c' : Int} (h : k < F.length) (hr : In n r) (j : Jn (rd F k) c c') (m : k ∈ tr F c r) : tr F c r = k :: tr F c' r := by
  obtain ⟨o1, o2, _, ne⟩ := rd_ok T h
  have ic : In n c := by rcases j with ⟨a, b⟩ | ⟨a, b⟩; exact a ▸ o1; exact b ▸ o2
  have ic' : In n c' := by rcases j with ⟨a, b⟩ | ⟨a, b⟩; exact b ▸ o2; exact a ▸ o1
  obtain ⟨w, nd⟩ := tr_of T ic hr
  obtain ⟨m1, m2, e, n1⟩ := mem_first m
  rw [e] at w nd
  obtain ⟨u, v, r1, w1, e1, j1, w2⟩ := w.split
  rw [rd_get h] at e1
  cases e1
  have nd2 : m2.Nodup := (List.nodup_cons.mp (List.nodup_append.mp nd).2.1).2
  rcases Jn.which j j1 with ⟨rfl, rfl⟩ | ⟨rfl, rfl⟩
  · have z : m1 = [] := Way.uniq T.nr w1 (.nil _) (List.nodup_append.mp nd).1 List.nodup_nil
    rw [e, z, tr_eq T w2 nd2]
    rfl
  · exact absurd (ring_no T.nr (rd_get h) j w1) n1
theorem tr_tail {k : Nat} {r c c' : Int} (h : k < F.length) (hr : In n r) (j : Jn (rd F k) c c') (m : k ∉ tr F c' r) : tr F c r = k :: tr F c' r := by
  obtain ⟨o1, o2, _, ne⟩ := rd_ok T h
  have ic' : In n c' := by rcases j with ⟨a, b⟩ | ⟨a, b⟩; exact b ▸ o2; exact a ▸ o1
  obtain ⟨w, nd⟩ := tr_of T ic' hr
  exact tr_eq T (.cons (rd_get h) j w) (List.nodup_cons.mpr ⟨m, nd⟩)
theorem tr_self {r : Int} (hr : In n r) : tr F r r = [] := tr_eq T (.nil _) List.nodup_nil
theorem tr_root {g : Nat} (h : g < F.length) : tr F (rd F g).2.1 (rd F g).1 = [g] := tr_eq T (.cons (rd_get h) (.inr ⟨rfl, rfl⟩) (.nil _)) (by simp)
theorem up_end {g k : Nat} (hk : k < F.length) : (rd F k).1 = up F g k ∨ (rd F k).2.1 = up F g k := by
  unfold up
  split
  · exact .inr rfl
  · exact .inl rfl
/-- the other end's way is over the road, then the near end's -/
theorem up_far {g k : Nat} (hg : g < F.length) (hk : k < F.length) : tr F (eBy F k (up F g k)) (rd F g).1 = k :: tr F (up F g k) (rd F g).1 := by
  obtain ⟨_, _, _, ne⟩ := rd_ok T hk
  have hr := (rd_ok T hg).1
  unfold up
  by_cases m : k ∈ tr F (rd F k).1 (rd F g).1
  · rw [if_pos m, eBy_of (.inr ⟨rfl, rfl⟩) ne]
    exact tr_head T hk hr (.inl ⟨rfl, rfl⟩) m
  · rw [if_neg m, eBy_of (.inl ⟨rfl, rfl⟩) ne]
    exact tr_tail T hk hr (.inr ⟨rfl, rfl⟩) m
/-- which end is nearer, told by an end's own way -/
theorem up_of {g k : Nat} {c : Int} {l : List Nat} (hg : g < F.length) (hk : k < F.length) (hc : (rd F k).1 = c ∨ (rd F k).2.1 = c) (e : tr F c (rd F g).1 = k :: l) : up F g k = eBy F k c ∧ l = tr F (eBy F k c) (rd F g).1 := by
  obtain ⟨_, _, _, ne⟩ := rd_ok T hk
  have hr := (rd_ok T hg).1
  have j := jn_by hc
  have e2 := tr_head T hk hr j (by rw [e]; exact List.mem_cons_self ..)
  have el : l = tr F (eBy F k c) (rd F g).1 := (List.cons.inj (e.symm.trans e2)).2
  refine ⟨?_, el⟩
  have far := up_far T hg hk (g := g)
  by_cases q : up F g k = c
  · exfalso
    rw [q, e2] at far
    have z := congrArg List.length far
    simp at z
    omega
  · rcases up_end T hk (g := g) with a | a
    · have b : (rd F k).2.1 = c := hc.resolve_left fun z => q (a.symm.trans z)
      rw [eBy_of (.inr ⟨rfl, b⟩) ne]
      exact a.symm
    · have b : (rd F k).1 = c := hc.resolve_right fun z => q (a.symm.trans z)
      rw [eBy_of (.inl ⟨b, rfl⟩) ne]
      exact a.symm
end
end OT
set_option linter.all false
namespace OT
section
variable {n : Int} {F : List Fact} {S : Int} {g : Nat} {p : Int}
theorem eAt_or (F : List Fact) (S : Int) (k : Nat) (c : Int) : eAt F S k c = 0 ∨ eAt F S k c = sz F S k := by
  unfold eAt
  split
  · exact .inl rfl
  · exact .inr rfl
theorem hP_g (i : Int) : hP F S g p g i = dst i p := by
  unfold hP legsP
  rw [if_pos rfl]
  show dst i p + 0 = _
  omega
theorem hP_k {k : Nat} (h : k ≠ g) (i : Int) : hP F S g p k i = dst i (eAt F S k (up F g k)) + hC F S g p (up F g k) := by
  unfold hP legsP
  rw [if_neg h]
  rfl
theorem dst_self (a : Int) : dst a a = 0 := by unfold dst; split <;> omega
theorem legsC_nil (c : Int) : legsC F S g p c [] = [(g, eAt F S g c, p)] := rfl
theorem legsC_g (c : Int) (l : List Nat) : legsC F S g p c (g :: l) = legsC F S g p c l := by
  show (if g = g then _ else _) = _
  rw [if_pos rfl]
theorem legsC_k {k : Nat} (h : k ≠ g) (c : Int) (l : List Nat) : legsC F S g p c (k :: l) = (k, eAt F S k c, eAt F S k (eBy F k c)) :: legsC F S g p (eBy F k c) l := by
  show (if k = g then _ else _) = _
  rw [if_neg h]
variable (T : TreeM n F) (hS : 1 ≤ S) (hg : On F S g p)
include T hS hg
/-- at an end of the last road one goes along it -/
theorem legsC_end {c : Int} (hc : (rd F g).1 = c ∨ (rd F g).2.1 = c) : legsC F S g p c (tr F c (rd F g).1) = [(g, eAt F S g c, p)] := by
  rcases hc with rfl | rfl
  · rw [tr_self T (rd_ok T hg.1).1, legsC_nil]
  · rw [tr_root T hg.1, legsC_g, legsC_nil]
theorem hC_end {c : Int} (hc : (rd F g).1 = c ∨ (rd F g).2.1 = c) : hC F S g p c = dst (eAt F S g c) p := by
  unfold hC
  rw [legsC_end T hS hg hc]
  show dst _ _ + 0 = _
  omega
theorem hC_far {k : Nat} (hk : k < F.length) (h : k ≠ g) : hC F S g p (eBy F k (up F g k)) = sz F S k + hC F S g p (up F g k) := by
  obtain ⟨_, _, _, ne⟩ := rd_ok T hk
  have e := up_end T hk (g := g)
  have bb : eBy F k (eBy F k (up F g k)) = up F g k := eBy_of (jn_by e).symm ne
  have oth : (rd F k).1 = eBy F k (up F g k) ∨ (rd F k).2.1 = eBy F k (up F g k) := by
    rcases jn_by e with ⟨_, b⟩ | ⟨b, _⟩
    · exact .inr b
    · exact .inl b
  show total (legsC F S g p (eBy F k (up F g k)) (tr F (eBy F k (up F g k)) (rd F g).1)) = _
  rw [up_far T hg.1 hk, legsC_k h]
  show dst _ _ + total _ = _
  rw [dst_ends T hS hk oth, bb]
  rfl
theorem oth_end {k : Nat} (hk : k < F.length) {c : Int} (hc : (rd F k).1 = c ∨ (rd F k).2.1 = c) (q : up F g k ≠ c) : c = eBy F k (up F g k) := by
  obtain ⟨_, _, _, ne⟩ := rd_ok T hk
  rcases up_end T hk (g := g) with a | a
  · have b : (rd F k).2.1 = c := hc.resolve_left fun z => q (a.symm.trans z)
    rw [eBy_of (.inl ⟨a, b⟩) ne]
  · have b : (rd F k).1 = c := hc.resolve_right fun z => q (a.symm.trans z)
    rw [eBy_of (.inr ⟨b, a⟩) ne]
theorem eAt_far {k : Nat} (hk : k < F.length) {c : Int} (hc : (rd F k).1 = c ∨ (rd F k).2.1 = c) (q : up F g k ≠ c) : dst (eAt F S k c) (eAt F S k (up F g k)) = sz F S k := by
  obtain ⟨_, _, _, ne⟩ := rd_ok T hk
  have e := dst_ends T hS hk hc
  have z := oth_end T hS hg hk hc q
  have bb : eBy F k c = up F g k := by rw [z]; exact eBy_of (jn_by (up_end T hk)).symm ne
  rw [bb] at e
  exact e
/-- the distance from a crossing, seen from its roads -/
theorem hP_end {k : Nat} (hk : k < F.length) {c : Int} (hc : (rd F k).1 = c ∨ (rd F k).2.1 = c) : hP F S g p k (eAt F S k c) = hC F S g p c := by
  by_cases h : k = g
  · subst h
    rw [hP_g, hC_end T hS hg hc]
  · rw [hP_k h]
    by_cases q : up F g k = c
    · rw [q, dst_self]
      omega
    · rw [eAt_far T hS hg hk hc q, ← hC_far T hS hg hk h, ← oth_end T hS hg hk hc q]
theorem hN_node {k : Nat} {i : Int} (h : On F S k i) : hN F S g p (node F S k i) = hP F S g p k i := by
  obtain ⟨_, _, _, ne⟩ := rd_ok T h.1
  unfold node
  by_cases e0 : i = 0
  · rw [if_pos e0]
    show hC F S g p (rd F k).1 = _
    rw [← hP_end T hS hg h.1 (.inl rfl), e0]
    unfold eAt
    rw [if_pos rfl]
  · rw [if_neg e0]
    by_cases e1 : i = sz F S k
    · rw [if_pos e1]
      show hC F S g p (rd F k).2.1 = _
      rw [← hP_end T hS hg h.1 (.inr rfl), e1]
      unfold eAt
      rw [if_neg ne]
    · rw [if_neg e1]
      rfl
/-- one step on a road brings one step nearer, or farther -/
theorem hP_step {k : Nat} {i j : Int} (hi : On F S k i) (hj : On F S k j) (a : j = i + 1 ∨ j = i - 1) : hP F S g p k j = hP F S g p k i + 1 ∨ hP F S g p k j = hP F S g p k i - 1 := by
  obtain ⟨_, i0, i1⟩ := hi
  obtain ⟨_, j0, j1⟩ := hj
  by_cases h : k = g
  · subst h
    obtain ⟨_, p0, p1⟩ := hg
    rw [hP_g, hP_g]
    unfold dst
    split <;> split <;> omega
  · rw [hP_k h, hP_k h]
    rcases eAt_or F S k (up F g k) with e | e
    · rw [e]
      unfold dst
      split <;> split <;> omega
    · rw [e]
      unfold dst
      split <;> split <;> omega
omit T hS hg in
theorem Adj.norm {u v : Nd} (h : Adj F S u v) : ∃ k i j, On F S k i ∧ On F S k j ∧ (j = i + 1 ∨ j = i - 1) ∧ u = node F S k i ∧ v = node F S k j := by
  obtain ⟨k, i, a, b, c, ⟨d, e⟩ | ⟨d, e⟩⟩ := h
  · exact ⟨k, i, i + 1, ⟨a, b, by omega⟩, ⟨a, by omega, c⟩, .inl rfl, d, e⟩
  · exact ⟨k, i + 1, i, ⟨a, by omega, c⟩, ⟨a, b, by omega⟩, .inr (by omega), d, e⟩
omit T hS hg in
theorem Adj.of {k : Nat} {i j : Int} (hi : On F S k i) (hj : On F S k j) (a : j = i + 1 ∨ j = i - 1) : Adj F S (node F S k i) (node F S k j) := by
  rcases a with rfl | rfl
  · exact ⟨k, i, hi.1, hi.2.1, hj.2.2, .inl ⟨rfl, rfl⟩⟩
  · exact ⟨k, i - 1, hi.1, hj.2.1, by have := hi.2.2; omega, .inr ⟨by rw [Int.sub_add_cancel], rfl⟩⟩
theorem adj_step {u v : Nd} (h : Adj F S u v) : hN F S g p v = hN F S g p u + 1 ∨ hN F S g p v = hN F S g p u - 1 := by
  obtain ⟨k, i, j, hi, hj, a, rfl, rfl⟩ := h.norm
  rw [hN_node T hS hg hi, hN_node T hS hg hj]
  exact hP_step T hS hg hi hj a
theorem low_head {k : Nat} (hk : k < F.length) (h : k ≠ g) {c j : Int} (hc : (rd F k).1 = c ∨ (rd F k).2.1 = c) (a : j = eAt F S k c + 1 ∨ j = eAt F S k c - 1) (l : hP F S g p k j + 1 = hC F S g p c) : ∃ m, tr F c (rd F g).1 = k :: m := by
  by_cases q : up F g k = c
  · exfalso
    rw [hP_k h, q] at l
    have : dst j (eAt F S k c) = 1 := by unfold dst; split <;> omega
    omega
  · rw [oth_end T hS hg hk hc q]
    exact ⟨_, up_far T hg.1 hk⟩
/-- only one neighbour is nearer -/
theorem lower_uniq {v u1 u2 : Nd} (a1 : Adj F S v u1) (a2 : Adj F S v u2) (l1 : hN F S g p u1 + 1 = hN F S g p v) (l2 : hN F S g p u2 + 1 = hN F S g p v) : u1 = u2 := by
  obtain ⟨k1, i1, j1, o1, q1, n1, rfl, rfl⟩ := a1.norm
  obtain ⟨k2, i2, j2, o2, q2, n2, ev, rfl⟩ := a2.norm
  rw [hN_node T hS hg q1] at l1
  rw [hN_node T hS hg q2] at l2
  cases e : node F S k1 i1 with
  | mid k i =>
    have m : ∀ {k' i'}, node F S k' i' = .mid k i → k' = k ∧ i' = i := fun {k' i'} z => by
      unfold node at z
      split at z
      · cases z
      · split at z
        · cases z
        · cases z
          exact ⟨rfl, rfl⟩
    obtain ⟨rfl, rfl⟩ := m e
    rw [e] at ev
    obtain ⟨rfl, rfl⟩ := m ev.symm
    rw [hN_node T hS hg o1] at l1 l2
    by_cases z : j1 = j2
    · rw [z]
    · exfalso
      obtain ⟨_, _, _⟩ := o1
      obtain ⟨_, _, _⟩ := q1
      obtain ⟨_, _, _⟩ := q2
      by_cases h : k2 = g
      · subst h
        rw [hP_g, hP_g] at l1 l2
        unfold dst at l1 l2
        split at l1 <;> split at l1 <;> split at l2 <;> omega
      · rw [hP_k h, hP_k h] at l1 l2
        rcases eAt_or F S k2 (up F g k2) with e | e
        · rw [e] at l1 l2
          unfold dst at l1 l2
          split at l1 <;> split at l1 <;> split at l2 <;> omega
        · rw [e] at l1 l2
          unfold dst at l1 l2
          split at l1 <;> split at l1 <;> split at l2 <;> omega
  | cr c =>
    rw [e] at ev l1 l2
    obtain ⟨c1, ei1⟩ := node_cr T hS o1.1 e
    obtain ⟨c2, ei2⟩ := node_cr T hS o2.1 ev.symm
    rw [ei1] at n1
    rw [ei2] at n2
    have same : k1 = k2 := by
      by_cases h1 : k1 = g
      · by_cases h2 : k2 = g
        · exact h1.trans h2.symm
        · exfalso
          obtain ⟨m, em⟩ := low_head T hS hg o2.1 h2 c2 n2 l2
          rw [h1] at c1
          rcases c1 with rfl | rfl
          · rw [tr_self T (rd_ok T hg.1).1] at em
            cases em
          · rw [tr_root T hg.1] at em
            exact h2 (List.cons.inj em).1.symm
      · by_cases h2 : k2 = g
        · exfalso
          obtain ⟨m, em⟩ := low_head T hS hg o1.1 h1 c1 n1 l1
          rw [h2] at c2
          rcases c2 with rfl | rfl
          · rw [tr_self T (rd_ok T hg.1).1] at em
            cases em
          · rw [tr_root T hg.1] at em
            exact h1 (List.cons.inj em).1.symm
        · obtain ⟨m, em⟩ := low_head T hS hg o1.1 h1 c1 n1 l1
          obtain ⟨m', em'⟩ := low_head T hS hg o2.1 h2 c2 n2 l2
          rw [em] at em'
          exact (List.cons.inj em').1
    subst same
    have : j1 = j2 := by
      obtain ⟨_, _, _⟩ := q1
      obtain ⟨_, _, _⟩ := q2
      rcases eAt_or F S k1 c with e | e <;> omega
    rw [this]
omit T hS hg in
theorem posL_le {k : Nat} {s e t : Int} {L : List Leg} (h : t ≤ dst s e) : posL ((k, s, e) :: L) t = (k, if s < e then s + t else s - t) := by
  show (if t ≤ dst s e then _ else _) = _
  rw [if_pos h]
omit T hS hg in
theorem posL_gt {k : Nat} {s e t : Int} {L : List Leg} (h : ¬ t ≤ dst s e) : posL ((k, s, e) :: L) t = posL L (t - dst s e) := by
  show (if t ≤ dst s e then _ else _) = _
  rw [if_neg h]
/-- along the legs L one comes nearer with each part of a step -/
def PathOk (F : List Fact) (S : Int) (g : Nat) (p : Int) (L : List Leg) : Prop := ∀ t, 0 ≤ t → t ≤ total L → On F S (posL L t).1 (posL L t).2 ∧ hP F S g p (posL L t).1 (posL L t).2 = total L - t ∧
  (t + 1 ≤ total L → Adj F S (node F S (posL L t).1 (posL L t).2) (node F S (posL L (t + 1)).1 (posL L (t + 1)).2))
omit T hS hg in
theorem leg_in {k : Nat} {s e t : Int} (hs : On F S k s) (he : On F S k e) (t0 : 0 ≤ t) (t1 : t ≤ dst s e) : On F S k (if s < e then s + t else s - t) ∧ dst (if s < e then s + t else s - t) e = dst s e - t := by
  obtain ⟨a, b, c⟩ := hs
  obtain ⟨_, b', c'⟩ := he
  unfold dst at t1 ⊢
  by_cases h : s < e
  · rw [if_pos h]
    have h1 : ¬ e - s < 0 := by omega
    rw [if_neg h1] at t1 ⊢
    have h2 : ¬ e - (s + t) < 0 := by omega
    rw [if_neg h2]
    exact ⟨⟨a, by omega, by omega⟩, by omega⟩
  · rw [if_neg h]
    by_cases h1 : e - s < 0
    · rw [if_pos h1] at t1 ⊢
      refine ⟨⟨a, by omega, by omega⟩, ?_⟩
      split <;> omega
    · rw [if_neg h1] at t1 ⊢
      refine ⟨⟨a, by omega, by omega⟩, ?_⟩
      split <;> omega
omit T hS hg in
theorem path_cons {k : Nat} {s e : Int} {L : List Leg} (hs : On F S k s) (he : On F S k e) (lin : ∀ i, On F S k i → hP F S g p k i = dst i e + total L) (ok : PathOk F S g p L) (j : 1 ≤ total L → node F S k e = node F S (posL L 0).1 (posL L 0).2) : PathOk F S g p ((k, s, e) :: L) := by
  intro t t0 t1
  have tot : total ((k, s, e) :: L) = dst s e + total L := rfl
  rw [tot] at t1 ⊢
  by_cases h : t ≤ dst s e
  · obtain ⟨o, d⟩ := leg_in hs he t0 h
    rw [posL_le h]
    refine ⟨o, by rw [lin _ o, d]; omega, fun t2 => ?_⟩
    by_cases h2 : t + 1 ≤ dst s e
    · obtain ⟨o2, _⟩ := leg_in hs he (show 0 ≤ t + 1 by omega) h2
      rw [posL_le h2]
      refine Adj.of o o2 ?_
      split
      · exact .inl (by omega)
      · exact .inr (by omega)
    · have et : t = dst s e := by omega
      rw [posL_gt h2]
      have e1 : t + 1 - dst s e = 0 + 1 := by omega
      rw [e1]
      have ee : (if s < e then s + t else s - t) = e := by
        rw [et]
        unfold dst
        split <;> split <;> omega
      simp only [ee]
      rw [j (by omega)]
      exact (ok 0 (Int.le_refl _) (total_nn _)).2.2 (by omega)
  · rw [posL_gt h, posL_gt (show ¬ t + 1 ≤ dst s e by omega)]
    obtain ⟨o, d, a⟩ := ok (t - dst s e) (by omega) (by omega)
    refine ⟨o, by rw [d]; omega, fun t2 => ?_⟩
    have e1 : t + 1 - dst s e = t - dst s e + 1 := by omega
    rw [e1]
    exact a (by omega)
theorem path_last {s : Int} (hs : On F S g s) : PathOk F S g p [(g, s, p)] := by
  intro t t0 t1
  have tot : total [(g, s, p)] = dst s p := by show dst s p + 0 = _; omega
  rw [tot] at t1 ⊢
  obtain ⟨o, d⟩ := leg_in hs hg t0 t1
  rw [posL_le t1]
  refine ⟨o, by rw [hP_g, d], fun t2 => ?_⟩
  obtain ⟨o2, _⟩ := leg_in hs hg (show 0 ≤ t + 1 by omega) t2
  rw [posL_le t2]
  refine Adj.of o o2 ?_
  split
  · exact .inl (by omega)
  · exact .inr (by omega)
omit T hS hg in
theorem posL_zero {k : Nat} {s e : Int} {L : List Leg} : posL ((k, s, e) :: L) 0 = (k, s) := by
  rw [posL_le (dst_nn s e)]
  split <;> simp
theorem legsC_ok : ∀ (l : List Nat) (c : Int), In n c → tr F c (rd F g).1 = l → PathOk F S g p (legsC F S g p c l) ∧ node F S (posL (legsC F S g p c l) 0).1 (posL (legsC F S g p c l) 0).2 = .cr c := by
  have hr := (rd_ok T hg.1).1
  have last : ∀ c, ((rd F g).1 = c ∨ (rd F g).2.1 = c) → PathOk F S g p [(g, eAt F S g c, p)] ∧ node F S (posL [(g, eAt F S g c, p)] 0).1 (posL [(g, eAt F S g c, p)] 0).2 = .cr c := fun c hc => by
    refine ⟨path_last T hS hg (eAt_on T hS hg.1 c), ?_⟩
    rw [posL_zero]
    exact node_eAt T hS hg.1 hc
  intro l
  induction l with
  | nil =>
    intro c ic e
    obtain ⟨w, _⟩ := tr_of T ic hr
    rw [e] at w
    cases w
    exact last _ (.inl rfl)
  | cons k l ih =>
    intro c ic e
    obtain ⟨w, nd⟩ := tr_of T ic hr
    rw [e] at w nd
    cases w with
    | @cons _ c' _ _ r _ ek j w =>
      have hk : k < F.length := (List.getElem?_eq_some_iff.mp ek).1
      rw [rd_get hk] at ek
      cases ek
      obtain ⟨_, _, _, ne⟩ := rd_ok T hk
      have hc : (rd F k).1 = c ∨ (rd F k).2.1 = c := by
        rcases j with ⟨a, _⟩ | ⟨_, a⟩
        · exact .inl a
        · exact .inr a
      by_cases h : k = g
      · subst h
        rw [legsC_g]
        have el : l = [] := by
          rcases hc with rfl | rfl
          · rw [tr_self T hr] at e
            cases e
          · rw [tr_root T hg.1] at e
            exact (List.cons.inj e).2.symm
        rw [el]
        exact last _ hc
      · rw [legsC_k h]
        obtain ⟨eu, el⟩ := up_of T hg.1 hk hc e
        have ic' : In n (eBy F k c) := by
          have o := rd_ok T hk
          rcases jn_by hc with ⟨_, b⟩ | ⟨b, _⟩
          · exact b ▸ o.2.1
          · exact b ▸ o.1
        obtain ⟨ok, st⟩ := ih (eBy F k c) ic' el.symm
        refine ⟨path_cons (eAt_on T hS hk c) (eAt_on T hS hk _) (fun i hi => ?_) ok fun _ => ?_, ?_⟩
        · rw [hP_k h, eu]
          unfold hC
          rw [← el]
        · rw [st]
          refine node_eAt T hS hk ?_
          rcases jn_by hc with ⟨_, b⟩ | ⟨b, _⟩
          · exact .inr b
          · exact .inl b
        · rw [posL_zero]
          exact node_eAt T hS hk hc
theorem legsP_ok {k : Nat} {i : Int} (h : On F S k i) : PathOk F S g p (legsP F S g p k i) ∧ node F S (posL (legsP F S g p k i) 0).1 (posL (legsP F S g p k i) 0).2 = node F S k i := by
  unfold legsP
  by_cases e : k = g
  · subst e
    rw [if_pos rfl, posL_zero]
    exact ⟨path_last T hS hg h, rfl⟩
  · rw [if_neg e, posL_zero]
    have ic : In n (up F g k) := by
      have o := rd_ok T h.1
      rcases up_end T h.1 (g := g) with b | b
      · exact b ▸ o.1
      · exact b ▸ o.2.1
    obtain ⟨ok, st⟩ := legsC_ok T hS hg _ (up F g k) ic rfl
    refine ⟨path_cons h (eAt_on T hS h.1 _) (fun j hj => hP_k e j) ok fun _ => ?_, rfl⟩
    rw [st]
    exact node_eAt T hS h.1 (up_end T h.1)
theorem hC_zero {c : Int} (ic : In n c) (h : hC F S g p c = 0) : node F S g p = .cr c := by
  have hr := (rd_ok T hg.1).1
  have fin : ((rd F g).1 = c ∨ (rd F g).2.1 = c) → node F S g p = .cr c := fun hc => by
    rw [hC_end T hS hg hc] at h
    have : p = eAt F S g c := by
      unfold dst at h
      split at h <;> omega
    rw [this]
    exact node_eAt T hS hg.1 hc
  cases e : tr F c (rd F g).1 with
  | nil =>
    obtain ⟨w, _⟩ := tr_of T ic hr
    rw [e] at w
    cases w
    exact fin (.inl rfl)
  | cons k l =>
    obtain ⟨w, nd⟩ := tr_of T ic hr
    rw [e] at w nd
    cases w with
    | @cons _ c' _ _ r _ ek j w =>
      have hk : k < F.length := (List.getElem?_eq_some_iff.mp ek).1
      rw [rd_get hk] at ek
      cases ek
      have hc : (rd F k).1 = c ∨ (rd F k).2.1 = c := by
        rcases j with ⟨a, _⟩ | ⟨_, a⟩
        · exact .inl a
        · exact .inr a
      by_cases q : k = g
      · exact fin (q ▸ hc)
      · exfalso
        unfold hC at h
        rw [e, legsC_k q] at h
        have h' : dst (eAt F S k c) (eAt F S k (eBy F k c)) + total (legsC F S g p (eBy F k c) l) = 0 := h
        rw [dst_ends T hS hk hc] at h'
        have := sz_pos T hS hk
        have := total_nn (legsC F S g p (eBy F k c) l)
        omega
/-- only the goal is at no distance -/
theorem hP_zero {k : Nat} {i : Int} (h : On F S k i) (z : hP F S g p k i = 0) : node F S k i = node F S g p := by
  by_cases e : k = g
  · subst e
    rw [hP_g] at z
    have : i = p := by
      unfold dst at z
      split at z <;> omega
    rw [this]
  · rw [hP_k e] at z
    have d := dst_nn i (eAt F S k (up F g k))
    have c := total_nn (legsC F S g p (up F g k) (tr F (up F g k) (rd F g).1))
    have z' : dst i (eAt F S k (up F g k)) + total (legsC F S g p (up F g k) (tr F (up F g k) (rd F g).1)) = 0 := z
    have ei : i = eAt F S k (up F g k) := by
      have : dst i (eAt F S k (up F g k)) = 0 := by omega
      unfold dst at this
      split at this <;> omega
    have ic : In n (up F g k) := by
      have o := rd_ok T h.1
      rcases up_end T h.1 (g := g) with b | b
      · exact b ▸ o.1
      · exact b ▸ o.2.1
    rw [hC_zero T hS hg ic (show hC F S g p (up F g k) = 0 by unfold hC; omega), ei]
    exact node_eAt T hS h.1 (up_end T h.1)
end
end OT
set_option linter.all false
namespace OT
theorem sz_mul (F : List Fact) (S c : Int) (k : Nat) : sz F (S * c) k = sz F S k * c := by
  unfold sz
  rw [Int.mul_assoc]
theorem eAt_mul (F : List Fact) (S c : Int) (k : Nat) (x : Int) : eAt F (S * c) k x = eAt F S k x * c := by
  unfold eAt
  split
  · rw [Int.zero_mul]
  · exact sz_mul F S c k
theorem dst_mul {c : Int} (hc : 0 < c) (s e : Int) : dst (s * c) (e * c) = dst s e * c := by
  have h : e * c - s * c = (e - s) * c := by rw [Int.sub_mul]
  unfold dst
  rw [h]
  by_cases q : e - s < 0
  · have q' : (e - s) * c < 0 := Int.mul_neg_of_neg_of_pos q hc
    rw [if_pos q, if_pos q', Int.neg_mul]
  · have q' : ¬ (e - s) * c < 0 := by
      have := Int.mul_nonneg (a := e - s) (b := c) (by omega) (by omega)
      omega
    rw [if_neg q, if_neg q']
def scL (c : Int) (l : Leg) : Leg := (l.1, l.2.1 * c, l.2.2 * c)
theorem legsC_mul (F : List Fact) (S c : Int) (g : Nat) (p : Int) : ∀ (l : List Nat) (x : Int), legsC F (S * c) g (p * c) x l = (legsC F S g p x l).map (scL c)
  | [], x => by
    show [(g, eAt F (S * c) g x, p * c)] = [scL c (g, eAt F S g x, p)]
    rw [eAt_mul]
    rfl
  | k :: l, x => by
    by_cases h : k = g
    · subst h
      rw [legsC_g, legsC_g]
      exact legsC_mul F S c k p l x
    · rw [legsC_k h, legsC_k h, List.map_cons, legsC_mul F S c g p l, eAt_mul, eAt_mul]
      rfl
theorem legsP_mul (F : List Fact) (S c : Int) (g : Nat) (p : Int) (k : Nat) (i : Int) : legsP F (S * c) g (p * c) k (i * c) = (legsP F S g p k i).map (scL c) := by
  unfold legsP
  by_cases h : k = g
  · rw [if_pos h, if_pos h]
    rfl
  · rw [if_neg h, if_neg h, List.map_cons, legsC_mul, eAt_mul]
    rfl
theorem total_mul {c : Int} (hc : 0 < c) : ∀ L : List Leg, total (L.map (scL c)) = total L * c
  | [] => by
    show (0 : Int) = 0 * c
    rw [Int.zero_mul]
  | (k, s, e) :: L => by
    show dst (s * c) (e * c) + total (L.map (scL c)) = (dst s e + total L) * c
    rw [dst_mul hc, total_mul hc L, Int.add_mul]
theorem hP_mul {c : Int} (hc : 0 < c) (F : List Fact) (S : Int) (g : Nat) (p : Int) (k : Nat) (i : Int) : hP F (S * c) g (p * c) k (i * c) = hP F S g p k i * c := by
  unfold hP
  rw [legsP_mul, total_mul hc]
theorem posL_mul {c : Int} (hc : 0 < c) : ∀ (L : List Leg) (t : Int), posL (L.map (scL c)) (t * c) = ((posL L t).1, (posL L t).2 * c)
  | [], t => by
    show ((0 : Nat), (0 : Int)) = (0, 0 * c)
    rw [Int.zero_mul]
  | (k, s, e) :: L, t => by
    show posL ((k, s * c, e * c) :: L.map (scL c)) (t * c) = _
    by_cases h : t ≤ dst s e
    · have h' : t * c ≤ dst (s * c) (e * c) := by
        rw [dst_mul hc]
        exact Int.mul_le_mul_of_nonneg_right h (by omega)
      rw [posL_le h, posL_le h']
      have q : (s * c < e * c) ↔ s < e := ⟨fun z => Int.lt_of_mul_lt_mul_right z (by omega), fun z => Int.mul_lt_mul_of_pos_right z hc⟩
      by_cases r : s < e
      · simp only [q.mpr r, r, if_true]
        rw [Int.add_mul]
      · simp only [fun z => r (q.mp z), r, if_false]
        have : ¬ s * c < e * c := fun z => r (q.mp z)
        rw [if_neg this, Int.sub_mul]
    · have h' : ¬ t * c ≤ dst (s * c) (e * c) := by
        rw [dst_mul hc]
        exact fun z => h (Int.le_of_mul_le_mul_right z hc)
      rw [posL_gt h, posL_gt h', dst_mul hc, ← Int.sub_mul, posL_mul hc L]
def scN (c : Int) : Nd → Nd
  | .cr x => .cr x
  | .mid k i => .mid k (i * c)
theorem node_mul {c : Int} (hc : 0 < c) (F : List Fact) (S : Int) (k : Nat) (i : Int) : node F (S * c) k (i * c) = scN c (node F S k i) := by
  unfold node
  rw [sz_mul]
  by_cases h : i = 0
  · rw [if_pos h, if_pos (by rw [h, Int.zero_mul])]
    rfl
  · have h' : ¬ i * c = 0 := fun z => (Int.mul_eq_zero.mp z).elim h (by omega)
    rw [if_neg h, if_neg h']
    by_cases q : i = sz F S k
    · rw [if_pos q, if_pos (by rw [q])]
      rfl
    · rw [if_neg q, if_neg (fun z => q (Int.eq_of_mul_eq_mul_right (by omega) z))]
      rfl
/-- the lowest-numbered road at a crossing -/
def fstR (F : List Fact) (c : Int) : Nat := F.findIdx fun r => decide (r.1 = c ∨ r.2.1 = c)
/-- the key of a place, as a road, a number and parts -/
def keyF (F : List Fact) (S : Int) : Nd → Fact
  | .cr c => ((fstR F c : Nat), eAt F 1 (fstR F c) c, 1)
  | .mid k i => low ((k : Nat), i, S)
theorem keyF_mul {c : Int} (hc : 0 < c) (F : List Fact) (S : Int) (v : Nd) : keyF F (S * c) (scN c v) = keyF F S v := by
  cases v with
  | cr x => rfl
  | mid k i => exact low_mul c hc
theorem keyF_node_mul {c : Int} (hc : 0 < c) (F : List Fact) (S : Int) (k : Nat) (i : Int) : keyF F (S * c) (node F (S * c) k (i * c)) = keyF F S (node F S k i) := by
  rw [node_mul hc, keyF_mul hc]
theorem fstR_spec {n : Int} {F : List Fact} (T : TreeM n F) {c : Int} (hc : In n c) (h2 : 2 ≤ n) : fstR F c < F.length ∧ ((rd F (fstR F c)).1 = c ∨ (rd F (fstR F c)).2.1 = c) ∧ ∀ j, j < fstR F c → ¬ ((rd F j).1 = c ∨ (rd F j).2.1 = c) := by
  have ex : ∃ r ∈ F, r.1 = c ∨ r.2.1 = c := by
    obtain ⟨d, hd, ne⟩ : ∃ d, In n d ∧ d ≠ c := by
      by_cases z : c = 0
      · exact ⟨1, ⟨by decide, by omega⟩, by omega⟩
      · exact ⟨0, ⟨by decide, by omega⟩, fun q => z q.symm⟩
    have q := T.con d c hd hc
    cases q with
    | refl => exact absurd rfl ne
    | step _ m j =>
      refine ⟨_, m, ?_⟩
      rcases j with ⟨_, b⟩ | ⟨b, _⟩
      · exact .inr b
      · exact .inl b
  obtain ⟨r, m, e⟩ := ex
  have lt : fstR F c < F.length := List.findIdx_lt_length_of_exists ⟨r, m, by simpa using e⟩
  refine ⟨lt, ?_, fun j hj q => ?_⟩
  · have z := List.findIdx_getElem (xs := F) (p := fun r : Fact => decide (r.1 = c ∨ r.2.1 = c)) (w := lt)
    have z2 := of_decide_eq_true z
    have e2 : rd F (fstR F c) = F[fstR F c] := rd_of (List.getElem?_eq_getElem lt)
    rw [e2]
    exact z2
  · have lj : j < F.length := Nat.lt_trans hj lt
    have z := List.not_of_lt_findIdx (xs := F) (p := fun r : Fact => decide (r.1 = c ∨ r.2.1 = c)) hj
    have e2 : rd F j = F[j] := rd_of (List.getElem?_eq_getElem lj)
    rw [e2] at q
    simp only [decide_eq_false_iff_not] at z
    exact z q
/-- a fraction in lowest terms -/
def Low (r : Fact) : Prop := 1 ≤ r.2.2 ∧ low r = r
theorem low_low {r : Fact} (h : 1 ≤ r.2.2) : Low (low r) := by
  have g0 := gcd_pos (a := r.2.1) h
  have dl := gcdI_left r.2.1 r.2.2
  have dr := gcdI_right r.2.1 r.2.2
  have p1 : 1 ≤ r.2.2 / gcdI r.2.1 r.2.2 := by
    have z := back_of dr
    have q : r.2.2 / gcdI r.2.1 r.2.2 ≠ 0 := fun q => by rw [q, Int.zero_mul] at z; omega
    have := Int.ediv_nonneg (a := r.2.2) (b := gcdI r.2.1 r.2.2) (by omega) (by omega)
    omega
  refine ⟨p1, ?_⟩
  have one : gcdI (r.2.1 / gcdI r.2.1 r.2.2) (r.2.2 / gcdI r.2.1 r.2.2) = 1 := by
    have e1 := back_of dl
    have e2 := back_of dr
    generalize hg : gcdI r.2.1 r.2.2 = g at *
    have z : gcdI (r.2.1 / g * g) (r.2.2 / g * g) = gcdI (r.2.1 / g) (r.2.2 / g) * g := by
      unfold gcdI
      rw [Int.natAbs_mul, Int.natAbs_mul, Nat.gcd_mul_right, Int.natCast_mul]
      congr 1
      omega
    rw [← e1, ← e2, hg] at z
    have : 1 * g = gcdI (r.2.1 / g) (r.2.2 / g) * g := by rw [← z, Int.one_mul]
    exact (Int.eq_of_mul_eq_mul_right (by omega) this).symm
  show (_, _ / gcdI _ _, _ / gcdI _ _) = _
  show (r.1, r.2.1 / gcdI r.2.1 r.2.2 / gcdI (r.2.1 / gcdI r.2.1 r.2.2) (r.2.2 / gcdI r.2.1 r.2.2), r.2.2 / gcdI r.2.1 r.2.2 / gcdI (r.2.1 / gcdI r.2.1 r.2.2) (r.2.2 / gcdI r.2.1 r.2.2)) = _
  rw [one, Int.ediv_one, Int.ediv_one]
  rfl
theorem low_back {r : Fact} (h : 1 ≤ r.2.2) : ∃ c, 0 < c ∧ r.2.1 = (low r).2.1 * c ∧ r.2.2 = (low r).2.2 * c := ⟨gcdI r.2.1 r.2.2, gcd_pos h, back_of (gcdI_left _ _), back_of (gcdI_right _ _)⟩
end OT
set_option Elab.async false
set_option linter.all false
set_option maxRecDepth 100000
set_option maxHeartbeats 1000000
namespace OTR
open PySem PySem.Spec PyProof.Rows L2
section
variable {X : Cx}
/-- math.lcm of two -/
def rLcm : List V → Hp → VK → Prop := fun vs G Q => ∃ a b : Int, vs = [.int a, .int b] ∧ a.natAbs < 2 ^ 64 ∧ b.natAbs < 2 ^ 64 ∧ Q (.int ((Nat.lcm a.natAbs b.natAbs : Nat) : Int)) G
theorem cr_lcm : CallR X (.builtin "math.lcm") rLcm := by
  intro p0 s0 g0 G vs us Q J r h
  obtain ⟨a, b, rfl, la, lb, q⟩ := h
  obtain ⟨t, u, rfl⟩ := Vals.int2 r
  exact PySem.W.mc_lcm la lb fun _ => ⟨.int _, G, J.tok _, ⟨_, rfl⟩, q⟩
end
end OTR
set_option Elab.async false
set_option linter.all false
set_option maxRecDepth 100000
set_option maxHeartbeats 4000000
namespace OT
open PySem L2 OTR
abbrev sNoRd : Stmt := inClass (top 7) 0
abbrev sOff : Stmt := inClass (top 8) 0
abbrev sCheckPl : Stmt := top 24
abbrev sEndAt : Stmt := top 20
abbrev sCorner : Stmt := top 26
abbrev sKey : Stmt := top 25
theorem PlaceAt.kp {C : Addr} {H H' : Hp} {p : Addr} {r : Fact} (h : PlaceAt C H p r) (k : Kp H H') : PlaceAt C H' p r := let ⟨dx, e⟩ := h; ⟨dx, k _ _ e fun _ z => nomatch z⟩
/-- a tree that the program has made -/
structure TreeG (n : Int) (F : List Fact) : Prop where
  m : TreeM n F
  big : ∀ r ∈ F, r.2.2 ≤ 1000000000
  n2 : 2 ≤ n
  n24 : n ≤ 24
  len : (F.length : Int) = n - 1
theorem TreeG.rd {n : Int} {F : List Fact} (T : TreeG n F) {k : Nat} (h : k < F.length) : 1 ≤ (rd F k).2.2 ∧ (OT.rd F k).2.2 ≤ 1000000000 := ⟨(rd_ok T.m h).2.2.1, T.big _ (List.mem_of_getElem? (rd_get h))⟩
theorem RoadsAt.at_ {CR : Addr} {H : Hp} {ps : List Addr} {F : List Fact} (h : RoadsAt CR H ps F) {k : Nat} (hk : k < F.length) : ∃ p, (ps.map V.ref)[k]? = some (V.ref p) ∧ RoadAt CR H p (rd F k) := by
  have lk : k < ps.length := by rw [h.len]; exact hk
  obtain ⟨r, e, a⟩ := h.get (List.getElem?_eq_getElem lk)
  refine ⟨ps[k], by rw [List.getElem?_map, List.getElem?_eq_getElem lk]; rfl, ?_⟩
  rw [rd_of e]
  exact a
/-- the place lies on the tree -/
def PlOn (F : List Fact) (r : Fact) : Prop := (0 ≤ r.1 ∧ r.1 < (F.length : Int)) ∧ 0 ≤ r.2.1 ∧ r.2.1 ≤ (rd F r.1.toNat).2.2 * r.2.2
/-- its parts: few enough -/
def PlSm (r : Fact) : Prop := 1 ≤ r.2.2 ∧ r.2.2 < 2 ^ 60
def spCheckPl (K : PySem.W.Frag) (CT CR CP CNR COR : Addr) : Sp := fun vs H Q E => ∃ (a p : Addr) (n : Int) (ps : List Addr) (F : List Fact) (r : Fact), vs = [.ref a, .ref p] ∧ TreeAt K CT CR H a n ps F ∧ PlaceAt CP H p r ∧ TreeG n F ∧ PlSm r ∧
  (¬ (0 ≤ r.1 ∧ r.1 < (F.length : Int)) → Raised CNR [("road", .int r.1)] H E) ∧ ((0 ≤ r.1 ∧ r.1 < (F.length : Int)) → ¬ (0 ≤ r.2.1 ∧ r.2.1 ≤ (rd F r.1.toNat).2.2 * r.2.2) → Raised COR [("road", .int r.1)] H E) ∧ (PlOn F r → Q .non H)
def spEndAt (CR : Addr) : Sp := fun vs H Q _ => ∃ (p : Addr) (r : Fact) (c : Int), vs = [.ref p, .int c] ∧ RoadAt CR H p r ∧ Q (.int (if r.1 = c then 0 else r.2.2)) H
def spCorner (K : PySem.W.Frag) (CT CR CP CN : Addr) : Sp := fun vs H Q E => ∃ (a : Addr) (n : Int) (ps : List Addr) (F : List Fact) (c : Int), vs = [.ref a, .int c] ∧ TreeAt K CT CR H a n ps F ∧ TreeG n F ∧
  (¬ In n c → Raised CN [("crossing", .int c)] H E) ∧ (In n c → ∀ p H', Same H H' → H p = none → PlaceAt CP H' p (keyF F 1 (.cr c)) → Q (.ref p) H')
section
variable {P : Program} {w : World} {K : PySem.W.Frag} {mg : Str → Option Value} {base : Heap}
theorem scNoRd : FnScope ["self", "road"] ["self", "road"] (defScope sNoRd) := ⟨rfl, rfl, rfl, by decide +kernel, rfl, by decide +kernel, by decide +kernel⟩
theorem ok_noRd {f C : Addr} {fd : FuncData} (F : Fun K "__init__" "NoRoad.__init__" sNoRd f fd) (T : OexC K C) (n1 : PySem.W.findIn K (.ref C) "road" = some none) : FnOk P w K mg base CX0 1 f fd ["self", "road"] (spEr1 C "road") := by
  refine F.ok scNoRd (fun vs H Q E h => ?_) (fun cdv A outer s H vs Q E hr h => ?_)
  · obtain ⟨a, v, rfl, _⟩ := h
    rfl
  · obtain ⟨a, v, rfl, ha, k⟩ := h
    refine ⟨_, pss_one (ps_ost (pv 0) (pv 1)), ?_⟩
    exact ⟨_, rfl, _, rfl, a, C, rfl, T, n1, .inl ⟨ha, fun dx n ne => k dx n ne⟩⟩
theorem scOff : FnScope ["self", "road"] ["self", "road"] (defScope sOff) := ⟨rfl, rfl, rfl, by decide +kernel, rfl, by decide +kernel, by decide +kernel⟩
theorem ok_off {f C : Addr} {fd : FuncData} (F : Fun K "__init__" "OffRoad.__init__" sOff f fd) (T : OexC K C) (n1 : PySem.W.findIn K (.ref C) "road" = some none) : FnOk P w K mg base CX0 1 f fd ["self", "road"] (spEr1 C "road") := by
  refine F.ok scOff (fun vs H Q E h => ?_) (fun cdv A outer s H vs Q E hr h => ?_)
  · obtain ⟨a, v, rfl, _⟩ := h
    rfl
  · obtain ⟨a, v, rfl, ha, k⟩ := h
    refine ⟨_, pss_one (ps_ost (pv 0) (pv 1)), ?_⟩
    exact ⟨_, rfl, _, rfl, a, C, rfl, T, n1, .inl ⟨ha, fun dx n ne => k dx n ne⟩⟩
theorem scEndAt : FnScope ["road", "crossing"] ["road", "crossing"] (defScope sEndAt) := ⟨rfl, rfl, rfl, by decide +kernel, rfl, by decide +kernel, by decide +kernel⟩
theorem ok_endAt {f CR : Addr} {fd : FuncData} (F : Fun K "end_at" "end_at" sEndAt f fd) (TR : RdT K mg CR) : FnOk P w K mg base CX0 1 f fd ["road", "crossing"] (spEndAt CR) := by
  refine F.ok scEndAt (fun vs H Q E h => ?_) (fun cdv A outer s H vs Q E hr h => ?_)
  · obtain ⟨p, r, c, rfl, _⟩ := h
    rfl
  · obtain ⟨p, r, c, rfl, ⟨dx, e⟩, k⟩ := h
    refine ⟨_, pss_one (ps_ret (pe_ifExp (pt_cmpR op_eq (pe_fld (pv 0) rfl) (pv 1) (nomark _)) pe_int (pe_fld (pv 0) rfl))), ?_⟩
    refine ⟨_, rfl, p, CR, dx, _, _, rfl, e, TR.cl, TR.nA, rdF_a r, _, rfl, rfl, _, rfl, ?_⟩
    by_cases h : r.1 = c
    · rw [if_pos h] at k
      exact iteV h k
    · rw [if_neg h] at k
      exact iteN h ⟨_, rfl, p, CR, dx, _, _, rfl, e, TR.cl, TR.nL, rdF_l r, k⟩
theorem scCheckPl : FnScope ["tree", "place"] ["tree", "place"] (defScope sCheckPl) := ⟨rfl, rfl, rfl, by decide +kernel, rfl, by decide +kernel, by decide +kernel⟩
theorem ok_checkPl {f CT CR CP CNR COR fNR fOR : Addr} {fd fdNR fdOR : FuncData} (F : Fun K "check_place" "check_place" sCheckPl f fd) (TT : TeT K mg CT) (TR : RdT K mg CR) (TP : PlT K mg CP) (TN : ErT K mg "NoRoad" CNR fNR) (TO : ErT K mg "OffRoad" COR fOR)
    (FN : FnOk P w K mg base CX0 1 fNR fdNR ["self", "road"] (spEr1 CNR "road")) (bN : Binds K fdNR ["self", "road"] []) (FO : FnOk P w K mg base CX0 1 fOR fdOR ["self", "road"] (spEr1 COR "road")) (bO : Binds K fdOR ["self", "road"] [])
    (hLen : mg "len" = none) : FnOk P w K mg base (L2.CX P w) 3 f fd ["tree", "place"] (spCheckPl K CT CR CP CNR COR) := by
  refine F.okX scCheckPl (fun vs H Q E h => ?_) (fun cdv A outer s H vs Q E hr h => ?_)
  · obtain ⟨a, p, n, ps, F, r, rfl, _⟩ := h
    rfl
  · obtain ⟨a, p, n, ps, F, r, rfl, TA, ⟨dp, ep⟩, G, ⟨sm1, sm2⟩, k1, k2, k3⟩ := h
    refine ⟨_, pss_cons (ps_if (pt_not (pt_chain op_le op_lt pe_int (pe_fld (pv 1) rfl) (pe_callB call_len_seq (by rfl) hLen PySem.boot_len (pa_cons (pe_fld (pv 0) rfl) pa_nil))))
          (pss_one (ps_raise rfl (takes_of rfl rfl rfl rfl) (pmk_oex TN.ox TN.iC TN.tI FN hr bN .nil pass0 (by rfl) TN.gC (pa_cons (pe_fld (pv 1) rfl) pa_nil)))) pss_nil)
      (pss_one (ps_if (pt_not (pt_chain op_le op_le pe_int (pe_fld (pv 1) rfl) (pe_op op_mul (pe_fld (pe_ix ix_tup (pe_fld (pv 0) rfl) (pe_fld (pv 1) rfl) (fun _ _ => rfl)) rfl) (pe_fld (pv 1) rfl))))
          (pss_one (ps_raise rfl (takes_of rfl rfl rfl rfl) (pmk_oex TO.ox TO.iC TO.tI FO hr bO .nil pass0 (by rfl) TO.gC (pa_cons (pe_fld (pv 1) rfl) pa_nil)))) pss_nil)), ?_⟩
    obtain ⟨dx, t, d, kvs, ea, et, rds, _⟩ := TA
    have pl : (ps.map V.ref).length = F.length := by rw [List.length_map]; exact rds.len
    refine ⟨_, rfl, p, CP, dp, _, _, rfl, ep, TP.cl, TP.nR, plF_r r, _, _, rfl, rfl, _, rfl, ?_⟩
    by_cases h0 : 0 ≤ r.1
    · rw [decide_eq_true h0]
      refine iteT ⟨_, rfl, a, CT, dx, _, _, rfl, ea, TT.cl, TT.nR, teF_r n t d, t, _, rfl, .inr et, _, _, rfl, rfl, _, rfl, ?_⟩
      rw [pl]
      by_cases h1 : r.1 < (F.length : Int)
      · rw [decide_eq_true h1]
        refine iteF ⟨_, rfl, p, CP, dp, _, _, rfl, ep, TP.cl, TP.nN, plF_n r, _, _, rfl, rfl, _, rfl, ?_⟩
        have lk : r.1.toNat < F.length := by omega
        obtain ⟨q, eq, dq, rq⟩ := rds.at_ lk
        have e1 : r.1 = ((r.1.toNat : Nat) : Int) := by omega
        by_cases h2 : 0 ≤ r.2.1
        · rw [decide_eq_true h2]
          have z := G.rd lk
          refine iteT ⟨_, rfl, a, CT, dx, _, _, rfl, ea, TT.cl, TT.nR, teF_r n t d, _, rfl, p, CP, dp, _, _, rfl, ep, TP.cl, TP.nR, plF_r r, t, _, _, _, rfl, rfl, et, at_of e1 eq, q, CR, dq, _, _, rfl, rq, TR.cl, TR.nL, rdF_l _, _, rfl, p, CP, dp, _, _, rfl, ep, TP.cl, TP.nP, plF_p r, _, _, rfl, rfl, .inl ⟨by omega, by omega⟩, _, _, rfl, rfl, _, rfl, ?_⟩
          by_cases h3 : r.2.1 ≤ (rd F r.1.toNat).2.2 * r.2.2
          · rw [decide_eq_true h3]
            exact iteF (k3 ⟨⟨h0, h1⟩, h2, h3⟩)
          · rw [decide_eq_false h3]
            exact iteT ⟨_, rfl, p, CP, dp, _, _, rfl, ep, TP.cl, TP.nR, plF_r r, len1, fun b hb => er1 hb (k2 ⟨h0, h1⟩ fun z => h3 z.2)⟩
        · rw [decide_eq_false h2]
          refine iteF ⟨_, rfl, ?_⟩
          exact iteT ⟨_, rfl, p, CP, dp, _, _, rfl, ep, TP.cl, TP.nR, plF_r r, len1, fun b hb => er1 hb (k2 ⟨h0, h1⟩ fun z => h2 z.1)⟩
      · rw [decide_eq_false h1]
        exact iteT ⟨_, rfl, p, CP, dp, _, _, rfl, ep, TP.cl, TP.nR, plF_r r, len1, fun b hb => er1 hb (k1 fun z => h1 z.2)⟩
    · rw [decide_eq_false h0]
      refine iteF ⟨_, rfl, ?_⟩
      exact iteT ⟨_, rfl, p, CP, dp, _, _, rfl, ep, TP.cl, TP.nR, plF_r r, len1, fun b hb => er1 hb (k1 fun z => h0 z.1)⟩
end
end OT
set_option Elab.async false
set_option linter.all false
set_option maxRecDepth 100000
set_option maxHeartbeats 4000000
namespace OT
open PySem L2 OTR
/-- a drawn tree, with its roads' facts -/
structure TrAt (H : Hp) (p q : Addr) (n : Int) (F : List Fact) : Prop where
  t : H p = some (.tup [.int n, .ref q])
  f : FactsAt H q F
theorem FactsAt.same {H H' : Hp} {q : Addr} {F : List Fact} (h : FactsAt H q F) (s : Same H H') : FactsAt H' q F := let ⟨ts, a, b⟩ := h; ⟨ts, s _ _ a, tups_same b s⟩
theorem TrAt.same {H H' : Hp} {p q : Addr} {n : Int} {F : List Fact} (h : TrAt H p q n F) (s : Same H H') : TrAt H' p q n F := ⟨s _ _ h.t, h.f.same s⟩
theorem TrAt.but {H H' : Hp} {a p q : Addr} {n : Int} {F : List Fact} (h : TrAt H p q n F) (s : Src H a) (b : But a H H') : TrAt H' p q n F := by
  obtain ⟨hp, ts, hq, hts⟩ := h
  obtain ⟨x, y, z, _, hs⟩ := id s
  refine ⟨b _ _ hp (ne_of hp hs fun e => nomatch e), ts, b _ _ hq (ne_of hq hs fun e => ?_), tups_but hts s b⟩
  have e1 := HO.lst.inj e
  cases ts with
  | nil => exact nomatch e1
  | cons t r =>
    rw [List.map_cons] at e1
    exact nomatch (List.cons.inj e1).1
def spMade (K : PySem.W.Frag) (CT CR : Addr) : Sp := fun vs H Q _ => ∃ (p q : Addr) (n : Int) (F : List Fact), vs = [.ref p] ∧ TrAt H p q n F ∧ due n F = none ∧ F.length ≤ 23 ∧ ∀ x ps H', Same H H' → TreeAt K CT CR H' x n ps F → Q (.ref x) H'
end OT
set_option Elab.async false
set_option linter.all false
set_option maxRecDepth 100000
set_option maxHeartbeats 4000000
namespace OT
open PySem L2 OTR
def spLaw (K : PySem.W.Frag) : Sp := fun vs H Q _ => ∃ (a : Addr) (ns : List Int), vs = [.ref a] ∧ SqL K H a (ns.map V.int) ∧ ns.length ≤ 63 ∧ ∀ H', Q (.bl true) H'
/-- a list is written: what else stands -/
theorem TrAt.put {H : Hp} {D p q : Addr} {n : Int} {F : List Fact} {xs ys : List V} (h : TrAt H p q n F) (hD : H D = some (.lst xs)) (nq : q ≠ D) : TrAt (upd H D (.lst ys)) p q n F := by
  obtain ⟨hp, ts, hq, hts⟩ := h
  exact ⟨by rw [upd_ne (ne_of hp hD (fun z => nomatch z))]; exact hp, ts, by rw [upd_ne nq]; exact hq, tups_put hts hD⟩
theorem TreeAt.but {K : PySem.W.Frag} {CT CR : Addr} {H H' : Hp} {s p : Addr} {n : Int} {ps : List Addr} {F : List Fact} (h : TreeAt K CT CR H p n ps F) (src : Src H s) (b : But s H H') : TreeAt K CT CR H' p n ps F := h.kp (.src src b)
end OT
set_option Elab.async false
set_option linter.all false
set_option maxRecDepth 100000
set_option maxHeartbeats 4000000
set_option Elab.async false
set_option linter.all false
set_option maxRecDepth 100000
set_option maxHeartbeats 4000000
namespace OT
open PySem L2 OTR
theorem paired_app {α β : Type} {R : α → β → Prop} {a a' : List α} {b b' : List β} (h : Paired R a b) (k : Paired R a' b') : Paired R (a ++ a') (b ++ b') := by
  induction h with
  | nil => exact k
  | cons x _ ih => exact .cons x ih
end OT
set_option linter.all false
namespace OT
def OnT (F : List Fact) (S : Int) (u : Nd) : Prop := ∃ k i, On F S k i ∧ u = node F S k i
theorem Adj.on {F : List Fact} {S : Int} {u v : Nd} (h : Adj F S u v) : OnT F S u ∧ OnT F S v := by
  obtain ⟨k, i, a, b, c, d⟩ := h
  have h1 : OnT F S (node F S k i) := ⟨k, i, ⟨a, b, by omega⟩, rfl⟩
  have h2 : OnT F S (node F S k (i + 1)) := ⟨k, i + 1, ⟨a, by omega, c⟩, rfl⟩
  rcases d with ⟨rfl, rfl⟩ | ⟨rfl, rfl⟩
  · exact ⟨h1, h2⟩
  · exact ⟨h2, h1⟩
/-- where one is t parts on the way -/
noncomputable def pth (F : List Fact) (S : Int) (g : Nat) (p : Int) (k : Nat) (i t : Int) : Nd := node F S (posL (legsP F S g p k i) t).1 (posL (legsP F S g p k i) t).2
section
variable {n : Int} {F : List Fact} {S : Int} {g : Nat} {p : Int} (T : TreeM n F) (hS : 1 ≤ S) (hg : On F S g p)
include T hS hg
theorem hN_nn {u : Nd} (h : OnT F S u) : 0 ≤ hN F S g p u := by
  obtain ⟨k, i, o, rfl⟩ := h
  rw [hN_node T hS hg o]
  exact total_nn _
theorem pth_ok {k : Nat} {i t : Int} (h : On F S k i) (t0 : 0 ≤ t) (t1 : t ≤ hP F S g p k i) : OnT F S (pth F S g p k i t) ∧ hN F S g p (pth F S g p k i t) = hP F S g p k i - t ∧ (t + 1 ≤ hP F S g p k i → Adj F S (pth F S g p k i t) (pth F S g p k i (t + 1))) := by
  obtain ⟨a, b, c⟩ := (legsP_ok T hS hg h).1 t t0 t1
  refine ⟨⟨_, _, a, rfl⟩, ?_, c⟩
  unfold pth
  rw [hN_node T hS hg a, b]
  rfl
theorem pth_0 {k : Nat} {i : Int} (h : On F S k i) : pth F S g p k i 0 = node F S k i := (legsP_ok T hS hg h).2
theorem low_ex {u : Nd} (h : OnT F S u) (z : hN F S g p u ≠ 0) : ∃ v, Adj F S u v ∧ hN F S g p v + 1 = hN F S g p u := by
  obtain ⟨k, i, o, rfl⟩ := h
  have h0 := hN_nn T hS hg ⟨k, i, o, rfl⟩
  have e := hN_node T hS hg o
  rw [e] at z h0 ⊢
  obtain ⟨_, _, c⟩ := pth_ok T hS hg o (t := 0) (Int.le_refl _) h0
  obtain ⟨_, d, _⟩ := pth_ok T hS hg o (t := 1) (by decide) (by omega)
  have a := c (by omega)
  rw [pth_0 T hS hg o] at a
  exact ⟨_, a, by rw [show (0 : Int) + 1 = 1 from rfl, d]; omega⟩
theorem zero_aim {u : Nd} (h : OnT F S u) (z : hN F S g p u = 0) : u = node F S g p := by
  obtain ⟨k, i, o, rfl⟩ := h
  rw [hN_node T hS hg o] at z
  exact hP_zero T hS hg o z
theorem reach {Fd : Nd → Prop} (aim : Fd (node F S g p)) (cl : ∀ u v, Fd u → Adj F S u v → Fd v) : ∀ (m : Nat) (u : Nd), OnT F S u → (hN F S g p u).toNat = m → Fd u := by
  intro m
  induction m with
  | zero =>
    intro u o e
    have := hN_nn T hS hg o
    rw [zero_aim T hS hg o (by omega)]
    exact aim
  | succ m ih =>
    intro u o e
    obtain ⟨v, a, b⟩ := low_ex T hS hg o (by omega)
    exact cl v u (ih v a.on.2 (by omega)) a.symm
end
noncomputable def nodesL (F : List Fact) (S : Int) : List Nd := (List.range F.length).flatMap fun k => (List.range ((sz F S k).toNat + 1)).map fun i : Nat => node F S k (i : Int)
theorem mem_nodes {F : List Fact} {S : Int} {u : Nd} (h : OnT F S u) : u ∈ nodesL F S := by
  obtain ⟨k, i, ⟨a, b, c⟩, rfl⟩ := h
  refine List.mem_flatMap.mpr ⟨k, List.mem_range.mpr a, List.mem_map.mpr ⟨i.toNat, List.mem_range.mpr (by omega), ?_⟩⟩
  rw [Int.toNat_of_nonneg b]
theorem nodup_len {α : Type} [DecidableEq α] : ∀ {l m : List α}, l.Nodup → (∀ x ∈ l, x ∈ m) → l.length ≤ m.length
  | [], _, _, _ => Nat.zero_le _
  | x :: l, m, nd, h => by
    have nd2 := List.nodup_cons.mp nd
    have hx := h x List.mem_cons_self
    have ih := nodup_len (m := m.erase x) nd2.2 fun y hy => by
      have ne : y ≠ x := fun z => nd2.1 (z ▸ hy)
      exact (List.mem_erase_of_ne ne).mpr (h y (List.mem_cons_of_mem _ hy))
    rw [List.length_erase_of_mem hx] at ih
    have := List.length_pos_of_mem hx
    rw [List.length_cons]
    omega
end OT
set_option Elab.async false
set_option linter.all false
set_option maxRecDepth 100000
set_option maxHeartbeats 4000000
namespace OTR
open PySem PySem.Spec PyProof.Rows L2
/-- a key: an int, or a tuple of ints and texts -/
abbrev MKy := Int ⊕ List Key
section
variable {P : Program} {w : World}
def mHash (P : Program) (w : World) : MKy → Int
  | .inl i => (mixKind P w).hash (.inl i)
  | .inr ks => (tupleKind (mixKind P w)).hash ks
variable {A : Around} {E : Value → Shared → Prop} {s : Shared}
/-- an entry of the dict: its key's hash, its key, its value -/
def EntR (P : Program) (w : World) (x : MKy × V × V) (e : DictEntry) : Prop := e.hash = mHash P w x.1 ∧ RelV x.2.1 e.key ∧ RelV x.2.2 e.val
/-- what stands at d: a dict with these entries -/
def DictM (P : Program) (w : World) (d : Addr) (ent : List (MKy × V × V)) (h : Heap) : Prop := ∃ o es ep, h.get? d = some o ∧ o.ExactDict ∧ o.data = .dict es ep ∧ Paired (EntR P w) ent es.toList
def KeyM (H : Hp) : MKy → V → Prop
  | .inl i, y => y = .int i
  | .inr ks, y => ∃ b, y = .ref b ∧ H b = some (.tup (ks.map kV))
/-- a dict whose keys are ints and tuples of ints and texts -/
def MixAt (P : Program) (w : World) (H : Hp) (d : Addr) (kvs : List (MKy × V)) : Prop := ∃ ent : List (MKy × V × V), H d = some (.ext (DictM P w d ent)) ∧ (d == sysModules) = false ∧ ent.length ≤ sizeLine ∧ ent.map (fun x => (x.1, x.2.2)) = kvs ∧
  (∀ x ∈ ent, KeyM H x.1 x.2.1) ∧ (ent.map (·.1)).Nodup
theorem KeyM.keep {H H' : Hp} {k : MKy} {y : V} (x : KeyM H k y) (t : ∀ b xs, H b = some (.tup xs) → H' b = some (.tup xs)) : KeyM H' k y := by
  cases k with
  | inl i => exact x
  | inr ks =>
    obtain ⟨b, e, h⟩ := x
    exact ⟨b, e, t b _ h⟩
theorem MixAt.keep {H H' : Hp} {d : Addr} {kvs : List (MKy × V)} (x : MixAt P w H d kvs) (hd : ∀ o, H d = some o → H' d = some o) (t : ∀ b xs, H b = some (.tup xs) → H' b = some (.tup xs)) : MixAt P w H' d kvs :=
  let ⟨ent, e, a, b, c, f, g⟩ := x
  ⟨ent, hd _ e, a, b, c, fun y hy => (f y hy).keep t, g⟩
end
end OTR
set_option Elab.async false
set_option linter.all false
set_option maxRecDepth 100000
set_option maxHeartbeats 4000000
namespace OTR
open PySem PySem.Spec PyProof.Rows L2
section
variable {X : Cx} {pins : List (Addr × Obj)} {σ : L2.St} {H : Hp} {s : Shared} {a : Addr} {y v : V} {u r : Value} {A : Around} {E : Value → Shared → Prop} {k : MKy} {kvs : List (MKy × V)}
theorem upd_keep {H : Hp} {a : Addr} {φ : Heap → Prop} {ob : HO} (e : H a = some (.ext φ)) : ∀ b xs, H b = some (.tup xs) → upd H a ob b = some (.tup xs) := fun b xs h => by
  rw [upd_ne (ne_of h e fun z => nomatch z)]
  exact h
end
end OTR
set_option Elab.async false
set_option linter.all false
set_option maxRecDepth 100000
set_option maxHeartbeats 4000000
namespace OTR
open PySem PySem.Spec PyProof.Rows L2
end OTR
set_option Elab.async false
set_option linter.all false
set_option maxRecDepth 100000
set_option maxHeartbeats 4000000
namespace OT
open PySem L2 OTR
/-- the key of a node -/
def nk : Nd → MKy
  | .cr c => .inl c
  | .mid k i => .inr [.inl (k : Int), .inl i]
end OT
set_option Elab.async false
set_option linter.all false
set_option maxRecDepth 100000
set_option maxHeartbeats 4000000
namespace OT
open PySem L2 OTR
theorem inV_int {b : Int} {fl : List Int} : inV (.int b) (fl.map V.int) = decide (b ∈ fl) := by
  unfold inV
  induction fl with
  | nil => rfl
  | cons a l ih =>
    rw [List.map_cons, List.any_cons, ih]
    show ((a == b) || decide (b ∈ l)) = decide (b ∈ a :: l)
    by_cases e : a = b
    · subst e
      simp
    · have e1 : (a == b) = false := by simpa using e
      have e2 : ¬ b = a := fun z => e z.symm
      rw [e1]
      simp [e2]
theorem flat_ints (fl : List Int) : (fl.map V.int).all flatV = true := by
  rw [List.all_eq_true]
  intro x hx
  obtain ⟨i, _, rfl⟩ := List.mem_map.mp hx
  rfl
theorem low_one (a b : Int) : low (a, b, 1) = (a, b, 1) := by
  have g : gcdI b 1 = 1 := by
    unfold gcdI
    rw [show (1 : Int).natAbs = 1 from rfl, Nat.gcd_one_right]
    rfl
  show (a, b / gcdI b 1, 1 / gcdI b 1) = _
  rw [g, Int.ediv_one]
  rfl
theorem lg60 {b : Int} (h1 : 1 ≤ b) (h2 : b < 2 ^ 60) : b.natAbs.log2 < 9000 := by
  rw [Nat.log2_lt (by omega)]
  have h3 : b.natAbs < 2 ^ 60 := by omega
  have h5 : (2 : Nat) ^ 60 ≤ 2 ^ 9000 := Nat.pow_le_pow_right (by decide) (by decide)
  omega
/-- the road with this number ends at the crossing -/
def atEnd (F : List Fact) (c : Int) (x : Int) : Bool := decide ((rd F x.toNat).1 = c ∨ (rd F x.toNat).2.1 = c)
def spKey (K : PySem.W.Frag) (CT CR CP CNR COR : Addr) : Sp := fun vs H Q E => ∃ (a p : Addr) (n : Int) (ps : List Addr) (F : List Fact) (r : Fact), vs = [.ref a, .ref p] ∧ TreeAt K CT CR H a n ps F ∧ PlaceAt CP H p r ∧ TreeG n F ∧ PlSm r ∧ low r = r ∧
  (¬ (0 ≤ r.1 ∧ r.1 < (F.length : Int)) → Raised CNR [("road", .int r.1)] H E) ∧ ((0 ≤ r.1 ∧ r.1 < (F.length : Int)) → ¬ (0 ≤ r.2.1 ∧ r.2.1 ≤ (rd F r.1.toNat).2.2 * r.2.2) → Raised COR [("road", .int r.1)] H E) ∧
  (PlOn F r → ∀ p' H', Same H H' → PlaceAt CP H' p' (keyF F r.2.2 (node F r.2.2 r.1.toNat r.2.1)) → Q (.ref p') H')
section
variable {P : Program} {w : World} {K : PySem.W.Frag} {mg : Str → Option Value} {base : Heap}
abbrev nCor : List Str := ["tree", "crossing", "number", "at", "road"]
theorem scCor : FnScope nCor ["tree", "crossing"] (defScope sCorner) := ⟨rfl, rfl, rfl, by decide +kernel, rfl, by decide +kernel, by decide +kernel⟩
theorem ok_corner {f CT CR CP CN CB fN fE fP : Addr} {fd fdN fdE fdP : FuncData} (F : Fun K "corner" "corner" sCorner f fd) (TT : TeT K mg CT) (TR : RdT K mg CR) (TP : PlT K mg CP) (TN : ErT K mg "NoCrossing" CN fN)
    (FN : FnOk P w K mg base CX0 1 fN fdN ["self", "crossing"] (spEr1 CN "crossing")) (bN : Binds K fdN ["self", "crossing"] [])
    (FE : FnOk P w K mg base CX0 1 fE fdE ["road", "crossing"] (spEndAt CR)) (bE : Binds K fdE ["road", "crossing"] []) (mE : mg "end_at" = some (.ref fE)) (kE : PySem.W.keepIn K (.ref fE) = true)
    (MP : Mk K CP fP) (FP : FnOk P w K mg base (L2.CX P w) 3 fP fdP ["self", "road", "number", "parts"] (spPlaceI CP CB)) (bP : Binds K fdP ["self", "road", "number", "parts"] [])
    (hMin : mg "min" = none) (hEn : mg "enumerate" = none) : FnOk P w K mg base (L2.CX P w) 5 f fd ["tree", "crossing"] (spCorner K CT CR CP CN) := by
  refine F.okX scCor (fun vs H Q E h => ?_) (fun cdv A outer s H vs Q E hr h => ?_)
  · obtain ⟨a, n, ps, F, c, rfl, _⟩ := h
    rfl
  · obtain ⟨a, n, ps, F, c, rfl, TA, G, k1, k2⟩ := h
    have hr1 : Room 1 _ := hr.mono (by decide)
    have hr2 : Room 2 _ := hr.mono (by decide)
    refine ⟨_, pss_cons (ps_if (pt_not (pt_chain op_le op_lt pe_int (pv 1) (pe_fld (pv 0) rfl)))
          (pss_one (ps_raise rfl (takes_of rfl rfl rfl rfl) (pmk_oex TN.ox TN.iC TN.tI FN hr2 bN .nil pass0 (by rfl) TN.gC (pa_cons (pv 1) pa_nil)))) pss_nil)
      (pss_cons (ps_set (i := 2) scCor.nd rfl (Or.inl rfl) (pe_callB (cr_min rfl) (by rfl) hMin (by decide +kernel) (pa_cons
          (pe_lc (own := [("at", 3), ("road", 4)]) (g := gTup K 2 (gCons (gName 3) (gCons (gName 4) gNil))) (tt := tTest (tOp (rIn K false) (tVar 1) (tTup (tCons (tFld K (tVar 4) "a") (tCons (tFld K (tVar 4) "b") tNil))))) rfl scCor.nd (pi_enumT (by rfl) hEn (pa_cons (pe_fld (pv 0) rfl) pa_nil))
            (blkOk_by (own := [("at", 3), ("road", 4)]) (N := nCor) (sc := defScope sCorner) (by decide +kernel))
            (fun _ _ _ _ _ => pg_tup rfl (pgs_cons (pg_name (i := 3) scCor.nd rfl (Or.inl rfl)) (pgs_cons (pg_name (i := 4) scCor.nd rfl (Or.inl rfl)) pgs_nil)))
            (fun _ _ _ _ _ => pts_one (pt_cmpR op_in_seq (pv 1) (pe_tup (pa_cons (pe_fld (pv 4) rfl) (pa_cons (pe_fld (pv 4) rfl) pa_nil))) (by rfl))) (fun _ _ _ _ _ => pv 3)) pa_nil)))
      (pss_one (ps_ret (pe_make MP FP hr (by rfl) TP.mgC bP .nil passF (pa_cons (pv 2) (pa_cons (pe_call FE hr1 rfl mE kE bE .nil pass0 (pa_cons (pe_ix ix_tup (pe_fld (pv 0) rfl) (pv 2) (fun _ _ => rfl)) (pa_cons (pv 1) pa_nil))) (pa_cons pe_int pa_nil))))))), ?_⟩
    obtain ⟨dx, t, d, kvs, ea, et, rds, _⟩ := TA
    have pl : (ps.map V.ref).length = F.length := by rw [List.length_map]; exact rds.len
    have l23 : F.length ≤ 23 := by have := G.len; have := G.n24; omega
    have ifin : In n c → _ := k2
    refine ⟨_, rfl, _, _, rfl, rfl, _, rfl, ?_⟩
    by_cases h0 : 0 ≤ c
    · rw [decide_eq_true h0]
      refine iteT ⟨_, rfl, a, CT, dx, _, _, rfl, ea, TT.cl, TT.nC, teF_c n t d, _, _, rfl, rfl, _, rfl, ?_⟩
      by_cases h1 : c < n
      · rw [decide_eq_true h1]
        refine iteF ?_
        have ic : In n c := ⟨h0, h1⟩
        obtain ⟨f1, f2, f3⟩ := fstR_spec G.m ic G.n2
        -- number = min([at ..])
        refine ⟨_, rfl, a, CT, dx, _, _, rfl, ea, TT.cl, TT.nR, teF_r n t d, t, _, rfl, et, fun D hD => lc_it (walk_enumT (K := K) (a := t) (xs := ps.map V.ref)) (fun i Hc => ∃ l : List Int, Hc D = some (.lst (l.map V.int)) ∧ Same H Hc ∧ Kept l i (atEnd F c))
          ⟨[], upd_same, Same.new hD, Kept.zero⟩ (fun i Hc _ ⟨_, _, sc, _⟩ => sqT_same et sc) ?_ ?_⟩
        · rintro i v Hc H' hi ⟨l, hl, sc, kp⟩ ⟨T, x1, y1, rfl, hT, rfl, hx1, hy1⟩
          cases hx1
          rw [pl] at hi
          obtain ⟨q, hq, rfl⟩ := map_get (show (ps.map V.ref)[i]? = some y1 from hy1)
          obtain ⟨r, hr', hrd⟩ := rds.get hq
          have s1 : Same H (upd Hc T (.tup [.int (i : Nat), .ref q])) := sc.trans (Same.new hT)
          obtain ⟨dq, eq⟩ := hrd.same s1
          have nD : D ≠ T := ne_of_none hl hT
          refine ⟨T, _, rfl, SqT.of upd_same, rfl, _, _, rfl, _, _, rfl, rfl, rfl, ?_⟩
          refine ⟨_, rfl, _, rfl, q, CR, dq, _, _, rfl, eq, TR.cl, TR.nA, rdF_a r, _, rfl, q, CR, dq, _, _, rfl, eq, TR.cl, TR.nB, rdF_b r, (by show 2 ≤ sizeLine; decide), fun t2 h2 => ⟨t2, _, rfl, .inr (SqT.of upd_same), rfl, rfl, _, rfl, ?_⟩⟩
          have s2 := s1.trans (Same.new (o := .tup [.int r.1, .int r.2.1]) h2)
          have n2 : D ≠ t2 := ne_of_none (by rw [upd_ne nD]; exact hl) h2
          have eb : inV (.int c) [.int r.1, .int r.2.1] = atEnd F c (i : Int) := by
            rw [show ([V.int r.1, V.int r.2.1] : List V) = [r.1, r.2.1].map V.int from rfl, inV_int]
            unfold atEnd
            rw [Int.toNat_natCast, rd_of hr']
            rw [decide_eq_decide]
            simp only [List.mem_cons, List.not_mem_nil, or_false]
            exact ⟨fun z => z.elim (fun z => .inl z.symm) fun z => .inr z.symm, fun z => z.elim (fun z => .inl z.symm) fun z => .inr z.symm⟩
          show if inV (.int c) [.int r.1, .int r.2.1] = true then _ else _
          rw [eb]
          cases e : atEnd F c (i : Int) with
          | true =>
            refine iteT ⟨_, rfl, l.map V.int, by rw [upd_ne n2, upd_ne nD]; exact hl, small1000 (by rw [List.length_map]; have := kp.2; omega), l ++ [(i : Int)], by rw [List.map_append]; exact upd_same, fun b o z => ?_, kp.yes e⟩
            rw [upd_ne (ne_of_none z hD)]
            exact s2 b o z
          | false => exact iteF ⟨l, by rw [upd_ne n2, upd_ne nD]; exact hl, s2, kp.no e⟩
        · rintro H4 ⟨l, hl, s4, kp⟩
          rw [pl] at kp
          have inl : ((fstR F c : Nat) : Int) ∈ l := (kp.1 _).mpr ⟨⟨by omega, by omega⟩, by unfold atEnd; rw [Int.toNat_natCast]; exact decide_eq_true f2⟩
          refine ⟨D, l, rfl, SqL.of hl, List.length_pos_of_mem inl, fun m hm hle => ?_⟩
          have em : m = ((fstR F c : Nat) : Int) := by
            obtain ⟨⟨m0, m1⟩, m2⟩ := (kp.1 m).mp hm
            have m3 := hle _ inl
            have m4 : ¬ m.toNat < fstR F c := fun z => f3 _ z (of_decide_eq_true m2)
            omega
          subst em
          obtain ⟨q, eq, rq⟩ := rds.at_ f1
          have rq4 := rq.same s4
          -- return Place(number, end_at(tree.roads[number], crossing), 1)
          refine ⟨_, rfl, _, rfl, a, CT, dx, _, _, rfl, s4 _ _ ea, TT.cl, TT.nR, teF_r n t d, _, rfl, t, _, _, _, rfl, rfl, sqT_same et s4, atI_nat eq, _, rfl, q, rd F (fstR F c), c, rfl, rq4, fun x dx' nx ndx nex => ⟨x, dx', (((fstR F c : Nat) : Int), _, 1), rfl, upd_same, fun z => absurd z (by show ¬ (1 : Int) < 1; decide), fun _ => ⟨(by show (1 : Int).natAbs.log2 < 9000; decide), fun H5 px keep => ⟨rfl, ?_⟩⟩⟩⟩
          have s5 := made_same nx ndx keep
          refine k2 ic x H5 (s4.trans s5) (s4.free nx) ?_
          rw [low_one] at px
          have ek : keyF F 1 (.cr c) = (((fstR F c : Nat) : Int), (if (rd F (fstR F c)).1 = c then 0 else (rd F (fstR F c)).2.2), 1) := by
            show (((fstR F c : Nat) : Int), eAt F 1 (fstR F c) c, (1 : Int)) = _
            unfold eAt sz
            rw [Int.mul_one]
          rw [ek]
          exact px
      · rw [decide_eq_false h1]
        exact iteT ⟨_, rfl, len1, fun b hb => er1 hb (k1 fun z => h1 z.2)⟩
    · rw [decide_eq_false h0]
      exact iteF ⟨_, rfl, iteT ⟨_, rfl, len1, fun b hb => er1 hb (k1 fun z => h0 z.1)⟩⟩
end
end OT
set_option Elab.async false
set_option linter.all false
set_option maxRecDepth 100000
set_option maxHeartbeats 4000000
namespace OT
open PySem L2 OTR
theorem keyF_cr (F : List Fact) (S : Int) (c : Int) : keyF F S (.cr c) = keyF F 1 (.cr c) := rfl
section
variable {P : Program} {w : World} {K : PySem.W.Frag} {mg : Str → Option Value} {base : Heap}
theorem scKey : FnScope ["tree", "place", "road"] ["tree", "place"] (defScope sKey) := ⟨rfl, rfl, rfl, by decide +kernel, rfl, by decide +kernel, by decide +kernel⟩
theorem ok_key {f CT CR CP CN CNR COR fC fK : Addr} {fd fdC fdK : FuncData} (F : Fun K "key" "key" sKey f fd) (TT : TeT K mg CT) (TR : RdT K mg CR) (TP : PlT K mg CP)
    (FC : FnOk P w K mg base (L2.CX P w) 3 fC fdC ["tree", "place"] (spCheckPl K CT CR CP CNR COR)) (bC : Binds K fdC ["tree", "place"] []) (mC : mg "check_place" = some (.ref fC)) (kC : PySem.W.keepIn K (.ref fC) = true)
    (FK : FnOk P w K mg base (L2.CX P w) 5 fK fdK ["tree", "crossing"] (spCorner K CT CR CP CN)) (bK : Binds K fdK ["tree", "crossing"] []) (mK : mg "corner" = some (.ref fK)) (kK : PySem.W.keepIn K (.ref fK) = true) :
    FnOk P w K mg base (L2.CX P w) 6 f fd ["tree", "place"] (spKey K CT CR CP CNR COR) := by
  refine F.okX scKey (fun vs H Q E h => ?_) (fun cdv A outer s H vs Q E hr h => ?_)
  · obtain ⟨a, p, n, ps, F, r, rfl, _⟩ := h
    rfl
  · obtain ⟨a, p, n, ps, F, r, rfl, TA, PA', G, sm, lo, k1, k2, k3⟩ := h
    have hr3 : Room 3 _ := hr.mono (by decide)
    refine ⟨_, pss_cons (ps_expr (pe_call FC hr3 rfl mC kC bC .nil (passes_call (takes_of rfl rfl rfl rfl) fun _ _ _ _ h => h) (pa_cons (pv 0) (pa_cons (pv 1) pa_nil))))
      (pss_cons (ps_set (i := 2) scKey.nd rfl (Or.inl rfl) (pe_ix ix_tup (pe_fld (pv 0) rfl) (pe_fld (pv 1) rfl) (fun _ _ => rfl)))
      (pss_cons (ps_if (pt_cmpR op_eq (pe_fld (pv 1) rfl) pe_int (nomark _)) (pss_one (ps_ret (pe_call FK hr rfl mK kK bK .nil passF (pa_cons (pv 0) (pa_cons (pe_fld (pv 2) rfl) pa_nil))))) pss_nil)
      (pss_cons (ps_if (pt_cmpR op_eq (pe_fld (pv 1) rfl) (pe_op op_mul (pe_fld (pv 2) rfl) (pe_fld (pv 1) rfl)) (nomark _)) (pss_one (ps_ret (pe_call FK hr rfl mK kK bK .nil passF (pa_cons (pv 0) (pa_cons (pe_fld (pv 2) rfl) pa_nil))))) pss_nil)
      (pss_one (ps_ret (pv 1)))))), ?_⟩
    refine ⟨_, rfl, _, rfl, a, p, n, ps, F, r, rfl, TA, PA', G, sm, k1, k2, fun on => ?_⟩
    have k3' := k3 on
    obtain ⟨⟨o1, o2⟩, o3, o4⟩ := on
    have TA' := TA
    obtain ⟨dx, t, d, kvs, ea, et, rds, _⟩ := TA
    obtain ⟨dp, ep⟩ := id PA'
    have lk : r.1.toNat < F.length := by omega
    have e1 : r.1 = ((r.1.toNat : Nat) : Int) := by omega
    obtain ⟨q, eq, dq, rq⟩ := rds.at_ lk
    obtain ⟨ok1, ok2, ok3, ok4⟩ := rd_ok G.m lk
    have z := G.rd lk
    refine ⟨_, rfl, a, CT, dx, _, _, rfl, ea, TT.cl, TT.nR, teF_r n t d, _, rfl, p, CP, dp, _, _, rfl, ep, TP.cl, TP.nR, plF_r r, t, _, _, _, rfl, rfl, et, at_of e1 eq, ?_⟩
    refine ⟨_, rfl, p, CP, dp, _, _, rfl, ep, TP.cl, TP.nN, plF_n r, rfl, _, rfl, ?_⟩
    by_cases h0 : r.2.1 = 0
    · refine iteV h0 ⟨_, rfl, _, rfl, q, CR, dq, _, _, rfl, rq, TR.cl, TR.nA, rdF_a _, a, n, ps, F, _, rfl, TA', G, fun z => absurd ok1 z, fun _ p' H' s' hp' px => ?_⟩
      refine k3' p' H' s' ?_
      unfold node
      rw [if_pos h0, keyF_cr]
      exact px
    · refine iteN h0 ⟨_, rfl, p, CP, dp, _, _, rfl, ep, TP.cl, TP.nN, plF_n r, _, rfl, q, CR, dq, _, _, rfl, rq, TR.cl, TR.nL, rdF_l _, _, rfl, p, CP, dp, _, _, rfl, ep, TP.cl, TP.nP, plF_p r, _, _, rfl, rfl, .inl ⟨by omega, by omega⟩, rfl, _, rfl, ?_⟩
      by_cases h1 : r.2.1 = (rd F r.1.toNat).2.2 * r.2.2
      · refine iteV h1 ⟨_, rfl, _, rfl, q, CR, dq, _, _, rfl, rq, TR.cl, TR.nB, rdF_b _, a, n, ps, F, _, rfl, TA', G, fun z => absurd ok2 z, fun _ p' H' s' hp' px => ?_⟩
        refine k3' p' H' s' ?_
        unfold node
        rw [if_neg h0, if_pos (show r.2.1 = sz F r.2.2 r.1.toNat from h1), keyF_cr]
        exact px
      · refine iteN h1 ⟨_, rfl, k3' p H (Same.refl H) ?_⟩
        unfold node
        rw [if_neg h0, if_neg (show ¬ r.2.1 = sz F r.2.2 r.1.toNat from h1)]
        show PlaceAt CP H p (low (((r.1.toNat : Nat) : Int), r.2.1, r.2.2))
        rw [← e1]
        show PlaceAt CP H p (low r)
        rw [lo]
        exact PA'
end
end OT
set_option Elab.async false
set_option linter.all false
set_option maxRecDepth 100000
set_option maxHeartbeats 4000000
namespace OT
open PySem L2 OTR
abbrev sEndBeyond : Stmt := top 21
def spEndBy (CR : Addr) : Sp := fun vs H Q _ => ∃ (p : Addr) (r : Fact) (c : Int), vs = [.ref p, .int c] ∧ RoadAt CR H p r ∧ Q (.int (if r.1 = c then r.2.1 else r.1)) H
section
variable {P : Program} {w : World} {K : PySem.W.Frag} {mg : Str → Option Value} {base : Heap}
theorem scEndBy : FnScope ["road", "crossing"] ["road", "crossing"] (defScope sEndBeyond) := ⟨rfl, rfl, rfl, by decide +kernel, rfl, by decide +kernel, by decide +kernel⟩
theorem ok_endBy {f CR : Addr} {fd : FuncData} (F : Fun K "end_beyond" "end_beyond" sEndBeyond f fd) (TR : RdT K mg CR) : FnOk P w K mg base CX0 1 f fd ["road", "crossing"] (spEndBy CR) := by
  refine F.ok scEndBy (fun vs H Q E h => ?_) (fun cdv A outer s H vs Q E hr h => ?_)
  · obtain ⟨p, r, c, rfl, _⟩ := h
    rfl
  · obtain ⟨p, r, c, rfl, ⟨dx, e⟩, k⟩ := h
    refine ⟨_, pss_one (ps_ret (pe_ifExp (pt_cmpR op_eq (pe_fld (pv 0) rfl) (pv 1) (nomark _)) (pe_fld (pv 0) rfl) (pe_fld (pv 0) rfl))), ?_⟩
    refine ⟨_, rfl, p, CR, dx, _, _, rfl, e, TR.cl, TR.nA, rdF_a r, _, rfl, rfl, _, rfl, ?_⟩
    by_cases h : r.1 = c
    · rw [if_pos h] at k
      exact iteV h ⟨_, rfl, p, CR, dx, _, _, rfl, e, TR.cl, TR.nB, rdF_b r, k⟩
    · rw [if_neg h] at k
      exact iteN h ⟨_, rfl, p, CR, dx, _, _, rfl, e, TR.cl, TR.nA, rdF_a r, k⟩
end
end OT
set_option Elab.async false
set_option linter.all false
set_option maxRecDepth 100000
set_option maxHeartbeats 4000000
namespace OT
open PySem L2 OTR
abbrev sLegs : Stmt := top 30
def legF (l : Leg) : Fact := ((l.1 : Int), l.2.1, l.2.2)
/-- the legs from a crossing, the roads k0 and g left out -/
def legsK (F : List Fact) (S : Int) (g : Nat) (p : Int) (k0 : Nat) : Int → List Nat → List Leg
  | c, [] => [(g, eAt F S g c, p)]
  | c, k :: l => if k = k0 ∨ k = g then legsK F S g p k0 c l else (k, eAt F S k c, eAt F S k (eBy F k c)) :: legsK F S g p k0 (eBy F k c) l
theorem legsK_eq {F : List Fact} {S : Int} {g : Nat} {p : Int} {k0 : Nat} : ∀ {l : List Nat} {c : Int}, k0 ∉ l → legsK F S g p k0 c l = legsC F S g p c l
  | [], c, _ => rfl
  | k :: l, c, h => by
    have h1 : ¬ k = k0 := fun z => h (z ▸ List.mem_cons_self ..)
    have h2 : k0 ∉ l := fun z => h (List.mem_cons_of_mem _ z)
    by_cases e : k = g
    · show (if k = k0 ∨ k = g then _ else _) = _
      rw [if_pos (.inr e), legsK_eq h2, e, legsC_g]
    · show (if k = k0 ∨ k = g then _ else _) = _
      rw [if_neg (fun z => z.elim h1 e), legsK_eq h2, legsC_k e]
theorem legsK_skip {F : List Fact} {S : Int} {g : Nat} {p : Int} {k0 k : Nat} {c : Int} {l : List Nat} (h : k = k0 ∨ k = g) : legsK F S g p k0 c (k :: l) = legsK F S g p k0 c l := by
  show (if k = k0 ∨ k = g then _ else _) = _
  rw [if_pos h]
theorem legsK_go {F : List Fact} {S : Int} {g : Nat} {p : Int} {k0 k : Nat} {c : Int} {l : List Nat} (h : ¬ (k = k0 ∨ k = g)) : legsK F S g p k0 c (k :: l) = (k, eAt F S k c, eAt F S k (eBy F k c)) :: legsK F S g p k0 (eBy F k c) l := by
  show (if k = k0 ∨ k = g then _ else _) = _
  rw [if_neg h]
theorem legsP_K {n : Int} {F : List Fact} {S : Int} {g : Nat} {p : Int} (T : TreeM n F) (hg : g < F.length) {k0 : Nat} (hk : k0 < F.length) (ne : k0 ≠ g) (i : Int) :
    legsP F S g p k0 i = (k0, i, eAt F S k0 (up F g k0)) :: legsK F S g p k0 (up F g k0) (tr F (rd F k0).1 (rd F g).1) := by
  have hr := (rd_ok T hg).1
  have o := rd_ok T hk
  unfold legsP
  rw [if_neg ne]
  congr 1
  by_cases m : k0 ∈ tr F (rd F k0).1 (rd F g).1
  · have e : up F g k0 = (rd F k0).2.1 := by unfold up; rw [if_pos m]
    have z := tr_head T hk hr (.inl ⟨rfl, rfl⟩) m
    have nd := (tr_of T o.1 hr).2
    rw [z] at nd
    rw [e, z, legsK_skip (.inl rfl), legsK_eq (List.nodup_cons.mp nd).1]
  · have e : up F g k0 = (rd F k0).1 := by unfold up; rw [if_neg m]
    rw [e, legsK_eq m]
/-- either way gives v -/
theorem ite_val {b : Bool} {σ : L2.St} {H : Hp} {ta tb : TE} {Q : VK} (v : V) (h1 : b = true → ∀ Q : VK, Q v H → ta σ H Q) (h2 : b = false → ∀ Q : VK, Q v H → tb σ H Q) (q : Q v H) : if b = true then ta σ H Q else tb σ H Q := by
  cases b with
  | true => exact iteT (h1 rfl Q q)
  | false => exact iteF (h2 rfl Q q)
theorem eAt_prog (F : List Fact) (S : Int) (k : Nat) (c : Int) : (if (rd F k).1 = c then 0 else (rd F k).2.2) * S = eAt F S k c := by
  unfold eAt
  split
  · rw [Int.zero_mul]
  · rfl
theorem eBy_prog (F : List Fact) (k : Nat) (c : Int) : (if (rd F k).1 = c then (rd F k).2.1 else (rd F k).1) = eBy F k c := rfl
theorem Kp.but {H H' : Hp} {d : Addr} {xs : List V} (e : H d = some (.lst xs)) (b : But d H H') : Kp H H' := fun c o h n => b c o h (fun z => by
  rw [z, e] at h
  exact n xs (Option.some.inj h).symm)
theorem nats_ints (l : List Nat) : (l.map fun k => V.int (k : Nat)) = (l.map fun k => ((k : Nat) : Int)).map V.int := by rw [List.map_map]; rfl
theorem mem_nats {l : List Nat} {k : Nat} : ((k : Nat) : Int) ∈ (l.map fun k => ((k : Nat) : Int)) ↔ k ∈ l := by
  rw [List.mem_map]
  exact ⟨fun ⟨j, h, e⟩ => by have : j = k := by omega
                             exact this ▸ h, fun h => ⟨k, h, rfl⟩⟩
def spLegs (K : PySem.W.Frag) (CT CR CP : Addr) : Sp := fun vs H Q _ => ∃ (a p1 p2 : Addr) (n : Int) (ps : List Addr) (F : List Fact) (r1 r2 : Fact) (S c1 c2 : Int), vs = [.ref a, .ref p1, .ref p2, .int S] ∧ TreeAt K CT CR H a n ps F ∧ PlaceAt CP H p1 r1 ∧ PlaceAt CP H p2 r2 ∧ TreeG n F ∧
  PlSm r1 ∧ PlSm r2 ∧ PlOn F r1 ∧ PlOn F r2 ∧ S = r1.2.2 * c1 ∧ S = r2.2.2 * c2 ∧ 0 < c1 ∧ 0 < c2 ∧ S < 2 ^ 60 ∧
  ∀ L H', Same H H' → H L = none → FactsAt H' L ((legsP F S r2.1.toNat (r2.2.1 * c2) r1.1.toNat (r1.2.1 * c1)).map legF) → (legsP F S r2.1.toNat (r2.2.1 * c2) r1.1.toNat (r1.2.1 * c1)).length ≤ 100 → Q (.ref L) H'
section
variable {P : Program} {w : World} {K : PySem.W.Frag} {mg : Str → Option Value} {base : Heap}
abbrev nLegs : List Str := ["tree", "one", "other", "parts", "start", "end", "first", "last", "trail", "here", "found", "number", "road", "there"]
theorem scLegs : FnScope nLegs ["tree", "one", "other", "parts"] (defScope sLegs) := ⟨rfl, rfl, rfl, by decide +kernel, rfl, by decide +kernel, by decide +kernel⟩
theorem ok_legs {f CT CR CP fE fB : Addr} {fd fdE fdB : FuncData} (F : Fun K "legs" "legs" sLegs f fd) (TT : TeT K mg CT) (TR : RdT K mg CR) (TP : PlT K mg CP)
    (FE : FnOk P w K mg base CX0 1 fE fdE ["road", "crossing"] (spEndAt CR)) (bE : Binds K fdE ["road", "crossing"] []) (mE : mg "end_at" = some (.ref fE)) (kE : PySem.W.keepIn K (.ref fE) = true)
    (FB : FnOk P w K mg base CX0 1 fB fdB ["road", "crossing"] (spEndBy CR)) (bB : Binds K fdB ["road", "crossing"] []) (mB : mg "end_beyond" = some (.ref fB)) (kB : PySem.W.keepIn K (.ref fB) = true) :
    FnOk P w K mg base CX0 2 f fd ["tree", "one", "other", "parts"] (spLegs K CT CR CP) := by
  refine F.ok scLegs (fun vs H Q E h => ?_) (fun cdv A outer s H vs Q E hr h => ?_)
  · obtain ⟨a, p1, p2, n, ps, F, r1, r2, S, c1, c2, rfl, _⟩ := h
    rfl
  · obtain ⟨a, p1, p2, n, ps, F, r1, r2, S, c1, c2, rfl, TA, PA1, PA2, G, sm1, sm2, on1, on2, eS1, eS2, c10, c20, S60, k⟩ := h
    have hu := hu_of hr
    refine ⟨_, pss_cons (ps_set (i := 4) scLegs.nd rfl (Or.inl rfl) (pe_op op_mul (pe_fld (pv 1) rfl) (pe_op op_fdivW (pv 3) (pe_fld (pv 1) rfl))))
      (pss_cons (ps_set (i := 5) scLegs.nd rfl (Or.inl rfl) (pe_op op_mul (pe_fld (pv 2) rfl) (pe_op op_fdivW (pv 3) (pe_fld (pv 2) rfl))))
      (pss_cons (ps_if (pt_cmpR op_eq (pe_fld (pv 1) rfl) (pe_fld (pv 2) rfl) (nomark _)) (pss_one (ps_ret (pe_lst (pa_cons (pe_tup (pa_cons (pe_fld (pv 1) rfl) (pa_cons (pv 4) (pa_cons (pv 5) pa_nil)))) pa_nil)))) pss_nil)
      (pss_cons (ps_set (i := 6) scLegs.nd rfl (Or.inl rfl) (pe_ix ix_tup (pe_fld (pv 0) rfl) (pe_fld (pv 1) rfl) (fun _ _ => rfl)))
      (pss_cons (ps_set (i := 7) scLegs.nd rfl (Or.inl rfl) (pe_ix ix_tup (pe_fld (pv 0) rfl) (pe_fld (pv 2) rfl) (fun _ _ => rfl)))
      (pss_cons (ps_set (i := 8) scLegs.nd rfl (Or.inl rfl) (pe_dget hu (pe_fld (pv 0) rfl) (pe_tup (pa_cons (pe_fld (pv 6) rfl) (pa_cons (pe_fld (pv 7) rfl) pa_nil))) (fun _ _ => rfl)))
      (pss_cons (ps_set (i := 9) scLegs.nd rfl (Or.inl rfl) (pe_ifExp (pt_cmpR op_in_seq (pe_fld (pv 1) rfl) (pv 8) (by rfl)) (pe_fld (pv 6) rfl) (pe_fld (pv 6) rfl)))
      (pss_cons (ps_set (i := 10) scLegs.nd rfl (Or.inl rfl) (pe_lst (pa_cons (pe_tup (pa_cons (pe_fld (pv 1) rfl) (pa_cons (pv 4) (pa_cons (pe_op op_mul (pe_call FE hr rfl mE kE bE .nil pass0 (pa_cons (pv 6) (pa_cons (pv 9) pa_nil))) (pv 3)) pa_nil)))) pa_nil)))
      (pss_cons (ps_for PassesOwn.never rfl (pi_tup (pv 8)) (pg_name (i := 11) scLegs.nd rfl (Or.inl rfl))
        (pss_one (ps_if (pt_cmpR op_notIn_seq (pv 11) (pe_tup (pa_cons (pe_fld (pv 1) rfl) (pa_cons (pe_fld (pv 2) rfl) pa_nil))) (by rfl))
          (pss_cons (ps_set (i := 12) scLegs.nd rfl (Or.inl rfl) (pe_ix ix_tup (pe_fld (pv 0) rfl) (pv 11) (fun _ _ => rfl)))
          (pss_cons (ps_set (i := 13) scLegs.nd rfl (Or.inl rfl) (pe_call FB hr rfl mB kB bB .nil pass0 (pa_cons (pv 12) (pa_cons (pv 9) pa_nil))))
          (pss_cons (ps_expr (pe_bm PySem.F.plainAttrs_list PySem.F.slot_list_append PySem.F.type_list_append mt_append (pv 10) (pa_cons (pe_tup (pa_cons (pv 11) (pa_cons (pe_op op_mul (pe_call FE hr rfl mE kE bE .nil pass0 (pa_cons (pv 12) (pa_cons (pv 9) pa_nil))) (pv 3))
              (pa_cons (pe_op op_mul (pe_call FE hr rfl mE kE bE .nil pass0 (pa_cons (pv 12) (pa_cons (pv 13) pa_nil))) (pv 3)) pa_nil)))) pa_nil)))
          (pss_one (ps_set (i := 9) scLegs.nd rfl (Or.inl rfl) (pv 13)))))) pss_nil)))
      (pss_cons (ps_expr (pe_bm PySem.F.plainAttrs_list PySem.F.slot_list_append PySem.F.type_list_append mt_append (pv 10) (pa_cons (pe_tup (pa_cons (pe_fld (pv 2) rfl) (pa_cons (pe_op op_mul (pe_call FE hr rfl mE kE bE .nil pass0 (pa_cons (pv 7) (pa_cons (pv 9) pa_nil))) (pv 3)) (pa_cons (pv 5) pa_nil)))) pa_nil)))
      (pss_one (ps_ret (pv 10)))))))))))), ?_⟩
    have TA' := TA
    obtain ⟨dx, t, d, kvs, ea, et, rds, trs⟩ := TA
    obtain ⟨dp1, ep1⟩ := id PA1
    obtain ⟨dp2, ep2⟩ := id PA2
    obtain ⟨⟨a0, a1⟩, a2, a3⟩ := on1
    obtain ⟨⟨b0, b1⟩, b2, b3⟩ := on2
    have lk : r1.1.toNat < F.length := by omega
    have lg : r2.1.toNat < F.length := by omega
    have e1 : r1.1 = ((r1.1.toNat : Nat) : Int) := by omega
    have e2 : r2.1 = ((r2.1.toNat : Nat) : Int) := by omega
    have s1 : S / r1.2.2 = c1 := by rw [eS1]; exact Int.mul_ediv_cancel_left _ (by have := sm1.1; omega)
    have s2 : S / r2.2.2 = c2 := by rw [eS2]; exact Int.mul_ediv_cancel_left _ (by have := sm2.1; omega)
    have lg9 : ∀ {x : Int}, 1 ≤ x → x < 2 ^ 60 → x.natAbs.log2 < 9000 := fun {x} h1 h2 => lg60 h1 h2
    have S1 : 1 ≤ S := by
      rw [eS1]
      have := Int.mul_le_mul sm1.1 (show 1 ≤ c1 by omega) (by omega) (by have := sm1.1; omega)
      omega
    have cS : ∀ {r c : Int}, 1 ≤ r → 0 < c → S = r * c → c < 2 ^ 64 := fun {r c} h1 h2 h3 => by
      have := Int.mul_le_mul h1 (Int.le_refl c) (by omega) (by omega)
      omega
    have cc1 := cS sm1.1 c10 eS1
    have cc2 := cS sm2.1 c20 eS2
    have three : ∀ {u v x : V}, [u, v, x].length ≤ sizeLine := fun {u v x} => (by show 3 ≤ sizeLine; decide)
    -- start, end
    refine ⟨_, rfl, p1, CP, dp1, _, _, rfl, ep1, TP.cl, TP.nN, plF_n r1, _, rfl, _, rfl, p1, CP, dp1, _, _, rfl, ep1, TP.cl, TP.nP, plF_p r1, _, _, rfl, rfl, ⟨by have := sm1.1; omega, lg9 sm1.1 sm1.2⟩, _, _, rfl, rfl, .inr (by rw [s1]; exact ⟨by omega, by omega⟩), ?_⟩
    refine ⟨_, rfl, p2, CP, dp2, _, _, rfl, ep2, TP.cl, TP.nN, plF_n r2, _, rfl, _, rfl, p2, CP, dp2, _, _, rfl, ep2, TP.cl, TP.nP, plF_p r2, _, _, rfl, rfl, ⟨by have := sm2.1; omega, lg9 sm2.1 sm2.2⟩, _, _, rfl, rfl, .inr (by rw [s2]; exact ⟨by omega, by omega⟩), ?_⟩
    rw [s1, s2]
    -- if one.road == other.road
    refine ⟨_, rfl, p1, CP, dp1, _, _, rfl, ep1, TP.cl, TP.nR, plF_r r1, _, rfl, p2, CP, dp2, _, _, rfl, ep2, TP.cl, TP.nR, plF_r r2, rfl, _, rfl, ?_⟩
    by_cases same : r1.1 = r2.1
    · refine iteV same ⟨_, rfl, p1, CP, dp1, _, _, rfl, ep1, TP.cl, TP.nR, plF_r r1, _, rfl, _, rfl, three, fun tt htt => ⟨(by show 1 ≤ sizeLine; decide), fun L hL => ?_⟩⟩
      have s3 : Same H (upd (upd H tt (.tup [.int r1.1, .int (r1.2.1 * c1), .int (r2.2.1 * c2)])) L (.lst [.ref tt])) := Same.trans (Same.new htt) (Same.new hL)
      have el : legsP F S r2.1.toNat (r2.2.1 * c2) r1.1.toNat (r1.2.1 * c1) = [(r2.1.toNat, r1.2.1 * c1, r2.2.1 * c2)] := by
        unfold legsP
        rw [if_pos (by rw [same])]
      refine k L _ s3 ((Same.new htt).free hL) ?_ (by rw [el]; show 1 ≤ 100; decide)
      rw [el]
      refine ⟨[tt], upd_same, .cons ?_ .nil⟩
      show _ = some (HO.tup [.int ((r2.1.toNat : Nat) : Int), .int (r1.2.1 * c1), .int (r2.2.1 * c2)])
      rw [← e2, ← same]
      exact Same.new hL _ _ upd_same
    · refine iteN same ?_
      obtain ⟨q1, eq1, dq1, rq1⟩ := rds.at_ lk
      obtain ⟨q2, eq2, dq2, rq2⟩ := rds.at_ lg
      obtain ⟨o1, o2, _, _⟩ := rd_ok G.m lk
      obtain ⟨o3, o4, _, _⟩ := rd_ok G.m lg
      have l23 : F.length ≤ 23 := by have := G.len; have := G.n24; omega
      have kne : r1.1.toNat ≠ r2.1.toNat := fun z => same (by omega)
      refine ⟨_, rfl, a, CT, dx, _, _, rfl, ea, TT.cl, TT.nR, teF_r n t d, _, rfl, p1, CP, dp1, _, _, rfl, ep1, TP.cl, TP.nR, plF_r r1, t, _, _, _, rfl, rfl, et, at_of e1 eq1, ?_⟩
      refine ⟨_, rfl, a, CT, dx, _, _, rfl, ea, TT.cl, TT.nR, teF_r n t d, _, rfl, p2, CP, dp2, _, _, rfl, ep2, TP.cl, TP.nR, plF_r r2, t, _, _, _, rfl, rfl, et, at_of e2 eq2, ?_⟩
      -- trail = tree.trails[first.a, last.a]
      obtain ⟨v, hv⟩ := hasK_some ((trs.has (rd F r1.1.toNat).1 (rd F r2.1.toNat).1).mpr ⟨o1, o3, G.m.con _ _ o1 o3⟩)
      obtain ⟨pt, l, rfl, hpt, wl, nl⟩ := trs.val _ _ _ hv
      have el := tr_eq G.m wl nl
      refine ⟨_, rfl, a, CT, dx, _, _, rfl, ea, TT.cl, TT.nT, teF_t n t d, _, rfl, q1, CR, dq1, _, _, rfl, rq1, TR.cl, TR.nA, rdF_a _, _, rfl, q2, CR, dq2, _, _, rfl, rq2, TR.cl, TR.nA, rdF_a _, (by show 2 ≤ sizeLine; decide), fun tk htk => ?_⟩
      have s3 : Same H (upd H tk (.tup [.int (rd F r1.1.toNat).1, .int (rd F r2.1.toNat).1])) := Same.new htk
      refine ⟨d, _, rfl, by rw [← hv]; exact DGet.t (k := key2 _ _) (s3 _ _ trs.dc) upd_same, ?_⟩
      -- here = first.b if one.road in trail else first.a
      have hpt3 := sqT_same hpt s3
      have up1 : ∀ R : Prop, (∀ b : Bool, (b = true ↔ r1.1.toNat ∈ l) → R) → R := fun R z => z (decide (r1.1.toNat ∈ l)) decide_eq_true_iff
      have inb : inV (.int r1.1) (l.map fun k => V.int (k : Nat)) = decide (r1.1.toNat ∈ l) := by
        rw [nats_ints, inV_int, decide_eq_decide, e1, Int.toNat_natCast]
        exact mem_nats
      refine ⟨_, rfl, p1, CP, dp1, _, _, rfl, s3 _ _ ep1, TP.cl, TP.nR, plF_r r1, _, rfl, pt, _, rfl, .inr hpt3, rfl, by rw [nats_ints]; exact flat_ints _, _, rfl, ?_⟩
      show if inV (.int r1.1) (l.map fun k => V.int (k : Nat)) = true then _ else _
      rw [inb]
      have S64 : -(2 ^ 64 : Int) < S ∧ S < 2 ^ 64 := ⟨by omega, by omega⟩
      refine ite_val (.int (up F r2.1.toNat r1.1.toNat)) (fun hb Q q => ⟨_, rfl, q1, CR, dq1, _, _, rfl, s3 _ _ rq1, TR.cl, TR.nB, rdF_b _, ?_⟩) (fun hb Q q => ⟨_, rfl, q1, CR, dq1, _, _, rfl, s3 _ _ rq1, TR.cl, TR.nA, rdF_a _, ?_⟩) ?_
      · have e : up F r2.1.toNat r1.1.toNat = (rd F r1.1.toNat).2.1 := by
          unfold up
          rw [el, if_pos (of_decide_eq_true hb)]
        rw [e] at q
        exact q
      · have e : up F r2.1.toNat r1.1.toNat = (rd F r1.1.toNat).1 := by
          unfold up
          rw [el, if_neg (of_decide_eq_false hb)]
        rw [e] at q
        exact q
      -- found = [(one.road, start, end_at(first, here) * parts)]
      refine ⟨_, rfl, p1, CP, dp1, _, _, rfl, s3 _ _ ep1, TP.cl, TP.nR, plF_r r1, _, rfl, _, rfl, _, rfl, q1, rd F r1.1.toNat, up F r2.1.toNat r1.1.toNat, rfl, ⟨dq1, s3 _ _ rq1⟩, _, rfl, _, _, rfl, rfl, .inr S64, three, fun t0 ht0 => ⟨(by show 1 ≤ sizeLine; decide), fun L hL => ?_⟩⟩
      have e0 : ∀ x : Int, ([V.int r1.1, V.int (r1.2.1 * c1), V.int ((if (rd F r1.1.toNat).1 = x then 0 else (rd F r1.1.toNat).2.2) * S)] : List V) = [V.int (legF (r1.1.toNat, r1.2.1 * c1, eAt F S r1.1.toNat x)).1, V.int (legF (r1.1.toNat, r1.2.1 * c1, eAt F S r1.1.toNat x)).2.1, V.int (legF (r1.1.toNat, r1.2.1 * c1, eAt F S r1.1.toNat x)).2.2] := fun x => by
        rw [eAt_prog, e1]
        rfl
      have s4 : Same H (upd (upd (upd H tk (.tup [.int (rd F r1.1.toNat).1, .int (rd F r2.1.toNat).1])) t0 (.tup [V.int r1.1, V.int (r1.2.1 * c1), V.int ((if (rd F r1.1.toNat).1 = up F r2.1.toNat r1.1.toNat then 0 else (rd F r1.1.toNat).2.2) * S)])) L (.lst [.ref t0])) := s3.trans (Same.trans (Same.new ht0) (Same.new hL))
      have eL : upd (upd (upd H tk (.tup [.int (rd F r1.1.toNat).1, .int (rd F r2.1.toNat).1])) t0 (.tup [V.int r1.1, V.int (r1.2.1 * c1), V.int ((if (rd F r1.1.toNat).1 = up F r2.1.toNat r1.1.toNat then 0 else (rd F r1.1.toNat).2.2) * S)])) L (.lst [.ref t0]) L = some (.lst [.ref t0]) := upd_same
      have et0 : TupAt (upd (upd (upd H tk (.tup [.int (rd F r1.1.toNat).1, .int (rd F r2.1.toNat).1])) t0 (.tup [V.int r1.1, V.int (r1.2.1 * c1), V.int ((if (rd F r1.1.toNat).1 = up F r2.1.toNat r1.1.toNat then 0 else (rd F r1.1.toNat).2.2) * S)])) L (.lst [.ref t0])) t0 (legF (r1.1.toNat, r1.2.1 * c1, eAt F S r1.1.toNat (up F r2.1.toNat r1.1.toNat))) := by
        have z := Same.new (o := .lst [.ref t0]) hL t0 _ upd_same
        rw [e0] at z
        rw [e0]
        exact z
      have hLH : H L = none := (s3.trans (Same.new (o := .tup [V.int r1.1, V.int (r1.2.1 * c1), V.int ((if (rd F r1.1.toNat).1 = up F r2.1.toNat r1.1.toNat then 0 else (rd F r1.1.toNat).2.2) * S)]) ht0)).free hL
      generalize upd (upd (upd H tk (.tup [.int (rd F r1.1.toNat).1, .int (rd F r2.1.toNat).1])) t0 (.tup [V.int r1.1, V.int (r1.2.1 * c1), V.int ((if (rd F r1.1.toNat).1 = up F r2.1.toNat r1.1.toNat then 0 else (rd F r1.1.toNat).2.2) * S)])) L (.lst [.ref t0]) = G4 at s4 eL et0 ⊢
      have hpt4 := sqT_same hpt s4
      have ll : l.length ≤ 23 := Nat.le_trans (wl.short nl) l23
      have lP := legsP_K (S := S) (p := r2.2.1 * c2) G.m lg lk kne (r1.2.1 * c1)
      rw [el] at lP
      generalize hfin : legsP F S r2.1.toNat (r2.2.1 * c2) r1.1.toNat (r1.2.1 * c1) = fin at lP k
      -- for number in trail
      refine ⟨_, rfl, pt, rfl, ⟨_, hpt4⟩, for_tup (K := K) (a := pt) (xs := l.map fun k => V.int (k : Nat)) (fun j σ G' => ∃ (c : Int) (v11 v12 v13 : Option V) (ts : List Addr) (fs : List Leg), σ = [some (.ref a), some (.ref p1), some (.ref p2), some (.int S), some (.int (r1.2.1 * c1)), some (.int (r2.2.1 * c2)), some (.ref q1), some (.ref q2), some (.ref pt), some (.int c), some (.ref L), v11, v12, v13] ∧
          But L G4 G' ∧ G' L = some (.lst (ts.map V.ref)) ∧ Paired (TupAt G') ts (fs.map legF) ∧ fin = fs ++ legsK F S r2.1.toNat (r2.2.1 * c2) r1.1.toNat c (l.drop j) ∧ fs.length ≤ j + 1)
        ⟨up F r2.1.toNat r1.1.toNat, none, none, none, [t0], [(r1.1.toNat, r1.2.1 * c1, eAt F S r1.1.toNat (up F r2.1.toNat r1.1.toNat))], rfl, But.refl, eL, .cons et0 .nil, lP, Nat.le_refl _⟩ (fun j σ G' _ ⟨_, _, _, _, _, _, _, b', _⟩ => sqT_kp hpt4 (Kp.but eL b')) ?_ ?_⟩
      · rintro j y σ G' hj ⟨c, v11, v12, v13, ts, fs, rfl, b', gL, gts, ef, fl⟩
        obtain ⟨kj, hkj, rfl⟩ := map_get hj
        have kp' := Kp.but eL b'
        have lkj : kj < F.length := wl.lt (List.mem_of_getElem? hkj)
        have ea' := kp' _ _ (s4 _ _ ea) (fun _ z => nomatch z)
        have ep1' := kp' _ _ (s4 _ _ ep1) (fun _ z => nomatch z)
        have ep2' := kp' _ _ (s4 _ _ ep2) (fun _ z => nomatch z)
        have tl : ts.length ≤ 100 := by
          have := Paired.length gts
          rw [List.length_map] at this
          have := (List.getElem?_eq_some_iff.mp hkj).1
          omega
        rw [drop_get hkj] at ef
        refine ⟨_, rfl, _, rfl, p1, CP, dp1, _, _, rfl, ep1', TP.cl, TP.nR, plF_r r1, _, rfl, p2, CP, dp2, _, _, rfl, ep2', TP.cl, TP.nR, plF_r r2, (by show 2 ≤ sizeLine; decide), fun t3 ht3 => ⟨t3, _, rfl, .inr (SqT.of upd_same), rfl, rfl, ?_⟩⟩
        have s5 : Same G' (upd G' t3 (.tup [.int r1.1, .int r2.1])) := Same.new ht3
        have eb : (if true = true then !inV (V.int (kj : Nat)) [V.int r1.1, V.int r2.1] else inV (V.int (kj : Nat)) [V.int r1.1, V.int r2.1]) = !decide (kj = r1.1.toNat ∨ kj = r2.1.toNat) := by
          rw [if_pos rfl, show ([V.int r1.1, V.int r2.1] : List V) = [r1.1, r2.1].map V.int from rfl, inV_int]
          congr 1
          rw [decide_eq_decide]
          simp only [List.mem_cons, List.not_mem_nil, or_false]
          omega
        refine ⟨_, rfl, ?_⟩
        show if (if true = true then !inV (V.int (kj : Nat)) [V.int r1.1, V.int r2.1] else inV (V.int (kj : Nat)) [V.int r1.1, V.int r2.1]) = true then _ else _
        rw [eb]
        have b5 : But L G4 (upd G' t3 (.tup [.int r1.1, .int r2.1])) := fun b o e n => s5 b o (b' b o e n)
        by_cases sk : kj = r1.1.toNat ∨ kj = r2.1.toNat
        · rw [decide_eq_true sk]
          rw [legsK_skip sk] at ef
          exact iteF ⟨c, _, _, _, ts, fs, rfl, b5, s5 _ _ gL, tups_same gts s5, ef, by omega⟩
        · rw [decide_eq_false sk]
          rw [legsK_go sk] at ef
          obtain ⟨qj, eqj, rqj⟩ := rds.at_ lkj
          have rq5 := ((rqj.same s4).kp kp').same s5
          have ea5 := s5 _ _ ea'
          have gL5 := s5 _ _ gL
          refine iteT ⟨_, rfl, a, CT, dx, _, _, rfl, ea5, TT.cl, TT.nR, teF_r n t d, _, rfl, t, _, _, _, rfl, rfl, sqT_same (sqT_kp (sqT_same et s4) kp') s5, atI_nat eqj, ?_⟩
          refine ⟨_, rfl, _, rfl, qj, rd F kj, c, rfl, rq5, ?_⟩
          rw [eBy_prog]
          refine ⟨_, rfl, .inl ⟨rfl, _, SqL.of gL5⟩, _, rfl, _, rfl, _, rfl, qj, rd F kj, c, rfl, rq5, _, rfl, _, _, rfl, rfl, .inr S64, _, rfl, _, rfl, qj, rd F kj, eBy F kj c, rfl, rq5, _, rfl, _, _, rfl, rfl, .inr S64, three, fun t4 ht4 => ?_⟩
          have s6 := Same.new (o := .tup [V.int ((kj : Nat) : Int), V.int ((if (rd F kj).1 = c then 0 else (rd F kj).2.2) * S), V.int ((if (rd F kj).1 = eBy F kj c then 0 else (rd F kj).2.2) * S)]) ht4
          refine ⟨L, _, _, rfl, rfl, s6 _ _ gL5, small1000 (by rw [List.length_map]; omega), ?_⟩
          have n4 : t4 ≠ L := (ne_of_none gL5 ht4).symm
          refine ⟨_, rfl, eBy F kj c, _, _, _, ts ++ [t4], fs ++ [(kj, eAt F S kj c, eAt F S kj (eBy F kj c))], rfl, fun b o e n => ?_, by rw [List.map_append]; exact upd_same, ?_, by rw [ef, List.append_assoc]; rfl, by rw [List.length_append]; show _ + 1 ≤ _; omega⟩
          · rw [upd_ne n]
            exact s6 b o (b5 b o e n)
          · rw [List.map_append]
            refine paired_snoc (tups_put (tups_same (tups_same gts s5) s6) (s6 _ _ gL5)) ?_
            show upd _ L _ t4 = some (HO.tup [V.int ((kj : Nat) : Int), V.int (eAt F S kj c), V.int (eAt F S kj (eBy F kj c))])
            rw [upd_ne n4, ← eAt_prog F S kj c, ← eAt_prog F S kj (eBy F kj c)]
            exact upd_same
      · rintro σ G' ⟨c, v11, v12, v13, ts, fs, rfl, b', gL, gts, ef, fl⟩
        have elen : (l.map fun k => V.int (k : Nat)).length = l.length := List.length_map ..
        rw [elen] at ef fl
        rw [List.drop_length] at ef
        have kp' := Kp.but eL b'
        have ep2' := kp' _ _ (s4 _ _ ep2) (fun _ z => nomatch z)
        have rq2' : RoadAt CR G' q2 (rd F r2.1.toNat) := (RoadAt.same ⟨dq2, rq2⟩ s4).kp kp'
        have tl : ts.length ≤ 100 := by
          have := Paired.length gts
          rw [List.length_map] at this
          omega
        -- found.append((other.road, end_at(last, here) * parts, end))
        refine ⟨_, rfl, .inl ⟨rfl, _, SqL.of gL⟩, _, rfl, p2, CP, dp2, _, _, rfl, ep2', TP.cl, TP.nR, plF_r r2, _, rfl, _, rfl, q2, rd F r2.1.toNat, c, rfl, rq2', _, rfl, _, _, rfl, rfl, .inr S64, _, rfl, three, fun t4 ht4 => ?_⟩
        have s6 := Same.new (o := .tup [V.int r2.1, V.int ((if (rd F r2.1.toNat).1 = c then 0 else (rd F r2.1.toNat).2.2) * S), V.int (r2.2.1 * c2)]) ht4
        refine ⟨L, _, _, rfl, rfl, s6 _ _ gL, small1000 (by rw [List.length_map]; omega), ?_⟩
        have n4 : t4 ≠ L := (ne_of_none gL ht4).symm
        refine ⟨_, rfl, k L _ (fun b o e => ?_) hLH ⟨ts ++ [t4], by rw [List.map_append]; exact upd_same, ?_⟩ (by rw [ef, List.length_append]; show _ + 1 ≤ _; omega)⟩
        · have nb : b ≠ L := ne_of_none e hLH
          rw [upd_ne nb]
          exact s6 b o (b' b o (s4 b o e) nb)
        · rw [ef, List.map_append]
          refine paired_snoc (tups_put (tups_same gts s6) (s6 _ _ gL)) ?_
          show upd _ L _ t4 = some (HO.tup [V.int ((r2.1.toNat : Nat) : Int), V.int (eAt F S r2.1.toNat c), V.int (r2.2.1 * c2)])
          rw [upd_ne n4, ← eAt_prog F S r2.1.toNat c, ← e2]
          exact upd_same
end
end OT
set_option Elab.async false
set_option linter.all false
set_option maxRecDepth 100000
set_option maxHeartbeats 4000000
namespace OT
open PySem L2 OTR
abbrev sStep : Stmt := top 29
/-- what is raised for a place that the tree does not have -/
def PlErr (CNR COR : Addr) (F : List Fact) (r : Fact) (H : Hp) (E : XK) : Prop := (¬ (0 ≤ r.1 ∧ r.1 < (F.length : Int)) → Raised CNR [("road", .int r.1)] H E) ∧ ((0 ≤ r.1 ∧ r.1 < (F.length : Int)) → ¬ (0 ≤ r.2.1 ∧ r.2.1 ≤ (rd F r.1.toNat).2.2 * r.2.2) → Raised COR [("road", .int r.1)] H E)
theorem PlErr.none {CNR COR : Addr} {F : List Fact} {r : Fact} {H : Hp} {E : XK} (h : PlOn F r) : PlErr CNR COR F r H E := ⟨fun z => absurd h.1 z, fun _ z => absurd h.2 z⟩
def lcmI (a b : Int) : Int := ((Nat.lcm a.natAbs b.natAbs : Nat) : Int)
theorem lcm_of {a b : Int} (ha : 1 ≤ a) (hb : 1 ≤ b) : ∃ c1 c2, lcmI a b = a * c1 ∧ lcmI a b = b * c2 ∧ 0 < c1 ∧ 0 < c2 ∧ lcmI a b ≤ a * b ∧ lcmI a b / a = c1 ∧ lcmI a b / b = c2 := by
  obtain ⟨m, rfl⟩ := Int.eq_ofNat_of_zero_le (show 0 ≤ a by omega)
  obtain ⟨k, rfl⟩ := Int.eq_ofNat_of_zero_le (show 0 ≤ b by omega)
  obtain ⟨c1, e1⟩ := Nat.dvd_lcm_left m k
  obtain ⟨c2, e2⟩ := Nat.dvd_lcm_right m k
  have pos := Nat.lcm_pos (show 0 < m by omega) (show 0 < k by omega)
  have p1 : 0 < c1 := Nat.pos_of_ne_zero fun z => by rw [z, Nat.mul_zero] at e1; omega
  have p2 : 0 < c2 := Nat.pos_of_ne_zero fun z => by rw [z, Nat.mul_zero] at e2; omega
  have le := Nat.le_of_dvd (Nat.mul_pos (show 0 < m by omega) (show 0 < k by omega)) (Nat.lcm_dvd (Nat.dvd_mul_right m k) (Nat.dvd_mul_left k m))
  have q1 : lcmI (m : Int) (k : Int) = (m : Int) * (c1 : Int) := by
    unfold lcmI
    show ((Nat.lcm m k : Nat) : Int) = _
    rw [e1, Int.natCast_mul]
  have q2 : lcmI (m : Int) (k : Int) = (k : Int) * (c2 : Int) := by
    unfold lcmI
    show ((Nat.lcm m k : Nat) : Int) = _
    rw [e2, Int.natCast_mul]
  refine ⟨c1, c2, q1, q2, by omega, by omega, ?_, ?_, ?_⟩
  · unfold lcmI
    show ((Nat.lcm m k : Nat) : Int) ≤ _
    rw [← Int.natCast_mul]
    omega
  · rw [q1]
    exact Int.mul_ediv_cancel_left _ (by omega)
  · rw [q2]
    exact Int.mul_ediv_cancel_left _ (by omega)
theorem total_sum : ∀ L : List Leg, total L = (L.map fun l => dst l.2.1 l.2.2).sum
  | [] => rfl
  | (k, s, e) :: L => by
    rw [List.map_cons, List.sum_cons, ← total_sum L]
    rfl
/-- from one place to another: the parts to the step, how far, which way -/
noncomputable def hRR (F : List Fact) (S : Int) (r1 r2 : Fact) : Int := hP F S r2.1.toNat (r2.2.1 * (S / r2.2.2)) r1.1.toNat (r1.2.1 * (S / r1.2.2))
noncomputable def legsRR (F : List Fact) (S : Int) (r1 r2 : Fact) : List Leg := legsP F S r2.1.toNat (r2.2.1 * (S / r2.2.2)) r1.1.toNat (r1.2.1 * (S / r1.2.2))
def spDist (K : PySem.W.Frag) (CT CR CP CNR COR : Addr) : Sp := fun vs H Q E => ∃ (a p1 p2 : Addr) (n : Int) (ps : List Addr) (F : List Fact) (r1 r2 : Fact), vs = [.ref a, .ref p1, .ref p2] ∧ TreeAt K CT CR H a n ps F ∧ PlaceAt CP H p1 r1 ∧ PlaceAt CP H p2 r2 ∧ TreeG n F ∧
  PlSm r1 ∧ PlSm r2 ∧ r1.2.2 * r2.2.2 < 2 ^ 60 ∧ PlErr CNR COR F r1 H E ∧ (PlOn F r1 → PlErr CNR COR F r2 H E) ∧
  (PlOn F r1 → PlOn F r2 → ∀ t H', Same H H' → H' t = some (.tup [.int (low (0, hRR F (lcmI r1.2.2 r2.2.2) r1 r2, lcmI r1.2.2 r2.2.2)).2.1, .int (low (0, hRR F (lcmI r1.2.2 r2.2.2) r1 r2, lcmI r1.2.2 r2.2.2)).2.2]) → Q (.ref t) H')
end OT
set_option Elab.async false
set_option linter.all false
set_option maxRecDepth 100000
set_option maxHeartbeats 4000000
namespace OT
open PySem L2 OTR
/-- where one is after t parts of a step, or at the goal -/
noncomputable def walkN (F : List Fact) (S : Int) (r1 r2 : Fact) (t : Int) : Nd :=
  if t ≤ hRR F S r1 r2 then node F S (posL (legsRR F S r1 r2) t).1 (posL (legsRR F S r1 r2) t).2 else node F S r2.1.toNat (r2.2.1 * (S / r2.2.2))
def spStep (K : PySem.W.Frag) (CT CR CP CB CNR COR : Addr) : Sp := fun vs H Q E => ∃ (a p1 p2 : Addr) (n : Int) (ps : List Addr) (F : List Fact) (r1 r2 : Fact) (m : Int), vs = [.ref a, .ref p1, .ref p2, .int m] ∧ TreeAt K CT CR H a n ps F ∧ PlaceAt CP H p1 r1 ∧ PlaceAt CP H p2 r2 ∧ TreeG n F ∧
  PlSm r1 ∧ PlSm r2 ∧ low r2 = r2 ∧ r1.2.2 * r2.2.2 < 2 ^ 60 ∧ PlErr CNR COR F r1 H E ∧ (PlOn F r1 → PlErr CNR COR F r2 H E) ∧ (PlOn F r1 → PlOn F r2 → m < 0 → Raised CB [("count", .int m), ("what", .str "steps")] H E) ∧
  (PlOn F r1 → PlOn F r2 → 0 ≤ m → ∀ p' H', Same H H' → PlaceAt CP H' p' (keyF F (lcmI r1.2.2 r2.2.2) (walkN F (lcmI r1.2.2 r2.2.2) r1 r2 (m * lcmI r1.2.2 r2.2.2))) → Q (.ref p') H')
/-- an on-road place in lowest terms lies on the tree -/
theorem on_low {F : List Fact} {S : Int} {k : Nat} {i : Int} (hS : 1 ≤ S) (h : On F S k i) : PlOn F (low ((k : Nat), i, S)) ∧ (low ((k : Nat), i, S)).1.toNat = k ∧ keyF F (low ((k : Nat), i, S)).2.2 (node F (low ((k : Nat), i, S)).2.2 k (low ((k : Nat), i, S)).2.1) = keyF F S (node F S k i) := by
  obtain ⟨c, hc, e1, e2⟩ := low_back (r := (((k : Nat) : Int), i, S)) hS
  have e1' : i = (low (((k : Nat) : Int), i, S)).2.1 * c := e1
  have e2' : S = (low (((k : Nat) : Int), i, S)).2.2 * c := e2
  obtain ⟨h1, h2, h3⟩ := h
  have ek : (low (((k : Nat) : Int), i, S)).1 = (k : Int) := rfl
  refine ⟨⟨⟨by rw [ek]; omega, by rw [ek]; omega⟩, ?_, ?_⟩, by rw [ek]; omega, ?_⟩
  · rw [e1'] at h2
    exact Int.le_of_mul_le_mul_right (by rw [Int.zero_mul]; exact h2) hc
  · rw [ek, Int.toNat_natCast]
    unfold sz at h3
    refine Int.le_of_mul_le_mul_right ?_ hc
    rw [← e1', Int.mul_assoc, ← e2']
    exact h3
  · generalize hr : low (((k : Nat) : Int), i, S) = r at *
    rw [e2', e1', keyF_node_mul hc]
section
variable {P : Program} {w : World} {K : PySem.W.Frag} {mg : Str → Option Value} {base : Heap}
abbrev nStep : List Str := ["tree", "place", "goal", "steps", "parts", "left", "number", "start", "end", "size", "at"]
theorem scStep : FnScope nStep ["tree", "place", "goal", "steps"] (defScope sStep) := ⟨rfl, rfl, rfl, by decide +kernel, rfl, by decide +kernel, by decide +kernel⟩
theorem ok_step {f CT CR CP CB CNR COR fC fL fK fP fB : Addr} {fd fdC fdL fdK fdP fdB : FuncData} (F : Fun K "step" "step" sStep f fd) (TP : PlT K mg CP) (TB : ErT K mg "BadCount" CB fB)
    (FB : FnOk P w K mg base CX0 1 fB fdB ["self", "what", "count"] (spEr2 CB "what" "count")) (bB : Binds K fdB ["self", "what", "count"] [])
    (FC : FnOk P w K mg base (L2.CX P w) 3 fC fdC ["tree", "place"] (spCheckPl K CT CR CP CNR COR)) (bC : Binds K fdC ["tree", "place"] []) (mC : mg "check_place" = some (.ref fC)) (kC : PySem.W.keepIn K (.ref fC) = true)
    (FL : FnOk P w K mg base CX0 2 fL fdL ["tree", "one", "other", "parts"] (spLegs K CT CR CP)) (bL : Binds K fdL ["tree", "one", "other", "parts"] []) (mL : mg "legs" = some (.ref fL)) (kL : PySem.W.keepIn K (.ref fL) = true)
    (FK : FnOk P w K mg base (L2.CX P w) 6 fK fdK ["tree", "place"] (spKey K CT CR CP CNR COR)) (bK : Binds K fdK ["tree", "place"] []) (mK : mg "key" = some (.ref fK)) (kK : PySem.W.keepIn K (.ref fK) = true)
    (MP : Mk K CP fP) (FP : FnOk P w K mg base (L2.CX P w) 3 fP fdP ["self", "road", "number", "parts"] (spPlaceI CP CB)) (bP : Binds K fdP ["self", "road", "number", "parts"] [])
    (hLcm : mg "lcm" = some (.builtin "math.lcm")) (hAbs : mg "abs" = none) :
    FnOk P w K mg base (L2.CX P w) 7 f fd ["tree", "place", "goal", "steps"] (spStep K CT CR CP CB CNR COR) := by
  refine F.okX scStep (fun vs H Q E h => ?_) (fun cdv A outer s H vs Q E hr h => ?_)
  · obtain ⟨a, p1, p2, n, ps, F, r1, r2, m, rfl, _⟩ := h
    rfl
  · obtain ⟨a, p1, p2, n, ps, F, r1, r2, m, rfl, TA, PA1, PA2, G, sm1, sm2, lo2, s60, x1, x2, x3, k⟩ := h
    have hr2 : Room 2 _ := hr.mono (by decide)
    have hr3 : Room 3 _ := hr.mono (by decide)
    have hr4 : Room 4 _ := hr.mono (by decide)
    refine ⟨_, pss_cons (ps_expr (pe_call FC hr3 rfl mC kC bC .nil (passes_call (takes_of rfl rfl rfl rfl) fun _ _ _ _ h => h) (pa_cons (pv 0) (pa_cons (pv 1) pa_nil))))
      (pss_cons (ps_expr (pe_call FC hr3 rfl mC kC bC .nil (passes_call (takes_of rfl rfl rfl rfl) fun _ _ _ _ h => h) (pa_cons (pv 0) (pa_cons (pv 2) pa_nil))))
      (pss_cons (ps_if (pt_cmpR op_lt (pv 3) pe_int (nomark _)) (pss_one (ps_raise rfl (takes_of rfl rfl rfl rfl) (pmk_oex TB.ox TB.iC TB.tI FB hr2 bB .nil pass0 (by rfl) TB.gC (pa_cons pe_str (pa_cons (pv 3) pa_nil))))) pss_nil)
      (pss_cons (ps_set (i := 4) scStep.nd rfl (Or.inl rfl) (pe_callBfun cr_lcm (by rfl) hLcm (pa_cons (pe_fld (pv 1) rfl) (pa_cons (pe_fld (pv 2) rfl) pa_nil))))
      (pss_cons (ps_set (i := 5) scStep.nd rfl (Or.inl rfl) (pe_op op_mul (pv 3) (pv 4)))
      (pss_cons (ps_for (passes_of rfl) rfl (pi_list (pe_call FL hr2 rfl mL kL bL .nil pass0 (pa_cons (pv 0) (pa_cons (pv 1) (pa_cons (pv 2) (pa_cons (pv 4) pa_nil)))))) (pg_tup rfl (pgs_cons (pg_name (i := 6) scStep.nd rfl (Or.inl rfl)) (pgs_cons (pg_name (i := 7) scStep.nd rfl (Or.inl rfl)) (pgs_cons (pg_name (i := 8) scStep.nd rfl (Or.inl rfl)) pgs_nil))))
        (pss_cons (ps_set (i := 9) scStep.nd rfl (Or.inl rfl) (pe_callB call_abs (by rfl) hAbs (by decide +kernel) (pa_cons (pe_op op_sub (pv 8) (pv 7)) pa_nil)))
        (pss_cons (ps_if (pt_cmpR op_le (pv 5) (pv 9) (nomark _))
            (pss_cons (ps_set (i := 10) scStep.nd rfl (Or.inl rfl) (pe_ifExp (pt_cmpR op_lt (pv 7) (pv 8) (nomark _)) (pe_op op_add (pv 7) (pv 5)) (pe_op op_sub (pv 7) (pv 5))))
            (pss_one (ps_ret (pe_call FK hr rfl mK kK bK .nil passF (pa_cons (pv 0) (pa_cons (pe_make MP FP hr4 (by rfl) TP.mgC bP .nil passF (pa_cons (pv 6) (pa_cons (pv 10) (pa_cons (pv 4) pa_nil)))) pa_nil)))))) pss_nil)
        (pss_one (ps_aug (i := 5) scStep.nd rfl (Or.inl rfl) (pv 9) ip_sub)))))
      (pss_one (ps_ret (pe_call FK hr rfl mK kK bK .nil passF (pa_cons (pv 0) (pa_cons (pv 2) pa_nil)))))))))), ?_⟩
    refine ⟨_, rfl, _, rfl, a, p1, n, ps, F, r1, rfl, TA, PA1, G, sm1, x1.1, x1.2, fun on1 => ?_⟩
    refine ⟨_, rfl, _, rfl, a, p2, n, ps, F, r2, rfl, TA, PA2, G, sm2, (x2 on1).1, (x2 on1).2, fun on2 => ?_⟩
    refine ⟨_, rfl, _, _, rfl, rfl, _, rfl, ?_⟩
    by_cases m0 : m < 0
    · rw [decide_eq_true m0]
      exact iteT ⟨_, rfl, len2, fun b hb => er2 hb (x3 on1 on2 m0)⟩
    rw [decide_eq_false m0]
    refine iteF ?_
    obtain ⟨dp1, ep1⟩ := id PA1
    obtain ⟨dp2, ep2⟩ := id PA2
    obtain ⟨sm11, sm12⟩ := sm1
    obtain ⟨sm21, sm22⟩ := sm2
    obtain ⟨c1, c2, eS1, eS2, c10, c20, le, dv1, dv2⟩ := lcm_of sm11 sm21
    have k' := k on1 on2 (by omega)
    refine ⟨_, rfl, p1, CP, dp1, _, _, rfl, ep1, TP.cl, TP.nP, plF_p r1, _, rfl, p2, CP, dp2, _, _, rfl, ep2, TP.cl, TP.nP, plF_p r2, _, _, rfl, by omega, by omega, ?_⟩
    have S1 : 1 ≤ lcmI r1.2.2 r2.2.2 := by
      rw [eS1]
      have := Int.mul_le_mul sm11 (show 1 ≤ c1 by omega) (by omega) (by omega)
      omega
    have S60 : lcmI r1.2.2 r2.2.2 < 2 ^ 60 := by omega
    show tSeq _ _ _ (List.set _ 4 (some (V.int (lcmI r1.2.2 r2.2.2)))) H
    unfold walkN legsRR hRR at k'
    rw [dv1, dv2] at k'
    generalize lcmI r1.2.2 r2.2.2 = S at *
    have S64 : -(2 ^ 64 : Int) < S ∧ S < 2 ^ 64 := ⟨by omega, by omega⟩
    refine ⟨_, rfl, _, rfl, _, _, rfl, rfl, .inr S64, ?_⟩
    -- for number, start, end in legs(..)
    refine ⟨_, rfl, _, rfl, _, rfl, _, rfl, a, p1, p2, n, ps, F, r1, r2, S, c1, c2, rfl, TA, PA1, PA2, G, ⟨sm11, sm12⟩, ⟨sm21, sm22⟩, on1, on2, eS1, eS2, c10, c20, S60, fun L H1 s1 hL fa ll => ?_⟩
    have hg : On F S r2.1.toNat (r2.2.1 * c2) := by
      obtain ⟨⟨b0, b1⟩, b2, b3⟩ := on2
      refine ⟨by omega, Int.mul_nonneg b2 (by omega), ?_⟩
      unfold sz
      rw [eS2, ← Int.mul_assoc]
      exact Int.mul_le_mul_of_nonneg_right b3 (by omega)
    have hk : On F S r1.1.toNat (r1.2.1 * c1) := by
      obtain ⟨⟨b0, b1⟩, b2, b3⟩ := on1
      refine ⟨by omega, Int.mul_nonneg b2 (by omega), ?_⟩
      unfold sz
      rw [eS1, ← Int.mul_assoc]
      exact Int.mul_le_mul_of_nonneg_right b3 (by omega)
    have path := (legsP_ok G.m S1 hg hk).1
    unfold hP at k'
    generalize hl : legsP F S r2.1.toNat (r2.2.1 * c2) r1.1.toNat (r1.2.1 * c1) = legs at fa ll path k'
    obtain ⟨ts, eL, pts⟩ := fa
    have el : (ts.map V.ref).length = legs.length := by rw [List.length_map, Paired.length pts, List.length_map]
    have TA1 := TA.same s1
    have PA21 := PA2.same s1
    have mS : 0 ≤ m * S := Int.mul_nonneg (by omega) (by omega)
    refine ⟨L, rfl, ⟨_, SqL.of eL⟩, for_list (K := K) (a := L) (xs := ts.map V.ref) (fun i σ G' => ∃ (left : Int) (v6 v7 v8 v9 : Option V), σ = [some (.ref a), some (.ref p1), some (.ref p2), some (.int m), some (.int S), some (.int left), v6, v7, v8, v9, none] ∧ G' = H1 ∧
        m * S = total (legs.take i) + left ∧ 0 ≤ left ∧ (0 < i → 0 < left) ∧ posL legs (m * S) = posL (legs.drop i) left)
      ⟨m * S, none, none, none, none, rfl, rfl, by show m * S = 0 + m * S; omega, mS, fun z => absurd z (Nat.lt_irrefl _), rfl⟩ (fun i σ G' _ ⟨_, _, _, _, _, _, e, _⟩ => by rw [e]; exact SqL.of eL) ?_ ?_⟩
    · rintro i y σ G' hi ⟨left, v6, v7, v8, v9, rfl, rfl, e1, l0, lp, ep⟩
      obtain ⟨t, ht, rfl⟩ := map_get hi
      obtain ⟨r, hr', tr⟩ := paired_get pts ht
      obtain ⟨⟨kk, ss, ee⟩, hl', rfl⟩ := map_get hr'
      rw [drop_get hl'] at ep
      refine ⟨t, _, rfl, SqT.of tr, rfl, _, _, rfl, _, _, rfl, _, _, rfl, rfl, ?_⟩
      refine ⟨_, rfl, _, rfl, _, _, rfl, rfl, _, rfl, ?_⟩
      show tSeq _ _ _ (List.set _ 9 (some (V.int (dst ss ee)))) _
      refine ⟨_, rfl, _, rfl, _, _, rfl, rfl, _, rfl, ?_⟩
      have tt : total legs = total (legs.take i) + dst ss ee + total (legs.drop (i + 1)) := by
        have z : ∀ (A B : List Leg), total (A ++ B) = total A + total B := fun A B => by rw [total_sum, total_sum, total_sum, List.map_append, List.sum_append]
        have z2 := z (legs.take i) (legs.drop i)
        rw [List.take_append_drop, drop_get hl'] at z2
        rw [z2]
        show _ + (dst ss ee + _) = _
        omega
      have rest := total_nn (legs.drop (i + 1))
      by_cases c : left ≤ dst ss ee
      · rw [decide_eq_true c]
        rw [posL_le c] at ep
        have le' : m * S ≤ total legs := by omega
        rw [if_pos le', ep] at k'
        have on := (path (m * S) mS le').1
        rw [ep] at on
        refine iteT ?_
        refine ⟨_, rfl, _, rfl, _, _, rfl, rfl, _, rfl, ?_⟩
        refine ite_val (.int (if ss < ee then ss + left else ss - left)) (fun hb Q q => ⟨_, rfl, _, rfl, _, _, rfl, rfl, ?_⟩) (fun hb Q q => ⟨_, rfl, _, rfl, _, _, rfl, rfl, ?_⟩) ?_
        · rw [if_pos (show ss < ee from of_decide_eq_true hb)] at q
          exact q
        · rw [if_neg (show ¬ ss < ee from of_decide_eq_false hb)] at q
          exact q
        generalize (if ss < ee then ss + left else ss - left) = at' at on k' ⊢
        refine ⟨_, rfl, _, rfl, _, rfl, _, rfl, fun x dx nx ndx nex => ⟨x, dx, (((kk : Nat) : Int), at', S), rfl, upd_same, fun z => absurd z (by show ¬ S < 1; omega), fun _ => ⟨lg60 S1 S60, fun H2 px keep => ⟨rfl, ?_⟩⟩⟩⟩
        have s2 := made_same nx ndx keep
        obtain ⟨o1, o2, o3⟩ := on_low S1 on
        have low1 := low_low (r := (((kk : Nat) : Int), at', S)) S1
        have lowS : (low (((kk : Nat) : Int), at', S)).2.2 < 2 ^ 60 := by
          obtain ⟨cc, hc, _, e2⟩ := low_back (r := (((kk : Nat) : Int), at', S)) S1
          have e2' : S = (low (((kk : Nat) : Int), at', S)).2.2 * cc := e2
          have := Int.mul_le_mul_of_nonneg_left (show 1 ≤ cc by omega) (show 0 ≤ (low (((kk : Nat) : Int), at', S)).2.2 by have := low1.1; omega)
          omega
        refine ⟨a, x, n, ps, F, _, rfl, TA1.same s2, px, G, ⟨low1.1, lowS⟩, low1.2, fun z => absurd o1.1 z, fun _ z => absurd o1.2 z, fun _ p' H' s' px' => ?_⟩
        rw [o2, o3] at px'
        exact k' p' H' ((s1.trans s2).trans s') px'
      · rw [decide_eq_false c]
        refine iteF ⟨_, rfl, _, rfl, _, _, rfl, rfl, left - dst ss ee, _, _, _, _, rfl, rfl, ?_, by omega, fun _ => by omega, ?_⟩
        · have z : ∀ (A B : List Leg), total (A ++ B) = total A + total B := fun A B => by rw [total_sum, total_sum, total_sum, List.map_append, List.sum_append]
          rw [take_get hl', z]
          show m * S = _ + (dst ss ee + 0) + _
          omega
        · rw [ep, posL_gt c]
    · rintro σ G' ⟨left, v6, v7, v8, v9, rfl, rfl, e1, l0, lp, ep⟩
      rw [el, List.take_length] at e1
      have pos : 0 < legs.length := by
        rw [← hl]
        unfold legsP
        split
        · exact Nat.one_pos
        · exact Nat.succ_pos _
      have l1 := lp (by rw [el]; exact pos)
      have gt : ¬ m * S ≤ total legs := by omega
      rw [if_neg gt] at k'
      refine ⟨_, rfl, _, rfl, a, p2, n, ps, F, r2, rfl, TA1, PA21, G, ⟨sm21, sm22⟩, lo2, fun z => absurd on2.1 z, fun _ z => absurd on2.2 z, fun _ p' H' s' px' => ?_⟩
      refine k' p' H' (s1.trans s') ?_
      rw [eS2, keyF_node_mul c20]
      exact px'
end
end OT
set_option Elab.async false
set_option linter.all false
set_option maxRecDepth 100000
set_option maxHeartbeats 4000000
set_option Elab.async false
set_option linter.all false
set_option maxRecDepth 100000
set_option maxHeartbeats 4000000
namespace OT
open PySem L2 OTR
/-- the place r is the step i of S to the step, on the road k -/
structure PlE (F : List Fact) (S : Int) (r : Fact) (k : Nat) (i : Int) : Prop where
  rd : r.1 = (k : Nat)
  d : ∃ d, 0 < d ∧ S = r.2.2 * d ∧ i = r.2.1 * d
  on : On F S k i
  p1 : 1 ≤ r.2.2
  lo : low r = r
theorem PlE.pl {F : List Fact} {S : Int} {r : Fact} {k : Nat} {i : Int} (h : PlE F S r k i) : PlOn F r := by
  obtain ⟨d, d0, e1, e2⟩ := h.d
  obtain ⟨o1, o2, o3⟩ := h.on
  refine ⟨⟨by rw [h.rd]; omega, by rw [h.rd]; omega⟩, ?_, ?_⟩
  · rw [e2] at o2
    exact Int.le_of_mul_le_mul_right (by rw [Int.zero_mul]; exact o2) d0
  · rw [h.rd, Int.toNat_natCast]
    unfold sz at o3
    refine Int.le_of_mul_le_mul_right ?_ d0
    rw [← e2, Int.mul_assoc, ← e1]
    exact o3
theorem PlE.le {F : List Fact} {S : Int} {r : Fact} {k : Nat} {i : Int} (h : PlE F S r k i) : r.2.2 ≤ S := by
  obtain ⟨d, d0, e1, _⟩ := h.d
  have := Int.mul_le_mul_of_nonneg_left (show 1 ≤ d by omega) (show 0 ≤ r.2.2 by have := h.p1; omega)
  omega
theorem both {F : List Fact} {S : Int} {r1 r2 : Fact} {k g : Nat} {i p : Int} (h1 : PlE F S r1 k i) (h2 : PlE F S r2 g p) (hS : 1 ≤ S) : ∃ c, 0 < c ∧ 1 ≤ lcmI r1.2.2 r2.2.2 ∧ S = lcmI r1.2.2 r2.2.2 * c ∧ i = r1.2.1 * (lcmI r1.2.2 r2.2.2 / r1.2.2) * c ∧ p = r2.2.1 * (lcmI r1.2.2 r2.2.2 / r2.2.2) * c ∧
    On F (lcmI r1.2.2 r2.2.2) k (r1.2.1 * (lcmI r1.2.2 r2.2.2 / r1.2.2)) ∧ On F (lcmI r1.2.2 r2.2.2) g (r2.2.1 * (lcmI r1.2.2 r2.2.2 / r2.2.2)) := by
  obtain ⟨c1, c2, e1, e2, c10, c20, _, dv1, dv2⟩ := lcm_of h1.p1 h2.p1
  obtain ⟨d1, d10, a1, a2⟩ := h1.d
  obtain ⟨d2, d20, b1, b2⟩ := h2.d
  have q1 := h1.p1
  have q2 := h2.p1
  have dvd : lcmI r1.2.2 r2.2.2 ∣ S := by
    have z : Nat.lcm r1.2.2.natAbs r2.2.2.natAbs ∣ S.natAbs := Nat.lcm_dvd (Int.natAbs_dvd_natAbs.mpr ⟨d1, a1⟩) (Int.natAbs_dvd_natAbs.mpr ⟨d2, b1⟩)
    exact Int.natAbs_dvd_natAbs.mp (by unfold lcmI; rw [Int.natAbs_natCast]; exact z)
  obtain ⟨c, ec⟩ := dvd
  have L1 : 1 ≤ lcmI r1.2.2 r2.2.2 := by
    rw [e1]
    have := Int.mul_le_mul q1 (show 1 ≤ c1 by omega) (by omega) (by omega)
    omega
  have c0 : 0 < c := by
    rcases Int.lt_trichotomy c 0 with h | h | h
    · have := Int.mul_le_mul_of_nonneg_left (show c ≤ 0 by omega) (show 0 ≤ lcmI r1.2.2 r2.2.2 by omega)
      omega
    · rw [h, Int.mul_zero] at ec
      omega
    · exact h
  have ed1 : d1 = c1 * c := Int.eq_of_mul_eq_mul_left (a := r1.2.2) (by omega) (by rw [← a1, ec, e1, Int.mul_assoc])
  have ed2 : d2 = c2 * c := Int.eq_of_mul_eq_mul_left (a := r2.2.2) (by omega) (by rw [← b1, ec, e2, Int.mul_assoc])
  have ei : i = r1.2.1 * (lcmI r1.2.2 r2.2.2 / r1.2.2) * c := by rw [dv1, a2, ed1, Int.mul_assoc]
  have ep : p = r2.2.1 * (lcmI r1.2.2 r2.2.2 / r2.2.2) * c := by rw [dv2, b2, ed2, Int.mul_assoc]
  have on : ∀ {k : Nat} {x y : Int}, On F S k y → y = x * c → On F (lcmI r1.2.2 r2.2.2) k x := fun {k x y} o e => by
    obtain ⟨o1, o2, o3⟩ := o
    rw [e] at o2 o3
    rw [ec, sz_mul] at o3
    exact ⟨o1, Int.le_of_mul_le_mul_right (by rw [Int.zero_mul]; exact o2) c0, Int.le_of_mul_le_mul_right o3 c0⟩
  exact ⟨c, c0, L1, ec, ei, ep, on h1.on ei, on h2.on ep⟩
section
variable {n : Int} {F : List Fact} {S : Int} (T : TreeM n F) (hS : 1 ≤ S)
include T hS
/-- a way is no longer than a walk -/
theorem hP_le_sym {k g : Nat} {i p : Int} (hk : On F S k i) (hg : On F S g p) : hP F S g p k i ≤ hP F S k i g p := by
  have m0 : 0 ≤ hP F S k i g p := total_nn _
  have step : ∀ t : Nat, (t : Int) ≤ hP F S k i g p → hN F S g p (pth F S k i g p (t : Nat)) ≤ t := by
    intro t
    induction t with
    | zero =>
      intro _
      show hN F S g p (pth F S k i g p 0) ≤ 0
      rw [pth_0 T hS hk hg, hN_node T hS hg hg, hP_g, dst_self]
      exact Int.le_refl _
    | succ t ih =>
      intro h
      have h' : (t : Int) + 1 ≤ hP F S k i g p := by
        rw [← Int.natCast_succ]
        exact h
      have h2 : (t : Int) ≤ hP F S k i g p := Int.le_trans (Int.le_add_one (Int.le_refl _)) h'
      have a := (pth_ok T hS hk hg (t := (t : Nat)) (Int.natCast_nonneg t) h2).2.2 h'
      have b := ih h2
      have e := adj_step T hS hg a
      rw [Int.natCast_succ]
      rcases e with e | e
      · rw [e]
        exact Int.add_le_add_right b 1
      · rw [e]
        exact Int.le_trans (Int.sub_le_self _ (by decide)) (Int.le_trans b (Int.le_add_one (Int.le_refl _)))
  have ht := step (hP F S k i g p).toNat (by rw [Int.toNat_of_nonneg m0]; exact Int.le_refl _)
  rw [Int.toNat_of_nonneg m0] at ht
  obtain ⟨o, z, _⟩ := pth_ok T hS hk hg (t := hP F S k i g p) m0 (Int.le_refl _)
  rw [Int.sub_self] at z
  rw [zero_aim T hS hk o z, hN_node T hS hg hk] at ht
  exact ht
theorem hP_sym {k g : Nat} {i p : Int} (hk : On F S k i) (hg : On F S g p) : hP F S g p k i = hP F S k i g p := Int.le_antisymm (hP_le_sym T hS hk hg) (hP_le_sym T hS hg hk)
end
/-- what distance answers -/
theorem dist_eq {F : List Fact} {S : Int} {r1 r2 : Fact} {k g : Nat} {i p : Int} (h1 : PlE F S r1 k i) (h2 : PlE F S r2 g p) (hS : 1 ≤ S) : low (0, hRR F (lcmI r1.2.2 r2.2.2) r1 r2, lcmI r1.2.2 r2.2.2) = low (0, hP F S g p k i, S) := by
  obtain ⟨c, c0, L1, ec, ei, ep, o1, o2⟩ := both h1 h2 hS
  generalize hL : lcmI r1.2.2 r2.2.2 = L at *
  unfold hRR
  rw [h1.rd, h2.rd, Int.toNat_natCast, Int.toNat_natCast, ec, ei, ep, hP_mul c0, low_mul c c0]
/-- what step answers -/
theorem step_eq {n : Int} {F : List Fact} {S : Int} (T : TreeM n F) {r1 r2 : Fact} {k g : Nat} {i p m : Int} (h1 : PlE F S r1 k i) (h2 : PlE F S r2 g p) (hS : 1 ≤ S) : keyF F (lcmI r1.2.2 r2.2.2) (walkN F (lcmI r1.2.2 r2.2.2) r1 r2 (m * lcmI r1.2.2 r2.2.2)) = keyF F S (pth F S g p k i (if hP F S g p k i < m * S then hP F S g p k i else m * S)) := by
  have ho1 := h1.on
  have ho2 := h2.on
  obtain ⟨c, c0, L1, ec, ei, ep, o1, o2⟩ := both h1 h2 hS
  generalize hL : lcmI r1.2.2 r2.2.2 = L at *
  generalize hx : r1.2.1 * (L / r1.2.2) = x at *
  generalize hy : r2.2.1 * (L / r2.2.2) = y at *
  have eh : hP F S g p k i = hP F L g y k x * c := by rw [ec, ei, ep, hP_mul c0]
  have em : m * S = m * L * c := by rw [ec, Int.mul_assoc]
  have ept : ∀ t : Int, keyF F S (pth F S g p k i (t * c)) = keyF F L (pth F L g y k x t) := fun t => by
    unfold pth
    rw [ec, ei, ep, legsP_mul, posL_mul c0, keyF_node_mul c0]
  unfold walkN
  have e1 : hRR F L r1 r2 = hP F L g y k x := by unfold hRR; rw [h1.rd, h2.rd, Int.toNat_natCast, Int.toNat_natCast, hx, hy]
  have e2 : legsRR F L r1 r2 = legsP F L g y k x := by unfold legsRR; rw [h1.rd, h2.rd, Int.toNat_natCast, Int.toNat_natCast, hx, hy]
  rw [e1, e2, h2.rd, Int.toNat_natCast, hy, eh, em]
  by_cases c2 : m * L ≤ hP F L g y k x
  · have c3 : ¬ hP F L g y k x * c < m * L * c := Int.not_lt.mpr (Int.mul_le_mul_of_nonneg_right c2 (Int.le_of_lt c0))
    rw [if_pos c2, if_neg c3, ept]
    rfl
  · have c3 : hP F L g y k x * c < m * L * c := Int.mul_lt_mul_of_pos_right (Int.not_le.mp c2) c0
    rw [if_neg c2, if_pos c3, ept]
    obtain ⟨o, z, _⟩ := pth_ok T L1 o2 o1 (t := hP F L g y k x) (total_nn _) (Int.le_refl _)
    rw [Int.sub_self] at z
    rw [zero_aim T L1 o2 o z]
/-- a key, as a place -/
theorem key_pl {n : Int} {F : List Fact} {S : Int} (T : TreeM n F) (n2 : 2 ≤ n) (hS : 1 ≤ S) {u : Nd} (ou : OnT F S u) : PlOn F (keyF F S u) ∧ 1 ≤ (keyF F S u).2.2 ∧ (keyF F S u).2.2 ≤ S ∧ low (keyF F S u) = keyF F S u ∧ keyF F (keyF F S u).2.2 (node F (keyF F S u).2.2 (keyF F S u).1.toNat (keyF F S u).2.1) = keyF F S u := by
  obtain ⟨k, i, o, rfl⟩ := ou
  cases e : node F S k i with
  | cr c =>
    have ic : In n c := by
      obtain ⟨e1, _⟩ := node_cr T hS o.1 e
      have o := rd_ok T o.1
      rcases e1 with e1 | e1
      · exact e1 ▸ o.1
      · exact e1 ▸ o.2.1
    obtain ⟨f1, f2, f3⟩ := fstR_spec T ic n2
    have oe := eAt_on (S := 1) T (Int.le_refl 1) f1 c
    show PlOn F (((fstR F c : Nat) : Int), eAt F 1 (fstR F c) c, 1) ∧ (1 : Int) ≤ 1 ∧ (1 : Int) ≤ S ∧ low (((fstR F c : Nat) : Int), eAt F 1 (fstR F c) c, 1) = _ ∧ keyF F 1 (node F 1 (((fstR F c : Nat) : Int)).toNat (eAt F 1 (fstR F c) c)) = _
    rw [Int.toNat_natCast, node_eAt T (Int.le_refl 1) f1 f2]
    refine ⟨⟨⟨by show 0 ≤ ((fstR F c : Nat) : Int); omega, by show ((fstR F c : Nat) : Int) < _; omega⟩, oe.2.1, ?_⟩, Int.le_refl _, hS, low_one _ _, rfl⟩
    have := oe.2.2
    unfold sz at this
    show _ ≤ (rd F (((fstR F c : Nat) : Int)).toNat).2.2 * 1
    rw [Int.toNat_natCast]
    exact this
  | mid k2 i2 =>
    have e2 : k2 = k ∧ i2 = i := by
      unfold node at e
      split at e
      · cases e
      · split at e
        · cases e
        · cases e
          exact ⟨rfl, rfl⟩
    obtain ⟨rfl, rfl⟩ := e2
    obtain ⟨o1, o2, o3⟩ := on_low hS o
    have low1 := low_low (r := (((k2 : Nat) : Int), i2, S)) hS
    have le : (low (((k2 : Nat) : Int), i2, S)).2.2 ≤ S := by
      obtain ⟨c, c0, _, e2⟩ := low_back (r := (((k2 : Nat) : Int), i2, S)) hS
      have e2' : S = (low (((k2 : Nat) : Int), i2, S)).2.2 * c := e2
      have := Int.mul_le_mul_of_nonneg_left (show 1 ≤ c by omega) (show 0 ≤ (low (((k2 : Nat) : Int), i2, S)).2.2 by have := low1.1; omega)
      omega
    refine ⟨o1, low1.1, le, low1.2, ?_⟩
    show keyF F (low (((k2 : Nat) : Int), i2, S)).2.2 (node F (low (((k2 : Nat) : Int), i2, S)).2.2 (low (((k2 : Nat) : Int), i2, S)).1.toNat (low (((k2 : Nat) : Int), i2, S)).2.1) = low (((k2 : Nat) : Int), i2, S)
    rw [o2, o3, e]
    rfl
theorem mkPlE {F : List Fact} {s c : Int} {k : Nat} {i : Int} (hs : 1 ≤ s) (hc : 1 ≤ c) (o : On F s k i) : PlE F (s * c) (low (((k : Nat) : Int), i, s)) k (i * c) := by
  obtain ⟨d, d0, e1, e2⟩ := low_back (r := (((k : Nat) : Int), i, s)) hs
  have e1' : i = (low (((k : Nat) : Int), i, s)).2.1 * d := e1
  have e2' : s = (low (((k : Nat) : Int), i, s)).2.2 * d := e2
  have lo := low_low (r := (((k : Nat) : Int), i, s)) hs
  obtain ⟨o1, o2, o3⟩ := o
  refine ⟨rfl, ⟨d * c, Int.mul_pos d0 (by omega), ?_, ?_⟩, ⟨o1, Int.mul_nonneg o2 (by omega), ?_⟩, lo.1, lo.2⟩
  · rw [← Int.mul_assoc, ← e2']
  · rw [← Int.mul_assoc, ← e1']
  · rw [sz_mul]
    exact Int.mul_le_mul_of_nonneg_right o3 (by omega)
end OT
set_option linter.all false
namespace OT
/-- a road o times as long -/
def lngR (o : Int) (r : Fact) : Fact := (r.1, r.2.1, r.2.2 * o)
def lng (o : Int) (F : List Fact) : List Fact := F.map (lngR o)
theorem lng_len (o : Int) (F : List Fact) : (lng o F).length = F.length := List.length_map _
theorem rd_lng (o : Int) (F : List Fact) (k : Nat) : rd (lng o F) k = lngR o (rd F k) := by
  unfold rd lng
  rw [List.getD_eq_getElem?_getD, List.getD_eq_getElem?_getD, List.getElem?_map]
  cases F[k]? with
  | none => show ((0, 0, 0) : Fact) = (0, 0, 0 * o); rw [Int.zero_mul]
  | some r => rfl
theorem con_lng {o : Int} {F : List Fact} {x y : Int} : Con (lng o F) x y ↔ Con F x y := by
  constructor
  · intro h
    induction h with
    | refl => exact .refl _
    | step _ m j ih =>
      obtain ⟨r, hr, rfl⟩ := List.mem_map.mp m
      exact .step ih hr j
  · intro h
    induction h with
    | refl => exact .refl _
    | @step b c r _ m j ih => exact .step (r := lngR o r) ih (List.mem_map.mpr ⟨r, m, rfl⟩) j
theorem way_lng {o : Int} {F : List Fact} : ∀ {l : List Nat} {x y : Int}, Way (lng o F) x l y ↔ Way F x l y := by
  intro l
  induction l with
  | nil =>
    intro x y
    constructor <;> (intro h; cases h; exact .nil _)
  | cons k l ih =>
    intro x y
    constructor
    · intro h
      cases h with
      | cons e j t =>
        unfold lng at e
        rw [List.getElem?_map] at e
        obtain ⟨r, hr, rfl⟩ := Option.map_eq_some_iff.mp e
        exact .cons hr j (ih.mp t)
    · intro h
      cases h with
      | @cons _ _ _ _ r _ e j t => exact .cons (r := lngR o r) (by unfold lng; rw [List.getElem?_map, e]; rfl) j (ih.mpr t)
theorem erase_lng (o : Int) : ∀ (F : List Fact) (k : Nat), (F.map (lngR o)).eraseIdx k = (F.eraseIdx k).map (lngR o)
  | [], _ => rfl
  | r :: F, 0 => rfl
  | r :: F, k + 1 => by
    rw [List.map_cons, List.eraseIdx_cons_succ, List.eraseIdx_cons_succ, List.map_cons, erase_lng o F k]
theorem noRing_lng {o : Int} {F : List Fact} (h : NoRing F) : NoRing (lng o F) := by
  intro k r e c
  unfold lng at e c
  rw [List.getElem?_map] at e
  obtain ⟨r, hr, rfl⟩ := Option.map_eq_some_iff.mp e
  rw [erase_lng] at c
  exact h k r hr (con_lng.mp c)
theorem Drawn.lng {most long n o : Int} {F : List Fact} (d : Drawn most long n F) (h1 : 1 ≤ o) (h2 : ∀ r ∈ F, r.2.2 * o ≤ 1000000000) : Drawn most 1000000000 n (lng o F) := by
  refine ⟨d.lo, d.hi, by rw [lng_len]; exact d.len, fun r hr => ?_, noRing_lng d.nr, fun x y hx hy => con_lng.mpr (d.con x y hx hy)⟩
  obtain ⟨r0, hr0, rfl⟩ := List.mem_map.mp hr
  obtain ⟨a, b, c, _⟩ := d.ok r0 hr0
  refine ⟨a, b, ?_, .inr (h2 r0 hr0)⟩
  have := Int.mul_le_mul c h1 (by omega) (by omega)
  show 1 ≤ r0.2.2 * o
  omega
theorem tr_lng (o : Int) (F : List Fact) (x y : Int) : tr (lng o F) x y = tr F x y := by
  have e : (fun l => Way (lng o F) x l y ∧ l.Nodup) = fun l => Way F x l y ∧ l.Nodup := funext fun l => propext (and_congr_left fun _ => way_lng)
  unfold tr
  rw [e]
theorem sz_lng (o : Int) (F : List Fact) (S : Int) (k : Nat) : sz (lng o F) S k = sz F (S * o) k := by
  unfold sz
  rw [rd_lng]
  show (rd F k).2.2 * o * S = _
  rw [Int.mul_assoc, Int.mul_comm o S]
theorem on_lng {o : Int} {F : List Fact} {S : Int} {k : Nat} {i : Int} : On (lng o F) S k i ↔ On F (S * o) k i := by
  unfold On
  rw [lng_len, sz_lng]
theorem eAt_lng (o : Int) (F : List Fact) (S : Int) (k : Nat) (c : Int) : eAt (lng o F) S k c = eAt F (S * o) k c := by
  unfold eAt
  rw [rd_lng, sz_lng]
  rfl
theorem eBy_lng (o : Int) (F : List Fact) (k : Nat) (c : Int) : eBy (lng o F) k c = eBy F k c := by
  unfold eBy
  rw [rd_lng]
  rfl
theorem node_lng (o : Int) (F : List Fact) (S : Int) (k : Nat) (i : Int) : node (lng o F) S k i = node F (S * o) k i := by
  unfold node
  rw [rd_lng, sz_lng]
  rfl
theorem legsC_lng (o : Int) (F : List Fact) (S : Int) (g : Nat) (p : Int) : ∀ (l : List Nat) (c : Int), legsC (lng o F) S g p c l = legsC F (S * o) g p c l
  | [], c => by rw [legsC_nil, legsC_nil, eAt_lng]
  | k :: l, c => by
    by_cases h : k = g
    · subst h
      rw [legsC_g, legsC_g, legsC_lng o F S k p l]
    · rw [legsC_k h, legsC_k h, eAt_lng, eAt_lng, eBy_lng, legsC_lng o F S g p l]
theorem up_lng (o : Int) (F : List Fact) (g k : Nat) : up (lng o F) g k = up F g k := by
  unfold up
  rw [rd_lng, rd_lng]
  show (if k ∈ tr (lng o F) (rd F k).1 (rd F g).1 then (rd F k).2.1 else (rd F k).1) = _
  rw [tr_lng]
theorem legsP_lng (o : Int) (F : List Fact) (S : Int) (g : Nat) (p : Int) (k : Nat) (i : Int) : legsP (lng o F) S g p k i = legsP F (S * o) g p k i := by
  unfold legsP
  rw [up_lng, eAt_lng, rd_lng]
  show (if k = g then _ else (k, i, _) :: legsC (lng o F) S g p (up F g k) (tr (lng o F) (up F g k) (rd F g).1)) = _
  rw [tr_lng, legsC_lng]
theorem hP_lng (o : Int) (F : List Fact) (S : Int) (g : Nat) (p : Int) (k : Nat) (i : Int) : hP (lng o F) S g p k i = hP F (S * o) g p k i := by
  unfold hP
  rw [legsP_lng]
end OT
set_option Elab.async false
set_option linter.all false
set_option maxRecDepth 100000
set_option maxHeartbeats 4000000
namespace OT
open PySem L2 OTR
theorem mkPl0 {F : List Fact} {s : Int} {k : Nat} {i : Int} (hs : 1 ≤ s) (o : On F s k i) : PlE F s (low (((k : Nat) : Int), i, s)) k i := by
  obtain ⟨d, d0, e1, e2⟩ := low_back (r := (((k : Nat) : Int), i, s)) hs
  have lo := low_low (r := (((k : Nat) : Int), i, s)) hs
  exact ⟨rfl, ⟨d, d0, e2, e1⟩, o, lo.1, lo.2⟩
theorem PlE.keyF {F : List Fact} {S : Int} {r : Fact} {k : Nat} {i : Int} (h : PlE F S r k i) : OT.keyF F r.2.2 (node F r.2.2 r.1.toNat r.2.1) = OT.keyF F S (node F S k i) := by
  obtain ⟨d, d0, e1, e2⟩ := h.d
  rw [h.rd, Int.toNat_natCast, e2]
  conv => rhs; rw [e1]
  rw [keyF_node_mul d0]
/-- a key, as a step of S to the step -/
theorem key_ple {n : Int} {F : List Fact} {S : Int} (T : TreeM n F) (n2 : 2 ≤ n) (hS : 1 ≤ S) {u : Nd} (ou : OnT F S u) : ∃ kk ii, PlE F S (OT.keyF F S u) kk ii ∧ node F S kk ii = u := by
  obtain ⟨k, i, o, rfl⟩ := ou
  cases e : node F S k i with
  | cr c =>
    have ic : In n c := by
      obtain ⟨e1, _⟩ := node_cr T hS o.1 e
      have o := rd_ok T o.1
      rcases e1 with e1 | e1
      · exact e1 ▸ o.1
      · exact e1 ▸ o.2.1
    obtain ⟨f1, f2, f3⟩ := fstR_spec T ic n2
    refine ⟨fstR F c, eAt F S (fstR F c) c, ⟨rfl, ⟨S, by omega, ?_, ?_⟩, eAt_on T hS f1 c, Int.le_refl 1, low_one _ _⟩, node_eAt T hS f1 f2⟩
    · show S = 1 * S
      rw [Int.one_mul]
    · show eAt F S (fstR F c) c = eAt F 1 (fstR F c) c * S
      rw [← eAt_mul, Int.one_mul]
  | mid k2 i2 =>
    have e2 : k2 = k ∧ i2 = i := by
      unfold node at e
      split at e
      · cases e
      · split at e
        · cases e
        · cases e
          exact ⟨rfl, rfl⟩
    obtain ⟨rfl, rfl⟩ := e2
    exact ⟨k2, i2, mkPl0 hS o, e⟩
end OT
set_option Elab.async false
set_option linter.all false
set_option maxRecDepth 100000
set_option maxHeartbeats 4000000
namespace OT
open PySem L2 OTR
/-- a position's name: a road and a number on it -/
def nqk (F : List Fact) (S : Int) : Nd → Nat × Int
  | .cr c => (fstR F c, eAt F S (fstR F c) c)
  | .mid k i => (k, i)
theorem nqk_on {n : Int} {F : List Fact} {S : Int} (T : TreeM n F) (n2 : 2 ≤ n) (hS : 1 ≤ S) {u : Nd} (o : OnT F S u) : On F S (nqk F S u).1 (nqk F S u).2 ∧ node F S (nqk F S u).1 (nqk F S u).2 = u := by
  obtain ⟨k, i, o, rfl⟩ := o
  cases e : node F S k i with
  | cr c =>
    have ic : In n c := by
      obtain ⟨e1, _⟩ := node_cr T hS o.1 e
      have o := rd_ok T o.1
      rcases e1 with e1 | e1
      · exact e1 ▸ o.1
      · exact e1 ▸ o.2.1
    obtain ⟨f1, f2, f3⟩ := fstR_spec T ic n2
    exact ⟨eAt_on T hS f1 c, node_eAt T hS f1 f2⟩
  | mid k2 i2 =>
    have e' := e
    unfold node at e'
    split at e'
    · cases e'
    · split at e'
      · cases e'
      · cases e'
        exact ⟨o, e⟩
theorem nqk_inj {n : Int} {F : List Fact} {S : Int} (T : TreeM n F) (n2 : 2 ≤ n) (hS : 1 ≤ S) {u v : Nd} (ou : OnT F S u) (ov : OnT F S v) (e : nqk F S u = nqk F S v) : u = v := by
  rw [← (nqk_on T n2 hS ou).2, ← (nqk_on T n2 hS ov).2, e]
/-- at t the pair of a road and a number -/
def PrAt (H : Hp) (t : Addr) (x : Nat × Int) : Prop := H t = some (.tup [.int (x.1 : Nat), .int x.2])
theorem PrAt.same {H H' : Hp} {t : Addr} {x : Nat × Int} (h : PrAt H t x) (s : Same H H') : PrAt H' t x := s _ _ h
end OT
set_option Elab.async false
set_option linter.all false
set_option maxRecDepth 100000
set_option maxHeartbeats 4000000
namespace OT
open PySem L2 OTR
def d2 (x : Nat × Int) : PyData := .tuple [.int (x.1 : Nat), .int x.2]
/-- the list of neighbours as far as it is found -/
structure NrAt (F : List Fact) (u : Nd) (D : Addr) (H G : Hp) (ys : List Addr) (ws : List Nd) : Prop where
  same : Same H G
  at_ : G D = some (.lst (ys.map V.ref))
  pr : Paired (fun t v => Adj F 1 u v ∧ PrAt G t (nqk F 1 v)) ys ws
theorem NrAt.keep {F : List Fact} {u : Nd} {D : Addr} {H G G' : Hp} {ys : List Addr} {ws : List Nd} (N : NrAt F u D H G ys ws) (s : Same G G') : NrAt F u D H G' ys ws :=
  ⟨N.same.trans s, s _ _ N.at_, Paired.mapP N.pr fun _ _ h => ⟨h.1, h.2.same s⟩⟩
theorem PrAt.put {G : Hp} {D t : Addr} {xs ys : List V} {x : Nat × Int} (h : PrAt G t x) (hD : G D = some (.lst xs)) : PrAt (upd G D (.lst ys)) t x := by
  unfold PrAt at h ⊢
  rw [upd_ne (ne_of h hD (fun z => nomatch z))]
  exact h
theorem NrAt.push {F : List Fact} {u v : Nd} {D t : Addr} {H G : Hp} {ys : List Addr} {ws : List Nd} (N : NrAt F u D H G ys ws) (hD : H D = none) (a : Adj F 1 u v) (p : PrAt G t (nqk F 1 v)) : NrAt F u D H (upd G D (.lst (ys.map V.ref ++ [.ref t]))) (ys ++ [t]) (ws ++ [v]) :=
  ⟨fun b o e => by rw [upd_ne (ne_of_none e hD)]; exact N.same b o e, by rw [List.map_append]; exact upd_same, paired_app (Paired.mapP N.pr fun _ _ h => ⟨h.1, h.2.put N.at_⟩) (.cons ⟨a, p.put N.at_⟩ .nil)⟩
/-- which neighbours have been found -/
def NbK (F : List Fact) (u : Nd) (k : Nat) (a : Int) (ws : List Nd) : Prop := ∀ b, On F 1 k b → (b = a + 1 ∨ b = a - 1) → node F 1 k a = u → node F 1 k b ∈ ws
theorem NbK.mono {F : List Fact} {u : Nd} {k : Nat} {a : Int} {ws ws' : List Nd} (h : NbK F u k a ws) (s : ∀ x ∈ ws, x ∈ ws') : NbK F u k a ws' := fun b o e z => s _ (h b o e z)
end OT
set_option Elab.async false
set_option linter.all false
set_option maxRecDepth 100000
set_option maxHeartbeats 4000000
namespace OT
open PySem L2 OTR
theorem small6 {n : Nat} (h : n ≤ 10000000) : n < sizeLine := by rw [PySem.sizeLine_eq]; omega
theorem nk_inj : ∀ {u v : Nd}, nk u = nk v → u = v
  | .cr a, .cr b, e => by rw [Sum.inl.inj e]
  | .cr a, .mid k i, e => nomatch e
  | .mid k i, .cr b, e => nomatch e
  | .mid k i, .mid l j, e => by
    have e1 := Sum.inr.inj e
    have e2 := (List.cons.inj e1).1
    have e3 := (List.cons.inj (List.cons.inj e1).2).1
    have e4 := Sum.inl.inj e2
    have e5 := Sum.inl.inj e3
    have e6 : k = l := by omega
    rw [e5, e6]
/-- what the net is so far: Dn tells which neighbours have been put -/
structure NetK (P : Program) (w : World) (H0 : Hp) (F : List Fact) (S : Int) (H : Hp) (d : Addr) (kvs : List (MKy × V)) (Dn : Nd → Nd → Prop) (c : Nat) : Prop where
  at_ : MixAt P w H d kvs
  len : kvs.length ≤ c
  sep : ∀ u l, valV kvs (nk u) = some (.ref l) → H0 l = none
  has : ∀ u v, Dn u v → ∃ l vs y, valV kvs (nk u) = some (.ref l) ∧ H l = some (.lst vs) ∧ y ∈ vs ∧ KeyM H (nk v) y
  ok : ∀ u x, valV kvs (nk u) = some x → ∃ l vs, x = .ref l ∧ H l = some (.lst vs) ∧ vs.length ≤ c ∧ ∀ y ∈ vs, ∃ v, Adj F S u v ∧ KeyM H (nk v) y
section
variable {P : Program} {w : World} {H0 : Hp} {F : List Fact} {S : Int} {H H' : Hp} {d : Addr} {kvs : List (MKy × V)} {Dn Dm : Nd → Nd → Prop} {c : Nat}
theorem NetK.same (N : NetK P w H0 F S H d kvs Dn c) (s : Same H H') : NetK P w H0 F S H' d kvs Dn c :=
  ⟨N.at_.keep (fun o e => s _ _ e) (fun b xs e => s _ _ e), N.len, N.sep, fun u v x => let ⟨l, vs, y, h1, h2, h3, h4⟩ := N.has u v x; ⟨l, vs, y, h1, s _ _ h2, h3, h4.keep fun b xs e => s _ _ e⟩,
    fun u x e => let ⟨l, vs, h1, h2, h3, h4⟩ := N.ok u x e; ⟨l, vs, h1, s _ _ h2, h3, fun y hy => let ⟨v, a, b⟩ := h4 y hy; ⟨v, a, b.keep fun b xs e => s _ _ e⟩⟩⟩
theorem NetK.weak (N : NetK P w H0 F S H d kvs Dn c) (h : ∀ u v, Dm u v → Dn u v) {c' : Nat} (hc : c ≤ c') : NetK P w H0 F S H d kvs Dm c' :=
  ⟨N.at_, Nat.le_trans N.len hc, N.sep, fun u v x => N.has u v (h u v x), fun u x e => let ⟨l, vs, h1, h2, h3, h4⟩ := N.ok u x e; ⟨l, vs, h1, h2, Nat.le_trans h3 hc, h4⟩⟩
/-- what get(u, []) gives -/
def Got (H : Hp) (kvs : List (MKy × V)) (u : Nd) (vs : List V) : Prop := (∀ x, valV kvs (nk u) = some x → ∃ l, x = .ref l ∧ H l = some (.lst vs)) ∧ (valV kvs (nk u) = none → vs = [])
theorem NetK.put (N : NetK P w H0 F S H d kvs Dn c) {u v : Nd} {vs : List V} {y : V} {l2 : Addr} {ob : HO} (g : Got H kvs u vs) (e2 : H l2 = some (.lst (vs ++ [y]))) (ky : KeyM H (nk v) y) (a : Adj F S u v) (fr : H0 l2 = none)
    (m : MixAt P w (upd H d ob) d (putK kvs (nk u) (.ref l2))) : NetK P w H0 F S (upd H d ob) d (putK kvs (nk u) (.ref l2)) (fun x z => Dn x z ∨ (x = u ∧ z = v)) (c + 1) := by
  obtain ⟨ent, ed, _⟩ := id N.at_
  have st : ∀ b o, H b = some o → o ≠ HO.ext (DictM P w d ent) → upd H d ob b = some o := fun b o e ne => by
    rw [upd_ne (ne_of e ed ne)]
    exact e
  have sl : ∀ {b : Addr} {xs : List V}, H b = some (.lst xs) → upd H d ob b = some (.lst xs) := fun e => st _ _ e fun z => nomatch z
  have sk : ∀ {k : MKy} {y : V}, KeyM H k y → KeyM (upd H d ob) k y := fun x => x.keep (upd_keep ed)
  have vl : vs.length ≤ c := by
    cases e : valV kvs (nk u) with
    | none => rw [g.2 e]; exact Nat.zero_le _
    | some x =>
      obtain ⟨l, rfl, h1⟩ := g.1 x e
      obtain ⟨l', vs', h2, h3, h4, _⟩ := N.ok u _ e
      cases h2
      rw [h1] at h3
      cases h3
      exact h4
  refine ⟨m, Nat.le_trans (length_putK _ _ _) (Nat.succ_le_succ N.len), fun x l h => ?_, fun x z h => ?_, fun x e he => ?_⟩
  · rw [valV_put] at h
    by_cases q : x = u
    · subst q
      rw [if_pos rfl] at h
      cases h
      exact fr
    · rw [if_neg fun z => q (nk_inj z)] at h
      exact N.sep x l h
  · by_cases q : x = u
    · subst q
      refine ⟨l2, vs ++ [y], ?_⟩
      rw [valV_put, if_pos rfl]
      rcases h with h | ⟨_, rfl⟩
      · obtain ⟨l, vs', y', h1, h2, h3, h4⟩ := N.has x z h
        obtain ⟨l', h5, h6⟩ := g.1 _ h1
        cases h5
        rw [h2] at h6
        cases h6
        exact ⟨y', rfl, sl e2, List.mem_append_left _ h3, sk h4⟩
      · exact ⟨y, rfl, sl e2, List.mem_append_right _ (List.mem_singleton.mpr rfl), sk ky⟩
    · rcases h with h | ⟨h, _⟩
      · obtain ⟨l, vs', y', h1, h2, h3, h4⟩ := N.has x z h
        refine ⟨l, vs', y', ?_, sl h2, h3, sk h4⟩
        rw [valV_put, if_neg fun z => q (nk_inj z)]
        exact h1
      · exact absurd h q
  · rw [valV_put] at he
    by_cases q : x = u
    · subst q
      rw [if_pos rfl] at he
      cases he
      refine ⟨l2, vs ++ [y], rfl, sl e2, by rw [List.length_append]; exact Nat.succ_le_succ vl, fun y' hy => ?_⟩
      rcases List.mem_append.mp hy with h | h
      · cases e : valV kvs (nk x) with
        | none => rw [g.2 e] at h; cases h
        | some x' =>
          obtain ⟨l, rfl, h1⟩ := g.1 x' e
          obtain ⟨l', vs', h2, h3, _, h4⟩ := N.ok x _ e
          cases h2
          rw [h1] at h3
          cases h3
          obtain ⟨v', h5, h6⟩ := h4 y' h
          exact ⟨v', h5, sk h6⟩
      · rw [List.mem_singleton.mp h]
        exact ⟨v, a, sk ky⟩
    · rw [if_neg fun z => q (nk_inj z)] at he
      obtain ⟨l, vs', h1, h2, h3, h4⟩ := N.ok x e he
      exact ⟨l, vs', h1, sl h2, Nat.le_succ_of_le h3, fun y' hy => let ⟨v', h5, h6⟩ := h4 y' hy; ⟨v', h5, sk h6⟩⟩
end
/-- all that is but for s, which was there ahead of the net -/
theorem NetK.but {P : Program} {w : World} {H0 : Hp} {F : List Fact} {S : Int} {H H' : Hp} {d s : Addr} {kvs : List (MKy × V)} {Dn : Nd → Nd → Prop} {c : Nat} (N : NetK P w H0 F S H d kvs Dn c) (h0 : H0 s ≠ none) (sr : Src H s) (b : But s H H') : NetK P w H0 F S H' d kvs Dn c := by
  obtain ⟨x, y, z, _, hs⟩ := sr
  have tp : ∀ b' xs, H b' = some (.tup xs) → H' b' = some (.tup xs) := fun b' xs e => b b' _ e (ne_of e hs fun z => nomatch z)
  have nl : ∀ {u : Nd} {l : Addr}, valV kvs (nk u) = some (.ref l) → l ≠ s := fun e z => h0 (z ▸ N.sep _ _ e)
  refine ⟨N.at_.keep (fun o e => ?_) tp, N.len, N.sep, fun u v x => ?_, fun u x e => ?_⟩
  · obtain ⟨ent, ed, _⟩ := N.at_
    exact b _ _ e (ne_of ed hs fun z => nomatch z)
  · obtain ⟨l, vs, y, h1, h2, h3, h4⟩ := N.has u v x
    exact ⟨l, vs, y, h1, b _ _ h2 (nl h1), h3, h4.keep tp⟩
  · obtain ⟨l, vs, rfl, h2, h3, h4⟩ := N.ok u x e
    exact ⟨l, vs, rfl, b _ _ h2 (nl e), h3, fun y hy => let ⟨v, a, c⟩ := h4 y hy; ⟨v, a, c.keep tp⟩⟩
end OT
set_option Elab.async false
set_option linter.all false
set_option maxRecDepth 100000
set_option maxHeartbeats 4000000
namespace OT
open PySem L2 OTR
theorem KeyM.inj {H : Hp} {k l : MKy} {y : V} (a : KeyM H k y) (b : KeyM H l y) : k = l := by
  cases k with
  | inl i =>
    obtain rfl := (show y = .int i from a)
    cases l with
    | inl j => rw [V.int.inj (show V.int i = V.int j from b)]
    | inr ls =>
      obtain ⟨c, e, _⟩ := b
      exact nomatch e
  | inr ks =>
    obtain ⟨c, rfl, h⟩ := a
    cases l with
    | inl j => exact nomatch (show V.ref c = V.int j from b)
    | inr ls =>
      obtain ⟨c', e, h'⟩ := b
      cases e
      rw [h] at h'
      rw [kVs_inj (HO.tup.inj (Option.some.inj h'))]
theorem mix_nodup {P : Program} {w : World} {H : Hp} {d : Addr} {kvs : List (MKy × V)} (m : MixAt P w H d kvs) : (kvs.map (·.1)).Nodup := by
  obtain ⟨ent, _, _, _, e, _, nd⟩ := m
  rw [← e, List.map_map]
  exact nd
theorem val_mem {kvs : List (MKy × V)} {k : MKy} : (valV kvs k).isSome = true ↔ k ∈ kvs.map (·.1) := by
  rw [← valV_any, List.any_eq_true]
  constructor
  · rintro ⟨x, hx, e⟩
    exact List.mem_map.mpr ⟨x, hx, of_decide_eq_true e⟩
  · intro h
    obtain ⟨x, hx, e⟩ := List.mem_map.mp h
    exact ⟨x, hx, decide_eq_true e⟩
/-- what has been found of the ways to the place p of the road g; W waits; the neighbours of what op tells need not be found yet -/
structure PathK (P : Program) (w : World) (F : List Fact) (S : Int) (g : Nat) (p : Int) (H : Hp) (f : Addr) (kvs : List (MKy × V)) (W : List V) (op : Nd → Prop) : Prop where
  at_ : MixAt P w H f kvs
  key : ∀ k ∈ kvs.map (·.1), ∃ u, k = nk u ∧ OnT F S u
  ok : ∀ u x, valV kvs (nk u) = some x → ∃ t z, x = .ref t ∧ H t = some (.tup [.int (hN F S g p u), z]) ∧ (hN F S g p u = 0 ∨ ∃ v, Adj F S u v ∧ hN F S g p v + 1 = hN F S g p u ∧ KeyM H (nk v) z ∧ (valV kvs (nk v)).isSome = true)
  wt : ∀ y ∈ W, ∃ u, KeyM H (nk u) y ∧ (valV kvs (nk u)).isSome = true
  cl : ∀ u, (valV kvs (nk u)).isSome = true → op u ∨ (∃ y ∈ W, KeyM H (nk u) y) ∨ ∀ v, Adj F S u v → (valV kvs (nk v)).isSome = true
  aim : (valV kvs (nk (node F S g p))).isSome = true
section
variable {P : Program} {w : World} {F : List Fact} {S : Int} {g : Nat} {p : Int} {H H' : Hp} {f : Addr} {kvs : List (MKy × V)} {W : List V} {op : Nd → Prop}
theorem PathK.len (N : PathK P w F S g p H f kvs W op) : kvs.length ≤ (nodesL F S).length := by
  have h := nodup_len (l := kvs.map (·.1)) (m := (nodesL F S).map nk) (mix_nodup N.at_) fun k hk => by
    obtain ⟨u, rfl, o⟩ := N.key k hk
    exact List.mem_map.mpr ⟨u, mem_nodes o, rfl⟩
  rw [List.length_map, List.length_map] at h
  exact h
theorem PathK.on (N : PathK P w F S g p H f kvs W op) {u : Nd} (h : (valV kvs (nk u)).isSome = true) : OnT F S u := by
  obtain ⟨v, e, o⟩ := N.key _ (val_mem.mp h)
  rw [nk_inj e]
  exact o
theorem PathK.keep (N : PathK P w F S g p H f kvs W op) (m : MixAt P w H' f kvs) (tp : ∀ b xs, H b = some (.tup xs) → H' b = some (.tup xs)) : PathK P w F S g p H' f kvs W op :=
  ⟨m, N.key, fun u x e => let ⟨t, z, h1, h2, h3⟩ := N.ok u x e; ⟨t, z, h1, tp _ _ h2, h3.elim .inl fun ⟨v, a, b, c, d⟩ => .inr ⟨v, a, b, c.keep tp, d⟩⟩,
    fun y hy => let ⟨u, a, b⟩ := N.wt y hy; ⟨u, a.keep tp, b⟩, fun u h => (N.cl u h).elim .inl fun h => .inr (h.elim (fun ⟨y, a, b⟩ => .inl ⟨y, a, b.keep tp⟩) .inr), N.aim⟩
theorem PathK.done {u : Nd} (N : PathK P w F S g p H f kvs W fun x => x = u) (h : ∀ v, Adj F S u v → (valV kvs (nk v)).isSome = true) : PathK P w F S g p H f kvs W fun _ => False :=
  ⟨N.at_, N.key, N.ok, N.wt, fun x hx => by
    rcases N.cl x hx with e | e
    · subst e
      exact .inr (.inr h)
    · exact .inr e, N.aim⟩
theorem PathK.add {n : Int} (T : TreeM n F) (hS : 1 ≤ S) (hg : On F S g p) (N : PathK P w F S g p H f kvs W op) {u v : Nd} {yu yv : V} {t : Addr} (fu : (valV kvs (nk u)).isSome = true) (a : Adj F S u v) (nv : valV kvs (nk v) = none) (tp : ∀ b xs, H b = some (.tup xs) → H' b = some (.tup xs))
    (et : H' t = some (.tup [.int (hN F S g p u + 1), yu])) (ku : KeyM H' (nk u) yu) (kv : KeyM H' (nk v) yv) (m : MixAt P w H' f (putK kvs (nk v) (.ref t))) : PathK P w F S g p H' f (putK kvs (nk v) (.ref t)) (W ++ [yv]) op ∧ (putK kvs (nk v) (.ref t)).length = kvs.length + 1 := by
  have oV := a.on.2
  have hv : hN F S g p v = hN F S g p u + 1 := by
    rcases adj_step T hS hg a with h | h
    · exact h
    · obtain ⟨x, hx⟩ := Option.isSome_iff_exists.mp fu
      obtain ⟨t, z, _, _, h3⟩ := N.ok u x hx
      rcases h3 with h3 | ⟨v', a', b', _, d'⟩
      · have := hN_nn T hS hg oV
        omega
      · have e := lower_uniq T hS hg a a' (by omega) b'
        subst e
        rw [nv] at d'
        cases d'
  have mono : ∀ {x : Nd}, (valV kvs (nk x)).isSome = true → (valV (putK kvs (nk v) (.ref t)) (nk x)).isSome = true := fun {x} h => by
    rw [valV_put]
    split
    · rfl
    · exact h
  have self : (valV (putK kvs (nk v) (.ref t)) (nk v)).isSome = true := by rw [valV_put, if_pos rfl]; rfl
  have ek : putK kvs (nk v) (.ref t) = kvs ++ [(nk v, .ref t)] := putK_new _ nv
  refine ⟨⟨m, fun k hk => ?_, fun x z hz => ?_, fun y hy => ?_, fun x hx => ?_, mono N.aim⟩, by rw [ek, List.length_append]; rfl⟩
  · rw [ek, List.map_append] at hk
    rcases List.mem_append.mp hk with h | h
    · exact N.key k h
    · exact ⟨v, List.mem_singleton.mp h, oV⟩
  · rw [valV_put] at hz
    by_cases e : x = v
    · subst e
      rw [if_pos rfl] at hz
      cases hz
      rw [hv]
      exact ⟨t, yu, rfl, et, .inr ⟨u, a.symm, rfl, ku, mono fu⟩⟩
    · rw [if_neg fun z => e (nk_inj z)] at hz
      obtain ⟨t', z', h1, h2, h3⟩ := N.ok x z hz
      exact ⟨t', z', h1, tp _ _ h2, h3.elim .inl fun ⟨v', a', b', c', d'⟩ => .inr ⟨v', a', b', c'.keep tp, mono d'⟩⟩
  · rcases List.mem_append.mp hy with h | h
    · obtain ⟨x, h1, h2⟩ := N.wt y h
      exact ⟨x, h1.keep tp, mono h2⟩
    · rw [List.mem_singleton.mp h]
      exact ⟨v, kv, self⟩
  · by_cases e : x = v
    · subst e
      exact .inr (.inl ⟨yv, List.mem_append_right _ (List.mem_singleton.mpr rfl), kv⟩)
    · have hx' : (valV kvs (nk x)).isSome = true := by
        rw [valV_put, if_neg fun z => e (nk_inj z)] at hx
        exact hx
      rcases N.cl x hx' with h | ⟨y, h1, h2⟩ | h
      · exact .inl h
      · exact .inr (.inl ⟨y, List.mem_append_left _ h1, h2.keep tp⟩)
      · exact .inr (.inr fun z az => mono (h z az))
end
/-- the ways to a place: each node's distance, and the next node -/
structure WaysAt (P : Program) (w : World) (F : List Fact) (S : Int) (g : Nat) (p : Int) (H : Hp) (f : Addr) (kvs : List (MKy × V)) : Prop where
  at_ : MixAt P w H f kvs
  ok : ∀ u, OnT F S u → ∃ t z, valV kvs (nk u) = some (.ref t) ∧ H t = some (.tup [.int (hN F S g p u), z]) ∧ (hN F S g p u = 0 ∨ ∃ v, Adj F S u v ∧ hN F S g p v + 1 = hN F S g p u ∧ KeyM H (nk v) z)
theorem WaysAt.same {P : Program} {w : World} {F : List Fact} {S : Int} {g : Nat} {p : Int} {H H' : Hp} {f : Addr} {kvs : List (MKy × V)} (N : WaysAt P w F S g p H f kvs) (s : Same H H') : WaysAt P w F S g p H' f kvs :=
  ⟨N.at_.keep (fun o e => s _ _ e) (fun b xs e => s _ _ e), fun u o => let ⟨t, z, a, b, c⟩ := N.ok u o; ⟨t, z, a, s _ _ b, c.elim .inl fun ⟨v, h1, h2, h3⟩ => .inr ⟨v, h1, h2, h3.keep fun b xs e => s _ _ e⟩⟩⟩
end OT
set_option Elab.async false
set_option linter.all false
set_option maxRecDepth 100000
set_option maxHeartbeats 4000000
namespace OT
open PySem L2 OTR
/-- a position as a dict's key -/
def nq (F : List Fact) (S : Int) (u : Nd) : MKy := .inr [.inl (((nqk F S u).1 : Nat) : Int), .inl (nqk F S u).2]
theorem nq_inj {n : Int} {F : List Fact} {S : Int} (T : TreeM n F) (n2 : 2 ≤ n) (hS : 1 ≤ S) {u v : Nd} (ou : OnT F S u) (ov : OnT F S v) (e : nq F S u = nq F S v) : u = v := by
  refine nqk_inj T n2 hS ou ov ?_
  unfold nq at e
  have e1 := List.cons.inj (Sum.inr.inj e)
  have e2 := List.cons.inj e1.2
  have h1 := Sum.inl.inj e1.1
  have h2 := Sum.inl.inj e2.1
  exact Prod.ext (by omega) h2
/-- what has been found of the ways to the place p of the road g -/
structure PathN (P : Program) (w : World) (F : List Fact) (S : Int) (g : Nat) (p : Int) (H : Hp) (f : Addr) (kvs : List (MKy × V)) (W : List V) (op : Nd → Prop) : Prop where
  at_ : MixAt P w H f kvs
  key : ∀ k ∈ kvs.map (·.1), ∃ u, k = nq F S u ∧ OnT F S u
  ok : ∀ u x, OnT F S u → valV kvs (nq F S u) = some x → ∃ t z, x = .ref t ∧ H t = some (.tup [.int (hN F S g p u), z]) ∧ (hN F S g p u = 0 ∨ ∃ v, Adj F S u v ∧ hN F S g p v + 1 = hN F S g p u ∧ KeyM H (nq F S v) z ∧ (valV kvs (nq F S v)).isSome = true)
  wt : ∀ y ∈ W, ∃ u, OnT F S u ∧ KeyM H (nq F S u) y ∧ (valV kvs (nq F S u)).isSome = true
  cl : ∀ u, OnT F S u → (valV kvs (nq F S u)).isSome = true → op u ∨ (∃ y ∈ W, KeyM H (nq F S u) y) ∨ ∀ v, Adj F S u v → (valV kvs (nq F S v)).isSome = true
  aim : (valV kvs (nq F S (node F S g p))).isSome = true
section
variable {P : Program} {w : World} {F : List Fact} {S : Int} {g : Nat} {p : Int} {H H' : Hp} {f : Addr} {kvs : List (MKy × V)} {W : List V} {op : Nd → Prop}
theorem PathN.len (N : PathN P w F S g p H f kvs W op) : kvs.length ≤ (nodesL F S).length := by
  have h := nodup_len (l := kvs.map (·.1)) (m := (nodesL F S).map (nq F S)) (mix_nodup N.at_) fun k hk => by
    obtain ⟨u, rfl, o⟩ := N.key k hk
    exact List.mem_map.mpr ⟨u, mem_nodes o, rfl⟩
  rw [List.length_map, List.length_map] at h
  exact h
theorem PathN.keep (N : PathN P w F S g p H f kvs W op) (m : MixAt P w H' f kvs) (tp : ∀ b xs, H b = some (.tup xs) → H' b = some (.tup xs)) : PathN P w F S g p H' f kvs W op :=
  ⟨m, N.key, fun u x o e => let ⟨t, z, h1, h2, h3⟩ := N.ok u x o e; ⟨t, z, h1, tp _ _ h2, h3.elim .inl fun ⟨v, a, b, c, d⟩ => .inr ⟨v, a, b, c.keep tp, d⟩⟩,
    fun y hy => let ⟨u, o, a, b⟩ := N.wt y hy; ⟨u, o, a.keep tp, b⟩, fun u o h => (N.cl u o h).elim .inl fun h => .inr (h.elim (fun ⟨y, a, b⟩ => .inl ⟨y, a, b.keep tp⟩) .inr), N.aim⟩
theorem PathN.done {u : Nd} (N : PathN P w F S g p H f kvs W fun x => x = u) (h : ∀ v, Adj F S u v → (valV kvs (nq F S v)).isSome = true) : PathN P w F S g p H f kvs W fun _ => False :=
  ⟨N.at_, N.key, N.ok, N.wt, fun x o hx => by
    rcases N.cl x o hx with e | e
    · subst e
      exact .inr (.inr h)
    · exact .inr e, N.aim⟩
theorem PathN.add {n : Int} (T : TreeM n F) (n2 : 2 ≤ n) (hS : 1 ≤ S) (hg : On F S g p) (N : PathN P w F S g p H f kvs W op) {u v : Nd} {yu yv : V} {t : Addr} (fu : (valV kvs (nq F S u)).isSome = true) (a : Adj F S u v) (nv : valV kvs (nq F S v) = none) (tp : ∀ b xs, H b = some (.tup xs) → H' b = some (.tup xs))
    (et : H' t = some (.tup [.int (hN F S g p u + 1), yu])) (ku : KeyM H' (nq F S u) yu) (kv : KeyM H' (nq F S v) yv) (m : MixAt P w H' f (putK kvs (nq F S v) (.ref t))) : PathN P w F S g p H' f (putK kvs (nq F S v) (.ref t)) (W ++ [yv]) op ∧ (putK kvs (nq F S v) (.ref t)).length = kvs.length + 1 := by
  have oU := a.on.1
  have oV := a.on.2
  have hv : hN F S g p v = hN F S g p u + 1 := by
    rcases adj_step T hS hg a with h | h
    · exact h
    · obtain ⟨x, hx⟩ := Option.isSome_iff_exists.mp fu
      obtain ⟨t, z, _, _, h3⟩ := N.ok u x oU hx
      rcases h3 with h3 | ⟨v', a', b', _, d'⟩
      · have := hN_nn T hS hg oV
        omega
      · have e := lower_uniq T hS hg a a' (by omega) b'
        subst e
        rw [nv] at d'
        cases d'
  have mono : ∀ {x : Nd}, (valV kvs (nq F S x)).isSome = true → (valV (putK kvs (nq F S v) (.ref t)) (nq F S x)).isSome = true := fun {x} h => by
    rw [valV_put]
    split
    · rfl
    · exact h
  have self : (valV (putK kvs (nq F S v) (.ref t)) (nq F S v)).isSome = true := by rw [valV_put, if_pos rfl]; rfl
  have ek : putK kvs (nq F S v) (.ref t) = kvs ++ [(nq F S v, .ref t)] := putK_new _ nv
  refine ⟨⟨m, fun k hk => ?_, fun x z o hz => ?_, fun y hy => ?_, fun x o hx => ?_, mono N.aim⟩, by rw [ek, List.length_append]; rfl⟩
  · rw [ek, List.map_append] at hk
    rcases List.mem_append.mp hk with h | h
    · exact N.key k h
    · exact ⟨v, List.mem_singleton.mp h, oV⟩
  · rw [valV_put] at hz
    by_cases e : x = v
    · subst e
      rw [if_pos rfl] at hz
      cases hz
      rw [hv]
      exact ⟨t, yu, rfl, et, .inr ⟨u, a.symm, rfl, ku, mono fu⟩⟩
    · rw [if_neg fun z => e (nq_inj T n2 hS o oV z)] at hz
      obtain ⟨t', z', h1, h2, h3⟩ := N.ok x z o hz
      exact ⟨t', z', h1, tp _ _ h2, h3.elim .inl fun ⟨v', a', b', c', d'⟩ => .inr ⟨v', a', b', c'.keep tp, mono d'⟩⟩
  · rcases List.mem_append.mp hy with h | h
    · obtain ⟨x, o, h1, h2⟩ := N.wt y h
      exact ⟨x, o, h1.keep tp, mono h2⟩
    · rw [List.mem_singleton.mp h]
      exact ⟨v, oV, kv, self⟩
  · by_cases e : x = v
    · subst e
      exact .inr (.inl ⟨yv, List.mem_append_right _ (List.mem_singleton.mpr rfl), kv⟩)
    · have hx' : (valV kvs (nq F S x)).isSome = true := by
        rw [valV_put, if_neg fun z => e (nq_inj T n2 hS o oV z)] at hx
        exact hx
      rcases N.cl x o hx' with h | ⟨y, h1, h2⟩ | h
      · exact .inl h
      · exact .inr (.inl ⟨y, List.mem_append_left _ h1, h2.keep tp⟩)
      · exact .inr (.inr fun z az => mono (h z az))
end
/-- the ways to a place: each position's distance, and the next position -/
structure WayN (P : Program) (w : World) (F : List Fact) (S : Int) (g : Nat) (p : Int) (H : Hp) (f : Addr) (kvs : List (MKy × V)) : Prop where
  at_ : MixAt P w H f kvs
  ok : ∀ u, OnT F S u → ∃ t z, valV kvs (nq F S u) = some (.ref t) ∧ H t = some (.tup [.int (hN F S g p u), z]) ∧ (hN F S g p u = 0 ∨ ∃ v, Adj F S u v ∧ hN F S g p v + 1 = hN F S g p u ∧ KeyM H (nq F S v) z)
theorem WayN.same {P : Program} {w : World} {F : List Fact} {S : Int} {g : Nat} {p : Int} {H H' : Hp} {f : Addr} {kvs : List (MKy × V)} (N : WayN P w F S g p H f kvs) (s : Same H H') : WayN P w F S g p H' f kvs :=
  ⟨N.at_.keep (fun o e => s _ _ e) (fun b xs e => s _ _ e), fun u o => let ⟨t, z, a, b, c⟩ := N.ok u o; ⟨t, z, a, s _ _ b, c.elim .inl fun ⟨v, h1, h2, h3⟩ => .inr ⟨v, h1, h2, h3.keep fun b xs e => s _ _ e⟩⟩⟩
end OT
set_option Elab.async false
set_option linter.all false
set_option maxRecDepth 100000
set_option maxHeartbeats 4000000
namespace OT
open PySem L2 OTR
/-- the list of all positions' names as far as it is found: those before the number j of the road i -/
structure PsAt (F : List Fact) (D : Addr) (H G : Hp) (ys : List Addr) (us : List Nd) (i : Nat) (j : Int) : Prop where
  same : Same H G
  at_ : G D = some (.lst (ys.map V.ref))
  pr : Paired (fun t u => OnT F 1 u ∧ PrAt G t (nqk F 1 u)) ys us
  nd : us.Nodup
  lt : ∀ u ∈ us, (nqk F 1 u).1 < i ∨ ((nqk F 1 u).1 = i ∧ (nqk F 1 u).2 < j)
  all : ∀ k a, On F 1 k a → (k < i ∨ (k = i ∧ a < j)) → nqk F 1 (node F 1 k a) = (k, a) → node F 1 k a ∈ us
theorem paired_mem {α β : Type} {R : α → β → Prop} : ∀ {as : List α} {bs : List β}, Paired R as bs → ∀ b ∈ bs, ∃ a, R a b
  | _, _, .nil, b, h => by cases h
  | _, _, .cons x r, b, h => by
    rcases List.mem_cons.mp h with rfl | h
    · exact ⟨_, x⟩
    · exact paired_mem r b h
theorem PsAt.len {F : List Fact} {D : Addr} {H G : Hp} {ys : List Addr} {us : List Nd} {i : Nat} {j : Int} (N : PsAt F D H G ys us i j) : ys.length ≤ (nodesL F 1).length := by
  rw [Paired.length N.pr]
  exact nodup_len N.nd fun u hu => let ⟨_, o, _⟩ := paired_mem N.pr u hu; mem_nodes o
theorem PsAt.keep {F : List Fact} {D : Addr} {H G G' : Hp} {ys : List Addr} {us : List Nd} {i : Nat} {j : Int} (N : PsAt F D H G ys us i j) (s : Same G G') : PsAt F D H G' ys us i j :=
  ⟨N.same.trans s, s _ _ N.at_, Paired.mapP N.pr fun _ _ h => ⟨h.1, h.2.same s⟩, N.nd, N.lt, N.all⟩
theorem PsAt.push {F : List Fact} {D t : Addr} {H G : Hp} {ys : List Addr} {us : List Nd} {i : Nat} {j : Int} (N : PsAt F D H G ys us i j) (hD : H D = none) (o : On F 1 i j) (e : nqk F 1 (node F 1 i j) = (i, j)) (p : PrAt G t (i, j)) : PsAt F D H (upd G D (.lst (ys.map V.ref ++ [.ref t]))) (ys ++ [t]) (us ++ [node F 1 i j]) i (j + 1) := by
  refine ⟨fun b o e => by rw [upd_ne (ne_of_none e hD)]; exact N.same b o e, by rw [List.map_append]; exact upd_same, paired_app (Paired.mapP N.pr fun _ _ h => ⟨h.1, h.2.put N.at_⟩) (.cons ⟨⟨i, j, o, rfl⟩, by rw [e]; exact p.put N.at_⟩ .nil), ?_, fun u hu => ?_, fun k a oa h ea => ?_⟩
  · rw [List.nodup_append]
    refine ⟨N.nd, by simp, fun a ha b hb z => ?_⟩
    rw [List.mem_singleton.mp hb] at z
    subst z
    have := N.lt _ ha
    rw [e] at this
    rcases this with h | h
    · exact absurd h (Nat.lt_irrefl _)
    · exact absurd h.2 (Int.lt_irrefl _)
  · rcases List.mem_append.mp hu with h | h
    · exact (N.lt u h).elim .inl fun h => .inr ⟨h.1, by omega⟩
    · rw [List.mem_singleton.mp h, e]
      exact .inr ⟨rfl, by show j < j + 1; omega⟩
  · by_cases z : k = i ∧ a = j
    · obtain ⟨rfl, rfl⟩ := z
      exact List.mem_append_right _ (List.mem_singleton.mpr rfl)
    · exact List.mem_append_left _ (N.all k a oa (by omega) ea)
theorem PsAt.next {F : List Fact} {D : Addr} {H G : Hp} {ys : List Addr} {us : List Nd} {i : Nat} {j : Int} (N : PsAt F D H G ys us i j) (hj : sz F 1 i < j) : PsAt F D H G ys us (i + 1) 0 :=
  ⟨N.same, N.at_, N.pr, N.nd, fun u hu => (N.lt u hu).elim (fun h => .inl (by omega)) fun h => .inl (by omega), fun k a o h e => N.all k a o (by
    rcases h with h | h
    · by_cases z : k = i
      · subst z
        have := o.2.2
        exact .inr ⟨rfl, by omega⟩
      · exact .inl (by omega)
    · have := o.2.1
      omega) e⟩
end OT
set_option Elab.async false
set_option linter.all false
set_option maxRecDepth 100000
set_option maxHeartbeats 1000000
namespace OT
open PySem L2 OTR
/-- a march: the road, the distance and the parts of its goal; its steps -/
abbrev MFact := Int × Int × Int × Int
def mPl (m : MFact) : Fact := (m.1, m.2.1, m.2.2.1)
inductive ErrM where
  | marches (n : Int)
  | no (r : Int)
  | off (r : Int)
  | whole (k : Int)
  | steps (n : Int)
def RdIn (F : List Fact) (x : Int) : Prop := 0 ≤ x ∧ x < (F.length : Int)
instance (F : List Fact) (x : Int) : Decidable (RdIn F x) := by unfold RdIn; exact inferInstance
def SpIn (F : List Fact) (r : Fact) : Prop := 0 ≤ r.2.1 ∧ r.2.1 ≤ (rd F r.1.toNat).2.2 * r.2.2
instance (F : List Fact) (r : Fact) : Decidable (SpIn F r) := by unfold SpIn; exact inferInstance
def StIn (n : Int) : Prop := 1 ≤ n ∧ n ≤ 1000000000
instance (n : Int) : Decidable (StIn n) := by unfold StIn; exact inferInstance
/-- the error of the march with the number k -/
def dueO (F : List Fact) (k : Int) (m : MFact) : Option ErrM :=
  if ¬ RdIn F m.1 then some (.no m.1) else if ¬ SpIn F (mPl m) then some (.off m.1) else if m.2.1 % m.2.2.1 ≠ 0 then some (.whole k) else if ¬ StIn m.2.2.2 then some (.steps m.2.2.2) else none
def dueL (F : List Fact) : Nat → List MFact → Option ErrM
  | _, [] => none
  | k, m :: l => match dueO F (k : Nat) m with
    | some e => some e
    | none => dueL F (k + 1) l
def dueM (F : List Fact) (l : List MFact) : Option ErrM := if 24 < l.length then some (.marches l.length) else dueL F 0 l
theorem dueL_cons_some {F : List Fact} {k : Nat} {m : MFact} {l : List MFact} {e : ErrM} (h : dueO F (k : Nat) m = some e) : dueL F k (m :: l) = some e := by
  unfold dueL
  rw [h]
theorem dueL_cons_none {F : List Fact} {k : Nat} {m : MFact} {l : List MFact} (h : dueO F (k : Nat) m = none) : dueL F k (m :: l) = dueL F (k + 1) l := by
  rw [dueL, h]
theorem dueO_no {F : List Fact} {k : Int} {m : MFact} (h : ¬ RdIn F m.1) : dueO F k m = some (.no m.1) := by
  unfold dueO
  rw [if_pos h]
theorem dueO_off {F : List Fact} {k : Int} {m : MFact} (h : RdIn F m.1) (h2 : ¬ SpIn F (mPl m)) : dueO F k m = some (.off m.1) := by
  unfold dueO
  rw [if_neg (fun z => z h), if_pos h2]
theorem dueO_whole {F : List Fact} {k : Int} {m : MFact} (h : RdIn F m.1) (h2 : SpIn F (mPl m)) (h3 : m.2.1 % m.2.2.1 ≠ 0) : dueO F k m = some (.whole k) := by
  unfold dueO
  rw [if_neg (fun z => z h), if_neg (fun z => z h2), if_pos h3]
theorem dueO_steps {F : List Fact} {k : Int} {m : MFact} (h : RdIn F m.1) (h2 : SpIn F (mPl m)) (h3 : m.2.1 % m.2.2.1 = 0) (h4 : ¬ StIn m.2.2.2) : dueO F k m = some (.steps m.2.2.2) := by
  unfold dueO
  rw [if_neg (fun z => z h), if_neg (fun z => z h2), if_neg (fun z => z h3), if_pos h4]
theorem dueO_go {F : List Fact} {k : Int} {m : MFact} (h : RdIn F m.1) (h2 : SpIn F (mPl m)) (h3 : m.2.1 % m.2.2.1 = 0) (h4 : StIn m.2.2.2) : dueO F k m = none := by
  unfold dueO
  rw [if_neg (fun z => z h), if_neg (fun z => z h2), if_neg (fun z => z h3), if_neg (fun z => z h4)]
theorem low_pos {r : Fact} (h : 1 ≤ r.2.2) : 1 ≤ (low r).2.2 ∧ (low r).2.2 ≤ r.2.2 := by
  have g0 := gcd_pos (a := r.2.1) (b := r.2.2) h
  have d := back_of (gcdI_right r.2.1 r.2.2)
  show 1 ≤ r.2.2 / gcdI r.2.1 r.2.2 ∧ r.2.2 / gcdI r.2.1 r.2.2 ≤ r.2.2
  generalize gcdI r.2.1 r.2.2 = g at *
  generalize r.2.2 / g = q at *
  have q1 : 1 ≤ q := by
    have z : 0 < q * g := by omega
    by_cases c : 0 < q
    · omega
    · have : q * g ≤ 0 := Int.mul_nonpos_of_nonpos_of_nonneg (by omega) (by omega)
      omega
  refine ⟨q1, ?_⟩
  have : q * 1 ≤ q * g := Int.mul_le_mul_of_nonneg_left (by omega) (by omega)
  omega
theorem low_sm {r : Fact} (h : 1 ≤ r.2.2) (h2 : r.2.2 < 2 ^ 60) : PlSm (low r) := ⟨(low_pos h).1, by have := (low_pos h).2; omega⟩
theorem low_sp {F : List Fact} {r : Fact} (h : 1 ≤ r.2.2) : SpIn F (low r) ↔ SpIn F r := by
  have g0 := gcd_pos (a := r.2.1) (b := r.2.2) h
  have d := back_of (gcdI_right r.2.1 r.2.2)
  have c := back_of (gcdI_left r.2.1 r.2.2)
  unfold SpIn
  show (0 ≤ r.2.1 / gcdI r.2.1 r.2.2 ∧ r.2.1 / gcdI r.2.1 r.2.2 ≤ (rd F r.1.toNat).2.2 * (r.2.2 / gcdI r.2.1 r.2.2)) ↔ _
  generalize gcdI r.2.1 r.2.2 = g at *
  generalize r.2.2 / g = q at *
  generalize r.2.1 / g = p at *
  generalize (rd F r.1.toNat).2.2 = L at *
  rw [c, d, ← Int.mul_assoc]
  constructor
  · rintro ⟨a, b⟩
    exact ⟨Int.mul_nonneg a (by omega), Int.mul_le_mul_of_nonneg_right b (by omega)⟩
  · rintro ⟨a, b⟩
    refine ⟨?_, Int.le_of_mul_le_mul_right b g0⟩
    by_cases z : 0 ≤ p
    · exact z
    · have : p * g < 0 := Int.mul_neg_of_neg_of_pos (by omega) g0
      omega
theorem low_whl {r : Fact} (h : 1 ≤ r.2.2) : (low r).2.2 = 1 ↔ r.2.1 % r.2.2 = 0 := by
  have g0 := gcd_pos (a := r.2.1) (b := r.2.2) h
  have d := back_of (gcdI_right r.2.1 r.2.2)
  have c := back_of (gcdI_left r.2.1 r.2.2)
  show r.2.2 / gcdI r.2.1 r.2.2 = 1 ↔ _
  constructor
  · intro e
    rw [e, Int.one_mul] at d
    exact Int.emod_eq_zero_of_dvd (by rw [d]; exact gcdI_left _ _)
  · intro e
    have dv : r.2.2 ∣ r.2.1 := Int.dvd_of_emod_eq_zero e
    have dg : r.2.2 ∣ gcdI r.2.1 r.2.2 := by
      unfold gcdI
      exact Int.dvd_coe_gcd dv (Int.dvd_refl _)
    have le : r.2.2 ≤ gcdI r.2.1 r.2.2 := Int.le_of_dvd g0 dg
    have ge : gcdI r.2.1 r.2.2 ≤ r.2.2 := Int.le_of_dvd (by omega) (gcdI_right _ _)
    have e1 : gcdI r.2.1 r.2.2 = r.2.2 := by omega
    rw [e1]
    exact Int.ediv_self (by omega)
end OT
set_option Elab.async false
set_option linter.all false
set_option maxRecDepth 100000
set_option maxHeartbeats 4000000
namespace OT
open PySem L2 OTR
abbrev sNotW : Stmt := inClass (top 9) 0
abbrev sMarchI : Stmt := inClass (top 35) 0
abbrev sRowI : Stmt := inClass (top 36) 0
abbrev sCheckMa : Stmt := top 37
structure MaT (K : PySem.W.Frag) (mg : Str → Option Value) (C : Addr) : Prop where
  cl : Cls K C
  nG : NoAttr K C "goal"
  nS : NoAttr K C "steps"
  mgC : mg "March" = some (.ref C)
structure RwT (K : PySem.W.Frag) (mg : Str → Option Value) (C : Addr) : Prop where
  cl : Cls K C
  nT : NoAttr K C "tree"
  nM : NoAttr K C "marches"
  mgC : mg "Row" = some (.ref C)
def maF (g : Addr) (n : Int) : List (Str × V) := [("goal", .ref g), ("steps", .int n)]
theorem maF_g (g : Addr) (n : Int) : (maF g n).lookup ("goal" : Str) = some (.ref g) := lk0
theorem maF_s (g : Addr) (n : Int) : (maF g n).lookup ("steps" : Str) = some (.int n) := by
  unfold maF
  rw [lk1 (by decide +kernel)]
  exact lk0
theorem maF_put (g : Addr) (n : Int) : putF "steps" (.int n) (putF "goal" (.ref g) []) = maF g n := by
  have h1 : ¬ (("goal" : Str) = "steps") := by decide +kernel
  show (if ("goal" : Str) = "steps" then _ else (("goal" : Str), V.ref g) :: putF "steps" (.int n) []) = maF g n
  rw [if_neg h1]
  rfl
def rwF (a t : Addr) : List (Str × V) := [("tree", .ref a), ("marches", .ref t)]
theorem rwF_t (a t : Addr) : (rwF a t).lookup ("tree" : Str) = some (.ref a) := lk0
theorem rwF_m (a t : Addr) : (rwF a t).lookup ("marches" : Str) = some (.ref t) := by
  unfold rwF
  rw [lk1 (by decide +kernel)]
  exact lk0
theorem rwF_put (a t : Addr) : putF "marches" (.ref t) (putF "tree" (.ref a) []) = rwF a t := by
  have h1 : ¬ (("tree" : Str) = "marches") := by decide +kernel
  show (if ("tree" : Str) = "marches" then _ else (("tree" : Str), V.ref a) :: putF "marches" (.ref t) []) = rwF a t
  rw [if_neg h1]
  rfl
def MarchAt (C : Addr) (H : Hp) (p g : Addr) (n : Int) : Prop := ∃ dx, H p = some (.ins C dx (maF g n))
theorem MarchAt.same {C : Addr} {H H' : Hp} {p g : Addr} {n : Int} (h : MarchAt C H p g n) (s : Same H H') : MarchAt C H' p g n := let ⟨dx, e⟩ := h; ⟨dx, s _ _ e⟩
/-- a march of the program, as the law tells it -/
def MaAt (CM CP : Addr) (H : Hp) (p : Addr) (m : MFact) : Prop := ∃ g, MarchAt CM H p g m.2.2.2 ∧ PlaceAt CP H g (low (mPl m))
theorem MaAt.same {CM CP : Addr} {H H' : Hp} {p : Addr} {m : MFact} (h : MaAt CM CP H p m) (s : Same H H') : MaAt CM CP H' p m := let ⟨g, a, b⟩ := h; ⟨g, a.same s, b.same s⟩
abbrev MasAt (CM CP : Addr) (H : Hp) (ps : List Addr) (l : List MFact) : Prop := Paired (MaAt CM CP H) ps l
theorem MasAt.same {CM CP : Addr} {H H' : Hp} {ps : List Addr} {l : List MFact} (h : MasAt CM CP H ps l) (s : Same H H') : MasAt CM CP H' ps l := Paired.mapP h fun _ _ a => a.same s
/-- the parts of the goals: few enough -/
def MSm (m : MFact) : Prop := 1 ≤ m.2.2.1 ∧ m.2.2.1 < 2 ^ 60
def RaisM (CB CNR COR CNW : Addr) (H : Hp) (E : XK) : ErrM → Prop
  | .marches n => Raised CB [("count", .int n), ("what", .str "marches")] H E
  | .no r => Raised CNR [("road", .int r)] H E
  | .off r => Raised COR [("road", .int r)] H E
  | .whole k => Raised CNW [("march", .int k)] H E
  | .steps n => Raised CB [("count", .int n), ("what", .str "steps")] H E
theorem RaisM.mono {CB CNR COR CNW : Addr} {H H1 : Hp} {E : XK} {e : ErrM} (h : RaisM CB CNR COR CNW H E e) (s : ∀ b o, H b = some o → H1 b = some o) : RaisM CB CNR COR CNW H1 E e := by
  cases e <;> exact Raised.mono h s
def spMarchI (C : Addr) : Sp := fun vs H Q _ => ∃ (p dx g : Addr) (n : Int), vs = [.ref p, .ref g, .int n] ∧ H p = some (.ins C dx []) ∧ ∀ H', MarchAt C H' p g n → (∀ b o, H b = some o → b ≠ p → H' b = some o) → Q .non H'
def spCheckMa (K : PySem.W.Frag) (CT CR CM CP CB CNR COR CNW : Addr) : Sp := fun vs H Q E => ∃ (a p : Addr) (k n : Int) (ps : List Addr) (F : List Fact) (m : MFact), vs = [.ref a, .int k, .ref p] ∧ TreeAt K CT CR H a n ps F ∧ TreeG n F ∧ MaAt CM CP H p m ∧ MSm m ∧
  (∀ e, dueO F k m = some e → RaisM CB CNR COR CNW H E e) ∧ (dueO F k m = none → Q .non H)
def RowAt (K : PySem.W.Frag) (CW : Addr) (H : Hp) (p a : Addr) (ms : List Addr) : Prop := ∃ dx t, H p = some (.ins CW dx (rwF a t)) ∧ SqT K H t (ms.map V.ref)
def spRowI (K : PySem.W.Frag) (CT CR CM CP CW CB CNR COR CNW : Addr) : Sp := fun vs H Q E => ∃ (p dx a l : Addr) (n : Int) (ps : List Addr) (F : List Fact) (ms : List Addr) (fs : List MFact) (H0 : Hp), vs = [.ref p, .ref a, .ref l] ∧ H p = some (.ins CW dx []) ∧ H0 p = none ∧ Same H0 H ∧
  TreeAt K CT CR H0 a n ps F ∧ TreeG n F ∧ SqA K H0 l (ms.map V.ref) ∧ MasAt CM CP H0 ms fs ∧ (∀ m ∈ fs, MSm m) ∧ fs.length ≤ 1000 ∧
  (∀ e, dueM F fs = some e → RaisM CB CNR COR CNW H0 E e) ∧ (dueM F fs = none → ∀ H', RowAt K CW H' p a ms → Same H0 H' → Q .non H')
section
variable {P : Program} {w : World} {K : PySem.W.Frag} {mg : Str → Option Value} {base : Heap}
theorem scNotW : FnScope ["self", "march"] ["self", "march"] (defScope sNotW) := ⟨rfl, rfl, rfl, by decide +kernel, rfl, by decide +kernel, by decide +kernel⟩
theorem ok_notW {f C : Addr} {fd : FuncData} (F : Fun K "__init__" "NotWhole.__init__" sNotW f fd) (T : OexC K C) (n1 : PySem.W.findIn K (.ref C) "march" = some none) : FnOk P w K mg base CX0 1 f fd ["self", "march"] (spEr1 C "march") := by
  refine F.ok scNotW (fun vs H Q E h => ?_) (fun cdv A outer s H vs Q E hr h => ?_)
  · obtain ⟨a, v, rfl, _⟩ := h
    rfl
  · obtain ⟨a, v, rfl, ha, k⟩ := h
    refine ⟨_, pss_one (ps_ost (pv 0) (pv 1)), ?_⟩
    exact ⟨_, rfl, _, rfl, a, C, rfl, T, n1, .inl ⟨ha, fun dx n ne => k dx n ne⟩⟩
theorem scMarchI : FnScope ["self", "goal", "steps"] ["self", "goal", "steps"] (defScope sMarchI) := ⟨rfl, rfl, rfl, by decide +kernel, rfl, by decide +kernel, by decide +kernel⟩
theorem ok_marchI {f C : Addr} {fd : FuncData} (F : Fun K "__init__" "March.__init__" sMarchI f fd) (T : MaT K mg C) : FnOk P w K mg base CX0 1 f fd ["self", "goal", "steps"] (spMarchI C) := by
  refine F.ok scMarchI (fun vs H Q E h => ?_) (fun cdv A outer s H vs Q E hr h => ?_)
  · obtain ⟨p, dx, g, n, rfl, _⟩ := h
    rfl
  · obtain ⟨p, dx, g, n, rfl, hp, k⟩ := h
    refine ⟨_, pss_cons (ps_fld (pv 0) (pv 1) rfl) (pss_one (ps_fld (pv 0) (pv 2) rfl)), ?_⟩
    refine ⟨_, rfl, _, rfl, p, C, dx, [], rfl, hp, T.cl, T.nG, (by show 0 < 1000; decide), ?_⟩
    refine ⟨_, rfl, _, rfl, p, C, dx, _, rfl, upd_same, T.cl, T.nS, (by show 1 < 1000; decide), ?_⟩
    refine k _ ⟨dx, ?_⟩ fun b o e n => ?_
    · rw [← maF_put]
      exact upd_same
    · rw [upd_ne n, upd_ne n]
      exact e
theorem scCheckMa : FnScope ["tree", "number", "march"] ["tree", "number", "march"] (defScope sCheckMa) := ⟨rfl, rfl, rfl, by decide +kernel, rfl, by decide +kernel, by decide +kernel⟩
theorem ok_checkMa {f CT CR CM CP CB CNR COR CNW fC fB fW : Addr} {fd fdC fdB fdW : FuncData} (F : Fun K "check_march" "check_march" sCheckMa f fd) (TM : MaT K mg CM) (TP : PlT K mg CP) (TB : ErT K mg "BadCount" CB fB) (TW : ErT K mg "NotWhole" CNW fW)
    (FC : FnOk P w K mg base (L2.CX P w) 3 fC fdC ["tree", "place"] (spCheckPl K CT CR CP CNR COR)) (bC : Binds K fdC ["tree", "place"] []) (mC : mg "check_place" = some (.ref fC)) (kC : PySem.W.keepIn K (.ref fC) = true)
    (FB : FnOk P w K mg base CX0 1 fB fdB ["self", "what", "count"] (spEr2 CB "what" "count")) (bB : Binds K fdB ["self", "what", "count"] [])
    (FW : FnOk P w K mg base CX0 1 fW fdW ["self", "march"] (spEr1 CNW "march")) (bW : Binds K fdW ["self", "march"] []) (hL : ∃ t, mg "MOST_STEPS" = some (.int 1000000000 t)) :
    FnOk P w K mg base (L2.CX P w) 4 f fd ["tree", "number", "march"] (spCheckMa K CT CR CM CP CB CNR COR CNW) := by
  refine F.okX scCheckMa (fun vs H Q E h => ?_) (fun cdv A outer s H vs Q E hr h => ?_)
  · obtain ⟨a, p, k, n, ps, F, m, rfl, _⟩ := h
    rfl
  · obtain ⟨a, p, k, n, ps, F, m, rfl, TA, G, ⟨g, ⟨dm, em⟩, pl⟩, ⟨sm1, sm2⟩, kE, kQ⟩ := h
    obtain ⟨tL, hL⟩ := hL
    have hr1 : Room 2 _ := hr.mono (by decide)
    refine ⟨_, pss_cons (ps_expr (pe_call FC hr rfl mC kC bC .nil (passes_call (takes_of rfl rfl rfl rfl) fun _ _ _ _ h => h) (pa_cons (pv 0) (pa_cons (pe_fld (pv 2) rfl) pa_nil))))
      (pss_cons (ps_if (pt_cmpR op_ne (pe_fld (pe_fld (pv 2) rfl) rfl) pe_int (nomark _))
          (pss_one (ps_raise rfl (takes_of rfl rfl rfl rfl) (pmk_oex TW.ox TW.iC TW.tI FW hr1 bW .nil pass0 (by rfl) TW.gC (pa_cons (pv 1) pa_nil)))) pss_nil)
      (pss_one (ps_if (pt_not (pt_chain op_le op_le pe_int (pe_fld (pv 2) rfl) (pe_glob (v := V.int 1000000000) rfl hL ⟨tL, rfl⟩)))
          (pss_one (ps_raise rfl (takes_of rfl rfl rfl rfl) (pmk_oex TB.ox TB.iC TB.tI FB hr1 bB .nil pass0 (by rfl) TB.gC (pa_cons pe_str (pa_cons (pe_fld (pv 2) rfl) pa_nil))))) pss_nil))), ?_⟩
    have lsm := low_sm (r := mPl m) sm1 sm2
    have lsp := low_sp (F := F) (r := mPl m) sm1
    have lwh := low_whl (r := mPl m) sm1
    obtain ⟨dp, ep⟩ := id pl
    refine ⟨_, rfl, _, rfl, p, CM, dm, _, _, rfl, em, TM.cl, TM.nG, maF_g g _, a, g, n, ps, F, low (mPl m), rfl, TA, pl, G, lsm, fun z => ?_, fun z1 z2 => ?_, fun on => ?_⟩
    · exact kE _ (dueO_no (m := m) z)
    · exact kE _ (dueO_off (m := m) z1 fun z => z2 (lsp.mpr z))
    obtain ⟨on1, on2⟩ := on
    have on2' := lsp.mp on2
    refine ⟨_, rfl, p, CM, dm, _, _, rfl, em, TM.cl, TM.nG, maF_g g _, g, CP, dp, _, _, rfl, ep, TP.cl, TP.nP, plF_p _, rfl, _, rfl, ?_⟩
    by_cases h3 : (low (mPl m)).2.2 = 1
    · have w3 := lwh.mp h3
      refine iteNS (by rw [h3]) ?_
      refine ⟨_, rfl, p, CM, dm, _, _, rfl, em, TM.cl, TM.nS, maF_s g _, _, _, rfl, rfl, _, rfl, ?_⟩
      by_cases h0 : 1 ≤ m.2.2.2
      · rw [decide_eq_true h0]
        refine iteT ⟨_, _, rfl, rfl, _, rfl, ?_⟩
        by_cases h1 : m.2.2.2 ≤ 1000000000
        · rw [decide_eq_true h1]
          exact iteF (kQ (dueO_go on1 on2' w3 ⟨h0, h1⟩))
        · rw [decide_eq_false h1]
          exact iteT ⟨_, rfl, p, CM, dm, _, _, rfl, em, TM.cl, TM.nS, maF_s g _, len2, fun b hb => er2 hb (kE _ (dueO_steps on1 on2' w3 fun z => h1 z.2))⟩
      · rw [decide_eq_false h0]
        refine iteF ⟨_, rfl, ?_⟩
        exact iteT ⟨_, rfl, p, CM, dm, _, _, rfl, em, TM.cl, TM.nS, maF_s g _, len2, fun b hb => er2 hb (kE _ (dueO_steps on1 on2' w3 fun z => h0 z.1))⟩
    · have h4 : ¬ (V.int (low (mPl m)).2.2 = V.int 1) := fun z => h3 (V.int.inj z)
      rw [decide_eq_false h4]
      exact iteT ⟨_, rfl, len1, fun b hb => er1 hb (kE _ (dueO_whole (m := m) on1 on2' fun z => h3 (lwh.mpr z)))⟩
abbrev nRowI : List Str := ["self", "tree", "marches", "number", "march"]
theorem scRowI : FnScope nRowI ["self", "tree", "marches"] (defScope sRowI) := ⟨rfl, rfl, rfl, by decide +kernel, rfl, by decide +kernel, by decide +kernel⟩
theorem ok_rowI {f CT CR CM CP CW CB CNR COR CNW fC fB : Addr} {fd fdC fdB : FuncData} (F : Fun K "__init__" "Row.__init__" sRowI f fd) (TW : RwT K mg CW) (TB : ErT K mg "BadCount" CB fB)
    (FC : FnOk P w K mg base (L2.CX P w) 4 fC fdC ["tree", "number", "march"] (spCheckMa K CT CR CM CP CB CNR COR CNW)) (bC : Binds K fdC ["tree", "number", "march"] []) (mC : mg "check_march" = some (.ref fC)) (kC : PySem.W.keepIn K (.ref fC) = true)
    (FB : FnOk P w K mg base CX0 1 fB fdB ["self", "what", "count"] (spEr2 CB "what" "count")) (bB : Binds K fdB ["self", "what", "count"] [])
    (hMost : ∃ t, mg "MOST_MARCHES" = some (.int 24 t)) (hLen : mg "len" = none) (hEn : mg "enumerate" = none) (hTup : mg "tuple" = none) :
    FnOk P w K mg base (L2.CX P w) 5 f fd ["self", "tree", "marches"] (spRowI K CT CR CM CP CW CB CNR COR CNW) := by
  refine F.okX scRowI (fun vs H Q E h => ?_) (fun cdv A outer s H vs Q E hr h => ?_)
  · obtain ⟨p, dx, a, l, n, ps, F, ms, fs, H0, rfl, _⟩ := h
    rfl
  · obtain ⟨p, dx, a, l, n, ps, F, ms, fs, H0, rfl, hp, hp0, s0, TA, G, hS, hM, sm, hl, kE, kQ⟩ := h
    obtain ⟨tm, hMost⟩ := hMost
    have hr1 : Room 2 _ := hr.mono (by decide)
    have lenE : (ms.map V.ref).length = fs.length := by rw [List.length_map]; exact Paired.length hM
    -- behind the loop: the fields
    have sp : ∀ {H2 : Hp} {o : HO}, Same H0 H2 → Same H0 (upd H2 p o) := fun {H2 o} s2 b u e => by
      rw [upd_ne (ne_of_none e hp0)]
      exact s2 b u e
    have due0 : ¬ 24 < fs.length → dueM F fs = dueL F 0 fs := fun z => by
      unfold dueM
      rw [if_neg z]
    have due1 : 24 < fs.length → dueM F fs = some (.marches fs.length) := fun z => by
      unfold dueM
      rw [if_pos z]
    -- one turn
    have turn : ∀ {i : Nat} {q : Addr} {H2 : Hp}, ms[i]? = some q → dueM F fs = dueL F i (fs.drop i) → Same H0 H2 → ∃ m, fs[i]? = some m ∧ MaAt CM CP H2 q m ∧ MSm m ∧ (∀ e, dueO F (i : Nat) m = some e → RaisM CB CNR COR CNW H2 E e) ∧ (dueO F (i : Nat) m = none → dueM F fs = dueL F (i + 1) (fs.drop (i + 1))) := fun {i q H2} hq e2 s2 => by
      obtain ⟨m, hm, am⟩ := paired_get hM hq
      have ed := drop_get hm
      refine ⟨m, hm, am.same s2, sm m (List.mem_of_getElem? hm), fun e he => ?_, fun he => ?_⟩
      · refine RaisM.mono (kE e ?_) s2
        rw [e2, ed, dueL_cons_some he]
      · rw [e2, ed, dueL_cons_none he]
    rcases hS with hS | hS
    · refine ⟨_, pss_cons (ps_if (pt_cmpR op_gt (pe_callB call_len_seq (by rfl) hLen PySem.boot_len (pa_cons (pv 2) pa_nil)) (pe_glob (v := V.int 24) rfl hMost ⟨tm, rfl⟩) (nomark _))
          (pss_one (ps_raise rfl (takes_of rfl rfl rfl rfl) (pmk_oex TB.ox TB.iC TB.tI FB hr1 bB .nil pass0 (by rfl) TB.gC (pa_cons pe_str (pa_cons (pe_callB call_len_seq (by rfl) hLen PySem.boot_len (pa_cons (pv 2) pa_nil)) pa_nil))))) pss_nil)
        (pss_cons (ps_for (passes_of rfl) rfl (pi_enum rfl hEn (pa_cons (pv 2) pa_nil)) (pg_tup rfl (pgs_cons (pg_name (i := 3) scRowI.nd rfl (Or.inl rfl)) (pgs_cons (pg_name (i := 4) scRowI.nd rfl (Or.inl rfl)) pgs_nil)))
          (pss_one (ps_expr (pe_call FC hr rfl mC kC bC .nil (passes_call (takes_of rfl rfl rfl rfl) fun _ _ _ _ h => h) (pa_cons (pv 1) (pa_cons (pv 3) (pa_cons (pv 4) pa_nil)))))))
        (pss_cons (ps_fld (pv 0) (pv 1) rfl)
        (pss_one (ps_fld (pv 0) (pe_callTy (r := rTupO K) call_tuple_of (by rfl) hTup (by decide +kernel) (pa_cons (pv 2) pa_nil)) rfl)))), ?_⟩
      refine ⟨_, rfl, l, _, rfl, .inl (s0.seq hS), _, _, rfl, rfl, _, rfl, ?_⟩
      rw [lenE]
      by_cases h24 : 24 < fs.length
      · rw [decide_eq_true (by omega : (fs.length : Int) > 24)]
        refine iteT ⟨_, rfl, l, _, rfl, .inl (s0.seq hS), len2, fun b hb => ?_⟩
        rw [lenE]
        exact er2 hb (RaisM.mono (e := .marches fs.length) (kE _ (due1 h24)) s0)
      · rw [decide_eq_false (by omega : ¬ (fs.length : Int) > 24)]
        refine iteF ?_
        refine ⟨_, rfl, l, _, rfl, s0.seq hS, for_it (walk_enum (K := K) (a := l) (xs := ms.map V.ref)) (fun i σ H2 => ∃ (v3 v4 : Option V), σ = [some (.ref p), some (.ref a), some (.ref l), v3, v4] ∧ Same H H2 ∧ dueM F fs = dueL F i (fs.drop i))
          ⟨none, none, rfl, Same.refl H, due0 h24⟩ (fun i σ H2 _ ⟨_, _, _, s2, _⟩ => (s0.trans s2).seq hS) ?_ ?_⟩
        · rintro i x σ H2 H3 hi ⟨v3, v4, rfl, s2, e2⟩ ⟨T, x1, y1, rfl, hT, rfl, hx1, hy1⟩
          cases hx1
          obtain ⟨q, hq, rfl⟩ := map_get (show (ms.map V.ref)[i]? = some y1 from hy1)
          have s3 : Same H2 (upd H2 T (.tup [.int (i : Nat), .ref q])) := Same.new hT
          obtain ⟨m, hm, am, smm, t1, t2⟩ := turn hq e2 ((s0.trans s2).trans s3)
          refine ⟨T, _, rfl, SqT.of upd_same, rfl, _, _, rfl, _, _, rfl, rfl, ?_⟩
          refine ⟨_, rfl, _, rfl, _, rfl, a, q, (i : Nat), n, ps, F, m, rfl, TA.same ((s0.trans s2).trans s3), G, am, smm, t1, fun he => ?_⟩
          exact ⟨_, _, rfl, s2.trans s3, t2 he⟩
        · rintro σ H2 ⟨v3, v4, rfl, s2, e2⟩
          rw [lenE, List.drop_length] at e2
          refine ⟨_, rfl, _, rfl, p, CW, dx, [], rfl, s2 _ _ hp, TW.cl, TW.nT, (by show 0 < 1000; decide), ?_⟩
          refine tupE rfl (.inl (sp (s0.trans s2) |>.seq hS)) fun t Hb sb ht => ?_
          have hpb := sb _ _ (upd_same (H := H2) (a := p) (o := .ins CW dx (putF "tree" (.ref a) [])))
          refine ⟨_, rfl, p, CW, dx, _, rfl, hpb, TW.cl, TW.nM, (by show 1 < 1000; decide), ?_⟩
          rw [rwF_put]
          exact kQ e2 _ ⟨dx, t, upd_same, sqT_ins hpb ht⟩ (sp ((sp (s0.trans s2)).trans sb))
    · refine ⟨_, pss_cons (ps_if (pt_cmpR op_gt (pe_callB call_len_seq (by rfl) hLen PySem.boot_len (pa_cons (pv 2) pa_nil)) (pe_glob (v := V.int 24) rfl hMost ⟨tm, rfl⟩) (nomark _))
          (pss_one (ps_raise rfl (takes_of rfl rfl rfl rfl) (pmk_oex TB.ox TB.iC TB.tI FB hr1 bB .nil pass0 (by rfl) TB.gC (pa_cons pe_str (pa_cons (pe_callB call_len_seq (by rfl) hLen PySem.boot_len (pa_cons (pv 2) pa_nil)) pa_nil))))) pss_nil)
        (pss_cons (ps_for (passes_of rfl) rfl (pi_enumT (by rfl) hEn (pa_cons (pv 2) pa_nil)) (pg_tup rfl (pgs_cons (pg_name (i := 3) scRowI.nd rfl (Or.inl rfl)) (pgs_cons (pg_name (i := 4) scRowI.nd rfl (Or.inl rfl)) pgs_nil)))
          (pss_one (ps_expr (pe_call FC hr rfl mC kC bC .nil (passes_call (takes_of rfl rfl rfl rfl) fun _ _ _ _ h => h) (pa_cons (pv 1) (pa_cons (pv 3) (pa_cons (pv 4) pa_nil)))))))
        (pss_cons (ps_fld (pv 0) (pv 1) rfl)
        (pss_one (ps_fld (pv 0) (pe_callTy (r := rTupO K) call_tuple_of (by rfl) hTup (by decide +kernel) (pa_cons (pv 2) pa_nil)) rfl)))), ?_⟩
      refine ⟨_, rfl, l, _, rfl, .inr (sqT_same hS s0), _, _, rfl, rfl, _, rfl, ?_⟩
      rw [lenE]
      by_cases h24 : 24 < fs.length
      · rw [decide_eq_true (by omega : (fs.length : Int) > 24)]
        refine iteT ⟨_, rfl, l, _, rfl, .inr (sqT_same hS s0), len2, fun b hb => ?_⟩
        rw [lenE]
        exact er2 hb (RaisM.mono (e := .marches fs.length) (kE _ (due1 h24)) s0)
      · rw [decide_eq_false (by omega : ¬ (fs.length : Int) > 24)]
        refine iteF ?_
        refine ⟨_, rfl, l, _, rfl, sqT_same hS s0, for_it (walk_enumT (K := K) (a := l) (xs := ms.map V.ref)) (fun i σ H2 => ∃ (v3 v4 : Option V), σ = [some (.ref p), some (.ref a), some (.ref l), v3, v4] ∧ Same H H2 ∧ dueM F fs = dueL F i (fs.drop i))
          ⟨none, none, rfl, Same.refl H, due0 h24⟩ (fun i σ H2 _ ⟨_, _, _, s2, _⟩ => sqT_same hS (s0.trans s2)) ?_ ?_⟩
        · rintro i x σ H2 H3 hi ⟨v3, v4, rfl, s2, e2⟩ ⟨T, x1, y1, rfl, hT, rfl, hx1, hy1⟩
          cases hx1
          obtain ⟨q, hq, rfl⟩ := map_get (show (ms.map V.ref)[i]? = some y1 from hy1)
          have s3 : Same H2 (upd H2 T (.tup [.int (i : Nat), .ref q])) := Same.new hT
          obtain ⟨m, hm, am, smm, t1, t2⟩ := turn hq e2 ((s0.trans s2).trans s3)
          refine ⟨T, _, rfl, SqT.of upd_same, rfl, _, _, rfl, _, _, rfl, rfl, ?_⟩
          refine ⟨_, rfl, _, rfl, _, rfl, a, q, (i : Nat), n, ps, F, m, rfl, TA.same ((s0.trans s2).trans s3), G, am, smm, t1, fun he => ?_⟩
          exact ⟨_, _, rfl, s2.trans s3, t2 he⟩
        · rintro σ H2 ⟨v3, v4, rfl, s2, e2⟩
          rw [lenE, List.drop_length] at e2
          refine ⟨_, rfl, _, rfl, p, CW, dx, [], rfl, s2 _ _ hp, TW.cl, TW.nT, (by show 0 < 1000; decide), ?_⟩
          refine tupE rfl (.inr (sqT_same hS (sp (s0.trans s2)))) fun t Hb sb ht => ?_
          have hpb := sb _ _ (upd_same (H := H2) (a := p) (o := .ins CW dx (putF "tree" (.ref a) [])))
          refine ⟨_, rfl, p, CW, dx, _, rfl, hpb, TW.cl, TW.nM, (by show 1 < 1000; decide), ?_⟩
          rw [rwF_put]
          exact kQ e2 _ ⟨dx, t, upd_same, sqT_ins hpb ht⟩ (sp ((sp (s0.trans s2)).trans sb))
end
end OT
set_option Elab.async false
set_option linter.all false
set_option maxRecDepth 100000
set_option maxHeartbeats 4000000
namespace OT
open PySem L2 OTR
/-- a drawn march (road, distance, steps) -/
structure MrOk (F : List Fact) (far : Int) (r : Fact) : Prop where
  rd : RdIn F r.1
  lo : 0 ≤ r.2.1
  hi : r.2.1 ≤ (OT.rd F r.1.toNat).2.2
  s1 : 1 ≤ r.2.2
  s2 : r.2.2 ≤ 2 ∨ r.2.2 ≤ far
theorem Src.fresh {s p : Addr} {H G : Hp} (b : But s H G) (sg : Src G s) (hp : G p = none) : H p = none := by
  cases e : H p with
  | none => rfl
  | some o =>
    have z := b p o e (sg.new hp)
    rw [hp] at z
    cases z
end OT
set_option Elab.async false
set_option linter.all false
set_option maxRecDepth 100000
set_option maxHeartbeats 4000000
namespace OT
open PySem L2 OTR
/-- a march: the road of its goal, the distance, the steps -/
abbrev MG := Nat × Int × Int
structure MgOk (F : List Fact) (x : MG) : Prop where
  rd : x.1 < F.length
  lo : 0 ≤ x.2.1
  hi : x.2.1 ≤ (OT.rd F x.1).2.2
  s1 : 1 ≤ x.2.2
  s2 : x.2.2 ≤ 1000000000
theorem MgOk.on {F : List Fact} {x : MG} (h : MgOk F x) {S : Int} (hS : 1 ≤ S) : On F S x.1 (x.2.1 * S) := ⟨h.rd, Int.mul_nonneg h.lo (by omega), Int.mul_le_mul_of_nonneg_right h.hi (by omega)⟩
theorem MgOk.m0 {F : List Fact} {x : MG} (h : MgOk F x) {S : Int} (hS : 1 ≤ S) : 0 ≤ x.2.2 * S := Int.mul_nonneg (by have := h.s1; omega) (by omega)
def mf (x : MG) : MFact := (((x.1 : Nat) : Int), x.2.1, 1, x.2.2)
theorem low_mf (x : MG) : low (mPl (mf x)) = (((x.1 : Nat) : Int), x.2.1, 1) := low_one _ _
/-- a drawn march, as a march -/
def mg3 (r : Fact) : MG := (r.1.toNat, r.2.1, r.2.2)
theorem MrOk.mg {F : List Fact} {far : Int} {r : Fact} (h : MrOk F far r) (hf : far ≤ 1000000000) : MgOk F (mg3 r) :=
  ⟨by show r.1.toNat < F.length; have := h.rd.1; have := h.rd.2; omega, h.lo, h.hi, h.s1, by show r.2.2 ≤ _; rcases h.s2 with z | z <;> omega⟩
theorem MrOk.mf {F : List Fact} {far : Int} {r : Fact} (h : MrOk F far r) : mf (mg3 r) = (r.1, r.2.1, 1, r.2.2) := by
  show (((r.1.toNat : Nat) : Int), r.2.1, (1 : Int), r.2.2) = _
  rw [Int.toNat_of_nonneg h.rd.1]
theorem mgs_ok {F : List Fact} {far : Int} {gs : List Fact} (h : ∀ r ∈ gs, MrOk F far r) (hf : far ≤ 1000000000) : ∀ x ∈ gs.map mg3, MgOk F x := fun x hx => by
  obtain ⟨r, hr, rfl⟩ := List.mem_map.mp hx
  exact (h r hr).mg hf
theorem dueO_mg {F : List Fact} {x : MG} (h : MgOk F x) (k : Int) : dueO F k (mf x) = none := by
  refine dueO_go (m := mf x) ⟨by show 0 ≤ ((x.1 : Nat) : Int); omega, by show ((x.1 : Nat) : Int) < _; have := h.rd; omega⟩ ⟨h.lo, ?_⟩ (by show x.2.1 % 1 = 0; omega) ⟨h.s1, h.s2⟩
  show x.2.1 ≤ (rd F ((x.1 : Nat) : Int).toNat).2.2 * 1
  rw [Int.toNat_natCast, Int.mul_one]
  exact h.hi
theorem dueL_mg {F : List Fact} : ∀ {xs : List MG} {k : Nat}, (∀ x ∈ xs, MgOk F x) → dueL F k (xs.map mf) = none
  | [], _, _ => rfl
  | x :: xs, k, h => by
    show dueL F k (mf x :: xs.map mf) = none
    rw [dueL_cons_none (dueO_mg (h x List.mem_cons_self) _)]
    exact dueL_mg fun y hy => h y (List.mem_cons_of_mem _ hy)
theorem dueM_mg {F : List Fact} {xs : List MG} (h : ∀ x ∈ xs, MgOk F x) (hl : xs.length ≤ 24) : dueM F (xs.map mf) = none := by
  unfold dueM
  rw [if_neg (by rw [List.length_map]; omega)]
  exact dueL_mg h
theorem noM {CB CNR COR CNW : Addr} {H : Hp} {E : XK} {F : List Fact} {fs : List MFact} (h : dueM F fs = none) : ∀ e, dueM F fs = some e → RaisM CB CNR COR CNW H E e := fun e z => by
  rw [h] at z
  cases z
theorem msm_mf (x : MG) : MSm (mf x) := ⟨Int.le_refl 1, by show (1 : Int) < 2 ^ 60; omega⟩
theorem MarchAt.kp {C : Addr} {H H' : Hp} {p g : Addr} {n : Int} (h : MarchAt C H p g n) (k : Kp H H') : MarchAt C H' p g n := let ⟨dx, e⟩ := h; ⟨dx, k _ _ e fun _ z => nomatch z⟩
theorem MaAt.kp {CM CP : Addr} {H H' : Hp} {p : Addr} {m : MFact} (h : MaAt CM CP H p m) (k : Kp H H') : MaAt CM CP H' p m := let ⟨g, a, b⟩ := h; ⟨g, a.kp k, b.kp k⟩
theorem MasAt.kp {CM CP : Addr} {H H' : Hp} {ps : List Addr} {l : List MFact} (h : MasAt CM CP H ps l) (k : Kp H H') : MasAt CM CP H' ps l := Paired.mapP h fun _ _ a => a.kp k
theorem RowAt.kp {K : PySem.W.Frag} {CW : Addr} {H H' : Hp} {p a : Addr} {ms : List Addr} (h : RowAt K CW H p a ms) (k : Kp H H') : RowAt K CW H' p a ms := let ⟨dx, t, e, u⟩ := h; ⟨dx, t, k _ _ e (fun _ z => nomatch z), sqT_kp u k⟩
/-- [March(Place(at, spot, 1), many) for at, spot, many in facts] -/
theorem lc_line {K : PySem.W.Frag} {CM CP CB a D : Addr} {ts : List Addr} {gs : List Fact} {F : List Fact} {far : Int} {σ : L2.St} {H1 : Hp} {i1 i2 i3 : Nat} {Qd : Hp → Prop} (hq : H1 a = some (.lst (ts.map V.ref))) (hts : Paired (TupAt H1) ts gs) (ok : ∀ r ∈ gs, MrOk F far r) (hD : H1 D = none) (hl : gs.length ≤ 900)
    (st : ∀ x y z : V, wipe ((((wipe σ [i1, i2, i3]).set i1 (some x)).set i2 (some y)).set i3 (some z)) [i1, i2, i3] = wipe σ [i1, i2, i3] ∧ ((((wipe σ [i1, i2, i3]).set i1 (some x)).set i2 (some y)).set i3 (some z))[i1]? = some (some x) ∧
      ((((wipe σ [i1, i2, i3]).set i1 (some x)).set i2 (some y)).set i3 (some z))[i2]? = some (some y) ∧ ((((wipe σ [i1, i2, i3]).set i1 (some x)).set i2 (some y)).set i3 (some z))[i3]? = some (some z))
    (k : ∀ G ms, G D = some (.lst (ms.map V.ref)) → Same H1 G → MasAt CM CP G ms ((gs.map mg3).map mf) → Qd G) :
    ∃ W : Nat → Nat → Hp → Prop, (∃ m, W 0 m (upd H1 D (.lst []))) ∧ ∀ i m H, W i m H →
      ((Itl K a).stop i H ∧ Qd H) ∨ ((Itl K a).go i H ∧ ∃ Nx : Hp → Prop, (∀ H', Nx H' → ∃ m', m' < m ∧ W (i + 1) m' H') ∧ ∀ x H', (Itl K a).yld i H x H' → gTup K 3 (gCons (gName i1) (gCons (gName i2) (gCons (gName i3) gNil))) x (wipe σ [i1, i2, i3]) H' fun σ2 H2 => wipe σ2 [i1, i2, i3] = wipe σ [i1, i2, i3] ∧ tYes σ2 H2 fun b H3 =>
        if b = true then tMake CM (spMarchI CM) [] E0 (tCons (tMake CP (spPlaceI CP CB) [] E0 (tCons (tVar i1) (tCons (tVar i2) (tCons (tC (.int 1)) tNil)))) (tCons (tVar i3) tNil)) σ2 H3 fun y H4 => ∃ acc, H4 D = some (.lst acc) ∧ acc.length < sizeLine ∧ Nx (upd H4 D (.lst (acc ++ [y]))) else Nx H3) := by
  have el : (ts.map V.ref).length = gs.length := by rw [List.length_map]; exact Paired.length hts
  refine lc_list (K := K) (a := a) (xs := ts.map V.ref) (fun i Gc => ∃ ms : List Addr, Gc D = some (.lst (ms.map V.ref)) ∧ Same H1 Gc ∧ MasAt CM CP Gc ms (((gs.take i).map mg3).map mf) ∧ ms.length = i)
    ⟨[], upd_same, Same.new hD, .nil, rfl⟩ (fun i Gc _ ⟨_, _, sc, _⟩ => SqL.of (sc _ _ hq)) ?_ ?_
  · rintro i y Gc hi ⟨ms, hms, sc, rd, pl⟩
    obtain ⟨t, ht, rfl⟩ := map_get hi
    obtain ⟨r, hr, tr⟩ := paired_get hts ht
    have ih : i < gs.length := (List.getElem?_eq_some_iff.mp hr).1
    have okr := ok r (List.mem_of_getElem? hr)
    obtain ⟨st0, st1, st2, st3⟩ := st (.int r.1) (.int r.2.1) (.int r.2.2)
    refine ⟨t, _, rfl, SqT.of (sc _ _ tr), rfl, _, _, rfl, _, _, rfl, _, _, rfl, rfl, st0, ?_⟩
    unfold tYes
    refine iteT ?_
    refine ⟨_, st1, _, st2, fun x dx nx ndx nex => ⟨x, dx, (r.1, r.2.1, 1), rfl, upd_same, fun z => absurd z (by show ¬ (1 : Int) < 1; omega), fun _ => ⟨(by show (1 : Int).natAbs.log2 < 9000; decide), fun G5 px keep => ⟨rfl, _, st3, fun x2 dx2 nx2 ndx2 nex2 => ⟨x2, dx2, x, r.2.2, rfl, upd_same, fun G6 mx keep2 => ⟨rfl, ms.map V.ref, ?_, small1000 (by rw [List.length_map]; omega), ms ++ [x2], by rw [List.map_append]; exact upd_same, fun b o e => ?_, ?_, by rw [List.length_append, pl]; rfl⟩⟩⟩⟩⟩⟩
    · exact made_same nx2 ndx2 keep2 _ _ (made_same nx ndx keep _ _ hms)
    · rw [upd_ne (ne_of_none e hD)]
      exact made_same nx2 ndx2 keep2 _ _ (made_same nx ndx keep _ _ (sc b o e))
    · have s6 : Same Gc G6 := (made_same nx ndx keep).trans (made_same nx2 ndx2 keep2)
      have gD : G6 D = some (.lst (ms.map V.ref)) := s6 _ _ hms
      have kD : Kp G6 (upd G6 D (.lst (ms.map V.ref ++ [V.ref x2]))) := .put gD
      have old : MasAt CM CP (upd G6 D (.lst (ms.map V.ref ++ [V.ref x2]))) ms (((gs.take i).map mg3).map mf) := MasAt.kp (MasAt.same rd s6) kD
      rw [take_get hr, List.map_append, List.map_append]
      refine paired_snoc old (MaAt.kp ?_ kD)
      rw [okr.mf]
      exact ⟨x, mx, px.same (made_same nx2 ndx2 keep2)⟩
  · rintro G4 ⟨ms, hms, sc, rd, pl⟩
    rw [el, List.take_length] at rd
    exact k G4 ms hms sc rd
end OT
set_option linter.all false
set_option maxRecDepth 100000
set_option maxHeartbeats 1000000
namespace OT
/-- a march of m parts towards the place p of the road g leads from u to v -/
def Go (F : List Fact) (S : Int) (g : Nat) (p m : Int) (u v : Nd) : Prop := ∃ k i, On F S k i ∧ u = node F S k i ∧ v = pth F S g p k i (if hP F S g p k i < m then hP F S g p k i else m)
theorem arA {a b : Int} {t : Nat} (e : a = b - t) {c : Int} (f : c = b - (t + 1)) : c + 1 = a := by omega
theorem arB {h m : Int} (h0 : 0 ≤ h) (m0 : 0 ≤ m) : 0 ≤ (if h < m then h else m) ∧ (if h < m then h else m) ≤ h := by
  split <;> omega
theorem arC {t : Nat} {b : Int} (h : ((t + 1 : Nat) : Int) ≤ b) : (t : Int) + 1 ≤ b ∧ (t : Int) ≤ b := by omega
section
variable {n : Int} {F : List Fact} {S : Int} {g : Nat} {p : Int} (T : TreeM n F) (hS : 1 ≤ S) (hg : On F S g p)
include T hS hg
theorem pth_rep {k k' : Nat} {i i' : Int} (h : On F S k i) (h' : On F S k' i') (e : node F S k i = node F S k' i') : ∀ t : Nat, (t : Int) ≤ hP F S g p k i → pth F S g p k i (t : Nat) = pth F S g p k' i' (t : Nat) := by
  have eh : hP F S g p k i = hP F S g p k' i' := by rw [← hN_node T hS hg h, ← hN_node T hS hg h', e]
  intro t
  induction t with
  | zero =>
    intro _
    show pth F S g p k i 0 = pth F S g p k' i' 0
    rw [pth_0 T hS hg h, pth_0 T hS hg h', e]
  | succ t ih =>
    intro ht
    obtain ⟨h1, h2⟩ := arC ht
    have ih := ih h2
    obtain ⟨o, z, a⟩ := pth_ok T hS hg h (t := (t : Nat)) (Int.natCast_nonneg t) h2
    obtain ⟨o', z', a'⟩ := pth_ok T hS hg h' (t := (t : Nat)) (Int.natCast_nonneg t) (by rw [← eh]; exact h2)
    have a := a h1
    have a' := a' (by rw [← eh]; exact h1)
    rw [← ih] at a'
    obtain ⟨_, zz, _⟩ := pth_ok T hS hg h (t := (t : Int) + 1) (Int.le_trans (Int.natCast_nonneg t) (Int.le_add_one (Int.le_refl _))) h1
    obtain ⟨_, zz', _⟩ := pth_ok T hS hg h' (t := (t : Int) + 1) (Int.le_trans (Int.natCast_nonneg t) (Int.le_add_one (Int.le_refl _))) (by rw [← eh]; exact h1)
    rw [← eh] at zz'
    have r := lower_uniq T hS hg a a' (arA z zz) (arA z zz')
    rw [Int.natCast_succ]
    exact r
theorem Go.uniq {m : Int} (m0 : 0 ≤ m) {u v v' : Nd} (a : Go F S g p m u v) (b : Go F S g p m u v') : v = v' := by
  obtain ⟨k, i, o, rfl, rfl⟩ := a
  obtain ⟨k', i', o', e, rfl⟩ := b
  have eh : hP F S g p k i = hP F S g p k' i' := by rw [← hN_node T hS hg o, ← hN_node T hS hg o', e]
  rw [← eh]
  obtain ⟨b1, b2⟩ := arB (show 0 ≤ hP F S g p k i from total_nn _) m0
  have r := pth_rep T hS hg o o' e (if hP F S g p k i < m then hP F S g p k i else m).toNat (by rw [Int.toNat_of_nonneg b1]; exact b2)
  rw [Int.toNat_of_nonneg b1] at r
  exact r
theorem Go.on {m : Int} (m0 : 0 ≤ m) {u v : Nd} (a : Go F S g p m u v) : OnT F S v := by
  obtain ⟨k, i, o, rfl, rfl⟩ := a
  obtain ⟨b1, b2⟩ := arB (show 0 ≤ hP F S g p k i from total_nn _) m0
  exact (pth_ok T hS hg o b1 b2).1
end
theorem Go.ex {F : List Fact} {S : Int} {g : Nat} {p m : Int} {u : Nd} (h : OnT F S u) : ∃ v, Go F S g p m u v := let ⟨k, i, o, e⟩ := h; ⟨_, k, i, o, e, rfl⟩
def GoX (F : List Fact) (S : Int) (x : MG) (u v : Nd) : Prop := Go F S x.1 (x.2.1 * S) (x.2.2 * S) u v
/-- a row's marches, one behind the other -/
def GoL (F : List Fact) (S : Int) : List MG → Nd → Nd → Prop
  | [], u, v => u = v
  | x :: l, u, v => ∃ w, GoX F S x u w ∧ GoL F S l w v
def GoR (F : List Fact) (S : Int) (l : List MG) : Nat → Nd → Nd → Prop
  | 0, u, v => u = v
  | c + 1, u, v => ∃ w, GoR F S l c u w ∧ GoL F S l w v
theorem GoL.append {F : List Fact} {S : Int} : ∀ {l m : List MG} {u v w : Nd}, GoL F S l u v → GoL F S m v w → GoL F S (l ++ m) u w
  | [], _, _, _, _, h, k => by
    cases (show _ = _ from h)
    exact k
  | _ :: _, _, _, _, _, ⟨z, h1, h2⟩, k => ⟨z, h1, h2.append k⟩
theorem GoL.snoc {F : List Fact} {S : Int} {l : List MG} {x : MG} {u v w : Nd} (h : GoL F S l u v) (k : GoX F S x v w) : GoL F S (l ++ [x]) u w := h.append ⟨w, k, rfl⟩
section
variable {n : Int} {F : List Fact} {S : Int} (T : TreeM n F) (hS : 1 ≤ S)
include T hS
theorem GoL.uniq : ∀ {l : List MG} {u v v' : Nd}, (∀ x ∈ l, MgOk F x) → GoL F S l u v → GoL F S l u v' → v = v'
  | [], _, _, _, _, a, b => (show _ = _ from a).symm.trans b
  | x :: l, _, _, _, ok, ⟨w, a1, a2⟩, ⟨w', b1, b2⟩ => by
    have h := ok x List.mem_cons_self
    have e : w = w' := Go.uniq T hS (h.on hS) (h.m0 hS) a1 b1
    subst e
    exact GoL.uniq (fun y hy => ok y (List.mem_cons_of_mem _ hy)) a2 b2
theorem GoL.on : ∀ {l : List MG} {u v : Nd}, (∀ x ∈ l, MgOk F x) → OnT F S u → GoL F S l u v → OnT F S v
  | [], _, _, _, o, a => (show _ = _ from a) ▸ o
  | x :: l, _, _, ok, o, ⟨w, a1, a2⟩ => by
    have h := ok x List.mem_cons_self
    exact GoL.on (fun y hy => ok y (List.mem_cons_of_mem _ hy)) (Go.on T hS (h.on hS) (h.m0 hS) a1) a2
theorem GoR.uniq {l : List MG} (ok : ∀ x ∈ l, MgOk F x) : ∀ {c : Nat} {u v v' : Nd}, GoR F S l c u v → GoR F S l c u v' → v = v'
  | 0, _, _, _, a, b => (show _ = _ from a).symm.trans b
  | c + 1, _, _, _, ⟨w, a1, a2⟩, ⟨w', b1, b2⟩ => by
    have e : w = w' := GoR.uniq ok a1 b1
    subst e
    exact GoL.uniq T hS ok a2 b2
theorem GoR.on {l : List MG} (ok : ∀ x ∈ l, MgOk F x) : ∀ {c : Nat} {u v : Nd}, OnT F S u → GoR F S l c u v → OnT F S v
  | 0, _, _, o, a => (show _ = _ from a) ▸ o
  | c + 1, _, _, o, ⟨w, a1, a2⟩ => GoL.on T hS ok (GoR.on ok o a1) a2
end
end OT
set_option Elab.async false
set_option linter.all false
set_option maxRecDepth 100000
set_option maxHeartbeats 4000000
namespace OT
open PySem L2 OTR
theorem PrAt.kp {H H' : Hp} {t : Addr} {x : Nat × Int} (h : PrAt H t x) (k : Kp H H') : PrAt H' t x := k _ _ h fun _ z => nomatch z
/-- at t the law's own march: the pair of a place's name and the steps -/
def MrN (H : Hp) (t : Addr) (x : MG) : Prop := ∃ b, H t = some (.tup [.ref b, .int x.2.2]) ∧ PrAt H b (x.1, x.2.1)
theorem MrN.kp {H H' : Hp} {t : Addr} {x : MG} (h : MrN H t x) (k : Kp H H') : MrN H' t x := let ⟨b, e, p⟩ := h; ⟨b, k _ _ e (fun _ z => nomatch z), p.kp k⟩
theorem MrN.same {H H' : Hp} {t : Addr} {x : MG} (h : MrN H t x) (k : Same H H') : MrN H' t x := h.kp (.of k)
def MsN (H : Hp) (l : Addr) (gs : List MG) : Prop := ∃ ts : List Addr, H l = some (.lst (ts.map V.ref)) ∧ Paired (MrN H) ts gs
theorem MsN.same {H H' : Hp} {l : Addr} {gs : List MG} (h : MsN H l gs) (k : Same H H') : MsN H' l gs := let ⟨ts, e, p⟩ := h; ⟨ts, k _ _ e, Paired.mapP p fun _ _ a => a.same k⟩
theorem refs_ints {ts : List Addr} (a b c : Int) : HO.lst (ts.map V.ref) ≠ .lst [.int a, .int b, .int c] := fun e => by
  have e1 := HO.lst.inj e
  cases ts with
  | nil => exact nomatch e1
  | cons t r =>
    rw [List.map_cons] at e1
    exact nomatch (List.cons.inj e1).1
theorem MsN.but {H H' : Hp} {s l : Addr} {gs : List MG} (h : MsN H l gs) (src : Src H s) (b : But s H H') : MsN H' l gs := by
  obtain ⟨ts, e, p⟩ := h
  exact ⟨ts, b _ _ e (src.ne e fun x y z => refs_ints x y z), Paired.mapP p fun _ _ a => a.kp (.src src b)⟩
end OT
set_option Elab.async false
set_option linter.all false
set_option maxRecDepth 100000
set_option maxHeartbeats 4000000
set_option Elab.async false
set_option linter.all false
set_option maxRecDepth 100000
set_option maxHeartbeats 4000000
namespace OT
open PySem L2 OTR
/-- the pairs of a list: a key's tuple and a value -/
def PairL (H : Hp) (t : Addr) (x : List Key × Addr × V) : Prop := H t = some (.tup [.ref x.2.1, x.2.2]) ∧ H x.2.1 = some (.tup (x.1.map kV))
end OT
set_option Elab.async false
set_option linter.all false
set_option maxRecDepth 100000
set_option maxHeartbeats 4000000
namespace OT
open PySem L2 OTR
def nqL (F : List Fact) (u : Nd) : List Key := [.inl (((nqk F 1 u).1 : Nat) : Int), .inl (nqk F 1 u).2]
theorem nqL_inj {n : Int} {F : List Fact} (T : TreeM n F) (n2 : 2 ≤ n) {u v : Nd} (ou : OnT F 1 u) (ov : OnT F 1 v) (e : nqL F u = nqL F v) : u = v :=
  nq_inj T n2 (by decide) ou ov (congrArg Sum.inr e)
theorem putK_keys {κ : Type} [DecidableEq κ] {kvs : List (κ × V)} {k : κ} {v : V} (h : (valV kvs k).isSome = true) : (putK kvs k v).map (·.1) = kvs.map (·.1) := by
  unfold putK
  rw [valV_any, if_pos h, List.map_map]
  refine List.map_congr_left fun x _ => ?_
  show (if x.1 = k then (x.1, v) else x).1 = x.1
  split <;> rfl
/-- what stands in the table behind the marches gs, where D tells which entries are already those behind the next march x -/
structure TabN (F : List Fact) (us : List Nd) (G : Hp) (f : Addr) (kvs : List (List Key × V)) (im : Nd → Nd → Prop) : Prop where
  at_ : G f = some (.dT kvs)
  keys : kvs.map (·.1) = us.map (nqL F)
  ok : ∀ u, OnT F 1 u → ∃ t v, valV kvs (nqL F u) = some (.ref t) ∧ im u v ∧ OnT F 1 v ∧ PrAt G t (nqk F 1 v)
theorem TabN.keep {F : List Fact} {us : List Nd} {G G' : Hp} {f : Addr} {kvs : List (List Key × V)} {im : Nd → Nd → Prop} (N : TabN F us G f kvs im) (s : Same G G') : TabN F us G' f kvs im :=
  ⟨s _ _ N.at_, N.keys, fun u o => let ⟨t, v, a, b, c, d⟩ := N.ok u o; ⟨t, v, a, b, c, d.same s⟩⟩
theorem TabN.imp {F : List Fact} {us : List Nd} {G : Hp} {f : Addr} {kvs : List (List Key × V)} {im im' : Nd → Nd → Prop} (N : TabN F us G f kvs im) (h : ∀ u v, OnT F 1 u → im u v → im' u v) : TabN F us G f kvs im' :=
  ⟨N.at_, N.keys, fun u o => let ⟨t, v, a, b, c, d⟩ := N.ok u o; ⟨t, v, a, h u v o b, c, d⟩⟩
theorem TabN.put {n : Int} {F : List Fact} {us : List Nd} {G : Hp} {f : Addr} {kvs : List (List Key × V)} {im im' : Nd → Nd → Prop} {u0 v0 : Nd} {t0 : Addr} (T : TreeM n F) (n2 : 2 ≤ n) (N : TabN F us G f kvs im) (o0 : OnT F 1 u0) (ov : OnT F 1 v0) (p0 : PrAt G t0 (nqk F 1 v0)) (h0 : im' u0 v0)
    (h : ∀ u v, OnT F 1 u → u ≠ u0 → im u v → im' u v) : TabN F us (upd G f (.dT (putK kvs (nqL F u0) (.ref t0)))) f (putK kvs (nqL F u0) (.ref t0)) im' := by
  have keep : ∀ {t : Addr} {x : Nat × Int}, PrAt G t x → PrAt (upd G f (.dT (putK kvs (nqL F u0) (.ref t0)))) t x := fun {t x} p => by
    unfold PrAt at p ⊢
    rw [upd_ne (ne_of p N.at_ fun z => nomatch z)]
    exact p
  refine ⟨upd_same, ?_, fun u o => ?_⟩
  · obtain ⟨t, v, a, _⟩ := N.ok u0 o0
    rw [putK_keys (by rw [a]; rfl)]
    exact N.keys
  · by_cases e : u = u0
    · subst e
      exact ⟨t0, v0, by rw [valV_put, if_pos rfl], h0, ov, keep p0⟩
    · obtain ⟨t, v, a, b, c, d⟩ := N.ok u o
      exact ⟨t, v, by rw [valV_put, if_neg fun z => e (nqL_inj T n2 o o0 z)]; exact a, h u v o e b, c, keep d⟩
theorem WayN.put {P : Program} {w : World} {F : List Fact} {S : Int} {g : Nat} {p : Int} {H : Hp} {f d : Addr} {kvs : List (MKy × V)} {kd kd' : List (List Key × V)} (N : WayN P w F S g p H f kvs) (e : H d = some (.dT kd)) : WayN P w F S g p (upd H d (.dT kd')) f kvs := by
  have tp : ∀ b xs, H b = some (.tup xs) → upd H d (.dT kd') b = some (.tup xs) := fun b xs h => by
    rw [upd_ne (ne_of h e fun z => nomatch z)]
    exact h
  obtain ⟨ent, ef, _⟩ := id N.at_
  exact ⟨N.at_.keep (fun o h => by rw [upd_ne (ne_of ef e fun z => nomatch z)]; exact h) tp, fun u o => let ⟨t, z, a, b, c⟩ := N.ok u o; ⟨t, z, a, tp _ _ b, c.elim .inl fun ⟨v, h1, h2, h3⟩ => .inr ⟨v, h1, h2, h3.keep tp⟩⟩⟩
/-- a walk's next position -/
theorem pth_next {n : Int} {F : List Fact} {S : Int} {g : Nat} {p : Int} (T : TreeM n F) (hS : 1 ≤ S) (hg : On F S g p) {k : Nat} {i : Int} (hk : On F S k i) {j : Nat} (hj : (j : Int) + 1 ≤ hP F S g p k i) {v : Nd} (a : Adj F S (pth F S g p k i (j : Nat)) v) (l : hN F S g p v + 1 = hN F S g p (pth F S g p k i (j : Nat))) : v = pth F S g p k i ((j : Int) + 1) := by
  obtain ⟨h1, h2⟩ := arC (t := j) (by rw [Int.natCast_succ]; exact hj)
  obtain ⟨o, z, a'⟩ := pth_ok T hS hg hk (t := (j : Nat)) (Int.natCast_nonneg j) h2
  obtain ⟨_, z', _⟩ := pth_ok T hS hg hk (t := (j : Int) + 1) (Int.le_trans (Int.natCast_nonneg j) (Int.le_add_one (Int.le_refl _))) h1
  exact (lower_uniq T hS hg (a' h1) a (arA z z') l).symm
end OT
set_option Elab.async false
set_option linter.all false
set_option maxRecDepth 100000
set_option maxHeartbeats 4000000
namespace OT
open PySem L2 OTR
abbrev sSample : Stmt := top 62
abbrev sRTree : Stmt := top 63
def rLenQ (K : PySem.W.Frag) : List V → Hp → VK → Prop := fun xs H Q => ∃ p ys, xs = [.ref p] ∧ (SqL K H p ys ∨ SqT K H p ys) ∧ Q (.int ys.length) H
def spSample : Sp := fun vs H Q _ => ∃ (s l : Addr) (xs : List V) (c : Nat), vs = [.ref s, .ref l, .int ((c : Nat) : Int)] ∧ Src H s ∧ H l = some (.lst xs) ∧ xs.length ≤ 1000 ∧ c ≤ xs.length ∧
  ∀ p ys zs H', (ys ++ zs).Perm xs → ys.length = c → H p = none → H' p = some (.lst ys) → Src H' s → But s H H' → Q (.ref p) H'
def spRTree : Sp := fun vs H Q _ => ∃ (s : Addr) (most long : Int), vs = [.ref s, .int most, .int long] ∧ Src H s ∧ 2 ≤ most ∧ most ≤ 24 ∧ 1 ≤ long ∧ long ≤ 1000000000 ∧
  ∀ p q n fs H', H' p = some (.tup [.int n, .ref q]) → H q = none → FactsAt H' q fs → Drawn most long n fs → (∀ r ∈ fs, r.2.2 ≤ long) → Src H' s → But s H H' → Q (.ref p) H'
theorem src_fresh {s : Addr} {H G : Hp} {p : Addr} (b : But s H G) (sg : Src G s) (hp : G p = none) : H p = none := by
  cases e : H p with
  | none => rfl
  | some o =>
    have z := b p o e (sg.new hp)
    rw [hp] at z
    cases z
section
variable {P : Program} {w : World} {K : PySem.W.Frag} {mg : Str → Option Value} {base : Heap}
abbrev nSample : List Str := ["_law_rng_here", "_law_items", "_law_count", "_law_left", "_law_index"]
theorem scSample : FnScope nSample ["_law_rng_here", "_law_items", "_law_count"] (defScope sSample) := ⟨rfl, rfl, rfl, by decide +kernel, rfl, by decide +kernel, by decide +kernel⟩
theorem ok_sample {f fD : Addr} {fd fdD : FuncData} (F : Fun K "_law_sample" "_law_sample" sSample f fd) (FD : FnOk P w K mg base CX0 1 fD fdD ["_law_rng_here", "_law_limit"] spDraw) (bD : Binds K fdD ["_law_rng_here", "_law_limit"] []) (mD : mg "_law_draw" = some (.ref fD)) (kD : PySem.W.keepIn K (.ref fD) = true)
    (hLen : mg "len" = none) (hList : mg "list" = none) (hRg : mg "range" = none) : FnOk P w K mg base CX0 2 f fd ["_law_rng_here", "_law_items", "_law_count"] spSample := by
  refine F.ok scSample (fun vs H Q E h => ?_) (fun cdv A outer s0 H vs Q E hr h => ?_)
  · obtain ⟨s, l, xs, c, rfl, _⟩ := h
    rfl
  · obtain ⟨s, l, xs, c, rfl, hs, hl, lx, cx, kont⟩ := h
    have hr1 : Room 1 _ := hr.mono (by decide)
    refine ⟨_, pss_cons (ps_set (i := 3) scSample.nd rfl (Or.inr rfl) (pe_callTy call_list_of (by rfl) hList (by decide +kernel) (pa_cons (pv 1) pa_nil)))
      (pss_one (ps_ret (pe_lc (own := [("_law_index", 4)]) (g := gName 4) (tt := tYes) (te := tBM K "list" rPopAt (tVar 3) (tCons (tCall spDraw [] L2.E0 (tCons (tVar 0) (tCons (tCB (rLenQ K) (tCons (tVar 3) tNil)) tNil))) tNil)) rfl scSample.nd (pi_range1 (by rfl) hRg (pa_cons (pv 2) pa_nil)) (blkOk_by (own := [("_law_index", 4)]) (N := nSample) (sc := defScope sSample) (by decide +kernel)) (fun _ _ _ _ _ => (pg_name (i := 4) scSample.nd rfl (Or.inl rfl))) (fun _ _ _ _ _ => pts_nil)
        (fun _ _ _ _ _ => (pe_bm PySem.F.plainAttrs_list PySem.F.slot_list_pop PySem.F.type_list_pop mt_popAt (pv 3) (pa_cons (pe_call FD hr1 rfl mD kD bD .nil pass0 (pa_cons (pv 0) (pa_cons (pe_callB call_len_seq (by rfl) hLen (by decide +kernel) (pa_cons (pv 3) pa_nil)) pa_nil))) pa_nil)))))), ?_⟩
    refine ⟨_, rfl, l, xs, rfl, .inl (SqL.of hl), fun p2 h2 => ?_⟩
    have n2 : p2 ≠ s := hs.new h2
    have hs2 : Src (upd H p2 (.lst xs)) s := hs.same (Same.new h2)
    have b2 : But s H (upd H p2 (.lst xs)) := fun b o e _ => Same.new h2 b o e
    have g2 : upd H p2 (.lst xs) p2 = some (.lst xs) := upd_same
    dsimp only [gName]
    generalize upd H p2 (.lst xs) = H2 at hs2 b2 g2 ⊢
    refine ⟨_, rfl, _, rfl, by omega, by omega, fun D hD => ?_⟩
    have nDs : D ≠ s := hs2.new hD
    have nD : p2 ≠ D := fun e => by rw [e] at g2; rw [g2] at hD; cases hD
    have hDH : H D = none := src_fresh b2 hs2 hD
    refine lc_range (lo := 0) (n := (((c : Nat) : Int)).toNat) (fun j Gc => ∃ ys ls : List V, Gc D = some (.lst ys) ∧ Gc p2 = some (.lst ls) ∧ (ys ++ ls).Perm xs ∧ ys.length = j ∧ Src Gc s ∧ But s H Gc)
      ⟨[], xs, upd_same, by rw [upd_ne nD]; exact g2, List.Perm.refl _, rfl, hs2.upd nDs, fun b o e n => by
        have := b2 b o e n
        rw [upd_ne (ne_of_none this hD)]
        exact this⟩ ?_ ?_
    · rintro j Gc hj ⟨ys, ls, gD, gp, pm, yl, src, bb⟩
      have tot := pm.length_eq
      rw [List.length_append] at tot
      have hj' : j < c := by omega
      refine ⟨rfl, ?_⟩
      unfold tYes
      refine iteT ⟨_, rfl, .inl ⟨rfl, _, SqL.of gp⟩, _, rfl, _, rfl, p2, ls, rfl, .inl (SqL.of gp), s, _, rfl, src, by omega, by omega, fun r H5 r0 r1 src5 b5 => ?_⟩
      have gp5 := b5 _ _ gp n2
      have gD5 := b5 _ _ gD nDs
      obtain ⟨jj, rfl⟩ : ∃ jj : Nat, r = (jj : Int) := ⟨r.toNat, by omega⟩
      have hjj : jj < ls.length := by omega
      refine ⟨p2, ls, (jj : Int), jj, ls[jj], rfl, rfl, gp5, by omega, by omega, by rw [seqIx r0 r1]; simp, List.getElem?_eq_getElem hjj, ?_⟩
      have pe := perm_erase (List.getElem?_eq_getElem hjj)
      refine ⟨ys, by rw [upd_ne (Ne.symm nD)]; exact gD5, small1000 (by omega), ys ++ [ls[jj]], ls.eraseIdx jj, upd_same, by rw [upd_ne nD]; exact upd_same, ?_, by rw [List.length_append, yl]; rfl, (src5.upd n2).upd nDs, fun b o e nb => ?_⟩
      · rw [List.append_assoc]
        exact (List.Perm.append_left ys pe).trans pm
      · rw [upd_ne (ne_of_none e hDH), upd_ne (ne_of_none e h2)]
        exact b5 b o (bb b o e nb) nb
    · rintro Gc ⟨ys, ls, gD, gp, pm, yl, src, bb⟩
      exact kont D ys ls Gc pm (by omega) hDH gD src bb
abbrev nRTree : List Str := ["_law_rng_here", "_law_max_crossings", "_law_max_length", "_law_count", "_law_names", "_law_roads", "_law_index", "_law_parent", "_law_ends"]
theorem scRTree : FnScope nRTree ["_law_rng_here", "_law_max_crossings", "_law_max_length"] (defScope sRTree) := ⟨rfl, rfl, rfl, by decide +kernel, rfl, by decide +kernel, by decide +kernel⟩
theorem ok_rTree {f fD fP fS : Addr} {fd fdD fdP fdS : FuncData} (F : Fun K "_law_random_tree" "_law_random_tree" sRTree f fd)
    (FD : FnOk P w K mg base CX0 1 fD fdD ["_law_rng_here", "_law_limit"] spDraw) (bD : Binds K fdD ["_law_rng_here", "_law_limit"] []) (mD : mg "_law_draw" = some (.ref fD)) (kD : PySem.W.keepIn K (.ref fD) = true)
    (FP : FnOk P w K mg base CX0 2 fP fdP ["_law_rng_here", "_law_items"] (spPick K)) (bP : Binds K fdP ["_law_rng_here", "_law_items"] []) (mP : mg "_law_pick" = some (.ref fP)) (kP : PySem.W.keepIn K (.ref fP) = true)
    (FS : FnOk P w K mg base CX0 2 fS fdS ["_law_rng_here", "_law_items", "_law_count"] spSample) (bS : Binds K fdS ["_law_rng_here", "_law_items", "_law_count"] []) (mS : mg "_law_sample" = some (.ref fS)) (kS : PySem.W.keepIn K (.ref fS) = true)
    (hList : mg "list" = none) (hRg : mg "range" = none) : FnOk P w K mg base CX0 3 f fd ["_law_rng_here", "_law_max_crossings", "_law_max_length"] spRTree := by
  refine F.ok scRTree (fun vs H Q E h => ?_) (fun cdv A outer s0 H vs Q E hr h => ?_)
  · obtain ⟨s, most, long, rfl, _⟩ := h
    rfl
  · obtain ⟨s, most, long, rfl, hs, m2, m24, l1, l9, k⟩ := h
    have hr1 : Room 1 _ := hr.mono (by decide)
    have hr2 : Room 2 _ := hr.mono (by decide)
    refine ⟨_, pss_cons (ps_set (i := 3) scRTree.nd rfl (Or.inl rfl) (pe_op op_add pe_int (pe_call FD hr1 rfl mD kD bD .nil pass0 (pa_cons (pv 0) (pa_cons (pe_op op_sub (pv 1) pe_int) pa_nil)))))
      (pss_cons (ps_set (i := 4) scRTree.nd rfl (Or.inl rfl) (pe_call FS hr2 rfl mS kS bS .nil pass0 (pa_cons (pv 0) (pa_cons (pe_listRg rfl rfl hList (prg_1 rfl hRg (pv 3))) (pa_cons (pv 3) pa_nil)))))
      (pss_cons (ps_set (i := 5) scRTree.nd rfl (Or.inl rfl) (pe_lst pa_nil))
      (pss_cons (ps_for PassesOwn.never rfl (pi_range2 (by rfl) hRg (pa_cons pe_int (pa_cons (pv 3) pa_nil))) (pg_name (i := 6) scRTree.nd rfl (Or.inl rfl))
        (pss_cons (ps_set (i := 7) scRTree.nd rfl (Or.inl rfl) (pe_call FP hr2 rfl mP kP bP .nil pass0 (pa_cons (pv 0) (pa_cons (pe_lst (pa_cons (pe_call FD hr1 rfl mD kD bD .nil pass0 (pa_cons (pv 0) (pa_cons (pv 6) pa_nil))) (pa_cons (pe_op op_sub (pv 6) pe_int) (pa_cons pe_int pa_nil)))) pa_nil))))
        (pss_cons (ps_set (i := 8) scRTree.nd rfl (Or.inl rfl) (pe_lst (pa_cons (pe_ix ix_list (pv 4) (pv 6) (fun _ _ => rfl)) (pa_cons (pe_ix ix_list (pv 4) (pv 7) (fun _ _ => rfl)) pa_nil))))
        (C8.pss_cut (ps_if (pt_cmpR op_eq (pe_call FD hr1 rfl mD kD bD .nil pass0 (pa_cons (pv 0) (pa_cons pe_int pa_nil))) pe_int (nomark _))
            (pss_one (ps_expr (pe_bm0 PySem.F.plainAttrs_list PySem.F.slot_list_reverse PySem.F.type_list_reverse mt_reverse (pv 8)))) pss_nil)
        (pss_one (ps_expr (pe_bm PySem.F.plainAttrs_list PySem.F.slot_list_append PySem.F.type_list_append mt_append (pv 5)
            (pa_cons (pe_tup (pa_cons (pe_ix ix_list (pv 8) pe_int (fun _ _ => rfl)) (pa_cons (pe_ix ix_list (pv 8) pe_int (fun _ _ => rfl)) (pa_cons (pe_op op_add pe_int (pe_call FD hr1 rfl mD kD bD .nil pass0 (pa_cons (pv 0) (pa_cons (pv 2) pa_nil)))) pa_nil)))) pa_nil))))))))
      (pss_one (ps_ret (pe_tup (pa_cons (pv 3) (pa_cons (pe_call FS hr2 rfl mS kS bS .nil pass0 (pa_cons (pv 0) (pa_cons (pv 5) (pa_cons (pe_op op_sub (pv 3) pe_int) pa_nil)))) pa_nil)))))))), ?_⟩
    -- count = 2 + draw(rng, max_crossings - 1)
    refine ⟨_, rfl, _, rfl, _, _, rfl, rfl, s, most - 1, rfl, hs, by omega, by omega, fun r0 H1 r0a r0b src1 b1 => ⟨_, _, rfl, rfl, ?_⟩⟩
    obtain ⟨n, hn⟩ : ∃ n : Int, n = 2 + r0 := ⟨_, rfl⟩
    dsimp only [gName]
    rw [← hn]
    have n2 : 2 ≤ n := by omega
    have nm : n ≤ most := by omega
    obtain ⟨nn, hnn⟩ : ∃ nn : Nat, ((nn : Nat) : Int) = n := ⟨n.toNat, by omega⟩
    -- names = sample(rng, list(range(count)), count)
    refine ⟨_, rfl, _, rfl, n, rfl, RgOk.of_le (by omega) (by omega) (by omega) (by omega), fun q1 hq1 => ⟨_, rfl, ?_⟩⟩
    have src1' : Src (upd H1 q1 (.lst (rgV 0 n))) s := src1.same (Same.new hq1)
    refine ⟨s, q1, rgV 0 n, nn, by rw [hnn]; rfl, src1', upd_same, by rw [rgV_length]; omega, by rw [rgV_length]; omega, fun po ys zs H2 pm yl hpo1 hpo src2 b2 => ?_⟩
    have z0 : zs = [] := by
      have := pm.length_eq
      rw [List.length_append, rgV_length] at this
      exact List.length_eq_zero_iff.mp (by omega)
    rw [z0, List.append_nil] at pm
    obtain ⟨os, rfl, po'⟩ : ∃ os : List Int, ys = os.map V.int ∧ os.Perm ((List.range (n - 0).toNat).map fun i : Nat => (0 : Int) + (i : Nat)) := by
      have e : rgV 0 n = ((List.range (n - 0).toNat).map fun i : Nat => (0 : Int) + (i : Nat)).map V.int := by
        unfold rgV
        rw [List.map_map]
        rfl
      rw [e] at pm
      exact perm_map pm
    have ol : os.length = n.toNat := by
      rw [po'.length_eq, List.length_map, List.length_range]
      congr 1
      omega
    have ond : os.Nodup := po'.nodup_iff.mpr (List.Pairwise.map _ (fun a b (z : a < b) => by omega) (List.pairwise_lt_range))
    have oin : ∀ x ∈ os, In n x := fun x hx => by
      obtain ⟨i, hi, rfl⟩ := List.mem_map.mp (po'.mem_iff.mp hx)
      have := List.mem_range.mp hi
      exact ⟨by omega, by omega⟩
    have b02 : But s H H2 := fun b o e nb => b2 b o (Same.new hq1 b o (b1 b o e nb)) nb
    have hpo0 : H1 po = none := by
      by_cases e : po = q1
      · rw [e]
        exact hq1
      · rw [upd_ne e] at hpo1
        exact hpo1
    have npo : po ≠ s := src1.new hpo0
    have fresh : ∀ {G : Hp} {p : Addr}, But s H G → Src G s → G p = none → H p = none := fun {G p} b sg hp => src_fresh b sg hp
    have hpoH : H po = none := fresh b1 src1 hpo0
    -- roads = []
    refine ⟨Nat.zero_le _, fun pf hpf => ?_⟩
    have npf : pf ≠ s := src2.new hpf
    have hpfH : H pf = none := fresh b02 src2 hpf
    have npp : po ≠ pf := ne_of_none hpo hpf
    have src3 : Src (upd H2 pf (.lst [])) s := src2.same (Same.new hpf)
    -- for index in range(1, count)
    refine ⟨_, rfl, 1, n, rfl, ⟨by omega, by omega, by omega, by omega⟩, for_range (lo := 1) (n := (n - 1).toNat) (fun i σ G => ∃ (v6 v7 v8 : Option V) (ts : List Addr) (fs : List Fact), σ = [some (.ref s), some (.int most), some (.int long), some (.int n), some (.ref po), some (.ref pf), v6, v7, v8] ∧
        Src G s ∧ But s H G ∧ G po = some (.lst (os.map V.int)) ∧ G pf = some (.lst (ts.map V.ref)) ∧ Paired (TupAt G) ts fs ∧ Part os long i fs ∧ ∀ r ∈ fs, r.2.2 ≤ long)
      ⟨none, none, none, [], [], rfl, src3, b02.put hpfH, by rw [upd_ne npp]; exact hpo, upd_same, .nil, ⟨rfl, fun r z => (by cases z), noRing_nil, fun x y hx hy => one_con hx hy⟩, fun r z => (by cases z)⟩ ?_ ?_⟩
    · rintro i σ G hi ⟨v6, v7, v8, ts, fs, rfl, sg, bg, gpo, gpf, gts, part, lens⟩
      let at' : Int := 1 + (i : Int)
      have hat : at' = 1 + (i : Int) := rfl
      have il : i + 1 < os.length := by omega
      have ha : os[i + 1]? = some os[i + 1] := List.getElem?_eq_getElem il
      generalize os[i + 1] = a at ha
      have hav : (os.map V.int)[i + 1]? = some (V.int a) := by rw [List.getElem?_map, ha]; rfl
      have tsl : ts.length ≤ 1000 := by
        have := Paired.length gts
        have := part.len
        omega
      -- parent = pick(rng, [draw(rng, index), index - 1, 0])
      refine ⟨_, rfl, _, rfl, _, rfl, s, at', rfl, sg, by omega, by omega, fun d G1 d0 d1 sg1 bg1 => ?_⟩
      refine ⟨_, rfl, _, _, rfl, rfl, (by show 3 ≤ sizeLine; decide), fun pl hpl => ?_⟩
      have sg1' := sg1.same (Same.new (o := .lst [.int d, .int (at' - 1), .int 0]) hpl)
      refine ⟨s, pl, _, rfl, sg1', sg1.new hpl, SqL.of upd_same, (by show 0 < 3; decide), (by show 3 < 1000000; decide), fun v G2 hv sg2 bg2 => ?_⟩
      have gpo2 : G2 po = some (.lst (os.map V.int)) := bg2 _ _ (Same.new hpl _ _ (bg1 _ _ gpo npo)) npo
      have gpf2 : G2 pf = some (.lst (ts.map V.ref)) := bg2 _ _ (Same.new hpl _ _ (bg1 _ _ gpf npf)) npf
      have gts2 : Paired (TupAt G2) ts fs := tups_but (tups_same (tups_but gts sg bg1) (Same.new hpl)) sg1' bg2
      have bgg2 : But s H G2 := fun b o e nb => bg2 b o (Same.new hpl b o (bg1 b o (bg b o e nb) nb)) nb
      obtain ⟨j, rfl, hj⟩ : ∃ j : Nat, v = V.int (j : Int) ∧ j ≤ i := by
        rcases List.mem_cons.mp hv with rfl | hv
        · exact ⟨d.toNat, congrArg V.int (show (d : Int) = ((d.toNat : Nat) : Int) by omega), by omega⟩
        · rcases List.mem_cons.mp hv with rfl | hv
          · exact ⟨i, congrArg V.int (show (at' - 1 : Int) = (i : Int) by omega), Nat.le_refl _⟩
          · rcases List.mem_cons.mp hv with rfl | hv
            · exact ⟨0, rfl, Nat.zero_le _⟩
            · cases hv
      have jl : j < os.length := by omega
      have hb : os[j]? = some os[j] := List.getElem?_eq_getElem jl
      generalize os[j] = b at hb
      have hbv : (os.map V.int)[j]? = some (V.int b) := by rw [List.getElem?_map, hb]; rfl
      -- ends = [names[index], names[parent]]
      refine ⟨_, rfl, _, rfl, po, os.map V.int, at', V.int a, rfl, rfl, SqL.of gpo2, at_of (by omega) hav, ?_⟩
      refine ⟨_, rfl, _, rfl, po, os.map V.int, (j : Int), V.int b, rfl, rfl, SqL.of gpo2, atI_nat hbv, (by show 2 ≤ sizeLine; decide), fun pe hpe => ?_⟩
      have npe : pe ≠ s := sg2.new hpe
      have poe : po ≠ pe := ne_of_none gpo2 hpe
      have pfe : pf ≠ pe := ne_of_none gpf2 hpe
      have hpeH : H pe = none := fresh bgg2 sg2 hpe
      have s3 : Same G2 (upd G2 pe (.lst [.int a, .int b])) := Same.new hpe
      -- if draw(rng, 2) == 0: ends.reverse()
      refine ⟨fun σ' G' => ∃ x y : Int, σ' = [some (.ref s), some (.int most), some (.int long), some (.int n), some (.ref po), some (.ref pf), some (.int at'), some (.int (j : Int)), some (.ref pe)] ∧ G' pe = some (.lst [.int x, .int y]) ∧ ((x = a ∧ y = b) ∨ (x = b ∧ y = a)) ∧
          Src G' s ∧ But s H G' ∧ G' po = some (.lst (os.map V.int)) ∧ G' pf = some (.lst (ts.map V.ref)) ∧ Paired (TupAt G') ts fs, ?_, ?_⟩
      · refine ⟨_, rfl, s, 2, rfl, sg2.same s3, by decide, by decide, fun c G4 c0 c1 sg4 bg4 => ?_⟩
        have e4 := bg4 _ _ (upd_same (H := G2) (a := pe) (o := .lst [.int a, .int b])) npe
        have gpo4 := bg4 _ _ (s3 _ _ gpo2) npo
        have gpf4 := bg4 _ _ (s3 _ _ gpf2) npf
        have gts4 := tups_but (tups_same gts2 s3) (sg2.same s3) bg4
        have bgg4 : But s H G4 := fun b o e nb => bg4 b o (s3 b o (bgg2 b o e nb)) nb
        refine ⟨rfl, _, rfl, ?_⟩
        by_cases hc : c = 0
        · subst hc
          refine iteT ⟨_, rfl, .inl ⟨rfl, _, SqL.of e4⟩, pe, _, rfl, rfl, e4, b, a, rfl, upd_same, .inr ⟨rfl, rfl⟩, sg4.upd npe, bgg4.put hpeH, by rw [upd_ne poe]; exact gpo4, by rw [upd_ne pfe]; exact gpf4, ?_⟩
          exact tups_put gts4 e4
        · have h3 : ¬ (V.int c = V.int 0) := fun z => hc (V.int.inj z)
          rw [decide_eq_false h3]
          exact iteF ⟨a, b, rfl, e4, .inl ⟨rfl, rfl⟩, sg4, bgg4, gpo4, gpf4, gts4⟩
      · rintro σ' G4 ⟨x, y, rfl, e4, hxy, sg4, bgg4, gpo4, gpf4, gts4⟩
        refine ⟨_, rfl, .inl ⟨rfl, _, SqL.of gpf4⟩, ?_⟩
        refine ⟨_, rfl, pe, _, 0, V.int x, rfl, rfl, SqL.of e4, rfl, _, rfl, pe, _, 1, V.int y, rfl, rfl, SqL.of e4, rfl, ?_⟩
        refine ⟨_, rfl, _, rfl, s, long, rfl, sg4, by omega, by omega, fun d G5 d0 d1 sg5 bg5 => ⟨_, _, rfl, rfl, ?_⟩⟩
        have z1 : 1 ≤ 1 + d := by omega
        have z2 : 1 + d ≤ long := by omega
        have gpo6 := bg5 _ _ gpo4 npo
        have gpf6 := bg5 _ _ gpf4 npf
        have gts6 := tups_but gts4 sg4 bg5
        have bgg6 : But s H G5 := fun b o e nb => bg5 b o (bgg4 b o e nb) nb
        refine ⟨(by show 3 ≤ sizeLine; decide), fun pt hpt => ?_⟩
        have s6 : Same G5 (upd G5 pt (.tup [.int x, .int y, .int (1 + d)])) := Same.new hpt
        refine ⟨pf, ts.map V.ref, .ref pt, rfl, rfl, s6 _ _ gpf6, small1000 (by rw [List.length_map]; omega), ?_⟩
        have nft : pt ≠ pf := (ne_of_none gpf6 hpt).symm
        refine ⟨_, _, _, ts ++ [pt], fs ++ [(x, y, 1 + d)], rfl, (sg5.same s6).upd npf, (bgg6.put (fresh bgg6 sg5 hpt)).put hpfH, by rw [upd_ne npp]; exact s6 _ _ gpo6, by rw [List.map_append]; exact upd_same, paired_snoc (tups_put (tups_same gts6 s6) (s6 _ _ gpf6)) ?_, part.add ond ha hb hj (hxy) z1 (.inr z2), fun r hr => ?_⟩
        · show upd _ pf _ pt = _
          rw [upd_ne nft]
          exact upd_same
        · rcases List.mem_append.mp hr with h | h
          · exact lens r h
          · rw [List.mem_singleton.mp h]
            exact z2
    · rintro σ G ⟨v6, v7, v8, ts, fs, rfl, sg, bg, gpo, gpf, gts, part, lens⟩
      have tsl : ts.length = nn - 1 := by
        have := Paired.length gts
        have := part.len
        omega
      refine ⟨_, rfl, _, rfl, _, rfl, _, rfl, _, _, rfl, rfl, s, pf, ts.map V.ref, nn - 1, by rw [show ((nn - 1 : Nat) : Int) = n - 1 by omega]; rfl, sg, gpf, by rw [List.length_map]; omega, by rw [List.length_map]; omega, fun p ys zs G1 pm yl hp hys sg1 bg1 => ⟨(by show 2 ≤ sizeLine; decide), fun pt hpt => ?_⟩⟩
      have z0 : zs = [] := by
        have := pm.length_eq
        rw [List.length_append, List.length_map] at this
        exact List.length_eq_zero_iff.mp (by omega)
      rw [z0, List.append_nil] at pm
      obtain ⟨ts', rfl, q'⟩ := perm_map pm
      obtain ⟨fs', h', qf⟩ := perm_paired q' gts
      have s1 : Same G1 (upd G1 pt (.tup [.int n, .ref p])) := Same.new hpt
      have allin : ∀ x, In n x → x ∈ os.take ((n - 1).toNat + 1) := fun x hx => by
        rw [List.take_of_length_le (by omega)]
        refine po'.mem_iff.mpr (List.mem_map.mpr ⟨x.toNat, List.mem_range.mpr ?_, ?_⟩)
        · have := hx.1
          have := hx.2
          omega
        · have := hx.1
          omega
      refine k pt p n fs' _ upd_same (fresh bg sg hp) ⟨ts', s1 _ _ hys, tups_same (tups_but h' sg bg1) s1⟩ ⟨n2, nm, by rw [qf.length_eq, part.len]; omega, fun r hr => ?_, noRing_perm qf part.nr, fun x y hx hy => (part.con x y (allin x hx) (allin y hy)).mono fun r hr => qf.mem_iff.mpr hr⟩ (fun r hr => lens r (qf.mem_iff.mp hr)) (sg1.same s1) fun b o e nb => s1 b o (bg1 b o (bg b o e nb) nb)
      obtain ⟨a, b, c⟩ := part.ok r (qf.mem_iff.mp hr)
      exact ⟨oin _ (List.mem_of_mem_take a), oin _ (List.mem_of_mem_take b), c⟩
end
end OT
set_option Elab.async false
set_option linter.all false
set_option maxRecDepth 100000
set_option maxHeartbeats 4000000
namespace OT
open PySem L2 OTR
theorem PairL.kp {H H' : Hp} {t : Addr} {x : List Key × Addr × V} (h : PairL H t x) (k : Kp H H') : PairL H' t x := ⟨k _ _ h.1 (fun _ z => nomatch z), k _ _ h.2 (fun _ z => nomatch z)⟩
end OT
set_option linter.all false
set_option maxRecDepth 100000
set_option maxHeartbeats 1000000
namespace OT
section
variable {n : Int} {F : List Fact} {S : Int} {g : Nat} {p : Int} (T : TreeM n F) (hS : 1 ≤ S) (hg : On F S g p)
include T hS hg
/-- a way is gone on from any of its places -/
theorem pth_on {k k' : Nat} {i i' : Int} (h : On F S k i) (h' : On F S k' i') {d : Int} (d0 : 0 ≤ d) (dh : d ≤ hP F S g p k i) (e : pth F S g p k i d = node F S k' i') :
    hP F S g p k' i' = hP F S g p k i - d ∧ ∀ t : Nat, d + (t : Int) ≤ hP F S g p k i → pth F S g p k i (d + (t : Nat)) = pth F S g p k' i' (t : Nat) := by
  obtain ⟨o0, z0, _⟩ := pth_ok T hS hg h d0 dh
  have eh : hP F S g p k' i' = hP F S g p k i - d := by rw [← hN_node T hS hg h', ← e, z0]
  refine ⟨eh, fun t => ?_⟩
  induction t with
  | zero =>
    intro _
    show pth F S g p k i (d + 0) = pth F S g p k' i' 0
    rw [Int.add_zero, e, pth_0 T hS hg h']
  | succ t ih =>
    intro ht
    have ht' : d + (t : Int) + 1 ≤ hP F S g p k i := by omega
    have ih := ih (by omega)
    obtain ⟨o, z, a⟩ := pth_ok T hS hg h (t := d + (t : Nat)) (by omega) (by omega)
    obtain ⟨o', z', a'⟩ := pth_ok T hS hg h' (t := (t : Nat)) (Int.natCast_nonneg t) (by omega)
    have a := a ht'
    have a' := a' (by omega)
    rw [← ih] at a'
    obtain ⟨_, zz, _⟩ := pth_ok T hS hg h (t := d + (t : Int) + 1) (by omega) ht'
    obtain ⟨_, zz', _⟩ := pth_ok T hS hg h' (t := (t : Int) + 1) (by omega) (by omega)
    have r := lower_uniq T hS hg a a' (by omega) (by omega)
    have e1 : d + ((t + 1 : Nat) : Int) = d + (t : Int) + 1 := by omega
    rw [e1, Int.natCast_succ]
    exact r
/-- two marches to one goal are one march -/
theorem Go.add {m1 m2 : Int} (m0 : 0 ≤ m1) (m20 : 0 ≤ m2) {u v w : Nd} (a : Go F S g p m1 u v) (b : Go F S g p m2 v w) : Go F S g p (m1 + m2) u w := by
  obtain ⟨k, i, o, rfl, rfl⟩ := a
  obtain ⟨k', i', o', e, rfl⟩ := b
  have h0 : 0 ≤ hP F S g p k i := total_nn _
  obtain ⟨b1, b2⟩ := arB h0 m0
  obtain ⟨eh, go⟩ := pth_on T hS hg o o' b1 b2 e
  have h0' : 0 ≤ hP F S g p k' i' := total_nn _
  obtain ⟨c1, c2⟩ := arB h0' m20
  refine ⟨k, i, o, rfl, ?_⟩
  have q := go (if hP F S g p k' i' < m2 then hP F S g p k' i' else m2).toNat (by rw [Int.toNat_of_nonneg c1]; omega)
  rw [Int.toNat_of_nonneg c1] at q
  rw [← q]
  congr 1
  clear q go
  generalize hP F S g p k' i' = y at *
  generalize hP F S g p k i = x at *
  split at * <;> split at * <;> split at * <;> omega
/-- a march that is long enough leads to the goal -/
theorem Go.all {m : Int} {u v : Nd} (a : Go F S g p m u v) (hm : ∀ k i, On F S k i → hP F S g p k i ≤ m) : v = node F S g p := by
  obtain ⟨k, i, o, rfl, rfl⟩ := a
  have h0 : 0 ≤ hP F S g p k i := total_nn _
  have h1 := hm k i o
  have e : (if hP F S g p k i < m then hP F S g p k i else m) = hP F S g p k i := by split <;> omega
  rw [e]
  obtain ⟨o1, z1, _⟩ := pth_ok T hS hg o h0 (Int.le_refl _)
  exact zero_aim T hS hg o1 (by rw [z1]; omega)
variable {g' : Nat} {p' : Int} (hg' : On F S g' p') (eg : node F S g p = node F S g' p')
include hg' eg
/-- a goal may be given by any road of its crossing -/
theorem hP_goal {k : Nat} {i : Int} (h : On F S k i) : hP F S g p k i = hP F S g' p' k i := by
  rw [hP_sym T hS h hg, hP_sym T hS h hg', ← hN_node T hS h hg, ← hN_node T hS h hg', eg]
theorem hN_goal {u : Nd} (h : OnT F S u) : hN F S g p u = hN F S g' p' u := by
  obtain ⟨k, i, o, rfl⟩ := h
  rw [hN_node T hS hg o, hN_node T hS hg' o, hP_goal T hS hg hg' eg o]
end
theorem GoR.add {F : List Fact} {S : Int} {l : List MG} {a : Nat} {u v : Nd} (h : GoR F S l a u v) : ∀ {b : Nat} {w : Nd}, GoR F S l b v w → GoR F S l (a + b) u w
  | 0, _, k => by
    cases (show _ = _ from k)
    exact h
  | b + 1, w, ⟨z, k1, k2⟩ => ⟨z, GoR.add h k1, k2⟩
theorem GoR.one {F : List Fact} {S : Int} {l : List MG} {u v : Nd} (h : GoL F S l u v) : GoR F S l 1 u v := ⟨u, rfl, h⟩
end OT
set_option Elab.async false
set_option linter.all false
set_option maxRecDepth 100000
set_option maxHeartbeats 1000000
namespace OT
/-- legs between whole places, one behind the other -/
def Chn (F : List Fact) (S : Int) : List Leg → Prop
  | [] => True
  | (k, s, e) :: L => (∃ s' e' : Int, s = s' * S ∧ e = e' * S) ∧ (On F S k s ∧ On F S k e) ∧ (L = [] ∨ node F S k e = node F S (posL L 0).1 (posL L 0).2) ∧ Chn F S L
theorem eAt_wh (F : List Fact) (S : Int) (k : Nat) (c : Int) : ∃ j, eAt F S k c = j * S := by
  unfold eAt
  split
  · exact ⟨0, by rw [Int.zero_mul]⟩
  · exact ⟨_, rfl⟩
section
variable {n : Int} {F : List Fact} {S : Int} {g : Nat} {p : Int} (T : TreeM n F) (hS : 1 ≤ S) (hg : On F S g p) (hp : ∃ p0, p = p0 * S)
include T hS hg hp
theorem legsC_chn : ∀ (l : List Nat) (c : Int), In n c → tr F c (rd F g).1 = l → Chn F S (legsC F S g p c l) := by
  have hr := (rd_ok T hg.1).1
  have last : ∀ c, Chn F S [(g, eAt F S g c, p)] := fun c => by
    obtain ⟨j, e⟩ := eAt_wh F S g c
    obtain ⟨p0, e0⟩ := hp
    exact ⟨⟨j, p0, e, e0⟩, ⟨eAt_on T hS hg.1 c, hg⟩, .inl rfl, trivial⟩
  intro l
  induction l with
  | nil =>
    intro c ic e
    exact last _
  | cons k l ih =>
    intro c ic e
    obtain ⟨w, nd⟩ := tr_of T ic hr
    rw [e] at w nd
    cases w with
    | @cons _ c' _ _ r _ ek j w =>
      have hk : k < F.length := (List.getElem?_eq_some_iff.mp ek).1
      rw [rd_get hk] at ek
      cases ek
      obtain ⟨_, _, _, ne⟩ := rd_ok T hk
      have hc : (rd F k).1 = c ∨ (rd F k).2.1 = c := by
        rcases j with ⟨a, _⟩ | ⟨_, a⟩
        · exact .inl a
        · exact .inr a
      by_cases h : k = g
      · subst h
        rw [legsC_g]
        have el : l = [] := by
          rcases hc with rfl | rfl
          · rw [tr_self T hr] at e
            cases e
          · rw [tr_root T hg.1] at e
            exact (List.cons.inj e).2.symm
        rw [el]
        exact last _
      · rw [legsC_k h]
        obtain ⟨eu, el⟩ := up_of T hg.1 hk hc e
        have ic' : In n (eBy F k c) := by
          have o := rd_ok T hk
          rcases jn_by hc with ⟨_, b⟩ | ⟨b, _⟩
          · exact b ▸ o.2.1
          · exact b ▸ o.1
        obtain ⟨_, st⟩ := legsC_ok T hS hg l (eBy F k c) ic' el.symm
        obtain ⟨j1, e1⟩ := eAt_wh F S k c
        obtain ⟨j2, e2⟩ := eAt_wh F S k (eBy F k c)
        refine ⟨⟨j1, j2, e1, e2⟩, ⟨eAt_on T hS hk c, eAt_on T hS hk _⟩, .inr ?_, ih (eBy F k c) ic' el.symm⟩
        rw [st]
        refine node_eAt T hS hk ?_
        rcases jn_by hc with ⟨_, b⟩ | ⟨b, _⟩
        · exact .inr b
        · exact .inl b
/-- the first leg of a way from a road, and the others -/
theorem legsP_chn {k : Nat} (hk : k < F.length) : ∃ (e0 : Int) (L : List Leg), On F S k (e0 * S) ∧ (∀ i, legsP F S g p k i = (k, i, e0 * S) :: L) ∧ ∀ j : Int, On F S k (j * S) → Chn F S ((k, j * S, e0 * S) :: L) := by
  unfold legsP
  by_cases e : k = g
  · subst e
    obtain ⟨p0, rfl⟩ := hp
    refine ⟨p0, [], hg, fun i => if_pos rfl, fun j h => ⟨⟨j, p0, rfl, rfl⟩, ⟨h, hg⟩, .inl rfl, trivial⟩⟩
  · have ic : In n (up F g k) := by
      have o := rd_ok T hk
      rcases up_end T hk (g := g) with b | b
      · exact b ▸ o.1
      · exact b ▸ o.2.1
    obtain ⟨ok, st⟩ := legsC_ok T hS hg _ (up F g k) ic rfl
    obtain ⟨e0, ee⟩ := eAt_wh F S k (up F g k)
    have oe : On F S k (e0 * S) := by rw [← ee]; exact eAt_on T hS hk _
    refine ⟨e0, _, oe, fun i => by rw [if_neg e, ← ee], fun j h => ⟨⟨j, e0, rfl, rfl⟩, ⟨h, oe⟩, .inr ?_, legsC_chn T hS hg hp _ _ ic rfl⟩⟩
    rw [st, ← ee]
    exact node_eAt T hS hk (up_end T hk)
end
theorem chn_total {F : List Fact} {S : Int} (hS : 1 ≤ S) : ∀ {L : List Leg}, Chn F S L → ∃ j, total L = j * S
  | [], _ => ⟨0, by rw [Int.zero_mul]; rfl⟩
  | (k, s, e) :: L, ⟨⟨s', e', h1, h2⟩, _, _, h⟩ => by
    obtain ⟨j, hj⟩ := chn_total hS h
    subst h1 h2
    refine ⟨dst s' e' + j, ?_⟩
    show dst (s' * S) (e' * S) + total L = _
    rw [dst_mul (by omega), hj, Int.add_mul]
theorem mulS_le {S a b : Int} (hS : 1 ≤ S) (h : a * S < b * S + S) : a ≤ b := by
  have e : b * S + S = (b + 1) * S := by rw [Int.add_mul, Int.one_mul]
  rw [e] at h
  have := Int.lt_of_mul_lt_mul_right h (by omega)
  omega
theorem mulS_mono {S a b : Int} (hS : 1 ≤ S) (h : a ≤ b) : a * S ≤ b * S := Int.mul_le_mul_of_nonneg_right h (by omega)
/-- each unit of a way lies on one road -/
theorem chn_seg {F : List Fact} {S : Int} (hS : 1 ≤ S) : ∀ {L : List Leg}, Chn F S L → ∀ m : Int, 0 ≤ m → m * S + S ≤ total L →
    ∃ (k : Nat) (j t : Int), (t = 1 ∨ t = -1) ∧ On F S k (j * S) ∧ On F S k (j * S + t * S) ∧ ∀ c, 0 ≤ c → c ≤ S → node F S (posL L (m * S + c)).1 (posL L (m * S + c)).2 = node F S k (j * S + t * c)
  | [], _, m, m0, h => by
    have h1 : 0 ≤ m * S := Int.mul_nonneg m0 (by omega)
    have h2 : total ([] : List Leg) = 0 := rfl
    omega
  | (k, s, e) :: L, ⟨⟨s', e', h1, h2⟩, ⟨os, oe⟩, jn, hc⟩, m, m0, h => by
    subst h1 h2
    have ht : total ((k, s' * S, e' * S) :: L) = dst (s' * S) (e' * S) + total L := rfl
    have hd : dst (s' * S) (e' * S) = dst s' e' * S := dst_mul (by omega) s' e'
    have mS : 0 ≤ m * S := Int.mul_nonneg m0 (by omega)
    by_cases q : m * S + S ≤ dst (s' * S) (e' * S)
    · by_cases lt : s' * S < e' * S
      · have dv : dst (s' * S) (e' * S) = e' * S - s' * S := by unfold dst; rw [if_neg (by omega)]
        refine ⟨k, s' + m, 1, .inl rfl, ?_, ?_, fun c c0 c1 => ?_⟩
        · rw [Int.add_mul]
          exact ⟨os.1, by have := os.2.1; omega, by have := oe.2.2; omega⟩
        · rw [Int.add_mul, Int.one_mul]
          exact ⟨os.1, by have := os.2.1; omega, by have := oe.2.2; omega⟩
        · rw [posL_le (by omega), if_pos lt, Int.add_mul, Int.one_mul]
          show node F S k (s' * S + (m * S + c)) = _
          rw [Int.add_assoc]
      · have dv : dst (s' * S) (e' * S) = s' * S - e' * S := by unfold dst; split <;> omega
        refine ⟨k, s' - m, -1, .inr rfl, ?_, ?_, fun c c0 c1 => ?_⟩
        · rw [Int.sub_mul]
          exact ⟨os.1, by have := oe.2.1; omega, by have := os.2.2; omega⟩
        · rw [Int.sub_mul, Int.neg_mul, Int.one_mul]
          exact ⟨os.1, by have := oe.2.1; omega, by have := os.2.2; omega⟩
        · rw [posL_le (by omega), if_neg lt, Int.sub_mul, Int.neg_mul, Int.one_mul]
          show node F S k (s' * S - (m * S + c)) = _
          congr 1
          omega
    · have dle : dst s' e' ≤ m := mulS_le hS (by rw [← hd]; omega)
      have dS : dst s' e' * S ≤ m * S := mulS_mono hS dle
      have e1 : (m - dst s' e') * S = m * S - dst s' e' * S := Int.sub_mul _ _ _
      obtain ⟨k2, j, t, ht2, o1, o2, all⟩ := chn_seg hS hc (m - dst s' e') (by omega) (by rw [e1]; omega)
      refine ⟨k2, j, t, ht2, o1, o2, fun c c0 c1 => ?_⟩
      rw [← all c c0 c1, e1]
      by_cases z : m * S + c ≤ dst (s' * S) (e' * S)
      · have c00 : c = 0 := by omega
        have em : m * S = dst s' e' * S := by omega
        subst c00
        rw [posL_le z, em, Int.sub_self, Int.add_zero, Int.add_zero]
        have ne : L ≠ [] := fun w => by
          subst w
          have : total ([] : List Leg) = 0 := rfl
          omega
        rw [← jn.resolve_left ne]
        show node F S k (if s' * S < e' * S then s' * S + dst s' e' * S else s' * S - dst s' e' * S) = _
        congr 1
        rw [← hd]
        unfold dst
        split <;> split <;> omega
      · rw [posL_gt z, hd]
        congr 2 <;> (congr 1; omega)
end OT
set_option Elab.async false
set_option linter.all false
set_option maxRecDepth 100000
set_option maxHeartbeats 1000000
namespace OT
/-- y 0 to y S is a unit of a road, from a whole place to the next -/
def Seg (F : List Fact) (S : Int) (y : Int → Nd) : Prop := ∃ (k : Nat) (j t : Int), (t = 1 ∨ t = -1) ∧ On F S k (j * S) ∧ On F S k (j * S + t * S) ∧ ∀ c, 0 ≤ c → c ≤ S → y c = node F S k (j * S + t * c)
def Pnt (S : Int) (y : Int → Nd) : Prop := ∃ v, ∀ c, 0 ≤ c → c ≤ S → y c = v
theorem Seg.rev {F : List Fact} {S : Int} {y : Int → Nd} (h : Seg F S y) : Seg F S (fun c => y (S - c)) := by
  obtain ⟨k, j, t, ht, o1, o2, all⟩ := h
  have e0 : (j + t) * S = j * S + t * S := Int.add_mul _ _ _
  refine ⟨k, j + t, -t, ht.elim (fun z => .inr (by omega)) fun z => .inl (by omega), by rw [e0]; exact o2, ?_, fun c c0 c1 => ?_⟩
  · rw [e0, Int.neg_mul, Int.add_neg_cancel_right]
    exact o1
  · show y (S - c) = _
    rw [all (S - c) (by omega) (by omega), e0, Int.mul_sub, Int.neg_mul]
    congr 1
    omega
theorem seg_back {F : List Fact} {S : Int} {y : Int → Nd} (h : Seg F S (fun c => y (S - c)) ∨ Pnt S (fun c => y (S - c))) : Seg F S y ∨ Pnt S y := by
  rcases h with h | ⟨v, h⟩
  · obtain ⟨k, j, t, ht, o1, o2, all⟩ := h.rev
    refine .inl ⟨k, j, t, ht, o1, o2, fun c c0 c1 => ?_⟩
    rw [← all c c0 c1]
    show y c = y (S - (S - c))
    congr 1
    omega
  · refine .inr ⟨v, fun c c0 c1 => ?_⟩
    rw [← h (S - c) (by omega) (by omega)]
    show y c = y (S - (S - c))
    congr 1
    omega
section
variable {n : Int} {F : List Fact} {S : Int} {g : Nat} {p : Int} (T : TreeM n F) (hS : 1 ≤ S) (hg : On F S g p) (hp : ∃ p0, p = p0 * S)
include T hS hg hp
/-- a unit that leads towards the goal -/
theorem seg_to {k : Nat} {j : Int} (o : On F S k (j * S)) {y y' : Int → Nd} {m : Int} (m0 : 0 ≤ m) (to : ∀ c, 0 ≤ c → c ≤ S → y c = pth F S g p k (j * S) c) (far : S ≤ hP F S g p k (j * S)) (go : ∀ c, 0 ≤ c → c ≤ S → Go F S g p (m * S) (y c) (y' c)) : Seg F S y' ∨ Pnt S y' := by
  obtain ⟨e0, L, oe, hl, hc⟩ := legsP_chn T hS hg hp o.1
  have hch := hc j o
  rw [← hl] at hch
  obtain ⟨h', eh⟩ := chn_total hS hch
  have eh : hP F S g p k (j * S) = h' * S := eh
  have mS : 0 ≤ m * S := Int.mul_nonneg m0 (by omega)
  have im : ∀ c, 0 ≤ c → c ≤ S → y' c = pth F S g p k (j * S) (c + if hP F S g p k (j * S) - c < m * S then hP F S g p k (j * S) - c else m * S) := fun c c0 c1 => by
    obtain ⟨k1, i1, o1, e1, e2⟩ := go c c0 c1
    obtain ⟨h1, h2⟩ := pth_on T hS hg o o1 c0 (by omega) ((to c c0 c1).symm.trans e1)
    rw [e2, h1]
    have q0 : 0 ≤ (if hP F S g p k (j * S) - c < m * S then hP F S g p k (j * S) - c else m * S) := by split <;> omega
    have q := h2 (if hP F S g p k (j * S) - c < m * S then hP F S g p k (j * S) - c else m * S).toNat (by rw [Int.toNat_of_nonneg q0]; split <;> omega)
    rw [Int.toNat_of_nonneg q0] at q
    exact q.symm
  by_cases q : m * S + S ≤ hP F S g p k (j * S)
  · obtain ⟨k2, j2, t, ht, o1, o2, all⟩ := chn_seg hS hch m m0 q
    refine .inl ⟨k2, j2, t, ht, o1, o2, fun c c0 c1 => ?_⟩
    rw [im c c0 c1, ← all c c0 c1]
    have e : (if hP F S g p k (j * S) - c < m * S then hP F S g p k (j * S) - c else m * S) = m * S := by split <;> omega
    rw [e, Int.add_comm]
    rfl
  · have hm : hP F S g p k (j * S) ≤ m * S := by
      rw [eh] at q ⊢
      exact mulS_mono hS (mulS_le hS (by omega))
    refine .inr ⟨pth F S g p k (j * S) (hP F S g p k (j * S)), fun c c0 c1 => ?_⟩
    rw [im c c0 c1]
    congr 1
    split <;> omega
/-- a march keeps a unit a unit, or draws it together -/
theorem Seg.go {y y' : Int → Nd} {m : Int} (m0 : 0 ≤ m) (h : Seg F S y) (go : ∀ c, 0 ≤ c → c ≤ S → Go F S g p (m * S) (y c) (y' c)) : Seg F S y' ∨ Pnt S y' := by
  -- towards the end e of the road that the way leaves by
  have one : ∀ {y y' : Int → Nd} {k : Nat} {j t e0 : Int} {L : List Leg}, (t = 1 ∨ t = -1) → On F S k (j * S) → On F S k (j * S + t * S) → (∀ c, 0 ≤ c → c ≤ S → y c = node F S k (j * S + t * c)) → (∀ i, legsP F S g p k i = (k, i, e0 * S) :: L) → ((t = 1 ∧ j + 1 ≤ e0) ∨ (t = -1 ∧ e0 + 1 ≤ j)) →
      (∀ c, 0 ≤ c → c ≤ S → Go F S g p (m * S) (y c) (y' c)) → Seg F S y' ∨ Pnt S y' := fun {y y' k j t e0 L} ht o1 o2 all hl dir go => by
    have hh : hP F S g p k (j * S) = dst (j * S) (e0 * S) + total L := by
      unfold hP
      rw [hl]
      rfl
    have tn := total_nn L
    have dS : S ≤ dst (j * S) (e0 * S) := by
      rcases dir with ⟨_, d⟩ | ⟨_, d⟩
      · have := mulS_mono hS d
        rw [Int.add_mul, Int.one_mul] at this
        unfold dst
        split <;> omega
      · have := mulS_mono hS d
        rw [Int.add_mul, Int.one_mul] at this
        unfold dst
        split <;> omega
    refine seg_to T hS hg hp o1 m0 (fun c c0 c1 => ?_) (by omega) go
    rw [all c c0 c1]
    unfold pth
    rw [hl, posL_le (by omega)]
    rcases dir with ⟨rfl, d⟩ | ⟨rfl, d⟩
    · have := mulS_mono hS d
      rw [Int.add_mul, Int.one_mul] at this
      rw [if_pos (by omega), Int.one_mul]
    · have := mulS_mono hS d
      rw [Int.add_mul, Int.one_mul] at this
      rw [if_neg (by omega), Int.neg_mul, Int.one_mul]
      rfl
  obtain ⟨k, j, t, ht, o1, o2, all⟩ := id h
  obtain ⟨e0, L, oe, hl, hc⟩ := legsP_chn T hS hg hp o1.1
  by_cases d : (t = 1 ∧ j + 1 ≤ e0) ∨ (t = -1 ∧ e0 + 1 ≤ j)
  · exact one ht o1 o2 all hl d go
  · have e1 : (j + t) * S = j * S + t * S := Int.add_mul _ _ _
    refine seg_back (one (y := fun c => y (S - c)) (y' := fun c => y' (S - c)) (k := k) (j := j + t) (t := -t) (e0 := e0) (L := L) (ht.elim (fun z => .inr (by omega)) fun z => .inl (by omega)) (by rw [e1]; exact o2) ?_ (fun c c0 c1 => ?_) hl ?_ fun c c0 c1 => go (S - c) (by omega) (by omega))
    · rw [e1, Int.neg_mul, Int.add_neg_cancel_right]
      exact o1
    · show y (S - c) = _
      rw [all (S - c) (by omega) (by omega), e1, Int.mul_sub, Int.neg_mul]
      congr 1
      omega
    · rcases ht with rfl | rfl
      · exact .inr ⟨rfl, by omega⟩
      · exact .inl ⟨rfl, by omega⟩
end
/-- a row keeps a unit a unit, or draws it together -/
theorem Seg.row {n : Int} {F : List Fact} {S : Int} (T : TreeM n F) (hS : 1 ≤ S) : ∀ {l : List MG}, (∀ x ∈ l, MgOk F x) → ∀ {y y' : Int → Nd}, Seg F S y ∨ Pnt S y → (∀ c, 0 ≤ c → c ≤ S → GoL F S l (y c) (y' c)) → Seg F S y' ∨ Pnt S y'
  | [], _, y, y', h, go => by
    have e : ∀ c, 0 ≤ c → c ≤ S → y c = y' c := fun c c0 c1 => go c c0 c1
    rcases h with ⟨k, j, t, ht, o1, o2, all⟩ | ⟨v, all⟩
    · exact .inl ⟨k, j, t, ht, o1, o2, fun c c0 c1 => by rw [← e c c0 c1]; exact all c c0 c1⟩
    · exact .inr ⟨v, fun c c0 c1 => by rw [← e c c0 c1]; exact all c c0 c1⟩
  | x :: l, ok, y, y', h, go => by
    have okx := ok x List.mem_cons_self
    have okl : ∀ x ∈ l, MgOk F x := fun x hx => ok x (List.mem_cons_of_mem _ hx)
    have ex : ∀ c, ∃ v, 0 ≤ c → c ≤ S → GoX F S x (y c) v ∧ GoL F S l v (y' c) := fun c => by
      by_cases h0 : 0 ≤ c ∧ c ≤ S
      · obtain ⟨v, a, b⟩ := go c h0.1 h0.2
        exact ⟨v, fun _ _ => ⟨a, b⟩⟩
      · exact ⟨y c, fun a b => absurd ⟨a, b⟩ h0⟩
    obtain ⟨y1, hy1⟩ := Classical.skolem.mp ex
    refine Seg.row T hS okl (y := y1) (y' := y') ?_ fun c c0 c1 => (hy1 c c0 c1).2
    rcases h with h | ⟨v, all⟩
    · exact h.go T hS (okx.on hS) ⟨_, rfl⟩ (m := x.2.2) (by have := okx.s1; omega) fun c c0 c1 => (hy1 c c0 c1).1
    · refine .inr ⟨y1 0, fun c c0 c1 => ?_⟩
      have a := (hy1 c c0 c1).1
      have b := (hy1 0 (Int.le_refl _) (by omega)).1
      rw [all c c0 c1] at a
      rw [all 0 (Int.le_refl _) (by omega)] at b
      exact Go.uniq T hS (okx.on hS) (okx.m0 hS) a b
end OT
set_option Elab.async false
set_option linter.all false
set_option maxRecDepth 100000
set_option maxHeartbeats 4000000
namespace OT
open PySem L2 OTR
abbrev sDist : Stmt := top 27
section
variable {P : Program} {w : World} {K : PySem.W.Frag} {mg : Str → Option Value} {base : Heap}
abbrev nDist : List Str := ["tree", "one", "other", "parts", "top", "shared", "number", "start", "end"]
theorem scDist : FnScope nDist ["tree", "one", "other"] (defScope sDist) := ⟨rfl, rfl, rfl, by decide +kernel, rfl, by decide +kernel, by decide +kernel⟩
theorem ok_dist {f CT CR CP CNR COR fC fL : Addr} {fd fdC fdL : FuncData} (F : Fun K "distance" "distance" sDist f fd) (TP : PlT K mg CP)
    (FC : FnOk P w K mg base (L2.CX P w) 3 fC fdC ["tree", "place"] (spCheckPl K CT CR CP CNR COR)) (bC : Binds K fdC ["tree", "place"] []) (mC : mg "check_place" = some (.ref fC)) (kC : PySem.W.keepIn K (.ref fC) = true)
    (FL : FnOk P w K mg base CX0 2 fL fdL ["tree", "one", "other", "parts"] (spLegs K CT CR CP)) (bL : Binds K fdL ["tree", "one", "other", "parts"] []) (mL : mg "legs" = some (.ref fL)) (kL : PySem.W.keepIn K (.ref fL) = true)
    (hLcm : mg "lcm" = some (.builtin "math.lcm")) (hGcd : mg "gcd" = some (.builtin "math.gcd")) (hSum : mg "sum" = none) (hAbs : mg "abs" = none) :
    FnOk P w K mg base (L2.CX P w) 4 f fd ["tree", "one", "other"] (spDist K CT CR CP CNR COR) := by
  refine F.okX scDist (fun vs H Q E h => ?_) (fun cdv A outer s H vs Q E hr h => ?_)
  · obtain ⟨a, p1, p2, n, ps, F, r1, r2, rfl, _⟩ := h
    rfl
  · obtain ⟨a, p1, p2, n, ps, F, r1, r2, rfl, TA, PA1, PA2, G, sm1, sm2, s60, x1, x2, k⟩ := h
    have hr2 : Room 2 _ := hr.mono (by decide)
    refine ⟨_, pss_cons (ps_expr (pe_call FC hr rfl mC kC bC .nil (passes_call (takes_of rfl rfl rfl rfl) fun _ _ _ _ h => h) (pa_cons (pv 0) (pa_cons (pv 1) pa_nil))))
      (pss_cons (ps_expr (pe_call FC hr rfl mC kC bC .nil (passes_call (takes_of rfl rfl rfl rfl) fun _ _ _ _ h => h) (pa_cons (pv 0) (pa_cons (pv 2) pa_nil))))
      (pss_cons (ps_set (i := 3) scDist.nd rfl (Or.inl rfl) (pe_callBfun cr_lcm (by rfl) hLcm (pa_cons (pe_fld (pv 1) rfl) (pa_cons (pe_fld (pv 2) rfl) pa_nil))))
      (pss_cons (ps_set (i := 4) scDist.nd rfl (Or.inl rfl) (pe_callB (cr_sum rfl) (by rfl) hSum (by decide +kernel) (pa_cons
          (pe_lc (own := [("number", 6), ("start", 7), ("end", 8)]) (g := gTup K 3 (gCons (gName 6) (gCons (gName 7) (gCons (gName 8) gNil)))) (tt := tYes) rfl scDist.nd (pi_list (pe_call FL hr2 rfl mL kL bL .nil pass0 (pa_cons (pv 0) (pa_cons (pv 1) (pa_cons (pv 2) (pa_cons (pv 3) pa_nil))))))
            (blkOk_by (own := [("number", 6), ("start", 7), ("end", 8)]) (N := nDist) (sc := defScope sDist) (by decide +kernel))
            (fun _ _ _ _ _ => pg_tup rfl (pgs_cons (pg_name (i := 6) scDist.nd rfl (Or.inl rfl)) (pgs_cons (pg_name (i := 7) scDist.nd rfl (Or.inl rfl)) (pgs_cons (pg_name (i := 8) scDist.nd rfl (Or.inl rfl)) pgs_nil)))) (fun _ _ _ _ _ => pts_nil)
            (fun _ _ _ _ _ => pe_callB call_abs (by rfl) hAbs (by decide +kernel) (pa_cons (pe_op op_sub (pv 8) (pv 7)) pa_nil))) pa_nil)))
      (pss_cons (ps_set (i := 5) scDist.nd rfl (Or.inl rfl) (pe_callBfun cr_gcd (by rfl) hGcd (pa_cons (pv 4) (pa_cons (pv 3) pa_nil))))
      (pss_one (ps_ret (pe_tup (pa_cons (pe_op op_fdivW (pv 4) (pv 5)) (pa_cons (pe_op op_fdivW (pv 3) (pv 5)) pa_nil))))))))), ?_⟩
    refine ⟨_, rfl, _, rfl, a, p1, n, ps, F, r1, rfl, TA, PA1, G, sm1, x1.1, x1.2, fun on1 => ?_⟩
    refine ⟨_, rfl, _, rfl, a, p2, n, ps, F, r2, rfl, TA, PA2, G, sm2, (x2 on1).1, (x2 on1).2, fun on2 => ?_⟩
    obtain ⟨dp1, ep1⟩ := id PA1
    obtain ⟨dp2, ep2⟩ := id PA2
    obtain ⟨sm11, sm12⟩ := sm1
    obtain ⟨sm21, sm22⟩ := sm2
    obtain ⟨c1, c2, eS1, eS2, c10, c20, le, dv1, dv2⟩ := lcm_of sm11 sm21
    have k' := k on1 on2
    refine ⟨_, rfl, p1, CP, dp1, _, _, rfl, ep1, TP.cl, TP.nP, plF_p r1, _, rfl, p2, CP, dp2, _, _, rfl, ep2, TP.cl, TP.nP, plF_p r2, _, _, rfl, by omega, by omega, ?_⟩
    have S1 : 1 ≤ lcmI r1.2.2 r2.2.2 := by
      rw [eS1]
      have := Int.mul_le_mul sm11 (show 1 ≤ c1 by omega) (by omega) (by omega)
      omega
    have S60 : lcmI r1.2.2 r2.2.2 < 2 ^ 60 := by omega
    show tSeq _ _ _ (List.set _ 3 (some (V.int (lcmI r1.2.2 r2.2.2)))) H
    unfold hRR at k'
    rw [dv1, dv2] at k'
    generalize lcmI r1.2.2 r2.2.2 = S at *
    -- top = sum([abs(end - start) for number, start, end in legs(..)])
    refine ⟨_, rfl, _, rfl, _, rfl, _, rfl, a, p1, p2, n, ps, F, r1, r2, S, c1, c2, rfl, TA, PA1, PA2, G, ⟨sm11, sm12⟩, ⟨sm21, sm22⟩, on1, on2, eS1, eS2, c10, c20, S60, fun L H1 s1 hL fa ll => ?_⟩
    generalize hl : legsP F S r2.1.toNat (r2.2.1 * c2) r1.1.toNat (r1.2.1 * c1) = legs at fa ll
    have hT : hP F S r2.1.toNat (r2.2.1 * c2) r1.1.toNat (r1.2.1 * c1) = total legs := by unfold hP; rw [hl]
    rw [hT] at k'
    obtain ⟨ts, eL, pts⟩ := fa
    have el : (ts.map V.ref).length = legs.length := by rw [List.length_map, Paired.length pts, List.length_map]
    refine ⟨L, rfl, ⟨_, SqL.of eL⟩, fun D hD => lc_list (K := K) (a := L) (xs := ts.map V.ref) (fun i Gc => Gc D = some (.lst (((legs.take i).map fun l => dst l.2.1 l.2.2).map V.int)) ∧ Same H1 Gc)
      ⟨upd_same, Same.new hD⟩ (fun i Gc _ ⟨_, sc⟩ => SqL.of (sc _ _ eL)) ?_ ?_⟩
    · rintro i y Gc hi ⟨eD, sc⟩
      obtain ⟨t, ht, rfl⟩ := map_get hi
      obtain ⟨r, hr', tr⟩ := paired_get pts ht
      obtain ⟨l, hl', rfl⟩ := map_get hr'
      refine ⟨t, _, rfl, SqT.of (sc _ _ tr), rfl, _, _, rfl, _, _, rfl, _, _, rfl, rfl, rfl, ?_⟩
      unfold tYes
      refine iteT ⟨_, rfl, _, rfl, _, _, rfl, rfl, _, rfl, _, eD, small1000 (by rw [List.length_map, List.length_map, List.length_take]; omega), ?_, fun b o e => ?_⟩
      · rw [take_get hl', List.map_append, List.map_append]
        exact upd_same
      · rw [upd_ne (ne_of_none e hD)]
        exact sc b o e
    · rintro H2 ⟨eD, s2⟩
      rw [el, List.take_length] at eD
      refine ⟨D, _, rfl, SqL.of eD, ?_⟩
      rw [← total_sum]
      -- shared = gcd(top, parts)
      refine ⟨_, rfl, _, rfl, _, _, rfl, ?_⟩
      have g0 := gcd_pos (a := total legs) S1
      have gl := gcd_log (a := total legs) S1 (lg60 S1 S60)
      refine ⟨_, rfl, _, rfl, _, _, rfl, rfl, ⟨g0, gl⟩, _, rfl, _, rfl, _, _, rfl, rfl, ⟨g0, gl⟩, (by show 2 ≤ sizeLine; decide), fun t ht => ?_⟩
      exact k' t _ ((s1.trans s2).trans (Same.new ht)) upd_same
end
end OT
set_option Elab.async false
set_option linter.all false
set_option maxRecDepth 100000
set_option maxHeartbeats 4000000
namespace OT
open PySem L2 OTR
abbrev sStretchI : Stmt := inClass (top 42) 0
/-- what the walk asks of Stretch -/
structure StT (K : PySem.W.Frag) (mg : Str → Option Value) (C : Addr) : Prop where
  cl : Cls K C
  nR : NoAttr K C "road"
  nL : NoAttr K C "least"
  nG : NoAttr K C "greatest"
  nF : NoAttr K C "first"
  nA : NoAttr K C "last"
  mgC : mg "Stretch" = some (.ref C)
/-- a stretch's facts: road, least, greatest, and where its first and its last are -/
abbrev SFact := Int × Int × Int × Addr × Addr
def stF (x : SFact) : List (Str × V) := putF "last" (.ref x.2.2.2.2) (putF "first" (.ref x.2.2.2.1) (putF "greatest" (.int x.2.2.1) (putF "least" (.int x.2.1) (putF "road" (.int x.1) []))))
theorem stF_r (x : SFact) : (stF x).lookup ("road" : Str) = some (.int x.1) := by
  unfold stF
  rw [lookup_putF, lookup_putF, lookup_putF, lookup_putF, lookup_putF]
  rw [if_neg (by decide +kernel), if_neg (by decide +kernel), if_neg (by decide +kernel), if_neg (by decide +kernel), if_pos rfl]
theorem stF_l (x : SFact) : (stF x).lookup ("least" : Str) = some (.int x.2.1) := by
  unfold stF
  rw [lookup_putF, lookup_putF, lookup_putF, lookup_putF]
  rw [if_neg (by decide +kernel), if_neg (by decide +kernel), if_neg (by decide +kernel), if_pos rfl]
theorem stF_g (x : SFact) : (stF x).lookup ("greatest" : Str) = some (.int x.2.2.1) := by
  unfold stF
  rw [lookup_putF, lookup_putF, lookup_putF]
  rw [if_neg (by decide +kernel), if_neg (by decide +kernel), if_pos rfl]
theorem stF_f (x : SFact) : (stF x).lookup ("first" : Str) = some (.ref x.2.2.2.1) := by
  unfold stF
  rw [lookup_putF, lookup_putF]
  rw [if_neg (by decide +kernel), if_pos rfl]
theorem stF_a (x : SFact) : (stF x).lookup ("last" : Str) = some (.ref x.2.2.2.2) := by
  unfold stF
  rw [lookup_putF, if_pos rfl]
def StAt (C : Addr) (H : Hp) (p : Addr) (x : SFact) : Prop := ∃ dx, H p = some (.ins C dx (stF x))
theorem StAt.kp {C : Addr} {H H' : Hp} {p : Addr} {x : SFact} (h : StAt C H p x) (k : Kp H H') : StAt C H' p x := let ⟨dx, e⟩ := h; ⟨dx, k _ _ e fun _ z => nomatch z⟩
theorem StAt.same {C : Addr} {H H' : Hp} {p : Addr} {x : SFact} (h : StAt C H p x) (k : Same H H') : StAt C H' p x := h.kp (.of k)
def spStretchI (C : Addr) : Sp := fun vs H Q _ => ∃ (p dx : Addr) (x : SFact), vs = [.ref p, .int x.1, .int x.2.1, .int x.2.2.1, .ref x.2.2.2.1, .ref x.2.2.2.2] ∧ H p = some (.ins C dx []) ∧ ∀ H', StAt C H' p x → (∀ b o, H b = some o → b ≠ p → H' b = some o) → Q .non H'
section
variable {P : Program} {w : World} {K : PySem.W.Frag} {mg : Str → Option Value} {base : Heap}
abbrev nStretchI : List Str := ["self", "road", "least", "greatest", "first", "last"]
theorem scStretchI : FnScope nStretchI ["self", "road", "least", "greatest", "first", "last"] (defScope sStretchI) := ⟨rfl, rfl, rfl, by decide +kernel, rfl, by decide +kernel, by decide +kernel⟩
theorem ok_stretchI {f C : Addr} {fd : FuncData} (F : Fun K "__init__" "Stretch.__init__" sStretchI f fd) (T : StT K mg C) : FnOk P w K mg base CX0 1 f fd ["self", "road", "least", "greatest", "first", "last"] (spStretchI C) := by
  refine F.ok scStretchI (fun vs H Q E h => ?_) (fun cdv A outer s H vs Q E hr h => ?_)
  · obtain ⟨p, dx, x, rfl, _⟩ := h
    rfl
  · obtain ⟨p, dx, x, rfl, hp, k⟩ := h
    refine ⟨_, pss_cons (ps_fld (pv 0) (pv 1) rfl) (pss_cons (ps_fld (pv 0) (pv 2) rfl) (pss_cons (ps_fld (pv 0) (pv 3) rfl) (pss_cons (ps_fld (pv 0) (pv 4) rfl) (pss_one (ps_fld (pv 0) (pv 5) rfl))))), ?_⟩
    have l0 : ([] : List (Str × V)).length < 1000 := by decide
    have lp : ∀ (s : Str) (v : V) (fs : List (Str × V)), (putF s v fs).length ≤ fs.length + 1 := fun s v fs => by
      induction fs with
      | nil => exact Nat.le_refl _
      | cons a fs ih =>
        show (if a.1 = s then (a.1, v) :: fs else a :: putF s v fs).length ≤ _
        split
        · exact Nat.le_succ _
        · exact Nat.succ_le_succ ih
    refine ⟨_, rfl, _, rfl, p, C, dx, [], rfl, hp, T.cl, T.nR, l0, ?_⟩
    refine ⟨_, rfl, _, rfl, p, C, dx, _, rfl, upd_same, T.cl, T.nL, Nat.lt_of_le_of_lt (lp _ _ _) (by decide), ?_⟩
    refine ⟨_, rfl, _, rfl, p, C, dx, _, rfl, upd_same, T.cl, T.nG, Nat.lt_of_le_of_lt (lp _ _ _) (Nat.lt_of_le_of_lt (Nat.succ_le_succ (lp _ _ _)) (by decide)), ?_⟩
    refine ⟨_, rfl, _, rfl, p, C, dx, _, rfl, upd_same, T.cl, T.nF, Nat.lt_of_le_of_lt (lp _ _ _) (Nat.lt_of_le_of_lt (Nat.succ_le_succ (Nat.le_trans (lp _ _ _) (Nat.succ_le_succ (lp _ _ _)))) (by decide)), ?_⟩
    refine ⟨_, rfl, _, rfl, p, C, dx, _, rfl, upd_same, T.cl, T.nA, Nat.lt_of_le_of_lt (lp _ _ _) (Nat.lt_of_le_of_lt (Nat.succ_le_succ (Nat.le_trans (lp _ _ _) (Nat.succ_le_succ (Nat.le_trans (lp _ _ _) (Nat.succ_le_succ (lp _ _ _)))))) (by decide)), ?_⟩
    refine k _ ⟨dx, upd_same⟩ fun b o e n => ?_
    rw [upd_ne n, upd_ne n, upd_ne n, upd_ne n, upd_ne n]
    exact e
end
end OT
set_option Elab.async false
set_option linter.all false
set_option maxRecDepth 100000
set_option maxHeartbeats 4000000
namespace OT
open PySem L2 OTR
abbrev sGathered : Stmt := top 47
abbrev sStepsB : Stmt := top 28
theorem tn {σ : List (Option V)} {H : Hp} {Q : List V → Hp → Prop} (h : Q [] H) : tNil σ H Q := h
/-- the distance of two keys of whole places -/
theorem dist_1 {K : PySem.W.Frag} {CT CR CP CNR COR : Addr} {x p1 p2 : Addr} {n : Int} {ps : List Addr} {F : List Fact} {r1 r2 : Fact} {k g : Nat} {i p : Int} {G : Hp} {Q : VK} {E : XK} (te : TreeAt K CT CR G x n ps F) (TG : TreeG n F) (a1 : PlaceAt CP G p1 r1) (a2 : PlaceAt CP G p2 r2) (e1 : PlE F 1 r1 k i) (e2 : PlE F 1 r2 g p)
    (fin : ∀ t G', Same G G' → G' t = some (.tup [.int (hP F 1 g p k i), .int 1]) → Q (.ref t) G') : spDist K CT CR CP CNR COR [.ref x, .ref p1, .ref p2] G Q E := by
  have l1 := e1.le
  have l2 := e2.le
  have q1 := e1.p1
  have q2 := e2.p1
  refine ⟨x, p1, p2, n, ps, F, r1, r2, rfl, te, a1, a2, TG, ⟨q1, by omega⟩, ⟨q2, by omega⟩, ?_, PlErr.none e1.pl, fun _ => PlErr.none e2.pl, fun _ _ t G' s h => fin t G' s ?_⟩
  · have := Int.mul_le_mul l1 l2 (by omega) (by omega)
    omega
  · rw [dist_eq e1 e2 (by decide), low_one] at h
    exact h
/-- one step of the program's from a whole place towards a march's goal -/
theorem step_1 {K : PySem.W.Frag} {CT CR CP CB CNR COR : Addr} {x p1 p2 : Addr} {n m : Int} {ps : List Addr} {F : List Fact} {r1 r2 : Fact} {k g : Nat} {i p : Int} {G : Hp} {Q : VK} {E : XK} (te : TreeAt K CT CR G x n ps F) (TG : TreeG n F) (a1 : PlaceAt CP G p1 r1) (a2 : PlaceAt CP G p2 r2) (e1 : PlE F 1 r1 k i) (e2 : PlE F 1 r2 g p) (m0 : 0 ≤ m)
    (fin : ∀ t G' v, Same G G' → Go F 1 g p m (node F 1 k i) v → PlaceAt CP G' t (keyF F 1 v) → Q (.ref t) G') : spStep K CT CR CP CB CNR COR [.ref x, .ref p1, .ref p2, .int m] G Q E := by
  have l1 := e1.le
  have l2 := e2.le
  have q1 := e1.p1
  have q2 := e2.p1
  refine ⟨x, p1, p2, n, ps, F, r1, r2, m, rfl, te, a1, a2, TG, ⟨q1, by omega⟩, ⟨q2, by omega⟩, e2.lo, ?_, PlErr.none e1.pl, fun _ => PlErr.none e2.pl, fun _ _ z => absurd z (by omega), fun _ _ _ t G' s h => ?_⟩
  · have := Int.mul_le_mul l1 l2 (by omega) (by omega)
    omega
  · rw [step_eq TG.m e1 e2 (by decide), Int.mul_one] at h
    exact fin t G' _ s ⟨k, i, e1.on, rfl, rfl⟩ h
def spGath (CS CP : Addr) : Sp := fun vs H Q _ => ∃ (p : Addr) (x : SFact) (r1 r2 : Fact), vs = [.ref p] ∧ StAt CS H p x ∧ PlaceAt CP H x.2.2.2.1 r1 ∧ PlaceAt CP H x.2.2.2.2 r2 ∧ Q (.bl (decide (r1 = r2))) H
def spStepsB (K : PySem.W.Frag) (CT CR CP : Addr) : Sp := fun vs H Q _ => ∃ (x p1 p2 : Addr) (n : Int) (ps : List Addr) (F : List Fact) (r1 r2 : Fact) (k g : Nat) (i p : Int), vs = [.ref x, .ref p1, .ref p2] ∧ TreeAt K CT CR H x n ps F ∧ TreeG n F ∧ PlaceAt CP H p1 r1 ∧ PlaceAt CP H p2 r2 ∧ PlE F 1 r1 k i ∧ PlE F 1 r2 g p ∧
  ∀ H', Same H H' → Q (.int (hP F 1 g p k i)) H'
section
variable {P : Program} {w : World} {K : PySem.W.Frag} {mg : Str → Option Value} {base : Heap}
abbrev nGathered : List Str := ["stretch"]
theorem scGathered : FnScope nGathered ["stretch"] (defScope sGathered) := ⟨rfl, rfl, rfl, by decide +kernel, rfl, by decide +kernel, by decide +kernel⟩
theorem ok_gathered {f CS CP fPE : Addr} {fd fdPE : FuncData} (F : Fun K "is_gathered" "is_gathered" sGathered f fd) (TS : StT K mg CS)
    (cP : QC K CP fPE) (FPE : FnOk P w K mg base CX0 1 fPE fdPE ["self", "other"] (spPlaceE CP)) (bPE : Binds K fdPE ["self", "other"] []) : FnOk P w K mg base CX0 2 f fd ["stretch"] (spGath CS CP) := by
  refine F.ok scGathered (fun vs H Q E h => ?_) (fun cdv A outer s H vs Q E hr h => ?_)
  · obtain ⟨p, x, r1, r2, rfl, _⟩ := h
    rfl
  · obtain ⟨p, x, r1, r2, rfl, ⟨dx, ex⟩, P1, P2, k⟩ := h
    refine ⟨_, pss_one (ps_ret (pe_cmpR (op_eqB (rcB_own FPE cP.eq cP.fn bPE) hr) (pe_fld (pv 0) rfl) (pe_fld (pv 0) rfl) (nomark _))), ?_⟩
    obtain ⟨da, ea⟩ := id P1
    obtain ⟨db, eb⟩ := id P2
    refine ⟨_, rfl, p, CS, dx, _, _, rfl, ex, TS.cl, TS.nF, stF_f x, _, rfl, p, CS, dx, _, _, rfl, ex, TS.cl, TS.nA, stF_a x, ?_⟩
    exact ⟨_, da, plF _, _, rfl, ea, .ins eb, nf_same, _, da, _, _, rfl, ea, .inl ⟨_, db, _, rfl, eb, _, rfl, k⟩⟩
abbrev nStepsB : List Str := ["tree", "one", "other"]
theorem scStepsB : FnScope nStepsB ["tree", "one", "other"] (defScope sStepsB) := ⟨rfl, rfl, rfl, by decide +kernel, rfl, by decide +kernel, by decide +kernel⟩
theorem ok_stepsB {f fDI CT CR CP CNR COR : Addr} {fd fdDI : FuncData} (F : Fun K "steps_between" "steps_between" sStepsB f fd)
    (FDI : FnOk P w K mg base (L2.CX P w) 4 fDI fdDI ["tree", "one", "other"] (spDist K CT CR CP CNR COR)) (bDI : Binds K fdDI ["tree", "one", "other"] []) (mDI : mg "distance" = some (.ref fDI)) (kDI : PySem.W.keepIn K (.ref fDI) = true) : FnOk P w K mg base CX0 5 f fd ["tree", "one", "other"] (spStepsB K CT CR CP) := by
  refine F.ok scStepsB (fun vs H Q E h => ?_) (fun cdv A outer s H vs Q E hr h => ?_)
  · obtain ⟨x, p1, p2, n, ps, fs, r1, r2, k, g, i, p, rfl, _⟩ := h
    rfl
  · obtain ⟨x, p1, p2, n, ps, fs, r1, r2, k, g, i, p, rfl, TA, TG, P1, P2, e1, e2, kont⟩ := h
    refine ⟨_, pss_one (ps_ret (pe_ix ix_tup (pe_call FDI hr rfl mDI kDI bDI .nil passF (pa_cons (pv 0) (pa_cons (pv 1) (pa_cons (pv 2) pa_nil)))) pe_int (fun _ _ => rfl))), ?_⟩
    refine ⟨_, rfl, _, rfl, _, rfl, tn ?_⟩
    show spDist K CT CR CP CNR COR [V.ref x, V.ref p1, V.ref p2] H _ _
    refine dist_1 TA TG P1 P2 e1 e2 fun t G' s ht => ?_
    exact ⟨t, _, 0, _, rfl, rfl, SqT.of ht, rfl, kont G' s⟩
end
end OT
set_option linter.all false
set_option maxRecDepth 100000
namespace OT
open PySem L2 OTR
theorem FactsAt.but {H H' : Hp} {s q : Addr} {F : List Fact} (h : FactsAt H q F) (src : Src H s) (b : But s H H') : FactsAt H' q F := by
  obtain ⟨ts, hq, hts⟩ := h
  refine ⟨ts, b _ _ hq (src.ne hq fun x y z e => ?_), tups_but hts src b⟩
  have e1 := HO.lst.inj e
  cases ts with
  | nil => exact nomatch e1
  | cons t r =>
    rw [List.map_cons] at e1
    exact nomatch (List.cons.inj e1).1
end OT
set_option Elab.async false
set_option linter.all false
set_option maxRecDepth 100000
set_option maxHeartbeats 1000000
namespace OT
section
variable {n : Int} {F : List Fact} (T : TreeM n F) (n2 : 2 ≤ n)
/-- how far it is from u to v -/
noncomputable def Dn (F : List Fact) (u v : Nd) : Int := hN F 1 (nqk F 1 v).1 (nqk F 1 v).2 u
include T n2
theorem Dn_hN {u v : Nd} (ou : OnT F 1 u) (ov : OnT F 1 v) {g : Nat} {p : Int} (og : On F 1 g p) (e : node F 1 g p = v) : Dn F u v = hN F 1 g p u := by
  obtain ⟨o, e'⟩ := nqk_on T n2 (by decide) ov
  exact hN_goal T (by decide) o og (e'.trans e.symm) ou
theorem Dn_hP {k g : Nat} {i p : Int} (ok : On F 1 k i) (og : On F 1 g p) : Dn F (node F 1 k i) (node F 1 g p) = hP F 1 g p k i := by
  rw [Dn_hN T n2 ⟨k, i, ok, rfl⟩ ⟨g, p, og, rfl⟩ og rfl, hN_node T (by decide) og ok]
theorem Dn_nn {u v : Nd} (ou : OnT F 1 u) (ov : OnT F 1 v) : 0 ≤ Dn F u v := by
  obtain ⟨k, i, ok, rfl⟩ := ou
  obtain ⟨g, p, og, rfl⟩ := ov
  rw [Dn_hP T n2 ok og]
  exact total_nn _
theorem Dn_self {u : Nd} (ou : OnT F 1 u) : Dn F u u = 0 := by
  obtain ⟨k, i, ok, rfl⟩ := ou
  rw [Dn_hP T n2 ok ok, hP_g, dst_self]
theorem Dn_sym {u v : Nd} (ou : OnT F 1 u) (ov : OnT F 1 v) : Dn F u v = Dn F v u := by
  obtain ⟨k, i, ok, rfl⟩ := ou
  obtain ⟨g, p, og, rfl⟩ := ov
  rw [Dn_hP T n2 ok og, Dn_hP T n2 og ok]
  exact hP_sym T (by decide) ok og
theorem Dn_zero {u v : Nd} (ou : OnT F 1 u) (ov : OnT F 1 v) (h : Dn F u v = 0) : u = v := by
  obtain ⟨g, p, og, rfl⟩ := ov
  rw [Dn_hN T n2 ou ⟨g, p, og, rfl⟩ og rfl] at h
  exact zero_aim T (by decide) og ou h
theorem Dn_adj {u u' v : Nd} (a : Adj F 1 u u') (ov : OnT F 1 v) : Dn F u' v = Dn F u v + 1 ∨ Dn F u' v = Dn F u v - 1 := by
  obtain ⟨g, p, og, rfl⟩ := ov
  rw [Dn_hN T n2 a.on.1 ⟨g, p, og, rfl⟩ og rfl, Dn_hN T n2 a.on.2 ⟨g, p, og, rfl⟩ og rfl]
  exact adj_step T (by decide) og a
/-- a chain of neighbours -/
def Chain (F : List Fact) (c : Nat) (x : Nat → Nd) : Prop := ∀ t, t < c → Adj F 1 (x t) (x (t + 1))
theorem chain_far {v : Nd} (ov : OnT F 1 v) {x : Nat → Nd} : ∀ {c : Nat}, Chain F c x → Dn F (x c) v ≤ Dn F (x 0) v + c ∧ Dn F (x 0) v ≤ Dn F (x c) v + c
  | 0, _ => ⟨by simp, by simp⟩
  | c + 1, h => by
    obtain ⟨a, b⟩ := chain_far ov (c := c) fun t ht => h t (by omega)
    have := Dn_adj T n2 (h c (by omega)) ov
    omega
/-- the way from one position to another, as a chain -/
theorem way_chain {u v : Nd} (ou : OnT F 1 u) (ov : OnT F 1 v) : ∃ x : Nat → Nd, x 0 = u ∧ x (Dn F u v).toNat = v ∧ Chain F (Dn F u v).toNat x ∧ ∀ t : Nat, (t : Int) ≤ Dn F u v → OnT F 1 (x t) ∧ Dn F (x t) v = Dn F u v - t := by
  obtain ⟨k, i, ok, rfl⟩ := ou
  obtain ⟨g, p, og, rfl⟩ := ov
  have eD := Dn_hP T n2 ok og
  have h0 : 0 ≤ hP F 1 g p k i := total_nn _
  rw [eD]
  have en : ((hP F 1 g p k i).toNat : Int) = hP F 1 g p k i := Int.toNat_of_nonneg h0
  refine ⟨fun t => pth F 1 g p k i (t : Nat), pth_0 T (by decide) og ok, ?_, fun t ht => ?_, fun t ht => ?_⟩
  · show pth F 1 g p k i ((hP F 1 g p k i).toNat : Nat) = _
    rw [en]
    obtain ⟨o, z, _⟩ := pth_ok T (by decide) og ok h0 (Int.le_refl _)
    exact zero_aim T (by decide) og o (by rw [z]; omega)
  · obtain ⟨_, _, a⟩ := pth_ok T (by decide) og ok (t := (t : Nat)) (Int.natCast_nonneg t) (by omega)
    have := a (by omega)
    show Adj F 1 (pth F 1 g p k i (t : Nat)) (pth F 1 g p k i ((t + 1 : Nat) : Int))
    rw [Int.natCast_succ]
    exact this
  · obtain ⟨o, z, _⟩ := pth_ok T (by decide) og ok (t := (t : Nat)) (Int.natCast_nonneg t) ht
    refine ⟨o, ?_⟩
    show Dn F (pth F 1 g p k i (t : Nat)) _ = _
    rw [Dn_hN T n2 o ⟨g, p, og, rfl⟩ og rfl]
    exact z
theorem Dn_tri {u v z : Nd} (ou : OnT F 1 u) (ov : OnT F 1 v) (oz : OnT F 1 z) : Dn F u z ≤ Dn F u v + Dn F v z := by
  obtain ⟨x, x0, xc, ch, _⟩ := way_chain T n2 ou ov
  have h := (chain_far T n2 oz ch).2
  rw [x0, xc, Int.toNat_of_nonneg (Dn_nn T n2 ou ov)] at h
  omega
/-- a chain that comes nearer to something with each step, or goes away from it with each, has no shorter way -/
theorem chain_iso {v : Nd} (ov : OnT F 1 v) {x : Nat → Nd} {c : Nat} (h : Chain F c x) (on_ : ∀ t, t ≤ c → OnT F 1 (x t)) (d : Dn F (x c) v = Dn F (x 0) v - c ∨ Dn F (x c) v = Dn F (x 0) v + c) : Dn F (x 0) (x c) = c := by
  have o0 := on_ 0 (Nat.zero_le _)
  have oc := on_ c (Nat.le_refl _)
  have h1 := (chain_far T n2 oc h).2
  rw [Dn_self T n2 oc] at h1
  have h2 := Dn_tri T n2 o0 oc ov
  have h3 := Dn_tri T n2 oc o0 ov
  rw [Dn_sym T n2 oc o0] at h3
  omega
end
end OT
set_option Elab.async false
set_option linter.all false
set_option maxRecDepth 100000
set_option maxHeartbeats 1000000
namespace OT
/-- a chain without a shorter way -/
structure Geo (F : List Fact) (c : Nat) (x : Nat → Nd) : Prop where
  ch : Chain F c x
  on_ : ∀ t, t ≤ c → OnT F 1 (x t)
  far : Dn F (x 0) (x c) = c
theorem Chain.sub {F : List Fact} {c a b : Nat} {x : Nat → Nd} (h : Chain F c x) (hb : a + b ≤ c) : Chain F b (fun t => x (a + t)) := fun t ht => h (a + t) (by omega)
section
variable {n : Int} {F : List Fact} (T : TreeM n F) (n2 : 2 ≤ n)
include T n2
theorem Geo.sub {c : Nat} {x : Nat → Nd} (h : Geo F c x) {a b : Nat} (hb : a + b ≤ c) : Geo F b (fun t => x (a + t)) := by
  have o0 := h.on_ 0 (Nat.zero_le _)
  have oa := h.on_ a (by omega)
  have ob := h.on_ (a + b) hb
  have oc := h.on_ c (Nat.le_refl _)
  refine ⟨h.ch.sub hb, fun t ht => h.on_ (a + t) (by omega), ?_⟩
  show Dn F (x (a + 0)) (x (a + b)) = b
  rw [Nat.add_zero]
  have h1 := (chain_far T n2 oa (h.ch.sub (a := 0) (b := a) (by omega))).2
  have h2 := (chain_far T n2 ob (h.ch.sub (a := a) (b := b) hb)).2
  have h3 := (chain_far T n2 oc (h.ch.sub (a := a + b) (b := c - (a + b)) (by omega))).2
  simp only [Nat.zero_add, Nat.add_zero] at h1 h2 h3
  rw [Dn_self T n2 oa] at h1
  rw [Dn_self T n2 ob] at h2
  have e : a + b + (c - (a + b)) = c := by omega
  rw [e, Dn_self T n2 oc] at h3
  have t1 := Dn_tri T n2 o0 oa oc
  have t2 := Dn_tri T n2 oa ob oc
  have := h.far
  omega
theorem Geo.rev {c : Nat} {x : Nat → Nd} (h : Geo F c x) : Geo F c (fun t => x (c - t)) := by
  refine ⟨fun t ht => ?_, fun t _ => h.on_ (c - t) (by omega), ?_⟩
  · show Adj F 1 (x (c - t)) (x (c - (t + 1)))
    have := (h.ch (c - (t + 1)) (by omega)).symm
    rw [show c - (t + 1) + 1 = c - t by omega] at this
    exact this
  · show Dn F (x (c - 0)) (x (c - c)) = c
    rw [Nat.sub_zero, Nat.sub_self, Dn_sym T n2 (h.on_ c (Nat.le_refl _)) (h.on_ 0 (Nat.zero_le _))]
    exact h.far
/-- towards a position: first nearer, then farther -/
theorem Geo.turn {v : Nd} (ov : OnT F 1 v) : ∀ {c : Nat} {x : Nat → Nd}, Geo F c x → ∃ a, a ≤ c ∧ (∀ t, t ≤ a → Dn F (x t) v = Dn F (x 0) v - t) ∧ ∀ t, a ≤ t → t ≤ c → Dn F (x t) v = Dn F (x a) v + (t - a : Nat)
  | 0, x, _ => ⟨0, Nat.le_refl _, fun t ht => by
      have : t = 0 := by omega
      subst this
      simp, fun t _ ht => by
      have : t = 0 := by omega
      subst this
      simp⟩
  | c + 1, x, h => by
    have hs := h.sub T n2 (a := 0) (b := c) (by omega)
    simp only [Nat.zero_add] at hs
    obtain ⟨a, ha, down, up⟩ := Geo.turn ov hs
    have ad := h.ch c (by omega)
    have st := Dn_adj T n2 ad ov
    have uc := up c ha (Nat.le_refl _)
    by_cases e : a = c
    · subst e
      rcases st with s | s
      · refine ⟨a, by omega, down, fun t h1 h2 => ?_⟩
        by_cases z : t = a
        · subst z
          simp
        · have : t = a + 1 := by omega
          subst this
          rw [s]
          omega
      · refine ⟨a + 1, Nat.le_refl _, fun t ht => ?_, fun t h1 h2 => ?_⟩
        · by_cases z : t = a + 1
          · subst z
            rw [s, down a (Nat.le_refl _)]
            omega
          · exact down t (by omega)
        · have : t = a + 1 := by omega
          subst this
          simp
    · rcases st with s | s
      · refine ⟨a, by omega, down, fun t h1 h2 => ?_⟩
        by_cases z : t = c + 1
        · subst z
          rw [s, uc]
          omega
        · exact up t h1 (by omega)
      · exfalso
        have pc : Dn F (x (c - 1)) v + 1 = Dn F (x c) v := by
          rw [up (c - 1) (by omega) (by omega), uc]
          omega
        have a1 : Adj F 1 (x c) (x (c - 1)) := by
          have := (h.ch (c - 1) (by omega)).symm
          rw [show c - 1 + 1 = c by omega] at this
          exact this
        obtain ⟨g, p, og, rfl⟩ := ov
        have hN_ : ∀ {u : Nd}, OnT F 1 u → Dn F u (node F 1 g p) = hN F 1 g p u := fun ou => Dn_hN T n2 ou ⟨g, p, og, rfl⟩ og rfl
        have oc := h.on_ c (by omega)
        have o1 := h.on_ (c - 1) (by omega)
        have o2 := h.on_ (c + 1) (Nat.le_refl _)
        rw [hN_ o1, hN_ oc] at pc
        rw [hN_ o2, hN_ oc] at s
        have eq := lower_uniq T (by decide) og a1 ad pc (by omega)
        have gs := (h.sub T n2 (a := c - 1) (b := 2) (by omega)).far
        simp only [Nat.add_zero] at gs
        rw [show c - 1 + 2 = c + 1 by omega, ← eq, Dn_self T n2 o1] at gs
        omega
/-- while it comes nearer it is the way -/
theorem Geo.way {c : Nat} {x : Nat → Nd} (h : Geo F c x) {k g : Nat} {i p : Int} (ok : On F 1 k i) (og : On F 1 g p) (e0 : x 0 = node F 1 k i) {a : Nat} (ha : a ≤ c) (down : ∀ t, t ≤ a → Dn F (x t) (node F 1 g p) = Dn F (x 0) (node F 1 g p) - t) : ∀ t, t ≤ a → x t = pth F 1 g p k i (t : Nat)
  | 0, _ => by
    show x 0 = pth F 1 g p k i 0
    rw [pth_0 T (by decide) og ok]
    exact e0
  | t + 1, ht => by
    have ih := Geo.way h ok og e0 ha down t (by omega)
    have hN_ : ∀ {u : Nd}, OnT F 1 u → Dn F u (node F 1 g p) = hN F 1 g p u := fun ou => Dn_hN T n2 ou ⟨g, p, og, rfl⟩ og rfl
    have d0 : Dn F (x 0) (node F 1 g p) = hP F 1 g p k i := by rw [e0, Dn_hP T n2 ok og]
    have o1 := h.on_ (t + 1) (by omega)
    have o := h.on_ t (by omega)
    have d1 := down (t + 1) ht
    have dt := down t (by omega)
    rw [d0] at d1 dt
    have nn := Dn_nn T n2 o1 ⟨g, p, og, rfl⟩
    rw [hN_ o1] at d1
    rw [hN_ o] at dt
    have ad := h.ch t (by omega)
    rw [ih] at ad dt
    have hj : (t : Int) + 1 ≤ hP F 1 g p k i := by
      rw [hN_ o1] at nn
      omega
    obtain ⟨h1, h2⟩ := arC (t := t) (by rw [Int.natCast_succ]; exact hj)
    obtain ⟨oo, z, a'⟩ := pth_ok T (by decide) og ok (t := (t : Nat)) (Int.natCast_nonneg t) h2
    obtain ⟨_, z', _⟩ := pth_ok T (by decide) og ok (t := (t : Int) + 1) (Int.le_trans (Int.natCast_nonneg t) (Int.le_add_one (Int.le_refl _))) h1
    have r := lower_uniq T (by decide) og (a' h1) ad (arA z z') (by omega)
    rw [Int.natCast_succ]
    exact r.symm
end
end OT
set_option Elab.async false
set_option linter.all false
set_option maxRecDepth 100000
set_option maxHeartbeats 1000000
namespace OT
section
variable {n : Int} {F : List Fact} (T : TreeM n F) (n2 : 2 ≤ n)
include T n2
theorem geo_0 {x : Nat → Nd} (o : OnT F 1 (x 0)) : Geo F 0 x := ⟨fun t ht => absurd ht (Nat.not_lt_zero _), fun t ht => by
  have : t = 0 := by omega
  subst this
  exact o, Dn_self T n2 o⟩
section
variable {c : Nat} {x f : Nat → Nd} (h : Geo F c x) {g : Nat} {p m : Int} (og : On F 1 g p) (m0 : 0 ≤ m) (go : ∀ t, t ≤ c → Go F 1 g p m (x t) (f t)) {a : Nat} (ha : a ≤ c) (down : ∀ t, t ≤ a → Dn F (x t) (node F 1 g p) = Dn F (x 0) (node F 1 g p) - t)
include h og m0 go ha down
/-- where the part that comes nearer is led -/
theorem img_down {k : Nat} {i : Int} (ok : On F 1 k i) (e0 : x 0 = node F 1 k i) {t : Nat} (ht : t ≤ a) : (t : Int) ≤ hP F 1 g p k i ∧ f t = pth F 1 g p k i (t + (if hP F 1 g p k i - t < m then hP F 1 g p k i - t else m)) := by
  have w := h.way T n2 ok og e0 ha down t ht
  have d0 : Dn F (x 0) (node F 1 g p) = hP F 1 g p k i := by rw [e0, Dn_hP T n2 ok og]
  have dt := down t ht
  have nn := Dn_nn T n2 (h.on_ t (by omega)) ⟨g, p, og, rfl⟩
  rw [d0] at dt
  have th : (t : Int) ≤ hP F 1 g p k i := by omega
  refine ⟨th, ?_⟩
  obtain ⟨k1, i1, o1, e1, e2⟩ := go t (by omega)
  obtain ⟨h1, h2⟩ := pth_on T (by decide) og ok o1 (Int.natCast_nonneg t) th (w.symm.trans e1)
  rw [e2, h1]
  have q0 : 0 ≤ (if hP F 1 g p k i - t < m then hP F 1 g p k i - t else m) := by split <;> omega
  have q := h2 (if hP F 1 g p k i - t < m then hP F 1 g p k i - t else m).toNat (by rw [Int.toNat_of_nonneg q0]; split <;> omega)
  rw [Int.toNat_of_nonneg q0] at q
  exact q.symm
/-- its part that doesn't reach the goal stays what it was -/
theorem geo_down {lo : Nat} (hlo : lo ≤ a) (far : lo = 0 ∨ (lo : Int) + m ≤ Dn F (x 0) (node F 1 g p)) : Geo F lo f := by
  obtain ⟨k, i, ok, e0⟩ := h.on_ 0 (Nat.zero_le _)
  have d0 : Dn F (x 0) (node F 1 g p) = hP F 1 g p k i := by rw [e0, Dn_hP T n2 ok og]
  have on_ : ∀ t, t ≤ c → OnT F 1 (f t) := fun t ht => Go.on T (by decide) og m0 (go t ht)
  rcases far with z | far
  · subst z
    exact geo_0 T n2 (on_ 0 (Nat.zero_le _))
  · rw [d0] at far
    have im : ∀ t : Nat, t ≤ lo → f t = pth F 1 g p k i ((t : Int) + m) := fun t ht => by
      obtain ⟨_, e⟩ := img_down T n2 h og m0 go ha down ok e0 (t := t) (by omega)
      rw [e]
      congr 2
      split <;> omega
    have ch : Chain F lo f := fun t ht => by
      rw [im t (by omega), im (t + 1) (by omega)]
      obtain ⟨_, _, ad⟩ := pth_ok T (by decide) og ok (t := (t : Int) + m) (by omega) (by omega)
      have := ad (by omega)
      rw [show ((t + 1 : Nat) : Int) + m = (t : Int) + m + 1 by omega]
      exact this
    have dist : ∀ t : Nat, t ≤ lo → Dn F (f t) (node F 1 g p) = hP F 1 g p k i - ((t : Int) + m) := fun t ht => by
      rw [Dn_hN T n2 (on_ t (by omega)) ⟨g, p, og, rfl⟩ og rfl, im t ht]
      exact (pth_ok T (by decide) og ok (t := (t : Int) + m) (by omega) (by omega)).2.1
    refine ⟨ch, fun t ht => on_ t (by omega), chain_iso T n2 (v := node F 1 g p) ⟨g, p, og, rfl⟩ ch (fun t ht => on_ t (by omega)) (.inl ?_)⟩
    rw [dist lo (Nat.le_refl _), dist 0 (Nat.zero_le _)]
    omega
/-- its part that is near enough is led to the goal -/
theorem img_goal {t : Nat} (ht : t ≤ a) (near : Dn F (x 0) (node F 1 g p) - t ≤ m) : f t = node F 1 g p := by
  obtain ⟨k, i, ok, e0⟩ := h.on_ 0 (Nat.zero_le _)
  have d0 : Dn F (x 0) (node F 1 g p) = hP F 1 g p k i := by rw [e0, Dn_hP T n2 ok og]
  rw [d0] at near
  obtain ⟨th, e⟩ := img_down T n2 h og m0 go ha down ok e0 ht
  have z : (t : Int) + (if hP F 1 g p k i - t < m then hP F 1 g p k i - t else m) = hP F 1 g p k i := by split <;> omega
  rw [e, z]
  obtain ⟨o, q, _⟩ := pth_ok T (by decide) og ok (t := hP F 1 g p k i) (by omega) (Int.le_refl _)
  exact zero_aim T (by decide) og o (by rw [q]; omega)
/-- one may as well begin at the path's first and go so much farther -/
theorem img_from {t : Nat} (ht : t ≤ a) {w : Nd} (gw : Go F 1 g p (t + m) (x 0) w) : w = f t := by
  obtain ⟨k, i, ok, e0⟩ := h.on_ 0 (Nat.zero_le _)
  obtain ⟨th, e⟩ := img_down T n2 h og m0 go ha down ok e0 ht
  refine Go.uniq T (by decide) og (by omega) gw ⟨k, i, ok, e0, ?_⟩
  rw [e]
  congr 1
  split <;> split <;> omega
end
/-- what a march makes of a path: two paths, and what is led to the goal between them -/
theorem Geo.march {c : Nat} {x f : Nat → Nd} (h : Geo F c x) {g : Nat} {p m : Int} (og : On F 1 g p) (m0 : 0 ≤ m) (go : ∀ t, t ≤ c → Go F 1 g p m (x t) (f t)) : ∃ a : Nat, a ≤ c ∧ (c : Int) + Dn F (x 0) (node F 1 g p) - Dn F (x c) (node F 1 g p) = 2 * a ∧
    ∀ lo hi : Nat, lo ≤ a → a ≤ hi → hi ≤ c → (lo = 0 ∨ (lo : Int) + m ≤ Dn F (x 0) (node F 1 g p)) → (lo = a ∨ Dn F (x 0) (node F 1 g p) - m ≤ lo) → (hi = c ∨ (c : Int) - hi + m ≤ Dn F (x c) (node F 1 g p)) → (hi = a ∨ Dn F (x c) (node F 1 g p) - m ≤ (c : Int) - hi) →
      Geo F lo f ∧ Geo F (c - hi) (fun t => f (hi + t)) ∧ (lo < hi → ∀ t, lo ≤ t → t ≤ hi → f t = node F 1 g p) ∧ (∀ t w, t ≤ lo → Go F 1 g p (t + m) (x 0) w → w = f t) ∧ ∀ (t : Nat) w, hi ≤ t → t ≤ c → Go F 1 g p ((c - t : Nat) + m) (x c) w → w = f t := by
  obtain ⟨a, ha, down, up⟩ := h.turn T n2 (v := node F 1 g p) ⟨g, p, og, rfl⟩
  have ua := up c ha (Nat.le_refl _)
  have da := down a (Nat.le_refl _)
  have hr := h.rev T n2
  have gor : ∀ t, t ≤ c → Go F 1 g p m (x (c - t)) (f (c - t)) := fun t ht => go (c - t) (by omega)
  have downr : ∀ t, t ≤ c - a → Dn F (x (c - t)) (node F 1 g p) = Dn F (x (c - 0)) (node F 1 g p) - t := fun t ht => by
    rw [Nat.sub_zero, up (c - t) (by omega) (by omega), ua]
    omega
  refine ⟨a, ha, by omega, fun lo hi l1 h1 h2 l2 l3 h3 h4 => ⟨geo_down T n2 h og m0 go ha down l1 l2, ?_, fun lt t t1 t2 => ?_, fun t w ht gw => img_from T n2 h og m0 go ha down (t := t) (by omega) gw, fun t w h1 h2 gw => ?_⟩⟩
  · have g1 := geo_down T n2 (x := fun t => x (c - t)) (f := fun t => f (c - t)) hr og m0 gor (a := c - a) (by omega) downr (lo := c - hi) (by omega) (by
      rcases h3 with e | e
      · exact .inl (by omega)
      · refine .inr ?_
        show ((c - hi : Nat) : Int) + m ≤ Dn F (x (c - 0)) (node F 1 g p)
        rw [Nat.sub_zero]
        omega)
    have g2 := g1.rev T n2
    refine ⟨fun t ht => ?_, fun t ht => ?_, ?_⟩
    · have := g2.ch t ht
      rw [show c - (c - hi - t) = hi + t by omega, show c - (c - hi - (t + 1)) = hi + (t + 1) by omega] at this
      exact this
    · have := g2.on_ t ht
      rw [show c - (c - hi - t) = hi + t by omega] at this
      exact this
    · have := g2.far
      rw [show c - (c - hi - 0) = hi + 0 by omega, show c - (c - hi - (c - hi)) = hi + (c - hi) by omega] at this
      exact this
  · by_cases q : t ≤ a
    · refine img_goal T n2 h og m0 go ha down q ?_
      rcases l3 with e | e
      · subst e
        have : t = lo := by omega
        subst this
        rcases h4 with e | e
        · omega
        · omega
      · omega
    · have gg := img_goal T n2 (x := fun t => x (c - t)) (f := fun t => f (c - t)) hr og m0 gor (a := c - a) (by omega) downr (t := c - t) (by omega) (by
        show Dn F (x (c - 0)) (node F 1 g p) - ((c - t : Nat) : Int) ≤ m
        rw [Nat.sub_zero]
        rcases h4 with e | e
        · omega
        · omega)
      rw [show c - (c - t) = t by omega] at gg
      exact gg
  · have gg := img_from T n2 (x := fun t => x (c - t)) (f := fun t => f (c - t)) hr og m0 gor (a := c - a) (by omega) downr (t := c - t) (by omega) (w := w) (by
      show Go F 1 g p (((c - t : Nat) : Int) + m) (x (c - 0)) w
      rw [Nat.sub_zero]
      exact gw)
    rw [show c - (c - t) = t by omega] at gg
    exact gg
end
end OT
set_option Elab.async false
set_option linter.all false
set_option maxRecDepth 100000
set_option maxHeartbeats 4000000
namespace OT
open PySem L2 OTR
abbrev sMarksOf : Stmt := top 46
/-- at t a mark: so many steps from the stretch's start, and where that is led -/
def MkAt (CP : Addr) (F : List Fact) (H : Hp) (t : Addr) (z : Nat × Nd) : Prop := ∃ b, H t = some (.tup [.int (z.1 : Nat), .ref b]) ∧ PlaceAt CP H b (keyF F 1 z.2)
theorem MkAt.kp {CP : Addr} {F : List Fact} {H H' : Hp} {t : Addr} {z : Nat × Nd} (h : MkAt CP F H t z) (k : Kp H H') : MkAt CP F H' t z := let ⟨b, e, p⟩ := h; ⟨b, k _ _ e (fun _ q => nomatch q), p.kp k⟩
theorem MkAt.same {CP : Addr} {F : List Fact} {H H' : Hp} {t : Addr} {z : Nat × Nd} (h : MkAt CP F H t z) (k : Same H H') : MkAt CP F H' t z := h.kp (.of k)
def spMarks (K : PySem.W.Frag) (CT CR CM CP CS : Addr) : Sp := fun vs H Q _ => ∃ (x p q : Addr) (n : Int) (ps : List Addr) (F : List Fact) (st : SFact) (mg : MG) (c : Nat) (xs f : Nat → Nd), vs = [.ref x, .ref p, .ref q] ∧ TreeAt K CT CR H x n ps F ∧ TreeG n F ∧ StAt CS H p st ∧ PlaceAt CP H st.2.2.2.1 (keyF F 1 (xs 0)) ∧ PlaceAt CP H st.2.2.2.2 (keyF F 1 (xs c)) ∧
  MaAt CM CP H q (mf mg) ∧ MgOk F mg ∧ Geo F c xs ∧ st.2.2.1 - st.2.1 = (c : Int) ∧ (∀ t, t ≤ c → Go F 1 mg.1 mg.2.1 mg.2.2 (xs t) (f t)) ∧
  ∀ (l : Addr) (ts : List Addr) (H' : Hp) (lo hi : Nat), Same H H' → lo ≤ hi → hi ≤ c → Geo F lo f → Geo F (c - hi) (fun t => f (hi + t)) → (lo < hi → ∀ t, lo ≤ t → t ≤ hi → f t = node F 1 mg.1 mg.2.1) → H' l = some (.lst (ts.map V.ref)) → Paired (MkAt CP F H') ts [(0, f 0), (lo, f lo), (hi, f hi), (c, f c)] → Q (.ref l) H'
section
variable {P : Program} {w : World} {K : PySem.W.Frag} {mg : Str → Option Value} {base : Heap}
abbrev nMarksOf : List Str := ["tree", "stretch", "march", "size", "ahead", "behind", "turn", "low", "high", "from_first", "from_last", "at"]
theorem scMarksOf : FnScope nMarksOf ["tree", "stretch", "march"] (defScope sMarksOf) := ⟨rfl, rfl, rfl, by decide +kernel, rfl, by decide +kernel, by decide +kernel⟩
theorem ok_marks {f0 fSB fST CT CR CM CP CS CB CNR COR : Addr} {fd fdSB fdST : FuncData} (F0 : Fun K "marks_of" "marks_of" sMarksOf f0 fd) (TS : StT K mg CS) (TM : MaT K mg CM)
    (FSB : FnOk P w K mg base CX0 5 fSB fdSB ["tree", "one", "other"] (spStepsB K CT CR CP)) (bSB : Binds K fdSB ["tree", "one", "other"] []) (mSB : mg "steps_between" = some (.ref fSB)) (kSB : PySem.W.keepIn K (.ref fSB) = true)
    (FST : FnOk P w K mg base (L2.CX P w) 7 fST fdST ["tree", "place", "goal", "steps"] (spStep K CT CR CP CB CNR COR)) (bST : Binds K fdST ["tree", "place", "goal", "steps"] []) (mST : mg "step" = some (.ref fST)) (kST : PySem.W.keepIn K (.ref fST) = true)
    (hMin : mg "min" = none) (hMax : mg "max" = none) : FnOk P w K mg base CX0 8 f0 fd ["tree", "stretch", "march"] (spMarks K CT CR CM CP CS) := by
  refine F0.ok scMarksOf (fun vs H Q E h => ?_) (fun cdv A outer s H vs Q E hr h => ?_)
  · obtain ⟨x, p, q, n, ps, fs, st, g, c, xs, f, rfl, _⟩ := h
    rfl
  · obtain ⟨x, p, q, n, ps, fs, st, g, c, xs, f, rfl, TA, TG, ⟨dx, ex⟩, P1, P2, ⟨gp, ⟨dm, em⟩, pg⟩, okg, geo, hsz, go, kont⟩ := h
    have T := TG.m
    have hr5 : Room 5 _ := hr.mono (by decide)
    refine ⟨_, pss_cons (ps_set (i := 3) scMarksOf.nd rfl (Or.inr rfl) (pe_op op_sub (pe_fld (pv 1) rfl) (pe_fld (pv 1) rfl)))
      (pss_cons (ps_set (i := 4) scMarksOf.nd rfl (Or.inl rfl) (pe_call FSB hr5 rfl mSB kSB bSB .nil pass0 (pa_cons (pv 0) (pa_cons (pe_fld (pv 1) rfl) (pa_cons (pe_fld (pv 2) rfl) pa_nil)))))
      (pss_cons (ps_set (i := 5) scMarksOf.nd rfl (Or.inl rfl) (pe_call FSB hr5 rfl mSB kSB bSB .nil pass0 (pa_cons (pv 0) (pa_cons (pe_fld (pv 1) rfl) (pa_cons (pe_fld (pv 2) rfl) pa_nil)))))
      (pss_cons (ps_set (i := 6) scMarksOf.nd rfl (Or.inl rfl) (pe_op op_fdiv (pe_op op_sub (pe_op op_add (pv 3) (pv 4)) (pv 5)) pe_int))
      (pss_cons (ps_set (i := 7) scMarksOf.nd rfl (Or.inl rfl) (pe_callB (call_min2 rfl) (by rfl) hMin (by decide +kernel) (pa_cons (pv 6) (pa_cons (pe_callB (call_max2 rfl) (by rfl) hMax (by decide +kernel) (pa_cons pe_int (pa_cons (pe_op op_sub (pv 4) (pe_fld (pv 2) rfl)) pa_nil))) pa_nil))))
      (pss_cons (ps_set (i := 8) scMarksOf.nd rfl (Or.inl rfl) (pe_callB (call_max2 rfl) (by rfl) hMax (by decide +kernel) (pa_cons (pv 6) (pa_cons (pe_callB (call_min2 rfl) (by rfl) hMin (by decide +kernel) (pa_cons (pv 3) (pa_cons (pe_op op_add (pe_op op_sub (pv 3) (pv 5)) (pe_fld (pv 2) rfl)) pa_nil))) pa_nil))))
      (pss_cons (ps_setLc (i := 9) (own := [("at", 11)]) (g := gName 11) (tt := tYes) (te := tTup (tCons (tVar 11) (tCons (tCall (spStep K CT CR CP CB CNR COR) [] L2.E0 (tCons (tVar 0) (tCons (tFld K (tVar 1) "first") (tCons (tFld K (tVar 2) "goal") (tCons (tOp (rI0 fun i j => .int (i + j)) (tVar 11) (tFld K (tVar 2) "steps")) tNil))))) tNil))) rfl scMarksOf.nd rfl rfl (sw_true rfl rfl rfl (by decide +kernel)) (pi_tup (pe_tup (pa_cons pe_int (pa_cons (pv 7) pa_nil)))) (blkOk_by (own := [("at", 11)]) (N := nMarksOf) (sc := defScope sMarksOf) (by decide +kernel)) (fun _ _ _ _ _ => (pg_name (i := 11) scMarksOf.nd rfl (Or.inl rfl))) (fun _ _ _ _ _ => pts_nil) (fun _ _ _ _ _ => (pe_tup (pa_cons (pv 11) (pa_cons (pe_call FST (hr.mono (by decide)) rfl mST kST bST .nil passF (pa_cons (pv 0) (pa_cons (pe_fld (pv 1) rfl) (pa_cons (pe_fld (pv 2) rfl) (pa_cons (pe_op op_add (pv 11) (pe_fld (pv 2) rfl)) pa_nil))))) pa_nil)))))
      (pss_cons (ps_setLc (i := 10) (own := [("at", 11)]) (g := gName 11) (tt := tYes) (te := tTup (tCons (tVar 11) (tCons (tCall (spStep K CT CR CP CB CNR COR) [] L2.E0 (tCons (tVar 0) (tCons (tFld K (tVar 1) "last") (tCons (tFld K (tVar 2) "goal") (tCons (tOp (rI0 fun i j => .int (i + j)) (tOp (rI0 fun i j => .int (i - j)) (tVar 3) (tVar 11)) (tFld K (tVar 2) "steps")) tNil))))) tNil))) rfl scMarksOf.nd rfl rfl (sw_true rfl rfl rfl (by decide +kernel)) (pi_tup (pe_tup (pa_cons (pv 8) (pa_cons (pv 3) pa_nil)))) (blkOk_by (own := [("at", 11)]) (N := nMarksOf) (sc := defScope sMarksOf) (by decide +kernel)) (fun _ _ _ _ _ => (pg_name (i := 11) scMarksOf.nd rfl (Or.inl rfl))) (fun _ _ _ _ _ => pts_nil) (fun _ _ _ _ _ => (pe_tup (pa_cons (pv 11) (pa_cons (pe_call FST (hr.mono (by decide)) rfl mST kST bST .nil passF (pa_cons (pv 0) (pa_cons (pe_fld (pv 1) rfl) (pa_cons (pe_fld (pv 2) rfl) (pa_cons (pe_op op_add (pe_op op_sub (pv 3) (pv 11)) (pe_fld (pv 2) rfl)) pa_nil))))) pa_nil)))))
      (pss_one (ps_ret (pe_op op_catS (pv 9) (pv 10))))))))))), ?_⟩
    have two : ∀ {x y : V}, [x, y].length ≤ sizeLine := fun {x y} => (by show 2 ≤ sizeLine; decide)
    obtain ⟨gk, gi, gm⟩ := g
    have og : On fs 1 gk gi := by
      have h := okg.on (S := 1) (by decide)
      rw [Int.mul_one] at h
      exact h
    have m1 : 1 ≤ gm := okg.s1
    have pg : PlaceAt CP H gp (((gk : Nat) : Int), gi, 1) := by
      have z : low (mPl (mf (gk, gi, gm))) = (((gk : Nat) : Int), gi, 1) := low_one _ _
      rw [← z]
      exact pg
    have peg : PlE fs 1 (((gk : Nat) : Int), gi, 1) gk gi := ⟨rfl, ⟨1, by decide, by show (1 : Int) = 1 * 1; decide, by show gi = gi * 1; rw [Int.mul_one]⟩, og, Int.le_refl 1, low_one _ _⟩
    obtain ⟨k1, i1, pe1, n1⟩ := key_ple T TG.n2 (show (1 : Int) ≤ 1 by decide) (geo.on_ 0 (Nat.zero_le _))
    obtain ⟨k2, i2, pe2, n2⟩ := key_ple T TG.n2 (show (1 : Int) ≤ 1 by decide) (geo.on_ c (Nat.le_refl _))
    have d1 : Dn fs (xs 0) (node fs 1 gk gi) = hP fs 1 gk gi k1 i1 := by rw [← n1, Dn_hP T TG.n2 pe1.on og]
    have d2 : Dn fs (xs c) (node fs 1 gk gi) = hP fs 1 gk gi k2 i2 := by rw [← n2, Dn_hP T TG.n2 pe2.on og]
    have st_g := stF_g st
    -- size, ahead, behind
    refine ⟨_, rfl, p, CS, dx, _, _, rfl, ex, TS.cl, TS.nG, stF_g st, _, rfl, p, CS, dx, _, _, rfl, ex, TS.cl, TS.nL, stF_l st, _, _, rfl, rfl, ?_⟩
    show tSeq _ _ _ [some (.ref x), some (.ref p), some (.ref q), some (.int (st.2.2.1 - st.2.1)), none, none, none, none, none, none, none, none] _
    rw [hsz]
    refine ⟨_, rfl, _, rfl, p, CS, dx, _, _, rfl, ex, TS.cl, TS.nF, stF_f st, _, rfl, q, CM, dm, _, _, rfl, em, TM.cl, TM.nG, maF_g _ _, x, _, gp, n, ps, fs, _, _, k1, gk, i1, gi, rfl, TA, TG, P1, pg, pe1, peg, fun H1 s1 => ?_⟩
    refine ⟨_, rfl, _, rfl, p, CS, dx, _, _, rfl, s1 _ _ ex, TS.cl, TS.nA, stF_a st, _, rfl, q, CM, dm, _, _, rfl, s1 _ _ em, TM.cl, TM.nG, maF_g _ _, x, _, gp, n, ps, fs, _, _, k2, gk, i2, gi, rfl, TA.same s1, TG, P2.same s1, pg.same s1, pe2, peg, fun H2 s2 => ?_⟩
    have s12 := s1.trans s2
    obtain ⟨a, ha, ea, parts⟩ := Geo.march T TG.n2 geo og (show (0 : Int) ≤ gm by omega) go
    rw [d1, d2] at ea parts
    have hA : 0 ≤ hP fs 1 gk gi k1 i1 := total_nn _
    have hB : 0 ≤ hP fs 1 gk gi k2 i2 := total_nn _
    generalize hP fs 1 gk gi k1 i1 = A0 at ea parts hA ⊢
    generalize hP fs 1 gk gi k2 i2 = B0 at ea parts hB ⊢
    have ex2 := s12 _ _ ex
    have em2 := s12 _ _ em
    have TA2 := TA.same s12
    have P12 := P1.same s12
    have P22 := P2.same s12
    have pg2 := pg.same s12
    clear ex em TA P1 P2 pg s1 s2
    show tSeq _ _ _ [some (.ref x), some (.ref p), some (.ref q), some (.int (c : Nat)), some (.int A0), some (.int B0), none, none, none, none, none, none] _
    -- turn
    refine ⟨_, rfl, _, rfl, _, _, rfl, rfl, _, rfl, _, _, rfl, rfl, _, _, rfl, rfl, ⟨by decide, by decide⟩, ?_⟩
    have et : ((c : Int) + A0 - B0) / 2 = (a : Int) := by omega
    show tSeq _ _ _ [some (.ref x), some (.ref p), some (.ref q), some (.int (c : Nat)), some (.int A0), some (.int B0), some (.int (((c : Int) + A0 - B0) / 2)), none, none, none, none, none] _
    rw [et]
    -- low
    obtain ⟨lo, hlo⟩ : ∃ lo : Nat, (if (if A0 - gm > 0 then A0 - gm else 0) < (a : Int) then (if A0 - gm > 0 then A0 - gm else 0) else (a : Int)) = (lo : Int) := ⟨((if (if A0 - gm > 0 then A0 - gm else 0) < (a : Int) then (if A0 - gm > 0 then A0 - gm else 0) else (a : Int))).toNat, by rw [Int.toNat_of_nonneg]; split <;> split <;> omega⟩
    refine ⟨_, rfl, _, rfl, _, rfl, q, CM, dm, _, _, rfl, em2, TM.cl, TM.nS, maF_s _ _, _, _, rfl, rfl, _, _, rfl, _, _, rfl, ?_⟩
    show tSeq _ _ _ [some (.ref x), some (.ref p), some (.ref q), some (.int (c : Nat)), some (.int A0), some (.int B0), some (.int (a : Nat)), some (.int (if (if A0 - gm > 0 then A0 - gm else 0) < (a : Int) then (if A0 - gm > 0 then A0 - gm else 0) else (a : Int))), none, none, none, none] _
    rw [hlo]
    -- high
    obtain ⟨hi, hhi⟩ : ∃ hi : Nat, (if (if (c : Int) - B0 + gm < (c : Int) then (c : Int) - B0 + gm else (c : Int)) > (a : Int) then (if (c : Int) - B0 + gm < (c : Int) then (c : Int) - B0 + gm else (c : Int)) else (a : Int)) = (hi : Int) := ⟨((if (if (c : Int) - B0 + gm < (c : Int) then (c : Int) - B0 + gm else (c : Int)) > (a : Int) then (if (c : Int) - B0 + gm < (c : Int) then (c : Int) - B0 + gm else (c : Int)) else (a : Int))).toNat, by rw [Int.toNat_of_nonneg]; split <;> split <;> omega⟩
    refine ⟨_, rfl, _, rfl, _, rfl, _, rfl, _, _, rfl, rfl, _, rfl, q, CM, dm, _, _, rfl, em2, TM.cl, TM.nS, maF_s _ _, _, _, rfl, rfl, _, _, rfl, _, _, rfl, ?_⟩
    show tSeq _ _ _ [some (.ref x), some (.ref p), some (.ref q), some (.int (c : Nat)), some (.int A0), some (.int B0), some (.int (a : Nat)), some (.int (lo : Nat)), some (.int (if (if (c : Int) - B0 + gm < (c : Int) then (c : Int) - B0 + gm else (c : Int)) > (a : Int) then (if (c : Int) - B0 + gm < (c : Int) then (c : Int) - B0 + gm else (c : Int)) else (a : Int))), none, none, none] _
    rw [hhi]
    have la : lo ≤ a := by split at hlo <;> split at hlo <;> omega
    have l2 : lo = 0 ∨ (lo : Int) + gm ≤ A0 := by split at hlo <;> split at hlo <;> omega
    have l3 : lo = a ∨ A0 - gm ≤ (lo : Int) := by split at hlo <;> split at hlo <;> omega
    have ah : a ≤ hi := by split at hhi <;> split at hhi <;> omega
    have hc : hi ≤ c := by split at hhi <;> split at hhi <;> omega
    have h3 : hi = c ∨ (c : Int) - hi + gm ≤ B0 := by split at hhi <;> split at hhi <;> omega
    have h4 : hi = a ∨ B0 - gm ≤ (c : Int) - hi := by split at hhi <;> split at hhi <;> omega
    obtain ⟨g1, g2, g3, u1, u2⟩ := parts lo hi la ah hc l2 l3 h3 h4
    clear parts hlo hhi
    -- from_first
    refine ⟨_, rfl, two, fun pt hpt => ?_⟩
    have s3 := Same.new (o := .tup [.int 0, .int (lo : Nat)]) hpt
    have ept : upd H2 pt (.tup [.int 0, .int (lo : Nat)]) pt = some (.tup [.int 0, .int (lo : Nat)]) := upd_same
    generalize upd H2 pt (.tup [.int 0, .int (lo : Nat)]) = H3 at s3 ept ⊢
    have step : ∀ {G : Hp} {pa : Addr} {u : Nd} {kk : Nat} {ii d : Int} {Q : VK}, Same H2 G → PlaceAt CP G pa (keyF fs 1 u) → PlE fs 1 (keyF fs 1 u) kk ii → node fs 1 kk ii = u → 0 ≤ d → (∀ t G' v, Same G G' → Go fs 1 gk gi d u v → PlaceAt CP G' t (keyF fs 1 v) → Q (.ref t) G') → spStep K CT CR CP CB CNR COR [.ref x, .ref pa, .ref gp, .int d] G Q L2.E0 := fun {G pa u kk ii d Q} sG pl pe en d0 fin => by
      refine step_1 (TA2.same sG) TG pl (pg2.same sG) pe peg d0 fun t G' v s gv pv => fin t G' v s ?_ pv
      rw [← en]
      exact gv
    have fin : ∀ {G G' : Hp} {D pw b : Addr} {ls : List Addr} {L : List (Nat × Nd)} {t : Nat}, G D = some (.lst (ls.map V.ref)) → Paired (MkAt CP fs G) ls L → Same G G' → G' pw = none → PlaceAt CP G' b (keyF fs 1 (f t)) →
        Paired (MkAt CP fs (upd (upd G' pw (.tup [.int (t : Nat), .ref b])) D (.lst (ls.map V.ref ++ [.ref pw])))) (ls ++ [pw]) (L ++ [(t, f t)]) ∧ upd G' pw (.tup [.int (t : Nat), .ref b]) D = some (.lst (ls.map V.ref)) := fun {G G' D pw b ls L t} gD pl s hpw pb => by
      have s' := Same.new (o := .tup [.int (t : Nat), .ref b]) hpw
      have gD' := s' _ _ (s _ _ gD)
      have kput : Kp (upd G' pw (.tup [.int (t : Nat), .ref b])) (upd (upd G' pw (.tup [.int (t : Nat), .ref b])) D (.lst (ls.map V.ref ++ [.ref pw]))) := .put gD'
      have mk : MkAt CP fs (upd G' pw (.tup [.int (t : Nat), .ref b])) pw (t, f t) := ⟨b, upd_same, pb.same s'⟩
      exact ⟨paired_app (Paired.mapP pl fun _ _ h => ((h.same s).same s').kp kput) (.cons (mk.kp kput) .nil), gD'⟩
    refine ⟨pt, rfl, ⟨_, SqT.of ept⟩, fun D hD => lc_tup (K := K) (a := pt) (xs := [.int 0, .int (lo : Nat)]) (fun i Gc => ∃ ls : List Addr, Gc D = some (.lst (ls.map V.ref)) ∧ Same H3 Gc ∧ Paired (MkAt CP fs Gc) ls ([(0, f 0), (lo, f lo)].take i) ∧ ls.length = i)
      ⟨[], upd_same, Same.new hD, .nil, rfl⟩ (fun i Gc _ ⟨_, _, sc, _⟩ => SqT.of (sc _ _ ept)) ?_ ?_⟩
    · rintro i x' Gc hi' ⟨ls, gD, sc, pls, ll⟩
      have hil : i < 2 := (List.getElem?_eq_some_iff.mp hi').1
      obtain ⟨t, rfl, hz, tl⟩ : ∃ t : Nat, x' = .int (t : Nat) ∧ [(0, f 0), (lo, f lo)][i]? = some (t, f t) ∧ t ≤ lo := by
        have hc' : i = 0 ∨ i = 1 := by omega
        rcases hc' with rfl | rfl
        · cases hi'
          exact ⟨0, rfl, rfl, Nat.zero_le _⟩
        · cases hi'
          exact ⟨lo, rfl, rfl, Nat.le_refl _⟩
      have s2c := s3.trans sc
      refine ⟨rfl, ?_⟩
      unfold tYes
      refine iteT ⟨_, rfl, _, rfl, _, rfl, p, CS, dx, _, _, rfl, s2c _ _ ex2, TS.cl, TS.nF, stF_f st, _, rfl, q, CM, dm, _, _, rfl, s2c _ _ em2, TM.cl, TM.nG, maF_g _ _, _, rfl, _, rfl, q, CM, dm, _, _, rfl, s2c _ _ em2, TM.cl, TM.nS, maF_s _ _, _, _, rfl, rfl, tn ?_⟩
      show spStep K CT CR CP CB CNR COR [V.ref x, V.ref st.2.2.2.1, V.ref gp, V.int ((t : Nat) + gm)] Gc _ _
      refine step s2c (P12.same s2c) pe1 n1 (by omega) fun tt G' v s gv pv => ⟨two, fun pw hpw => ?_⟩
      have ev := u1 t v tl gv
      subst ev
      obtain ⟨f1, f2⟩ := fin gD pls s hpw pv
      refine ⟨ls.map V.ref, f2, small1000 (by rw [List.length_map, ll]; omega), ls ++ [pw], by rw [List.map_append]; exact upd_same, fun b o e => ?_, by rw [take_get hz]; exact f1, by rw [List.length_append, ll]; rfl⟩
      rw [upd_ne (ne_of_none e hD)]
      exact Same.new hpw _ _ (s _ _ (sc b o e))
    · rintro H4 ⟨ls, gD, s4, pls, ll⟩
      have pls : Paired (MkAt CP fs H4) ls [(0, f 0), (lo, f lo)] := pls
      have s24 := s3.trans s4
      dsimp only [gName]
      -- from_last
      refine ⟨_, rfl, _, rfl, two, fun pu hpu => ?_⟩
      have s5 := Same.new (o := .tup [.int (hi : Nat), .int (c : Nat)]) hpu
      have epu : upd H4 pu (.tup [.int (hi : Nat), .int (c : Nat)]) pu = some (.tup [.int (hi : Nat), .int (c : Nat)]) := upd_same
      have gD5 := s5 _ _ gD
      have pls5 := Paired.mapP pls fun _ _ h => h.same s5
      have s25 := s24.trans s5
      clear gD pls s5 s24 hpu
      generalize upd H4 pu (.tup [.int (hi : Nat), .int (c : Nat)]) = H5 at epu gD5 pls5 s25 ⊢
      refine ⟨pu, rfl, ⟨_, SqT.of epu⟩, fun D2 hD2 => lc_tup (K := K) (a := pu) (xs := [.int (hi : Nat), .int (c : Nat)]) (fun i Gc => ∃ ls2 : List Addr, Gc D2 = some (.lst (ls2.map V.ref)) ∧ Same H5 Gc ∧ Paired (MkAt CP fs Gc) ls2 ([(hi, f hi), (c, f c)].take i) ∧ ls2.length = i)
        ⟨[], upd_same, Same.new hD2, .nil, rfl⟩ (fun i Gc _ ⟨_, _, sc, _⟩ => SqT.of (sc _ _ epu)) ?_ ?_⟩
      · rintro i x' Gc hi' ⟨ls2, gD2, sc, pls2, ll2⟩
        have hil : i < 2 := (List.getElem?_eq_some_iff.mp hi').1
        obtain ⟨t, rfl, hz, tl1, tl2⟩ : ∃ t : Nat, x' = .int (t : Nat) ∧ [(hi, f hi), (c, f c)][i]? = some (t, f t) ∧ hi ≤ t ∧ t ≤ c := by
          have hc' : i = 0 ∨ i = 1 := by omega
          rcases hc' with rfl | rfl
          · cases hi'
            exact ⟨hi, rfl, rfl, Nat.le_refl _, hc⟩
          · cases hi'
            exact ⟨c, rfl, rfl, hc, Nat.le_refl _⟩
        have s2c := s25.trans sc
        refine ⟨rfl, ?_⟩
        unfold tYes
        refine iteT ⟨_, rfl, _, rfl, _, rfl, p, CS, dx, _, _, rfl, s2c _ _ ex2, TS.cl, TS.nA, stF_a st, _, rfl, q, CM, dm, _, _, rfl, s2c _ _ em2, TM.cl, TM.nG, maF_g _ _, _, rfl, _, rfl, _, _, rfl, rfl, _, rfl, q, CM, dm, _, _, rfl, s2c _ _ em2, TM.cl, TM.nS, maF_s _ _, _, _, rfl, rfl, tn ?_⟩
        show spStep K CT CR CP CB CNR COR [V.ref x, V.ref st.2.2.2.2, V.ref gp, V.int ((c : Nat) - (t : Nat) + gm)] Gc _ _
        refine step s2c (P22.same s2c) pe2 n2 (by omega) fun tt G' v s gv pv => ⟨two, fun pw hpw => ?_⟩
        have ec : ((c : Int) - (t : Int)) = ((c - t : Nat) : Int) := by omega
        rw [ec] at gv
        have ev := u2 t v tl1 tl2 gv
        subst ev
        obtain ⟨f1, f2⟩ := fin gD2 pls2 s hpw pv
        refine ⟨ls2.map V.ref, f2, small1000 (by rw [List.length_map, ll2]; omega), ls2 ++ [pw], by rw [List.map_append]; exact upd_same, fun b o e => ?_, by rw [take_get hz]; exact f1, by rw [List.length_append, ll2]; rfl⟩
        rw [upd_ne (ne_of_none e hD2)]
        exact Same.new hpw _ _ (s _ _ (sc b o e))
      · rintro H6 ⟨ls2, gD2, s6, pls2, ll2⟩
        have pls2 : Paired (MkAt CP fs H6) ls2 [(hi, f hi), (c, f c)] := pls2
        dsimp only [gName]
        refine ⟨_, rfl, _, rfl, D, D2, ls.map V.ref, ls2.map V.ref, rfl, rfl, SqL.of (s6 _ _ gD5), SqL.of gD2, by rw [List.length_map, List.length_map, ll, ll2, PySem.sizeLine_eq]; show 2 + 2 ≤ _; omega, fun pr hpr => ?_⟩
        have s7 := Same.new (o := .lst (ls.map V.ref ++ ls2.map V.ref)) hpr
        exact kont pr (ls ++ ls2) _ lo hi ((s12.trans s25).trans (s6.trans s7)) (by omega) hc g1 g2 g3 (by rw [List.map_append]; exact upd_same) (paired_app (Paired.mapP pls5 fun _ _ h => (h.same s6).same s7) (Paired.mapP pls2 fun _ _ h => h.same s7))
end
end OT
set_option Elab.async false
set_option linter.all false
set_option maxRecDepth 100000
set_option maxHeartbeats 4000000
namespace OT
open PySem L2 OTR
/-- from s to e all is led to one position, or onto a path -/
def Pw (F : List Fact) (f : Nat → Nd) (s e : Nat) : Prop := (∀ t, s ≤ t → t ≤ e → f t = f s) ∨ Geo F (e - s) (fun t => f (s + t))
/-- at p the stretch of the road k from s to e, where f tells where each position is led -/
def SpAt (CS CP : Addr) (F : List Fact) (H : Hp) (k : Nat) (f : Nat → Nd) (p : Addr) (z : Nat × Nat) : Prop := ∃ a b, StAt CS H p (((k : Nat) : Int), ((z.1 : Nat) : Int), ((z.2 : Nat) : Int), a, b) ∧ PlaceAt CP H a (keyF F 1 (f z.1)) ∧ PlaceAt CP H b (keyF F 1 (f z.2))
theorem SpAt.kp {CS CP : Addr} {F : List Fact} {H H' : Hp} {k : Nat} {f : Nat → Nd} {p : Addr} {z : Nat × Nat} (h : SpAt CS CP F H k f p z) (kp : Kp H H') : SpAt CS CP F H' k f p z := let ⟨a, b, h1, h2, h3⟩ := h; ⟨a, b, h1.kp kp, h2.kp kp, h3.kp kp⟩
theorem SpAt.same {CS CP : Addr} {F : List Fact} {H H' : Hp} {k : Nat} {f : Nat → Nd} {p : Addr} {z : Nat × Nat} (h : SpAt CS CP F H k f p z) (kp : Same H H') : SpAt CS CP F H' k f p z := h.kp (.of kp)
/-- one behind the other from s to e -/
def Cov : Nat → Nat → List (Nat × Nat) → Prop
  | s, e, [] => s = e
  | s, e, z :: L => z.1 = s ∧ s < z.2 ∧ Cov z.2 e L
theorem Cov.snoc {e e' : Nat} : ∀ {L : List (Nat × Nat)} {s : Nat}, Cov s e L → e < e' → Cov s e' (L ++ [(e, e')])
  | [], s, h, l => by
    cases (show s = e from h)
    exact ⟨rfl, l, rfl⟩
  | z :: L, s, ⟨h1, h2, h3⟩, l => ⟨h1, h2, h3.snoc l⟩
theorem Cov.append {e e' : Nat} {M : List (Nat × Nat)} : ∀ {L : List (Nat × Nat)} {s : Nat}, Cov s e L → Cov e e' M → Cov s e' (L ++ M)
  | [], s, h, k => by
    cases (show s = e from h)
    exact k
  | z :: L, s, ⟨h1, h2, h3⟩, k => ⟨h1, h2, h3.append k⟩
theorem Cov.le {e : Nat} : ∀ {L : List (Nat × Nat)} {s : Nat}, Cov s e L → s ≤ e ∧ L.length ≤ e - s
  | [], s, h => by
    cases (show s = e from h)
    exact ⟨Nat.le_refl _, Nat.zero_le _⟩
  | z :: L, s, ⟨h1, h2, h3⟩ => by
    obtain ⟨a, b⟩ := h3.le
    refine ⟨by omega, ?_⟩
    rw [List.length_cons]
    omega
theorem key_inj {n : Int} {F : List Fact} (T : TreeM n F) (n2 : 2 ≤ n) {u v : Nd} (ou : OnT F 1 u) (ov : OnT F 1 v) (e : keyF F 1 u = keyF F 1 v) : u = v := by
  obtain ⟨k1, i1, p1, n1⟩ := key_ple T n2 (show (1 : Int) ≤ 1 by decide) ou
  obtain ⟨k2, i2, p2, n2'⟩ := key_ple T n2 (show (1 : Int) ≤ 1 by decide) ov
  rw [← n1, ← n2']
  obtain ⟨d1, _, a1, b1⟩ := p1.d
  obtain ⟨d2, _, a2, b2⟩ := p2.d
  have r1 := p1.rd
  have r2 := p2.rd
  rw [e] at a1 b1 r1
  have ek : k1 = k2 := by omega
  have ed : d1 = d2 := by
    have hz : (keyF F 1 v).2.2 ≠ 0 := by have := p2.p1; omega
    exact Int.eq_of_mul_eq_mul_left hz (a1.symm.trans a2)
  rw [ek, b1, b2, ed]
end OT
set_option Elab.async false
set_option linter.all false
set_option maxRecDepth 100000
set_option maxHeartbeats 4000000
namespace OT
open PySem L2 OTR
abbrev sIsOne : Stmt := top 49
def spIsOne (K : PySem.W.Frag) (CT CR CP CS : Addr) : Sp := fun vs H Q _ => ∃ (x p1 p2 : Addr) (n : Int) (ps : List Addr) (F : List Fact) (k1 k2 s1 e1 s2 e2 : Nat) (f1 f2 : Nat → Nd), vs = [.ref x, .ref p1, .ref p2] ∧ TreeAt K CT CR H x n ps F ∧ TreeG n F ∧ SpAt CS CP F H k1 f1 p1 (s1, e1) ∧ SpAt CS CP F H k2 f2 p2 (s2, e2) ∧ OnT F 1 (f1 s1) ∧ OnT F 1 (f1 e1) ∧ OnT F 1 (f2 s2) ∧ OnT F 1 (f2 e2) ∧
  ∀ H' (c : Bool), Same H H' → (c = true ↔ k1 = k2 ∧ (f1 s1 = f1 e1 ↔ f2 s2 = f2 e2) ∧ (f1 s1 = f1 e1 ∨ Dn F (f1 s1) (f2 e2) = (e2 : Int) - (s1 : Int))) → Q (.bl c) H'
section
variable {P : Program} {w : World} {K : PySem.W.Frag} {mg : Str → Option Value} {base : Heap}
abbrev nIsOne : List Str := ["tree", "one", "other"]
theorem scIsOne : FnScope nIsOne ["tree", "one", "other"] (defScope sIsOne) := ⟨rfl, rfl, rfl, by decide +kernel, rfl, by decide +kernel, by decide +kernel⟩
theorem ok_isOne {f0 fGA fSB CT CR CP CS : Addr} {fd fdGA fdSB : FuncData} (F0 : Fun K "is_one" "is_one" sIsOne f0 fd) (TS : StT K mg CS)
    (FGA : FnOk P w K mg base CX0 2 fGA fdGA ["stretch"] (spGath CS CP)) (bGA : Binds K fdGA ["stretch"] []) (mGA : mg "is_gathered" = some (.ref fGA)) (kGA : PySem.W.keepIn K (.ref fGA) = true)
    (FSB : FnOk P w K mg base CX0 5 fSB fdSB ["tree", "one", "other"] (spStepsB K CT CR CP)) (bSB : Binds K fdSB ["tree", "one", "other"] []) (mSB : mg "steps_between" = some (.ref fSB)) (kSB : PySem.W.keepIn K (.ref fSB) = true) : FnOk P w K mg base CX0 6 f0 fd ["tree", "one", "other"] (spIsOne K CT CR CP CS) := by
  refine F0.ok scIsOne (fun vs H Q E h => ?_) (fun cdv A outer s0 H vs Q E hr h => ?_)
  · obtain ⟨x, p1, p2, n, ps, fs, k1, k2, s1, e1, s2, e2, f1, f2, rfl, _⟩ := h
    rfl
  · obtain ⟨x, p1, p2, n, ps, fs, k1, k2, s1, e1, s2, e2, f1, f2, rfl, TA, TG, ⟨a1, b1, ⟨d1, x1⟩, A1, B1⟩, ⟨a2, b2, ⟨d2, x2⟩, A2, B2⟩, o1, o2, o3, o4, kont⟩ := h
    have T := TG.m
    have hr2 : Room 2 _ := hr.mono (by decide)
    refine ⟨_, pss_cons (ps_if (PW.pt (pw_or (pt_cmpR op_ne (pe_fld (pv 1) rfl) (pe_fld (pv 2) rfl) (nomark _)) (pw_or1 (pt_cmpR op_ne (pe_call FGA hr2 rfl mGA kGA bGA .nil pass0 (pa_cons (pv 1) pa_nil)) (pe_call FGA hr2 rfl mGA kGA bGA .nil pass0 (pa_cons (pv 2) pa_nil)) (nomark _)))))
        (pss_one (ps_ret pe_bl))
        pss_nil)
      (pss_one (ps_ret (pe_or (pe_call FGA hr2 rfl mGA kGA bGA .nil pass0 (pa_cons (pv 1) pa_nil)) (pe_one (pe_cmpR op_eq (pe_call FSB hr rfl mSB kSB bSB .nil pass0 (pa_cons (pv 0) (pa_cons (pe_fld (pv 1) rfl) (pa_cons (pe_fld (pv 2) rfl) pa_nil)))) (pe_op op_sub (pe_fld (pv 2) rfl) (pe_fld (pv 1) rfl)) (nomark _)))))), ?_⟩
    have d1e : decide (keyF fs 1 (f1 s1) = keyF fs 1 (f1 e1)) = decide (f1 s1 = f1 e1) := by
      rw [decide_eq_decide]
      exact ⟨fun z => key_inj T TG.n2 o1 o2 z, fun z => by rw [z]⟩
    have d2e : decide (keyF fs 1 (f2 s2) = keyF fs 1 (f2 e2)) = decide (f2 s2 = f2 e2) := by
      rw [decide_eq_decide]
      exact ⟨fun z => key_inj T TG.n2 o3 o4 z, fun z => by rw [z]⟩
    refine ⟨_, rfl, p1, CS, d1, _, _, rfl, x1, TS.cl, TS.nR, stF_r _, _, rfl, p2, CS, d2, _, _, rfl, x2, TS.cl, TS.nR, stF_r _, rfl, _, rfl, ?_⟩
    by_cases ek : k1 = k2
    · subst ek
      rw [show (!decide (V.int ((k1 : Nat) : Int) = V.int ((k1 : Nat) : Int))) = false by rw [decide_eq_true rfl]; rfl]
      refine iteF ⟨_, rfl, p1, _, _, _, rfl, ⟨d1, x1⟩, A1, B1, _, rfl, p2, _, _, _, rfl, ⟨d2, x2⟩, A2, B2, rfl, _, rfl, ?_⟩
      show if (!decide (V.bl (decide (keyF fs 1 (f1 s1) = keyF fs 1 (f1 e1))) = V.bl (decide (keyF fs 1 (f2 s2) = keyF fs 1 (f2 e2))))) = true then _ else _
      rw [d1e, d2e]
      by_cases same : (f1 s1 = f1 e1 ↔ f2 s2 = f2 e2)
      · have hb : decide (f1 s1 = f1 e1) = decide (f2 s2 = f2 e2) := by rw [decide_eq_decide]; exact same
        rw [hb, decide_eq_true (rfl : V.bl (decide (f2 s2 = f2 e2)) = V.bl (decide (f2 s2 = f2 e2)))]
        refine iteF ⟨_, rfl, p1, _, _, _, rfl, ⟨d1, x1⟩, A1, B1, _, rfl, ?_⟩
        show if decide (keyF fs 1 (f1 s1) = keyF fs 1 (f1 e1)) = true then _ else _
        rw [d1e]
        by_cases c1 : f1 s1 = f1 e1
        · rw [decide_eq_true c1]
          exact iteT (kont H true (Same.refl H) ⟨fun _ => ⟨rfl, same, .inl c1⟩, fun _ => rfl⟩)
        · rw [decide_eq_false c1]
          obtain ⟨ka, ia, pa, na⟩ := key_ple T TG.n2 (show (1 : Int) ≤ 1 by decide) o1
          obtain ⟨kb, ib, pb, nb⟩ := key_ple T TG.n2 (show (1 : Int) ≤ 1 by decide) o4
          refine iteF ⟨_, rfl, _, rfl, p1, CS, d1, _, _, rfl, x1, TS.cl, TS.nF, stF_f _, _, rfl, p2, CS, d2, _, _, rfl, x2, TS.cl, TS.nA, stF_a _, x, a1, b2, n, ps, fs, _, _, ka, kb, ia, ib, rfl, TA, TG, A1, B2, pa, pb, fun H1 sH => ?_⟩
          refine ⟨_, rfl, p2, CS, d2, _, _, rfl, sH _ _ x2, TS.cl, TS.nG, stF_g _, _, rfl, p1, CS, d1, _, _, rfl, sH _ _ x1, TS.cl, TS.nL, stF_l _, _, _, rfl, rfl, rfl, ?_⟩
          have eD : Dn fs (f1 s1) (f2 e2) = hP fs 1 kb ib ka ia := by rw [← na, ← nb, Dn_hP T TG.n2 pa.on pb.on]
          refine kont H1 _ sH ⟨fun z => ⟨rfl, same, .inr ?_⟩, fun z => ?_⟩
          · rw [eD]
            exact V.int.inj (of_decide_eq_true z)
          · refine decide_eq_true (congrArg V.int ?_)
            rw [← eD]
            exact z.2.2.resolve_left c1
      · have hb : ¬ (V.bl (decide (f1 s1 = f1 e1)) = V.bl (decide (f2 s2 = f2 e2))) := fun z => same (decide_eq_decide.mp (V.bl.inj z))
        rw [decide_eq_false hb]
        exact iteT (kont H false (Same.refl H) ⟨fun z => (by cases z), fun z => absurd z.2.1 same⟩)
    · have hne : ¬ (V.int ((k1 : Nat) : Int) = V.int ((k2 : Nat) : Int)) := fun z => ek (by have := V.int.inj z; omega)
      rw [show (!decide (V.int ((k1 : Nat) : Int) = V.int ((k2 : Nat) : Int))) = true by rw [decide_eq_false hne]; rfl]
      exact iteT (kont H false (Same.refl H) ⟨fun z => (by cases z), fun z => absurd z.1 ek⟩)
end
end OT
set_option Elab.async false
set_option linter.all false
set_option maxRecDepth 100000
set_option maxHeartbeats 1000000
namespace OT
section
variable {n : Int} {F : List Fact} (T : TreeM n F) (n2 : 2 ≤ n)
include T n2
theorem Pw.geo {f : Nat → Nd} {s e : Nat} (h : Pw F f s e) (se : s ≤ e) (ne : f s ≠ f e) : Geo F (e - s) (fun t => f (s + t)) := by
  rcases h with h | h
  · exact absurd (h e se (Nat.le_refl _)).symm ne
  · exact h
theorem Pw.gat {f : Nat → Nd} {s e : Nat} (h : Pw F f s e) (se : s < e) (oe : OnT F 1 (f e)) (eq : f s = f e) : ∀ t, s ≤ t → t ≤ e → f t = f s := by
  rcases h with h | h
  · exact h
  · exfalso
    have h1 := h.far
    rw [show s + 0 = s from rfl, show s + (e - s) = e by omega, eq, Dn_self T n2 oe] at h1
    omega
theorem Geo.ne {f : Nat → Nd} {s e : Nat} (h : Geo F (e - s) (fun t => f (s + t))) (se : s < e) (oe : OnT F 1 (f e)) : f s ≠ f e := fun eq => by
  have h1 := h.far
  rw [show s + 0 = s from rfl, show s + (e - s) = e by omega, eq, Dn_self T n2 oe] at h1
  omega
/-- two stretches behind each other are one just if they say so -/
theorem pw_join {f : Nat → Nd} {s m e : Nat} (sm : s < m) (me : m < e) (on_ : ∀ t, s ≤ t → t ≤ e → OnT F 1 (f t)) (p1 : Pw F f s m) (p2 : Pw F f m e) : ((f s = f m ↔ f m = f e) ∧ (f s = f m ∨ Dn F (f s) (f e) = (e : Int) - (s : Int))) ↔ Pw F f s e := by
  have os := on_ s (Nat.le_refl _) (by omega)
  have om := on_ m (by omega) (by omega)
  have oe := on_ e (by omega) (Nat.le_refl _)
  constructor
  · rintro ⟨iff, h⟩
    by_cases c : f s = f m
    · have a1 := p1.gat T n2 sm om c
      have a2 := p2.gat T n2 me oe (iff.mp c)
      refine .inl fun t t1 t2 => ?_
      by_cases q : t ≤ m
      · exact a1 t t1 q
      · rw [a2 t (by omega) t2, c]
    · have g1 := p1.geo T n2 (by omega) c
      have g2 := p2.geo T n2 (by omega) fun z => c (iff.mpr z)
      refine .inr ⟨fun t ht => ?_, fun t ht => on_ (s + t) (by omega) (by omega), ?_⟩
      · by_cases q : t < m - s
        · exact g1.ch t q
        · have := g2.ch (t - (m - s)) (by omega)
          rw [show m + (t - (m - s)) = s + t by omega, show m + (t - (m - s) + 1) = s + (t + 1) by omega] at this
          exact this
      · show Dn F (f (s + 0)) (f (s + (e - s))) = ((e - s : Nat) : Int)
        rw [Nat.add_zero, show s + (e - s) = e by omega, h.resolve_left c]
        omega
  · intro h
    rcases h with h | h
    · have e1 := h m (by omega) (by omega)
      have e2 := h e (by omega) (Nat.le_refl _)
      exact ⟨⟨fun _ => by rw [e1, e2], fun _ => e1.symm⟩, .inl e1.symm⟩
    · have g1 : Geo F (m - s) (fun t => f (s + t)) := by
        have := h.sub T n2 (a := 0) (b := m - s) (by omega)
        simp only [Nat.zero_add] at this
        exact this
      have g2 : Geo F (e - m) (fun t => f (m + t)) := by
        have := h.sub T n2 (a := m - s) (b := e - m) (by omega)
        have e' : (fun t => f (s + (m - s + t))) = fun t => f (m + t) := funext fun t => by rw [show s + (m - s + t) = m + t by omega]
        rw [e'] at this
        exact this
      refine ⟨⟨fun z => absurd z (Geo.ne T n2 g1 sm om), fun z => absurd z (Geo.ne T n2 g2 me oe)⟩, .inr ?_⟩
      have hf := h.far
      rw [Nat.add_zero, show s + (e - s) = e by omega] at hf
      rw [hf]
      omega
end
end OT
set_option Elab.async false
set_option linter.all false
set_option maxRecDepth 100000
set_option maxHeartbeats 1000000
namespace OT
/-- a road, and from where to where on it -/
abbrev It := Nat × Nat × Nat
/-- where the next stretch begins -/
def nx (F : List Fact) (k e : Nat) : Nat × Nat := if (e : Int) = sz F 1 k then (k + 1, 0) else (k, e)
def CovS (F : List Fact) : Nat × Nat → Nat × Nat → List It → Prop
  | a, b, [] => a = b
  | a, b, z :: L => (z.1, z.2.1) = a ∧ z.2.1 < z.2.2 ∧ CovS F (nx F z.1 z.2.2) b L
theorem CovS.append {F : List Fact} {b c : Nat × Nat} {M : List It} : ∀ {L : List It} {a : Nat × Nat}, CovS F a b L → CovS F b c M → CovS F a c (L ++ M)
  | [], a, h, k => by
    cases (show a = b from h)
    exact k
  | z :: L, a, ⟨h1, h2, h3⟩, k => ⟨h1, h2, h3.append k⟩
theorem CovS.split {F : List Fact} {c : Nat × Nat} {M : List It} : ∀ {L : List It} {a : Nat × Nat}, CovS F a c (L ++ M) → ∃ b, CovS F a b L ∧ CovS F b c M
  | [], a, h => ⟨a, rfl, h⟩
  | z :: L, a, ⟨h1, h2, h3⟩ => by
    obtain ⟨b, x, y⟩ := CovS.split (L := L) h3
    exact ⟨b, ⟨h1, h2, x⟩, y⟩
theorem CovS.snoc {F : List Fact} {a b : Nat × Nat} {L : List It} {z : It} (h : CovS F a b L) (e : (z.1, z.2.1) = b) (lt : z.2.1 < z.2.2) : CovS F a (nx F z.1 z.2.2) (L ++ [z]) := h.append ⟨e, lt, rfl⟩
/-- a stretch that says what is so -/
structure ItOk (F : List Fact) (f : Nat → Nat → Nd) (z : It) : Prop where
  lt : z.2.1 < z.2.2
  pw : Pw F (f z.1) z.2.1 z.2.2
  on_ : ∀ t, z.2.1 ≤ t → t ≤ z.2.2 → OnT F 1 (f z.1 t)
structure JOk (F : List Fact) (f : Nat → Nat → Nd) (a b : Nat × Nat) (M : List It) : Prop where
  cov : CovS F a b M
  ok : ∀ z ∈ M, ItOk F f z
  max : ∀ i y z, M[i]? = some y → M[i + 1]? = some z → y.1 = z.1 → ¬ Pw F (f y.1) y.2.1 z.2.2
theorem jok_nil (F : List Fact) (f : Nat → Nat → Nd) (a : Nat × Nat) : JOk F f a a [] := ⟨rfl, fun z hz => (by cases hz), fun i y z h => (by simp at h)⟩
theorem Pw.pre {n : Int} {F : List Fact} (T : TreeM n F) (n2 : 2 ≤ n) {f : Nat → Nd} {s m e : Nat} (h : Pw F f s e) (sm : s ≤ m) (me : m ≤ e) : Pw F f s m := by
  rcases h with h | h
  · exact .inl fun t t1 t2 => h t t1 (by omega)
  · refine .inr ?_
    have := h.sub T n2 (a := 0) (b := m - s) (by omega)
    simp only [Nat.zero_add] at this
    exact this
theorem max_snoc {F : List Fact} {f : Nat → Nat → Nd} {M : List It} {z : It} (h : ∀ i y z, M[i]? = some y → M[i + 1]? = some z → y.1 = z.1 → ¬ Pw F (f y.1) y.2.1 z.2.2) (l : ∀ y, M.getLast? = some y → y.1 = z.1 → ¬ Pw F (f y.1) y.2.1 z.2.2) : ∀ i y w, (M ++ [z])[i]? = some y → (M ++ [z])[i + 1]? = some w → y.1 = w.1 → ¬ Pw F (f y.1) y.2.1 w.2.2 := fun i y w hy hw e => by
  have lw := (List.getElem?_eq_some_iff.mp hw).1
  rw [List.length_append] at lw
  have lw : i + 1 < M.length + 1 := lw
  rw [List.getElem?_append_left (by omega)] at hy
  by_cases q : i + 1 < M.length
  · rw [List.getElem?_append_left q] at hw
    exact h i y w hy hw e
  · have ei : i + 1 = M.length := by omega
    rw [ei, List.getElem?_append_right (Nat.le_refl _), Nat.sub_self] at hw
    cases hw
    refine l y ?_ e
    rw [List.getLast?_eq_getElem?, ← ei]
    exact hy
theorem JOk.push {F : List Fact} {f : Nat → Nat → Nd} {a b : Nat × Nat} {M : List It} {z : It} (h : JOk F f a b M) (oz : ItOk F f z) (e : (z.1, z.2.1) = b) (l : ∀ y, M.getLast? = some y → y.1 = z.1 → ¬ Pw F (f y.1) y.2.1 z.2.2) : JOk F f a (nx F z.1 z.2.2) (M ++ [z]) :=
  ⟨h.cov.snoc e oz.lt, fun y hy => (List.mem_append.mp hy).elim (h.ok y) fun q => by rw [List.mem_singleton.mp q]; exact oz, max_snoc h.max l⟩
theorem last_of {F : List Fact} {a b : Nat × Nat} {M : List It} {y : It} (h : CovS F a b (M ++ [y])) : ∃ c, CovS F a c M ∧ (y.1, y.2.1) = c ∧ y.2.1 < y.2.2 ∧ nx F y.1 y.2.2 = b := by
  obtain ⟨c, h1, h2, h3, h4⟩ := CovS.split h
  exact ⟨c, h1, h2, h3, h4⟩
/-- behind a stretch of the same road there is no gap -/
theorem nx_same {F : List Fact} {k e k' s : Nat} (h : nx F k e = (k', s)) (q : k = k') : e = s := by
  unfold nx at h
  split at h
  · have := (Prod.mk.inj h).1
    omega
  · exact (Prod.mk.inj h).2
theorem JOk.merge {n : Int} {F : List Fact} (T : TreeM n F) (n2 : 2 ≤ n) {f : Nat → Nat → Nd} {a b : Nat × Nat} {M : List It} {y z : It} (h : JOk F f a b (M ++ [y])) (oz : ItOk F f z) (e : (z.1, z.2.1) = b) (q : y.1 = z.1) (pw : Pw F (f y.1) y.2.1 z.2.2) : JOk F f a (nx F z.1 z.2.2) (M ++ [(y.1, y.2.1, z.2.2)]) := by
  obtain ⟨c, h1, h2, h3, h4⟩ := last_of h.cov
  have ee := nx_same (h4.trans e.symm) q
  have oy := h.ok y (List.mem_append_right _ (List.mem_singleton.mpr rfl))
  have lz := oz.lt
  have oM : ∀ w ∈ M, ItOk F f w := fun w hw => h.ok w (List.mem_append_left _ hw)
  have mM : ∀ i u w, M[i]? = some u → M[i + 1]? = some w → u.1 = w.1 → ¬ Pw F (f u.1) u.2.1 w.2.2 := fun i u w hu hw => h.max i u w (by rw [List.getElem?_append_left (List.getElem?_eq_some_iff.mp hu).1]; exact hu) (by rw [List.getElem?_append_left (List.getElem?_eq_some_iff.mp hw).1]; exact hw)
  have jM : JOk F f a c M := ⟨h1, oM, mM⟩
  have on' : ItOk F f (y.1, y.2.1, z.2.2) := ⟨by show y.2.1 < z.2.2; omega, pw, fun t t1 t2 => by
    by_cases tt : t ≤ y.2.2
    · exact oy.on_ t t1 tt
    · have := oz.on_ t (by omega) t2
      rw [← q] at this
      exact this⟩
  have r := jM.push (z := (y.1, y.2.1, z.2.2)) on' h2 fun w hw qw pz => by
    have li : M.length - 1 + 1 = M.length := by
      cases M with
      | nil => cases hw
      | cons _ _ => simp
    obtain ⟨M1, hM1⟩ := List.getLast?_eq_some_iff.mp hw
    have c1 : w.2.1 ≤ y.2.2 := by
      rw [hM1] at h1
      obtain ⟨_, _, _, lw, nw⟩ := last_of h1
      have qw' : w.1 = y.1 := qw
      have := nx_same (nw.trans h2.symm) qw'
      omega
    rw [List.getLast?_eq_getElem?] at hw
    refine h.max (M.length - 1) w y (by rw [List.getElem?_append_left (List.getElem?_eq_some_iff.mp hw).1]; exact hw) (by rw [li, List.getElem?_append_right (Nat.le_refl _), Nat.sub_self]; rfl) qw ?_
    exact Pw.pre T n2 pz c1 (by show y.2.2 ≤ z.2.2; omega)
  rw [← q]
  exact r
end OT
set_option Elab.async false
set_option linter.all false
set_option maxRecDepth 100000
set_option maxHeartbeats 4000000
namespace OT
open PySem L2 OTR
abbrev sJoinedP : Stmt := top 48
def SpL (CS CP : Addr) (F : List Fact) (f : Nat → Nat → Nd) (H : Hp) (p : Addr) (z : It) : Prop := SpAt CS CP F H z.1 (f z.1) p (z.2.1, z.2.2)
def spJoinedP (K : PySem.W.Frag) (CT CR CP CS : Addr) : Sp := fun vs H Q _ => ∃ (x l : Addr) (n : Int) (ps ts : List Addr) (F : List Fact) (f : Nat → Nat → Nd) (L : List It) (a b : Nat × Nat), vs = [.ref x, .ref l] ∧ TreeAt K CT CR H x n ps F ∧ TreeG n F ∧ H l = some (.lst (ts.map V.ref)) ∧ Paired (SpL CS CP F f H) ts L ∧ CovS F a b L ∧ (∀ z ∈ L, ItOk F f z) ∧ L.length ≤ 2000000 ∧
  ∀ D us M H', Same H H' → H D = none → H' D = some (.lst (us.map V.ref)) → Paired (SpL CS CP F f H') us M → JOk F f a b M → M.length ≤ L.length → Q (.ref D) H'
theorem isEmpty_app {α : Type} {a : List α} {x : α} {f : α → V} : (!(a.map f ++ [x].map f).isEmpty) = true := by cases a <;> rfl
theorem ix_lastQ (n : Nat) : ixN (n + 1) (-1) = some n := by
  unfold ixN
  rw [if_neg (by decide), if_pos (by omega)]
  exact congrArg some (by omega)
theorem at_lastQ (xs : List V) (x : V) : atI (xs ++ [x]) (-1) = some x := by
  unfold atI
  rw [List.length_append, show xs.length + [x].length = xs.length + 1 from rfl, ix_lastQ]
  simp
theorem paired_snocQ {α β : Type} {R : α → β → Prop} {b : β} : ∀ {bs : List β} {as : List α}, Paired R as (bs ++ [b]) → ∃ as0 a, as = as0 ++ [a] ∧ Paired R as0 bs ∧ R a b
  | [], _, .cons h .nil => ⟨[], _, rfl, .nil, h⟩
  | _ :: bs, _, .cons h k => by
    obtain ⟨as0, a, rfl, k0, r⟩ := paired_snocQ (bs := bs) k
    exact ⟨_ :: as0, a, rfl, .cons h k0, r⟩
section
variable {P : Program} {w : World} {K : PySem.W.Frag} {mg : Str → Option Value} {base : Heap}
abbrev nJoinedP : List Str := ["tree", "stretches", "found", "stretch", "start"]
theorem scJoinedP : FnScope nJoinedP ["tree", "stretches"] (defScope sJoinedP) := ⟨rfl, rfl, rfl, by decide +kernel, rfl, by decide +kernel, by decide +kernel⟩
theorem ok_joinedP {f0 fIO fSI CT CR CP CS : Addr} {fd fdIO fdSI : FuncData} (F0 : Fun K "joined" "joined" sJoinedP f0 fd) (TS : StT K mg CS)
    (FIO : FnOk P w K mg base CX0 6 fIO fdIO ["tree", "one", "other"] (spIsOne K CT CR CP CS)) (bIO : Binds K fdIO ["tree", "one", "other"] []) (mIO : mg "is_one_doings" = some (.ref fIO)) (kIO : PySem.W.keepIn K (.ref fIO) = true)
    (MSI : Mk K CS fSI) (FSI : FnOk P w K mg base CX0 1 fSI fdSI ["self", "road", "least", "greatest", "first", "last"] (spStretchI CS)) (bSI : Binds K fdSI ["self", "road", "least", "greatest", "first", "last"] []) : FnOk P w K mg base CX0 7 f0 fd ["tree", "stretches"] (spJoinedP K CT CR CP CS) := by
  refine F0.ok scJoinedP (fun vs H Q E h => ?_) (fun cdv A outer s0 H vs Q E hr h => ?_)
  · obtain ⟨x, l, n, ps, ts, fs, f, L, a, b, rfl, _⟩ := h
    rfl
  · obtain ⟨x, l, n, ps, ts, fs, f, L, a, b, rfl, TA, TG, hl, hL, cov, ok, big, kont⟩ := h
    have T := TG.m
    have hr2 : Room 2 _ := hr.mono (by decide)
    have hr6 : Room 6 _ := hr.mono (by decide)
    refine ⟨_, pss_cons (ps_set (i := 2) scJoinedP.nd rfl (Or.inl rfl) (pe_lst pa_nil))
      (pss_cons (ps_for PassesOwn.never rfl (pi_list (pv 1)) (pg_name (i := 3) scJoinedP.nd rfl (Or.inl rfl))
        (pss_one (ps_if (PW.pt (pw_and (pt_truth (pv 2) (fun _ => rfl)) (pw_and1 (pt_val (pe_call FIO hr6 rfl mIO kIO bIO .nil pass0 (pa_cons (pv 0) (pa_cons (pe_ix ix_list (pv 2) (pe_un un_neg pe_int) (fun _ _ => rfl)) (pa_cons (pv 3) pa_nil))))))))
          (pss_cons (ps_set (i := 4) scJoinedP.nd rfl (Or.inl rfl) (pe_ix ix_list (pv 2) (pe_un un_neg pe_int) (fun _ _ => rfl)))
          (pss_one (ps_asg (pe_make MSI FSI hr2 (by rfl) TS.mgC bSI .nil pass0 (pa_cons (pe_fld (pv 4) rfl) (pa_cons (pe_fld (pv 4) rfl) (pa_cons (pe_fld (pv 3) rfl) (pa_cons (pe_fld (pv 4) rfl) (pa_cons (pe_fld (pv 3) rfl) pa_nil)))))) (pg_sub (pv 2) (pe_un un_neg pe_int) set_list))))
          (pss_one (ps_expr (pe_bm PySem.F.plainAttrs_list PySem.F.slot_list_append PySem.F.type_list_append mt_append (pv 2) (pa_cons (pv 3) pa_nil)))))))
      (pss_one (ps_ret (pv 2)))), ?_⟩
    refine ⟨Nat.zero_le _, fun D hD => ?_⟩
    have tl : (ts.map V.ref).length = L.length := by rw [List.length_map]; exact Paired.length hL
    refine ⟨_, rfl, l, rfl, ⟨_, SqL.of (Same.new hD _ _ hl)⟩, for_list (K := K) (a := l) (xs := ts.map V.ref) (fun i σ G => ∃ (v3 v4 : Option V) (us : List Addr) (M : List It) (st : Nat × Nat), σ = [some (.ref x), some (.ref l), some (.ref D), v3, v4] ∧ Same H G ∧ G D = some (.lst (us.map V.ref)) ∧ Paired (SpL CS CP fs f G) us M ∧ JOk fs f a st M ∧ CovS fs st b (L.drop i) ∧ M.length ≤ i)
      ⟨none, none, [], [], a, rfl, Same.new hD, upd_same, .nil, jok_nil fs f a, cov, Nat.le_refl _⟩ (fun i σ G _ ⟨_, _, _, _, _, _, sg, _⟩ => SqL.of (sg _ _ hl)) ?_ ?_⟩
    · rintro i y σ G hi ⟨v3, v4, us, M, st, rfl, sg, gD, pr, jo, cv, ml⟩
      obtain ⟨t, ht, rfl⟩ := map_get hi
      obtain ⟨z, hz, sz0⟩ := paired_get hL ht
      have il := (List.getElem?_eq_some_iff.mp hz).1
      have ed : L.drop i = z :: L.drop (i + 1) := by
        rw [List.drop_eq_getElem_cons il]
        congr 1
        exact (List.getElem?_eq_some_iff.mp hz).2
      rw [ed] at cv
      obtain ⟨e1, e2, cv⟩ := cv
      have oz := ok z (List.mem_of_getElem? hz)
      dsimp only [gName]
      have put : ∀ (G1 : Hp) (o : HO), Same H G1 → Same H (upd G1 D o) := fun G1 o s1 b q e => by rw [upd_ne (ne_of_none e hD)]; exact s1 b q e
      have ul : us.length = M.length := Paired.length pr
      have sl : (us.map V.ref).length < PySem.sizeLine := by rw [List.length_map, PySem.sizeLine_eq]; omega
      have push : ∀ (w4 : Option V) (G1 : Hp), Same G G1 → G1 D = some (.lst (us.map V.ref)) → (∀ y, M.getLast? = some y → y.1 = z.1 → ¬ Pw fs (f y.1) y.2.1 z.2.2) → ∃ v3 v4 us' M' st', ([some (.ref x), some (.ref l), some (.ref D), some (.ref t), w4] : List (Option V)) = [some (.ref x), some (.ref l), some (.ref D), v3, v4] ∧ Same H (upd G1 D (.lst (us.map V.ref ++ [.ref t]))) ∧ (upd G1 D (.lst (us.map V.ref ++ [.ref t]))) D = some (.lst (us'.map V.ref)) ∧ Paired (SpL CS CP fs f (upd G1 D (.lst (us.map V.ref ++ [.ref t])))) us' M' ∧ JOk fs f a st' M' ∧ CovS fs st' b (L.drop (i + 1)) ∧ M'.length ≤ i + 1 := fun w4 G1 s1 g1 nl =>
        ⟨_, _, us ++ [t], M ++ [z], _, rfl, put G1 _ (sg.trans s1), by rw [List.map_append]; exact upd_same,
          paired_snoc (Paired.mapP pr fun _ _ h => (SpAt.same h s1).kp (Kp.put g1)) (((SpAt.same sz0 sg).same s1).kp (Kp.put g1)), jo.push oz e1 nl, cv, by rw [List.length_append]; show M.length + 1 ≤ _; omega⟩
      rcases List.eq_nil_or_concat M with e | ⟨M0, y, e⟩
      · subst e
        cases pr
        refine ⟨_, rfl, _, .inl ⟨_, SqL.of gD, rfl⟩, iteF (iteF ?_)⟩
        exact ⟨_, rfl, .inl ⟨rfl, _, SqL.of gD⟩, _, rfl, D, _, _, rfl, rfl, gD, sl, push _ G (Same.refl G) gD (fun y hy => by cases hy)⟩
      · rw [List.concat_eq_append] at e
        subst e
        obtain ⟨us0, u, rfl, pr0, sy⟩ := paired_snocQ pr
        have hat : ∀ {x : V}, atI ((us0 ++ [u]).map V.ref) (-1) = some (.ref u) := fun {_} => by rw [List.map_append]; exact at_lastQ _ _
        have hix : ixN ((us0 ++ [u]).map V.ref).length (-1) = some us0.length := by rw [List.length_map, List.length_append]; exact ix_lastQ _
        obtain ⟨k1, s1, t1⟩ := y
        obtain ⟨k2, s2, t2⟩ := z
        obtain ⟨_, _, _, ly, ny⟩ := last_of jo.cov
        have oy := jo.ok _ (List.mem_append_right _ (List.mem_singleton.mpr rfl))
        have szG := SpAt.same sz0 sg
        refine ⟨_, rfl, _, .inl ⟨_, SqL.of gD, by rw [List.map_append, isEmpty_app]⟩, iteT ⟨_, rfl, ?_⟩⟩
        refine ⟨_, rfl, 1, rfl, D, _, _, _, rfl, rfl, SqL.of gD, hat (x := .non), _, rfl, x, u, t, n, ps, fs, k1, k2, s1, t1, s2, t2, f k1, f k2, rfl, TA.same sg, TG, sy, szG, oy.on_ _ (Nat.le_refl _) (Nat.le_of_lt oy.lt), oy.on_ _ (Nat.le_of_lt oy.lt) (Nat.le_refl _), oz.on_ _ (Nat.le_refl _) (Nat.le_of_lt oz.lt), oz.on_ _ (Nat.le_of_lt oz.lt) (Nat.le_refl _), fun G1 c sG ci => ⟨c, rfl, ?_⟩⟩
        have g1 := sG _ _ gD
        have join : k1 = k2 → (((f k1 s1 = f k1 t1 ↔ f k2 s2 = f k2 t2) ∧ (f k1 s1 = f k1 t1 ∨ Dn fs (f k1 s1) (f k2 t2) = (t2 : Int) - (s1 : Int))) ↔ Pw fs (f k1) s1 t2) := fun ek => by
          subst ek
          have ee : t1 = s2 := nx_same (ny.trans e1.symm) rfl
          subst ee
          exact pw_join T TG.n2 oy.lt oz.lt (fun q q1 q2 => (Nat.le_total q t1).elim (fun w => oy.on_ q q1 w) (fun w => oz.on_ q w q2)) oy.pw oz.pw
        cases c with
        | true =>
          obtain ⟨ek, c1, c2⟩ := ci.mp rfl
          have pw := (join ek).mp ⟨c1, c2⟩
          have jm := jo.merge T TG.n2 oz e1 ek pw
          have sy1 := SpAt.same sy sG
          have sz1 := SpAt.same szG sG
          obtain ⟨a1, b1, ⟨d1, x1⟩, A1, B1⟩ := sy1
          obtain ⟨a2, b2, ⟨d2, x2⟩, A2, B2⟩ := sz1
          refine iteT ⟨_, rfl, 1, rfl, D, _, _, _, rfl, rfl, SqL.of g1, hat (x := .non), ?_⟩
          refine ⟨_, rfl, u, CS, d1, _, _, rfl, x1, TS.cl, TS.nR, stF_r _, _, rfl, u, CS, d1, _, _, rfl, x1, TS.cl, TS.nL, stF_l _, _, rfl, t, CS, d2, _, _, rfl, x2, TS.cl, TS.nG, stF_g _, _, rfl, u, CS, d1, _, _, rfl, x1, TS.cl, TS.nF, stF_f _, _, rfl, t, CS, d2, _, _, rfl, x2, TS.cl, TS.nA, stF_a _, fun pS dS nS ndS neS => ⟨pS, dS, (((k1 : Nat) : Int), ((s1 : Nat) : Int), ((t2 : Nat) : Int), a1, b2), rfl, upd_same, fun G2 PS keep => ⟨rfl, ?_⟩⟩⟩
          have s12 : Same G1 G2 := fun b' o e => keep b' o (by rw [upd_ne (ne_of_none e nS), upd_ne (ne_of_none e ndS)]; exact e) (ne_of_none e nS)
          have g2 := s12 _ _ g1
          have spn : SpAt CS CP fs G2 k1 (f k1) pS (s1, t2) := ⟨a1, b2, PS, A1.same s12, by
            rw [ek]
            exact B2.same s12⟩
          refine ⟨_, rfl, 1, rfl, D, _, _, _, rfl, rfl, g2, hix, ?_⟩
          refine ⟨_, _, us0 ++ [pS], M0 ++ [(k1, s1, t2)], _, rfl, put G2 _ ((sg.trans sG).trans s12), by simp [upd_same], paired_snoc (Paired.mapP pr0 fun _ _ h => ((SpAt.same h sG).same s12).kp (Kp.put g2)) (spn.kp (Kp.put g2)), jm, cv, ?_⟩
          rw [List.length_append] at ml ⊢
          exact Nat.le_succ_of_le ml
        | false =>
          refine iteF ⟨_, rfl, .inl ⟨rfl, _, SqL.of g1⟩, _, rfl, D, _, _, rfl, rfl, g1, sl, push _ G1 sG g1 (fun y hy ek pz => ?_)⟩
          rw [List.getLast?_append, List.getLast?_singleton] at hy
          cases hy
          exact Bool.false_ne_true (ci.mpr ⟨ek, (join ek).mpr pz⟩)
    · rintro σ G ⟨v3, v4, us, M, st, rfl, sg, gD, pr, jo, cv, ml⟩
      rw [tl, List.drop_length] at cv
      rw [tl] at ml
      cases (show st = b from cv)
      exact ⟨_, rfl, kont D us M G sg hD gD pr jo ml⟩
end
end OT
set_option Elab.async false
set_option linter.all false
set_option maxRecDepth 100000
set_option maxHeartbeats 1000000
namespace OT
/-- the pieces of one stretch, as items of its road -/
theorem CovS.pieces {F : List Fact} {k e : Nat} (he : (e : Int) ≤ sz F 1 k) : ∀ {L : List (Nat × Nat)} {s : Nat}, s < e → Cov s e L → CovS F (k, s) (nx F k e) (L.map fun z => (k, z.1, z.2))
  | [], s, lt, h => by
    have : s = e := h
    omega
  | z :: L, s, lt, ⟨h1, h2, h3⟩ => by
    subst h1
    refine ⟨rfl, h2, ?_⟩
    show CovS F (nx F k z.2) (nx F k e) (L.map fun z => (k, z.1, z.2))
    by_cases q : z.2 = e
    · have := h3.le.2
      rw [q, Nat.sub_self] at this
      have el : L = [] := List.length_eq_zero_iff.mp (Nat.le_zero.mp this)
      rw [el, q]
      exact rfl
    · have lz := h3.le.1
      have nz : nx F k z.2 = (k, z.2) := by
        unfold nx
        rw [if_neg (by omega)]
      rw [nz]
      exact CovS.pieces he (by omega) h3
/-- what lies before, or is the same -/
def Le2 (a b : Nat × Nat) : Prop := a.1 < b.1 ∨ (a.1 = b.1 ∧ a.2 ≤ b.2)
theorem Le2.trans {a b c : Nat × Nat} (h : Le2 a b) (k : Le2 b c) : Le2 a c := by
  unfold Le2 at *
  omega
theorem nx_fwd {F : List Fact} {k s e : Nat} (h : s < e) : Le2 (k, s + 1) (nx F k e) := by
  unfold nx Le2
  split
  · exact .inl (Nat.lt_succ_self k)
  · exact .inr ⟨rfl, h⟩
/-- items lead forward only -/
theorem CovS.fwd {F : List Fact} {b : Nat × Nat} : ∀ {L : List It} {a : Nat × Nat}, CovS F a b L → Le2 a b ∧ (L ≠ [] → Le2 (a.1, a.2 + 1) b)
  | [], a, h => by
    cases (show a = b from h)
    exact ⟨.inr ⟨rfl, Nat.le_refl _⟩, fun h => absurd rfl h⟩
  | z :: L, a, ⟨h1, h2, h3⟩ => by
    subst h1
    have r := (nx_fwd h2).trans h3.fwd.1
    refine ⟨?_, fun _ => r⟩
    unfold Le2 at r ⊢
    dsimp only at r ⊢
    omega
end OT
set_option Elab.async false
set_option linter.all false
set_option maxRecDepth 100000
set_option maxHeartbeats 1000000
namespace OT
/-- f tells where the marches gs lead each whole position of a road -/
def Img (F : List Fact) (gs : List MG) (f : Nat → Nat → Nd) : Prop := ∀ k t : Nat, k < F.length → (t : Int) ≤ sz F 1 k → GoL F 1 gs (node F 1 k ((t : Nat) : Int)) (f k t)
theorem Img.zero (F : List Fact) : Img F [] (fun k t => node F 1 k ((t : Nat) : Int)) := fun k t _ _ => rfl
/-- where a path is cut -/
def Cut (f : Nat → Nd) (t : Nat) : Prop := ¬ (f (t - 1) = f t ↔ f t = f (t + 1)) ∨ (f (t - 1) ≠ f t ∧ f (t - 1) = f (t + 1))
structure CutOk (F : List Fact) (f : Nat → Nat → Nd) (a b : Nat × Nat) (M : List It) : Prop where
  cov : CovS F a b M
  inn : ∀ z ∈ M, ∀ t, z.2.1 < t → t < z.2.2 → ¬ Cut (f z.1) t
  bnd : ∀ i y z, M[i]? = some y → M[i + 1]? = some z → y.1 = z.1 → Cut (f y.1) y.2.2
theorem covS_stuck {F : List Fact} {b : Nat × Nat} : ∀ {L : List It} {k e : Nat}, CovS F (k, e) b L → sz F 1 k < (e : Int) → b.1 = k
  | [], k, e, h, _ => by
    cases (show (k, e) = b from h)
    rfl
  | z :: L, k, e, ⟨h1, h2, h3⟩, lt => by
    have e1 : z.1 = k := (Prod.mk.inj h1).1
    have e2 : z.2.1 = e := (Prod.mk.inj h1).2
    have nz : nx F z.1 z.2.2 = (k, z.2.2) := by
      unfold nx
      rw [e1, if_neg (by omega)]
    rw [nz] at h3
    exact covS_stuck h3 (by omega)
/-- items that lead to the tree's end lie on its roads -/
theorem CovS.in_ {F : List Fact} {N : Nat} : ∀ {L : List It} {a : Nat × Nat}, CovS F a (N, 0) L → ∀ z ∈ L, z.1 < N ∧ (z.2.2 : Int) ≤ sz F 1 z.1
  | [], _, _, z, h => by cases h
  | y :: L, a, ⟨h1, h2, h3⟩, z, h => by
    rcases List.mem_cons.mp h with e | h
    · subst e
      have fw := h3.fwd.1
      by_cases q : (z.2.2 : Int) = sz F 1 z.1
      · have nz : nx F z.1 z.2.2 = (z.1 + 1, 0) := by
          unfold nx
          rw [if_pos q]
        rw [nz] at fw
        unfold Le2 at fw
        dsimp only at fw
        omega
      · have nz : nx F z.1 z.2.2 = (z.1, z.2.2) := by
          unfold nx
          rw [if_neg q]
        rw [nz] at fw h3
        unfold Le2 at fw
        dsimp only at fw
        refine ⟨by omega, ?_⟩
        by_cases w : sz F 1 z.1 < (z.2.2 : Int)
        · have := covS_stuck h3 w
          dsimp only at this
          omega
        · omega
    · exact CovS.in_ h3 z h
/-- one list of longest stretches there is -/
theorem CutOk.uniq {F : List Fact} {f : Nat → Nat → Nd} {N : Nat} : ∀ {L M : List It} {a : Nat × Nat}, CutOk F f a (N, 0) L → CutOk F f a (N, 0) M → L = M
  | [], M, a, h, k => by
    cases M with
    | nil => rfl
    | cons z M =>
      exfalso
      have e : a = (N, 0) := h.cov
      have := k.cov.fwd.2 (fun z => nomatch z)
      rw [e] at this
      unfold Le2 at this
      dsimp only at this
      omega
  | y :: L, M, a, h, k => by
    cases M with
    | nil =>
      exfalso
      have e : a = (N, 0) := k.cov
      have := h.cov.fwd.2 (fun z => nomatch z)
      rw [e] at this
      unfold Le2 at this
      dsimp only at this
      omega
    | cons z M =>
      have key : ∀ {y z : It} {L M : List It}, CutOk F f a (N, 0) (y :: L) → CutOk F f a (N, 0) (z :: M) → ¬ y.2.2 < z.2.2 := fun {y z L M} h k lt => by
        obtain ⟨h1, h2, h3⟩ := h.cov
        obtain ⟨k1, k2, k3⟩ := id k.cov
        have e1 : z.1 = y.1 := (Prod.mk.inj (k1.trans h1.symm)).1
        have e2 : z.2.1 = y.2.1 := (Prod.mk.inj (k1.trans h1.symm)).2
        have iz := CovS.in_ k.cov z (List.mem_cons_self ..)
        have nz : nx F y.1 y.2.2 = (y.1, y.2.2) := by
          unfold nx
          rw [← e1, if_neg (by omega)]
        rw [nz] at h3
        cases L with
        | nil =>
          have : (y.1, y.2.2) = (N, 0) := h3
          have := (Prod.mk.inj this).2
          omega
        | cons w L =>
          obtain ⟨w1, w2, _⟩ := h3
          have c := h.bnd 0 y w rfl rfl (Prod.mk.inj w1).1.symm
          exact k.inn z (List.mem_cons_self ..) y.2.2 (by omega) lt (by rw [e1]; exact c)
      have n1 := key h k
      have n2 := key k h
      obtain ⟨h1, h2, h3⟩ := id h.cov
      obtain ⟨k1, k2, k3⟩ := id k.cov
      have e1 : y.1 = z.1 := (Prod.mk.inj (h1.trans k1.symm)).1
      have e2 : y.2.1 = z.2.1 := (Prod.mk.inj (h1.trans k1.symm)).2
      have e3 : y.2.2 = z.2.2 := by omega
      obtain ⟨y1, y2, y3⟩ := y
      obtain ⟨z1, z2, z3⟩ := z
      dsimp only at e1 e2 e3
      subst e1 e2 e3
      have tl : ∀ {L : List It}, CutOk F f a (N, 0) ((y1, y2, y3) :: L) → CutOk F f (nx F y1 y3) (N, 0) L := fun {L} h => ⟨h.cov.2.2, fun w hw => h.inn w (List.mem_cons_of_mem _ hw), fun i u w hu hw => h.bnd (i + 1) u w hu hw⟩
      rw [CutOk.uniq (tl h) (tl k)]
section
variable {n : Int} {F : List Fact} (T : TreeM n F) (n2 : 2 ≤ n)
include T n2
theorem Img.next {gs : List MG} {f : Nat → Nat → Nd} {x : MG} (ok : ∀ y ∈ gs, MgOk F y) (h : Img F gs f) : ∃ f', Img F (gs ++ [x]) f' ∧ ∀ k t : Nat, k < F.length → (t : Int) ≤ sz F 1 k → Go F 1 x.1 x.2.1 x.2.2 (f k t) (f' k t) := by
  have ex : ∀ k t : Nat, ∃ v, k < F.length → (t : Int) ≤ sz F 1 k → Go F 1 x.1 x.2.1 x.2.2 (f k t) v := fun k t => by
    by_cases c : k < F.length ∧ (t : Int) ≤ sz F 1 k
    · have o : OnT F 1 (f k t) := GoL.on T (by decide) ok ⟨k, (t : Nat), ⟨c.1, Int.natCast_nonneg t, c.2⟩, rfl⟩ (h k t c.1 c.2)
      obtain ⟨v, hv⟩ := Go.ex (g := x.1) (p := x.2.1) (m := x.2.2) o
      exact ⟨v, fun _ _ => hv⟩
    · exact ⟨.cr 0, fun a b => absurd ⟨a, b⟩ c⟩
  obtain ⟨f', hf⟩ := Classical.skolem.mp fun k => Classical.skolem.mp (ex k)
  refine ⟨f', fun k t hk ht => (h k t hk ht).snoc ?_, hf⟩
  show Go F 1 x.1 (x.2.1 * 1) (x.2.2 * 1) _ _
  rw [Int.mul_one, Int.mul_one]
  exact hf k t hk ht
theorem Img.on {gs : List MG} {f : Nat → Nat → Nd} (ok : ∀ y ∈ gs, MgOk F y) (h : Img F gs f) {k t : Nat} (hk : k < F.length) (ht : (t : Int) ≤ sz F 1 k) : OnT F 1 (f k t) :=
  GoL.on T (by decide) ok ⟨k, (t : Nat), ⟨hk, Int.natCast_nonneg t, ht⟩, rfl⟩ (h k t hk ht)
theorem road_geo {k L : Nat} (hk : k < F.length) (hL : (L : Int) ≤ sz F 1 k) : Geo F L (fun t => node F 1 k ((t : Nat) : Int)) := by
  have on_ : ∀ t : Nat, t ≤ L → On F 1 k ((t : Nat) : Int) := fun t ht => ⟨hk, Int.natCast_nonneg t, by omega⟩
  refine ⟨fun t ht => ⟨k, (t : Nat), hk, Int.natCast_nonneg t, by omega, .inl ⟨rfl, ?_⟩⟩, fun t ht => ⟨k, _, on_ t ht, rfl⟩, ?_⟩
  · show node F 1 k ((t + 1 : Nat) : Int) = _
    rw [Int.natCast_succ]
  · have e := Dn_hP T n2 (on_ 0 (Nat.zero_le _)) (on_ L (Nat.le_refl _))
    show Dn F (node F 1 k ((0 : Nat) : Int)) (node F 1 k ((L : Nat) : Int)) = _
    rw [e, hP_g]
    unfold dst
    split <;> omega
theorem adj_ne {u v : Nd} (a : Adj F 1 u v) : u ≠ v := fun e => by
  have h := Dn_adj T n2 a a.on.1
  rw [← e] at h
  omega
/-- a path that doesn't turn back stays one -/
theorem Geo.ext {c : Nat} {x : Nat → Nd} (h : Geo F c x) (c1 : 1 ≤ c) (ad : Adj F 1 (x c) (x (c + 1))) (ne : x (c - 1) ≠ x (c + 1)) : Geo F (c + 1) x := by
  have o0 := h.on_ 0 (Nat.zero_le _)
  have on_ : ∀ t, t ≤ c + 1 → OnT F 1 (x t) := fun t ht => by
    by_cases q : t ≤ c
    · exact h.on_ t q
    · have : t = c + 1 := by omega
      subst this
      exact ad.on.2
  refine ⟨fun t ht => ?_, on_, ?_⟩
  · by_cases q : t < c
    · exact h.ch t q
    · have : t = c := by omega
      subst this
      exact ad
  · have st := Dn_adj T n2 ad o0
    have dc := h.far
    rw [Dn_sym T n2 o0 (on_ c (by omega))] at dc
    rw [Dn_sym T n2 o0 (on_ (c + 1) (Nat.le_refl _))]
    rcases st with s | s
    · rw [s, dc]
      omega
    · exfalso
      have d1 := (h.sub T n2 (a := 0) (b := c - 1) (by omega)).far
      simp only [Nat.zero_add] at d1
      rw [Dn_sym T n2 o0 (on_ (c - 1) (by omega))] at d1
      have a1 : Adj F 1 (x c) (x (c - 1)) := by
        have := (h.ch (c - 1) (by omega)).symm
        rw [show c - 1 + 1 = c by omega] at this
        exact this
      have oc1 := on_ (c - 1) (by omega)
      have oc := on_ c (by omega)
      have oc2 := on_ (c + 1) (Nat.le_refl _)
      obtain ⟨g, p, og, e0⟩ := o0
      have hN_ : ∀ {u : Nd}, OnT F 1 u → Dn F u (x 0) = hN F 1 g p u := fun ou => Dn_hN T n2 ou ⟨g, p, og, e0⟩ og e0.symm
      rw [hN_ oc1] at d1
      rw [hN_ oc] at dc
      rw [hN_ oc2, hN_ oc] at s
      exact ne (lower_uniq T (by decide) og a1 ad (by omega) (by omega))
theorem Pw.no_cut {f : Nat → Nd} {s e : Nat} (h : Pw F f s e) {t : Nat} (h1 : s < t) (h2 : t < e) : ¬ Cut f t := by
  rcases h with h | h
  · have a1 := h (t - 1) (by omega) (by omega)
    have a2 := h t (by omega) (by omega)
    have a3 := h (t + 1) (by omega) (by omega)
    rintro (c | c)
    · exact c ⟨fun _ => by rw [a2, a3], fun _ => by rw [a1, a2]⟩
    · exact c.1 (by rw [a1, a2])
  · have c1 := h.ch (t - 1 - s) (by omega)
    have c2 := h.ch (t - s) (by omega)
    have c3 := (h.sub T n2 (a := t - 1 - s) (b := 2) (by omega)).far
    have n1 := adj_ne T n2 c1
    have n2' := adj_ne T n2 c2
    simp only [Nat.add_zero] at c3
    rw [show s + (t - 1 - s) = t - 1 by omega] at n1 c3
    rw [show s + (t - 1 - s + 1) = t by omega] at n1
    rw [show s + (t - s) = t by omega, show s + (t - s + 1) = t + 1 by omega] at n2'
    rw [show s + (t - 1 - s + 2) = t + 1 by omega] at c3
    rintro (c | c)
    · exact c ⟨fun z => absurd z n1, fun z => absurd z n2'⟩
    · have o := h.on_ (t + 1 - s) (by omega)
      rw [show s + (t + 1 - s) = t + 1 by omega] at o
      rw [c.2, Dn_self T n2 o] at c3
      omega
theorem pw_union {f : Nat → Nd} {s m e : Nat} (sm : s < m) (me : m < e) (p1 : Pw F f s m) (p2 : Pw F f m e) (nc : ¬ Cut f m) : Pw F f s e := by
  have nc1 : (f (m - 1) = f m ↔ f m = f (m + 1)) := Classical.byContradiction fun z => nc (.inl z)
  rcases p1 with p1 | p1
  · have a1 := p1 (m - 1) (by omega) (by omega)
    have a2 := p1 m (by omega) (by omega)
    have st : f m = f (m + 1) := nc1.mp (by rw [a1, a2])
    rcases p2 with p2 | p2
    · refine .inl fun t t1 t2 => ?_
      by_cases q : t ≤ m
      · exact p1 t t1 q
      · rw [p2 t (by omega) t2, a2]
    · have := adj_ne T n2 (p2.ch 0 (by omega))
      exact absurd st this
  · have c1 := adj_ne T n2 (p1.ch (m - 1 - s) (by omega))
    rw [show s + (m - 1 - s) = m - 1 by omega, show s + (m - 1 - s + 1) = m by omega] at c1
    have st : f m ≠ f (m + 1) := fun z => c1 (nc1.mpr z)
    have nb : f (m - 1) ≠ f (m + 1) := fun z => nc (.inr ⟨c1, z⟩)
    rcases p2 with p2 | p2
    · exact absurd (p2 (m + 1) (by omega) (by omega)).symm st
    · have grow : ∀ j, j ≤ e - m → Geo F (m - s + j) (fun t => f (s + t)) := fun j => by
        induction j with
        | zero => exact fun _ => p1
        | succ j ih =>
          intro hj
          have g := ih (by omega)
          refine g.ext T n2 (by omega) ?_ ?_
          · have := p2.ch j (by omega)
            show Adj F 1 (f (s + (m - s + j))) (f (s + (m - s + j + 1)))
            rw [show s + (m - s + j) = m + j by omega, show s + (m - s + j + 1) = m + (j + 1) by omega]
            exact this
          · show f (s + (m - s + j - 1)) ≠ f (s + (m - s + j + 1))
            rw [show s + (m - s + j + 1) = m + j + 1 by omega]
            by_cases q : j = 0
            · subst q
              rw [show s + (m - s + 0 - 1) = m - 1 by omega, Nat.add_zero]
              exact nb
            · rw [show s + (m - s + j - 1) = m + (j - 1) by omega]
              intro z
              have c3 := (p2.sub T n2 (a := j - 1) (b := 2) (by omega)).far
              simp only [Nat.add_zero] at c3
              rw [show m + (j - 1 + 2) = m + j + 1 by omega, z] at c3
              have o := p2.on_ (j + 1) (by omega)
              rw [show m + (j + 1) = m + j + 1 by omega] at o
              rw [Dn_self T n2 o] at c3
              omega
      have g := grow (e - m) (Nat.le_refl _)
      rw [show m - s + (e - m) = e - s by omega] at g
      exact .inr g
theorem JOk.cut {f : Nat → Nat → Nd} {a b : Nat × Nat} {M : List It} (h : JOk F f a b M) : CutOk F f a b M := by
  refine ⟨h.cov, fun z hz t t1 t2 => (h.ok z hz).pw.no_cut T n2 t1 t2, fun i y z hy hz e => Classical.byContradiction fun nc => h.max i y z hy hz e ?_⟩
  have oy := h.ok y (List.mem_of_getElem? hy)
  have oz := h.ok z (List.mem_of_getElem? hz)
  have em : y.2.2 = z.2.1 := by
    have ly : M = M.take i ++ y :: z :: M.drop (i + 2) := by
      have l2 := (List.getElem?_eq_some_iff.mp hz).1
      have e1 : M.drop i = y :: M.drop (i + 1) := by
        rw [List.drop_eq_getElem_cons (by omega)]
        congr 1
        exact (List.getElem?_eq_some_iff.mp hy).2
      have e2 : M.drop (i + 1) = z :: M.drop (i + 2) := by
        rw [List.drop_eq_getElem_cons (by omega)]
        congr 1
        exact (List.getElem?_eq_some_iff.mp hz).2
      rw [← e2, ← e1, List.take_append_drop]
    have hc := h.cov
    rw [ly] at hc
    obtain ⟨c, _, _, _, h4, _, _⟩ := CovS.split hc
    exact nx_same h4.symm e
  refine pw_union T n2 oy.lt (by rw [em]; exact oz.lt) oy.pw ?_ nc
  rw [em, e]
  exact oz.pw
/-- a road each, from end to end -/
def bsI (F : List Fact) (k : Nat) : It := (k, 0, (sz F 1 k).toNat)
omit n2 in
theorem sz_pos1 {k : Nat} (hk : k < F.length) : 1 ≤ sz F 1 k := by
  unfold sz
  rw [Int.mul_one]
  exact (rd_ok T hk).2.2.1
theorem base_jok : ∀ {i : Nat}, i ≤ F.length → JOk F (fun k t => node F 1 k ((t : Nat) : Int)) (0, 0) (i, 0) ((List.range i).map (bsI F))
  | 0, _ => jok_nil ..
  | i + 1, hi => by
    have ih := base_jok (i := i) (by omega)
    have p := sz_pos1 T (k := i) (by omega)
    have ec : (((sz F 1 i).toNat : Nat) : Int) = sz F 1 i := Int.toNat_of_nonneg (by omega)
    have it : ItOk F (fun k t => node F 1 k ((t : Nat) : Int)) (bsI F i) := ⟨by show 0 < (sz F 1 i).toNat; omega, .inr (by
      have := road_geo T n2 (k := i) (L := (sz F 1 i).toNat) (by omega) (by omega)
      show Geo F ((sz F 1 i).toNat - 0) (fun t => node F 1 i ((0 + t : Nat) : Int))
      simp only [Nat.zero_add]
      exact this), fun t _ ht => ⟨i, (t : Nat), ⟨by omega, Int.natCast_nonneg t, by have : t ≤ (sz F 1 i).toNat := ht; omega⟩, rfl⟩⟩
    have r := ih.push it rfl fun y hy ey => by
      exfalso
      rw [List.getLast?_eq_getElem?] at hy
      obtain ⟨l, e⟩ := List.getElem?_eq_some_iff.mp hy
      rw [List.getElem_map, List.getElem_range] at e
      rw [List.length_map, List.length_range] at l e
      rw [← e] at ey
      have : i - 1 = i := ey
      omega
    rw [List.range_succ, List.map_append]
    have nz : nx F (bsI F i).1 (bsI F i).2.2 = (i + 1, 0) := by
      unfold nx
      rw [if_pos (show (((bsI F i).2.2 : Nat) : Int) = sz F 1 (bsI F i).1 from ec)]
      rfl
    rw [nz] at r
    exact r
end
end OT
set_option Elab.async false
set_option linter.all false
set_option maxRecDepth 100000
set_option maxHeartbeats 4000000
namespace OT
open PySem L2 OTR
abbrev sMarched : Stmt := top 45
def spMarched (K : PySem.W.Frag) (CT CR CM CP CS : Addr) : Sp := fun vs H Q _ => ∃ (x p q : Addr) (n : Int) (ps : List Addr) (F : List Fact) (mg : MG) (k s e : Nat) (f f' : Nat → Nd), vs = [.ref x, .ref p, .ref q] ∧ TreeAt K CT CR H x n ps F ∧ TreeG n F ∧ SpAt CS CP F H k f p (s, e) ∧ MaAt CM CP H q (mf mg) ∧ MgOk F mg ∧ s < e ∧ Pw F f s e ∧ (∀ t, s ≤ t → t ≤ e → OnT F 1 (f t)) ∧ (∀ t, s ≤ t → t ≤ e → Go F 1 mg.1 mg.2.1 mg.2.2 (f t) (f' t)) ∧
  ∀ (l : Addr) (ts : List Addr) (H' : Hp) (L : List (Nat × Nat)), Same H H' → H' l = some (.lst (ts.map V.ref)) → Paired (SpAt CS CP F H' k f') ts L → Cov s e L → L.length ≤ 3 → (∀ z ∈ L, Pw F f' z.1 z.2) → H l = none → Q (.ref l) H'
section
variable {P : Program} {w : World} {K : PySem.W.Frag} {mg : Str → Option Value} {base : Heap}
abbrev nMarched : List Str := ["tree", "stretch", "march", "there", "marks", "start", "first", "end", "last"]
theorem scMarched : FnScope nMarched ["tree", "stretch", "march"] (defScope sMarched) := ⟨rfl, rfl, rfl, by decide +kernel, rfl, by decide +kernel, by decide +kernel⟩
theorem ok_marched {f0 fGA fST fMK fSI CT CR CM CP CS CB CNR COR : Addr} {fd fdGA fdST fdMK fdSI : FuncData} (F0 : Fun K "marched" "marched" sMarched f0 fd) (TS : StT K mg CS) (TM : MaT K mg CM)
    (FGA : FnOk P w K mg base CX0 2 fGA fdGA ["stretch"] (spGath CS CP)) (bGA : Binds K fdGA ["stretch"] []) (mGA : mg "is_gathered" = some (.ref fGA)) (kGA : PySem.W.keepIn K (.ref fGA) = true)
    (FST : FnOk P w K mg base (L2.CX P w) 7 fST fdST ["tree", "place", "goal", "steps"] (spStep K CT CR CP CB CNR COR)) (bST : Binds K fdST ["tree", "place", "goal", "steps"] []) (mST : mg "step" = some (.ref fST)) (kST : PySem.W.keepIn K (.ref fST) = true)
    (FMK : FnOk P w K mg base CX0 8 fMK fdMK ["tree", "stretch", "march"] (spMarks K CT CR CM CP CS)) (bMK : Binds K fdMK ["tree", "stretch", "march"] []) (mMK : mg "marks_of" = some (.ref fMK)) (kMK : PySem.W.keepIn K (.ref fMK) = true)
    (MSI : Mk K CS fSI) (FSI : FnOk P w K mg base CX0 1 fSI fdSI ["self", "road", "least", "greatest", "first", "last"] (spStretchI CS)) (bSI : Binds K fdSI ["self", "road", "least", "greatest", "first", "last"] [])
    (hZip : mg "zip" = none) : FnOk P w K mg base CX0 9 f0 fd ["tree", "stretch", "march"] (spMarched K CT CR CM CP CS) := by
  refine F0.ok scMarched (fun vs H Q E h => ?_) (fun cdv A outer s0 H vs Q E hr h => ?_)
  · obtain ⟨x, p, q, n, ps, fs, g, k, s, e, f, f', rfl, _⟩ := h
    rfl
  · obtain ⟨x, p, q, n, ps, fs, g, k, s, e, f, f', rfl, TA, TG, ⟨a, b, ⟨dx, ex⟩, P1, P2⟩, ⟨gp, ⟨dm, em⟩, pg⟩, okg, se, pw, on_, go, kont⟩ := h
    have T := TG.m
    have hr2 : Room 2 _ := hr.mono (by decide)
    have hr7 : Room 7 _ := hr.mono (by decide)
    have hr8 : Room 8 _ := hr.mono (by decide)
    refine ⟨_, pss_cons (ps_if (pt_val (pe_call FGA hr2 rfl mGA kGA bGA .nil pass0 (pa_cons (pv 1) pa_nil)))
        (pss_cons (ps_set (i := 3) scMarched.nd rfl (Or.inl rfl) (pe_call FST hr7 rfl mST kST bST .nil passF (pa_cons (pv 0) (pa_cons (pe_fld (pv 1) rfl) (pa_cons (pe_fld (pv 2) rfl) (pa_cons (pe_fld (pv 2) rfl) pa_nil))))))
        (pss_one (ps_ret (pe_lst (pa_cons (pe_make MSI FSI hr2 (by rfl) TS.mgC bSI .nil pass0 (pa_cons (pe_fld (pv 1) rfl) (pa_cons (pe_fld (pv 1) rfl) (pa_cons (pe_fld (pv 1) rfl) (pa_cons (pv 3) (pa_cons (pv 3) pa_nil)))))) pa_nil)))))
        pss_nil)
      (pss_cons (ps_set (i := 4) scMarched.nd rfl (Or.inl rfl) (pe_call FMK hr8 rfl mMK kMK bMK .nil pass0 (pa_cons (pv 0) (pa_cons (pv 1) (pa_cons (pv 2) pa_nil)))))
      (pss_one (ps_ret (pe_lc (own := [("start", 5), ("first", 6), ("end", 7), ("last", 8)]) (g := gTup K 2 (gCons (gTup K 2 (gCons (gName 5) (gCons (gName 6) gNil))) (gCons (gTup K 2 (gCons (gName 7) (gCons (gName 8) gNil))) gNil))) (tt := tTest (tOp (rI0 fun i j => .bl (decide (i < j))) (tVar 5) (tVar 7)))
        (te := tMake CS (spStretchI CS) [] L2.E0 (tCons (tFld K (tVar 1) "road") (tCons (tOp (rI0 fun i j => .int (i + j)) (tFld K (tVar 1) "least") (tVar 5)) (tCons (tOp (rI0 fun i j => .int (i + j)) (tFld K (tVar 1) "least") (tVar 7)) (tCons (tVar 6) (tCons (tVar 8) tNil)))))) rfl scMarched.nd (pi_zip (by rfl) hZip (pa_cons (pv 4) (pa_cons (pe_slice sl_list (pv 4) (po_some pe_int) po_none) pa_nil))) (blkOk_by (own := [("start", 5), ("first", 6), ("end", 7), ("last", 8)]) (N := nMarched) (sc := defScope sMarched) (by decide +kernel)) (fun _ _ _ _ _ => (pg_tup rfl (pgs_cons (pg_tup rfl (pgs_cons (pg_name (i := 5) scMarched.nd rfl (Or.inl rfl)) (pgs_cons (pg_name (i := 6) scMarched.nd rfl (Or.inl rfl)) pgs_nil))) (pgs_cons (pg_tup rfl (pgs_cons (pg_name (i := 7) scMarched.nd rfl (Or.inl rfl)) (pgs_cons (pg_name (i := 8) scMarched.nd rfl (Or.inl rfl)) pgs_nil))) pgs_nil)))) (fun _ _ _ _ _ => (pts_one (pt_cmpR op_lt (pv 5) (pv 7) (nomark _))))
        (fun _ _ _ _ _ => (pe_make MSI FSI hr2 (by rfl) TS.mgC bSI .nil pass0 (pa_cons (pe_fld (pv 1) rfl) (pa_cons (pe_op op_add (pe_fld (pv 1) rfl) (pv 5)) (pa_cons (pe_op op_add (pe_fld (pv 1) rfl) (pv 7)) (pa_cons (pv 6) (pa_cons (pv 8) pa_nil))))))))))), ?_⟩
    obtain ⟨gk, gi, gm⟩ := g
    have og : On fs 1 gk gi := by
      have h := okg.on (S := 1) (by decide)
      rw [Int.mul_one] at h
      exact h
    have m1 : 1 ≤ gm := okg.s1
    have os := on_ s (Nat.le_refl _) (by omega)
    have oe := on_ e (by omega) (Nat.le_refl _)
    -- if is_gathered(stretch)
    refine ⟨_, rfl, p, _, _, _, rfl, ⟨dx, ex⟩, P1, P2, _, rfl, ?_⟩
    by_cases eq : f s = f e
    · have gat : ∀ t, s ≤ t → t ≤ e → f t = f s := by
        rcases pw with h | h
        · exact h
        · exfalso
          have h1 := h.far
          rw [show s + 0 = s from rfl, show s + (e - s) = e by omega, eq, Dn_self T TG.n2 oe] at h1
          omega
      rw [decide_eq_true (by show keyF fs 1 (f s) = keyF fs 1 (f e); rw [eq])]
      refine iteT ?_
      obtain ⟨k1, i1, pe1, n1⟩ := key_ple T TG.n2 (show (1 : Int) ≤ 1 by decide) os
      have pg : PlaceAt CP H gp (((gk : Nat) : Int), gi, 1) := by
        have z : low (mPl (mf (gk, gi, gm))) = (((gk : Nat) : Int), gi, 1) := low_one _ _
        rw [← z]
        exact pg
      have peg : PlE fs 1 (((gk : Nat) : Int), gi, 1) gk gi := ⟨rfl, ⟨1, by decide, by show (1 : Int) = 1 * 1; decide, by show gi = gi * 1; rw [Int.mul_one]⟩, og, Int.le_refl 1, low_one _ _⟩
      refine ⟨_, rfl, _, rfl, p, CS, dx, _, _, rfl, ex, TS.cl, TS.nF, stF_f _, _, rfl, q, CM, dm, _, _, rfl, em, TM.cl, TM.nG, maF_g _ _, _, rfl, q, CM, dm, _, _, rfl, em, TM.cl, TM.nS, maF_s _ _, tn ?_⟩
      show spStep K CT CR CP CB CNR COR [V.ref x, V.ref a, V.ref gp, V.int gm] H _ _
      refine step_1 TA TG P1 pg pe1 peg (by omega) fun th G1 v s1 gv pv => ?_
      rw [n1] at gv
      have all' : ∀ t, s ≤ t → t ≤ e → f' t = v := fun t t1 t2 => by
        have h1 := go t t1 t2
        rw [gat t t1 t2] at h1
        exact Go.uniq T (by decide) og (show 0 ≤ gm by omega) h1 gv
      have ex1 := s1 _ _ ex
      refine ⟨_, rfl, p, CS, dx, _, _, rfl, ex1, TS.cl, TS.nR, stF_r _, _, rfl, p, CS, dx, _, _, rfl, ex1, TS.cl, TS.nL, stF_l _, _, rfl, p, CS, dx, _, _, rfl, ex1, TS.cl, TS.nG, stF_g _, _, rfl, _, rfl, fun pS dS nS ndS neS => ⟨pS, dS, (((k : Nat) : Int), ((s : Nat) : Int), ((e : Nat) : Int), th, th), rfl, upd_same, fun G2 PS keep => ⟨rfl, (by show 1 ≤ sizeLine; decide), fun pl hpl => ?_⟩⟩⟩
      have s2 := made_same nS ndS keep
      have s3 := Same.new (o := .lst [.ref pS]) hpl
      have s13 := s1.trans (s2.trans s3)
      have pv3 := (pv.same s2).same s3
      have hplH : H pl = none := by
        cases z : H pl with
        | none => rfl
        | some o =>
          have := (s1.trans s2) _ _ z
          rw [hpl] at this
          cases this
      refine kont pl [pS] _ [(s, e)] s13 upd_same (.cons ⟨th, th, PS.same s3, by show PlaceAt CP _ th (keyF fs 1 (f' s)); rw [all' s (Nat.le_refl _) (by omega)]; exact pv3, by show PlaceAt CP _ th (keyF fs 1 (f' e)); rw [all' e (by omega) (Nat.le_refl _)]; exact pv3⟩ .nil) ⟨rfl, se, rfl⟩ (by show 1 ≤ 3; decide) (fun z hz => ?_) hplH
      rw [List.mem_singleton.mp hz]
      exact .inl fun t t1 t2 => by rw [all' t t1 t2, all' s (Nat.le_refl _) (by omega)]
    · rw [decide_eq_false (fun z => eq (key_inj T TG.n2 os oe z))]
      have geo : Geo fs (e - s) (fun t => f (s + t)) := by
        rcases pw with h | h
        · exact absurd (h e (by omega) (Nat.le_refl _)).symm eq
        · exact h
      have eN : s + (e - s) = e := by omega
      refine iteF ⟨_, rfl, _, rfl, _, rfl, x, p, q, n, ps, fs, (((k : Nat) : Int), ((s : Nat) : Int), ((e : Nat) : Int), a, b), (gk, gi, gm), e - s, (fun t => f (s + t)), (fun t => f' (s + t)), rfl, TA, TG, ⟨dx, ex⟩, P1, by show PlaceAt CP H b (keyF fs 1 (f (s + (e - s)))); rw [eN]; exact P2, ⟨gp, ⟨dm, em⟩, pg⟩, okg, geo, by show ((e : Nat) : Int) - ((s : Nat) : Int) = ((e - s : Nat) : Int); omega, fun t ht => go (s + t) (by omega) (by omega), fun l ts G1 lo hi s1 lh hc g1 g2 g3 hl mk => ?_⟩
      obtain ⟨t0, t1, t2, t3, rfl, m0, m2, m3, m4⟩ : ∃ t0 t1 t2 t3, ts = [t0, t1, t2, t3] ∧ MkAt CP fs G1 t0 (0, f' (s + 0)) ∧ MkAt CP fs G1 t1 (lo, f' (s + lo)) ∧ MkAt CP fs G1 t2 (hi, f' (s + hi)) ∧ MkAt CP fs G1 t3 (e - s, f' (s + (e - s))) := by
        cases mk with
        | cons h1 r1 => cases r1 with
          | cons h2 r2 => cases r2 with
            | cons h3 r3 => cases r3 with
              | cons h4 r4 =>
                cases r4
                exact ⟨_, _, _, _, rfl, h1, h2, h3, h4⟩
      dsimp only [gName]
      -- zip(marks, marks[1:])
      refine ⟨_, rfl, _, rfl, _, rfl, l, _, rfl, SqL.of hl, fun D3 h3 => ?_⟩
      have s3 : Same G1 (upd G1 D3 (.lst [.ref t1, .ref t2, .ref t3])) := Same.new h3
      rw [show cutV ([t0, t1, t2, t3].map V.ref) (some 1) none = [.ref t1, .ref t2, .ref t3] from rfl]
      have e3 : upd G1 D3 (.lst [.ref t1, .ref t2, .ref t3]) D3 = some (.lst [.ref t1, .ref t2, .ref t3]) := upd_same
      have hl3 := s3 _ _ hl
      have n0 := m0.same s3
      have n1 := m2.same s3
      have n2 := m3.same s3
      have n3 := m4.same s3
      have s13 := s1.trans s3
      have ex3 := s13 _ _ ex
      clear m0 m2 m3 m4 hl mk
      generalize upd G1 D3 (.lst [.ref t1, .ref t2, .ref t3]) = G2 at e3 hl3 n0 n1 n2 n3 s13 ex3 ⊢
      refine ⟨l, D3, _, _, rfl, SqL.of hl3, SqL.of e3, fun D hD => ?_⟩
      obtain ⟨bd, b0, b1, b2, b3⟩ : ∃ bd : Nat → Nat, bd 0 = 0 ∧ bd 1 = lo ∧ bd 2 = hi ∧ bd 3 = e - s := ⟨fun i => [0, lo, hi, e - s].getD i 0, rfl, rfl, rfl, rfl⟩
      have hlH : ∀ {G : Hp} {pp : Addr}, Same H G → G pp = none → H pp = none := fun {G pp} sG hp => by
        cases z : H pp with
        | none => rfl
        | some o =>
          have := sG _ _ z
          rw [hp] at this
          cases this
      have tup : ∀ i, i < 3 → ∃ ti tj, [V.ref t0, V.ref t1, V.ref t2, V.ref t3][i]? = some (.ref ti) ∧ [V.ref t1, V.ref t2, V.ref t3][i]? = some (.ref tj) ∧ MkAt CP fs G2 ti (bd i, f' (s + bd i)) ∧ MkAt CP fs G2 tj (bd (i + 1), f' (s + bd (i + 1))) ∧ bd i ≤ bd (i + 1) ∧ bd (i + 1) ≤ e - s ∧ (bd i < bd (i + 1) → Pw fs f' (s + bd i) (s + bd (i + 1))) := fun i hi' => by
        have hc' : i = 0 ∨ i = 1 ∨ i = 2 := by omega
        rcases hc' with rfl | rfl | rfl
        · refine ⟨t0, t1, rfl, rfl, by rw [b0]; exact n0, by rw [b1]; exact n1, by show bd 0 ≤ bd 1; omega, by show bd 1 ≤ e - s; omega, fun _ => .inr ?_⟩
          rw [b0, b1, show s + lo - (s + 0) = lo by omega]
          exact g1
        · refine ⟨t1, t2, rfl, rfl, by rw [b1]; exact n1, by rw [b2]; exact n2, by show bd 1 ≤ bd 2; omega, by show bd 2 ≤ e - s; omega, fun lt => .inl fun t h1 h2 => ?_⟩
          rw [b1] at h1 lt ⊢
          rw [b2] at h2 lt
          have a1 := g3 lt (t - s) (by omega) (by omega)
          have a2 := g3 lt lo (Nat.le_refl _) (by omega)
          have a1 : f' (s + (t - s)) = _ := a1
          have a2 : f' (s + lo) = _ := a2
          rw [show s + (t - s) = t by omega] at a1
          rw [a1, a2]
        · refine ⟨t2, t3, rfl, rfl, by rw [b2]; exact n2, by rw [b3]; exact n3, by show bd 2 ≤ bd 3; omega, by show bd 3 ≤ e - s; omega, fun _ => .inr ?_⟩
          rw [b2, b3, show s + (e - s) - (s + hi) = e - s - hi by omega]
          have g2 : Geo fs (e - s - hi) (fun t => f' (s + (hi + t))) := g2
          have e' : (fun t => f' (s + hi + t)) = fun t => f' (s + (hi + t)) := funext fun t => by rw [Nat.add_assoc]
          rw [e']
          exact g2
      clear n0 n1 n2 n3 g1 g2 g3
      refine lc_it (walk_zip (K := K) (a := l) (b := D3) (n := 3) rfl) (fun i Gc => ∃ (ls : List Addr) (L : List (Nat × Nat)), Gc D = some (.lst (ls.map V.ref)) ∧ Same G2 Gc ∧ Paired (SpAt CS CP fs Gc k f') ls L ∧ Cov s (s + bd i) L ∧ L.length ≤ i ∧ ∀ z ∈ L, Pw fs f' z.1 z.2)
        ⟨[], [], upd_same, Same.new hD, .nil, by rw [b0]; rfl, Nat.le_refl _, fun z hz => (by cases hz)⟩ (fun i Gc _ ⟨_, _, _, sc, _⟩ => ⟨SqL.of (sc _ _ hl3), SqL.of (sc _ _ e3)⟩) ?_ ?_
      · rintro i v Gc G' hi' ⟨ls, L, gD, sc, pls, cov, ll, pws⟩ ⟨T', x1, y1, rfl, hT, rfl, hx1, hy1⟩
        obtain ⟨ti, tj, q1, q2, ⟨pi, ei, pli⟩, ⟨pj, ej, plj⟩, le1, le2, pwi⟩ := tup i hi'
        have hx1 : [V.ref t0, V.ref t1, V.ref t2, V.ref t3][i]? = some x1 := hx1
        have hy1 : [V.ref t1, V.ref t2, V.ref t3][i]? = some y1 := hy1
        rw [q1] at hx1
        rw [q2] at hy1
        cases hx1
        cases hy1
        have sT := Same.new (o := .tup [.ref ti, .ref tj]) hT
        have s2T := sc.trans sT
        have gDT := sT _ _ gD
        have exT := s2T _ _ ex3
        refine ⟨T', _, rfl, SqT.of upd_same, rfl, _, _, rfl, ti, _, rfl, SqT.of (s2T _ _ ei), rfl, _, _, rfl, _, _, rfl, rfl, _, _, rfl, tj, _, rfl, SqT.of (s2T _ _ ej), rfl, _, _, rfl, _, _, rfl, rfl, rfl, rfl, ?_⟩
        refine ⟨_, rfl, _, rfl, _, _, rfl, rfl, _, rfl, ?_⟩
        by_cases lt : bd i < bd (i + 1)
        · rw [decide_eq_true (show ((bd i : Nat) : Int) < ((bd (i + 1) : Nat) : Int) by omega)]
          refine iteT ⟨_, rfl, p, CS, dx, _, _, rfl, exT, TS.cl, TS.nR, stF_r _, _, rfl, p, CS, dx, _, _, rfl, exT, TS.cl, TS.nL, stF_l _, _, rfl, _, _, rfl, rfl, _, rfl, p, CS, dx, _, _, rfl, exT, TS.cl, TS.nL, stF_l _, _, rfl, _, _, rfl, rfl, _, rfl, _, rfl, fun pS dS nS ndS neS => ⟨pS, dS, (((k : Nat) : Int), ((s : Nat) : Int) + ((bd i : Nat) : Int), ((s : Nat) : Int) + ((bd (i + 1) : Nat) : Int), pi, pj), rfl, upd_same, fun G5 PS keep => ⟨rfl, ?_⟩⟩⟩
          have s5 := made_same nS ndS keep
          have s25 := s2T.trans s5
          have gD5 := s5 _ _ gDT
          have kput : Kp G5 (upd G5 D (.lst (ls.map V.ref ++ [.ref pS]))) := .put gD5
          have spn : SpAt CS CP fs G5 k f' pS (s + bd i, s + bd (i + 1)) := ⟨pi, pj, by
            obtain ⟨d, h⟩ := PS
            refine ⟨d, ?_⟩
            rw [h]
            show some (HO.ins CS d (stF (((k : Nat) : Int), ((s : Nat) : Int) + ((bd i : Nat) : Int), ((s : Nat) : Int) + ((bd (i + 1) : Nat) : Int), pi, pj))) = some (HO.ins CS d (stF (((k : Nat) : Int), ((s + bd i : Nat) : Int), ((s + bd (i + 1) : Nat) : Int), pi, pj)))
            rw [Int.natCast_add, Int.natCast_add], pli.same s25, plj.same s25⟩
          refine ⟨ls.map V.ref, gD5, small1000 (by rw [List.length_map, Paired.length pls]; omega), ls ++ [pS], L ++ [(s + bd i, s + bd (i + 1))], by rw [List.map_append]; exact upd_same, fun b o e => ?_, paired_app (Paired.mapP pls fun _ _ h => ((h.same sT).same s5).kp kput) (.cons (spn.kp kput) .nil), cov.snoc (by omega), by rw [List.length_append]; show L.length + 1 ≤ _; omega, fun z hz => ?_⟩
          · rw [upd_ne (ne_of_none e hD)]
            exact s25 _ _ e
          · rcases List.mem_append.mp hz with h | h
            · exact pws z h
            · rw [List.mem_singleton.mp h]
              exact pwi lt
        · rw [decide_eq_false (show ¬ ((bd i : Nat) : Int) < ((bd (i + 1) : Nat) : Int) by omega)]
          have eb : bd (i + 1) = bd i := by omega
          exact iteF ⟨ls, L, gDT, s2T, Paired.mapP pls fun _ _ h => h.same sT, by rw [eb]; exact cov, by omega, pws⟩
      · rintro G6 ⟨ls, L, gD, sc, pls, cov, ll, pws⟩
        rw [b3, eN] at cov
        exact kont D ls G6 L (s13.trans sc) gD pls cov ll pws (hlH s13 hD)
end
end OT
set_option Elab.async false
set_option linter.all false
set_option maxRecDepth 100000
set_option maxHeartbeats 4000000
namespace OT
open PySem L2 OTR
abbrev sWideI : Stmt := inClass (top 10) 0
abbrev sStretchesA : Stmt := top 44
abbrev sDoing : Stmt := top 43
/-- a walk over a list, whatever is done with its items -/
theorem it_list {K : PySem.W.Frag} {a : Addr} {xs : List V} {B : V → Hp → (Hp → Prop) → Prop} {H0 : Hp} {Qd : Hp → Prop} (Pv : Nat → Hp → Prop) (h0 : Pv 0 H0) (hl : ∀ i H, i ≤ xs.length → Pv i H → SqL K H a xs)
    (hs : ∀ i x H, xs[i]? = some x → Pv i H → B x H (Pv (i + 1))) (hd : ∀ H, Pv xs.length H → Qd H) :
    ∃ W : Nat → Nat → Hp → Prop, (∃ m, W 0 m H0) ∧ ∀ i m H, W i m H →
      ((Itl K a).stop i H ∧ Qd H) ∨ ((Itl K a).go i H ∧ ∃ Nx : Hp → Prop, (∀ H', Nx H' → ∃ m', m' < m ∧ W (i + 1) m' H') ∧ ∀ x H', (Itl K a).yld i H x H' → B x H' Nx) := by
  refine ⟨fun i m H => m = xs.length - i ∧ i ≤ xs.length ∧ Pv i H, ⟨xs.length, by simp, Nat.zero_le _, h0⟩, ?_⟩
  rintro i m H ⟨rfl, hi, p⟩
  have q := hl i H hi p
  by_cases hlt : i < xs.length
  · refine .inr ⟨⟨xs, xs[i], q, by simp [hlt]⟩, Pv (i + 1), fun H' p' => ⟨xs.length - (i + 1), by omega, rfl, hlt, p'⟩, fun x H' y => ?_⟩
    obtain ⟨e, y⟩ := y
    subst e
    exact hs i x _ (y xs q) p
  · have e : i = xs.length := by omega
    subst e
    exact .inl ⟨⟨xs, q, Nat.le_refl _⟩, hd H p⟩
theorem iteTd {p : Prop} [Decidable p] {A B : Prop} (h : p) (a : A) : if decide p = true then A else B := by rw [if_pos (decide_eq_true h)]; exact a
theorem iteFd {p : Prop} [Decidable p] {A B : Prop} (h : ¬ p) (b : B) : if decide p = true then A else B := by rw [if_neg (fun z => h (of_decide_eq_true z))]; exact b
theorem Cov.mem {e : Nat} : ∀ {L : List (Nat × Nat)} {s : Nat}, Cov s e L → ∀ z ∈ L, s ≤ z.1 ∧ z.1 < z.2 ∧ z.2 ≤ e
  | [], s, _, z, h => by cases h
  | y :: L, s, ⟨h1, h2, h3⟩, z, h => by
    have l := h3.le.1
    rcases List.mem_cons.mp h with q | h
    · subst q
      omega
    · have := h3.mem z h
      omega
def spStretchesA (K : PySem.W.Frag) (CT CR CM CP CS CWd : Addr) : Sp := fun vs H Q E => ∃ (x a : Addr) (n : Int) (ps : List Addr) (F : List Fact) (ms : List Addr) (gs : List MG), vs = [.ref x, .ref a] ∧ TreeAt K CT CR H x n ps F ∧ TreeG n F ∧ SqT K H a (ms.map V.ref) ∧ MasAt CM CP H ms (gs.map mf) ∧ (∀ g ∈ gs, MgOk F g) ∧
  (∀ j f M, j ≤ gs.length → Img F (gs.take j) f → JOk F f (0, 0) (F.length, 0) M → 400 < M.length → Raised CWd [("count", .int 401)] H E) ∧
  (∀ D us M f H', Same H H' → H D = none → H' D = some (.lst (us.map V.ref)) → Img F gs f → Paired (SpL CS CP F f H') us M → JOk F f (0, 0) (F.length, 0) M → M.length ≤ 400 → Q (.ref D) H')
def spDoing (K : PySem.W.Frag) (CT CR CM CP CS CW CWd : Addr) : Sp := fun vs H Q E => ∃ (r x : Addr) (n : Int) (ps : List Addr) (F : List Fact) (ms : List Addr) (gs : List MG), vs = [.ref r] ∧ RowAt K CW H r x ms ∧ TreeAt K CT CR H x n ps F ∧ TreeG n F ∧ MasAt CM CP H ms (gs.map mf) ∧ (∀ g ∈ gs, MgOk F g) ∧
  (∀ j f M, j ≤ gs.length → Img F (gs.take j) f → JOk F f (0, 0) (F.length, 0) M → 400 < M.length → Raised CWd [("count", .int 401)] H E) ∧
  (∀ D us M f H', Same H H' → H D = none → H' D = some (.lst (us.map V.ref)) → Img F gs f → Paired (SpL CS CP F f H') us M → JOk F f (0, 0) (F.length, 0) M → M.length ≤ 400 → Q (.ref D) H')
section
variable {P : Program} {w : World} {K : PySem.W.Frag} {mg : Str → Option Value} {base : Heap}
theorem scWideI : FnScope ["self", "count"] ["self", "count"] (defScope sWideI) := ⟨rfl, rfl, rfl, by decide +kernel, rfl, by decide +kernel, by decide +kernel⟩
theorem ok_wideI {f C : Addr} {fd : FuncData} (F : Fun K "__init__" "Wide.__init__" sWideI f fd) (T : OexC K C) (n1 : PySem.W.findIn K (.ref C) "count" = some none) : FnOk P w K mg base CX0 1 f fd ["self", "count"] (spEr1 C "count") := by
  refine F.ok scWideI (fun vs H Q E h => ?_) (fun cdv A outer s H vs Q E hr h => ?_)
  · obtain ⟨a, v, rfl, _⟩ := h
    rfl
  · obtain ⟨a, v, rfl, ha, k⟩ := h
    refine ⟨_, pss_one (ps_ost (pv 0) (pv 1)), ?_⟩
    exact ⟨_, rfl, _, rfl, a, C, rfl, T, n1, .inl ⟨ha, fun dx n ne => k dx n ne⟩⟩
abbrev nStretchesA : List Str := ["tree", "marches", "found", "march", "number", "road", "stretch", "part"]
theorem scStretchesA : FnScope nStretchesA ["tree", "marches"] (defScope sStretchesA) := ⟨rfl, rfl, rfl, by decide +kernel, rfl, by decide +kernel, by decide +kernel⟩
theorem ok_stretchesA {f0 fCO fMA fJO fSI fWd CT CR CM CP CS CN CWd : Addr} {fd fdCO fdMA fdJO fdSI fdWd : FuncData} (F0 : Fun K "stretches_after" "stretches_after" sStretchesA f0 fd) (TS : StT K mg CS) (TT : TeT K mg CT) (TR : RdT K mg CR) (TWd : ErT K mg "Wide" CWd fWd)
    (FWd : FnOk P w K mg base CX0 1 fWd fdWd ["self", "count"] (spEr1 CWd "count")) (bWd : Binds K fdWd ["self", "count"] [])
    (FCO : FnOk P w K mg base (L2.CX P w) 5 fCO fdCO ["tree", "crossing"] (spCorner K CT CR CP CN)) (bCO : Binds K fdCO ["tree", "crossing"] []) (mCO : mg "corner" = some (.ref fCO)) (kCO : PySem.W.keepIn K (.ref fCO) = true)
    (FMA : FnOk P w K mg base CX0 9 fMA fdMA ["tree", "stretch", "march"] (spMarched K CT CR CM CP CS)) (bMA : Binds K fdMA ["tree", "stretch", "march"] []) (mMA : mg "marched" = some (.ref fMA)) (kMA : PySem.W.keepIn K (.ref fMA) = true)
    (FJO : FnOk P w K mg base CX0 7 fJO fdJO ["tree", "stretches"] (spJoinedP K CT CR CP CS)) (bJO : Binds K fdJO ["tree", "stretches"] []) (mJO : mg "joined" = some (.ref fJO)) (kJO : PySem.W.keepIn K (.ref fJO) = true)
    (MSI : Mk K CS fSI) (FSI : FnOk P w K mg base CX0 1 fSI fdSI ["self", "road", "least", "greatest", "first", "last"] (spStretchI CS)) (bSI : Binds K fdSI ["self", "road", "least", "greatest", "first", "last"] [])
    (hMost : ∃ t, mg "MOST_STRETCHES" = some (.int 400 t)) (hEn : mg "enumerate" = none) (hLen : mg "len" = none) : FnOk P w K mg base (L2.CX P w) 10 f0 fd ["tree", "marches"] (spStretchesA K CT CR CM CP CS CWd) := by
  refine F0.okX scStretchesA (fun vs H Q E h => ?_) (fun cdv A outer s0 H vs Q E hr h => ?_)
  · obtain ⟨x, a, n, ps, fs, ms, gs, rfl, _⟩ := h
    rfl
  · obtain ⟨x, a, n, ps, fs, ms, gs, rfl, TA, TG, hS, hM, okg, wide, kont⟩ := h
    obtain ⟨tm, hMost⟩ := hMost
    have T := TG.m
    have hr2 : Room 2 _ := hr.mono (by decide)
    have hr5 : Room 5 _ := hr.mono (by decide)
    have hr7 : Room 7 _ := hr.mono (by decide)
    have hr9 : Room 9 _ := hr.mono (by decide)
    refine ⟨_, pss_cons (ps_setLc (i := 2) (own := [("number", 4), ("road", 5)]) (g := gTup K 2 (gCons (gName 4) (gCons (gName 5) gNil))) (tt := tYes) (te := tMake CS (spStretchI CS) [] L2.E0 (tCons (tVar 4) (tCons (tC (.int 0)) (tCons (tFld K (tVar 5) "length") (tCons (tCall (spCorner K CT CR CP CN) [] L2.E0 (tCons (tVar 0) (tCons (tFld K (tVar 5) "a") tNil))) (tCons (tCall (spCorner K CT CR CP CN) [] L2.E0 (tCons (tVar 0) (tCons (tFld K (tVar 5) "b") tNil))) tNil)))))) rfl scStretchesA.nd rfl rfl (sw_true rfl rfl rfl (by decide +kernel)) (pi_enumT (by rfl) hEn (pa_cons (pe_fld (pv 0) rfl) pa_nil))
        (blkOk_by (own := [("number", 4), ("road", 5)]) (N := nStretchesA) (sc := defScope sStretchesA) (by decide +kernel))
        (fun _ _ _ _ _ => (pg_tup rfl (pgs_cons (pg_name (i := 4) scStretchesA.nd rfl (Or.inl rfl)) (pgs_cons (pg_name (i := 5) scStretchesA.nd rfl (Or.inl rfl)) pgs_nil)))) (fun _ _ _ _ _ => pts_nil)
        (fun _ _ _ _ _ => (pe_make MSI FSI hr2 (by rfl) TS.mgC bSI .nil pass0 (pa_cons (pv 4) (pa_cons pe_int (pa_cons (pe_fld (pv 5) rfl) (pa_cons (pe_call FCO hr5 rfl mCO kCO bCO .nil passF (pa_cons (pv 0) (pa_cons (pe_fld (pv 5) rfl) pa_nil))) (pa_cons (pe_call FCO hr5 rfl mCO kCO bCO .nil passF (pa_cons (pv 0) (pa_cons (pe_fld (pv 5) rfl) pa_nil))) pa_nil))))))))
      (pss_cons (ps_for (passes_of rfl) rfl (pi_tup (pv 1)) (pg_name (i := 3) scStretchesA.nd rfl (Or.inr rfl))
        (pss_cons (ps_set (i := 2) scStretchesA.nd rfl (Or.inl rfl) (pe_call FJO hr7 rfl mJO kJO bJO .nil pass0 (pa_cons (pv 0) (pa_cons
          (pe_lc2 (own := [("stretch", 6), ("part", 7)]) (vs1 := [7]) (g := gName 6) (tt := tYes) (wi1 := iList K (tCall (spMarched K CT CR CM CP CS) [] L2.E0 (tCons (tVar 0) (tCons (tVar 6) (tCons (tVar 3) tNil))))) (g1 := gName 7) (tt1 := tYes) (te := tVar 7) rfl scStretchesA.nd (pi_list (pv 2))
            (blkOk_by (own := [("stretch", 6), ("part", 7)]) (N := nStretchesA) (sc := defScope sStretchesA) (by decide +kernel)) (by decide)
            (fun _ _ _ _ _ => (pg_name (i := 6) scStretchesA.nd rfl (Or.inl rfl))) (fun _ _ _ _ _ => pts_nil)
            (fun _ _ _ _ _ => (pi_list (pe_call FMA hr9 rfl mMA kMA bMA .nil pass0 (pa_cons (pv 0) (pa_cons (pv 6) (pa_cons (pv 3) pa_nil))))))
            (fun _ _ _ _ _ => (pg_name (i := 7) scStretchesA.nd rfl (Or.inl rfl))) (fun _ _ _ _ _ => pts_nil) (fun _ _ _ _ _ => pv 7)) pa_nil))))
        (pss_one (ps_if (pt_cmpR op_gt (pe_callB call_len (by rfl) hLen (by decide +kernel) (pa_cons (pv 2) pa_nil)) (pe_glob (v := V.int 400) rfl hMost ⟨tm, rfl⟩) (nomark _))
          (pss_one (ps_raise rfl (takes_of rfl rfl rfl rfl) (pmk_oex TWd.ox TWd.iC TWd.tI FWd hr2 bWd .nil pass0 (by rfl) TWd.gC (pa_cons (pe_op op_add (pe_glob (v := V.int 400) rfl hMost ⟨tm, rfl⟩) pe_int) pa_nil)))) pss_nil))))
      (pss_one (ps_ret (pv 2)))), ?_⟩
    obtain ⟨dx, t, d, kvs, ea, et, rds, _⟩ := id TA
    have pl : (ps.map V.ref).length = fs.length := by rw [List.length_map]; exact rds.len
    have l23 : fs.length ≤ 23 := by have := TG.len; have := TG.n24; omega
    -- found = [Stretch(number, 0, road.length, ..) for number, road in enumerate(tree.roads)]
    refine ⟨_, rfl, x, CT, dx, _, _, rfl, ea, TT.cl, TT.nR, teF_r n t d, t, _, rfl, et, fun D hD => lc_it (walk_enumT (K := K) (a := t) (xs := ps.map V.ref)) (fun i Gc => ∃ us : List Addr, Gc D = some (.lst (us.map V.ref)) ∧ Same H Gc ∧ Paired (SpL CS CP fs (fun k t => node fs 1 k ((t : Nat) : Int)) Gc) us ((List.range i).map (bsI fs)))
      ⟨[], upd_same, Same.new hD, .nil⟩ (fun i Gc _ ⟨_, _, sc, _⟩ => sqT_same et sc) ?_ ?_⟩
    · rintro i v Hc H' hi ⟨us, hl, sc, pr⟩ ⟨T', x1, y1, rfl, hT, rfl, hx1, hy1⟩
      cases hx1
      rw [pl] at hi
      obtain ⟨q, hq, rfl⟩ := map_get (show (ps.map V.ref)[i]? = some y1 from hy1)
      obtain ⟨r, hr', hrd⟩ := rds.get hq
      have er : rd fs i = r := rd_of hr'
      obtain ⟨ok1, ok2, ok3, ok4⟩ := rd_ok T hi
      rw [er] at ok1 ok2 ok3
      have sT := Same.new (o := .tup [.int (i : Nat), .ref q]) hT
      have s1 : Same H (upd Hc T' (.tup [.int (i : Nat), .ref q])) := sc.trans sT
      have gD1 := sT _ _ hl
      obtain ⟨dq, eq⟩ := hrd.same s1
      refine ⟨T', _, rfl, SqT.of upd_same, rfl, _, _, rfl, _, _, rfl, rfl, rfl, ?_⟩
      unfold tYes
      refine iteT ⟨_, rfl, _, rfl, q, CR, dq, _, _, rfl, eq, TR.cl, TR.nL, rdF_l r, _, rfl, _, rfl, q, CR, dq, _, _, rfl, eq, TR.cl, TR.nA, rdF_a r, x, n, ps, fs, r.1, rfl, TA.same s1, TG, fun z => absurd ok1 z, fun _ p1 H1 s2 n1 pl1 => ?_⟩
      refine ⟨_, rfl, _, rfl, q, CR, dq, _, _, rfl, s2 _ _ eq, TR.cl, TR.nB, rdF_b r, x, n, ps, fs, r.2.1, rfl, (TA.same s1).same s2, TG, fun z => absurd ok2 z, fun _ p2 H2 s3 n2 pl2 => ?_⟩
      refine fun pS dS nS ndS neS => ⟨pS, dS, (((i : Nat) : Int), 0, r.2.2, p1, p2), rfl, upd_same, fun G5 PS keep => ⟨rfl, ?_⟩⟩
      have s5 := made_same nS ndS keep
      have s25 := s2.trans (s3.trans s5)
      have gD5 := s25 _ _ gD1
      have kput : Kp G5 (upd G5 D (.lst (us.map V.ref ++ [.ref pS]))) := .put gD5
      have esz : sz fs 1 i = r.2.2 := by unfold sz; rw [er, Int.mul_one]
      have spn : SpL CS CP fs (fun k t => node fs 1 k ((t : Nat) : Int)) G5 pS (bsI fs i) := by
        refine ⟨p1, p2, ?_, ?_, ?_⟩
        · have e1 : (((bsI fs i).2.2 : Nat) : Int) = r.2.2 := by
            show (((sz fs 1 i).toNat : Nat) : Int) = r.2.2
            rw [esz, Int.toNat_of_nonneg (by omega)]
          show StAt CS G5 pS (((i : Nat) : Int), ((0 : Nat) : Int), (((bsI fs i).2.2 : Nat) : Int), p1, p2)
          rw [e1]
          exact PS
        · have e1 : node fs 1 i ((0 : Nat) : Int) = .cr r.1 := by
            unfold node
            rw [if_pos (show ((0 : Nat) : Int) = 0 from rfl), er]
          show PlaceAt CP G5 p1 (keyF fs 1 (node fs 1 i ((0 : Nat) : Int)))
          rw [e1]
          exact (pl1.same s3).same s5
        · have e1 : node fs 1 i (((sz fs 1 i).toNat : Nat) : Int) = .cr r.2.1 := by
            unfold node
            rw [Int.toNat_of_nonneg (by omega), if_neg (by omega), if_pos rfl, er]
          show PlaceAt CP G5 p2 (keyF fs 1 (node fs 1 i (((sz fs 1 i).toNat : Nat) : Int)))
          rw [e1]
          exact pl2.same s5
      refine ⟨us.map V.ref, gD5, small1000 (by rw [List.length_map, Paired.length pr, List.length_map, List.length_range]; omega), us ++ [pS], by rw [List.map_append]; exact upd_same, fun b o e => ?_, ?_⟩
      · rw [upd_ne (ne_of_none e hD)]
        exact s25 _ _ (s1 b o e)
      · rw [List.range_succ, List.map_append]
        exact paired_app (Paired.mapP pr fun _ _ h => SpAt.kp (SpAt.same (SpAt.same h sT) s25) kput) (.cons (SpAt.kp spn kput) .nil)
    · rintro H4 ⟨us, gD, s4, pr⟩
      rw [pl] at pr
      dsimp only [gName]
      have lenE : (ms.map V.ref).length = gs.length := by rw [List.length_map, Paired.length hM, List.length_map]
      -- for march in marches
      refine ⟨_, rfl, a, rfl, ⟨_, sqT_same hS s4⟩, for_tup (K := K) (a := a) (xs := ms.map V.ref) (fun j σ G => ∃ (v3 : Option V) (D : Addr) (us : List Addr) (M : List It) (f : Nat → Nat → Nd), σ = [some (.ref x), some (.ref a), some (.ref D), v3, none, none, none, none] ∧ Same H G ∧ H D = none ∧ G D = some (.lst (us.map V.ref)) ∧ Img fs (gs.take j) f ∧ Paired (SpL CS CP fs f G) us M ∧ JOk fs f (0, 0) (fs.length, 0) M ∧ M.length ≤ 400)
        ⟨none, D, us, _, _, rfl, s4, hD, gD, Img.zero fs, pr, base_jok T TG.n2 (Nat.le_refl _), by rw [List.length_map, List.length_range]; omega⟩ (fun j σ G _ ⟨_, _, _, _, _, _, sg, _⟩ => sqT_same hS sg) ?_ ?_⟩
      · clear gD s4 pr hD
        rintro j y σ G hj ⟨v3, D, us, M, f, rfl, sg, hD, gD, im, pr, jo, ml⟩
        obtain ⟨q, hq, rfl⟩ := map_get hj
        obtain ⟨m, hm, maq⟩ := paired_get hM hq
        obtain ⟨g, hg, rfl⟩ := map_get hm
        have og := okg g (List.mem_of_getElem? hg)
        have okt : ∀ y ∈ gs.take j, MgOk fs y := fun y hy => okg y (List.mem_of_mem_take hy)
        obtain ⟨f', im', go⟩ := Img.next T TG.n2 (x := g) okt im
        rw [← take_get hg] at im'
        have okt' : ∀ y ∈ gs.take (j + 1), MgOk fs y := fun y hy => okg y (List.mem_of_mem_take hy)
        have TAg := TA.same sg
        have maG := maq.same sg
        -- found = joined(tree, [part for stretch in found for part in marched(tree, stretch, march)])
        dsimp only [gName]
        refine ⟨_, rfl, _, rfl, D, rfl, ⟨_, SqL.of gD⟩, fun D2 hD2 => it_list (K := K) (a := D) (xs := us.map V.ref) (fun i Gc => ∃ (ws : List Addr) (A : List It) (st : Nat × Nat), Gc D2 = some (.lst (ws.map V.ref)) ∧ Same G Gc ∧ Paired (SpL CS CP fs f' Gc) ws A ∧ CovS fs (0, 0) st A ∧ CovS fs st (fs.length, 0) (M.drop i) ∧ (∀ z ∈ A, ItOk fs f' z) ∧ A.length ≤ 3 * i)
          ⟨[], [], _, upd_same, Same.new hD2, .nil, rfl, jo.cov, fun z hz => (by cases hz), Nat.le_refl _⟩ (fun i Gc _ ⟨_, _, _, _, sc, _⟩ => SqL.of (sc _ _ gD)) ?_ ?_⟩
        · rintro i y Gc hi ⟨ws, B, st, gD2, sc, prB, cv1, cv2, okB, bl⟩
          obtain ⟨u, hu, rfl⟩ := map_get hi
          obtain ⟨z, hz, sz0⟩ := paired_get pr hu
          have il := (List.getElem?_eq_some_iff.mp hz).1
          have ed : M.drop i = z :: M.drop (i + 1) := by
            rw [List.drop_eq_getElem_cons il]
            congr 1
            exact (List.getElem?_eq_some_iff.mp hz).2
          have zin := CovS.in_ cv2 z (by rw [ed]; exact List.mem_cons_self ..)
          rw [ed] at cv2
          obtain ⟨e1, e2, cv3⟩ := cv2
          have oz := jo.ok z (List.mem_of_getElem? hz)
          obtain ⟨k, s, e⟩ := z
          dsimp only at zin e1 e2 cv3
          subst e1
          refine ⟨rfl, ?_⟩
          unfold tYes
          refine iteT ⟨_, rfl, _, rfl, _, rfl, x, u, q, n, ps, fs, g, k, s, e, f k, f' k, rfl, TAg.same sc, TG, SpAt.same sz0 sc, maG.same sc, og, e2, oz.pw, oz.on_, fun t t1 t2 => go k t zin.1 (by omega), fun l ts G1 L s1 hl pL cov l3 pws hlH => ?_⟩
          have gD21 := s1 _ _ gD2
          have nlD : l ≠ D2 := fun e => by rw [e, gD2] at hlH; cases hlH
          refine ⟨l, rfl, ⟨_, SqL.of hl⟩, it_list (K := K) (a := l) (xs := ts.map V.ref) (fun j' Gd => ∃ ws' : List Addr, Gd D2 = some (.lst (ws'.map V.ref)) ∧ (∀ b o, G1 b = some o → b ≠ D2 → Gd b = some o) ∧ Paired (SpL CS CP fs f' Gd) ws' (B ++ (L.take j').map fun w => (k, w.1, w.2)))
            ⟨ws, gD21, fun b o e _ => e, by rw [List.take_zero, List.map_nil, List.append_nil]; exact Paired.mapP prB fun _ _ h => SpAt.same h s1⟩ (fun j' Gd _ ⟨_, _, kd, _⟩ => SqL.of (kd _ _ hl nlD)) ?_ ?_⟩
          · rintro j' y Gd hj' ⟨ws', gd, kd, pd⟩
            obtain ⟨v, hv, rfl⟩ := map_get hj'
            obtain ⟨w, hw, sw⟩ := paired_get pL hv
            have jl := (List.getElem?_eq_some_iff.mp hw).1
            have kpd : Kp G1 Gd := fun b o e ne => kd b o e fun eb => ne _ (by rw [eb, gD21] at e; cases e; rfl)
            have kput : Kp Gd (upd Gd D2 (.lst (ws'.map V.ref ++ [.ref v]))) := .put gd
            have ll : (ws'.map V.ref).length ≤ 10000000 := by
              rw [List.length_map, Paired.length pd, List.length_append, List.length_map, List.length_take]
              omega
            refine ⟨rfl, iteT ⟨_, rfl, ws'.map V.ref, gd, small6 ll, ws' ++ [v], by rw [List.map_append]; exact upd_same, fun b o e ne => by rw [upd_ne ne]; exact kd b o e ne, ?_⟩⟩
            rw [take_get hw, List.map_append, ← List.append_assoc]
            exact paired_app (Paired.mapP pd fun _ _ h => SpAt.kp h kput) (.cons (SpAt.kp (SpAt.kp sw kpd) kput) .nil)
          · rintro Gd ⟨ws', gd, kd, pd⟩
            have tl : (ts.map V.ref).length = L.length := by rw [List.length_map]; exact Paired.length pL
            rw [tl, List.take_length] at pd
            refine ⟨ws', _, _, gd, fun b o e => ?_, pd, cv1.append (CovS.pieces zin.2 e2 cov), cv3, fun z hz => ?_, ?_⟩
            · have nb : b ≠ D2 := ne_of_none e hD2
              exact kd b o (s1 _ _ (sc b o e)) nb
            · rcases List.mem_append.mp hz with h | h
              · exact okB z h
              · obtain ⟨w, hw, rfl⟩ := List.mem_map.mp h
                obtain ⟨w1, w2, w3⟩ := cov.mem w hw
                exact ⟨w2, pws w hw, fun t t1 t2 => im'.on T TG.n2 okt' zin.1 (by have t2' : t ≤ w.2 := t2; show (t : Int) ≤ sz fs 1 k; omega)⟩
            · rw [List.length_append, List.length_map]
              omega
        · rintro Gc ⟨ws, B, st, gD2, sc, prB, cv1, cv2, okB, bl⟩
          have ul : (us.map V.ref).length = M.length := by rw [List.length_map]; exact Paired.length pr
          rw [ul, List.drop_length] at cv2
          cases (show st = (fs.length, 0) from cv2)
          rw [ul] at bl
          refine ⟨x, D2, n, ps, ws, fs, f', B, _, _, rfl, TAg.same sc, TG, gD2, prB, cv1, okB, by omega, fun D3 us' M' G4 s4 hD3 g4 pr4 jo4 ml4 => ?_⟩
          have sH4 := sg.trans (sc.trans s4)
          have hD3H : H D3 = none := by
            cases e : H D3 with
            | none => rfl
            | some o =>
              have := (sg.trans sc) _ _ e
              rw [hD3] at this
              cases this
          have lM : (us'.map V.ref).length = M'.length := by rw [List.length_map]; exact Paired.length pr4
          -- if len(found) > MOST_STRETCHES
          refine ⟨_, rfl, .ref D3, _, rfl, .inl ⟨_, SqL.of g4, rfl⟩, _, _, rfl, rfl, _, rfl, ?_⟩
          by_cases big : 400 < M'.length
          · refine iteTd (by rw [lM]; omega) ⟨_, _, rfl, rfl, len1, fun b hb => er1 hb ((wide (j + 1) f' M' ?_ im' jo4 big).mono sH4)⟩
            have := (List.getElem?_eq_some_iff.mp hg).1
            omega
          · refine iteFd (by rw [lM]; omega) ⟨_, D3, us', M', f', rfl, sH4, hD3H, g4, im', pr4, jo4, by omega⟩
      · rintro σ G ⟨v3, D, us, M, f, rfl, sg, hD, gD, im, pr, jo, ml⟩
        rw [lenE, List.take_length] at im
        exact ⟨_, rfl, kont D us M f G sg hD gD im pr jo ml⟩
abbrev nDoing : List Str := ["row"]
theorem scDoing : FnScope nDoing ["row"] (defScope sDoing) := ⟨rfl, rfl, rfl, by decide +kernel, rfl, by decide +kernel, by decide +kernel⟩
theorem ok_doing {f0 fSA CT CR CM CP CS CW CWd : Addr} {fd fdSA : FuncData} (F0 : Fun K "doing" "doing" sDoing f0 fd) (TW : RwT K mg CW)
    (FSA : FnOk P w K mg base (L2.CX P w) 10 fSA fdSA ["tree", "marches"] (spStretchesA K CT CR CM CP CS CWd)) (bSA : Binds K fdSA ["tree", "marches"] []) (mSA : mg "stretches_after" = some (.ref fSA)) (kSA : PySem.W.keepIn K (.ref fSA) = true) :
    FnOk P w K mg base (L2.CX P w) 11 f0 fd ["row"] (spDoing K CT CR CM CP CS CW CWd) := by
  refine F0.okX scDoing (fun vs H Q E h => ?_) (fun cdv A outer s0 H vs Q E hr h => ?_)
  · obtain ⟨r, x, n, ps, fs, ms, gs, rfl, _⟩ := h
    rfl
  · obtain ⟨r, x, n, ps, fs, ms, gs, rfl, ⟨dw, t, ew, et⟩, TA, TG, hM, okg, wide, kont⟩ := h
    refine ⟨_, pss_one (ps_ret (pe_call FSA hr rfl mSA kSA bSA .nil (passes_call (takes_of rfl rfl rfl rfl) fun _ _ _ _ h => h) (pa_cons (pe_fld (pv 0) rfl) (pa_cons (pe_fld (pv 0) rfl) pa_nil)))), ?_⟩
    exact ⟨_, rfl, r, CW, dw, _, _, rfl, ew, TW.cl, TW.nT, rwF_t x t, _, rfl, r, CW, dw, _, _, rfl, ew, TW.cl, TW.nM, rwF_m x t, x, t, n, ps, fs, ms, gs, rfl, TA, TG, et, hM, okg, wide, kont⟩
end
end OT
set_option Elab.async false
set_option linter.all false
set_option maxRecDepth 100000
set_option maxHeartbeats 4000000
namespace OT
open PySem L2 OTR
abbrev sCellF : Stmt := top 58
abbrev sBTree : Stmt := top 64
abbrev sRMarches : Stmt := top 65
abbrev sBRow : Stmt := top 66
def spCellF (K : PySem.W.Frag) : Sp := fun vs H Q _ => ∃ (a : Addr) (xs : List Int) (i : Nat), vs = [.ref a, .int ((i : Nat) : Int)] ∧ SqL K H a (xs.map V.int) ∧ Q (.int (xs[i]?.getD 0)) H
def spRMarches : Sp := fun vs H Q _ => ∃ (s p q : Addr) (n most far : Int) (F : List Fact), vs = [.ref s, .ref p, .int most] ∧ Src H s ∧ TrAt H p q n F ∧ 0 < F.length ∧ F.length ≤ 23 ∧ (∀ r ∈ F, 1 ≤ r.2.2 ∧ r.2.2 ≤ far) ∧
  0 ≤ most ∧ most ≤ 100 ∧ 12 ≤ far ∧ far ≤ 1000000000 ∧ ∀ q' fs H', H q' = none → FactsAt H' q' fs → (∀ r ∈ fs, MrOk F far r) → (fs.length : Int) ≤ most → Src H' s → But s H H' → Q (.ref q') H'
def spBRow (K : PySem.W.Frag) (CT CR CM CP CW : Addr) : Sp := fun vs H Q _ => ∃ (p q l : Addr) (n far : Int) (F gs : List Fact), vs = [.ref p, .ref l] ∧ TrAt H p q n F ∧ due n F = none ∧ TreeG n F ∧ F.length ≤ 23 ∧ FactsAt H l gs ∧ (∀ r ∈ gs, MrOk F far r) ∧ far ≤ 1000000000 ∧ gs.length ≤ 24 ∧
  ∀ r H' x ps ms, Same H H' → RowAt K CW H' r x ms → TreeAt K CT CR H' x n ps F → MasAt CM CP H' ms ((gs.map mg3).map mf) → Q (.ref r) H'
section
variable {P : Program} {w : World} {K : PySem.W.Frag} {mg : Str → Option Value} {base : Heap}
abbrev nCellF : List Str := ["_law_script", "_law_index"]
theorem scCellF : FnScope nCellF ["_law_script", "_law_index"] (defScope sCellF) := ⟨rfl, rfl, rfl, by decide +kernel, rfl, by decide +kernel, by decide +kernel⟩
theorem ok_cellF {f : Addr} {fd : FuncData} (F : Fun K "_law_cell" "_law_cell" sCellF f fd) (hLen : mg "len" = none) : FnOk P w K mg base CX0 1 f fd ["_law_script", "_law_index"] (spCellF K) := by
  refine F.ok scCellF (fun vs H Q E h => ?_) (fun cdv A outer s H vs Q E hr h => ?_)
  · obtain ⟨a, xs, i, rfl, _⟩ := h
    rfl
  · obtain ⟨a, xs, i, rfl, ha, k⟩ := h
    refine ⟨_, pss_cons (ps_if (pt_cmpR op_lt (pv 1) (pe_callB call_len (by rfl) hLen (by decide +kernel) (pa_cons (pv 0) pa_nil)) (nomark _))
        (pss_one (ps_ret (pe_ix ix_list (pv 0) (pv 1) (fun _ _ => rfl))))
        pss_nil)
      (pss_one (ps_ret pe_int)), ?_⟩
    refine ⟨_, rfl, _, rfl, _, _, rfl, .inl ⟨_, ha, rfl⟩, _, _, rfl, rfl, _, rfl, ?_⟩
    rw [List.length_map]
    by_cases h : i < xs.length
    · refine iteTd (by omega) ⟨_, rfl, _, rfl, a, _, _, .int xs[i], rfl, rfl, ha, atI_nat (by rw [List.getElem?_map, List.getElem?_eq_getElem h]; rfl), ?_⟩
      rw [List.getElem?_eq_getElem h] at k
      exact k
    · refine iteFd (by omega) ?_
      rw [List.getElem?_eq_none (by omega)] at k
      exact k
abbrev nBTree : List Str := ["_law_spec", "_law_a", "_law_b", "_law_length"]
theorem scBTree : FnScope nBTree ["_law_spec"] (defScope sBTree) := ⟨rfl, rfl, rfl, by decide +kernel, rfl, by decide +kernel, by decide +kernel⟩
theorem ok_bTree {f fR fT CR CT CB CN CG : Addr} {fd fdR fdT : FuncData} (F : Fun K "_law_build_tree" "_law_build_tree" sBTree f fd) (TR : RdT K mg CR) (TT : TeT K mg CT) (MR : Mk K CR fR) (MT : Mk K CT fT)
    (FR : FnOk P w K mg base CX0 1 fR fdR ["self", "a", "b", "length"] (spRoadI CR)) (bR : Binds K fdR ["self", "a", "b", "length"] [])
    (FT : FnOk P w K mg base (L2.CX P w) 5 fT fdT ["self", "crossings", "roads"] (spTreeI K CT CR CB CN CG)) (bT : Binds K fdT ["self", "crossings", "roads"] []) : FnOk P w K mg base CX0 7 f fd ["_law_spec"] (spMade K CT CR) := by
  refine F.ok scBTree (fun vs H Q E h => ?_) (fun cdv A outer s H vs Q E hr h => ?_)
  · obtain ⟨p, q, n, fs, rfl, _⟩ := h
    rfl
  · obtain ⟨p, q, n, fs, rfl, ⟨hp, ts, hq, hts⟩, hd, l23, k⟩ := h
    have hr2 : Room 2 _ := hr.mono (by decide)
    refine ⟨_, pss_one (ps_ret (pe_make MT FT hr (by rfl) TT.mgC bT .nil passF (pa_cons (pe_ix ix_tup (pv 0) pe_int (fun _ _ => rfl)) (pa_cons
      (pe_lc (own := [("_law_a", 1), ("_law_b", 2), ("_law_length", 3)]) (g := gTup K 3 (gCons (gName 1) (gCons (gName 2) (gCons (gName 3) gNil)))) (tt := tYes) rfl scBTree.nd (pi_list (pe_ix ix_tup (pv 0) pe_int (fun _ _ => rfl)))
          (blkOk_by (own := [("_law_a", 1), ("_law_b", 2), ("_law_length", 3)]) (N := nBTree) (sc := defScope sBTree) (by decide +kernel))
          (fun _ _ _ _ _ => pg_tup rfl (pgs_cons (pg_name (i := 1) scBTree.nd rfl (Or.inl rfl)) (pgs_cons (pg_name (i := 2) scBTree.nd rfl (Or.inl rfl)) (pgs_cons (pg_name (i := 3) scBTree.nd rfl (Or.inl rfl)) pgs_nil)))) (fun _ _ _ _ _ => pts_nil)
          (fun _ _ _ _ _ => pe_make MR FR hr2 (by rfl) TR.mgC bR .nil pass0 (pa_cons (pv 1) (pa_cons (pv 2) (pa_cons (pv 3) pa_nil))))) pa_nil)))), ?_⟩
    refine ⟨_, rfl, p, _, _, _, rfl, rfl, SqT.of hp, rfl, _, rfl, p, _, _, _, rfl, rfl, SqT.of hp, rfl, q, rfl, ⟨_, SqL.of hq⟩, fun D hD => lc_roads hq hts hD (by omega) (fun _ _ _ => ⟨rfl, rfl, rfl, rfl⟩) fun G1 ps gD s1 rd => ?_⟩
    refine fun x dx nx ndx nex => ⟨x, dx, D, n, ps, fs, G1, rfl, upd_same, nx, fun b o e => ?_, .inl (SqL.of gD), rd, by omega, no_err hd, fun _ G2 T1 s2 => ⟨rfl, ?_⟩⟩
    · rw [upd_ne (ne_of_none e nx), upd_ne (ne_of_none e ndx)]
      exact e
    exact k x ps G2 (s1.trans s2) T1
abbrev nRMarches : List Str := ["_law_rng_here", "_law_spec", "_law_max_count", "_law_result", "_law_index", "_law_road", "_law_length", "_law_offset", "_law_steps"]
theorem scRMarches : FnScope nRMarches ["_law_rng_here", "_law_spec", "_law_max_count"] (defScope sRMarches) := ⟨rfl, rfl, rfl, by decide +kernel, rfl, by decide +kernel, by decide +kernel⟩
theorem ok_rMarches {f fD fP : Addr} {fd fdD fdP : FuncData} (F : Fun K "_law_random_marches" "_law_random_marches" sRMarches f fd)
    (FD : FnOk P w K mg base CX0 1 fD fdD ["_law_rng_here", "_law_limit"] spDraw) (bD : Binds K fdD ["_law_rng_here", "_law_limit"] []) (mD : mg "_law_draw" = some (.ref fD)) (kD : PySem.W.keepIn K (.ref fD) = true)
    (FP : FnOk P w K mg base CX0 2 fP fdP ["_law_rng_here", "_law_items"] (spPick K)) (bP : Binds K fdP ["_law_rng_here", "_law_items"] []) (mP : mg "_law_pick" = some (.ref fP)) (kP : PySem.W.keepIn K (.ref fP) = true)
    (hLen : mg "len" = none) (hRg : mg "range" = none) : FnOk P w K mg base CX0 3 f fd ["_law_rng_here", "_law_spec", "_law_max_count"] spRMarches := by
  refine F.ok scRMarches (fun vs H Q E h => ?_) (fun cdv A outer s H vs Q E hr h => ?_)
  · obtain ⟨a, p, q, n, most, far, fs, rfl, _⟩ := h
    rfl
  · obtain ⟨s, p, q, n, most, far, fs, rfl, hs, tr, f0, f23, big, m0, m100, l1, l9, kont⟩ := h
    have hr1 : Room 1 _ := hr.mono (by decide)
    have hr2 : Room 2 _ := hr.mono (by decide)
    refine ⟨_, pss_cons (ps_set (i := 3) scRMarches.nd rfl (Or.inl rfl) (pe_lst pa_nil))
      (pss_cons (ps_for PassesOwn.never rfl (pi_range1 (by rfl) hRg (pa_cons (pe_call FD hr1 rfl mD kD bD .nil pass0 (pa_cons (pv 0) (pa_cons (pe_op op_add (pv 2) pe_int) pa_nil))) pa_nil)) (pg_name (i := 4) scRMarches.nd rfl (Or.inl rfl))
        (pss_cons (ps_set (i := 5) scRMarches.nd rfl (Or.inl rfl) (pe_call FD hr1 rfl mD kD bD .nil pass0 (pa_cons (pv 0) (pa_cons (pe_callB call_len (by rfl) hLen (by decide +kernel) (pa_cons (pe_ix ix_tup (pv 1) pe_int (fun _ _ => rfl)) pa_nil)) pa_nil))))
        (pss_cons (ps_set (i := 6) scRMarches.nd rfl (Or.inl rfl) (pe_ix ix_tup (pe_ix ix_list (pe_ix ix_tup (pv 1) pe_int (fun _ _ => rfl)) (pv 5) (fun _ _ => rfl)) pe_int (fun _ _ => rfl)))
        (pss_cons (ps_set (i := 7) scRMarches.nd rfl (Or.inl rfl) (pe_call FP hr2 rfl mP kP bP .nil pass0 (pa_cons (pv 0) (pa_cons (pe_lst (pa_cons pe_int (pa_cons (pv 6) (pa_cons (pe_call FD hr1 rfl mD kD bD .nil pass0 (pa_cons (pv 0) (pa_cons (pe_op op_add (pv 6) pe_int) pa_nil))) pa_nil)))) pa_nil))))
        (pss_cons (ps_set (i := 8) scRMarches.nd rfl (Or.inl rfl) (pe_call FP hr2 rfl mP kP bP .nil pass0 (pa_cons (pv 0) (pa_cons (pe_lst (pa_cons pe_int (pa_cons (pe_op op_add pe_int (pe_call FD hr1 rfl mD kD bD .nil pass0 (pa_cons (pv 0) (pa_cons pe_int pa_nil)))) (pa_cons (pe_op op_add pe_int (pe_call FD hr1 rfl mD kD bD .nil pass0 (pa_cons (pv 0) (pa_cons pe_int pa_nil)))) (pa_cons (pv 6) pa_nil))))) pa_nil))))
        (pss_one (ps_expr (pe_bm PySem.F.plainAttrs_list PySem.F.slot_list_append PySem.F.type_list_append mt_append (pv 3) (pa_cons (pe_tup (pa_cons (pv 5) (pa_cons (pv 7) (pa_cons (pv 8) pa_nil)))) pa_nil)))))))))
      (pss_one (ps_ret (pv 3)))), ?_⟩
    refine ⟨Nat.zero_le _, fun pf hpf => ?_⟩
    have npf : pf ≠ s := hs.new hpf
    have hs1 : Src (upd H pf (.lst [])) s := hs.same (Same.new hpf)
    refine ⟨_, rfl, _, rfl, _, _, rfl, rfl, s, _, rfl, hs1, by omega, by omega, fun c H1 c0 c1 src1 b1 => ⟨c, rfl, by omega, by omega, ?_⟩⟩
    refine for_range (lo := 0) (n := c.toNat) (fun i σ G => ∃ (v5 v6 v7 v8 v9 : Option V) (ts : List Addr) (gs : List Fact), σ = [some (.ref s), some (.ref p), some (.int most), some (.ref pf), v5, v6, v7, v8, v9] ∧
        Src G s ∧ But s H G ∧ G pf = some (.lst (ts.map V.ref)) ∧ Paired (TupAt G) ts gs ∧ (∀ r ∈ gs, MrOk fs far r) ∧ gs.length = i)
      ⟨none, none, none, none, none, [], [], rfl, src1, fun b o e nb => b1 b o (Same.new hpf b o e) nb, b1 _ _ upd_same npf, .nil, fun r z => (by cases z), rfl⟩ ?_ ?_
    · rintro i σ G hi ⟨v5, v6, v7, v8, v9, ts, gs, rfl, sg, bg, gpf, gts, ok, gl⟩
      have trG : TrAt G p q n fs := tr.but hs bg
      have tsl : ts.length ≤ 1000 := by
        have := Paired.length gts
        omega
      obtain ⟨hp, ts0, hq, hts⟩ := id trG
      have tl : (ts0.map V.ref).length = fs.length := by rw [List.length_map]; exact Paired.length hts
      refine ⟨_, rfl, _, rfl, p, _, _, _, rfl, rfl, SqT.of hp, rfl, _, _, rfl, .inl ⟨_, SqL.of hq, rfl⟩, s, _, rfl, sg, by rw [tl]; omega, by rw [tl]; omega, fun r G1 r0 r1 sg1 bg1 => ?_⟩
      rw [tl] at r1
      obtain ⟨k, rfl⟩ : ∃ k : Nat, r = (k : Int) := ⟨r.toNat, by omega⟩
      have hk : k < fs.length := by omega
      have b01 : But s H G1 := fun b o e nb => bg1 b o (bg b o e nb) nb
      obtain ⟨hp1, ts1, hq1, hts1⟩ := tr.but hs b01
      have lt1 : k < ts1.length := by rw [Paired.length hts1]; exact hk
      obtain ⟨r, hr', trr⟩ := paired_get hts1 (List.getElem?_eq_getElem lt1)
      have er : rd fs k = r := rd_of hr'
      obtain ⟨bg1', bg2'⟩ := big _ (List.mem_of_getElem? hr')
      have ixk : atI (ts1.map V.ref) (k : Int) = some (V.ref ts1[k]) := atI_nat (by rw [List.getElem?_map, List.getElem?_eq_getElem lt1]; rfl)
      -- length = spec[1][road][2]
      refine ⟨_, rfl, p, _, _, _, rfl, rfl, SqT.of hp1, rfl, _, rfl, q, _, _, .ref ts1[k], rfl, rfl, SqL.of hq1, ixk, _, _, _, _, rfl, rfl, SqT.of trr, rfl, ?_⟩
      -- offset = pick(rng, [0, length, draw(rng, length + 1)])
      refine ⟨_, rfl, _, rfl, _, rfl, _, rfl, _, _, rfl, rfl, s, _, rfl, sg1, by omega, by omega, fun d G2 d0 d1 sg2 bg2 => ?_⟩
      refine ⟨(by show 3 ≤ sizeLine; decide), fun pl hpl => ?_⟩
      have sg2' := sg2.same (Same.new (o := .lst [.int 0, .int r.2.2, .int d]) hpl)
      refine ⟨s, pl, _, rfl, sg2', sg2.new hpl, SqL.of upd_same, (by show 0 < 3; decide), (by show 3 < 1000000; decide), fun v G3 hv sg3 bg3 => ?_⟩
      obtain ⟨x, rfl, x0, x1⟩ : ∃ x : Int, v = V.int x ∧ 0 ≤ x ∧ x ≤ r.2.2 := by
        rcases List.mem_cons.mp hv with rfl | hv
        · exact ⟨0, rfl, by omega, by omega⟩
        · rcases List.mem_cons.mp hv with rfl | hv
          · exact ⟨_, rfl, by omega, by omega⟩
          · rw [List.mem_singleton.mp hv]
            exact ⟨_, rfl, by omega, by omega⟩
      have b13 : But s G1 G3 := fun b o e nb => bg3 b o (Same.new hpl b o (bg2 b o e nb)) nb
      have b3 : But s G G3 := fun b o e nb => b13 b o (bg1 b o e nb) nb
      -- steps = pick(rng, [1, 1 + draw(rng, 5), 1 + draw(rng, 12), length])
      refine ⟨_, rfl, _, rfl, s, 5, rfl, sg3, by decide, by decide, fun d5 G4 d50 d51 sg4 bg4 => ⟨_, _, rfl, rfl, ?_⟩⟩
      refine ⟨_, rfl, s, 12, rfl, sg4, by decide, by decide, fun d6 G5 d60 d61 sg5 bg5 => ⟨_, _, rfl, rfl, _, rfl, ?_⟩⟩
      refine ⟨(by show 4 ≤ sizeLine; decide), fun pl2 hpl2 => ?_⟩
      have s5 : Same G5 (upd G5 pl2 (.lst [.int 1, .int (1 + d5), .int (1 + d6), .int r.2.2])) := Same.new hpl2
      refine ⟨s, pl2, _, rfl, sg5.same s5, sg5.new hpl2, SqL.of upd_same, (by show 0 < 4; decide), (by show 4 < 1000000; decide), fun v G6 hv sg6 bg6 => ?_⟩
      obtain ⟨z, rfl, z1, z2⟩ : ∃ z : Int, v = V.int z ∧ 1 ≤ z ∧ (z ≤ 2 ∨ z ≤ far) := by
        rcases List.mem_cons.mp hv with rfl | hv
        · exact ⟨1, rfl, by decide, .inl (by decide)⟩
        · rcases List.mem_cons.mp hv with rfl | hv
          · exact ⟨_, rfl, by omega, .inr (by omega)⟩
          · rcases List.mem_cons.mp hv with rfl | hv
            · exact ⟨_, rfl, by omega, .inr (by omega)⟩
            · rw [List.mem_singleton.mp hv]
              exact ⟨_, rfl, by omega, .inr (by omega)⟩
      have b36 : But s G3 G6 := fun b o e nb => bg6 b o (s5 b o (bg5 b o (bg4 b o e nb) nb)) nb
      have b06 : But s G G6 := fun b o e nb => b36 b o (b3 b o e nb) nb
      have gpf6 := b06 _ _ gpf npf
      have gts6 := tups_but gts sg b06
      refine ⟨_, rfl, .inl ⟨rfl, _, SqL.of gpf6⟩, ?_⟩
      refine ⟨_, rfl, _, rfl, _, rfl, (by show 3 ≤ sizeLine; decide), fun pt hpt => ?_⟩
      have s6 : Same G6 (upd G6 pt (.tup [.int (k : Int), .int x, .int z])) := Same.new hpt
      refine ⟨pf, ts.map V.ref, .ref pt, rfl, rfl, s6 _ _ gpf6, small1000 (by rw [List.length_map]; omega), ?_⟩
      have nft : pt ≠ pf := (ne_of_none gpf6 hpt).symm
      have bH6 : But s H G6 := fun b o e nb => b06 b o (bg b o e nb) nb
      refine ⟨_, _, _, _, _, ts ++ [pt], gs ++ [((k : Int), x, z)], rfl, (sg6.same s6).upd npf, (bH6.put (Src.fresh bH6 sg6 hpt)).put hpf, by rw [List.map_append]; exact upd_same, paired_snoc (tups_put (tups_same gts6 s6) (s6 _ _ gpf6)) ?_, fun r' hr2 => ?_, by rw [List.length_append, gl]; rfl⟩
      · show upd _ pf _ pt = _
        rw [upd_ne nft]
        exact upd_same
      · rcases List.mem_append.mp hr2 with h | h
        · exact ok r' h
        · rw [List.mem_singleton.mp h]
          exact ⟨⟨by omega, by show (k : Int) < _; omega⟩, x0, by show x ≤ (rd fs ((k : Int)).toNat).2.2; rw [Int.toNat_natCast, er]; exact x1, z1, z2⟩
    · rintro σ G ⟨v5, v6, v7, v8, v9, ts, gs, rfl, sg, bg, gpf, gts, ok, gl⟩
      exact ⟨_, rfl, kont pf gs G hpf ⟨ts, gpf, gts⟩ ok (by omega) sg bg⟩
abbrev nBRow : List Str := ["_law_spec", "_law_marches", "_law_items", "_law_road", "_law_offset", "_law_steps"]
theorem scBRow : FnScope nBRow ["_law_spec", "_law_marches"] (defScope sBRow) := ⟨rfl, rfl, rfl, by decide +kernel, rfl, by decide +kernel, by decide +kernel⟩
theorem ok_bRow {f fBT fRw fMa fPl CT CR CM CP CW CB CNR COR CNW : Addr} {fd fdBT fdRw fdMa fdPl : FuncData} (F : Fun K "_law_build_row" "_law_build_row" sBRow f fd) (TRw : RwT K mg CW) (TM : MaT K mg CM) (TP : PlT K mg CP) (MRw : Mk K CW fRw) (MM : Mk K CM fMa) (MP : Mk K CP fPl)
    (FBT : FnOk P w K mg base CX0 7 fBT fdBT ["_law_spec"] (spMade K CT CR)) (bBT : Binds K fdBT ["_law_spec"] []) (mBT : mg "_law_build_tree" = some (.ref fBT)) (kBT : PySem.W.keepIn K (.ref fBT) = true)
    (FRw : FnOk P w K mg base (L2.CX P w) 5 fRw fdRw ["self", "tree", "marches"] (spRowI K CT CR CM CP CW CB CNR COR CNW)) (bRw : Binds K fdRw ["self", "tree", "marches"] []) (FMa : FnOk P w K mg base CX0 1 fMa fdMa ["self", "goal", "steps"] (spMarchI CM)) (bMa : Binds K fdMa ["self", "goal", "steps"] [])
    (FPl : FnOk P w K mg base (L2.CX P w) 3 fPl fdPl ["self", "road", "number", "parts"] (spPlaceI CP CB)) (bPl : Binds K fdPl ["self", "road", "number", "parts"] []) : FnOk P w K mg base CX0 8 f fd ["_law_spec", "_law_marches"] (spBRow K CT CR CM CP CW) := by
  refine F.ok scBRow (fun vs H Q E h => ?_) (fun cdv A outer s H vs Q E hr h => ?_)
  · obtain ⟨p, q, l, n, far, fs, gs, rfl, _⟩ := h
    rfl
  · obtain ⟨p, q, l, n, far, fs, gs, rfl, tr, hd, G, l23, ⟨ts, hl, hts⟩, ok, hf, l24, kont⟩ := h
    have hr2 : Room 2 _ := hr.mono (by decide)
    have hr4 : Room 4 _ := hr.mono (by decide)
    have hr6 : Room 6 _ := hr.mono (by decide)
    refine ⟨_, pss_cons (ps_setLc (i := 2) (own := [("_law_road", 3), ("_law_offset", 4), ("_law_steps", 5)]) (g := gTup K 3 (gCons (gName 3) (gCons (gName 4) (gCons (gName 5) gNil)))) (tt := tYes) rfl scBRow.nd rfl rfl (sw_true rfl rfl rfl (by decide +kernel)) (pi_list (pv 1)) (blkOk_by (own := [("_law_road", 3), ("_law_offset", 4), ("_law_steps", 5)]) (N := nBRow) (sc := defScope sBRow) (by decide +kernel)) (fun _ _ _ _ _ => (pg_tup rfl (pgs_cons (pg_name (i := 3) scBRow.nd rfl (Or.inl rfl)) (pgs_cons (pg_name (i := 4) scBRow.nd rfl (Or.inl rfl)) (pgs_cons (pg_name (i := 5) scBRow.nd rfl (Or.inl rfl)) pgs_nil))))) (fun _ _ _ _ _ => pts_nil) (fun _ _ _ _ _ => (pe_make MM FMa hr2 (by rfl) TM.mgC bMa .nil pass0 (pa_cons (pe_make MP FPl hr4 (by rfl) TP.mgC bPl .nil passF (pa_cons (pv 3) (pa_cons (pv 4) (pa_cons pe_int pa_nil)))) (pa_cons (pv 5) pa_nil)))))
      (pss_one (ps_ret (pe_make MRw FRw hr6 (by rfl) TRw.mgC bRw .nil passF (pa_cons (pe_call FBT hr rfl mBT kBT bBT .nil pass0 (pa_cons (pv 0) pa_nil)) (pa_cons (pv 2) pa_nil))))), ?_⟩
    refine ⟨_, rfl, l, rfl, ⟨_, SqL.of hl⟩, fun D hD => lc_line (CB := CB) hl hts ok hD (by omega) (fun _ _ _ => ⟨rfl, rfl, rfl, rfl⟩) fun G1 ms gD s1 mas => ?_⟩
    have okx := mgs_ok ok hf
    have lx : (gs.map mg3).length ≤ 24 := by rw [List.length_map]; exact l24
    have hdm := dueM_mg okx lx
    refine ⟨_, rfl, p, q, n, fs, rfl, tr.same s1, hd, l23, fun x ps G2 s2 T2 => ⟨_, rfl, ?_⟩⟩
    refine fun pr dx nx ndx nex => ⟨pr, dx, x, D, n, ps, fs, ms, (gs.map mg3).map mf, G2, rfl, upd_same, nx, made_old nx ndx, T2, G, .inl (SqL.of (s2 _ _ gD)), mas.same s2, fun m hm => ?_, by rw [List.length_map]; omega, noM hdm, fun _ G3 R s3 => ⟨rfl, ?_⟩⟩
    · obtain ⟨y, _, rfl⟩ := List.mem_map.mp hm
      exact msm_mf y
    · exact kont pr G3 x ps ms ((s1.trans s2).trans s3) R (T2.same s3) ((MasAt.same mas s2).same s3)
end
end OT
set_option Elab.async false
set_option linter.all false
set_option maxRecDepth 100000
set_option maxHeartbeats 4000000
namespace OT
open PySem L2 OTR
structure CoN (F : List Fact) (H : Hp) (C : Addr) (kvs : List (Key × V)) (D : Int → Prop) : Prop where
  at_ : H C = some (.dK kvs)
  ok : ∀ c x, valV kvs (Sum.inl c : Key) = some x → ∃ t, x = .ref t ∧ PrAt H t (nqk F 1 (.cr c))
  has : ∀ c, D c ↔ (valV kvs (Sum.inl c : Key)).isSome = true
/-- the tuples are kept -/
def Kt (H H' : Hp) : Prop := ∀ b xs, H b = some (.tup xs) → H' b = some (.tup xs)
/-- the lists but for pa -/
def Kl (pa : Addr) (H H' : Hp) : Prop := ∀ b xs, b ≠ pa → H b = some (.lst xs) → H' b = some (.lst xs)
theorem sm_kt {H H' : Hp} (s : Same H H') : Kt H H' := fun b xs e => s _ _ e
theorem sm_kl {H H' : Hp} (s : Same H H') (pa : Addr) : Kl pa H H' := fun b xs _ e => s _ _ e
theorem PrAt.kt {H H' : Hp} {t : Addr} {x : Nat × Int} (h : PrAt H t x) (k : Kt H H') : PrAt H' t x := k _ _ h
section
variable {F : List Fact} {H H' : Hp} {C pa d : Addr} {kvs : List (Key × V)} {D : Int → Prop}
theorem CoN.keep (N : CoN F H C kvs D) (e : ∀ o, H C = some o → H' C = some o) (k : Kt H H') : CoN F H' C kvs D := ⟨e _ N.at_, fun c x h => let ⟨t, a, b⟩ := N.ok c x h; ⟨t, a, b.kt k⟩, N.has⟩
theorem CoN.same (N : CoN F H C kvs D) (s : Same H H') : CoN F H' C kvs D := N.keep (fun o e => s _ _ e) (sm_kt s)
theorem CoN.put (N : CoN F H C kvs D) {c : Int} {t : Addr} (p : PrAt H t (nqk F 1 (.cr c))) : CoN F (upd H C (.dK (putK kvs (Sum.inl c : Key) (.ref t)))) C (putK kvs (Sum.inl c : Key) (.ref t)) (fun x => D x ∨ x = c) := by
  have kt : Kt H (upd H C (.dK (putK kvs (Sum.inl c : Key) (.ref t)))) := fun b xs e => by
    rw [upd_ne (ne_of e N.at_ fun z => nomatch z)]
    exact e
  refine ⟨upd_same, fun x y h => ?_, fun x => ?_⟩
  · rw [valV_put] at h
    by_cases e : x = c
    · subst e
      rw [if_pos rfl] at h
      cases h
      exact ⟨t, rfl, p.kt kt⟩
    · rw [if_neg fun z => e (Sum.inl.inj z)] at h
      obtain ⟨t', a, b⟩ := N.ok x y h
      exact ⟨t', a, b.kt kt⟩
  · rw [valV_put]
    by_cases e : x = c
    · subst e
      rw [if_pos rfl]
      exact ⟨fun _ => rfl, fun _ => .inr rfl⟩
    · rw [if_neg fun z => e (Sum.inl.inj z), ← N.has x]
      exact ⟨fun h => h.resolve_right e, .inl⟩
theorem CoN.iff (N : CoN F H C kvs D) {D' : Int → Prop} (h : ∀ c, D' c ↔ D c) : CoN F H C kvs D' := ⟨N.at_, N.ok, fun c => (h c).trans (N.has c)⟩
/-- the path of a road -/
def PathL (F : List Fact) (H : Hp) (l k : Nat) : Prop := ∃ ts : List Addr, H l = some (.lst (ts.map V.ref)) ∧ (ts.length : Int) = sz F 1 k + 1 ∧ ∀ i : Nat, (i : Int) ≤ sz F 1 k → ∃ t, ts[i]? = some t ∧ PrAt H t (nqk F 1 (node F 1 k (i : Int)))
theorem PathL.keep {l k : Nat} (p : PathL F H l k) (ne : l ≠ pa) (kt : Kt H H') (kl : Kl pa H H') : PathL F H' l k :=
  let ⟨ts, a, b, c⟩ := p
  ⟨ts, kl _ _ ne a, b, fun i h => let ⟨t, x, y⟩ := c i h; ⟨t, x, y.kt kt⟩⟩
theorem PathL.same {l k : Nat} (p : PathL F H l k) (s : Same H H') : PathL F H' l k :=
  let ⟨ts, a, b, c⟩ := p
  ⟨ts, s _ _ a, b, fun i h => let ⟨t, x, y⟩ := c i h; ⟨t, x, y.same s⟩⟩
end
/-- a node's neighbours, as far as they are put -/
def NbL (F : List Fact) (H : Hp) (u : Nd) (l : Addr) (ys : List Addr) (ws : List Nd) : Prop := H l = some (.lst (ys.map V.ref)) ∧ Paired (fun t v => Adj F 1 u v ∧ PrAt H t (nqk F 1 v)) ys ws
theorem NbL.keep {F : List Fact} {H H' : Hp} {u : Nd} {l pa : Addr} {ys : List Addr} {ws : List Nd} (n : NbL F H u l ys ws) (ne : l ≠ pa) (kt : Kt H H') (kl : Kl pa H H') : NbL F H' u l ys ws := ⟨kl _ _ ne n.1, Paired.mapP n.2 fun _ _ h => ⟨h.1, h.2.kt kt⟩⟩
structure NbN (F : List Fact) (H : Hp) (pa d : Addr) (kvs : List (List Key × V)) (Dn : Nd → Nd → Prop) (c : Nat) : Prop where
  at_ : H d = some (.dT kvs)
  len : kvs.length ≤ c
  nd : (kvs.map (·.1)).Nodup
  ok : ∀ k x, valV kvs k = some x → ∃ u l ys ws, k = nqL F u ∧ OnT F 1 u ∧ x = .ref l ∧ l ≠ pa ∧ NbL F H u l ys ws ∧ ys.length ≤ c ∧ ∀ v, Dn u v → v ∈ ws
  has : ∀ u v, Dn u v → (valV kvs (nqL F u)).isSome = true
section
variable {n : Int} {F : List Fact} {H H' : Hp} {pa d : Addr} {kvs : List (List Key × V)} {Dn Dm : Nd → Nd → Prop} {c : Nat}
theorem NbN.keep (N : NbN F H pa d kvs Dn c) (e : ∀ o, H d = some o → H' d = some o) (kt : Kt H H') (kl : Kl pa H H') : NbN F H' pa d kvs Dn c :=
  ⟨e _ N.at_, N.len, N.nd, fun k x h => let ⟨u, l, ys, ws, h1, h2, h3, h4, h5, h6⟩ := N.ok k x h; ⟨u, l, ys, ws, h1, h2, h3, h4, h5.keep h4 kt kl, h6⟩, N.has⟩
theorem NbN.same (N : NbN F H pa d kvs Dn c) (s : Same H H') : NbN F H' pa d kvs Dn c := N.keep (fun o e => s _ _ e) (sm_kt s) (sm_kl s pa)
theorem NbN.weak (N : NbN F H pa d kvs Dn c) (h : ∀ u v, Dm u v → Dn u v) {c' : Nat} (hc : c ≤ c') : NbN F H pa d kvs Dm c' :=
  ⟨N.at_, Nat.le_trans N.len hc, N.nd, fun k x e => let ⟨u, l, ys, ws, h1, h2, h3, h4, h5, h6, h7⟩ := N.ok k x e; ⟨u, l, ys, ws, h1, h2, h3, h4, h5, Nat.le_trans h6 hc, fun v z => h7 v (h u v z)⟩, fun u v z => N.has u v (h u v z)⟩
theorem NbN.put (T : TreeM n F) (n2 : 2 ≤ n) (N : NbN F H pa d kvs Dn c) {u v : Nd} {t l2 : Addr} {ys : List Addr} {ws : List Nd} (ou : OnT F 1 u) (a : Adj F 1 u v) (pt : PrAt H t (nqk F 1 v)) (np : l2 ≠ pa) (e2 : H l2 = some (.lst ((ys ++ [t]).map V.ref)))
    (prs : Paired (fun t v => Adj F 1 u v ∧ PrAt H t (nqk F 1 v)) ys ws) (yl : ys.length ≤ c) (old : ∀ v, Dn u v → v ∈ ws) :
    NbN F (upd H d (.dT (putK kvs (nqL F u) (.ref l2)))) pa d (putK kvs (nqL F u) (.ref l2)) (fun x z => Dn x z ∨ (x = u ∧ z = v)) (c + 1) := by
  have kt : Kt H (upd H d (.dT (putK kvs (nqL F u) (.ref l2)))) := fun b xs e => by
    rw [upd_ne (ne_of e N.at_ fun z => nomatch z)]
    exact e
  have kl : Kl pa H (upd H d (.dT (putK kvs (nqL F u) (.ref l2)))) := fun b xs _ e => by
    rw [upd_ne (ne_of e N.at_ fun z => nomatch z)]
    exact e
  refine ⟨upd_same, Nat.le_trans (length_putK _ _ _) (Nat.succ_le_succ N.len), ?_, fun k x h => ?_, fun x z h => ?_⟩
  · by_cases e : (valV kvs (nqL F u)).isSome = true
    · rw [putK_keys e]
      exact N.nd
    · have e' : valV kvs (nqL F u) = none := by
        cases q : valV kvs (nqL F u) with
        | none => rfl
        | some x => rw [q] at e; exact absurd rfl e
      exact nd_putK _ N.nd e'
  · rw [valV_put] at h
    by_cases e : k = nqL F u
    · subst e
      rw [if_pos rfl] at h
      cases h
      refine ⟨u, l2, ys ++ [t], ws ++ [v], rfl, ou, rfl, np, ⟨kl _ _ np e2, paired_app (Paired.mapP prs fun _ _ h => ⟨h.1, h.2.kt kt⟩) (.cons ⟨a, pt.kt kt⟩ .nil)⟩, by rw [List.length_append]; exact Nat.succ_le_succ yl, fun z hz => ?_⟩
      rcases hz with hz | ⟨_, rfl⟩
      · exact List.mem_append_left _ (old z hz)
      · exact List.mem_append_right _ (List.mem_singleton.mpr rfl)
    · rw [if_neg e] at h
      obtain ⟨u', l, ys', ws', h1, h2, h3, h4, h5, h6, h7⟩ := N.ok k x h
      refine ⟨u', l, ys', ws', h1, h2, h3, h4, h5.keep h4 kt kl, Nat.le_succ_of_le h6, fun z hz => ?_⟩
      rcases hz with hz | ⟨hz, _⟩
      · exact h7 z hz
      · exact absurd (by rw [h1, hz]) e
  · rw [valV_put]
    by_cases e : nqL F x = nqL F u
    · rw [if_pos e]
      rfl
    · rw [if_neg e]
      rcases h with h | ⟨h, _⟩
      · exact N.has x z h
      · exact absurd (by rw [h]) e
end
end OT
set_option Elab.async false
set_option linter.all false
set_option maxRecDepth 100000
set_option maxHeartbeats 4000000
namespace OT
open PySem L2 OTR
structure GridAt (F : List Fact) (S : Int) (H : Hp) (g pa d : Addr) (pl : List Addr) (kvs : List (List Key × V)) : Prop where
  g_ : H g = some (.dK [((Sum.inr "paths" : Key), .ref pa), (Sum.inr "neighbors", .ref d), (Sum.inr "scale", .int S)])
  pa_ : H pa = some (.lst (pl.map V.ref))
  len : pl.length = F.length
  path : ∀ (k l : Nat), pl[k]? = some l → l ≠ pa ∧ PathL F H l k
  nb : NbN F H pa d kvs (Adj F 1) 10000000
theorem GridAt.same {F : List Fact} {S : Int} {H H' : Hp} {g pa d : Addr} {pl : List Addr} {kvs : List (List Key × V)} (N : GridAt F S H g pa d pl kvs) (s : Same H H') : GridAt F S H' g pa d pl kvs :=
  ⟨s _ _ N.g_, s _ _ N.pa_, N.len, fun k l e => ⟨(N.path k l e).1, (N.path k l e).2.same s⟩, N.nb.same s⟩
theorem kt_lst {G : Hp} {pa : Addr} {xs ys : List V} (e : G pa = some (.lst xs)) : Kt G (upd G pa (.lst ys)) := fun b zs h => by
  rw [upd_ne (ne_of h e fun z => nomatch z)]
  exact h
theorem kl_lst {G : Hp} {pa : Addr} {ys : List V} : Kl pa G (upd G pa (.lst ys)) := fun b zs ne h => by
  rw [upd_ne ne]
  exact h
end OT
set_option Elab.async false
set_option linter.all false
set_option maxRecDepth 100000
set_option maxHeartbeats 4000000
namespace OTR
open PySem PySem.Spec L2 PyProof.Rows
end OTR
set_option Elab.async false
set_option linter.all false
set_option maxRecDepth 100000
set_option maxHeartbeats 4000000
namespace OTR
open PySem PySem.Spec L2 PyProof.Rows
end OTR
set_option Elab.async false
set_option linter.all false
set_option maxRecDepth 100000
set_option maxHeartbeats 4000000
namespace OT
open PySem L2 OTR
/-- the way from u down to the goal, node by node -/
inductive Dw (F : List Fact) (g : Nat) (p : Int) : Nd → List Nd → Prop
  | goal : Dw F g p (node F 1 g p) [node F 1 g p]
  | step {u v : Nd} {ns : List Nd} : Adj F 1 u v → hN F 1 g p v + 1 = hN F 1 g p u → Dw F g p v ns → Dw F g p u (u :: ns)
theorem hN_at0 {n : Int} {F : List Fact} {g : Nat} {p : Int} (T : TreeM n F) (hg : On F 1 g p) : hN F 1 g p (node F 1 g p) = 0 := by rw [hN_node T (by decide) hg hg, hP_g, dst_self]
theorem Dw.on {F : List Fact} {g : Nat} {p : Int} (hg : On F 1 g p) {u : Nd} {ns : List Nd} (d : Dw F g p u ns) : OnT F 1 u ∧ u ∈ ns ∧ ∀ v ∈ ns, OnT F 1 v := by
  induction d with
  | goal => exact ⟨⟨g, p, hg, rfl⟩, List.mem_singleton.mpr rfl, fun v h => by rw [List.mem_singleton.mp h]; exact ⟨g, p, hg, rfl⟩⟩
  | step a l d ih => exact ⟨a.on.1, List.mem_cons_self, fun v h => by
      rcases List.mem_cons.mp h with rfl | h
      · exact a.on.1
      · exact ih.2.2 v h⟩
theorem Dw.way {n : Int} {F : List Fact} {g : Nat} {p : Int} (T : TreeM n F) (hg : On F 1 g p) {k : Nat} {i : Int} (hk : On F 1 k i) {u : Nd} {ns : List Nd} (d : Dw F g p u ns) : ∀ j0 : Nat, (j0 : Int) ≤ hP F 1 g p k i → u = pth F 1 g p k i (j0 : Nat) →
    (ns.length : Int) + j0 = hP F 1 g p k i + 1 ∧ ∀ j : Nat, j < ns.length → ns[j]? = some (pth F 1 g p k i ((j0 + j : Nat) : Int)) := by
  have hS : (1 : Int) ≤ 1 := by decide
  induction d with
  | goal =>
    intro j0 hj e
    obtain ⟨_, z, _⟩ := pth_ok T hS hg hk (t := (j0 : Nat)) (by omega) hj
    rw [← e, hN_at0 T hg] at z
    refine ⟨by show ((1 : Nat) : Int) + _ = _; omega, fun j hl => ?_⟩
    have j0' : j = 0 := by
      have : j < 1 := hl
      omega
    subst j0'
    exact congrArg some e
  | @step u v ns a l d ih =>
    intro j0 hj e
    obtain ⟨_, z, _⟩ := pth_ok T hS hg hk (t := (j0 : Nat)) (by omega) hj
    rw [← e] at z
    have nn := hN_nn T hS hg a.on.2
    have h1 : (j0 : Int) + 1 ≤ hP F 1 g p k i := by omega
    have ev : v = pth F 1 g p k i ((j0 : Int) + 1) := pth_next T hS hg hk h1 (e ▸ a) (by rw [← e]; exact l)
    obtain ⟨q1, q2⟩ := ih (j0 + 1) (by omega) (by rw [ev]; rfl)
    refine ⟨by rw [List.length_cons]; omega, fun j hl => ?_⟩
    cases j with
    | zero => exact congrArg some e
    | succ j =>
      rw [List.getElem?_cons_succ, q2 j (by rw [List.length_cons] at hl; omega)]
      congr 3
      omega
/-- where a march leads, read off the way down -/
theorem Dw.go {n : Int} {F : List Fact} {g : Nat} {p m : Int} (T : TreeM n F) (hg : On F 1 g p) {u : Nd} {ns : List Nd} (d : Dw F g p u ns) (m0 : 0 ≤ m) : ∃ v, ns[(if (ns.length : Int) - 1 < m then (ns.length : Int) - 1 else m).toNat]? = some v ∧ Go F 1 g p m u v := by
  have hS : (1 : Int) ≤ 1 := by decide
  obtain ⟨k, i, hk, e⟩ := (d.on hg).1
  have hp := hN_nn T hS hg (d.on hg).1
  rw [e, hN_node T hS hg hk] at hp
  obtain ⟨q1, q2⟩ := d.way T hg hk 0 (by omega) (by rw [e]; exact (pth_0 T hS hg hk).symm)
  have el : (ns.length : Int) - 1 = hP F 1 g p k i := by omega
  rw [el]
  refine ⟨_, q2 _ (by split <;> omega), k, i, hk, e, ?_⟩
  congr 1
  split <;> omega
/-- what is found of the paths to a goal: W are those whose neighbours may still lack -/
structure PthM (F : List Fact) (g : Nat) (p : Int) (H : Hp) (f : Addr) (kvs : List (List Key × V)) (W : Nd → Prop) : Prop where
  at_ : H f = some (.dT kvs)
  nd : (kvs.map (·.1)).Nodup
  ok : ∀ k x, valV kvs k = some x → ∃ u l ts ns, k = nqL F u ∧ x = .ref l ∧ H l = some (.lst (ts.map V.ref)) ∧ Paired (fun t v => PrAt H t (nqk F 1 v)) ts ns ∧ Dw F g p u ns ∧ ∀ v ∈ ns, (valV kvs (nqL F v)).isSome = true
  cl : ∀ u, OnT F 1 u → (valV kvs (nqL F u)).isSome = true → W u ∨ ∀ v, Adj F 1 u v → (valV kvs (nqL F v)).isSome = true
  aim : (valV kvs (nqL F (node F 1 g p))).isSome = true
def SepL (kvs : List (List Key × V)) (fl : Addr) : Prop := ∀ k l, valV kvs k = some (.ref l) → l ≠ fl
section
variable {n : Int} {F : List Fact} {g : Nat} {p : Int} {H H' : Hp} {f fl : Addr} {kvs : List (List Key × V)} {W W' : Nd → Prop}
theorem PthM.keep (N : PthM F g p H f kvs W) (e : ∀ o, H f = some o → H' f = some o) (kt : Kt H H') (sep : SepL kvs fl) (kl : Kl fl H H') : PthM F g p H' f kvs W :=
  ⟨e _ N.at_, N.nd, fun k x h => by
    obtain ⟨u, l, ts, ns, h1, rfl, h3, h4, h5⟩ := N.ok k x h
    exact ⟨u, l, ts, ns, h1, rfl, kl _ _ (sep k l h) h3, Paired.mapP h4 fun _ _ z => z.kt kt, h5⟩, N.cl, N.aim⟩
theorem PthM.same (N : PthM F g p H f kvs W) (s : Same H H') : PthM F g p H' f kvs W :=
  ⟨s _ _ N.at_, N.nd, fun k x h => let ⟨u, l, ts, ns, h1, h2, h3, h4, h5⟩ := N.ok k x h; ⟨u, l, ts, ns, h1, h2, s _ _ h3, Paired.mapP h4 fun _ _ z => z.same s, h5⟩, N.cl, N.aim⟩
theorem PthM.sep (N : PthM F g p H f kvs W) (h : H fl = none) : SepL kvs fl := fun k l e z => by
  obtain ⟨u, l', ts, ns, _, h2, h3, _⟩ := N.ok k _ e
  cases h2
  rw [z, h] at h3
  cases h3
theorem PthM.imp (N : PthM F g p H f kvs W) (h : ∀ u, OnT F 1 u → (valV kvs (nqL F u)).isSome = true → W u → W' u ∨ ∀ v, Adj F 1 u v → (valV kvs (nqL F v)).isSome = true) : PthM F g p H f kvs W' :=
  ⟨N.at_, N.nd, N.ok, fun u o z => (N.cl u o z).elim (h u o z) .inr, N.aim⟩
theorem PthM.len (hg : On F 1 g p) (N : PthM F g p H f kvs W) : kvs.length ≤ (nodesL F 1).length := by
  have h := nodup_len (l := kvs.map (·.1)) (m := (nodesL F 1).map (nqL F)) N.nd fun k hk => by
    obtain ⟨⟨k', x⟩, hm, rfl⟩ := List.mem_map.mp hk
    obtain ⟨x', hx⟩ : ∃ x', valV kvs k' = some x' := Option.isSome_iff_exists.mp (by
      rw [← valV_any]
      exact List.any_eq_true.mpr ⟨(k', x), hm, decide_eq_true rfl⟩)
    obtain ⟨u, l, ts, ns, h1, _, _, _, d, _⟩ := N.ok k' x' hx
    exact List.mem_map.mpr ⟨u, mem_nodes (d.on hg).1, h1.symm⟩
  rw [List.length_map, List.length_map] at h
  exact h
/-- the path of a node that is found -/
theorem PthM.get (T : TreeM n F) (n2 : 2 ≤ n) (hg : On F 1 g p) (N : PthM F g p H f kvs W) {u : Nd} (ou : OnT F 1 u) (h : (valV kvs (nqL F u)).isSome = true) : ∃ l ts ns, valV kvs (nqL F u) = some (.ref l) ∧ H l = some (.lst (ts.map V.ref)) ∧ Paired (fun t v => PrAt H t (nqk F 1 v)) ts ns ∧ Dw F g p u ns ∧ ∀ v ∈ ns, (valV kvs (nqL F v)).isSome = true := by
  obtain ⟨x, hx⟩ := Option.isSome_iff_exists.mp h
  obtain ⟨u', l, ts, ns, h1, rfl, h3, h4, h5, h6⟩ := N.ok _ x hx
  have e := nqL_inj T n2 ou (h5.on hg).1 h1
  subst e
  exact ⟨l, ts, ns, hx, h3, h4, h5, h6⟩
theorem PthM.add (T : TreeM n F) (n2 : 2 ≤ n) (hg : On F 1 g p) (N : PthM F g p H f kvs W) {u v : Nd} {l2 tv : Addr} {ts : List Addr} {ns : List Nd} (a : Adj F 1 u v) (nv : valV kvs (nqL F v) = none) (d : Dw F g p u ns) (fd : ∀ z ∈ ns, (valV kvs (nqL F z)).isSome = true)
    (e2 : H l2 = some (.lst (.ref tv :: ts.map V.ref))) (pv : PrAt H tv (nqk F 1 v)) (prs : Paired (fun t v => PrAt H t (nqk F 1 v)) ts ns) :
    PthM F g p (upd H f (.dT (putK kvs (nqL F v) (.ref l2)))) f (putK kvs (nqL F v) (.ref l2)) (fun x => W x ∨ x = v) ∧ (putK kvs (nqL F v) (.ref l2)).length = kvs.length + 1 := by
  have hS : (1 : Int) ≤ 1 := by decide
  have kt : Kt H (upd H f (.dT (putK kvs (nqL F v) (.ref l2)))) := fun b xs e => by
    rw [upd_ne (ne_of e N.at_ fun z => nomatch z)]
    exact e
  have kl : ∀ {b : Addr} {xs : List V}, H b = some (.lst xs) → upd H f (.dT (putK kvs (nqL F v) (.ref l2))) b = some (.lst xs) := fun e => by
    rw [upd_ne (ne_of e N.at_ fun z => nomatch z)]
    exact e
  have hv : hN F 1 g p u + 1 = hN F 1 g p v := by
    rcases adj_step T hS hg a with h | h
    · omega
    · cases d with
      | goal =>
        have := hN_nn T hS hg a.on.2
        have := hN_at0 T hg
        omega
      | @step _ v' ns' a' l' d' =>
        have e := lower_uniq T hS hg a a' (by omega) l'
        subst e
        have := fd v (List.mem_cons_of_mem _ (d'.on hg).2.1)
        rw [nv] at this
        cases this
  have mono : ∀ {k : List Key}, (valV kvs k).isSome = true → (valV (putK kvs (nqL F v) (.ref l2)) k).isSome = true := fun {k} h => by
    rw [valV_put]
    split
    · rfl
    · exact h
  have self : (valV (putK kvs (nqL F v) (.ref l2)) (nqL F v)).isSome = true := by rw [valV_put, if_pos rfl]; rfl
  refine ⟨⟨upd_same, nd_putK _ N.nd nv, fun k x h => ?_, fun x o hx => ?_, mono N.aim⟩, by rw [putK_new _ nv, List.length_append]; rfl⟩
  · rw [valV_put] at h
    by_cases e : k = nqL F v
    · subst e
      rw [if_pos rfl] at h
      cases h
      refine ⟨v, l2, tv :: ts, v :: ns, rfl, rfl, kl e2, .cons (pv.kt kt) (Paired.mapP prs fun _ _ z => z.kt kt), .step a.symm hv d, fun z hz => ?_⟩
      rcases List.mem_cons.mp hz with rfl | hz
      · exact self
      · exact mono (fd z hz)
    · rw [if_neg e] at h
      obtain ⟨u', l, ts', ns', h1, h2, h3, h4, h5, h6⟩ := N.ok k x h
      exact ⟨u', l, ts', ns', h1, h2, kl h3, Paired.mapP h4 fun _ _ z => z.kt kt, h5, fun z hz => mono (h6 z hz)⟩
  · by_cases e : x = v
    · exact .inl (.inr e)
    · have hx' : (valV kvs (nqL F x)).isSome = true := by
        rw [valV_put, if_neg fun z => e (nqL_inj T n2 o a.on.2 z)] at hx
        exact hx
      rcases N.cl x o hx' with h | h
      · exact .inl (.inl h)
      · exact .inr fun z az => mono (h z az)
/-- all are found -/
theorem PthM.all (T : TreeM n F) (hg : On F 1 g p) (N : PthM F g p H f kvs fun _ => False) {u : Nd} (o : OnT F 1 u) : (valV kvs (nqL F u)).isSome = true :=
  reach T (by decide) hg (Fd := fun u => (valV kvs (nqL F u)).isSome = true) N.aim (fun u v hu a => ((N.cl u a.on.1 hu).resolve_left id) v a) _ u o rfl
end
end OT
set_option Elab.async false
set_option linter.all false
set_option maxRecDepth 100000
set_option maxHeartbeats 4000000
namespace OT
open PySem L2 OTR
theorem Dw.far {F : List Fact} {g : Nat} {p : Int} {u : Nd} {ns : List Nd} (d : Dw F g p u ns) : ∀ v ∈ ns, hN F 1 g p v ≤ hN F 1 g p u := by
  induction d with
  | goal =>
    intro v h
    rw [List.mem_singleton.mp h]
    exact Int.le_refl _
  | step a l d ih =>
    intro v h
    rcases List.mem_cons.mp h with h | h
    · rw [h]
      exact Int.le_refl _
    · have := ih v h
      omega
/-- the walk by frontiers: what is found (fnt, fnn) while the frontier (frt, frn) is gone through -/
structure BfS (F : List Fact) (g : Nat) (p : Int) (H G : Hp) (fa fr fl : Addr) (frt : List Addr) (frn : List Nd) (kv : List (List Key × V)) (fnt : List Addr) (fnn : List Nd) (W : Nd → Prop) (k0 : Nat) : Prop where
  same : Same H G
  fr_ : G fr = some (.lst (frt.map V.ref))
  fp : Paired (fun t v => PrAt G t (nqk F 1 v) ∧ OnT F 1 v ∧ (valV kv (nqL F v)).isSome = true) frt frn
  fl_ : G fl = some (.lst (fnt.map V.ref))
  gp : Paired (fun t v => PrAt G t (nqk F 1 v) ∧ OnT F 1 v ∧ (valV kv (nqL F v)).isSome = true) fnt fnn
  N : PthM F g p G fa kv W
  sep : SepL kv fl
  len : kv.length = k0 + fnt.length
section
variable {n : Int} {F : List Fact} {g : Nat} {p : Int} {H G G1 : Hp} {fa fr fl : Addr} {frt : List Addr} {frn : List Nd} {kv : List (List Key × V)} {fnt : List Addr} {fnn : List Nd} {W : Nd → Prop} {k0 : Nat}
theorem BfS.on (B : BfS F g p H G fa fr fl frt frn kv fnt fnn W k0) (s : Same G G1) : BfS F g p H G1 fa fr fl frt frn kv fnt fnn W k0 :=
  ⟨B.same.trans s, s _ _ B.fr_, Paired.mapP B.fp fun _ _ h => ⟨h.1.same s, h.2⟩, s _ _ B.fl_, Paired.mapP B.gp fun _ _ h => ⟨h.1.same s, h.2⟩, B.N.same s, B.sep, B.len⟩
theorem BfS.imp {W' : Nd → Prop} (B : BfS F g p H G fa fr fl frt frn kv fnt fnn W k0) (h : ∀ u, OnT F 1 u → (valV kv (nqL F u)).isSome = true → W u → W' u ∨ ∀ v, Adj F 1 u v → (valV kv (nqL F v)).isSome = true) : BfS F g p H G fa fr fl frt frn kv fnt fnn W' k0 :=
  ⟨B.same, B.fr_, B.fp, B.fl_, B.gp, B.N.imp h, B.sep, B.len⟩
theorem BfS.add (T : TreeM n F) (n2 : 2 ≤ n) (hg : On F 1 g p) (B : BfS F g p H G fa fr fl frt frn kv fnt fnn W k0) (hfa : H fa = none) (hfl : H fl = none) (nf : fr ≠ fl) {u v : Nd} {tv p2 : Addr} {ts : List Addr} {ns : List Nd} (a : Adj F 1 u v) (nv : valV kv (nqL F v) = none) (d : Dw F g p u ns) (fd : ∀ z ∈ ns, (valV kv (nqL F z)).isSome = true)
    (e2 : G p2 = some (.lst (.ref tv :: ts.map V.ref))) (np : p2 ≠ fl) (pv : PrAt G tv (nqk F 1 v)) (prs : Paired (fun t v => PrAt G t (nqk F 1 v)) ts ns) :
    G fl = some (.lst (fnt.map V.ref)) ∧ upd G fa (.dT (putK kv (nqL F v) (.ref p2))) fl = some (.lst (fnt.map V.ref)) ∧ BfS F g p H (upd (upd G fa (.dT (putK kv (nqL F v) (.ref p2)))) fl (.lst (fnt.map V.ref ++ [.ref tv]))) fa fr fl frt frn (putK kv (nqL F v) (.ref p2)) (fnt ++ [tv]) (fnn ++ [v]) (fun x => W x ∨ x = v) k0 := by
  obtain ⟨N1, l1⟩ := B.N.add T n2 hg a nv d fd e2 pv prs
  have kt1 : Kt G (upd G fa (.dT (putK kv (nqL F v) (.ref p2)))) := fun b xs e => by
    rw [upd_ne (ne_of e B.N.at_ fun z => nomatch z)]
    exact e
  have kl1 : ∀ {b : Addr} {xs : List V}, G b = some (.lst xs) → upd G fa (.dT (putK kv (nqL F v) (.ref p2))) b = some (.lst xs) := fun e => by
    rw [upd_ne (ne_of e B.N.at_ fun z => nomatch z)]
    exact e
  have efl := kl1 B.fl_
  have kt2 := kt_lst (ys := fnt.map V.ref ++ [.ref tv]) efl
  have kl2 : Kl fl (upd G fa (.dT (putK kv (nqL F v) (.ref p2)))) (upd (upd G fa (.dT (putK kv (nqL F v) (.ref p2)))) fl (.lst (fnt.map V.ref ++ [.ref tv]))) := kl_lst
  have kt : Kt G (upd (upd G fa (.dT (putK kv (nqL F v) (.ref p2)))) fl (.lst (fnt.map V.ref ++ [.ref tv]))) := fun b xs e => kt2 _ _ (kt1 _ _ e)
  have mono : ∀ {k : List Key}, (valV kv k).isSome = true → (valV (putK kv (nqL F v) (.ref p2)) k).isSome = true := fun {k} h => by
    rw [valV_put]
    split
    · rfl
    · exact h
  have sep1 : SepL (putK kv (nqL F v) (.ref p2)) fl := fun k l h => by
    rw [valV_put] at h
    by_cases e : k = nqL F v
    · rw [if_pos e] at h
      cases h
      exact np
    · rw [if_neg e] at h
      exact B.sep k l h
  have self : (valV (putK kv (nqL F v) (.ref p2)) (nqL F v)).isSome = true := by rw [valV_put, if_pos rfl]; rfl
  refine ⟨B.fl_, efl, fun b o e => ?_, kl2 _ _ nf (kl1 B.fr_), Paired.mapP B.fp fun _ _ h => ⟨h.1.kt kt, h.2.1, mono h.2.2⟩, by rw [List.map_append]; exact upd_same, paired_app (Paired.mapP B.gp fun _ _ h => ⟨h.1.kt kt, h.2.1, mono h.2.2⟩) (.cons ⟨pv.kt kt, a.on.2, self⟩ .nil), N1.keep (fun o e => by rw [upd_ne (ne_of N1.at_ efl fun z => nomatch z)]; exact e) kt2 sep1 kl2, sep1, by rw [l1, B.len, List.length_append]; rfl⟩
  rw [upd_ne (ne_of_none e hfl), upd_ne (ne_of_none e hfa)]
  exact B.same _ _ e
end
theorem adj_ex {n : Int} {F : List Fact} (T : TreeM n F) {u : Nd} (o : OnT F 1 u) : ∃ v, Adj F 1 u v := by
  obtain ⟨k, i, o, rfl⟩ := o
  have z := sz_pos T (show (1 : Int) ≤ 1 by decide) o.1
  by_cases h : i + 1 ≤ sz F 1 k
  · exact ⟨_, k, i, o.1, o.2.1, h, .inl ⟨rfl, rfl⟩⟩
  · have h2 := o.2.2
    exact ⟨_, k, i - 1, o.1, by omega, by omega, .inr ⟨by rw [show i - 1 + 1 = i by omega], rfl⟩⟩
theorem NbN.get {n : Int} {F : List Fact} {H : Hp} {pa d : Addr} {kvs : List (List Key × V)} {c : Nat} (T : TreeM n F) (n2 : 2 ≤ n) (N : NbN F H pa d kvs (Adj F 1) c) {u : Nd} (o : OnT F 1 u) : ∃ l ys ws, valV kvs (nqL F u) = some (.ref l) ∧ NbL F H u l ys ws ∧ ys.length ≤ c ∧ ∀ v, Adj F 1 u v → v ∈ ws := by
  obtain ⟨v, a⟩ := adj_ex T o
  obtain ⟨x, hx⟩ := Option.isSome_iff_exists.mp (N.has u v a)
  obtain ⟨u', l, ys, ws, h1, h2, rfl, h4, h5, h6, h7⟩ := N.ok _ x hx
  have e := nqL_inj T n2 o h2 h1
  subst e
  exact ⟨l, ys, ws, hx, h5, h6, h7⟩
end OT
set_option Elab.async false
set_option linter.all false
set_option maxRecDepth 100000
set_option maxHeartbeats 4000000
namespace OT
open PySem L2 OTR
/-- the marches on the tree with all lengths times S -/
def finM (S : Int) (gs : List MG) : List MG := gs.map fun x => (x.1, x.2.1 * S, x.2.2 * S)
/-- an entry of a table: a node, and where it is led -/
def RI (F : List Fact) (im : Nd → Nd → Prop) (G : Hp) (z : List Key × Addr × V) : Prop := ∃ (t : Addr) (u v : Nd), z.2.2 = .ref t ∧ z.1 = nqL F u ∧ OnT F 1 u ∧ OnT F 1 v ∧ im u v ∧ PrAt G t (nqk F 1 v)
theorem RI.kt {F : List Fact} {im : Nd → Nd → Prop} {G G' : Hp} {z : List Key × Addr × V} (h : RI F im G z) (k : Kt G G') : RI F im G' z := let ⟨t, u, v, a, b, c, d, e, f⟩ := h; ⟨t, u, v, a, b, c, d, e, f.kt k⟩
end OT
set_option Elab.async false
set_option linter.all false
set_option maxRecDepth 100000
set_option maxHeartbeats 4000000
namespace OTR
open PySem PySem.Spec L2 PyProof.Rows
end OTR
set_option Elab.async false
set_option linter.all false
set_option maxRecDepth 100000
set_option maxHeartbeats 4000000
namespace OT
open PySem L2 OTR
theorem MrOk.up {F : List Fact} {far far' : Int} {r : Fact} (h : MrOk F far r) (l : far ≤ far') : MrOk F far' r := ⟨h.rd, h.lo, h.hi, h.s1, h.s2.imp id fun z => by omega⟩
end OT
set_option Elab.async false
set_option linter.all false
set_option maxRecDepth 100000
set_option maxHeartbeats 4000000
namespace OT
open PySem L2 OTR
abbrev sScaled : Stmt := top 67
def spScaled : Sp := fun vs H Q _ => ∃ (p q l : Addr) (n c : Int) (F gs : List Fact), vs = [.ref p, .ref l, .int c] ∧ TrAt H p q n F ∧ FactsAt H l gs ∧ F.length ≤ 1000 ∧ gs.length ≤ 1000 ∧ 0 ≤ c ∧ c < 2 ^ 60 ∧
  ∀ t p2 q2 l2 H', Same H H' → H p2 = none → H q2 = none → H l2 = none → H' t = some (.tup [.ref p2, .ref l2]) → TrAt H' p2 q2 n (lng c F) → FactsAt H' l2 (gs.map fun r => (r.1, r.2.1 * c, r.2.2 * c)) → Q (.ref t) H'
section
variable {P : Program} {w : World} {K : PySem.W.Frag} {mg : Str → Option Value} {base : Heap}
abbrev nScaled : List Str := ["_law_spec", "_law_marches", "_law_factor", "_law_roads", "_law_longer", "_law_a", "_law_b", "_law_length", "_law_road", "_law_offset", "_law_steps"]
theorem scScaled : FnScope nScaled ["_law_spec", "_law_marches", "_law_factor"] (defScope sScaled) := ⟨rfl, rfl, rfl, by decide +kernel, rfl, by decide +kernel, by decide +kernel⟩
theorem ok_scaled {f : Addr} {fd : FuncData} (F : Fun K "_law_scaled" "_law_scaled" sScaled f fd) : FnOk P w K mg base CX0 1 f fd ["_law_spec", "_law_marches", "_law_factor"] spScaled := by
  refine F.ok scScaled (fun vs H Q E h => ?_) (fun cdv A outer s H vs Q E hr h => ?_)
  · obtain ⟨p, q, l, n, c, fs, gs, rfl, _⟩ := h
    rfl
  · obtain ⟨p, q, l, n, c, fs, gs, rfl, TA, hl, f1, g1, c0, c6, k⟩ := h
    have C64 : -(2 ^ 64 : Int) < c ∧ c < 2 ^ 64 := ⟨by omega, by omega⟩
    refine ⟨_, pss_cons (ps_setLc (i := 3) (own := [("_law_a", 5), ("_law_b", 6), ("_law_length", 7)]) (g := gTup K 3 (gCons (gName 5) (gCons (gName 6) (gCons (gName 7) gNil)))) (tt := tYes) rfl scScaled.nd rfl rfl (sw_true rfl rfl rfl (by decide +kernel)) (pi_list (pe_ix ix_tup (pv 0) pe_int (fun _ _ => rfl))) (blkOk_by (own := [("_law_a", 5), ("_law_b", 6), ("_law_length", 7)]) (N := nScaled) (sc := defScope sScaled) (by decide +kernel)) (fun _ _ _ _ _ => (pg_tup rfl (pgs_cons (pg_name (i := 5) scScaled.nd rfl (Or.inl rfl)) (pgs_cons (pg_name (i := 6) scScaled.nd rfl (Or.inl rfl)) (pgs_cons (pg_name (i := 7) scScaled.nd rfl (Or.inl rfl)) pgs_nil))))) (fun _ _ _ _ _ => pts_nil) (fun _ _ _ _ _ => (pe_tup (pa_cons (pv 5) (pa_cons (pv 6) (pa_cons (pe_op op_mul (pv 7) (pv 2)) pa_nil))))))
      (pss_cons (ps_setLc (i := 4) (own := [("_law_road", 8), ("_law_offset", 9), ("_law_steps", 10)]) (g := gTup K 3 (gCons (gName 8) (gCons (gName 9) (gCons (gName 10) gNil)))) (tt := tYes) rfl scScaled.nd rfl rfl (sw_true rfl rfl rfl (by decide +kernel)) (pi_list (pv 1)) (blkOk_by (own := [("_law_road", 8), ("_law_offset", 9), ("_law_steps", 10)]) (N := nScaled) (sc := defScope sScaled) (by decide +kernel)) (fun _ _ _ _ _ => (pg_tup rfl (pgs_cons (pg_name (i := 8) scScaled.nd rfl (Or.inl rfl)) (pgs_cons (pg_name (i := 9) scScaled.nd rfl (Or.inl rfl)) (pgs_cons (pg_name (i := 10) scScaled.nd rfl (Or.inl rfl)) pgs_nil))))) (fun _ _ _ _ _ => pts_nil) (fun _ _ _ _ _ => (pe_tup (pa_cons (pv 8) (pa_cons (pe_op op_mul (pv 9) (pv 2)) (pa_cons (pe_op op_mul (pv 10) (pv 2)) pa_nil))))))
      (pss_one (ps_ret (pe_tup (pa_cons (pe_tup (pa_cons (pe_ix ix_tup (pv 0) pe_int (fun _ _ => rfl)) (pa_cons (pv 3) pa_nil))) (pa_cons (pv 4) pa_nil)))))), ?_⟩
    have three : ∀ {x y z : V}, [x, y, z].length ≤ sizeLine := fun {x y z} => (by show 3 ≤ sizeLine; decide)
    have two : ∀ {x y : V}, [x, y].length ≤ sizeLine := fun {x y} => (by show 2 ≤ sizeLine; decide)
    obtain ⟨hp, ts, hq, hts⟩ := id TA
    obtain ⟨tm, hm, htm⟩ := id hl
    have tl : (ts.map V.ref).length = fs.length := by rw [List.length_map]; exact Paired.length hts
    have tml : (tm.map V.ref).length = gs.length := by rw [List.length_map]; exact Paired.length htm
    -- roads
    refine ⟨_, rfl, p, _, _, _, rfl, rfl, SqT.of hp, rfl, q, rfl, ⟨_, SqL.of hq⟩, fun D hD => lc_list (K := K) (a := q) (xs := ts.map V.ref) (fun i Gc => ∃ zs : List Addr, Gc D = some (.lst (zs.map V.ref)) ∧ zs.length = i ∧ Same H Gc ∧ Paired (TupAt Gc) zs ((lng c fs).take i))
      ⟨[], upd_same, rfl, Same.new hD, .nil⟩ (fun i Gc _ ⟨_, _, _, sc, _⟩ => SqL.of (sc _ _ hq)) ?_ ?_⟩
    · rintro i x Gc hi ⟨zs, gD, zl, sc, pz⟩
      obtain ⟨t, ht, rfl⟩ := map_get hi
      obtain ⟨r, hr', tr⟩ := paired_get hts ht
      have il : i < fs.length := (List.getElem?_eq_some_iff.mp hr').1
      refine ⟨t, _, rfl, SqT.of (sc _ _ tr), rfl, _, _, rfl, _, _, rfl, _, _, rfl, rfl, rfl, ?_⟩
      unfold tYes
      refine iteT ⟨_, rfl, _, rfl, _, rfl, _, rfl, _, _, rfl, rfl, .inr C64, three, fun pt hpt => ?_⟩
      have s2 := Same.new (o := .tup [.int r.1, .int r.2.1, .int (r.2.2 * c)]) hpt
      have gD2 := s2 _ _ gD
      refine ⟨zs.map V.ref, gD2, small1000 (by rw [List.length_map, zl]; omega), zs ++ [pt], by rw [List.map_append]; exact upd_same, by rw [List.length_append, zl]; rfl, fun b o e => ?_, ?_⟩
      · rw [upd_ne (ne_of_none e hD)]
        exact s2 _ _ (sc b o e)
      · rw [take_get (show (lng c fs)[i]? = some (r.1, r.2.1, r.2.2 * c) by unfold lng; rw [List.getElem?_map, hr']; rfl)]
        refine paired_snoc (tups_put (tups_same pz s2) gD2) ?_
        show upd _ D _ pt = _
        rw [upd_ne (ne_of_none gD hpt).symm]
        exact upd_same
    · rintro G1 ⟨zs, gD, zl, s1, pz⟩
      rw [tl, List.take_of_length_le (by rw [lng_len]; exact Nat.le_refl _)] at pz
      -- longer
      refine ⟨_, rfl, l, rfl, ⟨_, SqL.of (s1 _ _ hm)⟩, fun D2 hD2 => lc_list (K := K) (a := l) (xs := tm.map V.ref) (fun i Gc => ∃ ys : List Addr, Gc D2 = some (.lst (ys.map V.ref)) ∧ ys.length = i ∧ Same G1 Gc ∧ Paired (TupAt Gc) ys ((gs.map fun r : Fact => ((r.1, r.2.1 * c, r.2.2 * c) : Fact)).take i))
        ⟨[], upd_same, rfl, Same.new hD2, .nil⟩ (fun i Gc _ ⟨_, _, _, sc, _⟩ => SqL.of (sc _ _ (s1 _ _ hm))) ?_ ?_⟩
      · rintro i x Gc hi ⟨ys, gD2, yl, sc, py⟩
        obtain ⟨t, ht, rfl⟩ := map_get hi
        obtain ⟨r, hr', tr⟩ := paired_get htm ht
        have il : i < gs.length := (List.getElem?_eq_some_iff.mp hr').1
        refine ⟨t, _, rfl, SqT.of (sc _ _ (s1 _ _ tr)), rfl, _, _, rfl, _, _, rfl, _, _, rfl, rfl, rfl, ?_⟩
        unfold tYes
        refine iteT ⟨_, rfl, _, rfl, _, rfl, _, _, rfl, rfl, .inr C64, _, rfl, _, rfl, _, _, rfl, rfl, .inr C64, three, fun pt hpt => ?_⟩
        have s2 := Same.new (o := .tup [.int r.1, .int (r.2.1 * c), .int (r.2.2 * c)]) hpt
        have gD3 := s2 _ _ gD2
        refine ⟨ys.map V.ref, gD3, small1000 (by rw [List.length_map, yl]; omega), ys ++ [pt], by rw [List.map_append]; exact upd_same, by rw [List.length_append, yl]; rfl, fun b o e => ?_, ?_⟩
        · rw [upd_ne (ne_of_none e hD2)]
          exact s2 _ _ (sc b o e)
        · rw [take_get (show (gs.map fun r : Fact => ((r.1, r.2.1 * c, r.2.2 * c) : Fact))[i]? = some (r.1, r.2.1 * c, r.2.2 * c) by rw [List.getElem?_map, hr']; rfl)]
          refine paired_snoc (tups_put (tups_same py s2) gD3) ?_
          show upd _ D2 _ pt = _
          rw [upd_ne (ne_of_none gD2 hpt).symm]
          exact upd_same
      · rintro G2 ⟨ys, gD2, yl, s2, py⟩
        rw [tml, List.take_of_length_le (by rw [List.length_map]; exact Nat.le_refl _)] at py
        have s02 := s1.trans s2
        refine ⟨_, rfl, p, _, _, _, rfl, rfl, SqT.of (s02 _ _ hp), rfl, _, rfl, two, fun p2 hp2 => ⟨_, rfl, two, fun t ht => ?_⟩⟩
        have s3 := Same.new (o := .tup [.int n, .ref D]) hp2
        have s4 := Same.new (o := .tup [.ref p2, .ref D2]) ht
        have s34 := s3.trans s4
        exact k t p2 D D2 _ (s02.trans s34) (s02.free hp2) hD (s1.free hD2) upd_same ⟨s4 _ _ upd_same, zs, s34 _ _ (s2 _ _ gD), tups_same (tups_same pz s2) s34⟩ ⟨ys, s34 _ _ gD2, tups_same py s34⟩
end
end OT
set_option Elab.async false
set_option linter.all false
set_option maxRecDepth 100000
set_option maxHeartbeats 4000000
set_option Elab.async false
set_option linter.all false
set_option maxRecDepth 100000
set_option maxHeartbeats 4000000
namespace OT
theorem go_lngF {F : List Fact} {S : Int} {g : Nat} {p m : Int} {u v : Nd} (h : Go (lng S F) 1 g p m u v) : Go F S g p m u v := by
  obtain ⟨k, i, o, rfl, rfl⟩ := h
  rw [on_lng, Int.one_mul] at o
  refine ⟨k, i, o, by rw [node_lng, Int.one_mul], ?_⟩
  unfold pth
  rw [hP_lng, legsP_lng, node_lng, Int.one_mul]
theorem goL_finF {F : List Fact} {S : Int} : ∀ {gs : List MG} {u v : Nd}, GoL (lng S F) 1 (gs.map fun x => (x.1, x.2.1 * S, x.2.2 * S)) u v → GoL F S gs u v
  | [], _, _, h => h
  | x :: gs, u, v, ⟨w, h1, h2⟩ => ⟨w, by
    have h : Go (lng S F) 1 x.1 (x.2.1 * S * 1) (x.2.2 * S * 1) u w := h1
    rw [Int.mul_one, Int.mul_one] at h
    exact go_lngF h, goL_finF (gs := gs) h2⟩
theorem goL_exF {n : Int} {F : List Fact} {S : Int} (T : TreeM n F) (hS : 1 ≤ S) : ∀ {gs : List MG} {u : Nd}, (∀ x ∈ gs, MgOk F x) → OnT F S u → ∃ v, GoL F S gs u v
  | [], u, _, _ => ⟨u, rfl⟩
  | x :: gs, u, ok, ou => by
    obtain ⟨k, i, o, rfl⟩ := id ou
    have okx := ok x List.mem_cons_self
    have h : GoX F S x (node F S k i) _ := ⟨k, i, o, rfl, rfl⟩
    obtain ⟨v, hv⟩ := goL_exF T hS (gs := gs) (fun y hy => ok y (List.mem_cons_of_mem _ hy)) (Go.on T hS (okx.on hS) (okx.m0 hS) h)
    exact ⟨v, _, h, hv⟩
theorem pth_mul {c : Int} (hc : 0 < c) (F : List Fact) (S : Int) (g : Nat) (p : Int) (k : Nat) (i t : Int) : pth F (S * c) g (p * c) k (i * c) (t * c) = scN c (pth F S g p k i t) := by
  unfold pth
  rw [legsP_mul, posL_mul hc, node_mul hc]
theorem on_scale {F : List Fact} {S c : Int} (hc : 0 < c) {k : Nat} {i : Int} (o : On F S k i) : On F (S * c) k (i * c) := ⟨o.1, Int.mul_nonneg o.2.1 (by omega), by rw [sz_mul]; exact Int.mul_le_mul_of_nonneg_right o.2.2 (by omega)⟩
theorem goX_sc {F : List Fact} {S : Int} (hS : 1 ≤ S) {x : MG} {u v : Nd} (h : GoX F 1 x u v) : GoX F S x (scN S u) (scN S v) := by
  obtain ⟨k, i, o, rfl, rfl⟩ := h
  have hc : 0 < S := by omega
  have e1 := node_mul hc F 1 k i
  rw [Int.one_mul] at e1
  have o1 := on_scale hc o
  rw [Int.one_mul] at o1
  refine ⟨k, i * S, o1, e1.symm, ?_⟩
  have e2 := hP_mul hc F 1 x.1 (x.2.1 * 1) k i
  rw [Int.one_mul, Int.mul_one] at e2
  rw [e2, Int.mul_one, Int.mul_one]
  have e3 := pth_mul hc F 1 x.1 x.2.1 k i (if hP F 1 x.1 x.2.1 k i < x.2.2 then hP F 1 x.1 x.2.1 k i else x.2.2)
  rw [Int.one_mul] at e3
  rw [← e3]
  congr 1
  by_cases z : hP F 1 x.1 x.2.1 k i < x.2.2
  · rw [if_pos z, if_pos (Int.mul_lt_mul_of_pos_right z hc)]
  · have : ¬ hP F 1 x.1 x.2.1 k i * S < x.2.2 * S := fun q => z (Int.lt_of_mul_lt_mul_right q (by omega))
    rw [if_neg z, if_neg this]
theorem goL_sc {F : List Fact} {S : Int} (hS : 1 ≤ S) : ∀ {gs : List MG} {u v : Nd}, GoL F 1 gs u v → GoL F S gs (scN S u) (scN S v)
  | [], _, _, h => congrArg (scN S) h
  | x :: gs, u, v, ⟨w, h1, h2⟩ => ⟨_, goX_sc hS h1, goL_sc hS h2⟩
end OT
set_option Elab.async false
set_option linter.all false
set_option maxRecDepth 100000
set_option maxHeartbeats 4000000
set_option Elab.async false
set_option linter.all false
set_option maxRecDepth 100000
set_option maxHeartbeats 4000000
namespace OT
open PySem L2 OTR
/-- a node's place, of whole steps -/
def plN (F : List Fact) (u : Nd) : Fact := (((nqk F 1 u).1 : Nat), (nqk F 1 u).2, 1)
theorem plN_key (F : List Fact) (u : Nd) : keyF F 1 u = plN F u := by
  cases u with
  | cr c => rfl
  | mid k i => exact low_one _ _
/-- ahead by road and number -/
def lexN (x y : Nat × Int) : Prop := x.1 < y.1 ∨ (x.1 = y.1 ∧ x.2 < y.2)
end OT
set_option Elab.async false
set_option linter.all false
set_option maxRecDepth 100000
set_option maxHeartbeats 4000000
namespace OT
theorem Seg.far {n : Int} {F : List Fact} {S : Int} (T : TreeM n F) (hS : 1 ≤ S) {y : Int → Nd} (h : Seg F S y) {g : Nat} {p : Int} (hg : On F S g p) (eg : node F S g p = y S) {c : Int} (c0 : 0 ≤ c) (cS : c ≤ S) : hN F S g p (y c) = S - c ∧ OnT F S (y c) := by
  obtain ⟨k, j, t, ht, o1, o2, e⟩ := h
  have oc : On F S k (j * S + t * c) := by
    refine ⟨o1.1, ?_, ?_⟩
    · have := o1.2.1
      have := o2.2.1
      rcases ht with rfl | rfl <;> omega
    · have := o1.2.2
      have := o2.2.2
      rcases ht with rfl | rfl <;> omega
  have eS := e S (by omega) (Int.le_refl _)
  rw [e c c0 cS]
  refine ⟨?_, ⟨k, _, oc, rfl⟩⟩
  rw [hN_goal T hS hg o2 (eg.trans eS) ⟨k, _, oc, rfl⟩, hN_node T hS o2 oc, hP_g]
  unfold dst
  rcases ht with rfl | rfl
  · rw [if_neg (by omega)]
    omega
  · split <;> omega
theorem Seg.adj {F : List Fact} {S : Int} (hS : 1 ≤ S) {y : Int → Nd} (h : Seg F S y) {c : Int} (c0 : 0 ≤ c) (cS : c + 1 ≤ S) : Adj F S (y c) (y (c + 1)) := by
  obtain ⟨k, j, t, ht, o1, o2, e⟩ := h
  rw [e c c0 (by omega), e (c + 1) (by omega) cS]
  have a1 := o1.2.1
  have a2 := o2.2.1
  have b1 := o1.2.2
  have b2 := o2.2.2
  rcases ht with rfl | rfl
  · exact ⟨k, j * S + 1 * c, o1.1, by omega, by omega, .inl ⟨rfl, by rw [show j * S + 1 * (c + 1) = j * S + 1 * c + 1 by omega]⟩⟩
  · exact ⟨k, j * S + -1 * (c + 1), o1.1, by omega, by omega, .inr ⟨by rw [show j * S + -1 * (c + 1) + 1 = j * S + -1 * c by omega], rfl⟩⟩
theorem seg_uniq {n : Int} {F : List Fact} {S : Int} (T : TreeM n F) (hS : 1 ≤ S) {y1 y2 : Int → Nd} (h1 : Seg F S y1 ∨ Pnt S y1) (h2 : Seg F S y2 ∨ Pnt S y2) (e0 : y1 0 = y2 0) (eS : y1 S = y2 S) : ∀ c : Int, 0 ≤ c → c ≤ S → y1 c = y2 c := by
  have mixed : ∀ {x z : Int → Nd}, Seg F S x → Pnt S z → x 0 = z 0 → x S = z S → False := fun {x z} hx ⟨v, hv⟩ q0 qS => by
    obtain ⟨k, j, t, ht, o1, o2, e⟩ := id hx
    have eg := (e S (by omega) (Int.le_refl _)).symm
    obtain ⟨f0, _⟩ := hx.far T hS o2 eg (c := 0) (Int.le_refl _) (by omega)
    obtain ⟨fS, _⟩ := hx.far T hS o2 eg (c := S) (by omega) (Int.le_refl _)
    rw [q0, hv 0 (Int.le_refl _) (by omega)] at f0
    rw [qS, hv S (by omega) (Int.le_refl _)] at fS
    omega
  rcases h1 with h1 | h1
  · rcases h2 with h2 | h2
    · obtain ⟨k, j, t, ht, o1, o2, e⟩ := id h1
      have eg := (e S (by omega) (Int.le_refl _)).symm
      have key : ∀ m : Nat, (m : Int) ≤ S → y1 (m : Int) = y2 (m : Int) := by
        intro m
        induction m with
        | zero => exact fun _ => e0
        | succ m ih =>
          intro hm
          have em := ih (by omega)
          have f1 := (h1.far T hS o2 eg (c := (m : Int)) (by omega) (by omega)).1
          have f1' := (h1.far T hS o2 eg (c := (m : Int) + 1) (by omega) (by omega)).1
          have f2' := (h2.far T hS o2 (eg.trans eS) (c := (m : Int) + 1) (by omega) (by omega)).1
          have a1 := h1.adj hS (c := (m : Int)) (by omega) (by omega)
          have a2 := h2.adj hS (c := (m : Int)) (by omega) (by omega)
          rw [← em] at a2
          rw [show ((m + 1 : Nat) : Int) = (m : Int) + 1 by omega]
          exact lower_uniq T hS o2 a1 a2 (by omega) (by omega)
      intro c c0 cS
      have := key c.toNat (by omega)
      rw [Int.toNat_of_nonneg c0] at this
      exact this
    · exact (mixed h1 h2 e0 eS).elim
  · rcases h2 with h2 | h2
    · exact (mixed h2 h1 e0.symm eS.symm).elim
    · obtain ⟨v, hv⟩ := h1
      obtain ⟨v2, hv2⟩ := h2
      intro c c0 cS
      rw [hv c c0 cS, hv2 c c0 cS, ← hv 0 (Int.le_refl _) (by omega), ← hv2 0 (Int.le_refl _) (by omega)]
      exact e0
end OT
set_option Elab.async false
set_option linter.all false
set_option maxRecDepth 100000
set_option maxHeartbeats 4000000
namespace OT
open PySem L2 OTR
theorem drawn_tg {most long n : Int} {fs : List Fact} (d : Drawn most long n fs) (h24 : most ≤ 24) (hl : long ≤ 1000000000) : TreeG n fs :=
  ⟨⟨fun r hr => let ⟨a, b, c, _⟩ := d.ok r hr; ⟨a, b, c⟩, d.nr, d.con⟩, fun r hr => by
    obtain ⟨_, _, _, z⟩ := d.ok r hr
    omega, d.lo, by have := d.hi; omega, d.len⟩
end OT
set_option Elab.async false
set_option linter.all false
set_option maxRecDepth 100000
set_option maxHeartbeats 1000000
namespace OT
theorem Geo.congr {F : List Fact} {c : Nat} {x y : Nat → Nd} (h : Geo F c x) (e : ∀ t, t ≤ c → y t = x t) : Geo F c y := by
  refine ⟨fun t ht => ?_, fun t ht => ?_, ?_⟩
  · rw [e t (by omega), e (t + 1) (by omega)]
    exact h.ch t ht
  · rw [e t ht]
    exact h.on_ t ht
  · rw [e 0 (Nat.zero_le _), e c (Nat.le_refl _)]
    exact h.far
section
variable {n : Int} {F : List Fact} (T : TreeM n F) (n2 : 2 ≤ n)
include T n2
/-- a stretch's image at one of its positions, told by its ends -/
theorem Pw.at_ {f : Nat → Nd} {s e t : Nat} (h : Pw F f s e) (st : s ≤ t) (te : t ≤ e) (on_ : ∀ t, s ≤ t → t ≤ e → OnT F 1 (f t)) {g : Nat} {p : Int} (og : On F 1 g p) (eg : node F 1 g p = f e) {v : Nd} (go : Go F 1 g p ((t - s : Nat) : Int) (f s) v) : v = f t := by
  obtain ⟨k, i, ok, e1, e2⟩ := go
  have eD : Dn F (f s) (f e) = hP F 1 g p k i := by rw [e1, ← eg, Dn_hP T n2 ok og]
  have os := on_ s (Nat.le_refl _) (by omega)
  rcases h with h | h
  · have z : hP F 1 g p k i = 0 := by rw [← eD, h e (by omega) (Nat.le_refl _), Dn_self T n2 os]
    rw [e2, z, h t st te]
    have : (if (0 : Int) < ((t - s : Nat) : Int) then (0 : Int) else ((t - s : Nat) : Int)) = 0 := by split <;> omega
    rw [this, pth_0 T (by decide) og ok, e1]
  · have far := h.far
    rw [Nat.add_zero, show s + (e - s) = e by omega] at far
    have z : hP F 1 g p k i = ((e - s : Nat) : Int) := by rw [← eD, far]
    have w := h.way T n2 ok og (a := t - s) (by show f (s + 0) = _; exact e1) (by omega) (fun r hr => by
      show Dn F (f (s + r)) (node F 1 g p) = Dn F (f (s + 0)) (node F 1 g p) - r
      have d := (h.sub T n2 (a := r) (b := e - s - r) (by omega)).far
      have d : Dn F (f (s + (r + 0))) (f (s + (r + (e - s - r)))) = ((e - s - r : Nat) : Int) := d
      rw [Nat.add_zero, show s + (r + (e - s - r)) = e by omega] at d
      rw [eg, Nat.add_zero, d, far]
      omega) (t - s) (Nat.le_refl _)
    have w : f (s + (t - s)) = _ := w
    rw [show s + (t - s) = t by omega] at w
    rw [e2, z, w]
    congr 1
    split <;> omega
end
end OT
set_option Elab.async false
set_option linter.all false
set_option maxRecDepth 100000
set_option maxHeartbeats 1000000
namespace OT
/-- two lists of stretches that are gone through side by side: what is left of both, and what is known to agree -/
structure HS (F : List Fact) (f1 f2 : Nat → Nat → Nd) (N : Nat) (L1 L2 : List It) (s1 s2 : Nat × Nat) : Prop where
  cv1 : CovS F s1 (N, 0) L1
  cv2 : CovS F s2 (N, 0) L2
  rd : s1.1 = s2.1
  h1 : ∀ z, L1.head? = some z → s2.2 < z.2.2
  h2 : ∀ z, L2.head? = some z → s1.2 < z.2.2
  ag : ∀ k t : Nat, k < N → (t : Int) ≤ sz F 1 k → (k < s1.1 ∨ (k = s1.1 ∧ t < max s1.2 s2.2)) → f1 k t = f2 k t
theorem covS_head {F : List Fact} {s b : Nat × Nat} {L : List It} {z : It} (h : CovS F s b L) (e : L.head? = some z) : z.1 = s.1 ∧ z.2.1 = s.2 ∧ z.2.1 < z.2.2 := by
  cases L with
  | nil => cases e
  | cons y L =>
    cases e
    obtain ⟨h1, h2, _⟩ := h
    rw [← h1]
    exact ⟨rfl, rfl, h2⟩
section
variable {F : List Fact} {f1 f2 : Nat → Nat → Nd} {N : Nat} {L1 L2 : List It} {s1 s2 : Nat × Nat}
theorem HS.done (h : HS F f1 f2 N [] L2 s1 s2) : ∀ k t : Nat, k < N → (t : Int) ≤ sz F 1 k → f1 k t = f2 k t := fun k t hk ht => by
  have e : s1 = (N, 0) := h.cv1
  exact h.ag k t hk ht (.inl (by rw [e]; exact hk))
theorem HS.more {y : It} (h : HS F f1 f2 N (y :: L1) L2 s1 s2) : ∃ z L, L2 = z :: L := by
  cases L2 with
  | cons z L => exact ⟨z, L, rfl⟩
  | nil =>
    exfalso
    have e : s2 = (N, 0) := h.cv2
    have := CovS.in_ h.cv1 y (List.mem_cons_self ..)
    have := covS_head h.cv1 (z := y) rfl
    have := h.rd
    rw [e] at this
    dsimp only at this
    omega
theorem HS.heads {y z : It} (h : HS F f1 f2 N (y :: L1) (z :: L2) s1 s2) : y.1 = z.1 ∧ y.2.1 < y.2.2 ∧ z.2.1 < z.2.2 ∧ z.2.1 < y.2.2 ∧ y.2.1 < z.2.2 ∧ y.1 < N ∧ (y.2.2 : Int) ≤ sz F 1 y.1 ∧ (z.2.2 : Int) ≤ sz F 1 y.1 := by
  obtain ⟨a1, a2, a3⟩ := covS_head h.cv1 (z := y) rfl
  obtain ⟨b1, b2, b3⟩ := covS_head h.cv2 (z := z) rfl
  have i1 := CovS.in_ h.cv1 y (List.mem_cons_self ..)
  have i2 := CovS.in_ h.cv2 z (List.mem_cons_self ..)
  have r := h.rd
  have x1 := h.h1 y rfl
  have x2 := h.h2 z rfl
  have e : y.1 = z.1 := by omega
  refine ⟨e, a3, b3, by omega, by omega, i1.1, i1.2, ?_⟩
  rw [e]
  exact i2.2
/-- what was known before, at the two heads -/
theorem HS.before {y z : It} (h : HS F f1 f2 N (y :: L1) (z :: L2) s1 s2) : ∀ k t : Nat, k < N → (t : Int) ≤ sz F 1 k → (k < y.1 ∨ (k = y.1 ∧ t < max y.2.1 z.2.1)) → f1 k t = f2 k t := fun k t hk ht q => by
  obtain ⟨a1, a2, a3⟩ := covS_head h.cv1 (z := y) rfl
  obtain ⟨b1, b2, b3⟩ := covS_head h.cv2 (z := z) rfl
  exact h.ag k t hk ht (by rw [← a1, ← a2, ← b2]; exact q)
theorem HS.step {y z : It} (h : HS F f1 f2 N (y :: L1) (z :: L2) s1 s2) (eq : ∀ t, max y.2.1 z.2.1 ≤ t → t ≤ min y.2.2 z.2.2 → f1 y.1 t = f2 y.1 t) : ∃ s1' s2', HS F f1 f2 N (if y.2.2 ≤ z.2.2 then L1 else y :: L1) (if z.2.2 ≤ y.2.2 then L2 else z :: L2) s1' s2' := by
  obtain ⟨e1, e2, e3, e4, e5, e6, e7, e8⟩ := h.heads
  have bf := h.before
  obtain ⟨c1, c2, c3⟩ := h.cv1
  obtain ⟨d1, d2, d3⟩ := h.cv2
  obtain ⟨k, p1, q1⟩ := y
  obtain ⟨k', p2, q2⟩ := z
  dsimp only at *
  subst e1
  have all : ∀ t, t ≤ min q1 q2 → f1 k t = f2 k t := fun t ht => by
    by_cases w : t < max p1 p2
    · exact bf k t e6 (by omega) (.inr ⟨rfl, w⟩)
    · exact eq t (by omega) ht
  rcases Nat.lt_trichotomy q1 q2 with lt | eq' | gt
  · have nz : nx F k q1 = (k, q1) := by
      unfold nx
      rw [if_neg (by omega)]
    rw [nz] at c3
    rw [if_pos (by omega), if_neg (by omega)]
    refine ⟨(k, q1), (k, p2), c3, ⟨rfl, d2, d3⟩, rfl, fun z hz => ?_, fun z hz => ?_, fun k2 t hk ht q => ?_⟩
    · have := covS_head c3 hz
      dsimp only at this ⊢
      omega
    · cases hz
      exact lt
    · rcases q with q | ⟨q, w⟩
      · exact bf k2 t hk ht (.inl q)
      · have q : k2 = k := q
        subst q
        have w : t < max q1 p2 := w
        exact all t (by omega)
  · subst eq'
    rw [if_pos (Nat.le_refl _), if_pos (Nat.le_refl _)]
    refine ⟨_, _, c3, d3, rfl, fun z hz => ?_, fun z hz => ?_, fun k2 t hk ht q => ?_⟩
    · have := covS_head c3 hz
      omega
    · have := covS_head d3 hz
      omega
    · by_cases lk : k2 < k
      · exact bf k2 t hk ht (.inl lk)
      · by_cases w : (q1 : Int) = sz F 1 k
        · have nz : nx F k q1 = (k + 1, 0) := by
            unfold nx
            rw [if_pos w]
          rw [nz] at q
          dsimp only at q
          have : k2 = k := by omega
          subst this
          exact all t (by omega)
        · have nz : nx F k q1 = (k, q1) := by
            unfold nx
            rw [if_neg w]
          rw [nz] at q
          dsimp only at q
          have : k2 = k := by omega
          subst this
          exact all t (by omega)
  · have nz : nx F k q2 = (k, q2) := by
      unfold nx
      rw [if_neg (by omega)]
    rw [nz] at d3
    rw [if_neg (by omega), if_pos (by omega)]
    refine ⟨(k, p1), (k, q2), ⟨rfl, c2, c3⟩, d3, rfl, fun z hz => ?_, fun z hz => ?_, fun k2 t hk ht q => ?_⟩
    · cases hz
      exact gt
    · have := covS_head d3 hz
      dsimp only at this ⊢
      omega
    · rcases q with q | ⟨q, w⟩
      · exact bf k2 t hk ht (.inl q)
      · have q : k2 = k := q
        subst q
        have w : t < max p1 q2 := w
        exact all t (by omega)
end
end OT
set_option Elab.async false
set_option linter.all false
set_option maxRecDepth 100000
set_option maxHeartbeats 4000000
set_option Elab.async false
set_option linter.all false
set_option maxRecDepth 100000
set_option maxHeartbeats 2000000
namespace OTR
open PySem PySem.Spec PyProof.Rows L2
open AutoSeq1 (wpAny_loadPart')
open MeetsSeq MeetsSeq2 MeetsSeq3 SeqRoads2 SeqAt
/-- the lists at a and b hold all; what is left of them is compared -/
def lsAll (R : Rdg) (a b : Addr) (xa ya : List V) : List V → List V → Hp → (Bool → Hp → Prop) → Prop
  | x :: xs, y :: ys, H, Q => (H a = some (.lst xa) ∧ H b = some (.lst ya)) ∧ R x y H fun r H' => if r = true then lsAll R a b xa ya xs ys H' Q else (H' a = some (.lst xa) ∧ H' b = some (.lst ya)) ∧ Q false H'
  | _, _, H, Q => (H a = some (.lst xa) ∧ H b = some (.lst ya)) ∧ Q true H
theorem lsAll.at_ {R : Rdg} {a b : Addr} {xa ya xs ys : List V} {H : Hp} {Q : Bool → Hp → Prop} (h : lsAll R a b xa ya xs ys H Q) : H a = some (.lst xa) ∧ H b = some (.lst ya) := by
  cases xs <;> cases ys <;> exact h.1
end OTR
set_option Elab.async false
set_option linter.all false
set_option maxRecDepth 100000
set_option maxHeartbeats 4000000
namespace OT
open PySem L2 OTR
def MzAt (CM CP : Addr) (H : Hp) (p : Addr) (z : Fact × Int) : Prop := ∃ g, MarchAt CM H p g z.2 ∧ PlaceAt CP H g z.1
theorem MzAt.same {CM CP : Addr} {H H' : Hp} {p : Addr} {z : Fact × Int} (h : MzAt CM CP H p z) (s : Same H H') : MzAt CM CP H' p z := let ⟨g, a, b⟩ := h; ⟨g, a.same s, b.same s⟩
theorem plF_inj {r r' : Fact} (h : plF r = plF r') : r = r' := by
  unfold plF at h
  simp only [List.cons.injEq, Prod.mk.injEq, V.int.injEq, true_and, and_true] at h
  exact Prod.ext h.1 (Prod.ext h.2.1 h.2.2)
theorem PlaceAt.inj {C : Addr} {H : Hp} {p : Addr} {r r' : Fact} (h : PlaceAt C H p r) (k : PlaceAt C H p r') : r = r' := by
  obtain ⟨dx, e⟩ := h
  obtain ⟨dy, e'⟩ := k
  rw [e] at e'
  injection e' with e'
  injection e' with _ _ e'
  exact plF_inj e'
theorem MarchAt.inj {C : Addr} {H : Hp} {p g g' : Addr} {n n' : Int} (h : MarchAt C H p g n) (k : MarchAt C H p g' n') : g = g' ∧ n = n' := by
  obtain ⟨dx, e⟩ := h
  obtain ⟨dy, e'⟩ := k
  rw [e] at e'
  injection e' with e'
  injection e' with _ _ e'
  unfold maF at e'
  simp only [List.cons.injEq, Prod.mk.injEq, V.int.injEq, V.ref.injEq, true_and, and_true] at e'
  exact e'
theorem MzAt.inj {CM CP : Addr} {H : Hp} {p : Addr} {z z' : Fact × Int} (h : MzAt CM CP H p z) (k : MzAt CM CP H p z') : z = z' := by
  obtain ⟨g, a, b⟩ := h
  obtain ⟨g', a', b'⟩ := k
  obtain ⟨rfl, e⟩ := a.inj a'
  exact Prod.ext (b.inj b') e
/-- a row, with all that it rests on -/
structure RowS (K : PySem.W.Frag) (CT CR CM CP CW : Addr) (H : Hp) (p : Addr) (n : Int) (F : List Fact) (xs : List MG) : Prop where
  ok : ∀ x ∈ xs, MgOk F x
  len : xs.length ≤ 900
  G : TreeG n F
  at_ : ∃ (a : Addr) (ps ms : List Addr), RowAt K CW H p a ms ∧ TreeAt K CT CR H a n ps F ∧ MasAt CM CP H ms (xs.map mf)
section
variable {P : Program} {w : World} {K : PySem.W.Frag} {mg : Str → Option Value} {base : Heap}
theorem RowS.same {CT CR CM CP CW : Addr} {H H' : Hp} {p : Addr} {n : Int} {F : List Fact} {xs : List MG} (h : RowS K CT CR CM CP CW H p n F xs) (s : Same H H') : RowS K CT CR CM CP CW H' p n F xs := by
  obtain ⟨ok, len, G, a, ps, ms, ⟨dx, t, e, u⟩, T, M⟩ := h
  exact ⟨ok, len, G, a, ps, ms, ⟨dx, t, s _ _ e, sqT_same u s⟩, T.same s, MasAt.same M s⟩
end
end OT
set_option Elab.async false
set_option linter.all false
set_option maxRecDepth 100000
set_option maxHeartbeats 4000000
namespace OT
open PySem L2 OTR
def AlAt (C : Addr) (H : Hp) (p : Addr) : Prop := ∃ dx, H p = some (.ins C dx [])
theorem AlAt.same {C : Addr} {H H' : Hp} {p : Addr} (h : AlAt C H p) (s : Same H H') : AlAt C H' p := let ⟨dx, e⟩ := h; ⟨dx, s _ _ e⟩
def ptF (a b c : Addr) : List (Str × V) := [("place", .ref a), ("ours", .ref b), ("theirs", .ref c)]
def PtAt (C : Addr) (H : Hp) (p a b c : Addr) : Prop := ∃ dx, H p = some (.ins C dx (ptF a b c))
/-- a finding that two rows part: the place, and where it is led -/
def PtS (C CP : Addr) (H : Hp) (p : Addr) (z : Fact × Fact × Fact) : Prop := ∃ a b c, PtAt C H p a b c ∧ PlaceAt CP H a z.1 ∧ PlaceAt CP H b z.2.1 ∧ PlaceAt CP H c z.2.2
theorem PtS.kp {C CP : Addr} {H H' : Hp} {p : Addr} {z : Fact × Fact × Fact} (h : PtS C CP H p z) (k : Kp H H') : PtS C CP H' p z := let ⟨a, b, c, ⟨dx, e⟩, p1, p2, p3⟩ := h; ⟨a, b, c, ⟨dx, k _ _ e fun _ z => nomatch z⟩, p1.kp k, p2.kp k, p3.kp k⟩
end OT
set_option Elab.async false
set_option linter.all false
set_option maxRecDepth 100000
set_option maxHeartbeats 4000000
set_option Elab.async false
set_option linter.all false
set_option maxRecDepth 100000
set_option maxHeartbeats 2000000
namespace OTR
open PySem PySem.Spec PyProof.Rows L2
open AutoSeq1 (wpAny_loadPart')
open MeetsSeq MeetsSeq2 MeetsSeq3 SeqRoads2 SeqAt
end OTR
set_option Elab.async false
set_option linter.all false
set_option maxRecDepth 100000
set_option maxHeartbeats 4000000
set_option Elab.async false
set_option linter.all false
set_option maxRecDepth 100000
set_option maxHeartbeats 4000000
namespace OT
open PySem L2 OTR
def Agr (F : List Fact) (g1 g2 : List MG) : Prop := ∀ u, OnT F 1 u → ∃ v, GoL F 1 g1 u v ∧ GoL F 1 g2 u v
theorem Agr.swap {F : List Fact} {g1 g2 : List MG} (h : Agr F g1 g2) : Agr F g2 g1 := fun u o => let ⟨v, a, b⟩ := h u o; ⟨v, b, a⟩
/-- the first node, by road and number, that two rows lead elsewhere -/
structure MinD (F : List Fact) (g1 g2 : List MG) (u v1 v2 : Nd) : Prop where
  on : OnT F 1 u
  h1 : GoL F 1 g1 u v1
  h2 : GoL F 1 g2 u v2
  ne : v1 ≠ v2
  mi : ∀ u', OnT F 1 u' → lexN (nqk F 1 u') (nqk F 1 u) → ∃ v, GoL F 1 g1 u' v ∧ GoL F 1 g2 u' v
theorem MinD.swap {F : List Fact} {g1 g2 : List MG} {u v1 v2 : Nd} (h : MinD F g1 g2 u v1 v2) : MinD F g2 g1 u v2 v1 := ⟨h.on, h.h2, h.h1, h.ne.symm, fun u' o l => let ⟨v, a, b⟩ := h.mi u' o l; ⟨v, b, a⟩⟩
section
variable {n : Int} {F : List Fact} (T : TreeM n F) {g1 g2 : List MG} (ok1 : ∀ x ∈ g1, MgOk F x) (ok2 : ∀ x ∈ g2, MgOk F x)
include T ok1 ok2
theorem no_agree {u v1 v2 : Nd} (h1 : GoL F 1 g1 u v1) (h2 : GoL F 1 g2 u v2) (ne : v1 ≠ v2) (a : ∃ v, GoL F 1 g1 u v ∧ GoL F 1 g2 u v) : False := by
  obtain ⟨v, a, b⟩ := a
  exact ne ((GoL.uniq T (by decide) ok1 h1 a).trans (GoL.uniq T (by decide) ok2 h2 b).symm)
theorem MinD.uniq (n2 : 2 ≤ n) {u v1 v2 u' v1' v2' : Nd} (h : MinD F g1 g2 u v1 v2) (k : MinD F g1 g2 u' v1' v2') : u = u' ∧ v1 = v1' ∧ v2 = v2' := by
  have e : nqk F 1 u = nqk F 1 u' := by
    have c1 : ¬ lexN (nqk F 1 u') (nqk F 1 u) := fun l => no_agree T ok1 ok2 k.h1 k.h2 k.ne (h.mi u' k.on l)
    have c2 : ¬ lexN (nqk F 1 u) (nqk F 1 u') := fun l => no_agree T ok1 ok2 h.h1 h.h2 h.ne (k.mi u h.on l)
    unfold lexN at c1 c2
    refine Prod.ext ?_ ?_ <;> omega
  have eu := nqk_inj T n2 (by decide) h.on k.on e
  subst eu
  exact ⟨rfl, GoL.uniq T (by decide) ok1 h.h1 k.h1, GoL.uniq T (by decide) ok2 h.h2 k.h2⟩
end
def ExpS (CP : Addr) (F : List Fact) (g1 g2 : List MG) (H : Hp) (y : V) : Prop := (y = .non ∧ Agr F g1 g2) ∨ ∃ D a b c u v1 v2, y = .ref D ∧ MinD F g1 g2 u v1 v2 ∧ H D = some (.lst [.ref a, .ref b, .ref c]) ∧ PlaceAt CP H a (plN F u) ∧ PlaceAt CP H b (plN F v1) ∧ PlaceAt CP H c (plN F v2)
theorem ExpS.same {CP : Addr} {F : List Fact} {g1 g2 : List MG} {H H' : Hp} {y : V} (h : ExpS CP F g1 g2 H y) (s : Same H H') : ExpS CP F g1 g2 H' y :=
  h.imp id fun ⟨D, a, b, c, u, v1, v2, e, m, l, p1, p2, p3⟩ => ⟨D, a, b, c, u, v1, v2, e, m, s _ _ l, p1.same s, p2.same s, p3.same s⟩
end OT
set_option Elab.async false
set_option linter.all false
set_option maxRecDepth 100000
set_option maxHeartbeats 4000000
namespace OT
theorem go_toF {F : List Fact} {S : Int} {g : Nat} {p m : Int} {u v : Nd} (h : Go F S g p m u v) : Go (lng S F) 1 g p m u v := by
  obtain ⟨k, i, o, rfl, rfl⟩ := h
  refine ⟨k, i, by rw [on_lng, Int.one_mul]; exact o, by rw [node_lng, Int.one_mul], ?_⟩
  unfold pth
  rw [hP_lng, legsP_lng, node_lng, Int.one_mul]
theorem ont_toF {F : List Fact} {S : Int} {u : Nd} : OnT F S u → OnT (lng S F) 1 u := fun ⟨k, i, o, e⟩ => ⟨k, i, by rw [on_lng, Int.one_mul]; exact o, by rw [e, node_lng, Int.one_mul]⟩
theorem goL_toF {F : List Fact} {S : Int} : ∀ {gs : List MG} {u v : Nd}, GoL F S gs u v → GoL (lng S F) 1 (finM S gs) u v
  | [], _, _, h => h
  | x :: gs, u, v, ⟨w, h1, h2⟩ => ⟨w, by
    show Go (lng S F) 1 x.1 (x.2.1 * S * 1) (x.2.2 * S * 1) u w
    rw [Int.mul_one, Int.mul_one]
    exact go_toF h1, goL_toF (gs := gs) h2⟩
theorem scN_inj {c : Int} (hc : 0 < c) : ∀ {u v : Nd}, scN c u = scN c v → u = v
  | .cr x, .cr y, h => h
  | .mid k i, .mid l j, h => by
    have h' : Nd.mid k (i * c) = Nd.mid l (j * c) := h
    injection h' with h1 h2
    rw [h1, Int.eq_of_mul_eq_mul_right (by omega) h2]
  | .cr x, .mid l j, h => by
    have h' : Nd.cr x = Nd.mid l (j * c) := h
    cases h'
  | .mid k i, .cr y, h => by
    have h' : Nd.mid k (i * c) = Nd.cr y := h
    cases h'
theorem node_one {c : Int} (hc : 0 < c) (F : List Fact) (k : Nat) (i : Int) : node F c k (i * c) = scN c (node F 1 k i) := by
  have e := node_mul hc F 1 k i
  rw [Int.one_mul] at e
  exact e
section
variable {n : Int} {F : List Fact} {S : Int} (T : TreeM n F) (hS : 1 ≤ S)
include T hS
theorem esz_one (k : Nat) : sz F S k = sz F 1 k * S := by
  have := sz_mul F 1 S k
  rw [Int.one_mul] at this
  exact this
theorem on_unit {k : Nat} {j : Int} (hk : k < F.length) (j0 : 0 ≤ j) (jL : j + 1 ≤ sz F 1 k) {c : Int} (c0 : 0 ≤ c) (cS : c ≤ S) : On F S k (j * S + c) := by
  have bnd : (j + 1) * S ≤ sz F 1 k * S := Int.mul_le_mul_of_nonneg_right jL (by omega)
  rw [Int.add_mul, Int.one_mul] at bnd
  have jS0 : 0 ≤ j * S := Int.mul_nonneg j0 (by omega)
  exact ⟨hk, by omega, by rw [esz_one T hS]; omega⟩
theorem seg_up {k : Nat} {j : Int} (hk : k < F.length) (j0 : 0 ≤ j) (jL : j + 1 ≤ sz F 1 k) : Seg F S (fun c => node F S k (j * S + c)) := by
  have o0 := on_unit T hS hk j0 jL (Int.le_refl 0) (by omega : (0 : Int) ≤ S)
  rw [Int.add_zero] at o0
  exact ⟨k, j, 1, .inl rfl, o0, by rw [Int.one_mul]; exact on_unit T hS hk j0 jL (by omega) (Int.le_refl _), fun c _ _ => by rw [Int.one_mul]⟩
/-- a row's images along one unit of a way -/
theorem unit_img {gs : List MG} (ok : ∀ x ∈ gs, MgOk F x) {k : Nat} {j : Int} (hk : k < F.length) (j0 : 0 ≤ j) (jL : j + 1 ≤ sz F 1 k) {a b : Nd} (ha : GoL F 1 gs (node F 1 k j) a) (hb : GoL F 1 gs (node F 1 k (j + 1)) b) :
    ∃ y : Int → Nd, (Seg F S y ∨ Pnt S y) ∧ y 0 = scN S a ∧ y S = scN S b ∧ ∀ c, 0 ≤ c → c ≤ S → GoL F S gs (node F S k (j * S + c)) (y c) := by
  have h : ∀ c : Int, ∃ v, 0 ≤ c → c ≤ S → GoL F S gs (node F S k (j * S + c)) v := fun c => by
    by_cases q : 0 ≤ c ∧ c ≤ S
    · obtain ⟨v, hv⟩ := goL_exF T hS ok (u := node F S k (j * S + c)) ⟨k, _, on_unit T hS hk j0 jL q.1 q.2, rfl⟩
      exact ⟨v, fun _ _ => hv⟩
    · exact ⟨.cr 0, fun h0 h1 => absurd ⟨h0, h1⟩ q⟩
  obtain ⟨y, hy⟩ : ∃ y : Int → Nd, ∀ c, 0 ≤ c → c ≤ S → GoL F S gs (node F S k (j * S + c)) (y c) := ⟨fun c => (h c).choose, fun c h0 h1 => (h c).choose_spec h0 h1⟩
  have whole : ∀ (q : Int) {w v : Nd}, GoL F S gs (node F S k (q * S)) w → GoL F 1 gs (node F 1 k q) v → w = scN S v := fun q {w v} b1 b2 => by
    have z := goL_sc hS b2
    rw [← node_one (by omega)] at z
    exact GoL.uniq T hS ok b1 z
  refine ⟨y, Seg.row T hS ok (.inl (seg_up T hS hk j0 jL)) hy, ?_, ?_, hy⟩
  · have b := hy 0 (Int.le_refl _) (by omega)
    rw [Int.add_zero] at b
    exact whole j b ha
  · have b := hy S (by omega) (Int.le_refl _)
    have ej : j * S + S = (j + 1) * S := by rw [Int.add_mul, Int.one_mul]
    rw [ej] at b
    exact whole (j + 1) b hb
end
end OT
set_option Elab.async false
set_option linter.all false
set_option maxRecDepth 100000
set_option maxHeartbeats 4000000
namespace OT
theorem cov_mult {F : List Fact} {N : Nat} {C : Nat → Nat → Prop} (hend : ∀ k e : Nat, k < N → (e : Int) = sz F 1 k → C k e) : ∀ {L : List It} {a : Nat × Nat}, CovS F a (N, 0) L → (∀ i y z, L[i]? = some y → L[i + 1]? = some z → y.1 = z.1 → C y.1 y.2.2) → ∀ z ∈ L, C z.1 z.2.2
  | [], _, _, _, z, h => by cases h
  | y :: L, a, hc, bnd, z, h => by
    have zi := CovS.in_ hc y (List.mem_cons_self ..)
    obtain ⟨h1, h2, h3⟩ := hc
    rcases List.mem_cons.mp h with e | h
    · subst e
      by_cases q : (z.2.2 : Int) = sz F 1 z.1
      · exact hend _ _ zi.1 q
      · have nz : nx F z.1 z.2.2 = (z.1, z.2.2) := by
          unfold nx
          rw [if_neg q]
        rw [nz] at h3
        cases L with
        | nil =>
          have e : (z.1, z.2.2) = (N, 0) := h3
          have := (Prod.mk.inj e).1
          omega
        | cons x L =>
          have e : (x.1, x.2.1) = (z.1, z.2.2) := h3.1
          exact bnd 0 z x rfl rfl (Prod.mk.inj e).1.symm
    · exact cov_mult hend h3 (fun i y z hy hz e => bnd (i + 1) y z (by rw [List.getElem?_cons_succ]; exact hy) (by rw [List.getElem?_cons_succ]; exact hz) e) z h
theorem covS_lenS {F : List Fact} {N B c : Nat} (c1 : 1 ≤ c) (hB : ∀ k, k < N → sz F 1 k ≤ ((B * c : Nat) : Int)) : ∀ {L : List It} {a : Nat × Nat}, CovS F a (N, 0) L → c ∣ a.2 → a.2 ≤ B * c → (∀ z ∈ L, c ∣ z.2.2) → L.length * c + a.1 * (B * c + c) + a.2 ≤ N * (B * c + c)
  | [], a, h, _, _, _ => by
    cases (show a = (N, 0) from h)
    simp
  | z :: L, a, h, da, ha, dz => by
    have zi := CovS.in_ h z (List.mem_cons_self ..)
    obtain ⟨h1, h2, h3⟩ := h
    subst h1
    have bz := hB _ zi.1
    have dz0 := dz z (List.mem_cons_self ..)
    have gap : z.2.1 + c ≤ z.2.2 := by
      obtain ⟨u, hu⟩ := da
      obtain ⟨v, hv⟩ := dz0
      have hu' : z.2.1 = c * u := hu
      rw [hu', hv] at h2 ⊢
      have : u < v := Nat.lt_of_mul_lt_mul_left h2
      have := Nat.mul_le_mul_left c (show u + 1 ≤ v from this)
      rw [Nat.mul_add, Nat.mul_one] at this
      exact this
    have en : c ∣ (nx F z.1 z.2.2).2 ∧ (nx F z.1 z.2.2).2 ≤ B * c ∧ (z.1 * (B * c + c) + z.2.1 + c ≤ (nx F z.1 z.2.2).1 * (B * c + c) + (nx F z.1 z.2.2).2) := by
      unfold nx
      split
      · refine ⟨Nat.dvd_zero _, Nat.zero_le _, ?_⟩
        show z.1 * (B * c + c) + z.2.1 + c ≤ (z.1 + 1) * (B * c + c) + 0
        rw [Nat.add_mul, Nat.one_mul]
        omega
      · refine ⟨dz0, ?_, ?_⟩
        · show z.2.2 ≤ B * c
          omega
        · show z.1 * (B * c + c) + z.2.1 + c ≤ z.1 * (B * c + c) + z.2.2
          omega
    have ih := covS_lenS c1 hB h3 en.1 en.2.1 fun y hy => dz y (List.mem_cons_of_mem _ hy)
    rw [List.length_cons, Nat.add_mul, Nat.one_mul]
    dsimp only
    omega
/-- within a unit of a way nothing is cut -/
theorem no_cut_in {n : Int} {F : List Fact} (T : TreeM n F) {c : Nat} (c1 : 1 ≤ c) {gs : List MG} (ok : ∀ x ∈ gs, MgOk F x) {k : Nat} (hk : k < F.length) {f : Nat → Nd} (im : ∀ t : Nat, (t : Int) ≤ sz F (c : Int) k → GoL F (c : Int) gs (node F (c : Int) k ((t : Nat) : Int)) (f t)) {t : Nat} (t1 : (t : Int) ≤ sz F (c : Int) k) (nd : ¬ c ∣ t) : ¬ Cut f t := by
  have hS : (1 : Int) ≤ (c : Int) := by omega
  obtain ⟨j, r, r0, rc, e⟩ : ∃ j r : Nat, 0 < r ∧ r < c ∧ t = j * c + r := by
    refine ⟨t / c, t % c, Nat.pos_of_ne_zero fun z => nd (Nat.dvd_of_mod_eq_zero z), Nat.mod_lt _ (by omega), ?_⟩
    have := Nat.div_add_mod t c
    rw [Nat.mul_comm] at this
    omega
  have esz : sz F (c : Int) k = sz F 1 k * (c : Int) := by
    have := sz_mul F 1 (c : Int) k
    rw [Int.one_mul] at this
    exact this
  have jb : ((j + 1 : Nat) : Int) * (c : Int) ≤ sz F (c : Int) k := by
    rw [esz] at t1 ⊢
    have lt : ((j : Nat) : Int) * (c : Int) < sz F 1 k * (c : Int) := by
      have : ((j * c : Nat) : Int) = ((j : Nat) : Int) * (c : Int) := by push_cast; rfl
      omega
    have lt2 := Int.lt_of_mul_lt_mul_right lt (by omega)
    exact Int.mul_le_mul_of_nonneg_right (by omega) (by omega)
  have ej : ((j + 1 : Nat) : Int) * (c : Int) = (j : Int) * (c : Int) + (c : Int) := by
    rw [Int.natCast_succ, Int.add_mul, Int.one_mul]
  have jc0 : 0 ≤ (j : Int) * (c : Int) := Int.mul_nonneg (by omega) (by omega)
  have sg : Seg F (c : Int) (fun x => node F (c : Int) k ((j : Int) * (c : Int) + x)) := ⟨k, j, 1, .inl rfl, ⟨hk, jc0, by omega⟩, ⟨hk, by omega, by omega⟩, fun x _ _ => by rw [Int.one_mul]⟩
  have go : ∀ x : Int, 0 ≤ x → x ≤ (c : Int) → GoL F (c : Int) gs (node F (c : Int) k ((j : Int) * (c : Int) + x)) ((fun x : Int => f (j * c + x.toNat)) x) := fun x x0 xc => by
    have h := im (j * c + x.toNat) (by push_cast; omega)
    have en : ((j * c + x.toNat : Nat) : Int) = (j : Int) * (c : Int) + x := by push_cast; omega
    rw [en] at h
    exact h
  have a1 : t - 1 = j * c + (r - 1) := by omega
  have a2 : t + 1 = j * c + (r + 1) := by omega
  rcases Seg.row T hS ok (.inl sg) go with h | ⟨v, hv⟩
  · obtain ⟨k2, j2, τ, hτ, o1, o2, ey⟩ := id h
    have eg := (ey (c : Int) (by omega) (Int.le_refl _)).symm
    have far : ∀ x : Nat, x ≤ c → hN F (c : Int) k2 (j2 * (c : Int) + τ * (c : Int)) (f (j * c + x)) = (c : Int) - x := fun x hx => by
      have := (h.far T hS o2 eg (c := (x : Int)) (by omega) (by omega)).1
      rw [Int.toNat_natCast] at this
      exact this
    have f0 := far (r - 1) (by omega)
    have f1 := far r (by omega)
    have f2 := far (r + 1) (by omega)
    rw [← a1] at f0
    rw [← e] at f1
    rw [← a2] at f2
    have n01 : f (t - 1) ≠ f t := fun z => by rw [z, f1] at f0; omega
    have n12 : f t ≠ f (t + 1) := fun z => by rw [z, f2] at f1; omega
    have n02 : f (t - 1) ≠ f (t + 1) := fun z => by rw [z, f2] at f0; omega
    rintro (q | ⟨_, q⟩)
    · exact q ⟨fun z => absurd z n01, fun z => absurd z n12⟩
    · exact n02 q
  · have val : ∀ x : Nat, x ≤ c → f (j * c + x) = v := fun x hx => by
      have := hv (x : Int) (by omega) (by omega)
      dsimp only at this
      rw [Int.toNat_natCast] at this
      exact this
    have f0 := val (r - 1) (by omega)
    have f1 := val r (by omega)
    have f2 := val (r + 1) (by omega)
    rw [← a1] at f0
    rw [← e] at f1
    rw [← a2] at f2
    rintro (q | ⟨q, _⟩)
    · exact q ⟨fun _ => f1.trans f2.symm, fun _ => f0.trans f1.symm⟩
    · exact q (f0.trans f1.symm)
/-- a row on a tree with all lengths times c has as few stretches as on the tree itself -/
theorem few_scaled {n : Int} {F : List Fact} (T : TreeM n F) (n2 : 2 ≤ n) {c B : Nat} (c1 : 1 ≤ c) (TL : TreeM n (lng (c : Int) F)) (hB : ∀ k, k < F.length → sz F 1 k ≤ (B : Int)) {gs : List MG} (ok : ∀ x ∈ gs, MgOk F x) {f : Nat → Nat → Nd} {M : List It}
    (im : Img (lng (c : Int) F) (finM (c : Int) gs) f) (jo : JOk (lng (c : Int) F) f (0, 0) (F.length, 0) M) : M.length ≤ F.length * (B + 1) := by
  have gl : (lng (c : Int) F).length = F.length := lng_len _ F
  have esz : ∀ k, sz (lng (c : Int) F) 1 k = sz F (c : Int) k := fun k => by rw [sz_lng, Int.one_mul]
  have esz1 : ∀ k, sz F (c : Int) k = sz F 1 k * (c : Int) := fun k => by
    have := sz_mul F 1 (c : Int) k
    rw [Int.one_mul] at this
    exact this
  have ct := JOk.cut TL n2 jo
  have hend : ∀ k e : Nat, k < F.length → (e : Int) = sz (lng (c : Int) F) 1 k → c ∣ e := fun k e hk h => by
    rw [esz, esz1] at h
    have p := sz_pos T (show (1 : Int) ≤ 1 by decide) hk
    refine ⟨(sz F 1 k).toNat, ?_⟩
    have e1 : ((c * (sz F 1 k).toNat : Nat) : Int) = sz F 1 k * (c : Int) := by
      push_cast
      rw [Int.toNat_of_nonneg (by omega), Int.mul_comm]
    omega
  have dv : ∀ z ∈ M, c ∣ z.2.2 := by
    refine cov_mult (C := fun _ e => c ∣ e) hend ct.cov fun i y z hy hz e => Classical.byContradiction fun nd => ?_
    have yi := CovS.in_ ct.cov y (List.mem_of_getElem? hy)
    refine no_cut_in T c1 ok yi.1 (f := f y.1) (fun t ht => ?_) (t := y.2.2) (by rw [← esz]; exact yi.2) nd (ct.bnd i y z hy hz e)
    have h := im y.1 t (by rw [gl]; exact yi.1) (by rw [esz]; exact ht)
    have h2 := goL_finF h
    rw [node_lng, Int.one_mul] at h2
    exact h2
  have h := covS_lenS (B := B) c1 (fun k hk => by
    rw [esz, esz1]
    push_cast
    exact Int.mul_le_mul_of_nonneg_right (hB k hk) (by omega)) ct.cov (Nat.dvd_zero _) (Nat.zero_le _) dv
  simp only [Nat.zero_mul, Nat.add_zero] at h
  have e : F.length * (B * c + c) = F.length * (B + 1) * c := by rw [Nat.mul_assoc, Nat.add_mul, Nat.one_mul]
  rw [e] at h
  exact Nat.le_of_mul_le_mul_right h (by omega)
end OT
set_option Elab.async false
set_option linter.all false
set_option maxRecDepth 100000
set_option maxHeartbeats 4000000
namespace OT
section
variable {n : Int} {F : List Fact} (T : TreeM n F) (n2 : 2 ≤ n) {c : Nat} (c1 : 1 ≤ c) (TL : TreeM n (lng (c : Int) F))
/-- distances on the tree with all lengths times c -/
theorem Dn_scN (T : TreeM n F) (n2 : 2 ≤ n) (c1 : 1 ≤ c) (TL : TreeM n (lng (c : Int) F)) {u v : Nd} (ou : OnT F 1 u) (ov : OnT F 1 v) : Dn (lng (c : Int) F) (scN c u) (scN c v) = Dn F u v * c := by
  obtain ⟨k, i, ok, rfl⟩ := ou
  obtain ⟨g, p, og, rfl⟩ := ov
  have up : ∀ {k : Nat} {i : Int}, On F 1 k i → On (lng (c : Int) F) 1 k (i * c) ∧ scN c (node F 1 k i) = node (lng (c : Int) F) 1 k (i * c) := fun {k i} o => by
    refine ⟨on_lng.mpr ⟨o.1, Int.mul_nonneg o.2.1 (by omega), ?_⟩, ?_⟩
    · rw [sz_mul]
      exact Int.mul_le_mul_of_nonneg_right o.2.2 (by omega)
    · rw [node_lng, node_mul (by omega)]
  rw [(up ok).2, (up og).2, Dn_hP TL n2 (up ok).1 (up og).1, Dn_hP T n2 ok og, hP_lng, hP_mul (by omega)]
/-- a stretch stays one on the tree with all lengths times c -/
theorem pw_scale (T : TreeM n F) (n2 : 2 ≤ n) (c1 : 1 ≤ c) (TL : TreeM n (lng (c : Int) F)) {gs : List MG} (ok : ∀ x ∈ gs, MgOk F x) {f f' : Nat → Nat → Nd} (im : Img F gs f) (im' : Img (lng (c : Int) F) (finM (c : Int) gs) f') {k s e : Nat} (hk : k < F.length) (se : s < e) (he : (e : Int) ≤ sz F 1 k) (pw : Pw F (f k) s e) :
    (∀ t : Nat, (t : Int) ≤ sz F 1 k → f' k (t * c) = scN c (f k t)) ∧ Pw (lng (c : Int) F) (f' k) (s * c) (e * c) := by
  have hS : (1 : Int) ≤ (c : Int) := by omega
  have gl : (lng (c : Int) F).length = F.length := lng_len _ F
  have esz : ∀ k, sz (lng (c : Int) F) 1 k = sz F (c : Int) k := fun k => by rw [sz_lng, Int.one_mul]
  have esz1 : sz F (c : Int) k = sz F 1 k * (c : Int) := esz_one T hS k
  -- the fine images, on the tree itself
  have fine : ∀ t : Nat, (t : Int) ≤ sz F 1 k * c → GoL F c gs (node F c k (t : Int)) (f' k t) := fun t ht => by
    have h := goL_finF (im' k t (by rw [gl]; exact hk) (by rw [esz, esz1]; exact ht))
    rw [node_lng, Int.one_mul] at h
    exact h
  have whole : ∀ t : Nat, (t : Int) ≤ sz F 1 k → f' k (t * c) = scN c (f k t) := fun t ht => by
    have h := fine (t * c) (by push_cast; exact Int.mul_le_mul_of_nonneg_right ht (by omega))
    have z := goL_sc hS (im k t hk ht)
    rw [← node_one (by omega)] at z
    have e1 : ((t * c : Nat) : Int) = (t : Int) * (c : Int) := by push_cast; rfl
    rw [e1] at h
    exact GoL.uniq T hS ok h z
  refine ⟨whole, ?_⟩
  -- unit by unit
  have unit : ∀ j : Nat, (j : Int) + 1 ≤ sz F 1 k → Seg F c (fun x => f' k (j * c + x.toNat)) ∨ Pnt c (fun x => f' k (j * c + x.toNat)) := fun j hj => by
    obtain ⟨y, sy, _, _, go⟩ := unit_img T hS ok hk (Int.natCast_nonneg j) hj (im k j hk (by omega)) (by
      have h := im k (j + 1) hk (by omega)
      rw [Int.natCast_succ] at h
      exact h)
    have ey : ∀ x : Int, 0 ≤ x → x ≤ c → f' k (j * c + x.toNat) = y x := fun x x0 xc => by
      have hm : ((j : Int) + 1) * c ≤ sz F 1 k * c := Int.mul_le_mul_of_nonneg_right hj (by omega)
      rw [Int.add_mul, Int.one_mul] at hm
      have h := fine (j * c + x.toNat) (by push_cast; omega)
      have e1 : ((j * c + x.toNat : Nat) : Int) = (j : Int) * (c : Int) + x := by push_cast; omega
      rw [e1] at h
      exact GoL.uniq T hS ok h (go x x0 xc)
    rcases sy with ⟨k2, j2, τ, hτ, o1, o2, e⟩ | ⟨v, hv⟩
    · exact .inl ⟨k2, j2, τ, hτ, o1, o2, fun x x0 xc => by rw [← e x x0 xc]; exact ey x x0 xc⟩
    · exact .inr ⟨v, fun x x0 xc => by rw [← hv x x0 xc]; exact ey x x0 xc⟩
  have cut : ∀ t : Nat, ∃ j r : Nat, r < c ∧ t = j * c + r := fun t => ⟨t / c, t % c, Nat.mod_lt _ (by omega), by
    have := Nat.div_add_mod t c
    rw [Nat.mul_comm] at this
    omega⟩
  rcases pw with pw | pw
  · refine .inl fun t t1 t2 => ?_
    obtain ⟨j, r, rc, rfl⟩ := cut t
    have sj : s ≤ j := by
      apply Classical.byContradiction
      intro q
      have := Nat.mul_le_mul_right c (show j + 1 ≤ s by omega)
      rw [Nat.add_mul, Nat.one_mul] at this
      omega
    by_cases je : j < e
    · have hj : (j : Int) + 1 ≤ sz F 1 k := by omega
      have e1 := whole j (by omega)
      have e2 := whole (j + 1) (by omega)
      rw [pw j sj (by omega)] at e1
      rw [pw (j + 1) (by omega) (by omega)] at e2
      rw [whole s (by omega)]
      rcases unit j hj with h | ⟨v, hv⟩
      · exfalso
        obtain ⟨k2, j2, τ, hτ, o1, o2, ey⟩ := id h
        have eg := (ey (c : Int) (by omega) (Int.le_refl _)).symm
        obtain ⟨f0, _⟩ := h.far T hS o2 eg (c := 0) (Int.le_refl _) (by omega)
        obtain ⟨fc, _⟩ := h.far T hS o2 eg (c := (c : Int)) (by omega) (Int.le_refl _)
        rw [show ((0 : Int)).toNat = 0 from rfl, Nat.add_zero, e1] at f0
        rw [Int.toNat_natCast, show j * c + c = (j + 1) * c by rw [Nat.add_mul, Nat.one_mul], e2] at fc
        omega
      · have h0 := hv 0 (Int.le_refl _) (by omega)
        have hr := hv (r : Int) (by omega) (by omega)
        dsimp only at h0 hr
        rw [show ((0 : Int)).toNat = 0 from rfl, Nat.add_zero, e1] at h0
        rw [Int.toNat_natCast] at hr
        rw [hr, h0]
    · have je2 : j = e ∧ r = 0 := by
        have := Nat.mul_le_mul_right c (show e ≤ j by omega)
        have q : j = e := by
          apply Classical.byContradiction
          intro q
          have := Nat.mul_le_mul_right c (show e + 1 ≤ j by omega)
          rw [Nat.add_mul, Nat.one_mul] at this
          omega
        exact ⟨q, by subst q; omega⟩
      obtain ⟨rfl, rfl⟩ := je2
      rw [Nat.add_zero, whole j (by omega), whole s (by omega), pw j (by omega) (Nat.le_refl _)]
  · refine .inr ?_
    have sc : s * c + (e * c - s * c) = e * c := by
      have := Nat.mul_le_mul_right c (show s ≤ e by omega)
      omega
    refine ⟨fun t ht => ?_, fun t ht => ?_, ?_⟩
    · obtain ⟨j, r, rc, rfl⟩ := cut t
      have je : s + j < e := by
        apply Classical.byContradiction
        intro q
        have := Nat.mul_le_mul_right c (show e ≤ s + j by omega)
        rw [Nat.add_mul] at this
        omega
      have hj : ((s + j : Nat) : Int) + 1 ≤ sz F 1 k := by omega
      have e0 : s * c + (j * c + r) = (s + j) * c + r := by rw [Nat.add_mul]; omega
      have e3 : s * c + (j * c + r + 1) = (s + j) * c + (r + 1) := by rw [Nat.add_mul]; omega
      show Adj (lng (c : Int) F) 1 (f' k (s * c + (j * c + r))) (f' k (s * c + (j * c + r + 1)))
      rw [e0, e3]
      rcases unit (s + j) hj with h | ⟨v, hv⟩
      · have a := h.adj hS (c := (r : Int)) (by omega) (by omega)
        rw [Int.toNat_natCast, show ((r : Int) + 1).toNat = r + 1 by omega] at a
        obtain ⟨k3, i3, hk3, i0, i1, q⟩ := a
        refine ⟨k3, i3, by rw [gl]; exact hk3, i0, by rw [esz]; exact i1, ?_⟩
        rw [node_lng, node_lng, Int.one_mul]
        exact q
      · exfalso
        have h0 := hv 0 (Int.le_refl _) (by omega)
        have hc := hv (c : Int) (by omega) (Int.le_refl _)
        dsimp only at h0 hc
        rw [show ((0 : Int)).toNat = 0 from rfl, Nat.add_zero, whole (s + j) (by omega)] at h0
        rw [Int.toNat_natCast, show (s + j) * c + c = (s + j + 1) * c by rw [Nat.add_mul (s + j) 1, Nat.one_mul], whole (s + j + 1) (by omega)] at hc
        have q := scN_inj (show (0 : Int) < (c : Int) by omega) (h0.trans hc.symm)
        exact adj_ne T n2 (pw.ch j (by omega)) q
    · have h1 : ((s * c + t : Nat) : Int) ≤ ((e * c : Nat) : Int) := by omega
      have h2 : ((e * c : Nat) : Int) ≤ sz F 1 k * c := by push_cast; exact Int.mul_le_mul_of_nonneg_right he (by omega)
      have h3 : ((s * c + t : Nat) : Int) ≤ sz F 1 k * c := by omega
      exact ont_toF (GoL.on T hS ok ⟨k, _, ⟨hk, Int.natCast_nonneg _, by rw [esz1]; exact h3⟩, rfl⟩ (fine _ h3))
    · show Dn (lng (c : Int) F) (f' k (s * c + 0)) (f' k (s * c + (e * c - s * c))) = _
      have f0 := pw.far
      rw [Nat.add_zero, show s + (e - s) = e by omega] at f0
      rw [sc, Nat.add_zero, whole s (by omega), whole e he, Dn_scN T n2 c1 TL (Img.on T n2 ok im hk (by omega)) (Img.on T n2 ok im hk he), f0]
      have : ((e * c - s * c : Nat) : Int) = ((e - s : Nat) : Int) * c := by
        rw [← Nat.sub_mul]
        push_cast
        rfl
      rw [this]
end
end OT
set_option Elab.async false
set_option linter.all false
set_option maxRecDepth 100000
set_option maxHeartbeats 4000000
namespace OT
section
variable {n : Int} {F : List Fact}
/-- where a way without a shorter one comes by v -/
theorem geo_hit (T : TreeM n F) (n2 : 2 ≤ n) {c : Nat} {x : Nat → Nd} (h : Geo F c x) {v : Nd} (ov : OnT F 1 v) : (∀ t, t ≤ c → x t = v → Dn F (x 0) v = t ∧ Dn F v (x c) = ((c - t : Nat) : Int)) ∧ (Dn F (x 0) v + Dn F v (x c) = c → x (Dn F (x 0) v).toNat = v ∧ (Dn F (x 0) v).toNat ≤ c) := by
  refine ⟨fun t ht e => ?_, fun sum => ?_⟩
  · have a := (h.sub T n2 (a := 0) (b := t) (by omega)).far
    have b := (h.sub T n2 (a := t) (b := c - t) (by omega)).far
    simp only [Nat.zero_add, Nat.add_zero] at a b
    rw [show t + (c - t) = c by omega] at b
    rw [e] at a b
    exact ⟨a, b⟩
  · obtain ⟨a, ac, dn, up⟩ := h.turn T n2 ov
    have oc := h.on_ c (Nat.le_refl _)
    have h1 := dn a (Nat.le_refl _)
    have h2 := up c ac (Nat.le_refl _)
    rw [Dn_sym T n2 oc ov] at h2
    have z : Dn F (x a) v = 0 := by omega
    have e := Dn_zero T n2 (h.on_ a ac) ov z
    have e2 : (Dn F (x 0) v).toNat = a := by omega
    rw [e2]
    exact ⟨e, ac⟩
/-- what of a stretch is led to v -/
theorem pc_set {c : Nat} (T : TreeM n F) (n2 : 2 ≤ n) (c1 : 1 ≤ c) (TL : TreeM n (lng (c : Int) F)) {gs : List MG} (ok : ∀ x ∈ gs, MgOk F x) {f f' : Nat → Nat → Nd} (im : Img F gs f) (im' : Img (lng (c : Int) F) (finM (c : Int) gs) f') {k s e : Nat} (hk : k < F.length) (se : s < e) (he : (e : Int) ≤ sz F 1 k) (pw : Pw F (f k) s e) {v : Nd} (ov : OnT (lng (c : Int) F) 1 v) :
    (f k s = f k e → ∀ t, s * c ≤ t → t ≤ e * c → (f' k t = v ↔ scN c (f k s) = v)) ∧
    (f k s ≠ f k e → (Dn (lng (c : Int) F) (scN c (f k s)) v + Dn (lng (c : Int) F) v (scN c (f k e)) = ((e - s : Nat) : Int) * c → (s * c + (Dn (lng (c : Int) F) (scN c (f k s)) v).toNat ≤ e * c ∧ ∀ t, s * c ≤ t → t ≤ e * c → (f' k t = v ↔ t = s * c + (Dn (lng (c : Int) F) (scN c (f k s)) v).toNat))) ∧
      (Dn (lng (c : Int) F) (scN c (f k s)) v + Dn (lng (c : Int) F) v (scN c (f k e)) ≠ ((e - s : Nat) : Int) * c → ∀ t, s * c ≤ t → t ≤ e * c → f' k t ≠ v)) := by
  obtain ⟨whole, pf⟩ := pw_scale T n2 c1 TL ok im im' hk se he pw
  have ws := whole s (by omega)
  have we := whole e he
  have mul : s * c + (e * c - s * c) = e * c := by
    have := Nat.mul_le_mul_right c (show s ≤ e by omega)
    omega
  have sub : e * c - s * c = (e - s) * c := (Nat.sub_mul e s c).symm
  have subI : ((e * c - s * c : Nat) : Int) = ((e - s : Nat) : Int) * c := by rw [sub]; push_cast; rfl
  refine ⟨fun g t t1 t2 => ?_, fun ng => ?_⟩
  · rcases pf with pf | pf
    · rw [pf t t1 t2, ws]
    · exfalso
      have z := pf.far
      simp only [Nat.add_zero] at z
      have o := pf.on_ 0 (Nat.zero_le _)
      simp only [Nat.add_zero] at o
      rw [mul, ws, we, g] at z
      rw [ws, g] at o
      rw [Dn_self TL n2 o, subI] at z
      have : 0 < ((e - s : Nat) : Int) * c := Int.mul_pos (by omega) (by omega)
      omega
  · rcases pf with pf | pf
    · exfalso
      have z := pf (e * c) (by omega) (Nat.le_refl _)
      rw [we, ws] at z
      exact ng (scN_inj (show (0 : Int) < (c : Int) by omega) z.symm)
    · obtain ⟨h1, h2⟩ := geo_hit TL n2 pf ov
      simp only [Nat.add_zero] at h1 h2
      rw [mul, ws, we, subI] at h2
      rw [mul, ws, we] at h1
      refine ⟨fun sum => ?_, fun ne t t1 t2 ev => ?_⟩
      · obtain ⟨hit, le⟩ := h2 sum
        refine ⟨by omega, fun t t1 t2 => ⟨fun ev => ?_, fun et => by rw [et]; exact hit⟩⟩
        obtain ⟨a, _⟩ := h1 (t - s * c) (by omega) (by rw [show s * c + (t - s * c) = t by omega]; exact ev)
        rw [a]
        omega
      · obtain ⟨a, b⟩ := h1 (t - s * c) (by omega) (by rw [show s * c + (t - s * c) = t by omega]; exact ev)
        refine ne ?_
        rw [a, b, ← subI]
        omega
theorem dst_mod (a p : Int) (S : Int) : ∃ b, dst (a * S) p = b * S + p ∨ dst (a * S) p = b * S - p := by
  unfold dst
  split
  · exact ⟨a, .inr (by omega)⟩
  · exact ⟨-a, .inl (by rw [Int.neg_mul]; omega)⟩
theorem dst_wh (a b S : Int) : ∃ q, dst (a * S) (b * S) = q * S := by
  unfold dst
  split
  · exact ⟨a - b, by rw [Int.sub_mul]; omega⟩
  · exact ⟨b - a, by rw [Int.sub_mul]⟩
theorem legsC_mod (F : List Fact) (S : Int) (g : Nat) (p : Int) : ∀ (l : List Nat) (c : Int), ∃ b, total (legsC F S g p c l) = b * S + p ∨ total (legsC F S g p c l) = b * S - p
  | [], c => by
    obtain ⟨j, e⟩ := eAt_wh F S g c
    obtain ⟨b, h⟩ := dst_mod j p S
    refine ⟨b, ?_⟩
    show dst (eAt F S g c) p + 0 = _ ∨ dst (eAt F S g c) p + 0 = _
    rw [e, Int.add_zero]
    exact h
  | k :: l, c => by
    show ∃ b, total (if k = g then legsC F S g p c l else (k, eAt F S k c, eAt F S k (eBy F k c)) :: legsC F S g p (eBy F k c) l) = _ ∨ total (if k = g then legsC F S g p c l else (k, eAt F S k c, eAt F S k (eBy F k c)) :: legsC F S g p (eBy F k c) l) = _
    by_cases q : k = g
    · rw [if_pos q]
      exact legsC_mod F S g p l c
    · rw [if_neg q]
      obtain ⟨b, h⟩ := legsC_mod F S g p l (eBy F k c)
      obtain ⟨j1, e1⟩ := eAt_wh F S k c
      obtain ⟨j2, e2⟩ := eAt_wh F S k (eBy F k c)
      obtain ⟨d, hd⟩ := dst_wh j1 j2 S
      refine ⟨d + b, ?_⟩
      show dst (eAt F S k c) (eAt F S k (eBy F k c)) + total (legsC F S g p (eBy F k c) l) = _ ∨ dst (eAt F S k c) (eAt F S k (eBy F k c)) + total (legsC F S g p (eBy F k c) l) = _
      rw [e1, e2, hd, Int.add_mul]
      omega
theorem hP_mod (F : List Fact) (S : Int) (g : Nat) (p : Int) (k : Nat) (i0 : Int) : ∃ b, hP F S g p k (i0 * S) = b * S + p ∨ hP F S g p k (i0 * S) = b * S - p := by
  unfold hP legsP
  by_cases q : k = g
  · rw [if_pos q]
    obtain ⟨b, h⟩ := dst_mod i0 p S
    refine ⟨b, ?_⟩
    show dst (i0 * S) p + 0 = _ ∨ dst (i0 * S) p + 0 = _
    rw [Int.add_zero]
    exact h
  · rw [if_neg q]
    obtain ⟨b, h⟩ := legsC_mod F S g p (tr F (up F g k) (rd F g).1) (up F g k)
    obtain ⟨j2, e2⟩ := eAt_wh F S k (up F g k)
    obtain ⟨d, hd⟩ := dst_wh i0 j2 S
    refine ⟨d + b, ?_⟩
    show dst (i0 * S) (eAt F S k (up F g k)) + total (legsC F S g p (up F g k) (tr F (up F g k) (rd F g).1)) = _ ∨ dst (i0 * S) (eAt F S k (up F g k)) + total (legsC F S g p (up F g k) (tr F (up F g k) (rd F g).1)) = _
    rw [e2, hd, Int.add_mul]
    omega
theorem low_gcd {r : Fact} (h : 1 ≤ r.2.2) (l : low r = r) : gcdI r.2.1 r.2.2 = 1 := by
  have g0 := gcd_pos (a := r.2.1) h
  have e : r.2.2 / gcdI r.2.1 r.2.2 = r.2.2 := congrArg (fun x : Fact => x.2.2) l
  obtain ⟨d, hd⟩ := gcdI_right r.2.1 r.2.2
  generalize gcdI r.2.1 r.2.2 = g at *
  rw [hd, Int.mul_ediv_cancel_left _ (by omega)] at e
  have d0 : 0 < d := by
    apply Classical.byContradiction
    intro q
    have := Int.mul_nonpos_of_nonneg_of_nonpos (show 0 ≤ g by omega) (show d ≤ 0 by omega)
    omega
  have : 1 * d = g * d := by omega
  exact (Int.eq_of_mul_eq_mul_right (by omega) this).symm
theorem gcd_mod {h p S b : Int} (hS : 1 ≤ S) (e : h = b * S + p ∨ h = b * S - p) (g1 : gcdI p S = 1) : gcdI h S = 1 := by
  have d1 := gcdI_left h S
  have d2 := gcdI_right h S
  have g0 := gcd_pos (a := h) hS
  have dp : gcdI h S ∣ p := by
    have d3 : gcdI h S ∣ b * S := Int.dvd_trans d2 (Int.dvd_mul_left b S)
    rcases e with e | e
    · have := Int.dvd_sub d1 d3
      rw [show h - b * S = p by omega] at this
      exact this
    · have := Int.dvd_sub d3 d1
      rw [show b * S - h = p by omega] at this
      exact this
  have dd : gcdI h S ∣ gcdI p S := by
    unfold gcdI at *
    exact Int.natCast_dvd_natCast.mpr (Nat.dvd_gcd (Int.ofNat_dvd_left.mp dp) (Int.ofNat_dvd_left.mp d2))
  rw [g1] at dd
  have := Int.le_of_dvd (by decide) dd
  omega
/-- the distance from a whole place, in the goal's parts -/
theorem low_hP {S m d : Int} {r : Fact} {g k : Nat} {p i0 : Int} (pe : PlE F S r g p) (hm : 0 < m) (eS : S = r.2.2 * m) : ∃ h, hP F S g p k (i0 * S) = h * m ∧ low (0, hP F S g p k (i0 * S), S) = (0, h, r.2.2) ∧ gcdI h r.2.2 = 1 ∧ 0 ≤ h := by
  obtain ⟨m', m0, e1, e2⟩ := pe.d
  have p1 := pe.p1
  have em : m' = m := Int.eq_of_mul_eq_mul_left (show r.2.2 ≠ 0 by omega) (e1.symm.trans eS)
  subst em
  have ei : i0 * S = i0 * r.2.2 * m' := by rw [e1, Int.mul_assoc]
  have eh : hP F S g p k (i0 * S) = hP F r.2.2 g r.2.1 k (i0 * r.2.2) * m' := by rw [ei, e1, e2, hP_mul m0]
  obtain ⟨b, hb⟩ := hP_mod F r.2.2 g r.2.1 k i0
  have g1 := gcd_mod p1 hb (low_gcd p1 pe.lo)
  refine ⟨_, eh, ?_, g1, total_nn _⟩
  rw [eh, e1, low_mul _ m0]
  unfold low
  rw [g1, Int.ediv_one, Int.ediv_one]
end
end OT
set_option Elab.async false
set_option linter.all false
set_option maxRecDepth 100000
set_option maxHeartbeats 4000000
namespace OT
open PySem L2 OTR
abbrev sPieceI : Stmt := inClass (top 52) 0
abbrev sIsOneB : Stmt := top 55
/-- what the walk asks of Piece -/
structure PcT (K : PySem.W.Frag) (mg : Str → Option Value) (C : Addr) : Prop where
  cl : Cls K C
  nR : NoAttr K C "road"
  nL : NoAttr K C "least"
  nG : NoAttr K C "greatest"
  nP : NoAttr K C "parts"
  mgC : mg "Piece" = some (.ref C)
/-- a piece's facts: road, least, greatest, parts -/
abbrev PFact := Int × Int × Int × Int
def pcF (x : PFact) : List (Str × V) := putF "parts" (.int x.2.2.2) (putF "greatest" (.int x.2.2.1) (putF "least" (.int x.2.1) (putF "road" (.int x.1) [])))
theorem pcF_r (x : PFact) : (pcF x).lookup ("road" : Str) = some (.int x.1) := by
  unfold pcF
  rw [lookup_putF, lookup_putF, lookup_putF, lookup_putF]
  rw [if_neg (by decide +kernel), if_neg (by decide +kernel), if_neg (by decide +kernel), if_pos rfl]
theorem pcF_l (x : PFact) : (pcF x).lookup ("least" : Str) = some (.int x.2.1) := by
  unfold pcF
  rw [lookup_putF, lookup_putF, lookup_putF]
  rw [if_neg (by decide +kernel), if_neg (by decide +kernel), if_pos rfl]
theorem pcF_g (x : PFact) : (pcF x).lookup ("greatest" : Str) = some (.int x.2.2.1) := by
  unfold pcF
  rw [lookup_putF, lookup_putF]
  rw [if_neg (by decide +kernel), if_pos rfl]
theorem pcF_p (x : PFact) : (pcF x).lookup ("parts" : Str) = some (.int x.2.2.2) := by
  unfold pcF
  rw [lookup_putF, if_pos rfl]
def PcAt (C : Addr) (H : Hp) (p : Addr) (x : PFact) : Prop := ∃ dx, H p = some (.ins C dx (pcF x))
theorem PcAt.kp {C : Addr} {H H' : Hp} {p : Addr} {x : PFact} (h : PcAt C H p x) (k : Kp H H') : PcAt C H' p x := let ⟨dx, e⟩ := h; ⟨dx, k _ _ e fun _ z => nomatch z⟩
theorem PcAt.same {C : Addr} {H H' : Hp} {p : Addr} {x : PFact} (h : PcAt C H p x) (k : Same H H') : PcAt C H' p x := h.kp (.of k)
def spPieceI (C : Addr) : Sp := fun vs H Q _ => ∃ (p dx : Addr) (x : PFact), vs = [.ref p, .int x.1, .int x.2.1, .int x.2.2.1, .int x.2.2.2] ∧ H p = some (.ins C dx []) ∧ ∀ H', PcAt C H' p x → (∀ b o, H b = some o → b ≠ p → H' b = some o) → Q .non H'
def spIsOneB (C : Addr) : Sp := fun vs H Q _ => ∃ (p q : Addr) (x y : PFact), vs = [.ref p, .ref q] ∧ PcAt C H p x ∧ PcAt C H q y ∧ Q (.bl (decide (x.1 = y.1 ∧ x.2.2.1 = y.2.1))) H
section
variable {P : Program} {w : World} {K : PySem.W.Frag} {mg : Str → Option Value} {base : Heap}
theorem scPieceI : FnScope ["self", "road", "least", "greatest", "parts"] ["self", "road", "least", "greatest", "parts"] (defScope sPieceI) := ⟨rfl, rfl, rfl, by decide +kernel, rfl, by decide +kernel, by decide +kernel⟩
theorem ok_pieceI {f C : Addr} {fd : FuncData} (F : Fun K "__init__" "Piece.__init__" sPieceI f fd) (T : PcT K mg C) : FnOk P w K mg base CX0 1 f fd ["self", "road", "least", "greatest", "parts"] (spPieceI C) := by
  refine F.ok scPieceI (fun vs H Q E h => ?_) (fun cdv A outer s H vs Q E hr h => ?_)
  · obtain ⟨p, dx, x, rfl, _⟩ := h
    rfl
  · obtain ⟨p, dx, x, rfl, hp, k⟩ := h
    refine ⟨_, pss_cons (ps_fld (pv 0) (pv 1) rfl) (pss_cons (ps_fld (pv 0) (pv 2) rfl) (pss_cons (ps_fld (pv 0) (pv 3) rfl) (pss_one (ps_fld (pv 0) (pv 4) rfl)))), ?_⟩
    have l0 : ([] : List (Str × V)).length < 1000 := by decide
    have lp : ∀ (s : Str) (v : V) (fs : List (Str × V)), (putF s v fs).length ≤ fs.length + 1 := fun s v fs => by
      induction fs with
      | nil => exact Nat.le_refl _
      | cons a fs ih =>
        show (if a.1 = s then (a.1, v) :: fs else a :: putF s v fs).length ≤ _
        split
        · exact Nat.le_succ _
        · exact Nat.succ_le_succ ih
    refine ⟨_, rfl, _, rfl, p, C, dx, [], rfl, hp, T.cl, T.nR, l0, ?_⟩
    refine ⟨_, rfl, _, rfl, p, C, dx, _, rfl, upd_same, T.cl, T.nL, Nat.lt_of_le_of_lt (lp _ _ _) (by decide), ?_⟩
    refine ⟨_, rfl, _, rfl, p, C, dx, _, rfl, upd_same, T.cl, T.nG, Nat.lt_of_le_of_lt (lp _ _ _) (Nat.lt_of_le_of_lt (Nat.succ_le_succ (lp _ _ _)) (by decide)), ?_⟩
    refine ⟨_, rfl, _, rfl, p, C, dx, _, rfl, upd_same, T.cl, T.nP, Nat.lt_of_le_of_lt (lp _ _ _) (Nat.lt_of_le_of_lt (Nat.succ_le_succ (Nat.le_trans (lp _ _ _) (Nat.succ_le_succ (lp _ _ _)))) (by decide)), ?_⟩
    refine k _ ⟨dx, upd_same⟩ fun b o e n => ?_
    rw [upd_ne n, upd_ne n, upd_ne n, upd_ne n]
    exact e
theorem scIsOneB : FnScope ["piece", "other"] ["piece", "other"] (defScope sIsOneB) := ⟨rfl, rfl, rfl, by decide +kernel, rfl, by decide +kernel, by decide +kernel⟩
theorem ok_isOneB {f C : Addr} {fd : FuncData} (F : Fun K "is_one" "is_one" sIsOneB f fd) (T : PcT K mg C) : FnOk P w K mg base CX0 1 f fd ["piece", "other"] (spIsOneB C) := by
  refine F.ok scIsOneB (fun vs H Q E h => ?_) (fun cdv A outer s H vs Q E hr h => ?_)
  · obtain ⟨p, q, x, y, rfl, _⟩ := h
    rfl
  · obtain ⟨p, q, x, y, rfl, ⟨dx, ex⟩, ⟨dy, ey⟩, k⟩ := h
    refine ⟨_, pss_one (ps_ret (pe_and (pe_cmpR op_eq (pe_fld (pv 0) rfl) (pe_fld (pv 1) rfl) (nomark _)) (pe_one (pe_cmpR op_eq (pe_fld (pv 0) rfl) (pe_fld (pv 1) rfl) (nomark _))))), ?_⟩
    refine ⟨_, rfl, p, C, dx, _, _, rfl, ex, T.cl, T.nR, pcF_r _, _, rfl, q, C, dy, _, _, rfl, ey, T.cl, T.nR, pcF_r _, rfl, _, rfl, ?_⟩
    rw [dec_int]
    by_cases h1 : x.1 = y.1
    · rw [show (x.1 == y.1) = true from beq_iff_eq.mpr h1]
      refine iteT ⟨_, rfl, p, C, dx, _, _, rfl, ex, T.cl, T.nG, pcF_g _, _, rfl, q, C, dy, _, _, rfl, ey, T.cl, T.nL, pcF_l _, rfl, ?_⟩
      rw [dec_int]
      by_cases h2 : x.2.2.1 = y.2.1
      · rw [show (x.2.2.1 == y.2.1) = true from beq_iff_eq.mpr h2]
        rw [decide_eq_true ⟨h1, h2⟩] at k
        exact k
      · rw [show (x.2.2.1 == y.2.1) = false from beq_eq_false_iff_ne.mpr h2]
        rw [decide_eq_false fun z => h2 z.2] at k
        exact k
    · rw [show (x.1 == y.1) = false from beq_eq_false_iff_ne.mpr h1]
      rw [decide_eq_false fun z => h1 z.1] at k
      exact iteF k
end
end OT
set_option Elab.async false
set_option linter.all false
set_option maxRecDepth 100000
set_option maxHeartbeats 4000000
namespace OT
open PySem L2 OTR
abbrev sPiecesIn : Stmt := top 54
theorem PlE.up {F : List Fact} {r : Fact} {k : Nat} {i : Int} (h : PlE F 1 r k i) {c : Nat} (c1 : 1 ≤ c) : PlE F (c : Int) r k (i * c) := by
  obtain ⟨d, d0, e1, e2⟩ := h.d
  refine ⟨h.rd, ⟨d * c, Int.mul_pos d0 (by omega), by rw [← Int.mul_assoc, ← e1, Int.one_mul], by rw [e2, Int.mul_assoc]⟩, ⟨h.on.1, Int.mul_nonneg h.on.2.1 (by omega), ?_⟩, h.p1, h.lo⟩
  have e := sz_mul F 1 (c : Int) k
  rw [Int.one_mul] at e
  rw [e]
  exact Int.mul_le_mul_of_nonneg_right h.on.2.2 (by omega)
/-- the distance of two places, at any share -/
theorem dist_c {K : PySem.W.Frag} {CT CR CP CNR COR : Addr} {x p1 p2 : Addr} {n S : Int} {ps : List Addr} {F : List Fact} {r1 r2 : Fact} {k g : Nat} {i p : Int} {G : Hp} {Q : VK} {E : XK} (te : TreeAt K CT CR G x n ps F) (TG : TreeG n F) (a1 : PlaceAt CP G p1 r1) (a2 : PlaceAt CP G p2 r2) (e1 : PlE F S r1 k i) (e2 : PlE F S r2 g p) (S1 : 1 ≤ S) (S2 : S ≤ 1000)
    (fin : ∀ t G', Same G G' → G' t = some (.tup [.int (low (0, hP F S g p k i, S)).2.1, .int (low (0, hP F S g p k i, S)).2.2]) → Q (.ref t) G') : spDist K CT CR CP CNR COR [.ref x, .ref p1, .ref p2] G Q E := by
  have l1 := e1.le
  have l2 := e2.le
  have q1 := e1.p1
  have q2 := e2.p1
  refine ⟨x, p1, p2, n, ps, F, r1, r2, rfl, te, a1, a2, TG, ⟨q1, by omega⟩, ⟨q2, by omega⟩, ?_, PlErr.none e1.pl, fun _ => PlErr.none e2.pl, fun _ _ t G' s h => fin t G' s ?_⟩
  · have := Int.mul_le_mul (show r1.2.2 ≤ 1000 by omega) (show r2.2.2 ≤ 1000 by omega) (by omega) (by omega)
    omega
  · rw [dist_eq e1 e2 S1] at h
    exact h
theorem keyC_inj {n : Int} {F : List Fact} {S : Int} (T : TreeM n F) (n2 : 2 ≤ n) (hS : 1 ≤ S) {u v : Nd} (ou : OnT F S u) (ov : OnT F S v) (e : keyF F S u = keyF F S v) : u = v := by
  obtain ⟨k1, i1, p1, e1⟩ := key_ple T n2 hS ou
  obtain ⟨k2, i2, p2, e2⟩ := key_ple T n2 hS ov
  rw [← e1, ← e2]
  rw [← e] at p2
  have a := p1.rd
  rw [p2.rd] at a
  have ek : k2 = k1 := by omega
  obtain ⟨d1, _, x1, y1⟩ := p1.d
  obtain ⟨d2, _, x2, y2⟩ := p2.d
  have b := p1.p1
  have ed : d1 = d2 := Int.eq_of_mul_eq_mul_left (show (keyF F S u).2.2 ≠ 0 by omega) (x1.symm.trans x2)
  rw [ek, y1, y2, ed]
/-- at p a piece of the road k, from the one to the other of ab in shares, of d parts -/
def PcsAt (C : Addr) (k : Nat) (m d : Int) (H : Hp) (p : Addr) (ab : Nat × Nat) : Prop := ∃ a b : Int, PcAt C H p (((k : Nat) : Int), a, b, d) ∧ (ab.1 : Int) = a * m ∧ (ab.2 : Int) = b * m ∧ gcdI a d = 1
theorem PcsAt.kp {C : Addr} {k : Nat} {m d : Int} {H H' : Hp} {p : Addr} {ab : Nat × Nat} (h : PcsAt C k m d H p ab) (kp : Kp H H') : PcsAt C k m d H' p ab := let ⟨a, b, x, y⟩ := h; ⟨a, b, x.kp kp, y⟩
/-- what of the stretch from s to e of the road is led to v -/
def PcO (f : Nat → Nd) (s e : Nat) (v : Nd) (o : List (Nat × Nat)) : Prop := o.length ≤ 1 ∧ (∀ ab ∈ o, s ≤ ab.1 ∧ ab.1 ≤ ab.2 ∧ ab.2 ≤ e) ∧ ∀ t, s ≤ t → t ≤ e → (f t = v ↔ ∃ ab ∈ o, ab.1 ≤ t ∧ t ≤ ab.2)
def spPiecesIn (K : PySem.W.Frag) (CT CR CP CS CPc : Addr) : Sp := fun vs H Q _ => ∃ (x st gl : Addr) (n : Int) (ps : List Addr) (F : List Fact) (z : It) (f f' : Nat → Nat → Nd) (gs : List MG) (c : Nat) (r : Fact) (kg : Nat) (pg m : Int), vs = [.ref x, .ref st, .ref gl] ∧ TreeAt K CT CR H x n ps F ∧ TreeG n F ∧ TreeM n (lng (c : Int) F) ∧ SpL CS CP F f H st z ∧ PlaceAt CP H gl r ∧ PlE F c r kg pg ∧ r = keyF F c (node F c kg pg) ∧ 1 ≤ c ∧ c ≤ 1000 ∧ (c : Int) = r.2.2 * m ∧
  (∀ g ∈ gs, MgOk F g) ∧ Img F gs f ∧ Img (lng (c : Int) F) (finM (c : Int) gs) f' ∧ z.1 < F.length ∧ z.2.1 < z.2.2 ∧ (z.2.2 : Int) ≤ sz F 1 z.1 ∧ Pw F (f z.1) z.2.1 z.2.2 ∧
  ∀ l H' us o, Same H H' → H l = none → H' l = some (.lst (us.map V.ref)) → Paired (PcsAt CPc z.1 m r.2.2 H') us o → PcO (f' z.1) (z.2.1 * c) (z.2.2 * c) (node F c kg pg) o → Q (.ref l) H'
section
variable {P : Program} {w : World} {K : PySem.W.Frag} {mg : Str → Option Value} {base : Heap}
abbrev nPiecesIn : List Str := ["tree", "stretch", "goal", "ahead", "behind", "at"]
theorem scPiecesIn : FnScope nPiecesIn ["tree", "stretch", "goal"] (defScope sPiecesIn) := ⟨rfl, rfl, rfl, by decide +kernel, rfl, by decide +kernel, by decide +kernel⟩
theorem ok_piecesIn {f0 CT CR CP CS CPc CNR COR fDI fZG fPE fPcI : Addr} {fd fdDI fdZG fdPE fdPcI : FuncData} (F0 : Fun K "pieces_in" "pieces_in" sPiecesIn f0 fd) (TS : StT K mg CS) (TP : PlT K mg CP) (TPc : PcT K mg CPc)
    (cP : QC K CP fPE) (FPE : FnOk P w K mg base CX0 1 fPE fdPE ["self", "other"] (spPlaceE CP)) (bPE : Binds K fdPE ["self", "other"] [])
    (FDI : FnOk P w K mg base (L2.CX P w) 4 fDI fdDI ["tree", "one", "other"] (spDist K CT CR CP CNR COR)) (bDI : Binds K fdDI ["tree", "one", "other"] []) (mDI : mg "distance" = some (.ref fDI)) (kDI : PySem.W.keepIn K (.ref fDI) = true)
    (FZG : FnOk P w K mg base CX0 2 fZG fdZG ["stretch"] (spGath CS CP)) (bZG : Binds K fdZG ["stretch"] []) (mZG : mg "is_gathered" = some (.ref fZG)) (kZG : PySem.W.keepIn K (.ref fZG) = true)
    (MPc : Mk K CPc fPcI) (FPcI : FnOk P w K mg base CX0 1 fPcI fdPcI ["self", "road", "least", "greatest", "parts"] (spPieceI CPc)) (bPcI : Binds K fdPcI ["self", "road", "least", "greatest", "parts"] []) : FnOk P w K mg base CX0 5 f0 fd ["tree", "stretch", "goal"] (spPiecesIn K CT CR CP CS CPc) := by
  refine F0.ok scPiecesIn (fun vs H Q E h => ?_) (fun cdv A outer s0 H vs Q E hr h => ?_)
  · obtain ⟨x, st, gl, n, ps, fs, z, f, f', gs, c, r, kg, pg, m, rfl, _⟩ := h
    rfl
  · obtain ⟨x, st, gl, n, ps, fs, z, f, f', gs, c, r, kg, pg, m, rfl, TA, TG, TL, ⟨a1, b1, ⟨ds, es⟩, A1, B1⟩, PG, pe, er, c1, c2, em, ok, im, im', hk, se, he, pw, kont⟩ := h
    have T := TG.m
    have n2 := TG.n2
    have hr1 : Room 1 _ := hr.mono (by decide)
    have hr2 : Room 2 _ := hr.mono (by decide)
    have hr4 : Room 4 _ := hr.mono (by decide)
    have p1 := pe.p1
    have m0 : 0 < m := by
      apply Classical.byContradiction
      intro q
      have := Int.mul_nonpos_of_nonneg_of_nonpos (show 0 ≤ r.2.2 by omega) (show m ≤ 0 by omega)
      omega
    have os : OnT fs 1 (f z.1 z.2.1) := Img.on T n2 ok im hk (by omega)
    have oe : OnT fs 1 (f z.1 z.2.2) := Img.on T n2 ok im hk he
    have og : OnT fs c (node fs c kg pg) := ⟨kg, pg, pe.on, rfl⟩
    have ogL : OnT (lng (c : Int) fs) 1 (node fs c kg pg) := ⟨kg, pg, by rw [on_lng, Int.one_mul]; exact pe.on, by rw [node_lng, Int.one_mul]⟩
    obtain ⟨set1, set2⟩ := pc_set T n2 c1 TL ok im im' hk se he pw ogL
    refine ⟨_, pss_cons (ps_if (pt_val (pe_call FZG hr2 rfl mZG kZG bZG .nil pass0 (pa_cons (pv 1) pa_nil)))
        (pss_one (ps_ret (pe_ifExp (pt_cmpR (op_eqB (rcB_own FPE cP.eq cP.fn bPE) hr1) (pe_fld (pv 1) rfl) (pv 2) (nomark _)) (pe_lst (pa_cons (pe_make MPc FPcI hr2 (by rfl) TPc.mgC bPcI .nil pass0 (pa_cons (pe_fld (pv 1) rfl) (pa_cons (pe_fld (pv 1) rfl) (pa_cons (pe_fld (pv 1) rfl) (pa_cons pe_int pa_nil))))) pa_nil)) (pe_lst pa_nil))))
        pss_nil)
      (pss_cons (ps_set (i := 3) scPiecesIn.nd rfl (Or.inl rfl) (pe_ix ix_tup (pe_call FDI hr4 rfl mDI kDI bDI .nil passF (pa_cons (pv 0) (pa_cons (pe_fld (pv 1) rfl) (pa_cons (pv 2) pa_nil)))) pe_int (fun _ _ => rfl)))
      (pss_cons (ps_set (i := 4) scPiecesIn.nd rfl (Or.inl rfl) (pe_ix ix_tup (pe_call FDI hr4 rfl mDI kDI bDI .nil passF (pa_cons (pv 0) (pa_cons (pv 2) (pa_cons (pe_fld (pv 1) rfl) pa_nil)))) pe_int (fun _ _ => rfl)))
      (pss_cons (ps_if (pt_cmpR op_ne (pe_op op_add (pv 3) (pv 4)) (pe_op op_mul (pe_op op_sub (pe_fld (pv 1) rfl) (pe_fld (pv 1) rfl)) (pe_fld (pv 2) rfl)) (nomark _))
        (pss_one (ps_ret (pe_lst pa_nil)))
        pss_nil)
      (pss_cons (ps_set (i := 5) scPiecesIn.nd rfl (Or.inl rfl) (pe_op op_add (pe_op op_mul (pe_fld (pv 1) rfl) (pe_fld (pv 2) rfl)) (pv 3)))
      (pss_one (ps_ret (pe_lst (pa_cons (pe_make MPc FPcI hr2 (by rfl) TPc.mgC bPcI .nil pass0 (pa_cons (pe_fld (pv 1) rfl) (pa_cons (pv 5) (pa_cons (pv 5) (pa_cons (pe_fld (pv 2) rfl) pa_nil))))) pa_nil)))))))), ?_⟩
    have d1e : decide (keyF fs 1 (f z.1 z.2.1) = keyF fs 1 (f z.1 z.2.2)) = decide (f z.1 z.2.1 = f z.1 z.2.2) := by
      rw [decide_eq_decide]
      exact ⟨fun z => key_inj T n2 os oe z, fun z => by rw [z]⟩
    refine ⟨_, rfl, st, _, _, _, rfl, ⟨ds, es⟩, A1, B1, _, rfl, ?_⟩
    rw [d1e]
    have none_ : (∀ t, z.2.1 * c ≤ t → t ≤ z.2.2 * c → f' z.1 t ≠ node fs c kg pg) → PcO (f' z.1) (z.2.1 * c) (z.2.2 * c) (node fs c kg pg) [] := fun no => ⟨Nat.zero_le _, fun ab h => (by cases h), fun t t1 t2 => ⟨fun e => absurd e (no t t1 t2), fun ⟨_, h, _⟩ => (by cases h)⟩⟩
    by_cases g : f z.1 z.2.1 = f z.1 z.2.2
    · rw [decide_eq_true g]
      refine iteT ?_
      obtain ⟨da, ea⟩ := id A1
      obtain ⟨dg, eg⟩ := id PG
      refine ⟨_, rfl, st, CS, ds, _, _, rfl, es, TS.cl, TS.nF, stF_f _, _, rfl, ?_⟩
      refine ⟨a1, da, plF _, _, rfl, ea, .ins eg, nf_same, a1, da, _, _, rfl, ea, .inl ⟨gl, dg, _, rfl, eg, _, rfl, ?_⟩⟩
      have osc : OnT fs c (scN c (f z.1 z.2.1)) := by
        obtain ⟨k1, i1, q1, e1⟩ := key_ple T n2 (show (1 : Int) ≤ 1 by decide) os
        exact ⟨k1, i1 * c, (q1.up c1).on, by rw [node_one (by omega), e1]⟩
      have kc : keyF fs 1 (f z.1 z.2.1) = keyF fs c (scN c (f z.1 z.2.1)) := by
        have h := keyF_mul (c := (c : Int)) (by omega) fs 1 (f z.1 z.2.1)
        rw [Int.one_mul] at h
        exact h.symm
      by_cases hv : scN c (f z.1 z.2.1) = node fs c kg pg
      · have e1 : keyF fs 1 (f z.1 z.2.1) = r := by rw [kc, hv, er]
        have rp : r.2.2 = 1 := by
          rw [← e1, plN_key]
          rfl
        have mc : m = c := by rw [rp, Int.one_mul] at em; exact em.symm
        rw [decide_eq_true e1]
        refine ⟨_, rfl, iteT ?_⟩
        refine ⟨_, rfl, st, CS, ds, _, _, rfl, es, TS.cl, TS.nR, stF_r _, _, rfl, st, CS, ds, _, _, rfl, es, TS.cl, TS.nL, stF_l _, _, rfl, st, CS, ds, _, _, rfl, es, TS.cl, TS.nG, stF_g _, fun y dx nx ndx nex => ⟨y, dx, (((z.1 : Nat) : Int), ((z.2.1 : Nat) : Int), ((z.2.2 : Nat) : Int), 1), rfl, upd_same, fun G1 pc keep => ⟨rfl, ?_⟩⟩⟩
        have s1 := made_same nx ndx keep
        refine ⟨(by show 1 ≤ sizeLine; decide), fun l hl => ?_⟩
        refine kont l _ [y] [(z.2.1 * c, z.2.2 * c)] (s1.trans (Same.new hl)) (Same.free s1 hl) upd_same (.cons ⟨_, _, (by rw [rp]; exact pc.same (Same.new hl)), by rw [mc]; push_cast; rfl, by rw [mc]; push_cast; rfl, by rw [rp]; unfold gcdI; simp⟩ .nil) ⟨Nat.le_refl _, fun ab h => ?_, fun t t1 t2 => ⟨fun _ => ⟨_, List.mem_singleton.mpr rfl, t1, t2⟩, fun _ => (set1 g t t1 t2).mpr hv⟩⟩
        rw [List.mem_singleton.mp h]
        exact ⟨Nat.le_refl _, Nat.mul_le_mul_right c (by omega), Nat.le_refl _⟩
      · have e1 : keyF fs 1 (f z.1 z.2.1) ≠ r := fun q => hv (keyC_inj T n2 (by omega) osc og (by rw [← kc, q, ← er]))
        rw [decide_eq_false e1]
        refine ⟨_, rfl, iteF ⟨Nat.zero_le _, fun l hl => ?_⟩⟩
        exact kont l _ [] [] (Same.new hl) hl upd_same .nil (none_ fun t t1 t2 e => hv ((set1 g t t1 t2).mp e))
    · rw [decide_eq_false g]
      refine iteF ?_
      obtain ⟨set2a, set2b⟩ := set2 g
      obtain ⟨k1, i1, q1, e1⟩ := key_ple T n2 (show (1 : Int) ≤ 1 by decide) os
      obtain ⟨k2, i2, q2, e2⟩ := key_ple T n2 (show (1 : Int) ≤ 1 by decide) oe
      have u1 := q1.up c1
      have u2 := q2.up c1
      obtain ⟨h1, eh1, el1, g1, h10⟩ := low_hP (d := 0) (k := k1) (i0 := i1) pe m0 em
      obtain ⟨h2, eh2, el2, g2, h20⟩ := low_hP (d := 0) (k := k2) (i0 := i2) pe m0 em
      have sym : hP fs c k2 (i2 * c) kg pg = hP fs c kg pg k2 (i2 * c) := (hP_sym T (by omega) u2.on pe.on).symm
      have onL : ∀ {k : Nat} {i : Int}, On fs c k i → On (lng (c : Int) fs) 1 k i := fun o => by rw [on_lng, Int.one_mul]; exact o
      have D1 : Dn (lng (c : Int) fs) (scN c (f z.1 z.2.1)) (node fs c kg pg) = h1 * m := by
        have ea : scN c (f z.1 z.2.1) = node (lng (c : Int) fs) 1 k1 (i1 * c) := by rw [node_lng, Int.one_mul, node_one (by omega), e1]
        have eb : node fs c kg pg = node (lng (c : Int) fs) 1 kg pg := by rw [node_lng, Int.one_mul]
        rw [ea, eb, Dn_hP TL n2 (onL u1.on) (onL pe.on), hP_lng, Int.one_mul, eh1]
      have D2 : Dn (lng (c : Int) fs) (node fs c kg pg) (scN c (f z.1 z.2.2)) = h2 * m := by
        have ea : scN c (f z.1 z.2.2) = node (lng (c : Int) fs) 1 k2 (i2 * c) := by rw [node_lng, Int.one_mul, node_one (by omega), e2]
        have eb : node fs c kg pg = node (lng (c : Int) fs) 1 kg pg := by rw [node_lng, Int.one_mul]
        rw [ea, eb, Dn_hP TL n2 (onL pe.on) (onL u2.on), hP_lng, Int.one_mul, sym, eh2]
      obtain ⟨dg, eg⟩ := id PG
      have r64 : -(2 ^ 64 : Int) < r.2.2 ∧ r.2.2 < 2 ^ 64 := by have := pe.le; omega
      -- ahead
      refine ⟨_, rfl, _, rfl, st, CS, ds, _, _, rfl, es, TS.cl, TS.nF, stF_f _, _, rfl, tn ?_⟩
      show spDist K CT CR CP CNR COR [V.ref x, V.ref a1, V.ref gl] H _ _
      refine dist_c TA TG A1 PG u1 pe (by omega) (by omega) fun t1 G1 s1 ht1 => ?_
      rw [el1] at ht1
      refine ⟨t1, _, 0, _, rfl, rfl, SqT.of ht1, rfl, ?_⟩
      -- behind
      refine ⟨_, rfl, _, rfl, _, rfl, st, CS, ds, _, _, rfl, s1 _ _ es, TS.cl, TS.nA, stF_a _, tn ?_⟩
      show spDist K CT CR CP CNR COR [V.ref x, V.ref gl, V.ref b1] G1 _ _
      refine dist_c (TA.same s1) TG (PG.same s1) (B1.same s1) pe u2 (by omega) (by omega) fun t2 G2 s2 ht2 => ?_
      rw [sym, el2] at ht2
      refine ⟨t2, _, 0, _, rfl, rfl, SqT.of ht2, rfl, ?_⟩
      have s12 := s1.trans s2
      have es2 := s12 _ _ es
      have eg2 := s12 _ _ eg
      refine ⟨_, rfl, _, rfl, _, _, rfl, rfl, _, rfl, st, CS, ds, _, _, rfl, es2, TS.cl, TS.nG, stF_g _, _, rfl, st, CS, ds, _, _, rfl, es2, TS.cl, TS.nL, stF_l _, _, _, rfl, rfl, _, rfl, gl, CP, dg, _, _, rfl, eg2, TP.cl, TP.nP, plF_p _, _, _, rfl, rfl, .inr r64, rfl, _, rfl, ?_⟩
      rw [dec_int]
      have eI : ((z.2.2 - z.2.1 : Nat) : Int) = ((z.2.2 : Nat) : Int) - ((z.2.1 : Nat) : Int) := by omega
      by_cases hs : h1 + h2 = (((z.2.2 : Nat) : Int) - ((z.2.1 : Nat) : Int)) * r.2.2
      · rw [show (h1 + h2 == (((z.2.2 : Nat) : Int) - ((z.2.1 : Nat) : Int)) * r.2.2) = true from beq_iff_eq.mpr hs]
        obtain ⟨le, set_⟩ := set2a (by rw [D1, D2, eI, em, ← Int.add_mul, hs, Int.mul_assoc])
        rw [D1] at le set_
        have hm0 : 0 ≤ h1 * m := Int.mul_nonneg h10 (by omega)
        refine iteF ⟨_, rfl, st, CS, ds, _, _, rfl, es2, TS.cl, TS.nL, stF_l _, _, rfl, gl, CP, dg, _, _, rfl, eg2, TP.cl, TP.nP, plF_p _, _, _, rfl, rfl, .inr r64, _, rfl, _, _, rfl, rfl, ?_⟩
        refine ⟨_, rfl, st, CS, ds, _, _, rfl, es2, TS.cl, TS.nR, stF_r _, _, rfl, _, rfl, _, rfl, gl, CP, dg, _, _, rfl, eg2, TP.cl, TP.nP, plF_p _, fun y dx nx ndx nex => ⟨y, dx, (((z.1 : Nat) : Int), ((z.2.1 : Nat) : Int) * r.2.2 + h1, ((z.2.1 : Nat) : Int) * r.2.2 + h1, r.2.2), rfl, upd_same, fun G3 pc keep => ⟨rfl, ?_⟩⟩⟩
        have s3 := s12.trans (made_same nx ndx keep)
        refine ⟨(by show 1 ≤ sizeLine; decide), fun l hl => ?_⟩
        have ei : ((z.2.1 * c + (h1 * m).toNat : Nat) : Int) = (((z.2.1 : Nat) : Int) * r.2.2 + h1) * m := by
          push_cast
          rw [Int.add_mul, Int.mul_assoc, ← em]
          omega
        refine kont l _ [y] [(z.2.1 * c + (h1 * m).toNat, z.2.1 * c + (h1 * m).toNat)] (s3.trans (Same.new hl)) (Same.free s3 hl) upd_same (.cons ⟨_, _, pc.same (Same.new hl), ei, ei, gcd_mod p1 (.inl rfl) g1⟩ .nil) ⟨Nat.le_refl _, fun ab h => ?_, fun t t1 t2 => ⟨fun e => ⟨_, List.mem_singleton.mpr rfl, ?_, ?_⟩, fun ⟨ab, hab, x1, x2⟩ => (set_ t t1 t2).mpr ?_⟩⟩
        · rw [List.mem_singleton.mp h]
          exact ⟨Nat.le_add_right _ _, Nat.le_refl _, le⟩
        · rw [(set_ t t1 t2).mp e]
          exact Nat.le_refl _
        · rw [(set_ t t1 t2).mp e]
          exact Nat.le_refl _
        · rw [List.mem_singleton.mp hab] at x1 x2
          exact Nat.le_antisymm x2 x1
      · rw [show (h1 + h2 == (((z.2.2 : Nat) : Int) - ((z.2.1 : Nat) : Int)) * r.2.2) = false from beq_eq_false_iff_ne.mpr hs]
        refine iteT ⟨Nat.zero_le _, fun l hl => ?_⟩
        refine kont l _ [] [] (s12.trans (Same.new hl)) (Same.free s12 hl) upd_same .nil (none_ (set2b fun q => hs ?_))
        rw [D1, D2, eI, em, ← Int.add_mul, ← Int.mul_assoc] at q
        exact Int.eq_of_mul_eq_mul_right (by omega) q
end
end OT
set_option Elab.async false
set_option linter.all false
set_option maxRecDepth 100000
set_option maxHeartbeats 4000000
namespace OT
def Gap (p q : It) : Prop := p.1 < q.1 ∨ (p.1 = q.1 ∧ p.2.2 + 1 < q.2.1)
structure RsI (p : Nat → Nat → Prop) (Z : List It) : Prop where
  le : ∀ z ∈ Z, z.2.1 ≤ z.2.2
  gap : Z.Pairwise Gap
  iff : ∀ k t, p k t ↔ ∃ z ∈ Z, z.1 = k ∧ z.2.1 ≤ t ∧ t ≤ z.2.2
theorem RsI.congr {p q : Nat → Nat → Prop} {Z : List It} (h : RsI p Z) (e : ∀ k t, p k t ↔ q k t) : RsI q Z := ⟨h.le, h.gap, fun k t => (e k t).symm.trans (h.iff k t)⟩
theorem rsI_nil {p : Nat → Nat → Prop} (no : ∀ k t, ¬ p k t) : RsI p [] := ⟨fun z h => (by cases h), .nil, fun k t => ⟨fun h => absurd h (no k t), fun ⟨_, h, _⟩ => (by cases h)⟩⟩
/-- there is but one list of runs -/
theorem RsI.uniq : ∀ {Z Y : List It} {p : Nat → Nat → Prop}, RsI p Z → RsI p Y → Z = Y
  | [], [], _, _, _ => rfl
  | [], y :: Y, p, h, k => by
    have := (h.iff y.1 y.2.1).mp ((k.iff y.1 y.2.1).mpr ⟨y, List.mem_cons_self, rfl, Nat.le_refl _, k.le y List.mem_cons_self⟩)
    obtain ⟨_, hz, _⟩ := this
    cases hz
  | z :: Z, [], p, h, k => by
    have := (k.iff z.1 z.2.1).mp ((h.iff z.1 z.2.1).mpr ⟨z, List.mem_cons_self, rfl, Nat.le_refl _, h.le z List.mem_cons_self⟩)
    obtain ⟨_, hz, _⟩ := this
    cases hz
  | z :: Z, y :: Y, p, h, k => by
    have first : ∀ {z y : It} {Z Y : List It}, RsI p (z :: Z) → RsI p (y :: Y) → y.1 < z.1 ∨ (y.1 = z.1 ∧ y.2.1 ≤ z.2.1) := fun {z y Z Y} h k => by
      obtain ⟨w, hw, e1, l1, l2⟩ := (k.iff z.1 z.2.1).mp ((h.iff z.1 z.2.1).mpr ⟨z, List.mem_cons_self, rfl, Nat.le_refl _, h.le z List.mem_cons_self⟩)
      rcases List.mem_cons.mp hw with rfl | hw
      · exact .inr ⟨e1, l1⟩
      · have g := List.rel_of_pairwise_cons k.gap hw
        have ly := k.le y List.mem_cons_self
        rcases g with g | ⟨g1, g2⟩
        · exact .inl (by omega)
        · exact .inr ⟨by omega, by omega⟩
    have a := first h k
    have b := first k h
    have e1 : z.1 = y.1 := by omega
    have e2 : z.2.1 = y.2.1 := by omega
    have last : ∀ {z y : It} {Z Y : List It}, RsI p (z :: Z) → RsI p (y :: Y) → z.1 = y.1 → z.2.1 = y.2.1 → z.2.2 ≤ y.2.2 := fun {z y Z Y} h k e1 e2 => by
      apply Classical.byContradiction
      intro lt
      have ly := k.le y List.mem_cons_self
      obtain ⟨w, hw, f1, l1, l2⟩ := (k.iff z.1 (y.2.2 + 1)).mp ((h.iff z.1 (y.2.2 + 1)).mpr ⟨z, List.mem_cons_self, rfl, by omega, by omega⟩)
      rcases List.mem_cons.mp hw with rfl | hw
      · omega
      · have g := List.rel_of_pairwise_cons k.gap hw
        unfold Gap at g
        omega
    have e3 : z.2.2 = y.2.2 := Nat.le_antisymm (last h k e1 e2) (last k h e1.symm e2.symm)
    have e : z = y := Prod.ext e1 (Prod.ext e2 e3)
    subst e
    have tail : ∀ {Z : List It}, RsI p (z :: Z) → RsI (fun k t => p k t ∧ ¬ (z.1 = k ∧ z.2.1 ≤ t ∧ t ≤ z.2.2)) Z := fun {Z} h => by
      refine ⟨fun w hw => h.le w (List.mem_cons_of_mem _ hw), (List.pairwise_cons.mp h.gap).2, fun k t => ⟨fun ⟨a, b⟩ => ?_, fun ⟨w, hw, e, l1, l2⟩ => ⟨(h.iff k t).mpr ⟨w, List.mem_cons_of_mem _ hw, e, l1, l2⟩, fun ⟨x1, x2, x3⟩ => ?_⟩⟩⟩
      · obtain ⟨w, hw, e, l1, l2⟩ := (h.iff k t).mp a
        rcases List.mem_cons.mp hw with rfl | hw
        · exact absurd ⟨e, l1, l2⟩ b
        · exact ⟨w, hw, e, l1, l2⟩
      · have g := List.rel_of_pairwise_cons h.gap hw
        unfold Gap at g
        omega
    rw [RsI.uniq (tail h) (tail k)]
theorem gap_snoc {Z : List It} {z : It} (h : Z.Pairwise Gap) (l : ∀ w ∈ Z, Gap w z) : (Z ++ [z]).Pairwise Gap := List.pairwise_append.mpr ⟨h, List.pairwise_singleton _ _, fun a ha b hb => by rw [List.mem_singleton.mp hb]; exact l a ha⟩
/-- a run more behind the others, or the last one made longer -/
theorem RsI.push {p q : Nat → Nat → Prop} {Z : List It} {k a b : Nat} (h : RsI p Z) (ab : a ≤ b) (e : ∀ i t, q i t ↔ p i t ∨ (i = k ∧ a ≤ t ∧ t ≤ b)) (lo : ∀ i t, p i t → i < k ∨ (i = k ∧ t + 1 < a)) : RsI q (Z ++ [(k, a, b)]) := by
  refine ⟨fun z hz => ?_, gap_snoc h.gap fun w hw => ?_, fun i t => ?_⟩
  · rcases List.mem_append.mp hz with hz | hz
    · exact h.le z hz
    · rw [List.mem_singleton.mp hz]
      exact ab
  · have lw := h.le w hw
    have := lo w.1 w.2.2 ((h.iff w.1 w.2.2).mpr ⟨w, hw, rfl, lw, Nat.le_refl _⟩)
    exact this
  · rw [e i t, h.iff i t]
    constructor
    · rintro (⟨z, hz, x⟩ | ⟨rfl, x⟩)
      · exact ⟨z, List.mem_append_left _ hz, x⟩
      · exact ⟨_, List.mem_append_right _ (List.mem_singleton.mpr rfl), rfl, x⟩
    · rintro ⟨z, hz, x1, x2⟩
      rcases List.mem_append.mp hz with hz | hz
      · exact .inl ⟨z, hz, x1, x2⟩
      · rw [List.mem_singleton.mp hz] at x1 x2
        exact .inr ⟨x1.symm, x2⟩
theorem RsI.long {p q : Nat → Nat → Prop} {Z : List It} {k a0 b0 b : Nat} (h : RsI p (Z ++ [(k, a0, b0)])) (bb : b0 ≤ b) (e : ∀ i t, q i t ↔ p i t ∨ (i = k ∧ b0 < t ∧ t ≤ b)) : RsI q (Z ++ [(k, a0, b)]) := by
  have l0 := h.le (k, a0, b0) (List.mem_append_right _ (List.mem_singleton.mpr rfl))
  have l0 : a0 ≤ b0 := l0
  obtain ⟨g1, _, g2⟩ := List.pairwise_append.mp h.gap
  refine ⟨fun z hz => ?_, gap_snoc g1 fun w hw => (g2 w hw (k, a0, b0) (List.mem_singleton.mpr rfl) : Gap w (k, a0, b0)), fun i t => ?_⟩
  · rcases List.mem_append.mp hz with hz | hz
    · exact h.le z (List.mem_append_left _ hz)
    · rw [List.mem_singleton.mp hz]
      show a0 ≤ b
      omega
  · rw [e i t, h.iff i t]
    constructor
    · rintro (⟨z, hz, x1, x2, x3⟩ | ⟨rfl, x1, x2⟩)
      · rcases List.mem_append.mp hz with hz | hz
        · exact ⟨z, List.mem_append_left _ hz, x1, x2, x3⟩
        · rw [List.mem_singleton.mp hz] at x1 x2 x3
          exact ⟨_, List.mem_append_right _ (List.mem_singleton.mpr rfl), x1, x2, Nat.le_trans x3 bb⟩
      · exact ⟨_, List.mem_append_right _ (List.mem_singleton.mpr rfl), rfl, (by show a0 ≤ t; omega), x2⟩
    · rintro ⟨z, hz, x1, x2, x3⟩
      rcases List.mem_append.mp hz with hz | hz
      · exact .inl ⟨z, List.mem_append_left _ hz, x1, x2, x3⟩
      · rw [List.mem_singleton.mp hz] at x1 x2 x3
        have x1 : k = i := x1
        have x2 : a0 ≤ t := x2
        have x3 : t ≤ b := x3
        by_cases q : t ≤ b0
        · exact .inl ⟨_, List.mem_append_right _ (List.mem_singleton.mpr rfl), x1, x2, q⟩
        · exact .inr ⟨x1.symm, by omega, x3⟩
/-- what is done when the stretches before st are -/
def DoneI (F : List Fact) (c : Nat) (st : Nat × Nat) (k t : Nat) : Prop := (k < st.1 ∧ (t : Int) ≤ sz F c k) ∨ (k = st.1 ∧ 0 < st.2 ∧ t ≤ st.2 * c)
/-- one stretch more, with what of it is led to v -/
theorem done_step {n : Int} {F : List Fact} (T : TreeM n F) {c : Nat} (c1 : 1 ≤ c) {f : Nat → Nat → Nd} {v : Nd} {k s e : Nat} (hk : k < F.length) (se : s < e) (he : (e : Int) ≤ sz F 1 k) {o : List (Nat × Nat)} (po : PcO (f k) (s * c) (e * c) v o) {Z : List It} (h : RsI (fun i t => DoneI F c (k, s) i t ∧ f i t = v) Z) :
    (o = [] → RsI (fun i t => DoneI F c (nx F k e) i t ∧ f i t = v) Z) ∧ ∀ a b, o = [(a, b)] → (∀ Z0 a0, Z = Z0 ++ [(k, a0, a)] → RsI (fun i t => DoneI F c (nx F k e) i t ∧ f i t = v) (Z0 ++ [(k, a0, b)])) ∧ ((∀ Z0 a0, Z ≠ Z0 ++ [(k, a0, a)]) → RsI (fun i t => DoneI F c (nx F k e) i t ∧ f i t = v) (Z ++ [(k, a, b)])) := by
  obtain ⟨_, bnd, set_⟩ := po
  have sc : s * c < e * c := Nat.mul_lt_mul_of_pos_right se c1
  have esz : sz F (c : Int) k = sz F 1 k * (c : Int) := esz_one T (by omega) k
  -- what is done now
  have now : ∀ i t, DoneI F c (nx F k e) i t ↔ DoneI F c (k, s) i t ∨ (i = k ∧ s * c ≤ t ∧ t ≤ e * c) := fun i t => by
    have d1 : DoneI F c (k, s) i t ↔ (i < k ∧ (t : Int) ≤ sz F c i) ∨ (i = k ∧ 0 < s ∧ t ≤ s * c) := Iff.rfl
    rw [d1]
    by_cases q : (e : Int) = sz F 1 k
    · have d2 : DoneI F c (nx F k e) i t ↔ (i < k + 1 ∧ (t : Int) ≤ sz F c i) ∨ (i = k + 1 ∧ 0 < 0 ∧ t ≤ 0 * c) := by
        unfold nx
        rw [if_pos q]
        exact Iff.rfl
      rw [d2]
      have ec : ((e * c : Nat) : Int) = sz F c k := by rw [esz, ← q]; push_cast; rfl
      constructor
      · rintro (⟨a, b⟩ | ⟨_, b, _⟩)
        · by_cases ik : i = k
          · subst ik
            by_cases z : 0 < s ∧ t ≤ s * c
            · exact .inl (.inr ⟨rfl, z⟩)
            · refine .inr ⟨rfl, ?_, by omega⟩
              by_cases s0 : s = 0
              · subst s0
                omega
              · omega
          · exact .inl (.inl ⟨by omega, b⟩)
        · omega
      · rintro ((⟨a, b⟩ | ⟨rfl, a, b⟩) | ⟨rfl, a, b⟩)
        · exact .inl ⟨by omega, b⟩
        · exact .inl ⟨by omega, by omega⟩
        · exact .inl ⟨by omega, by omega⟩
    · have d2 : DoneI F c (nx F k e) i t ↔ (i < k ∧ (t : Int) ≤ sz F c i) ∨ (i = k ∧ 0 < e ∧ t ≤ e * c) := by
        unfold nx
        rw [if_neg q]
        exact Iff.rfl
      rw [d2]
      constructor
      · rintro (⟨a, b⟩ | ⟨rfl, a, b⟩)
        · exact .inl (.inl ⟨a, b⟩)
        · by_cases z : 0 < s ∧ t ≤ s * c
          · exact .inl (.inr ⟨rfl, z⟩)
          · refine .inr ⟨rfl, ?_, b⟩
            by_cases s0 : s = 0
            · subst s0
              omega
            · omega
      · rintro ((⟨a, b⟩ | ⟨rfl, a, b⟩) | ⟨rfl, a, b⟩)
        · exact .inl ⟨a, b⟩
        · exact .inr ⟨rfl, by omega, by omega⟩
        · exact .inr ⟨rfl, by omega, b⟩
  refine ⟨fun eo => ?_, fun a b eo => ?_⟩
  · subst eo
    refine h.congr fun i t => ⟨fun ⟨d, g⟩ => ⟨(now i t).mpr (.inl d), g⟩, fun ⟨d, g⟩ => ?_⟩
    rcases (now i t).mp d with d | ⟨rfl, t1, t2⟩
    · exact ⟨d, g⟩
    · obtain ⟨_, hm, _⟩ := (set_ t t1 t2).mp g
      cases hm
  · subst eo
    obtain ⟨b1, b2, b3⟩ := bnd (a, b) (List.mem_singleton.mpr rfl)
    have b1 : s * c ≤ a := b1
    have b2 : a ≤ b := b2
    have b3 : b ≤ e * c := b3
    have one : ∀ t, s * c ≤ t → t ≤ e * c → (f k t = v ↔ a ≤ t ∧ t ≤ b) := fun t t1 t2 => (set_ t t1 t2).trans ⟨fun ⟨ab, hm, x⟩ => by rw [List.mem_singleton.mp hm] at x; exact x, fun x => ⟨_, List.mem_singleton.mpr rfl, x⟩⟩
    have comb : ∀ i t, (DoneI F c (nx F k e) i t ∧ f i t = v) ↔ (DoneI F c (k, s) i t ∧ f i t = v) ∨ (i = k ∧ a ≤ t ∧ t ≤ b) := fun i t => by
      constructor
      · rintro ⟨d, g⟩
        rcases (now i t).mp d with d | ⟨rfl, t1, t2⟩
        · exact .inl ⟨d, g⟩
        · exact .inr ⟨rfl, (one t t1 t2).mp g⟩
      · rintro (⟨d, g⟩ | ⟨rfl, x1, x2⟩)
        · exact ⟨(now i t).mpr (.inl d), g⟩
        · exact ⟨(now i t).mpr (.inr ⟨rfl, by omega, by omega⟩), (one t (by omega) (by omega)).mpr ⟨x1, x2⟩⟩
    refine ⟨fun Z0 a0 eZ => ?_, fun nz => ?_⟩
    · subst eZ
      have in_ := (h.iff k a).mpr ⟨_, List.mem_append_right _ (List.mem_singleton.mpr rfl), rfl, h.le _ (List.mem_append_right _ (List.mem_singleton.mpr rfl)), Nat.le_refl _⟩
      have as : a ≤ s * c := by
        rcases in_.1 with ⟨x, _⟩ | ⟨_, _, x⟩
        · exact absurd x (Nat.lt_irrefl _)
        · exact x
      refine h.long b2 fun i t => (comb i t).trans ⟨?_, ?_⟩
      · rintro (x | ⟨rfl, x1, x2⟩)
        · exact .inl x
        · by_cases q : t = a
          · subst q
            exact .inl in_
          · exact .inr ⟨rfl, by omega, x2⟩
      · rintro (x | ⟨rfl, x1, x2⟩)
        · exact .inl x
        · exact .inr ⟨rfl, by omega, x2⟩
    · refine h.push b2 comb fun i t ⟨d, g⟩ => ?_
      rcases d with ⟨x, _⟩ | ⟨x1, x2, x3⟩
      · exact .inl x
      · have x1 : i = k := x1
        subst x1
        refine .inr ⟨rfl, ?_⟩
        apply Classical.byContradiction
        intro q
        have x3 : t ≤ s * c := x3
        have x2 : 0 < s := x2
        -- then s * c itself is led to v, and a is s * c
        have done_s : ∀ {r : Nat}, r ≤ s * c → DoneI F c (i, s) i r := fun hr => .inr ⟨rfl, x2, hr⟩
        have asc : a = s * c := by
          by_cases y : t = s * c
          · subst y
            have := (one (s * c) (Nat.le_refl _) (by omega)).mp g
            omega
          · omega
        have gs : f i (s * c) = v := (one (s * c) (Nat.le_refl _) (by omega)).mpr ⟨by omega, by omega⟩
        obtain ⟨z, hz, e1, e2, e3⟩ := (h.iff i (s * c)).mp ⟨done_s (Nat.le_refl _), gs⟩
        have zt : z.2.2 ≤ s * c := by
          have := (h.iff i z.2.2).mpr ⟨z, hz, e1, h.le z hz, Nat.le_refl _⟩
          rcases this.1 with ⟨y, _⟩ | ⟨_, _, y⟩
          · exact absurd y (Nat.lt_irrefl _)
          · exact y
        -- z is the last one
        obtain ⟨Z1, Z2, rfl⟩ := List.append_of_mem hz
        have nil2 : Z2 = [] := by
          cases Z2 with
          | nil => rfl
          | cons w W =>
            exfalso
            have g2 := (List.pairwise_append.mp h.gap).2.1
            have gw := List.rel_of_pairwise_cons g2 (List.mem_cons_self (a := w) (l := W))
            have hw : w ∈ Z1 ++ z :: w :: W := List.mem_append_right _ (List.mem_cons_of_mem _ List.mem_cons_self)
            have dw := (h.iff w.1 w.2.1).mpr ⟨w, hw, rfl, Nat.le_refl _, h.le w hw⟩
            unfold Gap at gw
            rcases dw.1 with ⟨y, _⟩ | ⟨y1, _, y3⟩
            · have y : w.1 < i := y
              omega
            · have y1 : w.1 = i := y1
              have y3 : w.2.1 ≤ s * c := y3
              omega
        subst nil2
        refine nz Z1 z.2.1 ?_
        have ez : z = (i, z.2.1, a) := Prod.ext e1 (Prod.ext rfl (by show z.2.2 = a; omega))
        rw [← ez]
end OT
set_option Elab.async false
set_option linter.all false
set_option maxRecDepth 100000
set_option maxHeartbeats 4000000
namespace OT
open PySem L2 OTR
abbrev sBack : Stmt := top 53
def spBack (K : PySem.W.Frag) (CT CR CM CP CW CPc : Addr) : Sp := fun vs H Q _ => ∃ (rw p x : Addr) (n : Int) (ps : List Addr) (F : List Fact) (ms : List Addr) (gs : List MG) (c : Nat) (r : Fact) (k : Nat) (i : Int) (f' : Nat → Nat → Nd), vs = [.ref rw, .ref p] ∧ RowAt K CW H rw x ms ∧ TreeAt K CT CR H x n ps F ∧ TreeG n F ∧ MasAt CM CP H ms (gs.map mf) ∧ (∀ g ∈ gs, MgOk F g) ∧
  (∀ j f M, j ≤ gs.length → Img F (gs.take j) f → JOk F f (0, 0) (F.length, 0) M → M.length ≤ 400) ∧ TreeM n (lng (c : Int) F) ∧ PlaceAt CP H p r ∧ PlE F c r k i ∧ 1 ≤ c ∧ c ≤ 1000 ∧ Img (lng (c : Int) F) (finM (c : Int) gs) f' ∧
  ∀ D us Z m H', Same H H' → H D = none → H' D = some (.lst (us.map V.ref)) → 0 < m → (c : Int) = (keyF F c (node F c k i)).2.2 * m → Paired (fun q (z : It) => PcsAt CPc z.1 m (keyF F c (node F c k i)).2.2 H' q z.2) us Z → RsI (fun j t => (j < F.length ∧ (t : Int) ≤ sz F c j) ∧ f' j t = node F c k i) Z → us.length ≤ 400 → Q (.ref D) H'
section
variable {P : Program} {w : World} {K : PySem.W.Frag} {mg : Str → Option Value} {base : Heap}
abbrev nBack : List Str := ["row", "place", "goal", "found", "stretch", "piece"]
theorem scBack : FnScope nBack ["row", "place"] (defScope sBack) := ⟨rfl, rfl, rfl, by decide +kernel, rfl, by decide +kernel, by decide +kernel⟩
theorem ok_back {f0 CT CR CM CP CS CW CWd CPc CNR COR fKY fZD fPI fIB fPcI : Addr} {fd fdKY fdZD fdPI fdIB fdPcI : FuncData} (F0 : Fun K "back" "back" sBack f0 fd) (TW : RwT K mg CW) (TPc : PcT K mg CPc)
    (FKY : FnOk P w K mg base (L2.CX P w) 6 fKY fdKY ["tree", "place"] (spKey K CT CR CP CNR COR)) (bKY : Binds K fdKY ["tree", "place"] []) (mKY : mg "key" = some (.ref fKY)) (kKY : PySem.W.keepIn K (.ref fKY) = true)
    (FZD : FnOk P w K mg base (L2.CX P w) 11 fZD fdZD ["row"] (spDoing K CT CR CM CP CS CW CWd)) (bZD : Binds K fdZD ["row"] []) (mZD : mg "doing" = some (.ref fZD)) (kZD : PySem.W.keepIn K (.ref fZD) = true)
    (FPI : FnOk P w K mg base CX0 5 fPI fdPI ["tree", "stretch", "goal"] (spPiecesIn K CT CR CP CS CPc)) (bPI : Binds K fdPI ["tree", "stretch", "goal"] []) (mPI : mg "pieces_in" = some (.ref fPI)) (kPI : PySem.W.keepIn K (.ref fPI) = true)
    (FIB : FnOk P w K mg base CX0 1 fIB fdIB ["piece", "other"] (spIsOneB CPc)) (bIB : Binds K fdIB ["piece", "other"] []) (mIB : mg "is_one_backs" = some (.ref fIB)) (kIB : PySem.W.keepIn K (.ref fIB) = true)
    (MPc : Mk K CPc fPcI) (FPcI : FnOk P w K mg base CX0 1 fPcI fdPcI ["self", "road", "least", "greatest", "parts"] (spPieceI CPc)) (bPcI : Binds K fdPcI ["self", "road", "least", "greatest", "parts"] []) : FnOk P w K mg base CX0 12 f0 fd ["row", "place"] (spBack K CT CR CM CP CW CPc) := by
  refine F0.ok scBack (fun vs H Q E h => ?_) (fun cdv A outer s0 H vs Q E hr h => ?_)
  · obtain ⟨rw, p, x, n, ps, fs, ms, gs, c, r, k, i, f', rfl, _⟩ := h
    rfl
  · obtain ⟨rw, p, x, n, ps, fs, ms, gs, c, r, k, i, f', rfl, R, TA, TG, M0, okg, few, TL, pl, pe, c1, c2, im', kont⟩ := h
    have T := TG.m
    have n2 := TG.n2
    have hr1 : Room 1 _ := hr.mono (by decide)
    have hr2 : Room 2 _ := hr.mono (by decide)
    have hr5 : Room 5 _ := hr.mono (by decide)
    have hr6 : Room 6 _ := hr.mono (by decide)
    have hr11 : Room 11 _ := hr.mono (by decide)
    refine ⟨_, pss_cons (ps_set (i := 2) scBack.nd rfl (Or.inl rfl) (pe_call FKY hr6 rfl mKY kKY bKY .nil passF (pa_cons (pe_fld (pv 0) rfl) (pa_cons (pv 1) pa_nil))))
      (pss_cons (ps_set (i := 3) scBack.nd rfl (Or.inl rfl) (pe_lst pa_nil))
      (pss_cons (ps_for PassesOwn.never rfl (pi_list (pe_call FZD hr11 rfl mZD kZD bZD .nil passF (pa_cons (pv 0) pa_nil))) (pg_name (i := 4) scBack.nd rfl (Or.inl rfl))
        (pss_one (ps_for PassesOwn.never rfl (pi_list (pe_call FPI hr5 rfl mPI kPI bPI .nil pass0 (pa_cons (pe_fld (pv 0) rfl) (pa_cons (pv 4) (pa_cons (pv 2) pa_nil))))) (pg_name (i := 5) scBack.nd rfl (Or.inl rfl))
          (pss_one (ps_if (PW.pt (pw_and (pt_truth (pv 3) (fun _ => rfl)) (pw_and1 (pt_val (pe_call FIB hr1 rfl mIB kIB bIB .nil pass0 (pa_cons (pe_ix ix_list (pv 3) (pe_un un_neg pe_int) (fun _ _ => rfl)) (pa_cons (pv 5) pa_nil)))))))
            (pss_one (ps_asg (pe_make MPc FPcI hr2 (by rfl) TPc.mgC bPcI .nil pass0 (pa_cons (pe_fld (pv 5) rfl) (pa_cons (pe_fld (pe_ix ix_list (pv 3) (pe_un un_neg pe_int) (fun _ _ => rfl)) rfl) (pa_cons (pe_fld (pv 5) rfl) (pa_cons (pe_fld (pv 5) rfl) pa_nil))))) (pg_sub (pv 3) (pe_un un_neg pe_int) set_list)))
            (pss_one (ps_expr (pe_bm PySem.F.plainAttrs_list PySem.F.slot_list_append PySem.F.type_list_append mt_append (pv 3) (pa_cons (pv 5) pa_nil)))))))))
      (pss_one (ps_ret (pv 3))))), ?_⟩
    obtain ⟨dw, t, ew, et⟩ := id R
    have ov : OnT fs c (node fs c k i) := ⟨k, i, pe.on, rfl⟩
    -- goal = key(row.tree, place)
    refine ⟨_, rfl, rw, CW, dw, _, _, rfl, ew, TW.cl, TW.nT, rwF_t x t, _, rfl, x, p, n, ps, fs, r, rfl, TA, pl, TG, ⟨pe.p1, by have := pe.le; omega⟩, pe.lo, (PlErr.none (CNR := CNR) (COR := COR) (H := H) (E := L2.E0) pe.pl).1, (PlErr.none (CNR := CNR) (COR := COR) (H := H) (E := L2.E0) pe.pl).2, fun _ p1 H2 s2 pl1 => ?_⟩
    rw [pe.keyF] at pl1
    obtain ⟨kk, ii, pk, en⟩ := key_ple T n2 (by omega) ov
    obtain ⟨m, m0, em, _⟩ := id pk.d
    generalize hv : node fs c k i = v at *
    -- found = []
    refine ⟨Nat.zero_le _, fun D hD => ?_⟩
    have s3 := Same.new (o := .lst []) hD
    have s23 := s2.trans s3
    -- for stretch in doing(row)
    refine ⟨_, rfl, rw, x, n, ps, fs, ms, gs, rfl, R.kp (.of s23), TA.same s23, TG, MasAt.same M0 s23, okg, fun j f M hj im jo lt => absurd (few j f M hj im jo) (by omega), fun D0 us0 M f G1 s4 hD0 eD0 im pr jo len => ?_⟩
    have nD : ∀ {b : Addr}, upd H2 D (.lst []) b = none → b ≠ D := fun {b} e z => by rw [z, upd_same] at e; cases e
    have nD0 : D0 ≠ D := nD hD0
    have gD1 : G1 D = some (.lst (([] : List Addr).map V.ref)) := s4 _ _ upd_same
    have lu : us0.length = M.length := Paired.length pr
    have pl4 := (pl1.same s3).same s4
    have TA4 := TA.same (s23.trans s4)
    have ew4 := s4 _ _ (s23 _ _ ew)
    have sH2 : Same H2 G1 := s3.trans s4
    refine ⟨D0, rfl, ⟨_, SqL.of eD0⟩, for_list (K := K) (a := D0) (xs := us0.map V.ref) (fun i σ G => ∃ (v4 v5 : Option V) (ws : List Addr) (Z : List It) (st : Nat × Nat), σ = [some (.ref rw), some (.ref p), some (.ref p1), some (.ref D), v4, v5] ∧ (∀ b o, G1 b = some o → b ≠ D → G b = some o) ∧ G D = some (.lst (ws.map V.ref)) ∧ Paired (fun q (z : It) => PcsAt CPc z.1 m (keyF fs c v).2.2 G q z.2) ws Z ∧ CovS fs st (fs.length, 0) (M.drop i) ∧ RsI (fun j t => DoneI fs c st j t ∧ f' j t = v) Z ∧ ws.length ≤ i)
      ⟨none, none, [], [], (0, 0), rfl, fun b o e _ => e, gD1, .nil, jo.cov, rsI_nil fun j t ⟨d, _⟩ => by
        rcases d with ⟨a, _⟩ | ⟨_, a, _⟩
        · exact Nat.not_lt_zero _ a
        · exact Nat.lt_irrefl _ a, Nat.le_refl _⟩ (fun i σ G _ ⟨_, _, _, _, _, _, k1, _⟩ => SqL.of (k1 _ _ eD0 nD0)) ?_ ?_⟩
    · rintro i y σ G hi ⟨v4, v5, ws, Z, st, rfl, keep, gD, prZ, cv, rs, wl⟩
      obtain ⟨u, hu, rfl⟩ := map_get hi
      obtain ⟨z, hz, spz⟩ := paired_get pr hu
      have il := (List.getElem?_eq_some_iff.mp hz).1
      have zm := List.mem_of_getElem? hz
      have ed : M.drop i = z :: M.drop (i + 1) := by
        rw [List.drop_eq_getElem_cons il]
        congr 1
        exact (List.getElem?_eq_some_iff.mp hz).2
      rw [ed] at cv
      obtain ⟨e1, e2, cv⟩ := cv
      obtain ⟨hk, he⟩ := CovS.in_ jo.cov z zm
      have kpG : Kp G1 G := fun b o e nl => keep b o e (fun q => by rw [q, gD1] at e; cases e; exact nl _ rfl)
      dsimp only [gName]
      -- for piece in pieces_in(row.tree, stretch, goal)
      refine ⟨_, rfl, rw, CW, dw, _, _, rfl, kpG _ _ ew4 (fun _ z => nomatch z), TW.cl, TW.nT, rwF_t x t, _, rfl, _, rfl, x, u, p1, n, ps, fs, z, f, f', gs, c, keyF fs c v, kk, ii, m, rfl, TA4.kp kpG, TG, TL, SpAt.kp spz kpG, pl4.kp kpG, pk, by rw [en], c1, c2, em, okg, im, im', hk, e2, he, (jo.ok z zm).pw, fun l Gl wl' o sl hln el prl po => ?_⟩
      rw [en] at po
      have eg1 : st = (z.1, z.2.1) := e1.symm
      subst eg1
      obtain ⟨stN, stO⟩ := done_step T c1 hk e2 he po rs
      have nlD : l ≠ D := fun q => by rw [q, gD] at hln; cases hln
      have gDl := sl _ _ gD
      refine ⟨l, rfl, ⟨_, SqL.of el⟩, for_list (K := K) (a := l) (xs := wl'.map V.ref) (fun j σ G' => ∃ (v5 : Option V), σ = [some (.ref rw), some (.ref p), some (.ref p1), some (.ref D), some (.ref u), v5] ∧ (∀ b o, Gl b = some o → b ≠ D → G' b = some o) ∧ ((j = 0 ∧ G' = Gl) ∨ (j = 1 ∧ ∃ ws Z, G' D = some (.lst (ws.map V.ref)) ∧ Paired (fun q (z : It) => PcsAt CPc z.1 m (keyF fs c v).2.2 G' q z.2) ws Z ∧ RsI (fun j t => DoneI fs c (nx fs z.1 z.2.2) j t ∧ f' j t = v) Z ∧ ws.length ≤ i + 1)))
        ⟨v5, rfl, fun b o e _ => e, .inl ⟨rfl, rfl⟩⟩ (fun j σ G' _ ⟨_, _, k1, _⟩ => SqL.of (k1 _ _ el nlD)) ?_ ?_⟩
      · rintro j y σ G' hj ⟨w5, rfl, keep', st⟩
        obtain ⟨pc, hpc, rfl⟩ := map_get hj
        have lo := po.1
        have lw := Paired.length prl
        have jl := (List.getElem?_eq_some_iff.mp hpc).1
        have j0 : j = 0 := by omega
        subst j0
        obtain ⟨ab, hab, pab⟩ := paired_get prl hpc
        have eo : o = [ab] := by
          match o, lo, hab with
          | [w], _, hab =>
            have e : w = ab := Option.some.inj hab
            rw [e]
        have eG : G' = Gl := by
          rcases st with ⟨_, e⟩ | ⟨e, _⟩
          · exact e
          · cases e
        subst eG
        obtain ⟨a', b', ⟨dp, ep⟩, ea, eb, g1⟩ := id pab
        obtain ⟨a, b⟩ := ab
        obtain ⟨stL, stP⟩ := stO a b eo
        have prG : Paired (fun q (z : It) => PcsAt CPc z.1 m (keyF fs c v).2.2 G' q z.2) ws Z := Paired.mapP prZ fun _ _ h => h.kp (.of sl)
        have wlen : ws.length = Z.length := Paired.length prZ
        have small : (ws.map V.ref).length < PySem.sizeLine := by rw [List.length_map, PySem.sizeLine_eq]; omega
        dsimp only [gName]
        have done : (∀ Z0 a0, Z ≠ Z0 ++ [(z.1, a0, a)]) → (∃ ws' Z', (upd G' D (.lst (ws.map V.ref ++ [.ref pc]))) D = some (.lst (ws'.map V.ref)) ∧ Paired (fun q (z : It) => PcsAt CPc z.1 m (keyF fs c v).2.2 (upd G' D (.lst (ws.map V.ref ++ [.ref pc]))) q z.2) ws' Z' ∧ RsI (fun j t => DoneI fs c (nx fs z.1 z.2.2) j t ∧ f' j t = v) Z' ∧ ws'.length ≤ i + 1) := fun nz => ⟨ws ++ [pc], Z ++ [(z.1, a, b)], by rw [List.map_append]; exact upd_same, paired_snoc (Paired.mapP prG fun _ _ h => h.kp (Kp.put gDl)) (pab.kp (Kp.put gDl)), stP nz, by rw [List.length_append]; show ws.length + 1 ≤ _; omega⟩
        rcases List.eq_nil_or_concat Z with e | ⟨Z0, y, e⟩
        · subst e
          cases prZ
          refine ⟨_, rfl, _, .inl ⟨_, SqL.of gDl, rfl⟩, iteF (iteF ?_)⟩
          exact ⟨_, rfl, .inl ⟨rfl, _, SqL.of gDl⟩, _, rfl, D, _, _, rfl, rfl, gDl, small, _, rfl, fun b' o' e n => by rw [upd_ne n]; exact keep' b' o' e n, .inr ⟨rfl, done fun Z0 a0 q => by cases Z0 <;> cases q⟩⟩
        · rw [List.concat_eq_append] at e
          subst e
          obtain ⟨us1, q, rfl, pr0, sy⟩ := paired_snocQ prG
          have hat : ∀ {x : V}, atI ((us1 ++ [q]).map V.ref) (-1) = some (.ref q) := fun {_} => by rw [List.map_append]; exact at_lastQ _ _
          have hix : ixN ((us1 ++ [q]).map V.ref).length (-1) = some us1.length := by rw [List.length_map, List.length_append]; exact ix_lastQ _
          obtain ⟨k1, a1, b1⟩ := y
          obtain ⟨x1, y1, ⟨dq, eq⟩, fa1, fb1, h1⟩ := id sy
          refine ⟨_, rfl, _, .inl ⟨_, SqL.of gDl, by rw [List.map_append, isEmpty_app]⟩, iteT ⟨_, rfl, ?_⟩⟩
          refine ⟨1, rfl, D, _, _, _, rfl, rfl, SqL.of gDl, hat (x := .non), _, rfl, q, pc, _, _, rfl, ⟨dq, eq⟩, ⟨dp, ep⟩, _, rfl, ?_⟩
          by_cases cond : k1 = z.1 ∧ y1 = a'
          · obtain ⟨rfl, rfl⟩ := cond
            have ba : b1 = a := by
              have : (b1 : Int) = (a : Int) := by rw [ea]; exact fb1
              omega
            subst ba
            rw [decide_eq_true (⟨rfl, rfl⟩ : ((z.1 : Nat) : Int) = ((z.1 : Nat) : Int) ∧ y1 = y1)]
            have hput : (us1 ++ [q]).map V.ref = us1.map V.ref ++ [.ref q] := List.map_append
            refine iteT ⟨_, rfl, pc, CPc, dp, _, _, rfl, ep, TPc.cl, TPc.nR, pcF_r _, _, rfl, 1, rfl, D, _, _, _, rfl, rfl, SqL.of gDl, hat (x := .non), q, CPc, dq, _, _, rfl, eq, TPc.cl, TPc.nL, pcF_l _, _, rfl, pc, CPc, dp, _, _, rfl, ep, TPc.cl, TPc.nG, pcF_g _, _, rfl, pc, CPc, dp, _, _, rfl, ep, TPc.cl, TPc.nP, pcF_p _, fun pS dS nS ndS neS => ⟨pS, dS, (((z.1 : Nat) : Int), x1, b', (keyF fs c v).2.2), rfl, upd_same, fun G2 PS keep2 => ⟨rfl, ?_⟩⟩⟩
            have s12 := made_same nS ndS keep2
            have g2 := s12 _ _ gDl
            refine ⟨_, rfl, 1, rfl, D, _, _, _, rfl, rfl, g2, hix, ?_⟩
            refine ⟨_, rfl, fun b2 o2 e n => by rw [upd_ne n]; exact s12 _ _ (keep' b2 o2 e n), .inr ⟨rfl, us1 ++ [pS], Z0 ++ [(z.1, a1, b)], by simp [upd_same], paired_snoc (Paired.mapP pr0 fun _ _ h => (h.kp (.of s12)).kp (Kp.put g2)) ⟨x1, b', PS.kp (Kp.put g2), fa1, eb, h1⟩, stL Z0 a1 rfl, ?_⟩⟩
            rw [List.length_append] at wl ⊢
            exact Nat.le_succ_of_le wl
          · rw [decide_eq_false (fun w => cond ⟨by have := w.1; omega, w.2⟩)]
            refine iteF ⟨_, rfl, .inl ⟨rfl, _, SqL.of gDl⟩, _, rfl, D, _, _, rfl, rfl, gDl, small, _, rfl, fun b' o' e n => by rw [upd_ne n]; exact keep' b' o' e n, .inr ⟨rfl, done fun Z1 a0 w => ?_⟩⟩
            have w2 := (List.append_inj' w rfl).2
            have w3 := (List.cons.inj w2).1
            have w4 := Prod.mk.inj w3
            have w5 := Prod.mk.inj w4.2
            have f2 : (b1 : Int) = y1 * m := fb1
            have f3 : (a : Int) = a' * m := ea
            have hb : b1 = a := w5.2
            have this : y1 * m = a' * m := by rw [← f2, ← f3, hb]
            exact cond ⟨w4.1, Int.eq_of_mul_eq_mul_right (by omega) this⟩
      · rintro σ G' ⟨w5, rfl, keep', st⟩
        have lw := Paired.length prl
        have lo := po.1
        rcases st with ⟨e, rfl⟩ | ⟨e, ws', Z', h1, h2, h3, h4⟩
        · rw [List.length_map] at e
          have o0 : o = [] := List.eq_nil_of_length_eq_zero (by omega)
          exact ⟨_, _, ws, Z, _, rfl, fun b o e n => sl _ _ (keep b o e n), gDl, Paired.mapP prZ fun _ _ h => h.kp (.of sl), cv, stN o0, by omega⟩
        · exact ⟨_, _, ws', Z', _, rfl, fun b o e n => keep' b o (sl _ _ (keep b o e n)) n, h1, h2, cv, h3, h4⟩
    · rintro σ G ⟨v4, v5, ws, Z, st, rfl, keep, gD, prZ, cv, rs, wl⟩
      rw [List.length_map, lu, List.drop_length] at cv
      cases (show st = (fs.length, 0) from cv)
      rw [List.length_map, lu] at wl
      refine ⟨_, rfl, kont D ws Z m G (fun b o e => keep b o (sH2 b o (s2 b o e)) (ne_of_none (s2 b o e) hD)) (Same.free s2 hD) gD m0 em prZ (rs.congr fun j t => ?_) (by omega)⟩
      have d : DoneI fs c (fs.length, 0) j t ↔ (j < fs.length ∧ (t : Int) ≤ sz fs c j) := ⟨fun h => h.elim id fun ⟨_, a, _⟩ => absurd a (Nat.lt_irrefl _), .inl⟩
      rw [d]
end
end OT
set_option Elab.async false
set_option linter.all false
set_option maxRecDepth 100000
set_option maxHeartbeats 2000000
set_option Elab.async false
set_option linter.all false
set_option maxRecDepth 100000
set_option maxHeartbeats 2000000
set_option Elab.async false
set_option linter.all false
set_option maxRecDepth 100000
set_option maxHeartbeats 4000000
namespace OT
open PySem L2 OTR
abbrev sAfter : Stmt := top 39
def spAfter (K : PySem.W.Frag) (CT CR CM CP CW CB CNR COR : Addr) : Sp := fun vs H Q E => ∃ (rw p a : Addr) (c n S i : Int) (k : Nat) (ps : List Addr) (F : List Fact) (ms : List Addr) (xs : List MG) (r : Fact), vs = [.ref rw, .ref p, .int c] ∧ RowAt K CW H rw a ms ∧ TreeAt K CT CR H a n ps F ∧ TreeG n F ∧
  MasAt CM CP H ms (xs.map mf) ∧ (∀ x ∈ xs, MgOk F x) ∧ xs.length ≤ 1000 ∧ PlaceAt CP H p r ∧ PlSm r ∧ low r = r ∧ PlErr CNR COR F r H E ∧ (PlOn F r → ¬ (0 ≤ c ∧ c ≤ 1000) → Raised CB [("count", .int c), ("what", .str "rounds")] H E) ∧ (PlOn F r → PlE F S r k i ∧ 1 ≤ S ∧ S ≤ 1000) ∧
  (PlOn F r → 0 ≤ c → c ≤ 1000 → ∀ p' H' v, Same H H' → GoR F S xs c.toNat (node F S k i) v → PlaceAt CP H' p' (keyF F S v) → Q (.ref p') H')
section
variable {P : Program} {w : World} {K : PySem.W.Frag} {mg : Str → Option Value} {base : Heap}
abbrev nAfter : List Str := ["row", "place", "rounds", "there", "_", "march"]
theorem scAfter : FnScope nAfter ["row", "place", "rounds"] (defScope sAfter) := ⟨rfl, rfl, rfl, by decide +kernel, rfl, by decide +kernel, by decide +kernel⟩
theorem ok_after {f CT CR CM CP CW CB CNR COR fK fS fB : Addr} {fd fdK fdS fdB : FuncData} (F : Fun K "after" "after" sAfter f fd) (TRw : RwT K mg CW) (TM : MaT K mg CM) (TB : ErT K mg "BadCount" CB fB)
    (FB : FnOk P w K mg base CX0 1 fB fdB ["self", "what", "count"] (spEr2 CB "what" "count")) (bB : Binds K fdB ["self", "what", "count"] [])
    (FK : FnOk P w K mg base (L2.CX P w) 6 fK fdK ["tree", "place"] (spKey K CT CR CP CNR COR)) (bK : Binds K fdK ["tree", "place"] []) (mK : mg "key" = some (.ref fK)) (kK : PySem.W.keepIn K (.ref fK) = true)
    (FS : FnOk P w K mg base (L2.CX P w) 7 fS fdS ["tree", "place", "goal", "steps"] (spStep K CT CR CP CB CNR COR)) (bS : Binds K fdS ["tree", "place", "goal", "steps"] []) (mS : mg "step" = some (.ref fS)) (kS : PySem.W.keepIn K (.ref fS) = true)
    (hMost : ∃ t, mg "MOST_ROUNDS" = some (.int 1000 t)) (hRg : mg "range" = none) :
    FnOk P w K mg base (L2.CX P w) 8 f fd ["row", "place", "rounds"] (spAfter K CT CR CM CP CW CB CNR COR) := by
  refine F.okX scAfter (fun vs H Q E h => ?_) (fun cdv A outer s H vs Q E hr h => ?_)
  · obtain ⟨rw, p, a, c, n, S, i, k, ps, F, ms, xs, r, rfl, _⟩ := h
    rfl
  · obtain ⟨rw, p, a, c, n, S, i, k, ps, F, ms, xs, r, rfl, ⟨dw, t, ew, et⟩, TA, G, hM, ok, lx, pl, sm, lo, x1, x2, x3, kont⟩ := h
    obtain ⟨tm, hMost⟩ := hMost
    have hr2 : Room 2 _ := hr.mono (by decide)
    have hr6 : Room 6 _ := hr.mono (by decide)
    refine ⟨_, pss_cons (ps_set (i := 3) scAfter.nd rfl (Or.inl rfl) (pe_call FK hr6 rfl mK kK bK .nil (passes_call (takes_of rfl rfl rfl rfl) fun _ _ _ _ h => h) (pa_cons (pe_fld (pv 0) rfl) (pa_cons (pv 1) pa_nil))))
      (pss_cons (ps_if (pt_not (pt_chain op_le op_le pe_int (pv 2) (pe_glob (v := V.int 1000) rfl hMost ⟨tm, rfl⟩)))
          (pss_one (ps_raise rfl (takes_of rfl rfl rfl rfl) (pmk_oex TB.ox TB.iC TB.tI FB hr2 bB .nil pass0 (by rfl) TB.gC (pa_cons pe_str (pa_cons (pv 2) pa_nil))))) pss_nil)
      (pss_cons (ps_for (passes_of rfl) rfl (pi_range1 (by rfl) hRg (pa_cons (pv 2) pa_nil)) (pg_name (i := 4) scAfter.nd rfl (Or.inl rfl))
        (pss_one (ps_for (passes_of rfl) rfl (pi_tup (pe_fld (pv 0) rfl)) (pg_name (i := 5) scAfter.nd rfl (Or.inl rfl))
          (pss_one (ps_set (i := 3) scAfter.nd rfl (Or.inl rfl) (pe_call FS hr rfl mS kS bS .nil passF (pa_cons (pe_fld (pv 0) rfl) (pa_cons (pv 3) (pa_cons (pe_fld (pv 5) rfl) (pa_cons (pe_fld (pv 5) rfl) pa_nil))))))))))
      (pss_one (ps_ret (pv 3))))), ?_⟩
    have lenE : (ms.map V.ref).length = xs.length := by rw [List.length_map, Paired.length hM, List.length_map]
    -- there = key(row.tree, place)
    refine ⟨_, rfl, rw, CW, dw, _, _, rfl, ew, TRw.cl, TRw.nT, rwF_t a t, _, rfl, a, p, n, ps, F, r, rfl, TA, pl, G, sm, lo, x1.1, x1.2, fun on p1 H1 s1 pl1 => ?_⟩
    obtain ⟨pe, S1, S2⟩ := x3 on
    rw [pe.keyF] at pl1
    have x2 := x2 on
    have kont := kont on
    have oU : OnT F S (node F S k i) := ⟨k, i, pe.on, rfl⟩
    refine ⟨_, rfl, _, _, rfl, rfl, _, rfl, ?_⟩
    by_cases h0 : 0 ≤ c
    · rw [decide_eq_true h0]
      refine iteT ⟨_, _, rfl, rfl, _, rfl, ?_⟩
      by_cases h1 : c ≤ 1000
      · rw [decide_eq_true h1]
        refine iteF ?_
        refine ⟨_, rfl, c, rfl, by omega, by omega, for_range (lo := 0) (n := c.toNat) (fun j σ G2 => ∃ (p2 : Addr) (u : Nd) (v4 v5 : Option V), σ = [some (.ref rw), some (.ref p), some (.int c), some (.ref p2), v4, v5] ∧ Same H G2 ∧ GoR F S xs j (node F S k i) u ∧ PlaceAt CP G2 p2 (keyF F S u))
          ⟨p1, _, none, none, rfl, s1, rfl, pl1⟩ ?_ ?_⟩
        · rintro j σ G2 hj ⟨p2, u, v4, v5, rfl, s2, gr, pl2⟩
          have ou := GoR.on G.m S1 ok oU gr
          refine ⟨_, rfl, rw, CW, dw, _, _, rfl, s2 _ _ ew, TRw.cl, TRw.nM, rwF_m a t, t, rfl, ⟨_, sqT_same et s2⟩, for_tup (K := K) (a := t) (xs := ms.map V.ref) (fun b σ G3 => ∃ (p3 : Addr) (u' : Nd) (v5 : Option V), σ = [some (.ref rw), some (.ref p), some (.int c), some (.ref p3), some (.int (0 + (j : Nat))), v5] ∧ Same H G3 ∧ GoL F S (xs.take b) u u' ∧ PlaceAt CP G3 p3 (keyF F S u'))
            ⟨p2, u, v5, rfl, s2, rfl, pl2⟩ (fun b σ G3 _ ⟨_, _, _, _, s3, _⟩ => sqT_same et s3) ?_ ?_⟩
          · rintro b y σ G3 hb ⟨p3, u', v5, rfl, s3, gl, pl3⟩
            obtain ⟨q, hq, rfl⟩ := map_get hb
            obtain ⟨m, hm, g, ⟨dm, em⟩, gp⟩ := paired_get hM hq
            obtain ⟨x, hx, rfl⟩ := map_get hm
            have mx := ok x (List.mem_of_getElem? hx)
            have okT : ∀ y ∈ xs.take b, MgOk F y := fun y hy => ok y (List.mem_of_mem_take hy)
            have ou' := GoL.on G.m S1 okT ou gl
            obtain ⟨kk, ii, pk, en⟩ := key_ple G.m G.n2 S1 ou'
            rw [low_mf] at gp
            have pg : PlE F S (((x.1 : Nat) : Int), x.2.1, 1) x.1 (x.2.1 * S) := by
              have z := mkPlE (F := F) (s := 1) (c := S) (k := x.1) (i := x.2.1) (Int.le_refl 1) S1 ⟨mx.rd, mx.lo, by unfold sz; rw [Int.mul_one]; exact mx.hi⟩
              rw [low_one, Int.one_mul] at z
              exact z
            have l1 := pk.le
            have l2 := pk.p1
            refine ⟨_, rfl, rw, CW, dw, _, _, rfl, s3 _ _ ew, TRw.cl, TRw.nT, rwF_t a t, _, rfl, _, rfl, q, CM, dm, _, _, rfl, s3 _ _ em, TM.cl, TM.nG, maF_g g _, _, rfl, q, CM, dm, _, _, rfl, s3 _ _ em, TM.cl, TM.nS, maF_s g _, ?_⟩
            refine ⟨a, p3, g, n, ps, F, keyF F S u', (((x.1 : Nat) : Int), x.2.1, 1), x.2.2, rfl, TA.same s3, pl3, gp.same s3, G, ⟨l2, by omega⟩, ⟨by show (1 : Int) ≤ 1; omega, by show (1 : Int) < 2 ^ 60; omega⟩, low_one _ _, by show _ * (1 : Int) < _; omega, PlErr.none pk.pl, fun _ => PlErr.none pg.pl, fun _ _ z => absurd z (by have := mx.s1; omega), fun _ _ _ p4 G4 s4 pl4 => ?_⟩
            rw [step_eq G.m pk pg S1] at pl4
            refine ⟨p4, _, _, rfl, s3.trans s4, ?_, pl4⟩
            rw [take_get hx]
            exact gl.snoc ⟨kk, ii, pk.on, en.symm, rfl⟩
          · rintro σ G3 ⟨p3, u', v5, rfl, s3, gl, pl3⟩
            rw [lenE, List.take_length] at gl
            exact ⟨p3, u', _, _, rfl, s3, ⟨u, gr, gl⟩, pl3⟩
        · rintro σ G2 ⟨p2, u, v4, v5, rfl, s2, gr, pl2⟩
          exact ⟨_, rfl, kont h0 h1 p2 G2 u s2 gr pl2⟩
      · rw [decide_eq_false h1]
        exact iteT ⟨_, rfl, len2, fun b hb => er2 hb ((x2 fun z => h1 z.2).mono s1)⟩
    · rw [decide_eq_false h0]
      exact iteF ⟨_, rfl, iteT ⟨_, rfl, len2, fun b hb => er2 hb ((x2 fun z => h0 z.1).mono s1)⟩⟩
end
end OT
set_option Elab.async false
set_option linter.all false
set_option maxRecDepth 100000
set_option maxHeartbeats 4000000
namespace OT
open PySem L2 OTR
def wkF (r n s l : Addr) : List (Str × V) := [("repeated", .ref r), ("now", .ref n), ("soon", .ref s), ("later", .ref l)]
/-- all is kept but what stands at a -/
def Ko (a : Addr) (H H' : Hp) : Prop := ∀ b o, H b = some o → b ≠ a → H' b = some o
theorem Ko.trans {a : Addr} {H H1 H2 : Hp} (h : Ko a H H1) (k : Ko a H1 H2) : Ko a H H2 := fun b o e n => k b o (h b o e n) n
theorem Ko.of {a : Addr} {H H' : Hp} (s : Same H H') : Ko a H H' := fun b o e _ => s b o e
theorem Ko.put {a : Addr} {H : Hp} {o : HO} : Ko a H (upd H a o) := fun b o' e n => by rw [upd_ne n]; exact e
theorem Ko.base {a : Addr} {B H H' : Hp} (s : Same B H) (n : B a = none) (k : Ko a H H') : Same B H' := fun b o e => k b o (s b o e) (ne_of_none e n)
/-- at a a walk: where it is now, soon and later -/
structure WkAt (C CP : Addr) (H : Hp) (a rw : Addr) (F : List Fact) (S : Int) (u0 u1 u2 : Nd) : Prop where
  at_ : ∃ dx n s l, H a = some (.ins C dx (wkF rw n s l)) ∧ PlaceAt CP H n (keyF F S u0) ∧ PlaceAt CP H s (keyF F S u1) ∧ PlaceAt CP H l (keyF F S u2)
theorem WkAt.same {C CP : Addr} {H H' : Hp} {a rw : Addr} {F : List Fact} {S : Int} {u0 u1 u2 : Nd} (h : WkAt C CP H a rw F S u0 u1 u2) (s : Same H H') : WkAt C CP H' a rw F S u0 u1 u2 := let ⟨dx, n, so, l, e, p1, p2, p3⟩ := h.at_; ⟨dx, n, so, l, s _ _ e, p1.same s, p2.same s, p3.same s⟩
end OT
set_option Elab.async false
set_option linter.all false
set_option maxRecDepth 100000
set_option maxHeartbeats 4000000
set_option Elab.async false
set_option linter.all false
set_option maxRecDepth 100000
set_option maxHeartbeats 4000000
namespace OT
open PySem L2 OTR
/-- at t a list of tuples: the positions that one passes, to the end of the first to and fro -/
def OrbAt (H : Hp) (l : Addr) (F : List Fact) (S : Int) (u : Nat → Nd) (T : Nat) : Prop := ∃ ts : List Addr, H l = some (.lst (ts.map V.ref)) ∧ ts.length = T + 3 ∧ ∀ j, j < T + 3 → ∃ t, ts[j]? = some t ∧ PrAt H t (nqk (lng S F) 1 (u j))
theorem OrbAt.same {H H' : Hp} {l : Addr} {F : List Fact} {S : Int} {u : Nat → Nd} {T : Nat} (h : OrbAt H l F S u T) (s : Same H H') : OrbAt H' l F S u T := let ⟨ts, e, n, k⟩ := h; ⟨ts, s _ _ e, n, fun j hj => let ⟨t, a, b⟩ := k j hj; ⟨t, a, b.same s⟩⟩
/-- a grid's scale alone -/
def ScAt (H : Hp) (g : Addr) (S : Int) : Prop := ∃ pa d : Addr, H g = some (.dK [((Sum.inr "paths" : Key), .ref pa), (Sum.inr "neighbors", .ref d), (Sum.inr "scale", .int S)])
theorem ScAt.same {H H' : Hp} {g : Addr} {S : Int} (h : ScAt H g S) (s : Same H H') : ScAt H' g S := let ⟨pa, d, e⟩ := h; ⟨pa, d, s _ _ e⟩
theorem ScAt.kp {H H' : Hp} {g : Addr} {S : Int} (h : ScAt H g S) (k : Kp H H') : ScAt H' g S := let ⟨pa, d, e⟩ := h; ⟨pa, d, k _ _ e fun _ z => nomatch z⟩
end OT
set_option Elab.async false
set_option linter.all false
set_option maxRecDepth 100000
set_option maxHeartbeats 4000000
namespace OT
theorem treeM_lng {n : Int} {F : List Fact} (T : TreeM n F) {o : Int} (h : 1 ≤ o) : TreeM n (lng o F) := by
  refine ⟨fun r hr => ?_, noRing_lng T.nr, fun x y hx hy => con_lng.mpr (T.con x y hx hy)⟩
  obtain ⟨r0, h0, rfl⟩ := List.mem_map.mp hr
  obtain ⟨a, b, c⟩ := T.ok r0 h0
  refine ⟨a, b, ?_⟩
  have := Int.mul_le_mul c h (by omega) (by omega)
  rw [Int.one_mul] at this
  exact this
theorem go_lngI {F : List Fact} {S l : Int} {g : Nat} {p m : Int} {u v : Nd} : Go (lng S F) l g p m u v ↔ Go F (l * S) g p m u v := by
  have e : ∀ k i t, pth (lng S F) l g p k i t = pth F (l * S) g p k i t := fun k i t => by
    unfold pth
    rw [legsP_lng, node_lng]
  unfold Go
  constructor
  · rintro ⟨k, i, o, a, b⟩
    exact ⟨k, i, on_lng.mp o, by rw [a, node_lng], by rw [b, e, hP_lng]⟩
  · rintro ⟨k, i, o, a, b⟩
    exact ⟨k, i, on_lng.mpr o, by rw [a, node_lng], by rw [b, e, hP_lng]⟩
theorem goL_lngI {F : List Fact} {S l : Int} : ∀ {gs : List MG} {u v : Nd}, GoL (lng S F) l (finM S gs) u v ↔ GoL F (l * S) gs u v
  | [], _, _ => Iff.rfl
  | x :: gs, u, v => by
    have e1 : x.2.1 * S * l = x.2.1 * (l * S) := by rw [Int.mul_assoc, Int.mul_comm S l]
    have e2 : x.2.2 * S * l = x.2.2 * (l * S) := by rw [Int.mul_assoc, Int.mul_comm S l]
    have h1 : ∀ w, GoX (lng S F) l (x.1, x.2.1 * S, x.2.2 * S) u w ↔ GoX F (l * S) x u w := fun w => by
      unfold GoX
      dsimp only
      rw [e1, e2]
      exact go_lngI
    constructor
    · rintro ⟨w, a, b⟩
      exact ⟨w, (h1 w).mp a, goL_lngI.mp b⟩
    · rintro ⟨w, a, b⟩
      exact ⟨w, (h1 w).mpr a, goL_lngI.mpr b⟩
/-- the runs of what a row leads to v, at shares of S -/
def RunsAt (F : List Fact) (gs : List MG) (S : Int) (v : Nd) (Z : List It) : Prop := RsI (fun j t => (j < F.length ∧ (t : Int) ≤ sz F S j) ∧ GoL F S gs (node F S j ((t : Nat) : Int)) v) Z
section
variable {n : Int} {F : List Fact} {S : Int} (T : TreeM n F) (hS : 1 ≤ S)
include T hS
/-- strictly within a unit of a way there is no whole place -/
theorem seg_mid {y : Int → Nd} (h : Seg F S y) {x : Int} (x0 : 0 < x) (xS : x < S) (v : Nd) : y x ≠ scN S v := by
  obtain ⟨k, j, t, ht, o1, o2, e⟩ := h
  intro q
  rw [e x (by omega) (by omega)] at q
  have a1 := o1.2.1
  have a2 := o1.2.2
  have b1 := o2.2.1
  have b2 := o2.2.2
  have mid : node F S k (j * S + t * x) = .mid k (j * S + t * x) := by
    unfold node
    rcases ht with rfl | rfl
    · rw [Int.one_mul] at b1 b2 ⊢
      rw [if_neg (by omega), if_neg (by omega)]
    · rw [Int.neg_mul, Int.one_mul] at b1 b2 ⊢
      rw [if_neg (by omega), if_neg (by omega)]
  rw [mid] at q
  cases v with
  | cr c =>
    have q' : Nd.mid k (j * S + t * x) = Nd.cr c := q
    cases q'
  | mid k' i' =>
    have q' : Nd.mid k (j * S + t * x) = Nd.mid k' (i' * S) := q
    injection q' with _ q2
    have md : ∀ z : Int, z * S = x → False := fun z hz => by
      have h1 := Int.mul_emod_left z S
      rw [hz, Int.emod_eq_of_lt (by omega) xS] at h1
      omega
    rcases ht with rfl | rfl
    · rw [Int.one_mul] at q2
      exact md (i' - j) (by rw [Int.sub_mul]; omega)
    · rw [Int.neg_mul, Int.one_mul] at q2
      exact md (j - i') (by rw [Int.sub_mul]; omega)
/-- the ends of a unit of a way are two -/
theorem seg_two {y : Int → Nd} (h : Seg F S y) {v : Nd} (e0 : y 0 = scN S v) (eS : y S = scN S v) : S = 1 ∨ False := by
  by_cases q : S = 1
  · exact .inl q
  · have e := seg_uniq T hS (.inl h) (.inr ⟨scN S v, fun _ _ _ => rfl⟩) (y2 := fun _ => scN S v) e0 eS 1 (by decide) hS
    exact absurd e (seg_mid T hS h (x := 1) (by decide) (by omega) v)
end
theorem gap_mul {l : Nat} (l1 : 1 ≤ l) {a b : Nat} (h : a + 1 < b) : a * l + 1 < b * l := by
  have := Nat.mul_le_mul_right l (show a + 2 ≤ b from h)
  rw [Nat.add_mul] at this
  omega
/-- runs of whole places, told in shares -/
theorem runs_up1 {n : Int} {F : List Fact} (T : TreeM n F) {gs : List MG} (ok : ∀ x ∈ gs, MgOk F x) {l : Nat} (l1 : 1 ≤ l) {v : Nd} {Z : List It} (h : RunsAt F gs 1 v Z) : RunsAt F gs l (scN l v) (Z.map fun z => (z.1, z.2.1 * l, z.2.2 * l)) := by
  have hS : (1 : Int) ≤ (l : Int) := by omega
  refine ⟨fun z hz => ?_, ?_, fun k t => ?_⟩
  · obtain ⟨z0, h0, rfl⟩ := List.mem_map.mp hz
    exact Nat.mul_le_mul_right l (h.le z0 h0)
  · refine List.pairwise_map.mpr (h.gap.imp fun {p q} g => ?_)
    rcases g with g | ⟨g1, g2⟩
    · exact .inl g
    · exact .inr ⟨g1, gap_mul l1 g2⟩
  · have esz : sz F (l : Int) k = sz F 1 k * (l : Int) := esz_one T hS k
    obtain ⟨j, x, xl, rfl⟩ : ∃ j x : Nat, x < l ∧ t = j * l + x := ⟨t / l, t % l, Nat.mod_lt _ (by omega), by
      have := Nat.div_add_mod t l
      rw [Nat.mul_comm] at this
      omega⟩
    have run : ∀ {j : Nat}, (∃ z ∈ Z, z.1 = k ∧ z.2.1 ≤ j ∧ j ≤ z.2.2) ↔ (k < F.length ∧ (j : Int) ≤ sz F 1 k) ∧ GoL F 1 gs (node F 1 k ((j : Nat) : Int)) v := fun {j} => (h.iff k j).symm
    have en0 : node F (l : Int) k (((j * l : Nat) : Nat) : Int) = scN l (node F 1 k ((j : Nat) : Int)) := by
      rw [show ((j * l : Nat) : Int) = (j : Int) * (l : Int) by push_cast; rfl]
      exact node_one (by omega) F k _
    have whole : ∀ {j : Nat}, k < F.length → (j : Int) ≤ sz F 1 k → (GoL F l gs (scN l (node F 1 k ((j : Nat) : Int))) (scN l v) ↔ GoL F 1 gs (node F 1 k ((j : Nat) : Int)) v) := fun {j} hk hj => by
      constructor
      · intro g
        have oj : OnT F 1 (node F 1 k ((j : Nat) : Int)) := ⟨k, _, ⟨hk, Int.natCast_nonneg _, hj⟩, rfl⟩
        obtain ⟨w, hw⟩ := goL_exF T (S := 1) (by decide) ok oj
        have e := GoL.uniq T hS ok (goL_sc hS hw) g
        rw [← scN_inj (by omega) e]
        exact hw
      · exact goL_sc hS
    have back_ : (∃ z ∈ Z.map (fun z : It => ((z.1, z.2.1 * l, z.2.2 * l) : It)), z.1 = k ∧ z.2.1 ≤ j * l + x ∧ j * l + x ≤ z.2.2) ↔ ∃ z ∈ Z, z.1 = k ∧ z.2.1 * l ≤ j * l + x ∧ j * l + x ≤ z.2.2 * l := by
      constructor
      · rintro ⟨z, hz, a, b, c⟩
        obtain ⟨z0, h0, rfl⟩ := List.mem_map.mp hz
        exact ⟨z0, h0, a, b, c⟩
      · rintro ⟨z, hz, a, b, c⟩
        exact ⟨_, List.mem_map.mpr ⟨z, hz, rfl⟩, a, b, c⟩
    rw [back_]
    by_cases x0 : x = 0
    · subst x0
      rw [Nat.add_zero, en0]
      have cast_ : ((j * l : Nat) : Int) ≤ sz F (l : Int) k ↔ (j : Int) ≤ sz F 1 k := by
        rw [esz, show ((j * l : Nat) : Int) = (j : Int) * (l : Int) by push_cast; rfl]
        exact ⟨fun q => Int.le_of_mul_le_mul_right q (by omega), fun q => Int.mul_le_mul_of_nonneg_right q (by omega)⟩
      rw [cast_]
      constructor
      · rintro ⟨⟨hk, hj⟩, g⟩
        obtain ⟨z, hz, a, b, c⟩ := run.mpr ⟨⟨hk, hj⟩, (whole hk hj).mp g⟩
        exact ⟨z, hz, a, Nat.mul_le_mul_right l b, Nat.mul_le_mul_right l c⟩
      · rintro ⟨z, hz, a, b, c⟩
        obtain ⟨⟨hk, hj⟩, g⟩ := run.mp ⟨z, hz, a, Nat.le_of_mul_le_mul_right b (by omega), Nat.le_of_mul_le_mul_right c (by omega)⟩
        exact ⟨⟨hk, hj⟩, (whole hk hj).mpr g⟩
    · have cast_ : ((j * l + x : Nat) : Int) ≤ sz F (l : Int) k ↔ ((j + 1 : Nat) : Int) ≤ sz F 1 k := by
        rw [esz]
        constructor
        · intro q
          have : (j : Int) * (l : Int) < sz F 1 k * (l : Int) := by push_cast at q; omega
          have := Int.lt_of_mul_lt_mul_right this (by omega)
          omega
        · intro q
          have := Int.mul_le_mul_of_nonneg_right q (show (0 : Int) ≤ (l : Int) by omega)
          rw [Int.natCast_succ, Int.add_mul, Int.one_mul] at this
          push_cast
          omega
      rw [cast_]
      have e1 : ((j * l + x : Nat) : Int) = (j : Int) * (l : Int) + (x : Int) := by push_cast; rfl
      rw [e1]
      have unit_ : ∀ (hk : k < F.length) (hj : ((j + 1 : Nat) : Int) ≤ sz F 1 k), ∃ (a b : Nd) (y : Int → Nd), GoL F 1 gs (node F 1 k ((j : Nat) : Int)) a ∧ GoL F 1 gs (node F 1 k ((j + 1 : Nat) : Int)) b ∧ (Seg F l y ∨ Pnt l y) ∧ y 0 = scN l a ∧ y l = scN l b ∧ GoL F l gs (node F l k ((j : Int) * l + x)) (y x) := fun hk hj => by
        obtain ⟨a, ha⟩ := goL_exF T (S := 1) (by decide) ok (u := node F 1 k ((j : Nat) : Int)) ⟨k, _, ⟨hk, Int.natCast_nonneg _, by omega⟩, rfl⟩
        obtain ⟨b, hb⟩ := goL_exF T (S := 1) (by decide) ok (u := node F 1 k ((j + 1 : Nat) : Int)) ⟨k, _, ⟨hk, Int.natCast_nonneg _, hj⟩, rfl⟩
        have hb' : GoL F 1 gs (node F 1 k ((j : Int) + 1)) b := by
          rw [Int.natCast_succ] at hb
          exact hb
        obtain ⟨y, s, y0, yl, go⟩ := unit_img T hS ok hk (Int.natCast_nonneg j) (by omega) ha hb'
        exact ⟨a, b, y, ha, hb, s, y0, yl, go x (by omega) (by omega)⟩
      constructor
      · rintro ⟨⟨hk, hj⟩, g⟩
        obtain ⟨a, b, y, ha, hb, s, y0, yl, go⟩ := unit_ hk hj
        have ev := GoL.uniq T hS ok go g
        rcases s with s | ⟨w, hw⟩
        · exact absurd ev (seg_mid T hS s (by omega) (by omega) v)
        · have ea : a = v := scN_inj (show (0 : Int) < (l : Int) by omega) (by rw [← y0, hw 0 (Int.le_refl _) (by omega), ← hw x (by omega) (by omega), ev])
          have eb : b = v := scN_inj (show (0 : Int) < (l : Int) by omega) (by rw [← yl, hw l (by omega) (Int.le_refl _), ← hw x (by omega) (by omega), ev])
          subst ea
          rw [eb] at hb
          obtain ⟨z, hz, q1, q2, q3⟩ := run.mpr ⟨⟨hk, by omega⟩, ha⟩
          obtain ⟨z', hz', r1, r2, r3⟩ := run.mpr ⟨⟨hk, hj⟩, hb⟩
          have zz : j + 1 ≤ z.2.2 := by
            apply Classical.byContradiction
            intro q
            -- then z and z' are two, with no place between
            have no : z ≠ z' := fun q' => by subst q'; omega
            have : Gap z z' ∨ Gap z' z := by
              rcases List.mem_iff_getElem.mp hz with ⟨i1, l1', g1⟩
              rcases List.mem_iff_getElem.mp hz' with ⟨i2, l2', g2⟩
              have pw := List.pairwise_iff_getElem.mp h.gap
              rcases Nat.lt_trichotomy i1 i2 with c | c | c
              · left
                rw [← g1, ← g2]
                exact pw i1 i2 l1' l2' c
              · subst c
                exact absurd (g1.symm.trans g2) no
              · right
                rw [← g1, ← g2]
                exact pw i2 i1 l2' l1' c
            unfold Gap at this
            have := h.le z hz
            have := h.le z' hz'
            omega
          refine ⟨z, hz, q1, Nat.le_trans (Nat.mul_le_mul_right l q2) (Nat.le_add_right _ _), ?_⟩
          have := Nat.mul_le_mul_right l zz
          rw [Nat.add_mul, Nat.one_mul] at this
          omega
      · rintro ⟨z, hz, q1, q2, q3⟩
        have j2 : j + 1 ≤ z.2.2 := by
          apply Classical.byContradiction
          intro q
          have := Nat.mul_le_mul_right l (show z.2.2 ≤ j by omega)
          omega
        have j1 : z.2.1 ≤ j := by
          apply Classical.byContradiction
          intro q
          have := Nat.mul_le_mul_right l (show j + 1 ≤ z.2.1 by omega)
          rw [Nat.add_mul, Nat.one_mul] at this
          omega
        obtain ⟨⟨hk, _⟩, ga⟩ := run.mp ⟨z, hz, q1, j1, by omega⟩
        obtain ⟨⟨_, hj⟩, gb⟩ := run.mp ⟨z, hz, q1, Nat.le_succ_of_le j1, j2⟩
        refine ⟨⟨hk, hj⟩, ?_⟩
        obtain ⟨a, b, y, ha, hb, s, y0, yl, go⟩ := unit_ hk hj
        have ea := GoL.uniq T (by decide) ok ga ha
        have eb := GoL.uniq T (by decide) ok gb hb
        subst ea
        subst eb
        rcases s with s | ⟨w, hw⟩
        · rcases seg_two T hS s y0 yl with q | q
          · omega
          · exact q.elim
        · rw [hw x (by omega) (by omega), ← hw 0 (Int.le_refl _) (by omega), y0] at go
          exact go
/-- runs in shares of S, told in shares of l * S -/
theorem runs_up {n : Int} {F : List Fact} (T : TreeM n F) {S : Int} (hS : 1 ≤ S) {gs : List MG} (okL : ∀ x ∈ finM S gs, MgOk (lng S F) x) {l : Nat} (l1 : 1 ≤ l) {v : Nd} {Z : List It} (h : RunsAt F gs S v Z) : RunsAt F gs (l * S) (scN l v) (Z.map fun z => (z.1, z.2.1 * l, z.2.2 * l)) := by
  have g : ∀ {q : Int} {v : Nd} {Z : List It}, RunsAt (lng S F) (finM S gs) q v Z ↔ RunsAt F gs (q * S) v Z := fun {q v Z} => by
    have e : ∀ k t, (((k < (lng S F).length ∧ ((t : Nat) : Int) ≤ sz (lng S F) q k) ∧ GoL (lng S F) q (finM S gs) (node (lng S F) q k ((t : Nat) : Int)) v) ↔ ((k < F.length ∧ ((t : Nat) : Int) ≤ sz F (q * S) k) ∧ GoL F (q * S) gs (node F (q * S) k ((t : Nat) : Int)) v)) := fun k t => by
      rw [lng_len, sz_lng, node_lng, goL_lngI]
    exact ⟨fun r => RsI.congr r e, fun r => RsI.congr r fun k t => (e k t).symm⟩
  refine g.mp (runs_up1 (treeM_lng T hS) okL l1 (g.mpr ?_))
  rw [Int.one_mul]
  exact h
end OT
set_option Elab.async false
set_option linter.all false
set_option maxRecDepth 100000
set_option maxHeartbeats 4000000
namespace OT
open PySem L2 OTR
abbrev sSamples : Stmt := top 69
abbrev sContains : Stmt := top 70
/-- a piece and its run, in shares of d * m -/
def PcR (m d : Int) (x : PFact) (z : It) : Prop := x.1 = ((z.1 : Nat) : Int) ∧ x.2.2.2 = d ∧ ((z.2.1 : Nat) : Int) = x.2.1 * m ∧ ((z.2.2 : Nat) : Int) = x.2.2.1 * m
theorem pcs_facts {C : Addr} {H : Hp} {m d : Int} : ∀ {us : List Addr} {Z : List It}, Paired (fun q (z : It) => PcsAt C z.1 m d H q z.2) us Z → ∃ xs, Paired (PcAt C H) us xs ∧ Paired (PcR m d) xs Z
  | _, [], .nil => ⟨[], .nil, .nil⟩
  | _, z :: Z, .cons h hs => by
    obtain ⟨xs, p1, p2⟩ := pcs_facts hs
    obtain ⟨a, b, pc, ea, eb, _⟩ := h
    exact ⟨_ :: xs, .cons pc p1, .cons ⟨rfl, rfl, ea, eb⟩ p2⟩
theorem img_fine {n : Int} {F : List Fact} (T : TreeM n F) {c : Nat} (c1 : 1 ≤ c) {gs : List MG} (ok : ∀ x ∈ gs, MgOk F x) : ∃ f, Img (lng (c : Int) F) (finM (c : Int) gs) f ∧ ∀ k t : Nat, k < F.length → (t : Int) ≤ sz F c k → GoL F c gs (node F c k ((t : Nat) : Int)) (f k t) := by
  have hS : (1 : Int) ≤ (c : Int) := by omega
  have ex : ∀ k t : Nat, ∃ w, k < F.length → (t : Int) ≤ sz F c k → GoL F c gs (node F c k ((t : Nat) : Int)) w := fun k t => by
    by_cases q : k < F.length ∧ (t : Int) ≤ sz F c k
    · obtain ⟨w, hw⟩ := goL_exF T hS ok (u := node F c k ((t : Nat) : Int)) ⟨k, _, ⟨q.1, Int.natCast_nonneg _, q.2⟩, rfl⟩
      exact ⟨w, fun _ _ => hw⟩
    · exact ⟨.cr 0, fun x y => absurd ⟨x, y⟩ q⟩
  obtain ⟨f, hf⟩ := Classical.skolem.mp fun k => Classical.skolem.mp (ex k)
  refine ⟨f, fun k t hk ht => ?_, hf⟩
  rw [lng_len] at hk
  rw [sz_lng, Int.one_mul] at ht
  have h := goL_toF (hf k t hk ht)
  rw [node_lng, Int.one_mul]
  exact h
section
variable {P : Program} {w : World} {K : PySem.W.Frag} {mg : Str → Option Value} {base : Heap}
/-- back, told by the runs of what is led to the place -/
theorem backW {CT CR CM CP CW CPc rw p x : Addr} {n : Int} {ps ms : List Addr} {F : List Fact} {gs : List MG} {c : Nat} {r : Fact} {k : Nat} {i : Int} {H : Hp} {Q : VK} {E : XK} (R : RowAt K CW H rw x ms) (TA : TreeAt K CT CR H x n ps F) (TG : TreeG n F) (M0 : MasAt CM CP H ms (gs.map mf)) (ok : ∀ g ∈ gs, MgOk F g)
    (few : ∀ j f M, j ≤ gs.length → Img F (gs.take j) f → JOk F f (0, 0) (F.length, 0) M → M.length ≤ 400) (pl : PlaceAt CP H p r) (pe : PlE F c r k i) (c1 : 1 ≤ c) (c2 : c ≤ 1000)
    (fin : ∀ D us xs Z m H', Same H H' → H D = none → H' D = some (.lst (us.map V.ref)) → 0 < m → (c : Int) = (keyF F c (node F c k i)).2.2 * m → Paired (PcAt CPc H') us xs → Paired (PcR m (keyF F c (node F c k i)).2.2) xs Z → RunsAt F gs c (node F c k i) Z → us.length ≤ 400 → Q (.ref D) H') : spBack K CT CR CM CP CW CPc [.ref rw, .ref p] H Q E := by
  have T := TG.m
  have hS : (1 : Int) ≤ (c : Int) := by omega
  obtain ⟨f', im', fn⟩ := img_fine T c1 ok
  refine ⟨rw, p, x, n, ps, F, ms, gs, c, r, k, i, f', rfl, R, TA, TG, M0, ok, few, treeM_lng T hS, pl, pe, c1, c2, im', fun D us Z m H' s hD eD m0 em pr rs ul => ?_⟩
  obtain ⟨xs, p1, p2⟩ := pcs_facts pr
  refine fin D us xs Z m H' s hD eD m0 em p1 p2 (rs.congr fun j t => ⟨fun ⟨⟨a, b⟩, e⟩ => ⟨⟨a, b⟩, ?_⟩, fun ⟨⟨a, b⟩, g⟩ => ⟨⟨a, b⟩, GoL.uniq T hS ok (fn j t a b) g⟩⟩) ul
  have h := fn j t a b
  rw [e] at h
  exact h
/-- rows on short roads have few stretches -/
theorem few_small {F : List Fact} {B : Nat} (hB : ∀ r ∈ F, r.2.2 ≤ (B : Int)) (hl : F.length * (B + 1) ≤ 400) {f : Nat → Nat → Nd} {M : List It} (jo : JOk F f (0, 0) (F.length, 0) M) : M.length ≤ 400 := by
  have szB : ∀ k, k < F.length → sz F 1 k ≤ ((B : Nat) : Int) := fun k hk => by
    unfold sz
    rw [Int.mul_one]
    exact hB _ (List.mem_of_getElem? (rd_get hk))
  have := covS_lenS (B := B) (c := 1) (Nat.le_refl _) (fun k hk => by rw [Nat.mul_one]; exact szB k hk) jo.cov (Nat.dvd_zero _) (Nat.zero_le _) fun z _ => Nat.one_dvd _
  simp only [Nat.zero_mul, Nat.mul_one] at this
  omega
theorem small10k {xs : List V} (h : xs.length ≤ 10000) : xs.length < PySem.sizeLine := by rw [PySem.sizeLine_eq]; omega
def smp1 (x : PFact) : List Fact := [low (x.1, x.2.1, x.2.2.2), low (x.1, x.2.2.1, x.2.2.2), low (x.1, x.2.1 + x.2.2.1, 2 * x.2.2.2)]
def smp (xs : List PFact) : List Fact := xs.flatMap smp1
theorem smp_take {xs : List PFact} {i : Nat} {x : PFact} (h : xs[i]? = some x) : smp (xs.take (i + 1)) = smp (xs.take i) ++ smp1 x := by
  unfold smp
  rw [take_get h, List.flatMap_append]
  simp
theorem smp_len (xs : List PFact) : (smp xs).length = 3 * xs.length := by
  unfold smp
  induction xs with
  | nil => rfl
  | cons x xs ih =>
    rw [List.flatMap_cons, List.length_append, ih, List.length_cons]
    show 3 + _ = _
    omega
def spSamples (CP CPc : Addr) : Sp := fun vs H Q _ => ∃ (D : Addr) (us : List Addr) (xs : List PFact), vs = [.ref D] ∧ H D = some (.lst (us.map V.ref)) ∧ Paired (PcAt CPc H) us xs ∧ us.length ≤ 400 ∧ (∀ x ∈ xs, 1 ≤ x.2.2.2 ∧ x.2.2.2 ≤ 1000) ∧
  ∀ L ws H', Same H H' → H' L = some (.lst (ws.map V.ref)) → Paired (PlaceAt CP H') ws (smp xs) → Q (.ref L) H'
abbrev nSamples : List Str := ["_law_pieces", "_law_result", "_law_piece"]
theorem scSamples : FnScope nSamples ["_law_pieces"] (defScope sSamples) := ⟨rfl, rfl, rfl, by decide +kernel, rfl, by decide +kernel, by decide +kernel⟩
theorem ok_samples {f fPl CP CPc CB : Addr} {fd fdPl : FuncData} (F : Fun K "_law_samples" "_law_samples" sSamples f fd) (TP : PlT K mg CP) (TPc : PcT K mg CPc)
    (MPl : Mk K CP fPl) (FPl : FnOk P w K mg base (L2.CX P w) 3 fPl fdPl ["self", "road", "number", "parts"] (spPlaceI CP CB)) (bPl : Binds K fdPl ["self", "road", "number", "parts"] []) : FnOk P w K mg base CX0 5 f fd ["_law_pieces"] (spSamples CP CPc) := by
  refine F.ok scSamples (fun vs H Q E h => ?_) (fun cdv A outer s0 H vs Q E hr h => ?_)
  · obtain ⟨D, us, xs, rfl, _⟩ := h
    rfl
  · obtain ⟨D, us, xs, rfl, eD, px, ul, xb, kont⟩ := h
    have hr4 : Room 4 _ := hr.mono (by decide)
    refine ⟨_, pss_cons (ps_set (i := 1) scSamples.nd rfl (Or.inl rfl) (pe_lst pa_nil))
      (pss_cons (ps_for PassesOwn.never rfl (pi_list (pv 0)) (pg_name (i := 2) scSamples.nd rfl (Or.inl rfl))
        (pss_cons (ps_expr (pe_bm PySem.F.plainAttrs_list PySem.F.slot_list_append PySem.F.type_list_append mt_append (pv 1) (pa_cons (pe_make MPl FPl hr4 (by rfl) TP.mgC bPl .nil passF (pa_cons (pe_fld (pv 2) rfl) (pa_cons (pe_fld (pv 2) rfl) (pa_cons (pe_fld (pv 2) rfl) pa_nil)))) pa_nil)))
        (pss_cons (ps_expr (pe_bm PySem.F.plainAttrs_list PySem.F.slot_list_append PySem.F.type_list_append mt_append (pv 1) (pa_cons (pe_make MPl FPl hr4 (by rfl) TP.mgC bPl .nil passF (pa_cons (pe_fld (pv 2) rfl) (pa_cons (pe_fld (pv 2) rfl) (pa_cons (pe_fld (pv 2) rfl) pa_nil)))) pa_nil)))
        (pss_one (ps_expr (pe_bm PySem.F.plainAttrs_list PySem.F.slot_list_append PySem.F.type_list_append mt_append (pv 1) (pa_cons (pe_make MPl FPl hr4 (by rfl) TP.mgC bPl .nil passF (pa_cons (pe_fld (pv 2) rfl) (pa_cons (pe_op op_add (pe_fld (pv 2) rfl) (pe_fld (pv 2) rfl)) (pa_cons (pe_op op_mul pe_int (pe_fld (pv 2) rfl)) pa_nil)))) pa_nil)))))))
      (pss_one (ps_ret (pv 1)))), ?_⟩
    -- result = []
    refine ⟨Nat.zero_le _, fun L hL => ?_⟩
    have s1 := Same.new (o := .lst []) hL
    have lx : us.length = xs.length := Paired.length px
    have nLD : D ≠ L := ne_of_none eD hL
    refine ⟨_, rfl, D, rfl, ⟨_, SqL.of (s1 _ _ eD)⟩, for_list (K := K) (a := D) (xs := us.map V.ref) (fun i σ G => ∃ (v2 : Option V) (ws : List Addr), σ = [some (.ref D), some (.ref L), v2] ∧ (∀ b o, H b = some o → G b = some o) ∧ G L = some (.lst (ws.map V.ref)) ∧ Paired (PlaceAt CP G) ws (smp (xs.take i)))
      ⟨none, [], rfl, s1, upd_same, .nil⟩ (fun i σ G _ ⟨_, _, _, sg, _⟩ => SqL.of (sg _ _ eD)) ?_ ?_⟩
    · rintro i y σ G hi ⟨v2, ws, rfl, sg, gL, pw⟩
      obtain ⟨u, hu, rfl⟩ := map_get hi
      obtain ⟨x, hx, hux⟩ := paired_get px hu
      have il := (List.getElem?_eq_some_iff.mp hu).1
      obtain ⟨x1, x2⟩ := xb x (List.mem_of_getElem? hx)
      have wl : ws.length ≤ 3 * i := by
        rw [Paired.length pw, smp_len, List.length_take]
        omega
      have hnl : H L = none := hL
      have lgB : ∀ {z : Int}, 1 ≤ z → z ≤ 2000 → z.natAbs.log2 < 9000 := fun {z} z1 z2 => by
        rw [Nat.log2_lt (by omega)]
        have : z.natAbs < 2 ^ 60 := by omega
        exact Nat.lt_of_lt_of_le this (Nat.pow_le_pow_right (by decide) (by decide))
      obtain ⟨dp, ep⟩ := hux
      have ep1 := sg _ _ ep
      dsimp only [gName]
      -- the first
      refine ⟨_, rfl, .inl ⟨rfl, _, SqL.of gL⟩, _, rfl, u, CPc, dp, _, _, rfl, ep1, TPc.cl, TPc.nR, pcF_r _, _, rfl, u, CPc, dp, _, _, rfl, ep1, TPc.cl, TPc.nL, pcF_l _, _, rfl, u, CPc, dp, _, _, rfl, ep1, TPc.cl, TPc.nP, pcF_p _, fun p1 d1 np1 nd1 ne1 => ⟨p1, d1, (x.1, x.2.1, x.2.2.2), rfl, upd_same, fun z => absurd z (by show ¬ x.2.2.2 < 1; omega), fun _ => ⟨lgB x1 (by show x.2.2.2 ≤ 2000; omega), fun G1 pp1 keep1 => ⟨rfl, ?_⟩⟩⟩⟩
      have t1 := made_same np1 nd1 keep1
      have gL1 := t1 _ _ gL
      refine ⟨L, _, _, rfl, rfl, gL1, small10k (by rw [List.length_map]; omega), ?_⟩
      have ep2 := t1 _ _ ep1
      have nuL : u ≠ L := ne_of_none ep hL
      have ep3 : upd G1 L (.lst (ws.map V.ref ++ [.ref p1])) u = some (.ins CPc dp (pcF x)) := by rw [upd_ne nuL]; exact ep2
      have k1 : Kp G (upd G1 L (.lst (ws.map V.ref ++ [.ref p1]))) := (Kp.of t1).trans (Kp.put gL1)
      have w1 : Paired (PlaceAt CP (upd G1 L (.lst (ws.map V.ref ++ [.ref p1])))) (ws ++ [p1]) (smp (xs.take i) ++ [low (x.1, x.2.1, x.2.2.2)]) := paired_snoc (Paired.mapP pw fun _ _ h => h.kp k1) (pp1.kp (Kp.put gL1))
      have g2 : upd G1 L (.lst (ws.map V.ref ++ [.ref p1])) L = some (.lst ((ws ++ [p1]).map V.ref)) := by rw [List.map_append]; exact upd_same
      have sg2 : ∀ b o, H b = some o → upd G1 L (.lst (ws.map V.ref ++ [.ref p1])) b = some o := fun b o e => by rw [upd_ne (ne_of_none e hL)]; exact t1 _ _ (sg b o e)
      clear t1 gL1 ep2 k1 pp1 pw gL np1 nd1 ne1 keep1
      generalize upd G1 L (.lst (ws.map V.ref ++ [.ref p1])) = G2 at *
      -- the second
      refine ⟨_, rfl, .inl ⟨rfl, _, SqL.of g2⟩, _, rfl, u, CPc, dp, _, _, rfl, ep3, TPc.cl, TPc.nR, pcF_r _, _, rfl, u, CPc, dp, _, _, rfl, ep3, TPc.cl, TPc.nG, pcF_g _, _, rfl, u, CPc, dp, _, _, rfl, ep3, TPc.cl, TPc.nP, pcF_p _, fun p2 d2 np2 nd2 ne2 => ⟨p2, d2, (x.1, x.2.2.1, x.2.2.2), rfl, upd_same, fun z => absurd z (by show ¬ x.2.2.2 < 1; omega), fun _ => ⟨lgB x1 (by show x.2.2.2 ≤ 2000; omega), fun G3 pp2 keep2 => ⟨rfl, ?_⟩⟩⟩⟩
      have t2 := made_same np2 nd2 keep2
      have g3 := t2 _ _ g2
      have l2 : (ws ++ [p1]).length ≤ 3 * i + 1 := by rw [List.length_append]; show ws.length + 1 ≤ _; omega
      refine ⟨L, _, _, rfl, rfl, g3, small10k (by rw [List.length_map]; omega), ?_⟩
      have ep4 : upd G3 L (.lst ((ws ++ [p1]).map V.ref ++ [.ref p2])) u = some (.ins CPc dp (pcF x)) := by rw [upd_ne nuL]; exact t2 _ _ ep3
      have k2 : Kp G2 (upd G3 L (.lst ((ws ++ [p1]).map V.ref ++ [.ref p2]))) := (Kp.of t2).trans (Kp.put g3)
      have w2 : Paired (PlaceAt CP (upd G3 L (.lst ((ws ++ [p1]).map V.ref ++ [.ref p2])))) (ws ++ [p1] ++ [p2]) (smp (xs.take i) ++ [low (x.1, x.2.1, x.2.2.2)] ++ [low (x.1, x.2.2.1, x.2.2.2)]) := paired_snoc (Paired.mapP w1 fun _ _ h => h.kp k2) (pp2.kp (Kp.put g3))
      have g4 : upd G3 L (.lst ((ws ++ [p1]).map V.ref ++ [.ref p2])) L = some (.lst ((ws ++ [p1] ++ [p2]).map V.ref)) := by rw [List.map_append (l₁ := ws ++ [p1])]; exact upd_same
      have sg4 : ∀ b o, H b = some o → upd G3 L (.lst ((ws ++ [p1]).map V.ref ++ [.ref p2])) b = some o := fun b o e => by rw [upd_ne (ne_of_none e hL)]; exact t2 _ _ (sg2 b o e)
      clear t2 g3 k2 pp2 w1 g2 np2 nd2 ne2 keep2 sg2 ep3
      generalize upd G3 L (.lst ((ws ++ [p1]).map V.ref ++ [.ref p2])) = G4 at *
      -- the third
      refine ⟨_, rfl, .inl ⟨rfl, _, SqL.of g4⟩, _, rfl, u, CPc, dp, _, _, rfl, ep4, TPc.cl, TPc.nR, pcF_r _, _, rfl, u, CPc, dp, _, _, rfl, ep4, TPc.cl, TPc.nL, pcF_l _, _, rfl, u, CPc, dp, _, _, rfl, ep4, TPc.cl, TPc.nG, pcF_g _, _, _, rfl, rfl, _, rfl, u, CPc, dp, _, _, rfl, ep4, TPc.cl, TPc.nP, pcF_p _, _, _, rfl, rfl, .inr ⟨by omega, by omega⟩, fun p3 d3 np3 nd3 ne3 => ⟨p3, d3, (x.1, x.2.1 + x.2.2.1, 2 * x.2.2.2), rfl, upd_same, fun z => absurd z (by show ¬ 2 * x.2.2.2 < 1; omega), fun _ => ⟨lgB (by show 1 ≤ 2 * x.2.2.2; omega) (by show 2 * x.2.2.2 ≤ 2000; omega), fun G5 pp3 keep3 => ⟨rfl, ?_⟩⟩⟩⟩
      have t3 := made_same np3 nd3 keep3
      have g5 := t3 _ _ g4
      have l3 : (ws ++ [p1] ++ [p2]).length ≤ 3 * i + 2 := by rw [List.length_append]; show (ws ++ [p1]).length + 1 ≤ _; omega
      refine ⟨L, _, _, rfl, rfl, g5, small10k (by rw [List.length_map]; omega), ?_⟩
      have k3 : Kp G4 (upd G5 L (.lst ((ws ++ [p1] ++ [p2]).map V.ref ++ [.ref p3]))) := (Kp.of t3).trans (Kp.put g5)
      have w3 := paired_snoc (Paired.mapP w2 fun _ _ h => h.kp k3) (pp3.kp (Kp.put g5) : PlaceAt CP _ p3 _)
      refine ⟨_, ws ++ [p1] ++ [p2] ++ [p3], rfl, fun b o e => by rw [upd_ne (ne_of_none e hL)]; exact t3 _ _ (sg4 b o e), by rw [List.map_append (l₁ := ws ++ [p1] ++ [p2])]; exact upd_same, ?_⟩
      rw [smp_take hx]
      have e : smp (xs.take i) ++ smp1 x = smp (xs.take i) ++ [low (x.1, x.2.1, x.2.2.2)] ++ [low (x.1, x.2.2.1, x.2.2.2)] ++ [low (x.1, x.2.1 + x.2.2.1, 2 * x.2.2.2)] := by unfold smp1; simp
      rw [e]
      exact w3
    · rintro σ G ⟨v2, ws, rfl, sg, gL, pw⟩
      rw [List.length_map, lx, List.take_length] at pw
      exact ⟨_, rfl, kont L ws G sg gL pw⟩
def spContains (CP CPc : Addr) : Sp := fun vs H Q _ => ∃ (D p : Addr) (us : List Addr) (xs : List PFact) (r : Fact), vs = [.ref D, .ref p] ∧ H D = some (.lst (us.map V.ref)) ∧ Paired (PcAt CPc H) us xs ∧ (∀ x ∈ xs, 1 ≤ x.2.2.2 ∧ x.2.2.2 ≤ 1000) ∧ PlaceAt CP H p r ∧ 1 ≤ r.2.2 ∧ r.2.2 ≤ 1000 ∧
  (∃ x ∈ xs, x.1 = r.1 ∧ x.2.1 * r.2.2 ≤ r.2.1 * x.2.2.2 ∧ r.2.1 * x.2.2.2 ≤ x.2.2.1 * r.2.2) ∧ Q (.bl true) H
abbrev nContains : List Str := ["_law_pieces", "_law_place", "_law_piece", "_law_number"]
theorem scContains : FnScope nContains ["_law_pieces", "_law_place"] (defScope sContains) := ⟨rfl, rfl, rfl, by decide +kernel, rfl, by decide +kernel, by decide +kernel⟩
theorem ok_contains {f CP CPc : Addr} {fd : FuncData} (F : Fun K "_law_contains" "_law_contains" sContains f fd) (TP : PlT K mg CP) (TPc : PcT K mg CPc) : FnOk P w K mg base CX0 1 f fd ["_law_pieces", "_law_place"] (spContains CP CPc) := by
  refine F.ok scContains (fun vs H Q E h => ?_) (fun cdv A outer s0 H vs Q E hr h => ?_)
  · obtain ⟨D, p, us, xs, r, rfl, _⟩ := h
    rfl
  · obtain ⟨D, p, us, xs, r, rfl, eD, px, xb, ⟨dp, ep⟩, r1, r2, ⟨x0, hx0, m0⟩, kont⟩ := h
    refine ⟨_, pss_cons (ps_for PassesOwn.never rfl (pi_list (pv 0)) (pg_name (i := 2) scContains.nd rfl (Or.inl rfl))
        (pss_cons (ps_set (i := 3) scContains.nd rfl (Or.inl rfl) (pe_op op_mul (pe_fld (pv 1) rfl) (pe_fld (pv 2) rfl)))
        (pss_one (ps_if (pt_cmpR op_eq (pe_fld (pv 2) rfl) (pe_fld (pv 1) rfl) (nomark _))
          (pss_one (ps_if (pt_chain op_le op_le (pe_op op_mul (pe_fld (pv 2) rfl) (pe_fld (pv 1) rfl)) (pv 3) (pe_op op_mul (pe_fld (pv 2) rfl) (pe_fld (pv 1) rfl)))
            (pss_one (ps_ret pe_bl))
            pss_nil))
          pss_nil))))
      (pss_one (ps_ret pe_bl)), ?_⟩
    have lx : us.length = xs.length := Paired.length px
    refine ⟨_, rfl, D, rfl, ⟨_, SqL.of eD⟩, for_list (K := K) (a := D) (xs := us.map V.ref) (fun i σ G => G = H ∧ ∃ (v2 v3 : Option V), σ = [some (.ref D), some (.ref p), v2, v3] ∧ ∀ x ∈ xs.take i, ¬ (x.1 = r.1 ∧ x.2.1 * r.2.2 ≤ r.2.1 * x.2.2.2 ∧ r.2.1 * x.2.2.2 ≤ x.2.2.1 * r.2.2))
      ⟨rfl, none, none, rfl, fun x hx => by cases hx⟩ (fun i σ G _ ⟨e, _⟩ => by rw [e]; exact SqL.of eD) ?_ ?_⟩
    · rintro i y σ G hi ⟨rfl, v2, v3, rfl, no⟩
      obtain ⟨u, hu, rfl⟩ := map_get hi
      obtain ⟨x, hx, hux⟩ := paired_get px hu
      obtain ⟨x1, x2⟩ := xb x (List.mem_of_getElem? hx)
      obtain ⟨du, eu⟩ := hux
      have next : ¬ (x.1 = r.1 ∧ x.2.1 * r.2.2 ≤ r.2.1 * x.2.2.2 ∧ r.2.1 * x.2.2.2 ≤ x.2.2.1 * r.2.2) → ∀ x' ∈ xs.take (i + 1), ¬ (x'.1 = r.1 ∧ x'.2.1 * r.2.2 ≤ r.2.1 * x'.2.2.2 ∧ r.2.1 * x'.2.2.2 ≤ x'.2.2.1 * r.2.2) := fun nx x' hx' => by
        rw [take_get hx] at hx'
        rcases List.mem_append.mp hx' with h | h
        · exact no x' h
        · rw [List.mem_singleton.mp h]
          exact nx
      dsimp only [gName]
      refine ⟨_, rfl, p, CP, dp, _, _, rfl, ep, TP.cl, TP.nN, plF_n _, _, rfl, u, CPc, du, _, _, rfl, eu, TPc.cl, TPc.nP, pcF_p _, _, _, rfl, rfl, .inr ⟨by omega, by omega⟩, ?_⟩
      refine ⟨_, rfl, u, CPc, du, _, _, rfl, eu, TPc.cl, TPc.nR, pcF_r _, _, rfl, p, CP, dp, _, _, rfl, ep, TP.cl, TP.nR, plF_r _, rfl, _, rfl, ?_⟩
      rw [dec_int]
      by_cases c1 : x.1 = r.1
      · rw [show (x.1 == r.1) = true from beq_iff_eq.mpr c1]
        refine iteT ?_
        refine ⟨_, rfl, u, CPc, du, _, _, rfl, eu, TPc.cl, TPc.nL, pcF_l _, _, rfl, p, CP, dp, _, _, rfl, ep, TP.cl, TP.nP, plF_p _, _, _, rfl, rfl, .inr ⟨by omega, by omega⟩, _, rfl, _, _, rfl, rfl, _, rfl, ?_⟩
        by_cases c2 : x.2.1 * r.2.2 ≤ r.2.1 * x.2.2.2
        · rw [decide_eq_true c2]
          refine iteT ⟨_, rfl, u, CPc, du, _, _, rfl, eu, TPc.cl, TPc.nG, pcF_g _, _, rfl, p, CP, dp, _, _, rfl, ep, TP.cl, TP.nP, plF_p _, _, _, rfl, rfl, .inr ⟨by omega, by omega⟩, _, _, rfl, rfl, _, rfl, ?_⟩
          by_cases c3 : r.2.1 * x.2.2.2 ≤ x.2.2.1 * r.2.2
          · rw [decide_eq_true c3]
            exact iteT kont
          · rw [decide_eq_false c3]
            exact iteF ⟨rfl, _, _, rfl, next fun z => c3 z.2.2⟩
        · rw [decide_eq_false c2]
          exact iteF ⟨_, rfl, iteF ⟨rfl, _, _, rfl, next fun z => c2 z.2.1⟩⟩
      · rw [show (x.1 == r.1) = false from beq_eq_false_iff_ne.mpr c1]
        exact iteF ⟨rfl, _, _, rfl, next fun z => c1 z.1⟩
    · rintro σ G ⟨rfl, v2, v3, rfl, no⟩
      rw [List.length_map, lx, List.take_length] at no
      exact absurd m0 (no x0 hx0)
end
end OT
set_option Elab.async false
set_option linter.all false
set_option maxRecDepth 100000
set_option maxHeartbeats 4000000
namespace OT
open PySem L2 OTR
abbrev sPiecesHold : Stmt := top 68
theorem refs_ne {H : Hp} {s l : Addr} {ts : List Addr} (src : Src H s) (e : H l = some (.lst (ts.map V.ref))) : l ≠ s := src.ne e fun x y z q => by
  have h0 := HO.lst.inj q
  match ts with
  | [] => cases h0
  | t :: ts => cases h0
/-- a row at rw, its tree and its marches -/
structure R37 (K : PySem.W.Frag) (CT CR CM CP CW : Addr) (rw x : Addr) (n : Int) (ps ms : List Addr) (F : List Fact) (gs : List MG) (H : Hp) : Prop where
  row : RowAt K CW H rw x ms
  tree : TreeAt K CT CR H x n ps F
  mas : MasAt CM CP H ms (gs.map mf)
theorem R37.kp {K : PySem.W.Frag} {CT CR CM CP CW rw x : Addr} {n : Int} {ps ms : List Addr} {F : List Fact} {gs : List MG} {H H' : Hp} (h : R37 K CT CR CM CP CW rw x n ps ms F gs H) (k : Kp H H') : R37 K CT CR CM CP CW rw x n ps ms F gs H' := ⟨h.row.kp k, h.tree.kp k, MasAt.kp h.mas k⟩
theorem after1 {K : PySem.W.Frag} {CT CR CM CP CW CB CNR COR : Addr} {rw x pp : Addr} {n S i : Int} {k : Nat} {ps ms : List Addr} {F : List Fact} {gs : List MG} {r : Fact} {G : Hp} {Q : VK} {E : XK} (R : R37 K CT CR CM CP CW rw x n ps ms F gs G) (TG : TreeG n F) (ok : ∀ y ∈ gs, MgOk F y) (lx : gs.length ≤ 1000) (pl : PlaceAt CP G pp r) (pe : PlE F S r k i) (S1 : 1 ≤ S) (S2 : S ≤ 1000)
    (fin : ∀ pa G' v, Same G G' → GoL F S gs (node F S k i) v → PlaceAt CP G' pa (keyF F S v) → Q (.ref pa) G') : spAfter K CT CR CM CP CW CB CNR COR [.ref rw, .ref pp, .int 1] G Q E := by
  have := pe.le
  exact ⟨rw, pp, x, 1, n, S, i, k, ps, F, ms, gs, r, rfl, R.row, R.tree, TG, R.mas, ok, lx, pl, ⟨pe.p1, by omega⟩, pe.lo, PlErr.none pe.pl, fun _ z => absurd ⟨by decide, by decide⟩ z, fun _ => ⟨pe, S1, S2⟩, fun _ _ _ pa G' v s gr pk => fin pa G' v s (by
    obtain ⟨w', a', b'⟩ := gr
    cases (show _ = _ from a')
    exact b') pk⟩
theorem neq_pl {K : PySem.W.Frag} {CP : Addr} {H : Hp} {a b : Addr} {r r' : Fact} {Q : Bool → Hp → Prop} (ha : PlaceAt CP H a r) (hb : PlaceAt CP H b r') (e : r = r') (q : Q false H) : RNot (ROwn K CP (spPlaceE CP)) (.ref a) (.ref b) H Q := by
  subst e
  obtain ⟨da, ea⟩ := ha
  obtain ⟨db, eb⟩ := hb
  refine ⟨a, da, plF r, _, rfl, ea, .ins eb, nf_same, a, da, r, _, rfl, ea, .inl ⟨b, db, r, rfl, eb, _, rfl, ?_⟩⟩
  rw [decide_eq_true (rfl : r = r)]
  exact q
/-- a position beside a run is in no other one -/
theorem gap_out {Z : List It} (le : ∀ z ∈ Z, z.2.1 ≤ z.2.2) (g : (Z.map fun z => ((z.1, z.2.1 * 6, z.2.2 * 6) : It)).Pairwise Gap) {z : It} (hz : z ∈ Z) {m t : Nat} (m1 : 1 ≤ m) (m4 : m ≤ 4) (ht : t + m = z.2.1 * 6 ∨ t = z.2.2 * 6 + m) : ¬ ∃ y ∈ Z.map (fun z => ((z.1, z.2.1 * 6, z.2.2 * 6) : It)), y.1 = z.1 ∧ y.2.1 ≤ t ∧ t ≤ y.2.2 := by
  rintro ⟨y, hy, e1, l1, l2⟩
  obtain ⟨y0, h0, rfl⟩ := List.mem_map.mp hy
  have e1 : y0.1 = z.1 := e1
  have l1 : y0.2.1 * 6 ≤ t := l1
  have l2 : t ≤ y0.2.2 * 6 := l2
  have ly := le y0 h0
  have lz := le z hz
  by_cases eyz : y0 = z
  · subst eyz
    omega
  · have pw := List.pairwise_iff_getElem.mp (List.pairwise_map.mp g)
    obtain ⟨i1, l1', g1⟩ := List.mem_iff_getElem.mp h0
    obtain ⟨i2, l2', g2⟩ := List.mem_iff_getElem.mp hz
    have two : Gap (y0.1, y0.2.1 * 6, y0.2.2 * 6) (z.1, z.2.1 * 6, z.2.2 * 6) ∨ Gap (z.1, z.2.1 * 6, z.2.2 * 6) (y0.1, y0.2.1 * 6, y0.2.2 * 6) := by
      rcases Nat.lt_trichotomy i1 i2 with c | c | c
      · left
        rw [← g1, ← g2]
        exact pw i1 i2 l1' l2' c
      · subst c
        exact absurd (g1.symm.trans g2) eyz
      · right
        rw [← g1, ← g2]
        exact pw i2 i1 l2' l1' c
    unfold Gap at two
    dsimp only at two
    omega
def spPiecesHold (K : PySem.W.Frag) (CT CR CM CP CW CPc : Addr) : Sp := fun vs H Q _ => ∃ (s p q rw pl D x : Addr) (n : Int) (ps ms : List Addr) (F : List Fact) (gs : List MG) (c : Nat) (r : Fact) (k : Nat) (i d : Int) (us : List Addr) (xs : List PFact) (Z : List It) (m : Nat), vs = [.ref s, .ref p, .ref rw, .ref pl, .ref D] ∧ Src H s ∧ TrAt H p q n F ∧ R37 K CT CR CM CP CW rw x n ps ms F gs H ∧ TreeG n F ∧ (∀ r ∈ F, r.2.2 ≤ 7) ∧
  (∀ g ∈ gs, MgOk F g) ∧ gs.length ≤ 1000 ∧ PlaceAt CP H pl r ∧ PlE F c r k i ∧ 1 ≤ c ∧ c ≤ 4 ∧ H D = some (.lst (us.map V.ref)) ∧ Paired (PcAt CPc H) us xs ∧ Paired (PcR m d) xs Z ∧ 1 ≤ m ∧ 1 ≤ d ∧ (c : Int) = d * m ∧ (∀ z ∈ Z, z.2.1 ≤ z.2.2) ∧ RunsAt F gs (6 * c) (scN 6 (node F c k i)) (Z.map fun z => (z.1, z.2.1 * 6, z.2.2 * 6)) ∧
  ∀ H', Src H' s → But s H H' → Q (.bl true) H'
section
variable {P : Program} {w : World} {K : PySem.W.Frag} {mg : Str → Option Value} {base : Heap}
abbrev nPiecesHold : List Str := ["_law_rng_here", "_law_spec", "_law_row", "_law_place", "_law_pieces", "_law_goal", "_law_piece", "_law_parts", "_law_least", "_law_greatest", "_law_number"]
theorem scPiecesHold : FnScope nPiecesHold ["_law_rng_here", "_law_spec", "_law_row", "_law_place", "_law_pieces"] (defScope sPiecesHold) := ⟨rfl, rfl, rfl, by decide +kernel, rfl, by decide +kernel, by decide +kernel⟩
theorem ok_piecesHold {f fDr fKY fAF fPl fPE CT CR CM CP CW CB CNR COR CPc : Addr} {fd fdDr fdKY fdAF fdPl fdPE : FuncData} {ds : List Value} (F0 : Fun K "_law_pieces_hold" "_law_pieces_hold" sPiecesHold f fd) (TW : RwT K mg CW) (TP : PlT K mg CP) (TPc : PcT K mg CPc)
    (FD : FnOk P w K mg base CX0 1 fDr fdDr ["_law_rng_here", "_law_limit"] spDraw) (bD : Binds K fdDr ["_law_rng_here", "_law_limit"] []) (mD : mg "_law_draw" = some (.ref fDr)) (kD : PySem.W.keepIn K (.ref fDr) = true)
    (FKY : FnOk P w K mg base (L2.CX P w) 6 fKY fdKY ["tree", "place"] (spKey K CT CR CP CNR COR)) (bKY : Binds K fdKY ["tree", "place"] []) (mKY : mg "key" = some (.ref fKY)) (kKY : PySem.W.keepIn K (.ref fKY) = true)
    (FAF : FnOk P w K mg base (L2.CX P w) 8 fAF fdAF ["row", "place", "rounds"] (spAfter K CT CR CM CP CW CB CNR COR)) (rAF : Vals [V.int 1] ds) (bAF : Binds K fdAF ["row", "place", "rounds"] ds) (mAF : mg "after" = some (.ref fAF)) (kAF : PySem.W.keepIn K (.ref fAF) = true)
    (MPl : Mk K CP fPl) (FPl : FnOk P w K mg base (L2.CX P w) 3 fPl fdPl ["self", "road", "number", "parts"] (spPlaceI CP CB)) (bPl : Binds K fdPl ["self", "road", "number", "parts"] [])
    (cP : QC K CP fPE) (FPE : FnOk P w K mg base CX0 1 fPE fdPE ["self", "other"] (spPlaceE CP)) (bPE : Binds K fdPE ["self", "other"] []) : FnOk P w K mg base CX0 9 f fd ["_law_rng_here", "_law_spec", "_law_row", "_law_place", "_law_pieces"] (spPiecesHold K CT CR CM CP CW CPc) := by
  refine F0.ok scPiecesHold (fun vs H Q E h => ?_) (fun cdv A outer s0 H vs Q E hr h => ?_)
  · obtain ⟨s, p, q, rw, pl, D, x, n, ps, ms, fs, gs, c, r, k, i, d, us, xs, Z, m, rfl, _⟩ := h
    rfl
  · obtain ⟨s, p, q, rw, pl, D, x, n, ps, ms, fs, gs, c, r, k, i, d, us, xs, Z, m, rfl, src, TA, R, TG, l7, ok, lg, PL, pe, c1, c4, eD, px, pz, m1, d1, ec, zle, runs, kont⟩ := h
    have T := TG.m
    have n2 := TG.n2
    have hr1 : Room 1 _ := hr.mono (by decide)
    have hr2 : Room 2 _ := hr.mono (by decide)
    have hr4 : Room 4 _ := hr.mono (by decide)
    have hr6 : Room 6 _ := hr.mono (by decide)
    have hr8 : Room 8 _ := hr.mono (by decide)
    refine ⟨_, pss_cons (ps_set (i := 5) scPiecesHold.nd rfl (Or.inl rfl) (pe_call FKY hr6 rfl mKY kKY bKY .nil passF (pa_cons (pe_fld (pv 2) rfl) (pa_cons (pv 3) pa_nil))))
      (pss_cons (ps_for PassesOwn.never rfl (pi_list (pv 4)) (pg_name (i := 6) scPiecesHold.nd rfl (Or.inl rfl))
        (pss_cons (ps_set (i := 7) scPiecesHold.nd rfl (Or.inl rfl) (pe_op op_mul pe_int (pe_fld (pv 6) rfl)))
        (pss_cons (ps_par (i := 8) (j := 9) rfl scPiecesHold.nd rfl rfl (by decide) rfl rfl (pa_cons (pe_op op_mul pe_int (pe_fld (pv 6) rfl)) (pa_cons (pe_op op_mul pe_int (pe_fld (pv 6) rfl)) pa_nil)) (by rfl))
        (pss_cons (ps_for PassesOwn.never rfl (pi_list (pe_lst (pa_cons (pv 8) (pa_cons (pv 9) (pa_cons (pe_op op_add (pv 8) (pe_call FD hr1 rfl mD kD bD .nil pass0 (pa_cons (pv 0) (pa_cons (pe_op op_add (pe_op op_sub (pv 9) (pv 8)) pe_int) pa_nil)))) pa_nil))))) (pg_name (i := 10) scPiecesHold.nd rfl (Or.inl rfl))
          (pss_one (ps_if (pt_cmpR (op_neB (rcB_ne FPE cP.eq cP.fn bPE cP.ne cP.hm) hr2) (pe_call FAF hr8 rfl mAF kAF bAF rAF passF (pa_cons (pv 2) (pa_cons (pe_make MPl FPl hr4 (by rfl) TP.mgC bPl .nil passF (pa_cons (pe_fld (pv 6) rfl) (pa_cons (pv 10) (pa_cons (pv 7) pa_nil)))) pa_nil))) (pv 5) (nomark _))
            (pss_one (ps_ret pe_bl))
            pss_nil)))
        (pss_one (ps_for PassesOwn.never rfl (pi_list (pe_lst (pa_cons (pe_op op_sub (pv 8) pe_int) (pa_cons (pe_op op_add (pv 9) pe_int) pa_nil)))) (pg_name (i := 10) scPiecesHold.nd rfl (Or.inl rfl))
          (pss_one (ps_if (pt_chain op_le op_le pe_int (pv 10) (pe_op op_mul (pe_ix ix_tup (pe_ix ix_list (pe_ix ix_tup (pv 1) pe_int (fun _ _ => rfl)) (pe_fld (pv 6) rfl) (fun _ _ => rfl)) pe_int (fun _ _ => rfl)) (pv 7)))
            (pss_one (ps_if (pt_cmpR (op_eqB (rcB_own FPE cP.eq cP.fn bPE) hr1) (pe_call FAF hr8 rfl mAF kAF bAF rAF passF (pa_cons (pv 2) (pa_cons (pe_make MPl FPl hr4 (by rfl) TP.mgC bPl .nil passF (pa_cons (pe_fld (pv 6) rfl) (pa_cons (pv 10) (pa_cons (pv 7) pa_nil)))) pa_nil))) (pv 5) (nomark _))
              (pss_one (ps_ret pe_bl))
              pss_nil))
            pss_nil))))))))
      (pss_one (ps_ret pe_bl))), ?_⟩
    have two : ∀ {x y : V}, [x, y].length ≤ sizeLine := fun {x y} => (by show 2 ≤ sizeLine; decide)
    have three : ∀ {x y z : V}, [x, y, z].length ≤ sizeLine := fun {x y z} => (by show 3 ≤ sizeLine; decide)
    obtain ⟨dw, t, ew, et⟩ := id R.row
    have hS : (1 : Int) ≤ (c : Int) := by omega
    have ovc : OnT fs c (node fs c k i) := ⟨k, i, pe.on, rfl⟩
    have lx : us.length = xs.length := Paired.length px
    -- goal
    refine ⟨_, rfl, rw, CW, dw, _, _, rfl, ew, TW.cl, TW.nT, rwF_t x t, _, rfl, x, pl, n, ps, fs, r, rfl, R.tree, PL, TG, ⟨pe.p1, by have := pe.le; omega⟩, pe.lo, (PlErr.none (CNR := CNR) (COR := COR) (H := H) (E := L2.E0) pe.pl).1, (PlErr.none (CNR := CNR) (COR := COR) (H := H) (E := L2.E0) pe.pl).2, fun _ p1 H2 s2 pl1 => ?_⟩
    rw [pe.keyF] at pl1
    have ek : keyF fs c (node fs c k i) = keyF fs (6 * c) (scN 6 (node fs c k i)) := by
      rw [Int.mul_comm 6 (c : Int)]
      exact (keyF_mul (c := 6) (by decide) fs c _).symm
    rw [ek] at pl1
    generalize hv : scN 6 (node fs c k i) = v at *
    have src2 := src.same s2
    have R2 := R.kp (.of s2)
    have TA2 := TA.same s2
    have eD2 := s2 _ _ eD
    have px2 : Paired (PcAt CPc H2) us xs := Paired.mapP px fun _ _ h => h.same s2
    refine ⟨_, rfl, D, rfl, ⟨_, SqL.of eD2⟩, for_list (K := K) (a := D) (xs := us.map V.ref) (fun j σ G => ∃ (v6 v7 v8 v9 v10 : Option V), σ = [some (.ref s), some (.ref p), some (.ref rw), some (.ref pl), some (.ref D), some (.ref p1), v6, v7, v8, v9, v10] ∧ Src G s ∧ But s H2 G)
      ⟨none, none, none, none, none, rfl, src2, But.refl⟩ (fun j σ G _ ⟨_, _, _, _, _, _, _, b⟩ => SqL.of (b _ _ eD2 (refs_ne src2 eD2))) ?_ ?_⟩
    · rintro j y σ G hj ⟨v6, v7, v8, v9, v10, rfl, srcG, bG⟩
      obtain ⟨u, hu, rfl⟩ := map_get hj
      obtain ⟨xx, hx, hux⟩ := paired_get px2 hu
      obtain ⟨z, hz, hxz⟩ := paired_get pz hx
      have zm := List.mem_of_getElem? hz
      have kpG : Kp H2 G := .src src2 bG
      obtain ⟨du, eu⟩ := hux.kp kpG
      obtain ⟨kz, a, b⟩ := z
      obtain ⟨xr, xa, xb, xd⟩ := xx
      obtain ⟨f1, f2, f3, f4⟩ := hxz
      replace f1 : xr = (kz : Nat) := f1
      replace f2 : xd = d := f2
      replace f3 : ((a : Nat) : Int) = xa * m := f3
      replace f4 : ((b : Nat) : Int) = xb * m := f4
      subst f1
      subst f2
      have ab : a ≤ b := zle _ zm
      have mp : (0 : Int) < (m : Int) := by omega
      have xd4 : xd ≤ 4 := by
        have := Int.mul_le_mul_of_nonneg_left (show (1 : Int) ≤ (m : Int) by omega) (show 0 ≤ xd by omega)
        omega
      have m4 : m ≤ 4 := by
        have := Int.mul_le_mul_of_nonneg_right d1 (show (0 : Int) ≤ (m : Int) by omega)
        omega
      have xa0 : 0 ≤ xa := Int.le_of_mul_le_mul_right (by rw [Int.zero_mul, ← f3]; exact Int.natCast_nonneg _) mp
      have xab : xa ≤ xb := Int.le_of_mul_le_mul_right (by rw [← f3, ← f4]; omega) mp
      have e6 : 6 * xd * (m : Int) = 6 * (c : Int) := by rw [Int.mul_assoc, ← ec]
      have szm : sz fs (6 * (c : Int)) kz = sz fs (6 * xd) kz * m := by rw [← e6, sz_mul]
      have top := (runs.iff kz (b * 6)).mpr ⟨_, List.mem_map.mpr ⟨_, zm, rfl⟩, rfl, Nat.mul_le_mul_right 6 ab, Nat.le_refl _⟩
      have hk : kz < fs.length := top.1.1
      have xbs : 6 * xb ≤ sz fs (6 * xd) kz := by
        have h := top.1.2
        rw [szm] at h
        refine Int.le_of_mul_le_mul_right (a := (m : Int)) ?_ mp
        rw [Int.mul_assoc, ← f4]
        push_cast at h
        omega
      have sz168 : sz fs (6 * xd) kz ≤ 168 := by
        unfold sz
        have h7 := l7 _ (List.mem_of_getElem? (rd_get hk))
        have h0 := (T.ok _ (List.mem_of_getElem? (rd_get hk))).2.2
        have := Int.mul_le_mul h7 (show 6 * xd ≤ 24 by omega) (by omega) (by omega)
        omega
      -- where a place of the road is led
      have on_run : ∀ N : Int, 6 * xa ≤ N → N ≤ 6 * xb → GoL fs (6 * (c : Int)) gs (node fs (6 * (c : Int)) kz (N * m)) v := fun N h1 h2 => by
        have l1 := Int.mul_le_mul_of_nonneg_right h1 (show (0 : Int) ≤ (m : Int) by omega)
        have l2 := Int.mul_le_mul_of_nonneg_right h2 (show (0 : Int) ≤ (m : Int) by omega)
        rw [Int.mul_assoc, ← f3] at l1
        rw [Int.mul_assoc, ← f4] at l2
        have h := ((runs.iff kz (N * m).toNat).mpr ⟨_, List.mem_map.mpr ⟨_, zm, rfl⟩, rfl, (by show a * 6 ≤ _; omega), (by show _ ≤ b * 6; omega)⟩).2
        rw [Int.toNat_of_nonneg (by omega)] at h
        exact h
      have off_run : ∀ N : Int, N = 6 * xa - 1 ∨ N = 6 * xb + 1 → 0 ≤ N → N ≤ sz fs (6 * xd) kz → ∀ v', GoL fs (6 * (c : Int)) gs (node fs (6 * (c : Int)) kz (N * m)) v' → v' ≠ v := fun N hN h0 h1 v' g e => by
        subst e
        have Nm0 : 0 ≤ N * m := Int.mul_nonneg h0 (by omega)
        have Nm1 := Int.mul_le_mul_of_nonneg_right h1 (show (0 : Int) ≤ (m : Int) by omega)
        rw [← szm] at Nm1
        have ht : (N * m).toNat + m = a * 6 ∨ (N * m).toNat = b * 6 + m := by
          rcases hN with rfl | rfl
          · rw [Int.sub_mul, Int.mul_assoc, ← f3, Int.one_mul] at Nm0 ⊢
            left
            omega
          · rw [Int.add_mul, Int.mul_assoc, ← f4, Int.one_mul] at Nm0 ⊢
            right
            omega
        refine gap_out zle runs.gap zm m1 m4 ht ((runs.iff kz (N * m).toNat).mp ⟨⟨hk, ?_⟩, ?_⟩)
        · rw [Int.toNat_of_nonneg Nm0]
          exact Nm1
        · rw [Int.toNat_of_nonneg Nm0]
          exact g
      have lead : ∀ {G1 : Hp} {pp : Addr} {N : Int} {Q : VK} {E : XK}, R37 K CT CR CM CP CW rw x n ps ms fs gs G1 → PlaceAt CP G1 pp (low (((kz : Nat) : Int), N, 6 * xd)) → 0 ≤ N → N ≤ sz fs (6 * xd) kz → (∀ pa G' v', Same G1 G' → GoL fs (6 * (c : Int)) gs (node fs (6 * (c : Int)) kz (N * m)) v' → PlaceAt CP G' pa (keyF fs (6 * (c : Int)) v') → Q (.ref pa) G') → spAfter K CT CR CM CP CW CB CNR COR [.ref rw, .ref pp, .int 1] G1 Q E := fun {G1 pp N Q E} R1 PP h0 h1 fin => by
        have pe1 := mkPlE (s := 6 * xd) (c := (m : Int)) (by omega) (by omega) (⟨hk, h0, h1⟩ : On fs (6 * xd) kz N)
        rw [e6] at pe1
        exact after1 R1 TG ok lg PP pe1 (by omega) (by omega) fin
      have b24 : -(2 ^ 64 : Int) < xd ∧ xd < 2 ^ 64 := ⟨by omega, by omega⟩
      have ba : -(2 ^ 64 : Int) < xa ∧ xa < 2 ^ 64 := ⟨by omega, by omega⟩
      have bb : -(2 ^ 64 : Int) < xb ∧ xb < 2 ^ 64 := ⟨by omega, by omega⟩
      have lgB : ∀ {z : Int}, 1 ≤ z → z ≤ 2000 → z.natAbs.log2 < 9000 := fun {z} z1 z2 => by
        rw [Nat.log2_lt (by omega)]
        have : z.natAbs < 2 ^ 60 := by omega
        exact Nat.lt_of_lt_of_le this (Nat.pow_le_pow_right (by decide) (by decide))
      have RG := R2.kp kpG
      have plG := pl1.kp kpG
      have ovk : ∀ {v' : Nd}, v' = v → keyF fs (6 * (c : Int)) v' = keyF fs (6 * (c : Int)) v := fun e => by rw [e]
      dsimp only [gName]
      -- parts, least, greatest
      refine ⟨_, rfl, u, CPc, du, _, _, rfl, eu, TPc.cl, TPc.nP, pcF_p _, _, _, rfl, rfl, .inr b24, ?_⟩
      refine ⟨_, rfl, u, CPc, du, _, _, rfl, eu, TPc.cl, TPc.nL, pcF_l _, _, _, rfl, rfl, .inr ba, _, rfl, u, CPc, du, _, _, rfl, eu, TPc.cl, TPc.nG, pcF_g _, _, _, rfl, rfl, .inr bb, _, _, rfl, ?_⟩
      -- the list of numbers
      refine ⟨_, rfl, _, rfl, _, rfl, _, rfl, _, rfl, _, rfl, _, _, rfl, rfl, _, _, rfl, rfl, s, _, rfl, srcG, (by show 0 < 6 * xb - 6 * xa + 1; omega), (by show 6 * xb - 6 * xa + 1 < _; omega), fun dd G1 d0 d1' src1 b1 => ⟨_, _, rfl, rfl, three, fun D2 hD2 => ?_⟩⟩
      replace d1' : dd < 6 * xb - 6 * xa + 1 := d1'
      have sD2 := Same.new (o := .lst [.int (6 * xa), .int (6 * xb), .int (6 * xa + dd)]) hD2
      have kp1 : Kp G (upd G1 D2 (.lst [.int (6 * xa), .int (6 * xb), .int (6 * xa + dd)])) := (Kp.src srcG b1).trans (.of sD2)
      have gD2 : upd G1 D2 (.lst [.int (6 * xa), .int (6 * xb), .int (6 * xa + dd)]) D2 = some (.lst [.int (6 * xa), .int (6 * xb), .int (6 * xa + dd)]) := upd_same
      have bG1 : But s H2 (upd G1 D2 (.lst [.int (6 * xa), .int (6 * xb), .int (6 * xa + dd)])) := (bG.trans b1).same sD2
      have src2' : Src (upd G1 D2 (.lst [.int (6 * xa), .int (6 * xb), .int (6 * xa + dd)])) s := src1.same sD2
      have R1 := RG.kp kp1
      have plG1 := plG.kp kp1
      have TA1 := TA2.but src2 bG1
      have eu1 : upd G1 D2 (.lst [.int (6 * xa), .int (6 * xb), .int (6 * xa + dd)]) u = some (.ins CPc du (pcF (((kz : Nat) : Int), xa, xb, xd))) := kp1 _ _ eu fun _ z => nomatch z
      clear hD2 sD2 kp1 RG plG eu b1 src1 bG srcG
      generalize upd G1 D2 (.lst [.int (6 * xa), .int (6 * xb), .int (6 * xa + dd)]) = G2 at *
      refine ⟨D2, rfl, ⟨_, SqL.of gD2⟩, for_list (K := K) (a := D2) (xs := [V.int (6 * xa), V.int (6 * xb), V.int (6 * xa + dd)]) (fun j σ G => ∃ v10 : Option V, σ = [some (.ref s), some (.ref p), some (.ref rw), some (.ref pl), some (.ref D), some (.ref p1), some (.ref u), some (.int (6 * xd)), some (.int (6 * xa)), some (.int (6 * xb)), v10] ∧ Same G2 G)
        ⟨v10, rfl, Same.refl G2⟩ (fun j σ G _ ⟨_, _, b⟩ => SqL.of (b _ _ gD2)) ?_ ?_⟩
      · rintro j' y σ G hj' ⟨w10, rfl, sg⟩
        obtain ⟨N, rfl, N1, N2⟩ : ∃ N : Int, y = .int N ∧ 6 * xa ≤ N ∧ N ≤ 6 * xb := by
          have hm2 : j' < 3 := (List.getElem?_eq_some_iff.mp hj').1
          have hc : j' = 0 ∨ j' = 1 ∨ j' = 2 := by omega
          rcases hc with rfl | rfl | rfl
          · cases hj'
            exact ⟨_, rfl, by omega, by omega⟩
          · cases hj'
            exact ⟨_, rfl, by omega, by omega⟩
          · cases hj'
            exact ⟨_, rfl, by omega, by omega⟩
        dsimp only [gName]
        refine ⟨_, rfl, _, rfl, u, CPc, du, _, _, rfl, sg _ _ eu1, TPc.cl, TPc.nR, pcF_r _, _, rfl, _, rfl, fun pp dp np nd ne => ⟨pp, dp, (((kz : Nat) : Int), N, 6 * xd), rfl, upd_same, fun z => absurd z (by show ¬ 6 * xd < 1; omega), fun _ => ⟨lgB (by show 1 ≤ 6 * xd; omega) (by show 6 * xd ≤ 2000; omega), fun G3 PP keep => ⟨rfl, tn ?_⟩⟩⟩⟩
        have t1 := made_same np nd keep
        have s23 := sg.trans t1
        show spAfter K CT CR CM CP CW CB CNR COR [V.ref rw, V.ref pp, V.int 1] G3 _ _
        refine lead (R1.kp (.of s23)) PP (by omega) (by omega) fun pa G4 v' s4 g4 pk => ?_
        have s24 := s23.trans s4
        refine ⟨_, rfl, neq_pl pk (plG1.same s24) (ovk (GoL.uniq T (by omega) ok g4 (on_run N N1 N2))) ⟨_, rfl, iteF ⟨_, rfl, s24⟩⟩⟩
      · rintro σ G ⟨w10, rfl, sg⟩
        refine ⟨_, rfl, _, _, rfl, rfl, _, rfl, _, _, rfl, rfl, two, fun D3 hD3 => ?_⟩
        have sD3 := Same.new (o := .lst [.int (6 * xa - 1), .int (6 * xb + 1)]) hD3
        have s3 := sg.trans sD3
        have gD3 : upd G D3 (.lst [.int (6 * xa - 1), .int (6 * xb + 1)]) D3 = some (.lst [.int (6 * xa - 1), .int (6 * xb + 1)]) := upd_same
        clear hD3 sD3
        generalize upd G D3 (.lst [.int (6 * xa - 1), .int (6 * xb + 1)]) = G3 at *
        obtain ⟨hp, ts, hq, hts⟩ := id TA1
        have tk : kz < ts.length := by rw [Paired.length hts]; exact hk
        have etk : ts[kz]? = some ts[kz] := List.getElem?_eq_getElem tk
        obtain ⟨rr, hrr, trr⟩ := paired_get hts etk
        have err : rr = rd fs kz := by
          have h := rd_get hk
          rw [hrr] at h
          exact Option.some.inj h
        subst err
        have ixk : atI (ts.map V.ref) ((kz : Nat) : Int) = some (V.ref ts[kz]) := atI_nat (by rw [List.getElem?_map, etk]; rfl)
        refine ⟨D3, rfl, ⟨_, SqL.of gD3⟩, for_list (K := K) (a := D3) (xs := [V.int (6 * xa - 1), V.int (6 * xb + 1)]) (fun j σ G => ∃ v10 : Option V, σ = [some (.ref s), some (.ref p), some (.ref rw), some (.ref pl), some (.ref D), some (.ref p1), some (.ref u), some (.int (6 * xd)), some (.int (6 * xa)), some (.int (6 * xb)), v10] ∧ Same G3 G)
          ⟨w10, rfl, Same.refl G3⟩ (fun j σ G _ ⟨_, _, b⟩ => SqL.of (b _ _ gD3)) ?_ ?_⟩
        · rintro j' y σ G4 hj' ⟨w10', rfl, sg4⟩
          have s24 := s3.trans sg4
          obtain ⟨N, rfl, hN⟩ : ∃ N : Int, y = .int N ∧ (N = 6 * xa - 1 ∨ N = 6 * xb + 1) := by
            have hm2 : j' < 2 := (List.getElem?_eq_some_iff.mp hj').1
            have hc : j' = 0 ∨ j' = 1 := by omega
            rcases hc with rfl | rfl
            · cases hj'
              exact ⟨_, rfl, .inl rfl⟩
            · cases hj'
              exact ⟨_, rfl, .inr rfl⟩
          dsimp only [gName]
          refine ⟨_, rfl, _, _, rfl, rfl, _, rfl, ?_⟩
          by_cases h0 : 0 ≤ N
          · rw [decide_eq_true h0]
            refine iteT ⟨_, rfl, p, _, _, _, rfl, rfl, SqT.of (s24 _ _ hp), rfl, _, rfl, u, CPc, du, _, _, rfl, s24 _ _ eu1, TPc.cl, TPc.nR, pcF_r _, q, _, _, _, rfl, rfl, SqL.of (s24 _ _ hq), ixk, ts[kz], _, _, _, rfl, rfl, SqT.of (s24 _ _ trr), rfl, _, rfl, _, _, rfl, rfl, .inr ⟨by omega, by omega⟩, _, _, rfl, rfl, _, rfl, ?_⟩
            by_cases h1 : N ≤ (rd fs kz).2.2 * (6 * xd)
            · rw [decide_eq_true h1]
              have h1' : N ≤ sz fs (6 * xd) kz := h1
              refine iteT ?_
              refine ⟨_, rfl, _, rfl, u, CPc, du, _, _, rfl, s24 _ _ eu1, TPc.cl, TPc.nR, pcF_r _, _, rfl, _, rfl, fun pp dp np nd ne => ⟨pp, dp, (((kz : Nat) : Int), N, 6 * xd), rfl, upd_same, fun z => absurd z (by show ¬ 6 * xd < 1; omega), fun _ => ⟨lgB (by show 1 ≤ 6 * xd; omega) (by show 6 * xd ≤ 2000; omega), fun G5 PP keep => ⟨rfl, tn ?_⟩⟩⟩⟩
              have t1 := made_same np nd keep
              have s25 := s24.trans t1
              show spAfter K CT CR CM CP CW CB CNR COR [V.ref rw, V.ref pp, V.int 1] G5 _ _
              refine lead (R1.kp (.of s25)) PP h0 h1' fun pa G6 v' s6 g6 pk => ?_
              have s26 := s25.trans s6
              have ne := off_run N hN h0 h1' v' g6
              have pe1 : On fs (6 * (c : Int)) kz (N * m) := ⟨hk, Int.mul_nonneg h0 (by omega), by rw [szm]; exact Int.mul_le_mul_of_nonneg_right h1' (by omega)⟩
              have onv' := GoL.on T (by omega) ok ⟨kz, _, pe1, rfl⟩ g6
              have onv : OnT fs (6 * (c : Int)) v := GoL.on T (by omega) ok ⟨kz, _, ⟨hk, Int.natCast_nonneg _, top.1.2⟩, rfl⟩ top.2
              obtain ⟨da, ea⟩ := id pk
              obtain ⟨db, eb⟩ := id (plG1.same s26)
              refine ⟨_, rfl, pa, da, plF _, _, rfl, ea, .ins eb, nf_same, pa, da, _, _, rfl, ea, .inl ⟨p1, db, _, rfl, eb, _, rfl, ?_⟩⟩
              rw [decide_eq_false fun q => ne (keyC_inj T n2 (by omega) onv' onv q)]
              exact ⟨_, rfl, iteF ⟨_, rfl, sg4.trans (t1.trans s6)⟩⟩
            · rw [decide_eq_false h1]
              exact iteF ⟨_, rfl, sg4⟩
          · rw [decide_eq_false h0]
            exact iteF ⟨_, rfl, iteF ⟨_, rfl, sg4⟩⟩
        · rintro σ G4 ⟨w10', rfl, sg4⟩
          have s24 := s3.trans sg4
          exact ⟨_, _, _, _, _, rfl, src2'.same s24, bG1.same s24⟩
    · rintro σ G ⟨v6, v7, v8, v9, v10, rfl, srcG, bG⟩
      exact kont G srcG fun b o e ne => bG b o (s2 _ _ e) ne
end
end OT
set_option Elab.async false
set_option linter.all false
set_option maxRecDepth 100000
set_option maxHeartbeats 4000000
namespace OT
open PySem L2 OTR
abbrev sCompHolds : Stmt := top 71
theorem scN_scN (a b : Int) (v : Nd) : scN a (scN b v) = scN (b * a) v := by
  cases v with
  | cr x => rfl
  | mid k i => exact congrArg (Nd.mid k) (Int.mul_assoc i b a)
theorem goL_up {F : List Fact} {S : Int} {gs : List MG} {u v : Nd} {l : Int} (l1 : 1 ≤ l) (h : GoL F S gs u v) : GoL F (l * S) gs (scN l u) (scN l v) := by
  have h1 := goL_lngI.mpr (by rw [Int.one_mul]; exact h : GoL F (1 * S) gs u v)
  exact goL_lngI.mp (goL_sc l1 h1)
theorem paired_memL {α β : Type} {R : α → β → Prop} : ∀ {as : List α} {bs : List β}, Paired R as bs → ∀ a ∈ as, ∃ b ∈ bs, R a b
  | _, _, .nil, a, h => by cases h
  | _, _, .cons r rs, a, h => by
    rcases List.mem_cons.mp h with e | h
    · subst e
      exact ⟨_, List.mem_cons_self, r⟩
    · obtain ⟨b, hb, q⟩ := paired_memL rs a h
      exact ⟨b, List.mem_cons_of_mem _ hb, q⟩
theorem paired_memR {α β : Type} {R : α → β → Prop} : ∀ {as : List α} {bs : List β}, Paired R as bs → ∀ b ∈ bs, ∃ a ∈ as, R a b
  | _, _, .nil, b, h => by cases h
  | _, _, .cons r rs, b, h => by
    rcases List.mem_cons.mp h with e | h
    · subst e
      exact ⟨_, List.mem_cons_self, r⟩
    · obtain ⟨a, ha, q⟩ := paired_memR rs b h
      exact ⟨a, List.mem_cons_of_mem _ ha, q⟩
/-- the samples of pieces, in shares of 2 * c: they lie in the runs -/
theorem smp_at {F : List Fact} {c m d : Int} (c1 : 1 ≤ c) (m1 : 1 ≤ m) (d1 : 1 ≤ d) (ec : c = d * m) {xs : List PFact} {Z : List It} (pz : Paired (PcR m d) xs Z) (zin : ∀ z ∈ Z, z.1 < F.length ∧ z.2.1 ≤ z.2.2 ∧ (z.2.2 : Int) ≤ sz F c z.1) : ∀ r ∈ smp xs, ∃ z ∈ Z, ∃ t : Nat, PlE F (2 * c) r z.1 ((t : Nat) : Int) ∧ z.2.1 * 2 ≤ t ∧ t ≤ z.2.2 * 2 := by
  intro r hr
  obtain ⟨x, hx, hr⟩ := List.mem_flatMap.mp hr
  obtain ⟨z, hz, q⟩ := paired_memL pz x hx
  obtain ⟨kz, a, b⟩ := z
  obtain ⟨xr, xa, xb, xd⟩ := x
  obtain ⟨f1, f2, f3, f4⟩ := q
  replace f1 : xr = (kz : Nat) := f1
  replace f2 : xd = d := f2
  replace f3 : ((a : Nat) : Int) = xa * m := f3
  replace f4 : ((b : Nat) : Int) = xb * m := f4
  subst f1
  subst f2
  obtain ⟨hk, ab, bs⟩ := zin _ hz
  replace hk : kz < F.length := hk
  replace ab : a ≤ b := ab
  replace bs : (b : Int) ≤ sz F c kz := bs
  have xa0 : 0 ≤ xa := Int.le_of_mul_le_mul_right (by rw [Int.zero_mul, ← f3]; exact Int.natCast_nonneg _) (show 0 < m by omega)
  have xab : xa ≤ xb := Int.le_of_mul_le_mul_right (by rw [← f3, ← f4]; omega) (show 0 < m by omega)
  have szm : sz F c kz = sz F xd kz * m := by rw [ec, sz_mul]
  have xbs : xb ≤ sz F xd kz := Int.le_of_mul_le_mul_right (by rw [← f4, ← szm]; exact bs) (show 0 < m by omega)
  have e1 : xd * (2 * m) = 2 * c := by rw [ec, Int.mul_left_comm]
  have e2 : 2 * xd * m = 2 * c := by rw [ec, Int.mul_assoc]
  rcases List.mem_cons.mp hr with rfl | hr
  · refine ⟨_, hz, a * 2, ?_, Nat.le_refl _, Nat.mul_le_mul_right 2 ab⟩
    have h := mkPlE (s := xd) (c := 2 * m) d1 (by omega) (⟨hk, xa0, by omega⟩ : On F xd kz xa)
    rw [e1, show xa * (2 * m) = ((a * 2 : Nat) : Int) by rw [Int.mul_left_comm, ← f3]; omega] at h
    exact h
  rcases List.mem_cons.mp hr with rfl | hr
  · refine ⟨_, hz, b * 2, ?_, Nat.mul_le_mul_right 2 ab, Nat.le_refl _⟩
    have h := mkPlE (s := xd) (c := 2 * m) d1 (by omega) (⟨hk, by omega, xbs⟩ : On F xd kz xb)
    rw [e1, show xb * (2 * m) = ((b * 2 : Nat) : Int) by rw [Int.mul_left_comm, ← f4]; omega] at h
    exact h
  · have hr := List.mem_singleton.mp hr
    subst hr
    refine ⟨_, hz, a + b, ?_, (by show a * 2 ≤ _; omega), (by show _ ≤ b * 2; omega)⟩
    have sz2 : sz F (2 * xd) kz = sz F xd kz * 2 := by rw [Int.mul_comm 2 xd, sz_mul]
    have h := mkPlE (s := 2 * xd) (c := m) (by omega) m1 (⟨hk, by omega, by omega⟩ : On F (2 * xd) kz (xa + xb))
    rw [e2, show (xa + xb) * m = ((a + b : Nat) : Int) by rw [Int.add_mul, ← f3, ← f4]; omega] at h
    exact h
/-- a position in a run is in its piece -/
theorem in_piece {F : List Fact} {c m d l : Int} (m1 : 1 ≤ m) (d1 : 1 ≤ d) (l1 : 1 ≤ l) (ec : c = d * m) {r : Fact} {k : Nat} {t : Nat} (pe : PlE F (l * c) r k ((t : Nat) : Int)) {x : PFact} {z : It} (q : PcR m d x z) (ek : z.1 = k) (h1 : ((z.2.1 : Nat) : Int) * l ≤ t) (h2 : (t : Int) ≤ ((z.2.2 : Nat) : Int) * l) : x.1 = r.1 ∧ x.2.1 * r.2.2 ≤ r.2.1 * x.2.2.2 ∧ r.2.1 * x.2.2.2 ≤ x.2.2.1 * r.2.2 := by
  obtain ⟨e, e0, es, et⟩ := pe.d
  obtain ⟨f1, f2, f3, f4⟩ := q
  rw [f2]
  rw [f3, et] at h1
  rw [f4, et] at h2
  have es' : r.2.2 * e = l * m * d := by rw [← es, ec, Int.mul_comm d m, Int.mul_assoc]
  have key_ : ∀ A : Int, A * r.2.2 * e = A * m * l * d := fun A => by rw [Int.mul_assoc, es', Int.mul_assoc A m l, Int.mul_assoc A (m * l) d, Int.mul_comm m l]
  have key2 : r.2.1 * d * e = r.2.1 * e * d := by rw [Int.mul_assoc, Int.mul_comm d e, ← Int.mul_assoc]
  refine ⟨by rw [f1, ek, pe.rd], Int.le_of_mul_le_mul_right (a := e) ?_ e0, Int.le_of_mul_le_mul_right (a := e) ?_ e0⟩
  · rw [key_, key2]
    exact Int.mul_le_mul_of_nonneg_right h1 (by omega)
  · rw [key_, key2]
    exact Int.mul_le_mul_of_nonneg_right h2 (by omega)
theorem GoL.split {F : List Fact} {S : Int} : ∀ {l m : List MG} {u w : Nd}, GoL F S (l ++ m) u w → ∃ v, GoL F S l u v ∧ GoL F S m v w
  | [], _, u, _, h => ⟨u, rfl, h⟩
  | x :: l, m, u, w, ⟨a, h1, h2⟩ => by
    obtain ⟨v, h3, h4⟩ := GoL.split (l := l) (m := m) h2
    exact ⟨v, ⟨a, h1, h3⟩, h4⟩
/-- what a run tells -/
theorem RunsAt.in_ {F : List Fact} {gs : List MG} {S : Int} {v : Nd} {Z : List It} (h : RunsAt F gs S v Z) : ∀ z ∈ Z, z.1 < F.length ∧ z.2.1 ≤ z.2.2 ∧ (z.2.2 : Int) ≤ sz F S z.1 := fun z hz => by
  have l := h.le z hz
  have t := (h.iff z.1 z.2.2).mpr ⟨z, hz, rfl, l, Nat.le_refl _⟩
  exact ⟨t.1.1, l, t.1.2⟩
theorem mg_lngC {F : List Fact} {g : List Fact} (ok : ∀ r ∈ g, MrOk F 12 r) {S : Int} (S1 : 1 ≤ S) (S2 : S ≤ 1000) : ∀ x ∈ finM S (g.map mg3), MgOk (lng S F) x := fun x hx => by
  obtain ⟨x', hx', rfl⟩ := List.mem_map.mp hx
  obtain ⟨r', hr', rfl⟩ := List.mem_map.mp hx'
  have okr := ok r' hr'
  have h := mgs_ok ok (by decide) _ hx'
  have s1 := h.s1
  have b : r'.2.2 ≤ 12 := by rcases okr.s2 with q | q <;> omega
  refine ⟨by rw [lng_len]; exact h.rd, Int.mul_nonneg h.lo (by omega), ?_, ?_, ?_⟩
  · rw [rd_lng]
    exact Int.mul_le_mul_of_nonneg_right h.hi (by omega)
  · have := Int.mul_le_mul h.s1 S1 (by omega) (by omega)
    rw [Int.one_mul] at this
    exact this
  · have s0 : 1 ≤ (mg3 r').2.2 := h.s1
    have b' : (mg3 r').2.2 ≤ 12 := b
    have := Int.mul_le_mul b' S2 (by omega) (by omega)
    exact Int.le_trans this (by decide)
def spCompHolds (CP : Addr) : Sp := fun vs H Q _ => ∃ (p q l1 l2 pl : Addr) (n : Int) (F g1 g2 : List Fact) (c : Nat) (r : Fact) (k : Nat) (i : Int), vs = [.ref p, .ref l1, .ref l2, .ref pl] ∧ TrAt H p q n F ∧ due n F = none ∧ TreeG n F ∧ F.length ≤ 6 ∧ (∀ r ∈ F, r.2.2 ≤ 7) ∧ FactsAt H l1 g1 ∧ FactsAt H l2 g2 ∧ (∀ r ∈ g1, MrOk F 12 r) ∧ (∀ r ∈ g2, MrOk F 12 r) ∧ g1.length ≤ 3 ∧ g2.length ≤ 3 ∧
  PlaceAt CP H pl r ∧ PlE F c r k i ∧ 1 ≤ c ∧ c ≤ 4 ∧ ∀ H', Same H H' → Q (.bl true) H'
section
variable {P : Program} {w : World} {K : PySem.W.Frag} {mg : Str → Option Value} {base : Heap}
abbrev nCompHolds : List Str := ["_law_spec", "_law_one", "_law_other", "_law_place", "_law_first", "_law_both", "_law_middle", "_law_sample_here", "_law_start"]
theorem scCompHolds : FnScope nCompHolds ["_law_spec", "_law_one", "_law_other", "_law_place"] (defScope sCompHolds) := ⟨rfl, rfl, rfl, by decide +kernel, rfl, by decide +kernel, by decide +kernel⟩
theorem ok_compHolds {f fBR fBa fSm fCo fAF CT CR CM CP CW CB CNR COR CPc : Addr} {fd fdBR fdBa fdSm fdCo fdAF : FuncData} {ds : List Value} (F0 : Fun K "_law_composition_holds" "_law_composition_holds" sCompHolds f fd)
    (FBR : FnOk P w K mg base CX0 8 fBR fdBR ["_law_spec", "_law_marches"] (spBRow K CT CR CM CP CW)) (bBR : Binds K fdBR ["_law_spec", "_law_marches"] []) (mBR : mg "_law_build_row" = some (.ref fBR)) (kBR : PySem.W.keepIn K (.ref fBR) = true)
    (FBa : FnOk P w K mg base CX0 12 fBa fdBa ["row", "place"] (spBack K CT CR CM CP CW CPc)) (bBa : Binds K fdBa ["row", "place"] []) (mBa : mg "back" = some (.ref fBa)) (kBa : PySem.W.keepIn K (.ref fBa) = true)
    (FSm : FnOk P w K mg base CX0 5 fSm fdSm ["_law_pieces"] (spSamples CP CPc)) (bSm : Binds K fdSm ["_law_pieces"] []) (mSm : mg "_law_samples" = some (.ref fSm)) (kSm : PySem.W.keepIn K (.ref fSm) = true)
    (FCo : FnOk P w K mg base CX0 1 fCo fdCo ["_law_pieces", "_law_place"] (spContains CP CPc)) (bCo : Binds K fdCo ["_law_pieces", "_law_place"] []) (mCo : mg "_law_contains" = some (.ref fCo)) (kCo : PySem.W.keepIn K (.ref fCo) = true)
    (FAF : FnOk P w K mg base (L2.CX P w) 8 fAF fdAF ["row", "place", "rounds"] (spAfter K CT CR CM CP CW CB CNR COR)) (rAF : Vals [V.int 1] ds) (bAF : Binds K fdAF ["row", "place", "rounds"] ds) (mAF : mg "after" = some (.ref fAF)) (kAF : PySem.W.keepIn K (.ref fAF) = true) : FnOk P w K mg base CX0 13 f fd ["_law_spec", "_law_one", "_law_other", "_law_place"] (spCompHolds CP) := by
  refine F0.ok scCompHolds (fun vs H Q E h => ?_) (fun cdv A outer s0 H vs Q E hr h => ?_)
  · obtain ⟨p, q, l1, l2, pl, n, fs, g1, g2, c, r, k, i, rfl, _⟩ := h
    rfl
  · obtain ⟨p, q, l1, l2, pl, n, fs, g1, g2, c, r, k, i, rfl, TA, dueF, TG, f6, l7, fa1, fa2, ok1, ok2, n1, n2', PL, pe, c1, c4, kont⟩ := h
    have T := TG.m
    have n2 := TG.n2
    have hr1 : Room 1 _ := hr.mono (by decide)
    have hr5 : Room 5 _ := hr.mono (by decide)
    have hr8 : Room 8 _ := hr.mono (by decide)
    have hr12 : Room 12 _ := hr.mono (by decide)
    refine ⟨_, pss_cons (ps_set (i := 4) scCompHolds.nd rfl (Or.inl rfl) (pe_call FBR hr8 rfl mBR kBR bBR .nil pass0 (pa_cons (pv 0) (pa_cons (pv 1) pa_nil))))
      (pss_cons (ps_set (i := 5) scCompHolds.nd rfl (Or.inl rfl) (pe_call FBa hr12 rfl mBa kBa bBa .nil pass0 (pa_cons (pe_call FBR hr8 rfl mBR kBR bBR .nil pass0 (pa_cons (pv 0) (pa_cons (pe_op op_catS (pv 1) (pv 2)) pa_nil))) (pa_cons (pv 3) pa_nil))))
      (pss_cons (ps_set (i := 6) scCompHolds.nd rfl (Or.inl rfl) (pe_call FBa hr12 rfl mBa kBa bBa .nil pass0 (pa_cons (pe_call FBR hr8 rfl mBR kBR bBR .nil pass0 (pa_cons (pv 0) (pa_cons (pv 2) pa_nil))) (pa_cons (pv 3) pa_nil))))
      (pss_cons (ps_for PassesOwn.never rfl (pi_list (pe_call FSm hr5 rfl mSm kSm bSm .nil pass0 (pa_cons (pv 5) pa_nil))) (pg_name (i := 7) scCompHolds.nd rfl (Or.inl rfl))
        (pss_one (ps_if (pt_not (pt_val (pe_call FCo hr1 rfl mCo kCo bCo .nil pass0 (pa_cons (pv 6) (pa_cons (pe_call FAF hr8 rfl mAF kAF bAF rAF passF (pa_cons (pv 4) (pa_cons (pv 7) pa_nil))) pa_nil)))))
          (pss_one (ps_ret pe_bl))
          pss_nil)))
      (pss_cons (ps_for PassesOwn.never rfl (pi_list (pe_call FSm hr5 rfl mSm kSm bSm .nil pass0 (pa_cons (pv 6) pa_nil))) (pg_name (i := 7) scCompHolds.nd rfl (Or.inl rfl))
        (pss_one (ps_for PassesOwn.never rfl (pi_list (pe_call FSm hr5 rfl mSm kSm bSm .nil pass0 (pa_cons (pe_call FBa hr12 rfl mBa kBa bBa .nil pass0 (pa_cons (pv 4) (pa_cons (pv 7) pa_nil))) pa_nil))) (pg_name (i := 8) scCompHolds.nd rfl (Or.inl rfl))
          (pss_one (ps_if (pt_not (pt_val (pe_call FCo hr1 rfl mCo kCo bCo .nil pass0 (pa_cons (pv 5) (pa_cons (pv 8) pa_nil)))))
            (pss_one (ps_ret pe_bl))
            pss_nil)))))
      (pss_one (ps_ret pe_bl)))))), ?_⟩
    have hS : (1 : Int) ≤ (c : Int) := by omega
    have okm1 := mgs_ok ok1 (show (12 : Int) ≤ 1000000000 by decide)
    have okm2 := mgs_ok ok2 (show (12 : Int) ≤ 1000000000 by decide)
    have ok12 : ∀ r ∈ g1 ++ g2, MrOk fs 12 r := fun r hr => (List.mem_append.mp hr).elim (ok1 r) (ok2 r)
    have okm12 := mgs_ok ok12 (show (12 : Int) ≤ 1000000000 by decide)
    have few : ∀ {f' : Nat → Nat → Nd} {M' : List It}, JOk fs f' (0, 0) (fs.length, 0) M' → M'.length ≤ 400 := fun jo => few_small (B := 7) l7 (by omega) jo
    have ov : OnT fs c (node fs c k i) := ⟨k, i, pe.on, rfl⟩
    have kp_ := key_pl T n2 hS ov
    obtain ⟨t1, et1, ht1⟩ := id fa1
    obtain ⟨t2, et2, ht2⟩ := id fa2
    -- first = build_row(spec, one)
    refine ⟨_, rfl, _, rfl, p, q, l1, n, 12, fs, g1, rfl, TA, dueF, TG, by omega, fa1, ok1, by decide, by omega, fun rw1 H1 x1 ps1 ms1 s1 Ra Ta Ma => ?_⟩
    have R1 : R37 K CT CR CM CP CW rw1 x1 n ps1 ms1 fs (g1.map mg3) H1 := ⟨Ra, Ta, Ma⟩
    -- both = back(build_row(spec, one + other), place)
    refine ⟨_, rfl, _, rfl, _, rfl, l1, l2, _, _, rfl, rfl, SqL.of (s1 _ _ et1), SqL.of (s1 _ _ et2), by rw [PySem.sizeLine_eq, List.length_map, List.length_map, Paired.length ht1, Paired.length ht2]; omega, fun l3 hl3 => ?_⟩
    have s2 := s1.trans (Same.new (o := .lst (t1.map V.ref ++ t2.map V.ref)) hl3)
    have R1b := R1.kp (.of (Same.new (o := .lst (t1.map V.ref ++ t2.map V.ref)) hl3))
    have el3 : upd H1 l3 (.lst (t1.map V.ref ++ t2.map V.ref)) l3 = some (.lst (t1.map V.ref ++ t2.map V.ref)) := upd_same
    clear hl3
    generalize upd H1 l3 (.lst (t1.map V.ref ++ t2.map V.ref)) = H2 at *
    have fa3 : FactsAt H2 l3 (g1 ++ g2) := ⟨t1 ++ t2, by rw [List.map_append]; exact el3, paired_app (tups_same ht1 s2) (tups_same ht2 s2)⟩
    refine ⟨p, q, l3, n, 12, fs, g1 ++ g2, rfl, TA.same s2, dueF, TG, by omega, fa3, ok12, by decide, by rw [List.length_append]; omega, fun rw2 H3 x2 ps2 ms2 s3 Rb Tb Mb => ?_⟩
    have s13 := s2.trans s3
    refine ⟨_, rfl, tn ?_⟩
    show spBack K CT CR CM CP CW CPc [V.ref rw2, V.ref pl] H3 _ _
    refine backW Rb Tb TG Mb okm12 (fun j f M _ _ jo => few jo) (PL.same s13) pe c1 (by omega) fun Db us xs Z m H4 s4 hDb eDb m0 em px pz rs ul => ?_
    have s14 := s13.trans s4
    have ed : 1 ≤ (keyF fs c (node fs c k i)).2.2 := kp_.2.1
    generalize hd : (keyF fs c (node fs c k i)).2.2 = d at *
    have m1 : 1 ≤ m := m0
    -- middle = back(build_row(spec, other), place)
    refine ⟨_, rfl, _, rfl, p, q, l2, n, 12, fs, g2, rfl, TA.same s14, dueF, TG, by omega, fa2.same s14, ok2, by decide, by omega, fun rw3 H5 x3 ps3 ms3 s5 Rc Tc Mc => ?_⟩
    have s15 := s14.trans s5
    refine ⟨_, rfl, tn ?_⟩
    show spBack K CT CR CM CP CW CPc [V.ref rw3, V.ref pl] H5 _ _
    refine backW Rc Tc TG Mc okm2 (fun j f M _ _ jo => few jo) (PL.same s15) pe c1 (by omega) fun Dm um xm Zm m' H6 s6 hDm eDm m0' em' pxm pzm rsm ulm => ?_
    have s16 := s15.trans s6
    rw [hd] at em' pzm
    have emm : m' = m := Int.eq_of_mul_eq_mul_left (show d ≠ 0 by omega) (em'.symm.trans em)
    subst emm
    have s46 := s5.trans s6
    have eDb6 := s46 _ _ eDb
    have px6 : Paired (PcAt CPc H6) us xs := Paired.mapP px fun _ _ h => h.same s46
    have R6 := R1b.kp (.of ((s3.trans s4).trans s46))
    generalize hv : node fs c k i = v at *
    -- what is known of the runs
    have okB2 := mg_lngC ok12 hS (by omega)
    have okM2 := mg_lngC ok2 hS (by omega)
    have both2 : RunsAt fs ((g1 ++ g2).map mg3) (2 * (c : Int)) (scN 2 v) (Z.map fun z => (z.1, z.2.1 * 2, z.2.2 * 2)) := runs_up T hS okB2 (l := 2) (by decide) rs
    have both4 : RunsAt fs ((g1 ++ g2).map mg3) (4 * (c : Int)) (scN 4 v) (Z.map fun z => (z.1, z.2.1 * 4, z.2.2 * 4)) := runs_up T hS okB2 (l := 4) (by decide) rs
    have mid2 : RunsAt fs (g2.map mg3) (2 * (c : Int)) (scN 2 v) (Zm.map fun z => (z.1, z.2.1 * 2, z.2.2 * 2)) := runs_up T hS okM2 (l := 2) (by decide) rsm
    rw [List.map_append] at both2 both4
    have in_runs : ∀ {l : Nat} {gs : List MG} {Z : List It} {w : Nd}, RunsAt fs gs ((l : Int) * c) w (Z.map fun z => (z.1, z.2.1 * l, z.2.2 * l)) → ∀ {k t : Nat}, ((k < fs.length ∧ (t : Int) ≤ sz fs ((l : Int) * c) k) ∧ GoL fs ((l : Int) * c) gs (node fs ((l : Int) * c) k ((t : Nat) : Int)) w) ↔ ∃ z ∈ Z, z.1 = k ∧ z.2.1 * l ≤ t ∧ t ≤ z.2.2 * l := fun {l gs Z w} h {k t} => by
      refine (h.iff k t).trans ⟨?_, ?_⟩
      · rintro ⟨z, hz, a, b, e⟩
        obtain ⟨z0, h0, rfl⟩ := List.mem_map.mp hz
        exact ⟨z0, h0, a, b, e⟩
      · rintro ⟨z, hz, a, b, e⟩
        exact ⟨_, List.mem_map.mpr ⟨z, hz, rfl⟩, a, b, e⟩
    have zin := rs.in_
    have zinm := rsm.in_
    have xbnd : ∀ {xs : List PFact} {Z : List It}, Paired (PcR m' d) xs Z → ∀ x ∈ xs, 1 ≤ x.2.2.2 ∧ x.2.2.2 ≤ 1000 := fun {xs Z} pz x hx => by
      obtain ⟨z, _, _, e2, _⟩ := paired_memL pz x hx
      have d4 : d ≤ 4 := by
        have := Int.mul_le_mul_of_nonneg_left m1 (show 0 ≤ d by omega)
        omega
      rw [e2]
      omega
    -- for sample in samples(both)
    refine ⟨_, rfl, Db, us, xs, rfl, eDb6, px6, ul, xbnd pz, fun L ws H7 s7 eL pw => ⟨L, rfl, ⟨_, SqL.of eL⟩, for_list (K := K) (a := L) (xs := ws.map V.ref) (fun j σ G => ∃ (v7 v8 : Option V), σ = [some (.ref p), some (.ref l1), some (.ref l2), some (.ref pl), some (.ref rw1), some (.ref Db), some (.ref Dm), v7, v8] ∧ Same H7 G)
      ⟨none, none, rfl, Same.refl H7⟩ (fun j σ G _ ⟨_, _, _, b⟩ => SqL.of (b _ _ eL)) ?_ ?_⟩⟩
    · rintro j y σ G hj ⟨v7, v8, rfl, sg⟩
      obtain ⟨wp, hwp, rfl⟩ := map_get hj
      obtain ⟨rr, hrr, prr⟩ := paired_get pw hwp
      obtain ⟨z, hz, t, pe2, ta, tb⟩ := smp_at hS m1 ed em pz zin rr (List.mem_of_getElem? hrr)
      have g12 := ((in_runs (l := 2) both2 (k := z.1) (t := t)).mpr ⟨z, hz, rfl, ta, tb⟩).2
      obtain ⟨w', ga, gb⟩ := GoL.split g12
      have s7G := s7.trans sg
      dsimp only [gName]
      refine ⟨_, rfl, _, rfl, _, rfl, tn ?_⟩
      show spAfter K CT CR CM CP CW CB CNR COR [V.ref rw1, V.ref wp, V.int 1] G _ _
      refine after1 (R6.kp (.of s7G)) TG okm1 (by rw [List.length_map]; omega) (prr.same sg) pe2 (by omega) (by omega) fun pa G' v' s8 ga' pk => ?_
      have ev := GoL.uniq T (by omega) okm1 ga' ga
      subst ev
      have ow : OnT fs (2 * (c : Int)) v' := GoL.on T (by omega) okm1 ⟨_, _, pe2.on, rfl⟩ ga'
      obtain ⟨kk, ii, pk2, en⟩ := key_ple T n2 (by omega) ow
      obtain ⟨t', rfl⟩ : ∃ t' : Nat, ii = (t' : Int) := ⟨ii.toNat, by have := pk2.on.2.1; omega⟩
      obtain ⟨z', hz', e1, q1, q2⟩ := (in_runs (l := 2) mid2 (k := kk) (t := t')).mp ⟨⟨pk2.on.1, pk2.on.2.2⟩, by
        show GoL fs (2 * (c : Int)) _ (node fs (2 * (c : Int)) kk (t' : Int)) _
        rw [en]
        exact gb⟩
      obtain ⟨x', hx', qx⟩ := paired_memR pzm z' hz'
      have s68 := s7G.trans s8
      refine ⟨Dm, pa, um, xm, _, rfl, s68 _ _ eDm, Paired.mapP pxm fun _ _ h => h.same s68, xbnd pzm, pk, pk2.p1, (by have := pk2.le; omega), ⟨x', hx', in_piece (l := 2) m1 ed (by decide) em pk2 qx e1 (by omega) (by omega)⟩, ⟨_, rfl, iteF ⟨_, _, rfl, sg.trans s8⟩⟩⟩
    · rintro σ G ⟨v7, v8, rfl, sg⟩
      have s7G := s7.trans sg
      -- for sample in samples(middle)
      refine ⟨_, rfl, Dm, um, xm, rfl, s7G _ _ eDm, Paired.mapP pxm fun _ _ h => h.same s7G, ulm, xbnd pzm, fun L2 ws2 H8 s8 eL2 pw2 => ⟨L2, rfl, ⟨_, SqL.of eL2⟩, for_list (K := K) (a := L2) (xs := ws2.map V.ref) (fun j σ G => ∃ (v7 v8 : Option V), σ = [some (.ref p), some (.ref l1), some (.ref l2), some (.ref pl), some (.ref rw1), some (.ref Db), some (.ref Dm), v7, v8] ∧ Same H8 G)
        ⟨v7, v8, rfl, Same.refl H8⟩ (fun j σ G _ ⟨_, _, _, b⟩ => SqL.of (b _ _ eL2)) ?_ ?_⟩⟩
      · rintro j y σ G1 hj ⟨w7, w8, rfl, sg1⟩
        obtain ⟨wp, hwp, rfl⟩ := map_get hj
        obtain ⟨rr, hrr, prr⟩ := paired_get pw2 hwp
        obtain ⟨z, hz, t, pe2, ta, tb⟩ := smp_at hS m1 ed em pzm zinm rr (List.mem_of_getElem? hrr)
        have gb : GoL fs (2 * (c : Int)) (g2.map mg3) (node fs (2 * (c : Int)) z.1 ((t : Nat) : Int)) (scN 2 v) := ((in_runs (l := 2) mid2 (k := z.1) (t := t)).mpr ⟨z, hz, rfl, ta, tb⟩).2
        have s6G := (s7G.trans s8).trans sg1
        have R7 := R6.kp (.of s6G)
        have pe2' : PlE fs ((2 * c : Nat) : Int) rr z.1 ((t : Nat) : Int) := by push_cast; exact pe2
        dsimp only [gName]
        refine ⟨_, rfl, _, rfl, tn ?_⟩
        show spBack K CT CR CM CP CW CPc [V.ref rw1, V.ref wp] G1 _ _
        refine backW R7.row R7.tree TG R7.mas okm1 (fun j f M _ _ jo => few jo) (prr.same sg1) pe2' (by omega) (by omega) fun Ds us3 xs3 Z3 m3 H9 s9 hDs eDs m30 em3 px3 pz3 rs3 ul3 => ?_
        have hS2 : (1 : Int) ≤ ((2 * c : Nat) : Int) := by omega
        have os : OnT fs ((2 * c : Nat) : Int) (node fs ((2 * c : Nat) : Int) z.1 ((t : Nat) : Int)) := ⟨_, _, pe2'.on, rfl⟩
        have kp3 := key_pl T n2 hS2 os
        have d31 := kp3.2.1
        have d32 := kp3.2.2.1
        generalize hd3 : (keyF fs ((2 * c : Nat) : Int) (node fs ((2 * c : Nat) : Int) z.1 ((t : Nat) : Int))).2.2 = d3 at *
        have run3 : RunsAt fs (g1.map mg3) (2 * ((2 * c : Nat) : Int)) (scN 2 (node fs ((2 * c : Nat) : Int) z.1 ((t : Nat) : Int))) (Z3.map fun z => (z.1, z.2.1 * 2, z.2.2 * 2)) := runs_up T hS2 (mg_lngC ok1 hS2 (by omega)) (l := 2) (by decide) rs3
        have e4 : (2 : Int) * ((2 * c : Nat) : Int) = 4 * (c : Int) := by omega
        have gb4 : GoL fs (4 * (c : Int)) (g2.map mg3) (scN 2 (node fs ((2 * c : Nat) : Int) z.1 ((t : Nat) : Int))) (scN 4 v) := by
          have h := goL_up (l := 2) (by decide) gb
          rw [scN_scN, show (2 : Int) * (2 * (c : Int)) = 4 * (c : Int) by omega, show (2 * 2 : Int) = 4 by decide, show (2 : Int) * (c : Int) = ((2 * c : Nat) : Int) by omega] at h
          exact h
        -- for start in samples(..)
        refine ⟨Ds, us3, xs3, rfl, eDs, px3, ul3, fun x hx => ?_, fun L3 ws3 H10 s10 eL3 pw3 => ⟨L3, rfl, ⟨_, SqL.of eL3⟩, for_list (K := K) (a := L3) (xs := ws3.map V.ref) (fun j σ G => ∃ (v8 : Option V), σ = [some (.ref p), some (.ref l1), some (.ref l2), some (.ref pl), some (.ref rw1), some (.ref Db), some (.ref Dm), some (.ref wp), v8] ∧ Same H10 G)
          ⟨w8, rfl, Same.refl H10⟩ (fun j σ G _ ⟨_, _, b⟩ => SqL.of (b _ _ eL3)) ?_ ?_⟩⟩
        · obtain ⟨z3, _, _, e2, _⟩ := paired_memL pz3 x hx
          rw [e2]
          omega
        · rintro j3 y σ G2 hj3 ⟨u8, rfl, sg2⟩
          obtain ⟨wp3, hwp3, rfl⟩ := map_get hj3
          obtain ⟨rr3, hrr3, prr3⟩ := paired_get pw3 hwp3
          obtain ⟨z3, hz3, t3, pe3, ta3, tb3⟩ := smp_at hS2 m30 d31 em3 pz3 rs3.in_ rr3 (List.mem_of_getElem? hrr3)
          have ga3 := ((run3.iff z3.1 t3).mpr ⟨_, List.mem_map.mpr ⟨z3, hz3, rfl⟩, rfl, ta3, tb3⟩).2
          rw [e4] at ga3 pe3
          have g3 := GoL.append ga3 gb4
          obtain ⟨z0, hz0, e1, q1, q2⟩ := (in_runs (l := 4) both4 (k := z3.1) (t := t3)).mp ⟨⟨pe3.on.1, pe3.on.2.2⟩, g3⟩
          obtain ⟨x', hx', qx⟩ := paired_memR pz z0 hz0
          have s610 := ((s6G.trans s9).trans s10).trans sg2
          dsimp only [gName]
          refine ⟨_, rfl, _, rfl, Db, wp3, us, xs, rr3, rfl, s610 _ _ eDb6, Paired.mapP px6 fun _ _ h => h.same s610, xbnd pz, prr3.same sg2, pe3.p1, (by have := pe3.le; omega), ⟨x', hx', in_piece (l := 4) m1 ed (by decide) em pe3 qx e1 (by omega) (by omega)⟩, ⟨_, rfl, iteF ⟨_, rfl, sg2⟩⟩⟩
        · rintro σ G2 ⟨u8, rfl, sg2⟩
          exact ⟨_, _, rfl, ((sg1.trans s9).trans s10).trans sg2⟩
      · rintro σ G1 ⟨w7, w8, rfl, sg1⟩
        exact kont G1 (s16.trans ((s7G.trans s8).trans sg1))
end
end OT
set_option Elab.async false
set_option linter.all false
set_option maxRecDepth 100000
set_option maxHeartbeats 4000000
namespace OT
open PySem L2 OTR
abbrev sScalHolds : Stmt := top 72
theorem MrOk.sc {F : List Fact} {far c : Int} {r : Fact} (h : MrOk F far r) (c1 : 1 ≤ c) (c2 : c ≤ 70000000) (hf : far ≤ 13) : MrOk (lng c F) 910000000 (r.1, r.2.1 * c, r.2.2 * c) := by
  have s := h.s1
  have s2 := h.s2
  refine ⟨⟨h.rd.1, by rw [lng_len]; exact h.rd.2⟩, Int.mul_nonneg h.lo (by omega), ?_, ?_, .inr ?_⟩
  · rw [rd_lng]
    exact Int.mul_le_mul_of_nonneg_right h.hi (by omega)
  · have := Int.mul_le_mul s c1 (by omega) (by omega)
    rw [Int.one_mul] at this
    exact this
  · have := Int.mul_le_mul (show r.2.2 ≤ 13 by omega) c2 (by omega) (by omega)
    exact Int.le_trans this (by decide)
def scF (c : Int) (gs : List Fact) : List Fact := gs.map fun r => (r.1, r.2.1 * c, r.2.2 * c)
theorem scF_mg (c : Int) (gs : List Fact) : (scF c gs).map mg3 = finM c (gs.map mg3) := by
  unfold scF finM
  rw [List.map_map, List.map_map]
  rfl
theorem runs_lng {F : List Fact} {gs : List MG} {S q : Int} {v : Nd} {Z : List It} : RunsAt (lng S F) (finM S gs) q v Z ↔ RunsAt F gs (q * S) v Z := by
  have e : ∀ k t, (((k < (lng S F).length ∧ ((t : Nat) : Int) ≤ sz (lng S F) q k) ∧ GoL (lng S F) q (finM S gs) (node (lng S F) q k ((t : Nat) : Int)) v) ↔ ((k < F.length ∧ ((t : Nat) : Int) ≤ sz F (q * S) k) ∧ GoL F (q * S) gs (node F (q * S) k ((t : Nat) : Int)) v)) := fun k t => by
    rw [lng_len, sz_lng, node_lng, goL_lngI]
  exact ⟨fun r => RsI.congr r e, fun r => RsI.congr r fun k t => (e k t).symm⟩
theorem sc_fact {A a d d2 m m2 c fc : Int} (m20 : 0 < m2) (e : A * m2 = a * m * fc) (e1 : c = d * m) (e2 : c = d2 * m2) : A * d = a * fc * d2 := by
  refine Int.eq_of_mul_eq_mul_right (show m2 ≠ 0 by omega) ?_
  rw [Int.mul_assoc (a * fc) d2 m2, ← e2, e1, Int.mul_right_comm A d m2, e, Int.mul_right_comm a m fc, Int.mul_assoc (a * fc) m d, Int.mul_comm m d]
def spScalHolds (CP CPc : Addr) : Sp := fun vs H Q _ => ∃ (p q l pl D : Addr) (n fc : Int) (F g : List Fact) (c : Nat) (r : Fact) (k : Nat) (i m d : Int) (us : List Addr) (xs : List PFact) (Z : List It), vs = [.ref p, .ref l, .ref pl, .ref D, .int fc] ∧ TrAt H p q n F ∧ Drawn 7 7 n F ∧ (∀ r ∈ F, r.2.2 ≤ 7) ∧ FactsAt H l g ∧ (∀ r ∈ g, MrOk F 12 r) ∧ g.length ≤ 6 ∧
  PlaceAt CP H pl r ∧ PlE F c r k i ∧ 1 ≤ c ∧ c ≤ 4 ∧ H D = some (.lst (us.map V.ref)) ∧ Paired (PcAt CPc H) us xs ∧ Paired (PcR m d) xs Z ∧ 1 ≤ m ∧ 1 ≤ d ∧ (c : Int) = d * m ∧ us.length ≤ 400 ∧ RunsAt F (g.map mg3) c (node F c k i) Z ∧ 1 ≤ fc ∧ fc ≤ 70000000 ∧ ∀ H', Same H H' → Q (.bl true) H'
section
variable {P : Program} {w : World} {K : PySem.W.Frag} {mg : Str → Option Value} {base : Heap}
abbrev nScalHolds : List Str := ["_law_spec", "_law_marches", "_law_place", "_law_pieces", "_law_factor", "_law_longer", "_law_scaled_here", "_law_target", "_law_result", "_law_piece", "_law_small"]
theorem scScalHolds : FnScope nScalHolds ["_law_spec", "_law_marches", "_law_place", "_law_pieces", "_law_factor"] (defScope sScalHolds) := ⟨rfl, rfl, rfl, by decide +kernel, rfl, by decide +kernel, by decide +kernel⟩
theorem ok_scalHolds {f fSc fBR fBa fPl CT CR CM CP CW CB CPc : Addr} {fd fdSc fdBR fdBa fdPl : FuncData} (F0 : Fun K "_law_scaling_holds" "_law_scaling_holds" sScalHolds f fd) (TP : PlT K mg CP) (TPc : PcT K mg CPc)
    (FSc : FnOk P w K mg base CX0 1 fSc fdSc ["_law_spec", "_law_marches", "_law_factor"] spScaled) (bSc : Binds K fdSc ["_law_spec", "_law_marches", "_law_factor"] []) (mSc : mg "_law_scaled" = some (.ref fSc)) (kSc : PySem.W.keepIn K (.ref fSc) = true)
    (FBR : FnOk P w K mg base CX0 8 fBR fdBR ["_law_spec", "_law_marches"] (spBRow K CT CR CM CP CW)) (bBR : Binds K fdBR ["_law_spec", "_law_marches"] []) (mBR : mg "_law_build_row" = some (.ref fBR)) (kBR : PySem.W.keepIn K (.ref fBR) = true)
    (FBa : FnOk P w K mg base CX0 12 fBa fdBa ["row", "place"] (spBack K CT CR CM CP CW CPc)) (bBa : Binds K fdBa ["row", "place"] []) (mBa : mg "back" = some (.ref fBa)) (kBa : PySem.W.keepIn K (.ref fBa) = true)
    (MPl : Mk K CP fPl) (FPl : FnOk P w K mg base (L2.CX P w) 3 fPl fdPl ["self", "road", "number", "parts"] (spPlaceI CP CB)) (bPl : Binds K fdPl ["self", "road", "number", "parts"] [])
    (hLen : mg "len" = none) (hZip : mg "zip" = none) : FnOk P w K mg base CX0 13 f fd ["_law_spec", "_law_marches", "_law_place", "_law_pieces", "_law_factor"] (spScalHolds CP CPc) := by
  refine F0.ok scScalHolds (fun vs H Q E h => ?_) (fun cdv A outer s0 H vs Q E hr h => ?_)
  · obtain ⟨p, q, l, pl, D, n, fc, fs, g, c, r, k, i, m, d, us, xs, Z, rfl, _⟩ := h
    rfl
  · obtain ⟨p, q, l, pl, D, n, fc, fs, g, c, r, k, i, m, d, us, xs, Z, rfl, TA, dr, l7, fa, ok, gl, PL, pe, c1, c4, eD, px, pz, m1, d1, em, ul, rs, fc1, fc2, kont⟩ := h
    have hr1 : Room 1 _ := hr.mono (by decide)
    have hr4 : Room 4 _ := hr.mono (by decide)
    have hr8 : Room 8 _ := hr.mono (by decide)
    have hr12 : Room 12 _ := hr.mono (by decide)
    refine ⟨_, pss_cons (ps_asg (pe_call FSc hr1 rfl mSc kSc bSc .nil pass0 (pa_cons (pv 0) (pa_cons (pv 1) (pa_cons (pv 4) pa_nil)))) (pg_tup rfl (pgs_cons (pg_name (i := 5) scScalHolds.nd rfl (Or.inl rfl)) (pgs_cons (pg_name (i := 6) scScalHolds.nd rfl (Or.inl rfl)) pgs_nil))))
      (pss_cons (ps_set (i := 7) scScalHolds.nd rfl (Or.inl rfl) (pe_make MPl FPl hr4 (by rfl) TP.mgC bPl .nil passF (pa_cons (pe_fld (pv 2) rfl) (pa_cons (pe_op op_mul (pe_fld (pv 2) rfl) (pv 4)) (pa_cons (pe_fld (pv 2) rfl) pa_nil)))))
      (pss_cons (ps_set (i := 8) scScalHolds.nd rfl (Or.inl rfl) (pe_call FBa hr12 rfl mBa kBa bBa .nil pass0 (pa_cons (pe_call FBR hr8 rfl mBR kBR bBR .nil pass0 (pa_cons (pv 5) (pa_cons (pv 6) pa_nil))) (pa_cons (pv 7) pa_nil))))
      (pss_cons (ps_if (pt_cmpR op_ne (pe_callB call_len (by rfl) hLen (by decide +kernel) (pa_cons (pv 8) pa_nil)) (pe_callB call_len (by rfl) hLen (by decide +kernel) (pa_cons (pv 3) pa_nil)) (nomark _))
        (pss_one (ps_ret pe_bl))
        pss_nil)
      (pss_cons (ps_for PassesOwn.never rfl (pi_zip (by rfl) hZip (pa_cons (pv 8) (pa_cons (pv 3) pa_nil))) (pg_tup rfl (pgs_cons (pg_name (i := 9) scScalHolds.nd rfl (Or.inl rfl)) (pgs_cons (pg_name (i := 10) scScalHolds.nd rfl (Or.inl rfl)) pgs_nil)))
        (pss_cons (ps_if (pt_cmpR op_ne (pe_fld (pv 9) rfl) (pe_fld (pv 10) rfl) (nomark _))
          (pss_one (ps_ret pe_bl))
          pss_nil)
        (pss_cons (ps_if (pt_cmpR op_ne (pe_op op_mul (pe_fld (pv 9) rfl) (pe_fld (pv 10) rfl)) (pe_op op_mul (pe_op op_mul (pe_fld (pv 10) rfl) (pv 4)) (pe_fld (pv 9) rfl)) (nomark _))
          (pss_one (ps_ret pe_bl))
          pss_nil)
        (pss_one (ps_if (pt_cmpR op_ne (pe_op op_mul (pe_fld (pv 9) rfl) (pe_fld (pv 10) rfl)) (pe_op op_mul (pe_op op_mul (pe_fld (pv 10) rfl) (pv 4)) (pe_fld (pv 9) rfl)) (nomark _))
          (pss_one (ps_ret pe_bl))
          pss_nil)))))
      (pss_one (ps_ret pe_bl)))))), ?_⟩
    have TG := drawn_tg dr (by decide) (by decide)
    have T := TG.m
    have n2 := TG.n2
    have hS : (1 : Int) ≤ (c : Int) := by omega
    have f6 : fs.length ≤ 6 := by have := dr.len; have := dr.hi; omega
    obtain ⟨cn, rfl⟩ : ∃ cn : Nat, fc = (cn : Int) := ⟨fc.toNat, by omega⟩
    have big : ∀ r ∈ fs, 1 ≤ r.2.2 ∧ r.2.2 ≤ 7 := fun r hr => ⟨(T.ok r hr).2.2, l7 r hr⟩
    have mulb : ∀ r ∈ fs, r.2.2 * (cn : Int) ≤ 1000000000 := fun r hr => Int.le_trans (Int.mul_le_mul (big r hr).2 fc2 (by omega) (by decide)) (by decide)
    have DL := dr.lng fc1 mulb
    have TGL := drawn_tg DL (by decide) (by decide)
    have TL := TGL.m
    have dueL : due n (lng (cn : Int) fs) = none := DL.due (by decide) (by decide)
    have okm := mgs_ok ok (show (12 : Int) ≤ 1000000000 by decide)
    have okS : ∀ r ∈ scF (cn : Int) g, MrOk (lng (cn : Int) fs) 910000000 r := fun r hr => by
      obtain ⟨r', hr', rfl⟩ := List.mem_map.mp hr
      exact (ok r' hr').sc fc1 fc2 (by decide)
    have okL : ∀ x ∈ finM (cn : Int) (g.map mg3), MgOk (lng (cn : Int) fs) x := by rw [← scF_mg]; exact mgs_ok okS (by decide)
    have few : ∀ (j : Nat) (f' : Nat → Nat → Nd) (M' : List It), Img (lng (cn : Int) fs) ((finM (cn : Int) (g.map mg3)).take j) f' → JOk (lng (cn : Int) fs) f' (0, 0) ((lng (cn : Int) fs).length, 0) M' → M'.length ≤ 400 := fun j f' M' im jo => by
      have e : (finM (cn : Int) (g.map mg3)).take j = finM (cn : Int) ((g.map mg3).take j) := by unfold finM; rw [List.map_take]
      rw [e] at im
      rw [lng_len] at jo
      have h := few_scaled T n2 (c := cn) (B := 7) (by omega) TL (fun k hk => by
        unfold sz
        rw [Int.mul_one]
        exact (big _ (List.mem_of_getElem? (rd_get hk))).2) (fun x hx => okm x (List.mem_of_mem_take hx)) im jo
      omega
    -- longer, scaled
    refine ⟨_, rfl, _, rfl, _, rfl, p, q, l, n, (cn : Int), fs, g, rfl, TA, fa, by omega, by omega, by omega, by omega, fun t p2 q2 l2 H1 s1 _ _ _ et TA1 fa1 => ⟨t, _, rfl, SqT.of et, rfl, _, _, rfl, _, _, rfl, rfl, ?_⟩⟩
    dsimp only [gName]
    -- target
    obtain ⟨dp, ep⟩ := id (PL.same s1)
    obtain ⟨e, e0, es, ei⟩ := pe.d
    have r4 := pe.le
    have r1 := pe.p1
    have lgB : r.2.2.natAbs.log2 < 9000 := by
      rw [Nat.log2_lt (by omega)]
      have : r.2.2.natAbs < 2 ^ 60 := by omega
      exact Nat.lt_of_lt_of_le this (Nat.pow_le_pow_right (by decide) (by decide))
    have cb : -(2 ^ 64 : Int) < (cn : Int) ∧ (cn : Int) < 2 ^ 64 := ⟨by omega, by omega⟩
    refine ⟨_, rfl, pl, CP, dp, _, _, rfl, ep, TP.cl, TP.nR, plF_r _, _, rfl, pl, CP, dp, _, _, rfl, ep, TP.cl, TP.nN, plF_n _, _, rfl, _, _, rfl, rfl, .inr cb, _, rfl, pl, CP, dp, _, _, rfl, ep, TP.cl, TP.nP, plF_p _, fun pt dt nt ndt net => ⟨pt, dt, (r.1, r.2.1 * (cn : Int), r.2.2), rfl, upd_same, fun z => absurd z (by show ¬ r.2.2 < 1; omega), fun _ => ⟨lgB, fun H2 PT keep => ⟨rfl, ?_⟩⟩⟩⟩
    have s2 := s1.trans (made_same nt ndt keep)
    have s12 := made_same nt ndt keep
    have pe2 : PlE (lng (cn : Int) fs) c (low (r.1, r.2.1 * (cn : Int), r.2.2)) k (i * (cn : Int)) := by
      have o : On (lng (cn : Int) fs) r.2.2 k (r.2.1 * (cn : Int)) := by
        have po := pe.pl
        have pon := pe.on
        rw [es] at pon
        obtain ⟨o1, o2, o3⟩ := pon
        have q0 : 0 ≤ r.2.1 := Int.le_of_mul_le_mul_right (by rw [Int.zero_mul, ← ei]; exact o2) e0
        refine on_lng.mpr ⟨o1, Int.mul_nonneg q0 (by omega), ?_⟩
        rw [sz_mul]
        refine Int.mul_le_mul_of_nonneg_right ?_ (by omega)
        rw [sz_mul, ei] at o3
        exact Int.le_of_mul_le_mul_right o3 e0
      have h := mkPlE (s := r.2.2) (c := e) r1 (by omega) o
      rw [← es, show r.2.1 * (cn : Int) * e = i * (cn : Int) by rw [ei, Int.mul_right_comm], ← pe.rd] at h
      exact h
    -- result = back(build_row(longer, scaled), target)
    refine ⟨_, rfl, _, rfl, p2, q2, l2, n, 910000000, lng (cn : Int) fs, scF (cn : Int) g, rfl, TA1.same s12, dueL, TGL, by rw [lng_len]; omega, fa1.same s12, okS, by decide, by unfold scF; rw [List.length_map]; omega, fun rw2 H3 x2 ps2 ms2 s3 Rb Tb Mb => ?_⟩
    rw [scF_mg] at Mb
    refine ⟨_, rfl, tn ?_⟩
    show spBack K CT CR CM CP CW CPc [V.ref rw2, V.ref pt] H3 _ _
    refine backW Rb Tb TGL Mb okL (fun j f M _ im jo => few j f M im jo) (PT.same s3) pe2 c1 (by omega) fun Db us2 xs2 Z2 m2 H4 s4 hDb eDb m20 em2 px2 pz2 rs2 ul2 => ?_
    have enode : node (lng (cn : Int) fs) c k (i * (cn : Int)) = scN cn (node fs c k i) := by
      rw [node_lng]
      exact node_mul (by omega) fs c k i
    rw [enode] at rs2
    have eZ : Z2 = Z.map fun z => ((z.1, z.2.1 * cn, z.2.2 * cn) : It) := by
      have h1 := runs_lng.mp rs2
      rw [Int.mul_comm (c : Int) (cn : Int)] at h1
      exact RsI.uniq h1 (runs_up T hS (mg_lngC ok hS (by omega)) (l := cn) (by omega) rs)
    subst eZ
    have lZ : us.length = Z.length := (Paired.length px).trans (Paired.length pz)
    have lZ2 : us2.length = Z.length := by rw [Paired.length px2, Paired.length pz2, List.length_map]
    have s14 := (s2.trans s3).trans s4
    have eD4 := s14 _ _ eD
    have px4 : Paired (PcAt CPc H4) us xs := Paired.mapP px fun _ _ h => h.same s14
    generalize hd2 : (keyF (lng (cn : Int) fs) (c : Int) (node (lng (cn : Int) fs) (c : Int) k (i * (cn : Int)))).2.2 = d2 at *
    have d21 : 1 ≤ d2 := by
      have h := (key_pl TL TGL.n2 hS (⟨k, _, pe2.on, rfl⟩ : OnT (lng (cn : Int) fs) c (node (lng (cn : Int) fs) c k (i * (cn : Int))))).2.1
      rw [hd2] at h
      exact h
    have dle : d ≤ 4 ∧ d2 ≤ 4 := by
      have h1 := Int.mul_le_mul_of_nonneg_left m1 (show 0 ≤ d by omega)
      have h2 := Int.mul_le_mul_of_nonneg_left (show 1 ≤ m2 from m20) (show 0 ≤ d2 by omega)
      omega
    clear eD px hDb s12 PT TA1 fa1 Rb Tb Mb
    -- len(result) != len(pieces)
    refine ⟨_, rfl, _, _, rfl, .inl ⟨_, SqL.of eDb, rfl⟩, _, rfl, _, _, rfl, .inl ⟨_, SqL.of eD4, rfl⟩, rfl, _, rfl, ?_⟩
    rw [List.length_map, List.length_map, lZ, lZ2, dec_int, show (((Z.length : Nat) : Int) == ((Z.length : Nat) : Int)) = true from beq_iff_eq.mpr rfl]
    refine iteF ?_
    refine ⟨_, rfl, _, rfl, Db, D, us2.map V.ref, us.map V.ref, rfl, SqL.of eDb, SqL.of eD4, for_it (walk_zip (K := K) (a := Db) (b := D) (n := us.length) (by rw [List.length_map, List.length_map, lZ, lZ2, Nat.min_self])) (fun j σ G => ∃ v9 v10 : Option V, σ = [some (.ref p), some (.ref l), some (.ref pl), some (.ref D), some (.int (cn : Int)), some (.ref p2), some (.ref l2), some (.ref pt), some (.ref Db), v9, v10] ∧ Same H4 G)
      ⟨none, none, rfl, Same.refl H4⟩ (fun j σ G _ ⟨_, _, _, s⟩ => ⟨SqL.of (s _ _ eDb), SqL.of (s _ _ eD4)⟩) ?_ ?_⟩
    · rintro j y σ G0 G1 hj ⟨v9, v10, rfl, sg⟩ ⟨T', x1, y1, rfl, hT, rfl, hx1, hy1⟩
      obtain ⟨u2, hu2, rfl⟩ := map_get (show (us2.map V.ref)[j]? = some x1 from hx1)
      obtain ⟨u, hu, rfl⟩ := map_get (show (us.map V.ref)[j]? = some y1 from hy1)
      obtain ⟨xx2, hx2, pux2⟩ := paired_get px2 hu2
      obtain ⟨xx, hx, pux⟩ := paired_get px4 hu
      obtain ⟨zz2, hz2, q2⟩ := paired_get pz2 hx2
      obtain ⟨zz, hz, q1⟩ := paired_get pz hx
      have ezz : zz2 = (zz.1, zz.2.1 * cn, zz.2.2 * cn) := by
        rw [List.getElem?_map, hz] at hz2
        exact (Option.some.inj hz2).symm
      subst ezz
      obtain ⟨f1, f2, f3, f4⟩ := q1
      obtain ⟨h1, h2, h3, h4⟩ := q2
      replace h1 : xx2.1 = ((zz.1 : Nat) : Int) := h1
      replace h3 : ((zz.2.1 * cn : Nat) : Int) = xx2.2.1 * m2 := h3
      replace h4 : ((zz.2.2 * cn : Nat) : Int) = xx2.2.2.1 * m2 := h4
      have eA : xx2.2.1 * xx.2.2.2 = xx.2.1 * (cn : Int) * xx2.2.2.2 := by
        rw [f2, h2]
        exact sc_fact m20 (by rw [← h3, ← f3]; push_cast; rfl) em em2
      have eB : xx2.2.2.1 * xx.2.2.2 = xx.2.2.1 * (cn : Int) * xx2.2.2.2 := by
        rw [f2, h2]
        exact sc_fact m20 (by rw [← h4, ← f4]; push_cast; rfl) em em2
      have sT := sg.trans (Same.new (o := .tup [.ref u2, .ref u]) hT)
      refine ⟨T', _, rfl, SqT.of upd_same, rfl, _, _, rfl, _, _, rfl, rfl, ?_⟩
      dsimp only [gName]
      obtain ⟨da, ea⟩ := pux2.same sT
      obtain ⟨db, eb⟩ := pux.same sT
      clear hT hx1 hy1
      generalize upd G0 T' (.tup [.ref u2, .ref u]) = G1 at sT ea eb ⊢
      have bd : -(2 ^ 64 : Int) < xx.2.2.2 ∧ xx.2.2.2 < 2 ^ 64 := by rw [f2]; exact ⟨by omega, by omega⟩
      have bd2 : -(2 ^ 64 : Int) < xx2.2.2.2 ∧ xx2.2.2.2 < 2 ^ 64 := by rw [h2]; exact ⟨by omega, by omega⟩
      -- road
      refine ⟨_, rfl, u2, CPc, da, _, _, rfl, ea, TPc.cl, TPc.nR, pcF_r _, _, rfl, u, CPc, db, _, _, rfl, eb, TPc.cl, TPc.nR, pcF_r _, rfl, _, rfl, ?_⟩
      rw [dec_int, show (xx2.1 == xx.1) = true from beq_iff_eq.mpr (h1.trans f1.symm)]
      refine iteF ?_
      -- least
      refine ⟨_, rfl, u2, CPc, da, _, _, rfl, ea, TPc.cl, TPc.nL, pcF_l _, _, rfl, u, CPc, db, _, _, rfl, eb, TPc.cl, TPc.nP, pcF_p _, _, _, rfl, rfl, .inr bd, _, rfl, u, CPc, db, _, _, rfl, eb, TPc.cl, TPc.nL, pcF_l _, _, rfl, _, _, rfl, rfl, .inr cb, _, rfl, u2, CPc, da, _, _, rfl, ea, TPc.cl, TPc.nP, pcF_p _, _, _, rfl, rfl, .inr bd2, rfl, _, rfl, ?_⟩
      rw [dec_int, show (xx2.2.1 * xx.2.2.2 == xx.2.1 * (cn : Int) * xx2.2.2.2) = true from beq_iff_eq.mpr eA]
      refine iteF ?_
      -- greatest
      refine ⟨_, rfl, u2, CPc, da, _, _, rfl, ea, TPc.cl, TPc.nG, pcF_g _, _, rfl, u, CPc, db, _, _, rfl, eb, TPc.cl, TPc.nP, pcF_p _, _, _, rfl, rfl, .inr bd, _, rfl, u, CPc, db, _, _, rfl, eb, TPc.cl, TPc.nG, pcF_g _, _, rfl, _, _, rfl, rfl, .inr cb, _, rfl, u2, CPc, da, _, _, rfl, ea, TPc.cl, TPc.nP, pcF_p _, _, _, rfl, rfl, .inr bd2, rfl, _, rfl, ?_⟩
      rw [dec_int, show (xx2.2.2.1 * xx.2.2.2 == xx.2.2.1 * (cn : Int) * xx2.2.2.2) = true from beq_iff_eq.mpr eB]
      exact iteF ⟨_, _, rfl, sT⟩
    · rintro σ G ⟨v9, v10, rfl, sg⟩
      exact kont G (s14.trans sg)
end
end OT
set_option Elab.async false
set_option linter.all false
set_option maxRecDepth 100000
set_option maxHeartbeats 4000000
set_option Elab.async false
set_option linter.all false
set_option maxRecDepth 100000
set_option maxHeartbeats 4000000
namespace OT
open PySem L2 OTR
abbrev sLaw : Stmt := top 73
section
variable {P : Program} {w : World} {K : PySem.W.Frag} {mg : Str → Option Value} {base : Heap}
abbrev nLaw : List Str := ["_law_script", "_law_cell_here", "_law_rng_here", "_law_spec", "_law_one", "_law_other", "_law_parts", "_law_road", "_law_place", "_law_row", "_law_pieces", "_law_factor", "_law_sample_here"]
theorem scLaw : FnScope nLaw ["_law_script"] (defScope sLaw) := ⟨rfl, rfl, rfl, by decide +kernel, rfl, by decide +kernel, by decide +kernel⟩
theorem ok_law {f fDr fPk fCe fRg fRt fRM fBR fBa fKY fAF fPH fCH fSH fSm fPl fPE CT CR CM CP CW CB CNR COR CPc : Addr} {fd fdDr fdPk fdCe fdRg fdRt fdRM fdBR fdBa fdKY fdAF fdPH fdCH fdSH fdSm fdPl fdPE : FuncData} {ds : List Value} (F : Fun K "law" "law" sLaw f fd) (TW : RwT K mg CW) (TP : PlT K mg CP)
    (MPl : Mk K CP fPl) (FPl : FnOk P w K mg base (L2.CX P w) 3 fPl fdPl ["self", "road", "number", "parts"] (spPlaceI CP CB)) (bPl : Binds K fdPl ["self", "road", "number", "parts"] [])
    (cP : QC K CP fPE) (FPE : FnOk P w K mg base CX0 1 fPE fdPE ["self", "other"] (spPlaceE CP)) (bPE : Binds K fdPE ["self", "other"] [])
    (FDr : FnOk P w K mg base CX0 1 fDr fdDr ["_law_rng_here", "_law_limit"] spDraw) (bDr : Binds K fdDr ["_law_rng_here", "_law_limit"] []) (mDr : mg "_law_draw" = some (.ref fDr)) (kDr : PySem.W.keepIn K (.ref fDr) = true)
    (FPk : FnOk P w K mg base CX0 2 fPk fdPk ["_law_rng_here", "_law_items"] (spPick K)) (bPk : Binds K fdPk ["_law_rng_here", "_law_items"] []) (mPk : mg "_law_pick" = some (.ref fPk)) (kPk : PySem.W.keepIn K (.ref fPk) = true)
    (FCe : FnOk P w K mg base CX0 1 fCe fdCe ["_law_script", "_law_index"] (spCellF K)) (bCe : Binds K fdCe ["_law_script", "_law_index"] []) (mCe : mg "_law_cell" = some (.ref fCe)) (kCe : PySem.W.keepIn K (.ref fCe) = true)
    (FRg : FnOk P w K mg base CX0 1 fRg fdRg ["_law_cell_here"] spSource) (bRg : Binds K fdRg ["_law_cell_here"] []) (mRg : mg "_law_rng" = some (.ref fRg)) (kRg : PySem.W.keepIn K (.ref fRg) = true)
    (FRt : FnOk P w K mg base CX0 3 fRt fdRt ["_law_rng_here", "_law_max_crossings", "_law_max_length"] spRTree) (bRt : Binds K fdRt ["_law_rng_here", "_law_max_crossings", "_law_max_length"] []) (mRt : mg "_law_random_tree" = some (.ref fRt)) (kRt : PySem.W.keepIn K (.ref fRt) = true)
    (FRM : FnOk P w K mg base CX0 3 fRM fdRM ["_law_rng_here", "_law_spec", "_law_max_count"] spRMarches) (bRM : Binds K fdRM ["_law_rng_here", "_law_spec", "_law_max_count"] []) (mRM : mg "_law_random_marches" = some (.ref fRM)) (kRM : PySem.W.keepIn K (.ref fRM) = true)
    (FBR : FnOk P w K mg base CX0 8 fBR fdBR ["_law_spec", "_law_marches"] (spBRow K CT CR CM CP CW)) (bBR : Binds K fdBR ["_law_spec", "_law_marches"] []) (mBR : mg "_law_build_row" = some (.ref fBR)) (kBR : PySem.W.keepIn K (.ref fBR) = true)
    (FBa : FnOk P w K mg base CX0 12 fBa fdBa ["row", "place"] (spBack K CT CR CM CP CW CPc)) (bBa : Binds K fdBa ["row", "place"] []) (mBa : mg "back" = some (.ref fBa)) (kBa : PySem.W.keepIn K (.ref fBa) = true)
    (FKY : FnOk P w K mg base (L2.CX P w) 6 fKY fdKY ["tree", "place"] (spKey K CT CR CP CNR COR)) (bKY : Binds K fdKY ["tree", "place"] []) (mKY : mg "key" = some (.ref fKY)) (kKY : PySem.W.keepIn K (.ref fKY) = true)
    (FAF : FnOk P w K mg base (L2.CX P w) 8 fAF fdAF ["row", "place", "rounds"] (spAfter K CT CR CM CP CW CB CNR COR)) (rAF : Vals [V.int 1] ds) (bAF : Binds K fdAF ["row", "place", "rounds"] ds) (mAF : mg "after" = some (.ref fAF)) (kAF : PySem.W.keepIn K (.ref fAF) = true)
    (FPH : FnOk P w K mg base CX0 9 fPH fdPH ["_law_rng_here", "_law_spec", "_law_row", "_law_place", "_law_pieces"] (spPiecesHold K CT CR CM CP CW CPc)) (bPH : Binds K fdPH ["_law_rng_here", "_law_spec", "_law_row", "_law_place", "_law_pieces"] []) (mPH : mg "_law_pieces_hold" = some (.ref fPH)) (kPH : PySem.W.keepIn K (.ref fPH) = true)
    (FCH : FnOk P w K mg base CX0 13 fCH fdCH ["_law_spec", "_law_one", "_law_other", "_law_place"] (spCompHolds CP)) (bCH : Binds K fdCH ["_law_spec", "_law_one", "_law_other", "_law_place"] []) (mCH : mg "_law_composition_holds" = some (.ref fCH)) (kCH : PySem.W.keepIn K (.ref fCH) = true)
    (FSH : FnOk P w K mg base CX0 13 fSH fdSH ["_law_spec", "_law_marches", "_law_place", "_law_pieces", "_law_factor"] (spScalHolds CP CPc)) (bSH : Binds K fdSH ["_law_spec", "_law_marches", "_law_place", "_law_pieces", "_law_factor"] []) (mSH : mg "_law_scaling_holds" = some (.ref fSH)) (kSH : PySem.W.keepIn K (.ref fSH) = true)
    (FSm : FnOk P w K mg base CX0 5 fSm fdSm ["_law_pieces"] (spSamples CP CPc)) (bSm : Binds K fdSm ["_law_pieces"] []) (mSm : mg "_law_samples" = some (.ref fSm)) (kSm : PySem.W.keepIn K (.ref fSm) = true)
    (hLen : mg "len" = none) : FnOk P w K mg base CX0 14 f fd ["_law_script"] (spLaw K) := by
  refine F.ok scLaw (fun vs H Q E h => ?_) (fun cdv A outer s0 H vs Q E hr h => ?_)
  · obtain ⟨a, ns, rfl, _⟩ := h
    rfl
  · obtain ⟨a, ns, rfl, hS, hns, kont⟩ := h
    have hr1 : Room 1 _ := hr.mono (by decide)
    have hr2 : Room 2 _ := hr.mono (by decide)
    have hr3 : Room 3 _ := hr.mono (by decide)
    have hr4 : Room 4 _ := hr.mono (by decide)
    have hr5 : Room 5 _ := hr.mono (by decide)
    have hr6 : Room 6 _ := hr.mono (by decide)
    have hr8 : Room 8 _ := hr.mono (by decide)
    have hr9 : Room 9 _ := hr.mono (by decide)
    have hr12 : Room 12 _ := hr.mono (by decide)
    have hr13 : Room 13 _ := hr.mono (by decide)
    refine ⟨_, pss_cons (ps_for PassesOwn.never rfl (pi_list (pe_op op_catS (pe_lst (pa_cons (pe_call FCe hr1 rfl mCe kCe bCe .nil pass0 (pa_cons (pv 0) (pa_cons pe_int pa_nil))) pa_nil)) (pe_slice sl_list (pv 0) (po_some pe_int) (po_some pe_int)))) (pg_name (i := 1) scLaw.nd rfl (Or.inl rfl))
        (pss_cons (ps_set (i := 2) scLaw.nd rfl (Or.inl rfl) (pe_call FRg hr1 rfl mRg kRg bRg .nil pass0 (pa_cons (pv 1) pa_nil)))
        (pss_cons (ps_set (i := 3) scLaw.nd rfl (Or.inl rfl) (pe_call FRt hr3 rfl mRt kRt bRt .nil pass0 (pa_cons (pv 2) (pa_cons pe_int (pa_cons pe_int pa_nil)))))
        (pss_cons (ps_par (i := 4) (j := 5) rfl scLaw.nd rfl rfl (by decide) rfl rfl (pa_cons (pe_call FRM hr3 rfl mRM kRM bRM .nil pass0 (pa_cons (pv 2) (pa_cons (pv 3) (pa_cons pe_int pa_nil)))) (pa_cons (pe_call FRM hr3 rfl mRM kRM bRM .nil pass0 (pa_cons (pv 2) (pa_cons (pv 3) (pa_cons pe_int pa_nil)))) pa_nil)) (by rfl))
        (pss_cons (ps_set (i := 6) scLaw.nd rfl (Or.inl rfl) (pe_op op_add pe_int (pe_call FDr hr1 rfl mDr kDr bDr .nil pass0 (pa_cons (pv 2) (pa_cons pe_int pa_nil)))))
        (pss_cons (ps_set (i := 7) scLaw.nd rfl (Or.inl rfl) (pe_call FDr hr1 rfl mDr kDr bDr .nil pass0 (pa_cons (pv 2) (pa_cons (pe_callB call_len (by rfl) hLen (by decide +kernel) (pa_cons (pe_ix ix_tup (pv 3) pe_int (fun _ _ => rfl)) pa_nil)) pa_nil))))
        (pss_cons (ps_set (i := 8) scLaw.nd rfl (Or.inl rfl) (pe_make MPl FPl hr4 (by rfl) TP.mgC bPl .nil passF (pa_cons (pv 7) (pa_cons (pe_call FDr hr1 rfl mDr kDr bDr .nil pass0 (pa_cons (pv 2) (pa_cons (pe_op op_add (pe_op op_mul (pe_ix ix_tup (pe_ix ix_list (pe_ix ix_tup (pv 3) pe_int (fun _ _ => rfl)) (pv 7) (fun _ _ => rfl)) pe_int (fun _ _ => rfl)) (pv 6)) pe_int) pa_nil))) (pa_cons (pv 6) pa_nil)))))
        (pss_cons (ps_set (i := 9) scLaw.nd rfl (Or.inl rfl) (pe_call FBR hr8 rfl mBR kBR bBR .nil pass0 (pa_cons (pv 3) (pa_cons (pe_op op_catS (pv 4) (pv 5)) pa_nil))))
        (C8.pss_cut (ps_if (pt_cmpR op_gt (pe_call FDr hr1 rfl mDr kDr bDr .nil pass0 (pa_cons (pv 2) (pa_cons pe_int pa_nil))) pe_int (nomark _))
            (pss_one (ps_set (i := 8) scLaw.nd rfl (Or.inl rfl) (pe_call FAF hr8 rfl mAF kAF bAF rAF passF (pa_cons (pv 9) (pa_cons (pv 8) pa_nil)))))
            pss_nil)
        (pss_cons (ps_set (i := 10) scLaw.nd rfl (Or.inl rfl) (pe_call FBa hr12 rfl mBa kBa bBa .nil pass0 (pa_cons (pv 9) (pa_cons (pv 8) pa_nil))))
        (pss_cons (ps_if (pt_not (pt_val (pe_call FPH hr9 rfl mPH kPH bPH .nil pass0 (pa_cons (pv 2) (pa_cons (pv 3) (pa_cons (pv 9) (pa_cons (pv 8) (pa_cons (pv 10) pa_nil))))))))
            (pss_one (ps_ret pe_bl))
            pss_nil)
        (pss_cons (ps_if (pt_not (pt_val (pe_call FCH hr13 rfl mCH kCH bCH .nil pass0 (pa_cons (pv 3) (pa_cons (pv 4) (pa_cons (pv 5) (pa_cons (pv 8) pa_nil)))))))
            (pss_one (ps_ret pe_bl))
            pss_nil)
        (pss_cons (ps_set (i := 11) scLaw.nd rfl (Or.inl rfl) (pe_call FPk hr2 rfl mPk kPk bPk .nil pass0 (pa_cons (pv 2) (pa_cons (pe_lst (pa_cons pe_int (pa_cons pe_int (pa_cons (pe_op op_mul pe_int (pe_op op_pow pe_int pe_int)) (pa_cons (pe_op op_add pe_int (pe_call FDr hr1 rfl mDr kDr bDr .nil pass0 (pa_cons (pv 2) (pa_cons (pe_op op_mul pe_int (pe_op op_pow pe_int pe_int)) pa_nil)))) pa_nil))))) pa_nil))))
        (pss_cons (ps_if (pt_not (pt_val (pe_call FSH hr13 rfl mSH kSH bSH .nil pass0 (pa_cons (pv 3) (pa_cons (pe_op op_catS (pv 4) (pv 5)) (pa_cons (pv 8) (pa_cons (pv 10) (pa_cons (pv 11) pa_nil))))))))
            (pss_one (ps_ret pe_bl))
            pss_nil)
        (pss_one (ps_for PassesOwn.never rfl (pi_list (pe_call FSm hr5 rfl mSm kSm bSm .nil pass0 (pa_cons (pe_call FBa hr12 rfl mBa kBa bBa .nil pass0 (pa_cons (pe_call FBR hr8 rfl mBR kBR bBR .nil pass0 (pa_cons (pv 3) (pa_cons (pe_lst pa_nil) pa_nil))) (pa_cons (pv 8) pa_nil))) pa_nil))) (pg_name (i := 12) scLaw.nd rfl (Or.inl rfl))
          (pss_one (ps_if (pt_cmpR (op_neB (rcB_ne FPE cP.eq cP.fn bPE cP.ne cP.hm) hr2) (pe_call FKY hr6 rfl mKY kKY bKY .nil passF (pa_cons (pe_fld (pv 9) rfl) (pa_cons (pv 12) pa_nil))) (pe_call FKY hr6 rfl mKY kKY bKY .nil passF (pa_cons (pe_fld (pv 9) rfl) (pa_cons (pv 8) pa_nil))) (nomark _))
            (pss_one (ps_ret pe_bl))
            pss_nil))))))))))))))))))
      (pss_one (ps_ret pe_bl)), ?_⟩
    have three : ∀ {x y z : V}, [x, y, z].length ≤ sizeLine := fun {x y z} => (by show 3 ≤ sizeLine; decide)
    -- [cell(script, 0)] + script[1:3]
    refine ⟨_, rfl, a, ns, 0, rfl, hS, (by show 1 ≤ sizeLine; decide), fun p0 h0 => ?_⟩
    have cm : ∀ v ∈ ([V.int (ns[0]?.getD 0)] ++ cutV (ns.map V.int) (some 1) (some 2)), ∃ z : Int, v = V.int z := fun v hv => by
      rcases List.mem_append.mp hv with hv | hv
      · exact ⟨_, List.mem_singleton.mp hv⟩
      · obtain ⟨z, _, rfl⟩ := List.mem_map.mp (List.mem_of_mem_drop (List.mem_of_mem_take hv))
        exact ⟨z, rfl⟩
    have cl : (cutV (ns.map V.int) (some 1) (some 2)).length ≤ 63 := by
      unfold cutV
      rw [List.length_take, List.length_drop, List.length_map]
      omega
    have s0' := Same.new (o := .lst [.int (ns[0]?.getD 0)]) h0
    refine ⟨_, rfl, _, rfl, _, rfl, a, _, rfl, s0'.seq hS, fun p1 h1 => ?_⟩
    have s1' := Same.new (o := .lst (cutV (ns.map V.int) (some 1) (some 2))) h1
    refine ⟨p0, p1, _, _, rfl, rfl, SqL.of (s1' _ _ upd_same), SqL.of upd_same, by rw [PySem.sizeLine_eq]; show 1 + _ ≤ _; omega, fun p2 h2 => ?_⟩
    have g2 := upd_same (H := upd (upd H p0 (.lst [.int (ns[0]?.getD 0)])) p1 (.lst (cutV (ns.map V.int) (some 1) (some 2)))) (a := p2) (o := .lst ([V.int (ns[0]?.getD 0)] ++ cutV (ns.map V.int) (some 1) (some 2)))
    generalize [V.int (ns[0]?.getD 0)] ++ cutV (ns.map V.int) (some 1) (some 2) = cs at g2 cm ⊢
    generalize upd (upd (upd H p0 (.lst [.int (ns[0]?.getD 0)])) p1 (.lst (cutV (ns.map V.int) (some 1) (some 2)))) p2 (.lst cs) = H1 at g2 ⊢
    refine ⟨p2, rfl, ⟨_, SqL.of g2⟩, for_list (K := K) (a := p2) (xs := cs) (fun i σ G => ∃ v1 v2 v3 v4 v5 v6 v7 v8 v9 v10 v11 v12 : Option V, σ = [some (.ref a), v1, v2, v3, v4, v5, v6, v7, v8, v9, v10, v11, v12] ∧ Same H1 G)
      ⟨none, none, none, none, none, none, none, none, none, none, none, none, rfl, Same.refl H1⟩ (fun i σ G _ ⟨_, _, _, _, _, _, _, _, _, _, _, _, _, sg⟩ => SqL.of (sg _ _ g2)) ?_ ?_⟩
    · rintro i y σ G hi ⟨v1, v2, v3, v4, v5, v6, v7, v8, v9, v10, v11, v12, rfl, sg⟩
      obtain ⟨z, rfl⟩ := cm _ (List.mem_of_getElem? hi)
      -- rng
      refine ⟨_, rfl, z, rfl, fun s G1 hsn src1 sg1 => ?_⟩
      have hs1 : H1 s = none := Same.free sg hsn
      have sH1 : Same H1 G1 := sg.trans sg1
      -- spec = random_tree(rng, 7, 7)
      refine ⟨_, rfl, s, 7, 7, rfl, src1, by decide, by decide, by decide, by decide, fun p q n fs G2 hp _ hf dr lens src2 b2 => ?_⟩
      have TG := drawn_tg dr (by decide) (by decide)
      have T := TG.m
      have n2 := TG.n2
      have f0 : 0 < fs.length := by have := dr.len; omega
      have f6 : fs.length ≤ 6 := by have := dr.len; have := dr.hi; omega
      have big : ∀ r ∈ fs, 1 ≤ r.2.2 ∧ r.2.2 ≤ 7 := fun r hr => ⟨(T.ok r hr).2.2, lens r hr⟩
      have TA2 : TrAt G2 p q n fs := ⟨hp, hf⟩
      have dueF : due n fs = none := dr.due (by decide) (by decide)
      -- one, other
      refine ⟨_, rfl, _, rfl, s, p, q, n, 3, 12, fs, rfl, src2, TA2, f0, by omega, fun r hr => ⟨(big r hr).1, by have := (big r hr).2; omega⟩, by decide, by decide, by decide, by decide, fun q1 g1 G3 hq1 fa1 ok1 n1 src3 b3 => ?_⟩
      refine ⟨_, rfl, _, rfl, s, p, q, n, 3, 12, fs, rfl, src3, TA2.but src2 b3, f0, by omega, fun r hr => ⟨(big r hr).1, by have := (big r hr).2; omega⟩, by decide, by decide, by decide, by decide, fun q2 g2 G4 hq2 fa2 ok2 n2' src4 b4 => ⟨_, _, rfl, ?_⟩⟩
      have TA4 := (TA2.but src2 b3).but src3 b4
      have fa14 := fa1.but src3 b4
      have sH4 : Same H1 G4 := fun b o e => by
        have nb := ne_of_none e hs1
        exact b4 b o (b3 b o (b2 b o (sH1 _ _ e) nb) nb) nb
      clear b2 b3 b4 src1 src2 src3 TA2 hp hf hq1 fa1 sH1
      have okm1 := mgs_ok ok1 (show (12 : Int) ≤ 1000000000 by decide)
      have okm2 := mgs_ok ok2 (show (12 : Int) ≤ 1000000000 by decide)
      have ok12 : ∀ r ∈ g1 ++ g2, MrOk fs 12 r := fun r hr => (List.mem_append.mp hr).elim (ok1 r) (ok2 r)
      have okm12 := mgs_ok ok12 (show (12 : Int) ≤ 1000000000 by decide)
      have few : ∀ {f' : Nat → Nat → Nd} {M' : List It}, JOk fs f' (0, 0) (fs.length, 0) M' → M'.length ≤ 400 := fun jo => few_small (B := 7) lens (by omega) jo
      have l12 : (g1 ++ g2).length ≤ 6 := by rw [List.length_append]; omega
      dsimp only [gName]
      -- parts = 1 + draw(rng, 4)
      refine ⟨_, rfl, s, 4, rfl, src4, by decide, by decide, fun d3 G5 d30 d31 src5 b5 => ⟨_, _, rfl, rfl, ?_⟩⟩
      obtain ⟨c, ec, c1, c4⟩ : ∃ c : Nat, 1 + d3 = (c : Int) ∧ 1 ≤ c ∧ c ≤ 4 := ⟨(1 + d3).toNat, by omega, by omega, by omega⟩
      dsimp only [gName]
      rw [ec]
      have hS : (1 : Int) ≤ (c : Int) := by omega
      obtain ⟨hp4, ts, hq4, hts4⟩ := id TA4
      have tlen : ts.length = fs.length := Paired.length hts4
      have tml : (ts.map V.ref).length = fs.length := by rw [List.length_map, tlen]
      have TA5 := TA4.but src4 b5
      have nq := refs_ne src4 hq4
      have np := src4.ne hp4 fun _ _ _ z => nomatch z
      have hp5 := b5 _ _ hp4 np
      have hq5 := b5 _ _ hq4 nq
      -- road
      refine ⟨_, rfl, _, rfl, p, _, _, _, rfl, rfl, SqT.of hp5, rfl, _, _, rfl, .inl ⟨_, SqL.of hq5, rfl⟩, s, _, rfl, src5, by rw [tml]; omega, by rw [tml]; omega, fun rd0 G6 r0 r1 src6 b6 => ?_⟩
      rw [tml] at r1
      obtain ⟨k, rfl⟩ : ∃ k : Nat, rd0 = (k : Int) := ⟨rd0.toNat, by omega⟩
      have hk : k < fs.length := by omega
      have TA6 := TA5.but src5 b6
      have hp6 := b6 _ _ hp5 np
      have hq6 := b6 _ _ hq5 nq
      have tk : k < ts.length := by rw [tlen]; exact hk
      have etk : ts[k]? = some ts[k] := List.getElem?_eq_getElem tk
      obtain ⟨rr, hrr, trr⟩ := paired_get hts4 etk
      have err : rr = rd fs k := by
        have h := rd_get hk
        rw [hrr] at h
        exact Option.some.inj h
      subst err
      have trr6 : TupAt G6 ts[k] (rd fs k) := (trr.but src4 b5).but src5 b6
      have ixk : atI (ts.map V.ref) ((k : Nat) : Int) = some (V.ref ts[k]) := atI_nat (by rw [List.getElem?_map, etk]; rfl)
      have r7 := big _ (List.mem_of_getElem? (rd_get hk))
      have mul28 : 0 ≤ (rd fs k).2.2 * (c : Int) ∧ (rd fs k).2.2 * (c : Int) ≤ 28 := ⟨Int.mul_nonneg (by omega) (by omega), Int.le_trans (Int.mul_le_mul r7.2 (show (c : Int) ≤ 4 by omega) (by omega) (by decide)) (by decide)⟩
      have cb : -(2 ^ 64 : Int) < (c : Int) ∧ (c : Int) < 2 ^ 64 := ⟨by omega, by omega⟩
      have lgc : ((c : Int)).natAbs.log2 < 9000 := by
        rw [Nat.log2_lt (by omega)]
        have : ((c : Int)).natAbs < 2 ^ 60 := by omega
        exact Nat.lt_of_lt_of_le this (Nat.pow_le_pow_right (by decide) (by decide))
      -- place
      refine ⟨_, rfl, _, rfl, _, rfl, p, _, _, _, rfl, rfl, SqT.of hp6, rfl, _, rfl, q, _, _, _, rfl, rfl, SqL.of hq6, ixk, ts[k], _, _, _, rfl, rfl, SqT.of trr6, rfl, _, rfl, _, _, rfl, rfl, .inr cb, _, _, rfl, rfl, s, _, rfl, src6, (by show 0 < (rd fs k).2.2 * (c : Int) + 1; omega), (by show (rd fs k).2.2 * (c : Int) + 1 < _; omega), fun dd G7 d70 d71 src7 b7 => ⟨_, rfl, fun pl0 dx nx ndx nex => ⟨pl0, dx, (((k : Nat) : Int), dd, (c : Int)), rfl, upd_same, fun z => absurd z (by show ¬ (c : Int) < 1; omega), fun _ => ⟨lgc, fun G8 pp keep => ⟨rfl, ?_⟩⟩⟩⟩⟩
      replace d71 : dd < (rd fs k).2.2 * (c : Int) + 1 := d71
      have s78 := made_same nx ndx keep
      have pe0 : PlE fs (c : Int) (low (((k : Nat) : Int), dd, (c : Int))) k dd := by
        have h := mkPlE (s := (c : Int)) (c := 1) hS (Int.le_refl 1) (⟨hk, d70, by unfold sz; omega⟩ : On fs c k dd)
        rw [Int.mul_one, Int.mul_one] at h
        exact h
      have b48 : But s G4 G8 := ((b5.trans b6).trans b7).same s78
      have src8 := src7.same s78
      have TA8 := TA4.but src4 b48
      have fa18 := fa14.but src4 b48
      have fa28 := fa2.but src4 b48
      have sH8 : Same H1 G8 := fun b o e => b48 b o (sH4 b o e) (ne_of_none e hs1)
      clear b5 b6 b7 s78 keep nx ndx nex src4 src5 src6 src7 TA4 TA5 TA6 hp4 hq4 hp5 hq5 hp6 hq6 trr6 trr hts4 fa14 fa2 sH4 np nq hq2 b48
      -- row = build_row(spec, one + other)
      obtain ⟨t1, et1, ht1⟩ := id fa18
      obtain ⟨t2, et2, ht2⟩ := id fa28
      have lcat : ∀ {l1 l2 : List Addr}, l1.length ≤ 3 → l2.length ≤ 3 → (l1.map V.ref).length + (l2.map V.ref).length ≤ sizeLine := fun {l1 l2} a b => by rw [PySem.sizeLine_eq, List.length_map, List.length_map]; omega
      have t13 : t1.length ≤ 3 := by rw [Paired.length ht1]; omega
      have t23 : t2.length ≤ 3 := by rw [Paired.length ht2]; omega
      refine ⟨_, rfl, _, rfl, _, rfl, q1, q2, _, _, rfl, rfl, SqL.of et1, SqL.of et2, lcat t13 t23, fun l3 hl3 => ?_⟩
      have s9 := Same.new (o := .lst (t1.map V.ref ++ t2.map V.ref)) hl3
      have el3 : upd G8 l3 (.lst (t1.map V.ref ++ t2.map V.ref)) l3 = some (.lst (t1.map V.ref ++ t2.map V.ref)) := upd_same
      clear hl3
      generalize upd G8 l3 (.lst (t1.map V.ref ++ t2.map V.ref)) = G9 at *
      have fa3 : FactsAt G9 l3 (g1 ++ g2) := ⟨t1 ++ t2, by rw [List.map_append]; exact el3, paired_app (tups_same ht1 s9) (tups_same ht2 s9)⟩
      refine ⟨p, q, l3, n, 12, fs, g1 ++ g2, rfl, TA8.same s9, dueF, TG, by omega, fa3, ok12, by decide, by omega, fun rw G10 x ps ms s10 Ra Ta Ma => ?_⟩
      have R10 : R37 K CT CR CM CP CW rw x n ps ms fs ((g1 ++ g2).map mg3) G10 := ⟨Ra, Ta, Ma⟩
      have s810 := s9.trans s10
      have TA10 := TA8.same s810
      have fa110 := fa18.same s810
      have fa210 := fa28.same s810
      have src10 := src8.same s810
      have pp10 := pp.same s810
      have sH10 := sH8.trans s810
      clear s9 s10 s810 TA8 fa18 fa28 src8 pp sH8 Ra Ta Ma el3 fa3 ht1 ht2 et1 et2
      -- if draw(rng, 3) > 0: place = after(row, place)
      refine ⟨fun σ' G' => ∃ (pl : Addr) (r : Fact) (k' : Nat) (i' : Int), σ' = [some (.ref a), some (.int z), some (.ref s), some (.ref p), some (.ref q1), some (.ref q2), some (.int (c : Int)), some (.int (k : Nat)), some (.ref pl), some (.ref rw), v10, v11, v12] ∧ Src G' s ∧ But s G10 G' ∧ PlaceAt CP G' pl r ∧ PlE fs c r k' i', ?_, ?_⟩
      · refine ⟨_, rfl, s, 3, rfl, src10, by decide, by decide, fun d4 G11 d40 d41 src11 b11 => ⟨_, _, rfl, rfl, _, rfl, ?_⟩⟩
        by_cases g : d4 > 0
        · refine iteTd g ?_
          refine ⟨_, rfl, _, rfl, tn ?_⟩
          show spAfter K CT CR CM CP CW CB CNR COR [V.ref rw, V.ref pl0, V.int 1] G11 _ _
          refine after1 (R10.kp (.src src10 b11)) TG okm12 (by rw [List.length_map]; omega) (pp10.kp (.src src10 b11)) pe0 (by omega) (by omega) fun pa G12 v' s12 g12 pk => ?_
          have ow : OnT fs (c : Int) v' := GoL.on T hS okm12 ⟨_, _, pe0.on, rfl⟩ g12
          obtain ⟨kk, ii, pk2, _⟩ := key_ple T n2 hS ow
          exact ⟨pa, _, kk, ii, rfl, src11.same s12, b11.same s12, pk, pk2⟩
        · refine iteFd g ?_
          exact ⟨pl0, _, k, dd, rfl, src11, b11, pp10.kp (.src src10 b11), pe0⟩
      · rintro σ' G12 ⟨pl, r, k', i', rfl, src12, b12, PL, pe⟩
        have R12 := R10.kp (.src src10 b12)
        have TA12 := TA10.but src10 b12
        have fa112 := fa110.but src10 b12
        have fa212 := fa210.but src10 b12
        have sH12 : Same H1 G12 := fun b o e => b12 b o (sH10 b o e) (ne_of_none e hs1)
        clear R10 TA10 fa110 fa210 b12 src10 pp10 sH10
        have ov : OnT fs c (node fs c k' i') := ⟨k', i', pe.on, rfl⟩
        have kp_ := key_pl T n2 hS ov
        -- pieces = back(row, place)
        refine ⟨_, rfl, _, rfl, tn ?_⟩
        show spBack K CT CR CM CP CW CPc [V.ref rw, V.ref pl] G12 _ _
        refine backW R12.row R12.tree TG R12.mas okm12 (fun j f M _ _ jo => few jo) PL pe c1 (by omega) fun Db us xs Z m G13 s13 hDb eDb m0 em px pz rs ul => ?_
        have ed : 1 ≤ (keyF fs c (node fs c k' i')).2.2 := kp_.2.1
        generalize hd : (keyF fs c (node fs c k' i')).2.2 = d at *
        obtain ⟨mn, rfl⟩ : ∃ mn : Nat, m = (mn : Int) := ⟨m.toNat, by omega⟩
        have six : RunsAt fs ((g1 ++ g2).map mg3) (6 * (c : Int)) (scN 6 (node fs c k' i')) (Z.map fun z => (z.1, z.2.1 * 6, z.2.2 * 6)) := runs_up T hS (mg_lngC ok12 hS (by omega)) (l := 6) (by decide) rs
        have src13 := src12.same s13
        -- pieces_hold
        refine ⟨_, rfl, _, rfl, _, rfl, _, rfl, _, rfl, s, p, q, rw, pl, Db, x, n, ps, ms, fs, _, c, r, k', i', d, us, xs, Z, mn, rfl, src13, TA12.same s13, R12.kp (.of s13), TG, lens, okm12, by rw [List.length_map]; omega, PL.same s13, pe, c1, c4, eDb, px, pz, by omega, ed, em, fun z hz => rs.le z hz, six, fun G14 src14 b14 => ⟨_, rfl, iteF ?_⟩⟩
        have b1214 : But s G12 G14 := fun b o e nb => b14 b o (s13 b o e) nb
        have TA14 := TA12.but src12 b1214
        have fa114 := fa112.but src12 b1214
        have fa214 := fa212.but src12 b1214
        have R14 := R12.kp (.src src12 b1214)
        have PL14 := PL.kp (.src src12 b1214)
        have eDb14 := b14 _ _ eDb (refs_ne src13 eDb)
        have px14 : Paired (PcAt CPc G14) us xs := Paired.mapP px fun _ _ h => h.kp (.src src13 b14)
        have sH14 : Same H1 G14 := fun b o e => b1214 b o (sH12 b o e) (ne_of_none e hs1)
        clear TA12 fa112 fa212 R12 PL eDb px sH12 b14 b1214 src13 src12 s13 hDb six
        -- composition_holds
        refine ⟨_, rfl, _, rfl, _, rfl, _, rfl, p, q, q1, q2, pl, n, fs, g1, g2, c, r, k', i', rfl, TA14, dueF, TG, f6, lens, fa114, fa214, ok1, ok2, by omega, by omega, PL14, pe, c1, c4, fun G15 s15 => ⟨_, rfl, iteF ?_⟩⟩
        have src15 := src14.same s15
        -- factor
        refine ⟨_, rfl, _, _, rfl, rfl, ⟨by decide, by decide, by decide⟩, _, _, rfl, rfl, .inr ⟨by decide, by decide⟩, _, rfl, _, _, rfl, rfl, ⟨by decide, by decide, by decide⟩, _, _, rfl, rfl, .inr ⟨by decide, by decide⟩, s, _, rfl, src15, by decide, by decide, fun d5 G16 d50 d51 src16 b16 => ⟨_, _, rfl, rfl, (by show 4 ≤ sizeLine; decide), fun lf hlf => ?_⟩⟩
        refine ⟨s, lf, _, rfl, src16.same (Same.new hlf), src16.new hlf, SqL.of upd_same, (by show 0 < 4; decide), (by show 4 < 1000000; decide), fun v G17 hv src17 b17 => ?_⟩
        obtain ⟨cn, rfl, cc1, cc2⟩ : ∃ cn : Nat, v = V.int (cn : Int) ∧ (1 : Int) ≤ (cn : Int) ∧ (cn : Int) ≤ 70000000 := by
          have d1' : d5 < 70000000 := d51
          simp only [List.mem_cons, List.not_mem_nil, or_false] at hv
          rcases hv with rfl | rfl | rfl | rfl
          · exact ⟨2, rfl, by decide, by decide⟩
          · exact ⟨1001, rfl, by decide, by decide⟩
          · exact ⟨70000000, rfl, by decide, by decide⟩
          · exact ⟨(1 + d5).toNat, by rw [Int.toNat_of_nonneg (by omega)], by omega, by omega⟩
        have b1417 : But s G14 G17 := fun b o e nb => b17 b o (Same.new hlf b o (b16 b o (s15 b o e) nb)) nb
        have TA17 := TA14.but src14 b1417
        have fa117 := fa114.but src14 b1417
        have fa217 := fa214.but src14 b1417
        have R17 := R14.kp (.src src14 b1417)
        have PL17 := PL14.kp (.src src14 b1417)
        have eDb17 := b1417 _ _ eDb14 (refs_ne src14 eDb14)
        have px17 : Paired (PcAt CPc G17) us xs := Paired.mapP px14 fun _ _ h => h.kp (.src src14 b1417)
        have sH17 : Same H1 G17 := fun b o e => b1417 b o (sH14 b o e) (ne_of_none e hs1)
        clear TA14 fa114 fa214 R14 PL14 eDb14 px14 sH14 b16 b17 b1417 src14 src15 src16 s15 hlf hv
        -- scaling_holds
        obtain ⟨t1, et1, ht1⟩ := id fa117
        obtain ⟨t2, et2, ht2⟩ := id fa217
        have t13 : t1.length ≤ 3 := by rw [Paired.length ht1]; omega
        have t23 : t2.length ≤ 3 := by rw [Paired.length ht2]; omega
        refine ⟨_, rfl, _, rfl, _, rfl, q1, q2, _, _, rfl, rfl, SqL.of et1, SqL.of et2, lcat t13 t23, fun l4 hl4 => ?_⟩
        have s18 := Same.new (o := .lst (t1.map V.ref ++ t2.map V.ref)) hl4
        have el4 : upd G17 l4 (.lst (t1.map V.ref ++ t2.map V.ref)) l4 = some (.lst (t1.map V.ref ++ t2.map V.ref)) := upd_same
        clear hl4
        generalize upd G17 l4 (.lst (t1.map V.ref ++ t2.map V.ref)) = G18 at *
        have fa4 : FactsAt G18 l4 (g1 ++ g2) := ⟨t1 ++ t2, by rw [List.map_append]; exact el4, paired_app (tups_same ht1 s18) (tups_same ht2 s18)⟩
        refine ⟨_, rfl, _, rfl, _, rfl, p, q, l4, pl, Db, n, (cn : Int), fs, g1 ++ g2, c, r, k', i', (mn : Int), d, us, xs, Z, rfl, TA17.same s18, dr, lens, fa4, ok12, l12, PL17.same s18, pe, c1, c4, s18 _ _ eDb17, Paired.mapP px17 fun _ _ h => h.same s18, pz, by omega, ed, em, ul, rs, cc1, cc2, fun G19 s19 => ⟨_, rfl, iteF ?_⟩⟩
        have s1719 := s18.trans s19
        -- samples(back(build_row(spec, []), place))
        refine ⟨_, rfl, Nat.zero_le _, fun l5 hl5 => ?_⟩
        have s20 := Same.new (o := .lst []) hl5
        have s1720 := s1719.trans s20
        have fa5 : FactsAt (upd G19 l5 (.lst [])) l5 [] := ⟨[], upd_same, .nil⟩
        clear hl5
        generalize upd G19 l5 (.lst []) = G20 at *
        refine ⟨p, q, l5, n, 12, fs, [], rfl, TA17.same s1720, dueF, TG, by omega, fa5, fun r hr => (by cases hr), by decide, by decide, fun rw5 G21 x5 ps5 ms5 s21 Rb Tb Mb => ?_⟩
        have s1721 := s1720.trans s21
        refine ⟨_, rfl, tn ?_⟩
        show spBack K CT CR CM CP CW CPc [V.ref rw5, V.ref pl] G21 _ _
        refine backW (gs := []) Rb Tb TG Mb (fun g hg => by cases hg) (fun j f M _ _ jo => few jo) (PL17.same s1721) pe c1 (by omega) fun D5 us5 xs5 Z5 m5 G22 s22 hD5 eD5 m50 em5 px5 pz5 rs5 ul5 => ?_
        rw [hd] at em5 pz5
        have s1722 := s1721.trans s22
        have m51 : 1 ≤ m5 := m50
        have d4 : d ≤ 4 := by
          have := Int.mul_le_mul_of_nonneg_left m51 (show 0 ≤ d by omega)
          omega
        have two5 : RunsAt fs [] (2 * (c : Int)) (scN 2 (node fs c k' i')) (Z5.map fun z => (z.1, z.2.1 * 2, z.2.2 * 2)) := runs_up T hS (gs := []) (fun x hx => by cases hx) (l := 2) (by decide) rs5
        refine ⟨D5, us5, xs5, rfl, eD5, px5, ul5, fun x' hx' => ?_, fun L ws G23 s23 eL pw => ⟨L, rfl, ⟨_, SqL.of eL⟩, for_list (K := K) (a := L) (xs := ws.map V.ref) (fun j σ G => ∃ (v12 : Option V), σ = [some (.ref a), some (.int z), some (.ref s), some (.ref p), some (.ref q1), some (.ref q2), some (.int (c : Int)), some (.int (k : Nat)), some (.ref pl), some (.ref rw), some (.ref Db), some (.int (cn : Int)), v12] ∧ Same G23 G)
          ⟨v12, rfl, Same.refl G23⟩ (fun j σ G _ ⟨_, _, b⟩ => SqL.of (b _ _ eL)) ?_ ?_⟩⟩
        · obtain ⟨z5, _, _, e2, _⟩ := paired_memL pz5 x' hx'
          rw [e2]
          omega
        · rintro j y σ G24 hj ⟨w12, rfl, sg24⟩
          obtain ⟨wp, hwp, rfl⟩ := map_get hj
          obtain ⟨rr, hrr', prr⟩ := paired_get pw hwp
          obtain ⟨z5, hz5, t5, pe5, ta5, tb5⟩ := smp_at hS m51 ed em5 pz5 rs5.in_ rr (List.mem_of_getElem? hrr')
          have g5 : node fs (2 * (c : Int)) z5.1 ((t5 : Nat) : Int) = scN 2 (node fs c k' i') := ((two5.iff z5.1 t5).mpr ⟨_, List.mem_map.mpr ⟨z5, hz5, rfl⟩, rfl, ta5, tb5⟩).2
          have s1724 := (s1722.trans s23).trans sg24
          have R24 := R17.kp (.of s1724)
          obtain ⟨dw, tr, ew, etr⟩ := id R24.row
          dsimp only [gName]
          refine ⟨_, rfl, rw, CW, dw, _, _, rfl, ew, TW.cl, TW.nT, rwF_t x tr, _, rfl, x, wp, n, ps, fs, rr, rfl, R24.tree, prr.same sg24, TG, ⟨pe5.p1, by have := pe5.le; omega⟩, pe5.lo, (PlErr.none (CNR := CNR) (COR := COR) (H := G24) (E := L2.E0) pe5.pl).1, (PlErr.none (CNR := CNR) (COR := COR) (H := G24) (E := L2.E0) pe5.pl).2, fun _ pk5 G25 s25 pk5a => ?_⟩
          rw [pe5.keyF, g5, show (2 : Int) * (c : Int) = (c : Int) * 2 from Int.mul_comm _ _, keyF_mul (c := 2) (by decide)] at pk5a
          refine ⟨_, rfl, rw, CW, dw, _, _, rfl, s25 _ _ ew, TW.cl, TW.nT, rwF_t x tr, _, rfl, x, pl, n, ps, fs, r, rfl, R24.tree.same s25, PL17.same (s1724.trans s25), TG, ⟨pe.p1, by have := pe.le; omega⟩, pe.lo, (PlErr.none (CNR := CNR) (COR := COR) (H := G25) (E := L2.E0) pe.pl).1, (PlErr.none (CNR := CNR) (COR := COR) (H := G25) (E := L2.E0) pe.pl).2, fun _ pk6 G26 s26 pk6a => ?_⟩
          rw [pe.keyF] at pk6a
          exact neq_pl (pk5a.same s26) pk6a rfl ⟨_, rfl, iteF ⟨_, rfl, (sg24.trans s25).trans s26⟩⟩
        · rintro σ G24 ⟨w12, rfl, sg24⟩
          exact ⟨_, _, _, _, _, _, _, _, _, _, _, _, rfl, sH17.trans ((s1722.trans s23).trans sg24)⟩
    · rintro σ G ⟨v1, v2, v3, v4, v5, v6, v7, v8, v9, v10, v11, v12, rfl, sg⟩
      exact kont G
end
end OT
set_option Elab.async false
set_option linter.all false
set_option maxRecDepth 100000
set_option maxHeartbeats 2000000
namespace OT
open PySem L2 OTR
theorem qc_ok {K : PySem.W.Frag} {C f : Addr} (cl : Cls K C) (g : gB K = true) (h : eqB K C f = true) : QC K C f := by
  obtain ⟨g1, g2⟩ := two g
  obtain ⟨h1, h⟩ := two h
  obtain ⟨h2, h⟩ := two h
  obtain ⟨h3, h⟩ := two h
  obtain ⟨h4, h⟩ := two h
  obtain ⟨h5, h6⟩ := two h
  have key : ∀ T, oth T → PySem.W.kitOne K (.type T) (.ref C) = some false ∧ PySem.W.subIn K (.type T) (.ref C) = some false ∧ PySem.W.subIn K (.ref C) (.type T) = some false := fun T hT => by
    have m : T ∈ ["NoneType", "tuple", "list"] := by
      rcases hT with rfl | rfl | rfl
      · exact List.mem_cons_self
      · exact List.mem_cons_of_mem _ List.mem_cons_self
      · exact List.mem_cons_of_mem _ (List.mem_cons_of_mem _ List.mem_cons_self)
    obtain ⟨k1, k⟩ := two (List.all_eq_true.mp h6 T m)
    obtain ⟨k2, k3⟩ := two k
    exact ⟨of_decide_eq_true k1, of_decide_eq_true k2, of_decide_eq_true k3⟩
  exact ⟨cl, He.eqO_ok h1, He.eqO_ok g1, of_decide_eq_true g2, of_decide_eq_true h2, He.eqO_ok h3, h4, He.eqO_ok h5, fun T hT => (key T hT).1, fun T hT => by
    have z := (key T hT).2.1
    unfold PySem.W.notFirst
    rw [z]
    simp, fun T hT => (key T hT).2.2⟩
theorem er_ok {K : PySem.W.Frag} {mg : Str → Option Value} {nm : Str} {C f : Addr} (m : mg nm = some (.ref C)) (g : gB K = true) (h : erB K C f = true) : ErT K mg nm C f := by
  obtain ⟨g1, g2⟩ := two g
  obtain ⟨h1, h⟩ := two h
  obtain ⟨h2, h⟩ := two h
  obtain ⟨h3, h⟩ := two h
  obtain ⟨h4, h⟩ := two h
  obtain ⟨h5, h⟩ := two h
  obtain ⟨h6, h⟩ := two h
  obtain ⟨h7, h⟩ := two h
  obtain ⟨h8, h9⟩ := two h
  have x := xfB_ok h2
  exact ⟨m, ⟨veB_ok h1, He.eqO_ok h3, x.exC, of_decide_eq_true h4, h5⟩, x, ⟨x.ga, x.gg, x.exC, x.hdC, He.eqO_ok h6, He.eqO_ok g1, of_decide_eq_true g2, of_decide_eq_true h7⟩, He.eqO_ok h8, of_decide_eq_true h9⟩
end OT
set_option Elab.async false
set_option linter.all false
set_option maxRecDepth 100000
set_option maxHeartbeats 2000000
namespace OT
open PySem L2 OTR
theorem all_mk {P : Program} {w : World} {K : PySem.W.Frag} {mg : Str → Option Value} {fC fI fA fCK fCH fEA fEB fCO fKY fLG fDI fST fAF fZG fZB fZK fZM fZO fZJ fZA fZD fBI fBP fBA fXC fXG fXD fXP fXS fXT fXB fXM fXR fYS fPH fPS fPC fPW fPX fL CR CT CP CM CW CS CPc CB CN CG CNR COR CNW CWd fB fN fG fNR fOR fNW fR fT fPl fMa fRw fPE fZI fZW fPcI : Addr} {fdC fdI fdA fdCK fdCH fdEA fdEB fdCO fdKY fdLG fdDI fdST fdAF fdZG fdZB fdZK fdZM fdZO fdZJ fdZA fdZD fdBI fdBP fdBA fdXC fdXG fdXD fdXP fdXS fdXT fdXB fdXM fdXR fdYS fdPH fdPS fdPC fdPW fdPX fdL fdB fdN fdG fdNR fdOR fdNW fdR fdT fdPl fdMa fdRw fdPE fdZI fdZW fdPcI : FuncData}
    (aC : mg "check_road" = some (.ref fC))
    (FC : Fun K "check_road" "check_road" sCheck fC fdC)
    (aI : mg "join_trails" = some (.ref fI))
    (FI : Fun K "join_trails" "join_trails" sJoin fI fdI)
    (aA : mg "trails_along" = some (.ref fA))
    (FA : Fun K "trails_along" "trails_along" sTrails fA fdA)
    (aCK : mg "check_place" = some (.ref fCK))
    (FCK : Fun K "check_place" "check_place" sCheckPl fCK fdCK)
    (aCH : mg "check_march" = some (.ref fCH))
    (FCH : Fun K "check_march" "check_march" sCheckMa fCH fdCH)
    (aEA : mg "end_at" = some (.ref fEA))
    (FEA : Fun K "end_at" "end_at" sEndAt fEA fdEA)
    (aEB : mg "end_beyond" = some (.ref fEB))
    (FEB : Fun K "end_beyond" "end_beyond" sEndBeyond fEB fdEB)
    (aCO : mg "corner" = some (.ref fCO))
    (FCO : Fun K "corner" "corner" sCorner fCO fdCO)
    (aKY : mg "key" = some (.ref fKY))
    (FKY : Fun K "key" "key" sKey fKY fdKY)
    (aLG : mg "legs" = some (.ref fLG))
    (FLG : Fun K "legs" "legs" sLegs fLG fdLG)
    (aDI : mg "distance" = some (.ref fDI))
    (FDI : Fun K "distance" "distance" sDist fDI fdDI)
    (aST : mg "step" = some (.ref fST))
    (FST : Fun K "step" "step" sStep fST fdST)
    (aAF : mg "after" = some (.ref fAF))
    (DDAF : FunD K "after" "after" (defArgs sAfter) (defBody sAfter) (defScope sAfter) [] [("rounds", V.int 1)] fAF fdAF)
    (aZG : mg "is_gathered" = some (.ref fZG))
    (FZG : Fun K "is_gathered" "is_gathered" sGathered fZG fdZG)
    (aZB : mg "steps_between" = some (.ref fZB))
    (FZB : Fun K "steps_between" "steps_between" sStepsB fZB fdZB)
    (aZK : mg "marks_of" = some (.ref fZK))
    (FZK : Fun K "marks_of" "marks_of" sMarksOf fZK fdZK)
    (aZM : mg "marched" = some (.ref fZM))
    (FZM : Fun K "marched" "marched" sMarched fZM fdZM)
    (aZO : mg "is_one_doings" = some (.ref fZO))
    (FZO : Fun K "is_one" "is_one" sIsOne fZO fdZO)
    (aZJ : mg "joined" = some (.ref fZJ))
    (FZJ : Fun K "joined" "joined" sJoinedP fZJ fdZJ)
    (aZA : mg "stretches_after" = some (.ref fZA))
    (FZA : Fun K "stretches_after" "stretches_after" sStretchesA fZA fdZA)
    (aZD : mg "doing" = some (.ref fZD))
    (FZD : Fun K "doing" "doing" sDoing fZD fdZD)
    (aBI : mg "is_one_backs" = some (.ref fBI))
    (FBI : Fun K "is_one" "is_one" sIsOneB fBI fdBI)
    (aBP : mg "pieces_in" = some (.ref fBP))
    (FBP : Fun K "pieces_in" "pieces_in" sPiecesIn fBP fdBP)
    (aBA : mg "back" = some (.ref fBA))
    (FBA : Fun K "back" "back" sBack fBA fdBA)
    (aXC : mg "_law_cell" = some (.ref fXC))
    (FXC : Fun K "_law_cell" "_law_cell" sCellF fXC fdXC)
    (aXG : mg "_law_rng" = some (.ref fXG))
    (FXG : Fun K "_law_rng" "_law_rng" sRng fXG fdXG)
    (aXD : mg "_law_draw" = some (.ref fXD))
    (FXD : Fun K "_law_draw" "_law_draw" sDraw fXD fdXD)
    (aXP : mg "_law_pick" = some (.ref fXP))
    (FXP : Fun K "_law_pick" "_law_pick" sPick fXP fdXP)
    (aXS : mg "_law_sample" = some (.ref fXS))
    (FXS : Fun K "_law_sample" "_law_sample" sSample fXS fdXS)
    (aXT : mg "_law_random_tree" = some (.ref fXT))
    (FXT : Fun K "_law_random_tree" "_law_random_tree" sRTree fXT fdXT)
    (aXB : mg "_law_build_tree" = some (.ref fXB))
    (FXB : Fun K "_law_build_tree" "_law_build_tree" sBTree fXB fdXB)
    (aXM : mg "_law_random_marches" = some (.ref fXM))
    (FXM : Fun K "_law_random_marches" "_law_random_marches" sRMarches fXM fdXM)
    (aXR : mg "_law_build_row" = some (.ref fXR))
    (FXR : Fun K "_law_build_row" "_law_build_row" sBRow fXR fdXR)
    (aYS : mg "_law_scaled" = some (.ref fYS))
    (FYS : Fun K "_law_scaled" "_law_scaled" sScaled fYS fdYS)
    (aPH : mg "_law_pieces_hold" = some (.ref fPH))
    (FPH : Fun K "_law_pieces_hold" "_law_pieces_hold" sPiecesHold fPH fdPH)
    (aPS : mg "_law_samples" = some (.ref fPS))
    (FPS : Fun K "_law_samples" "_law_samples" sSamples fPS fdPS)
    (aPC : mg "_law_contains" = some (.ref fPC))
    (FPC : Fun K "_law_contains" "_law_contains" sContains fPC fdPC)
    (aPW : mg "_law_composition_holds" = some (.ref fPW))
    (FPW : Fun K "_law_composition_holds" "_law_composition_holds" sCompHolds fPW fdPW)
    (aPX : mg "_law_scaling_holds" = some (.ref fPX))
    (FPX : Fun K "_law_scaling_holds" "_law_scaling_holds" sScalHolds fPX fdPX)
    (aL : mg "law" = some (.ref fL))
    (FL : Fun K "law" "law" sLaw fL fdL)
    (mCR : mg "Road" = some (.ref CR))
    (mCT : mg "Tree" = some (.ref CT))
    (mCP : mg "Place" = some (.ref CP))
    (mCM : mg "March" = some (.ref CM))
    (mCW : mg "Row" = some (.ref CW))
    (mCS : mg "Stretch" = some (.ref CS))
    (mCPc : mg "Piece" = some (.ref CPc))
    (mCB : mg "BadCount" = some (.ref CB))
    (mCN : mg "NoCrossing" = some (.ref CN))
    (mCG : mg "RingRoad" = some (.ref CG))
    (mCNR : mg "NoRoad" = some (.ref CNR))
    (mCOR : mg "OffRoad" = some (.ref COR))
    (mCNW : mg "NotWhole" = some (.ref CNW))
    (mCWd : mg "Wide" = some (.ref CWd))
    (FB : Fun K "__init__" "BadCount.__init__" sBad fB fdB)
    (FN : Fun K "__init__" "NoCrossing.__init__" sNoC fN fdN)
    (FG : Fun K "__init__" "RingRoad.__init__" sRing fG fdG)
    (FNR : Fun K "__init__" "NoRoad.__init__" sNoRd fNR fdNR)
    (FOR : Fun K "__init__" "OffRoad.__init__" sOff fOR fdOR)
    (FNW : Fun K "__init__" "NotWhole.__init__" sNotW fNW fdNW)
    (FR : Fun K "__init__" "Road.__init__" sRoadI fR fdR)
    (FT : Fun K "__init__" "Tree.__init__" sTreeI fT fdT)
    (FPl : Fun K "__init__" "Place.__init__" sPlaceI fPl fdPl)
    (FMa : Fun K "__init__" "March.__init__" sMarchI fMa fdMa)
    (FRw : Fun K "__init__" "Row.__init__" sRowI fRw fdRw)
    (FPE : Fun K "__eq__" "Place.__eq__" sPlaceE fPE fdPE)
    (FZI : Fun K "__init__" "Stretch.__init__" sStretchI fZI fdZI)
    (FZW : Fun K "__init__" "Wide.__init__" sWideI fZW fdZW)
    (FPcI : Fun K "__init__" "Piece.__init__" sPieceI fPcI fdPcI)
    (clCR : Cls K CR)
    (nCR0 : NoAttr K CR "a")
    (nCR1 : NoAttr K CR "b")
    (nCR2 : NoAttr K CR "length")
    (MCR : Mk K CR fR)
    (clCT : Cls K CT)
    (nCT0 : NoAttr K CT "crossings")
    (nCT1 : NoAttr K CT "roads")
    (nCT2 : NoAttr K CT "trails")
    (MCT : Mk K CT fT)
    (clCP : Cls K CP)
    (nCP0 : NoAttr K CP "road")
    (nCP1 : NoAttr K CP "number")
    (nCP2 : NoAttr K CP "parts")
    (MCP : Mk K CP fPl)
    (QCP : QC K CP fPE)
    (clCM : Cls K CM)
    (nCM0 : NoAttr K CM "goal")
    (nCM1 : NoAttr K CM "steps")
    (MCM : Mk K CM fMa)
    (clCW : Cls K CW)
    (nCW0 : NoAttr K CW "tree")
    (nCW1 : NoAttr K CW "marches")
    (MCW : Mk K CW fRw)
    (clCS : Cls K CS)
    (nCS0 : NoAttr K CS "road")
    (nCS1 : NoAttr K CS "least")
    (nCS2 : NoAttr K CS "greatest")
    (nCS3 : NoAttr K CS "first")
    (nCS4 : NoAttr K CS "last")
    (MCS : Mk K CS fZI)
    (clCPc : Cls K CPc)
    (nCPc0 : NoAttr K CPc "road")
    (nCPc1 : NoAttr K CPc "least")
    (nCPc2 : NoAttr K CPc "greatest")
    (nCPc3 : NoAttr K CPc "parts")
    (MCPc : Mk K CPc fPcI)
    (nCB0 : NoAttr K CB "what")
    (nCB1 : NoAttr K CB "count")
    (TCB : ErT K mg "BadCount" CB fB)
    (nCN0 : NoAttr K CN "crossing")
    (TCN : ErT K mg "NoCrossing" CN fN)
    (nCG0 : NoAttr K CG "road")
    (TCG : ErT K mg "RingRoad" CG fG)
    (nCNR0 : NoAttr K CNR "road")
    (TCNR : ErT K mg "NoRoad" CNR fNR)
    (nCOR0 : NoAttr K COR "road")
    (TCOR : ErT K mg "OffRoad" COR fOR)
    (nCNW0 : NoAttr K CNW "march")
    (TCNW : ErT K mg "NotWhole" CNW fNW)
    (nCWd0 : NoAttr K CWd "count")
    (TCWd : ErT K mg "Wide" CWd fZW)
    (z_abs : mg "abs" = none)
    (z_enumerate : mg "enumerate" = none)
    (z_isinstance : mg "isinstance" = none)
    (z_len : mg "len" = none)
    (z_list : mg "list" = none)
    (z_max : mg "max" = none)
    (z_min : mg "min" = none)
    (z_range : mg "range" = none)
    (z_sum : mg "sum" = none)
    (z_tuple : mg "tuple" = none)
    (z_zip : mg "zip" = none)
    (v0 : ∃ t, mg "LEAST_CROSSINGS" = some (.int 2 t))
    (v1 : ∃ t, mg "MOST_CROSSINGS" = some (.int 24 t))
    (v2 : ∃ t, mg "MOST_MARCHES" = some (.int 24 t))
    (v3 : ∃ t, mg "MOST_ROUNDS" = some (.int 1000 t))
    (v4 : ∃ t, mg "MOST_STRETCHES" = some (.int 400 t))
    (hL0 : ∃ t, mg "LONGEST_ROAD" = some (.int 1000000000 t))
    (hL1 : ∃ t, mg "MOST_STEPS" = some (.int 1000000000 t))
    (gcdB : mg "gcd" = some (.builtin "math.gcd"))
    (lcmB : mg "lcm" = some (.builtin "math.lcm"))
    : (∀ (s : Shared) (v : Value), BindsTo s fdL ⟨[v], []⟩ [("_law_script", v)]) ∧ ∀ base : Heap, K.In base → base.Ns mainGlobals mg → FnOk P w K mg base CX0 14 fL fdL ["_law_script"] (spLaw K) := by
  have bC := FC.binds (ps := ["crossings", "road"]) fun _ _ _ _ _ _ us hl => match us, hl with | [_, _], _ => rfl
  have bI := FI.binds (ps := ["trails", "crossings", "number", "road"]) fun _ _ _ _ _ _ us hl => match us, hl with | [_, _, _, _], _ => rfl
  have bA := FA.binds (ps := ["crossings", "roads"]) fun _ _ _ _ _ _ us hl => match us, hl with | [_, _], _ => rfl
  have bCK := FCK.binds (ps := ["tree", "place"]) fun _ _ _ _ _ _ us hl => match us, hl with | [_, _], _ => rfl
  have bCH := FCH.binds (ps := ["tree", "number", "march"]) fun _ _ _ _ _ _ us hl => match us, hl with | [_, _, _], _ => rfl
  have bEA := FEA.binds (ps := ["road", "crossing"]) fun _ _ _ _ _ _ us hl => match us, hl with | [_, _], _ => rfl
  have bEB := FEB.binds (ps := ["road", "crossing"]) fun _ _ _ _ _ _ us hl => match us, hl with | [_, _], _ => rfl
  have bCO := FCO.binds (ps := ["tree", "crossing"]) fun _ _ _ _ _ _ us hl => match us, hl with | [_, _], _ => rfl
  have bKY := FKY.binds (ps := ["tree", "place"]) fun _ _ _ _ _ _ us hl => match us, hl with | [_, _], _ => rfl
  have bLG := FLG.binds (ps := ["tree", "one", "other", "parts"]) fun _ _ _ _ _ _ us hl => match us, hl with | [_, _, _, _], _ => rfl
  have bDI := FDI.binds (ps := ["tree", "one", "other"]) fun _ _ _ _ _ _ us hl => match us, hl with | [_, _, _], _ => rfl
  have bST := FST.binds (ps := ["tree", "place", "goal", "steps"]) fun _ _ _ _ _ _ us hl => match us, hl with | [_, _, _, _], _ => rfl
  have bZG := FZG.binds (ps := ["stretch"]) fun _ _ _ _ _ _ us hl => match us, hl with | [_], _ => rfl
  have bZB := FZB.binds (ps := ["tree", "one", "other"]) fun _ _ _ _ _ _ us hl => match us, hl with | [_, _, _], _ => rfl
  have bZK := FZK.binds (ps := ["tree", "stretch", "march"]) fun _ _ _ _ _ _ us hl => match us, hl with | [_, _, _], _ => rfl
  have bZM := FZM.binds (ps := ["tree", "stretch", "march"]) fun _ _ _ _ _ _ us hl => match us, hl with | [_, _, _], _ => rfl
  have bZO := FZO.binds (ps := ["tree", "one", "other"]) fun _ _ _ _ _ _ us hl => match us, hl with | [_, _, _], _ => rfl
  have bZJ := FZJ.binds (ps := ["tree", "stretches"]) fun _ _ _ _ _ _ us hl => match us, hl with | [_, _], _ => rfl
  have bZA := FZA.binds (ps := ["tree", "marches"]) fun _ _ _ _ _ _ us hl => match us, hl with | [_, _], _ => rfl
  have bZD := FZD.binds (ps := ["row"]) fun _ _ _ _ _ _ us hl => match us, hl with | [_], _ => rfl
  have bBI := FBI.binds (ps := ["piece", "other"]) fun _ _ _ _ _ _ us hl => match us, hl with | [_, _], _ => rfl
  have bBP := FBP.binds (ps := ["tree", "stretch", "goal"]) fun _ _ _ _ _ _ us hl => match us, hl with | [_, _, _], _ => rfl
  have bBA := FBA.binds (ps := ["row", "place"]) fun _ _ _ _ _ _ us hl => match us, hl with | [_, _], _ => rfl
  have bXC := FXC.binds (ps := ["_law_script", "_law_index"]) fun _ _ _ _ _ _ us hl => match us, hl with | [_, _], _ => rfl
  have bXG := FXG.binds (ps := ["_law_cell_here"]) fun _ _ _ _ _ _ us hl => match us, hl with | [_], _ => rfl
  have bXD := FXD.binds (ps := ["_law_rng_here", "_law_limit"]) fun _ _ _ _ _ _ us hl => match us, hl with | [_, _], _ => rfl
  have bXP := FXP.binds (ps := ["_law_rng_here", "_law_items"]) fun _ _ _ _ _ _ us hl => match us, hl with | [_, _], _ => rfl
  have bXS := FXS.binds (ps := ["_law_rng_here", "_law_items", "_law_count"]) fun _ _ _ _ _ _ us hl => match us, hl with | [_, _, _], _ => rfl
  have bXT := FXT.binds (ps := ["_law_rng_here", "_law_max_crossings", "_law_max_length"]) fun _ _ _ _ _ _ us hl => match us, hl with | [_, _, _], _ => rfl
  have bXB := FXB.binds (ps := ["_law_spec"]) fun _ _ _ _ _ _ us hl => match us, hl with | [_], _ => rfl
  have bXM := FXM.binds (ps := ["_law_rng_here", "_law_spec", "_law_max_count"]) fun _ _ _ _ _ _ us hl => match us, hl with | [_, _, _], _ => rfl
  have bXR := FXR.binds (ps := ["_law_spec", "_law_marches"]) fun _ _ _ _ _ _ us hl => match us, hl with | [_, _], _ => rfl
  have bYS := FYS.binds (ps := ["_law_spec", "_law_marches", "_law_factor"]) fun _ _ _ _ _ _ us hl => match us, hl with | [_, _, _], _ => rfl
  have bPH := FPH.binds (ps := ["_law_rng_here", "_law_spec", "_law_row", "_law_place", "_law_pieces"]) fun _ _ _ _ _ _ us hl => match us, hl with | [_, _, _, _, _], _ => rfl
  have bPS := FPS.binds (ps := ["_law_pieces"]) fun _ _ _ _ _ _ us hl => match us, hl with | [_], _ => rfl
  have bPC := FPC.binds (ps := ["_law_pieces", "_law_place"]) fun _ _ _ _ _ _ us hl => match us, hl with | [_, _], _ => rfl
  have bPW := FPW.binds (ps := ["_law_spec", "_law_one", "_law_other", "_law_place"]) fun _ _ _ _ _ _ us hl => match us, hl with | [_, _, _, _], _ => rfl
  have bPX := FPX.binds (ps := ["_law_spec", "_law_marches", "_law_place", "_law_pieces", "_law_factor"]) fun _ _ _ _ _ _ us hl => match us, hl with | [_, _, _, _, _], _ => rfl
  have bB := FB.binds (ps := ["self", "what", "count"]) fun _ _ _ _ _ _ us hl => match us, hl with | [_, _, _], _ => rfl
  have bN := FN.binds (ps := ["self", "crossing"]) fun _ _ _ _ _ _ us hl => match us, hl with | [_, _], _ => rfl
  have bG := FG.binds (ps := ["self", "road"]) fun _ _ _ _ _ _ us hl => match us, hl with | [_, _], _ => rfl
  have bNR := FNR.binds (ps := ["self", "road"]) fun _ _ _ _ _ _ us hl => match us, hl with | [_, _], _ => rfl
  have bOR := FOR.binds (ps := ["self", "road"]) fun _ _ _ _ _ _ us hl => match us, hl with | [_, _], _ => rfl
  have bNW := FNW.binds (ps := ["self", "march"]) fun _ _ _ _ _ _ us hl => match us, hl with | [_, _], _ => rfl
  have bR := FR.binds (ps := ["self", "a", "b", "length"]) fun _ _ _ _ _ _ us hl => match us, hl with | [_, _, _, _], _ => rfl
  have bT := FT.binds (ps := ["self", "crossings", "roads"]) fun _ _ _ _ _ _ us hl => match us, hl with | [_, _, _], _ => rfl
  have bPl := FPl.binds (ps := ["self", "road", "number", "parts"]) fun _ _ _ _ _ _ us hl => match us, hl with | [_, _, _, _], _ => rfl
  have bMa := FMa.binds (ps := ["self", "goal", "steps"]) fun _ _ _ _ _ _ us hl => match us, hl with | [_, _, _], _ => rfl
  have bRw := FRw.binds (ps := ["self", "tree", "marches"]) fun _ _ _ _ _ _ us hl => match us, hl with | [_, _, _], _ => rfl
  have bPE := FPE.binds (ps := ["self", "other"]) fun _ _ _ _ _ _ us hl => match us, hl with | [_, _], _ => rfl
  have bZI := FZI.binds (ps := ["self", "road", "least", "greatest", "first", "last"]) fun _ _ _ _ _ _ us hl => match us, hl with | [_, _, _, _, _, _], _ => rfl
  have bZW := FZW.binds (ps := ["self", "count"]) fun _ _ _ _ _ _ us hl => match us, hl with | [_, _], _ => rfl
  have bPcI := FPcI.binds (ps := ["self", "road", "least", "greatest", "parts"]) fun _ _ _ _ _ _ us hl => match us, hl with | [_, _, _, _, _], _ => rfl
  have kC := FC.kp
  have kI := FI.kp
  have kA := FA.kp
  have kCK := FCK.kp
  have kCH := FCH.kp
  have kEA := FEA.kp
  have kEB := FEB.kp
  have kCO := FCO.kp
  have kKY := FKY.kp
  have kLG := FLG.kp
  have kDI := FDI.kp
  have kST := FST.kp
  have kAF := DDAF.kp
  have kZG := FZG.kp
  have kZB := FZB.kp
  have kZK := FZK.kp
  have kZM := FZM.kp
  have kZO := FZO.kp
  have kZJ := FZJ.kp
  have kZA := FZA.kp
  have kZD := FZD.kp
  have kBI := FBI.kp
  have kBP := FBP.kp
  have kBA := FBA.kp
  have kXC := FXC.kp
  have kXG := FXG.kp
  have kXD := FXD.kp
  have kXP := FXP.kp
  have kXS := FXS.kp
  have kXT := FXT.kp
  have kXB := FXB.kp
  have kXM := FXM.kp
  have kXR := FXR.kp
  have kYS := FYS.kp
  have kPH := FPH.kp
  have kPS := FPS.kp
  have kPC := FPC.kp
  have kPW := FPW.kp
  have kPX := FPX.kp
  have TR : RdT K mg CR := ⟨clCR, nCR0, nCR1, nCR2, mCR⟩
  have TT : TeT K mg CT := ⟨clCT, nCT0, nCT1, nCT2, mCT⟩
  have TP : PlT K mg CP := ⟨clCP, nCP0, nCP1, nCP2, mCP⟩
  have TM : MaT K mg CM := ⟨clCM, nCM0, nCM1, mCM⟩
  have TW : RwT K mg CW := ⟨clCW, nCW0, nCW1, mCW⟩
  have TS : StT K mg CS := ⟨clCS, nCS0, nCS1, nCS2, nCS3, nCS4, mCS⟩
  have TPc : PcT K mg CPc := ⟨clCPc, nCPc0, nCPc1, nCPc2, nCPc3, mCPc⟩
  have FAF := fun_of DDAF
  have DA := DDAF
  obtain ⟨dsAF, rAF, bAF⟩ := DA.binds0 (ps := ["row", "place", "rounds"]) 2 (by simp) rfl fun _ _ _ _ _ _ us ks h1 h2 => match us, ks, h1, h2 with | [_, _], [_], _, _ => ⟨_, _, _, _, _, _, rfl, rfl, rfl⟩
  refine ⟨fun s v => ?_, fun base _ _ => ?_⟩
  · obtain ⟨oc, od, kV, doc, pm, an, cdv, ct, osl, e0, _, _⟩ := FL.ex
    rw [e0]
    exact .of_eq rfl
  · have OB : FnOk P w K mg base CX0 1 _ _ _ _ := ok_bad FB TCB.ox nCB0 nCB1
    have ON : FnOk P w K mg base CX0 1 _ _ _ _ := ok_noc FN TCN.ox nCN0
    have OG : FnOk P w K mg base CX0 1 _ _ _ _ := ok_ringI FG TCG.ox nCG0
    have ONR : FnOk P w K mg base CX0 1 _ _ _ _ := ok_noRd FNR TCNR.ox nCNR0
    have OOR : FnOk P w K mg base CX0 1 _ _ _ _ := ok_off FOR TCOR.ox nCOR0
    have ONW : FnOk P w K mg base CX0 1 _ _ _ _ := ok_notW FNW TCNW.ox nCNW0
    have OR_ : FnOk P w K mg base CX0 1 _ _ _ (spRoadI CR) := ok_roadI FR TR
    have OC : FnOk P w K mg base (L2.CX P w) 3 _ _ _ (spCheck CR CB CN) := ok_check FC TR TCB TCN OB bB ON bN hL0
    have OI : FnOk P w K mg base CX0 1 _ _ _ (spJoin K CR) := ok_join FI TR z_range
    have OA : FnOk P w K mg base (L2.CX P w) 4 _ _ _ (spTrails K CR CB CN CG) := ok_trails FA TR TCG OG bG OC bC aC kC OI bI aI kI z_range z_enumerate
    have OT : FnOk P w K mg base (L2.CX P w) 5 _ _ _ (spTreeI K CT CR CB CN CG) := ok_treeI FT TT TCB OB bB OA bA aA kA v0 v1 z_len z_tuple
    have OPl : FnOk P w K mg base (L2.CX P w) 3 _ _ _ (spPlaceI CP CB) := ok_placeI FPl TP TCB OB bB gcdB
    have OCK : FnOk P w K mg base (L2.CX P w) 3 _ _ _ (spCheckPl K CT CR CP CNR COR) := ok_checkPl FCK TT TR TP TCNR TCOR ONR bNR OOR bOR z_len
    have OMa : FnOk P w K mg base CX0 1 _ _ _ (spMarchI CM) := ok_marchI FMa TM
    have OCH : FnOk P w K mg base (L2.CX P w) 4 _ _ _ (spCheckMa K CT CR CM CP CB CNR COR CNW) := ok_checkMa FCH TM TP TCB TCNW OCK bCK aCK kCK OB bB ONW bNW hL1
    have ORw : FnOk P w K mg base (L2.CX P w) 5 _ _ _ (spRowI K CT CR CM CP CW CB CNR COR CNW) := ok_rowI FRw TW TCB OCH bCH aCH kCH OB bB v2 z_len z_enumerate z_tuple
    have OPE : FnOk P w K mg base CX0 1 _ _ _ (spPlaceE CP) := ok_placeE FPE TP QCP z_isinstance
    have OEA : FnOk P w K mg base CX0 1 _ _ _ (spEndAt CR) := ok_endAt FEA TR
    have OEB : FnOk P w K mg base CX0 1 _ _ _ (spEndBy CR) := ok_endBy FEB TR
    have OCO : FnOk P w K mg base (L2.CX P w) 5 _ _ _ (spCorner K CT CR CP CN) := ok_corner FCO TT TR TP TCN ON bN OEA bEA aEA kEA MCP OPl bPl z_min z_enumerate
    have OKY : FnOk P w K mg base (L2.CX P w) 6 _ _ _ (spKey K CT CR CP CNR COR) := ok_key FKY TT TR TP OCK bCK aCK kCK OCO bCO aCO kCO
    have OLG : FnOk P w K mg base CX0 2 _ _ _ (spLegs K CT CR CP) := ok_legs FLG TT TR TP OEA bEA aEA kEA OEB bEB aEB kEB
    have ODI : FnOk P w K mg base (L2.CX P w) 4 _ _ _ (spDist K CT CR CP CNR COR) := ok_dist FDI TP OCK bCK aCK kCK OLG bLG aLG kLG lcmB gcdB z_sum z_abs
    have OST : FnOk P w K mg base (L2.CX P w) 7 _ _ _ (spStep K CT CR CP CB CNR COR) := ok_step FST TP TCB OB bB OCK bCK aCK kCK OLG bLG aLG kLG OKY bKY aKY kKY MCP OPl bPl lcmB z_abs
    have OAF : FnOk P w K mg base (L2.CX P w) 8 _ _ _ (spAfter K CT CR CM CP CW CB CNR COR) := ok_after FAF TW TM TCB OB bB OKY bKY aKY kKY OST bST aST kST v3 z_range
    have OZI : FnOk P w K mg base CX0 1 _ _ _ (spStretchI CS) := ok_stretchI FZI TS
    have OZW : FnOk P w K mg base CX0 1 _ _ _ _ := ok_wideI FZW TCWd.ox nCWd0
    have OZG : FnOk P w K mg base CX0 2 _ _ _ (spGath CS CP) := ok_gathered FZG TS QCP OPE bPE
    have OZB : FnOk P w K mg base CX0 5 _ _ _ (spStepsB K CT CR CP) := ok_stepsB FZB ODI bDI aDI kDI
    have OZK : FnOk P w K mg base CX0 8 _ _ _ (spMarks K CT CR CM CP CS) := ok_marks FZK TS TM OZB bZB aZB kZB OST bST aST kST z_min z_max
    have OZM : FnOk P w K mg base CX0 9 _ _ _ (spMarched K CT CR CM CP CS) := ok_marched FZM TS TM OZG bZG aZG kZG OST bST aST kST OZK bZK aZK kZK MCS OZI bZI z_zip
    have OZO : FnOk P w K mg base CX0 6 _ _ _ (spIsOne K CT CR CP CS) := ok_isOne FZO TS OZG bZG aZG kZG OZB bZB aZB kZB
    have OZJ : FnOk P w K mg base CX0 7 _ _ _ (spJoinedP K CT CR CP CS) := ok_joinedP FZJ TS OZO bZO aZO kZO MCS OZI bZI
    have OZA : FnOk P w K mg base (L2.CX P w) 10 _ _ _ (spStretchesA K CT CR CM CP CS CWd) := ok_stretchesA FZA TS TT TR TCWd OZW bZW OCO bCO aCO kCO OZM bZM aZM kZM OZJ bZJ aZJ kZJ MCS OZI bZI v4 z_enumerate z_len
    have OZD : FnOk P w K mg base (L2.CX P w) 11 _ _ _ (spDoing K CT CR CM CP CS CW CWd) := ok_doing FZD TW OZA bZA aZA kZA
    have OPcI : FnOk P w K mg base CX0 1 _ _ _ (spPieceI CPc) := ok_pieceI FPcI TPc
    have OBI : FnOk P w K mg base CX0 1 _ _ _ (spIsOneB CPc) := ok_isOneB FBI TPc
    have OBP : FnOk P w K mg base CX0 5 _ _ _ (spPiecesIn K CT CR CP CS CPc) := ok_piecesIn FBP TS TP TPc QCP OPE bPE ODI bDI aDI kDI OZG bZG aZG kZG MCPc OPcI bPcI
    have OBA : FnOk P w K mg base CX0 12 _ _ _ (spBack K CT CR CM CP CW CPc) := ok_back FBA TW TPc OKY bKY aKY kKY OZD bZD aZD kZD OBP bBP aBP kBP OBI bBI aBI kBI MCPc OPcI bPcI
    have OXC : FnOk P w K mg base CX0 1 _ _ _ (spCellF K) := ok_cellF FXC z_len
    have OXG : FnOk P w K mg base CX0 1 _ _ _ spSource := ok_source FXG z_abs
    have OXD : FnOk P w K mg base CX0 1 _ _ _ spDraw := ok_draw FXD
    have OXP : FnOk P w K mg base CX0 2 _ _ _ (spPick K) := ok_pick FXP OXD bXD aXD kXD z_len
    have OXS : FnOk P w K mg base CX0 2 _ _ _ spSample := ok_sample FXS OXD bXD aXD kXD z_len z_list z_range
    have OXT : FnOk P w K mg base CX0 3 _ _ _ spRTree := ok_rTree FXT OXD bXD aXD kXD OXP bXP aXP kXP OXS bXS aXS kXS z_list z_range
    have OXB : FnOk P w K mg base CX0 7 _ _ _ (spMade K CT CR) := ok_bTree FXB TR TT MCR MCT OR_ bR OT bT
    have OXM : FnOk P w K mg base CX0 3 _ _ _ spRMarches := ok_rMarches FXM OXD bXD aXD kXD OXP bXP aXP kXP z_len z_range
    have OXR : FnOk P w K mg base CX0 8 _ _ _ (spBRow K CT CR CM CP CW) := ok_bRow FXR TW TM TP MCW MCM MCP OXB bXB aXB kXB ORw bRw OMa bMa OPl bPl
    have OYS : FnOk P w K mg base CX0 1 _ _ _ spScaled := ok_scaled FYS
    have OPH : FnOk P w K mg base CX0 9 _ _ _ (spPiecesHold K CT CR CM CP CW CPc) := ok_piecesHold FPH TW TP TPc OXD bXD aXD kXD OKY bKY aKY kKY OAF rAF bAF aAF kAF MCP OPl bPl QCP OPE bPE
    have OPS : FnOk P w K mg base CX0 5 _ _ _ (spSamples CP CPc) := ok_samples FPS TP TPc MCP OPl bPl
    have OPC : FnOk P w K mg base CX0 1 _ _ _ (spContains CP CPc) := ok_contains FPC TP TPc
    have OPW : FnOk P w K mg base CX0 13 _ _ _ (spCompHolds CP) := ok_compHolds FPW OXR bXR aXR kXR OBA bBA aBA kBA OPS bPS aPS kPS OPC bPC aPC kPC OAF rAF bAF aAF kAF
    have OPX : FnOk P w K mg base CX0 13 _ _ _ (spScalHolds CP CPc) := ok_scalHolds FPX TP TPc OYS bYS aYS kYS OXR bXR aXR kXR OBA bBA aBA kBA MCP OPl bPl z_len z_zip
    exact ok_law FL TW TP MCP OPl bPl QCP OPE bPE OXD bXD aXD kXD OXP bXP aXP kXP OXC bXC aXC kXC OXG bXG aXG kXG OXT bXT aXT kXT OXM bXM aXM kXM OXR bXR aXR kXR OBA bBA aBA kBA OKY bKY aKY kKY OAF rAF bAF aAF kAF OPH bPH aPH kPH OPW bPW aPW kPW OPX bPX aPX kPX OPS bPS aPS kPS z_len
end OT
set_option Elab.async false
set_option linter.all false
set_option maxRecDepth 100000
set_option maxHeartbeats 0
namespace OT
open PySem L2 OTR
theorem hk_facts {P : Program} {w : World} {K : PySem.W.Frag} {h : Heap} {mg : Str → Option Value} (X : K.In h) (G : h.Ns mainGlobals mg) (c : SaysP hkFa hkFn hkEx K) :
    ∃ fd : FuncData, (∀ (s : Shared) (v : Value), BindsTo s fd ⟨[v], []⟩ [("_law_script", v)]) ∧ mg "law" = some (.ref (He.ga K "law")) ∧ ∀ base : Heap, K.In base → base.Ns mainGlobals mg → FnOk P w K mg base CX0 14 (He.ga K "law") fd ["_law_script"] (spLaw K) := by
  obtain ⟨fdC, dC⟩ := c.d.def_ 0 (d := ⟨("check_road", none), "check_road", "check_road", defArgs (top 18), defBody (top 18), defScope (top 18), [], []⟩) rfl
  obtain ⟨fdI, dI⟩ := c.d.def_ 1 (d := ⟨("join_trails", none), "join_trails", "join_trails", defArgs (top 19), defBody (top 19), defScope (top 19), [], []⟩) rfl
  obtain ⟨fdA, dA⟩ := c.d.def_ 2 (d := ⟨("trails_along", none), "trails_along", "trails_along", defArgs (top 17), defBody (top 17), defScope (top 17), [], []⟩) rfl
  obtain ⟨fdCK, dCK⟩ := c.d.def_ 3 (d := ⟨("check_place", none), "check_place", "check_place", defArgs (top 24), defBody (top 24), defScope (top 24), [], []⟩) rfl
  obtain ⟨fdCH, dCH⟩ := c.d.def_ 4 (d := ⟨("check_march", none), "check_march", "check_march", defArgs (top 37), defBody (top 37), defScope (top 37), [], []⟩) rfl
  obtain ⟨fdEA, dEA⟩ := c.d.def_ 5 (d := ⟨("end_at", none), "end_at", "end_at", defArgs (top 20), defBody (top 20), defScope (top 20), [], []⟩) rfl
  obtain ⟨fdEB, dEB⟩ := c.d.def_ 6 (d := ⟨("end_beyond", none), "end_beyond", "end_beyond", defArgs (top 21), defBody (top 21), defScope (top 21), [], []⟩) rfl
  obtain ⟨fdCO, dCO⟩ := c.d.def_ 7 (d := ⟨("corner", none), "corner", "corner", defArgs (top 26), defBody (top 26), defScope (top 26), [], []⟩) rfl
  obtain ⟨fdKY, dKY⟩ := c.d.def_ 8 (d := ⟨("key", none), "key", "key", defArgs (top 25), defBody (top 25), defScope (top 25), [], []⟩) rfl
  obtain ⟨fdLG, dLG⟩ := c.d.def_ 9 (d := ⟨("legs", none), "legs", "legs", defArgs (top 30), defBody (top 30), defScope (top 30), [], []⟩) rfl
  obtain ⟨fdDI, dDI⟩ := c.d.def_ 10 (d := ⟨("distance", none), "distance", "distance", defArgs (top 27), defBody (top 27), defScope (top 27), [], []⟩) rfl
  obtain ⟨fdST, dST⟩ := c.d.def_ 11 (d := ⟨("step", none), "step", "step", defArgs (top 29), defBody (top 29), defScope (top 29), [], []⟩) rfl
  obtain ⟨fdAF, dAF⟩ := c.d.def_ 12 (d := ⟨("after", none), "after", "after", defArgs (top 39), defBody (top 39), defScope (top 39), [], [("rounds", .int 1)]⟩) rfl
  obtain ⟨fdZG, dZG⟩ := c.d.def_ 13 (d := ⟨("is_gathered", none), "is_gathered", "is_gathered", defArgs (top 47), defBody (top 47), defScope (top 47), [], []⟩) rfl
  obtain ⟨fdZB, dZB⟩ := c.d.def_ 14 (d := ⟨("steps_between", none), "steps_between", "steps_between", defArgs (top 28), defBody (top 28), defScope (top 28), [], []⟩) rfl
  obtain ⟨fdZK, dZK⟩ := c.d.def_ 15 (d := ⟨("marks_of", none), "marks_of", "marks_of", defArgs (top 46), defBody (top 46), defScope (top 46), [], []⟩) rfl
  obtain ⟨fdZM, dZM⟩ := c.d.def_ 16 (d := ⟨("marched", none), "marched", "marched", defArgs (top 45), defBody (top 45), defScope (top 45), [], []⟩) rfl
  obtain ⟨fdZO, dZO⟩ := c.d.def_ 17 (d := ⟨("is_one_doings", none), "is_one", "is_one", defArgs (top 49), defBody (top 49), defScope (top 49), [], []⟩) rfl
  obtain ⟨fdZJ, dZJ⟩ := c.d.def_ 18 (d := ⟨("joined", none), "joined", "joined", defArgs (top 48), defBody (top 48), defScope (top 48), [], []⟩) rfl
  obtain ⟨fdZA, dZA⟩ := c.d.def_ 19 (d := ⟨("stretches_after", none), "stretches_after", "stretches_after", defArgs (top 44), defBody (top 44), defScope (top 44), [], []⟩) rfl
  obtain ⟨fdZD, dZD⟩ := c.d.def_ 20 (d := ⟨("doing", none), "doing", "doing", defArgs (top 43), defBody (top 43), defScope (top 43), [], []⟩) rfl
  obtain ⟨fdBI, dBI⟩ := c.d.def_ 21 (d := ⟨("is_one_backs", none), "is_one", "is_one", defArgs (top 55), defBody (top 55), defScope (top 55), [], []⟩) rfl
  obtain ⟨fdBP, dBP⟩ := c.d.def_ 22 (d := ⟨("pieces_in", none), "pieces_in", "pieces_in", defArgs (top 54), defBody (top 54), defScope (top 54), [], []⟩) rfl
  obtain ⟨fdBA, dBA⟩ := c.d.def_ 23 (d := ⟨("back", none), "back", "back", defArgs (top 53), defBody (top 53), defScope (top 53), [], []⟩) rfl
  obtain ⟨fdXC, dXC⟩ := c.d.def_ 24 (d := ⟨("_law_cell", none), "_law_cell", "_law_cell", defArgs (top 58), defBody (top 58), defScope (top 58), [], []⟩) rfl
  obtain ⟨fdXG, dXG⟩ := c.d.def_ 25 (d := ⟨("_law_rng", none), "_law_rng", "_law_rng", defArgs (top 59), defBody (top 59), defScope (top 59), [], []⟩) rfl
  obtain ⟨fdXD, dXD⟩ := c.d.def_ 26 (d := ⟨("_law_draw", none), "_law_draw", "_law_draw", defArgs (top 60), defBody (top 60), defScope (top 60), [], []⟩) rfl
  obtain ⟨fdXP, dXP⟩ := c.d.def_ 27 (d := ⟨("_law_pick", none), "_law_pick", "_law_pick", defArgs (top 61), defBody (top 61), defScope (top 61), [], []⟩) rfl
  obtain ⟨fdXS, dXS⟩ := c.d.def_ 28 (d := ⟨("_law_sample", none), "_law_sample", "_law_sample", defArgs (top 62), defBody (top 62), defScope (top 62), [], []⟩) rfl
  obtain ⟨fdXT, dXT⟩ := c.d.def_ 29 (d := ⟨("_law_random_tree", none), "_law_random_tree", "_law_random_tree", defArgs (top 63), defBody (top 63), defScope (top 63), [], []⟩) rfl
  obtain ⟨fdXB, dXB⟩ := c.d.def_ 30 (d := ⟨("_law_build_tree", none), "_law_build_tree", "_law_build_tree", defArgs (top 64), defBody (top 64), defScope (top 64), [], []⟩) rfl
  obtain ⟨fdXM, dXM⟩ := c.d.def_ 31 (d := ⟨("_law_random_marches", none), "_law_random_marches", "_law_random_marches", defArgs (top 65), defBody (top 65), defScope (top 65), [], []⟩) rfl
  obtain ⟨fdXR, dXR⟩ := c.d.def_ 32 (d := ⟨("_law_build_row", none), "_law_build_row", "_law_build_row", defArgs (top 66), defBody (top 66), defScope (top 66), [], []⟩) rfl
  obtain ⟨fdYS, dYS⟩ := c.d.def_ 33 (d := ⟨("_law_scaled", none), "_law_scaled", "_law_scaled", defArgs (top 67), defBody (top 67), defScope (top 67), [], []⟩) rfl
  obtain ⟨fdPH, dPH⟩ := c.d.def_ 34 (d := ⟨("_law_pieces_hold", none), "_law_pieces_hold", "_law_pieces_hold", defArgs (top 68), defBody (top 68), defScope (top 68), [], []⟩) rfl
  obtain ⟨fdPS, dPS⟩ := c.d.def_ 35 (d := ⟨("_law_samples", none), "_law_samples", "_law_samples", defArgs (top 69), defBody (top 69), defScope (top 69), [], []⟩) rfl
  obtain ⟨fdPC, dPC⟩ := c.d.def_ 36 (d := ⟨("_law_contains", none), "_law_contains", "_law_contains", defArgs (top 70), defBody (top 70), defScope (top 70), [], []⟩) rfl
  obtain ⟨fdPW, dPW⟩ := c.d.def_ 37 (d := ⟨("_law_composition_holds", none), "_law_composition_holds", "_law_composition_holds", defArgs (top 71), defBody (top 71), defScope (top 71), [], []⟩) rfl
  obtain ⟨fdPX, dPX⟩ := c.d.def_ 38 (d := ⟨("_law_scaling_holds", none), "_law_scaling_holds", "_law_scaling_holds", defArgs (top 72), defBody (top 72), defScope (top 72), [], []⟩) rfl
  obtain ⟨fdL, dL⟩ := c.d.def_ 39 (d := ⟨("law", none), "law", "law", defArgs (top 73), defBody (top 73), defScope (top 73), [], []⟩) rfl
  obtain ⟨fdB, dB⟩ := c.d.def_ 40 (d := ⟨("BadCount", some "__init__"), "__init__", "BadCount.__init__", defArgs (inClass (top 4) 0), defBody (inClass (top 4) 0), defScope (inClass (top 4) 0), [], []⟩) rfl
  obtain ⟨fdN, dN⟩ := c.d.def_ 41 (d := ⟨("NoCrossing", some "__init__"), "__init__", "NoCrossing.__init__", defArgs (inClass (top 5) 0), defBody (inClass (top 5) 0), defScope (inClass (top 5) 0), [], []⟩) rfl
  obtain ⟨fdG, dG⟩ := c.d.def_ 42 (d := ⟨("RingRoad", some "__init__"), "__init__", "RingRoad.__init__", defArgs (inClass (top 6) 0), defBody (inClass (top 6) 0), defScope (inClass (top 6) 0), [], []⟩) rfl
  obtain ⟨fdNR, dNR⟩ := c.d.def_ 43 (d := ⟨("NoRoad", some "__init__"), "__init__", "NoRoad.__init__", defArgs (inClass (top 7) 0), defBody (inClass (top 7) 0), defScope (inClass (top 7) 0), [], []⟩) rfl
  obtain ⟨fdOR, dOR⟩ := c.d.def_ 44 (d := ⟨("OffRoad", some "__init__"), "__init__", "OffRoad.__init__", defArgs (inClass (top 8) 0), defBody (inClass (top 8) 0), defScope (inClass (top 8) 0), [], []⟩) rfl
  obtain ⟨fdNW, dNW⟩ := c.d.def_ 45 (d := ⟨("NotWhole", some "__init__"), "__init__", "NotWhole.__init__", defArgs (inClass (top 9) 0), defBody (inClass (top 9) 0), defScope (inClass (top 9) 0), [], []⟩) rfl
  obtain ⟨fdR, dR⟩ := c.d.def_ 46 (d := ⟨("Road", some "__init__"), "__init__", "Road.__init__", defArgs (inClass (top 15) 0), defBody (inClass (top 15) 0), defScope (inClass (top 15) 0), [], []⟩) rfl
  obtain ⟨fdT, dT⟩ := c.d.def_ 47 (d := ⟨("Tree", some "__init__"), "__init__", "Tree.__init__", defArgs (inClass (top 16) 0), defBody (inClass (top 16) 0), defScope (inClass (top 16) 0), [], []⟩) rfl
  obtain ⟨fdPl, dPl⟩ := c.d.def_ 48 (d := ⟨("Place", some "__init__"), "__init__", "Place.__init__", defArgs (inClass (top 23) 0), defBody (inClass (top 23) 0), defScope (inClass (top 23) 0), [], []⟩) rfl
  obtain ⟨fdMa, dMa⟩ := c.d.def_ 49 (d := ⟨("March", some "__init__"), "__init__", "March.__init__", defArgs (inClass (top 35) 0), defBody (inClass (top 35) 0), defScope (inClass (top 35) 0), [], []⟩) rfl
  obtain ⟨fdRw, dRw⟩ := c.d.def_ 50 (d := ⟨("Row", some "__init__"), "__init__", "Row.__init__", defArgs (inClass (top 36) 0), defBody (inClass (top 36) 0), defScope (inClass (top 36) 0), [], []⟩) rfl
  obtain ⟨fdPE, dPE⟩ := c.d.def_ 51 (d := ⟨("Place", some "__eq__"), "__eq__", "Place.__eq__", defArgs (inClass (top 23) 1), defBody (inClass (top 23) 1), defScope (inClass (top 23) 1), [], []⟩) rfl
  obtain ⟨fdZI, dZI⟩ := c.d.def_ 52 (d := ⟨("Stretch", some "__init__"), "__init__", "Stretch.__init__", defArgs (inClass (top 42) 0), defBody (inClass (top 42) 0), defScope (inClass (top 42) 0), [], []⟩) rfl
  obtain ⟨fdZW, dZW⟩ := c.d.def_ 53 (d := ⟨("Wide", some "__init__"), "__init__", "Wide.__init__", defArgs (inClass (top 10) 0), defBody (inClass (top 10) 0), defScope (inClass (top 10) 0), [], []⟩) rfl
  obtain ⟨fdPcI, dPcI⟩ := c.d.def_ 54 (d := ⟨("Piece", some "__init__"), "__init__", "Piece.__init__", defArgs (inClass (top 52) 0), defBody (inClass (top 52) 0), defScope (inClass (top 52) 0), [], []⟩) rfl
  have z := all_mk (P := P) (w := w) (K := K) (mg := mg) (fC := He.ga K "check_road") (fI := He.ga K "join_trails") (fA := He.ga K "trails_along") (fCK := He.ga K "check_place") (fCH := He.ga K "check_march") (fEA := He.ga K "end_at") (fEB := He.ga K "end_beyond") (fCO := He.ga K "corner") (fKY := He.ga K "key") (fLG := He.ga K "legs") (fDI := He.ga K "distance") (fST := He.ga K "step") (fAF := He.ga K "after") (fZG := He.ga K "is_gathered") (fZB := He.ga K "steps_between") (fZK := He.ga K "marks_of") (fZM := He.ga K "marched") (fZO := He.ga K "is_one_doings") (fZJ := He.ga K "joined") (fZA := He.ga K "stretches_after") (fZD := He.ga K "doing") (fBI := He.ga K "is_one_backs") (fBP := He.ga K "pieces_in") (fBA := He.ga K "back") (fXC := He.ga K "_law_cell") (fXG := He.ga K "_law_rng") (fXD := He.ga K "_law_draw") (fXP := He.ga K "_law_pick") (fXS := He.ga K "_law_sample") (fXT := He.ga K "_law_random_tree") (fXB := He.ga K "_law_build_tree") (fXM := He.ga K "_law_random_marches") (fXR := He.ga K "_law_build_row") (fYS := He.ga K "_law_scaled") (fPH := He.ga K "_law_pieces_hold") (fPS := He.ga K "_law_samples") (fPC := He.ga K "_law_contains") (fPW := He.ga K "_law_composition_holds") (fPX := He.ga K "_law_scaling_holds") (fL := He.ga K "law") (CR := He.ga K "Road") (CT := He.ga K "Tree") (CP := He.ga K "Place") (CM := He.ga K "March") (CW := He.ga K "Row") (CS := He.ga K "Stretch") (CPc := He.ga K "Piece") (CB := He.ga K "BadCount") (CN := He.ga K "NoCrossing") (CG := He.ga K "RingRoad") (CNR := He.ga K "NoRoad") (COR := He.ga K "OffRoad") (CNW := He.ga K "NotWhole") (CWd := He.ga K "Wide") (fB := He.ma K (He.ga K "BadCount") "__init__") (fN := He.ma K (He.ga K "NoCrossing") "__init__") (fG := He.ma K (He.ga K "RingRoad") "__init__") (fNR := He.ma K (He.ga K "NoRoad") "__init__") (fOR := He.ma K (He.ga K "OffRoad") "__init__") (fNW := He.ma K (He.ga K "NotWhole") "__init__") (fR := He.ma K (He.ga K "Road") "__init__") (fT := He.ma K (He.ga K "Tree") "__init__") (fPl := He.ma K (He.ga K "Place") "__init__") (fMa := He.ma K (He.ga K "March") "__init__") (fRw := He.ma K (He.ga K "Row") "__init__") (fPE := He.ma K (He.ga K "Place") "__eq__") (fZI := He.ma K (He.ga K "Stretch") "__init__") (fZW := He.ma K (He.ga K "Wide") "__init__") (fPcI := He.ma K (He.ga K "Piece") "__init__") (fdC := fdC) (fdI := fdI) (fdA := fdA) (fdCK := fdCK) (fdCH := fdCH) (fdEA := fdEA) (fdEB := fdEB) (fdCO := fdCO) (fdKY := fdKY) (fdLG := fdLG) (fdDI := fdDI) (fdST := fdST) (fdAF := fdAF) (fdZG := fdZG) (fdZB := fdZB) (fdZK := fdZK) (fdZM := fdZM) (fdZO := fdZO) (fdZJ := fdZJ) (fdZA := fdZA) (fdZD := fdZD) (fdBI := fdBI) (fdBP := fdBP) (fdBA := fdBA) (fdXC := fdXC) (fdXG := fdXG) (fdXD := fdXD) (fdXP := fdXP) (fdXS := fdXS) (fdXT := fdXT) (fdXB := fdXB) (fdXM := fdXM) (fdXR := fdXR) (fdYS := fdYS) (fdPH := fdPH) (fdPS := fdPS) (fdPC := fdPC) (fdPW := fdPW) (fdPX := fdPX) (fdL := fdL) (fdB := fdB) (fdN := fdN) (fdG := fdG) (fdNR := fdNR) (fdOR := fdOR) (fdNW := fdNW) (fdR := fdR) (fdT := fdT) (fdPl := fdPl) (fdMa := fdMa) (fdRw := fdRw) (fdPE := fdPE) (fdZI := fdZI) (fdZW := fdZW) (fdPcI := fdPcI)
    (He.glo_ok X G (c.d.fact 0 (f := .glo "check_road") rfl))
    (fun_of dC)
    (He.glo_ok X G (c.d.fact 1 (f := .glo "join_trails") rfl))
    (fun_of dI)
    (He.glo_ok X G (c.d.fact 2 (f := .glo "trails_along") rfl))
    (fun_of dA)
    (He.glo_ok X G (c.d.fact 3 (f := .glo "check_place") rfl))
    (fun_of dCK)
    (He.glo_ok X G (c.d.fact 4 (f := .glo "check_march") rfl))
    (fun_of dCH)
    (He.glo_ok X G (c.d.fact 5 (f := .glo "end_at") rfl))
    (fun_of dEA)
    (He.glo_ok X G (c.d.fact 6 (f := .glo "end_beyond") rfl))
    (fun_of dEB)
    (He.glo_ok X G (c.d.fact 7 (f := .glo "corner") rfl))
    (fun_of dCO)
    (He.glo_ok X G (c.d.fact 8 (f := .glo "key") rfl))
    (fun_of dKY)
    (He.glo_ok X G (c.d.fact 9 (f := .glo "legs") rfl))
    (fun_of dLG)
    (He.glo_ok X G (c.d.fact 10 (f := .glo "distance") rfl))
    (fun_of dDI)
    (He.glo_ok X G (c.d.fact 11 (f := .glo "step") rfl))
    (fun_of dST)
    (He.glo_ok X G (c.d.fact 12 (f := .glo "after") rfl))
    dAF
    (He.glo_ok X G (c.d.fact 13 (f := .glo "is_gathered") rfl))
    (fun_of dZG)
    (He.glo_ok X G (c.d.fact 14 (f := .glo "steps_between") rfl))
    (fun_of dZB)
    (He.glo_ok X G (c.d.fact 15 (f := .glo "marks_of") rfl))
    (fun_of dZK)
    (He.glo_ok X G (c.d.fact 16 (f := .glo "marched") rfl))
    (fun_of dZM)
    (He.glo_ok X G (c.d.fact 17 (f := .glo "is_one_doings") rfl))
    (fun_of dZO)
    (He.glo_ok X G (c.d.fact 18 (f := .glo "joined") rfl))
    (fun_of dZJ)
    (He.glo_ok X G (c.d.fact 19 (f := .glo "stretches_after") rfl))
    (fun_of dZA)
    (He.glo_ok X G (c.d.fact 20 (f := .glo "doing") rfl))
    (fun_of dZD)
    (He.glo_ok X G (c.d.fact 21 (f := .glo "is_one_backs") rfl))
    (fun_of dBI)
    (He.glo_ok X G (c.d.fact 22 (f := .glo "pieces_in") rfl))
    (fun_of dBP)
    (He.glo_ok X G (c.d.fact 23 (f := .glo "back") rfl))
    (fun_of dBA)
    (He.glo_ok X G (c.d.fact 24 (f := .glo "_law_cell") rfl))
    (fun_of dXC)
    (He.glo_ok X G (c.d.fact 25 (f := .glo "_law_rng") rfl))
    (fun_of dXG)
    (He.glo_ok X G (c.d.fact 26 (f := .glo "_law_draw") rfl))
    (fun_of dXD)
    (He.glo_ok X G (c.d.fact 27 (f := .glo "_law_pick") rfl))
    (fun_of dXP)
    (He.glo_ok X G (c.d.fact 28 (f := .glo "_law_sample") rfl))
    (fun_of dXS)
    (He.glo_ok X G (c.d.fact 29 (f := .glo "_law_random_tree") rfl))
    (fun_of dXT)
    (He.glo_ok X G (c.d.fact 30 (f := .glo "_law_build_tree") rfl))
    (fun_of dXB)
    (He.glo_ok X G (c.d.fact 31 (f := .glo "_law_random_marches") rfl))
    (fun_of dXM)
    (He.glo_ok X G (c.d.fact 32 (f := .glo "_law_build_row") rfl))
    (fun_of dXR)
    (He.glo_ok X G (c.d.fact 33 (f := .glo "_law_scaled") rfl))
    (fun_of dYS)
    (He.glo_ok X G (c.d.fact 34 (f := .glo "_law_pieces_hold") rfl))
    (fun_of dPH)
    (He.glo_ok X G (c.d.fact 35 (f := .glo "_law_samples") rfl))
    (fun_of dPS)
    (He.glo_ok X G (c.d.fact 36 (f := .glo "_law_contains") rfl))
    (fun_of dPC)
    (He.glo_ok X G (c.d.fact 37 (f := .glo "_law_composition_holds") rfl))
    (fun_of dPW)
    (He.glo_ok X G (c.d.fact 38 (f := .glo "_law_scaling_holds") rfl))
    (fun_of dPX)
    (He.glo_ok X G (c.d.fact 39 (f := .glo "law") rfl))
    (fun_of dL)
    (He.glo_ok X G (c.d.fact 40 (f := .glo "Road") rfl))
    (He.glo_ok X G (c.d.fact 41 (f := .glo "Tree") rfl))
    (He.glo_ok X G (c.d.fact 42 (f := .glo "Place") rfl))
    (He.glo_ok X G (c.d.fact 43 (f := .glo "March") rfl))
    (He.glo_ok X G (c.d.fact 44 (f := .glo "Row") rfl))
    (He.glo_ok X G (c.d.fact 45 (f := .glo "Stretch") rfl))
    (He.glo_ok X G (c.d.fact 46 (f := .glo "Piece") rfl))
    (He.glo_ok X G (c.d.fact 47 (f := .glo "BadCount") rfl))
    (He.glo_ok X G (c.d.fact 48 (f := .glo "NoCrossing") rfl))
    (He.glo_ok X G (c.d.fact 49 (f := .glo "RingRoad") rfl))
    (He.glo_ok X G (c.d.fact 50 (f := .glo "NoRoad") rfl))
    (He.glo_ok X G (c.d.fact 51 (f := .glo "OffRoad") rfl))
    (He.glo_ok X G (c.d.fact 52 (f := .glo "NotWhole") rfl))
    (He.glo_ok X G (c.d.fact 53 (f := .glo "Wide") rfl))
    (fun_of dB)
    (fun_of dN)
    (fun_of dG)
    (fun_of dNR)
    (fun_of dOR)
    (fun_of dNW)
    (fun_of dR)
    (fun_of dT)
    (fun_of dPl)
    (fun_of dMa)
    (fun_of dRw)
    (fun_of dPE)
    (fun_of dZI)
    (fun_of dZW)
    (fun_of dPcI)
    (He.cls_ok (c.d.fact 54 (f := .cls "Road") rfl))
    (He.noat_ok (c.d.fact 55 (f := .noat "Road" "a") rfl))
    (He.noat_ok (c.d.fact 56 (f := .noat "Road" "b") rfl))
    (He.noat_ok (c.d.fact 57 (f := .noat "Road" "length") rfl))
    (He.mkr_ok (c.d.fact 58 (f := .mkr "Road") rfl))
    (He.cls_ok (c.d.fact 59 (f := .cls "Tree") rfl))
    (He.noat_ok (c.d.fact 60 (f := .noat "Tree" "crossings") rfl))
    (He.noat_ok (c.d.fact 61 (f := .noat "Tree" "roads") rfl))
    (He.noat_ok (c.d.fact 62 (f := .noat "Tree" "trails") rfl))
    (He.mkr_ok (c.d.fact 63 (f := .mkr "Tree") rfl))
    (He.cls_ok (c.d.fact 64 (f := .cls "Place") rfl))
    (He.noat_ok (c.d.fact 65 (f := .noat "Place" "road") rfl))
    (He.noat_ok (c.d.fact 66 (f := .noat "Place" "number") rfl))
    (He.noat_ok (c.d.fact 67 (f := .noat "Place" "parts") rfl))
    (He.mkr_ok (c.d.fact 68 (f := .mkr "Place") rfl))
    (qc_ok (He.cls_ok (c.d.fact 64 (f := .cls "Place") rfl)) (ex_at c.more 0 rfl) (ex_at c.more 1 rfl))
    (He.cls_ok (c.d.fact 69 (f := .cls "March") rfl))
    (He.noat_ok (c.d.fact 70 (f := .noat "March" "goal") rfl))
    (He.noat_ok (c.d.fact 71 (f := .noat "March" "steps") rfl))
    (He.mkr_ok (c.d.fact 72 (f := .mkr "March") rfl))
    (He.cls_ok (c.d.fact 73 (f := .cls "Row") rfl))
    (He.noat_ok (c.d.fact 74 (f := .noat "Row" "tree") rfl))
    (He.noat_ok (c.d.fact 75 (f := .noat "Row" "marches") rfl))
    (He.mkr_ok (c.d.fact 76 (f := .mkr "Row") rfl))
    (He.cls_ok (c.d.fact 77 (f := .cls "Stretch") rfl))
    (He.noat_ok (c.d.fact 78 (f := .noat "Stretch" "road") rfl))
    (He.noat_ok (c.d.fact 79 (f := .noat "Stretch" "least") rfl))
    (He.noat_ok (c.d.fact 80 (f := .noat "Stretch" "greatest") rfl))
    (He.noat_ok (c.d.fact 81 (f := .noat "Stretch" "first") rfl))
    (He.noat_ok (c.d.fact 82 (f := .noat "Stretch" "last") rfl))
    (He.mkr_ok (c.d.fact 83 (f := .mkr "Stretch") rfl))
    (He.cls_ok (c.d.fact 84 (f := .cls "Piece") rfl))
    (He.noat_ok (c.d.fact 85 (f := .noat "Piece" "road") rfl))
    (He.noat_ok (c.d.fact 86 (f := .noat "Piece" "least") rfl))
    (He.noat_ok (c.d.fact 87 (f := .noat "Piece" "greatest") rfl))
    (He.noat_ok (c.d.fact 88 (f := .noat "Piece" "parts") rfl))
    (He.mkr_ok (c.d.fact 89 (f := .mkr "Piece") rfl))
    (He.noat_ok (c.d.fact 90 (f := .noat "BadCount" "what") rfl))
    (He.noat_ok (c.d.fact 91 (f := .noat "BadCount" "count") rfl))
    (er_ok (He.glo_ok X G (c.d.fact 47 (f := .glo "BadCount") rfl)) (ex_at c.more 0 rfl) (ex_at c.more 2 rfl))
    (He.noat_ok (c.d.fact 92 (f := .noat "NoCrossing" "crossing") rfl))
    (er_ok (He.glo_ok X G (c.d.fact 48 (f := .glo "NoCrossing") rfl)) (ex_at c.more 0 rfl) (ex_at c.more 3 rfl))
    (He.noat_ok (c.d.fact 93 (f := .noat "RingRoad" "road") rfl))
    (er_ok (He.glo_ok X G (c.d.fact 49 (f := .glo "RingRoad") rfl)) (ex_at c.more 0 rfl) (ex_at c.more 4 rfl))
    (He.noat_ok (c.d.fact 94 (f := .noat "NoRoad" "road") rfl))
    (er_ok (He.glo_ok X G (c.d.fact 50 (f := .glo "NoRoad") rfl)) (ex_at c.more 0 rfl) (ex_at c.more 5 rfl))
    (He.noat_ok (c.d.fact 95 (f := .noat "OffRoad" "road") rfl))
    (er_ok (He.glo_ok X G (c.d.fact 51 (f := .glo "OffRoad") rfl)) (ex_at c.more 0 rfl) (ex_at c.more 6 rfl))
    (He.noat_ok (c.d.fact 96 (f := .noat "NotWhole" "march") rfl))
    (er_ok (He.glo_ok X G (c.d.fact 52 (f := .glo "NotWhole") rfl)) (ex_at c.more 0 rfl) (ex_at c.more 7 rfl))
    (He.noat_ok (c.d.fact 97 (f := .noat "Wide" "count") rfl))
    (er_ok (He.glo_ok X G (c.d.fact 53 (f := .glo "Wide") rfl)) (ex_at c.more 0 rfl) (ex_at c.more 8 rfl))
    (He.free_ok X G (c.d.fact 98 (f := .free "abs") rfl))
    (He.free_ok X G (c.d.fact 99 (f := .free "enumerate") rfl))
    (He.free_ok X G (c.d.fact 100 (f := .free "isinstance") rfl))
    (He.free_ok X G (c.d.fact 101 (f := .free "len") rfl))
    (He.free_ok X G (c.d.fact 102 (f := .free "list") rfl))
    (He.free_ok X G (c.d.fact 103 (f := .free "max") rfl))
    (He.free_ok X G (c.d.fact 104 (f := .free "min") rfl))
    (He.free_ok X G (c.d.fact 105 (f := .free "range") rfl))
    (He.free_ok X G (c.d.fact 106 (f := .free "sum") rfl))
    (He.free_ok X G (c.d.fact 107 (f := .free "tuple") rfl))
    (He.free_ok X G (c.d.fact 108 (f := .free "zip") rfl))
    (He.int_ok X G (c.d.fact 109 (f := .int "LEAST_CROSSINGS" 2) rfl))
    (He.int_ok X G (c.d.fact 110 (f := .int "MOST_CROSSINGS" 24) rfl))
    (He.int_ok X G (c.d.fact 111 (f := .int "MOST_MARCHES" 24) rfl))
    (He.int_ok X G (c.d.fact 112 (f := .int "MOST_ROUNDS" 1000) rfl))
    (He.int_ok X G (c.d.fact 113 (f := .int "MOST_STRETCHES" 400) rfl))
    (He.int_ok X G (c.d.fact 114 (f := .int "LONGEST_ROAD" 1000000000) rfl))
    (He.int_ok X G (c.d.fact 115 (f := .int "MOST_STEPS" 1000000000) rfl))
    (PySem.W.mg_of X G (He.eqO_ok (ex_at c.more 9 rfl)))
    (PySem.W.mg_of X G (He.eqO_ok (ex_at c.more 10 rfl)))
  exact ⟨fdL, z.1, He.glo_ok X G (c.d.fact 39 (f := .glo "law") rfl), z.2⟩
end OT
open PySem PySem.W PySem.Calls PyProof.Rows
theorem PySem.Challenge.cw_onetrain_k37_whole_back_and_after_holds : PySem.Challenge.rw_onetrain_k37_whole_back_and_after.Holds := by
  w_on; o_law
  refine HandSHeadRun.head_imp (r := OpenLaw.row PySem.Challenge.rw_onetrain_k37_whole_back_and_after) (q := OT.hkQ) (H := OT.hk) (ob := OT.hkOb) (M := 6000) (loose := OT.hkNames) (kwd := []) OT.hkOb_eq OT.hk_run (by rfl) (by rfl) (by rfl) (by rfl) (by first | assumption | decide +kernel) (by decide +kernel) ⟨rfl, rfl, rfl, rfl, rfl, by decide +kernel⟩ ?hw ?hc
  case hw => w_witness2
  case hc =>
    refine L2.walk_ofE (l := PySem.Challenge.rw_onetrain_k37_whole_back_and_after) (n := 63) (k := 14) (x := "_law_script") (CX := L2.CX0) rfl (by decide) (by kernel_rfl) ⟨rfl, by decide, by decide⟩ ?F (fun _ _ _ _ z => z)
    intro w mg fa h Y G hmg
    obtain ⟨K, KX, c⟩ := Y
    obtain ⟨fd, hb, hm, hF⟩ := OT.hk_facts (P := (PySem.Challenge.rw_onetrain_k37_whole_back_and_after).prog) (w := w) KX G c
    have e := hmg.symm.trans hm
    cases e
    exact ⟨K, fd, OT.spLaw K, KX, hb, fun H a ns hl _ hS => ⟨a, ns, rfl, hS, hl, fun _ => rfl⟩, hF⟩
