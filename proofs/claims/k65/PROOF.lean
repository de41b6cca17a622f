import PyProof.Rows.All
import Wide.All
import OpenK.AllK
import Wide.FinOn
import HandS.Base
import HandS.Call
import HandS.List
import HandS.Ends
import HandS.Words
import HandS.WordsList
import HandS.ExcField
import HandS.ExcInit
import HandS.Defaults
import HandS.HeadHook2
import HandS.Head0
import HandS.Head1
import HandS.Head2
import HandS.Head3
import HandS.Comp
import HandS.Dict
import HandS.Iter
import HandS.Text
import HandS.WordsDict
import HandS.ForMost
import HandS.Conv
import HandS.Walk
import HandS.More
import HandS.TupAny
import HandS.DeepEq
import HandS.SetFor
import HandS.Style
import KE.GoesEnum
import HandS.Exc
import HandS.ExcIs
import HandS.IsInst
import HandS.WordsExc
import HandS.DictComp
import KE.KExcIs
import HandS.OwnEq
import HandS.Gcd
import HandS.Wide
import HandS.Codes
import HandS.Zip
import HandS.MakeKwOnly
import KE.GoesZip
import KE.GoesMore
import KE.KMathGC
import KE.KSortTupG
import HandS.Keys
import PyProof.WalkInts
import PyProof.FString5
import KE.KDictPairs
import KE.KDictKeyed
import KE.KDictWalk
import HandS.Flow
import HandS.FStr
import HandS.HeadEnd
import PySem.Challenge.RW_onetrain_k65_folk_on_long_lanes
set_option Elab.async false
set_option linter.all false
set_option maxRecDepth 100000
set_option maxHeartbeats 1000000
namespace OT
open PySem L2
def top (i : Nat) : Stmt := PySem.Challenge.pw_onetrain_k65_folk_on_long_lanes.main.body.getD i (.Pass ⟨0, 0, 0, 0⟩)
abbrev sChoice : Stmt := top 54
abbrev sShuf : Stmt := top 55
/-- the source of draws at s: three ints, the first not below 0 -/
def Src (H : Hp) (s : Addr) : Prop := ∃ a b c : Int, 0 ≤ a ∧ H s = some (.lst [.int a, .int b, .int c])
/-- all that was tracked is as it was, but at s -/
def But (s : Addr) (H H' : Hp) : Prop := ∀ b o, H b = some o → b ≠ s → H' b = some o
theorem But.refl {s : Addr} {H : Hp} : But s H H := fun _ _ e _ => e
theorem But.trans {s : Addr} {H H1 H2 : Hp} (x : But s H H1) (y : But s H1 H2) : But s H H2 := fun b o e n => y b o (x b o e n) n
theorem But.same {s : Addr} {H H1 H2 : Hp} (x : But s H H1) (y : Same H1 H2) : But s H H2 := fun b o e n => y b o (x b o e n)
theorem But.upd {s : Addr} {H : Hp} {o : HO} : But s H (upd H s o) := fun b _ e n => by rw [upd_ne n]; exact e
theorem Same.new {H : Hp} {p : Addr} {o : HO} (n : H p = none) : Same H (upd H p o) := fun b _ e => by rw [upd_ne (ne_of_none e n)]; exact e
/-- _law_source(cell): a new source -/
def spSource : Sp := fun vs H Q _ => ∃ n : Int, vs = [.int n] ∧ ∀ s H', H s = none → Src H' s → Same H H' → Q (.ref s) H'
/-- _law_draw(source, many): a number from 0 to many - 1 -/
def spDraw : Sp := fun vs H Q _ => ∃ (s : Addr) (m : Int), vs = [.ref s, .int m] ∧ Src H s ∧ 0 < m ∧ m < 1073741824 ∧ ∀ r H', 0 ≤ r → r < m → Src H' s → But s H H' → Q (.int r) H'
/-- _law_pick(source, some): one of the items -/
def spPick (K : PySem.W.Frag) : Sp := fun vs H Q _ => ∃ (s l : Addr) (xs : List V), vs = [.ref s, .ref l] ∧ Src H s ∧ l ≠ s ∧ SqL K H l xs ∧ 0 < xs.length ∧ xs.length < 1000000 ∧ ∀ v H', v ∈ xs → Src H' s → But s H H' → Q v H'
end OT
set_option Elab.async false
set_option linter.all false
set_option maxRecDepth 100000
set_option maxHeartbeats 2000000
namespace OT
open PySem L2
theorem fun_of {K : PySem.W.Frag} {x qual : Str} {st : Stmt} {kws : List (Str × V)} {f : Addr} {fd : FuncData} (F : FunD K x qual (defArgs st) (defBody st) (defScope st) [] kws f fd) : Fun K x qual st f fd := by
  obtain ⟨oc, od, dV, kV, doc, pm, an, cdv, ct, osl, e0, lk, hcd, hD, hK⟩ := F.ex
  rcases hD with ⟨_, e1⟩ | ⟨e1, _⟩
  · rw [e1] at e0
    exact ⟨⟨oc, od, kV, doc, pm, an, cdv, ct, osl, e0, lk, hcd⟩, F.kp⟩
  · exact absurd rfl e1
theorem two {a b : Bool} (h : (a && b) = true) : a = true ∧ b = true := Bool.and_eq_true_iff.mp h
theorem ex_at {l : List Bool} (h : (l.all fun b => b) = true) (i : Nat) {b : Bool} (e : l[i]? = some b) : b = true := List.all_eq_true.mp h b (List.mem_of_getElem? e)
/-- the class's object is that of an error below ValueError -/
def veB (K : PySem.W.Frag) (C : Addr) : Bool := match K.lookup C with
  | some o => (match o.cls, o.data, o.slots.toList with
    | .type t, .cls cd, [_, _, _, _, some (.builtin n), _] => (match cd.mro with
      | .ref b :: bm => decide (t = "type" ∧ b = C ∧ n = "ValueError.__new__" ∧ cd.hasDel = false ∧ cd.hasDict = true ∧ PySem.HandSPX.refsVE bm = true)
      | _ => false)
    | _, _, _ => false)
  | none => false
theorem veB_ok {K : PySem.W.Frag} {C : Addr} (h : veB K C = true) :
    ∃ nm q N bs bm sn sub ab col dd k0 k1 k2 k3 k5, K.lookup C = some (excClassObj nm q C N bs bm true sn sub ab col dd k0 k1 k2 k3 k5 "ValueError.__new__") ∧ PySem.HandSPX.refsVE bm = true := by
  unfold veB at h
  split at h
  · rename_i o lk
    split at h
    · rename_i t cd x0 x1 x2 x3 n x5 e1 e2 e3
      split at h
      · rename_i b bm e4
        obtain ⟨h1, h2, h3, h4, h5, h6⟩ := of_decide_eq_true h
        obtain ⟨oc, od, dt, osl⟩ := o
        obtain ⟨c1, c2, c3, c4, c5, c6, c7, c8, c9, c10, c11⟩ := cd
        dsimp only at e1 e2 e3 e4 h4 h5
        subst e1 e2 e4 h1 h2 h3 h4 h5
        have e5 : osl = #[x0, x1, x2, x3, some (.builtin "ValueError.__new__"), x5] := Array.ext' e3
        subst e5
        exact ⟨_, _, _, _, _, _, _, _, _, _, _, _, _, _, _, lk, h6⟩
      · cases h
    · cases h
  · cases h
/-- what every instance's __class__ leans on -/
def gB (K : PySem.W.Frag) : Bool := He.eqO (PySem.W.specialIn K (.builtin "object.__class__") "__get__") (some (some (.builtin "getset_descriptor.__get__"))) && decide (PySem.W.takesIn K (.builtin "object.__class__") = some true)
/-- a class with an own __eq__ at f -/
def eqB (K : PySem.W.Frag) (C f : Addr) : Bool := He.eqO (PySem.W.findIn K (.ref C) "__class__") (some (some (.builtin "object.__class__"))) && (decide (PySem.W.mroIn K C (.type "object") = some true) &&
  (He.eqO (PySem.W.findIn K (.ref C) "__eq__") (some (some (.ref f))) && (PySem.W.isFn K (.ref f) && (He.eqO (PySem.W.findIn K (.ref C) "__ne__") (some (some (.builtin "object.__ne__"))) &&
  (["NoneType", "tuple", "list"].all fun T => decide (PySem.W.kitOne K (.type T) (.ref C) = some false) && (decide (PySem.W.subIn K (.type T) (.ref C) = some false) && decide (PySem.W.subIn K (.ref C) (.type T) = some false)))))))
/-- an error class with an own __init__ at f -/
def erB (K : PySem.W.Frag) (C f : Addr) : Bool := veB K C && (xfB K C && (He.eqO (PySem.W.findIn K (.ref C) "__setattr__") (some (some (.builtin "object.__setattr__"))) && (decide (PySem.W.typeIn K (.ref C) = some (.type "type")) &&
  (PySem.W.keepIn K (.ref C) && (He.eqO (PySem.W.findIn K (.ref C) "__class__") (some (some (.builtin "object.__class__"))) && (decide (PySem.W.mroIn K C (.type "object") = some true) &&
  (He.eqO (PySem.W.findIn K (.ref C) "__init__") (some (some (.ref f))) && decide (PySem.W.typeIn K (.ref f) = some (.type "function")))))))))
def kidsO (o : Obj) : List Addr := match o.data with
  | .dict es _ => es.toList.flatMap fun e => He.refV e.val
  | .func fd => He.refV fd.code ++ He.refV fd.kwdefaults
  | .cls cd => [cd.ns]
  | _ => []
def kids (g : Addr → Option Obj) (as : List Addr) : List Addr := as.flatMap fun a => match g a with
  | some o => kidsO o
  | none => []
/-- the list in its own words, part by part -/
def told {α β : Type} : List α → (List α → β) → β
  | [], k => k []
  | x :: xs, k => told xs fun ys => k (x :: ys)
theorem told_eq {α β : Type} : ∀ (l : List α) (k : List α → β), told l k = k l
  | [], _ => rfl
  | x :: xs, k => by
    unfold told
    exact told_eq xs _
def asP {β : Type} (g : Addr → Option Obj) (k : List Addr → β) : β := told (kids g [mainGlobals]) fun l1 => told (kids g l1) fun l2 => told (kids g l2) fun l3 => told (kids g l3) fun l4 => k (mainGlobals :: (l1 ++ (l2 ++ (l3 ++ l4))))
theorem asP_eq {β : Type} (g : Addr → Option Obj) (k : List Addr → β) : ∃ l, asP g k = k l := by
  unfold asP
  simp only [told_eq]
  exact ⟨_, rfl⟩
abbrev AlP : Type := He.AlD × Bool
def obsP (fa : List He.Fa) (fn : List He.DefD) (ex : PySem.W.Frag → List Bool) (K : PySem.W.Frag) : AlP := (He.obsD fa fn K, (ex K).all fun b => b)
def obsPG (fa : List He.Fa) (fn : List He.DefD) (ex : PySem.W.Frag → List Bool) (g : Addr → Option Obj) : AlP := asP g fun l => told (He.frG g l) fun K => obsP fa fn ex K
theorem obsPG_is (fa : List He.Fa) (fn : List He.DefD) (ex : PySem.W.Frag → List Bool) (g : Addr → Option Obj) : ∃ l, obsPG fa fn ex g = obsP fa fn ex (He.frG g l) := by
  unfold obsPG
  obtain ⟨l, e⟩ := asP_eq g fun l => told (He.frG g l) fun K => obsP fa fn ex K
  rw [e, told_eq]
  exact ⟨l, rfl⟩
/-- what the head says of the written part K -/
structure SaysP (fa : List He.Fa) (fn : List He.DefD) (ex : PySem.W.Frag → List Bool) (K : PySem.W.Frag) : Prop where
  d : He.SaysD fa fn K
  more : ((ex K).all fun b => b) = true
def hookP (fa : List He.Fa) (fn : List He.DefD) (ex : PySem.W.Frag → List Bool) : PySem.W.Hook where
  α := AlP
  obs := fun st => obsPG fa fn ex st.heap.get?
  val := fun _ => (He.valD fn, true)
  says := fun _ h => ∃ K : PySem.W.Frag, K.In h ∧ SaysP fa fn ex K
  of := fun _ st e => by
    obtain ⟨l, q⟩ := obsPG_is fa fn ex st.heap.get?
    have z : obsP fa fn ex (He.frG st.heap.get? l) = (He.valD fn, true) := q.symm.trans e
    exact ⟨_, He.frG_in, congrArg (fun y : AlP => y.1) z, congrArg (fun y : AlP => y.2) z⟩
  keeps := fun _ _ _ y old => by
    obtain ⟨K, inn, c⟩ := y
    exact ⟨K, inn.keeps old, c⟩
theorem obsPG_eq {fa : List He.Fa} {fn : List He.DefD} {ex : PySem.W.Frag → List Bool} {g : Addr → Option Obj} {st : Shared} (h : ∀ a, g a = st.heap.get? a) : obsPG fa fn ex g = (hookP fa fn ex).obs st := by
  have e : g = st.heap.get? := funext h
  subst e
  rfl
end OT
set_option Elab.async false
set_option linter.all false
set_option maxRecDepth 100000
set_option maxHeartbeats 0
namespace OT
open PySem L2
def hkNames0 : List PySem.Str := ["gcd", "lcm", "_wall", "TrainError", "BadCount", "NoCrossing", "RingRoad", "NoRoad", "OffRoad", "NotWhole", "NoName", "NoRow", "NoBack", "LEAST_CROSSINGS", "MOST_CROSSINGS", "LONGEST_ROAD", "Road", "Tree", "trails_along", "check_road", "join_trails", "end_at", "end_beyond", "Place", "check_place", "key", "corner", "step", "legs", "MOST_MARCHES"]
def hkNames1 : List PySem.Str := ["MOST_STEPS", "MOST_ROUNDS", "March", "Row", "check_march", "keyed", "after", "LETTERS", "DIGITS", "LONGEST_NAME", "MOST_ROWS", "MOST_FOLK", "Book", "is_name", "check_kept", "answers_without", "_law_cell_at", "_law_source", "_law_draw", "_law_choice", "_law_shuffled", "_law_lane", "_law_forms", "_law_expected", "_law_coordinate", "_law_row", "_law_moved", "_law_stands", "_law_calls_right", "_law_many_rounds_right"]
def hkNames : List PySem.Str := hkNames0 ++ hkNames1
def hkFa0 : List He.Fa := [.glo "check_road", .glo "join_trails", .glo "trails_along", .glo "check_place", .glo "check_march", .glo "end_at", .glo "end_beyond", .glo "corner", .glo "key", .glo "keyed", .glo "legs", .glo "step", .glo "after", .glo "check_kept", .glo "answers_without", .glo "is_name", .glo "_law_cell_at", .glo "_law_source", .glo "_law_draw", .glo "_law_choice", .glo "_law_shuffled", .glo "_law_lane", .glo "_law_forms", .glo "_law_expected", .glo "_law_coordinate", .glo "_law_row", .glo "_law_moved", .glo "_law_stands", .glo "_law_calls_right", .glo "_law_many_rounds_right"]
def hkFa1 : List He.Fa := [.glo "law", .glo "Road", .glo "Tree", .glo "Place", .glo "March", .glo "Row", .glo "Book", .glo "BadCount", .glo "NoCrossing", .glo "RingRoad", .glo "NoRoad", .glo "OffRoad", .glo "NotWhole", .glo "NoName", .glo "NoRow", .cls "Road", .noat "Road" "a", .noat "Road" "b", .noat "Road" "length", .mkr "Road", .cls "Tree", .noat "Tree" "crossings", .noat "Tree" "roads", .noat "Tree" "trails", .mkr "Tree", .cls "Place", .noat "Place" "road", .noat "Place" "number", .noat "Place" "parts", .mkr "Place"]
def hkFa2 : List He.Fa := [.cls "March", .noat "March" "goal", .noat "March" "steps", .mkr "March", .cls "Row", .noat "Row" "tree", .noat "Row" "marches", .mkr "Row", .cls "Book", .noat "Book" "tree", .noat "Book" "kept", .noat "Book" "folk", .noat "Book" "answers", .noat "Book" "past", .mkr "Book", .noat "BadCount" "what", .noat "BadCount" "count", .noat "NoCrossing" "crossing", .noat "RingRoad" "road", .noat "NoRoad" "road", .noat "OffRoad" "road", .noat "NotWhole" "march", .noat "NoName" "name", .noat "NoRow" "name", .free "abs", .free "all", .free "dict", .free "enumerate", .free "int", .free "isinstance"]
def hkFa3 : List He.Fa := [.free "len", .free "list", .free "max", .free "min", .free "range", .free "sorted", .free "tuple", .meth "Book" "change", .meth "Book" "row", .meth "Book" "where", .meth "Book" "many", .meth "Book" "back", .meth "Book" "post", .meth "Book" "keep", .meth "Book" "call", .int "LEAST_CROSSINGS" 2, .int "MOST_CROSSINGS" 24, .int "MOST_MARCHES" 24, .int "MOST_ROUNDS" 1000, .int "LONGEST_NAME" 8, .int "MOST_FOLK" 24, .int "MOST_ROWS" 8, .str "LETTERS" "abcdefghijklmnopqrstuvwxyz", .str "DIGITS" "0123456789", .int "LONGEST_ROAD" 1000000000, .int "MOST_STEPS" 1000000000]
def hkFa : List He.Fa := hkFa0 ++ hkFa1 ++ hkFa2 ++ hkFa3
def hkFn0 : List He.DefD := [⟨("check_road", none), "check_road", "check_road", defArgs (top 20), defBody (top 20), defScope (top 20), [], []⟩, ⟨("join_trails", none), "join_trails", "join_trails", defArgs (top 21), defBody (top 21), defScope (top 21), [], []⟩, ⟨("trails_along", none), "trails_along", "trails_along", defArgs (top 19), defBody (top 19), defScope (top 19), [], []⟩, ⟨("check_place", none), "check_place", "check_place", defArgs (top 26), defBody (top 26), defScope (top 26), [], []⟩, ⟨("check_march", none), "check_march", "check_march", defArgs (top 37), defBody (top 37), defScope (top 37), [], []⟩, ⟨("end_at", none), "end_at", "end_at", defArgs (top 22), defBody (top 22), defScope (top 22), [], []⟩, ⟨("end_beyond", none), "end_beyond", "end_beyond", defArgs (top 23), defBody (top 23), defScope (top 23), [], []⟩, ⟨("corner", none), "corner", "corner", defArgs (top 28), defBody (top 28), defScope (top 28), [], []⟩, ⟨("key", none), "key", "key", defArgs (top 27), defBody (top 27), defScope (top 27), [], []⟩, ⟨("keyed", none), "keyed", "keyed", defArgs (top 38), defBody (top 38), defScope (top 38), [], []⟩, ⟨("legs", none), "legs", "legs", defArgs (top 30), defBody (top 30), defScope (top 30), [], []⟩, ⟨("step", none), "step", "step", defArgs (top 29), defBody (top 29), defScope (top 29), [], []⟩, ⟨("after", none), "after", "after", defArgs (top 39), defBody (top 39), defScope (top 39), [], [("rounds", .int 1)]⟩, ⟨("check_kept", none), "check_kept", "check_kept", defArgs (top 48), defBody (top 48), defScope (top 48), [], []⟩, ⟨("answers_without", none), "answers_without", "answers_without", defArgs (top 49), defBody (top 49), defScope (top 49), [], []⟩, ⟨("is_name", none), "is_name", "is_name", defArgs (top 47), defBody (top 47), defScope (top 47), [], []⟩, ⟨("_law_cell_at", none), "_law_cell_at", "_law_cell_at", defArgs (top 51), defBody (top 51), defScope (top 51), [], []⟩, ⟨("_law_source", none), "_law_source", "_law_source", defArgs (top 52), defBody (top 52), defScope (top 52), [], []⟩, ⟨("_law_draw", none), "_law_draw", "_law_draw", defArgs (top 53), defBody (top 53), defScope (top 53), [], []⟩, ⟨("_law_choice", none), "_law_choice", "_law_choice", defArgs (top 54), defBody (top 54), defScope (top 54), [], []⟩]
def hkFn1 : List He.DefD := [⟨("_law_shuffled", none), "_law_shuffled", "_law_shuffled", defArgs (top 55), defBody (top 55), defScope (top 55), [], []⟩, ⟨("_law_lane", none), "_law_lane", "_law_lane", defArgs (top 56), defBody (top 56), defScope (top 56), [], []⟩, ⟨("_law_forms", none), "_law_forms", "_law_forms", defArgs (top 57), defBody (top 57), defScope (top 57), [], []⟩, ⟨("_law_expected", none), "_law_expected", "_law_expected", defArgs (top 58), defBody (top 58), defScope (top 58), [], []⟩, ⟨("_law_coordinate", none), "_law_coordinate", "_law_coordinate", defArgs (top 59), defBody (top 59), defScope (top 59), [], []⟩, ⟨("_law_row", none), "_law_row", "_law_row", defArgs (top 60), defBody (top 60), defScope (top 60), [], []⟩, ⟨("_law_moved", none), "_law_moved", "_law_moved", defArgs (top 61), defBody (top 61), defScope (top 61), [], []⟩, ⟨("_law_stands", none), "_law_stands", "_law_stands", defArgs (top 62), defBody (top 62), defScope (top 62), [], []⟩, ⟨("_law_calls_right", none), "_law_calls_right", "_law_calls_right", defArgs (top 63), defBody (top 63), defScope (top 63), [], []⟩, ⟨("_law_many_rounds_right", none), "_law_many_rounds_right", "_law_many_rounds_right", defArgs (top 64), defBody (top 64), defScope (top 64), [], []⟩, ⟨("law", none), "law", "law", defArgs (top 65), defBody (top 65), defScope (top 65), [], []⟩, ⟨("BadCount", some "__init__"), "__init__", "BadCount.__init__", defArgs (inClass (top 4) 0), defBody (inClass (top 4) 0), defScope (inClass (top 4) 0), [], []⟩, ⟨("NoCrossing", some "__init__"), "__init__", "NoCrossing.__init__", defArgs (inClass (top 5) 0), defBody (inClass (top 5) 0), defScope (inClass (top 5) 0), [], []⟩, ⟨("RingRoad", some "__init__"), "__init__", "RingRoad.__init__", defArgs (inClass (top 6) 0), defBody (inClass (top 6) 0), defScope (inClass (top 6) 0), [], []⟩, ⟨("NoRoad", some "__init__"), "__init__", "NoRoad.__init__", defArgs (inClass (top 7) 0), defBody (inClass (top 7) 0), defScope (inClass (top 7) 0), [], []⟩, ⟨("OffRoad", some "__init__"), "__init__", "OffRoad.__init__", defArgs (inClass (top 8) 0), defBody (inClass (top 8) 0), defScope (inClass (top 8) 0), [], []⟩, ⟨("NotWhole", some "__init__"), "__init__", "NotWhole.__init__", defArgs (inClass (top 9) 0), defBody (inClass (top 9) 0), defScope (inClass (top 9) 0), [], []⟩, ⟨("Road", some "__init__"), "__init__", "Road.__init__", defArgs (inClass (top 17) 0), defBody (inClass (top 17) 0), defScope (inClass (top 17) 0), [], []⟩, ⟨("Tree", some "__init__"), "__init__", "Tree.__init__", defArgs (inClass (top 18) 0), defBody (inClass (top 18) 0), defScope (inClass (top 18) 0), [], []⟩, ⟨("Place", some "__init__"), "__init__", "Place.__init__", defArgs (inClass (top 25) 0), defBody (inClass (top 25) 0), defScope (inClass (top 25) 0), [], []⟩]
def hkFn2 : List He.DefD := [⟨("March", some "__init__"), "__init__", "March.__init__", defArgs (inClass (top 35) 0), defBody (inClass (top 35) 0), defScope (inClass (top 35) 0), [], []⟩, ⟨("Row", some "__init__"), "__init__", "Row.__init__", defArgs (inClass (top 36) 0), defBody (inClass (top 36) 0), defScope (inClass (top 36) 0), [], []⟩, ⟨("Road", some "__eq__"), "__eq__", "Road.__eq__", defArgs (inClass (top 17) 1), defBody (inClass (top 17) 1), defScope (inClass (top 17) 1), [], []⟩, ⟨("Tree", some "__eq__"), "__eq__", "Tree.__eq__", defArgs (inClass (top 18) 1), defBody (inClass (top 18) 1), defScope (inClass (top 18) 1), [], []⟩, ⟨("Place", some "__eq__"), "__eq__", "Place.__eq__", defArgs (inClass (top 25) 1), defBody (inClass (top 25) 1), defScope (inClass (top 25) 1), [], []⟩, ⟨("March", some "__eq__"), "__eq__", "March.__eq__", defArgs (inClass (top 35) 1), defBody (inClass (top 35) 1), defScope (inClass (top 35) 1), [], []⟩, ⟨("Row", some "__eq__"), "__eq__", "Row.__eq__", defArgs (inClass (top 36) 1), defBody (inClass (top 36) 1), defScope (inClass (top 36) 1), [], []⟩, ⟨("NoName", some "__init__"), "__init__", "NoName.__init__", defArgs (inClass (top 10) 0), defBody (inClass (top 10) 0), defScope (inClass (top 10) 0), [], []⟩, ⟨("NoRow", some "__init__"), "__init__", "NoRow.__init__", defArgs (inClass (top 11) 0), defBody (inClass (top 11) 0), defScope (inClass (top 11) 0), [], []⟩, ⟨("Book", some "__init__"), "__init__", "Book.__init__", defArgs (inClass (top 46) 0), defBody (inClass (top 46) 0), defScope (inClass (top 46) 0), [], []⟩, ⟨("Book", some "change"), "change", "Book.change", defArgs (inClass (top 46) 12), defBody (inClass (top 46) 12), defScope (inClass (top 46) 12), [], []⟩, ⟨("Book", some "row"), "row", "Book.row", defArgs (inClass (top 46) 3), defBody (inClass (top 46) 3), defScope (inClass (top 46) 3), [], []⟩, ⟨("Book", some "where"), "where", "Book.where", defArgs (inClass (top 46) 7), defBody (inClass (top 46) 7), defScope (inClass (top 46) 7), [], []⟩, ⟨("Book", some "many"), "many", "Book.many", defArgs (inClass (top 46) 10), defBody (inClass (top 46) 10), defScope (inClass (top 46) 10), [], []⟩, ⟨("Book", some "back"), "back", "Book.back", defArgs (inClass (top 46) 11), defBody (inClass (top 46) 11), defScope (inClass (top 46) 11), [], []⟩, ⟨("Book", some "post"), "post", "Book.post", defArgs (inClass (top 46) 5), defBody (inClass (top 46) 5), defScope (inClass (top 46) 5), [], []⟩, ⟨("Book", some "keep"), "keep", "Book.keep", defArgs (inClass (top 46) 1), defBody (inClass (top 46) 1), defScope (inClass (top 46) 1), [], []⟩, ⟨("Book", some "call"), "call", "Book.call", defArgs (inClass (top 46) 6), defBody (inClass (top 46) 6), defScope (inClass (top 46) 6), [], []⟩]
def hkFn : List He.DefD := hkFn0 ++ hkFn1 ++ hkFn2
def hkEx0 (K : PySem.W.Frag) : List Bool := [gB K, eqB K (He.ga K "Road") (He.ma K (He.ga K "Road") "__eq__"), eqB K (He.ga K "Tree") (He.ma K (He.ga K "Tree") "__eq__"), eqB K (He.ga K "Place") (He.ma K (He.ga K "Place") "__eq__"), eqB K (He.ga K "March") (He.ma K (He.ga K "March") "__eq__"), eqB K (He.ga K "Row") (He.ma K (He.ga K "Row") "__eq__"), erB K (He.ga K "BadCount") (He.ma K (He.ga K "BadCount") "__init__"), erB K (He.ga K "NoCrossing") (He.ma K (He.ga K "NoCrossing") "__init__"), erB K (He.ga K "RingRoad") (He.ma K (He.ga K "RingRoad") "__init__"), erB K (He.ga K "NoRoad") (He.ma K (He.ga K "NoRoad") "__init__"), erB K (He.ga K "OffRoad") (He.ma K (He.ga K "OffRoad") "__init__"), erB K (He.ga K "NotWhole") (He.ma K (He.ga K "NotWhole") "__init__"), erB K (He.ga K "NoName") (He.ma K (He.ga K "NoName") "__init__"), erB K (He.ga K "NoRow") (He.ma K (He.ga K "NoRow") "__init__"), He.eqO (PySem.W.nsIn K mainGlobals "gcd") (some (some (.builtin "math.gcd")))]
def hkEx1 (K : PySem.W.Frag) : List Bool := [He.eqO (PySem.W.nsIn K mainGlobals "lcm") (some (some (.builtin "math.lcm")))]
def hkEx (K : PySem.W.Frag) : List Bool := hkEx0 K ++ hkEx1 K
abbrev hkR : PySem.W.OpenRow := PySem.W.OpenLaw.row PySem.Challenge.rw_onetrain_k65_folk_on_long_lanes
abbrev hkQ : Program := PySem.W.view hkR.prog [65]
abbrev hk : PySem.W.Hook := hookP hkFa hkFn hkEx
def hkOb (s : PySem.W.SharedT) : AlP := obsPG hkFa hkFn hkEx (HandSHeadRun.getT s)
theorem hkOb_eq (s : PySem.W.SharedT) : hkOb s = hk.obs s.abs := obsPG_eq (HandSHeadRun.getT_eq s)
theorem hk_run (w : World) : HandSHeadRun.RunEqI hkR hkQ hk hkOb 8000 hkNames w := by
  unfold HandSHeadRun.RunEqI
  kernel_rfl
end OT
namespace OT
/-- a road: its ends and its length -/
abbrev Fact := Int × Int × Int
/-- the road r joins x and y -/
def Jn (r : Fact) (x y : Int) : Prop := (r.1 = x ∧ r.2.1 = y) ∨ (r.1 = y ∧ r.2.1 = x)
theorem Jn.symm {r : Fact} {x y : Int} (h : Jn r x y) : Jn r y x := Or.symm h
/-- x and y are joined by roads of F -/
inductive Con (F : List Fact) : Int → Int → Prop
  | refl (x : Int) : Con F x x
  | step {x y z : Int} {r : Fact} (h : Con F x y) (m : r ∈ F) (j : Jn r y z) : Con F x z
theorem Con.one {F : List Fact} {x y : Int} {r : Fact} (m : r ∈ F) (j : Jn r x y) : Con F x y := .step (.refl x) m j
theorem Con.trans {F : List Fact} {x y z : Int} (h : Con F x y) (k : Con F y z) : Con F x z := by
  induction k with
  | refl => exact h
  | step _ m j ih => exact .step ih m j
theorem Con.symm {F : List Fact} {x y : Int} (h : Con F x y) : Con F y x := by
  induction h with
  | refl => exact .refl _
  | step _ m j ih => exact (Con.one m j.symm).trans ih
theorem Con.mono {F G : List Fact} (s : ∀ r ∈ F, r ∈ G) {x y : Int} (h : Con F x y) : Con G x y := by
  induction h with
  | refl => exact .refl _
  | step _ m j ih => exact .step ih (s _ m) j
theorem Con.nil {x y : Int} (h : Con [] x y) : x = y := by
  cases h with
  | refl => rfl
  | step _ m _ => cases m
theorem con_snoc {F : List Fact} {r : Fact} {x y : Int} : Con (F ++ [r]) x y ↔ Con F x y ∨ (Con F x r.1 ∧ Con F r.2.1 y) ∨ (Con F x r.2.1 ∧ Con F r.1 y) := by
  constructor
  · intro h
    induction h with
    | refl => exact .inl (.refl _)
    | @step y z q _ m j ih =>
      rcases List.mem_append.mp m with m | m
      · rcases ih with h | ⟨h, k⟩ | ⟨h, k⟩
        · exact .inl (.step h m j)
        · exact .inr (.inl ⟨h, .step k m j⟩)
        · exact .inr (.inr ⟨h, .step k m j⟩)
      · obtain rfl := List.mem_singleton.mp m
        rcases j with ⟨rfl, rfl⟩ | ⟨rfl, rfl⟩
        · rcases ih with h | ⟨h, k⟩ | ⟨h, k⟩
          · exact .inr (.inl ⟨h, .refl _⟩)
          · exact .inr (.inl ⟨h, .refl _⟩)
          · exact .inl h
        · rcases ih with h | ⟨h, k⟩ | ⟨h, k⟩
          · exact .inr (.inr ⟨h, .refl _⟩)
          · exact .inl h
          · exact .inr (.inr ⟨h, .refl _⟩)
  · have s : ∀ q ∈ F, q ∈ F ++ [r] := fun q h => List.mem_append_left _ h
    have m : r ∈ F ++ [r] := List.mem_append_right _ (List.mem_singleton.mpr rfl)
    rintro (h | ⟨h, k⟩ | ⟨h, k⟩)
    · exact h.mono s
    · exact ((h.mono s).trans (.one m (.inl ⟨rfl, rfl⟩))).trans (k.mono s)
    · exact ((h.mono s).trans (.one m (.inr ⟨rfl, rfl⟩))).trans (k.mono s)
/-- the way from x to y over the roads with these numbers -/
inductive Way (F : List Fact) : Int → List Nat → Int → Prop
  | nil (x : Int) : Way F x [] x
  | cons {x y z : Int} {k : Nat} {r : Fact} {l : List Nat} (e : F[k]? = some r) (j : Jn r x y) (w : Way F y l z) : Way F x (k :: l) z
theorem Way.append {F : List Fact} {x y z : Int} {l m : List Nat} (h : Way F x l y) (k : Way F y m z) : Way F x (l ++ m) z := by
  induction h with
  | nil => exact k
  | cons e j _ ih => exact .cons e j (ih k)
theorem Way.rev {F : List Fact} {x y : Int} {l : List Nat} (h : Way F x l y) : Way F y l.reverse x := by
  induction h with
  | nil => exact .nil _
  | cons e j _ ih =>
    rw [List.reverse_cons]
    exact ih.append (.cons e j.symm (.nil _))
theorem Way.con {F : List Fact} {x y : Int} {l : List Nat} (h : Way F x l y) : Con F x y := by
  induction h with
  | nil => exact .refl _
  | cons e j _ ih => exact (Con.one (List.mem_of_getElem? e) j).trans ih
theorem Way.mono {F G : List Fact} {x y : Int} {l : List Nat} (h : Way F x l y) : Way (F ++ G) x l y := by
  induction h with
  | nil => exact .nil _
  | cons e j _ ih => exact .cons (by rw [List.getElem?_append_left (List.getElem?_eq_some_iff.mp e).1]; exact e) j ih
theorem Way.mem {F : List Fact} {x y : Int} {l : List Nat} (h : Way F x l y) : ∀ k ∈ l, ∃ r, F[k]? = some r ∧ Con F x r.1 := by
  induction h with
  | nil => intro k h; cases h
  | @cons x y z k r l e j w ih =>
    intro q hq
    rcases List.mem_cons.mp hq with rfl | hq
    · refine ⟨r, e, ?_⟩
      rcases j with ⟨rfl, rfl⟩ | ⟨rfl, rfl⟩
      · exact .refl _
      · exact Con.one (List.mem_of_getElem? e) (.inr ⟨rfl, rfl⟩)
    · obtain ⟨r', e', c⟩ := ih q hq
      exact ⟨r', e', (Con.one (List.mem_of_getElem? e) j).trans c⟩
theorem Way.lt {F : List Fact} {x y : Int} {l : List Nat} (h : Way F x l y) {k : Nat} (m : k ∈ l) : k < F.length := by
  obtain ⟨r, e, _⟩ := h.mem k m
  exact (List.getElem?_eq_some_iff.mp e).1
/-- a way over the new road -/
theorem way_over {F : List Fact} {r : Fact} {x y : Int} {l m : List Nat} (h : Way F x l r.1) (k : Way F r.2.1 m y) : Way (F ++ [r]) x (l ++ F.length :: m) y :=
  h.mono.append (.cons (by rw [List.getElem?_append_right (Nat.le_refl _)]; simp) (.inl ⟨rfl, rfl⟩) k.mono)
theorem way_nodup {F : List Fact} {r : Fact} {x y : Int} {l m : List Nat} (no : ¬ Con F r.1 r.2.1) (h : Way F x l r.1) (k : Way F r.2.1 m y) (hl : l.Nodup) (hm : m.Nodup) : (l ++ F.length :: m).Nodup := by
  rw [List.nodup_append]
  refine ⟨hl, List.nodup_cons.mpr ⟨fun z => Nat.lt_irrefl _ (k.lt z), hm⟩, ?_⟩
  intro a ha b hb e
  subst e
  rcases List.mem_cons.mp hb with rfl | hb
  · exact Nat.lt_irrefl _ (h.lt ha)
  · obtain ⟨q, e1, c1⟩ := h.rev.mem a (List.mem_reverse.mpr ha)
    obtain ⟨q', e2, c2⟩ := k.mem a hb
    rw [e1] at e2
    cases e2
    exact no (c1.trans c2.symm)
theorem nodup_le : ∀ (n : Nat) (l : List Nat), l.Nodup → (∀ k ∈ l, k < n) → l.length ≤ n
  | 0, l, _, h => by
    cases l with
    | nil => exact Nat.le_refl _
    | cons a l => exact absurd (h a (List.mem_cons_self ..)) (Nat.not_lt_zero _)
  | n + 1, l, hn, h => by
    have q := nodup_le n (l.erase n) (hn.erase n) fun k hk => by
      have h1 := h k (List.mem_of_mem_erase hk)
      have h2 : k ≠ n := fun z => by
        rw [z] at hk
        exact (List.Nodup.not_mem_erase hn) hk
      omega
    by_cases m : n ∈ l
    · have := List.length_erase_of_mem m
      omega
    · rw [List.erase_of_not_mem m] at q
      omega
theorem Way.short {F : List Fact} {x y : Int} {l : List Nat} (h : Way F x l y) (n : l.Nodup) : l.length ≤ F.length := nodup_le _ l n fun _ m => h.lt m
/-- the crossings are 0 to n - 1 -/
def In (n x : Int) : Prop := 0 ≤ x ∧ x < n
instance (n x : Int) : Decidable (In n x) := inferInstanceAs (Decidable (0 ≤ x ∧ x < n))
/-- what a tree's maker finds -/
inductive Err
  | crossings (n : Int) | roads (k : Int) | crossing (c : Int) | length (s : Int) | ring (k : Int)
  deriving DecidableEq
open Classical in
noncomputable def dueR (n : Int) : List Fact → List Fact → Option Err
  | _, [] => none
  | done, r :: rest => if ¬ In n r.1 then some (.crossing r.1) else if ¬ In n r.2.1 then some (.crossing r.2.1) else if ¬ (1 ≤ r.2.2 ∧ r.2.2 ≤ 1000000000) then some (.length r.2.2)
      else if Con done r.1 r.2.1 then some (.ring done.length) else dueR n (done ++ [r]) rest
noncomputable def due (n : Int) (F : List Fact) : Option Err :=
  if ¬ (2 ≤ n ∧ n ≤ 24) then some (.crossings n) else if (F.length : Int) ≠ n - 1 then some (.roads F.length) else dueR n [] F
theorem dueR_nil (n : Int) (done : List Fact) : dueR n done [] = none := by unfold dueR; rfl
theorem dueR_a {n : Int} {done rest : List Fact} {r : Fact} (h : ¬ In n r.1) : dueR n done (r :: rest) = some (.crossing r.1) := by
  rw [dueR, if_pos h]
theorem dueR_b {n : Int} {done rest : List Fact} {r : Fact} (h : In n r.1) (h2 : ¬ In n r.2.1) : dueR n done (r :: rest) = some (.crossing r.2.1) := by
  rw [dueR, if_neg (fun z => z h), if_pos h2]
theorem dueR_l {n : Int} {done rest : List Fact} {r : Fact} (h : In n r.1) (h2 : In n r.2.1) (h3 : ¬ (1 ≤ r.2.2 ∧ r.2.2 ≤ 1000000000)) : dueR n done (r :: rest) = some (.length r.2.2) := by
  rw [dueR, if_neg (fun z => z h), if_neg (fun z => z h2), if_pos h3]
theorem dueR_ring {n : Int} {done rest : List Fact} {r : Fact} (h : In n r.1) (h2 : In n r.2.1) (h3 : 1 ≤ r.2.2 ∧ r.2.2 ≤ 1000000000) (h4 : Con done r.1 r.2.1) : dueR n done (r :: rest) = some (.ring done.length) := by
  rw [dueR, if_neg (fun z => z h), if_neg (fun z => z h2), if_neg (fun z => z h3), if_pos h4]
theorem dueR_go {n : Int} {done rest : List Fact} {r : Fact} (h : In n r.1) (h2 : In n r.2.1) (h3 : 1 ≤ r.2.2 ∧ r.2.2 ≤ 1000000000) (h4 : ¬ Con done r.1 r.2.1) : dueR n done (r :: rest) = dueR n (done ++ [r]) rest := by
  rw [dueR, if_neg (fun z => z h), if_neg (fun z => z h2), if_neg (fun z => z h3), if_neg h4]
end OT
namespace OT
/-- no road of fs joins what the others join already -/
def NoRing (fs : List Fact) : Prop := ∀ (i : Nat) (r : Fact), fs[i]? = some r → ¬ Con (fs.eraseIdx i) r.1 r.2.1
/-- a crossing that no road of F meets -/
theorem Con.alone {F : List Fact} {v x : Int} (h : Con F x v) (no : ∀ r ∈ F, r.1 ≠ v ∧ r.2.1 ≠ v) : x = v := by
  cases h with
  | refl => rfl
  | step _ m j =>
    obtain ⟨n1, n2⟩ := no _ m
    rcases j with ⟨_, e⟩ | ⟨e, _⟩
    · exact absurd e n2
    · exact absurd e n1
theorem noRing_nil : NoRing [] := fun i r h => by simp at h
theorem noRing_add {fs : List Fact} {r : Fact} {v u : Int} (h : NoRing fs) (no : ∀ q ∈ fs, q.1 ≠ v ∧ q.2.1 ≠ v) (e : (r.1 = v ∧ r.2.1 = u) ∨ (r.1 = u ∧ r.2.1 = v)) (ne : u ≠ v) : NoRing (fs ++ [r]) := by
  intro i q hi c
  by_cases hl : i < fs.length
  · rw [List.getElem?_append_left hl] at hi
    rw [List.eraseIdx_append_of_lt_length hl] at c
    have mq : q ∈ fs := List.mem_of_getElem? hi
    have no' : ∀ p ∈ fs.eraseIdx i, p.1 ≠ v ∧ p.2.1 ≠ v := fun p hp => no p (List.mem_of_mem_eraseIdx hp)
    obtain ⟨q1, q2⟩ := no q mq
    rcases con_snoc.mp c with c | ⟨c1, c2⟩ | ⟨c1, c2⟩
    · exact h i q hi c
    · rcases e with ⟨e1, e2⟩ | ⟨e1, e2⟩
      · rw [e1] at c1
        exact q1 (c1.alone no')
      · rw [e2] at c2
        exact q2 (c2.symm.alone no')
    · rcases e with ⟨e1, e2⟩ | ⟨e1, e2⟩
      · rw [e1] at c2
        exact q2 (c2.symm.alone no')
      · rw [e2] at c1
        exact q1 (c1.alone no')
  · have hl2 : fs.length ≤ i := Nat.le_of_not_lt hl
    rw [List.getElem?_append_right hl2] at hi
    have e0 : i = fs.length := by
      have z := (List.getElem?_eq_some_iff.mp hi).1
      simp at z
      omega
    subst e0
    rw [Nat.sub_self] at hi
    cases hi
    rw [List.eraseIdx_append_of_length_le (Nat.le_refl _), Nat.sub_self] at c
    have c' : Con fs r.1 r.2.1 := by simpa using c
    rcases e with ⟨e1, e2⟩ | ⟨e1, e2⟩
    · rw [e1, e2] at c'
      exact ne (c'.symm.alone no)
    · rw [e1, e2] at c'
      exact ne (c'.alone no)
theorem take_sub_erase {α : Type} : ∀ {l : List α} {i : Nat} {x : α}, x ∈ l.take i → x ∈ l.eraseIdx i
  | [], i, x, h => by simp at h
  | a :: l, 0, x, h => by simp at h
  | a :: l, i + 1, x, h => by
    rcases List.mem_cons.mp h with e | h
    · exact List.mem_cons.mpr (.inl e)
    · exact List.mem_cons.mpr (.inr (take_sub_erase h))
theorem noRing_due {n : Int} {fs : List Fact} (h : NoRing fs) (ok : ∀ r ∈ fs, In n r.1 ∧ In n r.2.1 ∧ 1 ≤ r.2.2 ∧ r.2.2 ≤ 1000000000) : dueR n [] fs = none := by
  have key : ∀ (k i : Nat), i + k = fs.length → dueR n (fs.take i) (fs.drop i) = none := by
    intro k
    induction k with
    | zero =>
      intro i hi
      rw [List.drop_of_length_le (by omega), dueR_nil]
    | succ k ih =>
      intro i hi
      have hl : i < fs.length := by omega
      have g : fs[i]? = some fs[i] := List.getElem?_eq_getElem hl
      obtain ⟨a, b, c, d⟩ := ok _ (List.getElem_mem hl)
      rw [List.drop_eq_getElem_cons hl, dueR_go a b ⟨c, d⟩ (fun z => h i _ g (z.mono fun r hr => take_sub_erase hr))]
      have e : fs.take i ++ [fs[i]] = fs.take (i + 1) := by
        rw [List.take_succ, g]
        rfl
      rw [e]
      exact ih (i + 1) (by omega)
  have z := key fs.length 0 (by omega)
  simpa using z
theorem erase_perm {α : Type} : ∀ {l : List α} {k : Nat} {y : α}, l[k]? = some y → (y :: l.eraseIdx k).Perm l
  | [], k, y, h => by simp at h
  | a :: l, 0, y, h => by
    have e := Option.some.inj h
    subst e
    exact List.Perm.refl _
  | a :: l, k + 1, y, h => by
    have ih := erase_perm (l := l) (k := k) (y := y) h
    exact (List.Perm.swap a y _).trans (ih.cons a)
theorem noRing_perm {fs gs : List Fact} (p : gs.Perm fs) (h : NoRing fs) : NoRing gs := by
  intro i r hi c
  have m : r ∈ fs := p.mem_iff.mp (List.mem_of_getElem? hi)
  obtain ⟨j, hj, e⟩ := List.getElem_of_mem m
  have hj' : fs[j]? = some r := by rw [List.getElem?_eq_getElem hj, e]
  have q : (gs.eraseIdx i).Perm (fs.eraseIdx j) := List.Perm.cons_inv (((erase_perm hi).trans p).trans (erase_perm hj').symm)
  exact h j r hj' (c.mono fun x hx => q.mem_iff.mp hx)
/-- what a drawn tree is -/
structure Drawn (most long n : Int) (fs : List Fact) : Prop where
  lo : 2 ≤ n
  hi : n ≤ most
  len : (fs.length : Int) = n - 1
  ok : ∀ r ∈ fs, In n r.1 ∧ In n r.2.1 ∧ 1 ≤ r.2.2 ∧ (r.2.2 ≤ 2 ∨ r.2.2 ≤ long)
  nr : NoRing fs
  con : ∀ x y, In n x → In n y → Con fs x y
theorem Drawn.due {most long n : Int} {fs : List Fact} (h : Drawn most long n fs) (h24 : most ≤ 24) (hl : long ≤ 1000000000) : due n fs = none := by
  unfold OT.due
  have a := h.lo
  have b := h.hi
  rw [if_neg (fun z => z ⟨a, by omega⟩), if_neg (fun z => z h.len)]
  exact noRing_due h.nr fun r hr => let ⟨x, y, z, w⟩ := h.ok r hr; ⟨x, y, z, by omega⟩
end OT
namespace OT
def SameEnds (r r' : Fact) : Prop := (r'.1 = r.1 ∧ r'.2.1 = r.2.1) ∨ (r'.1 = r.2.1 ∧ r'.2.1 = r.1)
theorem SameEnds.refl (r : Fact) : SameEnds r r := .inl ⟨rfl, rfl⟩
theorem SameEnds.symm {r r' : Fact} (h : SameEnds r r') : SameEnds r' r := h.elim (fun ⟨a, b⟩ => .inl ⟨a.symm, b.symm⟩) fun ⟨a, b⟩ => .inr ⟨b.symm, a.symm⟩
def gcdI (a b : Int) : Int := ((Nat.gcd a.natAbs b.natAbs : Nat) : Int)
/-- number / parts in lowest terms -/
def low (r : Fact) : Fact := (r.1, r.2.1 / gcdI r.2.1 r.2.2, r.2.2 / gcdI r.2.1 r.2.2)
theorem gcd_pos {a b : Int} (h : 1 ≤ b) : 0 < gcdI a b := by
  have : 0 < Nat.gcd a.natAbs b.natAbs := Nat.gcd_pos_of_pos_right _ (by omega)
  unfold gcdI
  omega
theorem gcd_log {a b : Int} (h : 1 ≤ b) (k : b.natAbs.log2 < 9000) : (gcdI a b).natAbs.log2 < 9000 := by
  have p := gcd_pos (a := a) h
  have l : Nat.gcd a.natAbs b.natAbs ≤ b.natAbs := Nat.gcd_le_right _ (by omega)
  have e : (gcdI a b).natAbs = Nat.gcd a.natAbs b.natAbs := by
    unfold gcdI
    omega
  rw [e]
  have n1 : Nat.gcd a.natAbs b.natAbs ≠ 0 := by omega
  have n2 : b.natAbs ≠ 0 := by omega
  rw [Nat.log2_lt n1]
  rw [Nat.log2_lt n2] at k
  omega
theorem gcdI_left (a b : Int) : gcdI a b ∣ a := Int.gcd_dvd_left a b
theorem gcdI_right (a b : Int) : gcdI a b ∣ b := Int.gcd_dvd_right a b
theorem gcdI_step {x y : Int} (hx : 0 ≤ x) (hy : 0 < y) : gcdI y (x % y) = gcdI x y := by
  obtain ⟨m, rfl⟩ := Int.eq_ofNat_of_zero_le hx
  obtain ⟨k, rfl⟩ := Int.eq_ofNat_of_zero_le (Int.le_of_lt hy)
  unfold gcdI
  have e : (((m : Nat) : Int) % ((k : Nat) : Int)).natAbs = m % k := by
    rw [← Int.natCast_emod]
    rfl
  rw [e]
  show ((Nat.gcd k (m % k) : Nat) : Int) = ((Nat.gcd m k : Nat) : Int)
  rw [Nat.gcd_comm m k, Nat.gcd_rec k m, Nat.gcd_comm]
theorem gcdI_zero {x : Int} (hx : 0 ≤ x) : gcdI x 0 = x := by
  unfold gcdI
  rw [show (0 : Int).natAbs = 0 from rfl, Nat.gcd_zero_right]
  omega
theorem low_mul {a n s : Int} (k : Int) (hk : 0 < k) : low (a, n * k, s * k) = low (a, n, s) := by
  have e : gcdI (n * k) (s * k) = gcdI n s * k := by
    unfold gcdI
    rw [Int.natAbs_mul, Int.natAbs_mul, Nat.gcd_mul_right, Int.natCast_mul]
    congr 1
    omega
  unfold low
  simp only
  rw [e, Int.mul_ediv_mul_of_pos_left n _ hk, Int.mul_ediv_mul_of_pos_left s _ hk]
theorem back_of {x g : Int} (h : g ∣ x) : x = x / g * g := (Int.ediv_mul_cancel h).symm
end OT
namespace OT
theorem Way.con_erase {F : List Fact} {x y : Int} {m : List Nat} {k : Nat} (w : Way F x m y) (n : k ∉ m) : Con (F.eraseIdx k) x y := by
  induction w with
  | nil => exact .refl _
  | @cons x y z j r l e jn w ih =>
    have ne : j ≠ k := fun z => n (z ▸ List.mem_cons_self ..)
    have mm : r ∈ F.eraseIdx k := List.mem_eraseIdx_iff_getElem?.mpr ⟨j, ne, e⟩
    exact (Con.one mm jn).trans (ih fun z => n (List.mem_cons_of_mem _ z))
/-- what joins a road's ends goes over it -/
theorem ring_no {F : List Fact} (nr : NoRing F) {k : Nat} {r : Fact} (e : F[k]? = some r) {x y : Int} (j : Jn r x y) {m : List Nat} (w : Way F x m y) : k ∈ m := by
  refine Classical.byContradiction fun n => ?_
  have c := w.con_erase n
  rcases j with ⟨rfl, rfl⟩ | ⟨rfl, rfl⟩
  · exact nr k r e c
  · exact nr k r e c.symm
theorem NoRing.ne {F : List Fact} (nr : NoRing F) {k : Nat} {r : Fact} (e : F[k]? = some r) : r.1 ≠ r.2.1 := fun z => nr k r e (by rw [z]; exact .refl _)
theorem Jn.end_eq {r : Fact} {x y z : Int} (ne : r.1 ≠ r.2.1) (j : Jn r x y) (j' : Jn r x z) : y = z := by
  rcases j with ⟨a, b⟩ | ⟨a, b⟩ <;> rcases j' with ⟨c, d⟩ | ⟨c, d⟩
  · exact b.symm.trans d
  · exact absurd (a.trans d.symm) ne
  · exact absurd (c.trans b.symm) ne
  · exact a.symm.trans c
theorem Jn.which {r : Fact} {x y u v : Int} (j : Jn r x y) (k : Jn r u v) : (u = x ∧ v = y) ∨ (u = y ∧ v = x) := by
  rcases j with ⟨a, b⟩ | ⟨a, b⟩ <;> rcases k with ⟨c, d⟩ | ⟨c, d⟩
  · exact .inl ⟨c.symm.trans a, d.symm.trans b⟩
  · exact .inr ⟨d.symm.trans b, c.symm.trans a⟩
  · exact .inr ⟨c.symm.trans a, d.symm.trans b⟩
  · exact .inl ⟨d.symm.trans b, c.symm.trans a⟩
theorem Way.split {F : List Fact} {x y : Int} {k : Nat} {m2 : List Nat} : ∀ {m1 : List Nat}, Way F x (m1 ++ k :: m2) y → ∃ u v r, Way F x m1 u ∧ F[k]? = some r ∧ Jn r u v ∧ Way F v m2 y := by
  intro m1
  induction m1 generalizing x with
  | nil =>
    intro w
    cases w with
    | cons e j w => exact ⟨_, _, _, .nil _, e, j, w⟩
  | cons a m1 ih =>
    intro w
    cases w with
    | cons e j w =>
      obtain ⟨u, v, r, w1, e1, j1, w2⟩ := ih w
      exact ⟨u, v, r, .cons e j w1, e1, j1, w2⟩
theorem mem_first {k : Nat} : ∀ {m : List Nat}, k ∈ m → ∃ m1 m2, m = m1 ++ k :: m2 ∧ k ∉ m1
  | [], h => by cases h
  | a :: m, h => by
    by_cases e : a = k
    · exact ⟨[], m, by rw [e]; rfl, by simp⟩
    · rcases List.mem_cons.mp h with h | h
      · exact absurd h.symm e
      · obtain ⟨m1, m2, rfl, n⟩ := mem_first h
        exact ⟨a :: m1, m2, rfl, fun z => by
          rcases List.mem_cons.mp z with z | z
          · exact e z.symm
          · exact n z⟩
theorem Way.uniq {F : List Fact} (nr : NoRing F) {y : Int} : ∀ {l m : List Nat} {x : Int}, Way F x l y → Way F x m y → l.Nodup → m.Nodup → l = m := by
  intro l
  induction l with
  | nil =>
    intro m x w v nl nm
    cases w
    cases v with
    | nil => rfl
    | cons e j v =>
      have z := ring_no nr e j v.rev
      exact absurd (List.mem_reverse.mp z) (List.nodup_cons.mp nm).1
  | cons k l ih =>
    intro m x w v nl nm
    cases w with
    | @cons _ z _ _ r _ e j w =>
      obtain ⟨nk, nl'⟩ := List.nodup_cons.mp nl
      cases v with
      | nil =>
        have z := ring_no nr e j w.rev
        exact absurd (List.mem_reverse.mp z) nk
      | @cons _ z' _ j' r' m' e' jn v =>
        obtain ⟨nj, nm'⟩ := List.nodup_cons.mp nm
        by_cases q : j' = k
        · subst q
          rw [e] at e'
          cases e'
          have ez := Jn.end_eq (nr.ne e) j jn
          subst ez
          rw [ih w v nl' nm']
        · exfalso
          by_cases km : k ∈ m'
          · obtain ⟨m1, m2, rfl, n1⟩ := mem_first km
            obtain ⟨u, u', r1, w1, e1, j1, w2⟩ := v.split
            rw [e] at e1
            cases e1
            rcases Jn.which j j1 with ⟨rfl, _⟩ | ⟨rfl, _⟩
            · have z := ring_no nr e' jn w1.rev
              exact nj (List.mem_append_left _ (List.mem_reverse.mp z))
            · have z := ring_no nr e j (Way.cons e' jn w1)
              rcases List.mem_cons.mp z with z | z
              · exact q z.symm
              · exact n1 z
          · have z := ring_no nr e j ((Way.cons e' jn v).append w.rev)
            rcases List.mem_append.mp z with z | z
            · rcases List.mem_cons.mp z with z | z
              · exact q z.symm
              · exact km z
            · exact nk (List.mem_reverse.mp z)
theorem way_of {F : List Fact} {x y : Int} (c : Con F x y) : ∃ l, Way F x l y ∧ l.Nodup := by
  induction c with
  | refl => exact ⟨[], .nil _, List.nodup_nil⟩
  | @step y z r h m j ih =>
    obtain ⟨l, w, n⟩ := ih
    obtain ⟨k, hk, e⟩ := List.getElem_of_mem m
    have e' : F[k]? = some r := by rw [List.getElem?_eq_getElem hk, e]
    by_cases kl : k ∈ l
    · obtain ⟨m1, m2, rfl, n1⟩ := mem_first kl
      obtain ⟨u, u', r1, w1, e1, j1, w2⟩ := w.split
      rw [e'] at e1
      cases e1
      have nm1 : m1.Nodup := (List.nodup_append.mp n).1
      rcases Jn.which j j1 with ⟨rfl, _⟩ | ⟨rfl, _⟩
      · refine ⟨m1 ++ [k], w1.append (.cons e' j (.nil _)), List.nodup_append.mpr ⟨nm1, by simp, fun a ha b hb q => ?_⟩⟩
        rw [List.mem_singleton.mp hb] at q
        exact n1 (q ▸ ha)
      · exact ⟨m1, w1, nm1⟩
    · refine ⟨l ++ [k], w.append (.cons e' j (.nil _)), List.nodup_append.mpr ⟨n, by simp, fun a ha b hb q => ?_⟩⟩
      rw [List.mem_singleton.mp hb] at q
      exact kl (q ▸ ha)
/-- a tree: the crossings 0 to n - 1, all joined, without a ring -/
structure TreeM (n : Int) (F : List Fact) : Prop where
  ok : ∀ r ∈ F, In n r.1 ∧ In n r.2.1 ∧ 1 ≤ r.2.2
  nr : NoRing F
  con : ∀ x y, In n x → In n y → Con F x y
open Classical in
/-- the way from x to y -/
noncomputable def tr (F : List Fact) (x y : Int) : List Nat := if h : ∃ l, Way F x l y ∧ l.Nodup then choose h else []
theorem tr_of {n : Int} {F : List Fact} (T : TreeM n F) {x y : Int} (hx : In n x) (hy : In n y) : Way F x (tr F x y) y ∧ (tr F x y).Nodup := by
  have h := way_of (T.con x y hx hy)
  unfold tr
  rw [dif_pos h]
  exact Classical.choose_spec h
theorem tr_eq {n : Int} {F : List Fact} (T : TreeM n F) {x y : Int} {l : List Nat} (w : Way F x l y) (nd : l.Nodup) : tr F x y = l := by
  have h : ∃ l, Way F x l y ∧ l.Nodup := ⟨l, w, nd⟩
  unfold tr
  rw [dif_pos h]
  exact (Classical.choose_spec h).1.uniq T.nr w (Classical.choose_spec h).2 nd
def rd (F : List Fact) (k : Nat) : Fact := F.getD k (0, 0, 0)
theorem rd_of {F : List Fact} {k : Nat} {r : Fact} (h : F[k]? = some r) : rd F k = r := by
  unfold rd
  rw [List.getD_eq_getElem?_getD, h]
  rfl
theorem rd_get {F : List Fact} {k : Nat} (h : k < F.length) : F[k]? = some (rd F k) := by
  unfold rd
  rw [List.getD_eq_getElem?_getD, List.getElem?_eq_getElem h]
  rfl
/-- the size of a road, in parts of a step -/
def sz (F : List Fact) (S : Int) (k : Nat) : Int := (rd F k).2.2 * S
/-- where a road meets the crossing at one of its ends -/
def eAt (F : List Fact) (S : Int) (k : Nat) (c : Int) : Int := if (rd F k).1 = c then 0 else sz F S k
/-- the crossing at the other end -/
def eBy (F : List Fact) (k : Nat) (c : Int) : Int := if (rd F k).1 = c then (rd F k).2.1 else (rd F k).1
theorem eBy_of {F : List Fact} {k : Nat} {x y : Int} (j : Jn (rd F k) x y) (ne : (rd F k).1 ≠ (rd F k).2.1) : eBy F k x = y := by
  unfold eBy
  rcases j with ⟨a, b⟩ | ⟨a, b⟩
  · rw [if_pos a, b]
  · rw [if_neg (fun z => ne (z.trans b.symm)), a]
theorem jn_by {F : List Fact} {k : Nat} {c : Int} (h : (rd F k).1 = c ∨ (rd F k).2.1 = c) : Jn (rd F k) c (eBy F k c) := by
  unfold eBy
  by_cases e : (rd F k).1 = c
  · rw [if_pos e]
    exact .inl ⟨e, rfl⟩
  · rw [if_neg e]
    exact .inr ⟨rfl, h.resolve_left e⟩
/-- a leg: a road, from where to where -/
abbrev Leg := Nat × Int × Int
def dst (s e : Int) : Int := if e - s < 0 then -(e - s) else e - s
def total : List Leg → Int
  | [] => 0
  | (_, s, e) :: l => dst s e + total l
/-- the legs from the crossing c along the roads l to the place p of the road g -/
def legsC (F : List Fact) (S : Int) (g : Nat) (p : Int) : Int → List Nat → List Leg
  | c, [] => [(g, eAt F S g c, p)]
  | c, k :: l => if k = g then legsC F S g p c l else (k, eAt F S k c, eAt F S k (eBy F k c)) :: legsC F S g p (eBy F k c) l
open Classical in
/-- the end by which the way to the road g leaves the road k -/
noncomputable def up (F : List Fact) (g k : Nat) : Int := if k ∈ tr F (rd F k).1 (rd F g).1 then (rd F k).2.1 else (rd F k).1
/-- the legs from the place i of the road k -/
noncomputable def legsP (F : List Fact) (S : Int) (g : Nat) (p : Int) (k : Nat) (i : Int) : List Leg :=
  if k = g then [(g, i, p)] else (k, i, eAt F S k (up F g k)) :: legsC F S g p (up F g k) (tr F (up F g k) (rd F g).1)
/-- where one is after t parts of a step -/
def posL : List Leg → Int → Nat × Int
  | [], _ => (0, 0)
  | (k, s, e) :: l, t => if t ≤ dst s e then (k, if s < e then s + t else s - t) else posL l (t - dst s e)
theorem dst_nn (s e : Int) : 0 ≤ dst s e := by unfold dst; split <;> omega
theorem total_nn : ∀ l : List Leg, 0 ≤ total l
  | [] => by unfold total; exact Int.le_refl _
  | (k, s, e) :: l => by
    have := total_nn l
    have := dst_nn s e
    unfold total
    omega
end OT
namespace OT
inductive Nd
  | cr (c : Int) | mid (k : Nat) (i : Int)
  deriving DecidableEq
def node (F : List Fact) (S : Int) (k : Nat) (i : Int) : Nd := if i = 0 then .cr (rd F k).1 else if i = sz F S k then .cr (rd F k).2.1 else .mid k i
/-- i is a place of the road k -/
def On (F : List Fact) (S : Int) (k : Nat) (i : Int) : Prop := k < F.length ∧ 0 ≤ i ∧ i ≤ sz F S k
/-- one part of a step apart -/
def Adj (F : List Fact) (S : Int) (u v : Nd) : Prop := ∃ k i, k < F.length ∧ 0 ≤ i ∧ i + 1 ≤ sz F S k ∧ ((u = node F S k i ∧ v = node F S k (i + 1)) ∨ (u = node F S k (i + 1) ∧ v = node F S k i))
theorem Adj.symm {F : List Fact} {S : Int} {u v : Nd} (h : Adj F S u v) : Adj F S v u := let ⟨k, i, a, b, c, d⟩ := h; ⟨k, i, a, b, c, d.elim (fun z => .inr ⟨z.2, z.1⟩) fun z => .inl ⟨z.2, z.1⟩⟩
/-- how far it is to the place p of the road g -/
noncomputable def hC (F : List Fact) (S : Int) (g : Nat) (p : Int) (c : Int) : Int := total (legsC F S g p c (tr F c (rd F g).1))
noncomputable def hP (F : List Fact) (S : Int) (g : Nat) (p : Int) (k : Nat) (i : Int) : Int := total (legsP F S g p k i)
noncomputable def hN (F : List Fact) (S : Int) (g : Nat) (p : Int) : Nd → Int
  | .cr c => hC F S g p c
  | .mid k i => hP F S g p k i
section
variable {n : Int} {F : List Fact} {S : Int} {g : Nat} {p : Int} (T : TreeM n F) (hS : 1 ≤ S) (hg : On F S g p)
include T
theorem rd_ok {k : Nat} (h : k < F.length) : In n (rd F k).1 ∧ In n (rd F k).2.1 ∧ 1 ≤ (rd F k).2.2 ∧ (rd F k).1 ≠ (rd F k).2.1 := by
  have e := rd_get h
  obtain ⟨a, b, c⟩ := T.ok _ (List.mem_of_getElem? e)
  exact ⟨a, b, c, T.nr.ne e⟩
include hS
theorem sz_pos {k : Nat} (h : k < F.length) : 1 ≤ sz F S k := by
  obtain ⟨_, _, c, _⟩ := rd_ok T h
  unfold sz
  have := Int.mul_le_mul c hS (by omega) (by omega)
  omega
theorem eAt_on {k : Nat} (h : k < F.length) (c : Int) : On F S k (eAt F S k c) := by
  have := sz_pos T hS h
  unfold eAt
  split
  · exact ⟨h, Int.le_refl _, by omega⟩
  · exact ⟨h, by omega, Int.le_refl _⟩
theorem node_eAt {k : Nat} (h : k < F.length) {c : Int} (hc : (rd F k).1 = c ∨ (rd F k).2.1 = c) : node F S k (eAt F S k c) = .cr c := by
  have := sz_pos T hS h
  unfold eAt node
  by_cases e : (rd F k).1 = c
  · rw [if_pos e, if_pos rfl, e]
  · rw [if_neg e, if_neg (by omega), if_pos rfl, hc.resolve_left e]
theorem node_cr {k : Nat} {i c : Int} (h : k < F.length) (e : node F S k i = .cr c) : ((rd F k).1 = c ∨ (rd F k).2.1 = c) ∧ i = eAt F S k c := by
  obtain ⟨_, _, _, ne⟩ := rd_ok T h
  unfold node at e
  unfold eAt
  by_cases e0 : i = 0
  · rw [if_pos e0] at e
    cases e
    exact ⟨.inl rfl, by rw [if_pos rfl]; exact e0⟩
  · rw [if_neg e0] at e
    by_cases e1 : i = sz F S k
    · rw [if_pos e1] at e
      cases e
      exact ⟨.inr rfl, by rw [if_neg ne]; exact e1⟩
    · rw [if_neg e1] at e
      cases e
theorem dst_ends {k : Nat} (h : k < F.length) {c : Int} (hc : (rd F k).1 = c ∨ (rd F k).2.1 = c) : dst (eAt F S k c) (eAt F S k (eBy F k c)) = sz F S k := by
  obtain ⟨_, _, _, ne⟩ := rd_ok T h
  have sp := sz_pos T hS h
  unfold eAt eBy dst
  by_cases e : (rd F k).1 = c
  · have e2 : ¬ (rd F k).1 = (rd F k).2.1 := ne
    rw [if_pos e, if_pos e, if_neg e2]
    split <;> omega
  · rw [if_neg e, if_neg e, if_pos rfl]
    split <;> omega
omit hS
/-- the way from a crossing over one of its roads, or towards it -/
theorem tr_head {k : Nat} {r c c' : Int} (h : k < F.length) (hr : In n r) (j : Jn (rd F k) c c') (m : k ∈ tr F c r) : tr F c r = k :: tr F c' r := by
  obtain ⟨o1, o2, _, ne⟩ := rd_ok T h
  have ic : In n c := by rcases j with ⟨a, b⟩ | ⟨a, b⟩; exact a ▸ o1; exact b ▸ o2
  have ic' : In n c' := by rcases j with ⟨a, b⟩ | ⟨a, b⟩; exact b ▸ o2; exact a ▸ o1
  obtain ⟨w, nd⟩ := tr_of T ic hr
  obtain ⟨m1, m2, e, n1⟩ := mem_first m
  rw [e] at w nd
  obtain ⟨u, v, r1, w1, e1, j1, w2⟩ := w.split
  rw [rd_get h] at e1
  cases e1
  have nd2 : m2.Nodup := (List.nodup_cons.mp (List.nodup_append.mp nd).2.1).2
  rcases Jn.which j j1 with ⟨rfl, rfl⟩ | ⟨rfl, rfl⟩
  · have z : m1 = [] := Way.uniq T.nr w1 (.nil _) (List.nodup_append.mp nd).1 List.nodup_nil
    rw [e, z, tr_eq T w2 nd2]
    rfl
  · exact absurd (ring_no T.nr (rd_get h) j w1) n1
theorem tr_tail {k : Nat} {r c c' : Int} (h : k < F.length) (hr : In n r) (j : Jn (rd F k) c c') (m : k ∉ tr F c' r) : tr F c r = k :: tr F c' r := by
  obtain ⟨o1, o2, _, ne⟩ := rd_ok T h
  have ic' : In n c' := by rcases j with ⟨a, b⟩ | ⟨a, b⟩; exact b ▸ o2; exact a ▸ o1
  obtain ⟨w, nd⟩ := tr_of T ic' hr
  exact tr_eq T (.cons (rd_get h) j w) (List.nodup_cons.mpr ⟨m, nd⟩)
theorem tr_self {r : Int} (hr : In n r) : tr F r r = [] := tr_eq T (.nil _) List.nodup_nil
theorem tr_root {g : Nat} (h : g < F.length) : tr F (rd F g).2.1 (rd F g).1 = [g] := tr_eq T (.cons (rd_get h) (.inr ⟨rfl, rfl⟩) (.nil _)) (by simp)
theorem up_end {g k : Nat} (hk : k < F.length) : (rd F k).1 = up F g k ∨ (rd F k).2.1 = up F g k := by
  unfold up
  split
  · exact .inr rfl
  · exact .inl rfl
/-- the other end's way is over the road, then the near end's -/
theorem up_far {g k : Nat} (hg : g < F.length) (hk : k < F.length) : tr F (eBy F k (up F g k)) (rd F g).1 = k :: tr F (up F g k) (rd F g).1 := by
  obtain ⟨_, _, _, ne⟩ := rd_ok T hk
  have hr := (rd_ok T hg).1
  unfold up
  by_cases m : k ∈ tr F (rd F k).1 (rd F g).1
  · rw [if_pos m, eBy_of (.inr ⟨rfl, rfl⟩) ne]
    exact tr_head T hk hr (.inl ⟨rfl, rfl⟩) m
  · rw [if_neg m, eBy_of (.inl ⟨rfl, rfl⟩) ne]
    exact tr_tail T hk hr (.inr ⟨rfl, rfl⟩) m
/-- which end is nearer, told by an end's own way -/
theorem up_of {g k : Nat} {c : Int} {l : List Nat} (hg : g < F.length) (hk : k < F.length) (hc : (rd F k).1 = c ∨ (rd F k).2.1 = c) (e : tr F c (rd F g).1 = k :: l) : up F g k = eBy F k c ∧ l = tr F (eBy F k c) (rd F g).1 := by
  obtain ⟨_, _, _, ne⟩ := rd_ok T hk
  have hr := (rd_ok T hg).1
  have j := jn_by hc
  have e2 := tr_head T hk hr j (by rw [e]; exact List.mem_cons_self ..)
  have el : l = tr F (eBy F k c) (rd F g).1 := (List.cons.inj (e.symm.trans e2)).2
  refine ⟨?_, el⟩
  have far := up_far T hg hk (g := g)
  by_cases q : up F g k = c
  · exfalso
    rw [q, e2] at far
    have z := congrArg List.length far
    simp at z
    omega
  · rcases up_end T hk (g := g) with a | a
    · have b : (rd F k).2.1 = c := hc.resolve_left fun z => q (a.symm.trans z)
      rw [eBy_of (.inr ⟨rfl, b⟩) ne]
      exact a.symm
    · have b : (rd F k).1 = c := hc.resolve_right fun z => q (a.symm.trans z)
      rw [eBy_of (.inl ⟨b, rfl⟩) ne]
      exact a.symm
end
end OT
set_option linter.all false
namespace OT
section
variable {n : Int} {F : List Fact} {S : Int} {g : Nat} {p : Int}
theorem eAt_or (F : List Fact) (S : Int) (k : Nat) (c : Int) : eAt F S k c = 0 ∨ eAt F S k c = sz F S k := by
  unfold eAt
  split
  · exact .inl rfl
  · exact .inr rfl
theorem hP_g (i : Int) : hP F S g p g i = dst i p := by
  unfold hP legsP
  rw [if_pos rfl]
  show dst i p + 0 = _
  omega
theorem hP_k {k : Nat} (h : k ≠ g) (i : Int) : hP F S g p k i = dst i (eAt F S k (up F g k)) + hC F S g p (up F g k) := by
  unfold hP legsP
  rw [if_neg h]
  rfl
theorem dst_self (a : Int) : dst a a = 0 := by unfold dst; split <;> omega
theorem legsC_nil (c : Int) : legsC F S g p c [] = [(g, eAt F S g c, p)] := rfl
theorem legsC_g (c : Int) (l : List Nat) : legsC F S g p c (g :: l) = legsC F S g p c l := by
  show (if g = g then _ else _) = _
  rw [if_pos rfl]
theorem legsC_k {k : Nat} (h : k ≠ g) (c : Int) (l : List Nat) : legsC F S g p c (k :: l) = (k, eAt F S k c, eAt F S k (eBy F k c)) :: legsC F S g p (eBy F k c) l := by
  show (if k = g then _ else _) = _
  rw [if_neg h]
variable (T : TreeM n F) (hS : 1 ≤ S) (hg : On F S g p)
include T hS hg
/-- at an end of the last road one goes along it -/
theorem legsC_end {c : Int} (hc : (rd F g).1 = c ∨ (rd F g).2.1 = c) : legsC F S g p c (tr F c (rd F g).1) = [(g, eAt F S g c, p)] := by
  rcases hc with rfl | rfl
  · rw [tr_self T (rd_ok T hg.1).1, legsC_nil]
  · rw [tr_root T hg.1, legsC_g, legsC_nil]
theorem hC_end {c : Int} (hc : (rd F g).1 = c ∨ (rd F g).2.1 = c) : hC F S g p c = dst (eAt F S g c) p := by
  unfold hC
  rw [legsC_end T hS hg hc]
  show dst _ _ + 0 = _
  omega
theorem hC_far {k : Nat} (hk : k < F.length) (h : k ≠ g) : hC F S g p (eBy F k (up F g k)) = sz F S k + hC F S g p (up F g k) := by
  obtain ⟨_, _, _, ne⟩ := rd_ok T hk
  have e := up_end T hk (g := g)
  have bb : eBy F k (eBy F k (up F g k)) = up F g k := eBy_of (jn_by e).symm ne
  have oth : (rd F k).1 = eBy F k (up F g k) ∨ (rd F k).2.1 = eBy F k (up F g k) := by
    rcases jn_by e with ⟨_, b⟩ | ⟨b, _⟩
    · exact .inr b
    · exact .inl b
  show total (legsC F S g p (eBy F k (up F g k)) (tr F (eBy F k (up F g k)) (rd F g).1)) = _
  rw [up_far T hg.1 hk, legsC_k h]
  show dst _ _ + total _ = _
  rw [dst_ends T hS hk oth, bb]
  rfl
theorem oth_end {k : Nat} (hk : k < F.length) {c : Int} (hc : (rd F k).1 = c ∨ (rd F k).2.1 = c) (q : up F g k ≠ c) : c = eBy F k (up F g k) := by
  obtain ⟨_, _, _, ne⟩ := rd_ok T hk
  rcases up_end T hk (g := g) with a | a
  · have b : (rd F k).2.1 = c := hc.resolve_left fun z => q (a.symm.trans z)
    rw [eBy_of (.inl ⟨a, b⟩) ne]
  · have b : (rd F k).1 = c := hc.resolve_right fun z => q (a.symm.trans z)
    rw [eBy_of (.inr ⟨b, a⟩) ne]
theorem eAt_far {k : Nat} (hk : k < F.length) {c : Int} (hc : (rd F k).1 = c ∨ (rd F k).2.1 = c) (q : up F g k ≠ c) : dst (eAt F S k c) (eAt F S k (up F g k)) = sz F S k := by
  obtain ⟨_, _, _, ne⟩ := rd_ok T hk
  have e := dst_ends T hS hk hc
  have z := oth_end T hS hg hk hc q
  have bb : eBy F k c = up F g k := by rw [z]; exact eBy_of (jn_by (up_end T hk)).symm ne
  rw [bb] at e
  exact e
/-- the distance from a crossing, seen from its roads -/
theorem hP_end {k : Nat} (hk : k < F.length) {c : Int} (hc : (rd F k).1 = c ∨ (rd F k).2.1 = c) : hP F S g p k (eAt F S k c) = hC F S g p c := by
  by_cases h : k = g
  · subst h
    rw [hP_g, hC_end T hS hg hc]
  · rw [hP_k h]
    by_cases q : up F g k = c
    · rw [q, dst_self]
      omega
    · rw [eAt_far T hS hg hk hc q, ← hC_far T hS hg hk h, ← oth_end T hS hg hk hc q]
theorem hN_node {k : Nat} {i : Int} (h : On F S k i) : hN F S g p (node F S k i) = hP F S g p k i := by
  obtain ⟨_, _, _, ne⟩ := rd_ok T h.1
  unfold node
  by_cases e0 : i = 0
  · rw [if_pos e0]
    show hC F S g p (rd F k).1 = _
    rw [← hP_end T hS hg h.1 (.inl rfl), e0]
    unfold eAt
    rw [if_pos rfl]
  · rw [if_neg e0]
    by_cases e1 : i = sz F S k
    · rw [if_pos e1]
      show hC F S g p (rd F k).2.1 = _
      rw [← hP_end T hS hg h.1 (.inr rfl), e1]
      unfold eAt
      rw [if_neg ne]
    · rw [if_neg e1]
      rfl
/-- one step on a road brings one step nearer, or farther -/
theorem hP_step {k : Nat} {i j : Int} (hi : On F S k i) (hj : On F S k j) (a : j = i + 1 ∨ j = i - 1) : hP F S g p k j = hP F S g p k i + 1 ∨ hP F S g p k j = hP F S g p k i - 1 := by
  obtain ⟨_, i0, i1⟩ := hi
  obtain ⟨_, j0, j1⟩ := hj
  by_cases h : k = g
  · subst h
    obtain ⟨_, p0, p1⟩ := hg
    rw [hP_g, hP_g]
    unfold dst
    split <;> split <;> omega
  · rw [hP_k h, hP_k h]
    rcases eAt_or F S k (up F g k) with e | e
    · rw [e]
      unfold dst
      split <;> split <;> omega
    · rw [e]
      unfold dst
      split <;> split <;> omega
omit T hS hg in
theorem Adj.norm {u v : Nd} (h : Adj F S u v) : ∃ k i j, On F S k i ∧ On F S k j ∧ (j = i + 1 ∨ j = i - 1) ∧ u = node F S k i ∧ v = node F S k j := by
  obtain ⟨k, i, a, b, c, ⟨d, e⟩ | ⟨d, e⟩⟩ := h
  · exact ⟨k, i, i + 1, ⟨a, b, by omega⟩, ⟨a, by omega, c⟩, .inl rfl, d, e⟩
  · exact ⟨k, i + 1, i, ⟨a, by omega, c⟩, ⟨a, b, by omega⟩, .inr (by omega), d, e⟩
omit T hS hg in
theorem Adj.of {k : Nat} {i j : Int} (hi : On F S k i) (hj : On F S k j) (a : j = i + 1 ∨ j = i - 1) : Adj F S (node F S k i) (node F S k j) := by
  rcases a with rfl | rfl
  · exact ⟨k, i, hi.1, hi.2.1, hj.2.2, .inl ⟨rfl, rfl⟩⟩
  · exact ⟨k, i - 1, hi.1, hj.2.1, by have := hi.2.2; omega, .inr ⟨by rw [Int.sub_add_cancel], rfl⟩⟩
theorem adj_step {u v : Nd} (h : Adj F S u v) : hN F S g p v = hN F S g p u + 1 ∨ hN F S g p v = hN F S g p u - 1 := by
  obtain ⟨k, i, j, hi, hj, a, rfl, rfl⟩ := h.norm
  rw [hN_node T hS hg hi, hN_node T hS hg hj]
  exact hP_step T hS hg hi hj a
theorem low_head {k : Nat} (hk : k < F.length) (h : k ≠ g) {c j : Int} (hc : (rd F k).1 = c ∨ (rd F k).2.1 = c) (a : j = eAt F S k c + 1 ∨ j = eAt F S k c - 1) (l : hP F S g p k j + 1 = hC F S g p c) : ∃ m, tr F c (rd F g).1 = k :: m := by
  by_cases q : up F g k = c
  · exfalso
    rw [hP_k h, q] at l
    have : dst j (eAt F S k c) = 1 := by unfold dst; split <;> omega
    omega
  · rw [oth_end T hS hg hk hc q]
    exact ⟨_, up_far T hg.1 hk⟩
/-- only one neighbour is nearer -/
theorem lower_uniq {v u1 u2 : Nd} (a1 : Adj F S v u1) (a2 : Adj F S v u2) (l1 : hN F S g p u1 + 1 = hN F S g p v) (l2 : hN F S g p u2 + 1 = hN F S g p v) : u1 = u2 := by
  obtain ⟨k1, i1, j1, o1, q1, n1, rfl, rfl⟩ := a1.norm
  obtain ⟨k2, i2, j2, o2, q2, n2, ev, rfl⟩ := a2.norm
  rw [hN_node T hS hg q1] at l1
  rw [hN_node T hS hg q2] at l2
  cases e : node F S k1 i1 with
  | mid k i =>
    have m : ∀ {k' i'}, node F S k' i' = .mid k i → k' = k ∧ i' = i := fun {k' i'} z => by
      unfold node at z
      split at z
      · cases z
      · split at z
        · cases z
        · cases z
          exact ⟨rfl, rfl⟩
    obtain ⟨rfl, rfl⟩ := m e
    rw [e] at ev
    obtain ⟨rfl, rfl⟩ := m ev.symm
    rw [hN_node T hS hg o1] at l1 l2
    by_cases z : j1 = j2
    · rw [z]
    · exfalso
      obtain ⟨_, _, _⟩ := o1
      obtain ⟨_, _, _⟩ := q1
      obtain ⟨_, _, _⟩ := q2
      by_cases h : k2 = g
      · subst h
        rw [hP_g, hP_g] at l1 l2
        unfold dst at l1 l2
        split at l1 <;> split at l1 <;> split at l2 <;> omega
      · rw [hP_k h, hP_k h] at l1 l2
        rcases eAt_or F S k2 (up F g k2) with e | e
        · rw [e] at l1 l2
          unfold dst at l1 l2
          split at l1 <;> split at l1 <;> split at l2 <;> omega
        · rw [e] at l1 l2
          unfold dst at l1 l2
          split at l1 <;> split at l1 <;> split at l2 <;> omega
  | cr c =>
    rw [e] at ev l1 l2
    obtain ⟨c1, ei1⟩ := node_cr T hS o1.1 e
    obtain ⟨c2, ei2⟩ := node_cr T hS o2.1 ev.symm
    rw [ei1] at n1
    rw [ei2] at n2
    have same : k1 = k2 := by
      by_cases h1 : k1 = g
      · by_cases h2 : k2 = g
        · exact h1.trans h2.symm
        · exfalso
          obtain ⟨m, em⟩ := low_head T hS hg o2.1 h2 c2 n2 l2
          rw [h1] at c1
          rcases c1 with rfl | rfl
          · rw [tr_self T (rd_ok T hg.1).1] at em
            cases em
          · rw [tr_root T hg.1] at em
            exact h2 (List.cons.inj em).1.symm
      · by_cases h2 : k2 = g
        · exfalso
          obtain ⟨m, em⟩ := low_head T hS hg o1.1 h1 c1 n1 l1
          rw [h2] at c2
          rcases c2 with rfl | rfl
          · rw [tr_self T (rd_ok T hg.1).1] at em
            cases em
          · rw [tr_root T hg.1] at em
            exact h1 (List.cons.inj em).1.symm
        · obtain ⟨m, em⟩ := low_head T hS hg o1.1 h1 c1 n1 l1
          obtain ⟨m', em'⟩ := low_head T hS hg o2.1 h2 c2 n2 l2
          rw [em] at em'
          exact (List.cons.inj em').1
    subst same
    have : j1 = j2 := by
      obtain ⟨_, _, _⟩ := q1
      obtain ⟨_, _, _⟩ := q2
      rcases eAt_or F S k1 c with e | e <;> omega
    rw [this]
omit T hS hg in
theorem posL_le {k : Nat} {s e t : Int} {L : List Leg} (h : t ≤ dst s e) : posL ((k, s, e) :: L) t = (k, if s < e then s + t else s - t) := by
  show (if t ≤ dst s e then _ else _) = _
  rw [if_pos h]
omit T hS hg in
theorem posL_gt {k : Nat} {s e t : Int} {L : List Leg} (h : ¬ t ≤ dst s e) : posL ((k, s, e) :: L) t = posL L (t - dst s e) := by
  show (if t ≤ dst s e then _ else _) = _
  rw [if_neg h]
/-- along the legs L one comes nearer with each part of a step -/
def PathOk (F : List Fact) (S : Int) (g : Nat) (p : Int) (L : List Leg) : Prop := ∀ t, 0 ≤ t → t ≤ total L → On F S (posL L t).1 (posL L t).2 ∧ hP F S g p (posL L t).1 (posL L t).2 = total L - t ∧
  (t + 1 ≤ total L → Adj F S (node F S (posL L t).1 (posL L t).2) (node F S (posL L (t + 1)).1 (posL L (t + 1)).2))
omit T hS hg in
theorem leg_in {k : Nat} {s e t : Int} (hs : On F S k s) (he : On F S k e) (t0 : 0 ≤ t) (t1 : t ≤ dst s e) : On F S k (if s < e then s + t else s - t) ∧ dst (if s < e then s + t else s - t) e = dst s e - t := by
  obtain ⟨a, b, c⟩ := hs
  obtain ⟨_, b', c'⟩ := he
  unfold dst at t1 ⊢
  by_cases h : s < e
  · rw [if_pos h]
    have h1 : ¬ e - s < 0 := by omega
    rw [if_neg h1] at t1 ⊢
    have h2 : ¬ e - (s + t) < 0 := by omega
    rw [if_neg h2]
    exact ⟨⟨a, by omega, by omega⟩, by omega⟩
  · rw [if_neg h]
    by_cases h1 : e - s < 0
    · rw [if_pos h1] at t1 ⊢
      refine ⟨⟨a, by omega, by omega⟩, ?_⟩
      split <;> omega
    · rw [if_neg h1] at t1 ⊢
      refine ⟨⟨a, by omega, by omega⟩, ?_⟩
      split <;> omega
omit T hS hg in
theorem path_cons {k : Nat} {s e : Int} {L : List Leg} (hs : On F S k s) (he : On F S k e) (lin : ∀ i, On F S k i → hP F S g p k i = dst i e + total L) (ok : PathOk F S g p L) (j : 1 ≤ total L → node F S k e = node F S (posL L 0).1 (posL L 0).2) : PathOk F S g p ((k, s, e) :: L) := by
  intro t t0 t1
  have tot : total ((k, s, e) :: L) = dst s e + total L := rfl
  rw [tot] at t1 ⊢
  by_cases h : t ≤ dst s e
  · obtain ⟨o, d⟩ := leg_in hs he t0 h
    rw [posL_le h]
    refine ⟨o, by rw [lin _ o, d]; omega, fun t2 => ?_⟩
    by_cases h2 : t + 1 ≤ dst s e
    · obtain ⟨o2, _⟩ := leg_in hs he (show 0 ≤ t + 1 by omega) h2
      rw [posL_le h2]
      refine Adj.of o o2 ?_
      split
      · exact .inl (by omega)
      · exact .inr (by omega)
    · have et : t = dst s e := by omega
      rw [posL_gt h2]
      have e1 : t + 1 - dst s e = 0 + 1 := by omega
      rw [e1]
      have ee : (if s < e then s + t else s - t) = e := by
        rw [et]
        unfold dst
        split <;> split <;> omega
      simp only [ee]
      rw [j (by omega)]
      exact (ok 0 (Int.le_refl _) (total_nn _)).2.2 (by omega)
  · rw [posL_gt h, posL_gt (show ¬ t + 1 ≤ dst s e by omega)]
    obtain ⟨o, d, a⟩ := ok (t - dst s e) (by omega) (by omega)
    refine ⟨o, by rw [d]; omega, fun t2 => ?_⟩
    have e1 : t + 1 - dst s e = t - dst s e + 1 := by omega
    rw [e1]
    exact a (by omega)
theorem path_last {s : Int} (hs : On F S g s) : PathOk F S g p [(g, s, p)] := by
  intro t t0 t1
  have tot : total [(g, s, p)] = dst s p := by show dst s p + 0 = _; omega
  rw [tot] at t1 ⊢
  obtain ⟨o, d⟩ := leg_in hs hg t0 t1
  rw [posL_le t1]
  refine ⟨o, by rw [hP_g, d], fun t2 => ?_⟩
  obtain ⟨o2, _⟩ := leg_in hs hg (show 0 ≤ t + 1 by omega) t2
  rw [posL_le t2]
  refine Adj.of o o2 ?_
  split
  · exact .inl (by omega)
  · exact .inr (by omega)
omit T hS hg in
theorem posL_zero {k : Nat} {s e : Int} {L : List Leg} : posL ((k, s, e) :: L) 0 = (k, s) := by
  rw [posL_le (dst_nn s e)]
  split <;> simp
theorem legsC_ok : ∀ (l : List Nat) (c : Int), In n c → tr F c (rd F g).1 = l → PathOk F S g p (legsC F S g p c l) ∧ node F S (posL (legsC F S g p c l) 0).1 (posL (legsC F S g p c l) 0).2 = .cr c := by
  have hr := (rd_ok T hg.1).1
  have last : ∀ c, ((rd F g).1 = c ∨ (rd F g).2.1 = c) → PathOk F S g p [(g, eAt F S g c, p)] ∧ node F S (posL [(g, eAt F S g c, p)] 0).1 (posL [(g, eAt F S g c, p)] 0).2 = .cr c := fun c hc => by
    refine ⟨path_last T hS hg (eAt_on T hS hg.1 c), ?_⟩
    rw [posL_zero]
    exact node_eAt T hS hg.1 hc
  intro l
  induction l with
  | nil =>
    intro c ic e
    obtain ⟨w, _⟩ := tr_of T ic hr
    rw [e] at w
    cases w
    exact last _ (.inl rfl)
  | cons k l ih =>
    intro c ic e
    obtain ⟨w, nd⟩ := tr_of T ic hr
    rw [e] at w nd
    cases w with
    | @cons _ c' _ _ r _ ek j w =>
      have hk : k < F.length := (List.getElem?_eq_some_iff.mp ek).1
      rw [rd_get hk] at ek
      cases ek
      obtain ⟨_, _, _, ne⟩ := rd_ok T hk
      have hc : (rd F k).1 = c ∨ (rd F k).2.1 = c := by
        rcases j with ⟨a, _⟩ | ⟨_, a⟩
        · exact .inl a
        · exact .inr a
      by_cases h : k = g
      · subst h
        rw [legsC_g]
        have el : l = [] := by
          rcases hc with rfl | rfl
          · rw [tr_self T hr] at e
            cases e
          · rw [tr_root T hg.1] at e
            exact (List.cons.inj e).2.symm
        rw [el]
        exact last _ hc
      · rw [legsC_k h]
        obtain ⟨eu, el⟩ := up_of T hg.1 hk hc e
        have ic' : In n (eBy F k c) := by
          have o := rd_ok T hk
          rcases jn_by hc with ⟨_, b⟩ | ⟨b, _⟩
          · exact b ▸ o.2.1
          · exact b ▸ o.1
        obtain ⟨ok, st⟩ := ih (eBy F k c) ic' el.symm
        refine ⟨path_cons (eAt_on T hS hk c) (eAt_on T hS hk _) (fun i hi => ?_) ok fun _ => ?_, ?_⟩
        · rw [hP_k h, eu]
          unfold hC
          rw [← el]
        · rw [st]
          refine node_eAt T hS hk ?_
          rcases jn_by hc with ⟨_, b⟩ | ⟨b, _⟩
          · exact .inr b
          · exact .inl b
        · rw [posL_zero]
          exact node_eAt T hS hk hc
theorem legsP_ok {k : Nat} {i : Int} (h : On F S k i) : PathOk F S g p (legsP F S g p k i) ∧ node F S (posL (legsP F S g p k i) 0).1 (posL (legsP F S g p k i) 0).2 = node F S k i := by
  unfold legsP
  by_cases e : k = g
  · subst e
    rw [if_pos rfl, posL_zero]
    exact ⟨path_last T hS hg h, rfl⟩
  · rw [if_neg e, posL_zero]
    have ic : In n (up F g k) := by
      have o := rd_ok T h.1
      rcases up_end T h.1 (g := g) with b | b
      · exact b ▸ o.1
      · exact b ▸ o.2.1
    obtain ⟨ok, st⟩ := legsC_ok T hS hg _ (up F g k) ic rfl
    refine ⟨path_cons h (eAt_on T hS h.1 _) (fun j hj => hP_k e j) ok fun _ => ?_, rfl⟩
    rw [st]
    exact node_eAt T hS h.1 (up_end T h.1)
theorem hC_zero {c : Int} (ic : In n c) (h : hC F S g p c = 0) : node F S g p = .cr c := by
  have hr := (rd_ok T hg.1).1
  have fin : ((rd F g).1 = c ∨ (rd F g).2.1 = c) → node F S g p = .cr c := fun hc => by
    rw [hC_end T hS hg hc] at h
    have : p = eAt F S g c := by
      unfold dst at h
      split at h <;> omega
    rw [this]
    exact node_eAt T hS hg.1 hc
  cases e : tr F c (rd F g).1 with
  | nil =>
    obtain ⟨w, _⟩ := tr_of T ic hr
    rw [e] at w
    cases w
    exact fin (.inl rfl)
  | cons k l =>
    obtain ⟨w, nd⟩ := tr_of T ic hr
    rw [e] at w nd
    cases w with
    | @cons _ c' _ _ r _ ek j w =>
      have hk : k < F.length := (List.getElem?_eq_some_iff.mp ek).1
      rw [rd_get hk] at ek
      cases ek
      have hc : (rd F k).1 = c ∨ (rd F k).2.1 = c := by
        rcases j with ⟨a, _⟩ | ⟨_, a⟩
        · exact .inl a
        · exact .inr a
      by_cases q : k = g
      · exact fin (q ▸ hc)
      · exfalso
        unfold hC at h
        rw [e, legsC_k q] at h
        have h' : dst (eAt F S k c) (eAt F S k (eBy F k c)) + total (legsC F S g p (eBy F k c) l) = 0 := h
        rw [dst_ends T hS hk hc] at h'
        have := sz_pos T hS hk
        have := total_nn (legsC F S g p (eBy F k c) l)
        omega
/-- only the goal is at no distance -/
theorem hP_zero {k : Nat} {i : Int} (h : On F S k i) (z : hP F S g p k i = 0) : node F S k i = node F S g p := by
  by_cases e : k = g
  · subst e
    rw [hP_g] at z
    have : i = p := by
      unfold dst at z
      split at z <;> omega
    rw [this]
  · rw [hP_k e] at z
    have d := dst_nn i (eAt F S k (up F g k))
    have c := total_nn (legsC F S g p (up F g k) (tr F (up F g k) (rd F g).1))
    have z' : dst i (eAt F S k (up F g k)) + total (legsC F S g p (up F g k) (tr F (up F g k) (rd F g).1)) = 0 := z
    have ei : i = eAt F S k (up F g k) := by
      have : dst i (eAt F S k (up F g k)) = 0 := by omega
      unfold dst at this
      split at this <;> omega
    have ic : In n (up F g k) := by
      have o := rd_ok T h.1
      rcases up_end T h.1 (g := g) with b | b
      · exact b ▸ o.1
      · exact b ▸ o.2.1
    rw [hC_zero T hS hg ic (show hC F S g p (up F g k) = 0 by unfold hC; omega), ei]
    exact node_eAt T hS h.1 (up_end T h.1)
end
end OT
set_option linter.all false
namespace OT
theorem sz_mul (F : List Fact) (S c : Int) (k : Nat) : sz F (S * c) k = sz F S k * c := by
  unfold sz
  rw [Int.mul_assoc]
theorem eAt_mul (F : List Fact) (S c : Int) (k : Nat) (x : Int) : eAt F (S * c) k x = eAt F S k x * c := by
  unfold eAt
  split
  · rw [Int.zero_mul]
  · exact sz_mul F S c k
theorem dst_mul {c : Int} (hc : 0 < c) (s e : Int) : dst (s * c) (e * c) = dst s e * c := by
  have h : e * c - s * c = (e - s) * c := by rw [Int.sub_mul]
  unfold dst
  rw [h]
  by_cases q : e - s < 0
  · have q' : (e - s) * c < 0 := Int.mul_neg_of_neg_of_pos q hc
    rw [if_pos q, if_pos q', Int.neg_mul]
  · have q' : ¬ (e - s) * c < 0 := by
      have := Int.mul_nonneg (a := e - s) (b := c) (by omega) (by omega)
      omega
    rw [if_neg q, if_neg q']
def scL (c : Int) (l : Leg) : Leg := (l.1, l.2.1 * c, l.2.2 * c)
theorem legsC_mul (F : List Fact) (S c : Int) (g : Nat) (p : Int) : ∀ (l : List Nat) (x : Int), legsC F (S * c) g (p * c) x l = (legsC F S g p x l).map (scL c)
  | [], x => by
    show [(g, eAt F (S * c) g x, p * c)] = [scL c (g, eAt F S g x, p)]
    rw [eAt_mul]
    rfl
  | k :: l, x => by
    by_cases h : k = g
    · subst h
      rw [legsC_g, legsC_g]
      exact legsC_mul F S c k p l x
    · rw [legsC_k h, legsC_k h, List.map_cons, legsC_mul F S c g p l, eAt_mul, eAt_mul]
      rfl
theorem legsP_mul (F : List Fact) (S c : Int) (g : Nat) (p : Int) (k : Nat) (i : Int) : legsP F (S * c) g (p * c) k (i * c) = (legsP F S g p k i).map (scL c) := by
  unfold legsP
  by_cases h : k = g
  · rw [if_pos h, if_pos h]
    rfl
  · rw [if_neg h, if_neg h, List.map_cons, legsC_mul, eAt_mul]
    rfl
theorem total_mul {c : Int} (hc : 0 < c) : ∀ L : List Leg, total (L.map (scL c)) = total L * c
  | [] => by
    show (0 : Int) = 0 * c
    rw [Int.zero_mul]
  | (k, s, e) :: L => by
    show dst (s * c) (e * c) + total (L.map (scL c)) = (dst s e + total L) * c
    rw [dst_mul hc, total_mul hc L, Int.add_mul]
theorem hP_mul {c : Int} (hc : 0 < c) (F : List Fact) (S : Int) (g : Nat) (p : Int) (k : Nat) (i : Int) : hP F (S * c) g (p * c) k (i * c) = hP F S g p k i * c := by
  unfold hP
  rw [legsP_mul, total_mul hc]
theorem posL_mul {c : Int} (hc : 0 < c) : ∀ (L : List Leg) (t : Int), posL (L.map (scL c)) (t * c) = ((posL L t).1, (posL L t).2 * c)
  | [], t => by
    show ((0 : Nat), (0 : Int)) = (0, 0 * c)
    rw [Int.zero_mul]
  | (k, s, e) :: L, t => by
    show posL ((k, s * c, e * c) :: L.map (scL c)) (t * c) = _
    by_cases h : t ≤ dst s e
    · have h' : t * c ≤ dst (s * c) (e * c) := by
        rw [dst_mul hc]
        exact Int.mul_le_mul_of_nonneg_right h (by omega)
      rw [posL_le h, posL_le h']
      have q : (s * c < e * c) ↔ s < e := ⟨fun z => Int.lt_of_mul_lt_mul_right z (by omega), fun z => Int.mul_lt_mul_of_pos_right z hc⟩
      by_cases r : s < e
      · simp only [q.mpr r, r, if_true]
        rw [Int.add_mul]
      · simp only [fun z => r (q.mp z), r, if_false]
        have : ¬ s * c < e * c := fun z => r (q.mp z)
        rw [if_neg this, Int.sub_mul]
    · have h' : ¬ t * c ≤ dst (s * c) (e * c) := by
        rw [dst_mul hc]
        exact fun z => h (Int.le_of_mul_le_mul_right z hc)
      rw [posL_gt h, posL_gt h', dst_mul hc, ← Int.sub_mul, posL_mul hc L]
def scN (c : Int) : Nd → Nd
  | .cr x => .cr x
  | .mid k i => .mid k (i * c)
theorem node_mul {c : Int} (hc : 0 < c) (F : List Fact) (S : Int) (k : Nat) (i : Int) : node F (S * c) k (i * c) = scN c (node F S k i) := by
  unfold node
  rw [sz_mul]
  by_cases h : i = 0
  · rw [if_pos h, if_pos (by rw [h, Int.zero_mul])]
    rfl
  · have h' : ¬ i * c = 0 := fun z => (Int.mul_eq_zero.mp z).elim h (by omega)
    rw [if_neg h, if_neg h']
    by_cases q : i = sz F S k
    · rw [if_pos q, if_pos (by rw [q])]
      rfl
    · rw [if_neg q, if_neg (fun z => q (Int.eq_of_mul_eq_mul_right (by omega) z))]
      rfl
/-- the lowest-numbered road at a crossing -/
def fstR (F : List Fact) (c : Int) : Nat := F.findIdx fun r => decide (r.1 = c ∨ r.2.1 = c)
/-- the key of a place, as a road, a number and parts -/
def keyF (F : List Fact) (S : Int) : Nd → Fact
  | .cr c => ((fstR F c : Nat), eAt F 1 (fstR F c) c, 1)
  | .mid k i => low ((k : Nat), i, S)
theorem keyF_mul {c : Int} (hc : 0 < c) (F : List Fact) (S : Int) (v : Nd) : keyF F (S * c) (scN c v) = keyF F S v := by
  cases v with
  | cr x => rfl
  | mid k i => exact low_mul c hc
theorem keyF_node_mul {c : Int} (hc : 0 < c) (F : List Fact) (S : Int) (k : Nat) (i : Int) : keyF F (S * c) (node F (S * c) k (i * c)) = keyF F S (node F S k i) := by
  rw [node_mul hc, keyF_mul hc]
theorem fstR_spec {n : Int} {F : List Fact} (T : TreeM n F) {c : Int} (hc : In n c) (h2 : 2 ≤ n) : fstR F c < F.length ∧ ((rd F (fstR F c)).1 = c ∨ (rd F (fstR F c)).2.1 = c) ∧ ∀ j, j < fstR F c → ¬ ((rd F j).1 = c ∨ (rd F j).2.1 = c) := by
  have ex : ∃ r ∈ F, r.1 = c ∨ r.2.1 = c := by
    obtain ⟨d, hd, ne⟩ : ∃ d, In n d ∧ d ≠ c := by
      by_cases z : c = 0
      · exact ⟨1, ⟨by decide, by omega⟩, by omega⟩
      · exact ⟨0, ⟨by decide, by omega⟩, fun q => z q.symm⟩
    have q := T.con d c hd hc
    cases q with
    | refl => exact absurd rfl ne
    | step _ m j =>
      refine ⟨_, m, ?_⟩
      rcases j with ⟨_, b⟩ | ⟨b, _⟩
      · exact .inr b
      · exact .inl b
  obtain ⟨r, m, e⟩ := ex
  have lt : fstR F c < F.length := List.findIdx_lt_length_of_exists ⟨r, m, by simpa using e⟩
  refine ⟨lt, ?_, fun j hj q => ?_⟩
  · have z := List.findIdx_getElem (xs := F) (p := fun r : Fact => decide (r.1 = c ∨ r.2.1 = c)) (w := lt)
    have z2 := of_decide_eq_true z
    have e2 : rd F (fstR F c) = F[fstR F c] := rd_of (List.getElem?_eq_getElem lt)
    rw [e2]
    exact z2
  · have lj : j < F.length := Nat.lt_trans hj lt
    have z := List.not_of_lt_findIdx (xs := F) (p := fun r : Fact => decide (r.1 = c ∨ r.2.1 = c)) hj
    have e2 : rd F j = F[j] := rd_of (List.getElem?_eq_getElem lj)
    rw [e2] at q
    simp only [decide_eq_false_iff_not] at z
    exact z q
/-- a fraction in lowest terms -/
def Low (r : Fact) : Prop := 1 ≤ r.2.2 ∧ low r = r
theorem low_low {r : Fact} (h : 1 ≤ r.2.2) : Low (low r) := by
  have g0 := gcd_pos (a := r.2.1) h
  have dl := gcdI_left r.2.1 r.2.2
  have dr := gcdI_right r.2.1 r.2.2
  have p1 : 1 ≤ r.2.2 / gcdI r.2.1 r.2.2 := by
    have z := back_of dr
    have q : r.2.2 / gcdI r.2.1 r.2.2 ≠ 0 := fun q => by rw [q, Int.zero_mul] at z; omega
    have := Int.ediv_nonneg (a := r.2.2) (b := gcdI r.2.1 r.2.2) (by omega) (by omega)
    omega
  refine ⟨p1, ?_⟩
  have one : gcdI (r.2.1 / gcdI r.2.1 r.2.2) (r.2.2 / gcdI r.2.1 r.2.2) = 1 := by
    have e1 := back_of dl
    have e2 := back_of dr
    generalize hg : gcdI r.2.1 r.2.2 = g at *
    have z : gcdI (r.2.1 / g * g) (r.2.2 / g * g) = gcdI (r.2.1 / g) (r.2.2 / g) * g := by
      unfold gcdI
      rw [Int.natAbs_mul, Int.natAbs_mul, Nat.gcd_mul_right, Int.natCast_mul]
      congr 1
      omega
    rw [← e1, ← e2, hg] at z
    have : 1 * g = gcdI (r.2.1 / g) (r.2.2 / g) * g := by rw [← z, Int.one_mul]
    exact (Int.eq_of_mul_eq_mul_right (by omega) this).symm
  show (_, _ / gcdI _ _, _ / gcdI _ _) = _
  show (r.1, r.2.1 / gcdI r.2.1 r.2.2 / gcdI (r.2.1 / gcdI r.2.1 r.2.2) (r.2.2 / gcdI r.2.1 r.2.2), r.2.2 / gcdI r.2.1 r.2.2 / gcdI (r.2.1 / gcdI r.2.1 r.2.2) (r.2.2 / gcdI r.2.1 r.2.2)) = _
  rw [one, Int.ediv_one, Int.ediv_one]
  rfl
theorem low_back {r : Fact} (h : 1 ≤ r.2.2) : ∃ c, 0 < c ∧ r.2.1 = (low r).2.1 * c ∧ r.2.2 = (low r).2.2 * c := ⟨gcdI r.2.1 r.2.2, gcd_pos h, back_of (gcdI_left _ _), back_of (gcdI_right _ _)⟩
end OT
set_option linter.all false
namespace OT
def OnT (F : List Fact) (S : Int) (u : Nd) : Prop := ∃ k i, On F S k i ∧ u = node F S k i
theorem Adj.on {F : List Fact} {S : Int} {u v : Nd} (h : Adj F S u v) : OnT F S u ∧ OnT F S v := by
  obtain ⟨k, i, a, b, c, d⟩ := h
  have h1 : OnT F S (node F S k i) := ⟨k, i, ⟨a, b, by omega⟩, rfl⟩
  have h2 : OnT F S (node F S k (i + 1)) := ⟨k, i + 1, ⟨a, by omega, c⟩, rfl⟩
  rcases d with ⟨rfl, rfl⟩ | ⟨rfl, rfl⟩
  · exact ⟨h1, h2⟩
  · exact ⟨h2, h1⟩
/-- where one is t parts on the way -/
noncomputable def pth (F : List Fact) (S : Int) (g : Nat) (p : Int) (k : Nat) (i t : Int) : Nd := node F S (posL (legsP F S g p k i) t).1 (posL (legsP F S g p k i) t).2
section
variable {n : Int} {F : List Fact} {S : Int} {g : Nat} {p : Int} (T : TreeM n F) (hS : 1 ≤ S) (hg : On F S g p)
include T hS hg
theorem hN_nn {u : Nd} (h : OnT F S u) : 0 ≤ hN F S g p u := by
  obtain ⟨k, i, o, rfl⟩ := h
  rw [hN_node T hS hg o]
  exact total_nn _
theorem pth_ok {k : Nat} {i t : Int} (h : On F S k i) (t0 : 0 ≤ t) (t1 : t ≤ hP F S g p k i) : OnT F S (pth F S g p k i t) ∧ hN F S g p (pth F S g p k i t) = hP F S g p k i - t ∧ (t + 1 ≤ hP F S g p k i → Adj F S (pth F S g p k i t) (pth F S g p k i (t + 1))) := by
  obtain ⟨a, b, c⟩ := (legsP_ok T hS hg h).1 t t0 t1
  refine ⟨⟨_, _, a, rfl⟩, ?_, c⟩
  unfold pth
  rw [hN_node T hS hg a, b]
  rfl
theorem pth_0 {k : Nat} {i : Int} (h : On F S k i) : pth F S g p k i 0 = node F S k i := (legsP_ok T hS hg h).2
theorem low_ex {u : Nd} (h : OnT F S u) (z : hN F S g p u ≠ 0) : ∃ v, Adj F S u v ∧ hN F S g p v + 1 = hN F S g p u := by
  obtain ⟨k, i, o, rfl⟩ := h
  have h0 := hN_nn T hS hg ⟨k, i, o, rfl⟩
  have e := hN_node T hS hg o
  rw [e] at z h0 ⊢
  obtain ⟨_, _, c⟩ := pth_ok T hS hg o (t := 0) (Int.le_refl _) h0
  obtain ⟨_, d, _⟩ := pth_ok T hS hg o (t := 1) (by decide) (by omega)
  have a := c (by omega)
  rw [pth_0 T hS hg o] at a
  exact ⟨_, a, by rw [show (0 : Int) + 1 = 1 from rfl, d]; omega⟩
theorem zero_aim {u : Nd} (h : OnT F S u) (z : hN F S g p u = 0) : u = node F S g p := by
  obtain ⟨k, i, o, rfl⟩ := h
  rw [hN_node T hS hg o] at z
  exact hP_zero T hS hg o z
end
noncomputable def nodesL (F : List Fact) (S : Int) : List Nd := (List.range F.length).flatMap fun k => (List.range ((sz F S k).toNat + 1)).map fun i : Nat => node F S k (i : Int)
theorem mem_nodes {F : List Fact} {S : Int} {u : Nd} (h : OnT F S u) : u ∈ nodesL F S := by
  obtain ⟨k, i, ⟨a, b, c⟩, rfl⟩ := h
  refine List.mem_flatMap.mpr ⟨k, List.mem_range.mpr a, List.mem_map.mpr ⟨i.toNat, List.mem_range.mpr (by omega), ?_⟩⟩
  rw [Int.toNat_of_nonneg b]
theorem nodup_len {α : Type} [DecidableEq α] : ∀ {l m : List α}, l.Nodup → (∀ x ∈ l, x ∈ m) → l.length ≤ m.length
  | [], _, _, _ => Nat.zero_le _
  | x :: l, m, nd, h => by
    have nd2 := List.nodup_cons.mp nd
    have hx := h x List.mem_cons_self
    have ih := nodup_len (m := m.erase x) nd2.2 fun y hy => by
      have ne : y ≠ x := fun z => nd2.1 (z ▸ hy)
      exact (List.mem_erase_of_ne ne).mpr (h y (List.mem_cons_of_mem _ hy))
    rw [List.length_erase_of_mem hx] at ih
    have := List.length_pos_of_mem hx
    rw [List.length_cons]
    omega
end OT
set_option Elab.async false
set_option linter.all false
set_option maxRecDepth 100000
set_option maxHeartbeats 1000000
namespace OT
open PySem L2
section
variable {P : Program} {w : World} {K : PySem.W.Frag} {mg : Str → Option Value} {base : Heap}
theorem mod_in {x m : Int} (h : 0 < m) : 0 ≤ x % m ∧ x % m < m := ⟨Int.emod_nonneg _ (by omega), Int.emod_lt_of_pos _ h⟩
end
end OT
set_option Elab.async false
set_option linter.all false
set_option maxRecDepth 100000
set_option maxHeartbeats 1000000
namespace OTR
open PySem PySem.Spec PyProof.Rows L2
section
variable {X : Cx}
/-- xs != [] -/
def rNeNil (K : PySem.W.Frag) : R2 := fun x y H Q => ∃ a b xs, x = .ref a ∧ y = .ref b ∧ SqL K H a xs ∧ SqL K H b [] ∧ Q (.bl (!xs.isEmpty)) H
theorem op_neNil (hu : X.A.units < cLine) : OpR X (compareOp .NotEq) (rNeNil X.K) := by
  intro pins s σ H x y v u Q I rx ry h
  obtain ⟨a, b, xs, rfl, rfl, ha, hb, q⟩ := h
  obtain rfl : v = Value.ref a := rx
  obtain rfl : u = Value.ref b := ry
  obtain ⟨us, r1, p1, _⟩ := I.list ha
  obtain ⟨ws, r2, p2, _⟩ := I.list hb
  cases r2
  show wpAny (model X.prog X.w) X.A (richCompare .NotEq (.ref a) (.ref b)) _ _ _
  cases xs with
  | nil =>
    cases r1
    have z := SeqAt.RcNeAt.lists (A := X.A) (s := s) (e := fun _ => true) p1.isList p2.isList rfl hu (fun j h1 _ => absurd h1 (Nat.not_lt_zero j))
    exact z X.prog X.w _ _ ⟨.bl false, H, I, rfl, q⟩
  | cons y ys =>
    cases r1 with
    | cons r1 rr =>
      have z := SeqAt.RcNeAt.lists_lengths (A := X.A) (s := s) p1.isList p2.isList (by simp) hu
      exact z X.prog X.w _ _ ⟨.bl true, H, I, rfl, q⟩
end
section
variable {prog : Program} {w : World} {A : Around} {E : Value → Shared → Prop} {s : Shared}
theorem adjust_rev (n : Nat) : Builtin.Slice.sliceAdjust none none (-1) (n : Int) = ((n : Int) - 1, -1) := by
  unfold Builtin.Slice.sliceAdjust
  simp
theorem places_rev (n : Nat) : Builtin.Slice.slicePlaces ((n : Int) - 1) (-1) (-1) = n := by
  unfold Builtin.Slice.slicePlaces
  have h1 : ¬ ((-1 : Int) > 0) := by omega
  simp only [h1, if_false]
  split
  · have e : ((n : Int) - 1 - -1 - 1) / (- -1) + 1 = n := by
      rw [show (- -1 : Int) = 1 by decide, Int.ediv_one]
      omega
    rw [e]
    simp
  · have e : n = 0 := by omega
    subst e
    rfl
theorem sliceApplied_rev {sl : Addr} {vl vu vs : Value} {n : Nat} {Q : Int × Int × Nat → Shared → Prop} (hs : s.heap.IsSliceOf sl vl vu vs) (pl : IsPart vl none) (pu : IsPart vu none) (ps : IsPart vs (some (-1)))
    (h : Q ((n : Int) - 1, -1, n) s) : wpAny (model prog w) A (Builtin.Slice.sliceApplied (.ref sl) (pure (n : Int))) Q E s := by
  obtain ⟨os, hos, hcs, hds⟩ := id hs
  unfold Builtin.Slice.sliceApplied Builtin.Slice.sliceFields
  refine wpAny_bind (wpAny_bind (wpAny_field hos hds (x := vl) rfl (wpAny_bind (wpAny_field hos hds (x := vu) rfl (wpAny_bind (wpAny_field hos hds (x := vs) rfl (wpAny_pure ?_)))))))
  refine wpAny_bind (HT.slicePart_ ps ?_)
  show wpAny _ _ (if ((-1 : Int) == 0) = true then _ else _) _ _ s
  rw [if_neg (by decide)]
  refine wpAny_bind (HT.slicePart_ pl (wpAny_bind (HT.slicePart_ pu (wpAny_bind (wpAny_pure ?_)))))
  show wpAny _ _ (match Builtin.Slice.sliceAdjust none none (-1) (n : Int) with | (lo, hi) => pure (lo, (-1 : Int), Builtin.Slice.slicePlaces lo hi (-1))) _ _ s
  rw [adjust_rev n]
  show wpAny _ _ (pure ((n : Int) - 1, (-1 : Int), Builtin.Slice.slicePlaces ((n : Int) - 1) (-1) (-1))) _ _ s
  rw [places_rev]
  exact wpAny_pure h
theorem fm_congr {α β : Type} {f g : α → Option β} : ∀ {l : List α}, (∀ a ∈ l, f a = g a) → l.filterMap f = l.filterMap g
  | [], _ => rfl
  | a :: l, h => by
    have h1 := h a (List.mem_cons_self ..)
    have h2 := fm_congr (l := l) fun b hb => h b (List.mem_cons_of_mem _ hb)
    rw [List.filterMap_cons, List.filterMap_cons, h1, h2]
theorem pick_rev (xs : Array Value) : ((List.range xs.size).filterMap fun (m : Nat) => xs[((xs.size : Int) - 1 + (m : Int) * -1).toNat]?).toArray = xs.toList.reverse.toArray := by
  have e : (List.range xs.size).filterMap (fun (m : Nat) => xs[((xs.size : Int) - 1 + (m : Int) * -1).toNat]?) = ((List.range xs.size).map fun k => xs.size - 1 - k).filterMap (xs[·]?) := by
    rw [List.filterMap_map]
    apply fm_congr
    intro m hm
    have h := List.mem_range.mp hm
    have z : ((xs.size : Int) - 1 + (m : Int) * -1).toNat = xs.size - 1 - m := by omega
    rw [z]
    rfl
  rw [e, PySem.W.krv_range, List.filterMap_reverse, PySem.W.krv_all]
theorem getItem_tuple_rev {t sl : Addr} {items : Array Value} {vl vu vs : Value} {Q : Value → Shared → Prop} (ht : IsTup s.heap t items) (hs : s.heap.IsSliceOf sl vl vu vs) (pl : IsPart vl none) (pu : IsPart vu none) (ps : IsPart vs (some (-1)))
    (h : Q (.ref s.heap.objs.size) { s with heap := s.heap.push { cls := .type "tuple", data := .seq items.toList.reverse.toArray } })
    (hsz : items.size ≤ sizeLine) : wpAny (model prog w) A (getItem (.ref t) (.ref sl)) Q E s := by
  have htake : sizeOk (.seq items.toList.reverse.toArray) := by
    show items.toList.reverse.toArray.size ≤ sizeLine
    rw [List.size_toArray, List.length_reverse, Array.length_toList]
    exact hsz
  obtain ⟨os, hos, hcs, hds⟩ := id hs
  have hTs : s.TypeIs (.ref sl) "slice" := ⟨os, hos, hcs⟩
  unfold getItem
  try with_reducible refine wpAny_holding ?_
  first | refine wpAny_bind (wpAny_pure ?_) | skip
  refine wpAny_bind (wpAny_sequenceKey ht.typeIs (by decide) ?_)
  refine wpAny_bind (wpAny_callSpecial?_slot (name := Str.ofString "__getitem__") ht.typeIs PyProof.Rows.slot_tuple_getitem
    (wpAny_call_entry PyProof.Rows.slot_tuple_getitem ht.typeIs entry_tuple_getitem ?_ (args_tuple_getitem _ _)))
  show wpAny _ _ (Builtin.Tuple.tupleItemsOf (.ref t) >>= _) _ _ s
  refine wpAny_bind (tupleItemsOf_ ht ?_)
  refine wpAny_bind (wpAny_typeOf hTs ?_)
  rw [if_pos (by decide)]
  refine wpAny_bind (sliceApplied_rev hs pl pu ps ?_)
  have hno : ¬ ((((items.size : Int) - 1) == 0 && (-1 : Int) == 1 && items.size == items.size) = true) := by
    intro q
    rw [Bool.and_eq_true, Bool.and_eq_true] at q
    exact absurd (eq_of_beq q.1.2) (by decide)
  show wpAny _ _ (if (((items.size : Int) - 1) == 0 && (-1 : Int) == 1 && items.size == items.size) = true then _ else _) _ _ s
  rw [if_neg hno, pick_rev]
  first
    | exact wpAny_bind (m := Builtin.Tuple.tupleExact _) (wpAny_newObj_type (wpAny_pure ⟨_, rfl, wpAny_pure h⟩) htake)
    | exact wpAny_bind (m := Builtin.Tuple.tupleExact _) (wpAny_newObj_type (wpAny_bind (wpAny_pure (wpAny_pure ⟨_, rfl, wpAny_pure h⟩))) htake)
    | exact wpAny_bind (wpAny_bind (m := Builtin.Tuple.tupleExact _) (wpAny_newObj_type (wpAny_pure (wpAny_pure ⟨_, rfl, wpAny_pure h⟩)) htake))
    | exact wpAny_bind (wpAny_bind (m := Builtin.Tuple.tupleExact _) (wpAny_newObj_type (wpAny_pure ⟨_, rfl, wpAny_pure h⟩) htake))
end
section
variable {X : Cx}
def tRevT (K : PySem.W.Frag) (te : TE) : TE := fun σ H Q => te σ H fun x H1 => ∃ a xs, x = .ref a ∧ SqT K H1 a xs ∧ ∀ p, H1 p = none → Q (.ref p) (upd H1 p (.tup xs.reverse))
theorem pe_revT {e : Expr} {te : TE} {k : Nat} {p1 p2 p3 pos : Pos} (he : PE X e te) : PE X (.Subscript e (.Slice none none (some (.UnaryOp .USub (.Constant (.int 1) k p1) p2)) p3) pos) (tRevT X.K te) := by
  refine ⟨fun pins s σ H Q I h => ?_⟩
  refine Subscript_ (thn (he.run pins s σ H _ I h) fun v s1 ⟨x, H1, I1, r1, q1⟩ => ?_)
  obtain ⟨a, xs, ex, hx, q⟩ := q1
  subst ex
  cases r1
  have hst : PO X (some (.UnaryOp .USub (.Constant (.int 1) k p1) p2)) (tPart (tUn (rU fun i => .int (-i)) (tC (.int 1)))) := po_some (pe_un un_neg pe_int)
  refine wpAny_Slice (thn (po_none.run pins s1 σ H1 (fun o H2 => o = none ∧ H2 = H1) I1 ⟨rfl, rfl⟩) fun vl s2 ⟨l, H2, I2, pl, el, e2⟩ => ?_)
  subst el e2
  refine thn (po_none.run pins s2 σ H2 (fun o H3 => o = none ∧ H3 = H2) I2 ⟨rfl, rfl⟩) fun vu s3 ⟨u, H3, I3, pu, eu, e3⟩ => ?_
  subst eu e3
  refine thn (hst.run pins s3 σ H3 (fun o H4 => o = some (-1) ∧ H4 = H3) I3 ⟨1, rfl, -1, rfl, rfl, rfl⟩) fun vs s4 ⟨o, H4, I4, ps, eo, e4⟩ => ?_
  subst eo e4
  have I5 : Inv X pins σ H4 { s4 with heap := s4.heap.push { cls := .type "slice", data := .fields #[vl, vu, vs] } } := I4.kept (t' := s4.toks) fun b ob q => Heap.get?_push_of_some _ q
  obtain ⟨its, r, ht, hz⟩ := I5.tuple hx
  have hlen := r.length
  show wpAny (model X.prog X.w) X.A (subscriptTail e (.Slice none none (some (.UnaryOp .USub (.Constant (.int 1) k p1) p2)) p3) (.ref a) (.ref s4.heap.objs.size)) (EP X pins σ Q) X.xe { s4 with heap := s4.heap.push { cls := .type "slice", data := .fields #[vl, vu, vs] } }
  refine tail_any (ops := [.ref a, .ref s4.heap.objs.size]) ht.typeIs (PyProof.Rows.slot_tuple_getitem.lookup) ?_ (by with_unfolding_all rfl)
  refine getItem_tuple_rev ht (Heap.IsSliceOf.new _ vl vu vs) pl pu ps ?_ (by rw [List.size_toArray]; omega)
  refine ⟨.ref _, _, I5.laid (t' := s4.toks) (o := .tup xs.reverse) (fun b ob q => Heap.get?_push_of_some _ q) (Nat.le_refl _) ?_, rfl, q _ (I5.hok.fresh (Nat.le_refl _))⟩
  refine ⟨by rw [List.length_reverse]; exact hz, its.reverse, r.reverse, ?_⟩
  have e := Heap.get?_push_size (s4.heap.push { cls := .type "slice", data := .fields #[vl, vu, vs] }) (o := { cls := .type "tuple", data := .seq its.reverse.toArray }) rfl
  exact ⟨_, by simpa using e, rfl, _, rfl⟩
end
end OTR
set_option Elab.async false
set_option linter.all false
set_option maxRecDepth 100000
set_option maxHeartbeats 1000000
namespace OTR
open PySem PySem.Spec PyProof.Rows L2
theorem meets_enumerate_new1 {v : Value} {ob : Obj} {H : Heap → Prop} (B : Begins v ob H) :
    Meets (Builtin.«enumerate.__new__» ⟨[.type "enumerate", v], []⟩) (fun _ R s => H s.heap ∧
      R (.ok (.ret (.ref (s.heap.push ob).objs.size))) { s with heap := (s.heap.push ob).push { cls := .type "enumerate", data := .fields #[.none, .bool false, .ref s.heap.objs.size, rawInt 0, .none, .none] } }) :=
  .of_wp fun prg w A R s h => by
    obtain ⟨hp, g, d, tk, os⟩ := s; obtain ⟨t1, h⟩ := h
    have hsub := sub_enumerate
    have qv : ∀ {A' : Around} {Er : Value → Shared → Prop} {Q : Value → Shared → Prop}, Q (.ref hp.objs.size) ⟨hp.push ob, g, d, tk, os⟩ → wpAny (model prg w) A' (pyIter v) Q Er ⟨hp, g, d, tk, os⟩ :=
      fun q => B.iter prg w _ _ ⟨hp, g, d, tk, os⟩ _ t1 q
    wp_walk using qv
    refine wpAny_stack_any fun _ => wpAny_pure ?_
    split
    · rename_i c _ _ _ _ _
      cases (c == Value.type "enumerate")
      · wp_walk using qv
        exact ⟨_, rfl, h⟩
      · wp_walk using qv
        exact ⟨_, rfl, h⟩
    · wp_walk using qv
      exact ⟨_, rfl, h⟩
section
variable {prg : Program} {w : World} {A : Around} {Er : Value → Shared → Prop} {s : Shared}
theorem enum_begins1 {v : Value} {ob : Obj} {H : Heap → Prop} {Q : Value → Shared → Prop} (B : Begins v ob H) (t1 : H s.heap)
    (h : ∀ g1, IsEnum g1 (s.heap.objs.size + 1) s.heap.objs.size 0 .none → g1.get? s.heap.objs.size = some ob → g1.objs.size = s.heap.objs.size + 2 →
      (∀ bb ob, s.heap.get? bb = some ob → g1.get? bb = some ob) → Q (.ref (s.heap.objs.size + 1)) { s with heap := g1 }) :
    wpAny (model prg w) A (call (.type "enumerate") [v]) Q Er s := by
  refine callType_new F.called_enumerate (by decide) (F.typeCall_enumerate_1 _) (F.newCall_enumerate_1 _) (fun x => F.args_object_init_2 x _) F.entry_enumerate_new
    (meets_enumerate_new1 B) ⟨t1, ?_⟩
  have sm : (s.heap.push ob).objs.size = s.heap.objs.size + 1 := Heap.size_push ..
  show _ ∧ _
  rw [sm]
  have en : IsEnum ((s.heap.push ob).push { cls := .type "enumerate", data := .fields #[.none, .bool false, .ref s.heap.objs.size, rawInt 0, .none, .none] }) (s.heap.objs.size + 1) s.heap.objs.size 0 .none := by
    have := Heap.get?_push_size (s.heap.push ob) (o := { cls := .type "enumerate", data := .fields #[.none, .bool false, .ref s.heap.objs.size, rawInt 0, .none, .none] }) rfl
    rw [sm] at this; exact this
  refine ⟨⟨_, en, rfl⟩, h _ en (Heap.get?_push_of_some _ (Heap.get?_push_size _ B.free)) (by rw [Heap.size_push, sm]) fun bb ob x => Heap.get?_push_of_some _ (Heap.get?_push_of_some _ x)⟩
end
def IteT (K : PySem.W.Frag) (a : Addr) : It :=
  ⟨fun i H => ∃ (xs : List V) (x : V), SqT K H a xs ∧ xs[i]? = some x, fun i H v H' => ∃ T x, v = .ref T ∧ H T = none ∧ H' = upd H T (.tup [.int (i : Nat), x]) ∧ ∀ xs, SqT K H a xs → xs[i]? = some x, fun i H => ∃ xs : List V, SqT K H a xs ∧ i = xs.length⟩
theorem turn_enumT {P : Program} {w : World} {K : PySem.W.Frag} {elts : List Expr} {kk : Nat} {tpos : Pos} (a e it : Addr) :
    Turn P w K (.Tuple elts kk tpos) (IteT K a) [e, it] e (fun i h => (∃ prv, IsEnum h e it ((i : Nat) : Int) prv) ∧ h.IsTupleIter it a i ∧ e ≠ it ∧ e ≠ a ∧ a ≠ it) where
  mem := by simp
  obj := fun i h st bb mb => by
    obtain ⟨⟨prv, en⟩, ⟨ob, hob, cal, hd⟩, _⟩ := st
    have alt : bb = e ∨ bb = it := by simpa using mb
    rcases alt with z | z
    · rw [z]; exact ⟨_, en, fun v q => nomatch q⟩
    · rw [z]; exact ⟨ob, hob, fun v q => by rw [hd] at q; cases q⟩
  keep := fun i h g1 st k => let ⟨⟨prv, en⟩, hi, n1⟩ := st; ⟨⟨prv, k e (by simp) _ en⟩, hi.at fun ob q => k it (by simp) ob q, n1⟩
  item := by
    intro X aP aw aK cal i pn s st1 H Er I off st hg
    subst aP aw aK
    obtain ⟨⟨prv, en⟩, ti, n1, n2, n3⟩ := st
    obtain ⟨xs, x, sq, hx⟩ := hg
    obtain ⟨ws, rel, p, sm⟩ := I.tuple sq
    obtain ⟨u, gu, relu⟩ := rel.get hx
    have lte : e < s.heap.objs.size := Heap.lt_size en
    have lti : it < s.heap.objs.size := by obtain ⟨_, q, _⟩ := ti; exact Heap.lt_size q
    have lti2 : i < ws.length := (List.getElem?_eq_some_iff.mp gu).1
    have D := Draws.tuple (prog := X.prog) (w := X.w) (A := X.A.in1) (I.ok.hd cal) it a n3 ws.toArray
    refine wpAny_pyNext_enum_itemD D en ⟨ti, p⟩ (by simpa using lti2) n1 (by simp [n1, n2]) fun y g1 tk hyy hob hst' hT szz kp => ?_
    obtain ⟨hit', _⟩ := hst'
    have ey : y = u := by
      have z : ws[i]? = some y := by simpa using hyy
      rw [gu] at z
      exact (Option.some.inj z).symm
    subst ey
    refine ⟨_, rfl, wpAny_letOwnedTupleGo_enum (s := { s with heap := g1, toks := tk + 1 }) hob fun g2 he' sb => ?_⟩
    have hT2 : g2.get? s.heap.objs.size = some { cls := .type "tuple", data := .seq #[.int i tk, y] } := (sb.2 _ (Nat.ne_of_gt lte)).trans hT
    have new : ObjOk X.prog X.w (upd H s.heap.objs.size (.tup [.int (i : Nat), x])) g2 s.heap.objs.size (.tup [.int (i : Nat), x]) :=
      ⟨by show 2 ≤ sizeLine; decide, [.int i tk, y], .cons ⟨_, rfl⟩ (.cons relu .nil), ⟨_, hT2, rfl, _, rfl⟩⟩
    have In1 : Inv X pn st1 (upd H s.heap.objs.size (.tup [.int (i : Nat), x])) { s with heap := g2, toks := tk + 1 } :=
      I.turnedNew (ch := [e, it]) (fun bb ob mb q => (sb.2 bb (fun z => mb (by simp [z]))).trans (kp bb ob (fun z => mb (by simp [z])) (fun z => mb (by simp [z])) q)) off (Nat.le_refl _) new
    refine ⟨.ref s.heap.objs.size, _, In1, rfl, ⟨_, x, rfl, I.hok.fresh (Nat.le_refl _), rfl, fun ys hyy => by rw [I.tuple_inj hyy sq]; exact hx⟩, ⟨⟨y, ?_⟩, hit'.at fun ob q => (sb.2 it (Ne.symm n1)).trans q, n1, n2, n3⟩, fun bb mb => ?_⟩
    · have nxt1 : ((i + 1 : Nat) : Int) = (i : Int) + 1 := by omega
      rw [nxt1]; exact he'
    · have mb2 : bb < s.heap.objs.size := by
        have alt : bb = e ∨ bb = it := by simpa using mb
        rcases alt with z | z
        · rw [z]; exact lte
        · rw [z]; exact lti
      rw [upd_ne (Nat.ne_of_lt mb2)]
      exact (off bb mb).1
  done := by
    intro X aP aw aK cal i pn s st1 H Er I off st hg
    subst aP aw aK
    obtain ⟨⟨prv, en⟩, ti, n1, n2, n3⟩ := st
    obtain ⟨xs, sq, hx⟩ := hg
    obtain ⟨ws, rel, p, sm⟩ := I.tuple sq
    obtain ⟨f0, f1, f2, f3, f4, f5⟩ := off it (by simp)
    have len1 := rel.length
    have eqi : i = ws.toArray.size := by simp; omega
    have D := Draws.tuple (prog := X.prog) (w := X.w) (A := X.A.in1) (I.ok.hd cal) it a n3 ws.toArray
    have stands : s.heap.IsTupleIter it a ws.toArray.size ∧ s.heap.IsTuple a ws.toArray := ⟨eqi ▸ ti, p⟩
    exact wpAny_pyNext_enum_endD D en stands fun g1 keepb => ⟨rfl, I.turned (t' := s.toks) (fun bb ob mb q => keepb bb ob mb q) f0 f1 f3 f4 f5⟩
  self := fun A i s Q Er st h => let ⟨⟨_, en⟩, _⟩ := st; wpAny_pyIter_enum en h
def iEnumT (K : PySem.W.Frag) (ta : TA) : TI := fun st1 H R => ta st1 H fun vs Hq => ∃ a xs, vs = [.ref a] ∧ SqT K Hq a xs ∧ R (IteT K a) Hq
theorem pi_enumT {X : Cx} {e : Expr} {ta : TA} {p pos tpos : Pos} {elts : List Expr} {kk : Nat} (hg : Gl X "enumerate") (hm : X.mg "enumerate" = none) (ha : PA X [e] ta) (hs : starEach [e] X.env = [(false, eval e X.env)] := by rfl) :
    PI X (.Tuple elts kk tpos) (.Call (.Name "enumerate" p) [e] [] pos) (iEnumT X.K ta) := by
  refine ⟨fun pn s st1 H R I h => ?_⟩
  refine Call_ (ld_blt I hg hm boot_enumerate (PyProof.Rows.callWith_type1 (thn (ha.run pos pn s st1 H _ I h) fun uu sq1 ⟨vs, Hq, In1, rq, qv⟩ => ?_) hs rfl))
  obtain ⟨a, xs, ex, sq, q⟩ := qv
  subst ex
  cases rq with
  | cons r rr =>
    cases rr
    cases r
    obtain ⟨ws, rel, p', sm⟩ := In1.tuple sq
    have lta : a < sq1.heap.objs.size := p'.lt
    refine enum_begins1 (begins_tuple a ws.toArray) p' fun g1 en ti szz kp => wpAny_pyIter_enum en ?_
    have In2 : Inv X pn st1 Hq { sq1 with heap := g1 } := In1.kept (t' := sq1.toks) kp
    refine ⟨sq1.heap.objs.size + 1, [sq1.heap.objs.size + 1, sq1.heap.objs.size], _, _, Hq, rfl, In2, turn_enumT a (sq1.heap.objs.size + 1) sq1.heap.objs.size, ⟨⟨.none, en⟩, ⟨_, ti, rfl, rfl⟩, Nat.succ_ne_self _, Nat.ne_of_gt (Nat.lt_succ_of_lt lta), Nat.ne_of_lt lta⟩, fun bb mb => ?_, q⟩
    have alt : bb = sq1.heap.objs.size + 1 ∨ bb = sq1.heap.objs.size := by simpa using mb
    have low : sq1.heap.objs.size ≤ bb := by
      rcases alt with z | z
      · rw [z]; exact Nat.le_add_right _ _
      · rw [z]; exact Nat.le_refl _
    exact In1.fpOk low (In1.hok.fresh low)
theorem walk_enumT {K : PySem.W.Frag} {a : Addr} {xs : List V} : Walk (IteT K a) xs.length (fun H => SqT K H a xs) (YPair (fun i => some (.int (i : Nat))) (fun i => xs[i]?)) := by
  refine ⟨fun i _ hi q => ⟨xs, xs[i], q, by simp [hi]⟩, fun _ q => ⟨xs, q, rfl⟩, fun i H v H' _ q y => ?_⟩
  obtain ⟨T, x, t1, t2, t3, t4⟩ := y
  exact ⟨T, .int (i : Nat), x, t1, t2, t3, rfl, t4 xs q⟩
end OTR
set_option Elab.async false
set_option linter.all false
set_option maxRecDepth 100000
set_option maxHeartbeats 1000000
namespace OTR
open PySem PySem.Spec PyProof.Rows L2
/-- of an error of the class at C, with these fields: whatever ws dict's place -/
def Raised (C : Addr) (fs : List (Str × V)) (H : Hp) (E : XK) : Prop := ∀ (d : Addr) (H' : Hp), (∀ b o, H b = some o → H' b = some o) → H d = none → H' d = some (.xd fs) → E (.ref C) (some d) H'
theorem Raised.mono {C : Addr} {fs : List (Str × V)} {H H1 : Hp} {E : XK} (h : Raised C fs H E) (s : ∀ b o, H b = some o → H1 b = some o) : Raised C fs H1 E := fun d H' s' n e => h d H' (fun b o z => s' b o (s b o z)) (by
  cases q : H d with
  | none => rfl
  | some o =>
    rw [s d o q] at n
    cases n) e
/-- an error class with an __init__ of ws own -/
structure ErT (K : PySem.W.Frag) (mg : Str → Option Value) (nm : Str) (C fI : Addr) : Prop where
  gC : mg nm = some (.ref C)
  ox : OexC K C
  xf : XfC K C
  ex : ExcC K C
  iC : PySem.W.findIn K (.ref C) "__init__" = some (some (.ref fI))
  tI : PySem.W.typeIn K (.ref fI) = some (.type "function")
/-- __init__(self, f): self.f = f -/
def spEr1 (C : Addr) (f : Str) : Sp := fun vs H Qr _ => ∃ (a : Addr) (v : V), vs = [.ref a, v] ∧ H a = some (exo a C none) ∧ ∀ dx, H dx = none → dx ≠ a → Qr .non (upd (upd H dx (exd dx [(f, v)])) a (exo a C (some dx)))
/-- __init__(self, f, g): self.f = f; self.g = g -/
def spEr2 (C : Addr) (f g : Str) : Sp := fun vs H Qr _ => ∃ (a : Addr) (v y : V), vs = [.ref a, v, y] ∧ H a = some (exo a C none) ∧ ∀ dx, H dx = none → dx ≠ a → Qr .non (upd (upd (upd H dx (exd dx [(f, v)])) a (exo a C (some dx))) dx (exd dx [(g, y), (f, v)]))
def kEr (C : Addr) (a : Addr) (H : Hp) (Qr : XK) : VK := fun v H2 => v = .non ∧ ∃ (d : Addr) (fs : List (Str × V)), H2 a = some (exo a C (some d)) ∧ H2 d = some (exd d fs) ∧ H d = none ∧ Qr (.ref C) (some d) (upd (del H2 a) d (.xd fs))
theorem er1 {C a : Addr} {f : Str} {v : V} {H : Hp} {E : XK} (h : H a = none) (k : Raised C [(f, v)] H E) : spEr1 C f [.ref a, v] (upd H a (exo a C none)) (kEr C a H E) (fun _ _ _ => False) := by
  refine ⟨a, v, rfl, upd_same, fun dx n ne => ⟨rfl, dx, [(f, v)], upd_same, by rw [upd_ne ne]; exact upd_same, by rw [upd_ne ne] at n; exact n, ?_⟩⟩
  rw [upd_ne ne] at n
  refine k dx _ (fun b o e => ?_) n upd_same
  have t1 : b ≠ dx := ne_of_none e n
  have t2 : b ≠ a := ne_of_none e h
  rw [upd_ne t1, del_ne t2, upd_ne t2, upd_ne t1, upd_ne t2]
  exact e
theorem er2 {C a : Addr} {f g : Str} {v y : V} {H : Hp} {E : XK} (h : H a = none) (k : Raised C [(g, y), (f, v)] H E) : spEr2 C f g [.ref a, v, y] (upd H a (exo a C none)) (kEr C a H E) (fun _ _ _ => False) := by
  refine ⟨a, v, y, rfl, upd_same, fun dx n ne => ⟨rfl, dx, [(g, y), (f, v)], by rw [upd_ne (Ne.symm ne)]; exact upd_same, upd_same, by rw [upd_ne ne] at n; exact n, ?_⟩⟩
  rw [upd_ne ne] at n
  refine k dx _ (fun b o e => ?_) n upd_same
  have t1 : b ≠ dx := ne_of_none e n
  have t2 : b ≠ a := ne_of_none e h
  rw [upd_ne t1, del_ne t2, upd_ne t1, upd_ne t2, upd_ne t1, upd_ne t2]
  exact e
section
variable {P : Program} {w : World} {K : PySem.W.Frag} {mg : Str → Option Value} {bas : Heap}
theorem lk0 {f : Str} {v : V} {r : List (Str × V)} : ((f, v) :: r).lookup f = some v := by rw [lookup_put, if_pos rfl]
theorem lk1 {f g : Str} {v : V} {r : List (Str × V)} (h : f ≠ g) : ((g, v) :: r).lookup f = r.lookup f := by rw [lookup_put, if_neg h]
end
end OTR
set_option Elab.async false
set_option linter.all false
set_option maxRecDepth 100000
set_option maxHeartbeats 1000000
namespace OT
open PySem L2 OTR
abbrev sBad : Stmt := inClass (top 4) 0
abbrev sNoC : Stmt := inClass (top 5) 0
abbrev sRing : Stmt := inClass (top 6) 0
abbrev sRoadI : Stmt := inClass (top 17) 0
abbrev sTreeI : Stmt := inClass (top 18) 0
abbrev sTrails : Stmt := top 19
abbrev sCheck : Stmt := top 20
abbrev sJoin : Stmt := top 21
theorem len1 {v : V} : [v].length ≤ 1000 := by show 1 ≤ 1000; decide
theorem len2 {v y : V} : [v, y].length ≤ 1000 := by show 2 ≤ 1000; decide
/-- what the walk asks of Road -/
structure RdT (K : PySem.W.Frag) (mg : Str → Option Value) (C : Addr) : Prop where
  cl : Cls K C
  nA : NoAttr K C "a"
  nB : NoAttr K C "b"
  nL : NoAttr K C "length"
  mgC : mg "Road" = some (.ref C)
def rdF (r : Fact) : List (Str × V) := [("a", .int r.1), ("b", .int r.2.1), ("length", .int r.2.2)]
theorem rdF_a (r : Fact) : (rdF r).lookup ("a" : Str) = some (.int r.1) := lk0
theorem rdF_b (r : Fact) : (rdF r).lookup ("b" : Str) = some (.int r.2.1) := by
  unfold rdF
  rw [lk1 (by decide +kernel)]
  exact lk0
theorem rdF_l (r : Fact) : (rdF r).lookup ("length" : Str) = some (.int r.2.2) := by
  unfold rdF
  rw [lk1 (by decide +kernel), lk1 (by decide +kernel)]
  exact lk0
theorem rdF_put (r : Fact) : putF "length" (.int r.2.2) (putF "b" (.int r.2.1) (putF "a" (.int r.1) [])) = rdF r := by
  have h1 : ¬ (("a" : Str) = "b") := by decide +kernel
  have h2 : ¬ (("a" : Str) = "length") := by decide +kernel
  have h3 : ¬ (("b" : Str) = "length") := by decide +kernel
  show putF "length" (.int r.2.2) (if ("a" : Str) = "b" then [(("a" : Str), V.int r.2.1)] else (("a" : Str), V.int r.1) :: putF "b" (.int r.2.1) []) = rdF r
  rw [if_neg h1]
  show (if ("a" : Str) = "length" then _ else (("a" : Str), V.int r.1) :: (if ("b" : Str) = "length" then _ else (("b" : Str), V.int r.2.1) :: putF "length" (.int r.2.2) [])) = rdF r
  rw [if_neg h2, if_neg h3]
  rfl
/-- a road at p -/
def RoadAt (CR : Addr) (H : Hp) (p : Addr) (r : Fact) : Prop := ∃ dx, H p = some (.ins CR dx (rdF r))
theorem RoadAt.same {CR : Addr} {H H' : Hp} {p : Addr} {r : Fact} (h : RoadAt CR H p r) (s : Same H H') : RoadAt CR H' p r := let ⟨dx, e⟩ := h; ⟨dx, s _ _ e⟩
/-- Road(a, b, length): its __init__ -/
def spRoadI (C : Addr) : Sp := fun vs H Q _ => ∃ (p dx : Addr) (r : Fact), vs = [.ref p, .int r.1, .int r.2.1, .int r.2.2] ∧ H p = some (.ins C dx []) ∧ ∀ H', RoadAt C H' p r → (∀ b o, H b = some o → b ≠ p → H' b = some o) → Q .non H'
/-- check_road -/
def LenOk (s : Int) : Prop := 1 ≤ s ∧ s ≤ 1000000000
def spCheck (CR CB CN : Addr) : Sp := fun vs H Q E => ∃ (n : Int) (p : Addr) (r : Fact), vs = [.int n, .ref p] ∧ RoadAt CR H p r ∧
  (¬ In n r.1 → Raised CN [("crossing", .int r.1)] H E) ∧ (In n r.1 → ¬ In n r.2.1 → Raised CN [("crossing", .int r.2.1)] H E) ∧
  (In n r.1 → In n r.2.1 → ¬ LenOk r.2.2 → Raised CB [("count", .int r.2.2), ("what", .str "length")] H E) ∧
  (In n r.1 → In n r.2.1 → LenOk r.2.2 → ∀ H', Same H H' → Q .non H')
section
variable {P : Program} {w : World} {K : PySem.W.Frag} {mg : Str → Option Value} {base : Heap}
theorem scBad : FnScope ["self", "what", "count"] ["self", "what", "count"] (defScope sBad) := ⟨rfl, rfl, rfl, by decide +kernel, rfl, by decide +kernel, by decide +kernel⟩
theorem ok_bad {f C : Addr} {fd : FuncData} (F : Fun K "__init__" "BadCount.__init__" sBad f fd) (T : OexC K C) (n1 : PySem.W.findIn K (.ref C) "what" = some none) (n2 : PySem.W.findIn K (.ref C) "count" = some none) : FnOk P w K mg base CX0 1 f fd ["self", "what", "count"] (spEr2 C "what" "count") := by
  refine F.ok scBad (fun vs H Q E h => ?_) (fun cdv A outer s H vs Q E hr h => ?_)
  · obtain ⟨a, v, y, rfl, _⟩ := h
    rfl
  · obtain ⟨a, v, y, rfl, ha, k⟩ := h
    refine ⟨_, pss_cons (ps_ost (pv 0) (pv 1)) (pss_one (ps_ost (pv 0) (pv 2))), ?_⟩
    refine ⟨_, rfl, _, rfl, a, C, rfl, T, n1, .inl ⟨ha, fun dx n ne => ?_⟩⟩
    refine ⟨_, rfl, _, rfl, a, C, rfl, T, n2, .inr ⟨dx, _, upd_same, by rw [upd_ne ne]; exact upd_same, (by show 1 ≤ 900; decide), ?_⟩⟩
    exact k dx n ne
theorem scNoC : FnScope ["self", "crossing"] ["self", "crossing"] (defScope sNoC) := ⟨rfl, rfl, rfl, by decide +kernel, rfl, by decide +kernel, by decide +kernel⟩
theorem ok_noc {f C : Addr} {fd : FuncData} (F : Fun K "__init__" "NoCrossing.__init__" sNoC f fd) (T : OexC K C) (n1 : PySem.W.findIn K (.ref C) "crossing" = some none) : FnOk P w K mg base CX0 1 f fd ["self", "crossing"] (spEr1 C "crossing") := by
  refine F.ok scNoC (fun vs H Q E h => ?_) (fun cdv A outer s H vs Q E hr h => ?_)
  · obtain ⟨a, v, rfl, _⟩ := h
    rfl
  · obtain ⟨a, v, rfl, ha, k⟩ := h
    refine ⟨_, pss_one (ps_ost (pv 0) (pv 1)), ?_⟩
    exact ⟨_, rfl, _, rfl, a, C, rfl, T, n1, .inl ⟨ha, fun dx n ne => k dx n ne⟩⟩
theorem scRing : FnScope ["self", "road"] ["self", "road"] (defScope sRing) := ⟨rfl, rfl, rfl, by decide +kernel, rfl, by decide +kernel, by decide +kernel⟩
theorem ok_ringI {f C : Addr} {fd : FuncData} (F : Fun K "__init__" "RingRoad.__init__" sRing f fd) (T : OexC K C) (n1 : PySem.W.findIn K (.ref C) "road" = some none) : FnOk P w K mg base CX0 1 f fd ["self", "road"] (spEr1 C "road") := by
  refine F.ok scRing (fun vs H Q E h => ?_) (fun cdv A outer s H vs Q E hr h => ?_)
  · obtain ⟨a, v, rfl, _⟩ := h
    rfl
  · obtain ⟨a, v, rfl, ha, k⟩ := h
    refine ⟨_, pss_one (ps_ost (pv 0) (pv 1)), ?_⟩
    exact ⟨_, rfl, _, rfl, a, C, rfl, T, n1, .inl ⟨ha, fun dx n ne => k dx n ne⟩⟩
theorem scRoadI : FnScope ["self", "a", "b", "length"] ["self", "a", "b", "length"] (defScope sRoadI) := ⟨rfl, rfl, rfl, by decide +kernel, rfl, by decide +kernel, by decide +kernel⟩
theorem ok_roadI {f C : Addr} {fd : FuncData} (F : Fun K "__init__" "Road.__init__" sRoadI f fd) (T : RdT K mg C) : FnOk P w K mg base CX0 1 f fd ["self", "a", "b", "length"] (spRoadI C) := by
  refine F.ok scRoadI (fun vs H Q E h => ?_) (fun cdv A outer s H vs Q E hr h => ?_)
  · obtain ⟨p, dx, r, rfl, _⟩ := h
    rfl
  · obtain ⟨p, dx, r, rfl, hp, k⟩ := h
    refine ⟨_, pss_cons (ps_fld (pv 0) (pv 1) rfl) (pss_cons (ps_fld (pv 0) (pv 2) rfl) (pss_one (ps_fld (pv 0) (pv 3) rfl))), ?_⟩
    refine ⟨_, rfl, _, rfl, p, C, dx, [], rfl, hp, T.cl, T.nA, (by show 0 < 1000; decide), ?_⟩
    refine ⟨_, rfl, _, rfl, p, C, dx, _, rfl, upd_same, T.cl, T.nB, (by show 1 < 1000; decide), ?_⟩
    refine ⟨_, rfl, _, rfl, p, C, dx, putF "b" (.int r.2.1) (putF "a" (.int r.1) []), rfl, upd_same, T.cl, T.nL, ?_, ?_⟩
    · have h1 : ¬ (("a" : Str) = "b") := by decide +kernel
      show (if ("a" : Str) = "b" then [(("a" : Str), V.int r.2.1)] else (("a" : Str), V.int r.1) :: putF "b" (.int r.2.1) []).length < 1000
      rw [if_neg h1]
      show 2 < 1000
      decide
    · refine k _ ⟨dx, ?_⟩ fun b o e n => ?_
      · rw [rdF_put]
        exact upd_same
      · rw [upd_ne n, upd_ne n, upd_ne n]
        exact e
theorem scCheck : FnScope ["crossings", "road", "crossing"] ["crossings", "road"] (defScope sCheck) := ⟨rfl, rfl, rfl, by decide +kernel, rfl, by decide +kernel, by decide +kernel⟩
theorem ok_check {f CR CB CN fB fN : Addr} {fd fdB fdN : FuncData} (F : Fun K "check_road" "check_road" sCheck f fd) (TR : RdT K mg CR) (TB : ErT K mg "BadCount" CB fB) (TN : ErT K mg "NoCrossing" CN fN)
    (FB : FnOk P w K mg base CX0 1 fB fdB ["self", "what", "count"] (spEr2 CB "what" "count")) (bB : Binds K fdB ["self", "what", "count"] [])
    (FN : FnOk P w K mg base CX0 1 fN fdN ["self", "crossing"] (spEr1 CN "crossing")) (bN : Binds K fdN ["self", "crossing"] []) (hL : ∃ t, mg "LONGEST_ROAD" = some (.int 1000000000 t)) :
    FnOk P w K mg base (L2.CX P w) 3 f fd ["crossings", "road"] (spCheck CR CB CN) := by
  refine F.okX scCheck (fun vs H Q E h => ?_) (fun cdv A outer s H vs Q E hr h => ?_)
  · obtain ⟨n, p, r, rfl, _⟩ := h
    rfl
  · obtain ⟨n, p, r, rfl, hR, k1, k2, k3, k4⟩ := h
    obtain ⟨tL, hL⟩ := hL
    refine ⟨_, pss_cons (ps_for (passes_of rfl) rfl (pi_tup (pe_tup (pa_cons (pe_fld (pv 1) rfl) (pa_cons (pe_fld (pv 1) rfl) pa_nil)))) (pg_name (i := 2) scCheck.nd rfl (Or.inl rfl))
        (pss_one (ps_if (pt_not (pt_chain op_le op_lt pe_int (pv 2) (pv 0))) (pss_one (ps_raise rfl (takes_of rfl rfl rfl rfl) (pmk_oex TN.ox TN.iC TN.tI FN hr bN .nil pass0 (by rfl) TN.gC (pa_cons (pv 2) pa_nil)))) pss_nil)))
      (pss_one (ps_if (pt_not (pt_chain op_le op_le pe_int (pe_fld (pv 1) rfl) (pe_glob (v := V.int 1000000000) rfl hL ⟨tL, rfl⟩)))
        (pss_one (ps_raise rfl (takes_of rfl rfl rfl rfl) (pmk_oex TB.ox TB.iC TB.tI FB hr bB .nil pass0 (by rfl) TB.gC (pa_cons pe_str (pa_cons (pe_fld (pv 1) rfl) pa_nil))))) pss_nil)), ?_⟩
    obtain ⟨dx, hp⟩ := id hR
    refine ⟨_, rfl, p, CR, dx, _, _, rfl, hp, TR.cl, TR.nA, rdF_a r, _, rfl, p, CR, dx, _, _, rfl, hp, TR.cl, TR.nB, rdF_b r, (by show 2 ≤ sizeLine; decide), fun t ht => ?_⟩
    refine ⟨t, rfl, ⟨_, SqT.of upd_same⟩, for_tup (K := K) (a := t) (xs := [V.int r.1, V.int r.2.1]) (fun i σ H2 => ∃ v : Option V, σ = [some (.int n), some (.ref p), v] ∧ Same (upd H t (.tup [V.int r.1, V.int r.2.1])) H2 ∧ (1 ≤ i → In n r.1) ∧ (2 ≤ i → In n r.2.1))
      ⟨none, rfl, Same.refl _, fun z => absurd z (by decide), fun z => absurd z (by decide)⟩ (fun i σ H2 _ ⟨_, _, s2, _⟩ => SqT.of (s2 _ _ upd_same)) ?_ ?_⟩
    · rintro i y σ H2 hi ⟨v, rfl, s2, i1, i2⟩
      have s1 : Same H H2 := (Same.new ht).trans s2
      have hil : i < 2 := (List.getElem?_eq_some_iff.mp hi).1
      have hc : i = 0 ∨ i = 1 := by omega
      rcases hc with rfl | rfl
      · cases hi
        refine ⟨_, rfl, _, _, rfl, rfl, _, rfl, ?_⟩
        by_cases h0 : 0 ≤ r.1
        · rw [decide_eq_true h0]
          refine iteT ⟨_, rfl, _, _, rfl, rfl, _, rfl, ?_⟩
          by_cases h1 : r.1 < n
          · rw [decide_eq_true h1]
            exact iteF ⟨_, rfl, s2, fun _ => ⟨h0, h1⟩, fun z => absurd z (by decide)⟩
          · rw [decide_eq_false h1]
            refine iteT ⟨_, rfl, len1, fun a ha => er1 ha ((k1 fun z => h1 z.2).mono s1)⟩
        · rw [decide_eq_false h0]
          refine iteF ⟨_, rfl, ?_⟩
          exact iteT ⟨_, rfl, len1, fun a ha => er1 ha ((k1 fun z => h0 z.1).mono s1)⟩
      · cases hi
        have in1 := i1 (Nat.le_refl _)
        refine ⟨_, rfl, _, _, rfl, rfl, _, rfl, ?_⟩
        by_cases h0 : 0 ≤ r.2.1
        · rw [decide_eq_true h0]
          refine iteT ⟨_, rfl, _, _, rfl, rfl, _, rfl, ?_⟩
          by_cases h1 : r.2.1 < n
          · rw [decide_eq_true h1]
            exact iteF ⟨_, rfl, s2, fun _ => in1, fun _ => ⟨h0, h1⟩⟩
          · rw [decide_eq_false h1]
            refine iteT ⟨_, rfl, len1, fun a ha => er1 ha ((k2 in1 fun z => h1 z.2).mono s1)⟩
        · rw [decide_eq_false h0]
          refine iteF ⟨_, rfl, ?_⟩
          exact iteT ⟨_, rfl, len1, fun a ha => er1 ha ((k2 in1 fun z => h0 z.1).mono s1)⟩
    · rintro σ H2 ⟨v, rfl, s2, i1, i2⟩
      have s1 : Same H H2 := (Same.new ht).trans s2
      have in1 := i1 (by show 1 ≤ 2; decide)
      have in2 := i2 (by show 2 ≤ 2; decide)
      have hp2 := s1 _ _ hp
      refine ⟨_, rfl, p, CR, dx, _, _, rfl, hp2, TR.cl, TR.nL, rdF_l r, _, _, rfl, rfl, _, rfl, ?_⟩
      by_cases h0 : 1 ≤ r.2.2
      · rw [decide_eq_true h0]
        refine iteT ⟨_, _, rfl, rfl, _, rfl, ?_⟩
        by_cases h1 : r.2.2 ≤ 1000000000
        · rw [decide_eq_true h1]
          exact iteF (k4 in1 in2 ⟨h0, h1⟩ _ s1)
        · rw [decide_eq_false h1]
          exact iteT ⟨_, rfl, p, CR, dx, _, _, rfl, hp2, TR.cl, TR.nL, rdF_l r, len2, fun a ha => er2 ha ((k3 in1 in2 fun z => h1 z.2).mono s1)⟩
      · rw [decide_eq_false h0]
        refine iteF ⟨_, rfl, ?_⟩
        exact iteT ⟨_, rfl, p, CR, dx, _, _, rfl, hp2, TR.cl, TR.nL, rdF_l r, len2, fun a ha => er2 ha ((k3 in1 in2 fun z => h0 z.1).mono s1)⟩
end
end OT
set_option Elab.async false
set_option linter.all false
set_option maxRecDepth 100000
set_option maxHeartbeats 4000000
namespace OTR
open PySem PySem.Spec PyProof.Rows L2
theorem d_dictSetT {X : Cx} {pins : List (Addr × Obj)} {σ : L2.St} {H : Hp} {s : Shared} {E : Value → Shared → Prop} {D b : Addr} {ent : List (List Key × V)} {key : List Key} {v : V} {u r : Value} {Q : Unit → Shared → Prop} (hu : X.A.units + 1 < cLine) (Iv : Inv X pins σ H s) (atD : H D = some (.dT ent)) (eb : H b = some (.tup (key.map kV))) (hz : ent.length < sizeLine)
    (rky : RelV (.ref b) u) (rv : RelV v r) (h : ∀ s', Inv X pins σ (upd H D (.dT (putK ent key v))) s' → Q () s') : wpAny (model X.prog X.w) X.A (dictSet D u r) Q E s := by
  cases (show u = Value.ref b from rky)
  obtain ⟨zz, fin, xs, rel, dd⟩ := dt_of Iv.hok atD
  have hzv : xs.length ≤ sizeLine := by rw [← Paired.length rel]; exact zz
  have len1 : (putK ent key v).length ≤ sizeLine := by have := length_putK ent key v; omega
  refine wpAny_dictSet_heap (hsz := hzv) (Nat.lt_of_succ_lt hu) (key_of Iv.hok eb) dd fun h' dd' hs => h _ ?_
  obtain ⟨q, slots, prm, hq, t2, t3, t4, _, t5⟩ := dd'
  refine d_write Iv (by rw [atD]; exact True.intro) hs ⟨q, hq⟩ ⟨len1, fin, _, (rel.put key eb rv).keeps fun c ys ec => ?_, q, slots, prm, hq, t2, t3, t4, t5⟩
  rw [upd_ne (ne_of ec atD (fun zz => nomatch zz))]
  exact ec
section
variable {X : Cx}
def tDcT (wi : TI) (g : TG) (tt : TT) (tk tv : TE) (vs : List Nat) : TE := fun σ H Q => wi σ H fun J H1 => ∀ D, H1 D = none → ∃ W : Nat → Nat → Hp → Prop, (∃ mm, W 0 mm (upd H1 D (.dT []))) ∧ ∀ i mm H, W i mm H →
  (J.stop i H ∧ Q (.ref D) H) ∨ (J.go i H ∧ ∃ Nxt : Hp → Prop, (∀ H', Nxt H' → ∃ m', m' < mm ∧ W (i + 1) m' H') ∧ ∀ x H', J.yld i H x H' → g x (wipe σ vs) H' fun σ2 Hb => wipe σ2 vs = wipe σ vs ∧ tt σ2 Hb fun b Hc =>
    if b = true then tk σ2 Hc fun y Hk => tv σ2 Hk fun zz Hv => ∃ ent key b, y = .ref b ∧ Hv b = some (.tup (key.map kV)) ∧ Hv D = some (.dT ent) ∧ ent.length < sizeLine ∧ Nxt (upd Hv D (.dT (putK ent key zz))) else Nxt Hc)
theorem dcT_core {pin0 : List (Addr × Obj)} {s : Shared} {σ : L2.St} {H : Hp} {Q : VK} {kx vx tg iter : Expr} {ifs : List Expr} {scope : Scope} {own : List (Str × Nat)} {pos pos2 : Pos} {wi : TI} {g : TG} {tt : TT} {tk tv : TE} {aft : Option (Value → Sem Unit)} {Qq : Value → Shared → Prop}
    (hu : X.A.units + 1 < cLine) (hc : X.calm = true) (nodN : X.N.Nodup) (Iv : Inv X pin0 σ H s) (walk : PI X tg iter wi) (ok : BlkOk X.N X.env.scope scope own)
    (rdG : ∀ (s : Shared) (H : Hp) (Cn : Addr) (clo : List (Str × Addr)) (foot : List Addr), PG (X.blk s H scope (compEnvC scope clo Cn X.env) foot) tg g) (rdT : ∀ (s : Shared) (H : Hp) (Cn : Addr) (clo : List (Str × Addr)) (foot : List Addr), PTs (X.blk s H scope (compEnvC scope clo Cn X.env) foot) ifs tt)
    (rdK : ∀ (s : Shared) (H : Hp) (Cn : Addr) (clo : List (Str × Addr)) (foot : List Addr), PE (X.blk s H scope (compEnvC scope clo Cn X.env) foot) kx tk)
    (rdV : ∀ (s : Shared) (H : Hp) (Cn : Addr) (clo : List (Str × Addr)) (foot : List Addr), PE (X.blk s H scope (compEnvC scope clo Cn X.env) foot) vx tv) (hs : ∀ xx, foldedSetIterable iter X.env xx = pure xx)
    (h : tDcT wi g tt tk tv (own.map (·.2)) σ H Q)
    (goOn : ∀ D Cn s' mm H', Inv X pin0 σ H' s' → Q (.ref D) H' → s'.heap.Ns Cn mm → FpOk X pin0 H' Cn → compPost (model X.prog X.w) X.A X.xe aft Qq (.ref D) Cn (.ok .next) s') :
    wpAny (model X.prog X.w) X.A (comprehension (.DictComp kx vx [⟨tg, iter, ifs, 0⟩] scope pos) scope X.env pos2 newDict false (eval iter X.env) aft) Qq X.xe s := by
  have frees : ∀ y ∈ scope.names, y.2 = .free → ∃ c, X.env.cells.lookup y.1 = some c := fun y hy e => by
    rcases ok.free y hy e with key | key
    · exact Iv.ok.has _ (.inl key)
    · exact Iv.ok.has _ (.inr key)
  refine wpAny_comprehension_free (use := aft) rfl hs (closure_ok frees) ok.kind (fun y hy e => by rw [ok.uniq y hy, e])
    (thn (walk.run pin0 s σ H _ Iv h) fun xvv u1 hxx => thn hxx fun ivv u2 hv2 => ?_)
  obtain ⟨it, foot, tn, W1, U2, e, K2, T, at_2, off_2, q⟩ := hv2
  subst e
  refine wpAny_newObj_type (newEnv_comp ?_)
  generalize eD : u2.heap.objs.size = D
  have nD : U2 D = none := K2.hok.fresh (Nat.le_of_eq eD)
  obtain ⟨W, ⟨mv0, wv0⟩, round⟩ := q D nD
  -- the new list
  generalize es0 : ({ u2 with heap := u2.heap.push { cls := .type "dict", data := .dict #[] } } : Shared) = t0
  have J0 : Inv X pin0 σ (upd U2 D (.dT [])) t0 := by
    rw [← es0]
    refine K2.laid (t' := u2.toks) (fun b o e => Heap.get?_push_of_some _ e) (Nat.le_of_eq eD) ?_
    rw [← eD]
    exact dt_empty u2.heap K2.big
  have e0 : t0.heap = u2.heap.push { cls := .type "dict", data := .dict #[] } := by rw [← es0]
  have low0 : ∀ b ∈ foot, b < u2.heap.objs.size := fun b hb => by
    obtain ⟨o, e, _⟩ := T.obj _ _ at_2 b hb
    exact Heap.lt_size e
  have off0 : ∀ b ∈ foot, FpOk X pin0 (upd U2 D (.dT [])) b ∧ b < t0.heap.objs.size := fun b hb => by
    have lt2 := low0 b hb
    refine ⟨⟨?_, (off_2 b hb).2⟩, by rw [e0, Heap.size_push]; exact Nat.lt_succ_of_lt lt2⟩
    rw [upd_ne (by rw [← eD]; exact Nat.ne_of_lt lt2)]
    exact (off_2 b hb).1
  have at0 : tn 0 t0.heap := T.keep _ _ _ at_2 fun b _ o e => by rw [e0]; exact Heap.get?_push_of_some _ e
  have J1 := block_start J0 ok nodN off0
  have rg := rdG t0 (upd U2 D (.dT [])) t0.heap.objs.size (cellsFrom (t0.heap.objs.size + 1) scope.names (cloFrom X.env.cells scope.names [])) foot
  have rt := rdT t0 (upd U2 D (.dT [])) t0.heap.objs.size (cellsFrom (t0.heap.objs.size + 1) scope.names (cloFrom X.env.cells scope.names [])) foot
  have rk := rdK t0 (upd U2 D (.dT [])) t0.heap.objs.size (cellsFrom (t0.heap.objs.size + 1) scope.names (cloFrom X.env.cells scope.names [])) foot
  have rv := rdV t0 (upd U2 D (.dT [])) t0.heap.objs.size (cellsFrom (t0.heap.objs.size + 1) scope.names (cloFrom X.env.cells scope.names [])) foot
  show codeAny _ _ (.compStart (.DictComp kx vx [⟨tg, iter, ifs, 0⟩] scope pos) 0 (.ref it) (.ref D) (compEnvC scope (cellsFrom (t0.heap.objs.size + 1) scope.names (cloFrom X.env.cells scope.names [])) t0.heap.objs.size X.env)) (compPost (model X.prog X.w) X.A X.xe aft Qq (.ref D) t0.heap.objs.size) { t0 with heap := pushCells (t0.heap.push { cls := .type "dict", data := .dict #[] }) scope.names }
  have offs : ∀ b ∈ foot, (upd U2 D (.dT [])) b = none := fun b hb => (off0 b hb).1.1
  generalize ece : compEnvC scope (cellsFrom (t0.heap.objs.size + 1) scope.names (cloFrom X.env.cells scope.names [])) t0.heap.objs.size X.env = cenv at J1 rg rt rk rv ⊢
  have cL : cenv.locals = t0.heap.objs.size := by subst ece; rfl
  generalize hH3 : upd U2 D (.dT []) = G0 at J0 J1 rg rt rk rv wv0 offs off0
  generalize es1 : ({ t0 with heap := pushCells (t0.heap.push { cls := .type "dict", data := .dict #[] }) scope.names } : Shared) = t1 at J1 ⊢
  have at1 : tn 0 t1.heap := T.keep _ _ _ at0 fun b _ o e => by rw [← es1]; exact pushCells_keeps _ _ _ _ (Heap.get?_push_of_some _ e)
  have still : ∀ {σ' : L2.St} {H' : Hp} {s' : Shared}, Inv (X.blk t0 G0 scope cenv foot) [] σ' H' s' → (∀ b ∈ foot, H' b = none) → ∀ b ∈ foot, FpOk (X.blk t0 G0 scope cenv foot) [] H' b := fun {σ' H' s'} Iw hn b hb =>
    ⟨hn b hb, (Iw.ok.exf b hb).1, Iw.ok.exfs b hb, .inl hb, fun xx c e => (Iw.ok.exf b hb).2 xx c e, fun p hp => absurd (show p ∈ ([] : List (Addr × Obj)) ++ [] from hp) (by simp)⟩
  have whole : codeAny (model X.prog X.w) X.A (.compLoop (.DictComp kx vx [⟨tg, iter, ifs, 0⟩] scope pos) 0 (.ref it) (.ref D) cenv) (compPost (model X.prog X.w) X.A X.xe aft Qq (.ref D) t0.heap.objs.size) t1 := by
    refine compLoop_anyD (fun n s' => ∃ i H', Inv (X.blk t0 G0 scope cenv foot) [] (wipe σ (own.map (·.2))) H' s' ∧ tn i s'.heap ∧ (∀ b ∈ foot, H' b = none) ∧ W i n H') ?_ mv0 ⟨0, G0, J1, at1, offs, wv0⟩
    rintro n t2 ⟨i, G2, J2, at2, n5, w5⟩
    rcases round i n G2 w5 with ⟨stop, qd⟩ | ⟨go, Nxt, hNx, step⟩
    · have dn := T.done (X.blk t0 G0 scope cenv foot) rfl rfl rfl hc i [] t2 _ G2 (fun _ _ => False) J2 (still J2 n5) at2 stop
      refine thnF dn fun r t3 ⟨hr, J3⟩ => ?_
      subst hr
      -- back in the def's context
      have J4 : Inv X pin0 σ G2 t3 := J0.call' (ch := foot) J3.os J3.base J3.hok J3.bare fun b hb => ⟨(off0 b hb).1.2.2.2.1, (off0 b hb).1.2.1, (off0 b hb).1.2.2.2.2.1, (off0 b hb).1.2.2.2.2.2⟩
      have nC : G2 t0.heap.objs.size = none := by
        have zz : G2 cenv.locals = none := J3.free
        rw [cL] at zz
        exact zz
      obtain ⟨mm, hn, _⟩ := J3.loc
      have hn : t3.heap.Ns cenv.locals mm := hn
      rw [cL] at hn
      exact goOn D t0.heap.objs.size t3 mm G2 J4 qd hn (J0.fpOk (Nat.le_refl _) nC)
    · have im := T.item (X.blk t0 G0 scope cenv foot) rfl rfl rfl hc i [] t2 _ G2 (fun _ _ => False) J2 (still J2 n5) at2 go
      refine thnF im fun r t3 ⟨u, hr, h6⟩ => ?_
      subst hr
      refine thnF h6 fun _ t4 ⟨xx, G4, J4, r7, y7, at4, n7⟩ => ?_
      have I7' := J4.pinned (still J4 n7) (T.obj _ _ at4)
      refine thnF (rg.run _ t4 _ G4 xx u _ I7' r7 (step xx G4 y7)) fun _ t5 ⟨σ8, G5, J5, eqw, q8⟩ => ?_
      refine thnF (rt.run _ t5 σ8 G5 _ J5 q8) fun b t6 ⟨G6, J6, qb⟩ => ?_
      -- the turn's end
      have ended : ∀ {s' : Shared} {H' : Hp}, Inv (X.blk t0 G0 scope cenv foot) ([] ++ pinsAt foot t4.heap) σ8 H' s' → Nxt H' → ∃ mm, mm < n ∧ ∃ i H', Inv (X.blk t0 G0 scope cenv foot) [] (wipe σ (own.map (·.2))) H' s' ∧ tn i s'.heap ∧ (∀ b ∈ foot, H' b = none) ∧ W i mm H' := fun {s' H'} Iw nx => by
        obtain ⟨m', lt1, wn⟩ := hNx H' nx
        have pin' : ∀ b ∈ foot, ∀ o, t4.heap.get? b = some o → s'.heap.get? b = some o ∧ H' b = none := fun b hb o e =>
          let zz := Iw.pin (b, o) (List.mem_append_right _ (List.mem_append_right _ (mem_pinsAt hb e)))
          ⟨zz.1, zz.2.1⟩
        have len1 : (wipe σ (own.map (·.2))).length = σ8.length := by rw [← eqw, wipe_length]
        refine ⟨m', lt1, i + 1, H', (Iw.unpinned (pins := [])).weak len1 (fun j v e => ?_), T.keep _ _ _ at4 fun b hb o e => (pin' b hb o e).1, fun b hb => ?_, wn⟩
        · rw [← eqw] at e
          exact (wipe_some e).1
        · obtain ⟨o, e, _⟩ := T.obj _ _ at4 b hb
          exact (pin' b hb o e).2
      cases b with
      | false =>
        simp only [Bool.false_eq_true, if_false] at qb ⊢
        exact ended J6 qb
      | true =>
        simp only [if_true] at qb ⊢
        refine thnF (rk.run _ t6 σ8 G6 _ J6 qb) fun zz t7 ⟨yk, G7, J7, r10, q10⟩ => ?_
        refine thnF (rv.run _ t7 σ8 G7 _ J7 q10) fun z2 t8 ⟨yv, G8, J8, r11, ent, key, kb, ek, ekb, hD11, hz11, nx⟩ => ?_
        subst ek
        exact d_dictSetT (X := X.blk t0 G0 scope cenv foot) hu J8 hD11 ekb hz11 r10 r11 fun t9 J9 => ended J9 nx
  exact codeAny_compStart_dict whole (T.self X.A 0 _ _ _ at1 whole)
/-- as a value -/
theorem pe_dcT {kx vx tg iter : Expr} {ifs : List Expr} {scope : Scope} {own : List (Str × Nat)} {pos : Pos} {wi : TI} {g : TG} {tt : TT} {tk tv : TE} (hu : X.A.units + 1 < cLine) (hc : X.calm = true) (nodN : X.N.Nodup) (walk : PI X tg iter wi) (ok : BlkOk X.N X.env.scope scope own)
    (rdG : ∀ (s : Shared) (H : Hp) (Cn : Addr) (clo : List (Str × Addr)) (foot : List Addr), PG (X.blk s H scope (compEnvC scope clo Cn X.env) foot) tg g) (rdT : ∀ (s : Shared) (H : Hp) (Cn : Addr) (clo : List (Str × Addr)) (foot : List Addr), PTs (X.blk s H scope (compEnvC scope clo Cn X.env) foot) ifs tt)
    (rdK : ∀ (s : Shared) (H : Hp) (Cn : Addr) (clo : List (Str × Addr)) (foot : List Addr), PE (X.blk s H scope (compEnvC scope clo Cn X.env) foot) kx tk)
    (rdV : ∀ (s : Shared) (H : Hp) (Cn : Addr) (clo : List (Str × Addr)) (foot : List Addr), PE (X.blk s H scope (compEnvC scope clo Cn X.env) foot) vx tv) (hs : ∀ xx, foldedSetIterable iter X.env xx = pure xx := by intro _; rfl) :
    PE X (.DictComp kx vx [⟨tg, iter, ifs, 0⟩] scope pos) (tDcT wi g tt tk tv (own.map (·.2))) := by
  refine ⟨fun pin0 s σ H Q Iv h => ?_⟩
  rw [arm_eval_DictComp]
  refine dcT_core hu hc nodN Iv walk ok rdG rdT rdK rdV hs h fun D Cn s' mm H' Iw q hn f => ⟨mm, hn, fun h'' sb => ?_⟩
  obtain ⟨c0, c1, off_2, off0, c4, c5⟩ := f
  exact ⟨.ref D, H', Iw.turned (t' := s'.toks) (fun b o hb e => (sb.2 b hb).trans e) c0 c1 off0 c4 c5, rfl, q⟩
/-- name = {..} on one line, the name a local -/
theorem swD_true {kx vx : Expr} {gs : List Comprehension} {scope : Scope} {pos pp : Pos} {y : Str} {l : Nat} {env : Env} (h1 : env.scope.kind = .function) (t2 : env.scope.names.lookup y = some .local) (t3 : (pp.line == pos.line) = true)
    (t4 : (scope.names.any fun (n, key) => n == y && (key == .local || key == .cell)) = false) : swapsWith (.DictComp kx vx gs scope pos) (some (.Name y pp)) l env = pure true := by
  have e1 : env.kindOf y = some .local := t2
  have e2 : env.blockKind = .function := by
    unfold Env.blockKind
    rw [h1]
    rfl
  unfold swapsWith
  simp only [e2, e1, t4, Expr.pos, t3]
  rfl
theorem ps_setDcT {i : Nat} {y : Str} {pp : Pos} {kx vx tg iter : Expr} {ifs : List Expr} {scope : Scope} {own : List (Str × Nat)} {pos spos : Pos} {wi : TI} {g : TG} {tt : TT} {tk tv : TE} (hu : X.A.units + 1 < cLine) (cm : X.calm = true) (nN : X.N.Nodup) (iy : X.N[i]? = some y) (yl : X.env.scope.names.lookup y = some .local)
    (sw : swapsWith (.DictComp kx vx [⟨tg, iter, ifs, 0⟩] scope pos) (some (.Name y pp)) spos.line X.env = pure true) (walk : PI X tg iter wi) (bk : BlkOk X.N X.env.scope scope own)
    (a1 : ∀ (s : Shared) (H : Hp) (Cn : Addr) (clo : List (Str × Addr)) (foot : List Addr), PG (X.blk s H scope (compEnvC scope clo Cn X.env) foot) tg g)
    (a2 : ∀ (s : Shared) (H : Hp) (Cn : Addr) (clo : List (Str × Addr)) (foot : List Addr), PTs (X.blk s H scope (compEnvC scope clo Cn X.env) foot) ifs tt)
    (a3 : ∀ (s : Shared) (H : Hp) (Cn : Addr) (clo : List (Str × Addr)) (foot : List Addr), PE (X.blk s H scope (compEnvC scope clo Cn X.env) foot) kx tk)
    (a4 : ∀ (s : Shared) (H : Hp) (Cn : Addr) (clo : List (Str × Addr)) (foot : List Addr), PE (X.blk s H scope (compEnvC scope clo Cn X.env) foot) vx tv) (a5 : ∀ x, foldedSetIterable iter X.env x = pure x := by intro _; rfl) :
    PS X (.Assign [.Name y pp] (.DictComp kx vx [⟨tg, iter, ifs, 0⟩] scope pos) spos) (tAsg (tDcT wi g tt tk tv (own.map (·.2))) (gName i)) := by
  refine ⟨fun ps0 s0 σ0 G0 D I0 h0 => ?_⟩
  rw [exec_Assign_Name_used _ _ _ _ sw]
  refine wpAny_bind (wpAny_standAt (wpAny_bind ?_))
  show wpAny _ X.A (do let _ ← comprehension (.DictComp kx vx [⟨tg, iter, ifs, 0⟩] scope pos) scope X.env (firstIterPos [⟨tg, iter, ifs, 0⟩] pos) newDict false (eval iter X.env) (some (assign (.Name y pp) X.env))) _ _ s0
  have h1 : tDcT wi g tt tk tv (own.map (·.2)) σ0 G0 (fun x H1 => gName i x σ0 H1 D.nx) := h0
  refine wpAny_bind (thn (dcT_core (Qq := fun _ u => SP X ps0 D .next u) hu cm nN I0 walk bk a1 a2 a3 a4 a5 h1 fun Ln Cn u mm G' J' q hn f => ?_) fun _ u hq => wpAny_pure (wpAny_pure hq))
  show wpAny _ _ (assign (.Name y pp) X.env (.ref Ln)) _ _ _
  refine wpAny_assign_Name (store_ok2 (v := V.ref Ln) J' nN iy (.inl yl) rfl (fun u2 J2 ⟨a, sb, ha⟩ => ?_) (.inr yl))
  obtain ⟨c0, c1, c2, c3, c4, c5⟩ := f
  have apart : Cn ≠ a := by
    rcases ha with zz | zz
    · rw [zz]
      exact c1
    · exact fun e => c4 y a zz e.symm
  exact ⟨mm, hn.sameBut sb apart, fun g3 same3 => ⟨_, G', J2.turned (t' := u2.toks) (fun b o hb e => (same3.2 b hb).trans e) c0 c1 c3 c4 c5, q⟩⟩
/-- over range(n): Pv by the turn and the heap -/
theorem dcT_range {lo : Int} {n : Nat} {g : TG} {tt : TT} {tk tv : TE} {vs : List Nat} {σ : L2.St} {H1 : Hp} {D : Addr} {Qd : Hp → Prop} (Pv : Nat → Hp → Prop) (h0 : Pv 0 (upd H1 D (.dT [])))
    (hs : ∀ i H, i < n → Pv i H → g (.int (lo + i)) (wipe σ vs) H fun σ2 Hb => wipe σ2 vs = wipe σ vs ∧ tt σ2 Hb fun b Hc =>
      if b = true then tk σ2 Hc fun y Hk => tv σ2 Hk fun zz Hv => ∃ ent key b, y = .ref b ∧ Hv b = some (.tup (key.map kV)) ∧ Hv D = some (.dT ent) ∧ ent.length < sizeLine ∧ Pv (i + 1) (upd Hv D (.dT (putK ent key zz))) else Pv (i + 1) Hc) (fin : ∀ H, Pv n H → Qd H) :
    ∃ W : Nat → Nat → Hp → Prop, (∃ mm, W 0 mm (upd H1 D (.dT []))) ∧ ∀ i mm H, W i mm H →
      ((Itr lo n).stop i H ∧ Qd H) ∨ ((Itr lo n).go i H ∧ ∃ Nxt : Hp → Prop, (∀ H', Nxt H' → ∃ m', m' < mm ∧ W (i + 1) m' H') ∧ ∀ x H', (Itr lo n).yld i H x H' → g x (wipe σ vs) H' fun σ2 Hb => wipe σ2 vs = wipe σ vs ∧ tt σ2 Hb fun b Hc =>
        if b = true then tk σ2 Hc fun y Hk => tv σ2 Hk fun zz Hv => ∃ ent key b, y = .ref b ∧ Hv b = some (.tup (key.map kV)) ∧ Hv D = some (.dT ent) ∧ ent.length < sizeLine ∧ Nxt (upd Hv D (.dT (putK ent key zz))) else Nxt Hc) := by
  refine ⟨fun i mm H => mm = n - i ∧ i ≤ n ∧ Pv i H, ⟨n, by simp, Nat.zero_le _, h0⟩, ?_⟩
  rintro i mm H ⟨rfl, le1, p⟩
  by_cases lt2 : i < n
  · refine .inr ⟨lt2, Pv (i + 1), fun H' pp2 => ⟨n - (i + 1), by omega, rfl, lt2, pp2⟩, fun x H' y => ?_⟩
    obtain ⟨e, ex⟩ := y
    subst e ex
    exact hs i _ lt2 p
  · have e : i = n := by omega
    subst e
    exact .inl ⟨Nat.le_refl _, fin H p⟩
end
end OTR
set_option Elab.async false
set_option linter.all false
set_option maxRecDepth 100000
set_option maxHeartbeats 2000000
namespace OT
open PySem L2 OTR
abbrev key2 (x y : Int) : List Key := [Sum.inl x, Sum.inl y]
theorem key2_inj {x y a b : Int} : key2 x y = key2 a b ↔ x = a ∧ y = b := by simp [key2]
def hasK (kvs : List (List Key × V)) (x y : Int) : Bool := (valV kvs (key2 x y)).isSome
theorem hasK_some {kvs : List (List Key × V)} {x y : Int} (h : hasK kvs x y = true) : ∃ v, valV kvs (key2 x y) = some v := Option.isSome_iff_exists.mp h
theorem hasK_of {kvs : List (List Key × V)} {x y : Int} {v : V} (h : valV kvs (key2 x y) = some v) : hasK kvs x y = true := by
  unfold hasK
  rw [h]
  rfl
theorem hasK_put {kvs : List (List Key × V)} {x y a b : Int} {v : V} : hasK (putK kvs (key2 x y) v) a b = true ↔ (a = x ∧ b = y) ∨ hasK kvs a b = true := by
  unfold hasK
  rw [valV_put]
  by_cases h : key2 a b = key2 x y
  · rw [if_pos h]
    exact ⟨fun _ => .inl (key2_inj.mp h), fun _ => rfl⟩
  · rw [if_neg h]
    exact ⟨.inr, fun z => z.resolve_left fun q => h (key2_inj.mpr q)⟩
/-- v is the trail from x to y -/
def TrailAt (K : PySem.W.Frag) (H : Hp) (F : List Fact) (x y : Int) (v : V) : Prop := ∃ (p : Addr) (l : List Nat), v = .ref p ∧ SqT K H p (l.map fun k => V.int (k : Nat)) ∧ Way F x l y ∧ l.Nodup
theorem sqT_but {K : PySem.W.Frag} {H H' : Hp} {d p : Addr} {xs : List V} {kvs : List (List Key × V)} (h : SqT K H p xs) (hd : H d = some (.dT kvs)) (e : But d H H') : SqT K H' p xs := by
  rcases h with (h | ⟨o, h⟩) | h
  · exact .inl (.inl (e _ _ h (ne_of h hd (fun z => nomatch z))))
  · exact .inl (.inr ⟨o, e _ _ h (ne_of h hd (fun z => nomatch z))⟩)
  · exact .inr h
theorem sqT_same {K : PySem.W.Frag} {H H' : Hp} {p : Addr} {xs : List V} (h : SqT K H p xs) (e : Same H H') : SqT K H' p xs := by
  rcases h with (h | ⟨o, h⟩) | h
  · exact .inl (.inl (e _ _ h))
  · exact .inl (.inr ⟨o, e _ _ h⟩)
  · exact .inr h
theorem TrailAt.but {K : PySem.W.Frag} {H H' : Hp} {d : Addr} {kvs : List (List Key × V)} {F : List Fact} {x y : Int} {v : V} (h : TrailAt K H F x y v) (hd : H d = some (.dT kvs)) (e : But d H H') : TrailAt K H' F x y v :=
  let ⟨p, l, a, b, c⟩ := h; ⟨p, l, a, sqT_but b hd e, c⟩
theorem TrailAt.same {K : PySem.W.Frag} {H H' : Hp} {F : List Fact} {x y : Int} {v : V} (h : TrailAt K H F x y v) (e : Same H H') : TrailAt K H' F x y v :=
  let ⟨p, l, a, b, c⟩ := h; ⟨p, l, a, sqT_same b e, c⟩
/-- at d stand the trails of all pairs that F joins -/
structure TrOk (K : PySem.W.Frag) (H : Hp) (d : Addr) (kvs : List (List Key × V)) (n : Int) (F : List Fact) : Prop where
  dc : H d = some (.dT kvs)
  has : ∀ x y, hasK kvs x y = true ↔ In n x ∧ In n y ∧ Con F x y
  val : ∀ x y v, valV kvs (key2 x y) = some v → TrailAt K H F x y v
  len : kvs.length ≤ 24 + 1200 * F.length
theorem TrOk.same {K : PySem.W.Frag} {H H' : Hp} {d : Addr} {kvs : List (List Key × V)} {n : Int} {F : List Fact} (h : TrOk K H d kvs n F) (e : Same H H') : TrOk K H' d kvs n F := ⟨e _ _ h.dc, h.has, fun x y v z => (h.val x y v z).same e, h.len⟩
/-- while the trails over a new road are added -/
structure Grow (K : PySem.W.Frag) (H : Hp) (d : Addr) (old kvs : List (List Key × V)) (n : Int) (F : List Fact) (r : Fact) : Prop where
  dc : H d = some (.dT kvs)
  sound : ∀ x y, hasK kvs x y = true → In n x ∧ In n y ∧ Con (F ++ [r]) x y
  keep : ∀ x y v, valV old (key2 x y) = some v → valV kvs (key2 x y) = some v
  val : ∀ x y v, valV kvs (key2 x y) = some v → TrailAt K H (F ++ [r]) x y v
theorem TrOk.grow {K : PySem.W.Frag} {H : Hp} {d : Addr} {kvs : List (List Key × V)} {n : Int} {F : List Fact} {r : Fact} (h : TrOk K H d kvs n F) : Grow K H d kvs kvs n F r :=
  ⟨h.dc, fun x y z => let ⟨a, b, c⟩ := (h.has x y).mp z; ⟨a, b, con_snoc.mpr (.inl c)⟩, fun _ _ _ z => z, fun x y v z => let ⟨p, l, a, b, c, e⟩ := h.val x y v z; ⟨p, l, a, b, c.mono, e⟩⟩
theorem Grow.same {K : PySem.W.Frag} {H H' : Hp} {d : Addr} {old kvs : List (List Key × V)} {n : Int} {F : List Fact} {r : Fact} (h : Grow K H d old kvs n F r) (e : Same H H') : Grow K H' d old kvs n F r := ⟨e _ _ h.dc, h.sound, h.keep, fun x y v z => (h.val x y v z).same e⟩
theorem Grow.put {K : PySem.W.Frag} {H : Hp} {d p : Addr} {old kvs : List (List Key × V)} {n x y : Int} {F : List Fact} {r : Fact} {l : List Nat} (h : Grow K H d old kvs n F r) (no : hasK old x y = false) (hx : In n x) (hy : In n y)
    (hp : SqT K H p (l.map fun k => V.int (k : Nat))) (w : Way (F ++ [r]) x l y) (nd : l.Nodup) : Grow K (upd H d (.dT (putK kvs (key2 x y) (.ref p)))) d old (putK kvs (key2 x y) (.ref p)) n F r := by
  refine ⟨upd_same, fun a b z => ?_, fun a b v z => ?_, fun a b v z => ?_⟩
  · rcases hasK_put.mp z with ⟨rfl, rfl⟩ | z
    · exact ⟨hx, hy, w.con⟩
    · exact h.sound a b z
  · rw [valV_put, if_neg]
    · exact h.keep a b v z
    · intro q
      obtain ⟨rfl, rfl⟩ := key2_inj.mp q
      rw [hasK_of z] at no
      cases no
  · rw [valV_put] at z
    by_cases q : key2 a b = key2 x y
    · rw [if_pos q] at z
      obtain ⟨rfl, rfl⟩ := key2_inj.mp q
      cases z
      exact ⟨p, l, rfl, sqT_but hp h.dc But.upd, w, nd⟩
    · rw [if_neg q] at z
      exact (h.val a b v z).but h.dc But.upd
/-- the crossings that F joins with a -/
def Side (hs : List Int) (n : Int) (F : List Fact) (a : Int) : Prop := ∀ x, x ∈ hs ↔ In n x ∧ Con F x a
theorem grow_end {K : PySem.W.Frag} {H : Hp} {d : Addr} {old kvs : List (List Key × V)} {n : Int} {F : List Fact} {r : Fact} {hs ts : List Int} (g : Grow K H d old kvs n F r) (hold : ∀ x y, hasK old x y = true ↔ In n x ∧ In n y ∧ Con F x y)
    (hh : Side hs n F r.1) (ht : Side ts n F r.2.1) (all : ∀ x ∈ hs, ∀ y ∈ ts, hasK kvs x y = true ∧ hasK kvs y x = true) (len : kvs.length ≤ 24 + 1200 * (F.length + 1)) : TrOk K H d kvs n (F ++ [r]) := by
  refine ⟨g.dc, fun x y => ?_, g.val, by rw [List.length_append]; exact len⟩
  refine Iff.intro (g.sound x y) ?_
  rintro ⟨hx, hy, c⟩
  rcases con_snoc.mp c with c | ⟨c1, c2⟩ | ⟨c1, c2⟩
  · obtain ⟨v, hv⟩ := hasK_some ((hold x y).mpr ⟨hx, hy, c⟩)
    exact hasK_of (g.keep x y v hv)
  · exact (all x ((hh x).mpr ⟨hx, c1⟩) y ((ht y).mpr ⟨hy, c2.symm⟩)).1
  · exact (all y ((hh y).mpr ⟨hy, c2.symm⟩) x ((ht x).mpr ⟨hx, c1⟩)).2
def spJoin (K : PySem.W.Frag) (CR : Addr) : Sp := fun vs H Q _ => ∃ (d rp : Addr) (n : Int) (F : List Fact) (r : Fact) (kvs : List (List Key × V)), vs = [.ref d, .int n, .int (F.length : Nat), .ref rp] ∧ RoadAt CR H rp r ∧ TrOk K H d kvs n F ∧
  0 ≤ n ∧ n ≤ 24 ∧ F.length ≤ 24 ∧ In n r.1 ∧ In n r.2.1 ∧ ¬ Con F r.1 r.2.1 ∧ ∀ H' kvs', TrOk K H' d kvs' n (F ++ [r]) → But d H H' → Q .non H'
/-- t + u -/
theorem catA_of {K : PySem.W.Frag} {H : Hp} {a b : Addr} {xs ys : List V} {Q : VK} (ha : SqT K H a xs) (hb : SqT K H b ys) (hl : xs.length + ys.length ≤ sizeLine) (k : ∀ p H', Same H H' → SqT K H' p (xs ++ ys) → Q (.ref p) H') : rCatA K (.ref a) (.ref b) H Q := by
  refine ⟨a, b, xs, ys, rfl, rfl, ha, hb, hl, fun e => ?_, fun _ e => ?_, fun _ _ p hp => k p _ (Same.new hp) (SqT.of upd_same)⟩
  · subst e
    exact k b H (Same.refl H) hb
  · subst e
    exact k a H (Same.refl H) (by rw [List.append_nil]; exact ha)
section
variable {P : Program} {w : World} {K : PySem.W.Frag} {mg : Str → Option Value} {base : Heap}
abbrev nJoin : List Str := ["trails", "crossings", "number", "road", "heads", "tails", "head", "tail", "trail", "crossing"]
theorem scJoin : FnScope nJoin ["trails", "crossings", "number", "road"] (defScope sJoin) := ⟨rfl, rfl, rfl, by decide +kernel, rfl, by decide +kernel, by decide +kernel⟩
/-- what the comprehension over range(n) has kept behind i turns -/
def Kept (l : List Int) (i : Nat) (p : Int → Bool) : Prop := (∀ x, x ∈ l ↔ (0 ≤ x ∧ x < (i : Int)) ∧ p x = true) ∧ l.length ≤ i
theorem Kept.zero {p : Int → Bool} : Kept [] 0 p := ⟨fun x => ⟨fun h => (by cases h), fun h => (by omega)⟩, Nat.le_refl _⟩
theorem Kept.yes {l : List Int} {i : Nat} {p : Int → Bool} (h : Kept l i p) (e : p (i : Int) = true) : Kept (l ++ [(i : Int)]) (i + 1) p := by
  refine ⟨fun x => ?_, by rw [List.length_append]; exact Nat.succ_le_succ h.2⟩
  rw [List.mem_append, List.mem_singleton, h.1]
  constructor
  · rintro (⟨a, b⟩ | rfl)
    · exact ⟨by omega, b⟩
    · exact ⟨by omega, e⟩
  · rintro ⟨a, b⟩
    by_cases q : x = (i : Int)
    · exact .inr q
    · exact .inl ⟨by omega, b⟩
theorem Kept.no {l : List Int} {i : Nat} {p : Int → Bool} (h : Kept l i p) (e : p (i : Int) = false) : Kept l (i + 1) p := by
  refine ⟨fun x => ?_, Nat.le_succ_of_le h.2⟩
  rw [h.1]
  constructor
  · rintro ⟨a, b⟩
    exact ⟨by omega, b⟩
  · rintro ⟨a, b⟩
    refine ⟨?_, b⟩
    by_cases q : x = (i : Int)
    · rw [q, e] at b
      cases b
    · omega
theorem ok_join {f CR : Addr} {fd : FuncData} (F : Fun K "join_trails" "join_trails" sJoin f fd) (TR : RdT K mg CR) (hRg : mg "range" = none) : FnOk P w K mg base CX0 1 f fd ["trails", "crossings", "number", "road"] (spJoin K CR) := by
  refine F.ok scJoin (fun vs H Q E h => ?_) (fun cdv A outer s H vs Q E hr h => ?_)
  · obtain ⟨d, rp, n, F, r, kvs, rfl, _⟩ := h
    rfl
  · obtain ⟨d, rp, n, F, r, kvs, rfl, hR, hT, hn0, hn24, hF24, ia, ib, nc, k⟩ := h
    have hu := hu_of hr
    obtain ⟨dx, hrp⟩ := id hR
    refine ⟨_, pss_cons (ps_setLc (i := 4) (own := [("crossing", 9)]) (g := gName 9) (tt := tB (tDIn (tTup (tCons (tVar 9) (tCons (tFld K (tVar 3) "a") tNil))) (tVar 0))) rfl scJoin.nd rfl rfl (sw_true rfl rfl rfl (by decide +kernel)) (pi_range1 rfl hRg (pa_cons (pv 1) pa_nil))
          (blkOk_by (own := [("crossing", 9)]) (N := nJoin) (sc := defScope sJoin) (by decide +kernel)) (fun _ _ _ _ _ => pg_name (i := 9) scJoin.nd rfl (Or.inl rfl))
          (fun _ _ _ _ _ => pts_one (pt_cmp (pc_din hu (pe_tup (pa_cons (pv 9) (pa_cons (pe_fld (pv 3) rfl) pa_nil))) (pv 0)))) (fun _ _ _ _ _ => pv 9))
      (pss_cons (ps_setLc (i := 5) (own := [("crossing", 9)]) (g := gName 9) (tt := tB (tDIn (tTup (tCons (tFld K (tVar 3) "b") (tCons (tVar 9) tNil))) (tVar 0))) rfl scJoin.nd rfl rfl (sw_true rfl rfl rfl (by decide +kernel)) (pi_range1 rfl hRg (pa_cons (pv 1) pa_nil))
          (blkOk_by (own := [("crossing", 9)]) (N := nJoin) (sc := defScope sJoin) (by decide +kernel)) (fun _ _ _ _ _ => pg_name (i := 9) scJoin.nd rfl (Or.inl rfl))
          (fun _ _ _ _ _ => pts_one (pt_cmp (pc_din hu (pe_tup (pa_cons (pe_fld (pv 3) rfl) (pa_cons (pv 9) pa_nil))) (pv 0)))) (fun _ _ _ _ _ => pv 9))
      (pss_one (ps_for PassesOwn.never rfl (pi_list (pv 4)) (pg_name (i := 6) scJoin.nd rfl (Or.inl rfl))
        (pss_one (ps_for PassesOwn.never rfl (pi_list (pv 5)) (pg_name (i := 7) scJoin.nd rfl (Or.inl rfl))
          (pss_cons (ps_set (i := 8) scJoin.nd rfl (Or.inl rfl) (pe_op op_catA (pe_op op_catA (pe_dget hu (pv 0) (pe_tup (pa_cons (pv 6) (pa_cons (pe_fld (pv 3) rfl) pa_nil))) (fun _ _ => rfl)) (pe_tup (pa_cons (pv 2) pa_nil)))
              (pe_dget hu (pv 0) (pe_tup (pa_cons (pe_fld (pv 3) rfl) (pa_cons (pv 7) pa_nil))) (fun _ _ => rfl))))
          (pss_cons (ps_dput hu (pv 0) (pe_tup (pa_cons (pv 6) (pa_cons (pv 7) pa_nil))) (pv 8) rfl)
          (pss_one (ps_dput hu (pv 0) (pe_tup (pa_cons (pv 7) (pa_cons (pv 6) pa_nil))) (pe_revT (pv 8)) rfl))))))))), ?_⟩
    have hne : ∀ {b : Addr} {o : HO}, H b = some o → ∀ {Hc : Hp} {t : Addr}, Same H Hc → Hc t = none → b ≠ t := fun e _ _ sc n => ne_of_none (sc _ _ e) n
    -- heads
    refine ⟨_, rfl, n, rfl, by omega, by omega, fun D1 hD1 => lc_range (lo := 0) (n := n.toNat) (fun i Hc => ∃ l : List Int, Hc D1 = some (.lst (l.map V.int)) ∧ Same H Hc ∧ Kept l i fun x => hasK kvs x r.1)
      ⟨[], upd_same, Same.new hD1, Kept.zero⟩ ?_ ?_⟩
    · rintro i Hc hi ⟨l, hl, sc, kp⟩
      have e0 : (0 : Int) + (i : Int) = (i : Int) := Int.zero_add _
      rw [e0]
      refine ⟨rfl, _, rfl, _, rfl, rp, CR, dx, _, _, rfl, sc _ _ hrp, TR.cl, TR.nA, rdF_a r, (by show 2 ≤ sizeLine; decide), fun t ht => ?_⟩
      have nD : D1 ≠ t := ne_of_none hl ht
      have nd : d ≠ t := ne_of_none (sc _ _ hT.dc) ht
      have sc' : Same H (upd Hc t (.tup [.int (i : Int), .int r.1])) := sc.trans (Same.new ht)
      refine ⟨_, rfl, d, _, rfl, DGet.t (k := key2 (i : Int) r.1) (sc' _ _ hT.dc) upd_same, _, rfl, ?_⟩
      cases e : hasK kvs (i : Int) r.1 with
      | true =>
        have e' : (valV kvs (key2 (i : Int) r.1)).isSome = true := e
        rw [e']
        refine iteT ⟨_, rfl, l.map V.int, by rw [upd_ne nD]; exact hl, small1000 (by rw [List.length_map]; have := kp.2; omega), l ++ [(i : Int)], by rw [List.map_append]; exact upd_same, fun b o z => ?_, kp.yes e⟩
        rw [upd_ne (ne_of_none z hD1)]
        exact sc' b o z
      | false =>
        have e' : (valV kvs (key2 (i : Int) r.1)).isSome = false := e
        rw [e']
        exact iteF ⟨l, by rw [upd_ne nD]; exact hl, sc', kp.no e⟩
    rintro H4 ⟨hs, hh1, s4, kp1⟩
    have side1 : Side hs n F r.1 := fun x => by
      rw [kp1.1]
      show _ ∧ hasK kvs x r.1 = true ↔ _
      rw [hT.has]
      unfold In
      exact ⟨fun ⟨_, c, _, g⟩ => ⟨c, g⟩, fun ⟨⟨a, b⟩, g⟩ => ⟨⟨a, by omega⟩, ⟨a, b⟩, ia, g⟩⟩
    -- tails
    refine ⟨_, rfl, n, rfl, by omega, by omega, fun D2 hD2 => lc_range (lo := 0) (n := n.toNat) (fun i Hc => ∃ l : List Int, Hc D2 = some (.lst (l.map V.int)) ∧ Same H4 Hc ∧ Kept l i fun x => hasK kvs r.2.1 x)
      ⟨[], upd_same, Same.new hD2, Kept.zero⟩ ?_ ?_⟩
    · rintro i Hc hi ⟨l, hl, sc, kp⟩
      have e0 : (0 : Int) + (i : Int) = (i : Int) := Int.zero_add _
      rw [e0]
      have sH : Same H Hc := s4.trans sc
      refine ⟨rfl, _, rfl, rp, CR, dx, _, _, rfl, sH _ _ hrp, TR.cl, TR.nB, rdF_b r, _, rfl, (by show 2 ≤ sizeLine; decide), fun t ht => ?_⟩
      have nD : D2 ≠ t := ne_of_none hl ht
      have sc' : Same H4 (upd Hc t (.tup [.int r.2.1, .int (i : Int)])) := sc.trans (Same.new ht)
      refine ⟨_, rfl, d, _, rfl, DGet.t (k := key2 r.2.1 (i : Int)) ((s4.trans sc') _ _ hT.dc) upd_same, _, rfl, ?_⟩
      cases e : hasK kvs r.2.1 (i : Int) with
      | true =>
        have e' : (valV kvs (key2 r.2.1 (i : Int))).isSome = true := e
        rw [e']
        refine iteT ⟨_, rfl, l.map V.int, by rw [upd_ne nD]; exact hl, small1000 (by rw [List.length_map]; have := kp.2; omega), l ++ [(i : Int)], by rw [List.map_append]; exact upd_same, fun b o z => ?_, kp.yes e⟩
        rw [upd_ne (ne_of_none z hD2)]
        exact sc' b o z
      | false =>
        have e' : (valV kvs (key2 r.2.1 (i : Int))).isSome = false := e
        rw [e']
        exact iteF ⟨l, by rw [upd_ne nD]; exact hl, sc', kp.no e⟩
    rintro H5 ⟨ts, hh2, s5, kp2⟩
    have side2 : Side ts n F r.2.1 := fun x => by
      rw [kp2.1]
      show _ ∧ hasK kvs r.2.1 x = true ↔ _
      rw [hT.has]
      unfold In
      exact ⟨fun ⟨⟨a, b⟩, _, ⟨c, e⟩, g⟩ => ⟨⟨c, e⟩, g.symm⟩, fun ⟨⟨a, b⟩, g⟩ => ⟨⟨a, by omega⟩, ib, ⟨a, b⟩, g.symm⟩⟩
    have sH5 : Same H H5 := s4.trans s5
    have d1 : D1 ≠ d := (ne_of_none hT.dc hD1).symm
    have d2 : D2 ≠ d := (ne_of_none (s4 _ _ hT.dc) hD2).symm
    have rpd : rp ≠ d := ne_of hrp hT.dc (fun z => nomatch z)
    have lh : hs.length ≤ 24 := by have := kp1.2; omega
    have lt : ts.length ≤ 24 := by have := kp2.2; omega
    have hh1' : H5 D1 = some (.lst (hs.map V.int)) := s5 _ _ hh1
    -- for head in heads
    refine ⟨_, rfl, D1, rfl, ⟨_, SqL.of hh1'⟩, for_list (K := K) (a := D1) (xs := hs.map V.int) (fun i σ H2 => ∃ (v6 v7 v8 : Option V) (kvs' : List (List Key × V)), σ = [some (.ref d), some (.int n), some (.int (F.length : Nat)), some (.ref rp), some (.ref D1), some (.ref D2), v6, v7, v8, none] ∧
        But d H5 H2 ∧ Grow K H2 d kvs kvs' n F r ∧ (∀ (i' : Nat) (x : Int), i' < i → hs[i']? = some x → ∀ y ∈ ts, hasK kvs' x y = true ∧ hasK kvs' y x = true) ∧ kvs'.length ≤ kvs.length + 2 * (i * ts.length))
      ⟨none, none, none, kvs, rfl, But.refl, (hT.same sH5).grow, fun i' x z => absurd z (Nat.not_lt_zero _), by omega⟩ (fun i σ H2 _ ⟨_, _, _, _, _, b2, _⟩ => SqL.of (b2 _ _ hh1' d1)) ?_ ?_⟩
    · rintro i xv σ H2 hi ⟨v6, v7, v8, kvs1, rfl, b2, g2, done2, len2⟩
      have hil : i < hs.length := by
        have := (List.getElem?_eq_some_iff.mp hi).1
        rwa [List.length_map] at this
      obtain ⟨x, hx, rfl⟩ : ∃ x, hs[i]? = some x ∧ xv = V.int x := by
        rw [List.getElem?_map] at hi
        cases e : hs[i]? with
        | none => rw [e] at hi; cases hi
        | some z => rw [e] at hi; exact ⟨z, rfl, (Option.some.inj hi).symm⟩
      obtain ⟨ix, cx⟩ := (side1 x).mp (List.mem_of_getElem? hx)
      -- for tail in tails
      refine ⟨_, rfl, D2, rfl, ⟨_, SqL.of (b2 _ _ hh2 d2)⟩, for_list (K := K) (a := D2) (xs := ts.map V.int) (fun j σ H3 => ∃ (v7 v8 : Option V) (kvs' : List (List Key × V)), σ = [some (.ref d), some (.int n), some (.int (F.length : Nat)), some (.ref rp), some (.ref D1), some (.ref D2), some (.int x), v7, v8, none] ∧
          But d H5 H3 ∧ Grow K H3 d kvs kvs' n F r ∧ (∀ (i' : Nat) (x : Int), i' < i → hs[i']? = some x → ∀ y ∈ ts, hasK kvs' x y = true ∧ hasK kvs' y x = true) ∧ (∀ (j' : Nat) (y : Int), j' < j → ts[j']? = some y → hasK kvs' x y = true ∧ hasK kvs' y x = true) ∧ kvs'.length ≤ kvs.length + 2 * (i * ts.length + j))
        ⟨v7, v8, kvs1, rfl, b2, g2, done2, fun j' y z => absurd z (Nat.not_lt_zero _), by omega⟩ (fun j σ H3 _ ⟨_, _, _, _, b3, _⟩ => SqL.of (b3 _ _ hh2 d2)) ?_ ?_⟩
      · rintro j yv σ H3 hj ⟨v7, v8, kvs2, rfl, b3, g3, done3, row3, len3⟩
        have hjl : j < ts.length := by
          have := (List.getElem?_eq_some_iff.mp hj).1
          rwa [List.length_map] at this
        obtain ⟨y, hy, rfl⟩ : ∃ y, ts[j]? = some y ∧ yv = V.int y := by
          rw [List.getElem?_map] at hj
          cases e : ts[j]? with
          | none => rw [e] at hj; cases hj
          | some z => rw [e] at hj; exact ⟨z, rfl, (Option.some.inj hj).symm⟩
        obtain ⟨iy, cy⟩ := (side2 y).mp (List.mem_of_getElem? hy)
        have bH : But d H H3 := fun b o z nb => b3 b o (sH5 b o z) nb
        obtain ⟨v0, hv0⟩ := hasK_some ((hT.has x r.1).mpr ⟨ix, ia, cx⟩)
        obtain ⟨v1, hv1⟩ := hasK_some ((hT.has r.2.1 y).mpr ⟨ib, iy, cy.symm⟩)
        obtain ⟨p0, l0, rfl, q0, w0, n0⟩ := (hT.val _ _ _ hv0).but hT.dc bH
        obtain ⟨p1, l1, rfl, q1, w1, n1⟩ := (hT.val _ _ _ hv1).but hT.dc bH
        have kv0 := g3.keep _ _ _ hv0
        have kv1 := g3.keep _ _ _ hv1
        have no1 : hasK kvs x y = false := by
          cases e : hasK kvs x y with
          | false => rfl
          | true => exact absurd ((cx.symm.trans ((hT.has x y).mp e).2.2).trans cy) nc
        have no2 : hasK kvs y x = false := by
          cases e : hasK kvs y x with
          | false => rfl
          | true => exact absurd ((cx.symm.trans ((hT.has y x).mp e).2.2.symm).trans cy) nc
        have hrp3 : H3 rp = some (.ins CR dx (rdF r)) := bH _ _ hrp rpd
        have sl0 := w0.short n0
        have sl1 := w1.short n1
        have tot : i * ts.length ≤ 23 * 24 := Nat.mul_le_mul (by omega) lt
        have big : kvs2.length ≤ 24 + 1200 * 24 + 2 * (23 * 24 + 24) := by have := hT.len; omega
        -- trail = trails[head, road.a] + (number,) + trails[road.b, tail]
        refine ⟨_, rfl, _, rfl, _, rfl, rp, CR, dx, _, _, rfl, hrp3, TR.cl, TR.nA, rdF_a r, (by show 2 ≤ sizeLine; decide), fun t1 ht1 => ?_⟩
        have s1 : Same H3 (upd H3 t1 (.tup [.int x, .int r.1])) := Same.new ht1
        refine ⟨d, _, rfl, (by rw [← kv0]; exact DGet.t (k := key2 x r.1) (s1 _ _ g3.dc) upd_same), _, rfl, (by show 1 ≤ sizeLine; decide), fun t2 ht2 => ?_⟩
        have s2 := s1.trans (Same.new (o := .tup [.int (F.length : Nat)]) ht2)
        refine catA_of (sqT_same q0 s2) (SqT.of upd_same) (by rw [List.length_map]; show l0.length + 1 ≤ sizeLine; rw [PySem.sizeLine_eq]; omega) fun q2 H6 s6 hq2 => ?_
        have s6' : Same H3 H6 := s2.trans s6
        refine ⟨_, rfl, _, rfl, rp, CR, dx, _, _, rfl, s6' _ _ hrp3, TR.cl, TR.nB, rdF_b r, _, rfl, (by show 2 ≤ sizeLine; decide), fun t3 ht3 => ?_⟩
        have s7 : Same H3 (upd H6 t3 (.tup [.int r.2.1, .int y])) := s6'.trans (Same.new ht3)
        refine ⟨d, _, rfl, (by rw [← kv1]; exact DGet.t (k := key2 r.2.1 y) (s7 _ _ g3.dc) upd_same), ?_⟩
        refine catA_of (sqT_same hq2 (Same.new ht3)) (sqT_same q1 s7) (by rw [List.length_append, List.length_map, List.length_map]; show l0.length + 1 + l1.length ≤ sizeLine; rw [PySem.sizeLine_eq]; omega) fun q3 H8 s8 hq3 => ?_
        have s8' : Same H3 H8 := s7.trans s8
        have hq3' : SqT K H8 q3 ((l0 ++ F.length :: l1).map fun k => V.int (k : Nat)) := by
          rw [List.map_append, List.map_cons]
          rw [List.append_assoc] at hq3
          exact hq3
        have ww := way_over w0 w1
        have wn := way_nodup nc w0 w1 n0 n1
        -- trails[head, tail] = trail
        refine ⟨_, rfl, _, rfl, _, rfl, _, rfl, (by show 2 ≤ sizeLine; decide), fun t4 ht4 => ?_⟩
        have s9 : Same H3 (upd H8 t4 (.tup [.int x, .int y])) := s8'.trans (Same.new ht4)
        refine ⟨d, _, rfl, DPut.t (k := key2 x y) (s9 _ _ g3.dc) upd_same (by rw [PySem.sizeLine_eq]; omega), ?_⟩
        have g9 := (g3.same s9).put no1 ix iy (sqT_same hq3' (Same.new ht4)) ww wn
        have nq3 := sqT_but (sqT_same hq3' (Same.new (o := .tup [.int x, .int y]) ht4)) (s9 _ _ g3.dc) (But.upd (o := .dT (putK kvs2 (key2 x y) (.ref q3))))
        -- trails[tail, head] = trail[::-1]
        refine ⟨_, rfl, q3, _, rfl, nq3, fun q4 hq4 => ?_⟩
        refine ⟨_, rfl, _, rfl, _, rfl, (by show 2 ≤ sizeLine; decide), fun t5 ht5 => ?_⟩
        have s10 := (Same.new (o := .tup (((l0 ++ F.length :: l1).map fun k => V.int (k : Nat)).reverse)) hq4).trans (Same.new (o := .tup [.int y, .int x]) ht5)
        have g10 := g9.same s10
        refine ⟨d, _, rfl, DPut.t (k := key2 y x) g10.dc upd_same (by have := length_putK kvs2 (key2 x y) (V.ref q3); rw [PySem.sizeLine_eq]; omega), ?_⟩
        have hq4' := (Same.new (o := .tup [.int y, .int x]) ht5) q4 _ upd_same
        have g11 := g10.put (p := q4) (l := (l0 ++ F.length :: l1).reverse) no2 iy ix (by rw [List.map_reverse]; exact SqT.of hq4') ww.rev (List.pairwise_reverse.mpr (wn.imp Ne.symm))
        refine ⟨_, _, _, rfl, fun b o z nb => ?_, g11, fun i' x' a b y' c => ?_, fun j' y' a b => ?_, ?_⟩
        · rw [upd_ne nb]
          refine s10 b o ?_
          rw [upd_ne nb]
          exact s9 b o (b3 b o z nb)
        · obtain ⟨h1, h2⟩ := done3 i' x' a b y' c
          exact ⟨hasK_put.mpr (.inr (hasK_put.mpr (.inr h1))), hasK_put.mpr (.inr (hasK_put.mpr (.inr h2)))⟩
        · by_cases e : j' = j
          · subst e
            rw [hy] at b
            cases b
            exact ⟨hasK_put.mpr (.inr (hasK_put.mpr (.inl ⟨rfl, rfl⟩))), hasK_put.mpr (.inl ⟨rfl, rfl⟩)⟩
          · obtain ⟨h1, h2⟩ := row3 j' y' (by omega) b
            exact ⟨hasK_put.mpr (.inr (hasK_put.mpr (.inr h1))), hasK_put.mpr (.inr (hasK_put.mpr (.inr h2)))⟩
        · have z1 := length_putK kvs2 (key2 x y) (V.ref q3)
          have z2 := length_putK (putK kvs2 (key2 x y) (V.ref q3)) (key2 y x) (V.ref q4)
          omega
      · rintro σ H3 ⟨v7, v8, kvs2, rfl, b3, g3, done3, row3, len3⟩
        rw [List.length_map] at row3 len3
        refine ⟨_, _, _, kvs2, rfl, b3, g3, fun i' x' a b y c => ?_, by rw [Nat.add_mul, Nat.one_mul]; omega⟩
        by_cases e : i' = i
        · subst e
          rw [hx] at b
          cases b
          obtain ⟨j', hj', e'⟩ := List.getElem_of_mem c
          exact row3 j' y hj' (by rw [List.getElem?_eq_getElem hj', e'])
        · exact done3 i' x' (by omega) b y c
    · rintro σ H2 ⟨v6, v7, v8, kvs1, rfl, b2, g2, done2, len2⟩
      rw [List.length_map] at done2 len2
      have tot : hs.length * ts.length ≤ 24 * 24 := Nat.mul_le_mul lh lt
      refine k H2 kvs1 (grow_end g2 hT.has side1 side2 (fun x hx y hy => ?_) (by have := hT.len; omega)) (fun b o z nb => b2 b o (sH5 b o z) nb)
      obtain ⟨i', hi', e'⟩ := List.getElem_of_mem hx
      exact done2 i' x hi' (by rw [List.getElem?_eq_getElem hi', e']) y hy
end
end OT
set_option Elab.async false
set_option linter.all false
set_option maxRecDepth 100000
set_option maxHeartbeats 2000000
namespace OT
open PySem L2 OTR
/-- the error that a tree's maker raises -/
def ErrR (CB CN CG : Addr) (H : Hp) (E : XK) : Err → Prop
  | .crossings n => Raised CB [("count", .int n), ("what", .str "crossings")] H E
  | .roads k => Raised CB [("count", .int k), ("what", .str "roads")] H E
  | .crossing c => Raised CN [("crossing", .int c)] H E
  | .length s => Raised CB [("count", .int s), ("what", .str "length")] H E
  | .ring k => Raised CG [("road", .int k)] H E
theorem ErrR.mono {CB CN CG : Addr} {H H1 : Hp} {E : XK} {e : Err} (h : ErrR CB CN CG H E e) (s : Same H H1) : ErrR CB CN CG H1 E e := by
  cases e with
  | crossings n => exact Raised.mono h s
  | roads n => exact Raised.mono h s
  | crossing n => exact Raised.mono h s
  | length n => exact Raised.mono h s
  | ring n => exact Raised.mono h s
/-- roads at these places -/
def RoadsAt (CR : Addr) (H : Hp) (ps : List Addr) (F : List Fact) : Prop := Paired (RoadAt CR H) ps F
theorem RoadsAt.same {CR : Addr} {H H' : Hp} {ps : List Addr} {F : List Fact} (h : RoadsAt CR H ps F) (s : Same H H') : RoadsAt CR H' ps F := by
  unfold RoadsAt at h ⊢
  induction h with
  | nil => exact .nil
  | cons a _ ih => exact .cons (a.same s) ih
theorem RoadsAt.get {CR : Addr} {H : Hp} : ∀ {ps : List Addr} {F : List Fact}, RoadsAt CR H ps F → ∀ {i : Nat} {p : Addr}, ps[i]? = some p → ∃ r, F[i]? = some r ∧ RoadAt CR H p r
  | _, _, .nil, i, p, e => by simp at e
  | _, _, .cons a t, 0, p, e => by
    have z := Option.some.inj e
    subst z
    exact ⟨_, rfl, a⟩
  | _, _, .cons a t, i + 1, p, e => RoadsAt.get (ps := _) (F := _) t (i := i) e
theorem RoadsAt.len {CR : Addr} {H : Hp} {ps : List Addr} {F : List Fact} (h : RoadsAt CR H ps F) : ps.length = F.length := Paired.length h
def spTrails (K : PySem.W.Frag) (CR CB CN CG : Addr) : Sp := fun vs H Q E => ∃ (n : Int) (t : Addr) (ps : List Addr) (F : List Fact), vs = [.int n, .ref t] ∧ SqT K H t (ps.map V.ref) ∧ RoadsAt CR H ps F ∧ 0 ≤ n ∧ n ≤ 24 ∧ F.length ≤ 24 ∧
  (∀ e, dueR n [] F = some e → ErrR CB CN CG H E e) ∧ (dueR n [] F = none → ∀ d kvs H', TrOk K H' d kvs n F → Same H H' → H d = none → Q (.ref d) H')
theorem map_get {α β : Type} {f : α → β} {l : List α} {i : Nat} {y : β} (h : (l.map f)[i]? = some y) : ∃ p, l[i]? = some p ∧ y = f p := by
  rw [List.getElem?_map] at h
  cases e : l[i]? with
  | none =>
    rw [e] at h
    cases h
  | some z =>
    rw [e] at h
    exact ⟨z, rfl, (Option.some.inj h).symm⟩
theorem drop_get {α : Type} {l : List α} {i : Nat} {x : α} (h : l[i]? = some x) : l.drop i = x :: l.drop (i + 1) := by
  obtain ⟨hi, e⟩ := List.getElem?_eq_some_iff.mp h
  rw [List.drop_eq_getElem_cons hi, e]
theorem take_get {α : Type} {l : List α} {i : Nat} {x : α} (h : l[i]? = some x) : l.take (i + 1) = l.take i ++ [x] := by
  obtain ⟨hi, e⟩ := List.getElem?_eq_some_iff.mp h
  rw [List.take_succ, h]
  rfl
section
variable {P : Program} {w : World} {K : PySem.W.Frag} {mg : Str → Option Value} {base : Heap}
abbrev nTrails : List Str := ["crossings", "roads", "trails", "number", "road", "crossing"]
theorem scTrails : FnScope nTrails ["crossings", "roads"] (defScope sTrails) := ⟨rfl, rfl, rfl, by decide +kernel, rfl, by decide +kernel, by decide +kernel⟩
theorem ok_trails {f fC fJ CR CB CN CG fG : Addr} {fd fdC fdJ fdG : FuncData} (F : Fun K "trails_along" "trails_along" sTrails f fd) (TR : RdT K mg CR) (TG' : ErT K mg "RingRoad" CG fG)
    (FG : FnOk P w K mg base CX0 1 fG fdG ["self", "road"] (spEr1 CG "road")) (bG : Binds K fdG ["self", "road"] [])
    (FC : FnOk P w K mg base (L2.CX P w) 3 fC fdC ["crossings", "road"] (spCheck CR CB CN)) (bC : Binds K fdC ["crossings", "road"] []) (mC : mg "check_road" = some (.ref fC)) (kC : PySem.W.keepIn K (.ref fC) = true)
    (FJ : FnOk P w K mg base CX0 1 fJ fdJ ["trails", "crossings", "number", "road"] (spJoin K CR)) (bJ : Binds K fdJ ["trails", "crossings", "number", "road"] []) (mJ : mg "join_trails" = some (.ref fJ)) (kJ : PySem.W.keepIn K (.ref fJ) = true)
    (hRg : mg "range" = none) (hEn : mg "enumerate" = none) :
    FnOk P w K mg base (L2.CX P w) 4 f fd ["crossings", "roads"] (spTrails K CR CB CN CG) := by
  refine F.okX scTrails (fun vs H Q E h => ?_) (fun cdv A outer s H vs Q E hr h => ?_)
  · obtain ⟨n, t, ps, F, rfl, _⟩ := h
    rfl
  · obtain ⟨n, t, ps, F, rfl, hS, hR, hn0, hn24, hF, kE, kQ⟩ := h
    have hu := hu_of hr
    have hr2 : Room 2 _ := hr.mono (by decide)
    have hr1 : Room 1 _ := hr.mono (by decide)
    refine ⟨_, pss_cons (ps_setDcT (i := 2) (own := [("crossing", 5)]) (g := gName 5) hu rfl scTrails.nd rfl rfl (swD_true rfl rfl rfl (by decide +kernel)) (pi_range1 rfl hRg (pa_cons (pv 0) pa_nil))
          (blkOk_by (own := [("crossing", 5)]) (N := nTrails) (sc := defScope sTrails) (by decide +kernel)) (fun _ _ _ _ _ => pg_name (i := 5) scTrails.nd rfl (Or.inl rfl)) (fun _ _ _ _ _ => pts_nil)
          (fun _ _ _ _ _ => pe_tup (pa_cons (pv 5) (pa_cons (pv 5) pa_nil))) (fun _ _ _ _ _ => pe_tup pa_nil))
      (pss_cons (ps_for (passes_of rfl) rfl (pi_enumT rfl hEn (pa_cons (pv 1) pa_nil)) (pg_tup rfl (pgs_cons (pg_name (i := 3) scTrails.nd rfl (Or.inl rfl)) (pgs_cons (pg_name (i := 4) scTrails.nd rfl (Or.inl rfl)) pgs_nil)))
        (pss_cons (ps_expr (pe_call FC hr rfl mC kC bC .nil (passes_call (takes_of rfl rfl rfl rfl) fun _ _ _ _ h => h) (pa_cons (pv 0) (pa_cons (pv 4) pa_nil))))
        (pss_cons (ps_if (pt_cmp (pc_din hu (pe_tup (pa_cons (pe_fld (pv 4) rfl) (pa_cons (pe_fld (pv 4) rfl) pa_nil))) (pv 2)))
            (pss_one (ps_raise rfl (takes_of rfl rfl rfl rfl) (pmk_oex TG'.ox TG'.iC TG'.tI FG hr2 bG .nil pass0 (by rfl) TG'.gC (pa_cons (pv 3) pa_nil)))) pss_nil)
        (pss_one (ps_expr (pe_call FJ hr1 rfl mJ kJ bJ .nil pass0 (pa_cons (pv 2) (pa_cons (pv 0) (pa_cons (pv 3) (pa_cons (pv 4) pa_nil))))))))))
      (pss_one (ps_ret (pv 2)))), ?_⟩
    -- trails = {(crossing, crossing): () ..}
    refine ⟨_, rfl, n, rfl, by omega, by omega, fun D hD => dcT_range (lo := 0) (n := n.toNat) (fun i Hc => ∃ kvs : List (List Key × V), Hc D = some (.dT kvs) ∧ Same H Hc ∧ (∀ x y, hasK kvs x y = true ↔ (0 ≤ x ∧ x < (i : Int)) ∧ x = y) ∧
        (∀ x y v, valV kvs (key2 x y) = some v → TrailAt K Hc [] x y v) ∧ kvs.length ≤ i)
      ⟨[], upd_same, Same.new hD, fun x y => ⟨fun z => (by cases z), fun z => (by omega)⟩, fun x y v z => (by cases z), Nat.le_refl _⟩ ?_ ?_⟩
    · rintro i Hc hi ⟨kvs, hk, sc, has, val, len⟩
      have e0 : (0 : Int) + (i : Int) = (i : Int) := Int.zero_add _
      rw [e0]
      refine ⟨rfl, ?_⟩
      unfold tYes
      refine iteT ?_
      refine ⟨_, rfl, _, rfl, (by show 2 ≤ sizeLine; decide), fun t1 h1 => ⟨Nat.zero_le _, fun t2 h2 => ?_⟩⟩
      have s1 : Same Hc (upd Hc t1 (.tup [.int (i : Int), .int (i : Int)])) := Same.new h1
      have s2 : Same Hc (upd (upd Hc t1 (.tup [.int (i : Int), .int (i : Int)])) t2 (.tup [])) := s1.trans (Same.new h2)
      have n2 : t1 ≠ t2 := ne_of_none upd_same h2
      refine ⟨kvs, key2 (i : Int) (i : Int), t1, rfl, by rw [upd_ne n2]; exact upd_same, s2 _ _ hk, small1000 (by omega), putK kvs (key2 (i : Int) (i : Int)) (.ref t2), upd_same, fun b o z => ?_, fun x y => ?_, fun x y v z => ?_, Nat.le_trans (length_putK _ _ _) (Nat.succ_le_succ len)⟩
      · rw [upd_ne (ne_of_none z hD)]
        exact s2 b o (sc b o z)
      · rw [hasK_put, has]
        constructor
        · rintro (⟨rfl, rfl⟩ | ⟨a, rfl⟩)
          · exact ⟨by omega, rfl⟩
          · exact ⟨by omega, rfl⟩
        · rintro ⟨a, rfl⟩
          by_cases q : x = (i : Int)
          · exact .inl ⟨q, q⟩
          · exact .inr ⟨by omega, rfl⟩
      · rw [valV_put] at z
        by_cases q : key2 x y = key2 (i : Int) (i : Int)
        · rw [if_pos q] at z
          obtain ⟨rfl, rfl⟩ := key2_inj.mp q
          cases z
          exact ⟨t2, [], rfl, sqT_but (SqT.of upd_same) (s2 _ _ hk) But.upd, .nil _, List.nodup_nil⟩
        · rw [if_neg q] at z
          exact ((val x y v z).same s2).but (s2 _ _ hk) But.upd
    rintro H1 ⟨kvs0, hk0, s1, has0, val0, len0⟩
    have T0 : TrOk K H1 D kvs0 n [] := by
      refine ⟨hk0, fun x y => ?_, val0, by have : n.toNat ≤ 24 := by omega
                                           exact Nat.le_trans len0 (by omega)⟩
      rw [has0]
      unfold In
      constructor
      · rintro ⟨a, rfl⟩
        exact ⟨by omega, by omega, .refl _⟩
      · rintro ⟨a, b, c⟩
        have e := c.nil
        exact ⟨by omega, e⟩
    have hS1 : SqT K H1 t (ps.map V.ref) := sqT_same hS s1
    -- for number, road in enumerate(roads)
    refine ⟨_, rfl, t, _, rfl, hS1, for_it (walk_enumT (K := K) (a := t) (xs := ps.map V.ref)) (fun i σ H2 => ∃ (v3 v4 : Option V) (kvs : List (List Key × V)), σ = [some (.int n), some (.ref t), some (.ref D), v3, v4, none] ∧ But D H1 H2 ∧ TrOk K H2 D kvs n (F.take i) ∧ dueR n [] F = dueR n (F.take i) (F.drop i))
      ⟨none, none, kvs0, rfl, But.refl, T0, rfl⟩ (fun i σ H2 _ ⟨_, _, _, _, b2, T2, _⟩ => sqT_but hS1 hk0 b2) ?_ ?_⟩
    · rintro i x σ H2 H3 hi ⟨v3, v4, kvs, rfl, b2, T2, e2⟩ ⟨T, x1, y1, rfl, hT, rfl, hx1, hy1⟩
      cases hx1
      rw [List.length_map] at hi
      obtain ⟨p, hp, rfl⟩ := map_get (show (ps.map V.ref)[i]? = some y1 from hy1)
      obtain ⟨r, hr', hrd⟩ := hR.get hp
      have sB : ∀ b o, H b = some o → H2 b = some o := fun b o z => b2 b o (s1 b o z) (ne_of_none z hD)
      have s3 : Same H2 (upd H2 T (.tup [.int (i : Nat), .ref p])) := Same.new hT
      have rd3 := (hrd.same sB).same s3
      have ed := drop_get hr'
      rw [ed] at e2
      have iF : i < F.length := (List.getElem?_eq_some_iff.mp hr').1
      have lenT : (F.take i).length = i := by rw [List.length_take]; omega
      refine ⟨T, _, rfl, SqT.of upd_same, rfl, _, _, rfl, _, _, rfl, rfl, ?_⟩
      refine ⟨_, rfl, _, rfl, n, p, r, rfl, rd3, fun z => ?_, fun z1 z2 => ?_, fun z1 z2 z3 => ?_, fun z1 z2 z3 H4 s4 => ?_⟩
      · rw [dueR_a z] at e2
        exact (kE _ e2).mono fun b o q => s3 b o (sB b o q)
      · rw [dueR_b z1 z2] at e2
        exact (kE _ e2).mono fun b o q => s3 b o (sB b o q)
      · rw [dueR_l z1 z2 z3] at e2
        exact (kE _ e2).mono fun b o q => s3 b o (sB b o q)
      have s5 : Same H2 H4 := s3.trans s4
      have rd4 := rd3.same s4
      obtain ⟨dx, hpx⟩ := id rd4
      have T4 := T2.same s5
      refine ⟨_, rfl, p, CR, dx, _, _, rfl, hpx, TR.cl, TR.nA, rdF_a r, _, rfl, p, CR, dx, _, _, rfl, hpx, TR.cl, TR.nB, rdF_b r, (by show 2 ≤ sizeLine; decide), fun t1 h1 => ?_⟩
      have s6 : Same H4 (upd H4 t1 (.tup [.int r.1, .int r.2.1])) := Same.new h1
      refine ⟨_, rfl, D, _, rfl, DGet.t (k := key2 r.1 r.2.1) (s6 _ _ T4.dc) upd_same, _, rfl, ?_⟩
      have s7 : Same H2 (upd H4 t1 (.tup [.int r.1, .int r.2.1])) := s5.trans s6
      cases e : hasK kvs r.1 r.2.1 with
      | true =>
        have e' : (valV kvs (key2 r.1 r.2.1)).isSome = true := e
        rw [e']
        have c := ((T2.has _ _).mp e).2.2
        rw [dueR_ring z1 z2 z3 c, lenT] at e2
        refine iteT ⟨_, rfl, len1, fun a ha => er1 ha ?_⟩
        exact Raised.mono (kE _ e2) fun b o q => s7 b o (sB b o q)
      | false =>
        have e' : (valV kvs (key2 r.1 r.2.1)).isSome = false := e
        rw [e']
        have nc : ¬ Con (F.take i) r.1 r.2.1 := fun c => by
          rw [(T2.has _ _).mpr ⟨z1, z2, c⟩] at e
          cases e
        rw [dueR_go z1 z2 z3 nc] at e2
        refine iteF ⟨_, rfl, _, rfl, _, rfl, _, rfl, D, p, n, F.take i, r, kvs, by rw [lenT]; rfl, rd4.same s6, T4.same s6, hn0, hn24, by rw [lenT]; omega, z1, z2, nc, fun H8 kvs8 T8 b8 => ?_⟩
        refine ⟨_, _, kvs8, rfl, fun b o q nb => b8 b o (s7 b o (b2 b o q nb)) nb, ?_, ?_⟩
        · rw [take_get hr']
          exact T8
        · rw [take_get hr']
          exact e2
    · rintro σ H2 ⟨v3, v4, kvs, rfl, b2, T2, e2⟩
      have el : (ps.map V.ref).length = F.length := by rw [List.length_map]; exact hR.len
      rw [el, List.take_length] at T2
      rw [el, List.take_length, List.drop_length, dueR_nil] at e2
      exact ⟨_, rfl, kQ e2 D kvs H2 T2 (fun b o z => b2 b o (s1 b o z) (ne_of_none z hD)) hD⟩
end
end OT
set_option Elab.async false
set_option linter.all false
set_option maxRecDepth 100000
set_option maxHeartbeats 2000000
namespace OT
open PySem L2 OTR
/-- what the walk asks of Tree -/
structure TeT (K : PySem.W.Frag) (mg : Str → Option Value) (C : Addr) : Prop where
  cl : Cls K C
  nC : NoAttr K C "crossings"
  nR : NoAttr K C "roads"
  nT : NoAttr K C "trails"
  mgC : mg "Tree" = some (.ref C)
def teF (n : Int) (t d : Addr) : List (Str × V) := [("crossings", .int n), ("roads", .ref t), ("trails", .ref d)]
theorem teF_c (n : Int) (t d : Addr) : (teF n t d).lookup ("crossings" : Str) = some (.int n) := lk0
theorem teF_r (n : Int) (t d : Addr) : (teF n t d).lookup ("roads" : Str) = some (.ref t) := by
  unfold teF
  rw [lk1 (by decide +kernel)]
  exact lk0
theorem teF_t (n : Int) (t d : Addr) : (teF n t d).lookup ("trails" : Str) = some (.ref d) := by
  unfold teF
  rw [lk1 (by decide +kernel), lk1 (by decide +kernel)]
  exact lk0
theorem teF1 (n : Int) (t : Addr) : putF "roads" (.ref t) (putF "crossings" (.int n) []) = ([("crossings", V.int n), ("roads", V.ref t)] : List (Str × V)) := by
  have h1 : ¬ (("crossings" : Str) = "roads") := by decide +kernel
  show (if ("crossings" : Str) = "roads" then [(("crossings" : Str), V.ref t)] else (("crossings" : Str), V.int n) :: putF "roads" (.ref t) []) = _
  rw [if_neg h1]
  rfl
theorem teF2 (n : Int) (t d : Addr) : putF "trails" (.ref d) [("crossings", .int n), ("roads", .ref t)] = teF n t d := by
  have h2 : ¬ (("crossings" : Str) = "trails") := by decide +kernel
  have h3 : ¬ (("roads" : Str) = "trails") := by decide +kernel
  show (if ("crossings" : Str) = "trails" then _ else (("crossings" : Str), V.int n) :: (if ("roads" : Str) = "trails" then _ else (("roads" : Str), V.ref t) :: putF "trails" (.ref d) [])) = _
  rw [if_neg h2, if_neg h3]
  rfl
theorem teF1_r (n : Int) (t : Addr) : ([("crossings", .int n), ("roads", .ref t)] : List (Str × V)).lookup ("roads" : Str) = some (.ref t) := by
  rw [lk1 (by decide +kernel)]
  exact lk0
/-- a tree at p: n crossings, the roads at ps in a tuple, the trails in a dict -/
def TreeAt (K : PySem.W.Frag) (CT CR : Addr) (H : Hp) (p : Addr) (n : Int) (ps : List Addr) (F : List Fact) : Prop :=
  ∃ (dx t d : Addr) (kvs : List (List Key × V)), H p = some (.ins CT dx (teF n t d)) ∧ SqT K H t (ps.map V.ref) ∧ RoadsAt CR H ps F ∧ TrOk K H d kvs n F
def SqA (K : PySem.W.Frag) (H : Hp) (l : Addr) (xs : List V) : Prop := SqL K H l xs ∨ SqT K H l xs
theorem SqA.same {K : PySem.W.Frag} {H H' : Hp} {l : Addr} {xs : List V} (h : SqA K H l xs) (s : Same H H') : SqA K H' l xs := h.elim (fun h => .inl (s.seq h)) fun h => .inr (sqT_same h s)
def spTreeI (K : PySem.W.Frag) (CT CR CB CN CG : Addr) : Sp := fun vs H Q E => ∃ (p dx l : Addr) (n : Int) (ps : List Addr) (F : List Fact) (H0 : Hp), vs = [.ref p, .int n, .ref l] ∧ H p = some (.ins CT dx []) ∧ H0 p = none ∧ Same H0 H ∧ SqA K H0 l (ps.map V.ref) ∧ RoadsAt CR H0 ps F ∧ F.length ≤ 1000 ∧
  (∀ e, due n F = some e → ErrR CB CN CG H0 E e) ∧ (due n F = none → ∀ H', TreeAt K CT CR H' p n ps F → Same H0 H' → Q .non H')
/-- tuple(a name), a list or a tuple at the name -/
def rTupO (K : PySem.W.Frag) : List V → Hp → VK → Prop := fun xs H Q => ∃ p ys, xs = [.ref p] ∧ ((SqL K H p ys ∧ ∀ l, H l = none → Q (.ref l) (upd H l (.tup ys))) ∨ (SqT K H p ys ∧ Q (.ref p) H))
theorem tupE {K : PySem.W.Frag} {σ : L2.St} {H : Hp} {i : Nat} {l : Addr} {ys : List V} {Q : VK} (hi : σ[i]? = some (some (.ref l))) (h : SqA K H l ys) (k : ∀ t H', Same H H' → SqT K H' t ys → Q (.ref t) H') : tCB (rTupO K) (tCons (tVar i) tNil) σ H Q := by
  refine ⟨_, hi, l, ys, rfl, ?_⟩
  rcases h with h | h
  · exact .inl ⟨h, fun t ht => k t _ (Same.new ht) (SqT.of upd_same)⟩
  · exact .inr ⟨h, k l H (Same.refl H) h⟩
theorem sqT_ins {K : PySem.W.Frag} {H : Hp} {p q C dx : Addr} {fs : List (Str × V)} {o : HO} {xs : List V} (hp : H p = some (.ins C dx fs)) (h : SqT K H q xs) : SqT K (upd H p o) q xs := by
  rcases h with (h | ⟨u, h⟩) | h
  · exact .inl (.inl (by rw [upd_ne (ne_of h hp (fun z => nomatch z))]; exact h))
  · exact .inl (.inr ⟨u, by rw [upd_ne (ne_of h hp (fun z => nomatch z))]; exact h⟩)
  · exact .inr h
theorem TrOk.ins {K : PySem.W.Frag} {H : Hp} {p d C dx : Addr} {fs : List (Str × V)} {o : HO} {kvs : List (List Key × V)} {n : Int} {F : List Fact} (h : TrOk K H d kvs n F) (hp : H p = some (.ins C dx fs)) : TrOk K (upd H p o) d kvs n F :=
  ⟨by rw [upd_ne (ne_of h.dc hp (fun z => nomatch z))]; exact h.dc, h.has, fun x y v z => let ⟨q, l, a, b, c⟩ := h.val x y v z; ⟨q, l, a, sqT_ins hp b, c⟩, h.len⟩
theorem due_c {n : Int} {F : List Fact} (h : ¬ (2 ≤ n ∧ n ≤ 24)) : due n F = some (.crossings n) := by
  unfold due
  rw [if_pos h]
theorem due_r {n : Int} {F : List Fact} (h : 2 ≤ n ∧ n ≤ 24) (h2 : (F.length : Int) ≠ n - 1) : due n F = some (.roads F.length) := by
  unfold due
  rw [if_neg (fun z => z h), if_pos h2]
theorem due_go {n : Int} {F : List Fact} (h : 2 ≤ n ∧ n ≤ 24) (h2 : (F.length : Int) = n - 1) : due n F = dueR n [] F := by
  unfold due
  rw [if_neg (fun z => z h), if_neg (fun z => z h2)]
section
variable {P : Program} {w : World} {K : PySem.W.Frag} {mg : Str → Option Value} {base : Heap}
theorem scTreeI : FnScope ["self", "crossings", "roads"] ["self", "crossings", "roads"] (defScope sTreeI) := ⟨rfl, rfl, rfl, by decide +kernel, rfl, by decide +kernel, by decide +kernel⟩
theorem ok_treeI {f fA CT CR CB CN CG fB : Addr} {fd fdA fdB : FuncData} (F : Fun K "__init__" "Tree.__init__" sTreeI f fd) (TT : TeT K mg CT) (TB : ErT K mg "BadCount" CB fB)
    (FB : FnOk P w K mg base CX0 1 fB fdB ["self", "what", "count"] (spEr2 CB "what" "count")) (bB : Binds K fdB ["self", "what", "count"] [])
    (FA : FnOk P w K mg base (L2.CX P w) 4 fA fdA ["crossings", "roads"] (spTrails K CR CB CN CG)) (bA : Binds K fdA ["crossings", "roads"] []) (mA : mg "trails_along" = some (.ref fA)) (kA : PySem.W.keepIn K (.ref fA) = true)
    (hLeast : ∃ t, mg "LEAST_CROSSINGS" = some (.int 2 t)) (hMost : ∃ t, mg "MOST_CROSSINGS" = some (.int 24 t)) (hLen : mg "len" = none) (hTup : mg "tuple" = none) :
    FnOk P w K mg base (L2.CX P w) 5 f fd ["self", "crossings", "roads"] (spTreeI K CT CR CB CN CG) := by
  refine F.okX scTreeI (fun vs H Q E h => ?_) (fun cdv A outer s H vs Q E hr h => ?_)
  · obtain ⟨p, dx, l, n, ps, F, H0, rfl, _⟩ := h
    rfl
  · obtain ⟨p, dx, l, n, ps, F, H0, rfl, hp, hp0, s0, hS, hR, hF, kE, kQ⟩ := h
    obtain ⟨tl, hLeast⟩ := hLeast
    obtain ⟨tm, hMost⟩ := hMost
    have hr2 : Room 2 _ := hr.mono (by decide)
    refine ⟨_, pss_cons (ps_if (pt_not (pt_chain op_le op_le (pe_glob (v := V.int 2) rfl hLeast ⟨tl, rfl⟩) (pv 1) (pe_glob (v := V.int 24) rfl hMost ⟨tm, rfl⟩)))
          (pss_one (ps_raise rfl (takes_of rfl rfl rfl rfl) (pmk_oex TB.ox TB.iC TB.tI FB hr2 bB .nil pass0 (by rfl) TB.gC (pa_cons pe_str (pa_cons (pv 1) pa_nil))))) pss_nil)
      (pss_cons (ps_if (pt_cmpR op_ne (pe_callB call_len_seq (by rfl) hLen PySem.boot_len (pa_cons (pv 2) pa_nil)) (pe_op op_sub (pv 1) pe_int) (nomark _))
          (pss_one (ps_raise rfl (takes_of rfl rfl rfl rfl) (pmk_oex TB.ox TB.iC TB.tI FB hr2 bB .nil pass0 (by rfl) TB.gC (pa_cons pe_str (pa_cons (pe_callB call_len_seq (by rfl) hLen PySem.boot_len (pa_cons (pv 2) pa_nil)) pa_nil))))) pss_nil)
      (pss_cons (ps_fld (pv 0) (pv 1) rfl)
      (pss_cons (ps_fld (pv 0) (pe_callTy (r := rTupO K) call_tuple_of (by rfl) hTup (by decide +kernel) (pa_cons (pv 2) pa_nil)) rfl)
      (pss_one (ps_fld (pv 0) (pe_call FA hr rfl mA kA bA .nil (passes_call (takes_of rfl rfl rfl rfl) fun _ _ _ _ h => h) (pa_cons (pv 1) (pa_cons (pe_fld (pv 0) rfl) pa_nil))) rfl))))), ?_⟩
    have lenE : (ps.map V.ref).length = F.length := by rw [List.length_map]; exact hR.len
    have bad : ¬ (2 ≤ n ∧ n ≤ 24) → Raised CB [("count", .int n), ("what", .str "crossings")] H E := fun z => Raised.mono (kE _ (due_c z)) s0
    have sp : ∀ {o : HO}, Same H0 (upd H p o) := fun {o} b u e => by
      rw [upd_ne (ne_of_none e hp0)]
      exact s0 b u e
    refine ⟨_, rfl, _, _, rfl, rfl, _, rfl, ?_⟩
    by_cases h0 : 2 ≤ n
    · rw [decide_eq_true h0]
      refine iteT ⟨_, _, rfl, rfl, _, rfl, ?_⟩
      by_cases h1 : n ≤ 24
      · rw [decide_eq_true h1]
        refine iteF ?_
        refine ⟨_, rfl, l, _, rfl, hS.same s0, _, rfl, _, _, rfl, rfl, rfl, _, rfl, ?_⟩
        rw [lenE]
        by_cases h2 : (F.length : Int) = n - 1
        · have hd := due_go ⟨h0, h1⟩ h2
          refine iteNS (by rw [h2]) ?_
          refine ⟨_, rfl, _, rfl, p, CT, dx, [], rfl, hp, TT.cl, TT.nC, (by show 0 < 1000; decide), ?_⟩
          refine tupE rfl (hS.same sp) fun t Hb sb ht => ?_
          have hpb := sb _ _ (upd_same (H := H) (a := p) (o := .ins CT dx (putF "crossings" (.int n) [])))
          have s0b : Same H0 Hb := sp.trans sb
          refine ⟨_, rfl, p, CT, dx, _, rfl, hpb, TT.cl, TT.nR, (by show 1 < 1000; decide), ?_⟩
          rw [teF1]
          have s0c : Same H0 (upd Hb p (.ins CT dx [("crossings", .int n), ("roads", .ref t)])) := fun b u e => by
            rw [upd_ne (ne_of_none e hp0)]
            exact s0b b u e
          have htc : SqT K (upd Hb p (.ins CT dx [("crossings", .int n), ("roads", .ref t)])) t (ps.map V.ref) := sqT_ins hpb ht
          refine ⟨_, rfl, _, rfl, p, CT, dx, _, _, rfl, upd_same, TT.cl, TT.nR, teF1_r n t, n, t, ps, F, rfl, htc, hR.same s0c, by omega, h1, by omega, fun e he => ?_, fun he d kvs H' T s' hd' => ?_⟩
          · exact (kE e (by rw [hd]; exact he)).mono s0c
          · have hp' := s' _ _ (upd_same (H := Hb) (a := p) (o := .ins CT dx [("crossings", .int n), ("roads", .ref t)]))
            have ndp : d ≠ p := ne_of T.dc hp' (fun z => nomatch z)
            have s0d : Same H0 (upd H' p (.ins CT dx (teF n t d))) := fun b u e => by
              rw [upd_ne (ne_of_none e hp0)]
              exact s' b u (s0c b u e)
            refine ⟨_, rfl, p, CT, dx, _, rfl, hp', TT.cl, TT.nT, (by show 2 < 1000; decide), ?_⟩
            rw [teF2]
            exact kQ (by rw [hd]; exact he) _ ⟨dx, t, d, kvs, upd_same, sqT_ins hp' (sqT_same htc s'), hR.same s0d, T.ins hp'⟩ s0d
        · have k2 : Raised CB [("count", .int F.length), ("what", .str "roads")] H E := Raised.mono (kE _ (due_r ⟨h0, h1⟩ h2)) s0
          have h3 : ¬ (V.int (F.length : Int) = V.int (n - 1)) := fun z => h2 (V.int.inj z)
          rw [decide_eq_false h3]
          refine iteT ⟨_, rfl, l, _, rfl, hS.same s0, len2, fun a ha => ?_⟩
          rw [lenE]
          exact er2 ha k2
      · rw [decide_eq_false h1]
        exact iteT ⟨_, rfl, len2, fun a ha => er2 ha (bad fun z => h1 z.2)⟩
    · rw [decide_eq_false h0]
      exact iteF ⟨_, rfl, iteT ⟨_, rfl, len2, fun a ha => er2 ha (bad fun z => h0 z.1)⟩⟩
end
end OT
set_option Elab.async false
set_option linter.all false
set_option maxRecDepth 100000
set_option maxHeartbeats 1000000
namespace OTR
open PySem PySem.Spec PyProof.Rows L2
section
variable {X : Cx}
/-- xs + ys, lists that are read -/
def rCatS (K : PySem.W.Frag) : R2 := fun x y H Q => ∃ l b xs zs, x = .ref l ∧ y = .ref b ∧ SqL K H l xs ∧ SqL K H b zs ∧ xs.length + zs.length ≤ sizeLine ∧ ∀ p, H p = none → Q (.ref p) (upd H p (.lst (xs ++ zs)))
theorem op_catS : OpR X (binaryOp .Add) (rCatS X.K) := by
  intro p0 s0 g0 H0 x y vx vy Q J rx ry h
  obtain ⟨l, b, xs, zs, rfl, rfl, ea, eb, hz, q⟩ := h
  cases rx
  cases ry
  obtain ⟨us, w1, l1, _⟩ := J.list ea
  obtain ⟨ws, w2, l2, _⟩ := J.list eb
  obtain ⟨⟨c1, d1, t1, k1⟩, o1, e1, n1, f1⟩ := l1.isList
  obtain ⟨⟨c2, d2, t2, k2⟩, o2, e2, n2, f2⟩ := l2.isList
  simp only at e1 f1 e2 f2
  subst e1 f1 e2 f2
  have zz : us.toArray.size + ws.toArray.size ≤ sizeLine := by
    rw [List.size_toArray, List.size_toArray, ← w1.length, ← w2.length]
    exact hz
  refine concat_meets ⟨_, o1, rfl⟩ ⟨_, o2, rfl⟩ noFill_list_add seq_list_add PySem.F.slot_list_add PySem.F.entry_list_add (PySem.F.args_list_add_2 _ _) (list_addW l b us.toArray ws.toArray n1 n2 d1 d2 k1 k2 zz) ⟨o1, o2, ?_⟩
  have ea' : us.toArray ++ ws.toArray = (us ++ ws).toArray := by simp
  rw [ea']
  exact ⟨.ref _, _, J.lnew (t' := s0.toks) (w1.append w2) (by rw [List.length_append]; exact hz), rfl, q _ J.fresh⟩
end
end OTR
set_option Elab.async false
set_option linter.all false
set_option maxRecDepth 100000
set_option maxHeartbeats 2000000
namespace OTR
open PySem PySem.Spec PyProof.Rows L2
/-- how two values are compared in the abstract heap: what is wanted of the answer -/
abbrev Rdg := V → V → Hp → (Bool → Hp → Prop) → Prop
def EqB (X : Cx) (n : Nat) (R : Rdg) : Prop := ∀ (A : Around) (pn : List (Addr × Obj)) (t : Shared) (σ : L2.St) (H : Hp) (x y : V) (u v : Value) (Q : Bool → Hp → Prop), Sub X n A → Inv X pn σ H t → RelV x u → RelV y v → R x y H Q →
  wpAny (model X.prog X.w) A (eqBool u v) (fun r t' => ∃ H', Inv X pn σ H' t' ∧ Q r H') X.xe t
def RcB (X : Cx) (n : Nat) (op : CmpOp) (R : Rdg) : Prop := ∀ (A : Around) (pn : List (Addr × Obj)) (t : Shared) (σ : L2.St) (H : Hp) (x y : V) (u v : Value) (Q : Bool → Hp → Prop), Sub X n A → Inv X pn σ H t → RelV x u → RelV y v → R x y H Q →
  wpAny (model X.prog X.w) A (richCompare op u v) (fun r t' => ∃ b H', r = .bool b ∧ Inv X pn σ H' t' ∧ Q b H') X.xe t
/-- what a value's type is -/
inductive HasT (H : Hp) : V → Value → Prop where
  | non : HasT H .non (.type "NoneType")
  | tup {a : Addr} {xs : List V} (e : H a = some (.tup xs)) : HasT H (.ref a) (.type "tuple")
  | lst {a : Addr} {xs : List V} (e : H a = some (.lst xs)) : HasT H (.ref a) (.type "list")
  | ins {a C dx : Addr} {fs : List (Str × V)} (e : H a = some (.ins C dx fs)) : HasT H (.ref a) (.ref C)
section
variable {X : Cx} {pn : List (Addr × Obj)} {σ : L2.St} {H : Hp} {t : Shared}
theorem HasT.looks {x : V} {u ty : Value} (h : HasT H x ty) (I : Inv X pn σ H t) (r : RelV x u) : PySem.W.Looks (model X.prog X.w) t.heap (typeOf u) ty := by
  cases h with
  | non =>
    cases (show u = Value.none from r)
    exact PySem.W.Looks.of_pure rfl
  | @tup a xs e =>
    cases (show u = Value.ref a from r)
    obtain ⟨_, _, _, o, g1, g2, _⟩ := (show ObjOk X.prog X.w H t.heap a (.tup xs) from I.hok a _ e)
    exact g2 ▸ (PySem.W.Looks.ld g1).andThen .now
  | @lst a xs e =>
    cases (show u = Value.ref a from r)
    obtain ⟨_, _, n, _, g1⟩ := (show ObjOk X.prog X.w H t.heap a (.lst xs) from I.hok a _ e)
    exact (PySem.W.Looks.ld g1).andThen .now
  | @ins a C dx fs e =>
    cases (show u = Value.ref a from r)
    obtain ⟨m, J, _⟩ := ins_get I.hok e
    obtain ⟨od, J, _⟩ := J.look
    exact J.type
variable {n : Nat} {C f : Addr} {fd : FuncData} {ps : List Str} {sp : Sp}
/-- the own __eq__ is called with the two -/
theorem run_own {A : Around} {x y : V} {u v : Value} {Q : VK} (F : FnOk X.prog X.w X.K X.mg X.base CX0 n f fd ps sp) (hb : Binds X.K fd ps []) (sb : Sub X n A) (I : Inv X pn σ H t) (rx : RelV x u) (ry : RelV y v) (h : sp [x, y] H Q fun _ _ _ => False) :
    wpAny (model X.prog X.w) A (call (.ref f) [u, v]) (fun r t' => ∃ z H', RelV z r ∧ Inv X pn σ H' t' ∧ Q z H') X.xe t := by
  have env : Env0 X.prog X.w X.K X.mg X.base A X.stack t H := by
    have e := I.env0
    exact ⟨by rw [sb.fr]; exact e.frames, e.mod, e.bs, e.bsz, e.funs, e.frf, e.hok, e.bare⟩
  have len := F.len _ _ _ _ h
  have two : Vals [x, y] [u, v] := .cons rx (.cons ry .nil)
  have bind := hb t [u, v] I.kIn (by simpa using len)
  refine wpAny_call (codeAny_mono (F.run A X.stack t H ⟨[u, v], []⟩ [u, v] [x, y] _ _ sb.room env (by simpa using bind) two h) fun r t' q => ?_)
  cases r with
  | error e => exact False.elim q
  | ok fl =>
    cases fl with
    | ret w =>
      obtain ⟨z, H', I', rz, q'⟩ := I.after q
      exact ⟨z, H', rz, I', q'⟩
    | next => exact False.elim q
    | brk => exact False.elim q
    | cont => exact False.elim q
end
section
variable {X : Cx} {n : Nat} {C f : Addr} {fd : FuncData} {ps : List Str} {sp : Sp}
/-- x is an instance of the class at C, y whatever its __eq__ takes -/
def ROwn (K : PySem.W.Frag) (C : Addr) (sp : Sp) : Rdg := fun x y H Q => ∃ (a dx : Addr) (fs : List (Str × V)) (ty : Value), x = .ref a ∧ H a = some (.ins C dx fs) ∧ HasT H y ty ∧ PySem.W.notFirst K C ty = true ∧ sp [x, y] H (fun z H' => ∃ b, z = .bl b ∧ Q b H') fun _ _ _ => False
theorem rcB_own (F : FnOk X.prog X.w X.K X.mg X.base CX0 n f fd ps sp) (hs : PySem.W.findIn X.K (.ref C) "__eq__" = some (some (.ref f))) (hf : PySem.W.isFn X.K (.ref f) = true) (hb : Binds X.K fd ps []) : RcB X n .Eq (ROwn X.K C sp) := by
  intro A pn t σ H x y u v Q sb I rx ry h
  obtain ⟨a, dx, fs, ty, rfl, ha, hy, nf, h⟩ := h
  have look := hy.looks I ry
  cases (show u = Value.ref a from rx)
  obtain ⟨m, J, _⟩ := ins_get I.hok ha
  obtain ⟨od, J, _⟩ := J.look
  obtain ⟨m2, fr⟩ := I.fr
  refine PySem.W.cmp_K (op := .Eq) sb.room.units0 fr I.ok.mod.kin J look nf hs hf ?_
  refine wpAny_mono (run_own F hb sb I rx ry h) (fun r t' q => ?_) fun _ _ z => z
  obtain ⟨z, H', rz, I', b, rfl, q⟩ := q
  cases (show r = Value.bool b from rz)
  exact ⟨b, H', rfl, I', q⟩
/-- from the comparison to == inside a list or a tuple: the same object is equal to itself -/
def ROr (R : Rdg) : Rdg := fun x y H Q => (∃ a, x = .ref a ∧ y = .ref a ∧ Q true H) ∨ (∃ t1 t2, HasT H x t1 ∧ HasT H y t2) ∧ x ≠ y ∧ R x y H Q
theorem HasT.val {H : Hp} {x : V} {u ty : Value} (h : HasT H x ty) (r : RelV x u) : (x = .non ∧ u = .none) ∨ ∃ a, x = .ref a ∧ u = .ref a := by
  cases h with
  | non => exact .inl ⟨rfl, r⟩
  | tup e => exact .inr ⟨_, rfl, r⟩
  | lst e => exact .inr ⟨_, rfl, r⟩
  | ins e => exact .inr ⟨_, rfl, r⟩
theorem RcB.eqB {R : Rdg} (h : RcB X n .Eq R) : EqB X n (ROr R) := by
  intro A pn t σ H x y u v Q sb I rx ry hq
  rcases hq with ⟨a, rfl, rfl, q⟩ | ⟨⟨t1, t2, h1, h2⟩, ne, q⟩
  · cases (show u = Value.ref a from rx)
    cases (show v = Value.ref a from ry)
    exact SeqAt.EqAt.same (A := A) (s := t) (.ref a) X.prog X.w X.xe _ ⟨H, I, q⟩
  · have rest : wpAny (model X.prog X.w) A (richCompare .Eq u v >>= truthOfDropped) (fun r t' => ∃ H', Inv X pn σ H' t' ∧ Q r H') X.xe t := by
      refine wpAny_bind (wpAny_mono (h A pn t σ H x y u v Q sb I rx ry q) (fun r t' z => ?_) fun _ _ z => z)
      obtain ⟨b, H', rfl, I', q'⟩ := z
      exact wpAny_truthy_bool ⟨H', I', q'⟩
    have neq : ¬ (u == v) = true := fun z => ne (by
      have z := eq_of_beq z
      rcases h1.val rx with ⟨e1, e2⟩ | ⟨a, e1, e2⟩ <;> rcases h2.val ry with ⟨e3, e4⟩ | ⟨b, e3, e4⟩
      · rw [e1, e3]
      · rw [e2, e4] at z; cases z
      · rw [e2, e4] at z; cases z
      · rw [e2, e4] at z
        cases z
        rw [e1, e3])
    unfold eqBool
    refine wpAny_holding ?_
    refine wpAny_ite_split (fun z => absurd z neq) (fun _ => ?_)
    rcases h1.val rx with ⟨_, rfl⟩ | ⟨a, _, rfl⟩ <;> exact rest
end
end OTR
set_option Elab.async false
set_option linter.all false
set_option maxRecDepth 100000
set_option maxHeartbeats 2000000
namespace OTR
open PySem PySem.Spec PyProof.Rows L2
open AutoSeq1 (wpAny_loadPart')
open MeetsSeq MeetsSeq2 MeetsSeq3 SeqRoads2
/-- the list at p holds all; x is looked for among the last ones -/
def inAll (R : Rdg) (p : Addr) (all : List V) (x : V) : List V → Hp → (Bool → Hp → Prop) → Prop
  | [], H, Q => H p = some (.lst all) ∧ Q false H
  | y :: ys, H, Q => H p = some (.lst all) ∧ R y x H fun b H' => if b = true then Q true H' else inAll R p all x ys H' Q
theorem inAll.at_ {R : Rdg} {p : Addr} {all ys : List V} {x : V} {H : Hp} {Q : Bool → Hp → Prop} (h : inAll R p all x ys H Q) : H p = some (.lst all) := by
  cases ys <;> exact h.1
section
variable {X : Cx} {n : Nat} {R : Rdg} {p : Addr} {all : List V} {x : V} {u : Value} {Q : Bool → Hp → Prop} {pn : List (Addr × Obj)} {σ : L2.St} {A : Around}
abbrev toldB (X : Cx) (pn : List (Addr × Obj)) (σ : L2.St) (Q : Bool → Hp → Prop) : Value → Shared → Prop := fun v t => ∃ b H, v = .bool b ∧ Inv X pn σ H t ∧ Q b H
end
end OTR
set_option Elab.async false
set_option linter.all false
set_option maxRecDepth 100000
set_option maxHeartbeats 2000000
namespace OTR
open PySem PySem.Spec PyProof.Rows L2
open AutoSeq1 (wpAny_loadPart')
open MeetsSeq MeetsSeq2 MeetsSeq3 SeqRoads2 SeqAt
section
variable {prog : Program} {w : World} {A : Around} {E : Value → Shared → Prop} {t : Shared} {K : PySem.W.Frag} {x C f : Addr} {ox : Obj} {od : Option Obj} {b tb : Value}
theorem ne_body {Q : Fin → Shared → Prop} (hu : A.units < cLine) (kin : K.In t.heap) (J : PySem.W.InstAt t.heap x ox C od) (hs : PySem.W.findIn K (.ref C) "__eq__" = some (some (.ref f))) (hf : PySem.W.isFn K (.ref f) = true)
    (h : wpAny (model prog w) A (call (.ref f) [.ref x, b]) (fun v t' => ∃ r, v = .bool r ∧ Q (.done (.ret (.bool (!r)))) t') E t) : wpAny (model prog w) A (Builtin.«object.__ne__» ⟨[.ref x, b], []⟩) Q E t := by
  unfold Builtin.«object.__ne__»
  repeat (first
    | with_reducible refine wpAny_cRoomFor hu ?_
    | (refine wpAny_bind (m := callSpecialIfBound? (.ref x) (Str.ofString "__eq__") [b]) (PySem.W.ifBound_K kin J hs hf (wpAny_mono h (fun r t' q => by
          obtain ⟨y, rfl, q⟩ := q
          repeat (first | exact q | exact wpAny_pure q | exact wpAny_truthy_bool q | (refine wpAny_bind (m := truthy (.bool _)) (wpAny_truthy_bool ?_)) | wp_step)) fun _ _ z => z)))
    | wp_step)
theorem ne_core {Q : Value → Shared → Prop} (hu : A.units + 1 < cLine) (kin : K.In t.heap) (J : PySem.W.InstAt t.heap x ox C od) (look : PySem.W.Looks (model prog w) t.heap (typeOf b) tb) (nf : PySem.W.notFirst K C tb = true) (hn : PySem.W.findIn K (.ref C) "__ne__" = some (some (.builtin "object.__ne__"))) (hm : PySem.W.mroIn K C (.type "object") = some true)
    (hs : PySem.W.findIn K (.ref C) "__eq__" = some (some (.ref f))) (hf : PySem.W.isFn K (.ref f) = true) (h : wpAny (model prog w) A.in1 (call (.ref f) [.ref x, b]) (fun v t' => ∃ r, v = .bool r ∧ Q (.bool (!r)) t') E t) : wpAny (model prog w) A (richCompare .NotEq (.ref x) b) Q E t := by
  have called : wpAny (model prog w) A (call (.builtin "object.__ne__") [.ref x, b]) (fun v t' => ∃ r, v = .bool r ∧ Q (.bool r) t') E t :=
    wpAny_call (codeAny_call_builtin F.cmp_object.ne.plain F.cmpEntry_ne (PySem.W.check_slot F.cmpKind_ne F.cmpSplit_ne (J.type.andThen (PySem.W.looks_mroIn kin hm)) (F.cmpArgs_ne _ _)
      (ne_body (A := A.in1) hu kin J hs hf (wpAny_mono h (fun v t' q => by
        obtain ⟨r, rfl, q⟩ := q
        exact ⟨r, rfl, _, rfl, q⟩) fun _ _ z => z))))
  have one : wpAny (model prog w) A (tryCompare (.ref x) "__ne__" b) (fun r t' => ∃ v, r = some (.bool v) ∧ Q (.bool v) t') E t := by
    unfold tryCompare
    refine wpAny_bind ?_
    simp only [callSpecialIfBound?, bindSpecialIfBound?]
    refine wpAny_holding (wpAny_bind (wpAny_bind (wpAny_bind (J.type.here ((PySem.W.looks_findIn kin hn).here ?_)))))
    refine wpAny_bind (wpAny_askSetting (wpAny_ite ?_))
    have fin : wpAny (model prog w) A (call (.builtin "object.__ne__") ([.ref x] ++ [b]) >>= fun v => pure (some v)) (fun r t' => wpAny (model prog w) A (match r with | some .notImplemented | none => pure none | some v => pure (some v)) (fun r t' => ∃ v, r = some (.bool v) ∧ Q (.bool v) t') E t') E t :=
      wpAny_bind (wpAny_mono called (fun v t' q => by
        obtain ⟨r, rfl, q⟩ := q
        exact wpAny_pure (wpAny_pure ⟨r, rfl, q⟩)) fun _ _ z => z)
    split
    · exact wpAny_bind (wpAny_of_eq (F.cmp_object.ne.bind _) (wpAny_pure (by exact fin)))
    · exact wpAny_tryCatch (wpAny_bind (wpAny_of_eq (F.cmp_object.ne.bind _) (wpAny_pure (by exact fin))))
  unfold richCompare
  simp only [oneThing_ref]
  refine wpAny_holding (wpAny_bind (wpAny_cRoomFor (Nat.lt_of_succ_lt hu) ?_))
  refine wpAny_bind (J.type.here (wpAny_bind (look.here ?_)))
  split
  · rename_i q
    have e : PySem.W.subIn K tb (.ref C) = some false := by
      rcases Bool.or_eq_true_iff.mp nf with e | e
      · rw [beq_iff_eq.mp e] at q
        simp at q
      · exact beq_iff_eq.mp e
    refine wpAny_bind ((PySem.W.looks_subIn kin e).here ?_)
    simp only [Bool.false_eq_true, if_false]
    refine wpAny_bind (wpAny_mono one (fun r t1 z => ?_) fun _ _ z => z)
    obtain ⟨v, rfl, z⟩ := z
    exact wpAny_pure z
  · refine wpAny_bind (wpAny_pure ?_)
    simp only [Bool.false_eq_true, if_false]
    refine wpAny_bind (wpAny_mono one (fun r t1 z => ?_) fun _ _ z => z)
    obtain ⟨v, rfl, z⟩ := z
    exact wpAny_pure z
end
section
variable {X : Cx} {n : Nat} {C f : Addr} {fd : FuncData} {ps : List Str} {sp : Sp} {R R' : Rdg}
def RNot (R : Rdg) : Rdg := fun x y H Q => R x y H fun b H' => Q (!b) H'
theorem rcB_ne (Fe : FnOk X.prog X.w X.K X.mg X.base CX0 n f fd ps sp) (hs : PySem.W.findIn X.K (.ref C) "__eq__" = some (some (.ref f))) (hf : PySem.W.isFn X.K (.ref f) = true) (hb : Binds X.K fd ps []) (hn : PySem.W.findIn X.K (.ref C) "__ne__" = some (some (.builtin "object.__ne__"))) (hm : PySem.W.mroIn X.K C (.type "object") = some true) : RcB X (n + 1) .NotEq (RNot (ROwn X.K C sp)) := by
  intro A pn t σ H x y u v Q sb I rx ry h
  obtain ⟨a, dx, fs, ty, rfl, ha, hy, nf, h⟩ := h
  have look := hy.looks I ry
  cases (show u = Value.ref a from rx)
  obtain ⟨m, J, _⟩ := ins_get I.hok ha
  obtain ⟨od, J, _⟩ := J.look
  refine ne_core (hu_of sb.room) I.kIn J look nf hn hm hs hf ?_
  refine wpAny_mono (run_own Fe hb sb.in1 I rx ry h) (fun r t' q => ?_) fun _ _ z => z
  obtain ⟨z, H', rz, I', b, rfl, q⟩ := q
  cases (show r = Value.bool b from rz)
  exact ⟨b, rfl, !b, H', rfl, I', q⟩
theorem RcB.mono {op : CmpOp} {m : Nat} (h : RcB X n op R) (le : n ≤ m) : RcB X m op R := fun A pn t σ H x y u v Q sb => h A pn t σ H x y u v Q (sb.mono le)
theorem EqB.mono {m : Nat} (h : EqB X n R) (le : n ≤ m) : EqB X m R := fun A pn t σ H x y u v Q sb => h A pn t σ H x y u v Q (sb.mono le)
/-- as an expression -/
def rCmpB (R : Rdg) : R2 := fun x y H Q => R x y H fun b H' => Q (.bl b) H'
theorem op_eqB (h : RcB X n .Eq R) (hr : Room n X.A) : OpR X (compareOp .Eq) (rCmpB R) := by
  intro pn t σ H x y u v Q I rx ry q
  show wpAny (model X.prog X.w) X.A (richCompare .Eq u v) (EP X pn σ Q) X.xe t
  refine wpAny_mono (h X.A pn t σ H x y u v _ ⟨hr, rfl⟩ I rx ry q) (fun r t' z => ?_) fun _ _ z => z
  obtain ⟨b, H', rfl, I', q⟩ := z
  exact ⟨.bl b, H', I', rfl, q⟩
theorem op_neB (h : RcB X n .NotEq R) (hr : Room n X.A) : OpR X (compareOp .NotEq) (rCmpB R) := by
  intro pn t σ H x y u v Q I rx ry q
  show wpAny (model X.prog X.w) X.A (richCompare .NotEq u v) (EP X pn σ Q) X.xe t
  refine wpAny_mono (h X.A pn t σ H x y u v _ ⟨hr, rfl⟩ I rx ry q) (fun r t' z => ?_) fun _ _ z => z
  obtain ⟨b, H', rfl, I', q⟩ := z
  exact ⟨.bl b, H', I', rfl, q⟩
end
end OTR
set_option Elab.async false
set_option linter.all false
set_option maxRecDepth 100000
set_option maxHeartbeats 2000000
namespace OTR
open PySem PySem.Spec PyProof.Rows L2
open AutoSeq1 (wpAny_loadPart')
open MeetsSeq MeetsSeq2 MeetsSeq3 SeqRoads2 SeqAt
def eqAll (R : Rdg) : List V → List V → Hp → (Bool → Hp → Prop) → Prop
  | [], [], H, Q => Q true H
  | x :: xs, y :: ys, H, Q => R x y H fun b H' => if b = true then eqAll R xs ys H' Q else Q false H'
  | _, _, H, Q => Q false H
def RTup (K : PySem.W.Frag) (R : Rdg) : Rdg := fun x y H Q => ∃ (a b : Addr) (xs ys : List V), x = .ref a ∧ y = .ref b ∧ SqT K H a xs ∧ SqT K H b ys ∧ eqAll R xs ys H Q
section
variable {X : Cx} {n : Nat} {R : Rdg} {pn : List (Addr × Obj)} {σ : L2.St} {A : Around} {E : Value → Shared → Prop}
theorem tup_eq_body {a b : Addr} {us vs : List Value} {xs ys : List V} {H : Hp} {t : Shared} {P : Fin → Shared → Prop} {Q : Bool → Hp → Prop} (eq : EqB X n R) (sb : Sub X n A) (I : Inv X pn σ H t) (ea : t.heap.IsTuple a us.toArray) (eb : t.heap.IsTuple b vs.toArray) (rx : Vals xs us) (ry : Vals ys vs)
    (h : eqAll R xs ys H Q) (k : ∀ r H' t', Inv X pn σ H' t' → Q r H' → P (.done (.ret (.bool r))) t') : wpAny (model X.prog X.w) A (Builtin.«tuple.__eq__» ⟨[.ref a, .ref b], []⟩) P X.xe t := by
  obtain ⟨oa, g1, c1, m1, d1⟩ := ea
  obtain ⟨ob, g2, c2, m2, d2⟩ := eb
  show wpAny _ _ (isInstance (.ref b) (.type "tuple") >>= _) _ _ t
  refine wpAny_bind (wpAny_isInstance ⟨ob, g2, c2⟩ isSubtype_tuple_tuple ?_)
  simp only [Bool.not_true, Bool.false_eq_true, if_false]
  refine wpAny_bind (wpAny_tupleItemsOf g1 d1 ?_)
  refine wpAny_bind (wpAny_tupleItemsOf g2 d2 ?_)
  refine wpAny_bind ?_
  refine wpAny_forIn_list _ (fun rest r t' => r.1 = none ∧ ∃ (xs' ys' : List V) (us' vs' : List Value) (H' : Hp), rest = List.zip us' vs' ∧ Vals xs' us' ∧ Vals ys' vs' ∧ Inv X pn σ H' t' ∧ eqAll R xs' ys' H' Q ∧ (us'.length == vs'.length) = (us.toArray.size == vs.toArray.size))
    _ ?_ ?_ _ _ ⟨rfl, xs, ys, us, vs, H, rfl, rx, ry, I, h, by simp⟩
  · rintro ⟨u, v⟩ rest r t' ⟨hr, xs', ys', us', vs', H', hz, q1, q2, I', h', len⟩
    cases q1 with
    | nil => simp at hz
    | @cons x u' xs'' us'' p1 q1 =>
      cases q2 with
      | nil => simp at hz
      | @cons y v' ys'' vs'' p2 q2 =>
        simp only [List.zip_cons_cons, List.cons.injEq, Prod.mk.injEq] at hz
        obtain ⟨⟨rfl, rfl⟩, rfl⟩ := hz
        refine wpAny_bind (wpAny_mono (eq A pn t' σ H' x y _ _ _ sb I' p1 p2 h') (fun r2 t2 q => ?_) fun _ _ z => z)
        obtain ⟨H2, I2, q⟩ := q
        cases r2 with
        | true =>
          simp only [Bool.not_true, Bool.false_eq_true, if_false]
          exact wpAny_pure ⟨rfl, xs'', ys'', us'', vs'', H2, rfl, q1, q2, I2, q, by simpa using len⟩
        | false =>
          simp only [Bool.not_false, if_true]
          exact wpAny_bind (wpAny_pure (wpAny_pure (wpAny_pure (k false H2 t2 I2 q))))
  · rintro ⟨r1, r2⟩ t' ⟨hr, xs', ys', us', vs', H', hz, q1, q2, I', h', len⟩
    simp only at hr
    subst hr
    refine wpAny_pure ?_
    show P (.done (.ret (.bool (us.toArray.size == vs.toArray.size)))) t'
    rw [← len]
    cases q1 with
    | nil =>
      cases q2 with
      | nil => exact k true H' t' I' h'
      | cons _ _ => exact k false H' t' I' h'
    | cons _ _ =>
      cases q2 with
      | nil => exact k false H' t' I' h'
      | cons _ _ => simp at hz
theorem tup_ne_body {a b : Addr} {us vs : List Value} {xs ys : List V} {H : Hp} {t : Shared} {P : Fin → Shared → Prop} {Q : Bool → Hp → Prop} (eq : EqB X n R) (sb : Sub X n A) (I : Inv X pn σ H t) (ea : t.heap.IsTuple a us.toArray) (eb : t.heap.IsTuple b vs.toArray) (rx : Vals xs us) (ry : Vals ys vs)
    (h : eqAll R xs ys H Q) (k : ∀ r H' t', Inv X pn σ H' t' → Q r H' → P (.done (.ret (.bool (!r)))) t') : wpAny (model X.prog X.w) A (Builtin.«tuple.__ne__» ⟨[.ref a, .ref b], []⟩) P X.xe t := by
  obtain ⟨oa, g1, c1, m1, d1⟩ := ea
  obtain ⟨ob, g2, c2, m2, d2⟩ := eb
  show wpAny _ _ (isInstance (.ref b) (.type "tuple") >>= _) _ _ t
  refine wpAny_bind (wpAny_isInstance ⟨ob, g2, c2⟩ isSubtype_tuple_tuple ?_)
  simp only [Bool.not_true, Bool.false_eq_true, if_false]
  refine wpAny_bind (wpAny_tupleItemsOf g1 d1 ?_)
  refine wpAny_bind (wpAny_tupleItemsOf g2 d2 ?_)
  refine wpAny_bind ?_
  refine wpAny_forIn_list _ (fun rest r t' => r.1 = none ∧ ∃ (xs' ys' : List V) (us' vs' : List Value) (H' : Hp), rest = List.zip us' vs' ∧ Vals xs' us' ∧ Vals ys' vs' ∧ Inv X pn σ H' t' ∧ eqAll R xs' ys' H' Q ∧ (us'.length == vs'.length) = (us.toArray.size == vs.toArray.size))
    _ ?_ ?_ _ _ ⟨rfl, xs, ys, us, vs, H, rfl, rx, ry, I, h, by simp⟩
  · rintro ⟨u, v⟩ rest r t' ⟨hr, xs', ys', us', vs', H', hz, q1, q2, I', h', len⟩
    cases q1 with
    | nil => simp at hz
    | @cons x u' xs'' us'' p1 q1 =>
      cases q2 with
      | nil => simp at hz
      | @cons y v' ys'' vs'' p2 q2 =>
        simp only [List.zip_cons_cons, List.cons.injEq, Prod.mk.injEq] at hz
        obtain ⟨⟨rfl, rfl⟩, rfl⟩ := hz
        refine wpAny_bind (wpAny_mono (eq A pn t' σ H' x y _ _ _ sb I' p1 p2 h') (fun r2 t2 q => ?_) fun _ _ z => z)
        obtain ⟨H2, I2, q⟩ := q
        cases r2 with
        | true =>
          simp only [Bool.not_true, Bool.false_eq_true, if_false]
          exact wpAny_pure ⟨rfl, xs'', ys'', us'', vs'', H2, rfl, q1, q2, I2, q, by simpa using len⟩
        | false =>
          simp only [Bool.not_false, if_true]
          exact wpAny_bind (wpAny_pure (wpAny_pure (wpAny_pure (k false H2 t2 I2 q))))
  · rintro ⟨r1, r2⟩ t' ⟨hr, xs', ys', us', vs', H', hz, q1, q2, I', h', len⟩
    simp only at hr
    subst hr
    refine wpAny_pure ?_
    show P (.done (.ret (.bool (us.toArray.size != vs.toArray.size)))) t'
    show P (.done (.ret (.bool (!(us.toArray.size == vs.toArray.size))))) t'
    rw [← len]
    cases q1 with
    | nil =>
      cases q2 with
      | nil => exact k true H' t' I' h'
      | cons _ _ => exact k false H' t' I' h'
    | cons _ _ =>
      cases q2 with
      | nil => exact k false H' t' I' h'
      | cons _ _ => simp at hz
theorem rcB_tup (eq : EqB X n R) : RcB X (n + 1) .Eq (RTup X.K R) := by
  intro A pn t σ H x y u v Q sb I rx ry h
  obtain ⟨a, b, xs, ys, rfl, rfl, ha, hb, h⟩ := h
  cases (show u = Value.ref a from rx)
  cases (show v = Value.ref b from ry)
  obtain ⟨us, r1, e1, _⟩ := I.tuple ha
  obtain ⟨vs, r2, e2, _⟩ := I.tuple hb
  refine wpAny_richCompare_same_room (op := .Eq) (T := "tuple") (let ⟨o, k1, k2, _⟩ := e1; ⟨o, k1, k2⟩) (let ⟨o, k1, k2, _⟩ := e2; ⟨o, k1, k2⟩) F.slot_tuple_eq (GQ.call_here F.slot_tuple_eq (let ⟨o, k1, k2, _⟩ := e1; ⟨o, k1, k2⟩) F.entry_tuple_eq (F.args_tuple_eq_2 _ _) ?_) sb.room.units0
  exact tup_eq_body eq sb.in1 I e1 e2 r1 r2 h fun r H' t' I' q => ⟨(fun z => nomatch z), r, H', rfl, I', q⟩
theorem rcB_tupNe (eq : EqB X n R) : RcB X (n + 1) .NotEq (RNot (RTup X.K R)) := by
  intro A pn t σ H x y u v Q sb I rx ry h
  obtain ⟨a, b, xs, ys, rfl, rfl, ha, hb, h⟩ := h
  cases (show u = Value.ref a from rx)
  cases (show v = Value.ref b from ry)
  obtain ⟨us, r1, e1, _⟩ := I.tuple ha
  obtain ⟨vs, r2, e2, _⟩ := I.tuple hb
  refine wpAny_richCompare_same_room (op := .NotEq) (T := "tuple") (let ⟨o, k1, k2, _⟩ := e1; ⟨o, k1, k2⟩) (let ⟨o, k1, k2, _⟩ := e2; ⟨o, k1, k2⟩) F.slot_tuple_ne (GQ.call_here F.slot_tuple_ne (let ⟨o, k1, k2, _⟩ := e1; ⟨o, k1, k2⟩) F.entry_tuple_ne (F.args_tuple_ne_2 _ _) ?_) sb.room.units0
  exact tup_ne_body eq sb.in1 I e1 e2 r1 r2 h fun r H' t' I' q => ⟨(fun z => nomatch z), !r, H', rfl, I', q⟩
end
end OTR
set_option Elab.async false
set_option linter.all false
set_option maxRecDepth 100000
set_option maxHeartbeats 2000000
namespace OT
open PySem L2 OTR
abbrev sRoadE : Stmt := inClass (top 17) 1
abbrev sTreeE : Stmt := inClass (top 18) 1
abbrev sPlaceE : Stmt := inClass (top 25) 1
theorem hasTyx {K : PySem.W.Frag} {H : Hp} {x : V} {T : String} (h : HasT H x (.type T)) : TyX K H x (.type T) := by
  cases h with
  | non => exact .base .non
  | tup e => exact .base (.tup e)
  | lst e => exact .base (.lst e)
/-- None, a tuple, a list -/
def oth (T : String) : Prop := T = "NoneType" ∨ T = "tuple" ∨ T = "list"
theorem hasT_oth {H : Hp} {x : V} {T : String} (h : HasT H x (.type T)) : oth T := by
  cases h with
  | non => exact .inl rfl
  | tup e => exact .inr (.inl rfl)
  | lst e => exact .inr (.inr rfl)
/-- a class with an own __eq__ -/
structure QC (K : PySem.W.Frag) (C f : Addr) : Prop where
  cl : Cls K C
  ha : PySem.W.findIn K (.ref C) "__class__" = some (some (.builtin "object.__class__"))
  hn : PySem.W.specialIn K (.builtin "object.__class__") "__get__" = some (some (.builtin "getset_descriptor.__get__"))
  ht : PySem.W.takesIn K (.builtin "object.__class__") = some true
  hm : PySem.W.mroIn K C (.type "object") = some true
  eq : PySem.W.findIn K (.ref C) "__eq__" = some (some (.ref f))
  fn : PySem.W.isFn K (.ref f) = true
  ne : PySem.W.findIn K (.ref C) "__ne__" = some (some (.builtin "object.__ne__"))
  kit : ∀ T, oth T → PySem.W.kitOne K (.type T) (.ref C) = some false
  nf : ∀ T, oth T → PySem.W.notFirst K C (.type T) = true
  sub : ∀ T, oth T → PySem.W.subIn K (.ref C) (.type T) = some false
theorem kit_same {K : PySem.W.Frag} {C : Addr} : PySem.W.kitOne K (.ref C) (.ref C) = some true := by
  unfold PySem.W.kitOne
  rw [if_pos (by simp)]
theorem nf_same {K : PySem.W.Frag} {C : Addr} : PySem.W.notFirst K C (.ref C) = true := by
  unfold PySem.W.notFirst
  simp
theorem QC.tyx {K : PySem.W.Frag} {C f : Addr} (c : QC K C f) {H : Hp} {a dx : Addr} {fs : List (Str × V)} (e : H a = some (.ins C dx fs)) : TyX K H (.ref a) (.ref C) := .base (.ins e c.cl c.ha c.hn c.ht c.hm)
theorem iteV {α β : Prop} {i j : Int} (h : i = j) (x : α) : if decide (V.int i = V.int j) = true then α else β := by
  rw [if_pos (decide_eq_true (by rw [h]))]
  exact x
theorem iteN {α β : Prop} {i j : Int} (h : i ≠ j) (x : β) : if decide (V.int i = V.int j) = true then α else β := by
  rw [if_neg (by rw [decide_eq_false (fun z => h (V.int.inj z))]; exact Bool.false_ne_true)]
  exact x
/-- Road.__eq__ -/
def spRoadE (C : Addr) : Sp := fun vs H Q _ => ∃ (a dx : Addr) (r : Fact) (y : V), vs = [.ref a, y] ∧ H a = some (.ins C dx (rdF r)) ∧ ((∃ (b dy : Addr) (r' : Fact), y = .ref b ∧ H b = some (.ins C dy (rdF r')) ∧ Q (.bl (decide (r = r'))) H) ∨ ((∃ T, HasT H y (.type T)) ∧ Q (.bl false) H))
section
variable {P : Program} {w : World} {K : PySem.W.Frag} {mg : Str → Option Value} {base : Heap}
theorem scRoadE : FnScope ["self", "other"] ["self", "other"] (defScope sRoadE) := ⟨rfl, rfl, rfl, by decide +kernel, rfl, by decide +kernel, by decide +kernel⟩
theorem ok_roadE {f C fe : Addr} {fd : FuncData} (F : Fun K "__eq__" "Road.__eq__" sRoadE f fd) (T : RdT K mg C) (c : QC K C fe) (hIs : mg "isinstance" = none) : FnOk P w K mg base CX0 1 f fd ["self", "other"] (spRoadE C) := by
  refine F.ok scRoadE (fun vs H Q E h => ?_) (fun cdv A outer s H vs Q E hr h => ?_)
  · obtain ⟨a, dx, r, y, rfl, _⟩ := h
    rfl
  · obtain ⟨a, dx, r, y, rfl, ea, h⟩ := h
    refine ⟨_, pss_one (ps_ret (pe_and (pe_callB call_isi (by rfl) hIs (by decide +kernel) (pa_cons (pv 1) (pa_cons (pe_glob (v := V.ref C) rfl T.mgC rfl) pa_nil)))
      (pe_and (pe_cmpR op_eq (pe_fld (pv 0) rfl) (pe_fld (pv 1) rfl) (nomark _)) (pe_and (pe_cmpR op_eq (pe_fld (pv 0) rfl) (pe_fld (pv 1) rfl) (nomark _)) (pe_one (pe_cmpR op_eq (pe_fld (pv 0) rfl) (pe_fld (pv 1) rfl) (nomark _))))))), ?_⟩
    rcases h with ⟨b, dy, r', rfl, eb, k⟩ | ⟨⟨ty, hy⟩, k⟩
    · refine ⟨_, rfl, _, _, _, _, true, rfl, .own C, c.tyx eb, kit_same, _, rfl, ?_⟩
      refine iteT ⟨_, rfl, a, C, dx, _, _, rfl, ea, T.cl, T.nA, rdF_a r, _, rfl, b, C, dy, _, _, rfl, eb, T.cl, T.nA, rdF_a r', rfl, _, rfl, ?_⟩
      by_cases h1 : r.1 = r'.1
      · refine iteV h1 ⟨_, rfl, a, C, dx, _, _, rfl, ea, T.cl, T.nB, rdF_b r, _, rfl, b, C, dy, _, _, rfl, eb, T.cl, T.nB, rdF_b r', rfl, _, rfl, ?_⟩
        by_cases h2 : r.2.1 = r'.2.1
        · refine iteV h2 ⟨_, rfl, a, C, dx, _, _, rfl, ea, T.cl, T.nL, rdF_l r, _, rfl, b, C, dy, _, _, rfl, eb, T.cl, T.nL, rdF_l r', rfl, ?_⟩
          have e : decide (V.int r.2.2 = V.int r'.2.2) = decide (r = r') := by
            rw [decide_eq_decide]
            exact ⟨fun z => Prod.ext h1 (Prod.ext h2 (V.int.inj z)), fun z => by rw [z]⟩
          rw [e]
          exact k
        · refine iteN h2 ?_
          rw [decide_eq_false (fun z : r = r' => h2 (by rw [z]))] at k
          exact k
      · refine iteN h1 ?_
        rw [decide_eq_false (fun z : r = r' => h1 (by rw [z]))] at k
        exact k
    · exact ⟨_, rfl, _, _, _, _, false, rfl, .own C, hasTyx hy, c.kit _ (hasT_oth hy), _, rfl, iteF k⟩
end
end OT
set_option Elab.async false
set_option linter.all false
set_option maxRecDepth 100000
set_option maxHeartbeats 2000000
namespace OT
open PySem L2 OTR
abbrev sPlaceI : Stmt := inClass (top 25) 0
structure PlT (K : PySem.W.Frag) (mg : Str → Option Value) (C : Addr) : Prop where
  cl : Cls K C
  nR : NoAttr K C "road"
  nN : NoAttr K C "number"
  nP : NoAttr K C "parts"
  mgC : mg "Place" = some (.ref C)
/-- a place: road, number, parts -/
def plF (r : Fact) : List (Str × V) := [("road", .int r.1), ("number", .int r.2.1), ("parts", .int r.2.2)]
theorem plF_r (r : Fact) : (plF r).lookup ("road" : Str) = some (.int r.1) := lk0
theorem plF_n (r : Fact) : (plF r).lookup ("number" : Str) = some (.int r.2.1) := by
  unfold plF
  rw [lk1 (by decide +kernel)]
  exact lk0
theorem plF_p (r : Fact) : (plF r).lookup ("parts" : Str) = some (.int r.2.2) := by
  unfold plF
  rw [lk1 (by decide +kernel), lk1 (by decide +kernel)]
  exact lk0
theorem plF_put1 (r : Fact) : putF "number" (.int r.2.1) (putF "road" (.int r.1) []) = ([("road", V.int r.1), ("number", V.int r.2.1)] : List (Str × V)) := by
  have h1 : ¬ (("road" : Str) = "number") := by decide +kernel
  show (if ("road" : Str) = "number" then _ else (("road" : Str), V.int r.1) :: putF "number" (.int r.2.1) []) = _
  rw [if_neg h1]
  rfl
theorem plF_put (r : Fact) : putF "parts" (.int r.2.2) (putF "number" (.int r.2.1) (putF "road" (.int r.1) [])) = plF r := by
  rw [plF_put1]
  have h2 : ¬ (("road" : Str) = "parts") := by decide +kernel
  have h3 : ¬ (("number" : Str) = "parts") := by decide +kernel
  show (if ("road" : Str) = "parts" then _ else (("road" : Str), V.int r.1) :: (if ("number" : Str) = "parts" then _ else (("number" : Str), V.int r.2.1) :: putF "parts" (.int r.2.2) [])) = plF r
  rw [if_neg h2, if_neg h3]
  rfl
def PlaceAt (C : Addr) (H : Hp) (p : Addr) (r : Fact) : Prop := ∃ dx, H p = some (.ins C dx (plF r))
theorem PlaceAt.same {C : Addr} {H H' : Hp} {p : Addr} {r : Fact} (h : PlaceAt C H p r) (s : Same H H') : PlaceAt C H' p r := let ⟨dx, e⟩ := h; ⟨dx, s _ _ e⟩
/-- Place(road, number, parts): its __init__ -/
def spPlaceI (C CB : Addr) : Sp := fun vs H Q E => ∃ (p dx : Addr) (r : Fact), vs = [.ref p, .int r.1, .int r.2.1, .int r.2.2] ∧ H p = some (.ins C dx []) ∧
  (r.2.2 < 1 → Raised CB [("count", .int r.2.2), ("what", .str "parts")] H E) ∧
  (1 ≤ r.2.2 → r.2.2.natAbs.log2 < 9000 ∧ ∀ H', PlaceAt C H' p (low r) → (∀ b o, H b = some o → b ≠ p → H' b = some o) → Q .non H')
section
variable {P : Program} {w : World} {K : PySem.W.Frag} {mg : Str → Option Value} {base : Heap}
theorem scPlaceI : FnScope ["self", "road", "number", "parts", "shared"] ["self", "road", "number", "parts"] (defScope sPlaceI) := ⟨rfl, rfl, rfl, by decide +kernel, rfl, by decide +kernel, by decide +kernel⟩
theorem ok_placeI {f C CB fB : Addr} {fd fdB : FuncData} (F : Fun K "__init__" "Place.__init__" sPlaceI f fd) (T : PlT K mg C) (TB : ErT K mg "BadCount" CB fB)
    (FB : FnOk P w K mg base CX0 1 fB fdB ["self", "what", "count"] (spEr2 CB "what" "count")) (bB : Binds K fdB ["self", "what", "count"] []) (hG : mg "gcd" = some (.builtin "math.gcd")) :
    FnOk P w K mg base (L2.CX P w) 3 f fd ["self", "road", "number", "parts"] (spPlaceI C CB) := by
  refine F.okX scPlaceI (fun vs H Q E h => ?_) (fun cdv A outer s H vs Q E hr h => ?_)
  · obtain ⟨p, dx, r, rfl, _⟩ := h
    rfl
  · obtain ⟨p, dx, r, rfl, hp, kE, kQ⟩ := h
    refine ⟨_, pss_cons (ps_if (pt_cmpR op_lt (pv 3) pe_int (nomark _)) (pss_one (ps_raise rfl (takes_of rfl rfl rfl rfl) (pmk_oex TB.ox TB.iC TB.tI FB hr bB .nil pass0 (by rfl) TB.gC (pa_cons pe_str (pa_cons (pv 3) pa_nil))))) pss_nil)
      (pss_cons (ps_set (i := 4) scPlaceI.nd rfl (Or.inl rfl) (pe_callBfun cr_gcd (by rfl) hG (pa_cons (pv 2) (pa_cons (pv 3) pa_nil))))
      (pss_cons (ps_fld (pv 0) (pv 1) rfl) (pss_cons (ps_fld (pv 0) (pe_op op_fdivW (pv 2) (pv 4)) rfl) (pss_one (ps_fld (pv 0) (pe_op op_fdivW (pv 3) (pv 4)) rfl))))), ?_⟩
    refine ⟨_, rfl, _, _, rfl, rfl, _, rfl, ?_⟩
    by_cases h1 : r.2.2 < 1
    · rw [decide_eq_true h1]
      exact iteT ⟨_, rfl, len2, fun a ha => er2 ha (kE h1)⟩
    · rw [decide_eq_false h1]
      obtain ⟨lg, k⟩ := kQ (by omega)
      have g0 := gcd_pos (a := r.2.1) (b := r.2.2) (by omega)
      have gl := gcd_log (a := r.2.1) (b := r.2.2) (by omega) lg
      refine iteF ?_
      refine ⟨_, rfl, _, rfl, _, _, rfl, ?_⟩
      refine ⟨_, rfl, _, rfl, p, C, dx, [], rfl, hp, T.cl, T.nR, (by show 0 < 1000; decide), ?_⟩
      refine ⟨_, rfl, _, rfl, _, _, rfl, rfl, ⟨g0, gl⟩, _, rfl, p, C, dx, _, rfl, upd_same, T.cl, T.nN, (by show 1 < 1000; decide), ?_⟩
      refine ⟨_, rfl, _, rfl, _, _, rfl, rfl, ⟨g0, gl⟩, _, rfl, p, C, dx, _, rfl, upd_same, T.cl, T.nP, ?_, ?_⟩
      · show (putF "number" (.int (low r).2.1) (putF "road" (.int (low r).1) [])).length < 1000
        rw [plF_put1 (low r)]
        show 2 < 1000
        decide
      · refine k _ ⟨dx, ?_⟩ fun b o e n => ?_
        · rw [← plF_put (low r)]
          exact upd_same
        · rw [upd_ne n, upd_ne n, upd_ne n]
          exact e
theorem scPlaceE : FnScope ["self", "other"] ["self", "other"] (defScope sPlaceE) := ⟨rfl, rfl, rfl, by decide +kernel, rfl, by decide +kernel, by decide +kernel⟩
/-- Place.__eq__ -/
def spPlaceE (C : Addr) : Sp := fun vs H Q _ => ∃ (a dx : Addr) (r : Fact) (y : V), vs = [.ref a, y] ∧ H a = some (.ins C dx (plF r)) ∧ ((∃ (b dy : Addr) (r' : Fact), y = .ref b ∧ H b = some (.ins C dy (plF r')) ∧ Q (.bl (decide (r = r'))) H) ∨ ((∃ T, HasT H y (.type T)) ∧ Q (.bl false) H))
theorem ok_placeE {f C fe : Addr} {fd : FuncData} (F : Fun K "__eq__" "Place.__eq__" sPlaceE f fd) (T : PlT K mg C) (c : QC K C fe) (hIs : mg "isinstance" = none) : FnOk P w K mg base CX0 1 f fd ["self", "other"] (spPlaceE C) := by
  refine F.ok scPlaceE (fun vs H Q E h => ?_) (fun cdv A outer s H vs Q E hr h => ?_)
  · obtain ⟨a, dx, r, y, rfl, _⟩ := h
    rfl
  · obtain ⟨a, dx, r, y, rfl, ea, h⟩ := h
    refine ⟨_, pss_one (ps_ret (pe_and (pe_callB call_isi (by rfl) hIs (by decide +kernel) (pa_cons (pv 1) (pa_cons (pe_glob (v := V.ref C) rfl T.mgC rfl) pa_nil)))
      (pe_and (pe_cmpR op_eq (pe_fld (pv 0) rfl) (pe_fld (pv 1) rfl) (nomark _)) (pe_and (pe_cmpR op_eq (pe_fld (pv 0) rfl) (pe_fld (pv 1) rfl) (nomark _)) (pe_one (pe_cmpR op_eq (pe_fld (pv 0) rfl) (pe_fld (pv 1) rfl) (nomark _))))))), ?_⟩
    rcases h with ⟨b, dy, r', rfl, eb, k⟩ | ⟨⟨ty, hy⟩, k⟩
    · refine ⟨_, rfl, _, _, _, _, true, rfl, .own C, c.tyx eb, kit_same, _, rfl, ?_⟩
      refine iteT ⟨_, rfl, a, C, dx, _, _, rfl, ea, T.cl, T.nR, plF_r r, _, rfl, b, C, dy, _, _, rfl, eb, T.cl, T.nR, plF_r r', rfl, _, rfl, ?_⟩
      by_cases h1 : r.1 = r'.1
      · refine iteV h1 ⟨_, rfl, a, C, dx, _, _, rfl, ea, T.cl, T.nN, plF_n r, _, rfl, b, C, dy, _, _, rfl, eb, T.cl, T.nN, plF_n r', rfl, _, rfl, ?_⟩
        by_cases h2 : r.2.1 = r'.2.1
        · refine iteV h2 ⟨_, rfl, a, C, dx, _, _, rfl, ea, T.cl, T.nP, plF_p r, _, rfl, b, C, dy, _, _, rfl, eb, T.cl, T.nP, plF_p r', rfl, ?_⟩
          have e : decide (V.int r.2.2 = V.int r'.2.2) = decide (r = r') := by
            rw [decide_eq_decide]
            exact ⟨fun z => Prod.ext h1 (Prod.ext h2 (V.int.inj z)), fun z => by rw [z]⟩
          rw [e]
          exact k
        · refine iteN h2 ?_
          rw [decide_eq_false (fun z : r = r' => h2 (by rw [z]))] at k
          exact k
      · refine iteN h1 ?_
        rw [decide_eq_false (fun z : r = r' => h1 (by rw [z]))] at k
        exact k
    · exact ⟨_, rfl, _, _, _, _, false, rfl, .own C, hasTyx hy, c.kit _ (hasT_oth hy), _, rfl, iteF k⟩
end
end OT
set_option Elab.async false
set_option linter.all false
set_option maxRecDepth 100000
set_option maxHeartbeats 2000000
namespace OT
open PySem L2 OTR
theorem rdF_inj {r r' : Fact} (h : rdF r = rdF r') : r = r' := by
  unfold rdF at h
  simp only [List.cons.injEq, Prod.mk.injEq, V.int.injEq, true_and, and_true] at h
  exact Prod.ext h.1 (Prod.ext h.2.1 h.2.2)
theorem RoadAt.inj {CR : Addr} {H : Hp} {p : Addr} {r r' : Fact} (h : RoadAt CR H p r) (k : RoadAt CR H p r') : r = r' := by
  obtain ⟨dx, e⟩ := h
  obtain ⟨dy, e'⟩ := k
  rw [e] at e'
  injection e' with e'
  injection e' with _ _ e'
  exact rdF_inj e'
/-- two roads compared: each is itself, else by their fields -/
theorem eq_road {K : PySem.W.Frag} {CR : Addr} {H : Hp} {p p' : Addr} {r r' : Fact} {Q : Bool → Hp → Prop} (h : RoadAt CR H p r) (k : RoadAt CR H p' r') (q : Q (decide (r = r')) H) : ROr (ROwn K CR (spRoadE CR)) (.ref p) (.ref p') H Q := by
  by_cases e : p = p'
  · subst e
    refine .inl ⟨p, rfl, rfl, ?_⟩
    rw [decide_eq_true (h.inj k)] at q
    exact q
  · obtain ⟨dx, e1⟩ := h
    obtain ⟨dy, e2⟩ := k
    exact .inr ⟨⟨_, _, .ins e1, .ins e2⟩, fun z => e (V.ref.inj z), p, dx, rdF r, _, rfl, e1, .ins e2, nf_same, p, dx, r, _, rfl, e1, .inl ⟨p', dy, r', rfl, e2, _, rfl, q⟩⟩
theorem eqAll_roads {K : PySem.W.Frag} {CR : Addr} {H : Hp} {Q : Bool → Hp → Prop} : ∀ {ps ps' : List Addr} {F F' : List Fact}, RoadsAt CR H ps F → RoadsAt CR H ps' F' → Q (decide (F = F')) H → eqAll (ROr (ROwn K CR (spRoadE CR))) (ps.map V.ref) (ps'.map V.ref) H Q
  | _, _, _, _, .nil, .nil, q => q
  | _, _, _, _, .nil, .cons _ _, q => q
  | _, _, _, _, .cons _ _, .nil, q => q
  | _, _, _, _, .cons (b := r) h t, .cons (b := r') k u, q => by
    refine eq_road h k ?_
    by_cases e : r = r'
    · subst e
      rw [decide_eq_true rfl, if_pos rfl]
      refine eqAll_roads t u ?_
      have z : ∀ F F' : List Fact, decide (r :: F = r :: F') = decide (F = F') := fun F F' => by simp
      rw [z] at q
      exact q
    · rw [decide_eq_false e, if_neg Bool.false_ne_true]
      rw [decide_eq_false (fun z => e (List.cons.inj z).1)] at q
      exact q
/-- Tree.__eq__ -/
def spTreeE (K : PySem.W.Frag) (CT CR : Addr) : Sp := fun vs H Q _ => ∃ (a : Addr) (n : Int) (ps : List Addr) (F : List Fact) (y : V), vs = [.ref a, y] ∧ TreeAt K CT CR H a n ps F ∧
  ((∃ (b : Addr) (n' : Int) (ps' : List Addr) (F' : List Fact), y = .ref b ∧ TreeAt K CT CR H b n' ps' F' ∧ Q (.bl (decide (n = n' ∧ F = F'))) H) ∨ ((∃ T, HasT H y (.type T)) ∧ Q (.bl false) H))
section
variable {P : Program} {w : World} {K : PySem.W.Frag} {mg : Str → Option Value} {base : Heap}
theorem scTreeE : FnScope ["self", "other"] ["self", "other"] (defScope sTreeE) := ⟨rfl, rfl, rfl, by decide +kernel, rfl, by decide +kernel, by decide +kernel⟩
theorem ok_treeE {f C fe CR fR : Addr} {fd fdR : FuncData} (F : Fun K "__eq__" "Tree.__eq__" sTreeE f fd) (T : TeT K mg C) (c : QC K C fe) (cR : QC K CR fR) (FR : FnOk P w K mg base CX0 1 fR fdR ["self", "other"] (spRoadE CR)) (bR : Binds K fdR ["self", "other"] []) (hIs : mg "isinstance" = none) :
    FnOk P w K mg base CX0 3 f fd ["self", "other"] (spTreeE K C CR) := by
  refine F.ok scTreeE (fun vs H Q E h => ?_) (fun cdv A outer s H vs Q E hr h => ?_)
  · obtain ⟨a, n, ps, F, y, rfl, _⟩ := h
    rfl
  · obtain ⟨a, n, ps, F, y, rfl, TA, h⟩ := h
    refine ⟨_, pss_one (ps_ret (pe_and (pe_callB call_isi (by rfl) hIs (by decide +kernel) (pa_cons (pv 1) (pa_cons (pe_glob (v := V.ref C) rfl T.mgC rfl) pa_nil)))
      (pe_and (pe_cmpR op_eq (pe_fld (pv 0) rfl) (pe_fld (pv 1) rfl) (nomark _)) (pe_one (pe_cmpR (op_eqB (rcB_tup (RcB.eqB (rcB_own FR cR.eq cR.fn bR))) hr) (pe_fld (pv 0) rfl) (pe_fld (pv 1) rfl) (nomark _)))))), ?_⟩
    obtain ⟨dx, t, d, kvs, ea, et, rds, _⟩ := TA
    rcases h with ⟨b, n', ps', F', rfl, TB, k⟩ | ⟨⟨ty, hy⟩, k⟩
    · obtain ⟨dy, t', d', kvs', eb, et', rds', _⟩ := TB
      refine ⟨_, rfl, _, _, _, _, true, rfl, .own C, c.tyx eb, kit_same, _, rfl, ?_⟩
      refine iteT ⟨_, rfl, a, C, dx, _, _, rfl, ea, T.cl, T.nC, teF_c n t d, _, rfl, b, C, dy, _, _, rfl, eb, T.cl, T.nC, teF_c n' t' d', rfl, _, rfl, ?_⟩
      by_cases h1 : n = n'
      · refine iteV h1 ⟨_, rfl, a, C, dx, _, _, rfl, ea, T.cl, T.nR, teF_r n t d, _, rfl, b, C, dy, _, _, rfl, eb, T.cl, T.nR, teF_r n' t' d', t, t', _, _, rfl, rfl, et, et', eqAll_roads rds rds' ?_⟩
        have z : decide (n = n' ∧ F = F') = decide (F = F') := by rw [decide_eq_decide]; exact ⟨fun z => z.2, fun z => ⟨h1, z⟩⟩
        rw [z] at k
        exact k
      · refine iteN h1 ?_
        rw [decide_eq_false (fun z : n = n' ∧ F = F' => h1 z.1)] at k
        exact k
    · exact ⟨_, rfl, _, _, _, _, false, rfl, .own C, hasTyx hy, c.kit _ (hasT_oth hy), _, rfl, iteF k⟩
end
end OT
set_option Elab.async false
set_option linter.all false
set_option maxRecDepth 100000
set_option maxHeartbeats 2000000
namespace OT
open PySem L2 OTR
theorem sqL_but {K : PySem.W.Frag} {H H' : Hp} {s l : Addr} {xs : List V} (h : SqL K H l xs) (n : l ≠ s) (e : But s H H') : SqL K H' l xs := by
  rcases h with (h | ⟨o, h⟩) | h
  · exact .inl (.inl (e _ _ h n))
  · exact .inl (.inr ⟨o, e _ _ h n⟩)
  · exact .inr h
theorem Src.same {s : Addr} {H H' : Hp} (h : Src H s) (e : Same H H') : Src H' s := let ⟨a, b, c, h0, h1⟩ := h; ⟨a, b, c, h0, e _ _ h1⟩
theorem Src.ne {s l : Addr} {H : Hp} {o : HO} (h : Src H s) (hl : H l = some o) (d : ∀ a b c : Int, o ≠ .lst [.int a, .int b, .int c]) : l ≠ s := fun z => by
  obtain ⟨a, b, c, _, h1⟩ := h
  rw [z, h1] at hl
  exact d a b c (Option.some.inj hl).symm
theorem Src.new {s l : Addr} {H : Hp} (h : Src H s) (hl : H l = none) : l ≠ s := fun z => by
  obtain ⟨a, b, c, _, h1⟩ := h
  rw [z, h1] at hl
  cases hl
theorem But.new {s l : Addr} {H H' : Hp} {o : HO} (b : But s H H') (hl : H l = none) : But s H (L2.upd H' l o) := fun c u e n => by
  rw [upd_ne (ne_of_none e hl)]
  exact b c u e n
theorem Src.upd {s l : Addr} {H : Hp} {o : HO} (h : Src H s) (n : l ≠ s) : Src (L2.upd H l o) s := let ⟨a, b, c, h0, h1⟩ := h; ⟨a, b, c, h0, by rw [upd_ne (Ne.symm n)]; exact h1⟩
def spShuf : Sp := fun vs H Q _ => ∃ (s l : Addr) (xs : List V), vs = [.ref s, .ref l] ∧ Src H s ∧ H l = some (.lst xs) ∧ xs.length ≤ 1000 ∧ ∀ p ys H', ys.Perm xs → H p = none → H' p = some (.lst ys) → Src H' s → But s H H' → Q (.ref p) H'
theorem seqIx {i : Int} {n : Nat} (h0 : 0 ≤ i) (h1 : i < n) : seqIndex? i n = some i.toNat := by
  unfold seqIndex?
  have e : (if i < 0 then i + (n : Int) else i) = i := if_neg (by omega)
  simp only [e]
  rw [if_pos (by simp; omega)]
theorem perm_erase {α : Type} : ∀ {l : List α} {k : Nat} {y : α}, l[k]? = some y → (y :: l.eraseIdx k).Perm l
  | [], k, y, h => by simp at h
  | a :: l, 0, y, h => by
    have e := Option.some.inj h
    subst e
    exact List.Perm.refl _
  | a :: l, k + 1, y, h => by
    have ih := perm_erase (l := l) (k := k) (y := y) h
    exact (List.Perm.swap a y _).trans (ih.cons a)
section
variable {P : Program} {w : World} {K : PySem.W.Frag} {mg : Str → Option Value} {base : Heap}
theorem scPick : FnScope ["_law_source_here", "_law_items"] ["_law_source_here", "_law_items"] (defScope sChoice) := ⟨rfl, rfl, rfl, by decide +kernel, rfl, by decide +kernel, by decide +kernel⟩
theorem ok_pick {f fD : Addr} {fd fdD : FuncData} (F : Fun K "_law_choice" "_law_choice" sChoice f fd) (FD : FnOk P w K mg base CX0 1 fD fdD ["_law_source_here", "_law_bound"] spDraw) (bD : Binds K fdD ["_law_source_here", "_law_bound"] []) (mD : mg "_law_draw" = some (.ref fD)) (kD : PySem.W.keepIn K (.ref fD) = true)
    (hLen : mg "len" = none) : FnOk P w K mg base CX0 2 f fd ["_law_source_here", "_law_items"] (spPick K) := by
  refine F.ok scPick (fun vs H Q E h => ?_) (fun cdv A outer s H vs Q E hr h => ?_)
  · obtain ⟨s, l, xs, rfl, _⟩ := h
    rfl
  · obtain ⟨s, l, xs, rfl, hs, hn, hl, l0, l1, k⟩ := h
    refine ⟨_, pss_one (ps_ret (pe_ix ix_list (pv 1) (pe_call FD hr rfl mD kD bD .nil pass0 (pa_cons (pv 0) (pa_cons (pe_callB call_len_seq (by rfl) hLen PySem.boot_len (pa_cons (pv 1) pa_nil)) pa_nil))) (fun _ _ => rfl))), ?_⟩
    refine ⟨_, rfl, _, rfl, _, rfl, l, xs, rfl, .inl hl, s, _, rfl, hs, by omega, by omega, fun r H' r0 r1 src b => ?_⟩
    obtain ⟨j, rfl⟩ : ∃ j : Nat, r = (j : Int) := ⟨r.toNat, by omega⟩
    have hj : j < xs.length := by omega
    exact ⟨l, xs, (j : Int), xs[j], rfl, rfl, sqL_but hl hn b, atI_nat (List.getElem?_eq_getElem hj), k _ _ (List.getElem_mem hj) src b⟩
theorem scShuf : FnScope ["_law_source_here", "_law_items", "_law_remaining", "_law_result"] ["_law_source_here", "_law_items"] (defScope sShuf) := ⟨rfl, rfl, rfl, by decide +kernel, rfl, by decide +kernel, by decide +kernel⟩
theorem ok_shuf {f fD : Addr} {fd fdD : FuncData} (F : Fun K "_law_shuffled" "_law_shuffled" sShuf f fd) (FD : FnOk P w K mg base CX0 1 fD fdD ["_law_source_here", "_law_bound"] spDraw) (bD : Binds K fdD ["_law_source_here", "_law_bound"] []) (mD : mg "_law_draw" = some (.ref fD)) (kD : PySem.W.keepIn K (.ref fD) = true)
    (hLen : mg "len" = none) (hList : mg "list" = none) : FnOk P w K mg base CX0 2 f fd ["_law_source_here", "_law_items"] spShuf := by
  refine F.ok scShuf (fun vs H Q E h => ?_) (fun cdv A outer s H vs Q E hr h => ?_)
  · obtain ⟨s, l, xs, rfl, _⟩ := h
    rfl
  · obtain ⟨s, l, xs, rfl, hs, hl, lx, k⟩ := h
    have hu : (A.deeper (PyProof.Rows.envOfC "_law_shuffled" (defScope sShuf) _ f cdv)).units < cLine := Nat.lt_of_succ_lt (hu_of hr)
    refine ⟨_, pss_cons (ps_set (i := 2) scShuf.nd rfl (Or.inl rfl) (pe_callTy call_list_of (by rfl) hList (by decide +kernel) (pa_cons (pv 1) pa_nil)))
      (pss_cons (ps_set (i := 3) scShuf.nd rfl (Or.inl rfl) (pe_lst pa_nil))
      (pss_cons (ps_while PassesOwn.never (pt_cmpR (op_neNil hu) (pv 2) (pe_lst pa_nil) (nomark _))
        (pss_one (ps_expr (pe_bm PySem.F.plainAttrs_list PySem.F.slot_list_append PySem.F.type_list_append mt_append (pv 3)
          (pa_cons (pe_bm PySem.F.plainAttrs_list PySem.F.slot_list_pop PySem.F.type_list_pop mt_popAt (pv 2) (pa_cons (pe_call FD hr rfl mD kD bD .nil pass0 (pa_cons (pv 0) (pa_cons (pe_callB call_len_seq (by rfl) hLen PySem.boot_len (pa_cons (pv 2) pa_nil)) pa_nil))) pa_nil)) pa_nil)))))
      (pss_one (ps_ret (pv 3))))), ?_⟩
    refine ⟨_, rfl, l, xs, rfl, .inl (SqL.of hl), fun p2 h2 => ⟨Nat.zero_le _, fun p3 h3 => ?_⟩⟩
    have n2 : p2 ≠ s := hs.new h2
    have hs2 : Src (upd H p2 (.lst xs)) s := hs.same (Same.new h2)
    have n3 : p3 ≠ s := hs2.new h3
    have n32 : p2 ≠ p3 := ne_of_none upd_same h3
    have H3 : H p3 = none := by
      rw [upd_ne (Ne.symm n32)] at h3
      exact h3
    refine ⟨fun m σ H2 => ∃ ls fs : List V, σ = [some (.ref s), some (.ref l), some (.ref p2), some (.ref p3)] ∧ H2 p2 = some (.lst ls) ∧ H2 p3 = some (.lst fs) ∧ (fs ++ ls).Perm xs ∧ Src H2 s ∧ But s H H2 ∧ m = ls.length,
      ⟨xs.length, xs, [], rfl, by rw [upd_ne n32]; exact upd_same, upd_same, List.Perm.refl _, hs2.same (Same.new h3), fun b o e nb => by rw [upd_ne (ne_of_none e H3), upd_ne (ne_of_none e h2)]; exact e, rfl⟩, ?_⟩
    rintro m σ H2 ⟨ls, fs, rfl, g2, g3, pm, src, b2, rfl⟩
    refine ⟨_, rfl, Nat.zero_le _, fun q hq => ⟨p2, q, ls, rfl, rfl, SqL.of (by rw [upd_ne (ne_of_none g2 hq)]; exact g2), SqL.of upd_same, _, rfl, ?_⟩⟩
    have sq : Same H2 (upd H2 q (.lst [])) := Same.new hq
    have ltot : ls.length ≤ 1000 := by
      have := pm.length_eq
      rw [List.length_append] at this
      omega
    have ftot : fs.length ≤ 1000 := by
      have := pm.length_eq
      rw [List.length_append] at this
      omega
    cases ls with
    | nil =>
      refine iteF ⟨_, rfl, k p3 fs _ (by rw [List.append_nil] at pm; exact pm) H3 (sq _ _ g3) (src.same sq) fun b o e nb => sq b o (b2 b o e nb)⟩
    | cons y ys =>
      refine iteT ⟨fun σ' H' => ∃ ls' fs' : List V, σ' = [some (.ref s), some (.ref l), some (.ref p2), some (.ref p3)] ∧ H' p2 = some (.lst ls') ∧ H' p3 = some (.lst fs') ∧ (fs' ++ ls').Perm xs ∧ Src H' s ∧ But s H H' ∧ ls'.length < (y :: ys).length,
        fun σ' H' ⟨ls', fs', e1, e2, e3, e4, e5, e6, e7⟩ => ⟨ls'.length, e7, ls', fs', e1, e2, e3, e4, e5, e6, rfl⟩, ?_⟩
      refine ⟨_, rfl, .inl ⟨rfl, _, SqL.of (sq _ _ g3)⟩, _, rfl, .inl ⟨rfl, _, SqL.of (sq _ _ g2)⟩, _, rfl, _, rfl, p2, y :: ys, rfl, .inl (SqL.of (sq _ _ g2)), s, _, rfl, src.same sq, by rw [List.length_cons]; omega, by omega, fun r H5 r0 r1 src5 b5 => ?_⟩
      have g25 := b5 _ _ (sq _ _ g2) n2
      have g35 := b5 _ _ (sq _ _ g3) n3
      obtain ⟨j, rfl⟩ : ∃ j : Nat, r = (j : Int) := ⟨r.toNat, by omega⟩
      have hj : j < (y :: ys).length := by omega
      refine ⟨p2, y :: ys, (j : Int), j, (y :: ys)[j], rfl, rfl, g25, by omega, by omega, by rw [seqIx r0 r1]; simp, List.getElem?_eq_getElem hj, ?_⟩
      refine ⟨p3, fs, _, rfl, rfl, by rw [upd_ne (Ne.symm n32)]; exact g35, small1000 ftot, ?_⟩
      have pe := perm_erase (List.getElem?_eq_getElem hj)
      refine ⟨(y :: ys).eraseIdx j, fs ++ [(y :: ys)[j]], rfl, by rw [upd_ne n32]; exact upd_same, upd_same, ?_, (src5.upd n2).upd n3, fun b o e nb => ?_, ?_⟩
      · rw [List.append_assoc]
        exact (List.Perm.append_left fs pe).trans pm
      · rw [upd_ne (ne_of_none e H3), upd_ne (ne_of_none e h2)]
        exact b5 b o (sq b o (b2 b o e nb)) nb
      · rw [List.length_eraseIdx_of_lt hj]
        omega
end
end OT
set_option Elab.async false
set_option linter.all false
set_option maxRecDepth 100000
set_option maxHeartbeats 2000000
namespace OT
open PySem L2 OTR
def TupAt (H : Hp) (t : Addr) (r : Fact) : Prop := H t = some (.tup [.int r.1, .int r.2.1, .int r.2.2])
theorem TupAt.but {H H' : Hp} {s t : Addr} {r : Fact} (h : TupAt H t r) (src : Src H s) (b : But s H H') : TupAt H' t r := b _ _ h (src.ne h fun _ _ _ z => nomatch z)
theorem tups_but {H H' : Hp} {s : Addr} {ts : List Addr} {fs : List Fact} (h : Paired (TupAt H) ts fs) (src : Src H s) (b : But s H H') : Paired (TupAt H') ts fs := by
  induction h with
  | nil => exact .nil
  | cons a _ ih => exact .cons (a.but src b) ih
theorem tups_same {H H' : Hp} {ts : List Addr} {fs : List Fact} (h : Paired (TupAt H) ts fs) (b : Same H H') : Paired (TupAt H') ts fs := by
  induction h with
  | nil => exact .nil
  | cons a _ ih => exact .cons (b _ _ a) ih
theorem paired_snoc {α β : Type} {R : α → β → Prop} {as : List α} {bs : List β} {a : α} {b : β} (h : Paired R as bs) (x : R a b) : Paired R (as ++ [a]) (bs ++ [b]) := by
  induction h with
  | nil => exact .cons x .nil
  | cons y _ ih => exact .cons y ih
theorem tups_put {H : Hp} {p : Addr} {xs ys : List V} {ts : List Addr} {fs : List Fact} (h : Paired (TupAt H) ts fs) (hp : H p = some (.lst xs)) : Paired (TupAt (upd H p (.lst ys))) ts fs := by
  induction h with
  | nil => exact .nil
  | cons a _ ih =>
    refine .cons ?_ ih
    unfold TupAt at a ⊢
    rw [upd_ne (ne_of a hp (fun z => nomatch z))]
    exact a
theorem But.put {s p : Addr} {H G : Hp} {o : HO} (b : But s H G) (hp : H p = none) : But s H (L2.upd G p o) := fun c u e n => by
  rw [upd_ne (ne_of_none e hp)]
  exact b c u e n
/-- at q a list of triples -/
def FactsAt (H : Hp) (q : Addr) (fs : List Fact) : Prop := ∃ ts : List Addr, H q = some (.lst (ts.map V.ref)) ∧ Paired (TupAt H) ts fs
theorem perm_map {α β : Type} {f : α → β} : ∀ {ys : List β} {l : List α}, ys.Perm (l.map f) → ∃ l' : List α, ys = l'.map f ∧ l'.Perm l := by
  intro ys l p
  generalize h : l.map f = zs at p
  induction p generalizing l with
  | nil =>
    cases l with
    | nil => exact ⟨[], rfl, .nil⟩
    | cons a l => cases h
  | cons x _ ih =>
    cases l with
    | nil => cases h
    | cons a l =>
      injection h with h1 h2
      obtain ⟨l', e, q⟩ := ih h2
      exact ⟨a :: l', by rw [List.map_cons, h1, e], q.cons a⟩
  | swap x y zs =>
    cases l with
    | nil => cases h
    | cons a l =>
      cases l with
      | nil =>
        injection h with h1 h2
        cases h2
      | cons b l =>
        injection h with h1 h2
        injection h2 with h2 h3
        exact ⟨b :: a :: l, by rw [List.map_cons, List.map_cons, h1, h2, h3], .swap a b l⟩
  | trans _ _ ih1 ih2 =>
    obtain ⟨l1, e1, q1⟩ := ih2 h
    obtain ⟨l2, e2, q2⟩ := ih1 e1.symm
    exact ⟨l2, e2, q2.trans q1⟩
theorem perm_paired {α β : Type} {R : α → β → Prop} : ∀ {as' as : List α}, as'.Perm as → ∀ {bs : List β}, Paired R as bs → ∃ bs', Paired R as' bs' ∧ bs'.Perm bs := by
  intro as' as p
  induction p with
  | nil =>
    intro bs h
    cases h
    exact ⟨[], .nil, .nil⟩
  | cons x _ ih =>
    intro bs h
    cases h with
    | cons y t =>
      obtain ⟨b', h', q⟩ := ih t
      exact ⟨_ :: b', .cons y h', q.cons _⟩
  | swap x y zs =>
    intro bs h
    cases h with
    | cons a t =>
      cases t with
      | cons b t => exact ⟨_ :: _ :: _, .cons b (.cons a t), .swap _ _ _⟩
  | trans _ _ ih1 ih2 =>
    intro bs h
    obtain ⟨b1, h1, q1⟩ := ih2 h
    obtain ⟨b2, h2, q2⟩ := ih1 h1
    exact ⟨b2, h2, q2.trans q1⟩
theorem one_con {os : List Int} {fs : List Fact} {x y : Int} (hx : x ∈ os.take (0 + 1)) (hy : y ∈ os.take (0 + 1)) : Con fs x y := by
  cases os with
  | nil => cases hx
  | cons a r =>
    rw [List.take_succ_cons, List.take_zero] at hx hy
    rw [List.mem_singleton.mp hx, List.mem_singleton.mp hy]
    exact .refl a
/-- the roads drawn so far: their ends among the first crossings of the order -/
structure Part (os : List Int) (long : Int) (i : Nat) (fs : List Fact) : Prop where
  len : fs.length = i
  ok : ∀ r ∈ fs, r.1 ∈ os.take (i + 1) ∧ r.2.1 ∈ os.take (i + 1) ∧ 1 ≤ r.2.2 ∧ (r.2.2 ≤ 2 ∨ r.2.2 ≤ long)
  nr : NoRing fs
  con : ∀ x y, x ∈ os.take (i + 1) → y ∈ os.take (i + 1) → Con fs x y
theorem Part.add {os : List Int} {long : Int} {i j : Nat} {fs : List Fact} {r : Fact} {a b : Int} (h : Part os long i fs) (nd : os.Nodup) (ha : os[i + 1]? = some a) (hb : os[j]? = some b) (hj : j ≤ i) (e : (r.1 = a ∧ r.2.1 = b) ∨ (r.1 = b ∧ r.2.1 = a))
    (l1 : 1 ≤ r.2.2) (l2 : r.2.2 ≤ 2 ∨ r.2.2 ≤ long) : Part os long (i + 1) (fs ++ [r]) := by
  have tk : os.take (i + 1 + 1) = os.take (i + 1) ++ [a] := take_get ha
  have mb : b ∈ os.take (i + 1) := List.mem_of_getElem? (i := j) (by rw [List.getElem?_take, if_pos (by omega)]; exact hb)
  have na : a ∉ os.take (i + 1) := fun m => by
    obtain ⟨q, hq, eq⟩ := List.getElem_of_mem m
    rw [List.length_take] at hq
    rw [List.getElem_take] at eq
    have h1 := (List.getElem?_eq_some_iff.mp ha)
    obtain ⟨h2, h3⟩ := h1
    have := (List.getElem_inj nd).mp (eq.trans h3.symm)
    omega
  have ba : b ≠ a := fun z => na (z ▸ mb)
  refine ⟨by rw [List.length_append, h.len]; rfl, fun q hq => ?_, noRing_add h.nr (fun q hq => ?_) e ba, fun x y hx hy => ?_⟩
  · rw [tk]
    rcases List.mem_append.mp hq with hq | hq
    · obtain ⟨x, y, z⟩ := h.ok q hq
      exact ⟨List.mem_append_left _ x, List.mem_append_left _ y, z⟩
    · obtain rfl := List.mem_singleton.mp hq
      have m1 : a ∈ os.take (i + 1) ++ [a] := List.mem_append_right _ (List.mem_singleton.mpr rfl)
      have m2 : b ∈ os.take (i + 1) ++ [a] := List.mem_append_left _ mb
      rcases e with ⟨e1, e2⟩ | ⟨e1, e2⟩
      · rw [e1, e2]
        exact ⟨m1, m2, l1, l2⟩
      · rw [e1, e2]
        exact ⟨m2, m1, l1, l2⟩
  · obtain ⟨x, y, _⟩ := h.ok q hq
    exact ⟨fun z => na (z ▸ x), fun z => na (z ▸ y)⟩
  · have old : ∀ {x y : Int}, x ∈ os.take (i + 1) → y ∈ os.take (i + 1) → Con (fs ++ [r]) x y := fun hx hy => (h.con _ _ hx hy).mono fun q hq => List.mem_append_left _ hq
    have ab : Con (fs ++ [r]) a b := Con.one (r := r) (List.mem_append_right _ (List.mem_singleton.mpr rfl)) e
    have to : ∀ {x : Int}, x ∈ os.take (i + 1 + 1) → Con (fs ++ [r]) x b := fun hx => by
      rw [tk] at hx
      rcases List.mem_append.mp hx with c | c
      · exact old c mb
      · rw [List.mem_singleton.mp c]
        exact ab
    exact (to hx).trans (to hy).symm
end OT
set_option Elab.async false
set_option linter.all false
set_option maxRecDepth 100000
set_option maxHeartbeats 1000000
namespace OTR
open PySem PySem.Spec PyProof.Rows L2
theorem kb_of {K : PySem.W.Frag} {x qual : Str} {st : Stmt} {f : Addr} {fd : FuncData} {ps ks : List Str} {n : Nat} (F : Fun K x qual st f fd) (g : {α : Type} → List α → List α → List α)
    (rel : ∀ {vs zs : List V} {us ws : List Value}, Vals vs us → Vals zs ws → Vals (g vs zs) (g us ws))
    (h : ∀ (kV doc pm : Value) (an : Option Addr) (cdv ct : Value) (us ws : List Value), us.length = n → ws.length = ks.length → bindArgs (PySem.W.fnOf x qual (defArgs st) (defBody st) (defScope st) .none kV doc pm an cdv ct) ⟨us, ks.zip ws⟩ = pure (ps.zip (g us ws))) :
    KBn K fd ps n ks (fun us ws => g us ws) (fun vs zs => g vs zs) := by
  obtain ⟨oc, od, kV, doc, pm, an, cdv, ct, osl, rfl, lk, hcd⟩ := F.ex
  exact ⟨fun s us ws X l1 l2 => .of_eq (h kV doc pm an cdv ct us ws l1 l2), fun r1 r2 => rel r1 r2⟩
end OTR
set_option Elab.async false
set_option linter.all false
set_option maxRecDepth 100000
set_option maxHeartbeats 2000000
namespace OT
open PySem L2 OTR
def Kp (H H' : Hp) : Prop := ∀ b o, H b = some o → (∀ xs, o ≠ .lst xs) → H' b = some o
theorem Kp.of {H H' : Hp} (s : Same H H') : Kp H H' := fun b o e _ => s b o e
theorem Kp.trans {H H1 H2 : Hp} (k : Kp H H1) (l : Kp H1 H2) : Kp H H2 := fun b o e n => l b o (k b o e n) n
theorem Kp.put {H : Hp} {q : Addr} {xs ys : List V} (h : H q = some (.lst xs)) : Kp H (upd H q (.lst ys)) := fun b o e n => by
  rw [upd_ne (fun z => by
    rw [z, h] at e
    exact n xs (Option.some.inj e).symm)]
  exact e
theorem Kp.src {H H' : Hp} {s : Addr} (src : Src H s) (b : But s H H') : Kp H H' := fun c o e n => b c o e (src.ne e fun x y z q => n _ q)
theorem sqT_kp {K : PySem.W.Frag} {H H' : Hp} {p : Addr} {xs : List V} (h : SqT K H p xs) (k : Kp H H') : SqT K H' p xs := by
  rcases h with (h | ⟨o, h⟩) | h
  · exact .inl (.inl (k _ _ h fun _ z => nomatch z))
  · exact .inl (.inr ⟨o, k _ _ h fun _ z => nomatch z⟩)
  · exact .inr h
theorem RoadAt.kp {CR : Addr} {H H' : Hp} {p : Addr} {r : Fact} (h : RoadAt CR H p r) (k : Kp H H') : RoadAt CR H' p r := let ⟨dx, e⟩ := h; ⟨dx, k _ _ e fun _ z => nomatch z⟩
theorem RoadsAt.kp {CR : Addr} {H H' : Hp} {ps : List Addr} {F : List Fact} (h : RoadsAt CR H ps F) (k : Kp H H') : RoadsAt CR H' ps F := by
  unfold RoadsAt at h ⊢
  induction h with
  | nil => exact .nil
  | cons a _ ih => exact .cons (a.kp k) ih
theorem TrOk.kp {K : PySem.W.Frag} {H H' : Hp} {d : Addr} {kvs : List (List Key × V)} {n : Int} {F : List Fact} (h : TrOk K H d kvs n F) (k : Kp H H') : TrOk K H' d kvs n F :=
  ⟨k _ _ h.dc (fun _ z => nomatch z), h.has, fun x y v z => let ⟨q, l, a, b, c⟩ := h.val x y v z; ⟨q, l, a, sqT_kp b k, c⟩, h.len⟩
theorem TreeAt.kp {K : PySem.W.Frag} {CT CR : Addr} {H H' : Hp} {p : Addr} {n : Int} {ps : List Addr} {F : List Fact} (h : TreeAt K CT CR H p n ps F) (k : Kp H H') : TreeAt K CT CR H' p n ps F :=
  let ⟨dx, t, d, kvs, a, b, c, e⟩ := h; ⟨dx, t, d, kvs, k _ _ a (fun _ z => nomatch z), sqT_kp b k, c.kp k, e.kp k⟩
theorem TreeAt.same {K : PySem.W.Frag} {CT CR : Addr} {H H' : Hp} {p : Addr} {n : Int} {ps : List Addr} {F : List Fact} (h : TreeAt K CT CR H p n ps F) (s : Same H H') : TreeAt K CT CR H' p n ps F := h.kp (.of s)
/-- a call that could raise and doesn't -/
theorem passF {P : Program} {w : World} {X : Cx} : Passes (L2.CX P w) X E0 := fun _ _ _ _ _ _ _ ⟨_, _, _, _, _, _, _, _, _, _, _, _, h⟩ => False.elim h
theorem no_err {CB CN CG : Addr} {H : Hp} {E : XK} {n : Int} {F : List Fact} (h : due n F = none) : ∀ e, due n F = some e → ErrR CB CN CG H E e := fun e z => by
  rw [h] at z
  cases z
theorem paired_get {α β : Type} {R : α → β → Prop} : ∀ {as : List α} {bs : List β} {i : Nat} {a : α}, Paired R as bs → as[i]? = some a → ∃ b, bs[i]? = some b ∧ R a b
  | _, _, _, _, .nil, e => by simp at e
  | _, _, 0, _, .cons r _, e => by
    have z := Option.some.inj e
    subst z
    exact ⟨_, rfl, r⟩
  | _, _, i + 1, _, .cons _ t, e => paired_get (i := i) t e
theorem cut_to {xs : List V} {i : Nat} (h : i ≤ xs.length) : cutV xs none (some (i : Int)) = xs.take i := by
  unfold cutV
  have e0 : HT.sIx xs.length 0 none = 0 := rfl
  have e1 : HT.sIx xs.length xs.length (some (i : Int)) = i := by
    rw [HT.sIx_nat]
    omega
  rw [e0, e1]
  simp
theorem made_same {G G' : Hp} {x dx C : Addr} (nx : G x = none) (ndx : G dx = none) (keep : ∀ b o, upd (upd G dx (.own x)) x (.ins C dx []) b = some o → b ≠ x → G' b = some o) : Same G G' := fun b o e =>
  keep b o (by rw [upd_ne (ne_of_none e nx), upd_ne (ne_of_none e ndx)]; exact e) (ne_of_none e nx)
/-- a triple of ints as data -/
def d3 (a b c : Int) : PyData := .tuple [.int a, .int b, .int c]
end OT
set_option Elab.async false
set_option linter.all false
set_option maxRecDepth 100000
set_option maxHeartbeats 1000000
namespace OTR
open PySem PySem.Spec PyProof.Rows L2
section
variable {X : Cx}
/-- math.lcm of two -/
def rLcm : List V → Hp → VK → Prop := fun vs G Q => ∃ a b : Int, vs = [.int a, .int b] ∧ a.natAbs < 2 ^ 64 ∧ b.natAbs < 2 ^ 64 ∧ Q (.int ((Nat.lcm a.natAbs b.natAbs : Nat) : Int)) G
theorem cr_lcm : CallR X (.builtin "math.lcm") rLcm := by
  intro p0 s0 g0 G vs us Q J r h
  obtain ⟨a, b, rfl, la, lb, q⟩ := h
  obtain ⟨t, u, rfl⟩ := Vals.int2 r
  exact PySem.W.mc_lcm la lb fun _ => ⟨.int _, G, J.tok _, ⟨_, rfl⟩, q⟩
end
end OTR
set_option Elab.async false
set_option linter.all false
set_option maxRecDepth 100000
set_option maxHeartbeats 4000000
namespace OT
open PySem L2 OTR
abbrev sNoRd : Stmt := inClass (top 7) 0
abbrev sOff : Stmt := inClass (top 8) 0
abbrev sCheckPl : Stmt := top 26
abbrev sEndAt : Stmt := top 22
abbrev sCorner : Stmt := top 28
abbrev sKey : Stmt := top 27
theorem PlaceAt.kp {C : Addr} {H H' : Hp} {p : Addr} {r : Fact} (h : PlaceAt C H p r) (k : Kp H H') : PlaceAt C H' p r := let ⟨dx, e⟩ := h; ⟨dx, k _ _ e fun _ z => nomatch z⟩
/-- a tree that the program has made -/
structure TreeG (n : Int) (F : List Fact) : Prop where
  m : TreeM n F
  big : ∀ r ∈ F, r.2.2 ≤ 1000000000
  n2 : 2 ≤ n
  n24 : n ≤ 24
  len : (F.length : Int) = n - 1
theorem TreeG.rd {n : Int} {F : List Fact} (T : TreeG n F) {k : Nat} (h : k < F.length) : 1 ≤ (rd F k).2.2 ∧ (OT.rd F k).2.2 ≤ 1000000000 := ⟨(rd_ok T.m h).2.2.1, T.big _ (List.mem_of_getElem? (rd_get h))⟩
theorem RoadsAt.at_ {CR : Addr} {H : Hp} {ps : List Addr} {F : List Fact} (h : RoadsAt CR H ps F) {k : Nat} (hk : k < F.length) : ∃ p, (ps.map V.ref)[k]? = some (V.ref p) ∧ RoadAt CR H p (rd F k) := by
  have lk : k < ps.length := by rw [h.len]; exact hk
  obtain ⟨r, e, a⟩ := h.get (List.getElem?_eq_getElem lk)
  refine ⟨ps[k], by rw [List.getElem?_map, List.getElem?_eq_getElem lk]; rfl, ?_⟩
  rw [rd_of e]
  exact a
/-- the place lies on the tree -/
def PlOn (F : List Fact) (r : Fact) : Prop := (0 ≤ r.1 ∧ r.1 < (F.length : Int)) ∧ 0 ≤ r.2.1 ∧ r.2.1 ≤ (rd F r.1.toNat).2.2 * r.2.2
/-- its parts: few enough -/
def PlSm (r : Fact) : Prop := 1 ≤ r.2.2 ∧ r.2.2 < 2 ^ 60
def spCheckPl (K : PySem.W.Frag) (CT CR CP CNR COR : Addr) : Sp := fun vs H Q E => ∃ (a p : Addr) (n : Int) (ps : List Addr) (F : List Fact) (r : Fact), vs = [.ref a, .ref p] ∧ TreeAt K CT CR H a n ps F ∧ PlaceAt CP H p r ∧ TreeG n F ∧ PlSm r ∧
  (¬ (0 ≤ r.1 ∧ r.1 < (F.length : Int)) → Raised CNR [("road", .int r.1)] H E) ∧ ((0 ≤ r.1 ∧ r.1 < (F.length : Int)) → ¬ (0 ≤ r.2.1 ∧ r.2.1 ≤ (rd F r.1.toNat).2.2 * r.2.2) → Raised COR [("road", .int r.1)] H E) ∧ (PlOn F r → Q .non H)
def spEndAt (CR : Addr) : Sp := fun vs H Q _ => ∃ (p : Addr) (r : Fact) (c : Int), vs = [.ref p, .int c] ∧ RoadAt CR H p r ∧ Q (.int (if r.1 = c then 0 else r.2.2)) H
def spCorner (K : PySem.W.Frag) (CT CR CP CN : Addr) : Sp := fun vs H Q E => ∃ (a : Addr) (n : Int) (ps : List Addr) (F : List Fact) (c : Int), vs = [.ref a, .int c] ∧ TreeAt K CT CR H a n ps F ∧ TreeG n F ∧
  (¬ In n c → Raised CN [("crossing", .int c)] H E) ∧ (In n c → ∀ p H', Same H H' → H p = none → PlaceAt CP H' p (keyF F 1 (.cr c)) → Q (.ref p) H')
section
variable {P : Program} {w : World} {K : PySem.W.Frag} {mg : Str → Option Value} {base : Heap}
theorem scNoRd : FnScope ["self", "road"] ["self", "road"] (defScope sNoRd) := ⟨rfl, rfl, rfl, by decide +kernel, rfl, by decide +kernel, by decide +kernel⟩
theorem ok_noRd {f C : Addr} {fd : FuncData} (F : Fun K "__init__" "NoRoad.__init__" sNoRd f fd) (T : OexC K C) (n1 : PySem.W.findIn K (.ref C) "road" = some none) : FnOk P w K mg base CX0 1 f fd ["self", "road"] (spEr1 C "road") := by
  refine F.ok scNoRd (fun vs H Q E h => ?_) (fun cdv A outer s H vs Q E hr h => ?_)
  · obtain ⟨a, v, rfl, _⟩ := h
    rfl
  · obtain ⟨a, v, rfl, ha, k⟩ := h
    refine ⟨_, pss_one (ps_ost (pv 0) (pv 1)), ?_⟩
    exact ⟨_, rfl, _, rfl, a, C, rfl, T, n1, .inl ⟨ha, fun dx n ne => k dx n ne⟩⟩
theorem scOff : FnScope ["self", "road"] ["self", "road"] (defScope sOff) := ⟨rfl, rfl, rfl, by decide +kernel, rfl, by decide +kernel, by decide +kernel⟩
theorem ok_off {f C : Addr} {fd : FuncData} (F : Fun K "__init__" "OffRoad.__init__" sOff f fd) (T : OexC K C) (n1 : PySem.W.findIn K (.ref C) "road" = some none) : FnOk P w K mg base CX0 1 f fd ["self", "road"] (spEr1 C "road") := by
  refine F.ok scOff (fun vs H Q E h => ?_) (fun cdv A outer s H vs Q E hr h => ?_)
  · obtain ⟨a, v, rfl, _⟩ := h
    rfl
  · obtain ⟨a, v, rfl, ha, k⟩ := h
    refine ⟨_, pss_one (ps_ost (pv 0) (pv 1)), ?_⟩
    exact ⟨_, rfl, _, rfl, a, C, rfl, T, n1, .inl ⟨ha, fun dx n ne => k dx n ne⟩⟩
theorem scEndAt : FnScope ["road", "crossing"] ["road", "crossing"] (defScope sEndAt) := ⟨rfl, rfl, rfl, by decide +kernel, rfl, by decide +kernel, by decide +kernel⟩
theorem ok_endAt {f CR : Addr} {fd : FuncData} (F : Fun K "end_at" "end_at" sEndAt f fd) (TR : RdT K mg CR) : FnOk P w K mg base CX0 1 f fd ["road", "crossing"] (spEndAt CR) := by
  refine F.ok scEndAt (fun vs H Q E h => ?_) (fun cdv A outer s H vs Q E hr h => ?_)
  · obtain ⟨p, r, c, rfl, _⟩ := h
    rfl
  · obtain ⟨p, r, c, rfl, ⟨dx, e⟩, k⟩ := h
    refine ⟨_, pss_one (ps_ret (pe_ifExp (pt_cmpR op_eq (pe_fld (pv 0) rfl) (pv 1) (nomark _)) pe_int (pe_fld (pv 0) rfl))), ?_⟩
    refine ⟨_, rfl, p, CR, dx, _, _, rfl, e, TR.cl, TR.nA, rdF_a r, _, rfl, rfl, _, rfl, ?_⟩
    by_cases h : r.1 = c
    · rw [if_pos h] at k
      exact iteV h k
    · rw [if_neg h] at k
      exact iteN h ⟨_, rfl, p, CR, dx, _, _, rfl, e, TR.cl, TR.nL, rdF_l r, k⟩
theorem scCheckPl : FnScope ["tree", "place"] ["tree", "place"] (defScope sCheckPl) := ⟨rfl, rfl, rfl, by decide +kernel, rfl, by decide +kernel, by decide +kernel⟩
theorem ok_checkPl {f CT CR CP CNR COR fNR fOR : Addr} {fd fdNR fdOR : FuncData} (F : Fun K "check_place" "check_place" sCheckPl f fd) (TT : TeT K mg CT) (TR : RdT K mg CR) (TP : PlT K mg CP) (TN : ErT K mg "NoRoad" CNR fNR) (TO : ErT K mg "OffRoad" COR fOR)
    (FN : FnOk P w K mg base CX0 1 fNR fdNR ["self", "road"] (spEr1 CNR "road")) (bN : Binds K fdNR ["self", "road"] []) (FO : FnOk P w K mg base CX0 1 fOR fdOR ["self", "road"] (spEr1 COR "road")) (bO : Binds K fdOR ["self", "road"] [])
    (hLen : mg "len" = none) : FnOk P w K mg base (L2.CX P w) 3 f fd ["tree", "place"] (spCheckPl K CT CR CP CNR COR) := by
  refine F.okX scCheckPl (fun vs H Q E h => ?_) (fun cdv A outer s H vs Q E hr h => ?_)
  · obtain ⟨a, p, n, ps, F, r, rfl, _⟩ := h
    rfl
  · obtain ⟨a, p, n, ps, F, r, rfl, TA, ⟨dp, ep⟩, G, ⟨sm1, sm2⟩, k1, k2, k3⟩ := h
    refine ⟨_, pss_cons (ps_if (pt_not (pt_chain op_le op_lt pe_int (pe_fld (pv 1) rfl) (pe_callB call_len_seq (by rfl) hLen PySem.boot_len (pa_cons (pe_fld (pv 0) rfl) pa_nil))))
          (pss_one (ps_raise rfl (takes_of rfl rfl rfl rfl) (pmk_oex TN.ox TN.iC TN.tI FN hr bN .nil pass0 (by rfl) TN.gC (pa_cons (pe_fld (pv 1) rfl) pa_nil)))) pss_nil)
      (pss_one (ps_if (pt_not (pt_chain op_le op_le pe_int (pe_fld (pv 1) rfl) (pe_op op_mul (pe_fld (pe_ix ix_tup (pe_fld (pv 0) rfl) (pe_fld (pv 1) rfl) (fun _ _ => rfl)) rfl) (pe_fld (pv 1) rfl))))
          (pss_one (ps_raise rfl (takes_of rfl rfl rfl rfl) (pmk_oex TO.ox TO.iC TO.tI FO hr bO .nil pass0 (by rfl) TO.gC (pa_cons (pe_fld (pv 1) rfl) pa_nil)))) pss_nil)), ?_⟩
    obtain ⟨dx, t, d, kvs, ea, et, rds, _⟩ := TA
    have pl : (ps.map V.ref).length = F.length := by rw [List.length_map]; exact rds.len
    refine ⟨_, rfl, p, CP, dp, _, _, rfl, ep, TP.cl, TP.nR, plF_r r, _, _, rfl, rfl, _, rfl, ?_⟩
    by_cases h0 : 0 ≤ r.1
    · rw [decide_eq_true h0]
      refine iteT ⟨_, rfl, a, CT, dx, _, _, rfl, ea, TT.cl, TT.nR, teF_r n t d, t, _, rfl, .inr et, _, _, rfl, rfl, _, rfl, ?_⟩
      rw [pl]
      by_cases h1 : r.1 < (F.length : Int)
      · rw [decide_eq_true h1]
        refine iteF ⟨_, rfl, p, CP, dp, _, _, rfl, ep, TP.cl, TP.nN, plF_n r, _, _, rfl, rfl, _, rfl, ?_⟩
        have lk : r.1.toNat < F.length := by omega
        obtain ⟨q, eq, dq, rq⟩ := rds.at_ lk
        have e1 : r.1 = ((r.1.toNat : Nat) : Int) := by omega
        by_cases h2 : 0 ≤ r.2.1
        · rw [decide_eq_true h2]
          have z := G.rd lk
          refine iteT ⟨_, rfl, a, CT, dx, _, _, rfl, ea, TT.cl, TT.nR, teF_r n t d, _, rfl, p, CP, dp, _, _, rfl, ep, TP.cl, TP.nR, plF_r r, t, _, _, _, rfl, rfl, et, at_of e1 eq, q, CR, dq, _, _, rfl, rq, TR.cl, TR.nL, rdF_l _, _, rfl, p, CP, dp, _, _, rfl, ep, TP.cl, TP.nP, plF_p r, _, _, rfl, rfl, .inl ⟨by omega, by omega⟩, _, _, rfl, rfl, _, rfl, ?_⟩
          by_cases h3 : r.2.1 ≤ (rd F r.1.toNat).2.2 * r.2.2
          · rw [decide_eq_true h3]
            exact iteF (k3 ⟨⟨h0, h1⟩, h2, h3⟩)
          · rw [decide_eq_false h3]
            exact iteT ⟨_, rfl, p, CP, dp, _, _, rfl, ep, TP.cl, TP.nR, plF_r r, len1, fun b hb => er1 hb (k2 ⟨h0, h1⟩ fun z => h3 z.2)⟩
        · rw [decide_eq_false h2]
          refine iteF ⟨_, rfl, ?_⟩
          exact iteT ⟨_, rfl, p, CP, dp, _, _, rfl, ep, TP.cl, TP.nR, plF_r r, len1, fun b hb => er1 hb (k2 ⟨h0, h1⟩ fun z => h2 z.1)⟩
      · rw [decide_eq_false h1]
        exact iteT ⟨_, rfl, p, CP, dp, _, _, rfl, ep, TP.cl, TP.nR, plF_r r, len1, fun b hb => er1 hb (k1 fun z => h1 z.2)⟩
    · rw [decide_eq_false h0]
      refine iteF ⟨_, rfl, ?_⟩
      exact iteT ⟨_, rfl, p, CP, dp, _, _, rfl, ep, TP.cl, TP.nR, plF_r r, len1, fun b hb => er1 hb (k1 fun z => h0 z.1)⟩
end
end OT
set_option Elab.async false
set_option linter.all false
set_option maxRecDepth 100000
set_option maxHeartbeats 4000000
namespace OT
open PySem L2 OTR
/-- a drawn tree, with its roads' facts -/
structure TrAt (H : Hp) (p q : Addr) (n : Int) (F : List Fact) : Prop where
  t : H p = some (.tup [.int n, .ref q])
  f : FactsAt H q F
theorem FactsAt.same {H H' : Hp} {q : Addr} {F : List Fact} (h : FactsAt H q F) (s : Same H H') : FactsAt H' q F := let ⟨ts, a, b⟩ := h; ⟨ts, s _ _ a, tups_same b s⟩
theorem TrAt.same {H H' : Hp} {p q : Addr} {n : Int} {F : List Fact} (h : TrAt H p q n F) (s : Same H H') : TrAt H' p q n F := ⟨s _ _ h.t, h.f.same s⟩
theorem TrAt.but {H H' : Hp} {a p q : Addr} {n : Int} {F : List Fact} (h : TrAt H p q n F) (s : Src H a) (b : But a H H') : TrAt H' p q n F := by
  obtain ⟨hp, ts, hq, hts⟩ := h
  obtain ⟨x, y, z, _, hs⟩ := id s
  refine ⟨b _ _ hp (ne_of hp hs fun e => nomatch e), ts, b _ _ hq (ne_of hq hs fun e => ?_), tups_but hts s b⟩
  have e1 := HO.lst.inj e
  cases ts with
  | nil => exact nomatch e1
  | cons t r =>
    rw [List.map_cons] at e1
    exact nomatch (List.cons.inj e1).1
end OT
set_option Elab.async false
set_option linter.all false
set_option maxRecDepth 100000
set_option maxHeartbeats 4000000
namespace OTR
open PySem PySem.Spec PyProof.Rows L2
/-- a key: an int, or a tuple of ints and texts -/
abbrev MKy := Int ⊕ List Key
section
variable {P : Program} {w : World}
def mHash (P : Program) (w : World) : MKy → Int
  | .inl i => (mixKind P w).hash (.inl i)
  | .inr ks => (tupleKind (mixKind P w)).hash ks
variable {A : Around} {E : Value → Shared → Prop} {s : Shared}
/-- an entry of the dict: its key's hash, its key, its value -/
def EntR (P : Program) (w : World) (x : MKy × V × V) (e : DictEntry) : Prop := e.hash = mHash P w x.1 ∧ RelV x.2.1 e.key ∧ RelV x.2.2 e.val
/-- what stands at d: a dict with these entries -/
def DictM (P : Program) (w : World) (d : Addr) (ent : List (MKy × V × V)) (h : Heap) : Prop := ∃ o es ep, h.get? d = some o ∧ o.ExactDict ∧ o.data = .dict es ep ∧ Paired (EntR P w) ent es.toList
def KeyM (H : Hp) : MKy → V → Prop
  | .inl i, y => y = .int i
  | .inr ks, y => ∃ b, y = .ref b ∧ H b = some (.tup (ks.map kV))
/-- a dict whose keys are ints and tuples of ints and texts -/
def MixAt (P : Program) (w : World) (H : Hp) (d : Addr) (kvs : List (MKy × V)) : Prop := ∃ ent : List (MKy × V × V), H d = some (.ext (DictM P w d ent)) ∧ (d == sysModules) = false ∧ ent.length ≤ sizeLine ∧ ent.map (fun x => (x.1, x.2.2)) = kvs ∧
  (∀ x ∈ ent, KeyM H x.1 x.2.1) ∧ (ent.map (·.1)).Nodup
theorem KeyM.keep {H H' : Hp} {k : MKy} {y : V} (x : KeyM H k y) (t : ∀ b xs, H b = some (.tup xs) → H' b = some (.tup xs)) : KeyM H' k y := by
  cases k with
  | inl i => exact x
  | inr ks =>
    obtain ⟨b, e, h⟩ := x
    exact ⟨b, e, t b _ h⟩
theorem MixAt.keep {H H' : Hp} {d : Addr} {kvs : List (MKy × V)} (x : MixAt P w H d kvs) (hd : ∀ o, H d = some o → H' d = some o) (t : ∀ b xs, H b = some (.tup xs) → H' b = some (.tup xs)) : MixAt P w H' d kvs :=
  let ⟨ent, e, a, b, c, f, g⟩ := x
  ⟨ent, hd _ e, a, b, c, fun y hy => (f y hy).keep t, g⟩
end
end OTR
set_option Elab.async false
set_option linter.all false
set_option maxRecDepth 100000
set_option maxHeartbeats 4000000
namespace OTR
open PySem PySem.Spec PyProof.Rows L2
section
variable {X : Cx} {pins : List (Addr × Obj)} {σ : L2.St} {H : Hp} {s : Shared} {a : Addr} {y v : V} {u r : Value} {A : Around} {E : Value → Shared → Prop} {k : MKy} {kvs : List (MKy × V)}
theorem upd_keep {H : Hp} {a : Addr} {φ : Heap → Prop} {ob : HO} (e : H a = some (.ext φ)) : ∀ b xs, H b = some (.tup xs) → upd H a ob b = some (.tup xs) := fun b xs h => by
  rw [upd_ne (ne_of h e fun z => nomatch z)]
  exact h
end
end OTR
set_option Elab.async false
set_option linter.all false
set_option maxRecDepth 100000
set_option maxHeartbeats 4000000
namespace OTR
open PySem PySem.Spec PyProof.Rows L2
end OTR
set_option Elab.async false
set_option linter.all false
set_option maxRecDepth 100000
set_option maxHeartbeats 4000000
namespace OT
open PySem L2 OTR
/-- the key of a node -/
def nk : Nd → MKy
  | .cr c => .inl c
  | .mid k i => .inr [.inl (k : Int), .inl i]
end OT
set_option Elab.async false
set_option linter.all false
set_option maxRecDepth 100000
set_option maxHeartbeats 4000000
namespace OT
open PySem L2 OTR
theorem inV_int {b : Int} {fl : List Int} : inV (.int b) (fl.map V.int) = decide (b ∈ fl) := by
  unfold inV
  induction fl with
  | nil => rfl
  | cons a l ih =>
    rw [List.map_cons, List.any_cons, ih]
    show ((a == b) || decide (b ∈ l)) = decide (b ∈ a :: l)
    by_cases e : a = b
    · subst e
      simp
    · have e1 : (a == b) = false := by simpa using e
      have e2 : ¬ b = a := fun z => e z.symm
      rw [e1]
      simp [e2]
theorem flat_ints (fl : List Int) : (fl.map V.int).all flatV = true := by
  rw [List.all_eq_true]
  intro x hx
  obtain ⟨i, _, rfl⟩ := List.mem_map.mp hx
  rfl
theorem low_one (a b : Int) : low (a, b, 1) = (a, b, 1) := by
  have g : gcdI b 1 = 1 := by
    unfold gcdI
    rw [show (1 : Int).natAbs = 1 from rfl, Nat.gcd_one_right]
    rfl
  show (a, b / gcdI b 1, 1 / gcdI b 1) = _
  rw [g, Int.ediv_one]
  rfl
theorem lg60 {b : Int} (h1 : 1 ≤ b) (h2 : b < 2 ^ 60) : b.natAbs.log2 < 9000 := by
  rw [Nat.log2_lt (by omega)]
  have h3 : b.natAbs < 2 ^ 60 := by omega
  have h5 : (2 : Nat) ^ 60 ≤ 2 ^ 9000 := Nat.pow_le_pow_right (by decide) (by decide)
  omega
/-- the road with this number ends at the crossing -/
def atEnd (F : List Fact) (c : Int) (x : Int) : Bool := decide ((rd F x.toNat).1 = c ∨ (rd F x.toNat).2.1 = c)
def spKey (K : PySem.W.Frag) (CT CR CP CNR COR : Addr) : Sp := fun vs H Q E => ∃ (a p : Addr) (n : Int) (ps : List Addr) (F : List Fact) (r : Fact), vs = [.ref a, .ref p] ∧ TreeAt K CT CR H a n ps F ∧ PlaceAt CP H p r ∧ TreeG n F ∧ PlSm r ∧ low r = r ∧
  (¬ (0 ≤ r.1 ∧ r.1 < (F.length : Int)) → Raised CNR [("road", .int r.1)] H E) ∧ ((0 ≤ r.1 ∧ r.1 < (F.length : Int)) → ¬ (0 ≤ r.2.1 ∧ r.2.1 ≤ (rd F r.1.toNat).2.2 * r.2.2) → Raised COR [("road", .int r.1)] H E) ∧
  (PlOn F r → ∀ p' H', Same H H' → PlaceAt CP H' p' (keyF F r.2.2 (node F r.2.2 r.1.toNat r.2.1)) → Q (.ref p') H')
section
variable {P : Program} {w : World} {K : PySem.W.Frag} {mg : Str → Option Value} {base : Heap}
abbrev nCor : List Str := ["tree", "crossing", "number", "at", "road"]
theorem scCor : FnScope nCor ["tree", "crossing"] (defScope sCorner) := ⟨rfl, rfl, rfl, by decide +kernel, rfl, by decide +kernel, by decide +kernel⟩
theorem ok_corner {f CT CR CP CN CB fN fE fP : Addr} {fd fdN fdE fdP : FuncData} (F : Fun K "corner" "corner" sCorner f fd) (TT : TeT K mg CT) (TR : RdT K mg CR) (TP : PlT K mg CP) (TN : ErT K mg "NoCrossing" CN fN)
    (FN : FnOk P w K mg base CX0 1 fN fdN ["self", "crossing"] (spEr1 CN "crossing")) (bN : Binds K fdN ["self", "crossing"] [])
    (FE : FnOk P w K mg base CX0 1 fE fdE ["road", "crossing"] (spEndAt CR)) (bE : Binds K fdE ["road", "crossing"] []) (mE : mg "end_at" = some (.ref fE)) (kE : PySem.W.keepIn K (.ref fE) = true)
    (MP : Mk K CP fP) (FP : FnOk P w K mg base (L2.CX P w) 3 fP fdP ["self", "road", "number", "parts"] (spPlaceI CP CB)) (bP : Binds K fdP ["self", "road", "number", "parts"] [])
    (hMin : mg "min" = none) (hEn : mg "enumerate" = none) : FnOk P w K mg base (L2.CX P w) 5 f fd ["tree", "crossing"] (spCorner K CT CR CP CN) := by
  refine F.okX scCor (fun vs H Q E h => ?_) (fun cdv A outer s H vs Q E hr h => ?_)
  · obtain ⟨a, n, ps, F, c, rfl, _⟩ := h
    rfl
  · obtain ⟨a, n, ps, F, c, rfl, TA, G, k1, k2⟩ := h
    have hr1 : Room 1 _ := hr.mono (by decide)
    have hr2 : Room 2 _ := hr.mono (by decide)
    refine ⟨_, pss_cons (ps_if (pt_not (pt_chain op_le op_lt pe_int (pv 1) (pe_fld (pv 0) rfl)))
          (pss_one (ps_raise rfl (takes_of rfl rfl rfl rfl) (pmk_oex TN.ox TN.iC TN.tI FN hr2 bN .nil pass0 (by rfl) TN.gC (pa_cons (pv 1) pa_nil)))) pss_nil)
      (pss_cons (ps_set (i := 2) scCor.nd rfl (Or.inl rfl) (pe_callB (cr_min rfl) (by rfl) hMin (by decide +kernel) (pa_cons
          (pe_lc (own := [("at", 3), ("road", 4)]) (g := gTup K 2 (gCons (gName 3) (gCons (gName 4) gNil))) (tt := tTest (tOp (rIn K false) (tVar 1) (tTup (tCons (tFld K (tVar 4) "a") (tCons (tFld K (tVar 4) "b") tNil))))) rfl scCor.nd (pi_enumT (by rfl) hEn (pa_cons (pe_fld (pv 0) rfl) pa_nil))
            (blkOk_by (own := [("at", 3), ("road", 4)]) (N := nCor) (sc := defScope sCorner) (by decide +kernel))
            (fun _ _ _ _ _ => pg_tup rfl (pgs_cons (pg_name (i := 3) scCor.nd rfl (Or.inl rfl)) (pgs_cons (pg_name (i := 4) scCor.nd rfl (Or.inl rfl)) pgs_nil)))
            (fun _ _ _ _ _ => pts_one (pt_cmpR op_in_seq (pv 1) (pe_tup (pa_cons (pe_fld (pv 4) rfl) (pa_cons (pe_fld (pv 4) rfl) pa_nil))) (by rfl))) (fun _ _ _ _ _ => pv 3)) pa_nil)))
      (pss_one (ps_ret (pe_make MP FP hr (by rfl) TP.mgC bP .nil passF (pa_cons (pv 2) (pa_cons (pe_call FE hr1 rfl mE kE bE .nil pass0 (pa_cons (pe_ix ix_tup (pe_fld (pv 0) rfl) (pv 2) (fun _ _ => rfl)) (pa_cons (pv 1) pa_nil))) (pa_cons pe_int pa_nil))))))), ?_⟩
    obtain ⟨dx, t, d, kvs, ea, et, rds, _⟩ := TA
    have pl : (ps.map V.ref).length = F.length := by rw [List.length_map]; exact rds.len
    have l23 : F.length ≤ 23 := by have := G.len; have := G.n24; omega
    have ifin : In n c → _ := k2
    refine ⟨_, rfl, _, _, rfl, rfl, _, rfl, ?_⟩
    by_cases h0 : 0 ≤ c
    · rw [decide_eq_true h0]
      refine iteT ⟨_, rfl, a, CT, dx, _, _, rfl, ea, TT.cl, TT.nC, teF_c n t d, _, _, rfl, rfl, _, rfl, ?_⟩
      by_cases h1 : c < n
      · rw [decide_eq_true h1]
        refine iteF ?_
        have ic : In n c := ⟨h0, h1⟩
        obtain ⟨f1, f2, f3⟩ := fstR_spec G.m ic G.n2
        -- number = min([at ..])
        refine ⟨_, rfl, a, CT, dx, _, _, rfl, ea, TT.cl, TT.nR, teF_r n t d, t, _, rfl, et, fun D hD => lc_it (walk_enumT (K := K) (a := t) (xs := ps.map V.ref)) (fun i Hc => ∃ l : List Int, Hc D = some (.lst (l.map V.int)) ∧ Same H Hc ∧ Kept l i (atEnd F c))
          ⟨[], upd_same, Same.new hD, Kept.zero⟩ (fun i Hc _ ⟨_, _, sc, _⟩ => sqT_same et sc) ?_ ?_⟩
        · rintro i v Hc H' hi ⟨l, hl, sc, kp⟩ ⟨T, x1, y1, rfl, hT, rfl, hx1, hy1⟩
          cases hx1
          rw [pl] at hi
          obtain ⟨q, hq, rfl⟩ := map_get (show (ps.map V.ref)[i]? = some y1 from hy1)
          obtain ⟨r, hr', hrd⟩ := rds.get hq
          have s1 : Same H (upd Hc T (.tup [.int (i : Nat), .ref q])) := sc.trans (Same.new hT)
          obtain ⟨dq, eq⟩ := hrd.same s1
          have nD : D ≠ T := ne_of_none hl hT
          refine ⟨T, _, rfl, SqT.of upd_same, rfl, _, _, rfl, _, _, rfl, rfl, rfl, ?_⟩
          refine ⟨_, rfl, _, rfl, q, CR, dq, _, _, rfl, eq, TR.cl, TR.nA, rdF_a r, _, rfl, q, CR, dq, _, _, rfl, eq, TR.cl, TR.nB, rdF_b r, (by show 2 ≤ sizeLine; decide), fun t2 h2 => ⟨t2, _, rfl, .inr (SqT.of upd_same), rfl, rfl, _, rfl, ?_⟩⟩
          have s2 := s1.trans (Same.new (o := .tup [.int r.1, .int r.2.1]) h2)
          have n2 : D ≠ t2 := ne_of_none (by rw [upd_ne nD]; exact hl) h2
          have eb : inV (.int c) [.int r.1, .int r.2.1] = atEnd F c (i : Int) := by
            rw [show ([V.int r.1, V.int r.2.1] : List V) = [r.1, r.2.1].map V.int from rfl, inV_int]
            unfold atEnd
            rw [Int.toNat_natCast, rd_of hr']
            rw [decide_eq_decide]
            simp only [List.mem_cons, List.not_mem_nil, or_false]
            exact ⟨fun z => z.elim (fun z => .inl z.symm) fun z => .inr z.symm, fun z => z.elim (fun z => .inl z.symm) fun z => .inr z.symm⟩
          show if inV (.int c) [.int r.1, .int r.2.1] = true then _ else _
          rw [eb]
          cases e : atEnd F c (i : Int) with
          | true =>
            refine iteT ⟨_, rfl, l.map V.int, by rw [upd_ne n2, upd_ne nD]; exact hl, small1000 (by rw [List.length_map]; have := kp.2; omega), l ++ [(i : Int)], by rw [List.map_append]; exact upd_same, fun b o z => ?_, kp.yes e⟩
            rw [upd_ne (ne_of_none z hD)]
            exact s2 b o z
          | false => exact iteF ⟨l, by rw [upd_ne n2, upd_ne nD]; exact hl, s2, kp.no e⟩
        · rintro H4 ⟨l, hl, s4, kp⟩
          rw [pl] at kp
          have inl : ((fstR F c : Nat) : Int) ∈ l := (kp.1 _).mpr ⟨⟨by omega, by omega⟩, by unfold atEnd; rw [Int.toNat_natCast]; exact decide_eq_true f2⟩
          refine ⟨D, l, rfl, SqL.of hl, List.length_pos_of_mem inl, fun m hm hle => ?_⟩
          have em : m = ((fstR F c : Nat) : Int) := by
            obtain ⟨⟨m0, m1⟩, m2⟩ := (kp.1 m).mp hm
            have m3 := hle _ inl
            have m4 : ¬ m.toNat < fstR F c := fun z => f3 _ z (of_decide_eq_true m2)
            omega
          subst em
          obtain ⟨q, eq, rq⟩ := rds.at_ f1
          have rq4 := rq.same s4
          -- return Place(number, end_at(tree.roads[number], crossing), 1)
          refine ⟨_, rfl, _, rfl, a, CT, dx, _, _, rfl, s4 _ _ ea, TT.cl, TT.nR, teF_r n t d, _, rfl, t, _, _, _, rfl, rfl, sqT_same et s4, atI_nat eq, _, rfl, q, rd F (fstR F c), c, rfl, rq4, fun x dx' nx ndx nex => ⟨x, dx', (((fstR F c : Nat) : Int), _, 1), rfl, upd_same, fun z => absurd z (by show ¬ (1 : Int) < 1; decide), fun _ => ⟨(by show (1 : Int).natAbs.log2 < 9000; decide), fun H5 px keep => ⟨rfl, ?_⟩⟩⟩⟩
          have s5 := made_same nx ndx keep
          refine k2 ic x H5 (s4.trans s5) (s4.free nx) ?_
          rw [low_one] at px
          have ek : keyF F 1 (.cr c) = (((fstR F c : Nat) : Int), (if (rd F (fstR F c)).1 = c then 0 else (rd F (fstR F c)).2.2), 1) := by
            show (((fstR F c : Nat) : Int), eAt F 1 (fstR F c) c, (1 : Int)) = _
            unfold eAt sz
            rw [Int.mul_one]
          rw [ek]
          exact px
      · rw [decide_eq_false h1]
        exact iteT ⟨_, rfl, len1, fun b hb => er1 hb (k1 fun z => h1 z.2)⟩
    · rw [decide_eq_false h0]
      exact iteF ⟨_, rfl, iteT ⟨_, rfl, len1, fun b hb => er1 hb (k1 fun z => h0 z.1)⟩⟩
end
end OT
set_option Elab.async false
set_option linter.all false
set_option maxRecDepth 100000
set_option maxHeartbeats 4000000
namespace OT
open PySem L2 OTR
theorem keyF_cr (F : List Fact) (S : Int) (c : Int) : keyF F S (.cr c) = keyF F 1 (.cr c) := rfl
section
variable {P : Program} {w : World} {K : PySem.W.Frag} {mg : Str → Option Value} {base : Heap}
theorem scKey : FnScope ["tree", "place", "road"] ["tree", "place"] (defScope sKey) := ⟨rfl, rfl, rfl, by decide +kernel, rfl, by decide +kernel, by decide +kernel⟩
theorem ok_key {f CT CR CP CN CNR COR fC fK : Addr} {fd fdC fdK : FuncData} (F : Fun K "key" "key" sKey f fd) (TT : TeT K mg CT) (TR : RdT K mg CR) (TP : PlT K mg CP)
    (FC : FnOk P w K mg base (L2.CX P w) 3 fC fdC ["tree", "place"] (spCheckPl K CT CR CP CNR COR)) (bC : Binds K fdC ["tree", "place"] []) (mC : mg "check_place" = some (.ref fC)) (kC : PySem.W.keepIn K (.ref fC) = true)
    (FK : FnOk P w K mg base (L2.CX P w) 5 fK fdK ["tree", "crossing"] (spCorner K CT CR CP CN)) (bK : Binds K fdK ["tree", "crossing"] []) (mK : mg "corner" = some (.ref fK)) (kK : PySem.W.keepIn K (.ref fK) = true) :
    FnOk P w K mg base (L2.CX P w) 6 f fd ["tree", "place"] (spKey K CT CR CP CNR COR) := by
  refine F.okX scKey (fun vs H Q E h => ?_) (fun cdv A outer s H vs Q E hr h => ?_)
  · obtain ⟨a, p, n, ps, F, r, rfl, _⟩ := h
    rfl
  · obtain ⟨a, p, n, ps, F, r, rfl, TA, PA', G, sm, lo, k1, k2, k3⟩ := h
    have hr3 : Room 3 _ := hr.mono (by decide)
    refine ⟨_, pss_cons (ps_expr (pe_call FC hr3 rfl mC kC bC .nil (passes_call (takes_of rfl rfl rfl rfl) fun _ _ _ _ h => h) (pa_cons (pv 0) (pa_cons (pv 1) pa_nil))))
      (pss_cons (ps_set (i := 2) scKey.nd rfl (Or.inl rfl) (pe_ix ix_tup (pe_fld (pv 0) rfl) (pe_fld (pv 1) rfl) (fun _ _ => rfl)))
      (pss_cons (ps_if (pt_cmpR op_eq (pe_fld (pv 1) rfl) pe_int (nomark _)) (pss_one (ps_ret (pe_call FK hr rfl mK kK bK .nil passF (pa_cons (pv 0) (pa_cons (pe_fld (pv 2) rfl) pa_nil))))) pss_nil)
      (pss_cons (ps_if (pt_cmpR op_eq (pe_fld (pv 1) rfl) (pe_op op_mul (pe_fld (pv 2) rfl) (pe_fld (pv 1) rfl)) (nomark _)) (pss_one (ps_ret (pe_call FK hr rfl mK kK bK .nil passF (pa_cons (pv 0) (pa_cons (pe_fld (pv 2) rfl) pa_nil))))) pss_nil)
      (pss_one (ps_ret (pv 1)))))), ?_⟩
    refine ⟨_, rfl, _, rfl, a, p, n, ps, F, r, rfl, TA, PA', G, sm, k1, k2, fun on => ?_⟩
    have k3' := k3 on
    obtain ⟨⟨o1, o2⟩, o3, o4⟩ := on
    have TA' := TA
    obtain ⟨dx, t, d, kvs, ea, et, rds, _⟩ := TA
    obtain ⟨dp, ep⟩ := id PA'
    have lk : r.1.toNat < F.length := by omega
    have e1 : r.1 = ((r.1.toNat : Nat) : Int) := by omega
    obtain ⟨q, eq, dq, rq⟩ := rds.at_ lk
    obtain ⟨ok1, ok2, ok3, ok4⟩ := rd_ok G.m lk
    have z := G.rd lk
    refine ⟨_, rfl, a, CT, dx, _, _, rfl, ea, TT.cl, TT.nR, teF_r n t d, _, rfl, p, CP, dp, _, _, rfl, ep, TP.cl, TP.nR, plF_r r, t, _, _, _, rfl, rfl, et, at_of e1 eq, ?_⟩
    refine ⟨_, rfl, p, CP, dp, _, _, rfl, ep, TP.cl, TP.nN, plF_n r, rfl, _, rfl, ?_⟩
    by_cases h0 : r.2.1 = 0
    · refine iteV h0 ⟨_, rfl, _, rfl, q, CR, dq, _, _, rfl, rq, TR.cl, TR.nA, rdF_a _, a, n, ps, F, _, rfl, TA', G, fun z => absurd ok1 z, fun _ p' H' s' hp' px => ?_⟩
      refine k3' p' H' s' ?_
      unfold node
      rw [if_pos h0, keyF_cr]
      exact px
    · refine iteN h0 ⟨_, rfl, p, CP, dp, _, _, rfl, ep, TP.cl, TP.nN, plF_n r, _, rfl, q, CR, dq, _, _, rfl, rq, TR.cl, TR.nL, rdF_l _, _, rfl, p, CP, dp, _, _, rfl, ep, TP.cl, TP.nP, plF_p r, _, _, rfl, rfl, .inl ⟨by omega, by omega⟩, rfl, _, rfl, ?_⟩
      by_cases h1 : r.2.1 = (rd F r.1.toNat).2.2 * r.2.2
      · refine iteV h1 ⟨_, rfl, _, rfl, q, CR, dq, _, _, rfl, rq, TR.cl, TR.nB, rdF_b _, a, n, ps, F, _, rfl, TA', G, fun z => absurd ok2 z, fun _ p' H' s' hp' px => ?_⟩
        refine k3' p' H' s' ?_
        unfold node
        rw [if_neg h0, if_pos (show r.2.1 = sz F r.2.2 r.1.toNat from h1), keyF_cr]
        exact px
      · refine iteN h1 ⟨_, rfl, k3' p H (Same.refl H) ?_⟩
        unfold node
        rw [if_neg h0, if_neg (show ¬ r.2.1 = sz F r.2.2 r.1.toNat from h1)]
        show PlaceAt CP H p (low (((r.1.toNat : Nat) : Int), r.2.1, r.2.2))
        rw [← e1]
        show PlaceAt CP H p (low r)
        rw [lo]
        exact PA'
end
end OT
set_option Elab.async false
set_option linter.all false
set_option maxRecDepth 100000
set_option maxHeartbeats 4000000
namespace OT
open PySem L2 OTR
abbrev sEndBeyond : Stmt := top 23
def spEndBy (CR : Addr) : Sp := fun vs H Q _ => ∃ (p : Addr) (r : Fact) (c : Int), vs = [.ref p, .int c] ∧ RoadAt CR H p r ∧ Q (.int (if r.1 = c then r.2.1 else r.1)) H
section
variable {P : Program} {w : World} {K : PySem.W.Frag} {mg : Str → Option Value} {base : Heap}
theorem scEndBy : FnScope ["road", "crossing"] ["road", "crossing"] (defScope sEndBeyond) := ⟨rfl, rfl, rfl, by decide +kernel, rfl, by decide +kernel, by decide +kernel⟩
theorem ok_endBy {f CR : Addr} {fd : FuncData} (F : Fun K "end_beyond" "end_beyond" sEndBeyond f fd) (TR : RdT K mg CR) : FnOk P w K mg base CX0 1 f fd ["road", "crossing"] (spEndBy CR) := by
  refine F.ok scEndBy (fun vs H Q E h => ?_) (fun cdv A outer s H vs Q E hr h => ?_)
  · obtain ⟨p, r, c, rfl, _⟩ := h
    rfl
  · obtain ⟨p, r, c, rfl, ⟨dx, e⟩, k⟩ := h
    refine ⟨_, pss_one (ps_ret (pe_ifExp (pt_cmpR op_eq (pe_fld (pv 0) rfl) (pv 1) (nomark _)) (pe_fld (pv 0) rfl) (pe_fld (pv 0) rfl))), ?_⟩
    refine ⟨_, rfl, p, CR, dx, _, _, rfl, e, TR.cl, TR.nA, rdF_a r, _, rfl, rfl, _, rfl, ?_⟩
    by_cases h : r.1 = c
    · rw [if_pos h] at k
      exact iteV h ⟨_, rfl, p, CR, dx, _, _, rfl, e, TR.cl, TR.nB, rdF_b r, k⟩
    · rw [if_neg h] at k
      exact iteN h ⟨_, rfl, p, CR, dx, _, _, rfl, e, TR.cl, TR.nA, rdF_a r, k⟩
end
end OT
set_option Elab.async false
set_option linter.all false
set_option maxRecDepth 100000
set_option maxHeartbeats 4000000
namespace OT
open PySem L2 OTR
abbrev sLegs : Stmt := top 30
def legF (l : Leg) : Fact := ((l.1 : Int), l.2.1, l.2.2)
/-- the legs from a crossing, the roads k0 and g left out -/
def legsK (F : List Fact) (S : Int) (g : Nat) (p : Int) (k0 : Nat) : Int → List Nat → List Leg
  | c, [] => [(g, eAt F S g c, p)]
  | c, k :: l => if k = k0 ∨ k = g then legsK F S g p k0 c l else (k, eAt F S k c, eAt F S k (eBy F k c)) :: legsK F S g p k0 (eBy F k c) l
theorem legsK_eq {F : List Fact} {S : Int} {g : Nat} {p : Int} {k0 : Nat} : ∀ {l : List Nat} {c : Int}, k0 ∉ l → legsK F S g p k0 c l = legsC F S g p c l
  | [], c, _ => rfl
  | k :: l, c, h => by
    have h1 : ¬ k = k0 := fun z => h (z ▸ List.mem_cons_self ..)
    have h2 : k0 ∉ l := fun z => h (List.mem_cons_of_mem _ z)
    by_cases e : k = g
    · show (if k = k0 ∨ k = g then _ else _) = _
      rw [if_pos (.inr e), legsK_eq h2, e, legsC_g]
    · show (if k = k0 ∨ k = g then _ else _) = _
      rw [if_neg (fun z => z.elim h1 e), legsK_eq h2, legsC_k e]
theorem legsK_skip {F : List Fact} {S : Int} {g : Nat} {p : Int} {k0 k : Nat} {c : Int} {l : List Nat} (h : k = k0 ∨ k = g) : legsK F S g p k0 c (k :: l) = legsK F S g p k0 c l := by
  show (if k = k0 ∨ k = g then _ else _) = _
  rw [if_pos h]
theorem legsK_go {F : List Fact} {S : Int} {g : Nat} {p : Int} {k0 k : Nat} {c : Int} {l : List Nat} (h : ¬ (k = k0 ∨ k = g)) : legsK F S g p k0 c (k :: l) = (k, eAt F S k c, eAt F S k (eBy F k c)) :: legsK F S g p k0 (eBy F k c) l := by
  show (if k = k0 ∨ k = g then _ else _) = _
  rw [if_neg h]
theorem legsP_K {n : Int} {F : List Fact} {S : Int} {g : Nat} {p : Int} (T : TreeM n F) (hg : g < F.length) {k0 : Nat} (hk : k0 < F.length) (ne : k0 ≠ g) (i : Int) :
    legsP F S g p k0 i = (k0, i, eAt F S k0 (up F g k0)) :: legsK F S g p k0 (up F g k0) (tr F (rd F k0).1 (rd F g).1) := by
  have hr := (rd_ok T hg).1
  have o := rd_ok T hk
  unfold legsP
  rw [if_neg ne]
  congr 1
  by_cases m : k0 ∈ tr F (rd F k0).1 (rd F g).1
  · have e : up F g k0 = (rd F k0).2.1 := by unfold up; rw [if_pos m]
    have z := tr_head T hk hr (.inl ⟨rfl, rfl⟩) m
    have nd := (tr_of T o.1 hr).2
    rw [z] at nd
    rw [e, z, legsK_skip (.inl rfl), legsK_eq (List.nodup_cons.mp nd).1]
  · have e : up F g k0 = (rd F k0).1 := by unfold up; rw [if_neg m]
    rw [e, legsK_eq m]
/-- either way gives v -/
theorem ite_val {b : Bool} {σ : L2.St} {H : Hp} {ta tb : TE} {Q : VK} (v : V) (h1 : b = true → ∀ Q : VK, Q v H → ta σ H Q) (h2 : b = false → ∀ Q : VK, Q v H → tb σ H Q) (q : Q v H) : if b = true then ta σ H Q else tb σ H Q := by
  cases b with
  | true => exact iteT (h1 rfl Q q)
  | false => exact iteF (h2 rfl Q q)
theorem eAt_prog (F : List Fact) (S : Int) (k : Nat) (c : Int) : (if (rd F k).1 = c then 0 else (rd F k).2.2) * S = eAt F S k c := by
  unfold eAt
  split
  · rw [Int.zero_mul]
  · rfl
theorem eBy_prog (F : List Fact) (k : Nat) (c : Int) : (if (rd F k).1 = c then (rd F k).2.1 else (rd F k).1) = eBy F k c := rfl
theorem Kp.but {H H' : Hp} {d : Addr} {xs : List V} (e : H d = some (.lst xs)) (b : But d H H') : Kp H H' := fun c o h n => b c o h (fun z => by
  rw [z, e] at h
  exact n xs (Option.some.inj h).symm)
theorem nats_ints (l : List Nat) : (l.map fun k => V.int (k : Nat)) = (l.map fun k => ((k : Nat) : Int)).map V.int := by rw [List.map_map]; rfl
theorem mem_nats {l : List Nat} {k : Nat} : ((k : Nat) : Int) ∈ (l.map fun k => ((k : Nat) : Int)) ↔ k ∈ l := by
  rw [List.mem_map]
  exact ⟨fun ⟨j, h, e⟩ => by have : j = k := by omega
                             exact this ▸ h, fun h => ⟨k, h, rfl⟩⟩
def spLegs (K : PySem.W.Frag) (CT CR CP : Addr) : Sp := fun vs H Q _ => ∃ (a p1 p2 : Addr) (n : Int) (ps : List Addr) (F : List Fact) (r1 r2 : Fact) (S c1 c2 : Int), vs = [.ref a, .ref p1, .ref p2, .int S] ∧ TreeAt K CT CR H a n ps F ∧ PlaceAt CP H p1 r1 ∧ PlaceAt CP H p2 r2 ∧ TreeG n F ∧
  PlSm r1 ∧ PlSm r2 ∧ PlOn F r1 ∧ PlOn F r2 ∧ S = r1.2.2 * c1 ∧ S = r2.2.2 * c2 ∧ 0 < c1 ∧ 0 < c2 ∧ S < 2 ^ 60 ∧
  ∀ L H', Same H H' → H L = none → FactsAt H' L ((legsP F S r2.1.toNat (r2.2.1 * c2) r1.1.toNat (r1.2.1 * c1)).map legF) → (legsP F S r2.1.toNat (r2.2.1 * c2) r1.1.toNat (r1.2.1 * c1)).length ≤ 100 → Q (.ref L) H'
section
variable {P : Program} {w : World} {K : PySem.W.Frag} {mg : Str → Option Value} {base : Heap}
abbrev nLegs : List Str := ["tree", "one", "other", "parts", "start", "end", "first", "last", "trail", "here", "found", "number", "road", "there"]
theorem scLegs : FnScope nLegs ["tree", "one", "other", "parts"] (defScope sLegs) := ⟨rfl, rfl, rfl, by decide +kernel, rfl, by decide +kernel, by decide +kernel⟩
theorem ok_legs {f CT CR CP fE fB : Addr} {fd fdE fdB : FuncData} (F : Fun K "legs" "legs" sLegs f fd) (TT : TeT K mg CT) (TR : RdT K mg CR) (TP : PlT K mg CP)
    (FE : FnOk P w K mg base CX0 1 fE fdE ["road", "crossing"] (spEndAt CR)) (bE : Binds K fdE ["road", "crossing"] []) (mE : mg "end_at" = some (.ref fE)) (kE : PySem.W.keepIn K (.ref fE) = true)
    (FB : FnOk P w K mg base CX0 1 fB fdB ["road", "crossing"] (spEndBy CR)) (bB : Binds K fdB ["road", "crossing"] []) (mB : mg "end_beyond" = some (.ref fB)) (kB : PySem.W.keepIn K (.ref fB) = true) :
    FnOk P w K mg base CX0 2 f fd ["tree", "one", "other", "parts"] (spLegs K CT CR CP) := by
  refine F.ok scLegs (fun vs H Q E h => ?_) (fun cdv A outer s H vs Q E hr h => ?_)
  · obtain ⟨a, p1, p2, n, ps, F, r1, r2, S, c1, c2, rfl, _⟩ := h
    rfl
  · obtain ⟨a, p1, p2, n, ps, F, r1, r2, S, c1, c2, rfl, TA, PA1, PA2, G, sm1, sm2, on1, on2, eS1, eS2, c10, c20, S60, k⟩ := h
    have hu := hu_of hr
    refine ⟨_, pss_cons (ps_set (i := 4) scLegs.nd rfl (Or.inl rfl) (pe_op op_mul (pe_fld (pv 1) rfl) (pe_op op_fdivW (pv 3) (pe_fld (pv 1) rfl))))
      (pss_cons (ps_set (i := 5) scLegs.nd rfl (Or.inl rfl) (pe_op op_mul (pe_fld (pv 2) rfl) (pe_op op_fdivW (pv 3) (pe_fld (pv 2) rfl))))
      (pss_cons (ps_if (pt_cmpR op_eq (pe_fld (pv 1) rfl) (pe_fld (pv 2) rfl) (nomark _)) (pss_one (ps_ret (pe_lst (pa_cons (pe_tup (pa_cons (pe_fld (pv 1) rfl) (pa_cons (pv 4) (pa_cons (pv 5) pa_nil)))) pa_nil)))) pss_nil)
      (pss_cons (ps_set (i := 6) scLegs.nd rfl (Or.inl rfl) (pe_ix ix_tup (pe_fld (pv 0) rfl) (pe_fld (pv 1) rfl) (fun _ _ => rfl)))
      (pss_cons (ps_set (i := 7) scLegs.nd rfl (Or.inl rfl) (pe_ix ix_tup (pe_fld (pv 0) rfl) (pe_fld (pv 2) rfl) (fun _ _ => rfl)))
      (pss_cons (ps_set (i := 8) scLegs.nd rfl (Or.inl rfl) (pe_dget hu (pe_fld (pv 0) rfl) (pe_tup (pa_cons (pe_fld (pv 6) rfl) (pa_cons (pe_fld (pv 7) rfl) pa_nil))) (fun _ _ => rfl)))
      (pss_cons (ps_set (i := 9) scLegs.nd rfl (Or.inl rfl) (pe_ifExp (pt_cmpR op_in_seq (pe_fld (pv 1) rfl) (pv 8) (by rfl)) (pe_fld (pv 6) rfl) (pe_fld (pv 6) rfl)))
      (pss_cons (ps_set (i := 10) scLegs.nd rfl (Or.inl rfl) (pe_lst (pa_cons (pe_tup (pa_cons (pe_fld (pv 1) rfl) (pa_cons (pv 4) (pa_cons (pe_op op_mul (pe_call FE hr rfl mE kE bE .nil pass0 (pa_cons (pv 6) (pa_cons (pv 9) pa_nil))) (pv 3)) pa_nil)))) pa_nil)))
      (pss_cons (ps_for PassesOwn.never rfl (pi_tup (pv 8)) (pg_name (i := 11) scLegs.nd rfl (Or.inl rfl))
        (pss_one (ps_if (pt_cmpR op_notIn_seq (pv 11) (pe_tup (pa_cons (pe_fld (pv 1) rfl) (pa_cons (pe_fld (pv 2) rfl) pa_nil))) (by rfl))
          (pss_cons (ps_set (i := 12) scLegs.nd rfl (Or.inl rfl) (pe_ix ix_tup (pe_fld (pv 0) rfl) (pv 11) (fun _ _ => rfl)))
          (pss_cons (ps_set (i := 13) scLegs.nd rfl (Or.inl rfl) (pe_call FB hr rfl mB kB bB .nil pass0 (pa_cons (pv 12) (pa_cons (pv 9) pa_nil))))
          (pss_cons (ps_expr (pe_bm PySem.F.plainAttrs_list PySem.F.slot_list_append PySem.F.type_list_append mt_append (pv 10) (pa_cons (pe_tup (pa_cons (pv 11) (pa_cons (pe_op op_mul (pe_call FE hr rfl mE kE bE .nil pass0 (pa_cons (pv 12) (pa_cons (pv 9) pa_nil))) (pv 3))
              (pa_cons (pe_op op_mul (pe_call FE hr rfl mE kE bE .nil pass0 (pa_cons (pv 12) (pa_cons (pv 13) pa_nil))) (pv 3)) pa_nil)))) pa_nil)))
          (pss_one (ps_set (i := 9) scLegs.nd rfl (Or.inl rfl) (pv 13)))))) pss_nil)))
      (pss_cons (ps_expr (pe_bm PySem.F.plainAttrs_list PySem.F.slot_list_append PySem.F.type_list_append mt_append (pv 10) (pa_cons (pe_tup (pa_cons (pe_fld (pv 2) rfl) (pa_cons (pe_op op_mul (pe_call FE hr rfl mE kE bE .nil pass0 (pa_cons (pv 7) (pa_cons (pv 9) pa_nil))) (pv 3)) (pa_cons (pv 5) pa_nil)))) pa_nil)))
      (pss_one (ps_ret (pv 10)))))))))))), ?_⟩
    have TA' := TA
    obtain ⟨dx, t, d, kvs, ea, et, rds, trs⟩ := TA
    obtain ⟨dp1, ep1⟩ := id PA1
    obtain ⟨dp2, ep2⟩ := id PA2
    obtain ⟨⟨a0, a1⟩, a2, a3⟩ := on1
    obtain ⟨⟨b0, b1⟩, b2, b3⟩ := on2
    have lk : r1.1.toNat < F.length := by omega
    have lg : r2.1.toNat < F.length := by omega
    have e1 : r1.1 = ((r1.1.toNat : Nat) : Int) := by omega
    have e2 : r2.1 = ((r2.1.toNat : Nat) : Int) := by omega
    have s1 : S / r1.2.2 = c1 := by rw [eS1]; exact Int.mul_ediv_cancel_left _ (by have := sm1.1; omega)
    have s2 : S / r2.2.2 = c2 := by rw [eS2]; exact Int.mul_ediv_cancel_left _ (by have := sm2.1; omega)
    have lg9 : ∀ {x : Int}, 1 ≤ x → x < 2 ^ 60 → x.natAbs.log2 < 9000 := fun {x} h1 h2 => lg60 h1 h2
    have S1 : 1 ≤ S := by
      rw [eS1]
      have := Int.mul_le_mul sm1.1 (show 1 ≤ c1 by omega) (by omega) (by have := sm1.1; omega)
      omega
    have cS : ∀ {r c : Int}, 1 ≤ r → 0 < c → S = r * c → c < 2 ^ 64 := fun {r c} h1 h2 h3 => by
      have := Int.mul_le_mul h1 (Int.le_refl c) (by omega) (by omega)
      omega
    have cc1 := cS sm1.1 c10 eS1
    have cc2 := cS sm2.1 c20 eS2
    have three : ∀ {u v x : V}, [u, v, x].length ≤ sizeLine := fun {u v x} => (by show 3 ≤ sizeLine; decide)
    -- start, end
    refine ⟨_, rfl, p1, CP, dp1, _, _, rfl, ep1, TP.cl, TP.nN, plF_n r1, _, rfl, _, rfl, p1, CP, dp1, _, _, rfl, ep1, TP.cl, TP.nP, plF_p r1, _, _, rfl, rfl, ⟨by have := sm1.1; omega, lg9 sm1.1 sm1.2⟩, _, _, rfl, rfl, .inr (by rw [s1]; exact ⟨by omega, by omega⟩), ?_⟩
    refine ⟨_, rfl, p2, CP, dp2, _, _, rfl, ep2, TP.cl, TP.nN, plF_n r2, _, rfl, _, rfl, p2, CP, dp2, _, _, rfl, ep2, TP.cl, TP.nP, plF_p r2, _, _, rfl, rfl, ⟨by have := sm2.1; omega, lg9 sm2.1 sm2.2⟩, _, _, rfl, rfl, .inr (by rw [s2]; exact ⟨by omega, by omega⟩), ?_⟩
    rw [s1, s2]
    -- if one.road == other.road
    refine ⟨_, rfl, p1, CP, dp1, _, _, rfl, ep1, TP.cl, TP.nR, plF_r r1, _, rfl, p2, CP, dp2, _, _, rfl, ep2, TP.cl, TP.nR, plF_r r2, rfl, _, rfl, ?_⟩
    by_cases same : r1.1 = r2.1
    · refine iteV same ⟨_, rfl, p1, CP, dp1, _, _, rfl, ep1, TP.cl, TP.nR, plF_r r1, _, rfl, _, rfl, three, fun tt htt => ⟨(by show 1 ≤ sizeLine; decide), fun L hL => ?_⟩⟩
      have s3 : Same H (upd (upd H tt (.tup [.int r1.1, .int (r1.2.1 * c1), .int (r2.2.1 * c2)])) L (.lst [.ref tt])) := Same.trans (Same.new htt) (Same.new hL)
      have el : legsP F S r2.1.toNat (r2.2.1 * c2) r1.1.toNat (r1.2.1 * c1) = [(r2.1.toNat, r1.2.1 * c1, r2.2.1 * c2)] := by
        unfold legsP
        rw [if_pos (by rw [same])]
      refine k L _ s3 ((Same.new htt).free hL) ?_ (by rw [el]; show 1 ≤ 100; decide)
      rw [el]
      refine ⟨[tt], upd_same, .cons ?_ .nil⟩
      show _ = some (HO.tup [.int ((r2.1.toNat : Nat) : Int), .int (r1.2.1 * c1), .int (r2.2.1 * c2)])
      rw [← e2, ← same]
      exact Same.new hL _ _ upd_same
    · refine iteN same ?_
      obtain ⟨q1, eq1, dq1, rq1⟩ := rds.at_ lk
      obtain ⟨q2, eq2, dq2, rq2⟩ := rds.at_ lg
      obtain ⟨o1, o2, _, _⟩ := rd_ok G.m lk
      obtain ⟨o3, o4, _, _⟩ := rd_ok G.m lg
      have l23 : F.length ≤ 23 := by have := G.len; have := G.n24; omega
      have kne : r1.1.toNat ≠ r2.1.toNat := fun z => same (by omega)
      refine ⟨_, rfl, a, CT, dx, _, _, rfl, ea, TT.cl, TT.nR, teF_r n t d, _, rfl, p1, CP, dp1, _, _, rfl, ep1, TP.cl, TP.nR, plF_r r1, t, _, _, _, rfl, rfl, et, at_of e1 eq1, ?_⟩
      refine ⟨_, rfl, a, CT, dx, _, _, rfl, ea, TT.cl, TT.nR, teF_r n t d, _, rfl, p2, CP, dp2, _, _, rfl, ep2, TP.cl, TP.nR, plF_r r2, t, _, _, _, rfl, rfl, et, at_of e2 eq2, ?_⟩
      -- trail = tree.trails[first.a, last.a]
      obtain ⟨v, hv⟩ := hasK_some ((trs.has (rd F r1.1.toNat).1 (rd F r2.1.toNat).1).mpr ⟨o1, o3, G.m.con _ _ o1 o3⟩)
      obtain ⟨pt, l, rfl, hpt, wl, nl⟩ := trs.val _ _ _ hv
      have el := tr_eq G.m wl nl
      refine ⟨_, rfl, a, CT, dx, _, _, rfl, ea, TT.cl, TT.nT, teF_t n t d, _, rfl, q1, CR, dq1, _, _, rfl, rq1, TR.cl, TR.nA, rdF_a _, _, rfl, q2, CR, dq2, _, _, rfl, rq2, TR.cl, TR.nA, rdF_a _, (by show 2 ≤ sizeLine; decide), fun tk htk => ?_⟩
      have s3 : Same H (upd H tk (.tup [.int (rd F r1.1.toNat).1, .int (rd F r2.1.toNat).1])) := Same.new htk
      refine ⟨d, _, rfl, by rw [← hv]; exact DGet.t (k := key2 _ _) (s3 _ _ trs.dc) upd_same, ?_⟩
      -- here = first.b if one.road in trail else first.a
      have hpt3 := sqT_same hpt s3
      have up1 : ∀ R : Prop, (∀ b : Bool, (b = true ↔ r1.1.toNat ∈ l) → R) → R := fun R z => z (decide (r1.1.toNat ∈ l)) decide_eq_true_iff
      have inb : inV (.int r1.1) (l.map fun k => V.int (k : Nat)) = decide (r1.1.toNat ∈ l) := by
        rw [nats_ints, inV_int, decide_eq_decide, e1, Int.toNat_natCast]
        exact mem_nats
      refine ⟨_, rfl, p1, CP, dp1, _, _, rfl, s3 _ _ ep1, TP.cl, TP.nR, plF_r r1, _, rfl, pt, _, rfl, .inr hpt3, rfl, by rw [nats_ints]; exact flat_ints _, _, rfl, ?_⟩
      show if inV (.int r1.1) (l.map fun k => V.int (k : Nat)) = true then _ else _
      rw [inb]
      have S64 : -(2 ^ 64 : Int) < S ∧ S < 2 ^ 64 := ⟨by omega, by omega⟩
      refine ite_val (.int (up F r2.1.toNat r1.1.toNat)) (fun hb Q q => ⟨_, rfl, q1, CR, dq1, _, _, rfl, s3 _ _ rq1, TR.cl, TR.nB, rdF_b _, ?_⟩) (fun hb Q q => ⟨_, rfl, q1, CR, dq1, _, _, rfl, s3 _ _ rq1, TR.cl, TR.nA, rdF_a _, ?_⟩) ?_
      · have e : up F r2.1.toNat r1.1.toNat = (rd F r1.1.toNat).2.1 := by
          unfold up
          rw [el, if_pos (of_decide_eq_true hb)]
        rw [e] at q
        exact q
      · have e : up F r2.1.toNat r1.1.toNat = (rd F r1.1.toNat).1 := by
          unfold up
          rw [el, if_neg (of_decide_eq_false hb)]
        rw [e] at q
        exact q
      -- found = [(one.road, start, end_at(first, here) * parts)]
      refine ⟨_, rfl, p1, CP, dp1, _, _, rfl, s3 _ _ ep1, TP.cl, TP.nR, plF_r r1, _, rfl, _, rfl, _, rfl, q1, rd F r1.1.toNat, up F r2.1.toNat r1.1.toNat, rfl, ⟨dq1, s3 _ _ rq1⟩, _, rfl, _, _, rfl, rfl, .inr S64, three, fun t0 ht0 => ⟨(by show 1 ≤ sizeLine; decide), fun L hL => ?_⟩⟩
      have e0 : ∀ x : Int, ([V.int r1.1, V.int (r1.2.1 * c1), V.int ((if (rd F r1.1.toNat).1 = x then 0 else (rd F r1.1.toNat).2.2) * S)] : List V) = [V.int (legF (r1.1.toNat, r1.2.1 * c1, eAt F S r1.1.toNat x)).1, V.int (legF (r1.1.toNat, r1.2.1 * c1, eAt F S r1.1.toNat x)).2.1, V.int (legF (r1.1.toNat, r1.2.1 * c1, eAt F S r1.1.toNat x)).2.2] := fun x => by
        rw [eAt_prog, e1]
        rfl
      have s4 : Same H (upd (upd (upd H tk (.tup [.int (rd F r1.1.toNat).1, .int (rd F r2.1.toNat).1])) t0 (.tup [V.int r1.1, V.int (r1.2.1 * c1), V.int ((if (rd F r1.1.toNat).1 = up F r2.1.toNat r1.1.toNat then 0 else (rd F r1.1.toNat).2.2) * S)])) L (.lst [.ref t0])) := s3.trans (Same.trans (Same.new ht0) (Same.new hL))
      have eL : upd (upd (upd H tk (.tup [.int (rd F r1.1.toNat).1, .int (rd F r2.1.toNat).1])) t0 (.tup [V.int r1.1, V.int (r1.2.1 * c1), V.int ((if (rd F r1.1.toNat).1 = up F r2.1.toNat r1.1.toNat then 0 else (rd F r1.1.toNat).2.2) * S)])) L (.lst [.ref t0]) L = some (.lst [.ref t0]) := upd_same
      have et0 : TupAt (upd (upd (upd H tk (.tup [.int (rd F r1.1.toNat).1, .int (rd F r2.1.toNat).1])) t0 (.tup [V.int r1.1, V.int (r1.2.1 * c1), V.int ((if (rd F r1.1.toNat).1 = up F r2.1.toNat r1.1.toNat then 0 else (rd F r1.1.toNat).2.2) * S)])) L (.lst [.ref t0])) t0 (legF (r1.1.toNat, r1.2.1 * c1, eAt F S r1.1.toNat (up F r2.1.toNat r1.1.toNat))) := by
        have z := Same.new (o := .lst [.ref t0]) hL t0 _ upd_same
        rw [e0] at z
        rw [e0]
        exact z
      have hLH : H L = none := (s3.trans (Same.new (o := .tup [V.int r1.1, V.int (r1.2.1 * c1), V.int ((if (rd F r1.1.toNat).1 = up F r2.1.toNat r1.1.toNat then 0 else (rd F r1.1.toNat).2.2) * S)]) ht0)).free hL
      generalize upd (upd (upd H tk (.tup [.int (rd F r1.1.toNat).1, .int (rd F r2.1.toNat).1])) t0 (.tup [V.int r1.1, V.int (r1.2.1 * c1), V.int ((if (rd F r1.1.toNat).1 = up F r2.1.toNat r1.1.toNat then 0 else (rd F r1.1.toNat).2.2) * S)])) L (.lst [.ref t0]) = G4 at s4 eL et0 ⊢
      have hpt4 := sqT_same hpt s4
      have ll : l.length ≤ 23 := Nat.le_trans (wl.short nl) l23
      have lP := legsP_K (S := S) (p := r2.2.1 * c2) G.m lg lk kne (r1.2.1 * c1)
      rw [el] at lP
      generalize hfin : legsP F S r2.1.toNat (r2.2.1 * c2) r1.1.toNat (r1.2.1 * c1) = fin at lP k
      -- for number in trail
      refine ⟨_, rfl, pt, rfl, ⟨_, hpt4⟩, for_tup (K := K) (a := pt) (xs := l.map fun k => V.int (k : Nat)) (fun j σ G' => ∃ (c : Int) (v11 v12 v13 : Option V) (ts : List Addr) (fs : List Leg), σ = [some (.ref a), some (.ref p1), some (.ref p2), some (.int S), some (.int (r1.2.1 * c1)), some (.int (r2.2.1 * c2)), some (.ref q1), some (.ref q2), some (.ref pt), some (.int c), some (.ref L), v11, v12, v13] ∧
          But L G4 G' ∧ G' L = some (.lst (ts.map V.ref)) ∧ Paired (TupAt G') ts (fs.map legF) ∧ fin = fs ++ legsK F S r2.1.toNat (r2.2.1 * c2) r1.1.toNat c (l.drop j) ∧ fs.length ≤ j + 1)
        ⟨up F r2.1.toNat r1.1.toNat, none, none, none, [t0], [(r1.1.toNat, r1.2.1 * c1, eAt F S r1.1.toNat (up F r2.1.toNat r1.1.toNat))], rfl, But.refl, eL, .cons et0 .nil, lP, Nat.le_refl _⟩ (fun j σ G' _ ⟨_, _, _, _, _, _, _, b', _⟩ => sqT_kp hpt4 (Kp.but eL b')) ?_ ?_⟩
      · rintro j y σ G' hj ⟨c, v11, v12, v13, ts, fs, rfl, b', gL, gts, ef, fl⟩
        obtain ⟨kj, hkj, rfl⟩ := map_get hj
        have kp' := Kp.but eL b'
        have lkj : kj < F.length := wl.lt (List.mem_of_getElem? hkj)
        have ea' := kp' _ _ (s4 _ _ ea) (fun _ z => nomatch z)
        have ep1' := kp' _ _ (s4 _ _ ep1) (fun _ z => nomatch z)
        have ep2' := kp' _ _ (s4 _ _ ep2) (fun _ z => nomatch z)
        have tl : ts.length ≤ 100 := by
          have := Paired.length gts
          rw [List.length_map] at this
          have := (List.getElem?_eq_some_iff.mp hkj).1
          omega
        rw [drop_get hkj] at ef
        refine ⟨_, rfl, _, rfl, p1, CP, dp1, _, _, rfl, ep1', TP.cl, TP.nR, plF_r r1, _, rfl, p2, CP, dp2, _, _, rfl, ep2', TP.cl, TP.nR, plF_r r2, (by show 2 ≤ sizeLine; decide), fun t3 ht3 => ⟨t3, _, rfl, .inr (SqT.of upd_same), rfl, rfl, ?_⟩⟩
        have s5 : Same G' (upd G' t3 (.tup [.int r1.1, .int r2.1])) := Same.new ht3
        have eb : (if true = true then !inV (V.int (kj : Nat)) [V.int r1.1, V.int r2.1] else inV (V.int (kj : Nat)) [V.int r1.1, V.int r2.1]) = !decide (kj = r1.1.toNat ∨ kj = r2.1.toNat) := by
          rw [if_pos rfl, show ([V.int r1.1, V.int r2.1] : List V) = [r1.1, r2.1].map V.int from rfl, inV_int]
          congr 1
          rw [decide_eq_decide]
          simp only [List.mem_cons, List.not_mem_nil, or_false]
          omega
        refine ⟨_, rfl, ?_⟩
        show if (if true = true then !inV (V.int (kj : Nat)) [V.int r1.1, V.int r2.1] else inV (V.int (kj : Nat)) [V.int r1.1, V.int r2.1]) = true then _ else _
        rw [eb]
        have b5 : But L G4 (upd G' t3 (.tup [.int r1.1, .int r2.1])) := fun b o e n => s5 b o (b' b o e n)
        by_cases sk : kj = r1.1.toNat ∨ kj = r2.1.toNat
        · rw [decide_eq_true sk]
          rw [legsK_skip sk] at ef
          exact iteF ⟨c, _, _, _, ts, fs, rfl, b5, s5 _ _ gL, tups_same gts s5, ef, by omega⟩
        · rw [decide_eq_false sk]
          rw [legsK_go sk] at ef
          obtain ⟨qj, eqj, rqj⟩ := rds.at_ lkj
          have rq5 := ((rqj.same s4).kp kp').same s5
          have ea5 := s5 _ _ ea'
          have gL5 := s5 _ _ gL
          refine iteT ⟨_, rfl, a, CT, dx, _, _, rfl, ea5, TT.cl, TT.nR, teF_r n t d, _, rfl, t, _, _, _, rfl, rfl, sqT_same (sqT_kp (sqT_same et s4) kp') s5, atI_nat eqj, ?_⟩
          refine ⟨_, rfl, _, rfl, qj, rd F kj, c, rfl, rq5, ?_⟩
          rw [eBy_prog]
          refine ⟨_, rfl, .inl ⟨rfl, _, SqL.of gL5⟩, _, rfl, _, rfl, _, rfl, qj, rd F kj, c, rfl, rq5, _, rfl, _, _, rfl, rfl, .inr S64, _, rfl, _, rfl, qj, rd F kj, eBy F kj c, rfl, rq5, _, rfl, _, _, rfl, rfl, .inr S64, three, fun t4 ht4 => ?_⟩
          have s6 := Same.new (o := .tup [V.int ((kj : Nat) : Int), V.int ((if (rd F kj).1 = c then 0 else (rd F kj).2.2) * S), V.int ((if (rd F kj).1 = eBy F kj c then 0 else (rd F kj).2.2) * S)]) ht4
          refine ⟨L, _, _, rfl, rfl, s6 _ _ gL5, small1000 (by rw [List.length_map]; omega), ?_⟩
          have n4 : t4 ≠ L := (ne_of_none gL5 ht4).symm
          refine ⟨_, rfl, eBy F kj c, _, _, _, ts ++ [t4], fs ++ [(kj, eAt F S kj c, eAt F S kj (eBy F kj c))], rfl, fun b o e n => ?_, by rw [List.map_append]; exact upd_same, ?_, by rw [ef, List.append_assoc]; rfl, by rw [List.length_append]; show _ + 1 ≤ _; omega⟩
          · rw [upd_ne n]
            exact s6 b o (b5 b o e n)
          · rw [List.map_append]
            refine paired_snoc (tups_put (tups_same (tups_same gts s5) s6) (s6 _ _ gL5)) ?_
            show upd _ L _ t4 = some (HO.tup [V.int ((kj : Nat) : Int), V.int (eAt F S kj c), V.int (eAt F S kj (eBy F kj c))])
            rw [upd_ne n4, ← eAt_prog F S kj c, ← eAt_prog F S kj (eBy F kj c)]
            exact upd_same
      · rintro σ G' ⟨c, v11, v12, v13, ts, fs, rfl, b', gL, gts, ef, fl⟩
        have elen : (l.map fun k => V.int (k : Nat)).length = l.length := List.length_map ..
        rw [elen] at ef fl
        rw [List.drop_length] at ef
        have kp' := Kp.but eL b'
        have ep2' := kp' _ _ (s4 _ _ ep2) (fun _ z => nomatch z)
        have rq2' : RoadAt CR G' q2 (rd F r2.1.toNat) := (RoadAt.same ⟨dq2, rq2⟩ s4).kp kp'
        have tl : ts.length ≤ 100 := by
          have := Paired.length gts
          rw [List.length_map] at this
          omega
        -- found.append((other.road, end_at(last, here) * parts, end))
        refine ⟨_, rfl, .inl ⟨rfl, _, SqL.of gL⟩, _, rfl, p2, CP, dp2, _, _, rfl, ep2', TP.cl, TP.nR, plF_r r2, _, rfl, _, rfl, q2, rd F r2.1.toNat, c, rfl, rq2', _, rfl, _, _, rfl, rfl, .inr S64, _, rfl, three, fun t4 ht4 => ?_⟩
        have s6 := Same.new (o := .tup [V.int r2.1, V.int ((if (rd F r2.1.toNat).1 = c then 0 else (rd F r2.1.toNat).2.2) * S), V.int (r2.2.1 * c2)]) ht4
        refine ⟨L, _, _, rfl, rfl, s6 _ _ gL, small1000 (by rw [List.length_map]; omega), ?_⟩
        have n4 : t4 ≠ L := (ne_of_none gL ht4).symm
        refine ⟨_, rfl, k L _ (fun b o e => ?_) hLH ⟨ts ++ [t4], by rw [List.map_append]; exact upd_same, ?_⟩ (by rw [ef, List.length_append]; show _ + 1 ≤ _; omega)⟩
        · have nb : b ≠ L := ne_of_none e hLH
          rw [upd_ne nb]
          exact s6 b o (b' b o (s4 b o e) nb)
        · rw [ef, List.map_append]
          refine paired_snoc (tups_put (tups_same gts s6) (s6 _ _ gL)) ?_
          show upd _ L _ t4 = some (HO.tup [V.int ((r2.1.toNat : Nat) : Int), V.int (eAt F S r2.1.toNat c), V.int (r2.2.1 * c2)])
          rw [upd_ne n4, ← eAt_prog F S r2.1.toNat c, ← e2]
          exact upd_same
end
end OT
set_option Elab.async false
set_option linter.all false
set_option maxRecDepth 100000
set_option maxHeartbeats 4000000
namespace OT
open PySem L2 OTR
abbrev sStep : Stmt := top 29
/-- what is raised for a place that the tree does not have -/
def PlErr (CNR COR : Addr) (F : List Fact) (r : Fact) (H : Hp) (E : XK) : Prop := (¬ (0 ≤ r.1 ∧ r.1 < (F.length : Int)) → Raised CNR [("road", .int r.1)] H E) ∧ ((0 ≤ r.1 ∧ r.1 < (F.length : Int)) → ¬ (0 ≤ r.2.1 ∧ r.2.1 ≤ (rd F r.1.toNat).2.2 * r.2.2) → Raised COR [("road", .int r.1)] H E)
theorem PlErr.none {CNR COR : Addr} {F : List Fact} {r : Fact} {H : Hp} {E : XK} (h : PlOn F r) : PlErr CNR COR F r H E := ⟨fun z => absurd h.1 z, fun _ z => absurd h.2 z⟩
def lcmI (a b : Int) : Int := ((Nat.lcm a.natAbs b.natAbs : Nat) : Int)
theorem lcm_of {a b : Int} (ha : 1 ≤ a) (hb : 1 ≤ b) : ∃ c1 c2, lcmI a b = a * c1 ∧ lcmI a b = b * c2 ∧ 0 < c1 ∧ 0 < c2 ∧ lcmI a b ≤ a * b ∧ lcmI a b / a = c1 ∧ lcmI a b / b = c2 := by
  obtain ⟨m, rfl⟩ := Int.eq_ofNat_of_zero_le (show 0 ≤ a by omega)
  obtain ⟨k, rfl⟩ := Int.eq_ofNat_of_zero_le (show 0 ≤ b by omega)
  obtain ⟨c1, e1⟩ := Nat.dvd_lcm_left m k
  obtain ⟨c2, e2⟩ := Nat.dvd_lcm_right m k
  have pos := Nat.lcm_pos (show 0 < m by omega) (show 0 < k by omega)
  have p1 : 0 < c1 := Nat.pos_of_ne_zero fun z => by rw [z, Nat.mul_zero] at e1; omega
  have p2 : 0 < c2 := Nat.pos_of_ne_zero fun z => by rw [z, Nat.mul_zero] at e2; omega
  have le := Nat.le_of_dvd (Nat.mul_pos (show 0 < m by omega) (show 0 < k by omega)) (Nat.lcm_dvd (Nat.dvd_mul_right m k) (Nat.dvd_mul_left k m))
  have q1 : lcmI (m : Int) (k : Int) = (m : Int) * (c1 : Int) := by
    unfold lcmI
    show ((Nat.lcm m k : Nat) : Int) = _
    rw [e1, Int.natCast_mul]
  have q2 : lcmI (m : Int) (k : Int) = (k : Int) * (c2 : Int) := by
    unfold lcmI
    show ((Nat.lcm m k : Nat) : Int) = _
    rw [e2, Int.natCast_mul]
  refine ⟨c1, c2, q1, q2, by omega, by omega, ?_, ?_, ?_⟩
  · unfold lcmI
    show ((Nat.lcm m k : Nat) : Int) ≤ _
    rw [← Int.natCast_mul]
    omega
  · rw [q1]
    exact Int.mul_ediv_cancel_left _ (by omega)
  · rw [q2]
    exact Int.mul_ediv_cancel_left _ (by omega)
theorem total_sum : ∀ L : List Leg, total L = (L.map fun l => dst l.2.1 l.2.2).sum
  | [] => rfl
  | (k, s, e) :: L => by
    rw [List.map_cons, List.sum_cons, ← total_sum L]
    rfl
/-- from one place to another: the parts to the step, how far, which way -/
noncomputable def hRR (F : List Fact) (S : Int) (r1 r2 : Fact) : Int := hP F S r2.1.toNat (r2.2.1 * (S / r2.2.2)) r1.1.toNat (r1.2.1 * (S / r1.2.2))
noncomputable def legsRR (F : List Fact) (S : Int) (r1 r2 : Fact) : List Leg := legsP F S r2.1.toNat (r2.2.1 * (S / r2.2.2)) r1.1.toNat (r1.2.1 * (S / r1.2.2))
end OT
set_option Elab.async false
set_option linter.all false
set_option maxRecDepth 100000
set_option maxHeartbeats 4000000
namespace OT
open PySem L2 OTR
/-- where one is after t parts of a step, or at the goal -/
noncomputable def walkN (F : List Fact) (S : Int) (r1 r2 : Fact) (t : Int) : Nd :=
  if t ≤ hRR F S r1 r2 then node F S (posL (legsRR F S r1 r2) t).1 (posL (legsRR F S r1 r2) t).2 else node F S r2.1.toNat (r2.2.1 * (S / r2.2.2))
def spStep (K : PySem.W.Frag) (CT CR CP CB CNR COR : Addr) : Sp := fun vs H Q E => ∃ (a p1 p2 : Addr) (n : Int) (ps : List Addr) (F : List Fact) (r1 r2 : Fact) (m : Int), vs = [.ref a, .ref p1, .ref p2, .int m] ∧ TreeAt K CT CR H a n ps F ∧ PlaceAt CP H p1 r1 ∧ PlaceAt CP H p2 r2 ∧ TreeG n F ∧
  PlSm r1 ∧ PlSm r2 ∧ low r2 = r2 ∧ r1.2.2 * r2.2.2 < 2 ^ 60 ∧ PlErr CNR COR F r1 H E ∧ (PlOn F r1 → PlErr CNR COR F r2 H E) ∧ (PlOn F r1 → PlOn F r2 → m < 0 → Raised CB [("count", .int m), ("what", .str "steps")] H E) ∧
  (PlOn F r1 → PlOn F r2 → 0 ≤ m → ∀ p' H', Same H H' → PlaceAt CP H' p' (keyF F (lcmI r1.2.2 r2.2.2) (walkN F (lcmI r1.2.2 r2.2.2) r1 r2 (m * lcmI r1.2.2 r2.2.2))) → Q (.ref p') H')
/-- an on-road place in lowest terms lies on the tree -/
theorem on_low {F : List Fact} {S : Int} {k : Nat} {i : Int} (hS : 1 ≤ S) (h : On F S k i) : PlOn F (low ((k : Nat), i, S)) ∧ (low ((k : Nat), i, S)).1.toNat = k ∧ keyF F (low ((k : Nat), i, S)).2.2 (node F (low ((k : Nat), i, S)).2.2 k (low ((k : Nat), i, S)).2.1) = keyF F S (node F S k i) := by
  obtain ⟨c, hc, e1, e2⟩ := low_back (r := (((k : Nat) : Int), i, S)) hS
  have e1' : i = (low (((k : Nat) : Int), i, S)).2.1 * c := e1
  have e2' : S = (low (((k : Nat) : Int), i, S)).2.2 * c := e2
  obtain ⟨h1, h2, h3⟩ := h
  have ek : (low (((k : Nat) : Int), i, S)).1 = (k : Int) := rfl
  refine ⟨⟨⟨by rw [ek]; omega, by rw [ek]; omega⟩, ?_, ?_⟩, by rw [ek]; omega, ?_⟩
  · rw [e1'] at h2
    exact Int.le_of_mul_le_mul_right (by rw [Int.zero_mul]; exact h2) hc
  · rw [ek, Int.toNat_natCast]
    unfold sz at h3
    refine Int.le_of_mul_le_mul_right ?_ hc
    rw [← e1', Int.mul_assoc, ← e2']
    exact h3
  · generalize hr : low (((k : Nat) : Int), i, S) = r at *
    rw [e2', e1', keyF_node_mul hc]
section
variable {P : Program} {w : World} {K : PySem.W.Frag} {mg : Str → Option Value} {base : Heap}
abbrev nStep : List Str := ["tree", "place", "goal", "steps", "parts", "left", "number", "start", "end", "size", "at"]
theorem scStep : FnScope nStep ["tree", "place", "goal", "steps"] (defScope sStep) := ⟨rfl, rfl, rfl, by decide +kernel, rfl, by decide +kernel, by decide +kernel⟩
theorem ok_step {f CT CR CP CB CNR COR fC fL fK fP fB : Addr} {fd fdC fdL fdK fdP fdB : FuncData} (F : Fun K "step" "step" sStep f fd) (TP : PlT K mg CP) (TB : ErT K mg "BadCount" CB fB)
    (FB : FnOk P w K mg base CX0 1 fB fdB ["self", "what", "count"] (spEr2 CB "what" "count")) (bB : Binds K fdB ["self", "what", "count"] [])
    (FC : FnOk P w K mg base (L2.CX P w) 3 fC fdC ["tree", "place"] (spCheckPl K CT CR CP CNR COR)) (bC : Binds K fdC ["tree", "place"] []) (mC : mg "check_place" = some (.ref fC)) (kC : PySem.W.keepIn K (.ref fC) = true)
    (FL : FnOk P w K mg base CX0 2 fL fdL ["tree", "one", "other", "parts"] (spLegs K CT CR CP)) (bL : Binds K fdL ["tree", "one", "other", "parts"] []) (mL : mg "legs" = some (.ref fL)) (kL : PySem.W.keepIn K (.ref fL) = true)
    (FK : FnOk P w K mg base (L2.CX P w) 6 fK fdK ["tree", "place"] (spKey K CT CR CP CNR COR)) (bK : Binds K fdK ["tree", "place"] []) (mK : mg "key" = some (.ref fK)) (kK : PySem.W.keepIn K (.ref fK) = true)
    (MP : Mk K CP fP) (FP : FnOk P w K mg base (L2.CX P w) 3 fP fdP ["self", "road", "number", "parts"] (spPlaceI CP CB)) (bP : Binds K fdP ["self", "road", "number", "parts"] [])
    (hLcm : mg "lcm" = some (.builtin "math.lcm")) (hAbs : mg "abs" = none) :
    FnOk P w K mg base (L2.CX P w) 7 f fd ["tree", "place", "goal", "steps"] (spStep K CT CR CP CB CNR COR) := by
  refine F.okX scStep (fun vs H Q E h => ?_) (fun cdv A outer s H vs Q E hr h => ?_)
  · obtain ⟨a, p1, p2, n, ps, F, r1, r2, m, rfl, _⟩ := h
    rfl
  · obtain ⟨a, p1, p2, n, ps, F, r1, r2, m, rfl, TA, PA1, PA2, G, sm1, sm2, lo2, s60, x1, x2, x3, k⟩ := h
    have hr2 : Room 2 _ := hr.mono (by decide)
    have hr3 : Room 3 _ := hr.mono (by decide)
    have hr4 : Room 4 _ := hr.mono (by decide)
    refine ⟨_, pss_cons (ps_expr (pe_call FC hr3 rfl mC kC bC .nil (passes_call (takes_of rfl rfl rfl rfl) fun _ _ _ _ h => h) (pa_cons (pv 0) (pa_cons (pv 1) pa_nil))))
      (pss_cons (ps_expr (pe_call FC hr3 rfl mC kC bC .nil (passes_call (takes_of rfl rfl rfl rfl) fun _ _ _ _ h => h) (pa_cons (pv 0) (pa_cons (pv 2) pa_nil))))
      (pss_cons (ps_if (pt_cmpR op_lt (pv 3) pe_int (nomark _)) (pss_one (ps_raise rfl (takes_of rfl rfl rfl rfl) (pmk_oex TB.ox TB.iC TB.tI FB hr2 bB .nil pass0 (by rfl) TB.gC (pa_cons pe_str (pa_cons (pv 3) pa_nil))))) pss_nil)
      (pss_cons (ps_set (i := 4) scStep.nd rfl (Or.inl rfl) (pe_callBfun cr_lcm (by rfl) hLcm (pa_cons (pe_fld (pv 1) rfl) (pa_cons (pe_fld (pv 2) rfl) pa_nil))))
      (pss_cons (ps_set (i := 5) scStep.nd rfl (Or.inl rfl) (pe_op op_mul (pv 3) (pv 4)))
      (pss_cons (ps_for (passes_of rfl) rfl (pi_list (pe_call FL hr2 rfl mL kL bL .nil pass0 (pa_cons (pv 0) (pa_cons (pv 1) (pa_cons (pv 2) (pa_cons (pv 4) pa_nil)))))) (pg_tup rfl (pgs_cons (pg_name (i := 6) scStep.nd rfl (Or.inl rfl)) (pgs_cons (pg_name (i := 7) scStep.nd rfl (Or.inl rfl)) (pgs_cons (pg_name (i := 8) scStep.nd rfl (Or.inl rfl)) pgs_nil))))
        (pss_cons (ps_set (i := 9) scStep.nd rfl (Or.inl rfl) (pe_callB call_abs (by rfl) hAbs (by decide +kernel) (pa_cons (pe_op op_sub (pv 8) (pv 7)) pa_nil)))
        (pss_cons (ps_if (pt_cmpR op_le (pv 5) (pv 9) (nomark _))
            (pss_cons (ps_set (i := 10) scStep.nd rfl (Or.inl rfl) (pe_ifExp (pt_cmpR op_lt (pv 7) (pv 8) (nomark _)) (pe_op op_add (pv 7) (pv 5)) (pe_op op_sub (pv 7) (pv 5))))
            (pss_one (ps_ret (pe_call FK hr rfl mK kK bK .nil passF (pa_cons (pv 0) (pa_cons (pe_make MP FP hr4 (by rfl) TP.mgC bP .nil passF (pa_cons (pv 6) (pa_cons (pv 10) (pa_cons (pv 4) pa_nil)))) pa_nil)))))) pss_nil)
        (pss_one (ps_aug (i := 5) scStep.nd rfl (Or.inl rfl) (pv 9) ip_sub)))))
      (pss_one (ps_ret (pe_call FK hr rfl mK kK bK .nil passF (pa_cons (pv 0) (pa_cons (pv 2) pa_nil)))))))))), ?_⟩
    refine ⟨_, rfl, _, rfl, a, p1, n, ps, F, r1, rfl, TA, PA1, G, sm1, x1.1, x1.2, fun on1 => ?_⟩
    refine ⟨_, rfl, _, rfl, a, p2, n, ps, F, r2, rfl, TA, PA2, G, sm2, (x2 on1).1, (x2 on1).2, fun on2 => ?_⟩
    refine ⟨_, rfl, _, _, rfl, rfl, _, rfl, ?_⟩
    by_cases m0 : m < 0
    · rw [decide_eq_true m0]
      exact iteT ⟨_, rfl, len2, fun b hb => er2 hb (x3 on1 on2 m0)⟩
    rw [decide_eq_false m0]
    refine iteF ?_
    obtain ⟨dp1, ep1⟩ := id PA1
    obtain ⟨dp2, ep2⟩ := id PA2
    obtain ⟨sm11, sm12⟩ := sm1
    obtain ⟨sm21, sm22⟩ := sm2
    obtain ⟨c1, c2, eS1, eS2, c10, c20, le, dv1, dv2⟩ := lcm_of sm11 sm21
    have k' := k on1 on2 (by omega)
    refine ⟨_, rfl, p1, CP, dp1, _, _, rfl, ep1, TP.cl, TP.nP, plF_p r1, _, rfl, p2, CP, dp2, _, _, rfl, ep2, TP.cl, TP.nP, plF_p r2, _, _, rfl, by omega, by omega, ?_⟩
    have S1 : 1 ≤ lcmI r1.2.2 r2.2.2 := by
      rw [eS1]
      have := Int.mul_le_mul sm11 (show 1 ≤ c1 by omega) (by omega) (by omega)
      omega
    have S60 : lcmI r1.2.2 r2.2.2 < 2 ^ 60 := by omega
    show tSeq _ _ _ (List.set _ 4 (some (V.int (lcmI r1.2.2 r2.2.2)))) H
    unfold walkN legsRR hRR at k'
    rw [dv1, dv2] at k'
    generalize lcmI r1.2.2 r2.2.2 = S at *
    have S64 : -(2 ^ 64 : Int) < S ∧ S < 2 ^ 64 := ⟨by omega, by omega⟩
    refine ⟨_, rfl, _, rfl, _, _, rfl, rfl, .inr S64, ?_⟩
    -- for number, start, end in legs(..)
    refine ⟨_, rfl, _, rfl, _, rfl, _, rfl, a, p1, p2, n, ps, F, r1, r2, S, c1, c2, rfl, TA, PA1, PA2, G, ⟨sm11, sm12⟩, ⟨sm21, sm22⟩, on1, on2, eS1, eS2, c10, c20, S60, fun L H1 s1 hL fa ll => ?_⟩
    have hg : On F S r2.1.toNat (r2.2.1 * c2) := by
      obtain ⟨⟨b0, b1⟩, b2, b3⟩ := on2
      refine ⟨by omega, Int.mul_nonneg b2 (by omega), ?_⟩
      unfold sz
      rw [eS2, ← Int.mul_assoc]
      exact Int.mul_le_mul_of_nonneg_right b3 (by omega)
    have hk : On F S r1.1.toNat (r1.2.1 * c1) := by
      obtain ⟨⟨b0, b1⟩, b2, b3⟩ := on1
      refine ⟨by omega, Int.mul_nonneg b2 (by omega), ?_⟩
      unfold sz
      rw [eS1, ← Int.mul_assoc]
      exact Int.mul_le_mul_of_nonneg_right b3 (by omega)
    have path := (legsP_ok G.m S1 hg hk).1
    unfold hP at k'
    generalize hl : legsP F S r2.1.toNat (r2.2.1 * c2) r1.1.toNat (r1.2.1 * c1) = legs at fa ll path k'
    obtain ⟨ts, eL, pts⟩ := fa
    have el : (ts.map V.ref).length = legs.length := by rw [List.length_map, Paired.length pts, List.length_map]
    have TA1 := TA.same s1
    have PA21 := PA2.same s1
    have mS : 0 ≤ m * S := Int.mul_nonneg (by omega) (by omega)
    refine ⟨L, rfl, ⟨_, SqL.of eL⟩, for_list (K := K) (a := L) (xs := ts.map V.ref) (fun i σ G' => ∃ (left : Int) (v6 v7 v8 v9 : Option V), σ = [some (.ref a), some (.ref p1), some (.ref p2), some (.int m), some (.int S), some (.int left), v6, v7, v8, v9, none] ∧ G' = H1 ∧
        m * S = total (legs.take i) + left ∧ 0 ≤ left ∧ (0 < i → 0 < left) ∧ posL legs (m * S) = posL (legs.drop i) left)
      ⟨m * S, none, none, none, none, rfl, rfl, by show m * S = 0 + m * S; omega, mS, fun z => absurd z (Nat.lt_irrefl _), rfl⟩ (fun i σ G' _ ⟨_, _, _, _, _, _, e, _⟩ => by rw [e]; exact SqL.of eL) ?_ ?_⟩
    · rintro i y σ G' hi ⟨left, v6, v7, v8, v9, rfl, rfl, e1, l0, lp, ep⟩
      obtain ⟨t, ht, rfl⟩ := map_get hi
      obtain ⟨r, hr', tr⟩ := paired_get pts ht
      obtain ⟨⟨kk, ss, ee⟩, hl', rfl⟩ := map_get hr'
      rw [drop_get hl'] at ep
      refine ⟨t, _, rfl, SqT.of tr, rfl, _, _, rfl, _, _, rfl, _, _, rfl, rfl, ?_⟩
      refine ⟨_, rfl, _, rfl, _, _, rfl, rfl, _, rfl, ?_⟩
      show tSeq _ _ _ (List.set _ 9 (some (V.int (dst ss ee)))) _
      refine ⟨_, rfl, _, rfl, _, _, rfl, rfl, _, rfl, ?_⟩
      have tt : total legs = total (legs.take i) + dst ss ee + total (legs.drop (i + 1)) := by
        have z : ∀ (A B : List Leg), total (A ++ B) = total A + total B := fun A B => by rw [total_sum, total_sum, total_sum, List.map_append, List.sum_append]
        have z2 := z (legs.take i) (legs.drop i)
        rw [List.take_append_drop, drop_get hl'] at z2
        rw [z2]
        show _ + (dst ss ee + _) = _
        omega
      have rest := total_nn (legs.drop (i + 1))
      by_cases c : left ≤ dst ss ee
      · rw [decide_eq_true c]
        rw [posL_le c] at ep
        have le' : m * S ≤ total legs := by omega
        rw [if_pos le', ep] at k'
        have on := (path (m * S) mS le').1
        rw [ep] at on
        refine iteT ?_
        refine ⟨_, rfl, _, rfl, _, _, rfl, rfl, _, rfl, ?_⟩
        refine ite_val (.int (if ss < ee then ss + left else ss - left)) (fun hb Q q => ⟨_, rfl, _, rfl, _, _, rfl, rfl, ?_⟩) (fun hb Q q => ⟨_, rfl, _, rfl, _, _, rfl, rfl, ?_⟩) ?_
        · rw [if_pos (show ss < ee from of_decide_eq_true hb)] at q
          exact q
        · rw [if_neg (show ¬ ss < ee from of_decide_eq_false hb)] at q
          exact q
        generalize (if ss < ee then ss + left else ss - left) = at' at on k' ⊢
        refine ⟨_, rfl, _, rfl, _, rfl, _, rfl, fun x dx nx ndx nex => ⟨x, dx, (((kk : Nat) : Int), at', S), rfl, upd_same, fun z => absurd z (by show ¬ S < 1; omega), fun _ => ⟨lg60 S1 S60, fun H2 px keep => ⟨rfl, ?_⟩⟩⟩⟩
        have s2 := made_same nx ndx keep
        obtain ⟨o1, o2, o3⟩ := on_low S1 on
        have low1 := low_low (r := (((kk : Nat) : Int), at', S)) S1
        have lowS : (low (((kk : Nat) : Int), at', S)).2.2 < 2 ^ 60 := by
          obtain ⟨cc, hc, _, e2⟩ := low_back (r := (((kk : Nat) : Int), at', S)) S1
          have e2' : S = (low (((kk : Nat) : Int), at', S)).2.2 * cc := e2
          have := Int.mul_le_mul_of_nonneg_left (show 1 ≤ cc by omega) (show 0 ≤ (low (((kk : Nat) : Int), at', S)).2.2 by have := low1.1; omega)
          omega
        refine ⟨a, x, n, ps, F, _, rfl, TA1.same s2, px, G, ⟨low1.1, lowS⟩, low1.2, fun z => absurd o1.1 z, fun _ z => absurd o1.2 z, fun _ p' H' s' px' => ?_⟩
        rw [o2, o3] at px'
        exact k' p' H' ((s1.trans s2).trans s') px'
      · rw [decide_eq_false c]
        refine iteF ⟨_, rfl, _, rfl, _, _, rfl, rfl, left - dst ss ee, _, _, _, _, rfl, rfl, ?_, by omega, fun _ => by omega, ?_⟩
        · have z : ∀ (A B : List Leg), total (A ++ B) = total A + total B := fun A B => by rw [total_sum, total_sum, total_sum, List.map_append, List.sum_append]
          rw [take_get hl', z]
          show m * S = _ + (dst ss ee + 0) + _
          omega
        · rw [ep, posL_gt c]
    · rintro σ G' ⟨left, v6, v7, v8, v9, rfl, rfl, e1, l0, lp, ep⟩
      rw [el, List.take_length] at e1
      have pos : 0 < legs.length := by
        rw [← hl]
        unfold legsP
        split
        · exact Nat.one_pos
        · exact Nat.succ_pos _
      have l1 := lp (by rw [el]; exact pos)
      have gt : ¬ m * S ≤ total legs := by omega
      rw [if_neg gt] at k'
      refine ⟨_, rfl, _, rfl, a, p2, n, ps, F, r2, rfl, TA1, PA21, G, ⟨sm21, sm22⟩, lo2, fun z => absurd on2.1 z, fun _ z => absurd on2.2 z, fun _ p' H' s' px' => ?_⟩
      refine k' p' H' (s1.trans s') ?_
      rw [eS2, keyF_node_mul c20]
      exact px'
end
end OT
set_option Elab.async false
set_option linter.all false
set_option maxRecDepth 100000
set_option maxHeartbeats 4000000
set_option Elab.async false
set_option linter.all false
set_option maxRecDepth 100000
set_option maxHeartbeats 4000000
namespace OT
open PySem L2 OTR
/-- the place r is the step i of S to the step, on the road k -/
structure PlE (F : List Fact) (S : Int) (r : Fact) (k : Nat) (i : Int) : Prop where
  rd : r.1 = (k : Nat)
  d : ∃ d, 0 < d ∧ S = r.2.2 * d ∧ i = r.2.1 * d
  on : On F S k i
  p1 : 1 ≤ r.2.2
  lo : low r = r
theorem PlE.pl {F : List Fact} {S : Int} {r : Fact} {k : Nat} {i : Int} (h : PlE F S r k i) : PlOn F r := by
  obtain ⟨d, d0, e1, e2⟩ := h.d
  obtain ⟨o1, o2, o3⟩ := h.on
  refine ⟨⟨by rw [h.rd]; omega, by rw [h.rd]; omega⟩, ?_, ?_⟩
  · rw [e2] at o2
    exact Int.le_of_mul_le_mul_right (by rw [Int.zero_mul]; exact o2) d0
  · rw [h.rd, Int.toNat_natCast]
    unfold sz at o3
    refine Int.le_of_mul_le_mul_right ?_ d0
    rw [← e2, Int.mul_assoc, ← e1]
    exact o3
theorem PlE.le {F : List Fact} {S : Int} {r : Fact} {k : Nat} {i : Int} (h : PlE F S r k i) : r.2.2 ≤ S := by
  obtain ⟨d, d0, e1, _⟩ := h.d
  have := Int.mul_le_mul_of_nonneg_left (show 1 ≤ d by omega) (show 0 ≤ r.2.2 by have := h.p1; omega)
  omega
theorem both {F : List Fact} {S : Int} {r1 r2 : Fact} {k g : Nat} {i p : Int} (h1 : PlE F S r1 k i) (h2 : PlE F S r2 g p) (hS : 1 ≤ S) : ∃ c, 0 < c ∧ 1 ≤ lcmI r1.2.2 r2.2.2 ∧ S = lcmI r1.2.2 r2.2.2 * c ∧ i = r1.2.1 * (lcmI r1.2.2 r2.2.2 / r1.2.2) * c ∧ p = r2.2.1 * (lcmI r1.2.2 r2.2.2 / r2.2.2) * c ∧
    On F (lcmI r1.2.2 r2.2.2) k (r1.2.1 * (lcmI r1.2.2 r2.2.2 / r1.2.2)) ∧ On F (lcmI r1.2.2 r2.2.2) g (r2.2.1 * (lcmI r1.2.2 r2.2.2 / r2.2.2)) := by
  obtain ⟨c1, c2, e1, e2, c10, c20, _, dv1, dv2⟩ := lcm_of h1.p1 h2.p1
  obtain ⟨d1, d10, a1, a2⟩ := h1.d
  obtain ⟨d2, d20, b1, b2⟩ := h2.d
  have q1 := h1.p1
  have q2 := h2.p1
  have dvd : lcmI r1.2.2 r2.2.2 ∣ S := by
    have z : Nat.lcm r1.2.2.natAbs r2.2.2.natAbs ∣ S.natAbs := Nat.lcm_dvd (Int.natAbs_dvd_natAbs.mpr ⟨d1, a1⟩) (Int.natAbs_dvd_natAbs.mpr ⟨d2, b1⟩)
    exact Int.natAbs_dvd_natAbs.mp (by unfold lcmI; rw [Int.natAbs_natCast]; exact z)
  obtain ⟨c, ec⟩ := dvd
  have L1 : 1 ≤ lcmI r1.2.2 r2.2.2 := by
    rw [e1]
    have := Int.mul_le_mul q1 (show 1 ≤ c1 by omega) (by omega) (by omega)
    omega
  have c0 : 0 < c := by
    rcases Int.lt_trichotomy c 0 with h | h | h
    · have := Int.mul_le_mul_of_nonneg_left (show c ≤ 0 by omega) (show 0 ≤ lcmI r1.2.2 r2.2.2 by omega)
      omega
    · rw [h, Int.mul_zero] at ec
      omega
    · exact h
  have ed1 : d1 = c1 * c := Int.eq_of_mul_eq_mul_left (a := r1.2.2) (by omega) (by rw [← a1, ec, e1, Int.mul_assoc])
  have ed2 : d2 = c2 * c := Int.eq_of_mul_eq_mul_left (a := r2.2.2) (by omega) (by rw [← b1, ec, e2, Int.mul_assoc])
  have ei : i = r1.2.1 * (lcmI r1.2.2 r2.2.2 / r1.2.2) * c := by rw [dv1, a2, ed1, Int.mul_assoc]
  have ep : p = r2.2.1 * (lcmI r1.2.2 r2.2.2 / r2.2.2) * c := by rw [dv2, b2, ed2, Int.mul_assoc]
  have on : ∀ {k : Nat} {x y : Int}, On F S k y → y = x * c → On F (lcmI r1.2.2 r2.2.2) k x := fun {k x y} o e => by
    obtain ⟨o1, o2, o3⟩ := o
    rw [e] at o2 o3
    rw [ec, sz_mul] at o3
    exact ⟨o1, Int.le_of_mul_le_mul_right (by rw [Int.zero_mul]; exact o2) c0, Int.le_of_mul_le_mul_right o3 c0⟩
  exact ⟨c, c0, L1, ec, ei, ep, on h1.on ei, on h2.on ep⟩
section
variable {n : Int} {F : List Fact} {S : Int} (T : TreeM n F) (hS : 1 ≤ S)
include T hS
/-- a way is no longer than a walk -/
theorem hP_le_sym {k g : Nat} {i p : Int} (hk : On F S k i) (hg : On F S g p) : hP F S g p k i ≤ hP F S k i g p := by
  have m0 : 0 ≤ hP F S k i g p := total_nn _
  have step : ∀ t : Nat, (t : Int) ≤ hP F S k i g p → hN F S g p (pth F S k i g p (t : Nat)) ≤ t := by
    intro t
    induction t with
    | zero =>
      intro _
      show hN F S g p (pth F S k i g p 0) ≤ 0
      rw [pth_0 T hS hk hg, hN_node T hS hg hg, hP_g, dst_self]
      exact Int.le_refl _
    | succ t ih =>
      intro h
      have h' : (t : Int) + 1 ≤ hP F S k i g p := by
        rw [← Int.natCast_succ]
        exact h
      have h2 : (t : Int) ≤ hP F S k i g p := Int.le_trans (Int.le_add_one (Int.le_refl _)) h'
      have a := (pth_ok T hS hk hg (t := (t : Nat)) (Int.natCast_nonneg t) h2).2.2 h'
      have b := ih h2
      have e := adj_step T hS hg a
      rw [Int.natCast_succ]
      rcases e with e | e
      · rw [e]
        exact Int.add_le_add_right b 1
      · rw [e]
        exact Int.le_trans (Int.sub_le_self _ (by decide)) (Int.le_trans b (Int.le_add_one (Int.le_refl _)))
  have ht := step (hP F S k i g p).toNat (by rw [Int.toNat_of_nonneg m0]; exact Int.le_refl _)
  rw [Int.toNat_of_nonneg m0] at ht
  obtain ⟨o, z, _⟩ := pth_ok T hS hk hg (t := hP F S k i g p) m0 (Int.le_refl _)
  rw [Int.sub_self] at z
  rw [zero_aim T hS hk o z, hN_node T hS hg hk] at ht
  exact ht
theorem hP_sym {k g : Nat} {i p : Int} (hk : On F S k i) (hg : On F S g p) : hP F S g p k i = hP F S k i g p := Int.le_antisymm (hP_le_sym T hS hk hg) (hP_le_sym T hS hg hk)
end
/-- what step answers -/
theorem step_eq {n : Int} {F : List Fact} {S : Int} (T : TreeM n F) {r1 r2 : Fact} {k g : Nat} {i p m : Int} (h1 : PlE F S r1 k i) (h2 : PlE F S r2 g p) (hS : 1 ≤ S) : keyF F (lcmI r1.2.2 r2.2.2) (walkN F (lcmI r1.2.2 r2.2.2) r1 r2 (m * lcmI r1.2.2 r2.2.2)) = keyF F S (pth F S g p k i (if hP F S g p k i < m * S then hP F S g p k i else m * S)) := by
  have ho1 := h1.on
  have ho2 := h2.on
  obtain ⟨c, c0, L1, ec, ei, ep, o1, o2⟩ := both h1 h2 hS
  generalize hL : lcmI r1.2.2 r2.2.2 = L at *
  generalize hx : r1.2.1 * (L / r1.2.2) = x at *
  generalize hy : r2.2.1 * (L / r2.2.2) = y at *
  have eh : hP F S g p k i = hP F L g y k x * c := by rw [ec, ei, ep, hP_mul c0]
  have em : m * S = m * L * c := by rw [ec, Int.mul_assoc]
  have ept : ∀ t : Int, keyF F S (pth F S g p k i (t * c)) = keyF F L (pth F L g y k x t) := fun t => by
    unfold pth
    rw [ec, ei, ep, legsP_mul, posL_mul c0, keyF_node_mul c0]
  unfold walkN
  have e1 : hRR F L r1 r2 = hP F L g y k x := by unfold hRR; rw [h1.rd, h2.rd, Int.toNat_natCast, Int.toNat_natCast, hx, hy]
  have e2 : legsRR F L r1 r2 = legsP F L g y k x := by unfold legsRR; rw [h1.rd, h2.rd, Int.toNat_natCast, Int.toNat_natCast, hx, hy]
  rw [e1, e2, h2.rd, Int.toNat_natCast, hy, eh, em]
  by_cases c2 : m * L ≤ hP F L g y k x
  · have c3 : ¬ hP F L g y k x * c < m * L * c := Int.not_lt.mpr (Int.mul_le_mul_of_nonneg_right c2 (Int.le_of_lt c0))
    rw [if_pos c2, if_neg c3, ept]
    rfl
  · have c3 : hP F L g y k x * c < m * L * c := Int.mul_lt_mul_of_pos_right (Int.not_le.mp c2) c0
    rw [if_neg c2, if_pos c3, ept]
    obtain ⟨o, z, _⟩ := pth_ok T L1 o2 o1 (t := hP F L g y k x) (total_nn _) (Int.le_refl _)
    rw [Int.sub_self] at z
    rw [zero_aim T L1 o2 o z]
theorem mkPlE {F : List Fact} {s c : Int} {k : Nat} {i : Int} (hs : 1 ≤ s) (hc : 1 ≤ c) (o : On F s k i) : PlE F (s * c) (low (((k : Nat) : Int), i, s)) k (i * c) := by
  obtain ⟨d, d0, e1, e2⟩ := low_back (r := (((k : Nat) : Int), i, s)) hs
  have e1' : i = (low (((k : Nat) : Int), i, s)).2.1 * d := e1
  have e2' : s = (low (((k : Nat) : Int), i, s)).2.2 * d := e2
  have lo := low_low (r := (((k : Nat) : Int), i, s)) hs
  obtain ⟨o1, o2, o3⟩ := o
  refine ⟨rfl, ⟨d * c, Int.mul_pos d0 (by omega), ?_, ?_⟩, ⟨o1, Int.mul_nonneg o2 (by omega), ?_⟩, lo.1, lo.2⟩
  · rw [← Int.mul_assoc, ← e2']
  · rw [← Int.mul_assoc, ← e1']
  · rw [sz_mul]
    exact Int.mul_le_mul_of_nonneg_right o3 (by omega)
end OT
set_option linter.all false
set_option Elab.async false
set_option linter.all false
set_option maxRecDepth 100000
set_option maxHeartbeats 4000000
namespace OT
open PySem L2 OTR
theorem mkPl0 {F : List Fact} {s : Int} {k : Nat} {i : Int} (hs : 1 ≤ s) (o : On F s k i) : PlE F s (low (((k : Nat) : Int), i, s)) k i := by
  obtain ⟨d, d0, e1, e2⟩ := low_back (r := (((k : Nat) : Int), i, s)) hs
  have lo := low_low (r := (((k : Nat) : Int), i, s)) hs
  exact ⟨rfl, ⟨d, d0, e2, e1⟩, o, lo.1, lo.2⟩
theorem PlE.keyF {F : List Fact} {S : Int} {r : Fact} {k : Nat} {i : Int} (h : PlE F S r k i) : OT.keyF F r.2.2 (node F r.2.2 r.1.toNat r.2.1) = OT.keyF F S (node F S k i) := by
  obtain ⟨d, d0, e1, e2⟩ := h.d
  rw [h.rd, Int.toNat_natCast, e2]
  conv => rhs; rw [e1]
  rw [keyF_node_mul d0]
/-- a key, as a step of S to the step -/
theorem key_ple {n : Int} {F : List Fact} {S : Int} (T : TreeM n F) (n2 : 2 ≤ n) (hS : 1 ≤ S) {u : Nd} (ou : OnT F S u) : ∃ kk ii, PlE F S (OT.keyF F S u) kk ii ∧ node F S kk ii = u := by
  obtain ⟨k, i, o, rfl⟩ := ou
  cases e : node F S k i with
  | cr c =>
    have ic : In n c := by
      obtain ⟨e1, _⟩ := node_cr T hS o.1 e
      have o := rd_ok T o.1
      rcases e1 with e1 | e1
      · exact e1 ▸ o.1
      · exact e1 ▸ o.2.1
    obtain ⟨f1, f2, f3⟩ := fstR_spec T ic n2
    refine ⟨fstR F c, eAt F S (fstR F c) c, ⟨rfl, ⟨S, by omega, ?_, ?_⟩, eAt_on T hS f1 c, Int.le_refl 1, low_one _ _⟩, node_eAt T hS f1 f2⟩
    · show S = 1 * S
      rw [Int.one_mul]
    · show eAt F S (fstR F c) c = eAt F 1 (fstR F c) c * S
      rw [← eAt_mul, Int.one_mul]
  | mid k2 i2 =>
    have e2 : k2 = k ∧ i2 = i := by
      unfold node at e
      split at e
      · cases e
      · split at e
        · cases e
        · cases e
          exact ⟨rfl, rfl⟩
    obtain ⟨rfl, rfl⟩ := e2
    exact ⟨k2, i2, mkPl0 hS o, e⟩
end OT
set_option Elab.async false
set_option linter.all false
set_option maxRecDepth 100000
set_option maxHeartbeats 1000000
namespace OT
open PySem L2 OTR
/-- a march: the road, the distance and the parts of its goal; its steps -/
abbrev MFact := Int × Int × Int × Int
def mPl (m : MFact) : Fact := (m.1, m.2.1, m.2.2.1)
inductive ErrM where
  | marches (n : Int)
  | no (r : Int)
  | off (r : Int)
  | whole (k : Int)
  | steps (n : Int)
def RdIn (F : List Fact) (x : Int) : Prop := 0 ≤ x ∧ x < (F.length : Int)
instance (F : List Fact) (x : Int) : Decidable (RdIn F x) := by unfold RdIn; exact inferInstance
def SpIn (F : List Fact) (r : Fact) : Prop := 0 ≤ r.2.1 ∧ r.2.1 ≤ (rd F r.1.toNat).2.2 * r.2.2
instance (F : List Fact) (r : Fact) : Decidable (SpIn F r) := by unfold SpIn; exact inferInstance
def StIn (n : Int) : Prop := 1 ≤ n ∧ n ≤ 1000000000
instance (n : Int) : Decidable (StIn n) := by unfold StIn; exact inferInstance
/-- the error of the march with the number k -/
def dueO (F : List Fact) (k : Int) (m : MFact) : Option ErrM :=
  if ¬ RdIn F m.1 then some (.no m.1) else if ¬ SpIn F (mPl m) then some (.off m.1) else if m.2.1 % m.2.2.1 ≠ 0 then some (.whole k) else if ¬ StIn m.2.2.2 then some (.steps m.2.2.2) else none
def dueL (F : List Fact) : Nat → List MFact → Option ErrM
  | _, [] => none
  | k, m :: l => match dueO F (k : Nat) m with
    | some e => some e
    | none => dueL F (k + 1) l
def dueM (F : List Fact) (l : List MFact) : Option ErrM := if 24 < l.length then some (.marches l.length) else dueL F 0 l
theorem dueL_cons_some {F : List Fact} {k : Nat} {m : MFact} {l : List MFact} {e : ErrM} (h : dueO F (k : Nat) m = some e) : dueL F k (m :: l) = some e := by
  unfold dueL
  rw [h]
theorem dueL_cons_none {F : List Fact} {k : Nat} {m : MFact} {l : List MFact} (h : dueO F (k : Nat) m = none) : dueL F k (m :: l) = dueL F (k + 1) l := by
  rw [dueL, h]
theorem dueO_no {F : List Fact} {k : Int} {m : MFact} (h : ¬ RdIn F m.1) : dueO F k m = some (.no m.1) := by
  unfold dueO
  rw [if_pos h]
theorem dueO_off {F : List Fact} {k : Int} {m : MFact} (h : RdIn F m.1) (h2 : ¬ SpIn F (mPl m)) : dueO F k m = some (.off m.1) := by
  unfold dueO
  rw [if_neg (fun z => z h), if_pos h2]
theorem dueO_whole {F : List Fact} {k : Int} {m : MFact} (h : RdIn F m.1) (h2 : SpIn F (mPl m)) (h3 : m.2.1 % m.2.2.1 ≠ 0) : dueO F k m = some (.whole k) := by
  unfold dueO
  rw [if_neg (fun z => z h), if_neg (fun z => z h2), if_pos h3]
theorem dueO_steps {F : List Fact} {k : Int} {m : MFact} (h : RdIn F m.1) (h2 : SpIn F (mPl m)) (h3 : m.2.1 % m.2.2.1 = 0) (h4 : ¬ StIn m.2.2.2) : dueO F k m = some (.steps m.2.2.2) := by
  unfold dueO
  rw [if_neg (fun z => z h), if_neg (fun z => z h2), if_neg (fun z => z h3), if_pos h4]
theorem dueO_go {F : List Fact} {k : Int} {m : MFact} (h : RdIn F m.1) (h2 : SpIn F (mPl m)) (h3 : m.2.1 % m.2.2.1 = 0) (h4 : StIn m.2.2.2) : dueO F k m = none := by
  unfold dueO
  rw [if_neg (fun z => z h), if_neg (fun z => z h2), if_neg (fun z => z h3), if_neg (fun z => z h4)]
theorem low_pos {r : Fact} (h : 1 ≤ r.2.2) : 1 ≤ (low r).2.2 ∧ (low r).2.2 ≤ r.2.2 := by
  have g0 := gcd_pos (a := r.2.1) (b := r.2.2) h
  have d := back_of (gcdI_right r.2.1 r.2.2)
  show 1 ≤ r.2.2 / gcdI r.2.1 r.2.2 ∧ r.2.2 / gcdI r.2.1 r.2.2 ≤ r.2.2
  generalize gcdI r.2.1 r.2.2 = g at *
  generalize r.2.2 / g = q at *
  have q1 : 1 ≤ q := by
    have z : 0 < q * g := by omega
    by_cases c : 0 < q
    · omega
    · have : q * g ≤ 0 := Int.mul_nonpos_of_nonpos_of_nonneg (by omega) (by omega)
      omega
  refine ⟨q1, ?_⟩
  have : q * 1 ≤ q * g := Int.mul_le_mul_of_nonneg_left (by omega) (by omega)
  omega
theorem low_sm {r : Fact} (h : 1 ≤ r.2.2) (h2 : r.2.2 < 2 ^ 60) : PlSm (low r) := ⟨(low_pos h).1, by have := (low_pos h).2; omega⟩
theorem low_sp {F : List Fact} {r : Fact} (h : 1 ≤ r.2.2) : SpIn F (low r) ↔ SpIn F r := by
  have g0 := gcd_pos (a := r.2.1) (b := r.2.2) h
  have d := back_of (gcdI_right r.2.1 r.2.2)
  have c := back_of (gcdI_left r.2.1 r.2.2)
  unfold SpIn
  show (0 ≤ r.2.1 / gcdI r.2.1 r.2.2 ∧ r.2.1 / gcdI r.2.1 r.2.2 ≤ (rd F r.1.toNat).2.2 * (r.2.2 / gcdI r.2.1 r.2.2)) ↔ _
  generalize gcdI r.2.1 r.2.2 = g at *
  generalize r.2.2 / g = q at *
  generalize r.2.1 / g = p at *
  generalize (rd F r.1.toNat).2.2 = L at *
  rw [c, d, ← Int.mul_assoc]
  constructor
  · rintro ⟨a, b⟩
    exact ⟨Int.mul_nonneg a (by omega), Int.mul_le_mul_of_nonneg_right b (by omega)⟩
  · rintro ⟨a, b⟩
    refine ⟨?_, Int.le_of_mul_le_mul_right b g0⟩
    by_cases z : 0 ≤ p
    · exact z
    · have : p * g < 0 := Int.mul_neg_of_neg_of_pos (by omega) g0
      omega
theorem low_whl {r : Fact} (h : 1 ≤ r.2.2) : (low r).2.2 = 1 ↔ r.2.1 % r.2.2 = 0 := by
  have g0 := gcd_pos (a := r.2.1) (b := r.2.2) h
  have d := back_of (gcdI_right r.2.1 r.2.2)
  have c := back_of (gcdI_left r.2.1 r.2.2)
  show r.2.2 / gcdI r.2.1 r.2.2 = 1 ↔ _
  constructor
  · intro e
    rw [e, Int.one_mul] at d
    exact Int.emod_eq_zero_of_dvd (by rw [d]; exact gcdI_left _ _)
  · intro e
    have dv : r.2.2 ∣ r.2.1 := Int.dvd_of_emod_eq_zero e
    have dg : r.2.2 ∣ gcdI r.2.1 r.2.2 := by
      unfold gcdI
      exact Int.dvd_coe_gcd dv (Int.dvd_refl _)
    have le : r.2.2 ≤ gcdI r.2.1 r.2.2 := Int.le_of_dvd g0 dg
    have ge : gcdI r.2.1 r.2.2 ≤ r.2.2 := Int.le_of_dvd (by omega) (gcdI_right _ _)
    have e1 : gcdI r.2.1 r.2.2 = r.2.2 := by omega
    rw [e1]
    exact Int.ediv_self (by omega)
end OT
set_option Elab.async false
set_option linter.all false
set_option maxRecDepth 100000
set_option maxHeartbeats 4000000
namespace OT
open PySem L2 OTR
abbrev sNotW : Stmt := inClass (top 9) 0
abbrev sMarchI : Stmt := inClass (top 35) 0
abbrev sRowI : Stmt := inClass (top 36) 0
abbrev sCheckMa : Stmt := top 37
structure MaT (K : PySem.W.Frag) (mg : Str → Option Value) (C : Addr) : Prop where
  cl : Cls K C
  nG : NoAttr K C "goal"
  nS : NoAttr K C "steps"
  mgC : mg "March" = some (.ref C)
structure RwT (K : PySem.W.Frag) (mg : Str → Option Value) (C : Addr) : Prop where
  cl : Cls K C
  nT : NoAttr K C "tree"
  nM : NoAttr K C "marches"
  mgC : mg "Row" = some (.ref C)
def maF (g : Addr) (n : Int) : List (Str × V) := [("goal", .ref g), ("steps", .int n)]
theorem maF_g (g : Addr) (n : Int) : (maF g n).lookup ("goal" : Str) = some (.ref g) := lk0
theorem maF_s (g : Addr) (n : Int) : (maF g n).lookup ("steps" : Str) = some (.int n) := by
  unfold maF
  rw [lk1 (by decide +kernel)]
  exact lk0
theorem maF_put (g : Addr) (n : Int) : putF "steps" (.int n) (putF "goal" (.ref g) []) = maF g n := by
  have h1 : ¬ (("goal" : Str) = "steps") := by decide +kernel
  show (if ("goal" : Str) = "steps" then _ else (("goal" : Str), V.ref g) :: putF "steps" (.int n) []) = maF g n
  rw [if_neg h1]
  rfl
def rwF (a t : Addr) : List (Str × V) := [("tree", .ref a), ("marches", .ref t)]
theorem rwF_t (a t : Addr) : (rwF a t).lookup ("tree" : Str) = some (.ref a) := lk0
theorem rwF_m (a t : Addr) : (rwF a t).lookup ("marches" : Str) = some (.ref t) := by
  unfold rwF
  rw [lk1 (by decide +kernel)]
  exact lk0
theorem rwF_put (a t : Addr) : putF "marches" (.ref t) (putF "tree" (.ref a) []) = rwF a t := by
  have h1 : ¬ (("tree" : Str) = "marches") := by decide +kernel
  show (if ("tree" : Str) = "marches" then _ else (("tree" : Str), V.ref a) :: putF "marches" (.ref t) []) = rwF a t
  rw [if_neg h1]
  rfl
def MarchAt (C : Addr) (H : Hp) (p g : Addr) (n : Int) : Prop := ∃ dx, H p = some (.ins C dx (maF g n))
theorem MarchAt.same {C : Addr} {H H' : Hp} {p g : Addr} {n : Int} (h : MarchAt C H p g n) (s : Same H H') : MarchAt C H' p g n := let ⟨dx, e⟩ := h; ⟨dx, s _ _ e⟩
/-- a march of the program, as the law tells it -/
def MaAt (CM CP : Addr) (H : Hp) (p : Addr) (m : MFact) : Prop := ∃ g, MarchAt CM H p g m.2.2.2 ∧ PlaceAt CP H g (low (mPl m))
theorem MaAt.same {CM CP : Addr} {H H' : Hp} {p : Addr} {m : MFact} (h : MaAt CM CP H p m) (s : Same H H') : MaAt CM CP H' p m := let ⟨g, a, b⟩ := h; ⟨g, a.same s, b.same s⟩
abbrev MasAt (CM CP : Addr) (H : Hp) (ps : List Addr) (l : List MFact) : Prop := Paired (MaAt CM CP H) ps l
theorem MasAt.same {CM CP : Addr} {H H' : Hp} {ps : List Addr} {l : List MFact} (h : MasAt CM CP H ps l) (s : Same H H') : MasAt CM CP H' ps l := Paired.mapP h fun _ _ a => a.same s
/-- the parts of the goals: few enough -/
def MSm (m : MFact) : Prop := 1 ≤ m.2.2.1 ∧ m.2.2.1 < 2 ^ 60
def RaisM (CB CNR COR CNW : Addr) (H : Hp) (E : XK) : ErrM → Prop
  | .marches n => Raised CB [("count", .int n), ("what", .str "marches")] H E
  | .no r => Raised CNR [("road", .int r)] H E
  | .off r => Raised COR [("road", .int r)] H E
  | .whole k => Raised CNW [("march", .int k)] H E
  | .steps n => Raised CB [("count", .int n), ("what", .str "steps")] H E
theorem RaisM.mono {CB CNR COR CNW : Addr} {H H1 : Hp} {E : XK} {e : ErrM} (h : RaisM CB CNR COR CNW H E e) (s : ∀ b o, H b = some o → H1 b = some o) : RaisM CB CNR COR CNW H1 E e := by
  cases e <;> exact Raised.mono h s
def spMarchI (C : Addr) : Sp := fun vs H Q _ => ∃ (p dx g : Addr) (n : Int), vs = [.ref p, .ref g, .int n] ∧ H p = some (.ins C dx []) ∧ ∀ H', MarchAt C H' p g n → (∀ b o, H b = some o → b ≠ p → H' b = some o) → Q .non H'
def spCheckMa (K : PySem.W.Frag) (CT CR CM CP CB CNR COR CNW : Addr) : Sp := fun vs H Q E => ∃ (a p : Addr) (k n : Int) (ps : List Addr) (F : List Fact) (m : MFact), vs = [.ref a, .int k, .ref p] ∧ TreeAt K CT CR H a n ps F ∧ TreeG n F ∧ MaAt CM CP H p m ∧ MSm m ∧
  (∀ e, dueO F k m = some e → RaisM CB CNR COR CNW H E e) ∧ (dueO F k m = none → Q .non H)
def RowAt (K : PySem.W.Frag) (CW : Addr) (H : Hp) (p a : Addr) (ms : List Addr) : Prop := ∃ dx t, H p = some (.ins CW dx (rwF a t)) ∧ SqT K H t (ms.map V.ref)
def spRowI (K : PySem.W.Frag) (CT CR CM CP CW CB CNR COR CNW : Addr) : Sp := fun vs H Q E => ∃ (p dx a l : Addr) (n : Int) (ps : List Addr) (F : List Fact) (ms : List Addr) (fs : List MFact) (H0 : Hp), vs = [.ref p, .ref a, .ref l] ∧ H p = some (.ins CW dx []) ∧ H0 p = none ∧ Same H0 H ∧
  TreeAt K CT CR H0 a n ps F ∧ TreeG n F ∧ SqA K H0 l (ms.map V.ref) ∧ MasAt CM CP H0 ms fs ∧ (∀ m ∈ fs, MSm m) ∧ fs.length ≤ 1000 ∧
  (∀ e, dueM F fs = some e → RaisM CB CNR COR CNW H0 E e) ∧ (dueM F fs = none → ∀ H', RowAt K CW H' p a ms → Same H0 H' → Q .non H')
section
variable {P : Program} {w : World} {K : PySem.W.Frag} {mg : Str → Option Value} {base : Heap}
theorem scNotW : FnScope ["self", "march"] ["self", "march"] (defScope sNotW) := ⟨rfl, rfl, rfl, by decide +kernel, rfl, by decide +kernel, by decide +kernel⟩
theorem ok_notW {f C : Addr} {fd : FuncData} (F : Fun K "__init__" "NotWhole.__init__" sNotW f fd) (T : OexC K C) (n1 : PySem.W.findIn K (.ref C) "march" = some none) : FnOk P w K mg base CX0 1 f fd ["self", "march"] (spEr1 C "march") := by
  refine F.ok scNotW (fun vs H Q E h => ?_) (fun cdv A outer s H vs Q E hr h => ?_)
  · obtain ⟨a, v, rfl, _⟩ := h
    rfl
  · obtain ⟨a, v, rfl, ha, k⟩ := h
    refine ⟨_, pss_one (ps_ost (pv 0) (pv 1)), ?_⟩
    exact ⟨_, rfl, _, rfl, a, C, rfl, T, n1, .inl ⟨ha, fun dx n ne => k dx n ne⟩⟩
theorem scMarchI : FnScope ["self", "goal", "steps"] ["self", "goal", "steps"] (defScope sMarchI) := ⟨rfl, rfl, rfl, by decide +kernel, rfl, by decide +kernel, by decide +kernel⟩
theorem ok_marchI {f C : Addr} {fd : FuncData} (F : Fun K "__init__" "March.__init__" sMarchI f fd) (T : MaT K mg C) : FnOk P w K mg base CX0 1 f fd ["self", "goal", "steps"] (spMarchI C) := by
  refine F.ok scMarchI (fun vs H Q E h => ?_) (fun cdv A outer s H vs Q E hr h => ?_)
  · obtain ⟨p, dx, g, n, rfl, _⟩ := h
    rfl
  · obtain ⟨p, dx, g, n, rfl, hp, k⟩ := h
    refine ⟨_, pss_cons (ps_fld (pv 0) (pv 1) rfl) (pss_one (ps_fld (pv 0) (pv 2) rfl)), ?_⟩
    refine ⟨_, rfl, _, rfl, p, C, dx, [], rfl, hp, T.cl, T.nG, (by show 0 < 1000; decide), ?_⟩
    refine ⟨_, rfl, _, rfl, p, C, dx, _, rfl, upd_same, T.cl, T.nS, (by show 1 < 1000; decide), ?_⟩
    refine k _ ⟨dx, ?_⟩ fun b o e n => ?_
    · rw [← maF_put]
      exact upd_same
    · rw [upd_ne n, upd_ne n]
      exact e
theorem scCheckMa : FnScope ["tree", "number", "march"] ["tree", "number", "march"] (defScope sCheckMa) := ⟨rfl, rfl, rfl, by decide +kernel, rfl, by decide +kernel, by decide +kernel⟩
theorem ok_checkMa {f CT CR CM CP CB CNR COR CNW fC fB fW : Addr} {fd fdC fdB fdW : FuncData} (F : Fun K "check_march" "check_march" sCheckMa f fd) (TM : MaT K mg CM) (TP : PlT K mg CP) (TB : ErT K mg "BadCount" CB fB) (TW : ErT K mg "NotWhole" CNW fW)
    (FC : FnOk P w K mg base (L2.CX P w) 3 fC fdC ["tree", "place"] (spCheckPl K CT CR CP CNR COR)) (bC : Binds K fdC ["tree", "place"] []) (mC : mg "check_place" = some (.ref fC)) (kC : PySem.W.keepIn K (.ref fC) = true)
    (FB : FnOk P w K mg base CX0 1 fB fdB ["self", "what", "count"] (spEr2 CB "what" "count")) (bB : Binds K fdB ["self", "what", "count"] [])
    (FW : FnOk P w K mg base CX0 1 fW fdW ["self", "march"] (spEr1 CNW "march")) (bW : Binds K fdW ["self", "march"] []) (hL : ∃ t, mg "MOST_STEPS" = some (.int 1000000000 t)) :
    FnOk P w K mg base (L2.CX P w) 4 f fd ["tree", "number", "march"] (spCheckMa K CT CR CM CP CB CNR COR CNW) := by
  refine F.okX scCheckMa (fun vs H Q E h => ?_) (fun cdv A outer s H vs Q E hr h => ?_)
  · obtain ⟨a, p, k, n, ps, F, m, rfl, _⟩ := h
    rfl
  · obtain ⟨a, p, k, n, ps, F, m, rfl, TA, G, ⟨g, ⟨dm, em⟩, pl⟩, ⟨sm1, sm2⟩, kE, kQ⟩ := h
    obtain ⟨tL, hL⟩ := hL
    have hr1 : Room 2 _ := hr.mono (by decide)
    refine ⟨_, pss_cons (ps_expr (pe_call FC hr rfl mC kC bC .nil (passes_call (takes_of rfl rfl rfl rfl) fun _ _ _ _ h => h) (pa_cons (pv 0) (pa_cons (pe_fld (pv 2) rfl) pa_nil))))
      (pss_cons (ps_if (pt_cmpR op_ne (pe_fld (pe_fld (pv 2) rfl) rfl) pe_int (nomark _))
          (pss_one (ps_raise rfl (takes_of rfl rfl rfl rfl) (pmk_oex TW.ox TW.iC TW.tI FW hr1 bW .nil pass0 (by rfl) TW.gC (pa_cons (pv 1) pa_nil)))) pss_nil)
      (pss_one (ps_if (pt_not (pt_chain op_le op_le pe_int (pe_fld (pv 2) rfl) (pe_glob (v := V.int 1000000000) rfl hL ⟨tL, rfl⟩)))
          (pss_one (ps_raise rfl (takes_of rfl rfl rfl rfl) (pmk_oex TB.ox TB.iC TB.tI FB hr1 bB .nil pass0 (by rfl) TB.gC (pa_cons pe_str (pa_cons (pe_fld (pv 2) rfl) pa_nil))))) pss_nil))), ?_⟩
    have lsm := low_sm (r := mPl m) sm1 sm2
    have lsp := low_sp (F := F) (r := mPl m) sm1
    have lwh := low_whl (r := mPl m) sm1
    obtain ⟨dp, ep⟩ := id pl
    refine ⟨_, rfl, _, rfl, p, CM, dm, _, _, rfl, em, TM.cl, TM.nG, maF_g g _, a, g, n, ps, F, low (mPl m), rfl, TA, pl, G, lsm, fun z => ?_, fun z1 z2 => ?_, fun on => ?_⟩
    · exact kE _ (dueO_no (m := m) z)
    · exact kE _ (dueO_off (m := m) z1 fun z => z2 (lsp.mpr z))
    obtain ⟨on1, on2⟩ := on
    have on2' := lsp.mp on2
    refine ⟨_, rfl, p, CM, dm, _, _, rfl, em, TM.cl, TM.nG, maF_g g _, g, CP, dp, _, _, rfl, ep, TP.cl, TP.nP, plF_p _, rfl, _, rfl, ?_⟩
    by_cases h3 : (low (mPl m)).2.2 = 1
    · have w3 := lwh.mp h3
      refine iteNS (by rw [h3]) ?_
      refine ⟨_, rfl, p, CM, dm, _, _, rfl, em, TM.cl, TM.nS, maF_s g _, _, _, rfl, rfl, _, rfl, ?_⟩
      by_cases h0 : 1 ≤ m.2.2.2
      · rw [decide_eq_true h0]
        refine iteT ⟨_, _, rfl, rfl, _, rfl, ?_⟩
        by_cases h1 : m.2.2.2 ≤ 1000000000
        · rw [decide_eq_true h1]
          exact iteF (kQ (dueO_go on1 on2' w3 ⟨h0, h1⟩))
        · rw [decide_eq_false h1]
          exact iteT ⟨_, rfl, p, CM, dm, _, _, rfl, em, TM.cl, TM.nS, maF_s g _, len2, fun b hb => er2 hb (kE _ (dueO_steps on1 on2' w3 fun z => h1 z.2))⟩
      · rw [decide_eq_false h0]
        refine iteF ⟨_, rfl, ?_⟩
        exact iteT ⟨_, rfl, p, CM, dm, _, _, rfl, em, TM.cl, TM.nS, maF_s g _, len2, fun b hb => er2 hb (kE _ (dueO_steps on1 on2' w3 fun z => h0 z.1))⟩
    · have h4 : ¬ (V.int (low (mPl m)).2.2 = V.int 1) := fun z => h3 (V.int.inj z)
      rw [decide_eq_false h4]
      exact iteT ⟨_, rfl, len1, fun b hb => er1 hb (kE _ (dueO_whole (m := m) on1 on2' fun z => h3 (lwh.mpr z)))⟩
abbrev nRowI : List Str := ["self", "tree", "marches", "number", "march"]
theorem scRowI : FnScope nRowI ["self", "tree", "marches"] (defScope sRowI) := ⟨rfl, rfl, rfl, by decide +kernel, rfl, by decide +kernel, by decide +kernel⟩
theorem ok_rowI {f CT CR CM CP CW CB CNR COR CNW fC fB : Addr} {fd fdC fdB : FuncData} (F : Fun K "__init__" "Row.__init__" sRowI f fd) (TW : RwT K mg CW) (TB : ErT K mg "BadCount" CB fB)
    (FC : FnOk P w K mg base (L2.CX P w) 4 fC fdC ["tree", "number", "march"] (spCheckMa K CT CR CM CP CB CNR COR CNW)) (bC : Binds K fdC ["tree", "number", "march"] []) (mC : mg "check_march" = some (.ref fC)) (kC : PySem.W.keepIn K (.ref fC) = true)
    (FB : FnOk P w K mg base CX0 1 fB fdB ["self", "what", "count"] (spEr2 CB "what" "count")) (bB : Binds K fdB ["self", "what", "count"] [])
    (hMost : ∃ t, mg "MOST_MARCHES" = some (.int 24 t)) (hLen : mg "len" = none) (hEn : mg "enumerate" = none) (hTup : mg "tuple" = none) :
    FnOk P w K mg base (L2.CX P w) 5 f fd ["self", "tree", "marches"] (spRowI K CT CR CM CP CW CB CNR COR CNW) := by
  refine F.okX scRowI (fun vs H Q E h => ?_) (fun cdv A outer s H vs Q E hr h => ?_)
  · obtain ⟨p, dx, a, l, n, ps, F, ms, fs, H0, rfl, _⟩ := h
    rfl
  · obtain ⟨p, dx, a, l, n, ps, F, ms, fs, H0, rfl, hp, hp0, s0, TA, G, hS, hM, sm, hl, kE, kQ⟩ := h
    obtain ⟨tm, hMost⟩ := hMost
    have hr1 : Room 2 _ := hr.mono (by decide)
    have lenE : (ms.map V.ref).length = fs.length := by rw [List.length_map]; exact Paired.length hM
    -- behind the loop: the fields
    have sp : ∀ {H2 : Hp} {o : HO}, Same H0 H2 → Same H0 (upd H2 p o) := fun {H2 o} s2 b u e => by
      rw [upd_ne (ne_of_none e hp0)]
      exact s2 b u e
    have due0 : ¬ 24 < fs.length → dueM F fs = dueL F 0 fs := fun z => by
      unfold dueM
      rw [if_neg z]
    have due1 : 24 < fs.length → dueM F fs = some (.marches fs.length) := fun z => by
      unfold dueM
      rw [if_pos z]
    -- one turn
    have turn : ∀ {i : Nat} {q : Addr} {H2 : Hp}, ms[i]? = some q → dueM F fs = dueL F i (fs.drop i) → Same H0 H2 → ∃ m, fs[i]? = some m ∧ MaAt CM CP H2 q m ∧ MSm m ∧ (∀ e, dueO F (i : Nat) m = some e → RaisM CB CNR COR CNW H2 E e) ∧ (dueO F (i : Nat) m = none → dueM F fs = dueL F (i + 1) (fs.drop (i + 1))) := fun {i q H2} hq e2 s2 => by
      obtain ⟨m, hm, am⟩ := paired_get hM hq
      have ed := drop_get hm
      refine ⟨m, hm, am.same s2, sm m (List.mem_of_getElem? hm), fun e he => ?_, fun he => ?_⟩
      · refine RaisM.mono (kE e ?_) s2
        rw [e2, ed, dueL_cons_some he]
      · rw [e2, ed, dueL_cons_none he]
    rcases hS with hS | hS
    · refine ⟨_, pss_cons (ps_if (pt_cmpR op_gt (pe_callB call_len_seq (by rfl) hLen PySem.boot_len (pa_cons (pv 2) pa_nil)) (pe_glob (v := V.int 24) rfl hMost ⟨tm, rfl⟩) (nomark _))
          (pss_one (ps_raise rfl (takes_of rfl rfl rfl rfl) (pmk_oex TB.ox TB.iC TB.tI FB hr1 bB .nil pass0 (by rfl) TB.gC (pa_cons pe_str (pa_cons (pe_callB call_len_seq (by rfl) hLen PySem.boot_len (pa_cons (pv 2) pa_nil)) pa_nil))))) pss_nil)
        (pss_cons (ps_for (passes_of rfl) rfl (pi_enum rfl hEn (pa_cons (pv 2) pa_nil)) (pg_tup rfl (pgs_cons (pg_name (i := 3) scRowI.nd rfl (Or.inl rfl)) (pgs_cons (pg_name (i := 4) scRowI.nd rfl (Or.inl rfl)) pgs_nil)))
          (pss_one (ps_expr (pe_call FC hr rfl mC kC bC .nil (passes_call (takes_of rfl rfl rfl rfl) fun _ _ _ _ h => h) (pa_cons (pv 1) (pa_cons (pv 3) (pa_cons (pv 4) pa_nil)))))))
        (pss_cons (ps_fld (pv 0) (pv 1) rfl)
        (pss_one (ps_fld (pv 0) (pe_callTy (r := rTupO K) call_tuple_of (by rfl) hTup (by decide +kernel) (pa_cons (pv 2) pa_nil)) rfl)))), ?_⟩
      refine ⟨_, rfl, l, _, rfl, .inl (s0.seq hS), _, _, rfl, rfl, _, rfl, ?_⟩
      rw [lenE]
      by_cases h24 : 24 < fs.length
      · rw [decide_eq_true (by omega : (fs.length : Int) > 24)]
        refine iteT ⟨_, rfl, l, _, rfl, .inl (s0.seq hS), len2, fun b hb => ?_⟩
        rw [lenE]
        exact er2 hb (RaisM.mono (e := .marches fs.length) (kE _ (due1 h24)) s0)
      · rw [decide_eq_false (by omega : ¬ (fs.length : Int) > 24)]
        refine iteF ?_
        refine ⟨_, rfl, l, _, rfl, s0.seq hS, for_it (walk_enum (K := K) (a := l) (xs := ms.map V.ref)) (fun i σ H2 => ∃ (v3 v4 : Option V), σ = [some (.ref p), some (.ref a), some (.ref l), v3, v4] ∧ Same H H2 ∧ dueM F fs = dueL F i (fs.drop i))
          ⟨none, none, rfl, Same.refl H, due0 h24⟩ (fun i σ H2 _ ⟨_, _, _, s2, _⟩ => (s0.trans s2).seq hS) ?_ ?_⟩
        · rintro i x σ H2 H3 hi ⟨v3, v4, rfl, s2, e2⟩ ⟨T, x1, y1, rfl, hT, rfl, hx1, hy1⟩
          cases hx1
          obtain ⟨q, hq, rfl⟩ := map_get (show (ms.map V.ref)[i]? = some y1 from hy1)
          have s3 : Same H2 (upd H2 T (.tup [.int (i : Nat), .ref q])) := Same.new hT
          obtain ⟨m, hm, am, smm, t1, t2⟩ := turn hq e2 ((s0.trans s2).trans s3)
          refine ⟨T, _, rfl, SqT.of upd_same, rfl, _, _, rfl, _, _, rfl, rfl, ?_⟩
          refine ⟨_, rfl, _, rfl, _, rfl, a, q, (i : Nat), n, ps, F, m, rfl, TA.same ((s0.trans s2).trans s3), G, am, smm, t1, fun he => ?_⟩
          exact ⟨_, _, rfl, s2.trans s3, t2 he⟩
        · rintro σ H2 ⟨v3, v4, rfl, s2, e2⟩
          rw [lenE, List.drop_length] at e2
          refine ⟨_, rfl, _, rfl, p, CW, dx, [], rfl, s2 _ _ hp, TW.cl, TW.nT, (by show 0 < 1000; decide), ?_⟩
          refine tupE rfl (.inl (sp (s0.trans s2) |>.seq hS)) fun t Hb sb ht => ?_
          have hpb := sb _ _ (upd_same (H := H2) (a := p) (o := .ins CW dx (putF "tree" (.ref a) [])))
          refine ⟨_, rfl, p, CW, dx, _, rfl, hpb, TW.cl, TW.nM, (by show 1 < 1000; decide), ?_⟩
          rw [rwF_put]
          exact kQ e2 _ ⟨dx, t, upd_same, sqT_ins hpb ht⟩ (sp ((sp (s0.trans s2)).trans sb))
    · refine ⟨_, pss_cons (ps_if (pt_cmpR op_gt (pe_callB call_len_seq (by rfl) hLen PySem.boot_len (pa_cons (pv 2) pa_nil)) (pe_glob (v := V.int 24) rfl hMost ⟨tm, rfl⟩) (nomark _))
          (pss_one (ps_raise rfl (takes_of rfl rfl rfl rfl) (pmk_oex TB.ox TB.iC TB.tI FB hr1 bB .nil pass0 (by rfl) TB.gC (pa_cons pe_str (pa_cons (pe_callB call_len_seq (by rfl) hLen PySem.boot_len (pa_cons (pv 2) pa_nil)) pa_nil))))) pss_nil)
        (pss_cons (ps_for (passes_of rfl) rfl (pi_enumT (by rfl) hEn (pa_cons (pv 2) pa_nil)) (pg_tup rfl (pgs_cons (pg_name (i := 3) scRowI.nd rfl (Or.inl rfl)) (pgs_cons (pg_name (i := 4) scRowI.nd rfl (Or.inl rfl)) pgs_nil)))
          (pss_one (ps_expr (pe_call FC hr rfl mC kC bC .nil (passes_call (takes_of rfl rfl rfl rfl) fun _ _ _ _ h => h) (pa_cons (pv 1) (pa_cons (pv 3) (pa_cons (pv 4) pa_nil)))))))
        (pss_cons (ps_fld (pv 0) (pv 1) rfl)
        (pss_one (ps_fld (pv 0) (pe_callTy (r := rTupO K) call_tuple_of (by rfl) hTup (by decide +kernel) (pa_cons (pv 2) pa_nil)) rfl)))), ?_⟩
      refine ⟨_, rfl, l, _, rfl, .inr (sqT_same hS s0), _, _, rfl, rfl, _, rfl, ?_⟩
      rw [lenE]
      by_cases h24 : 24 < fs.length
      · rw [decide_eq_true (by omega : (fs.length : Int) > 24)]
        refine iteT ⟨_, rfl, l, _, rfl, .inr (sqT_same hS s0), len2, fun b hb => ?_⟩
        rw [lenE]
        exact er2 hb (RaisM.mono (e := .marches fs.length) (kE _ (due1 h24)) s0)
      · rw [decide_eq_false (by omega : ¬ (fs.length : Int) > 24)]
        refine iteF ?_
        refine ⟨_, rfl, l, _, rfl, sqT_same hS s0, for_it (walk_enumT (K := K) (a := l) (xs := ms.map V.ref)) (fun i σ H2 => ∃ (v3 v4 : Option V), σ = [some (.ref p), some (.ref a), some (.ref l), v3, v4] ∧ Same H H2 ∧ dueM F fs = dueL F i (fs.drop i))
          ⟨none, none, rfl, Same.refl H, due0 h24⟩ (fun i σ H2 _ ⟨_, _, _, s2, _⟩ => sqT_same hS (s0.trans s2)) ?_ ?_⟩
        · rintro i x σ H2 H3 hi ⟨v3, v4, rfl, s2, e2⟩ ⟨T, x1, y1, rfl, hT, rfl, hx1, hy1⟩
          cases hx1
          obtain ⟨q, hq, rfl⟩ := map_get (show (ms.map V.ref)[i]? = some y1 from hy1)
          have s3 : Same H2 (upd H2 T (.tup [.int (i : Nat), .ref q])) := Same.new hT
          obtain ⟨m, hm, am, smm, t1, t2⟩ := turn hq e2 ((s0.trans s2).trans s3)
          refine ⟨T, _, rfl, SqT.of upd_same, rfl, _, _, rfl, _, _, rfl, rfl, ?_⟩
          refine ⟨_, rfl, _, rfl, _, rfl, a, q, (i : Nat), n, ps, F, m, rfl, TA.same ((s0.trans s2).trans s3), G, am, smm, t1, fun he => ?_⟩
          exact ⟨_, _, rfl, s2.trans s3, t2 he⟩
        · rintro σ H2 ⟨v3, v4, rfl, s2, e2⟩
          rw [lenE, List.drop_length] at e2
          refine ⟨_, rfl, _, rfl, p, CW, dx, [], rfl, s2 _ _ hp, TW.cl, TW.nT, (by show 0 < 1000; decide), ?_⟩
          refine tupE rfl (.inr (sqT_same hS (sp (s0.trans s2)))) fun t Hb sb ht => ?_
          have hpb := sb _ _ (upd_same (H := H2) (a := p) (o := .ins CW dx (putF "tree" (.ref a) [])))
          refine ⟨_, rfl, p, CW, dx, _, rfl, hpb, TW.cl, TW.nM, (by show 1 < 1000; decide), ?_⟩
          rw [rwF_put]
          exact kQ e2 _ ⟨dx, t, upd_same, sqT_ins hpb ht⟩ (sp ((sp (s0.trans s2)).trans sb))
end
end OT
set_option Elab.async false
set_option linter.all false
set_option maxRecDepth 100000
set_option maxHeartbeats 4000000
namespace OT
open PySem L2 OTR
/-- a drawn march (road, distance, steps) -/
structure MrOk (F : List Fact) (far : Int) (r : Fact) : Prop where
  rd : RdIn F r.1
  lo : 0 ≤ r.2.1
  hi : r.2.1 ≤ (OT.rd F r.1.toNat).2.2
  s1 : 1 ≤ r.2.2
  s2 : r.2.2 ≤ 2 ∨ r.2.2 ≤ far
theorem Src.fresh {s p : Addr} {H G : Hp} (b : But s H G) (sg : Src G s) (hp : G p = none) : H p = none := by
  cases e : H p with
  | none => rfl
  | some o =>
    have z := b p o e (sg.new hp)
    rw [hp] at z
    cases z
end OT
set_option Elab.async false
set_option linter.all false
set_option maxRecDepth 100000
set_option maxHeartbeats 4000000
namespace OT
open PySem L2 OTR
/-- a march: the road of its goal, the distance, the steps -/
abbrev MG := Nat × Int × Int
structure MgOk (F : List Fact) (x : MG) : Prop where
  rd : x.1 < F.length
  lo : 0 ≤ x.2.1
  hi : x.2.1 ≤ (OT.rd F x.1).2.2
  s1 : 1 ≤ x.2.2
  s2 : x.2.2 ≤ 1000000000
theorem MgOk.on {F : List Fact} {x : MG} (h : MgOk F x) {S : Int} (hS : 1 ≤ S) : On F S x.1 (x.2.1 * S) := ⟨h.rd, Int.mul_nonneg h.lo (by omega), Int.mul_le_mul_of_nonneg_right h.hi (by omega)⟩
theorem MgOk.m0 {F : List Fact} {x : MG} (h : MgOk F x) {S : Int} (hS : 1 ≤ S) : 0 ≤ x.2.2 * S := Int.mul_nonneg (by have := h.s1; omega) (by omega)
def mf (x : MG) : MFact := (((x.1 : Nat) : Int), x.2.1, 1, x.2.2)
theorem low_mf (x : MG) : low (mPl (mf x)) = (((x.1 : Nat) : Int), x.2.1, 1) := low_one _ _
/-- a drawn march, as a march -/
def mg3 (r : Fact) : MG := (r.1.toNat, r.2.1, r.2.2)
theorem MrOk.mg {F : List Fact} {far : Int} {r : Fact} (h : MrOk F far r) (hf : far ≤ 1000000000) : MgOk F (mg3 r) :=
  ⟨by show r.1.toNat < F.length; have := h.rd.1; have := h.rd.2; omega, h.lo, h.hi, h.s1, by show r.2.2 ≤ _; rcases h.s2 with z | z <;> omega⟩
theorem dueO_mg {F : List Fact} {x : MG} (h : MgOk F x) (k : Int) : dueO F k (mf x) = none := by
  refine dueO_go (m := mf x) ⟨by show 0 ≤ ((x.1 : Nat) : Int); omega, by show ((x.1 : Nat) : Int) < _; have := h.rd; omega⟩ ⟨h.lo, ?_⟩ (by show x.2.1 % 1 = 0; omega) ⟨h.s1, h.s2⟩
  show x.2.1 ≤ (rd F ((x.1 : Nat) : Int).toNat).2.2 * 1
  rw [Int.toNat_natCast, Int.mul_one]
  exact h.hi
theorem dueL_mg {F : List Fact} : ∀ {xs : List MG} {k : Nat}, (∀ x ∈ xs, MgOk F x) → dueL F k (xs.map mf) = none
  | [], _, _ => rfl
  | x :: xs, k, h => by
    show dueL F k (mf x :: xs.map mf) = none
    rw [dueL_cons_none (dueO_mg (h x List.mem_cons_self) _)]
    exact dueL_mg fun y hy => h y (List.mem_cons_of_mem _ hy)
theorem dueM_mg {F : List Fact} {xs : List MG} (h : ∀ x ∈ xs, MgOk F x) (hl : xs.length ≤ 24) : dueM F (xs.map mf) = none := by
  unfold dueM
  rw [if_neg (by rw [List.length_map]; omega)]
  exact dueL_mg h
theorem noM {CB CNR COR CNW : Addr} {H : Hp} {E : XK} {F : List Fact} {fs : List MFact} (h : dueM F fs = none) : ∀ e, dueM F fs = some e → RaisM CB CNR COR CNW H E e := fun e z => by
  rw [h] at z
  cases z
theorem msm_mf (x : MG) : MSm (mf x) := ⟨Int.le_refl 1, by show (1 : Int) < 2 ^ 60; omega⟩
theorem MarchAt.kp {C : Addr} {H H' : Hp} {p g : Addr} {n : Int} (h : MarchAt C H p g n) (k : Kp H H') : MarchAt C H' p g n := let ⟨dx, e⟩ := h; ⟨dx, k _ _ e fun _ z => nomatch z⟩
theorem MaAt.kp {CM CP : Addr} {H H' : Hp} {p : Addr} {m : MFact} (h : MaAt CM CP H p m) (k : Kp H H') : MaAt CM CP H' p m := let ⟨g, a, b⟩ := h; ⟨g, a.kp k, b.kp k⟩
theorem MasAt.kp {CM CP : Addr} {H H' : Hp} {ps : List Addr} {l : List MFact} (h : MasAt CM CP H ps l) (k : Kp H H') : MasAt CM CP H' ps l := Paired.mapP h fun _ _ a => a.kp k
theorem RowAt.kp {K : PySem.W.Frag} {CW : Addr} {H H' : Hp} {p a : Addr} {ms : List Addr} (h : RowAt K CW H p a ms) (k : Kp H H') : RowAt K CW H' p a ms := let ⟨dx, t, e, u⟩ := h; ⟨dx, t, k _ _ e (fun _ z => nomatch z), sqT_kp u k⟩
end OT
set_option linter.all false
set_option maxRecDepth 100000
set_option maxHeartbeats 1000000
namespace OT
/-- a march of m parts towards the place p of the road g leads from u to v -/
def Go (F : List Fact) (S : Int) (g : Nat) (p m : Int) (u v : Nd) : Prop := ∃ k i, On F S k i ∧ u = node F S k i ∧ v = pth F S g p k i (if hP F S g p k i < m then hP F S g p k i else m)
theorem arA {a b : Int} {t : Nat} (e : a = b - t) {c : Int} (f : c = b - (t + 1)) : c + 1 = a := by omega
theorem arB {h m : Int} (h0 : 0 ≤ h) (m0 : 0 ≤ m) : 0 ≤ (if h < m then h else m) ∧ (if h < m then h else m) ≤ h := by
  split <;> omega
theorem arC {t : Nat} {b : Int} (h : ((t + 1 : Nat) : Int) ≤ b) : (t : Int) + 1 ≤ b ∧ (t : Int) ≤ b := by omega
section
variable {n : Int} {F : List Fact} {S : Int} {g : Nat} {p : Int} (T : TreeM n F) (hS : 1 ≤ S) (hg : On F S g p)
include T hS hg
theorem pth_rep {k k' : Nat} {i i' : Int} (h : On F S k i) (h' : On F S k' i') (e : node F S k i = node F S k' i') : ∀ t : Nat, (t : Int) ≤ hP F S g p k i → pth F S g p k i (t : Nat) = pth F S g p k' i' (t : Nat) := by
  have eh : hP F S g p k i = hP F S g p k' i' := by rw [← hN_node T hS hg h, ← hN_node T hS hg h', e]
  intro t
  induction t with
  | zero =>
    intro _
    show pth F S g p k i 0 = pth F S g p k' i' 0
    rw [pth_0 T hS hg h, pth_0 T hS hg h', e]
  | succ t ih =>
    intro ht
    obtain ⟨h1, h2⟩ := arC ht
    have ih := ih h2
    obtain ⟨o, z, a⟩ := pth_ok T hS hg h (t := (t : Nat)) (Int.natCast_nonneg t) h2
    obtain ⟨o', z', a'⟩ := pth_ok T hS hg h' (t := (t : Nat)) (Int.natCast_nonneg t) (by rw [← eh]; exact h2)
    have a := a h1
    have a' := a' (by rw [← eh]; exact h1)
    rw [← ih] at a'
    obtain ⟨_, zz, _⟩ := pth_ok T hS hg h (t := (t : Int) + 1) (Int.le_trans (Int.natCast_nonneg t) (Int.le_add_one (Int.le_refl _))) h1
    obtain ⟨_, zz', _⟩ := pth_ok T hS hg h' (t := (t : Int) + 1) (Int.le_trans (Int.natCast_nonneg t) (Int.le_add_one (Int.le_refl _))) (by rw [← eh]; exact h1)
    rw [← eh] at zz'
    have r := lower_uniq T hS hg a a' (arA z zz) (arA z zz')
    rw [Int.natCast_succ]
    exact r
theorem Go.uniq {m : Int} (m0 : 0 ≤ m) {u v v' : Nd} (a : Go F S g p m u v) (b : Go F S g p m u v') : v = v' := by
  obtain ⟨k, i, o, rfl, rfl⟩ := a
  obtain ⟨k', i', o', e, rfl⟩ := b
  have eh : hP F S g p k i = hP F S g p k' i' := by rw [← hN_node T hS hg o, ← hN_node T hS hg o', e]
  rw [← eh]
  obtain ⟨b1, b2⟩ := arB (show 0 ≤ hP F S g p k i from total_nn _) m0
  have r := pth_rep T hS hg o o' e (if hP F S g p k i < m then hP F S g p k i else m).toNat (by rw [Int.toNat_of_nonneg b1]; exact b2)
  rw [Int.toNat_of_nonneg b1] at r
  exact r
theorem Go.on {m : Int} (m0 : 0 ≤ m) {u v : Nd} (a : Go F S g p m u v) : OnT F S v := by
  obtain ⟨k, i, o, rfl, rfl⟩ := a
  obtain ⟨b1, b2⟩ := arB (show 0 ≤ hP F S g p k i from total_nn _) m0
  exact (pth_ok T hS hg o b1 b2).1
end
theorem Go.ex {F : List Fact} {S : Int} {g : Nat} {p m : Int} {u : Nd} (h : OnT F S u) : ∃ v, Go F S g p m u v := let ⟨k, i, o, e⟩ := h; ⟨_, k, i, o, e, rfl⟩
def GoX (F : List Fact) (S : Int) (x : MG) (u v : Nd) : Prop := Go F S x.1 (x.2.1 * S) (x.2.2 * S) u v
/-- a row's marches, one behind the other -/
def GoL (F : List Fact) (S : Int) : List MG → Nd → Nd → Prop
  | [], u, v => u = v
  | x :: l, u, v => ∃ w, GoX F S x u w ∧ GoL F S l w v
def GoR (F : List Fact) (S : Int) (l : List MG) : Nat → Nd → Nd → Prop
  | 0, u, v => u = v
  | c + 1, u, v => ∃ w, GoR F S l c u w ∧ GoL F S l w v
theorem GoL.append {F : List Fact} {S : Int} : ∀ {l m : List MG} {u v w : Nd}, GoL F S l u v → GoL F S m v w → GoL F S (l ++ m) u w
  | [], _, _, _, _, h, k => by
    cases (show _ = _ from h)
    exact k
  | _ :: _, _, _, _, _, ⟨z, h1, h2⟩, k => ⟨z, h1, h2.append k⟩
theorem GoL.snoc {F : List Fact} {S : Int} {l : List MG} {x : MG} {u v w : Nd} (h : GoL F S l u v) (k : GoX F S x v w) : GoL F S (l ++ [x]) u w := h.append ⟨w, k, rfl⟩
section
variable {n : Int} {F : List Fact} {S : Int} (T : TreeM n F) (hS : 1 ≤ S)
include T hS
theorem GoL.uniq : ∀ {l : List MG} {u v v' : Nd}, (∀ x ∈ l, MgOk F x) → GoL F S l u v → GoL F S l u v' → v = v'
  | [], _, _, _, _, a, b => (show _ = _ from a).symm.trans b
  | x :: l, _, _, _, ok, ⟨w, a1, a2⟩, ⟨w', b1, b2⟩ => by
    have h := ok x List.mem_cons_self
    have e : w = w' := Go.uniq T hS (h.on hS) (h.m0 hS) a1 b1
    subst e
    exact GoL.uniq (fun y hy => ok y (List.mem_cons_of_mem _ hy)) a2 b2
theorem GoL.on : ∀ {l : List MG} {u v : Nd}, (∀ x ∈ l, MgOk F x) → OnT F S u → GoL F S l u v → OnT F S v
  | [], _, _, _, o, a => (show _ = _ from a) ▸ o
  | x :: l, _, _, ok, o, ⟨w, a1, a2⟩ => by
    have h := ok x List.mem_cons_self
    exact GoL.on (fun y hy => ok y (List.mem_cons_of_mem _ hy)) (Go.on T hS (h.on hS) (h.m0 hS) a1) a2
theorem GoR.uniq {l : List MG} (ok : ∀ x ∈ l, MgOk F x) : ∀ {c : Nat} {u v v' : Nd}, GoR F S l c u v → GoR F S l c u v' → v = v'
  | 0, _, _, _, a, b => (show _ = _ from a).symm.trans b
  | c + 1, _, _, _, ⟨w, a1, a2⟩, ⟨w', b1, b2⟩ => by
    have e : w = w' := GoR.uniq ok a1 b1
    subst e
    exact GoL.uniq T hS ok a2 b2
theorem GoR.on {l : List MG} (ok : ∀ x ∈ l, MgOk F x) : ∀ {c : Nat} {u v : Nd}, OnT F S u → GoR F S l c u v → OnT F S v
  | 0, _, _, o, a => (show _ = _ from a) ▸ o
  | c + 1, _, _, o, ⟨w, a1, a2⟩ => GoL.on T hS ok (GoR.on ok o a1) a2
end
end OT
set_option Elab.async false
set_option linter.all false
set_option maxRecDepth 100000
set_option maxHeartbeats 4000000
namespace OT
structure LaneG (F : List Fact) (st : Nat → Int) (fw : Nat → Bool) (X : Int → Int) (tot : Int) : Prop where
  lo : ∀ k, k < F.length → 0 ≤ st k ∧ st k + (rd F k).2.2 ≤ tot
  ea : ∀ k, k < F.length → X (rd F k).1 = (if fw k = true then st k else st k + (rd F k).2.2) ∧ X (rd F k).2.1 = (if fw k = true then st k + (rd F k).2.2 else st k)
  cov : ∀ x, 0 ≤ x → x < tot → ∃ k, k < F.length ∧ st k ≤ x ∧ x < st k + (rd F k).2.2
  dis : ∀ k k' x, k < F.length → k' < F.length → st k ≤ x → x < st k + (rd F k).2.2 → st k' ≤ x → x < st k' + (rd F k').2.2 → k = k'
  inj : ∀ k k' c c', k < F.length → k' < F.length → (c = (rd F k).1 ∨ c = (rd F k).2.1) → (c' = (rd F k').1 ∨ c' = (rd F k').2.1) → X c = X c' → c = c'
/-- the coordinate of a place on a road -/
def cdP (F : List Fact) (st : Nat → Int) (fw : Nat → Bool) (S : Int) (k : Nat) (i : Int) : Int := st k * S + (if fw k = true then i else sz F S k - i)
def cdN (F : List Fact) (st : Nat → Int) (fw : Nat → Bool) (X : Int → Int) (S : Int) : Nd → Int
  | .cr c => X c * S
  | .mid k i => cdP F st fw S k i
/-- towards y, m at most -/
def mvd (x y m : Int) : Int := if y - x > 0 then x + (if m < (if y - x < 0 then -(y - x) else y - x) then m else (if y - x < 0 then -(y - x) else y - x)) else x - (if m < (if y - x < 0 then -(y - x) else y - x) then m else (if y - x < 0 then -(y - x) else y - x))
section
variable {F : List Fact} {st : Nat → Int} {fw : Nat → Bool} {X : Int → Int} {tot S : Int} (L : LaneG F st fw X tot) (hS : 1 ≤ S)
include L
theorem cd_node {k : Nat} {i : Int} (h : On F S k i) : cdN F st fw X S (node F S k i) = cdP F st fw S k i := by
  obtain ⟨hk, h0, h1⟩ := h
  obtain ⟨ea, eb⟩ := L.ea k hk
  unfold node
  by_cases z : i = 0
  · rw [if_pos z]
    show X (rd F k).1 * S = _
    rw [ea, z]
    unfold cdP sz
    cases fw k
    · rw [if_neg Bool.false_ne_true, if_neg Bool.false_ne_true, Int.add_mul]
      omega
    · rw [if_pos rfl, if_pos rfl, Int.add_zero]
  · rw [if_neg z]
    by_cases z2 : i = sz F S k
    · rw [if_pos z2]
      show X (rd F k).2.1 * S = _
      rw [eb, z2]
      unfold cdP sz
      cases fw k
      · rw [if_neg Bool.false_ne_true, if_neg Bool.false_ne_true]
        omega
      · rw [if_pos rfl, if_pos rfl, Int.add_mul]
    · rw [if_neg z2]
      rfl
omit L in
theorem cd_in {k : Nat} {i : Int} (h : On F S k i) : st k * S ≤ cdP F st fw S k i ∧ cdP F st fw S k i ≤ st k * S + sz F S k := by
  obtain ⟨hk, h0, h1⟩ := h
  unfold cdP
  cases fw k
  · rw [if_neg Bool.false_ne_true]
    omega
  · rw [if_pos rfl]
    omega
include hS
theorem cd_tot {k : Nat} {i : Int} (h : On F S k i) : 0 ≤ cdP F st fw S k i ∧ cdP F st fw S k i ≤ tot * S := by
  obtain ⟨a, b⟩ := cd_in (st := st) (fw := fw) h
  obtain ⟨c, d⟩ := L.lo k h.1
  have h1 : 0 ≤ st k * S := Int.mul_nonneg c (by omega)
  have h2 := Int.mul_le_mul_of_nonneg_right d (show 0 ≤ S by omega)
  rw [Int.add_mul] at h2
  unfold sz at b
  omega
/-- strictly inside a road no other road has the coordinate -/
theorem cd_edge {k k' : Nat} {i i' : Int} (pos : ∀ k, k < F.length → 1 ≤ (rd F k).2.2) (h : On F S k i) (h' : On F S k' i') (ne : k ≠ k') (e : cdP F st fw S k i = cdP F st fw S k' i') : cdP F st fw S k i = st k * S ∨ cdP F st fw S k i = st k * S + sz F S k := by
  apply Classical.byContradiction
  intro no
  obtain ⟨a, b⟩ := cd_in (st := st) (fw := fw) h
  obtain ⟨a', b'⟩ := cd_in (st := st) (fw := fw) h'
  rw [← e] at a' b'
  generalize cdP F st fw S k i = x at a b a' b' no
  have lt1 : st k * S < x := by omega
  have lt2 : x < st k * S + sz F S k := by omega
  have q1 : st k ≤ x / S := Int.le_ediv_of_mul_le (by omega) a
  have q2 : x / S < st k + (rd F k).2.2 := Int.ediv_lt_of_lt_mul (by omega) (by rw [Int.add_mul]; unfold sz at lt2; exact lt2)
  have q3 : st k' ≤ x / S := Int.le_ediv_of_mul_le (by omega) a'
  by_cases c : x < st k' * S + sz F S k'
  · have q4 : x / S < st k' + (rd F k').2.2 := Int.ediv_lt_of_lt_mul (by omega) (by rw [Int.add_mul]; unfold sz at c; exact c)
    exact ne (L.dis k k' _ h.1 h'.1 q1 q2 q3 q4)
  · have ex : x = (st k' + (rd F k').2.2) * S := by
      rw [Int.add_mul]
      unfold sz at b' c
      omega
    have eq : x / S = st k' + (rd F k').2.2 := by rw [ex, Int.mul_ediv_cancel _ (by omega)]
    have p' := pos k' h'.1
    have q5 : st k < x / S := by
      rw [eq]
      rw [ex] at lt1
      exact Int.lt_of_mul_lt_mul_right lt1 (by omega)
    exact ne (L.dis k k' (x / S - 1) h.1 h'.1 (by omega) (by omega) (by omega) (by omega))
omit L in
omit hS in
theorem cd_end {k : Nat} {i : Int} (h : On F S k i) (e : cdP F st fw S k i = st k * S ∨ cdP F st fw S k i = st k * S + sz F S k) : ∃ c, (c = (rd F k).1 ∨ c = (rd F k).2.1) ∧ node F S k i = .cr c := by
  have z : i = 0 ∨ i = sz F S k := by
    unfold cdP at e
    cases h2 : fw k with
    | false =>
      rw [h2, if_neg Bool.false_ne_true] at e
      omega
    | true =>
      rw [h2, if_pos rfl] at e
      omega
  unfold node
  by_cases z0 : i = 0
  · rw [if_pos z0]
    exact ⟨_, .inl rfl, rfl⟩
  · rw [if_neg z0, if_pos (z.resolve_left z0)]
    exact ⟨_, .inr rfl, rfl⟩
theorem cd_inj {k k' : Nat} {i i' : Int} (pos : ∀ k, k < F.length → 1 ≤ (rd F k).2.2) (h : On F S k i) (h' : On F S k' i') (e : cdP F st fw S k i = cdP F st fw S k' i') : node F S k i = node F S k' i' := by
  by_cases ne : k = k'
  · subst ne
    have : i = i' := by
      unfold cdP at e
      cases h2 : fw k with
      | false =>
        rw [h2, if_neg Bool.false_ne_true, if_neg Bool.false_ne_true] at e
        omega
      | true =>
        rw [h2, if_pos rfl, if_pos rfl] at e
        omega
    rw [this]
  · obtain ⟨c, hc, ec⟩ := cd_end h (cd_edge L hS pos h h' ne e)
    obtain ⟨c', hc', ec'⟩ := cd_end h' (cd_edge L hS pos h' h (Ne.symm ne) e.symm)
    have n1 := cd_node L h
    have n2 := cd_node L h'
    rw [ec] at n1
    rw [ec'] at n2
    have ex : X c * S = X c' * S := by
      have n1 : X c * S = _ := n1
      have n2 : X c' * S = _ := n2
      rw [n1, n2, e]
    have ex := Int.eq_of_mul_eq_mul_right (show S ≠ 0 by omega) ex
    rw [ec, ec', L.inj k k' c c' h.1 h'.1 hc hc' ex]
end
section
variable {n : Int} {F : List Fact} {st : Nat → Int} {fw : Nat → Bool} {X : Int → Int} {tot S : Int} (T : TreeM n F) (L : LaneG F st fw X tot) (hS : 1 ≤ S)
include T L hS
theorem cdN_inj {u v : Nd} (hu : OnT F S u) (hv : OnT F S v) (e : cdN F st fw X S u = cdN F st fw X S v) : u = v := by
  obtain ⟨k, i, o, rfl⟩ := hu
  obtain ⟨k', i', o', rfl⟩ := hv
  rw [cd_node L o, cd_node L o'] at e
  exact cd_inj L hS (fun k hk => (rd_ok T hk).2.2.1) o o' e
theorem cdN_tot {u : Nd} (hu : OnT F S u) : 0 ≤ cdN F st fw X S u ∧ cdN F st fw X S u ≤ tot * S := by
  obtain ⟨k, i, o, rfl⟩ := hu
  rw [cd_node L o]
  exact cd_tot L hS o
omit T hS in
theorem cd_adj {u v : Nd} (h : Adj F S u v) : cdN F st fw X S v = cdN F st fw X S u + 1 ∨ cdN F st fw X S v = cdN F st fw X S u - 1 := by
  obtain ⟨k, i, j, oi, oj, a, rfl, rfl⟩ := h.norm
  rw [cd_node L oi, cd_node L oj]
  unfold cdP
  cases fw k
  · rw [if_neg Bool.false_ne_true, if_neg Bool.false_ne_true]
    omega
  · rw [if_pos rfl, if_pos rfl]
    omega
/-- a place of each coordinate, on the road of a whole step -/
theorem cd_ex {x y : Int} (hx : 0 ≤ x) (ht : x < tot) (h1 : x * S ≤ y) (h2 : y ≤ x * S + S) : ∃ k i, On F S k i ∧ cdP F st fw S k i = y ∧ (y < x * S + S → ∃ j, On F S k j ∧ (j = i + 1 ∨ j = i - 1) ∧ cdP F st fw S k j = y + 1) ∧ (x * S < y → ∃ j, On F S k j ∧ (j = i + 1 ∨ j = i - 1) ∧ cdP F st fw S k j = y - 1) := by
  obtain ⟨k, hk, a, b⟩ := L.cov x hx ht
  have a' := Int.mul_le_mul_of_nonneg_right a (show 0 ≤ S by omega)
  have b' := Int.mul_le_mul_of_nonneg_right (show x + 1 ≤ st k + (rd F k).2.2 by omega) (show 0 ≤ S by omega)
  rw [Int.add_mul, Int.add_mul, Int.one_mul] at b'
  have e : sz F S k = (rd F k).2.2 * S := rfl
  cases hf : fw k with
  | false =>
    have ec : ∀ j, cdP F st fw S k j = st k * S + (sz F S k - j) := fun j => by
      unfold cdP
      rw [hf, if_neg Bool.false_ne_true]
    exact ⟨k, st k * S + sz F S k - y, ⟨hk, by omega, by omega⟩, by rw [ec]; omega, fun z => ⟨st k * S + sz F S k - y - 1, ⟨hk, by omega, by omega⟩, .inr rfl, by rw [ec]; omega⟩, fun z => ⟨st k * S + sz F S k - y + 1, ⟨hk, by omega, by omega⟩, .inl rfl, by rw [ec]; omega⟩⟩
  | true =>
    have ec : ∀ j, cdP F st fw S k j = st k * S + j := fun j => by
      unfold cdP
      rw [hf, if_pos rfl]
    exact ⟨k, y - st k * S, ⟨hk, by omega, by omega⟩, by rw [ec]; omega, fun z => ⟨y - st k * S + 1, ⟨hk, by omega, by omega⟩, .inl rfl, by rw [ec]; omega⟩, fun z => ⟨y - st k * S - 1, ⟨hk, by omega, by omega⟩, .inr rfl, by rw [ec]; omega⟩⟩
theorem cd_up {u : Nd} (hu : OnT F S u) (lt : cdN F st fw X S u < tot * S) : ∃ v, Adj F S u v ∧ cdN F st fw X S v = cdN F st fw X S u + 1 := by
  obtain ⟨h0, _⟩ := cdN_tot T L hS hu
  generalize hy : cdN F st fw X S u = y at lt h0
  have q1 : y / S * S ≤ y := Int.ediv_mul_le y (by omega)
  have q2 : y < y / S * S + S := (by
    have h := Int.lt_ediv_add_one_mul_self y (b := S) (show 0 < S by omega)
    rw [Int.add_mul, Int.one_mul] at h
    exact h)
  have q3 : 0 ≤ y / S := Int.ediv_nonneg h0 (by omega)
  have q4 : y / S < tot := Int.ediv_lt_of_lt_mul (by omega) lt
  obtain ⟨k, i, oi, ei, up, _⟩ := cd_ex T L hS q3 q4 q1 (by omega)
  obtain ⟨j, oj, a, ej⟩ := up q2
  have eu : u = node F S k i := cdN_inj T L hS hu ⟨k, i, oi, rfl⟩ (by rw [cd_node L oi, ei, hy])
  exact ⟨node F S k j, eu ▸ Adj.of oi oj a, by rw [cd_node L oj, ej]⟩
theorem cd_dn {u : Nd} (hu : OnT F S u) (lt : 0 < cdN F st fw X S u) : ∃ v, Adj F S u v ∧ cdN F st fw X S v = cdN F st fw X S u - 1 := by
  obtain ⟨_, h0⟩ := cdN_tot T L hS hu
  generalize hy : cdN F st fw X S u = y at lt h0
  have q1 : (y - 1) / S * S ≤ y - 1 := Int.ediv_mul_le (y - 1) (by omega)
  have q2 : y - 1 < (y - 1) / S * S + S := (by
    have h := Int.lt_ediv_add_one_mul_self (y - 1) (b := S) (show 0 < S by omega)
    rw [Int.add_mul, Int.one_mul] at h
    exact h)
  have q3 : 0 ≤ (y - 1) / S := Int.ediv_nonneg (by omega) (by omega)
  have q4 : (y - 1) / S < tot := Int.ediv_lt_of_lt_mul (by omega) (by omega)
  obtain ⟨k, i, oi, ei, _, dn⟩ := cd_ex T L hS (y := y) q3 q4 (by omega) (by omega)
  obtain ⟨j, oj, a, ej⟩ := dn (by omega)
  have eu : u = node F S k i := cdN_inj T L hS hu ⟨k, i, oi, rfl⟩ (by rw [cd_node L oi, ei, hy])
  exact ⟨node F S k j, eu ▸ Adj.of oi oj a, by rw [cd_node L oj, ej]⟩
end
section
variable {n : Int} {F : List Fact} {st : Nat → Int} {fw : Nat → Bool} {X : Int → Int} {tot S : Int} (T : TreeM n F) (L : LaneG F st fw X tot) (hS : 1 ≤ S) {g : Nat} {p : Int} (hg : On F S g p)
include T L hS hg
/-- no nearer than the coordinates say -/
theorem cd_ge : ∀ (m : Nat) {u : Nd}, OnT F S u → hN F S g p u = m → cdN F st fw X S u - cdN F st fw X S (node F S g p) ≤ m ∧ cdN F st fw X S (node F S g p) - cdN F st fw X S u ≤ m := by
  intro m
  induction m with
  | zero =>
    intro u o e
    rw [zero_aim T hS hg o e]
    omega
  | succ m ih =>
    intro u o e
    obtain ⟨v, a, b⟩ := low_ex T hS hg o (by omega)
    have h := ih a.on.2 (by omega)
    have := cd_adj L a
    omega
theorem cd_le : ∀ (m : Nat) {u : Nd}, OnT F S u → (cdN F st fw X S u - cdN F st fw X S (node F S g p) = m ∨ cdN F st fw X S (node F S g p) - cdN F st fw X S u = m) → hN F S g p u ≤ m := by
  intro m
  induction m with
  | zero =>
    intro u o e
    have eu : u = node F S g p := cdN_inj T L hS o ⟨g, p, hg, rfl⟩ (by omega)
    rw [eu, hN_node T hS hg hg, hP_g, dst_self]
    exact Int.le_refl _
  | succ m ih =>
    intro u o e
    have t1 := cdN_tot T L hS o
    have t2 := cdN_tot T L hS (u := node F S g p) ⟨g, p, hg, rfl⟩
    rcases e with e | e
    · obtain ⟨v, a, b⟩ := cd_dn T L hS o (by omega)
      have h := ih a.on.2 (.inl (by omega))
      have := adj_step T hS hg a
      omega
    · obtain ⟨v, a, b⟩ := cd_up T L hS o (by omega)
      have h := ih a.on.2 (.inr (by omega))
      have := adj_step T hS hg a
      omega
/-- a march on the lane -/
theorem cd_go {m : Int} (m0 : 0 ≤ m) {u v : Nd} (h : Go F S g p m u v) : cdN F st fw X S v = mvd (cdN F st fw X S u) (cdN F st fw X S (node F S g p)) m := by
  obtain ⟨k, i, o, rfl, rfl⟩ := h
  have dist : ∀ {w : Nd}, OnT F S w → (cdN F st fw X S w - cdN F st fw X S (node F S g p) = hN F S g p w ∨ cdN F st fw X S (node F S g p) - cdN F st fw X S w = hN F S g p w) := fun {w} ow => by
    have h0 := hN_nn T hS hg ow
    have ge := cd_ge T L hS hg (hN F S g p w).toNat ow (by omega)
    by_cases c : 0 ≤ cdN F st fw X S w - cdN F st fw X S (node F S g p)
    · have le := cd_le T L hS hg (cdN F st fw X S w - cdN F st fw X S (node F S g p)).toNat ow (.inl (by omega))
      omega
    · have le := cd_le T L hS hg (cdN F st fw X S (node F S g p) - cdN F st fw X S w).toNat ow (.inr (by omega))
      omega
  have near : ∀ t : Nat, (t : Int) ≤ hP F S g p k i → cdN F st fw X S (pth F S g p k i t) - cdN F st fw X S (node F S k i) ≤ t ∧ cdN F st fw X S (node F S k i) - cdN F st fw X S (pth F S g p k i t) ≤ t := by
    intro t
    induction t with
    | zero =>
      intro _
      show cdN F st fw X S (pth F S g p k i 0) - _ ≤ 0 ∧ _ - cdN F st fw X S (pth F S g p k i 0) ≤ 0
      rw [pth_0 T hS hg o]
      omega
    | succ t ih =>
      intro ht
      have h1 := ih (by omega)
      obtain ⟨_, _, a⟩ := pth_ok T hS hg o (t := (t : Int)) (by omega) (by omega)
      have a := cd_adj L (st := st) (fw := fw) (X := X) (a (by omega))
      rw [Int.natCast_succ]
      omega
  have hn := hN_node T hS hg o
  have du := dist (w := node F S k i) ⟨k, i, o, rfl⟩
  have h0 := hN_nn T hS hg (u := node F S k i) ⟨k, i, o, rfl⟩
  rw [hn] at du h0
  obtain ⟨b1, b2⟩ := arB h0 m0
  obtain ⟨ov, zv, _⟩ := pth_ok T hS hg o b1 b2
  have dv := dist ov
  rw [zv] at dv
  have nr := near (if hP F S g p k i < m then hP F S g p k i else m).toNat (by rw [Int.toNat_of_nonneg b1]; exact b2)
  rw [Int.toNat_of_nonneg b1] at nr
  generalize cdN F st fw X S (pth F S g p k i (if hP F S g p k i < m then hP F S g p k i else m)) = cv at dv nr ⊢
  generalize cdN F st fw X S (node F S k i) = cu at du nr ⊢
  generalize cdN F st fw X S (node F S g p) = cg at du dv ⊢
  generalize hP F S g p k i = hp at du h0 b1 b2 dv nr
  unfold mvd
  split at dv <;> split at nr <;> (split <;> (split <;> (split <;> omega)))
end
end OT
set_option Elab.async false
set_option linter.all false
set_option maxRecDepth 100000
set_option maxHeartbeats 4000000
namespace OT
open PySem L2 OTR
def spLaw (K : PySem.W.Frag) : Sp := fun vs H Q _ => ∃ (a : Addr) (ns : List Int), vs = [.ref a] ∧ SqL K H a (ns.map V.int) ∧ ns.length ≤ 63 ∧ ∀ H', Q (.bl true) H'
/-- a list is written: what else stands -/
theorem TrAt.put {H : Hp} {D p q : Addr} {n : Int} {F : List Fact} {xs ys : List V} (h : TrAt H p q n F) (hD : H D = some (.lst xs)) (nq : q ≠ D) : TrAt (upd H D (.lst ys)) p q n F := by
  obtain ⟨hp, ts, hq, hts⟩ := h
  exact ⟨by rw [upd_ne (ne_of hp hD (fun z => nomatch z))]; exact hp, ts, by rw [upd_ne nq]; exact hq, tups_put hts hD⟩
theorem TreeAt.but {K : PySem.W.Frag} {CT CR : Addr} {H H' : Hp} {s p : Addr} {n : Int} {ps : List Addr} {F : List Fact} (h : TreeAt K CT CR H p n ps F) (src : Src H s) (b : But s H H') : TreeAt K CT CR H' p n ps F := h.kp (.src src b)
end OT
set_option Elab.async false
set_option linter.all false
set_option maxRecDepth 100000
set_option maxHeartbeats 4000000
set_option Elab.async false
set_option linter.all false
set_option maxRecDepth 100000
set_option maxHeartbeats 4000000
namespace OT
open PySem L2 OTR
theorem paired_app {α β : Type} {R : α → β → Prop} {a a' : List α} {b b' : List β} (h : Paired R a b) (k : Paired R a' b') : Paired R (a ++ a') (b ++ b') := by
  induction h with
  | nil => exact k
  | cons x _ ih => exact .cons x ih
end OT
set_option Elab.async false
set_option linter.all false
set_option maxRecDepth 100000
set_option maxHeartbeats 4000000
namespace OT
open PySem L2 OTR
/-- a position's name: a road and a number on it -/
def nqk (F : List Fact) (S : Int) : Nd → Nat × Int
  | .cr c => (fstR F c, eAt F S (fstR F c) c)
  | .mid k i => (k, i)
theorem nqk_on {n : Int} {F : List Fact} {S : Int} (T : TreeM n F) (n2 : 2 ≤ n) (hS : 1 ≤ S) {u : Nd} (o : OnT F S u) : On F S (nqk F S u).1 (nqk F S u).2 ∧ node F S (nqk F S u).1 (nqk F S u).2 = u := by
  obtain ⟨k, i, o, rfl⟩ := o
  cases e : node F S k i with
  | cr c =>
    have ic : In n c := by
      obtain ⟨e1, _⟩ := node_cr T hS o.1 e
      have o := rd_ok T o.1
      rcases e1 with e1 | e1
      · exact e1 ▸ o.1
      · exact e1 ▸ o.2.1
    obtain ⟨f1, f2, f3⟩ := fstR_spec T ic n2
    exact ⟨eAt_on T hS f1 c, node_eAt T hS f1 f2⟩
  | mid k2 i2 =>
    have e' := e
    unfold node at e'
    split at e'
    · cases e'
    · split at e'
      · cases e'
      · cases e'
        exact ⟨o, e⟩
theorem nqk_inj {n : Int} {F : List Fact} {S : Int} (T : TreeM n F) (n2 : 2 ≤ n) (hS : 1 ≤ S) {u v : Nd} (ou : OnT F S u) (ov : OnT F S v) (e : nqk F S u = nqk F S v) : u = v := by
  rw [← (nqk_on T n2 hS ou).2, ← (nqk_on T n2 hS ov).2, e]
/-- at t the pair of a road and a number -/
def PrAt (H : Hp) (t : Addr) (x : Nat × Int) : Prop := H t = some (.tup [.int (x.1 : Nat), .int x.2])
theorem PrAt.same {H H' : Hp} {t : Addr} {x : Nat × Int} (h : PrAt H t x) (s : Same H H') : PrAt H' t x := s _ _ h
end OT
set_option Elab.async false
set_option linter.all false
set_option maxRecDepth 100000
set_option maxHeartbeats 4000000
namespace OT
/-- all roads and numbers of a coordinate, on the first m roads -/
def fmL (F : List Fact) (st : Nat → Int) (fw : Nat → Bool) (S x : Int) : Nat → List (Nat × Int)
  | 0 => []
  | k + 1 => fmL F st fw S x k ++ (if st k * S ≤ x ∧ x ≤ (st k + (rd F k).2.2) * S then [(k, if fw k = true then x - st k * S else (st k + (rd F k).2.2) * S - x)] else [])
section
variable {F : List Fact} {st : Nat → Int} {fw : Nat → Bool} {S x : Int}
theorem fm_lt : ∀ {m : Nat} {z : Nat × Int}, z ∈ fmL F st fw S x m → z.1 < m
  | m + 1, z, h => by
    unfold fmL at h
    rcases List.mem_append.mp h with h | h
    · exact Nat.lt_succ_of_lt (fm_lt h)
    · split at h
      · rw [List.mem_singleton.mp h]
        exact Nat.lt_succ_self _
      · cases h
theorem fm_on : ∀ {m : Nat} {z : Nat × Int}, m ≤ F.length → z ∈ fmL F st fw S x m → On F S z.1 z.2 ∧ cdP F st fw S z.1 z.2 = x
  | m + 1, z, l, h => by
    unfold fmL at h
    rcases List.mem_append.mp h with h | h
    · exact fm_on (by omega) h
    · split at h
      · rename_i c
        rw [List.mem_singleton.mp h]
        obtain ⟨c1, c2⟩ := c
        rw [Int.add_mul] at c2
        have e : sz F S m = (rd F m).2.2 * S := rfl
        unfold cdP On
        dsimp only
        rw [Int.add_mul]
        cases fw m
        · rw [if_neg Bool.false_ne_true, if_neg Bool.false_ne_true]
          exact ⟨⟨by omega, by omega, by omega⟩, by omega⟩
        · rw [if_pos rfl, if_pos rfl]
          exact ⟨⟨by omega, by omega, by omega⟩, by omega⟩
      · cases h
theorem fm_of : ∀ {m k : Nat} {i : Int}, On F S k i → k < m → cdP F st fw S k i = x → (k, i) ∈ fmL F st fw S x m
  | m + 1, k, i, o, l, e => by
    unfold fmL
    by_cases z : k = m
    · subst z
      refine List.mem_append_right _ ?_
      obtain ⟨a, b⟩ := cd_in (st := st) (fw := fw) o
      rw [e] at a b
      have es : sz F S k = (rd F k).2.2 * S := rfl
      rw [if_pos ⟨a, by rw [Int.add_mul]; omega⟩]
      refine List.mem_singleton.mpr (congrArg (Prod.mk k) ?_)
      unfold cdP at e
      rw [Int.add_mul]
      cases hf : fw k with
      | false =>
        rw [hf, if_neg Bool.false_ne_true] at e
        rw [if_neg Bool.false_ne_true]
        omega
      | true =>
        rw [hf, if_pos rfl] at e
        rw [if_pos rfl]
        omega
    · exact List.mem_append_left _ (fm_of o (by omega) e)
theorem fm_asc : ∀ {m : Nat}, (fmL F st fw S x m).Pairwise fun a b => a.1 < b.1
  | 0 => .nil
  | m + 1 => by
    unfold fmL
    refine List.pairwise_append.mpr ⟨fm_asc, ?_, fun a ha b hb => ?_⟩
    · split
      · exact List.pairwise_singleton _ _
      · exact .nil
    · split at hb
      · rw [List.mem_singleton.mp hb]
        exact fm_lt ha
      · cases hb
end
section
variable {n : Int} {F : List Fact} {st : Nat → Int} {fw : Nat → Bool} {X : Int → Int} {tot S : Int} (T : TreeM n F) (L : LaneG F st fw X tot) (hS : 1 ≤ S)
include T L hS
/-- the first of all forms of a place gives its key -/
theorem fm_key (n2 : 2 ≤ n) {u : Nd} (hu : OnT F S u) : ∃ k i rest, fmL F st fw S (cdN F st fw X S u) F.length = (k, i) :: rest ∧ keyF F S u = low ((k : Nat), i, S) ∧ On F S k i ∧ node F S k i = u := by
  obtain ⟨oq, eq⟩ := nqk_on T n2 hS hu
  have cq : cdP F st fw S (nqk F S u).1 (nqk F S u).2 = cdN F st fw X S u := by rw [← cd_node L oq, eq]
  have mq := fm_of (st := st) (fw := fw) oq oq.1 cq
  have asc := fm_asc (F := F) (st := st) (fw := fw) (S := S) (x := cdN F st fw X S u) (m := F.length)
  have all := fun z h => fm_on (F := F) (st := st) (fw := fw) (S := S) (x := cdN F st fw X S u) (m := F.length) (z := z) (Nat.le_refl _) h
  cases hl : fmL F st fw S (cdN F st fw X S u) F.length with
  | nil => rw [hl] at mq; cases mq
  | cons z rest =>
    rw [hl] at mq asc all
    obtain ⟨oz, cz⟩ := all z (List.mem_cons_self ..)
    have nz : node F S z.1 z.2 = u := by
      have := cd_inj L hS (fun k hk => (rd_ok T hk).2.2.1) oz oq (cz.trans cq.symm)
      rw [this, eq]
    have le : z.1 ≤ (nqk F S u).1 := by
      rcases List.mem_cons.mp mq with e | m
      · rw [← e]
        exact Nat.le_refl _
      · exact Nat.le_of_lt ((List.pairwise_cons.mp asc).1 _ m)
    have ek : z.1 = (nqk F S u).1 := by
      cases u with
      | cr c =>
        have ends := (node_cr T hS oz.1 nz).1
        refine Nat.le_antisymm le ?_
        show fstR F c ≤ z.1
        unfold fstR
        apply Classical.byContradiction
        intro no
        have h1 := List.not_of_lt_findIdx (xs := F) (p := fun r => decide (r.1 = c ∨ r.2.1 = c)) (i := z.1) (by omega)
        have h2 : rd F z.1 = F[z.1]'oz.1 := rd_of (List.getElem?_eq_getElem oz.1)
        rw [h2] at ends
        simp at h1
        rcases ends with e | e
        · exact h1.1 e
        · exact h1.2 e
      | mid k i =>
        unfold node at nz
        split at nz
        · cases nz
        · split at nz
          · cases nz
          · cases nz
            rfl
    have ei : z.2 = (nqk F S u).2 := by
      have e := cz.trans cq.symm
      rw [ek] at e
      unfold cdP at e
      cases hf : fw (nqk F S u).1 with
      | false =>
        rw [hf, if_neg Bool.false_ne_true, if_neg Bool.false_ne_true] at e
        omega
      | true =>
        rw [hf, if_pos rfl, if_pos rfl] at e
        omega
    refine ⟨z.1, z.2, rest, rfl, ?_, oz, nz⟩
    rw [ek, ei]
    cases u with
    | mid k i => rfl
    | cr c =>
      show (((fstR F c : Nat) : Int), eAt F 1 (fstR F c) c, (1 : Int)) = low (((fstR F c : Nat) : Int), eAt F S (fstR F c) c, S)
      have e1 := eAt_mul F 1 S (fstR F c) c
      have e2 := low_mul (a := ((fstR F c : Nat) : Int)) (n := eAt F 1 (fstR F c) c) (s := 1) S (by omega)
      rw [Int.one_mul] at e1
      rw [e1]
      rw [Int.one_mul] at e2
      rw [e2]
      exact (low_one _ _).symm
end
end OT
set_option Elab.async false
set_option linter.all false
set_option maxRecDepth 100000
set_option maxHeartbeats 4000000
namespace OT
open PySem L2 OTR
abbrev sCellAt : Stmt := top 51
abbrev sSrcK : Stmt := top 52
abbrev sDrwK : Stmt := top 53
def spCellAt (K : PySem.W.Frag) : Sp := fun vs H Q _ => ∃ (a : Addr) (ns : List Int) (i : Nat), vs = [.ref a, .int (i : Nat)] ∧ SqL K H a (ns.map V.int) ∧ ∀ z : Int, Q (.int z) H
section
variable {P : Program} {w : World} {K : PySem.W.Frag} {mg : Str → Option Value} {base : Heap}
theorem scCellAt : FnScope ["_law_script", "_law_index"] ["_law_script", "_law_index"] (defScope sCellAt) := ⟨rfl, rfl, rfl, by decide +kernel, rfl, by decide +kernel, by decide +kernel⟩
theorem ok_cellAt {f : Addr} {fd : FuncData} (F : Fun K "_law_cell_at" "_law_cell_at" sCellAt f fd) (hLen : mg "len" = none) : FnOk P w K mg base CX0 1 f fd ["_law_script", "_law_index"] (spCellAt K) := by
  refine F.ok scCellAt (fun vs H Q E h => ?_) (fun cdv A outer s H vs Q E hr h => ?_)
  · obtain ⟨a, ns, i, rfl, _⟩ := h
    rfl
  · obtain ⟨a, ns, i, rfl, hS, k⟩ := h
    refine ⟨_, pss_cons (ps_if (pt_cmpR op_lt (pv 1) (pe_callB call_len_seq (by rfl) hLen PySem.boot_len (pa_cons (pv 0) pa_nil)) (nomark _))
        (pss_one (ps_ret (pe_ix ix_list (pv 0) (pv 1) (fun _ _ => rfl))))
        pss_nil)
      (pss_one (ps_ret pe_int)), ?_⟩
    refine ⟨_, rfl, _, rfl, a, _, rfl, .inl hS, _, _, rfl, rfl, _, rfl, ?_⟩
    rw [List.length_map]
    by_cases c : i < ns.length
    · rw [decide_eq_true (by omega)]
      exact iteT ⟨_, rfl, _, rfl, a, _, _, .int ns[i], rfl, rfl, hS, atI_nat (by rw [List.getElem?_map, List.getElem?_eq_getElem c]; rfl), k _⟩
    · rw [decide_eq_false (by omega)]
      exact iteF (k 0)
theorem scSrcK : FnScope ["_law_cell"] ["_law_cell"] (defScope sSrcK) := ⟨rfl, rfl, rfl, by decide +kernel, rfl, by decide +kernel, by decide +kernel⟩
theorem ok_srcK {f : Addr} {fd : FuncData} (F : Fun K "_law_source" "_law_source" sSrcK f fd) (hInt : mg "int" = none) : FnOk P w K mg base CX0 1 f fd ["_law_cell"] spSource := by
  refine F.ok scSrcK (fun vs H Q E h => ?_) (fun cdv A outer s H vs Q E hr h => ?_)
  · obtain ⟨n, rfl, _⟩ := h
    rfl
  · obtain ⟨n, rfl, k⟩ := h
    refine ⟨_, pss_one (ps_ret (pe_lst (pa_cons (pe_op op_mul (pv 0) (pe_callTy call_int1 (by rfl) hInt (by decide +kernel) (pa_cons (pe_cmpR op_ge (pv 0) (pe_op op_pow pe_int pe_int) (nomark _)) pa_nil))) (pa_cons (pe_op op_mod (pv 0) pe_int) (pa_cons pe_int pa_nil))))), ?_⟩
    have e18 : (10 : Int) ^ (18 : Int).toNat = 1000000000000000000 := by decide
    refine ⟨_, rfl, _, rfl, _, _, rfl, rfl, ⟨by decide, by decide, by decide⟩, _, _, rfl, rfl, .inr ⟨_, rfl, _, _, rfl, rfl, ?_⟩⟩
    refine ⟨.inr ⟨by split <;> decide, by split <;> decide⟩, _, rfl, _, _, rfl, rfl, (by show (0 : Int) < 2147483587; decide), (by show 3 ≤ sizeLine; decide), fun p hp => ?_⟩
    refine k p _ hp ⟨_, _, _, ?_, upd_same⟩ (Same.new hp)
    rw [e18]
    by_cases c : (1000000000000000000 : Int) ≤ n
    · rw [decide_eq_true c, if_pos rfl]
      omega
    · rw [decide_eq_false c, if_neg Bool.false_ne_true]
      omega
abbrev nDrwK : List Str := ["_law_source_here", "_law_bound", "_law_value"]
theorem scDrwK : FnScope nDrwK ["_law_source_here", "_law_bound"] (defScope sDrwK) := ⟨rfl, rfl, rfl, by decide +kernel, rfl, by decide +kernel, by decide +kernel⟩
theorem ok_drwK {f : Addr} {fd : FuncData} (F : Fun K "_law_draw" "_law_draw" sDrwK f fd) : FnOk P w K mg base CX0 1 f fd ["_law_source_here", "_law_bound"] spDraw := by
  refine F.ok scDrwK (fun vs H Q E h => ?_) (fun cdv A outer s H vs Q E hr h => ?_)
  · obtain ⟨s, m, rfl, _⟩ := h
    rfl
  · obtain ⟨s, m, rfl, ⟨a, b, c, ha, hs⟩, hm0, hm1, k⟩ := h
    refine ⟨_, pss_cons (ps_if (pt_cmpR op_gt (pe_ix ix_list (pv 0) pe_int (fun _ _ => rfl)) pe_int (nomark _))
        (pss_cons (ps_set (i := 2) scDrwK.nd rfl (Or.inl rfl) (pe_op op_mod (pe_ix ix_list (pv 0) pe_int (fun _ _ => rfl)) (pv 1)))
        (pss_cons (ps_asg (pe_op op_fdiv (pe_ix ix_list (pv 0) pe_int (fun _ _ => rfl)) (pv 1)) (pg_sub (pv 0) pe_int set_list))
        (pss_one (ps_ret (pv 2)))))
        pss_nil)
      (pss_cons (ps_asg (pe_op op_add (pe_ix ix_list (pv 0) pe_int (fun _ _ => rfl)) pe_int) (pg_sub (pv 0) pe_int set_list))
      (pss_cons (ps_set (i := 2) scDrwK.nd rfl (Or.inl rfl) (pe_op op_mod (pe_op op_mul (pe_op op_add (pe_op op_add (pe_ix ix_list (pv 0) pe_int (fun _ _ => rfl)) (pe_op op_mul pe_int (pe_ix ix_list (pv 0) pe_int (fun _ _ => rfl)))) pe_int) pe_int) pe_int))
      (pss_cons (ps_set (i := 2) scDrwK.nd rfl (Or.inl rfl) (pe_op op_mod (pe_op op_mul (pv 2) (pe_op op_add (pe_op op_add (pe_op op_fdiv (pv 2) pe_int) pe_int) (pe_ix ix_list (pv 0) pe_int (fun _ _ => rfl)))) pe_int))
      (pss_one (ps_ret (pe_op op_mod (pe_op op_fdiv (pe_op op_mod (pe_op op_mul (pv 2) (pe_op op_add (pe_op op_fdiv (pv 2) pe_int) pe_int)) pe_int) pe_int) (pv 1))))))), ?_⟩
    refine ⟨_, rfl, _, _, _, _, rfl, rfl, SqL.of hs, rfl, _, _, rfl, rfl, _, rfl, ?_⟩
    refine ite2 (fun _ => ?_) (fun _ => ?_)
    · refine ⟨_, rfl, _, _, _, _, rfl, rfl, SqL.of hs, rfl, _, rfl, _, _, rfl, rfl, hm0, ?_⟩
      refine ⟨_, rfl, _, _, _, _, rfl, rfl, SqL.of hs, rfl, _, rfl, _, _, rfl, rfl, ⟨hm0, hm1⟩, ?_⟩
      refine ⟨_, rfl, _, _, _, _, rfl, rfl, hs, rfl, ?_⟩
      refine ⟨_, rfl, ?_⟩
      exact k _ _ (mod_in hm0).1 (mod_in hm0).2 ⟨_, _, _, Int.ediv_nonneg ha (by omega), upd_same⟩ But.upd
    · refine ⟨_, rfl, _, _, _, _, rfl, rfl, SqL.of hs, rfl, _, _, rfl, rfl, ?_⟩
      refine ⟨_, rfl, _, _, _, _, rfl, rfl, hs, rfl, ?_⟩
      have hs' : SqL K (upd H s (.lst [.int a, .int b, .int (c + 1)])) s [.int a, .int b, .int (c + 1)] := SqL.of upd_same
      refine ⟨_, rfl, _, _, _, _, rfl, rfl, hs', rfl, _, rfl, _, _, _, _, rfl, rfl, hs', rfl, _, _, rfl, rfl, .inl ⟨by decide, by decide⟩, _, _, rfl, rfl, _, _, rfl, rfl, _, _, rfl, rfl, .inr ⟨by decide, by decide⟩, _, _, rfl, rfl, (by show (0 : Int) < 2147483629; decide), ?_⟩
      generalize hx : ((b + 40693 * (c + 1) + 7) * 69621 % 2147483629 : Int) = x
      have x0 : 0 ≤ x ∧ x < 2147483629 := by rw [← hx]; exact mod_in (by decide)
      refine ⟨_, rfl, _, rfl, _, _, rfl, rfl, ⟨by decide, by decide⟩, _, _, rfl, rfl, _, rfl, _, _, _, _, rfl, rfl, hs', rfl, _, _, rfl, rfl, _, _, rfl, rfl, .inl ⟨by omega, by omega⟩, _, _, rfl, rfl, (by show (0 : Int) < 2147483579; decide), ?_⟩
      generalize hy : (x * (x / 1021 + 48271 + (c + 1)) % 2147483579 : Int) = y
      have y0 : 0 ≤ y ∧ y < 2147483579 := by rw [← hy]; exact mod_in (by decide)
      refine ⟨_, rfl, _, rfl, _, _, rfl, rfl, ⟨by decide, by decide⟩, _, _, rfl, rfl, _, _, rfl, rfl, .inl ⟨by omega, by omega⟩, _, _, rfl, rfl, (by show (0 : Int) < 2147483563; decide), _, _, rfl, rfl, ⟨by decide, by decide⟩, _, rfl, _, _, rfl, rfl, hm0, ?_⟩
      exact k _ _ (mod_in hm0).1 (mod_in hm0).2 ⟨_, _, _, ha, upd_same⟩ But.upd
end
end OT
set_option Elab.async false
set_option linter.all false
set_option maxRecDepth 100000
set_option maxHeartbeats 2000000
namespace OTR
open PySem PySem.Spec PyProof.Rows L2
open AutoSeq1 (wpAny_loadPart')
open MeetsSeq MeetsSeq2 MeetsSeq3 SeqRoads2 SeqAt
/-- the lists at a and b hold all; what is left of them is compared -/
def lsAll (R : Rdg) (a b : Addr) (xa ya : List V) : List V → List V → Hp → (Bool → Hp → Prop) → Prop
  | x :: xs, y :: ys, H, Q => (H a = some (.lst xa) ∧ H b = some (.lst ya)) ∧ R x y H fun r H' => if r = true then lsAll R a b xa ya xs ys H' Q else (H' a = some (.lst xa) ∧ H' b = some (.lst ya)) ∧ Q false H'
  | _, _, H, Q => (H a = some (.lst xa) ∧ H b = some (.lst ya)) ∧ Q true H
theorem lsAll.at_ {R : Rdg} {a b : Addr} {xa ya xs ys : List V} {H : Hp} {Q : Bool → Hp → Prop} (h : lsAll R a b xa ya xs ys H Q) : H a = some (.lst xa) ∧ H b = some (.lst ya) := by
  cases xs <;> cases ys <;> exact h.1
section
variable {X : Cx} {n : Nat} {R : Rdg} {a b : Addr} {xa ya : List V} {Q : Bool → Hp → Prop} {pn : List (Addr × Obj)} {σ : L2.St} {A : Around}
theorem ls_loop (eq : EqB X n R) (sb : Sub X (n + 1) A) (hl : xa.length = ya.length) : ∀ (xs ys : List V) (i : Nat) (H : Hp) (t : Shared), xs = xa.drop i → ys = ya.drop i → i + xs.length = xa.length → Inv X pn σ H t → lsAll R a b xa ya xs ys H Q →
    wpAny (model X.prog X.w) A.in1 (Builtin.«list.__eq__.loop» ⟨[.ref a, .ref b, rawInt i, rawInt 2], []⟩) (GQ.FinOf X.prog X.w A (wants (toldB X pn σ Q) X.xe)) (fun e t' => wants (toldB X pn σ Q) X.xe (.error e) t') t := by
  intro xs
  induction xs with
  | nil =>
    intro ys i H t hx hy hi I h
    obtain ⟨ha, hb⟩ := h.at_
    obtain ⟨_, its, k, rv, e⟩ := (show ObjOk X.prog X.w H t.heap a (.lst xa) from I.hok a _ ha)
    obtain ⟨_, its2, k2, rv2, e2⟩ := (show ObjOk X.prog X.w H t.heap b (.lst ya) from I.hok b _ hb)
    have q : Q true H := by cases ys <;> exact h.2
    have fin : wants (toldB X pn σ Q) X.xe (.ok (.ret (.bool true))) t := ⟨true, H, rfl, I, q⟩
    have l1 := rv.length
    have l2 := rv2.length
    have n1 : its.toArray[((i : Nat) : Int).toNat]? = none := by
      simp at hi
      simp
      omega
    have n2 : its2.toArray[((i : Nat) : Int).toNat]? = none := by
      simp at hi
      simp
      omega
    have sz : (its.toArray.size == its2.toArray.size) = true := by
      simp
      omega
    obtain ⟨hp, g, d, tk, os⟩ := t
    wp_walk using wpAny_loadPart' e, wpAny_loadPart' e2
    rw [n1, n2]
    wp_walk using wpAny_loadPart' e, wpAny_loadPart' e2
    show wants (toldB X pn σ Q) X.xe (.ok (.ret (.bool (its.toArray.size == its2.toArray.size)))) _
    rw [sz]
    exact fin
  | cons x xs ih =>
    intro ys i H t hx hy hi I h
    obtain ⟨ha, hb⟩ := h.at_
    obtain ⟨_, its, k, rv, e⟩ := (show ObjOk X.prog X.w H t.heap a (.lst xa) from I.hok a _ ha)
    obtain ⟨_, its2, k2, rv2, e2⟩ := (show ObjOk X.prog X.w H t.heap b (.lst ya) from I.hok b _ hb)
    have lt : i < xa.length := by
      rw [List.length_cons] at hi
      omega
    have lt2 : i < ya.length := by omega
    have hx2 := hx
    rw [List.drop_eq_getElem_cons lt] at hx2
    injection hx2 with ex etx
    have hy2 := hy
    rw [List.drop_eq_getElem_cons lt2] at hy2
    subst hy2
    obtain ⟨v, hv, r1⟩ := rv.get (List.getElem?_eq_getElem lt)
    obtain ⟨v2, hv2, r2⟩ := rv2.get (List.getElem?_eq_getElem lt2)
    rw [← ex] at r1
    have one : its.toArray[((i : Nat) : Int).toNat]? = some v := by simpa using hv
    have two : its2.toArray[((i : Nat) : Int).toNat]? = some v2 := by simpa using hv2
    have step := eq A.in1 pn t σ H x _ v v2 _ sb.in1 I r1 r2 h.2
    obtain ⟨hp, g, d, tk, os⟩ := t
    wp_walk using wpAny_loadPart' e, wpAny_loadPart' e2
    rw [one, two]
    refine wpAny_bind (wpAny_mono step (fun r t2 q => ?_) fun _ _ z => z)
    obtain ⟨H2, I2, q⟩ := q
    cases r with
    | true =>
      have more := ih (ya.drop (i + 1)) (i + 1) H2 t2 etx rfl (by rw [List.length_cons] at hi; omega) I2 q
      have nx : ((i : Int) + 1) = ((i + 1 : Nat) : Int) := by omega
      obtain ⟨hp2, g2, d2, tk2, os2⟩ := t2
      wp_walk
      rw [nx]
      exact ⟨plainId_quiet plain_eq_loop _, codeAny_builtin entry_eq_loop (by
        rw [Around.under_plainId plain_eq_loop _]
        exact more)⟩
    | false =>
      obtain ⟨⟨ha2, hb2⟩, q⟩ := (show (H2 a = some (.lst xa) ∧ H2 b = some (.lst ya)) ∧ Q false H2 from q)
      have fin : wants (toldB X pn σ Q) X.xe (.ok (.ret (.bool false))) t2 := ⟨false, H2, rfl, I2, q⟩
      obtain ⟨_, its3, k3, rv3, e3⟩ := (show ObjOk X.prog X.w H2 t2.heap a (.lst xa) from I2.hok a _ ha2)
      obtain ⟨_, its4, k4, rv4, e4⟩ := (show ObjOk X.prog X.w H2 t2.heap b (.lst ya) from I2.hok b _ hb2)
      obtain ⟨v3, hv3, _⟩ := rv3.get (List.getElem?_eq_getElem lt)
      obtain ⟨v4, hv4, _⟩ := rv4.get (List.getElem?_eq_getElem lt2)
      have three : its3.toArray[((i : Nat) : Int).toNat]? = some v3 := by simpa using hv3
      have four : its4.toArray[((i : Nat) : Int).toNat]? = some v4 := by simpa using hv4
      obtain ⟨hp2, g2, d2, tk2, os2⟩ := t2
      wp_walk using wpAny_loadPart' e3, wpAny_loadPart' e4
      rw [three, four]
      wp_walk
      exact fin
/-- xs == ys of two lists -/
def RLst (R : Rdg) : Rdg := fun x y H Q => ∃ (a b : Addr) (xs ys : List V), x = .ref a ∧ y = .ref b ∧ H a = some (.lst xs) ∧ H b = some (.lst ys) ∧ (xs.length ≠ ys.length → Q false H) ∧ (xs.length = ys.length → lsAll R a b xs ys xs ys H Q)
theorem ls_call {H : Hp} {t : Shared} (eq : EqB X n R) (sb : Sub X (n + 1) A) (I : Inv X pn σ H t) (ha : H a = some (.lst xa)) (hb : H b = some (.lst ya)) (h1 : xa.length ≠ ya.length → Q false H) (h2 : xa.length = ya.length → lsAll R a b xa ya xa ya H Q) :
    wpAny (model X.prog X.w) A (call (.builtin "list.__eq__") [.ref a, .ref b]) (toldB X pn σ Q) X.xe t := by
  obtain ⟨_, its, k, rv, e⟩ := (show ObjOk X.prog X.w H t.heap a (.lst xa) from I.hok a _ ha)
  obtain ⟨_, its2, k2, rv2, e2⟩ := (show ObjOk X.prog X.w H t.heap b (.lst ya) from I.hok b _ hb)
  have l1 := rv.length
  have l2 := rv2.length
  have f3 := AutoSeq1.sub_list_list
  refine GQ.call_here F.slot_list_eq ⟨_, e, rfl⟩ F.entry_list_eq (F.args_list_eq_2 _ _) ?_
  by_cases hl : xa.length = ya.length
  · have go := ls_loop (A := A) (a := a) (b := b) eq sb hl xa ya 0 H t rfl rfl (by simp) I (h2 hl)
    have hne : ¬ (its.toArray.size != its2.toArray.size) = true := by
      simp
      omega
    obtain ⟨hp, g, d, tk, os⟩ := t
    wp_walk using wpAny_loadPart' e, wpAny_loadPart' e2
    rw [if_neg hne]
    wp_walk
    exact ⟨plainId_quiet plain_eq_loop _, codeAny_builtin entry_eq_loop (by
      rw [Around.under_plainId plain_eq_loop _]
      exact go)⟩
  · have hne : (its.toArray.size != its2.toArray.size) = true := by
      simp
      omega
    have fin : wants (toldB X pn σ Q) X.xe (.ok (.ret (.bool false))) t := ⟨false, H, rfl, I, h1 hl⟩
    obtain ⟨hp, g, d, tk, os⟩ := t
    wp_walk using wpAny_loadPart' e, wpAny_loadPart' e2
    rw [if_pos hne]
    wp_walk
    exact fin
theorem rcB_lst (eq : EqB X n R) : RcB X (n + 1) .Eq (RLst R) := by
  intro A pn t σ H x y u v Q sb I rx ry h
  obtain ⟨a, b, xs, ys, rfl, rfl, ha, hb, h1, h2⟩ := h
  cases (show u = Value.ref a from rx)
  cases (show v = Value.ref b from ry)
  obtain ⟨_, its, k, rv, e⟩ := (show ObjOk X.prog X.w H t.heap a (.lst xs) from I.hok a _ ha)
  obtain ⟨_, its2, k2, rv2, e2⟩ := (show ObjOk X.prog X.w H t.heap b (.lst ys) from I.hok b _ hb)
  refine wpAny_richCompare_same_room (op := .Eq) (T := "list") ⟨_, e, rfl⟩ ⟨_, e2, rfl⟩ F.slot_list_eq (wpAny_mono (ls_call eq sb I ha hb h1 h2) (fun r t' q => ?_) fun _ _ z => z) sb.room.units0
  obtain ⟨r', H', rfl, I', q⟩ := q
  exact ⟨(fun z => nomatch z), r', H', rfl, I', q⟩
end
end OTR
set_option Elab.async false
set_option linter.all false
set_option maxRecDepth 100000
set_option maxHeartbeats 4000000
namespace OT
open PySem L2 OTR
abbrev sMarchE : Stmt := inClass (top 35) 1
abbrev sKeyed : Stmt := top 38
abbrev sRowE : Stmt := inClass (top 36) 1
/-- a march as it counts: the key of its goal, its steps -/
def kOf (F : List Fact) (x : MG) : Fact × Int := (keyF F 1 (node F 1 x.1 x.2.1), x.2.2)
def rowK (F : List Fact) (xs : List MG) : List (Fact × Int) := xs.map (kOf F)
def MzAt (CM CP : Addr) (H : Hp) (p : Addr) (z : Fact × Int) : Prop := ∃ g, MarchAt CM H p g z.2 ∧ PlaceAt CP H g z.1
theorem MzAt.same {CM CP : Addr} {H H' : Hp} {p : Addr} {z : Fact × Int} (h : MzAt CM CP H p z) (s : Same H H') : MzAt CM CP H' p z := let ⟨g, a, b⟩ := h; ⟨g, a.same s, b.same s⟩
theorem plF_inj {r r' : Fact} (h : plF r = plF r') : r = r' := by
  unfold plF at h
  simp only [List.cons.injEq, Prod.mk.injEq, V.int.injEq, true_and, and_true] at h
  exact Prod.ext h.1 (Prod.ext h.2.1 h.2.2)
theorem PlaceAt.inj {C : Addr} {H : Hp} {p : Addr} {r r' : Fact} (h : PlaceAt C H p r) (k : PlaceAt C H p r') : r = r' := by
  obtain ⟨dx, e⟩ := h
  obtain ⟨dy, e'⟩ := k
  rw [e] at e'
  injection e' with e'
  injection e' with _ _ e'
  exact plF_inj e'
theorem MarchAt.inj {C : Addr} {H : Hp} {p g g' : Addr} {n n' : Int} (h : MarchAt C H p g n) (k : MarchAt C H p g' n') : g = g' ∧ n = n' := by
  obtain ⟨dx, e⟩ := h
  obtain ⟨dy, e'⟩ := k
  rw [e] at e'
  injection e' with e'
  injection e' with _ _ e'
  unfold maF at e'
  simp only [List.cons.injEq, Prod.mk.injEq, V.int.injEq, V.ref.injEq, true_and, and_true] at e'
  exact e'
theorem MzAt.inj {CM CP : Addr} {H : Hp} {p : Addr} {z z' : Fact × Int} (h : MzAt CM CP H p z) (k : MzAt CM CP H p z') : z = z' := by
  obtain ⟨g, a, b⟩ := h
  obtain ⟨g', a', b'⟩ := k
  obtain ⟨rfl, e⟩ := a.inj a'
  exact Prod.ext (b.inj b') e
def spMarchE (CM CP : Addr) : Sp := fun vs H Q _ => ∃ (a : Addr) (z : Fact × Int) (y : V), vs = [.ref a, y] ∧ MzAt CM CP H a z ∧ ((∃ (b : Addr) (z' : Fact × Int), y = .ref b ∧ MzAt CM CP H b z' ∧ Q (.bl (decide (z = z'))) H) ∨ ((∃ T, HasT H y (.type T)) ∧ Q (.bl false) H))
def spKeyed (K : PySem.W.Frag) (CT CR CM CP CW : Addr) : Sp := fun vs H Q _ => ∃ (rw a : Addr) (n : Int) (ps : List Addr) (F : List Fact) (ms : List Addr) (xs : List MG), vs = [.ref rw] ∧ RowAt K CW H rw a ms ∧ TreeAt K CT CR H a n ps F ∧ TreeG n F ∧ MasAt CM CP H ms (xs.map mf) ∧ (∀ x ∈ xs, MgOk F x) ∧ xs.length ≤ 900 ∧
  ∀ D H' ks, Same H H' → H D = none → H' D = some (.lst (ks.map V.ref)) → Paired (MzAt CM CP H') ks (rowK F xs) → Q (.ref D) H'
/-- a row, with all that it rests on -/
structure RowS (K : PySem.W.Frag) (CT CR CM CP CW : Addr) (H : Hp) (p : Addr) (n : Int) (F : List Fact) (xs : List MG) : Prop where
  ok : ∀ x ∈ xs, MgOk F x
  len : xs.length ≤ 900
  G : TreeG n F
  at_ : ∃ (a : Addr) (ps ms : List Addr), RowAt K CW H p a ms ∧ TreeAt K CT CR H a n ps F ∧ MasAt CM CP H ms (xs.map mf)
def spRowE (K : PySem.W.Frag) (CT CR CM CP CW : Addr) : Sp := fun vs H Q _ => ∃ (a : Addr) (n : Int) (F : List Fact) (xs : List MG) (y : V), vs = [.ref a, y] ∧ RowS K CT CR CM CP CW H a n F xs ∧
  ((∃ (b : Addr) (n' : Int) (F' : List Fact) (xs' : List MG), y = .ref b ∧ RowS K CT CR CM CP CW H b n' F' xs' ∧ ∀ H', Same H H' → Q (.bl (decide ((n = n' ∧ F = F') ∧ rowK F xs = rowK F' xs'))) H') ∨ ((∃ T, HasT H y (.type T)) ∧ Q (.bl false) H))
theorem eq_mk {K : PySem.W.Frag} {CM CP : Addr} {H : Hp} {p p' : Addr} {z z' : Fact × Int} {Q : Bool → Hp → Prop} (h : MzAt CM CP H p z) (k : MzAt CM CP H p' z') (q : Q (decide (z = z')) H) : ROr (ROwn K CM (spMarchE CM CP)) (.ref p) (.ref p') H Q := by
  by_cases e : p = p'
  · subst e
    refine .inl ⟨p, rfl, rfl, ?_⟩
    rw [decide_eq_true (h.inj k)] at q
    exact q
  · obtain ⟨g, ⟨dx, e1⟩, h2⟩ := id h
    obtain ⟨g', ⟨dy, e2⟩, k2⟩ := id k
    exact .inr ⟨⟨_, _, .ins e1, .ins e2⟩, fun z => e (V.ref.inj z), p, dx, maF g z.2, _, rfl, e1, .ins e2, nf_same, p, z, _, rfl, h, .inl ⟨p', z', rfl, k, _, rfl, q⟩⟩
theorem ls_mk {K : PySem.W.Frag} {CM CP : Addr} {H : Hp} {a b : Addr} {xa ya : List V} {Q : Bool → Hp → Prop} (ha : H a = some (.lst xa)) (hb : H b = some (.lst ya)) : ∀ {ps ps' : List Addr} {zs zs' : List (Fact × Int)}, Paired (MzAt CM CP H) ps zs → Paired (MzAt CM CP H) ps' zs' → ps.length = ps'.length → Q (decide (zs = zs')) H → lsAll (ROr (ROwn K CM (spMarchE CM CP))) a b xa ya (ps.map V.ref) (ps'.map V.ref) H Q
  | _, _, _, _, .nil, .nil, _, q => ⟨⟨ha, hb⟩, q⟩
  | _, _, _, _, .nil, .cons _ _, l, _ => by simp at l
  | _, _, _, _, .cons _ _, .nil, l, _ => by simp at l
  | _, _, _, _, .cons (b := z) h t, .cons (b := z') k u, l, q => by
    refine ⟨⟨ha, hb⟩, eq_mk h k ?_⟩
    by_cases e : z = z'
    · subst e
      rw [decide_eq_true rfl, if_pos rfl]
      refine ls_mk ha hb t u (by simpa using l) ?_
      have w : ∀ zs zs' : List (Fact × Int), decide (z :: zs = z :: zs') = decide (zs = zs') := fun zs zs' => by simp
      rw [w] at q
      exact q
    · rw [decide_eq_false e, if_neg Bool.false_ne_true]
      rw [decide_eq_false (fun w => e (List.cons.inj w).1)] at q
      exact ⟨⟨ha, hb⟩, q⟩
section
variable {P : Program} {w : World} {K : PySem.W.Frag} {mg : Str → Option Value} {base : Heap}
theorem scMarchE : FnScope ["self", "other"] ["self", "other"] (defScope sMarchE) := ⟨rfl, rfl, rfl, by decide +kernel, rfl, by decide +kernel, by decide +kernel⟩
theorem ok_marchE {f C CP fe fPE : Addr} {fd fdPE : FuncData} (F : Fun K "__eq__" "March.__eq__" sMarchE f fd) (T : MaT K mg C) (c : QC K C fe) (cP : QC K CP fPE) (FPE : FnOk P w K mg base CX0 1 fPE fdPE ["self", "other"] (spPlaceE CP)) (bPE : Binds K fdPE ["self", "other"] []) (hIs : mg "isinstance" = none) :
    FnOk P w K mg base CX0 2 f fd ["self", "other"] (spMarchE C CP) := by
  refine F.ok scMarchE (fun vs H Q E h => ?_) (fun cdv A outer s H vs Q E hr h => ?_)
  · obtain ⟨a, z, y, rfl, _⟩ := h
    rfl
  · obtain ⟨a, z, y, rfl, ⟨g, ⟨dx, ea⟩, dg, eg⟩, h⟩ := h
    refine ⟨_, pss_one (ps_ret (pe_and (pe_callB call_isi (by rfl) hIs (by decide +kernel) (pa_cons (pv 1) (pa_cons (pe_glob (v := V.ref C) rfl T.mgC rfl) pa_nil)))
      (pe_and (pe_cmpR (op_eqB (rcB_own FPE cP.eq cP.fn bPE) hr) (pe_fld (pv 0) rfl) (pe_fld (pv 1) rfl) (nomark _)) (pe_one (pe_cmpR op_eq (pe_fld (pv 0) rfl) (pe_fld (pv 1) rfl) (nomark _)))))), ?_⟩
    rcases h with ⟨b, z', rfl, ⟨g', ⟨dy, eb⟩, dg', eg'⟩, k⟩ | ⟨⟨ty, hy⟩, k⟩
    · refine ⟨_, rfl, _, _, _, _, true, rfl, .own C, c.tyx eb, kit_same, _, rfl, ?_⟩
      refine iteT ⟨_, rfl, a, C, dx, _, _, rfl, ea, T.cl, T.nG, maF_g g _, _, rfl, b, C, dy, _, _, rfl, eb, T.cl, T.nG, maF_g g' _, ?_⟩
      refine ⟨g, dg, plF z.1, _, rfl, eg, .ins eg', nf_same, g, dg, z.1, _, rfl, eg, .inl ⟨g', dg', z'.1, rfl, eg', _, rfl, ?_⟩⟩
      by_cases h1 : z.1 = z'.1
      · rw [decide_eq_true h1]
        refine ⟨_, rfl, iteT ⟨_, rfl, a, C, dx, _, _, rfl, ea, T.cl, T.nS, maF_s g _, _, rfl, b, C, dy, _, _, rfl, eb, T.cl, T.nS, maF_s g' _, rfl, ?_⟩⟩
        have e : decide (z = z') = decide (V.int z.2 = V.int z'.2) := by
          rw [decide_eq_decide]
          exact ⟨fun w => by rw [w], fun w => Prod.ext h1 (V.int.inj w)⟩
        rw [e] at k
        exact k
      · rw [decide_eq_false h1]
        refine ⟨_, rfl, iteF ?_⟩
        rw [decide_eq_false (fun w : z = z' => h1 (by rw [w]))] at k
        exact k
    · exact ⟨_, rfl, _, _, _, _, false, rfl, .own C, hasTyx hy, c.kit _ (hasT_oth hy), _, rfl, iteF k⟩
theorem scKeyed : FnScope ["row", "march"] ["row"] (defScope sKeyed) := ⟨rfl, rfl, rfl, by decide +kernel, rfl, by decide +kernel, by decide +kernel⟩
theorem ok_keyed {f fK fM CT CR CM CP CW CNR COR : Addr} {fd fdK fdM : FuncData} (F : Fun K "keyed" "keyed" sKeyed f fd) (TRw : RwT K mg CW) (TM : MaT K mg CM) (MM : Mk K CM fM) (FM : FnOk P w K mg base CX0 1 fM fdM ["self", "goal", "steps"] (spMarchI CM)) (bM : Binds K fdM ["self", "goal", "steps"] [])
    (FK : FnOk P w K mg base (L2.CX P w) 6 fK fdK ["tree", "place"] (spKey K CT CR CP CNR COR)) (bK : Binds K fdK ["tree", "place"] []) (mK : mg "key" = some (.ref fK)) (kK : PySem.W.keepIn K (.ref fK) = true) : FnOk P w K mg base CX0 7 f fd ["row"] (spKeyed K CT CR CM CP CW) := by
  refine F.ok scKeyed (fun vs H Q E h => ?_) (fun cdv A outer s H vs Q E hr h => ?_)
  · obtain ⟨rw, a, n, ps, F, ms, xs, rfl, _⟩ := h
    rfl
  · obtain ⟨rw, a, n, ps, F, ms, xs, rfl, ⟨dw, t, ew, et⟩, TA, G, hM, ok, lx, kont⟩ := h
    have hr2 : Room 2 _ := hr.mono (by decide)
    refine ⟨_, pss_one (ps_ret (pe_lc (own := [("march", 1)]) (g := gName 1) (tt := tYes) (te := tMake CM (spMarchI CM) [] E0 (tCons (tCall (spKey K CT CR CP CNR COR) [] E0 (tCons (tFld K (tVar 0) "tree") (tCons (tFld K (tVar 1) "goal") tNil))) (tCons (tFld K (tVar 1) "steps") tNil))) rfl scKeyed.nd (pi_tup (pe_fld (pv 0) rfl))
        (blkOk_by (own := [("march", 1)]) (N := ["row", "march"]) (sc := defScope sKeyed) (by decide +kernel)) (fun _ _ _ _ _ => pg_name (i := 1) scKeyed.nd rfl (Or.inl rfl)) (fun _ _ _ _ _ => pts_nil)
        (fun _ _ _ _ _ => pe_make MM FM hr2 (by rfl) TM.mgC bM .nil pass0 (pa_cons (pe_call FK hr rfl mK kK bK .nil passF (pa_cons (pe_fld (pv 0) rfl) (pa_cons (pe_fld (pv 1) rfl) pa_nil))) (pa_cons (pe_fld (pv 1) rfl) pa_nil))))), ?_⟩
    have lenE : (ms.map V.ref).length = xs.length := by rw [List.length_map, Paired.length hM, List.length_map]
    refine ⟨_, rfl, rw, CW, dw, _, _, rfl, ew, TRw.cl, TRw.nM, rwF_m a t, t, rfl, ⟨_, et⟩, fun D hD => lc_tup (K := K) (a := t) (xs := ms.map V.ref) (fun i Gc => ∃ ks : List Addr, Gc D = some (.lst (ks.map V.ref)) ∧ Same H Gc ∧ Paired (MzAt CM CP Gc) ks (rowK F (xs.take i)) ∧ ks.length = i)
      ⟨[], upd_same, Same.new hD, .nil, rfl⟩ (fun i Gc _ ⟨_, _, sc, _⟩ => sqT_same et sc) ?_ ?_⟩
    · rintro i y Gc hi ⟨ks, hks, sc, pk, kl⟩
      obtain ⟨q, hq, rfl⟩ := map_get hi
      obtain ⟨m, hm, g, ⟨dm, em⟩, gp⟩ := paired_get hM hq
      obtain ⟨x, hx, rfl⟩ := map_get hm
      have ix : i < xs.length := (List.getElem?_eq_some_iff.mp hx).1
      have mx := ok x (List.mem_of_getElem? hx)
      have gp' : PlaceAt CP H g (((x.1 : Nat) : Int), x.2.1, 1) := by
        have z := gp
        rw [show low (mPl (mf x)) = (((x.1 : Nat) : Int), x.2.1, 1) from low_one _ _] at z
        exact z
      have on : PlOn F (((x.1 : Nat) : Int), x.2.1, (1 : Int)) := ⟨⟨by show 0 ≤ ((x.1 : Nat) : Int); omega, by show ((x.1 : Nat) : Int) < _; have := mx.rd; omega⟩, mx.lo, by show x.2.1 ≤ (rd F ((x.1 : Nat) : Int).toNat).2.2 * 1; rw [Int.toNat_natCast, Int.mul_one]; exact mx.hi⟩
      refine ⟨rfl, ?_⟩
      unfold tYes
      refine iteT ?_
      refine ⟨_, rfl, rw, CW, dw, _, _, rfl, sc _ _ ew, TRw.cl, TRw.nT, rwF_t a t, _, rfl, q, CM, dm, _, _, rfl, sc _ _ em, TM.cl, TM.nG, maF_g g _, a, g, n, ps, F, (((x.1 : Nat) : Int), x.2.1, 1), rfl, TA.same sc, gp'.same sc, G, ⟨by show (1 : Int) ≤ 1; omega, by show (1 : Int) < 2 ^ 60; omega⟩, low_one _ _, fun z => absurd on.1 z, fun _ z => absurd on.2 z, fun _ pk' G1 s1 pk1 => ?_⟩
      have s1' := sc.trans s1
      refine ⟨_, rfl, q, CM, dm, _, _, rfl, s1' _ _ em, TM.cl, TM.nS, maF_s g _, fun x2 dx2 nx2 ndx2 nex2 => ⟨x2, dx2, pk', x.2.2, rfl, upd_same, fun G2 mx2 keep2 => ⟨rfl, ks.map V.ref, ?_, small1000 (by rw [List.length_map]; omega), ks ++ [x2], by rw [List.map_append]; exact upd_same, fun b o e => ?_, ?_, by rw [List.length_append, kl]; rfl⟩⟩⟩
      · exact made_same nx2 ndx2 keep2 _ _ (s1 _ _ hks)
      · rw [upd_ne (ne_of_none e hD)]
        exact made_same nx2 ndx2 keep2 _ _ (s1' b o e)
      · have s2 : Same Gc G2 := s1.trans (made_same nx2 ndx2 keep2)
        have gD : G2 D = some (.lst (ks.map V.ref)) := s2 _ _ hks
        have put : ∀ {p : Addr} {z : Fact × Int}, MzAt CM CP G2 p z → MzAt CM CP (upd G2 D (.lst (ks.map V.ref ++ [V.ref x2]))) p z := fun {p z} ⟨g, ⟨d1, e1⟩, d2, e2⟩ =>
          ⟨g, ⟨d1, by rw [upd_ne (ne_of e1 gD (fun z => nomatch z))]; exact e1⟩, d2, by rw [upd_ne (ne_of e2 gD (fun z => nomatch z))]; exact e2⟩
        show Paired _ (ks ++ [x2]) ((xs.take (i + 1)).map (kOf F))
        rw [take_get hx, List.map_append]
        refine paired_snoc (Paired.mapP pk fun _ _ a => put (a.same s2)) (put ⟨pk', mx2, ?_⟩)
        have z := pk1.same (made_same nx2 ndx2 keep2)
        rw [Int.toNat_natCast] at z
        exact z
    · rintro G4 ⟨ks, hks, sc, pk, kl⟩
      rw [lenE, List.take_length] at pk
      exact kont D G4 ks sc hD hks pk
theorem scRowE : FnScope ["self", "other"] ["self", "other"] (defScope sRowE) := ⟨rfl, rfl, rfl, by decide +kernel, rfl, by decide +kernel, by decide +kernel⟩
theorem RowS.same {CT CR CM CP CW : Addr} {H H' : Hp} {p : Addr} {n : Int} {F : List Fact} {xs : List MG} (h : RowS K CT CR CM CP CW H p n F xs) (s : Same H H') : RowS K CT CR CM CP CW H' p n F xs := by
  obtain ⟨ok, len, G, a, ps, ms, ⟨dx, t, e, u⟩, T, M⟩ := h
  exact ⟨ok, len, G, a, ps, ms, ⟨dx, t, s _ _ e, sqT_same u s⟩, T.same s, MasAt.same M s⟩
theorem ok_rowE {f C CT CR CM CP fe fTE fME fKd : Addr} {fd fdTE fdME fdKd : FuncData} (F : Fun K "__eq__" "Row.__eq__" sRowE f fd) (T : RwT K mg C) (c : QC K C fe) (cT : QC K CT fTE) (cM : QC K CM fME)
    (FTE : FnOk P w K mg base CX0 3 fTE fdTE ["self", "other"] (spTreeE K CT CR)) (bTE : Binds K fdTE ["self", "other"] []) (FME : FnOk P w K mg base CX0 2 fME fdME ["self", "other"] (spMarchE CM CP)) (bME : Binds K fdME ["self", "other"] [])
    (FKd : FnOk P w K mg base CX0 7 fKd fdKd ["row"] (spKeyed K CT CR CM CP C)) (bKd : Binds K fdKd ["row"] []) (mKd : mg "keyed" = some (.ref fKd)) (kKd : PySem.W.keepIn K (.ref fKd) = true) (hIs : mg "isinstance" = none) :
    FnOk P w K mg base CX0 8 f fd ["self", "other"] (spRowE K CT CR CM CP C) := by
  refine F.ok scRowE (fun vs H Q E h => ?_) (fun cdv A outer s H vs Q E hr h => ?_)
  · obtain ⟨a, n, F, xs, y, rfl, _⟩ := h
    rfl
  · obtain ⟨a, n, F, xs, y, rfl, R1, h⟩ := h
    have hr3 : Room 3 _ := hr.mono (by decide)
    refine ⟨_, pss_one (ps_ret (pe_and (pe_callB call_isi (by rfl) hIs (by decide +kernel) (pa_cons (pv 1) (pa_cons (pe_glob (v := V.ref C) rfl T.mgC rfl) pa_nil)))
      (pe_and (pe_cmpR (op_eqB (rcB_own FTE cT.eq cT.fn bTE) hr3) (pe_fld (pv 0) rfl) (pe_fld (pv 1) rfl) (nomark _))
        (pe_one (pe_cmpR (op_eqB (rcB_lst (RcB.eqB (rcB_own FME cM.eq cM.fn bME))) hr3) (pe_call FKd hr rfl mKd kKd bKd .nil pass0 (pa_cons (pv 0) pa_nil)) (pe_call FKd hr rfl mKd kKd bKd .nil pass0 (pa_cons (pv 1) pa_nil)) (nomark _)))))), ?_⟩
    obtain ⟨ta, ps, ms, ⟨da, t, ea, et⟩, TA, M⟩ := R1.at_
    rcases h with ⟨b, n', F', xs', rfl, R2, k⟩ | ⟨⟨ty, hy⟩, k⟩
    · obtain ⟨tb, ps', ms', ⟨db, t', eb, et'⟩, TB, M'⟩ := R2.at_
      refine ⟨_, rfl, _, _, _, _, true, rfl, .own C, c.tyx eb, kit_same, _, rfl, ?_⟩
      refine iteT ⟨_, rfl, a, C, da, _, _, rfl, ea, T.cl, T.nT, rwF_t ta t, _, rfl, b, C, db, _, _, rfl, eb, T.cl, T.nT, rwF_t tb t', ?_⟩
      obtain ⟨dxa, ua, _, _, eta, _⟩ := id TA
      obtain ⟨dxb, ub, _, _, etb, _⟩ := id TB
      refine ⟨ta, dxa, _, _, rfl, eta, .ins etb, nf_same, ta, n, ps, F, _, rfl, TA, .inl ⟨tb, n', ps', F', rfl, TB, _, rfl, ?_⟩⟩
      by_cases h1 : n = n' ∧ F = F'
      · rw [decide_eq_true h1]
        refine ⟨_, rfl, iteT ?_⟩
        obtain ⟨rfl, rfl⟩ := h1
        refine ⟨_, rfl, a, ta, n, ps, F, ms, xs, rfl, ⟨da, t, ea, et⟩, TA, R1.G, M, R1.ok, R1.len, fun D1 H1 ks s1 n1 g1 p1 => ?_⟩
        refine ⟨_, rfl, b, tb, n, ps', F, ms', xs', rfl, ⟨db, t', s1 _ _ eb, sqT_same et' s1⟩, TB.same s1, R2.G, MasAt.same M' s1, R2.ok, R2.len, fun D2 H2 ks' s2 n2 g2 p2 => ?_⟩
        have k' := k H2 (s1.trans s2)
        have g1' := s2 _ _ g1
        have p1' : Paired (MzAt CM CP H2) ks (rowK F xs) := Paired.mapP p1 fun _ _ a => a.same s2
        have e : decide ((n = n ∧ F = F) ∧ rowK F xs = rowK F xs') = decide (rowK F xs = rowK F xs') := by
          rw [decide_eq_decide]
          exact ⟨fun w => w.2, fun w => ⟨⟨rfl, rfl⟩, w⟩⟩
        rw [e] at k'
        have l1 := Paired.length p1'
        have l2 := Paired.length p2
        refine ⟨D1, D2, _, _, rfl, rfl, g1', g2, fun ne => ?_, fun el => ls_mk g1' g2 p1' p2 (by simpa using el) k'⟩
        rw [decide_eq_false (fun w => ne (by rw [List.length_map, List.length_map, l1, l2, w]))] at k'
        exact k'
      · rw [decide_eq_false h1]
        have k' := k H (Same.refl H)
        rw [decide_eq_false (fun w => h1 w.1)] at k'
        exact ⟨_, rfl, iteF k'⟩
    · exact ⟨_, rfl, _, _, _, _, false, rfl, .own C, hasTyx hy, c.kit _ (hasT_oth hy), _, rfl, iteF k⟩
end
end OT
set_option Elab.async false
set_option linter.all false
set_option maxRecDepth 100000
set_option maxHeartbeats 4000000
namespace OTR
open PySem PySem.Spec L2 PyProof.Rows
end OTR
set_option Elab.async false
set_option linter.all false
set_option maxRecDepth 100000
set_option maxHeartbeats 4000000
namespace OTR
open PySem PySem.Spec L2 PyProof.Rows PyProof.Rows.G
end OTR
set_option Elab.async false
set_option linter.all false
set_option maxRecDepth 100000
set_option maxHeartbeats 4000000
namespace OTR
open PySem PySem.Spec L2 PyProof.Rows
section
variable {X : Cx}
/-- o.f = .., one of several targets -/
def gFld (K : PySem.W.Frag) (to : TE) (f : Str) : TG := fun v σ H Q => to σ H fun x H1 => ∃ a C dx fs, x = .ref a ∧ H1 a = some (.ins C dx fs) ∧ Cls K C ∧ NoAttr K C f ∧ fs.length < 1000 ∧ Q σ (upd H1 a (.ins C dx (putF f v fs)))
theorem pg_fld {o : Expr} {f : Str} {to : TE} {pos : Pos} (ho : PE X o to) : PG X (.Attribute o f pos) (gFld X.K to f) := by
  refine ⟨fun pins s σ H v u Q I r h => ?_⟩
  rw [assign_Attribute]
  refine wpAny_bind (wpAny_holding (thn (ho.run pins s σ H _ I h) fun ov s1 ⟨x, H1, I1, rx, a, C, dx, fs, ex, ea, cl, na, l, q⟩ => wpAny_bind (wpAny_standAt (wpAny_bind (wpAny_holding ?_)))))
  subst ex
  obtain rfl : ov = Value.ref a := rx
  exact setattr_ok I1 ea cl na l r fun s2 I2 => wpAny_release ⟨σ, _, I2, q⟩
end
end OTR
set_option Elab.async false
set_option linter.all false
set_option maxRecDepth 100000
set_option maxHeartbeats 4000000
namespace OT
open PySem L2 OTR
def Cst (o : HO) : Prop := (∀ xs, o ≠ .lst xs) ∧ (∀ ps, o ≠ .tbl ps) ∧ ∀ C dx fs, o = .ins C dx fs → fs.length ≠ 5
theorem Cst.tup {xs : List V} : Cst (.tup xs) := ⟨(fun _ z => nomatch z), (fun _ z => nomatch z), fun _ _ _ z => nomatch z⟩
theorem Cst.dT {kvs : List (List Key × V)} : Cst (.dT kvs) := ⟨(fun _ z => nomatch z), (fun _ z => nomatch z), fun _ _ _ z => nomatch z⟩
theorem Cst.dK {kvs : List (Key × V)} : Cst (.dK kvs) := ⟨(fun _ z => nomatch z), (fun _ z => nomatch z), fun _ _ _ z => nomatch z⟩
theorem Cst.frz {o : Obj} {u : HO} : Cst (.frz o u) := ⟨(fun _ z => nomatch z), (fun _ z => nomatch z), fun _ _ _ z => nomatch z⟩
theorem Cst.ins {C dx : Addr} {fs : List (Str × V)} (h : fs.length ≠ 5) : Cst (.ins C dx fs) := ⟨(fun _ z => nomatch z), (fun _ z => nomatch z), fun _ _ _ z => by cases z; exact h⟩
def Kz (H H' : Hp) : Prop := ∀ c o, H c = some o → Cst o → H' c = some o
theorem Kz.refl {H : Hp} : Kz H H := fun _ _ e _ => e
theorem Kz.trans {H H1 H2 : Hp} (a : Kz H H1) (b : Kz H1 H2) : Kz H H2 := fun c o e n => b c o (a c o e n) n
theorem Kz.of {H H' : Hp} (s : Same H H') : Kz H H' := fun c o e _ => s c o e
theorem Kz.put {H : Hp} {q : Addr} {xs ys : List V} (h : H q = some (.lst xs)) : Kz H (upd H q (.lst ys)) := fun b o e n => by
  rw [upd_ne (fun z => by
    rw [z, h] at e
    exact n.1 xs (Option.some.inj e).symm)]
  exact e
theorem sqT_kz {K : PySem.W.Frag} {H H' : Hp} {p : Addr} {xs : List V} (h : SqT K H p xs) (k : Kz H H') : SqT K H' p xs := by
  rcases h with (h | ⟨o, h⟩) | h
  · exact .inl (.inl (k _ _ h .tup))
  · exact .inl (.inr ⟨o, k _ _ h .frz⟩)
  · exact .inr h
theorem TreeAt.kz {K : PySem.W.Frag} {CT CR : Addr} {H H' : Hp} {p : Addr} {n : Int} {ps : List Addr} {F : List Fact} (h : TreeAt K CT CR H p n ps F) (k : Kz H H') : TreeAt K CT CR H' p n ps F :=
  let ⟨dx, t, d, kvs, a, b, c, e⟩ := h
  ⟨dx, t, d, kvs, k _ _ a (.ins (show 3 ≠ 5 by decide)), sqT_kz b k, Paired.mapP c fun _ _ ⟨dy, z⟩ => ⟨dy, k _ _ z (.ins (show 3 ≠ 5 by decide))⟩, ⟨k _ _ e.dc .dT, e.has, fun x y v z => let ⟨q, l, a, b, c⟩ := e.val x y v z; ⟨q, l, a, sqT_kz b k, c⟩, e.len⟩⟩
theorem PlaceAt.kz {C : Addr} {H H' : Hp} {p : Addr} {r : Fact} (h : PlaceAt C H p r) (k : Kz H H') : PlaceAt C H' p r := let ⟨dx, e⟩ := h; ⟨dx, k _ _ e (.ins (show 3 ≠ 5 by decide))⟩
theorem MasAt.kz {CM CP : Addr} {H H' : Hp} {ps : List Addr} {l : List MFact} (h : MasAt CM CP H ps l) (k : Kz H H') : MasAt CM CP H' ps l := Paired.mapP h fun _ _ ⟨g, ⟨dx, e⟩, b⟩ => ⟨g, ⟨dx, k _ _ e (.ins (show 2 ≠ 5 by decide))⟩, b.kz k⟩
theorem RowAt.kz {K : PySem.W.Frag} {CW : Addr} {H H' : Hp} {p a : Addr} {ms : List Addr} (h : RowAt K CW H p a ms) (k : Kz H H') : RowAt K CW H' p a ms := let ⟨dx, t, e, u⟩ := h; ⟨dx, t, k _ _ e (.ins (show 2 ≠ 5 by decide)), sqT_kz u k⟩
theorem RowS.kz {K : PySem.W.Frag} {CT CR CM CP CW : Addr} {H H' : Hp} {p : Addr} {n : Int} {F : List Fact} {xs : List MG} (h : RowS K CT CR CM CP CW H p n F xs) (k : Kz H H') : RowS K CT CR CM CP CW H' p n F xs :=
  ⟨h.ok, h.len, h.G, let ⟨a, ps, ms, r, t, m⟩ := h.at_; ⟨a, ps, ms, r.kz k, t.kz k, m.kz k⟩⟩
structure BSt where
  rows : List (Str × List MG)
  folk : List Nd
  ans : List ((Str × Str) × Bool)
def rowOf (l : List (Str × List MG)) (z : Str) : Option (List MG) := (l.find? fun r => decide (r.1 = z)).map (·.2)
def putR (l : List (Str × List MG)) (z : Str) (xs : List MG) : List (Str × List MG) := if (l.any fun r => decide (r.1 = z)) = true then l.map fun r => if r.1 = z then (r.1, xs) else r else l ++ [(z, xs)]
def ansOf (l : List ((Str × Str) × Bool)) (p : Str × Str) : Option Bool := (l.find? fun a => decide (a.1 = p)).map (·.2)
def without (l : List ((Str × Str) × Bool)) (z : Str) : List ((Str × Str) × Bool) := l.filter fun a => decide (z ≠ a.1.1 ∧ z ≠ a.1.2)
def aK (p : Str × Str) : List Key := [.inr p.1, .inr p.2]
def ansK (l : List ((Str × Str) × Bool)) : List (List Key × V) := l.map fun a => (aK a.1, .bl a.2)
theorem aK_inj {p q : Str × Str} (h : aK p = aK q) : p = q := by
  unfold aK at h
  have h1 := (List.cons.inj h).1
  have h2 := (List.cons.inj (List.cons.inj h).2).1
  exact Prod.ext (Sum.inr.inj h1) (Sum.inr.inj h2)
/-- the kept rows: names and addresses of rows -/
def KvR (K : PySem.W.Frag) (CT CR CM CP CW : Addr) (n : Int) (F : List Fact) (H : Hp) (kvs : List (Key × V)) (l : List (Str × List MG)) : Prop :=
  Paired (fun (kv : Key × V) (r : Str × List MG) => kv.1 = .inr r.1 ∧ ∃ rw, kv.2 = .ref rw ∧ RowS K CT CR CM CP CW H rw n F r.2) kvs l
structure BOk (F : List Fact) (S : Int) (st : BSt) : Prop where
  nd : (st.rows.map (·.1)).Nodup
  na : (st.ans.map (·.1)).Nodup
  few : st.rows.length ≤ 100
  folk : st.folk.length ≤ 100
  many : st.ans.length ≤ 1000
  on : ∀ u ∈ st.folk, OnT F S u
structure BkSt (K : PySem.W.Frag) (CT CR CM CP CW : Addr) (n : Int) (F : List Fact) (S : Int) (av : List Addr) (H : Hp) (D L A : Addr) (st : BSt) : Prop where
  ok : BOk F S st
  kept : ∃ kvs, H D = some (.dK kvs) ∧ KvR K CT CR CM CP CW n F H kvs st.rows
  folk : ∃ ps : List Addr, H L = some (.lst (ps.map V.ref)) ∧ Paired (fun p u => PlaceAt CP H p (keyF F S u)) ps st.folk
  av : L ∉ av
  ans : H A = some (.dT (ansK st.ans))
theorem KvR.kz {K : PySem.W.Frag} {CT CR CM CP CW : Addr} {n : Int} {F : List Fact} {H H' : Hp} {kvs : List (Key × V)} {l : List (Str × List MG)} (h : KvR K CT CR CM CP CW n F H kvs l) (k : Kz H H') : KvR K CT CR CM CP CW n F H' kvs l :=
  Paired.mapP h fun _ _ ⟨e, rw', e2, r⟩ => ⟨e, rw', e2, r.kz k⟩
theorem BkSt.kz {K : PySem.W.Frag} {CT CR CM CP CW : Addr} {n : Int} {F : List Fact} {S : Int} {av : List Addr} {H H' : Hp} {D L A : Addr} {st : BSt} (h : BkSt K CT CR CM CP CW n F S av H D L A st) (k : Kz H H') (kl : ∀ xs, H L = some (.lst xs) → H' L = some (.lst xs)) : BkSt K CT CR CM CP CW n F S av H' D L A st :=
  ⟨h.ok, let ⟨kvs, e, r⟩ := h.kept; ⟨kvs, k _ _ e .dK, r.kz k⟩, let ⟨ps, e, r⟩ := h.folk; ⟨ps, kl _ e, Paired.mapP r fun _ _ p => p.kz k⟩, h.av, k _ _ h.ans .dT⟩
def bkF (x D L A P : Addr) : List (Str × V) := [("tree", .ref x), ("kept", .ref D), ("folk", .ref L), ("answers", .ref A), ("past", .ref P)]
/-- at b a book, P its past: its states before, the latest last -/
structure BookAt (K : PySem.W.Frag) (CT CR CM CP CW CBk : Addr) (n : Int) (F : List Fact) (S : Int) (av : List Addr) (H : Hp) (b P : Addr) (st : BSt) (hist : List BSt) : Prop where
  at_ : ∃ (dx x D L A : Addr) (ps ts : List Addr), H b = some (.ins CBk dx (bkF x D L A P)) ∧ TreeAt K CT CR H x n ps F ∧ BkSt K CT CR CM CP CW n F S av H D L A st ∧ H P = some (.lst (ts.map V.ref)) ∧
    Paired (fun t s' => ∃ D' L' A', H t = some (.tup [.ref D', .ref L', .ref A']) ∧ BkSt K CT CR CM CP CW n F S av H D' L' A' s') ts hist
  G : TreeG n F
  S1 : 1 ≤ S
  S2 : S ≤ 1000
  inP : P ∈ av
  short : hist.length ≤ 100000
/-- all stays but the book at b and its past at P -/
def KzB (b P : Addr) (H H' : Hp) : Prop := ∀ c o, H c = some o → c ≠ b → c ≠ P → H' c = some o
theorem KzB.trans {b P : Addr} {H H1 H2 : Hp} (a : KzB b P H H1) (k : KzB b P H1 H2) : KzB b P H H2 := fun c o e n m => k c o (a c o e n m) n m
theorem KzB.of {b P : Addr} {H H' : Hp} (s : Same H H') : KzB b P H H' := fun c o e _ _ => s c o e
theorem KzB.refl {b P : Addr} {H : Hp} : KzB b P H H := fun _ _ e _ _ => e
theorem KzB.kz {b P : Addr} {H H' : Hp} (k : KzB b P H H') {C dx : Addr} {fs : List (Str × V)} (eb : H b = some (.ins C dx fs)) (l : fs.length = 5) {xs : List V} (eP : H P = some (.lst xs)) : Kz H H' := fun c o e n => k c o e
  (fun z => by
    rw [z, eb] at e
    cases e
    exact n.2.2 _ _ _ rfl l) fun z => by
    rw [z, eP] at e
    exact n.1 xs (Option.some.inj e).symm
section
variable {K : PySem.W.Frag} {CT CR CM CP CW CBk : Addr} {n : Int} {F : List Fact} {S : Int} {av : List Addr} {H H' : Hp} {b P : Addr} {st : BSt} {hist : List BSt}
theorem BookAt.kz (h : BookAt K CT CR CM CP CW CBk n F S av H b P st hist) (k : KzB b P H H') : Kz H H' := by
  obtain ⟨dx, x, D, L, A, ps, ts, e, _, _, eP, _⟩ := h.at_
  exact k.kz e rfl eP
/-- another book's methods leave it as it is -/
theorem BookAt.keep (h : BookAt K CT CR CM CP CW CBk n F S av H b P st hist) {b' P' : Addr} (kz : Kz H H') (k : KzB b' P' H H') (nb : b ≠ b') (nP : P ≠ P') (nb' : P ≠ b') (nP' : b ≠ P') (inn : P' ∈ av) (ib : ∀ xs, H b' ≠ some (.lst xs)) : BookAt K CT CR CM CP CW CBk n F S av H' b P st hist := by
  obtain ⟨dx, x, D, L, A, ps, ts, e, te, s, eP, pr⟩ := h.at_
  have kl : ∀ (D L A : Addr) (s' : BSt), BkSt K CT CR CM CP CW n F S av H D L A s' → ∀ xs, H L = some (.lst xs) → H' L = some (.lst xs) := fun D L A s' hs xs eL => k L _ eL (fun z => ib xs (z ▸ eL)) fun z => hs.av (z ▸ inn)
  refine ⟨⟨dx, x, D, L, A, ps, ts, k _ _ e nb nP', te.kz kz, s.kz kz (kl _ _ _ _ s), k _ _ eP nb' nP, Paired.mapP pr fun _ _ ⟨D', L', A', e', s'⟩ => ⟨D', L', A', kz _ _ e' .tup, s'.kz kz (kl _ _ _ _ s')⟩⟩, h.G, h.S1, h.S2, h.inP, h.short⟩
theorem BookAt.same (h : BookAt K CT CR CM CP CW CBk n F S av H b P st hist) (s : Same H H') : BookAt K CT CR CM CP CW CBk n F S av H' b P st hist := by
  obtain ⟨dx, x, D, L, A, ps, ts, e, te, h1, eP, pr⟩ := h.at_
  exact ⟨⟨dx, x, D, L, A, ps, ts, s _ _ e, te.kz (.of s), h1.kz (.of s) fun _ z => s _ _ z, s _ _ eP, Paired.mapP pr fun _ _ ⟨D', L', A', e', s'⟩ => ⟨D', L', A', s _ _ e', s'.kz (.of s) fun _ z => s _ _ z⟩⟩, h.G, h.S1, h.S2, h.inP, h.short⟩
theorem kv_val {kvs : List (Key × V)} {l : List (Str × List MG)} (h : KvR K CT CR CM CP CW n F H kvs l) (z : Str) : (rowOf l z = none → valV kvs (.inr z) = none) ∧ ∀ xs, rowOf l z = some xs → ∃ rw, valV kvs (.inr z) = some (.ref rw) ∧ RowS K CT CR CM CP CW H rw n F xs := by
  induction h with
  | nil => exact ⟨fun _ => rfl, fun _ e => nomatch e⟩
  | @cons kv r kvs l h1 _ ih =>
    obtain ⟨e, rw', e2, R⟩ := h1
    unfold rowOf at ih ⊢
    by_cases c : r.1 = z
    · rw [List.find?_cons_of_pos (by simpa using c)]
      exact ⟨(fun q => nomatch q), fun xs q => by
        cases q
        exact ⟨rw', by rw [valV_pos (by rw [e, c]), e2], R⟩⟩
    · rw [List.find?_cons_of_neg (by simpa using c)]
      have nk : ¬ kv.1 = (Sum.inr z : Key) := fun q => c (by rw [e] at q; exact Sum.inr.inj q)
      rw [valV_neg nk]
      exact ih
theorem ans_val {l : List ((Str × Str) × Bool)} {p : Str × Str} : valV (ansK l) (aK p) = (ansOf l p).map V.bl := by
  induction l with
  | nil => rfl
  | cons a l ih =>
    unfold ansOf ansK at ih ⊢
    rw [List.map_cons]
    by_cases c : a.1 = p
    · rw [List.find?_cons_of_pos (by simpa using c), valV_pos (by rw [c])]
      rfl
    · rw [List.find?_cons_of_neg (by simpa using c), valV_neg (fun q => c (aK_inj q))]
      exact ih
end
end OT
set_option Elab.async false
set_option linter.all false
set_option maxRecDepth 100000
set_option maxHeartbeats 4000000
namespace OT
open PySem L2 OTR
def d2 (x : Nat × Int) : PyData := .tuple [.int (x.1 : Nat), .int x.2]
/-- the list of neighbours as far as it is found -/
structure NrAt (F : List Fact) (u : Nd) (D : Addr) (H G : Hp) (ys : List Addr) (ws : List Nd) : Prop where
  same : Same H G
  at_ : G D = some (.lst (ys.map V.ref))
  pr : Paired (fun t v => Adj F 1 u v ∧ PrAt G t (nqk F 1 v)) ys ws
theorem NrAt.keep {F : List Fact} {u : Nd} {D : Addr} {H G G' : Hp} {ys : List Addr} {ws : List Nd} (N : NrAt F u D H G ys ws) (s : Same G G') : NrAt F u D H G' ys ws :=
  ⟨N.same.trans s, s _ _ N.at_, Paired.mapP N.pr fun _ _ h => ⟨h.1, h.2.same s⟩⟩
theorem PrAt.put {G : Hp} {D t : Addr} {xs ys : List V} {x : Nat × Int} (h : PrAt G t x) (hD : G D = some (.lst xs)) : PrAt (upd G D (.lst ys)) t x := by
  unfold PrAt at h ⊢
  rw [upd_ne (ne_of h hD (fun z => nomatch z))]
  exact h
theorem NrAt.push {F : List Fact} {u v : Nd} {D t : Addr} {H G : Hp} {ys : List Addr} {ws : List Nd} (N : NrAt F u D H G ys ws) (hD : H D = none) (a : Adj F 1 u v) (p : PrAt G t (nqk F 1 v)) : NrAt F u D H (upd G D (.lst (ys.map V.ref ++ [.ref t]))) (ys ++ [t]) (ws ++ [v]) :=
  ⟨fun b o e => by rw [upd_ne (ne_of_none e hD)]; exact N.same b o e, by rw [List.map_append]; exact upd_same, paired_app (Paired.mapP N.pr fun _ _ h => ⟨h.1, h.2.put N.at_⟩) (.cons ⟨a, p.put N.at_⟩ .nil)⟩
/-- which neighbours have been found -/
def NbK (F : List Fact) (u : Nd) (k : Nat) (a : Int) (ws : List Nd) : Prop := ∀ b, On F 1 k b → (b = a + 1 ∨ b = a - 1) → node F 1 k a = u → node F 1 k b ∈ ws
theorem NbK.mono {F : List Fact} {u : Nd} {k : Nat} {a : Int} {ws ws' : List Nd} (h : NbK F u k a ws) (s : ∀ x ∈ ws, x ∈ ws') : NbK F u k a ws' := fun b o e z => s _ (h b o e z)
end OT
set_option Elab.async false
set_option linter.all false
set_option maxRecDepth 100000
set_option maxHeartbeats 4000000
namespace OT
open PySem L2 OTR
theorem nk_inj : ∀ {u v : Nd}, nk u = nk v → u = v
  | .cr a, .cr b, e => by rw [Sum.inl.inj e]
  | .cr a, .mid k i, e => nomatch e
  | .mid k i, .cr b, e => nomatch e
  | .mid k i, .mid l j, e => by
    have e1 := Sum.inr.inj e
    have e2 := (List.cons.inj e1).1
    have e3 := (List.cons.inj (List.cons.inj e1).2).1
    have e4 := Sum.inl.inj e2
    have e5 := Sum.inl.inj e3
    have e6 : k = l := by omega
    rw [e5, e6]
/-- what the net is so far: Dn tells which neighbours have been put -/
structure NetK (P : Program) (w : World) (H0 : Hp) (F : List Fact) (S : Int) (H : Hp) (d : Addr) (kvs : List (MKy × V)) (Dn : Nd → Nd → Prop) (c : Nat) : Prop where
  at_ : MixAt P w H d kvs
  len : kvs.length ≤ c
  sep : ∀ u l, valV kvs (nk u) = some (.ref l) → H0 l = none
  has : ∀ u v, Dn u v → ∃ l vs y, valV kvs (nk u) = some (.ref l) ∧ H l = some (.lst vs) ∧ y ∈ vs ∧ KeyM H (nk v) y
  ok : ∀ u x, valV kvs (nk u) = some x → ∃ l vs, x = .ref l ∧ H l = some (.lst vs) ∧ vs.length ≤ c ∧ ∀ y ∈ vs, ∃ v, Adj F S u v ∧ KeyM H (nk v) y
section
variable {P : Program} {w : World} {H0 : Hp} {F : List Fact} {S : Int} {H H' : Hp} {d : Addr} {kvs : List (MKy × V)} {Dn Dm : Nd → Nd → Prop} {c : Nat}
theorem NetK.same (N : NetK P w H0 F S H d kvs Dn c) (s : Same H H') : NetK P w H0 F S H' d kvs Dn c :=
  ⟨N.at_.keep (fun o e => s _ _ e) (fun b xs e => s _ _ e), N.len, N.sep, fun u v x => let ⟨l, vs, y, h1, h2, h3, h4⟩ := N.has u v x; ⟨l, vs, y, h1, s _ _ h2, h3, h4.keep fun b xs e => s _ _ e⟩,
    fun u x e => let ⟨l, vs, h1, h2, h3, h4⟩ := N.ok u x e; ⟨l, vs, h1, s _ _ h2, h3, fun y hy => let ⟨v, a, b⟩ := h4 y hy; ⟨v, a, b.keep fun b xs e => s _ _ e⟩⟩⟩
theorem NetK.weak (N : NetK P w H0 F S H d kvs Dn c) (h : ∀ u v, Dm u v → Dn u v) {c' : Nat} (hc : c ≤ c') : NetK P w H0 F S H d kvs Dm c' :=
  ⟨N.at_, Nat.le_trans N.len hc, N.sep, fun u v x => N.has u v (h u v x), fun u x e => let ⟨l, vs, h1, h2, h3, h4⟩ := N.ok u x e; ⟨l, vs, h1, h2, Nat.le_trans h3 hc, h4⟩⟩
/-- what get(u, []) gives -/
def Got (H : Hp) (kvs : List (MKy × V)) (u : Nd) (vs : List V) : Prop := (∀ x, valV kvs (nk u) = some x → ∃ l, x = .ref l ∧ H l = some (.lst vs)) ∧ (valV kvs (nk u) = none → vs = [])
theorem NetK.put (N : NetK P w H0 F S H d kvs Dn c) {u v : Nd} {vs : List V} {y : V} {l2 : Addr} {ob : HO} (g : Got H kvs u vs) (e2 : H l2 = some (.lst (vs ++ [y]))) (ky : KeyM H (nk v) y) (a : Adj F S u v) (fr : H0 l2 = none)
    (m : MixAt P w (upd H d ob) d (putK kvs (nk u) (.ref l2))) : NetK P w H0 F S (upd H d ob) d (putK kvs (nk u) (.ref l2)) (fun x z => Dn x z ∨ (x = u ∧ z = v)) (c + 1) := by
  obtain ⟨ent, ed, _⟩ := id N.at_
  have st : ∀ b o, H b = some o → o ≠ HO.ext (DictM P w d ent) → upd H d ob b = some o := fun b o e ne => by
    rw [upd_ne (ne_of e ed ne)]
    exact e
  have sl : ∀ {b : Addr} {xs : List V}, H b = some (.lst xs) → upd H d ob b = some (.lst xs) := fun e => st _ _ e fun z => nomatch z
  have sk : ∀ {k : MKy} {y : V}, KeyM H k y → KeyM (upd H d ob) k y := fun x => x.keep (upd_keep ed)
  have vl : vs.length ≤ c := by
    cases e : valV kvs (nk u) with
    | none => rw [g.2 e]; exact Nat.zero_le _
    | some x =>
      obtain ⟨l, rfl, h1⟩ := g.1 x e
      obtain ⟨l', vs', h2, h3, h4, _⟩ := N.ok u _ e
      cases h2
      rw [h1] at h3
      cases h3
      exact h4
  refine ⟨m, Nat.le_trans (length_putK _ _ _) (Nat.succ_le_succ N.len), fun x l h => ?_, fun x z h => ?_, fun x e he => ?_⟩
  · rw [valV_put] at h
    by_cases q : x = u
    · subst q
      rw [if_pos rfl] at h
      cases h
      exact fr
    · rw [if_neg fun z => q (nk_inj z)] at h
      exact N.sep x l h
  · by_cases q : x = u
    · subst q
      refine ⟨l2, vs ++ [y], ?_⟩
      rw [valV_put, if_pos rfl]
      rcases h with h | ⟨_, rfl⟩
      · obtain ⟨l, vs', y', h1, h2, h3, h4⟩ := N.has x z h
        obtain ⟨l', h5, h6⟩ := g.1 _ h1
        cases h5
        rw [h2] at h6
        cases h6
        exact ⟨y', rfl, sl e2, List.mem_append_left _ h3, sk h4⟩
      · exact ⟨y, rfl, sl e2, List.mem_append_right _ (List.mem_singleton.mpr rfl), sk ky⟩
    · rcases h with h | ⟨h, _⟩
      · obtain ⟨l, vs', y', h1, h2, h3, h4⟩ := N.has x z h
        refine ⟨l, vs', y', ?_, sl h2, h3, sk h4⟩
        rw [valV_put, if_neg fun z => q (nk_inj z)]
        exact h1
      · exact absurd h q
  · rw [valV_put] at he
    by_cases q : x = u
    · subst q
      rw [if_pos rfl] at he
      cases he
      refine ⟨l2, vs ++ [y], rfl, sl e2, by rw [List.length_append]; exact Nat.succ_le_succ vl, fun y' hy => ?_⟩
      rcases List.mem_append.mp hy with h | h
      · cases e : valV kvs (nk x) with
        | none => rw [g.2 e] at h; cases h
        | some x' =>
          obtain ⟨l, rfl, h1⟩ := g.1 x' e
          obtain ⟨l', vs', h2, h3, _, h4⟩ := N.ok x _ e
          cases h2
          rw [h1] at h3
          cases h3
          obtain ⟨v', h5, h6⟩ := h4 y' h
          exact ⟨v', h5, sk h6⟩
      · rw [List.mem_singleton.mp h]
        exact ⟨v, a, sk ky⟩
    · rw [if_neg fun z => q (nk_inj z)] at he
      obtain ⟨l, vs', h1, h2, h3, h4⟩ := N.ok x e he
      exact ⟨l, vs', h1, sl h2, Nat.le_succ_of_le h3, fun y' hy => let ⟨v', h5, h6⟩ := h4 y' hy; ⟨v', h5, sk h6⟩⟩
end
/-- all that is but for s, which was there ahead of the net -/
theorem NetK.but {P : Program} {w : World} {H0 : Hp} {F : List Fact} {S : Int} {H H' : Hp} {d s : Addr} {kvs : List (MKy × V)} {Dn : Nd → Nd → Prop} {c : Nat} (N : NetK P w H0 F S H d kvs Dn c) (h0 : H0 s ≠ none) (sr : Src H s) (b : But s H H') : NetK P w H0 F S H' d kvs Dn c := by
  obtain ⟨x, y, z, _, hs⟩ := sr
  have tp : ∀ b' xs, H b' = some (.tup xs) → H' b' = some (.tup xs) := fun b' xs e => b b' _ e (ne_of e hs fun z => nomatch z)
  have nl : ∀ {u : Nd} {l : Addr}, valV kvs (nk u) = some (.ref l) → l ≠ s := fun e z => h0 (z ▸ N.sep _ _ e)
  refine ⟨N.at_.keep (fun o e => ?_) tp, N.len, N.sep, fun u v x => ?_, fun u x e => ?_⟩
  · obtain ⟨ent, ed, _⟩ := N.at_
    exact b _ _ e (ne_of ed hs fun z => nomatch z)
  · obtain ⟨l, vs, y, h1, h2, h3, h4⟩ := N.has u v x
    exact ⟨l, vs, y, h1, b _ _ h2 (nl h1), h3, h4.keep tp⟩
  · obtain ⟨l, vs, rfl, h2, h3, h4⟩ := N.ok u x e
    exact ⟨l, vs, rfl, b _ _ h2 (nl e), h3, fun y hy => let ⟨v, a, c⟩ := h4 y hy; ⟨v, a, c.keep tp⟩⟩
end OT
set_option Elab.async false
set_option linter.all false
set_option maxRecDepth 100000
set_option maxHeartbeats 4000000
namespace OT
open PySem L2 OTR
theorem KeyM.inj {H : Hp} {k l : MKy} {y : V} (a : KeyM H k y) (b : KeyM H l y) : k = l := by
  cases k with
  | inl i =>
    obtain rfl := (show y = .int i from a)
    cases l with
    | inl j => rw [V.int.inj (show V.int i = V.int j from b)]
    | inr ls =>
      obtain ⟨c, e, _⟩ := b
      exact nomatch e
  | inr ks =>
    obtain ⟨c, rfl, h⟩ := a
    cases l with
    | inl j => exact nomatch (show V.ref c = V.int j from b)
    | inr ls =>
      obtain ⟨c', e, h'⟩ := b
      cases e
      rw [h] at h'
      rw [kVs_inj (HO.tup.inj (Option.some.inj h'))]
theorem mix_nodup {P : Program} {w : World} {H : Hp} {d : Addr} {kvs : List (MKy × V)} (m : MixAt P w H d kvs) : (kvs.map (·.1)).Nodup := by
  obtain ⟨ent, _, _, _, e, _, nd⟩ := m
  rw [← e, List.map_map]
  exact nd
theorem val_mem {kvs : List (MKy × V)} {k : MKy} : (valV kvs k).isSome = true ↔ k ∈ kvs.map (·.1) := by
  rw [← valV_any, List.any_eq_true]
  constructor
  · rintro ⟨x, hx, e⟩
    exact List.mem_map.mpr ⟨x, hx, of_decide_eq_true e⟩
  · intro h
    obtain ⟨x, hx, e⟩ := List.mem_map.mp h
    exact ⟨x, hx, decide_eq_true e⟩
/-- what has been found of the ways to the place p of the road g; W waits; the neighbours of what op tells need not be found yet -/
structure PathK (P : Program) (w : World) (F : List Fact) (S : Int) (g : Nat) (p : Int) (H : Hp) (f : Addr) (kvs : List (MKy × V)) (W : List V) (op : Nd → Prop) : Prop where
  at_ : MixAt P w H f kvs
  key : ∀ k ∈ kvs.map (·.1), ∃ u, k = nk u ∧ OnT F S u
  ok : ∀ u x, valV kvs (nk u) = some x → ∃ t z, x = .ref t ∧ H t = some (.tup [.int (hN F S g p u), z]) ∧ (hN F S g p u = 0 ∨ ∃ v, Adj F S u v ∧ hN F S g p v + 1 = hN F S g p u ∧ KeyM H (nk v) z ∧ (valV kvs (nk v)).isSome = true)
  wt : ∀ y ∈ W, ∃ u, KeyM H (nk u) y ∧ (valV kvs (nk u)).isSome = true
  cl : ∀ u, (valV kvs (nk u)).isSome = true → op u ∨ (∃ y ∈ W, KeyM H (nk u) y) ∨ ∀ v, Adj F S u v → (valV kvs (nk v)).isSome = true
  aim : (valV kvs (nk (node F S g p))).isSome = true
section
variable {P : Program} {w : World} {F : List Fact} {S : Int} {g : Nat} {p : Int} {H H' : Hp} {f : Addr} {kvs : List (MKy × V)} {W : List V} {op : Nd → Prop}
theorem PathK.len (N : PathK P w F S g p H f kvs W op) : kvs.length ≤ (nodesL F S).length := by
  have h := nodup_len (l := kvs.map (·.1)) (m := (nodesL F S).map nk) (mix_nodup N.at_) fun k hk => by
    obtain ⟨u, rfl, o⟩ := N.key k hk
    exact List.mem_map.mpr ⟨u, mem_nodes o, rfl⟩
  rw [List.length_map, List.length_map] at h
  exact h
theorem PathK.on (N : PathK P w F S g p H f kvs W op) {u : Nd} (h : (valV kvs (nk u)).isSome = true) : OnT F S u := by
  obtain ⟨v, e, o⟩ := N.key _ (val_mem.mp h)
  rw [nk_inj e]
  exact o
theorem PathK.keep (N : PathK P w F S g p H f kvs W op) (m : MixAt P w H' f kvs) (tp : ∀ b xs, H b = some (.tup xs) → H' b = some (.tup xs)) : PathK P w F S g p H' f kvs W op :=
  ⟨m, N.key, fun u x e => let ⟨t, z, h1, h2, h3⟩ := N.ok u x e; ⟨t, z, h1, tp _ _ h2, h3.elim .inl fun ⟨v, a, b, c, d⟩ => .inr ⟨v, a, b, c.keep tp, d⟩⟩,
    fun y hy => let ⟨u, a, b⟩ := N.wt y hy; ⟨u, a.keep tp, b⟩, fun u h => (N.cl u h).elim .inl fun h => .inr (h.elim (fun ⟨y, a, b⟩ => .inl ⟨y, a, b.keep tp⟩) .inr), N.aim⟩
theorem PathK.done {u : Nd} (N : PathK P w F S g p H f kvs W fun x => x = u) (h : ∀ v, Adj F S u v → (valV kvs (nk v)).isSome = true) : PathK P w F S g p H f kvs W fun _ => False :=
  ⟨N.at_, N.key, N.ok, N.wt, fun x hx => by
    rcases N.cl x hx with e | e
    · subst e
      exact .inr (.inr h)
    · exact .inr e, N.aim⟩
theorem PathK.add {n : Int} (T : TreeM n F) (hS : 1 ≤ S) (hg : On F S g p) (N : PathK P w F S g p H f kvs W op) {u v : Nd} {yu yv : V} {t : Addr} (fu : (valV kvs (nk u)).isSome = true) (a : Adj F S u v) (nv : valV kvs (nk v) = none) (tp : ∀ b xs, H b = some (.tup xs) → H' b = some (.tup xs))
    (et : H' t = some (.tup [.int (hN F S g p u + 1), yu])) (ku : KeyM H' (nk u) yu) (kv : KeyM H' (nk v) yv) (m : MixAt P w H' f (putK kvs (nk v) (.ref t))) : PathK P w F S g p H' f (putK kvs (nk v) (.ref t)) (W ++ [yv]) op ∧ (putK kvs (nk v) (.ref t)).length = kvs.length + 1 := by
  have oV := a.on.2
  have hv : hN F S g p v = hN F S g p u + 1 := by
    rcases adj_step T hS hg a with h | h
    · exact h
    · obtain ⟨x, hx⟩ := Option.isSome_iff_exists.mp fu
      obtain ⟨t, z, _, _, h3⟩ := N.ok u x hx
      rcases h3 with h3 | ⟨v', a', b', _, d'⟩
      · have := hN_nn T hS hg oV
        omega
      · have e := lower_uniq T hS hg a a' (by omega) b'
        subst e
        rw [nv] at d'
        cases d'
  have mono : ∀ {x : Nd}, (valV kvs (nk x)).isSome = true → (valV (putK kvs (nk v) (.ref t)) (nk x)).isSome = true := fun {x} h => by
    rw [valV_put]
    split
    · rfl
    · exact h
  have self : (valV (putK kvs (nk v) (.ref t)) (nk v)).isSome = true := by rw [valV_put, if_pos rfl]; rfl
  have ek : putK kvs (nk v) (.ref t) = kvs ++ [(nk v, .ref t)] := putK_new _ nv
  refine ⟨⟨m, fun k hk => ?_, fun x z hz => ?_, fun y hy => ?_, fun x hx => ?_, mono N.aim⟩, by rw [ek, List.length_append]; rfl⟩
  · rw [ek, List.map_append] at hk
    rcases List.mem_append.mp hk with h | h
    · exact N.key k h
    · exact ⟨v, List.mem_singleton.mp h, oV⟩
  · rw [valV_put] at hz
    by_cases e : x = v
    · subst e
      rw [if_pos rfl] at hz
      cases hz
      rw [hv]
      exact ⟨t, yu, rfl, et, .inr ⟨u, a.symm, rfl, ku, mono fu⟩⟩
    · rw [if_neg fun z => e (nk_inj z)] at hz
      obtain ⟨t', z', h1, h2, h3⟩ := N.ok x z hz
      exact ⟨t', z', h1, tp _ _ h2, h3.elim .inl fun ⟨v', a', b', c', d'⟩ => .inr ⟨v', a', b', c'.keep tp, mono d'⟩⟩
  · rcases List.mem_append.mp hy with h | h
    · obtain ⟨x, h1, h2⟩ := N.wt y h
      exact ⟨x, h1.keep tp, mono h2⟩
    · rw [List.mem_singleton.mp h]
      exact ⟨v, kv, self⟩
  · by_cases e : x = v
    · subst e
      exact .inr (.inl ⟨yv, List.mem_append_right _ (List.mem_singleton.mpr rfl), kv⟩)
    · have hx' : (valV kvs (nk x)).isSome = true := by
        rw [valV_put, if_neg fun z => e (nk_inj z)] at hx
        exact hx
      rcases N.cl x hx' with h | ⟨y, h1, h2⟩ | h
      · exact .inl h
      · exact .inr (.inl ⟨y, List.mem_append_left _ h1, h2.keep tp⟩)
      · exact .inr (.inr fun z az => mono (h z az))
end
/-- the ways to a place: each node's distance, and the next node -/
structure WaysAt (P : Program) (w : World) (F : List Fact) (S : Int) (g : Nat) (p : Int) (H : Hp) (f : Addr) (kvs : List (MKy × V)) : Prop where
  at_ : MixAt P w H f kvs
  ok : ∀ u, OnT F S u → ∃ t z, valV kvs (nk u) = some (.ref t) ∧ H t = some (.tup [.int (hN F S g p u), z]) ∧ (hN F S g p u = 0 ∨ ∃ v, Adj F S u v ∧ hN F S g p v + 1 = hN F S g p u ∧ KeyM H (nk v) z)
theorem WaysAt.same {P : Program} {w : World} {F : List Fact} {S : Int} {g : Nat} {p : Int} {H H' : Hp} {f : Addr} {kvs : List (MKy × V)} (N : WaysAt P w F S g p H f kvs) (s : Same H H') : WaysAt P w F S g p H' f kvs :=
  ⟨N.at_.keep (fun o e => s _ _ e) (fun b xs e => s _ _ e), fun u o => let ⟨t, z, a, b, c⟩ := N.ok u o; ⟨t, z, a, s _ _ b, c.elim .inl fun ⟨v, h1, h2, h3⟩ => .inr ⟨v, h1, h2, h3.keep fun b xs e => s _ _ e⟩⟩⟩
end OT
set_option Elab.async false
set_option linter.all false
set_option maxRecDepth 100000
set_option maxHeartbeats 4000000
namespace OT
open PySem L2 OTR
/-- a position as a dict's key -/
def nq (F : List Fact) (S : Int) (u : Nd) : MKy := .inr [.inl (((nqk F S u).1 : Nat) : Int), .inl (nqk F S u).2]
theorem nq_inj {n : Int} {F : List Fact} {S : Int} (T : TreeM n F) (n2 : 2 ≤ n) (hS : 1 ≤ S) {u v : Nd} (ou : OnT F S u) (ov : OnT F S v) (e : nq F S u = nq F S v) : u = v := by
  refine nqk_inj T n2 hS ou ov ?_
  unfold nq at e
  have e1 := List.cons.inj (Sum.inr.inj e)
  have e2 := List.cons.inj e1.2
  have h1 := Sum.inl.inj e1.1
  have h2 := Sum.inl.inj e2.1
  exact Prod.ext (by omega) h2
/-- what has been found of the ways to the place p of the road g -/
structure PathN (P : Program) (w : World) (F : List Fact) (S : Int) (g : Nat) (p : Int) (H : Hp) (f : Addr) (kvs : List (MKy × V)) (W : List V) (op : Nd → Prop) : Prop where
  at_ : MixAt P w H f kvs
  key : ∀ k ∈ kvs.map (·.1), ∃ u, k = nq F S u ∧ OnT F S u
  ok : ∀ u x, OnT F S u → valV kvs (nq F S u) = some x → ∃ t z, x = .ref t ∧ H t = some (.tup [.int (hN F S g p u), z]) ∧ (hN F S g p u = 0 ∨ ∃ v, Adj F S u v ∧ hN F S g p v + 1 = hN F S g p u ∧ KeyM H (nq F S v) z ∧ (valV kvs (nq F S v)).isSome = true)
  wt : ∀ y ∈ W, ∃ u, OnT F S u ∧ KeyM H (nq F S u) y ∧ (valV kvs (nq F S u)).isSome = true
  cl : ∀ u, OnT F S u → (valV kvs (nq F S u)).isSome = true → op u ∨ (∃ y ∈ W, KeyM H (nq F S u) y) ∨ ∀ v, Adj F S u v → (valV kvs (nq F S v)).isSome = true
  aim : (valV kvs (nq F S (node F S g p))).isSome = true
section
variable {P : Program} {w : World} {F : List Fact} {S : Int} {g : Nat} {p : Int} {H H' : Hp} {f : Addr} {kvs : List (MKy × V)} {W : List V} {op : Nd → Prop}
theorem PathN.len (N : PathN P w F S g p H f kvs W op) : kvs.length ≤ (nodesL F S).length := by
  have h := nodup_len (l := kvs.map (·.1)) (m := (nodesL F S).map (nq F S)) (mix_nodup N.at_) fun k hk => by
    obtain ⟨u, rfl, o⟩ := N.key k hk
    exact List.mem_map.mpr ⟨u, mem_nodes o, rfl⟩
  rw [List.length_map, List.length_map] at h
  exact h
theorem PathN.keep (N : PathN P w F S g p H f kvs W op) (m : MixAt P w H' f kvs) (tp : ∀ b xs, H b = some (.tup xs) → H' b = some (.tup xs)) : PathN P w F S g p H' f kvs W op :=
  ⟨m, N.key, fun u x o e => let ⟨t, z, h1, h2, h3⟩ := N.ok u x o e; ⟨t, z, h1, tp _ _ h2, h3.elim .inl fun ⟨v, a, b, c, d⟩ => .inr ⟨v, a, b, c.keep tp, d⟩⟩,
    fun y hy => let ⟨u, o, a, b⟩ := N.wt y hy; ⟨u, o, a.keep tp, b⟩, fun u o h => (N.cl u o h).elim .inl fun h => .inr (h.elim (fun ⟨y, a, b⟩ => .inl ⟨y, a, b.keep tp⟩) .inr), N.aim⟩
theorem PathN.done {u : Nd} (N : PathN P w F S g p H f kvs W fun x => x = u) (h : ∀ v, Adj F S u v → (valV kvs (nq F S v)).isSome = true) : PathN P w F S g p H f kvs W fun _ => False :=
  ⟨N.at_, N.key, N.ok, N.wt, fun x o hx => by
    rcases N.cl x o hx with e | e
    · subst e
      exact .inr (.inr h)
    · exact .inr e, N.aim⟩
theorem PathN.add {n : Int} (T : TreeM n F) (n2 : 2 ≤ n) (hS : 1 ≤ S) (hg : On F S g p) (N : PathN P w F S g p H f kvs W op) {u v : Nd} {yu yv : V} {t : Addr} (fu : (valV kvs (nq F S u)).isSome = true) (a : Adj F S u v) (nv : valV kvs (nq F S v) = none) (tp : ∀ b xs, H b = some (.tup xs) → H' b = some (.tup xs))
    (et : H' t = some (.tup [.int (hN F S g p u + 1), yu])) (ku : KeyM H' (nq F S u) yu) (kv : KeyM H' (nq F S v) yv) (m : MixAt P w H' f (putK kvs (nq F S v) (.ref t))) : PathN P w F S g p H' f (putK kvs (nq F S v) (.ref t)) (W ++ [yv]) op ∧ (putK kvs (nq F S v) (.ref t)).length = kvs.length + 1 := by
  have oU := a.on.1
  have oV := a.on.2
  have hv : hN F S g p v = hN F S g p u + 1 := by
    rcases adj_step T hS hg a with h | h
    · exact h
    · obtain ⟨x, hx⟩ := Option.isSome_iff_exists.mp fu
      obtain ⟨t, z, _, _, h3⟩ := N.ok u x oU hx
      rcases h3 with h3 | ⟨v', a', b', _, d'⟩
      · have := hN_nn T hS hg oV
        omega
      · have e := lower_uniq T hS hg a a' (by omega) b'
        subst e
        rw [nv] at d'
        cases d'
  have mono : ∀ {x : Nd}, (valV kvs (nq F S x)).isSome = true → (valV (putK kvs (nq F S v) (.ref t)) (nq F S x)).isSome = true := fun {x} h => by
    rw [valV_put]
    split
    · rfl
    · exact h
  have self : (valV (putK kvs (nq F S v) (.ref t)) (nq F S v)).isSome = true := by rw [valV_put, if_pos rfl]; rfl
  have ek : putK kvs (nq F S v) (.ref t) = kvs ++ [(nq F S v, .ref t)] := putK_new _ nv
  refine ⟨⟨m, fun k hk => ?_, fun x z o hz => ?_, fun y hy => ?_, fun x o hx => ?_, mono N.aim⟩, by rw [ek, List.length_append]; rfl⟩
  · rw [ek, List.map_append] at hk
    rcases List.mem_append.mp hk with h | h
    · exact N.key k h
    · exact ⟨v, List.mem_singleton.mp h, oV⟩
  · rw [valV_put] at hz
    by_cases e : x = v
    · subst e
      rw [if_pos rfl] at hz
      cases hz
      rw [hv]
      exact ⟨t, yu, rfl, et, .inr ⟨u, a.symm, rfl, ku, mono fu⟩⟩
    · rw [if_neg fun z => e (nq_inj T n2 hS o oV z)] at hz
      obtain ⟨t', z', h1, h2, h3⟩ := N.ok x z o hz
      exact ⟨t', z', h1, tp _ _ h2, h3.elim .inl fun ⟨v', a', b', c', d'⟩ => .inr ⟨v', a', b', c'.keep tp, mono d'⟩⟩
  · rcases List.mem_append.mp hy with h | h
    · obtain ⟨x, o, h1, h2⟩ := N.wt y h
      exact ⟨x, o, h1.keep tp, mono h2⟩
    · rw [List.mem_singleton.mp h]
      exact ⟨v, oV, kv, self⟩
  · by_cases e : x = v
    · subst e
      exact .inr (.inl ⟨yv, List.mem_append_right _ (List.mem_singleton.mpr rfl), kv⟩)
    · have hx' : (valV kvs (nq F S x)).isSome = true := by
        rw [valV_put, if_neg fun z => e (nq_inj T n2 hS o oV z)] at hx
        exact hx
      rcases N.cl x o hx' with h | ⟨y, h1, h2⟩ | h
      · exact .inl h
      · exact .inr (.inl ⟨y, List.mem_append_left _ h1, h2.keep tp⟩)
      · exact .inr (.inr fun z az => mono (h z az))
end
/-- the ways to a place: each position's distance, and the next position -/
structure WayN (P : Program) (w : World) (F : List Fact) (S : Int) (g : Nat) (p : Int) (H : Hp) (f : Addr) (kvs : List (MKy × V)) : Prop where
  at_ : MixAt P w H f kvs
  ok : ∀ u, OnT F S u → ∃ t z, valV kvs (nq F S u) = some (.ref t) ∧ H t = some (.tup [.int (hN F S g p u), z]) ∧ (hN F S g p u = 0 ∨ ∃ v, Adj F S u v ∧ hN F S g p v + 1 = hN F S g p u ∧ KeyM H (nq F S v) z)
theorem WayN.same {P : Program} {w : World} {F : List Fact} {S : Int} {g : Nat} {p : Int} {H H' : Hp} {f : Addr} {kvs : List (MKy × V)} (N : WayN P w F S g p H f kvs) (s : Same H H') : WayN P w F S g p H' f kvs :=
  ⟨N.at_.keep (fun o e => s _ _ e) (fun b xs e => s _ _ e), fun u o => let ⟨t, z, a, b, c⟩ := N.ok u o; ⟨t, z, a, s _ _ b, c.elim .inl fun ⟨v, h1, h2, h3⟩ => .inr ⟨v, h1, h2, h3.keep fun b xs e => s _ _ e⟩⟩⟩
end OT
set_option Elab.async false
set_option linter.all false
set_option maxRecDepth 100000
set_option maxHeartbeats 4000000
namespace OT
open PySem L2 OTR
/-- the list of all positions' names as far as it is found: those before the number j of the road i -/
structure PsAt (F : List Fact) (D : Addr) (H G : Hp) (ys : List Addr) (us : List Nd) (i : Nat) (j : Int) : Prop where
  same : Same H G
  at_ : G D = some (.lst (ys.map V.ref))
  pr : Paired (fun t u => OnT F 1 u ∧ PrAt G t (nqk F 1 u)) ys us
  nd : us.Nodup
  lt : ∀ u ∈ us, (nqk F 1 u).1 < i ∨ ((nqk F 1 u).1 = i ∧ (nqk F 1 u).2 < j)
  all : ∀ k a, On F 1 k a → (k < i ∨ (k = i ∧ a < j)) → nqk F 1 (node F 1 k a) = (k, a) → node F 1 k a ∈ us
theorem paired_mem {α β : Type} {R : α → β → Prop} : ∀ {as : List α} {bs : List β}, Paired R as bs → ∀ b ∈ bs, ∃ a, R a b
  | _, _, .nil, b, h => by cases h
  | _, _, .cons x r, b, h => by
    rcases List.mem_cons.mp h with rfl | h
    · exact ⟨_, x⟩
    · exact paired_mem r b h
theorem PsAt.len {F : List Fact} {D : Addr} {H G : Hp} {ys : List Addr} {us : List Nd} {i : Nat} {j : Int} (N : PsAt F D H G ys us i j) : ys.length ≤ (nodesL F 1).length := by
  rw [Paired.length N.pr]
  exact nodup_len N.nd fun u hu => let ⟨_, o, _⟩ := paired_mem N.pr u hu; mem_nodes o
theorem PsAt.keep {F : List Fact} {D : Addr} {H G G' : Hp} {ys : List Addr} {us : List Nd} {i : Nat} {j : Int} (N : PsAt F D H G ys us i j) (s : Same G G') : PsAt F D H G' ys us i j :=
  ⟨N.same.trans s, s _ _ N.at_, Paired.mapP N.pr fun _ _ h => ⟨h.1, h.2.same s⟩, N.nd, N.lt, N.all⟩
theorem PsAt.push {F : List Fact} {D t : Addr} {H G : Hp} {ys : List Addr} {us : List Nd} {i : Nat} {j : Int} (N : PsAt F D H G ys us i j) (hD : H D = none) (o : On F 1 i j) (e : nqk F 1 (node F 1 i j) = (i, j)) (p : PrAt G t (i, j)) : PsAt F D H (upd G D (.lst (ys.map V.ref ++ [.ref t]))) (ys ++ [t]) (us ++ [node F 1 i j]) i (j + 1) := by
  refine ⟨fun b o e => by rw [upd_ne (ne_of_none e hD)]; exact N.same b o e, by rw [List.map_append]; exact upd_same, paired_app (Paired.mapP N.pr fun _ _ h => ⟨h.1, h.2.put N.at_⟩) (.cons ⟨⟨i, j, o, rfl⟩, by rw [e]; exact p.put N.at_⟩ .nil), ?_, fun u hu => ?_, fun k a oa h ea => ?_⟩
  · rw [List.nodup_append]
    refine ⟨N.nd, by simp, fun a ha b hb z => ?_⟩
    rw [List.mem_singleton.mp hb] at z
    subst z
    have := N.lt _ ha
    rw [e] at this
    rcases this with h | h
    · exact absurd h (Nat.lt_irrefl _)
    · exact absurd h.2 (Int.lt_irrefl _)
  · rcases List.mem_append.mp hu with h | h
    · exact (N.lt u h).elim .inl fun h => .inr ⟨h.1, by omega⟩
    · rw [List.mem_singleton.mp h, e]
      exact .inr ⟨rfl, by show j < j + 1; omega⟩
  · by_cases z : k = i ∧ a = j
    · obtain ⟨rfl, rfl⟩ := z
      exact List.mem_append_right _ (List.mem_singleton.mpr rfl)
    · exact List.mem_append_left _ (N.all k a oa (by omega) ea)
theorem PsAt.next {F : List Fact} {D : Addr} {H G : Hp} {ys : List Addr} {us : List Nd} {i : Nat} {j : Int} (N : PsAt F D H G ys us i j) (hj : sz F 1 i < j) : PsAt F D H G ys us (i + 1) 0 :=
  ⟨N.same, N.at_, N.pr, N.nd, fun u hu => (N.lt u hu).elim (fun h => .inl (by omega)) fun h => .inl (by omega), fun k a o h e => N.all k a o (by
    rcases h with h | h
    · by_cases z : k = i
      · subst z
        have := o.2.2
        exact .inr ⟨rfl, by omega⟩
      · exact .inl (by omega)
    · have := o.2.1
      omega) e⟩
end OT
set_option Elab.async false
set_option linter.all false
set_option maxRecDepth 100000
set_option maxHeartbeats 4000000
namespace OT
open PySem L2 OTR
theorem PrAt.kp {H H' : Hp} {t : Addr} {x : Nat × Int} (h : PrAt H t x) (k : Kp H H') : PrAt H' t x := k _ _ h fun _ z => nomatch z
/-- at t the law's own march: the pair of a place's name and the steps -/
def MrN (H : Hp) (t : Addr) (x : MG) : Prop := ∃ b, H t = some (.tup [.ref b, .int x.2.2]) ∧ PrAt H b (x.1, x.2.1)
theorem MrN.kp {H H' : Hp} {t : Addr} {x : MG} (h : MrN H t x) (k : Kp H H') : MrN H' t x := let ⟨b, e, p⟩ := h; ⟨b, k _ _ e (fun _ z => nomatch z), p.kp k⟩
theorem MrN.same {H H' : Hp} {t : Addr} {x : MG} (h : MrN H t x) (k : Same H H') : MrN H' t x := h.kp (.of k)
def MsN (H : Hp) (l : Addr) (gs : List MG) : Prop := ∃ ts : List Addr, H l = some (.lst (ts.map V.ref)) ∧ Paired (MrN H) ts gs
theorem MsN.same {H H' : Hp} {l : Addr} {gs : List MG} (h : MsN H l gs) (k : Same H H') : MsN H' l gs := let ⟨ts, e, p⟩ := h; ⟨ts, k _ _ e, Paired.mapP p fun _ _ a => a.same k⟩
theorem refs_ints {ts : List Addr} (a b c : Int) : HO.lst (ts.map V.ref) ≠ .lst [.int a, .int b, .int c] := fun e => by
  have e1 := HO.lst.inj e
  cases ts with
  | nil => exact nomatch e1
  | cons t r =>
    rw [List.map_cons] at e1
    exact nomatch (List.cons.inj e1).1
theorem MsN.but {H H' : Hp} {s l : Addr} {gs : List MG} (h : MsN H l gs) (src : Src H s) (b : But s H H') : MsN H' l gs := by
  obtain ⟨ts, e, p⟩ := h
  exact ⟨ts, b _ _ e (src.ne e fun x y z => refs_ints x y z), Paired.mapP p fun _ _ a => a.kp (.src src b)⟩
end OT
set_option Elab.async false
set_option linter.all false
set_option maxRecDepth 100000
set_option maxHeartbeats 4000000
set_option Elab.async false
set_option linter.all false
set_option maxRecDepth 100000
set_option maxHeartbeats 4000000
namespace OT
open PySem L2 OTR
/-- the pairs of a list: a key's tuple and a value -/
def PairL (H : Hp) (t : Addr) (x : List Key × Addr × V) : Prop := H t = some (.tup [.ref x.2.1, x.2.2]) ∧ H x.2.1 = some (.tup (x.1.map kV))
end OT
set_option Elab.async false
set_option linter.all false
set_option maxRecDepth 100000
set_option maxHeartbeats 4000000
namespace OT
open PySem L2 OTR
def nqL (F : List Fact) (u : Nd) : List Key := [.inl (((nqk F 1 u).1 : Nat) : Int), .inl (nqk F 1 u).2]
theorem nqL_inj {n : Int} {F : List Fact} (T : TreeM n F) (n2 : 2 ≤ n) {u v : Nd} (ou : OnT F 1 u) (ov : OnT F 1 v) (e : nqL F u = nqL F v) : u = v :=
  nq_inj T n2 (by decide) ou ov (congrArg Sum.inr e)
theorem putK_keys {κ : Type} [DecidableEq κ] {kvs : List (κ × V)} {k : κ} {v : V} (h : (valV kvs k).isSome = true) : (putK kvs k v).map (·.1) = kvs.map (·.1) := by
  unfold putK
  rw [valV_any, if_pos h, List.map_map]
  refine List.map_congr_left fun x _ => ?_
  show (if x.1 = k then (x.1, v) else x).1 = x.1
  split <;> rfl
/-- what stands in the table behind the marches gs, where D tells which entries are already those behind the next march x -/
structure TabN (F : List Fact) (us : List Nd) (G : Hp) (f : Addr) (kvs : List (List Key × V)) (im : Nd → Nd → Prop) : Prop where
  at_ : G f = some (.dT kvs)
  keys : kvs.map (·.1) = us.map (nqL F)
  ok : ∀ u, OnT F 1 u → ∃ t v, valV kvs (nqL F u) = some (.ref t) ∧ im u v ∧ OnT F 1 v ∧ PrAt G t (nqk F 1 v)
theorem TabN.keep {F : List Fact} {us : List Nd} {G G' : Hp} {f : Addr} {kvs : List (List Key × V)} {im : Nd → Nd → Prop} (N : TabN F us G f kvs im) (s : Same G G') : TabN F us G' f kvs im :=
  ⟨s _ _ N.at_, N.keys, fun u o => let ⟨t, v, a, b, c, d⟩ := N.ok u o; ⟨t, v, a, b, c, d.same s⟩⟩
theorem TabN.imp {F : List Fact} {us : List Nd} {G : Hp} {f : Addr} {kvs : List (List Key × V)} {im im' : Nd → Nd → Prop} (N : TabN F us G f kvs im) (h : ∀ u v, OnT F 1 u → im u v → im' u v) : TabN F us G f kvs im' :=
  ⟨N.at_, N.keys, fun u o => let ⟨t, v, a, b, c, d⟩ := N.ok u o; ⟨t, v, a, h u v o b, c, d⟩⟩
theorem TabN.put {n : Int} {F : List Fact} {us : List Nd} {G : Hp} {f : Addr} {kvs : List (List Key × V)} {im im' : Nd → Nd → Prop} {u0 v0 : Nd} {t0 : Addr} (T : TreeM n F) (n2 : 2 ≤ n) (N : TabN F us G f kvs im) (o0 : OnT F 1 u0) (ov : OnT F 1 v0) (p0 : PrAt G t0 (nqk F 1 v0)) (h0 : im' u0 v0)
    (h : ∀ u v, OnT F 1 u → u ≠ u0 → im u v → im' u v) : TabN F us (upd G f (.dT (putK kvs (nqL F u0) (.ref t0)))) f (putK kvs (nqL F u0) (.ref t0)) im' := by
  have keep : ∀ {t : Addr} {x : Nat × Int}, PrAt G t x → PrAt (upd G f (.dT (putK kvs (nqL F u0) (.ref t0)))) t x := fun {t x} p => by
    unfold PrAt at p ⊢
    rw [upd_ne (ne_of p N.at_ fun z => nomatch z)]
    exact p
  refine ⟨upd_same, ?_, fun u o => ?_⟩
  · obtain ⟨t, v, a, _⟩ := N.ok u0 o0
    rw [putK_keys (by rw [a]; rfl)]
    exact N.keys
  · by_cases e : u = u0
    · subst e
      exact ⟨t0, v0, by rw [valV_put, if_pos rfl], h0, ov, keep p0⟩
    · obtain ⟨t, v, a, b, c, d⟩ := N.ok u o
      exact ⟨t, v, by rw [valV_put, if_neg fun z => e (nqL_inj T n2 o o0 z)]; exact a, h u v o e b, c, keep d⟩
theorem WayN.put {P : Program} {w : World} {F : List Fact} {S : Int} {g : Nat} {p : Int} {H : Hp} {f d : Addr} {kvs : List (MKy × V)} {kd kd' : List (List Key × V)} (N : WayN P w F S g p H f kvs) (e : H d = some (.dT kd)) : WayN P w F S g p (upd H d (.dT kd')) f kvs := by
  have tp : ∀ b xs, H b = some (.tup xs) → upd H d (.dT kd') b = some (.tup xs) := fun b xs h => by
    rw [upd_ne (ne_of h e fun z => nomatch z)]
    exact h
  obtain ⟨ent, ef, _⟩ := id N.at_
  exact ⟨N.at_.keep (fun o h => by rw [upd_ne (ne_of ef e fun z => nomatch z)]; exact h) tp, fun u o => let ⟨t, z, a, b, c⟩ := N.ok u o; ⟨t, z, a, tp _ _ b, c.elim .inl fun ⟨v, h1, h2, h3⟩ => .inr ⟨v, h1, h2, h3.keep tp⟩⟩⟩
end OT
set_option Elab.async false
set_option linter.all false
set_option maxRecDepth 100000
set_option maxHeartbeats 4000000
namespace OT
open PySem L2 OTR
theorem PairL.kp {H H' : Hp} {t : Addr} {x : List Key × Addr × V} (h : PairL H t x) (k : Kp H H') : PairL H' t x := ⟨k _ _ h.1 (fun _ z => nomatch z), k _ _ h.2 (fun _ z => nomatch z)⟩
end OT
set_option linter.all false
set_option maxRecDepth 100000
set_option maxHeartbeats 1000000
namespace OT
theorem mnI {h m : Int} (hm : m ≤ h) : (if h < m then h else m) = m := by
  rw [if_neg (by omega)]
section
variable {n : Int} {F : List Fact} {S : Int} {g : Nat} {p : Int} (T : TreeM n F) (hS : 1 ≤ S) (hg : On F S g p)
include T hS hg
/-- a way is gone on from any of its places -/
theorem pth_on {k k' : Nat} {i i' : Int} (h : On F S k i) (h' : On F S k' i') {d : Int} (d0 : 0 ≤ d) (dh : d ≤ hP F S g p k i) (e : pth F S g p k i d = node F S k' i') :
    hP F S g p k' i' = hP F S g p k i - d ∧ ∀ t : Nat, d + (t : Int) ≤ hP F S g p k i → pth F S g p k i (d + (t : Nat)) = pth F S g p k' i' (t : Nat) := by
  obtain ⟨o0, z0, _⟩ := pth_ok T hS hg h d0 dh
  have eh : hP F S g p k' i' = hP F S g p k i - d := by rw [← hN_node T hS hg h', ← e, z0]
  refine ⟨eh, fun t => ?_⟩
  induction t with
  | zero =>
    intro _
    show pth F S g p k i (d + 0) = pth F S g p k' i' 0
    rw [Int.add_zero, e, pth_0 T hS hg h']
  | succ t ih =>
    intro ht
    have ht' : d + (t : Int) + 1 ≤ hP F S g p k i := by omega
    have ih := ih (by omega)
    obtain ⟨o, z, a⟩ := pth_ok T hS hg h (t := d + (t : Nat)) (by omega) (by omega)
    obtain ⟨o', z', a'⟩ := pth_ok T hS hg h' (t := (t : Nat)) (Int.natCast_nonneg t) (by omega)
    have a := a ht'
    have a' := a' (by omega)
    rw [← ih] at a'
    obtain ⟨_, zz, _⟩ := pth_ok T hS hg h (t := d + (t : Int) + 1) (by omega) ht'
    obtain ⟨_, zz', _⟩ := pth_ok T hS hg h' (t := (t : Int) + 1) (by omega) (by omega)
    have r := lower_uniq T hS hg a a' (by omega) (by omega)
    have e1 : d + ((t + 1 : Nat) : Int) = d + (t : Int) + 1 := by omega
    rw [e1, Int.natCast_succ]
    exact r
/-- two marches to one goal are one march -/
theorem Go.add {m1 m2 : Int} (m0 : 0 ≤ m1) (m20 : 0 ≤ m2) {u v w : Nd} (a : Go F S g p m1 u v) (b : Go F S g p m2 v w) : Go F S g p (m1 + m2) u w := by
  obtain ⟨k, i, o, rfl, rfl⟩ := a
  obtain ⟨k', i', o', e, rfl⟩ := b
  have h0 : 0 ≤ hP F S g p k i := total_nn _
  obtain ⟨b1, b2⟩ := arB h0 m0
  obtain ⟨eh, go⟩ := pth_on T hS hg o o' b1 b2 e
  have h0' : 0 ≤ hP F S g p k' i' := total_nn _
  obtain ⟨c1, c2⟩ := arB h0' m20
  refine ⟨k, i, o, rfl, ?_⟩
  have q := go (if hP F S g p k' i' < m2 then hP F S g p k' i' else m2).toNat (by rw [Int.toNat_of_nonneg c1]; omega)
  rw [Int.toNat_of_nonneg c1] at q
  rw [← q]
  congr 1
  clear q go
  generalize hP F S g p k' i' = y at *
  generalize hP F S g p k i = x at *
  split at * <;> split at * <;> split at * <;> omega
theorem Go.zero {u : Nd} (h : OnT F S u) : Go F S g p 0 u u := by
  obtain ⟨k, i, o, rfl⟩ := h
  refine ⟨k, i, o, rfl, ?_⟩
  have h0 : 0 ≤ hP F S g p k i := total_nn _
  rw [mnI h0, pth_0 T hS hg o]
/-- a march that is long enough leads to the goal -/
theorem Go.all {m : Int} {u v : Nd} (a : Go F S g p m u v) (hm : ∀ k i, On F S k i → hP F S g p k i ≤ m) : v = node F S g p := by
  obtain ⟨k, i, o, rfl, rfl⟩ := a
  have h0 : 0 ≤ hP F S g p k i := total_nn _
  have h1 := hm k i o
  have e : (if hP F S g p k i < m then hP F S g p k i else m) = hP F S g p k i := by split <;> omega
  rw [e]
  obtain ⟨o1, z1, _⟩ := pth_ok T hS hg o h0 (Int.le_refl _)
  exact zero_aim T hS hg o1 (by rw [z1]; omega)
variable {g' : Nat} {p' : Int} (hg' : On F S g' p') (eg : node F S g p = node F S g' p')
include hg' eg
/-- a goal may be given by any road of its crossing -/
theorem hP_goal {k : Nat} {i : Int} (h : On F S k i) : hP F S g p k i = hP F S g' p' k i := by
  rw [hP_sym T hS h hg, hP_sym T hS h hg', ← hN_node T hS h hg, ← hN_node T hS h hg', eg]
theorem hN_goal {u : Nd} (h : OnT F S u) : hN F S g p u = hN F S g' p' u := by
  obtain ⟨k, i, o, rfl⟩ := h
  rw [hN_node T hS hg o, hN_node T hS hg' o, hP_goal T hS hg hg' eg o]
end
theorem GoR.add {F : List Fact} {S : Int} {l : List MG} {a : Nat} {u v : Nd} (h : GoR F S l a u v) : ∀ {b : Nat} {w : Nd}, GoR F S l b v w → GoR F S l (a + b) u w
  | 0, _, k => by
    cases (show _ = _ from k)
    exact h
  | b + 1, w, ⟨z, k1, k2⟩ => ⟨z, GoR.add h k1, k2⟩
theorem GoR.one {F : List Fact} {S : Int} {l : List MG} {u v : Nd} (h : GoL F S l u v) : GoR F S l 1 u v := ⟨u, rfl, h⟩
end OT
set_option Elab.async false
set_option linter.all false
set_option maxRecDepth 100000
set_option maxHeartbeats 1000000
namespace OT
/-- legs between whole places, one behind the other -/
def Chn (F : List Fact) (S : Int) : List Leg → Prop
  | [] => True
  | (k, s, e) :: L => (∃ s' e' : Int, s = s' * S ∧ e = e' * S) ∧ (On F S k s ∧ On F S k e) ∧ (L = [] ∨ node F S k e = node F S (posL L 0).1 (posL L 0).2) ∧ Chn F S L
theorem eAt_wh (F : List Fact) (S : Int) (k : Nat) (c : Int) : ∃ j, eAt F S k c = j * S := by
  unfold eAt
  split
  · exact ⟨0, by rw [Int.zero_mul]⟩
  · exact ⟨_, rfl⟩
section
variable {n : Int} {F : List Fact} {S : Int} {g : Nat} {p : Int} (T : TreeM n F) (hS : 1 ≤ S) (hg : On F S g p) (hp : ∃ p0, p = p0 * S)
include T hS hg hp
theorem legsC_chn : ∀ (l : List Nat) (c : Int), In n c → tr F c (rd F g).1 = l → Chn F S (legsC F S g p c l) := by
  have hr := (rd_ok T hg.1).1
  have last : ∀ c, Chn F S [(g, eAt F S g c, p)] := fun c => by
    obtain ⟨j, e⟩ := eAt_wh F S g c
    obtain ⟨p0, e0⟩ := hp
    exact ⟨⟨j, p0, e, e0⟩, ⟨eAt_on T hS hg.1 c, hg⟩, .inl rfl, trivial⟩
  intro l
  induction l with
  | nil =>
    intro c ic e
    exact last _
  | cons k l ih =>
    intro c ic e
    obtain ⟨w, nd⟩ := tr_of T ic hr
    rw [e] at w nd
    cases w with
    | @cons _ c' _ _ r _ ek j w =>
      have hk : k < F.length := (List.getElem?_eq_some_iff.mp ek).1
      rw [rd_get hk] at ek
      cases ek
      obtain ⟨_, _, _, ne⟩ := rd_ok T hk
      have hc : (rd F k).1 = c ∨ (rd F k).2.1 = c := by
        rcases j with ⟨a, _⟩ | ⟨_, a⟩
        · exact .inl a
        · exact .inr a
      by_cases h : k = g
      · subst h
        rw [legsC_g]
        have el : l = [] := by
          rcases hc with rfl | rfl
          · rw [tr_self T hr] at e
            cases e
          · rw [tr_root T hg.1] at e
            exact (List.cons.inj e).2.symm
        rw [el]
        exact last _
      · rw [legsC_k h]
        obtain ⟨eu, el⟩ := up_of T hg.1 hk hc e
        have ic' : In n (eBy F k c) := by
          have o := rd_ok T hk
          rcases jn_by hc with ⟨_, b⟩ | ⟨b, _⟩
          · exact b ▸ o.2.1
          · exact b ▸ o.1
        obtain ⟨_, st⟩ := legsC_ok T hS hg l (eBy F k c) ic' el.symm
        obtain ⟨j1, e1⟩ := eAt_wh F S k c
        obtain ⟨j2, e2⟩ := eAt_wh F S k (eBy F k c)
        refine ⟨⟨j1, j2, e1, e2⟩, ⟨eAt_on T hS hk c, eAt_on T hS hk _⟩, .inr ?_, ih (eBy F k c) ic' el.symm⟩
        rw [st]
        refine node_eAt T hS hk ?_
        rcases jn_by hc with ⟨_, b⟩ | ⟨b, _⟩
        · exact .inr b
        · exact .inl b
/-- the first leg of a way from a road, and the others -/
theorem legsP_chn {k : Nat} (hk : k < F.length) : ∃ (e0 : Int) (L : List Leg), On F S k (e0 * S) ∧ (∀ i, legsP F S g p k i = (k, i, e0 * S) :: L) ∧ ∀ j : Int, On F S k (j * S) → Chn F S ((k, j * S, e0 * S) :: L) := by
  unfold legsP
  by_cases e : k = g
  · subst e
    obtain ⟨p0, rfl⟩ := hp
    refine ⟨p0, [], hg, fun i => if_pos rfl, fun j h => ⟨⟨j, p0, rfl, rfl⟩, ⟨h, hg⟩, .inl rfl, trivial⟩⟩
  · have ic : In n (up F g k) := by
      have o := rd_ok T hk
      rcases up_end T hk (g := g) with b | b
      · exact b ▸ o.1
      · exact b ▸ o.2.1
    obtain ⟨ok, st⟩ := legsC_ok T hS hg _ (up F g k) ic rfl
    obtain ⟨e0, ee⟩ := eAt_wh F S k (up F g k)
    have oe : On F S k (e0 * S) := by rw [← ee]; exact eAt_on T hS hk _
    refine ⟨e0, _, oe, fun i => by rw [if_neg e, ← ee], fun j h => ⟨⟨j, e0, rfl, rfl⟩, ⟨h, oe⟩, .inr ?_, legsC_chn T hS hg hp _ _ ic rfl⟩⟩
    rw [st, ← ee]
    exact node_eAt T hS hk (up_end T hk)
end
theorem chn_total {F : List Fact} {S : Int} (hS : 1 ≤ S) : ∀ {L : List Leg}, Chn F S L → ∃ j, total L = j * S
  | [], _ => ⟨0, by rw [Int.zero_mul]; rfl⟩
  | (k, s, e) :: L, ⟨⟨s', e', h1, h2⟩, _, _, h⟩ => by
    obtain ⟨j, hj⟩ := chn_total hS h
    subst h1 h2
    refine ⟨dst s' e' + j, ?_⟩
    show dst (s' * S) (e' * S) + total L = _
    rw [dst_mul (by omega), hj, Int.add_mul]
theorem mulS_le {S a b : Int} (hS : 1 ≤ S) (h : a * S < b * S + S) : a ≤ b := by
  have e : b * S + S = (b + 1) * S := by rw [Int.add_mul, Int.one_mul]
  rw [e] at h
  have := Int.lt_of_mul_lt_mul_right h (by omega)
  omega
theorem mulS_mono {S a b : Int} (hS : 1 ≤ S) (h : a ≤ b) : a * S ≤ b * S := Int.mul_le_mul_of_nonneg_right h (by omega)
/-- each unit of a way lies on one road -/
theorem chn_seg {F : List Fact} {S : Int} (hS : 1 ≤ S) : ∀ {L : List Leg}, Chn F S L → ∀ m : Int, 0 ≤ m → m * S + S ≤ total L →
    ∃ (k : Nat) (j t : Int), (t = 1 ∨ t = -1) ∧ On F S k (j * S) ∧ On F S k (j * S + t * S) ∧ ∀ c, 0 ≤ c → c ≤ S → node F S (posL L (m * S + c)).1 (posL L (m * S + c)).2 = node F S k (j * S + t * c)
  | [], _, m, m0, h => by
    have h1 : 0 ≤ m * S := Int.mul_nonneg m0 (by omega)
    have h2 : total ([] : List Leg) = 0 := rfl
    omega
  | (k, s, e) :: L, ⟨⟨s', e', h1, h2⟩, ⟨os, oe⟩, jn, hc⟩, m, m0, h => by
    subst h1 h2
    have ht : total ((k, s' * S, e' * S) :: L) = dst (s' * S) (e' * S) + total L := rfl
    have hd : dst (s' * S) (e' * S) = dst s' e' * S := dst_mul (by omega) s' e'
    have mS : 0 ≤ m * S := Int.mul_nonneg m0 (by omega)
    by_cases q : m * S + S ≤ dst (s' * S) (e' * S)
    · by_cases lt : s' * S < e' * S
      · have dv : dst (s' * S) (e' * S) = e' * S - s' * S := by unfold dst; rw [if_neg (by omega)]
        refine ⟨k, s' + m, 1, .inl rfl, ?_, ?_, fun c c0 c1 => ?_⟩
        · rw [Int.add_mul]
          exact ⟨os.1, by have := os.2.1; omega, by have := oe.2.2; omega⟩
        · rw [Int.add_mul, Int.one_mul]
          exact ⟨os.1, by have := os.2.1; omega, by have := oe.2.2; omega⟩
        · rw [posL_le (by omega), if_pos lt, Int.add_mul, Int.one_mul]
          show node F S k (s' * S + (m * S + c)) = _
          rw [Int.add_assoc]
      · have dv : dst (s' * S) (e' * S) = s' * S - e' * S := by unfold dst; split <;> omega
        refine ⟨k, s' - m, -1, .inr rfl, ?_, ?_, fun c c0 c1 => ?_⟩
        · rw [Int.sub_mul]
          exact ⟨os.1, by have := oe.2.1; omega, by have := os.2.2; omega⟩
        · rw [Int.sub_mul, Int.neg_mul, Int.one_mul]
          exact ⟨os.1, by have := oe.2.1; omega, by have := os.2.2; omega⟩
        · rw [posL_le (by omega), if_neg lt, Int.sub_mul, Int.neg_mul, Int.one_mul]
          show node F S k (s' * S - (m * S + c)) = _
          congr 1
          omega
    · have dle : dst s' e' ≤ m := mulS_le hS (by rw [← hd]; omega)
      have dS : dst s' e' * S ≤ m * S := mulS_mono hS dle
      have e1 : (m - dst s' e') * S = m * S - dst s' e' * S := Int.sub_mul _ _ _
      obtain ⟨k2, j, t, ht2, o1, o2, all⟩ := chn_seg hS hc (m - dst s' e') (by omega) (by rw [e1]; omega)
      refine ⟨k2, j, t, ht2, o1, o2, fun c c0 c1 => ?_⟩
      rw [← all c c0 c1, e1]
      by_cases z : m * S + c ≤ dst (s' * S) (e' * S)
      · have c00 : c = 0 := by omega
        have em : m * S = dst s' e' * S := by omega
        subst c00
        rw [posL_le z, em, Int.sub_self, Int.add_zero, Int.add_zero]
        have ne : L ≠ [] := fun w => by
          subst w
          have : total ([] : List Leg) = 0 := rfl
          omega
        rw [← jn.resolve_left ne]
        show node F S k (if s' * S < e' * S then s' * S + dst s' e' * S else s' * S - dst s' e' * S) = _
        congr 1
        rw [← hd]
        unfold dst
        split <;> split <;> omega
      · rw [posL_gt z, hd]
        congr 2 <;> (congr 1; omega)
end OT
set_option Elab.async false
set_option linter.all false
set_option maxRecDepth 100000
set_option maxHeartbeats 1000000
namespace OT
/-- y 0 to y S is a unit of a road, from a whole place to the next -/
def Seg (F : List Fact) (S : Int) (y : Int → Nd) : Prop := ∃ (k : Nat) (j t : Int), (t = 1 ∨ t = -1) ∧ On F S k (j * S) ∧ On F S k (j * S + t * S) ∧ ∀ c, 0 ≤ c → c ≤ S → y c = node F S k (j * S + t * c)
def Pnt (S : Int) (y : Int → Nd) : Prop := ∃ v, ∀ c, 0 ≤ c → c ≤ S → y c = v
theorem Seg.rev {F : List Fact} {S : Int} {y : Int → Nd} (h : Seg F S y) : Seg F S (fun c => y (S - c)) := by
  obtain ⟨k, j, t, ht, o1, o2, all⟩ := h
  have e0 : (j + t) * S = j * S + t * S := Int.add_mul _ _ _
  refine ⟨k, j + t, -t, ht.elim (fun z => .inr (by omega)) fun z => .inl (by omega), by rw [e0]; exact o2, ?_, fun c c0 c1 => ?_⟩
  · rw [e0, Int.neg_mul, Int.add_neg_cancel_right]
    exact o1
  · show y (S - c) = _
    rw [all (S - c) (by omega) (by omega), e0, Int.mul_sub, Int.neg_mul]
    congr 1
    omega
theorem seg_back {F : List Fact} {S : Int} {y : Int → Nd} (h : Seg F S (fun c => y (S - c)) ∨ Pnt S (fun c => y (S - c))) : Seg F S y ∨ Pnt S y := by
  rcases h with h | ⟨v, h⟩
  · obtain ⟨k, j, t, ht, o1, o2, all⟩ := h.rev
    refine .inl ⟨k, j, t, ht, o1, o2, fun c c0 c1 => ?_⟩
    rw [← all c c0 c1]
    show y c = y (S - (S - c))
    congr 1
    omega
  · refine .inr ⟨v, fun c c0 c1 => ?_⟩
    rw [← h (S - c) (by omega) (by omega)]
    show y c = y (S - (S - c))
    congr 1
    omega
section
variable {n : Int} {F : List Fact} {S : Int} {g : Nat} {p : Int} (T : TreeM n F) (hS : 1 ≤ S) (hg : On F S g p) (hp : ∃ p0, p = p0 * S)
include T hS hg hp
/-- a unit that leads towards the goal -/
theorem seg_to {k : Nat} {j : Int} (o : On F S k (j * S)) {y y' : Int → Nd} {m : Int} (m0 : 0 ≤ m) (to : ∀ c, 0 ≤ c → c ≤ S → y c = pth F S g p k (j * S) c) (far : S ≤ hP F S g p k (j * S)) (go : ∀ c, 0 ≤ c → c ≤ S → Go F S g p (m * S) (y c) (y' c)) : Seg F S y' ∨ Pnt S y' := by
  obtain ⟨e0, L, oe, hl, hc⟩ := legsP_chn T hS hg hp o.1
  have hch := hc j o
  rw [← hl] at hch
  obtain ⟨h', eh⟩ := chn_total hS hch
  have eh : hP F S g p k (j * S) = h' * S := eh
  have mS : 0 ≤ m * S := Int.mul_nonneg m0 (by omega)
  have im : ∀ c, 0 ≤ c → c ≤ S → y' c = pth F S g p k (j * S) (c + if hP F S g p k (j * S) - c < m * S then hP F S g p k (j * S) - c else m * S) := fun c c0 c1 => by
    obtain ⟨k1, i1, o1, e1, e2⟩ := go c c0 c1
    obtain ⟨h1, h2⟩ := pth_on T hS hg o o1 c0 (by omega) ((to c c0 c1).symm.trans e1)
    rw [e2, h1]
    have q0 : 0 ≤ (if hP F S g p k (j * S) - c < m * S then hP F S g p k (j * S) - c else m * S) := by split <;> omega
    have q := h2 (if hP F S g p k (j * S) - c < m * S then hP F S g p k (j * S) - c else m * S).toNat (by rw [Int.toNat_of_nonneg q0]; split <;> omega)
    rw [Int.toNat_of_nonneg q0] at q
    exact q.symm
  by_cases q : m * S + S ≤ hP F S g p k (j * S)
  · obtain ⟨k2, j2, t, ht, o1, o2, all⟩ := chn_seg hS hch m m0 q
    refine .inl ⟨k2, j2, t, ht, o1, o2, fun c c0 c1 => ?_⟩
    rw [im c c0 c1, ← all c c0 c1]
    have e : (if hP F S g p k (j * S) - c < m * S then hP F S g p k (j * S) - c else m * S) = m * S := by split <;> omega
    rw [e, Int.add_comm]
    rfl
  · have hm : hP F S g p k (j * S) ≤ m * S := by
      rw [eh] at q ⊢
      exact mulS_mono hS (mulS_le hS (by omega))
    refine .inr ⟨pth F S g p k (j * S) (hP F S g p k (j * S)), fun c c0 c1 => ?_⟩
    rw [im c c0 c1]
    congr 1
    split <;> omega
/-- a march keeps a unit a unit, or draws it together -/
theorem Seg.go {y y' : Int → Nd} {m : Int} (m0 : 0 ≤ m) (h : Seg F S y) (go : ∀ c, 0 ≤ c → c ≤ S → Go F S g p (m * S) (y c) (y' c)) : Seg F S y' ∨ Pnt S y' := by
  -- towards the end e of the road that the way leaves by
  have one : ∀ {y y' : Int → Nd} {k : Nat} {j t e0 : Int} {L : List Leg}, (t = 1 ∨ t = -1) → On F S k (j * S) → On F S k (j * S + t * S) → (∀ c, 0 ≤ c → c ≤ S → y c = node F S k (j * S + t * c)) → (∀ i, legsP F S g p k i = (k, i, e0 * S) :: L) → ((t = 1 ∧ j + 1 ≤ e0) ∨ (t = -1 ∧ e0 + 1 ≤ j)) →
      (∀ c, 0 ≤ c → c ≤ S → Go F S g p (m * S) (y c) (y' c)) → Seg F S y' ∨ Pnt S y' := fun {y y' k j t e0 L} ht o1 o2 all hl dir go => by
    have hh : hP F S g p k (j * S) = dst (j * S) (e0 * S) + total L := by
      unfold hP
      rw [hl]
      rfl
    have tn := total_nn L
    have dS : S ≤ dst (j * S) (e0 * S) := by
      rcases dir with ⟨_, d⟩ | ⟨_, d⟩
      · have := mulS_mono hS d
        rw [Int.add_mul, Int.one_mul] at this
        unfold dst
        split <;> omega
      · have := mulS_mono hS d
        rw [Int.add_mul, Int.one_mul] at this
        unfold dst
        split <;> omega
    refine seg_to T hS hg hp o1 m0 (fun c c0 c1 => ?_) (by omega) go
    rw [all c c0 c1]
    unfold pth
    rw [hl, posL_le (by omega)]
    rcases dir with ⟨rfl, d⟩ | ⟨rfl, d⟩
    · have := mulS_mono hS d
      rw [Int.add_mul, Int.one_mul] at this
      rw [if_pos (by omega), Int.one_mul]
    · have := mulS_mono hS d
      rw [Int.add_mul, Int.one_mul] at this
      rw [if_neg (by omega), Int.neg_mul, Int.one_mul]
      rfl
  obtain ⟨k, j, t, ht, o1, o2, all⟩ := id h
  obtain ⟨e0, L, oe, hl, hc⟩ := legsP_chn T hS hg hp o1.1
  by_cases d : (t = 1 ∧ j + 1 ≤ e0) ∨ (t = -1 ∧ e0 + 1 ≤ j)
  · exact one ht o1 o2 all hl d go
  · have e1 : (j + t) * S = j * S + t * S := Int.add_mul _ _ _
    refine seg_back (one (y := fun c => y (S - c)) (y' := fun c => y' (S - c)) (k := k) (j := j + t) (t := -t) (e0 := e0) (L := L) (ht.elim (fun z => .inr (by omega)) fun z => .inl (by omega)) (by rw [e1]; exact o2) ?_ (fun c c0 c1 => ?_) hl ?_ fun c c0 c1 => go (S - c) (by omega) (by omega))
    · rw [e1, Int.neg_mul, Int.add_neg_cancel_right]
      exact o1
    · show y (S - c) = _
      rw [all (S - c) (by omega) (by omega), e1, Int.mul_sub, Int.neg_mul]
      congr 1
      omega
    · rcases ht with rfl | rfl
      · exact .inr ⟨rfl, by omega⟩
      · exact .inl ⟨rfl, by omega⟩
end
/-- a row keeps a unit a unit, or draws it together -/
theorem Seg.row {n : Int} {F : List Fact} {S : Int} (T : TreeM n F) (hS : 1 ≤ S) : ∀ {l : List MG}, (∀ x ∈ l, MgOk F x) → ∀ {y y' : Int → Nd}, Seg F S y ∨ Pnt S y → (∀ c, 0 ≤ c → c ≤ S → GoL F S l (y c) (y' c)) → Seg F S y' ∨ Pnt S y'
  | [], _, y, y', h, go => by
    have e : ∀ c, 0 ≤ c → c ≤ S → y c = y' c := fun c c0 c1 => go c c0 c1
    rcases h with ⟨k, j, t, ht, o1, o2, all⟩ | ⟨v, all⟩
    · exact .inl ⟨k, j, t, ht, o1, o2, fun c c0 c1 => by rw [← e c c0 c1]; exact all c c0 c1⟩
    · exact .inr ⟨v, fun c c0 c1 => by rw [← e c c0 c1]; exact all c c0 c1⟩
  | x :: l, ok, y, y', h, go => by
    have okx := ok x List.mem_cons_self
    have okl : ∀ x ∈ l, MgOk F x := fun x hx => ok x (List.mem_cons_of_mem _ hx)
    have ex : ∀ c, ∃ v, 0 ≤ c → c ≤ S → GoX F S x (y c) v ∧ GoL F S l v (y' c) := fun c => by
      by_cases h0 : 0 ≤ c ∧ c ≤ S
      · obtain ⟨v, a, b⟩ := go c h0.1 h0.2
        exact ⟨v, fun _ _ => ⟨a, b⟩⟩
      · exact ⟨y c, fun a b => absurd ⟨a, b⟩ h0⟩
    obtain ⟨y1, hy1⟩ := Classical.skolem.mp ex
    refine Seg.row T hS okl (y := y1) (y' := y') ?_ fun c c0 c1 => (hy1 c c0 c1).2
    rcases h with h | ⟨v, all⟩
    · exact h.go T hS (okx.on hS) ⟨_, rfl⟩ (m := x.2.2) (by have := okx.s1; omega) fun c c0 c1 => (hy1 c c0 c1).1
    · refine .inr ⟨y1 0, fun c c0 c1 => ?_⟩
      have a := (hy1 c c0 c1).1
      have b := (hy1 0 (Int.le_refl _) (by omega)).1
      rw [all c c0 c1] at a
      rw [all 0 (Int.le_refl _) (by omega)] at b
      exact Go.uniq T hS (okx.on hS) (okx.m0 hS) a b
end OT
set_option Elab.async false
set_option linter.all false
set_option maxRecDepth 100000
set_option maxHeartbeats 4000000
set_option Elab.async false
set_option linter.all false
set_option maxRecDepth 100000
set_option maxHeartbeats 4000000
namespace OT
open PySem L2 OTR
/-- a stretch's facts: road, least, greatest, and where its first and its last are -/
abbrev SFact := Int × Int × Int × Addr × Addr
def stF (x : SFact) : List (Str × V) := putF "last" (.ref x.2.2.2.2) (putF "first" (.ref x.2.2.2.1) (putF "greatest" (.int x.2.2.1) (putF "least" (.int x.2.1) (putF "road" (.int x.1) []))))
def StAt (C : Addr) (H : Hp) (p : Addr) (x : SFact) : Prop := ∃ dx, H p = some (.ins C dx (stF x))
theorem StAt.kp {C : Addr} {H H' : Hp} {p : Addr} {x : SFact} (h : StAt C H p x) (k : Kp H H') : StAt C H' p x := let ⟨dx, e⟩ := h; ⟨dx, k _ _ e fun _ z => nomatch z⟩
theorem StAt.same {C : Addr} {H H' : Hp} {p : Addr} {x : SFact} (h : StAt C H p x) (k : Same H H') : StAt C H' p x := h.kp (.of k)
end OT
set_option Elab.async false
set_option linter.all false
set_option maxRecDepth 100000
set_option maxHeartbeats 4000000
namespace OT
open PySem L2 OTR
theorem tn {σ : List (Option V)} {H : Hp} {Q : List V → Hp → Prop} (h : Q [] H) : tNil σ H Q := h
end OT
set_option linter.all false
set_option maxRecDepth 100000
namespace OT
open PySem L2 OTR
theorem FactsAt.but {H H' : Hp} {s q : Addr} {F : List Fact} (h : FactsAt H q F) (src : Src H s) (b : But s H H') : FactsAt H' q F := by
  obtain ⟨ts, hq, hts⟩ := h
  refine ⟨ts, b _ _ hq (src.ne hq fun x y z e => ?_), tups_but hts src b⟩
  have e1 := HO.lst.inj e
  cases ts with
  | nil => exact nomatch e1
  | cons t r =>
    rw [List.map_cons] at e1
    exact nomatch (List.cons.inj e1).1
end OT
set_option Elab.async false
set_option linter.all false
set_option maxRecDepth 100000
set_option maxHeartbeats 1000000
namespace OT
section
variable {n : Int} {F : List Fact} (T : TreeM n F) (n2 : 2 ≤ n)
/-- how far it is from u to v -/
noncomputable def Dn (F : List Fact) (u v : Nd) : Int := hN F 1 (nqk F 1 v).1 (nqk F 1 v).2 u
include T n2
theorem Dn_hN {u v : Nd} (ou : OnT F 1 u) (ov : OnT F 1 v) {g : Nat} {p : Int} (og : On F 1 g p) (e : node F 1 g p = v) : Dn F u v = hN F 1 g p u := by
  obtain ⟨o, e'⟩ := nqk_on T n2 (by decide) ov
  exact hN_goal T (by decide) o og (e'.trans e.symm) ou
theorem Dn_hP {k g : Nat} {i p : Int} (ok : On F 1 k i) (og : On F 1 g p) : Dn F (node F 1 k i) (node F 1 g p) = hP F 1 g p k i := by
  rw [Dn_hN T n2 ⟨k, i, ok, rfl⟩ ⟨g, p, og, rfl⟩ og rfl, hN_node T (by decide) og ok]
theorem Dn_nn {u v : Nd} (ou : OnT F 1 u) (ov : OnT F 1 v) : 0 ≤ Dn F u v := by
  obtain ⟨k, i, ok, rfl⟩ := ou
  obtain ⟨g, p, og, rfl⟩ := ov
  rw [Dn_hP T n2 ok og]
  exact total_nn _
theorem Dn_self {u : Nd} (ou : OnT F 1 u) : Dn F u u = 0 := by
  obtain ⟨k, i, ok, rfl⟩ := ou
  rw [Dn_hP T n2 ok ok, hP_g, dst_self]
theorem Dn_sym {u v : Nd} (ou : OnT F 1 u) (ov : OnT F 1 v) : Dn F u v = Dn F v u := by
  obtain ⟨k, i, ok, rfl⟩ := ou
  obtain ⟨g, p, og, rfl⟩ := ov
  rw [Dn_hP T n2 ok og, Dn_hP T n2 og ok]
  exact hP_sym T (by decide) ok og
theorem Dn_adj {u u' v : Nd} (a : Adj F 1 u u') (ov : OnT F 1 v) : Dn F u' v = Dn F u v + 1 ∨ Dn F u' v = Dn F u v - 1 := by
  obtain ⟨g, p, og, rfl⟩ := ov
  rw [Dn_hN T n2 a.on.1 ⟨g, p, og, rfl⟩ og rfl, Dn_hN T n2 a.on.2 ⟨g, p, og, rfl⟩ og rfl]
  exact adj_step T (by decide) og a
/-- a chain of neighbours -/
def Chain (F : List Fact) (c : Nat) (x : Nat → Nd) : Prop := ∀ t, t < c → Adj F 1 (x t) (x (t + 1))
theorem chain_far {v : Nd} (ov : OnT F 1 v) {x : Nat → Nd} : ∀ {c : Nat}, Chain F c x → Dn F (x c) v ≤ Dn F (x 0) v + c ∧ Dn F (x 0) v ≤ Dn F (x c) v + c
  | 0, _ => ⟨by simp, by simp⟩
  | c + 1, h => by
    obtain ⟨a, b⟩ := chain_far ov (c := c) fun t ht => h t (by omega)
    have := Dn_adj T n2 (h c (by omega)) ov
    omega
/-- the way from one position to another, as a chain -/
theorem way_chain {u v : Nd} (ou : OnT F 1 u) (ov : OnT F 1 v) : ∃ x : Nat → Nd, x 0 = u ∧ x (Dn F u v).toNat = v ∧ Chain F (Dn F u v).toNat x ∧ ∀ t : Nat, (t : Int) ≤ Dn F u v → OnT F 1 (x t) ∧ Dn F (x t) v = Dn F u v - t := by
  obtain ⟨k, i, ok, rfl⟩ := ou
  obtain ⟨g, p, og, rfl⟩ := ov
  have eD := Dn_hP T n2 ok og
  have h0 : 0 ≤ hP F 1 g p k i := total_nn _
  rw [eD]
  have en : ((hP F 1 g p k i).toNat : Int) = hP F 1 g p k i := Int.toNat_of_nonneg h0
  refine ⟨fun t => pth F 1 g p k i (t : Nat), pth_0 T (by decide) og ok, ?_, fun t ht => ?_, fun t ht => ?_⟩
  · show pth F 1 g p k i ((hP F 1 g p k i).toNat : Nat) = _
    rw [en]
    obtain ⟨o, z, _⟩ := pth_ok T (by decide) og ok h0 (Int.le_refl _)
    exact zero_aim T (by decide) og o (by rw [z]; omega)
  · obtain ⟨_, _, a⟩ := pth_ok T (by decide) og ok (t := (t : Nat)) (Int.natCast_nonneg t) (by omega)
    have := a (by omega)
    show Adj F 1 (pth F 1 g p k i (t : Nat)) (pth F 1 g p k i ((t + 1 : Nat) : Int))
    rw [Int.natCast_succ]
    exact this
  · obtain ⟨o, z, _⟩ := pth_ok T (by decide) og ok (t := (t : Nat)) (Int.natCast_nonneg t) ht
    refine ⟨o, ?_⟩
    show Dn F (pth F 1 g p k i (t : Nat)) _ = _
    rw [Dn_hN T n2 o ⟨g, p, og, rfl⟩ og rfl]
    exact z
theorem Dn_tri {u v z : Nd} (ou : OnT F 1 u) (ov : OnT F 1 v) (oz : OnT F 1 z) : Dn F u z ≤ Dn F u v + Dn F v z := by
  obtain ⟨x, x0, xc, ch, _⟩ := way_chain T n2 ou ov
  have h := (chain_far T n2 oz ch).2
  rw [x0, xc, Int.toNat_of_nonneg (Dn_nn T n2 ou ov)] at h
  omega
end
end OT
set_option Elab.async false
set_option linter.all false
set_option maxRecDepth 100000
set_option maxHeartbeats 1000000
namespace OT
/-- a chain without a shorter way -/
structure Geo (F : List Fact) (c : Nat) (x : Nat → Nd) : Prop where
  ch : Chain F c x
  on_ : ∀ t, t ≤ c → OnT F 1 (x t)
  far : Dn F (x 0) (x c) = c
theorem Chain.sub {F : List Fact} {c a b : Nat} {x : Nat → Nd} (h : Chain F c x) (hb : a + b ≤ c) : Chain F b (fun t => x (a + t)) := fun t ht => h (a + t) (by omega)
section
variable {n : Int} {F : List Fact} (T : TreeM n F) (n2 : 2 ≤ n)
include T n2
theorem Geo.sub {c : Nat} {x : Nat → Nd} (h : Geo F c x) {a b : Nat} (hb : a + b ≤ c) : Geo F b (fun t => x (a + t)) := by
  have o0 := h.on_ 0 (Nat.zero_le _)
  have oa := h.on_ a (by omega)
  have ob := h.on_ (a + b) hb
  have oc := h.on_ c (Nat.le_refl _)
  refine ⟨h.ch.sub hb, fun t ht => h.on_ (a + t) (by omega), ?_⟩
  show Dn F (x (a + 0)) (x (a + b)) = b
  rw [Nat.add_zero]
  have h1 := (chain_far T n2 oa (h.ch.sub (a := 0) (b := a) (by omega))).2
  have h2 := (chain_far T n2 ob (h.ch.sub (a := a) (b := b) hb)).2
  have h3 := (chain_far T n2 oc (h.ch.sub (a := a + b) (b := c - (a + b)) (by omega))).2
  simp only [Nat.zero_add, Nat.add_zero] at h1 h2 h3
  rw [Dn_self T n2 oa] at h1
  rw [Dn_self T n2 ob] at h2
  have e : a + b + (c - (a + b)) = c := by omega
  rw [e, Dn_self T n2 oc] at h3
  have t1 := Dn_tri T n2 o0 oa oc
  have t2 := Dn_tri T n2 oa ob oc
  have := h.far
  omega
theorem Geo.rev {c : Nat} {x : Nat → Nd} (h : Geo F c x) : Geo F c (fun t => x (c - t)) := by
  refine ⟨fun t ht => ?_, fun t _ => h.on_ (c - t) (by omega), ?_⟩
  · show Adj F 1 (x (c - t)) (x (c - (t + 1)))
    have := (h.ch (c - (t + 1)) (by omega)).symm
    rw [show c - (t + 1) + 1 = c - t by omega] at this
    exact this
  · show Dn F (x (c - 0)) (x (c - c)) = c
    rw [Nat.sub_zero, Nat.sub_self, Dn_sym T n2 (h.on_ c (Nat.le_refl _)) (h.on_ 0 (Nat.zero_le _))]
    exact h.far
/-- while it comes nearer it is the way -/
theorem Geo.way {c : Nat} {x : Nat → Nd} (h : Geo F c x) {k g : Nat} {i p : Int} (ok : On F 1 k i) (og : On F 1 g p) (e0 : x 0 = node F 1 k i) {a : Nat} (ha : a ≤ c) (down : ∀ t, t ≤ a → Dn F (x t) (node F 1 g p) = Dn F (x 0) (node F 1 g p) - t) : ∀ t, t ≤ a → x t = pth F 1 g p k i (t : Nat)
  | 0, _ => by
    show x 0 = pth F 1 g p k i 0
    rw [pth_0 T (by decide) og ok]
    exact e0
  | t + 1, ht => by
    have ih := Geo.way h ok og e0 ha down t (by omega)
    have hN_ : ∀ {u : Nd}, OnT F 1 u → Dn F u (node F 1 g p) = hN F 1 g p u := fun ou => Dn_hN T n2 ou ⟨g, p, og, rfl⟩ og rfl
    have d0 : Dn F (x 0) (node F 1 g p) = hP F 1 g p k i := by rw [e0, Dn_hP T n2 ok og]
    have o1 := h.on_ (t + 1) (by omega)
    have o := h.on_ t (by omega)
    have d1 := down (t + 1) ht
    have dt := down t (by omega)
    rw [d0] at d1 dt
    have nn := Dn_nn T n2 o1 ⟨g, p, og, rfl⟩
    rw [hN_ o1] at d1
    rw [hN_ o] at dt
    have ad := h.ch t (by omega)
    rw [ih] at ad dt
    have hj : (t : Int) + 1 ≤ hP F 1 g p k i := by
      rw [hN_ o1] at nn
      omega
    obtain ⟨h1, h2⟩ := arC (t := t) (by rw [Int.natCast_succ]; exact hj)
    obtain ⟨oo, z, a'⟩ := pth_ok T (by decide) og ok (t := (t : Nat)) (Int.natCast_nonneg t) h2
    obtain ⟨_, z', _⟩ := pth_ok T (by decide) og ok (t := (t : Int) + 1) (Int.le_trans (Int.natCast_nonneg t) (Int.le_add_one (Int.le_refl _))) h1
    have r := lower_uniq T (by decide) og (a' h1) ad (arA z z') (by omega)
    rw [Int.natCast_succ]
    exact r.symm
end
end OT
set_option Elab.async false
set_option linter.all false
set_option maxRecDepth 100000
set_option maxHeartbeats 1000000
set_option Elab.async false
set_option linter.all false
set_option maxRecDepth 100000
set_option maxHeartbeats 4000000
namespace OT
open PySem L2 OTR
/-- at t a mark: so many steps from the stretch's start, and where that is led -/
def MkAt (CP : Addr) (F : List Fact) (H : Hp) (t : Addr) (z : Nat × Nd) : Prop := ∃ b, H t = some (.tup [.int (z.1 : Nat), .ref b]) ∧ PlaceAt CP H b (keyF F 1 z.2)
theorem MkAt.kp {CP : Addr} {F : List Fact} {H H' : Hp} {t : Addr} {z : Nat × Nd} (h : MkAt CP F H t z) (k : Kp H H') : MkAt CP F H' t z := let ⟨b, e, p⟩ := h; ⟨b, k _ _ e (fun _ q => nomatch q), p.kp k⟩
theorem MkAt.same {CP : Addr} {F : List Fact} {H H' : Hp} {t : Addr} {z : Nat × Nd} (h : MkAt CP F H t z) (k : Same H H') : MkAt CP F H' t z := h.kp (.of k)
end OT
set_option Elab.async false
set_option linter.all false
set_option maxRecDepth 100000
set_option maxHeartbeats 4000000
namespace OT
open PySem L2 OTR
/-- from s to e all is led to one position, or onto a path -/
def Pw (F : List Fact) (f : Nat → Nd) (s e : Nat) : Prop := (∀ t, s ≤ t → t ≤ e → f t = f s) ∨ Geo F (e - s) (fun t => f (s + t))
/-- at p the stretch of the road k from s to e, where f tells where each position is led -/
def SpAt (CS CP : Addr) (F : List Fact) (H : Hp) (k : Nat) (f : Nat → Nd) (p : Addr) (z : Nat × Nat) : Prop := ∃ a b, StAt CS H p (((k : Nat) : Int), ((z.1 : Nat) : Int), ((z.2 : Nat) : Int), a, b) ∧ PlaceAt CP H a (keyF F 1 (f z.1)) ∧ PlaceAt CP H b (keyF F 1 (f z.2))
theorem SpAt.kp {CS CP : Addr} {F : List Fact} {H H' : Hp} {k : Nat} {f : Nat → Nd} {p : Addr} {z : Nat × Nat} (h : SpAt CS CP F H k f p z) (kp : Kp H H') : SpAt CS CP F H' k f p z := let ⟨a, b, h1, h2, h3⟩ := h; ⟨a, b, h1.kp kp, h2.kp kp, h3.kp kp⟩
theorem SpAt.same {CS CP : Addr} {F : List Fact} {H H' : Hp} {k : Nat} {f : Nat → Nd} {p : Addr} {z : Nat × Nat} (h : SpAt CS CP F H k f p z) (kp : Same H H') : SpAt CS CP F H' k f p z := h.kp (.of kp)
/-- one behind the other from s to e -/
def Cov : Nat → Nat → List (Nat × Nat) → Prop
  | s, e, [] => s = e
  | s, e, z :: L => z.1 = s ∧ s < z.2 ∧ Cov z.2 e L
theorem Cov.snoc {e e' : Nat} : ∀ {L : List (Nat × Nat)} {s : Nat}, Cov s e L → e < e' → Cov s e' (L ++ [(e, e')])
  | [], s, h, l => by
    cases (show s = e from h)
    exact ⟨rfl, l, rfl⟩
  | z :: L, s, ⟨h1, h2, h3⟩, l => ⟨h1, h2, h3.snoc l⟩
theorem Cov.append {e e' : Nat} {M : List (Nat × Nat)} : ∀ {L : List (Nat × Nat)} {s : Nat}, Cov s e L → Cov e e' M → Cov s e' (L ++ M)
  | [], s, h, k => by
    cases (show s = e from h)
    exact k
  | z :: L, s, ⟨h1, h2, h3⟩, k => ⟨h1, h2, h3.append k⟩
theorem Cov.le {e : Nat} : ∀ {L : List (Nat × Nat)} {s : Nat}, Cov s e L → s ≤ e ∧ L.length ≤ e - s
  | [], s, h => by
    cases (show s = e from h)
    exact ⟨Nat.le_refl _, Nat.zero_le _⟩
  | z :: L, s, ⟨h1, h2, h3⟩ => by
    obtain ⟨a, b⟩ := h3.le
    refine ⟨by omega, ?_⟩
    rw [List.length_cons]
    omega
end OT
set_option Elab.async false
set_option linter.all false
set_option maxRecDepth 100000
set_option maxHeartbeats 1000000
namespace OT
section
variable {n : Int} {F : List Fact} (T : TreeM n F) (n2 : 2 ≤ n)
include T n2
theorem Geo.ne {f : Nat → Nd} {s e : Nat} (h : Geo F (e - s) (fun t => f (s + t))) (se : s < e) (oe : OnT F 1 (f e)) : f s ≠ f e := fun eq => by
  have h1 := h.far
  rw [show s + 0 = s from rfl, show s + (e - s) = e by omega, eq, Dn_self T n2 oe] at h1
  omega
end
end OT
set_option Elab.async false
set_option linter.all false
set_option maxRecDepth 100000
set_option maxHeartbeats 1000000
namespace OT
/-- a road, and from where to where on it -/
abbrev It := Nat × Nat × Nat
/-- where the next stretch begins -/
def nx (F : List Fact) (k e : Nat) : Nat × Nat := if (e : Int) = sz F 1 k then (k + 1, 0) else (k, e)
def CovS (F : List Fact) : Nat × Nat → Nat × Nat → List It → Prop
  | a, b, [] => a = b
  | a, b, z :: L => (z.1, z.2.1) = a ∧ z.2.1 < z.2.2 ∧ CovS F (nx F z.1 z.2.2) b L
theorem CovS.append {F : List Fact} {b c : Nat × Nat} {M : List It} : ∀ {L : List It} {a : Nat × Nat}, CovS F a b L → CovS F b c M → CovS F a c (L ++ M)
  | [], a, h, k => by
    cases (show a = b from h)
    exact k
  | z :: L, a, ⟨h1, h2, h3⟩, k => ⟨h1, h2, h3.append k⟩
theorem CovS.split {F : List Fact} {c : Nat × Nat} {M : List It} : ∀ {L : List It} {a : Nat × Nat}, CovS F a c (L ++ M) → ∃ b, CovS F a b L ∧ CovS F b c M
  | [], a, h => ⟨a, rfl, h⟩
  | z :: L, a, ⟨h1, h2, h3⟩ => by
    obtain ⟨b, x, y⟩ := CovS.split (L := L) h3
    exact ⟨b, ⟨h1, h2, x⟩, y⟩
theorem CovS.snoc {F : List Fact} {a b : Nat × Nat} {L : List It} {z : It} (h : CovS F a b L) (e : (z.1, z.2.1) = b) (lt : z.2.1 < z.2.2) : CovS F a (nx F z.1 z.2.2) (L ++ [z]) := h.append ⟨e, lt, rfl⟩
/-- a stretch that says what is so -/
structure ItOk (F : List Fact) (f : Nat → Nat → Nd) (z : It) : Prop where
  lt : z.2.1 < z.2.2
  pw : Pw F (f z.1) z.2.1 z.2.2
  on_ : ∀ t, z.2.1 ≤ t → t ≤ z.2.2 → OnT F 1 (f z.1 t)
structure JOk (F : List Fact) (f : Nat → Nat → Nd) (a b : Nat × Nat) (M : List It) : Prop where
  cov : CovS F a b M
  ok : ∀ z ∈ M, ItOk F f z
  max : ∀ i y z, M[i]? = some y → M[i + 1]? = some z → y.1 = z.1 → ¬ Pw F (f y.1) y.2.1 z.2.2
theorem max_snoc {F : List Fact} {f : Nat → Nat → Nd} {M : List It} {z : It} (h : ∀ i y z, M[i]? = some y → M[i + 1]? = some z → y.1 = z.1 → ¬ Pw F (f y.1) y.2.1 z.2.2) (l : ∀ y, M.getLast? = some y → y.1 = z.1 → ¬ Pw F (f y.1) y.2.1 z.2.2) : ∀ i y w, (M ++ [z])[i]? = some y → (M ++ [z])[i + 1]? = some w → y.1 = w.1 → ¬ Pw F (f y.1) y.2.1 w.2.2 := fun i y w hy hw e => by
  have lw := (List.getElem?_eq_some_iff.mp hw).1
  rw [List.length_append] at lw
  have lw : i + 1 < M.length + 1 := lw
  rw [List.getElem?_append_left (by omega)] at hy
  by_cases q : i + 1 < M.length
  · rw [List.getElem?_append_left q] at hw
    exact h i y w hy hw e
  · have ei : i + 1 = M.length := by omega
    rw [ei, List.getElem?_append_right (Nat.le_refl _), Nat.sub_self] at hw
    cases hw
    refine l y ?_ e
    rw [List.getLast?_eq_getElem?, ← ei]
    exact hy
theorem JOk.push {F : List Fact} {f : Nat → Nat → Nd} {a b : Nat × Nat} {M : List It} {z : It} (h : JOk F f a b M) (oz : ItOk F f z) (e : (z.1, z.2.1) = b) (l : ∀ y, M.getLast? = some y → y.1 = z.1 → ¬ Pw F (f y.1) y.2.1 z.2.2) : JOk F f a (nx F z.1 z.2.2) (M ++ [z]) :=
  ⟨h.cov.snoc e oz.lt, fun y hy => (List.mem_append.mp hy).elim (h.ok y) fun q => by rw [List.mem_singleton.mp q]; exact oz, max_snoc h.max l⟩
end OT
set_option Elab.async false
set_option linter.all false
set_option maxRecDepth 100000
set_option maxHeartbeats 1000000
namespace OT
/-- what lies before, or is the same -/
def Le2 (a b : Nat × Nat) : Prop := a.1 < b.1 ∨ (a.1 = b.1 ∧ a.2 ≤ b.2)
theorem Le2.trans {a b c : Nat × Nat} (h : Le2 a b) (k : Le2 b c) : Le2 a c := by
  unfold Le2 at *
  omega
theorem nx_fwd {F : List Fact} {k s e : Nat} (h : s < e) : Le2 (k, s + 1) (nx F k e) := by
  unfold nx Le2
  split
  · exact .inl (Nat.lt_succ_self k)
  · exact .inr ⟨rfl, h⟩
/-- items lead forward only -/
theorem CovS.fwd {F : List Fact} {b : Nat × Nat} : ∀ {L : List It} {a : Nat × Nat}, CovS F a b L → Le2 a b ∧ (L ≠ [] → Le2 (a.1, a.2 + 1) b)
  | [], a, h => by
    cases (show a = b from h)
    exact ⟨.inr ⟨rfl, Nat.le_refl _⟩, fun h => absurd rfl h⟩
  | z :: L, a, ⟨h1, h2, h3⟩ => by
    subst h1
    have r := (nx_fwd h2).trans h3.fwd.1
    refine ⟨?_, fun _ => r⟩
    unfold Le2 at r ⊢
    dsimp only at r ⊢
    omega
end OT
set_option Elab.async false
set_option linter.all false
set_option maxRecDepth 100000
set_option maxHeartbeats 1000000
namespace OT
/-- f tells where the marches gs lead each whole position of a road -/
def Img (F : List Fact) (gs : List MG) (f : Nat → Nat → Nd) : Prop := ∀ k t : Nat, k < F.length → (t : Int) ≤ sz F 1 k → GoL F 1 gs (node F 1 k ((t : Nat) : Int)) (f k t)
theorem Img.zero (F : List Fact) : Img F [] (fun k t => node F 1 k ((t : Nat) : Int)) := fun k t _ _ => rfl
/-- where a path is cut -/
def Cut (f : Nat → Nd) (t : Nat) : Prop := ¬ (f (t - 1) = f t ↔ f t = f (t + 1)) ∨ (f (t - 1) ≠ f t ∧ f (t - 1) = f (t + 1))
structure CutOk (F : List Fact) (f : Nat → Nat → Nd) (a b : Nat × Nat) (M : List It) : Prop where
  cov : CovS F a b M
  inn : ∀ z ∈ M, ∀ t, z.2.1 < t → t < z.2.2 → ¬ Cut (f z.1) t
  bnd : ∀ i y z, M[i]? = some y → M[i + 1]? = some z → y.1 = z.1 → Cut (f y.1) y.2.2
theorem covS_stuck {F : List Fact} {b : Nat × Nat} : ∀ {L : List It} {k e : Nat}, CovS F (k, e) b L → sz F 1 k < (e : Int) → b.1 = k
  | [], k, e, h, _ => by
    cases (show (k, e) = b from h)
    rfl
  | z :: L, k, e, ⟨h1, h2, h3⟩, lt => by
    have e1 : z.1 = k := (Prod.mk.inj h1).1
    have e2 : z.2.1 = e := (Prod.mk.inj h1).2
    have nz : nx F z.1 z.2.2 = (k, z.2.2) := by
      unfold nx
      rw [e1, if_neg (by omega)]
    rw [nz] at h3
    exact covS_stuck h3 (by omega)
/-- items that lead to the tree's end lie on its roads -/
theorem CovS.in_ {F : List Fact} {N : Nat} : ∀ {L : List It} {a : Nat × Nat}, CovS F a (N, 0) L → ∀ z ∈ L, z.1 < N ∧ (z.2.2 : Int) ≤ sz F 1 z.1
  | [], _, _, z, h => by cases h
  | y :: L, a, ⟨h1, h2, h3⟩, z, h => by
    rcases List.mem_cons.mp h with e | h
    · subst e
      have fw := h3.fwd.1
      by_cases q : (z.2.2 : Int) = sz F 1 z.1
      · have nz : nx F z.1 z.2.2 = (z.1 + 1, 0) := by
          unfold nx
          rw [if_pos q]
        rw [nz] at fw
        unfold Le2 at fw
        dsimp only at fw
        omega
      · have nz : nx F z.1 z.2.2 = (z.1, z.2.2) := by
          unfold nx
          rw [if_neg q]
        rw [nz] at fw h3
        unfold Le2 at fw
        dsimp only at fw
        refine ⟨by omega, ?_⟩
        by_cases w : sz F 1 z.1 < (z.2.2 : Int)
        · have := covS_stuck h3 w
          dsimp only at this
          omega
        · omega
    · exact CovS.in_ h3 z h
/-- one list of longest stretches there is -/
theorem CutOk.uniq {F : List Fact} {f : Nat → Nat → Nd} {N : Nat} : ∀ {L M : List It} {a : Nat × Nat}, CutOk F f a (N, 0) L → CutOk F f a (N, 0) M → L = M
  | [], M, a, h, k => by
    cases M with
    | nil => rfl
    | cons z M =>
      exfalso
      have e : a = (N, 0) := h.cov
      have := k.cov.fwd.2 (fun z => nomatch z)
      rw [e] at this
      unfold Le2 at this
      dsimp only at this
      omega
  | y :: L, M, a, h, k => by
    cases M with
    | nil =>
      exfalso
      have e : a = (N, 0) := k.cov
      have := h.cov.fwd.2 (fun z => nomatch z)
      rw [e] at this
      unfold Le2 at this
      dsimp only at this
      omega
    | cons z M =>
      have key : ∀ {y z : It} {L M : List It}, CutOk F f a (N, 0) (y :: L) → CutOk F f a (N, 0) (z :: M) → ¬ y.2.2 < z.2.2 := fun {y z L M} h k lt => by
        obtain ⟨h1, h2, h3⟩ := h.cov
        obtain ⟨k1, k2, k3⟩ := id k.cov
        have e1 : z.1 = y.1 := (Prod.mk.inj (k1.trans h1.symm)).1
        have e2 : z.2.1 = y.2.1 := (Prod.mk.inj (k1.trans h1.symm)).2
        have iz := CovS.in_ k.cov z (List.mem_cons_self ..)
        have nz : nx F y.1 y.2.2 = (y.1, y.2.2) := by
          unfold nx
          rw [← e1, if_neg (by omega)]
        rw [nz] at h3
        cases L with
        | nil =>
          have : (y.1, y.2.2) = (N, 0) := h3
          have := (Prod.mk.inj this).2
          omega
        | cons w L =>
          obtain ⟨w1, w2, _⟩ := h3
          have c := h.bnd 0 y w rfl rfl (Prod.mk.inj w1).1.symm
          exact k.inn z (List.mem_cons_self ..) y.2.2 (by omega) lt (by rw [e1]; exact c)
      have n1 := key h k
      have n2 := key k h
      obtain ⟨h1, h2, h3⟩ := id h.cov
      obtain ⟨k1, k2, k3⟩ := id k.cov
      have e1 : y.1 = z.1 := (Prod.mk.inj (h1.trans k1.symm)).1
      have e2 : y.2.1 = z.2.1 := (Prod.mk.inj (h1.trans k1.symm)).2
      have e3 : y.2.2 = z.2.2 := by omega
      obtain ⟨y1, y2, y3⟩ := y
      obtain ⟨z1, z2, z3⟩ := z
      dsimp only at e1 e2 e3
      subst e1 e2 e3
      have tl : ∀ {L : List It}, CutOk F f a (N, 0) ((y1, y2, y3) :: L) → CutOk F f (nx F y1 y3) (N, 0) L := fun {L} h => ⟨h.cov.2.2, fun w hw => h.inn w (List.mem_cons_of_mem _ hw), fun i u w hu hw => h.bnd (i + 1) u w hu hw⟩
      rw [CutOk.uniq (tl h) (tl k)]
section
variable {n : Int} {F : List Fact} (T : TreeM n F) (n2 : 2 ≤ n)
include T n2
theorem Img.next {gs : List MG} {f : Nat → Nat → Nd} {x : MG} (ok : ∀ y ∈ gs, MgOk F y) (h : Img F gs f) : ∃ f', Img F (gs ++ [x]) f' ∧ ∀ k t : Nat, k < F.length → (t : Int) ≤ sz F 1 k → Go F 1 x.1 x.2.1 x.2.2 (f k t) (f' k t) := by
  have ex : ∀ k t : Nat, ∃ v, k < F.length → (t : Int) ≤ sz F 1 k → Go F 1 x.1 x.2.1 x.2.2 (f k t) v := fun k t => by
    by_cases c : k < F.length ∧ (t : Int) ≤ sz F 1 k
    · have o : OnT F 1 (f k t) := GoL.on T (by decide) ok ⟨k, (t : Nat), ⟨c.1, Int.natCast_nonneg t, c.2⟩, rfl⟩ (h k t c.1 c.2)
      obtain ⟨v, hv⟩ := Go.ex (g := x.1) (p := x.2.1) (m := x.2.2) o
      exact ⟨v, fun _ _ => hv⟩
    · exact ⟨.cr 0, fun a b => absurd ⟨a, b⟩ c⟩
  obtain ⟨f', hf⟩ := Classical.skolem.mp fun k => Classical.skolem.mp (ex k)
  refine ⟨f', fun k t hk ht => (h k t hk ht).snoc ?_, hf⟩
  show Go F 1 x.1 (x.2.1 * 1) (x.2.2 * 1) _ _
  rw [Int.mul_one, Int.mul_one]
  exact hf k t hk ht
theorem Img.on {gs : List MG} {f : Nat → Nat → Nd} (ok : ∀ y ∈ gs, MgOk F y) (h : Img F gs f) {k t : Nat} (hk : k < F.length) (ht : (t : Int) ≤ sz F 1 k) : OnT F 1 (f k t) :=
  GoL.on T (by decide) ok ⟨k, (t : Nat), ⟨hk, Int.natCast_nonneg t, ht⟩, rfl⟩ (h k t hk ht)
/-- a path that doesn't turn back stays one -/
theorem Geo.ext {c : Nat} {x : Nat → Nd} (h : Geo F c x) (c1 : 1 ≤ c) (ad : Adj F 1 (x c) (x (c + 1))) (ne : x (c - 1) ≠ x (c + 1)) : Geo F (c + 1) x := by
  have o0 := h.on_ 0 (Nat.zero_le _)
  have on_ : ∀ t, t ≤ c + 1 → OnT F 1 (x t) := fun t ht => by
    by_cases q : t ≤ c
    · exact h.on_ t q
    · have : t = c + 1 := by omega
      subst this
      exact ad.on.2
  refine ⟨fun t ht => ?_, on_, ?_⟩
  · by_cases q : t < c
    · exact h.ch t q
    · have : t = c := by omega
      subst this
      exact ad
  · have st := Dn_adj T n2 ad o0
    have dc := h.far
    rw [Dn_sym T n2 o0 (on_ c (by omega))] at dc
    rw [Dn_sym T n2 o0 (on_ (c + 1) (Nat.le_refl _))]
    rcases st with s | s
    · rw [s, dc]
      omega
    · exfalso
      have d1 := (h.sub T n2 (a := 0) (b := c - 1) (by omega)).far
      simp only [Nat.zero_add] at d1
      rw [Dn_sym T n2 o0 (on_ (c - 1) (by omega))] at d1
      have a1 : Adj F 1 (x c) (x (c - 1)) := by
        have := (h.ch (c - 1) (by omega)).symm
        rw [show c - 1 + 1 = c by omega] at this
        exact this
      have oc1 := on_ (c - 1) (by omega)
      have oc := on_ c (by omega)
      have oc2 := on_ (c + 1) (Nat.le_refl _)
      obtain ⟨g, p, og, e0⟩ := o0
      have hN_ : ∀ {u : Nd}, OnT F 1 u → Dn F u (x 0) = hN F 1 g p u := fun ou => Dn_hN T n2 ou ⟨g, p, og, e0⟩ og e0.symm
      rw [hN_ oc1] at d1
      rw [hN_ oc] at dc
      rw [hN_ oc2, hN_ oc] at s
      exact ne (lower_uniq T (by decide) og a1 ad (by omega) (by omega))
end
end OT
set_option Elab.async false
set_option linter.all false
set_option maxRecDepth 100000
set_option maxHeartbeats 1000000
namespace OT
section
variable {n : Int} {F : List Fact} (T : TreeM n F) (n2 : 2 ≤ n)
include T n2
/-- a stretch's image at one of its positions, told by its ends -/
theorem Pw.at_ {f : Nat → Nd} {s e t : Nat} (h : Pw F f s e) (st : s ≤ t) (te : t ≤ e) (on_ : ∀ t, s ≤ t → t ≤ e → OnT F 1 (f t)) {g : Nat} {p : Int} (og : On F 1 g p) (eg : node F 1 g p = f e) {v : Nd} (go : Go F 1 g p ((t - s : Nat) : Int) (f s) v) : v = f t := by
  obtain ⟨k, i, ok, e1, e2⟩ := go
  have eD : Dn F (f s) (f e) = hP F 1 g p k i := by rw [e1, ← eg, Dn_hP T n2 ok og]
  have os := on_ s (Nat.le_refl _) (by omega)
  rcases h with h | h
  · have z : hP F 1 g p k i = 0 := by rw [← eD, h e (by omega) (Nat.le_refl _), Dn_self T n2 os]
    rw [e2, z, h t st te]
    have : (if (0 : Int) < ((t - s : Nat) : Int) then (0 : Int) else ((t - s : Nat) : Int)) = 0 := by split <;> omega
    rw [this, pth_0 T (by decide) og ok, e1]
  · have far := h.far
    rw [Nat.add_zero, show s + (e - s) = e by omega] at far
    have z : hP F 1 g p k i = ((e - s : Nat) : Int) := by rw [← eD, far]
    have w := h.way T n2 ok og (a := t - s) (by show f (s + 0) = _; exact e1) (by omega) (fun r hr => by
      show Dn F (f (s + r)) (node F 1 g p) = Dn F (f (s + 0)) (node F 1 g p) - r
      have d := (h.sub T n2 (a := r) (b := e - s - r) (by omega)).far
      have d : Dn F (f (s + (r + 0))) (f (s + (r + (e - s - r)))) = ((e - s - r : Nat) : Int) := d
      rw [Nat.add_zero, show s + (r + (e - s - r)) = e by omega] at d
      rw [eg, Nat.add_zero, d, far]
      omega) (t - s) (Nat.le_refl _)
    have w : f (s + (t - s)) = _ := w
    rw [show s + (t - s) = t by omega] at w
    rw [e2, z, w]
    congr 1
    split <;> omega
end
end OT
set_option Elab.async false
set_option linter.all false
set_option maxRecDepth 100000
set_option maxHeartbeats 1000000
namespace OT
/-- two lists of stretches that are gone through side by side: what is left of both, and what is known to agree -/
structure HS (F : List Fact) (f1 f2 : Nat → Nat → Nd) (N : Nat) (L1 L2 : List It) (s1 s2 : Nat × Nat) : Prop where
  cv1 : CovS F s1 (N, 0) L1
  cv2 : CovS F s2 (N, 0) L2
  rd : s1.1 = s2.1
  h1 : ∀ z, L1.head? = some z → s2.2 < z.2.2
  h2 : ∀ z, L2.head? = some z → s1.2 < z.2.2
  ag : ∀ k t : Nat, k < N → (t : Int) ≤ sz F 1 k → (k < s1.1 ∨ (k = s1.1 ∧ t < max s1.2 s2.2)) → f1 k t = f2 k t
theorem covS_head {F : List Fact} {s b : Nat × Nat} {L : List It} {z : It} (h : CovS F s b L) (e : L.head? = some z) : z.1 = s.1 ∧ z.2.1 = s.2 ∧ z.2.1 < z.2.2 := by
  cases L with
  | nil => cases e
  | cons y L =>
    cases e
    obtain ⟨h1, h2, _⟩ := h
    rw [← h1]
    exact ⟨rfl, rfl, h2⟩
section
variable {F : List Fact} {f1 f2 : Nat → Nat → Nd} {N : Nat} {L1 L2 : List It} {s1 s2 : Nat × Nat}
theorem HS.done (h : HS F f1 f2 N [] L2 s1 s2) : ∀ k t : Nat, k < N → (t : Int) ≤ sz F 1 k → f1 k t = f2 k t := fun k t hk ht => by
  have e : s1 = (N, 0) := h.cv1
  exact h.ag k t hk ht (.inl (by rw [e]; exact hk))
theorem HS.more {y : It} (h : HS F f1 f2 N (y :: L1) L2 s1 s2) : ∃ z L, L2 = z :: L := by
  cases L2 with
  | cons z L => exact ⟨z, L, rfl⟩
  | nil =>
    exfalso
    have e : s2 = (N, 0) := h.cv2
    have := CovS.in_ h.cv1 y (List.mem_cons_self ..)
    have := covS_head h.cv1 (z := y) rfl
    have := h.rd
    rw [e] at this
    dsimp only at this
    omega
theorem HS.heads {y z : It} (h : HS F f1 f2 N (y :: L1) (z :: L2) s1 s2) : y.1 = z.1 ∧ y.2.1 < y.2.2 ∧ z.2.1 < z.2.2 ∧ z.2.1 < y.2.2 ∧ y.2.1 < z.2.2 ∧ y.1 < N ∧ (y.2.2 : Int) ≤ sz F 1 y.1 ∧ (z.2.2 : Int) ≤ sz F 1 y.1 := by
  obtain ⟨a1, a2, a3⟩ := covS_head h.cv1 (z := y) rfl
  obtain ⟨b1, b2, b3⟩ := covS_head h.cv2 (z := z) rfl
  have i1 := CovS.in_ h.cv1 y (List.mem_cons_self ..)
  have i2 := CovS.in_ h.cv2 z (List.mem_cons_self ..)
  have r := h.rd
  have x1 := h.h1 y rfl
  have x2 := h.h2 z rfl
  have e : y.1 = z.1 := by omega
  refine ⟨e, a3, b3, by omega, by omega, i1.1, i1.2, ?_⟩
  rw [e]
  exact i2.2
/-- what was known before, at the two heads -/
theorem HS.before {y z : It} (h : HS F f1 f2 N (y :: L1) (z :: L2) s1 s2) : ∀ k t : Nat, k < N → (t : Int) ≤ sz F 1 k → (k < y.1 ∨ (k = y.1 ∧ t < max y.2.1 z.2.1)) → f1 k t = f2 k t := fun k t hk ht q => by
  obtain ⟨a1, a2, a3⟩ := covS_head h.cv1 (z := y) rfl
  obtain ⟨b1, b2, b3⟩ := covS_head h.cv2 (z := z) rfl
  exact h.ag k t hk ht (by rw [← a1, ← a2, ← b2]; exact q)
theorem HS.step {y z : It} (h : HS F f1 f2 N (y :: L1) (z :: L2) s1 s2) (eq : ∀ t, max y.2.1 z.2.1 ≤ t → t ≤ min y.2.2 z.2.2 → f1 y.1 t = f2 y.1 t) : ∃ s1' s2', HS F f1 f2 N (if y.2.2 ≤ z.2.2 then L1 else y :: L1) (if z.2.2 ≤ y.2.2 then L2 else z :: L2) s1' s2' := by
  obtain ⟨e1, e2, e3, e4, e5, e6, e7, e8⟩ := h.heads
  have bf := h.before
  obtain ⟨c1, c2, c3⟩ := h.cv1
  obtain ⟨d1, d2, d3⟩ := h.cv2
  obtain ⟨k, p1, q1⟩ := y
  obtain ⟨k', p2, q2⟩ := z
  dsimp only at *
  subst e1
  have all : ∀ t, t ≤ min q1 q2 → f1 k t = f2 k t := fun t ht => by
    by_cases w : t < max p1 p2
    · exact bf k t e6 (by omega) (.inr ⟨rfl, w⟩)
    · exact eq t (by omega) ht
  rcases Nat.lt_trichotomy q1 q2 with lt | eq' | gt
  · have nz : nx F k q1 = (k, q1) := by
      unfold nx
      rw [if_neg (by omega)]
    rw [nz] at c3
    rw [if_pos (by omega), if_neg (by omega)]
    refine ⟨(k, q1), (k, p2), c3, ⟨rfl, d2, d3⟩, rfl, fun z hz => ?_, fun z hz => ?_, fun k2 t hk ht q => ?_⟩
    · have := covS_head c3 hz
      dsimp only at this ⊢
      omega
    · cases hz
      exact lt
    · rcases q with q | ⟨q, w⟩
      · exact bf k2 t hk ht (.inl q)
      · have q : k2 = k := q
        subst q
        have w : t < max q1 p2 := w
        exact all t (by omega)
  · subst eq'
    rw [if_pos (Nat.le_refl _), if_pos (Nat.le_refl _)]
    refine ⟨_, _, c3, d3, rfl, fun z hz => ?_, fun z hz => ?_, fun k2 t hk ht q => ?_⟩
    · have := covS_head c3 hz
      omega
    · have := covS_head d3 hz
      omega
    · by_cases lk : k2 < k
      · exact bf k2 t hk ht (.inl lk)
      · by_cases w : (q1 : Int) = sz F 1 k
        · have nz : nx F k q1 = (k + 1, 0) := by
            unfold nx
            rw [if_pos w]
          rw [nz] at q
          dsimp only at q
          have : k2 = k := by omega
          subst this
          exact all t (by omega)
        · have nz : nx F k q1 = (k, q1) := by
            unfold nx
            rw [if_neg w]
          rw [nz] at q
          dsimp only at q
          have : k2 = k := by omega
          subst this
          exact all t (by omega)
  · have nz : nx F k q2 = (k, q2) := by
      unfold nx
      rw [if_neg (by omega)]
    rw [nz] at d3
    rw [if_neg (by omega), if_pos (by omega)]
    refine ⟨(k, p1), (k, q2), ⟨rfl, c2, c3⟩, d3, rfl, fun z hz => ?_, fun z hz => ?_, fun k2 t hk ht q => ?_⟩
    · cases hz
      exact gt
    · have := covS_head d3 hz
      dsimp only at this ⊢
      omega
    · rcases q with q | ⟨q, w⟩
      · exact bf k2 t hk ht (.inl q)
      · have q : k2 = k := q
        subst q
        have w : t < max p1 q2 := w
        exact all t (by omega)
end
end OT
set_option Elab.async false
set_option linter.all false
set_option maxRecDepth 100000
set_option maxHeartbeats 4000000
set_option Elab.async false
set_option linter.all false
set_option maxRecDepth 100000
set_option maxHeartbeats 4000000
namespace OT
open PySem L2 OTR
theorem paired_snocQ {α β : Type} {R : α → β → Prop} {b : β} : ∀ {bs : List β} {as : List α}, Paired R as (bs ++ [b]) → ∃ as0 a, as = as0 ++ [a] ∧ Paired R as0 bs ∧ R a b
  | [], _, .cons h .nil => ⟨[], _, rfl, .nil, h⟩
  | _ :: bs, _, .cons h k => by
    obtain ⟨as0, a, rfl, k0, r⟩ := paired_snocQ (bs := bs) k
    exact ⟨_ :: as0, a, rfl, .cons h k0, r⟩
end OT
set_option Elab.async false
set_option linter.all false
set_option maxRecDepth 100000
set_option maxHeartbeats 4000000
set_option Elab.async false
set_option linter.all false
set_option maxRecDepth 100000
set_option maxHeartbeats 4000000
namespace OT
open PySem L2 OTR
theorem Cov.mem {e : Nat} : ∀ {L : List (Nat × Nat)} {s : Nat}, Cov s e L → ∀ z ∈ L, s ≤ z.1 ∧ z.1 < z.2 ∧ z.2 ≤ e
  | [], s, _, z, h => by cases h
  | y :: L, s, ⟨h1, h2, h3⟩, z, h => by
    have l := h3.le.1
    rcases List.mem_cons.mp h with q | h
    · subst q
      omega
    · have := h3.mem z h
      omega
end OT
set_option Elab.async false
set_option linter.all false
set_option maxRecDepth 100000
set_option maxHeartbeats 4000000
set_option Elab.async false
set_option linter.all false
set_option maxRecDepth 100000
set_option maxHeartbeats 4000000
namespace OTR
open PySem PySem.Spec L2 PyProof.Rows
end OTR
set_option Elab.async false
set_option linter.all false
set_option maxRecDepth 100000
set_option maxHeartbeats 4000000
namespace OT
open PySem L2 OTR
def AlAt (C : Addr) (H : Hp) (p : Addr) : Prop := ∃ dx, H p = some (.ins C dx [])
theorem AlAt.same {C : Addr} {H H' : Hp} {p : Addr} (h : AlAt C H p) (s : Same H H') : AlAt C H' p := let ⟨dx, e⟩ := h; ⟨dx, s _ _ e⟩
def ptF (a b c : Addr) : List (Str × V) := [("place", .ref a), ("ours", .ref b), ("theirs", .ref c)]
def PtAt (C : Addr) (H : Hp) (p a b c : Addr) : Prop := ∃ dx, H p = some (.ins C dx (ptF a b c))
/-- a finding that two rows part: the place, and where it is led -/
def PtS (C CP : Addr) (H : Hp) (p : Addr) (z : Fact × Fact × Fact) : Prop := ∃ a b c, PtAt C H p a b c ∧ PlaceAt CP H a z.1 ∧ PlaceAt CP H b z.2.1 ∧ PlaceAt CP H c z.2.2
theorem PtS.kp {C CP : Addr} {H H' : Hp} {p : Addr} {z : Fact × Fact × Fact} (h : PtS C CP H p z) (k : Kp H H') : PtS C CP H' p z := let ⟨a, b, c, ⟨dx, e⟩, p1, p2, p3⟩ := h; ⟨a, b, c, ⟨dx, k _ _ e fun _ z => nomatch z⟩, p1.kp k, p2.kp k, p3.kp k⟩
end OT
set_option Elab.async false
set_option linter.all false
set_option maxRecDepth 100000
set_option maxHeartbeats 4000000
namespace OT
open PySem L2 OTR
/-- what is never reached -/
theorem ps_dead {X : Cx} {st : Stmt} : PS X st (fun _ _ _ => False) := ⟨fun _ _ _ _ _ _ h => h.elim⟩
end OT
set_option Elab.async false
set_option linter.all false
set_option maxRecDepth 100000
set_option maxHeartbeats 4000000
namespace OT
open PySem L2 OTR
abbrev sBkI : Stmt := inClass (top 46) 0
abbrev sBkRow : Stmt := inClass (top 46) 3
abbrev sBkWhere : Stmt := inClass (top 46) 7
abbrev sBkMany : Stmt := inClass (top 46) 10
abbrev sBkChange : Stmt := inClass (top 46) 12
abbrev sChkKept : Stmt := top 48
abbrev sNoNameI : Stmt := inClass (top 10) 0
abbrev sNoRowI : Stmt := inClass (top 11) 0
/-- what the walk asks of Book -/
structure BkT (K : PySem.W.Frag) (mg : Str → Option Value) (C : Addr) : Prop where
  cl : Cls K C
  nT : NoAttr K C "tree"
  nK : NoAttr K C "kept"
  nF : NoAttr K C "folk"
  nA : NoAttr K C "answers"
  nP : NoAttr K C "past"
  mgC : mg "Book" = some (.ref C)
section
variable (x D L A P : Addr)
theorem bkF_t : (bkF x D L A P).lookup ("tree" : Str) = some (.ref x) := lk0
theorem bkF_k : (bkF x D L A P).lookup ("kept" : Str) = some (.ref D) := by
  unfold bkF
  rw [lk1 (by decide +kernel)]
  exact lk0
theorem bkF_f : (bkF x D L A P).lookup ("folk" : Str) = some (.ref L) := by
  unfold bkF
  rw [lk1 (by decide +kernel), lk1 (by decide +kernel)]
  exact lk0
theorem bkF_a : (bkF x D L A P).lookup ("answers" : Str) = some (.ref A) := by
  unfold bkF
  rw [lk1 (by decide +kernel), lk1 (by decide +kernel), lk1 (by decide +kernel)]
  exact lk0
theorem bkF_p : (bkF x D L A P).lookup ("past" : Str) = some (.ref P) := by
  unfold bkF
  rw [lk1 (by decide +kernel), lk1 (by decide +kernel), lk1 (by decide +kernel), lk1 (by decide +kernel)]
  exact lk0
end
theorem pf_pos {f g : Str} {v u : V} {r : List (Str × V)} (h : g = f) : putF f v ((g, u) :: r) = (g, v) :: r := by
  show (if g = f then _ else _) = _
  rw [if_pos h]
theorem pf_neg {f g : Str} {v u : V} {r : List (Str × V)} (h : ¬ g = f) : putF f v ((g, u) :: r) = (g, u) :: putF f v r := by
  show (if g = f then _ else _) = _
  rw [if_neg h]
theorem bkP_k (x D L A P D' : Addr) : putF "kept" (.ref D') (bkF x D L A P) = bkF x D' L A P := by
  unfold bkF
  rw [pf_neg (by decide +kernel), pf_pos rfl]
theorem bkP_f (x D L A P L' : Addr) : putF "folk" (.ref L') (bkF x D L A P) = bkF x D L' A P := by
  unfold bkF
  rw [pf_neg (by decide +kernel), pf_neg (by decide +kernel), pf_pos rfl]
theorem bkP_a (x D L A P A' : Addr) : putF "answers" (.ref A') (bkF x D L A P) = bkF x D L A' P := by
  unfold bkF
  rw [pf_neg (by decide +kernel), pf_neg (by decide +kernel), pf_neg (by decide +kernel), pf_pos rfl]
abbrev bk0 (x : Addr) : List (Str × V) := [("tree", .ref x)]
abbrev bk1 (x D : Addr) : List (Str × V) := [("tree", .ref x), ("kept", .ref D)]
abbrev bk2 (x D L : Addr) : List (Str × V) := [("tree", .ref x), ("kept", .ref D), ("folk", .ref L)]
abbrev bk3 (x D L A : Addr) : List (Str × V) := [("tree", .ref x), ("kept", .ref D), ("folk", .ref L), ("answers", .ref A)]
theorem bkP1 (x D : Addr) : putF "kept" (.ref D) (bk0 x) = (bk1 x D) := by
  rw [pf_neg (by decide +kernel)]
  rfl
theorem bkP2 (x D L : Addr) : putF "folk" (.ref L) (bk1 x D) = (bk2 x D L) := by
  rw [pf_neg (by decide +kernel), pf_neg (by decide +kernel)]
  rfl
theorem bkP3 (x D L A : Addr) : putF "answers" (.ref A) (bk2 x D L) = (bk3 x D L A) := by
  rw [pf_neg (by decide +kernel), pf_neg (by decide +kernel), pf_neg (by decide +kernel)]
  rfl
theorem bkP4 (x D L A P : Addr) : putF "past" (.ref P) (bk3 x D L A) = bkF x D L A P := by
  rw [pf_neg (by decide +kernel), pf_neg (by decide +kernel), pf_neg (by decide +kernel), pf_neg (by decide +kernel)]
  rfl
theorem same_put {B H : Hp} {a : Addr} {o : HO} (s : Same B H) (n : B a = none) : Same B (upd H a o) := fun b o' e => by
  rw [upd_ne (ne_of_none e n)]
  exact s b o' e
def spBkI (K : PySem.W.Frag) (CT CR CM CP CW CBk : Addr) : Sp := fun vs H Q _ => ∃ (B : Hp) (a dx x : Addr) (n S : Int) (ps : List Addr) (F : List Fact) (av : List Addr), vs = [.ref a, .ref x] ∧ H a = some (.ins CBk dx []) ∧ Same B H ∧ B a = none ∧ TreeAt K CT CR B x n ps F ∧ TreeG n F ∧ 1 ≤ S ∧ S ≤ 1000 ∧ (∀ c ∈ av, B c ≠ none) ∧
  ∀ H' P, Same B H' → B P = none → H' P ≠ none → P ≠ a → BookAt K CT CR CM CP CW CBk n F S (P :: av) H' a P ⟨[], [], []⟩ [] → Q .non H'
def spBkChange (K : PySem.W.Frag) (CT CR CM CP CW CBk : Addr) : Sp := fun vs H Q _ => ∃ (b P D L A : Addr) (n S : Int) (F : List Fact) (av : List Addr) (st st' : BSt) (hist : List BSt), vs = [.ref b, .ref D, .ref L, .ref A] ∧ BookAt K CT CR CM CP CW CBk n F S av H b P st hist ∧ BkSt K CT CR CM CP CW n F S av H D L A st' ∧ hist.length < 100000 ∧
  ∀ H', KzB b P H H' → BookAt K CT CR CM CP CW CBk n F S av H' b P st' (hist ++ [st]) → Q .non H'
def spChkKept (CNo : Addr) : Sp := fun vs H Q E => ∃ (D : Addr) (z : Str) (kvs : List (Key × V)), vs = [.ref D, .str z] ∧ H D = some (.dK kvs) ∧ (valV kvs (.inr z) = none → Raised CNo [("name", .str z)] H E) ∧ ((valV kvs (.inr z)).isSome = true → Q .non H)
def spBkRow (K : PySem.W.Frag) (CT CR CM CP CW CBk CNo : Addr) : Sp := fun vs H Q E => ∃ (b P : Addr) (n S : Int) (F : List Fact) (av : List Addr) (st : BSt) (hist : List BSt) (z : Str), vs = [.ref b, .str z] ∧ BookAt K CT CR CM CP CW CBk n F S av H b P st hist ∧
  (rowOf st.rows z = none → Raised CNo [("name", .str z)] H E) ∧ ∀ xs, rowOf st.rows z = some xs → ∀ rw, RowS K CT CR CM CP CW H rw n F xs → Q (.ref rw) H
def spBkWhere (K : PySem.W.Frag) (CT CR CM CP CW CBk : Addr) : Sp := fun vs H Q _ => ∃ (b P : Addr) (n S : Int) (F : List Fact) (av : List Addr) (st : BSt) (hist : List BSt), vs = [.ref b] ∧ BookAt K CT CR CM CP CW CBk n F S av H b P st hist ∧
  ∀ l (ps : List Addr), H l = none → Paired (fun p u => PlaceAt CP H p (keyF F S u)) ps st.folk → Q (.ref l) (upd H l (.lst (ps.map V.ref)))
def spBkMany (K : PySem.W.Frag) (CT CR CM CP CW CBk : Addr) : Sp := fun vs H Q _ => ∃ (b P : Addr) (n S : Int) (F : List Fact) (av : List Addr) (st : BSt) (hist : List BSt), vs = [.ref b] ∧ BookAt K CT CR CM CP CW CBk n F S av H b P st hist ∧ Q (.int (hist.length : Nat)) H
section
variable {P : Program} {w : World} {K : PySem.W.Frag} {mg : Str → Option Value} {base : Heap}
theorem scBkI : FnScope ["self", "tree"] ["self", "tree"] (defScope sBkI) := ⟨rfl, rfl, rfl, by decide +kernel, rfl, by decide +kernel, by decide +kernel⟩
theorem ok_bkI {f CT CR CM CP CW CBk : Addr} {fd : FuncData} (F0 : Fun K "__init__" "Book.__init__" sBkI f fd) (T : BkT K mg CBk) : FnOk P w K mg base CX0 1 f fd ["self", "tree"] (spBkI K CT CR CM CP CW CBk) := by
  refine F0.ok scBkI (fun vs H Q E h => ?_) (fun cdv A outer s0 H vs Q E hr h => ?_)
  · obtain ⟨B, a, dx, x, n, S, ps, fs, av, rfl, _⟩ := h
    rfl
  · obtain ⟨B, a, dx, x, n, S, ps, fs, av, rfl, ha, sB, Ba, TA, TG, S1, S2, old, kont⟩ := h
    refine ⟨_, pss_cons (ps_fld (pv 0) (pv 1) rfl)
      (pss_cons (ps_fld (pv 0) pe_dnewK rfl)
      (pss_cons (ps_fld (pv 0) (pe_lst pa_nil) rfl)
      (pss_cons (ps_fld (pv 0) pe_dnewT rfl)
      (pss_one (ps_fld (pv 0) (pe_lst pa_nil) rfl))))), ?_⟩
    -- tree
    refine ⟨_, rfl, _, rfl, a, CBk, dx, [], rfl, ha, T.cl, T.nT, (by show 0 < 1000; decide), ?_⟩
    have s1 : Same B (upd H a (.ins CBk dx (putF "tree" (.ref x) []))) := same_put sB Ba
    have e1 : upd H a (.ins CBk dx (putF "tree" (.ref x) [])) a = some (.ins CBk dx (bk0 x)) := upd_same
    generalize upd H a (.ins CBk dx (putF "tree" (.ref x) [])) = H1 at s1 e1 ⊢
    -- kept
    refine fun D hD => ⟨_, rfl, a, CBk, dx, _, rfl, (upd_ne (ne_of_none e1 hD)).trans e1, T.cl, T.nK, (by show 1 < 1000; decide), ?_⟩
    rw [bkP1]
    have nD : D ≠ a := fun z => by rw [z, e1] at hD; cases hD
    have s2 : Same B (upd (upd H1 D (.dK [])) a (.ins CBk dx (bk1 x D))) := same_put (s1.trans (Same.new hD)) Ba
    have e2 : upd (upd H1 D (.dK [])) a (.ins CBk dx (bk1 x D)) a = some (.ins CBk dx (bk1 x D)) := upd_same
    have gD : upd (upd H1 D (.dK [])) a (.ins CBk dx (bk1 x D)) D = some (.dK []) := (upd_ne nD).trans upd_same
    generalize upd (upd H1 D (.dK [])) a (.ins CBk dx (bk1 x D)) = H2 at s2 e2 gD ⊢
    -- folk
    refine ⟨Nat.zero_le _, fun L hL => ⟨_, rfl, a, CBk, dx, _, rfl, (upd_ne (ne_of_none e2 hL)).trans e2, T.cl, T.nF, (by show 2 < 1000; decide), ?_⟩⟩
    rw [bkP2]
    have nL : L ≠ a := fun z => by rw [z, e2] at hL; cases hL
    have bL : B L = none := Same.free s2 hL
    have s3 : Same B (upd (upd H2 L (.lst [])) a (.ins CBk dx (bk2 x D L))) := same_put (s2.trans (Same.new hL)) Ba
    have e3 : upd (upd H2 L (.lst [])) a (.ins CBk dx (bk2 x D L)) a = some (.ins CBk dx (bk2 x D L)) := upd_same
    have gD3 : upd (upd H2 L (.lst [])) a (.ins CBk dx (bk2 x D L)) D = some (.dK []) := (upd_ne nD).trans ((upd_ne (ne_of_none gD hL)).trans gD)
    have gL3 : upd (upd H2 L (.lst [])) a (.ins CBk dx (bk2 x D L)) L = some (.lst []) := (upd_ne nL).trans upd_same
    generalize upd (upd H2 L (.lst [])) a (.ins CBk dx (bk2 x D L)) = H3 at s3 e3 gD3 gL3 ⊢
    -- answers
    refine fun A hA => ⟨_, rfl, a, CBk, dx, _, rfl, (upd_ne (ne_of_none e3 hA)).trans e3, T.cl, T.nA, (by show 3 < 1000; decide), ?_⟩
    rw [bkP3]
    have nA : A ≠ a := fun z => by rw [z, e3] at hA; cases hA
    have s4 : Same B (upd (upd H3 A (.dT [])) a (.ins CBk dx (bk3 x D L A))) := same_put (s3.trans (Same.new hA)) Ba
    have e4 : upd (upd H3 A (.dT [])) a (.ins CBk dx (bk3 x D L A)) a = some (.ins CBk dx (bk3 x D L A)) := upd_same
    have gD4 : upd (upd H3 A (.dT [])) a (.ins CBk dx (bk3 x D L A)) D = some (.dK []) := (upd_ne nD).trans ((upd_ne (ne_of_none gD3 hA)).trans gD3)
    have gL4 : upd (upd H3 A (.dT [])) a (.ins CBk dx (bk3 x D L A)) L = some (.lst []) := (upd_ne nL).trans ((upd_ne (ne_of_none gL3 hA)).trans gL3)
    have gA4 : upd (upd H3 A (.dT [])) a (.ins CBk dx (bk3 x D L A)) A = some (.dT []) := (upd_ne nA).trans upd_same
    generalize upd (upd H3 A (.dT [])) a (.ins CBk dx (bk3 x D L A)) = H4 at s4 e4 gD4 gL4 gA4 ⊢
    -- past
    refine ⟨Nat.zero_le _, fun PP hP => ⟨_, rfl, a, CBk, dx, _, rfl, (upd_ne (ne_of_none e4 hP)).trans e4, T.cl, T.nP, (by show 4 < 1000; decide), ?_⟩⟩
    rw [bkP4]
    have nP : PP ≠ a := fun z => by rw [z, e4] at hP; cases hP
    have bP : B PP = none := Same.free s4 hP
    have s5 : Same B (upd (upd H4 PP (.lst [])) a (.ins CBk dx (bkF x D L A PP))) := same_put (s4.trans (Same.new hP)) Ba
    have e5 : upd (upd H4 PP (.lst [])) a (.ins CBk dx (bkF x D L A PP)) a = some (.ins CBk dx (bkF x D L A PP)) := upd_same
    have gD5 : upd (upd H4 PP (.lst [])) a (.ins CBk dx (bkF x D L A PP)) D = some (.dK []) := (upd_ne nD).trans ((upd_ne (ne_of_none gD4 hP)).trans gD4)
    have gL5 : upd (upd H4 PP (.lst [])) a (.ins CBk dx (bkF x D L A PP)) L = some (.lst []) := (upd_ne nL).trans ((upd_ne (ne_of_none gL4 hP)).trans gL4)
    have gA5 : upd (upd H4 PP (.lst [])) a (.ins CBk dx (bkF x D L A PP)) A = some (.dT []) := (upd_ne nA).trans ((upd_ne (ne_of_none gA4 hP)).trans gA4)
    have gP5 : upd (upd H4 PP (.lst [])) a (.ins CBk dx (bkF x D L A PP)) PP = some (.lst []) := (upd_ne nP).trans upd_same
    have lav : L ∉ PP :: av := fun z => (List.mem_cons.mp z).elim (fun z => by rw [← z, gL4] at hP; cases hP) fun z => old L z bL
    exact kont _ PP s5 bP (by rw [gP5]; exact fun z => nomatch z) nP ⟨⟨dx, x, D, L, A, ps, [], e5, TA.same s5, ⟨⟨List.nodup_nil, List.nodup_nil, Nat.zero_le _, Nat.zero_le _, Nat.zero_le _, fun _ z => nomatch z⟩, ⟨[], gD5, .nil⟩, ⟨[], gL5, .nil⟩, lav, gA5⟩, gP5, .nil⟩, TG, S1, S2, List.mem_cons_self, Nat.zero_le _⟩
end
end OT
set_option Elab.async false
set_option linter.all false
set_option maxRecDepth 100000
set_option maxHeartbeats 4000000
namespace OT
open PySem L2 OTR
section
variable {P : Program} {w : World} {K : PySem.W.Frag} {mg : Str → Option Value} {base : Heap}
theorem scNoNameI : FnScope ["self", "name"] ["self", "name"] (defScope sNoNameI) := ⟨rfl, rfl, rfl, by decide +kernel, rfl, by decide +kernel, by decide +kernel⟩
theorem ok_noNameI {f C : Addr} {fd : FuncData} (F : Fun K "__init__" "NoName.__init__" sNoNameI f fd) (T : OexC K C) (n1 : PySem.W.findIn K (.ref C) "name" = some none) : FnOk P w K mg base CX0 1 f fd ["self", "name"] (spEr1 C "name") := by
  refine F.ok scNoNameI (fun vs H Q E h => ?_) (fun cdv A outer s H vs Q E hr h => ?_)
  · obtain ⟨a, v, rfl, _⟩ := h
    rfl
  · obtain ⟨a, v, rfl, ha, k⟩ := h
    refine ⟨_, pss_one (ps_ost (pv 0) (pv 1)), ?_⟩
    exact ⟨_, rfl, _, rfl, a, C, rfl, T, n1, .inl ⟨ha, fun dx n ne => k dx n ne⟩⟩
theorem scNoRowI : FnScope ["self", "name"] ["self", "name"] (defScope sNoRowI) := ⟨rfl, rfl, rfl, by decide +kernel, rfl, by decide +kernel, by decide +kernel⟩
theorem ok_noRowI {f C : Addr} {fd : FuncData} (F : Fun K "__init__" "NoRow.__init__" sNoRowI f fd) (T : OexC K C) (n1 : PySem.W.findIn K (.ref C) "name" = some none) : FnOk P w K mg base CX0 1 f fd ["self", "name"] (spEr1 C "name") := by
  refine F.ok scNoRowI (fun vs H Q E h => ?_) (fun cdv A outer s H vs Q E hr h => ?_)
  · obtain ⟨a, v, rfl, _⟩ := h
    rfl
  · obtain ⟨a, v, rfl, ha, k⟩ := h
    refine ⟨_, pss_one (ps_ost (pv 0) (pv 1)), ?_⟩
    exact ⟨_, rfl, _, rfl, a, C, rfl, T, n1, .inl ⟨ha, fun dx n ne => k dx n ne⟩⟩
theorem scBkChange : FnScope ["self", "kept", "folk", "answers"] ["self", "kept", "folk", "answers"] (defScope sBkChange) := ⟨rfl, rfl, rfl, by decide +kernel, rfl, by decide +kernel, by decide +kernel⟩
theorem ok_bkChange {f CT CR CM CP CW CBk : Addr} {fd : FuncData} (F0 : Fun K "change" "Book.change" sBkChange f fd) (T : BkT K mg CBk) : FnOk P w K mg base CX0 1 f fd ["self", "kept", "folk", "answers"] (spBkChange K CT CR CM CP CW CBk) := by
  refine F0.ok scBkChange (fun vs H Q E h => ?_) (fun cdv A outer s0 H vs Q E hr h => ?_)
  · obtain ⟨b, P, D, L, A, n, S, fs, av, st, st', hist, rfl, _⟩ := h
    rfl
  · obtain ⟨b, PP, D', L', A', n, S, fs, av, st, st', hist, rfl, BK, ST', short, kont⟩ := h
    refine ⟨_, pss_cons (ps_expr (pe_bm PySem.F.plainAttrs_list PySem.F.slot_list_append PySem.F.type_list_append mt_append (pe_fld (pv 0) rfl) (pa_cons (pe_tup (pa_cons (pe_fld (pv 0) rfl) (pa_cons (pe_fld (pv 0) rfl) (pa_cons (pe_fld (pv 0) rfl) pa_nil)))) pa_nil)))
      (pss_cons (ps_fld (pv 0) (pv 1) rfl) (pss_cons (ps_fld (pv 0) (pv 2) rfl) (pss_one (ps_fld (pv 0) (pv 3) rfl)))), ?_⟩
    obtain ⟨dx, x, D, L, A, ps, ts, e, TA, ST, eP, pr⟩ := BK.at_
    -- self.past.append((self.kept, self.folk, self.answers))
    refine ⟨_, rfl, b, CBk, dx, _, _, rfl, e, T.cl, T.nP, bkF_p x D L A PP, .inl ⟨rfl, _, SqL.of eP⟩, _, rfl, b, CBk, dx, _, _, rfl, e, T.cl, T.nK, bkF_k x D L A PP, _, rfl, b, CBk, dx, _, _, rfl, e, T.cl, T.nF, bkF_f x D L A PP, _, rfl, b, CBk, dx, _, _, rfl, e, T.cl, T.nA, bkF_a x D L A PP,
      (by show 3 ≤ sizeLine; decide), fun t ht => ?_⟩
    have ln : ts.length = hist.length := Paired.length pr
    have st1 := Same.new (o := .tup [.ref D, .ref L, .ref A]) ht
    have nPb : PP ≠ b := fun z => by rw [z, e] at eP; cases eP
    have nt : t ≠ PP := fun z => by rw [z, eP] at ht; cases ht
    have ntb : t ≠ b := fun z => by rw [z, e] at ht; cases ht
    refine ⟨PP, _, _, rfl, rfl, st1 _ _ eP, (by rw [PySem.sizeLine_eq, List.length_map]; omega), ?_⟩
    have e1 : upd (upd H t (.tup [.ref D, .ref L, .ref A])) PP (.lst (ts.map V.ref ++ [.ref t])) b = some (.ins CBk dx (bkF x D L A PP)) := (upd_ne nPb.symm).trans (st1 _ _ e)
    have k1 : KzB b PP H (upd (upd H t (.tup [.ref D, .ref L, .ref A])) PP (.lst (ts.map V.ref ++ [.ref t]))) := fun c o ec n m => (upd_ne m).trans (st1 _ _ ec)
    have gP1 : upd (upd H t (.tup [.ref D, .ref L, .ref A])) PP (.lst (ts.map V.ref ++ [.ref t])) PP = some (.lst ((ts ++ [t]).map V.ref)) := by rw [List.map_append]; exact upd_same
    have gt1 : upd (upd H t (.tup [.ref D, .ref L, .ref A])) PP (.lst (ts.map V.ref ++ [.ref t])) t = some (.tup [.ref D, .ref L, .ref A]) := (upd_ne nt).trans upd_same
    generalize upd (upd H t (.tup [.ref D, .ref L, .ref A])) PP (.lst (ts.map V.ref ++ [.ref t])) = H1 at e1 k1 gP1 gt1 ⊢
    -- the new state
    refine ⟨_, rfl, _, rfl, b, CBk, dx, _, rfl, e1, T.cl, T.nK, (by show 5 < 1000; decide), ?_⟩
    rw [bkP_k]
    refine ⟨_, rfl, _, rfl, b, CBk, dx, _, rfl, upd_same, T.cl, T.nF, (by show 5 < 1000; decide), ?_⟩
    rw [bkP_f]
    refine ⟨_, rfl, _, rfl, b, CBk, dx, _, rfl, upd_same, T.cl, T.nA, (by show 5 < 1000; decide), ?_⟩
    rw [bkP_a]
    have e4 : upd (upd (upd H1 b (.ins CBk dx (bkF x D' L A PP))) b (.ins CBk dx (bkF x D' L' A PP))) b (.ins CBk dx (bkF x D' L' A' PP)) b = some (.ins CBk dx (bkF x D' L' A' PP)) := upd_same
    have kb : ∀ c o, H1 c = some o → c ≠ b → upd (upd (upd H1 b (.ins CBk dx (bkF x D' L A PP))) b (.ins CBk dx (bkF x D' L' A PP))) b (.ins CBk dx (bkF x D' L' A' PP)) c = some o := fun c o ec n => by
      rw [upd_ne n, upd_ne n, upd_ne n]
      exact ec
    generalize upd (upd (upd H1 b (.ins CBk dx (bkF x D' L A PP))) b (.ins CBk dx (bkF x D' L' A PP))) b (.ins CBk dx (bkF x D' L' A' PP)) = H4 at e4 kb ⊢
    have k4 : KzB b PP H H4 := fun c o ec n m => kb _ _ (k1 _ _ ec n m) n
    have kz := BK.kz k4
    have kl : ∀ (D L A : Addr) (s' : BSt), BkSt K CT CR CM CP CW n fs S av H D L A s' → ∀ xs, H L = some (.lst xs) → H4 L = some (.lst xs) := fun D L A s' hs xs eL => k4 _ _ eL (fun z => by rw [z, e] at eL; cases eL) fun z => hs.av (z ▸ BK.inP)
    refine kont H4 k4 ⟨⟨dx, x, D', L', A', ps, ts ++ [t], e4, TA.kz kz, ST'.kz kz (kl _ _ _ _ ST'), kb _ _ gP1 nPb, ?_⟩, BK.G, BK.S1, BK.S2, BK.inP, by rw [List.length_append]; show hist.length + 1 ≤ _; omega⟩
    refine paired_snoc (Paired.mapP pr fun _ _ ⟨D1, L1, A1, e', s'⟩ => ⟨D1, L1, A1, kz _ _ e' .tup, s'.kz kz (kl _ _ _ _ s')⟩) ⟨D, L, A, kb _ _ gt1 ntb, ST.kz kz (kl _ _ _ _ ST)⟩
theorem scChkKept : FnScope ["kept", "name"] ["kept", "name"] (defScope sChkKept) := ⟨rfl, rfl, rfl, by decide +kernel, rfl, by decide +kernel, by decide +kernel⟩
theorem ok_chkKept {f CNo fNo : Addr} {fd fdNo : FuncData} (F0 : Fun K "check_kept" "check_kept" sChkKept f fd) (TN : ErT K mg "NoRow" CNo fNo) (FN : FnOk P w K mg base CX0 1 fNo fdNo ["self", "name"] (spEr1 CNo "name")) (bN : Binds K fdNo ["self", "name"] []) : FnOk P w K mg base (L2.CX P w) 3 f fd ["kept", "name"] (spChkKept CNo) := by
  refine F0.okX scChkKept (fun vs H Q E h => ?_) (fun cdv A outer s0 H vs Q E hr h => ?_)
  · obtain ⟨D, z, kvs, rfl, _⟩ := h
    rfl
  · obtain ⟨D, z, kvs, rfl, hD, k1, k2⟩ := h
    have hu : (A.deeper (PyProof.Rows.envOfC "check_kept" (defScope sChkKept) s0.heap.objs.size f cdv)).units + 1 < cLine := by
      have := hr.units
      omega
    refine ⟨_, pss_one (ps_if (pt_cmp (pc_dnotin hu (pv 1) (pv 0)))
        (pss_one (ps_raise rfl (takes_of rfl rfl rfl rfl) (pmk_oex TN.ox TN.iC TN.tI FN hr bN .nil pass0 (by rfl) TN.gC (pa_cons (pv 1) pa_nil))))
        pss_nil), ?_⟩
    refine ⟨_, rfl, _, rfl, D, _, rfl, DGet.k (k := .inr z) hD, _, rfl, ?_⟩
    cases c : valV kvs (.inr z) with
    | none => exact iteT ⟨_, rfl, len1, fun b hb => er1 hb (k1 c)⟩
    | some v => exact iteF (k2 (by rw [c]; rfl))
end
end OT
set_option Elab.async false
set_option linter.all false
set_option maxRecDepth 100000
set_option maxHeartbeats 4000000
namespace OT
open PySem L2 OTR
abbrev sBkBack : Stmt := inClass (top 46) 11
abbrev sBkPost : Stmt := inClass (top 46) 5
def spBkBack (K : PySem.W.Frag) (CT CR CM CP CW CBk : Addr) : Sp := fun vs H Q _ => ∃ (b P : Addr) (n S : Int) (F : List Fact) (av : List Addr) (st s' : BSt) (hist : List BSt), vs = [.ref b] ∧ BookAt K CT CR CM CP CW CBk n F S av H b P st (hist ++ [s']) ∧
  ∀ H', KzB b P H H' → BookAt K CT CR CM CP CW CBk n F S av H' b P s' hist → Q .non H'
def spBkPost (K : PySem.W.Frag) (CT CR CM CP CW CBk CB CNR COR : Addr) : Sp := fun vs H Q E => ∃ (b P p : Addr) (n S i : Int) (k : Nat) (F : List Fact) (av : List Addr) (st : BSt) (hist : List BSt) (r : Fact), vs = [.ref b, .ref p] ∧ BookAt K CT CR CM CP CW CBk n F S av H b P st hist ∧ PlaceAt CP H p r ∧ PlSm r ∧ low r = r ∧ hist.length < 100000 ∧ (∀ c ∈ av, H c ≠ none) ∧
  PlErr CNR COR F r H E ∧ (PlOn F r → 24 ≤ st.folk.length → Raised CB [("count", .int 25), ("what", .str "folk")] H E) ∧ (PlOn F r → PlE F S r k i) ∧
  (PlOn F r → st.folk.length < 24 → ∀ H', KzB b P H H' → BookAt K CT CR CM CP CW CBk n F S av H' b P ⟨st.rows, st.folk ++ [node F S k i], st.ans⟩ (hist ++ [st]) → Q (.int (st.folk.length : Nat)) H')
section
variable {P : Program} {w : World} {K : PySem.W.Frag} {mg : Str → Option Value} {base : Heap}
theorem scBkRow : FnScope ["self", "name"] ["self", "name"] (defScope sBkRow) := ⟨rfl, rfl, rfl, by decide +kernel, rfl, by decide +kernel, by decide +kernel⟩
theorem ok_bkRow {f CT CR CM CP CW CBk CNo fCK : Addr} {fd fdCK : FuncData} (F0 : Fun K "row" "Book.row" sBkRow f fd) (T : BkT K mg CBk) (FCK : FnOk P w K mg base (L2.CX P w) 3 fCK fdCK ["kept", "name"] (spChkKept CNo)) (bCK : Binds K fdCK ["kept", "name"] []) (mCK : mg "check_kept" = some (.ref fCK)) (kCK : PySem.W.keepIn K (.ref fCK) = true) :
    FnOk P w K mg base (L2.CX P w) 4 f fd ["self", "name"] (spBkRow K CT CR CM CP CW CBk CNo) := by
  refine F0.okX scBkRow (fun vs H Q E h => ?_) (fun cdv A outer s0 H vs Q E hr h => ?_)
  · obtain ⟨b, PP, n, S, fs, av, st, hist, z, rfl, _⟩ := h
    rfl
  · obtain ⟨b, PP, n, S, fs, av, st, hist, z, rfl, BK, k1, k2⟩ := h
    have hu : (A.deeper (PyProof.Rows.envOfC "Book.row" (defScope sBkRow) s0.heap.objs.size f cdv)).units + 1 < cLine := by
      have := hr.units
      omega
    refine ⟨_, pss_cons (ps_expr (pe_call FCK hr rfl mCK kCK bCK .nil (passes_call (takes_of rfl rfl rfl rfl) fun _ _ _ _ h => h) (pa_cons (pe_fld (pv 0) rfl) (pa_cons (pv 1) pa_nil))))
      (pss_one (ps_ret (pe_dget hu (pe_fld (pv 0) rfl) (pv 1) (fun _ _ => rfl)))), ?_⟩
    obtain ⟨dx, x, D, L, A, ps, ts, e, TA, ST, eP, pr⟩ := BK.at_
    obtain ⟨kvs, gD, kv⟩ := ST.kept
    obtain ⟨v1, v2⟩ := kv_val kv z
    refine ⟨_, rfl, b, CBk, dx, _, _, rfl, e, T.cl, T.nK, bkF_k x D L A PP, _, rfl, D, z, kvs, rfl, gD, fun c => ?_, fun c => ?_⟩
    · cases h : rowOf st.rows z with
      | none => exact k1 h
      | some xs =>
        obtain ⟨rw', e2, _⟩ := v2 xs h
        rw [e2] at c
        cases c
    · cases h : rowOf st.rows z with
      | none =>
        rw [v1 h] at c
        cases c
      | some xs =>
        obtain ⟨rw', e2, R⟩ := v2 xs h
        refine ⟨_, rfl, b, CBk, dx, _, _, rfl, e, T.cl, T.nK, bkF_k x D L A PP, _, rfl, D, _, rfl, ?_, k2 xs h rw' R⟩
        rw [← e2]
        exact DGet.k (k := .inr z) gD
theorem scBkWhere : FnScope ["self"] ["self"] (defScope sBkWhere) := ⟨rfl, rfl, rfl, by decide +kernel, rfl, by decide +kernel, by decide +kernel⟩
theorem ok_bkWhere {f CT CR CM CP CW CBk : Addr} {fd : FuncData} (F0 : Fun K "where" "Book.where" sBkWhere f fd) (T : BkT K mg CBk) (hLi : mg "list" = none) : FnOk P w K mg base CX0 1 f fd ["self"] (spBkWhere K CT CR CM CP CW CBk) := by
  refine F0.ok scBkWhere (fun vs H Q E h => ?_) (fun cdv A outer s0 H vs Q E hr h => ?_)
  · obtain ⟨b, PP, n, S, fs, av, st, hist, rfl, _⟩ := h
    rfl
  · obtain ⟨b, PP, n, S, fs, av, st, hist, rfl, BK, kont⟩ := h
    refine ⟨_, pss_one (ps_ret (pe_callTy call_list_of (by rfl) hLi (by decide +kernel) (pa_cons (pe_fld (pv 0) rfl) pa_nil))), ?_⟩
    obtain ⟨dx, x, D, L, A, ps, ts, e, TA, ST, eP, pr⟩ := BK.at_
    obtain ⟨qs, gL, pl⟩ := ST.folk
    exact ⟨_, rfl, b, CBk, dx, _, _, rfl, e, T.cl, T.nF, bkF_f x D L A PP, L, _, rfl, .inl (SqL.of gL), fun l hl => kont l qs hl pl⟩
theorem scBkMany : FnScope ["self"] ["self"] (defScope sBkMany) := ⟨rfl, rfl, rfl, by decide +kernel, rfl, by decide +kernel, by decide +kernel⟩
theorem ok_bkMany {f CT CR CM CP CW CBk : Addr} {fd : FuncData} (F0 : Fun K "many" "Book.many" sBkMany f fd) (T : BkT K mg CBk) (hLen : mg "len" = none) : FnOk P w K mg base CX0 1 f fd ["self"] (spBkMany K CT CR CM CP CW CBk) := by
  refine F0.ok scBkMany (fun vs H Q E h => ?_) (fun cdv A outer s0 H vs Q E hr h => ?_)
  · obtain ⟨b, PP, n, S, fs, av, st, hist, rfl, _⟩ := h
    rfl
  · obtain ⟨b, PP, n, S, fs, av, st, hist, rfl, BK, kont⟩ := h
    refine ⟨_, pss_one (ps_ret (pe_callB call_len_seq (by rfl) hLen (by decide +kernel) (pa_cons (pe_fld (pv 0) rfl) pa_nil))), ?_⟩
    obtain ⟨dx, x, D, L, A, ps, ts, e, TA, ST, eP, pr⟩ := BK.at_
    refine ⟨_, rfl, b, CBk, dx, _, _, rfl, e, T.cl, T.nP, bkF_p x D L A PP, PP, _, rfl, .inl (SqL.of eP), ?_⟩
    rw [List.length_map, Paired.length pr]
    exact kont
theorem scBkBack : FnScope ["self"] ["self"] (defScope sBkBack) := ⟨rfl, rfl, rfl, by decide +kernel, rfl, by decide +kernel, by decide +kernel⟩
theorem ok_bkBack {f CT CR CM CP CW CBk : Addr} {fd : FuncData} (F0 : Fun K "back" "Book.back" sBkBack f fd) (T : BkT K mg CBk) : FnOk P w K mg base CX0 1 f fd ["self"] (spBkBack K CT CR CM CP CW CBk) := by
  refine F0.ok scBkBack (fun vs H Q E h => ?_) (fun cdv A outer s0 H vs Q E hr h => ?_)
  · obtain ⟨b, PP, n, S, fs, av, st, s', hist, rfl, _⟩ := h
    rfl
  · obtain ⟨b, PP, n, S, fs, av, st, s', hist, rfl, BK, kont⟩ := h
    refine ⟨_, pss_cons (ps_if (pt_not (pt_truth (pe_fld (pv 0) rfl) (fun _ => rfl))) (pss_one ps_dead) pss_nil)
      (pss_one (ps_asg (pe_bm0 PySem.F.plainAttrs_list PySem.F.slot_list_pop PySem.F.type_list_pop mt_pop (pe_fld (pv 0) rfl)) (pg_tup rfl (pgs_cons (pg_fld (pv 0)) (pgs_cons (pg_fld (pv 0)) (pgs_cons (pg_fld (pv 0)) pgs_nil)))))), ?_⟩
    obtain ⟨dx, x, D, L, A, ps, ts, e, TA, ST, eP, pr⟩ := BK.at_
    obtain ⟨ts, t, rfl, pr0, D', L', A', et, ST'⟩ := paired_snocQ pr
    have nPb : PP ≠ b := fun z => by rw [z, e] at eP; cases eP
    have ne : ((ts ++ [t]).map V.ref).isEmpty = false := by
      rw [List.map_append]
      cases ts <;> rfl
    refine ⟨_, rfl, b, CBk, dx, _, _, rfl, e, T.cl, T.nP, bkF_p x D L A PP, true, .inl ⟨_, SqL.of eP, by rw [ne]; rfl⟩, iteF ?_⟩
    refine ⟨_, rfl, b, CBk, dx, _, _, rfl, e, T.cl, T.nP, bkF_p x D L A PP, .inl ⟨rfl, _, SqL.of eP⟩, PP, _, .ref t, rfl, rfl, eP, by simp, ?_⟩
    have dl : ((ts ++ [t]).map V.ref).dropLast = ts.map V.ref := by rw [List.map_append]; exact List.dropLast_concat
    rw [dl]
    have k1 : KzB b PP H (upd H PP (.lst (ts.map V.ref))) := fun c o ec n m => (upd_ne m).trans ec
    have e1 : upd H PP (.lst (ts.map V.ref)) b = some (.ins CBk dx (bkF x D L A PP)) := (upd_ne nPb.symm).trans e
    have gP1 : upd H PP (.lst (ts.map V.ref)) PP = some (.lst (ts.map V.ref)) := upd_same
    have nt : t ≠ PP := fun z => by rw [z, eP] at et; cases et
    have et1 : upd H PP (.lst (ts.map V.ref)) t = some (.tup [.ref D', .ref L', .ref A']) := (upd_ne nt).trans et
    generalize upd H PP (.lst (ts.map V.ref)) = H1 at k1 e1 gP1 et1 ⊢
    refine ⟨t, _, rfl, SqT.of et1, rfl, _, _, rfl, _, rfl, b, CBk, dx, _, rfl, e1, T.cl, T.nK, (by show 5 < 1000; decide), ?_⟩
    rw [bkP_k]
    refine ⟨_, _, rfl, _, rfl, b, CBk, dx, _, rfl, upd_same, T.cl, T.nF, (by show 5 < 1000; decide), ?_⟩
    rw [bkP_f]
    refine ⟨_, _, rfl, _, rfl, b, CBk, dx, _, rfl, upd_same, T.cl, T.nA, (by show 5 < 1000; decide), ?_⟩
    rw [bkP_a]
    have e4 : upd (upd (upd H1 b (.ins CBk dx (bkF x D' L A PP))) b (.ins CBk dx (bkF x D' L' A PP))) b (.ins CBk dx (bkF x D' L' A' PP)) b = some (.ins CBk dx (bkF x D' L' A' PP)) := upd_same
    have kb : ∀ c o, H1 c = some o → c ≠ b → upd (upd (upd H1 b (.ins CBk dx (bkF x D' L A PP))) b (.ins CBk dx (bkF x D' L' A PP))) b (.ins CBk dx (bkF x D' L' A' PP)) c = some o := fun c o ec n => by
      rw [upd_ne n, upd_ne n, upd_ne n]
      exact ec
    generalize upd (upd (upd H1 b (.ins CBk dx (bkF x D' L A PP))) b (.ins CBk dx (bkF x D' L' A PP))) b (.ins CBk dx (bkF x D' L' A' PP)) = H4 at e4 kb ⊢
    have k4 : KzB b PP H H4 := fun c o ec n m => kb _ _ (k1 _ _ ec n m) n
    have kz := BK.kz k4
    have kl : ∀ (D L A : Addr) (s' : BSt), BkSt K CT CR CM CP CW n fs S av H D L A s' → ∀ xs, H L = some (.lst xs) → H4 L = some (.lst xs) := fun D L A s' hs xs eL => k4 _ _ eL (fun z => by rw [z, e] at eL; cases eL) fun z => hs.av (z ▸ BK.inP)
    refine ⟨rfl, kont H4 k4 ⟨⟨dx, x, D', L', A', ps, ts, e4, TA.kz kz, ST'.kz kz (kl _ _ _ _ ST'), kb _ _ gP1 nPb, Paired.mapP pr0 fun _ _ ⟨D1, L1, A1, e', s'⟩ => ⟨D1, L1, A1, kz _ _ e' .tup, s'.kz kz (kl _ _ _ _ s')⟩⟩, BK.G, BK.S1, BK.S2, BK.inP, by have := BK.short; rw [List.length_append] at this; omega⟩⟩
end
end OT
set_option Elab.async false
set_option linter.all false
set_option maxRecDepth 100000
set_option maxHeartbeats 4000000
namespace OT
open PySem L2 OTR
abbrev sWithout : Stmt := top 49
/-- the turns of {k: v for .. in ..}, keys tuples, over what is walked -/
theorem dcT_it {J : L2.It} {n : Nat} {G : Hp → Prop} {Y : Nat → Hp → V → Hp → Prop} (wk : Walk J n G Y) {g : TG} {tt : TT} {tk tv : TE} {vs : List Nat} {σ : L2.St} {H1 : Hp} {D : Addr} {Qd : Hp → Prop} (Pv : Nat → Hp → Prop) (h0 : Pv 0 (upd H1 D (.dT []))) (hG : ∀ i H, i ≤ n → Pv i H → G H)
    (hs : ∀ i x H H', i < n → Pv i H → Y i H x H' → g x (wipe σ vs) H' fun σ2 Hb => wipe σ2 vs = wipe σ vs ∧ tt σ2 Hb fun b Hc =>
      if b = true then tk σ2 Hc fun y Hk => tv σ2 Hk fun zz Hv => ∃ ent key b, y = .ref b ∧ Hv b = some (.tup (key.map kV)) ∧ Hv D = some (.dT ent) ∧ ent.length < sizeLine ∧ Pv (i + 1) (upd Hv D (.dT (putK ent key zz))) else Pv (i + 1) Hc) (hd : ∀ H, Pv n H → Qd H) :
    ∃ W : Nat → Nat → Hp → Prop, (∃ m, W 0 m (upd H1 D (.dT []))) ∧ ∀ i m H, W i m H →
      (J.stop i H ∧ Qd H) ∨ (J.go i H ∧ ∃ Nx : Hp → Prop, (∀ H', Nx H' → ∃ m', m' < m ∧ W (i + 1) m' H') ∧ ∀ x H', J.yld i H x H' → g x (wipe σ vs) H' fun σ2 Hb => wipe σ2 vs = wipe σ vs ∧ tt σ2 Hb fun b Hc =>
        if b = true then tk σ2 Hc fun y Hk => tv σ2 Hk fun zz Hv => ∃ ent key b, y = .ref b ∧ Hv b = some (.tup (key.map kV)) ∧ Hv D = some (.dT ent) ∧ ent.length < sizeLine ∧ Nx (upd Hv D (.dT (putK ent key zz))) else Nx Hc) := by
  refine ⟨fun i m H => i ≤ n ∧ m = n - i ∧ Pv i H, ⟨n - 0, Nat.zero_le _, rfl, h0⟩, ?_⟩
  rintro i m H ⟨hi, rfl, p⟩
  have q := hG i H hi p
  rcases Nat.lt_or_ge i n with hlt | hge
  · exact .inr ⟨wk.goes i H hlt q, Pv (i + 1), fun H' p' => ⟨_, by omega, hlt, rfl, p'⟩, fun x H' y => hs i x H H' hlt p (wk.yields i H x H' hlt q y)⟩
  · obtain rfl : i = n := by omega
    exact .inl ⟨wk.stops H q, hd H p⟩
theorem in_pair (z a b : Str) : inV (.str z) [.str a, .str b] = decide (¬ (z ≠ a ∧ z ≠ b)) := by
  unfold inV
  show ((a == z) || ((b == z) || false)) = _
  rw [Bool.or_false, Bool.eq_iff_iff, Bool.or_eq_true, beq_iff_eq, beq_iff_eq, decide_eq_true_eq]
  constructor
  · rintro (h | h) ⟨x, y⟩
    · exact x h.symm
    · exact y h.symm
  · intro h
    by_cases c : a = z
    · exact .inl c
    · exact .inr (Classical.byContradiction fun d => h ⟨fun q => c q.symm, fun q => d q.symm⟩)
theorem ansK_len (l : List ((Str × Str) × Bool)) : (ansK l).length = l.length := List.length_map ..
theorem ansK_no {l : List ((Str × Str) × Bool)} {p : Str × Str} (h : p ∉ l.map (·.1)) : valV (ansK l) (aK p) = none := by
  rw [ans_val]
  unfold ansOf
  rw [List.find?_eq_none.mpr fun a ha q => h (List.mem_map.mpr ⟨a, ha, by simpa using q⟩)]
  rfl
theorem ans_put {l : List ((Str × Str) × Bool)} {p : Str × Str} (r : Bool) (h : p ∉ l.map (·.1)) : putK (ansK l) (aK p) (.bl r) = ansK (l ++ [(p, r)]) := by
  rw [putK_new _ (ansK_no h)]
  unfold ansK
  rw [List.map_append]
  rfl
theorem ansOf_get {l : List ((Str × Str) × Bool)} (nd : (l.map (·.1)).Nodup) {i : Nat} {a : (Str × Str) × Bool} (h : l[i]? = some a) : ansOf l a.1 = some a.2 := by
  induction l generalizing i with
  | nil => cases h
  | cons x l ih =>
    obtain ⟨n1, n2⟩ := List.nodup_cons.mp nd
    unfold ansOf at ih ⊢
    cases i with
    | zero =>
      cases h
      rw [List.find?_cons_of_pos (by simp)]
      rfl
    | succ j =>
      have hj : l[j]? = some a := h
      have ne : ¬ x.1 = a.1 := fun q => n1 (List.mem_map.mpr ⟨a, List.mem_of_getElem? hj, q.symm⟩)
      rw [List.find?_cons_of_neg (by simpa using ne)]
      exact ih n2 hj
theorem take_snoc {α : Type} {l : List α} {i : Nat} {a : α} (h : l[i]? = some a) : l.take (i + 1) = l.take i ++ [a] := by
  rw [List.take_add_one, h]
  rfl
def spWithout : Sp := fun vs H Q _ => ∃ (A : Addr) (z : Str) (l : List ((Str × Str) × Bool)), vs = [.ref A, .str z] ∧ H A = some (.dT (ansK l)) ∧ (l.map (·.1)).Nodup ∧ l.length ≤ 1000 ∧ ∀ D H', Same H H' → H D = none → H' D = some (.dT (ansK (without l z))) → Q (.ref D) H'
section
variable {P : Program} {w : World} {K : PySem.W.Frag} {mg : Str → Option Value} {base : Heap}
abbrev nWithout : List Str := ["answers", "name", "pair"]
theorem scWithout : FnScope nWithout ["answers", "name"] (defScope sWithout) := ⟨rfl, rfl, rfl, by decide +kernel, rfl, by decide +kernel, by decide +kernel⟩
theorem ok_without {f : Addr} {fd : FuncData} (F0 : Fun K "answers_without" "answers_without" sWithout f fd) : FnOk P w K mg base CX0 1 f fd ["answers", "name"] spWithout := by
  refine F0.ok scWithout (fun vs H Q E h => ?_) (fun cdv A outer s0 H vs Q E hr h => ?_)
  · obtain ⟨A, z, l, rfl, _⟩ := h
    rfl
  · obtain ⟨A, z, l, rfl, hA, nd, few, kont⟩ := h
    have hu := hu_of hr
    refine ⟨_, pss_one (ps_ret (pe_lock (pe_dcT (own := [("pair", 2)]) (g := gName 2) (tt := tTest (tOp (rIn K true) (tVar 1) (tVar 2))) (tk := tVar 2) (tv := tDGet (tVar 0) (tVar 2)) hu rfl scWithout.nd (pi_keys (pv 0))
        (blkOk_by (own := [("pair", 2)]) (N := nWithout) (sc := defScope sWithout) (by decide +kernel)) (fun _ _ _ _ _ => pg_name (i := 2) scWithout.nd rfl (Or.inl rfl)) (fun _ _ _ _ _ => pts_one (pt_cmpR op_notIn_seq (pv 1) (pv 2) rfl))
        (fun _ _ _ _ _ => pv 2) (fun _ _ _ _ _ => pe_dget hu (pv 0) (pv 2) (fun _ _ => rfl))))), ?_⟩
    refine ⟨A, _, hA, trivial, fun od => ⟨_, rfl, A, od, rfl, .inr ⟨_, upd_same, fun D hD => ?_⟩⟩⟩
    have hDA : D ≠ A := fun q => by
      rw [q] at hD
      exact nomatch hD.symm.trans upd_same
    have gA : upd H A (.frz od (.dT (ansK l))) A = some (.frz od (.dT (ansK l))) := upd_same
    have old : ∀ c o, H c = some o → c ≠ A → upd H A (.frz od (.dT (ansK l))) c = some o := fun c o e n => (upd_ne n).trans e
    have nDH : H D = none := (upd_ne hDA).symm.trans hD
    generalize upd H A (.frz od (.dT (ansK l))) = HL at hD gA old ⊢
    refine dcT_it walk_keysT (fun i Hc => Hc D = some (.dT (ansK (without (l.take i) z))) ∧ Same HL Hc) ⟨upd_same, Same.new hD⟩ (fun i Hc _ ⟨_, sc⟩ => sc _ _ gA) ?_ ?_
    · rintro i x Hc H' hi ⟨gD, sc⟩ ⟨rfl, k, v, q, hk, rfl, hq⟩
      rw [ansK_len] at hi
      obtain ⟨a, ha⟩ : ∃ a, l[i]? = some a := ⟨_, List.getElem?_eq_getElem hi⟩
      have hk' : (ansK l)[i]? = some (aK a.1, .bl a.2) := by
        unfold ansK
        rw [List.getElem?_map, ha]
        rfl
      rw [hk'] at hk
      cases hk
      dsimp only [gName]
      refine ⟨rfl, ?_⟩
      refine ⟨_, rfl, _, rfl, q, _, rfl, .inr (SqT.of hq), rfl, rfl, _, rfl, ?_⟩
      have e1 : inV (V.str z) ((aK a.1).map kV) = decide (¬ (z ≠ a.1.1 ∧ z ≠ a.1.2)) := in_pair _ _ _
      rw [if_pos rfl, e1]
      have tk := take_snoc ha
      have wl : without (l.take (i + 1)) z = without (l.take i) z ++ without [a] z := by
        rw [tk]
        unfold without
        rw [List.filter_append]
      by_cases c : z ≠ a.1.1 ∧ z ≠ a.1.2
      · have w1 : without [a] z = [a] := by
          unfold without
          rw [List.filter_cons_of_pos (by simpa using c)]
          rfl
        rw [decide_eq_false (fun h => h c)]
        refine iteT ⟨_, rfl, _, rfl, _, rfl, A, .bl a.2, rfl, .inr ⟨_, aK a.1, q, .inr ⟨_, sc _ _ gA⟩, rfl, hq, ?_⟩, ansK (without (l.take i) z), aK a.1, q, rfl, hq, gD, ?_, ?_, fun b o e => ?_⟩
        · rw [ans_val, ansOf_get nd ha]
          rfl
        · rw [ansK_len, PySem.sizeLine_eq]
          have h1 : (without (l.take i) z).length ≤ (l.take i).length := List.length_filter_le _ _
          rw [List.length_take] at h1
          omega
        · rw [ans_put, wl, w1]
          · exact upd_same
          · intro hm
            obtain ⟨y, hy, ey⟩ := List.mem_map.mp hm
            have hy2 : y ∈ l.take i := (List.mem_filter.mp hy).1
            have nd2 : ((l.take i ++ [a]).map (·.1)).Nodup := by
              rw [← tk, List.map_take]
              exact nd.sublist (List.take_sublist _ _)
            rw [List.map_append] at nd2
            exact (List.nodup_append.mp nd2).2.2 _ (List.mem_map.mpr ⟨y, hy2, rfl⟩) _ (List.mem_singleton.mpr rfl) ey
        · rw [upd_ne (ne_of_none e hD)]
          exact sc b o e
      · have w1 : without [a] z = [] := by
          unfold without
          rw [List.filter_cons_of_neg (by simpa using c)]
          rfl
        rw [decide_eq_true c]
        refine iteF ⟨?_, sc⟩
        rw [wl, w1, List.append_nil]
        exact gD
    · rintro Hc ⟨gD, sc⟩
      rw [ansK_len, List.take_length] at gD
      refine ⟨sc _ _ gA, kont D _ (fun c o e => ?_) nDH ((upd_ne hDA).trans gD)⟩
      by_cases q : c = A
      · rw [q, upd_same, ← hA, ← q]
        exact e
      · rw [upd_ne q]
        exact sc c o (old c o e q)
end
end OT
set_option Elab.async false
set_option linter.all false
set_option maxRecDepth 100000
set_option maxHeartbeats 4000000
namespace OT
open PySem L2 OTR
/-- the text of a whole number -/
abbrev sn (i : Int) : Str := Str.ofString (toString i)
end OT
set_option Elab.async false
set_option linter.all false
set_option maxRecDepth 100000
set_option maxHeartbeats 4000000
namespace OT
open PySem L2 OTR
abbrev sIsName : Stmt := top 47
def lower (c : Nat) : Prop := 97 ≤ c ∧ c ≤ 122
instance (c : Nat) : Decidable (lower c) := by unfold lower; infer_instance
def mark (c : Nat) : Prop := lower c ∨ (48 ≤ c ∧ c ≤ 57)
instance (c : Nat) : Decidable (mark c) := by unfold mark; infer_instance
/-- a valid name -/
def isNm (z : Str) : Bool := decide ((1 ≤ (TL.tl z).length ∧ (TL.tl z).length ≤ 8) ∧ (∀ c, (TL.tl z).head? = some c → lower c) ∧ ∀ c ∈ TL.tl z, mark c)
theorem in_lower (c : Nat) : decide (c ∈ (("abcdefghijklmnopqrstuvwxyz" : Str)).cps.toList) = decide (lower c) := by
  rw [decide_eq_decide]
  have e0 : (("abcdefghijklmnopqrstuvwxyz" : Str)).cps.toList = [97, 98, 99, 100, 101, 102, 103, 104, 105, 106, 107, 108, 109, 110, 111, 112, 113, 114, 115, 116, 117, 118, 119, 120, 121, 122] := by decide
  rw [e0]
  unfold lower
  simp only [List.mem_cons, List.not_mem_nil, or_false]
  omega
theorem in_digit (c : Nat) : decide (c ∈ (("0123456789" : Str)).cps.toList) = decide (48 ≤ c ∧ c ≤ 57) := by
  rw [decide_eq_decide]
  have e0 : (("0123456789" : Str)).cps.toList = [48, 49, 50, 51, 52, 53, 54, 55, 56, 57] := by decide
  rw [e0]
  simp only [List.mem_cons, List.not_mem_nil, or_false]
  omega
def spIsName : Sp := fun vs H Q _ => ∃ z : Str, vs = [.str z] ∧ z.length ≤ 1000000 ∧ ∀ H', Same H H' → Q (.bl (isNm z)) H'
section
variable {P : Program} {w : World} {K : PySem.W.Frag} {mg : Str → Option Value} {base : Heap}
abbrev nIsName : List Str := ["name", "mark"]
theorem scIsName : FnScope nIsName ["name"] (defScope sIsName) := ⟨rfl, rfl, rfl, by decide +kernel, rfl, by decide +kernel, by decide +kernel⟩
theorem ok_isName {f : Addr} {fd : FuncData} (F : Fun K "is_name" "is_name" sIsName f fd) (hLN : ∃ t, mg "LONGEST_NAME" = some (.int 8 t)) (hLE : ∃ t, mg "LETTERS" = some (.str "abcdefghijklmnopqrstuvwxyz" t)) (hDG : ∃ t, mg "DIGITS" = some (.str "0123456789" t)) (hLen : mg "len" = none) (hAll : mg "all" = none) : FnOk P w K mg base CX0 1 f fd ["name"] spIsName := by
  refine F.ok scIsName (fun vs H Q E h => ?_) (fun cdv A outer s0 H vs Q E hr h => ?_)
  · obtain ⟨z, rfl, _⟩ := h
    rfl
  · obtain ⟨z, rfl, zl, kont⟩ := h
    obtain ⟨tN, hLN⟩ := hLN
    obtain ⟨tL, hLE⟩ := hLE
    obtain ⟨tD, hDG⟩ := hDG
    refine ⟨_, pss_cons (ps_if (PW.pt (pw_or (pt_not (pt_chain op_le op_le pe_int (pe_callB call_len_str (by rfl) hLen (by decide +kernel) (pa_cons (pv 0) pa_nil)) (pe_glob (v := V.int 8) rfl hLN ⟨tN, rfl⟩))) (pw_or1 (pt_cmpR op_notIn_sign (pe_ix ix_str (pv 0) pe_int (fun _ _ => rfl)) (pe_glob (v := V.str "abcdefghijklmnopqrstuvwxyz") rfl hLE ⟨tL, rfl⟩) rfl))))
        (pss_one (ps_ret pe_bl))
        pss_nil)
      (pss_one (ps_ret (pe_callB (cr_all rfl) (by rfl) hAll (by decide +kernel) (pa_cons (pe_lc (own := [("mark", 1)]) (g := gName 1) (tt := tYes) rfl scIsName.nd (pi_str (pv 0)) (blkOk_by (own := [("mark", 1)]) (N := nIsName) (sc := defScope sIsName) (by decide +kernel)) (fun _ _ _ _ _ => (pg_name (i := 1) scIsName.nd rfl (Or.inl rfl))) (fun _ _ _ _ _ => pts_nil) (fun _ _ _ _ _ => (pe_or (pe_cmpR op_in_sign (pv 1) (pe_glob (v := V.str "abcdefghijklmnopqrstuvwxyz") rfl hLE ⟨tL, rfl⟩) rfl) (pe_one (pe_cmpR op_in_sign (pv 1) (pe_glob (v := V.str "0123456789") rfl hDG ⟨tD, rfl⟩) rfl))))) pa_nil)))), ?_⟩
    have tz : z.length = (TL.tl z).length := TL.len_tl z
    have zL : z.length ≤ sizeLine := by rw [PySem.sizeLine_eq]; omega
    refine ⟨_, rfl, _, rfl, zL, _, _, rfl, rfl, _, rfl, ?_⟩
    have ctr : decide (1 ≤ ((z.length : Nat) : Int)) = decide (1 ≤ (TL.tl z).length) := by
      rw [decide_eq_decide, tz]
      omega
    have no : ¬ ((1 ≤ (TL.tl z).length ∧ (TL.tl z).length ≤ 8) ∧ (∀ c, (TL.tl z).head? = some c → lower c) ∧ ∀ c ∈ TL.tl z, mark c) → isNm z = false := fun h => decide_eq_false h
    have out : isNm z = false → Q (.bl false) H := fun e => by
      have h := kont H (Same.refl H)
      rw [e] at h
      exact h
    by_cases c1 : ¬ (1 ≤ (TL.tl z).length)
    · rw [ctr, decide_eq_false c1]
      exact iteF ⟨_, rfl, iteT (out (no fun q => c1 q.1.1))⟩
    replace c1 := Classical.not_not.mp c1
    rw [ctr, decide_eq_true c1]
    refine iteT ⟨_, _, rfl, rfl, _, rfl, ?_⟩
    by_cases c2 : ¬ ((TL.tl z).length ≤ 8)
    · rw [decide_eq_false (by rw [tz]; omega)]
      exact iteT (out (no fun q => c2 q.1.2))
    replace c2 := Classical.not_not.mp c2
    rw [decide_eq_true (by rw [tz]; omega)]
    refine iteF ?_
    -- name[0]
    obtain ⟨c, r, ez⟩ : ∃ c r, TL.tl z = c :: r := by
      cases e : TL.tl z with
      | nil => rw [e] at c1; exact absurd c1 (by decide)
      | cons c r => exact ⟨c, r, rfl⟩
    have at0 : atI z.cps.toList 0 = some c := by
      have e1 : z.cps.toList = c :: r := ez
      rw [e1]
      show atI (c :: r) ((0 : Nat) : Int) = _
      exact atI_nat rfl
    refine ⟨_, rfl, z, 0, c, rfl, rfl, zL, at0, c, "abcdefghijklmnopqrstuvwxyz", rfl, rfl, _, rfl, ?_⟩
    rw [in_lower]
    by_cases c3 : ¬ lower c
    · rw [decide_eq_false c3]
      exact iteT (out (no fun q => c3 (q.2.1 c (by rw [ez]; rfl))))
    replace c3 := Classical.not_not.mp c3
    rw [decide_eq_true c3]
    refine iteF ?_
    have zs : z.cps.size = (TL.tl z).length := by simp
    -- all([..])
    refine ⟨_, rfl, z, rfl, fun D hD => lc_it (walk_str (z := z)) (fun i Gc => Gc D = some (.lst (((TL.tl z).take i).map fun c => V.bl (decide (mark c)))) ∧ Same H Gc)
      ⟨upd_same, Same.new hD⟩ (fun _ _ _ _ => trivial) ?_ ?_⟩
    · rintro i x Gc G' hi ⟨gD, sg⟩ ⟨rfl, c, hc, rfl⟩
      have hc' : (TL.tl z)[i]? = some c := by
        rw [← hc]
        exact (Array.getElem?_toList).trans rfl
      dsimp only [gName]
      refine ⟨rfl, ?_⟩
      unfold tYes
      have done : ∀ b : Bool, b = decide (mark c) → ∃ acc, G' D = some (.lst acc) ∧ acc.length < sizeLine ∧ (upd G' D (.lst (acc ++ [V.bl b])) D = some (.lst (((TL.tl z).take (i + 1)).map fun c => V.bl (decide (mark c)))) ∧ Same H (upd G' D (.lst (acc ++ [V.bl b])))) := fun b e => by
        refine ⟨_, gD, (by rw [PySem.sizeLine_eq, List.length_map, List.length_take]; omega), ?_, fun b o e => by rw [upd_ne (ne_of_none e hD)]; exact sg b o e⟩
        rw [take_get hc', List.map_append, e]
        exact upd_same
      refine iteT ⟨_, rfl, c, "abcdefghijklmnopqrstuvwxyz", rfl, rfl, _, rfl, ?_⟩
      rw [in_lower]
      by_cases d1 : lower c
      · rw [decide_eq_true d1]
        exact iteT (done true (decide_eq_true (.inl d1)).symm)
      · rw [decide_eq_false d1]
        refine iteF ⟨_, rfl, c, "0123456789", rfl, rfl, ?_⟩
        rw [in_digit]
        exact done _ (decide_eq_decide.mpr ⟨fun h => Or.inr h, fun h => h.resolve_left d1⟩)
    · rintro G1 ⟨gD, s1⟩
      rw [zs, List.take_length] at gD
      have gD' : G1 D = some (.lst ((((TL.tl z).map fun c => decide (mark c)) : List Bool).map V.bl)) := by rw [List.map_map]; exact gD
      refine ⟨D, _, rfl, SqL.of gD', ?_⟩
      have ea : (((TL.tl z).map fun c => decide (mark c)) : List Bool).all id = isNm z := by
        unfold isNm
        rw [Bool.eq_iff_iff, List.all_eq_true, decide_eq_true_eq]
        constructor
        · intro h
          refine ⟨⟨c1, c2⟩, fun d hd => ?_, fun d hd => ?_⟩
          · rw [ez] at hd
            cases hd
            exact c3
          · exact of_decide_eq_true (h _ (List.mem_map.mpr ⟨d, hd, rfl⟩))
        · rintro ⟨_, _, h⟩ b hb
          obtain ⟨d, hd, rfl⟩ := List.mem_map.mp hb
          exact decide_eq_true (h d hd)
      rw [ea]
      exact kont G1 s1
end
end OT
set_option Elab.async false
set_option linter.all false
set_option maxRecDepth 100000
set_option maxHeartbeats 4000000
namespace OT
open PySem L2 OTR
theorem bkF_no {x D L A P : Addr} {m : Str} (h : ((["tree", "kept", "folk", "answers", "past"] : List Str).contains m) = false) : (bkF x D L A P).lookup m = none := by
  unfold bkF
  simp only [List.contains_cons, List.contains_nil, Bool.or_eq_false_iff, Bool.or_false, beq_eq_false_iff_ne] at h
  obtain ⟨h1, h2, h3, h4, h5⟩ := h
  rw [lk1 h1, lk1 h2, lk1 h3, lk1 h4, lk1 h5]
  rfl
section
variable {P : Program} {w : World} {K : PySem.W.Frag} {mg : Str → Option Value} {base : Heap}
abbrev nBkPost : List Str := ["self", "place", "there", "number"]
theorem scBkPost : FnScope nBkPost ["self", "place"] (defScope sBkPost) := ⟨rfl, rfl, rfl, by decide +kernel, rfl, by decide +kernel, by decide +kernel⟩
theorem ok_bkPost {f CT CR CM CP CW CBk CB CNR COR fB fKY fCh : Addr} {fd fdB fdKY fdCh : FuncData} (F0 : Fun K "post" "Book.post" sBkPost f fd) (T : BkT K mg CBk) (TB : ErT K mg "BadCount" CB fB) (FB : FnOk P w K mg base CX0 1 fB fdB ["self", "what", "count"] (spEr2 CB "what" "count")) (bB : Binds K fdB ["self", "what", "count"] [])
    (FKY : FnOk P w K mg base (L2.CX P w) 6 fKY fdKY ["tree", "place"] (spKey K CT CR CP CNR COR)) (bKY : Binds K fdKY ["tree", "place"] []) (mKY : mg "key" = some (.ref fKY)) (kKY : PySem.W.keepIn K (.ref fKY) = true)
    (hCh : Meth K CBk "change" fCh) (FCh : FnOk P w K mg base CX0 1 fCh fdCh ["self", "kept", "folk", "answers"] (spBkChange K CT CR CM CP CW CBk)) (bCh : Binds K fdCh ["self", "kept", "folk", "answers"] [])
    (hMF : ∃ t, mg "MOST_FOLK" = some (.int 24 t)) (hLen : mg "len" = none) : FnOk P w K mg base (L2.CX P w) 7 f fd ["self", "place"] (spBkPost K CT CR CM CP CW CBk CB CNR COR) := by
  refine F0.okX scBkPost (fun vs H Q E h => ?_) (fun cdv A outer s0 H vs Q E hr h => ?_)
  · obtain ⟨b, PP, p, n, S, i, k, fs, av, st, hist, r, rfl, _⟩ := h
    rfl
  · obtain ⟨b, PP, p, n, S, i, k, fs, av, st, hist, r, rfl, BK, pl, sm, lo, short, isAv, pErr, many, pe, kont⟩ := h
    obtain ⟨tF, hMF⟩ := hMF
    have hr1 : Room 1 _ := hr.mono (by decide)
    have hr2 : Room 2 _ := hr.mono (by decide)
    refine ⟨_, pss_cons (ps_set (i := 2) scBkPost.nd rfl (Or.inl rfl) (pe_call FKY hr rfl mKY kKY bKY .nil (passes_call (takes_of rfl rfl rfl rfl) fun _ _ _ _ h => h) (pa_cons (pe_fld (pv 0) rfl) (pa_cons (pv 1) pa_nil))))
      (pss_cons (ps_if (pt_cmpR op_ge (pe_callB call_len_seq (by rfl) hLen (by decide +kernel) (pa_cons (pe_fld (pv 0) rfl) pa_nil)) (pe_glob (v := V.int 24) rfl hMF ⟨tF, rfl⟩) (nomark _))
        (pss_one (ps_raise rfl (takes_of rfl rfl rfl rfl) (pmk_oex TB.ox TB.iC TB.tI FB hr2 bB .nil pass0 (by rfl) TB.gC (pa_cons pe_str (pa_cons (pe_op op_add (pe_glob (v := V.int 24) rfl hMF ⟨tF, rfl⟩) pe_int) pa_nil)))))
        pss_nil)
      (pss_cons (ps_set (i := 3) scBkPost.nd rfl (Or.inl rfl) (pe_callB call_len_seq (by rfl) hLen (by decide +kernel) (pa_cons (pe_fld (pv 0) rfl) pa_nil)))
      (pss_cons (ps_expr (pe_meth (pv 0) T.cl hCh FCh hr1 bCh .nil pass0 (pa_cons (pe_fld (pv 0) rfl) (pa_cons (pe_op op_catS (pe_fld (pv 0) rfl) (pe_lst (pa_cons (pv 2) pa_nil))) (pa_cons (pe_fld (pv 0) rfl) pa_nil)))))
      (pss_one (ps_ret (pv 3)))))), ?_⟩
    obtain ⟨dx, x, D, L, A, ps, ts, e, TA, ST, eP, pr⟩ := id BK.at_
    obtain ⟨qs, gL, plL⟩ := ST.folk
    have two : ∀ {v : V}, [v].length ≤ sizeLine := fun {v} => (by show 1 ≤ sizeLine; decide)
    -- there = key(self.tree, place)
    refine ⟨_, rfl, b, CBk, dx, _, _, rfl, e, T.cl, T.nT, bkF_t x D L A PP, _, rfl, x, p, n, ps, fs, r, rfl, TA, pl, BK.G, sm, lo, pErr.1, pErr.2, fun on p' H1 s1 pl1 => ?_⟩
    have pe' := pe on
    rw [pe'.keyF] at pl1
    have e1 := s1 _ _ e
    have gL1 := s1 _ _ gL
    have ql : (qs.map V.ref).length = st.folk.length := by rw [List.length_map]; exact Paired.length plL
    -- if len(self.folk) >= MOST_FOLK
    refine ⟨_, rfl, b, CBk, dx, _, _, rfl, e1, T.cl, T.nF, bkF_f x D L A PP, L, _, rfl, .inl (SqL.of gL1), _, _, rfl, rfl, _, rfl, ?_⟩
    rw [ql]
    by_cases c : 24 ≤ st.folk.length
    · rw [decide_eq_true (by omega)]
      exact iteT ⟨_, _, rfl, rfl, len2, fun bb hb => er2 hb (Raised.mono (many on c) s1)⟩
    rw [decide_eq_false (by omega)]
    refine iteF ⟨_, rfl, b, CBk, dx, _, _, rfl, e1, T.cl, T.nF, bkF_f x D L A PP, L, _, rfl, .inl (SqL.of gL1), ?_⟩
    rw [ql]
    -- self.change(self.kept, self.folk + [there], self.answers)
    refine ⟨_, rfl, b, dx, _, rfl, e1, bkF_no (by decide +kernel), _, rfl, b, CBk, dx, _, _, rfl, e1, T.cl, T.nK, bkF_k x D L A PP, _, rfl, b, CBk, dx, _, _, rfl, e1, T.cl, T.nF, bkF_f x D L A PP, _, rfl, two, fun p0 h0 => ⟨L, p0, _, _, rfl, rfl, SqL.of ((Same.new h0) _ _ gL1), SqL.of upd_same, ?_, fun L' hL' => ?_⟩⟩
    · rw [ql, PySem.sizeLine_eq]
      show _ + 1 ≤ _
      omega
    have s2 : Same H1 (upd (upd H1 p0 (.lst [.ref p'])) L' (.lst (qs.map V.ref ++ [.ref p']))) := (Same.new h0).trans (Same.new hL')
    have gL' : upd (upd H1 p0 (.lst [.ref p'])) L' (.lst (qs.map V.ref ++ [.ref p'])) L' = some (.lst ((qs ++ [p']).map V.ref)) := by rw [List.map_append]; exact upd_same
    have sA := s1.trans s2
    have nL' : L' ∉ av := fun z => by
      have n1 := isAv L' z
      cases q : H L' with
      | none => exact n1 q
      | some o =>
        have q2 := (s1.trans (Same.new (o := .lst [.ref p']) h0)) _ _ q
        rw [hL'] at q2
        cases q2
    generalize upd (upd H1 p0 (.lst [.ref p'])) L' (.lst (qs.map V.ref ++ [.ref p'])) = H2 at s2 gL' sA ⊢
    have ok := ST.ok
    have oU : OnT fs S (node fs S k i) := ⟨k, i, pe'.on, rfl⟩
    refine ⟨_, rfl, b, CBk, dx, _, _, rfl, sA _ _ e, T.cl, T.nA, bkF_a x D L A PP, b, PP, D, L', A, n, S, fs, av, st, ⟨st.rows, st.folk ++ [node fs S k i], st.ans⟩, hist, rfl, BK.same sA, ⟨⟨ok.nd, ok.na, ok.few, ?_, ok.many, fun u hu => ?_⟩, ?_, ⟨qs ++ [p'], gL', ?_⟩, nL', sA _ _ ST.ans⟩, short, fun H3 k3 BK3 => ?_⟩
    · rw [List.length_append]
      show _ + 1 ≤ 100
      omega
    · rcases List.mem_append.mp hu with hu | hu
      · exact ok.on u hu
      · rw [List.mem_singleton.mp hu]
        exact oU
    · obtain ⟨kvs, gD, kv⟩ := ST.kept
      exact ⟨kvs, sA _ _ gD, kv.kz (.of sA)⟩
    · exact paired_snoc (Paired.mapP plL fun _ _ a => a.same sA) (pl1.same s2)
    · exact ⟨_, rfl, kont on (by omega) H3 (KzB.trans (KzB.of sA) k3) BK3⟩
end
end OT
set_option Elab.async false
set_option linter.all false
set_option maxRecDepth 100000
set_option maxHeartbeats 4000000
namespace OT
open PySem L2 OTR
abbrev sBkKeep : Stmt := inClass (top 46) 1
section
variable {K : PySem.W.Frag} {CT CR CM CP CW : Addr} {n : Int} {F : List Fact} {H : Hp}
theorem row_any {l : List (Str × List MG)} {z : Str} : (l.any fun r => decide (r.1 = z)) = (rowOf l z).isSome := by
  unfold rowOf
  induction l with
  | nil => rfl
  | cons r l ih =>
    rw [List.any_cons]
    by_cases c : r.1 = z
    · rw [List.find?_cons_of_pos (by simpa using c), decide_eq_true c]
      rfl
    · rw [List.find?_cons_of_neg (by simpa using c), decide_eq_false c, Bool.false_or]
      exact ih
theorem kv_any {kvs : List (Key × V)} {l : List (Str × List MG)} (h : KvR K CT CR CM CP CW n F H kvs l) (z : Str) : (kvs.any fun kv => decide (kv.1 = (Sum.inr z : Key))) = l.any fun r => decide (r.1 = z) := by
  induction h with
  | nil => rfl
  | cons h1 _ ih =>
    rw [List.any_cons, List.any_cons, ih]
    congr 1
    rw [decide_eq_decide, h1.1]
    exact ⟨fun q => Sum.inr.inj q, fun q => by rw [q]⟩
theorem kv_put {kvs : List (Key × V)} {l : List (Str × List MG)} (h : KvR K CT CR CM CP CW n F H kvs l) {z : Str} {xs : List MG} {rw' : Addr} (R : RowS K CT CR CM CP CW H rw' n F xs) : KvR K CT CR CM CP CW n F H (putK kvs (.inr z) (.ref rw')) (putR l z xs) := by
  unfold putK putR
  have e := kv_any h z
  by_cases c : (l.any fun r => decide (r.1 = z)) = true
  · rw [if_pos (e.trans c), if_pos c]
    clear e c
    induction h with
    | nil => exact .nil
    | @cons kv r kvs l h1 _ ih =>
      refine .cons ?_ ih
      obtain ⟨h2, rw2, h3, h4⟩ := h1
      dsimp only
      by_cases q : r.1 = z
      · rw [if_pos (show kv.1 = (Sum.inr z : Key) by rw [h2, q]), if_pos q]
        exact ⟨h2, rw', rfl, R⟩
      · rw [if_neg (show ¬ kv.1 = (Sum.inr z : Key) from fun k => q (by rw [h2] at k; exact Sum.inr.inj k)), if_neg q]
        exact ⟨h2, rw2, h3, h4⟩
  · rw [if_neg (fun k => c (e.symm.trans k)), if_neg c]
    exact paired_snoc h ⟨rfl, rw', rfl, R⟩
theorem putR_nd {l : List (Str × List MG)} {z : Str} {xs : List MG} (nd : (l.map (·.1)).Nodup) : ((putR l z xs).map (·.1)).Nodup := by
  unfold putR
  by_cases c : (l.any fun r => decide (r.1 = z)) = true
  · rw [if_pos c, List.map_map]
    have e : (l.map ((·.1) ∘ fun r => if r.1 = z then (r.1, xs) else r)) = l.map (·.1) := List.map_congr_left fun r _ => by
      show (if r.1 = z then (r.1, xs) else r).1 = r.1
      split <;> rfl
    rw [e]
    exact nd
  · rw [if_neg c, List.map_append]
    refine List.nodup_append.mpr ⟨nd, List.nodup_cons.mpr ⟨List.not_mem_nil, List.nodup_nil⟩, fun x hx y hy e => c ?_⟩
    rw [List.mem_singleton.mp hy] at e
    obtain ⟨r, hr, q⟩ := List.mem_map.mp hx
    exact List.any_eq_true.mpr ⟨r, hr, decide_eq_true (q.trans e)⟩
theorem putR_len {l : List (Str × List MG)} {z : Str} {xs : List MG} : (putR l z xs).length ≤ l.length + 1 ∧ ((rowOf l z).isSome = true → (putR l z xs).length = l.length) := by
  unfold putR
  rw [row_any]
  by_cases c : (rowOf l z).isSome = true
  · rw [if_pos c, List.length_map]
    exact ⟨Nat.le_succ _, fun _ => rfl⟩
  · rw [if_neg c, List.length_append]
    exact ⟨Nat.le_refl _, fun q => absurd q c⟩
theorem without_nd {l : List ((Str × Str) × Bool)} {z : Str} (nd : (l.map (·.1)).Nodup) : ((without l z).map (·.1)).Nodup := nd.sublist (List.filter_sublist.map _)
theorem without_len {l : List ((Str × Str) × Bool)} {z : Str} : (without l z).length ≤ l.length := List.length_filter_le _ _
end
def spBkKeep (K : PySem.W.Frag) (CT CR CM CP CW CBk CB CNN CNR COR CNW : Addr) : Sp := fun vs H Q E => ∃ (b P l : Addr) (z : Str) (n S : Int) (F : List Fact) (av : List Addr) (st : BSt) (hist : List BSt) (ms : List Addr) (fs : List MFact) (xs : List MG), vs = [.ref b, .str z, .ref l] ∧ z.length ≤ 1000000 ∧ BookAt K CT CR CM CP CW CBk n F S av H b P st hist ∧ hist.length < 100000 ∧
  SqA K H l (ms.map V.ref) ∧ MasAt CM CP H ms fs ∧ (∀ m ∈ fs, MSm m) ∧ fs.length ≤ 1000 ∧ st.rows.length ≤ 99 ∧
  (isNm z = false → Raised CNN [("name", .str z)] H E) ∧ (isNm z = true → rowOf st.rows z = none → 8 ≤ st.rows.length → Raised CB [("count", .int 9), ("what", .str "rows")] H E) ∧
  (isNm z = true → ¬ (rowOf st.rows z = none ∧ 8 ≤ st.rows.length) → (∀ e, dueM F fs = some e → RaisM CB CNR COR CNW H E e) ∧ (dueM F fs = none → fs = xs.map mf ∧ (∀ x ∈ xs, MgOk F x) ∧ xs.length ≤ 900) ∧
    (dueM F fs = none → ∀ ys, rowOf st.rows z = some ys → rowK F ys = rowK F xs → ∀ H', Same H H' → Q .non H') ∧
    (dueM F fs = none → (∀ ys, rowOf st.rows z = some ys → rowK F ys ≠ rowK F xs) → ∀ H', KzB b P H H' → BookAt K CT CR CM CP CW CBk n F S av H' b P ⟨putR st.rows z xs, st.folk, without st.ans z⟩ (hist ++ [st]) → Q .non H'))
section
variable {P : Program} {w : World} {K : PySem.W.Frag} {mg : Str → Option Value} {base : Heap}
abbrev nBkKeep : List Str := ["self", "name", "marches", "made", "kept"]
theorem scBkKeep : FnScope nBkKeep ["self", "name", "marches"] (defScope sBkKeep) := ⟨rfl, rfl, rfl, by decide +kernel, rfl, by decide +kernel, by decide +kernel⟩
theorem ok_bkKeep {f CT CR CM CP CW CBk CB CNN CNR COR CNW fB fNN fIN fRw fCh fWo fWE : Addr} {fd fdB fdNN fdIN fdRw fdCh fdWo fdWE : FuncData} (F0 : Fun K "keep" "Book.keep" sBkKeep f fd) (T : BkT K mg CBk) (TB : ErT K mg "BadCount" CB fB) (FB : FnOk P w K mg base CX0 1 fB fdB ["self", "what", "count"] (spEr2 CB "what" "count")) (bB : Binds K fdB ["self", "what", "count"] [])
    (TNN : ErT K mg "NoName" CNN fNN) (FNN : FnOk P w K mg base CX0 1 fNN fdNN ["self", "name"] (spEr1 CNN "name")) (bNN : Binds K fdNN ["self", "name"] [])
    (FIN : FnOk P w K mg base CX0 1 fIN fdIN ["name"] spIsName) (bIN : Binds K fdIN ["name"] []) (mIN : mg "is_name" = some (.ref fIN)) (kIN : PySem.W.keepIn K (.ref fIN) = true)
    (TW : RwT K mg CW) (MRw : Mk K CW fRw) (FRw : FnOk P w K mg base (L2.CX P w) 5 fRw fdRw ["self", "tree", "marches"] (spRowI K CT CR CM CP CW CB CNR COR CNW)) (bRw : Binds K fdRw ["self", "tree", "marches"] [])
    (cW : QC K CW fWE) (FWE : FnOk P w K mg base CX0 8 fWE fdWE ["self", "other"] (spRowE K CT CR CM CP CW)) (bWE : Binds K fdWE ["self", "other"] [])
    (hCh : Meth K CBk "change" fCh) (FCh : FnOk P w K mg base CX0 1 fCh fdCh ["self", "kept", "folk", "answers"] (spBkChange K CT CR CM CP CW CBk)) (bCh : Binds K fdCh ["self", "kept", "folk", "answers"] [])
    (FWo : FnOk P w K mg base CX0 1 fWo fdWo ["answers", "name"] spWithout) (bWo : Binds K fdWo ["answers", "name"] []) (mWo : mg "answers_without" = some (.ref fWo)) (kWo : PySem.W.keepIn K (.ref fWo) = true)
    (hMR : ∃ t, mg "MOST_ROWS" = some (.int 8 t)) (hLen : mg "len" = none) (hDict : mg "dict" = none) : FnOk P w K mg base (L2.CX P w) 10 f fd ["self", "name", "marches"] (spBkKeep K CT CR CM CP CW CBk CB CNN CNR COR CNW) := by
  refine F0.okX scBkKeep (fun vs H Q E h => ?_) (fun cdv A outer s0 H vs Q E hr h => ?_)
  · obtain ⟨b, PP, l, z, n, S, fs, av, st, hist, ms, fm, xs, rfl, _⟩ := h
    rfl
  · obtain ⟨b, PP, l, z, n, S, fs, av, st, hist, ms, fm, xs, rfl, zl, BK, short, sq, ma, sm, fl, r99, k1, k2, k3⟩ := h
    obtain ⟨tR, hMR⟩ := hMR
    have hu := hu_of hr
    have hr1 : Room 1 _ := hr.mono (by decide)
    have hr2 : Room 2 _ := hr.mono (by decide)
    have hr6 : Room 6 _ := hr.mono (by decide)
    refine ⟨_, pss_cons (ps_if (pt_not (pt_val (pe_call FIN hr1 rfl mIN kIN bIN .nil pass0 (pa_cons (pv 1) pa_nil))))
        (pss_one (ps_raise rfl (takes_of rfl rfl rfl rfl) (pmk_oex TNN.ox TNN.iC TNN.tI FNN hr2 bNN .nil pass0 (by rfl) TNN.gC (pa_cons (pv 1) pa_nil))))
        pss_nil)
      (pss_cons (ps_if (PW.pt (pw_and (pt_cmp (pc_dnotin hu (pv 1) (pe_fld (pv 0) rfl))) (pw_and1 (pt_cmpR op_ge (pe_callB call_lenD (by rfl) hLen (by decide +kernel) (pa_cons (pe_fld (pv 0) rfl) pa_nil)) (pe_glob (v := V.int 8) rfl hMR ⟨tR, rfl⟩) (nomark _)))))
        (pss_one (ps_raise rfl (takes_of rfl rfl rfl rfl) (pmk_oex TB.ox TB.iC TB.tI FB hr2 bB .nil pass0 (by rfl) TB.gC (pa_cons pe_str (pa_cons (pe_op op_add (pe_glob (v := V.int 8) rfl hMR ⟨tR, rfl⟩) pe_int) pa_nil)))))
        pss_nil)
      (pss_cons (ps_set (i := 3) scBkKeep.nd rfl (Or.inl rfl) (pe_make MRw FRw hr6 (by rfl) TW.mgC bRw .nil (passes_call (takes_of rfl rfl rfl rfl) fun _ _ _ _ h => h) (pa_cons (pe_fld (pv 0) rfl) (pa_cons (pv 2) pa_nil))))
      (pss_one (ps_if (PW.pt (pw_or (pt_cmp (pc_dnotin hu (pv 1) (pe_fld (pv 0) rfl))) (pw_or1 (pt_cmpR (op_neB (rcB_ne FWE cW.eq cW.fn bWE cW.ne cW.hm) hr) (pe_dget hu (pe_fld (pv 0) rfl) (pv 1) (fun _ _ => rfl)) (pv 3) (nomark _)))))
        (pss_cons (ps_set (i := 4) scBkKeep.nd rfl (Or.inl rfl) (pe_callTy call_dictD (by rfl) hDict (by decide +kernel) (pa_cons (pe_fld (pv 0) rfl) pa_nil)))
        (pss_cons (ps_dput hu (pv 4) (pv 1) (pv 3) rfl)
        (pss_one (ps_expr (pe_meth (pv 0) T.cl hCh FCh hr1 bCh .nil pass0 (pa_cons (pv 4) (pa_cons (pe_fld (pv 0) rfl) (pa_cons (pe_call FWo hr1 rfl mWo kWo bWo .nil pass0 (pa_cons (pe_fld (pv 0) rfl) (pa_cons (pv 1) pa_nil))) pa_nil))))))))
        pss_nil)))), ?_⟩
    obtain ⟨dx, x, D, L, A', ps, ts, e, TA, ST, eP, pr⟩ := id BK.at_
    obtain ⟨kvs, gD, kv⟩ := ST.kept
    obtain ⟨v1, v2⟩ := kv_val kv z
    have kl : kvs.length = st.rows.length := Paired.length kv
    -- if not is_name(name)
    refine ⟨_, rfl, z, rfl, zl, fun H1 s1 => ⟨_, rfl, ?_⟩⟩
    cases nm : isNm z with
    | false => exact iteT ⟨_, rfl, len1, fun bb hb => er1 hb (Raised.mono (k1 nm) s1)⟩
    | true =>
    refine iteF ?_
    have e1 := s1 _ _ e
    have gD1 := s1 _ _ gD
    -- if name not in self.kept and len(self.kept) >= MOST_ROWS
    refine ⟨_, rfl, _, rfl, b, CBk, dx, _, _, rfl, e1, T.cl, T.nK, bkF_k x D L A' PP, D, _, rfl, DGet.k (k := .inr z) gD1, _, rfl, ?_⟩
    have vs : (valV kvs (.inr z)).isSome = (rowOf st.rows z).isSome := by
      cases h : rowOf st.rows z with
      | none => rw [v1 h]; rfl
      | some ys =>
        obtain ⟨rw', e2, _⟩ := v2 ys h
        rw [e2]
        rfl
    rw [vs]
    by_cases c : rowOf st.rows z = none ∧ 8 ≤ st.rows.length
    · rw [c.1]
      refine iteT ⟨_, rfl, b, CBk, dx, _, _, rfl, e1, T.cl, T.nK, bkF_k x D L A' PP, D, kvs, rfl, gD1, _, _, rfl, rfl, _, rfl, ?_⟩
      rw [kl, decide_eq_true (by have := c.2; omega)]
      exact iteT ⟨_, _, rfl, rfl, len2, fun bb hb => er2 hb (Raised.mono (k2 nm c.1 c.2) s1)⟩
    obtain ⟨kE, kX, kS, kC⟩ := k3 nm c
    by_cases hn : (rowOf st.rows z).isSome = true
    · rw [hn]
      refine iteF ?_
      -- made = Row(self.tree, marches)
      refine ⟨_, rfl, b, CBk, dx, _, _, rfl, e1, T.cl, T.nT, bkF_t x D L A' PP, _, rfl, fun y dy ny ndy nyd => ?_⟩
      have s9 := (Same.new (o := .own y) ndy).trans (Same.new (o := .ins CW dy []) (show upd H1 dy (.own y) y = none by rw [upd_ne (Ne.symm nyd)]; exact ny))
      refine ⟨y, dy, x, l, n, ps, fs, ms, fm, H1, rfl, upd_same, ny, s9, TA.same s1, BK.G, sq.same s1, MasAt.same ma s1, sm, fl, fun e z => RaisM.mono (kE e z) s1, fun en H2 RA s2 => ⟨rfl, ?_⟩⟩
      obtain ⟨rfl, okx, lx⟩ := kX en
      have s12 := s1.trans s2
      have RS : RowS K CT CR CM CP CW H2 y n fs xs := ⟨okx, lx, BK.G, x, ps, ms, RA, TA.same s12, MasAt.same ma s12⟩
      have e2 := s12 _ _ e
      have gD2 := s12 _ _ gD
      have kv2 := kv.kz (.of s12)
      -- if name not in self.kept or self.kept[name] != made
      refine ⟨_, rfl, _, rfl, b, CBk, dx, _, _, rfl, e2, T.cl, T.nK, bkF_k x D L A' PP, D, _, rfl, DGet.k (k := .inr z) gD2, _, rfl, ?_⟩
      rw [vs]
      obtain ⟨ys, hys⟩ : ∃ ys, rowOf st.rows z = some ys := Option.isSome_iff_exists.mp hn
      rw [hys]
      obtain ⟨rw', ev, Ry⟩ := v2 ys hys
      refine iteF ⟨_, rfl, b, CBk, dx, _, _, rfl, e2, T.cl, T.nK, bkF_k x D L A' PP, _, rfl, D, .ref rw', rfl, by rw [← ev]; exact DGet.k (k := .inr z) gD2, _, rfl, ?_⟩
      have Ry2 := Ry.kz (.of s12)
      obtain ⟨a1, p1, m1, ⟨d1, t1, er, _⟩, _, _⟩ := Ry2.at_
      obtain ⟨d2, t2, er2', _⟩ := RA
      refine ⟨rw', d1, _, _, rfl, er, .ins er2', nf_same, rw', n, fs, ys, _, rfl, Ry2, .inl ⟨y, n, fs, xs, rfl, RS, fun H3 s3 => ⟨_, rfl, ?_⟩⟩⟩
      by_cases q : rowK fs ys = rowK fs xs
      · rw [decide_eq_true ⟨⟨rfl, rfl⟩, q⟩]
        exact ⟨_, rfl, iteF (kS en ys hys q H3 (s12.trans s3))⟩
      · rw [decide_eq_false fun h => q h.2]
        refine ⟨_, rfl, iteT ?_⟩
        -- kept = dict(self.kept), kept[name] = made
        refine ⟨_, rfl, b, CBk, dx, _, _, rfl, (s3 _ _ e2), T.cl, T.nK, bkF_k x D L A' PP, D, kvs, rfl, .inl (s3 _ _ gD2), fun p hp => ⟨_, rfl, _, rfl, _, rfl, p, _, rfl, DPut.k (k := .inr z) upd_same (by rw [kl, PySem.sizeLine_eq]; omega), ?_⟩⟩
        have s4 : Same H3 (upd (upd H3 p (.dK kvs)) p (.dK (putK kvs (.inr z) (.ref y)))) := fun c o ec => by
          rw [upd_ne (ne_of_none ec hp), upd_ne (ne_of_none ec hp)]
          exact ec
        have gp4 : upd (upd H3 p (.dK kvs)) p (.dK (putK kvs (.inr z) (.ref y))) p = some (.dK (putK kvs (.inr z) (.ref y))) := upd_same
        generalize upd (upd H3 p (.dK kvs)) p (.dK (putK kvs (.inr z) (.ref y))) = H4 at s4 gp4 ⊢
        have sA4 := (s12.trans s3).trans s4
        -- self.change(kept, self.folk, answers_without(self.answers, name))
        refine ⟨_, rfl, b, dx, _, rfl, sA4 _ _ e, bkF_no (by decide +kernel), _, rfl, _, rfl, b, CBk, dx, _, _, rfl, sA4 _ _ e, T.cl, T.nF, bkF_f x D L A' PP, _, rfl, b, CBk, dx, _, _, rfl, sA4 _ _ e, T.cl, T.nA, bkF_a x D L A' PP, _, rfl, A', z, st.ans, rfl, sA4 _ _ ST.ans, ST.ok.na, ST.ok.many, fun A2 H5 s5 nA gA => ?_⟩
        have sA5 := sA4.trans s5
        have ok := ST.ok
        have pl := putR_len (l := st.rows) (z := z) (xs := xs)
        refine ⟨b, PP, p, L, A2, n, S, fs, av, st, ⟨putR st.rows z xs, st.folk, without st.ans z⟩, hist, rfl, BK.same sA5, ⟨⟨putR_nd ok.nd, without_nd ok.na, by show (putR st.rows z xs).length ≤ 100; omega, ok.folk, Nat.le_trans without_len ok.many, ok.on⟩, ⟨_, s5 _ _ gp4, kv_put (kv.kz (.of sA5)) ((RS.kz (.of s3)).kz (.of (s4.trans s5)))⟩, ?_, ST.av, gA⟩, short, fun H6 k6 BK6 => kC en (fun ys' h' => by rw [hys] at h'; cases h'; exact q) H6 (KzB.trans (KzB.of sA5) k6) BK6⟩
        obtain ⟨qs, gL, plL⟩ := ST.folk
        exact ⟨qs, sA5 _ _ gL, Paired.mapP plL fun _ _ a => a.same sA5⟩
    · have hn' : rowOf st.rows z = none := by
        cases q : rowOf st.rows z with
        | none => rfl
        | some _ => rw [q] at hn; exact absurd rfl hn
      rw [hn']
      refine iteT ⟨_, rfl, b, CBk, dx, _, _, rfl, e1, T.cl, T.nK, bkF_k x D L A' PP, D, kvs, rfl, gD1, _, _, rfl, rfl, _, rfl, ?_⟩
      rw [kl, decide_eq_false (fun q => c ⟨hn', by omega⟩)]
      refine iteF ?_
      -- made = Row(self.tree, marches)
      refine ⟨_, rfl, b, CBk, dx, _, _, rfl, e1, T.cl, T.nT, bkF_t x D L A' PP, _, rfl, fun y dy ny ndy nyd => ?_⟩
      have s9 := (Same.new (o := .own y) ndy).trans (Same.new (o := .ins CW dy []) (show upd H1 dy (.own y) y = none by rw [upd_ne (Ne.symm nyd)]; exact ny))
      refine ⟨y, dy, x, l, n, ps, fs, ms, fm, H1, rfl, upd_same, ny, s9, TA.same s1, BK.G, sq.same s1, MasAt.same ma s1, sm, fl, fun e z => RaisM.mono (kE e z) s1, fun en H2 RA s2 => ⟨rfl, ?_⟩⟩
      obtain ⟨rfl, okx, lx⟩ := kX en
      have s12 := s1.trans s2
      have RS : RowS K CT CR CM CP CW H2 y n fs xs := ⟨okx, lx, BK.G, x, ps, ms, RA, TA.same s12, MasAt.same ma s12⟩
      have e2 := s12 _ _ e
      have gD2 := s12 _ _ gD
      have kv2 := kv.kz (.of s12)
      -- if name not in self.kept or self.kept[name] != made
      refine ⟨_, rfl, _, rfl, b, CBk, dx, _, _, rfl, e2, T.cl, T.nK, bkF_k x D L A' PP, D, _, rfl, DGet.k (k := .inr z) gD2, _, rfl, ?_⟩
      rw [vs]
      rw [hn']
      refine iteT ?_
      -- kept = dict(self.kept), kept[name] = made
      refine ⟨_, rfl, b, CBk, dx, _, _, rfl, (e2), T.cl, T.nK, bkF_k x D L A' PP, D, kvs, rfl, .inl (gD2), fun p hp => ⟨_, rfl, _, rfl, _, rfl, p, _, rfl, DPut.k (k := .inr z) upd_same (by rw [kl, PySem.sizeLine_eq]; omega), ?_⟩⟩
      have s4 : Same H2 (upd (upd H2 p (.dK kvs)) p (.dK (putK kvs (.inr z) (.ref y)))) := fun c o ec => by
        rw [upd_ne (ne_of_none ec hp), upd_ne (ne_of_none ec hp)]
        exact ec
      have gp4 : upd (upd H2 p (.dK kvs)) p (.dK (putK kvs (.inr z) (.ref y))) p = some (.dK (putK kvs (.inr z) (.ref y))) := upd_same
      generalize upd (upd H2 p (.dK kvs)) p (.dK (putK kvs (.inr z) (.ref y))) = H4 at s4 gp4 ⊢
      have sA4 := (s12).trans s4
      -- self.change(kept, self.folk, answers_without(self.answers, name))
      refine ⟨_, rfl, b, dx, _, rfl, sA4 _ _ e, bkF_no (by decide +kernel), _, rfl, _, rfl, b, CBk, dx, _, _, rfl, sA4 _ _ e, T.cl, T.nF, bkF_f x D L A' PP, _, rfl, b, CBk, dx, _, _, rfl, sA4 _ _ e, T.cl, T.nA, bkF_a x D L A' PP, _, rfl, A', z, st.ans, rfl, sA4 _ _ ST.ans, ST.ok.na, ST.ok.many, fun A2 H5 s5 nA gA => ?_⟩
      have sA5 := sA4.trans s5
      have ok := ST.ok
      have pl := putR_len (l := st.rows) (z := z) (xs := xs)
      refine ⟨b, PP, p, L, A2, n, S, fs, av, st, ⟨putR st.rows z xs, st.folk, without st.ans z⟩, hist, rfl, BK.same sA5, ⟨⟨putR_nd ok.nd, without_nd ok.na, by show (putR st.rows z xs).length ≤ 100; omega, ok.folk, Nat.le_trans without_len ok.many, ok.on⟩, ⟨_, s5 _ _ gp4, kv_put (kv.kz (.of sA5)) ((RS).kz (.of (s4.trans s5)))⟩, ?_, ST.av, gA⟩, short, fun H6 k6 BK6 => kC en (fun ys' h' => by rw [hn'] at h'; cases h') H6 (KzB.trans (KzB.of sA5) k6) BK6⟩
      obtain ⟨qs, gL, plL⟩ := ST.folk
      exact ⟨qs, sA5 _ _ gL, Paired.mapP plL fun _ _ a => a.same sA5⟩
end
end OT
set_option Elab.async false
set_option linter.all false
set_option maxRecDepth 100000
set_option maxHeartbeats 4000000
namespace OTR
open PySem PySem.Spec L2 PyProof.Rows
end OTR
set_option Elab.async false
set_option linter.all false
set_option maxRecDepth 100000
set_option maxHeartbeats 4000000
set_option Elab.async false
set_option linter.all false
set_option maxRecDepth 100000
set_option maxHeartbeats 4000000
namespace OT
open PySem L2 OTR
abbrev sAfter : Stmt := top 39
def spAfter (K : PySem.W.Frag) (CT CR CM CP CW CB CNR COR : Addr) : Sp := fun vs H Q E => ∃ (rw p a : Addr) (c n S i : Int) (k : Nat) (ps : List Addr) (F : List Fact) (ms : List Addr) (xs : List MG) (r : Fact), vs = [.ref rw, .ref p, .int c] ∧ RowAt K CW H rw a ms ∧ TreeAt K CT CR H a n ps F ∧ TreeG n F ∧
  MasAt CM CP H ms (xs.map mf) ∧ (∀ x ∈ xs, MgOk F x) ∧ xs.length ≤ 1000 ∧ PlaceAt CP H p r ∧ PlSm r ∧ low r = r ∧ PlErr CNR COR F r H E ∧ (PlOn F r → ¬ (0 ≤ c ∧ c ≤ 1000) → Raised CB [("count", .int c), ("what", .str "rounds")] H E) ∧ (PlOn F r → PlE F S r k i ∧ 1 ≤ S ∧ S ≤ 1000) ∧
  (PlOn F r → 0 ≤ c → c ≤ 1000 → ∀ p' H' v, Same H H' → GoR F S xs c.toNat (node F S k i) v → PlaceAt CP H' p' (keyF F S v) → Q (.ref p') H')
section
variable {P : Program} {w : World} {K : PySem.W.Frag} {mg : Str → Option Value} {base : Heap}
abbrev nAfter : List Str := ["row", "place", "rounds", "there", "_", "march"]
theorem scAfter : FnScope nAfter ["row", "place", "rounds"] (defScope sAfter) := ⟨rfl, rfl, rfl, by decide +kernel, rfl, by decide +kernel, by decide +kernel⟩
theorem ok_after {f CT CR CM CP CW CB CNR COR fK fS fB : Addr} {fd fdK fdS fdB : FuncData} (F : Fun K "after" "after" sAfter f fd) (TRw : RwT K mg CW) (TM : MaT K mg CM) (TB : ErT K mg "BadCount" CB fB)
    (FB : FnOk P w K mg base CX0 1 fB fdB ["self", "what", "count"] (spEr2 CB "what" "count")) (bB : Binds K fdB ["self", "what", "count"] [])
    (FK : FnOk P w K mg base (L2.CX P w) 6 fK fdK ["tree", "place"] (spKey K CT CR CP CNR COR)) (bK : Binds K fdK ["tree", "place"] []) (mK : mg "key" = some (.ref fK)) (kK : PySem.W.keepIn K (.ref fK) = true)
    (FS : FnOk P w K mg base (L2.CX P w) 7 fS fdS ["tree", "place", "goal", "steps"] (spStep K CT CR CP CB CNR COR)) (bS : Binds K fdS ["tree", "place", "goal", "steps"] []) (mS : mg "step" = some (.ref fS)) (kS : PySem.W.keepIn K (.ref fS) = true)
    (hMost : ∃ t, mg "MOST_ROUNDS" = some (.int 1000 t)) (hRg : mg "range" = none) :
    FnOk P w K mg base (L2.CX P w) 8 f fd ["row", "place", "rounds"] (spAfter K CT CR CM CP CW CB CNR COR) := by
  refine F.okX scAfter (fun vs H Q E h => ?_) (fun cdv A outer s H vs Q E hr h => ?_)
  · obtain ⟨rw, p, a, c, n, S, i, k, ps, F, ms, xs, r, rfl, _⟩ := h
    rfl
  · obtain ⟨rw, p, a, c, n, S, i, k, ps, F, ms, xs, r, rfl, ⟨dw, t, ew, et⟩, TA, G, hM, ok, lx, pl, sm, lo, x1, x2, x3, kont⟩ := h
    obtain ⟨tm, hMost⟩ := hMost
    have hr2 : Room 2 _ := hr.mono (by decide)
    have hr6 : Room 6 _ := hr.mono (by decide)
    refine ⟨_, pss_cons (ps_set (i := 3) scAfter.nd rfl (Or.inl rfl) (pe_call FK hr6 rfl mK kK bK .nil (passes_call (takes_of rfl rfl rfl rfl) fun _ _ _ _ h => h) (pa_cons (pe_fld (pv 0) rfl) (pa_cons (pv 1) pa_nil))))
      (pss_cons (ps_if (pt_not (pt_chain op_le op_le pe_int (pv 2) (pe_glob (v := V.int 1000) rfl hMost ⟨tm, rfl⟩)))
          (pss_one (ps_raise rfl (takes_of rfl rfl rfl rfl) (pmk_oex TB.ox TB.iC TB.tI FB hr2 bB .nil pass0 (by rfl) TB.gC (pa_cons pe_str (pa_cons (pv 2) pa_nil))))) pss_nil)
      (pss_cons (ps_for (passes_of rfl) rfl (pi_range1 (by rfl) hRg (pa_cons (pv 2) pa_nil)) (pg_name (i := 4) scAfter.nd rfl (Or.inl rfl))
        (pss_one (ps_for (passes_of rfl) rfl (pi_tup (pe_fld (pv 0) rfl)) (pg_name (i := 5) scAfter.nd rfl (Or.inl rfl))
          (pss_one (ps_set (i := 3) scAfter.nd rfl (Or.inl rfl) (pe_call FS hr rfl mS kS bS .nil passF (pa_cons (pe_fld (pv 0) rfl) (pa_cons (pv 3) (pa_cons (pe_fld (pv 5) rfl) (pa_cons (pe_fld (pv 5) rfl) pa_nil))))))))))
      (pss_one (ps_ret (pv 3))))), ?_⟩
    have lenE : (ms.map V.ref).length = xs.length := by rw [List.length_map, Paired.length hM, List.length_map]
    -- there = key(row.tree, place)
    refine ⟨_, rfl, rw, CW, dw, _, _, rfl, ew, TRw.cl, TRw.nT, rwF_t a t, _, rfl, a, p, n, ps, F, r, rfl, TA, pl, G, sm, lo, x1.1, x1.2, fun on p1 H1 s1 pl1 => ?_⟩
    obtain ⟨pe, S1, S2⟩ := x3 on
    rw [pe.keyF] at pl1
    have x2 := x2 on
    have kont := kont on
    have oU : OnT F S (node F S k i) := ⟨k, i, pe.on, rfl⟩
    refine ⟨_, rfl, _, _, rfl, rfl, _, rfl, ?_⟩
    by_cases h0 : 0 ≤ c
    · rw [decide_eq_true h0]
      refine iteT ⟨_, _, rfl, rfl, _, rfl, ?_⟩
      by_cases h1 : c ≤ 1000
      · rw [decide_eq_true h1]
        refine iteF ?_
        refine ⟨_, rfl, c, rfl, by omega, by omega, for_range (lo := 0) (n := c.toNat) (fun j σ G2 => ∃ (p2 : Addr) (u : Nd) (v4 v5 : Option V), σ = [some (.ref rw), some (.ref p), some (.int c), some (.ref p2), v4, v5] ∧ Same H G2 ∧ GoR F S xs j (node F S k i) u ∧ PlaceAt CP G2 p2 (keyF F S u))
          ⟨p1, _, none, none, rfl, s1, rfl, pl1⟩ ?_ ?_⟩
        · rintro j σ G2 hj ⟨p2, u, v4, v5, rfl, s2, gr, pl2⟩
          have ou := GoR.on G.m S1 ok oU gr
          refine ⟨_, rfl, rw, CW, dw, _, _, rfl, s2 _ _ ew, TRw.cl, TRw.nM, rwF_m a t, t, rfl, ⟨_, sqT_same et s2⟩, for_tup (K := K) (a := t) (xs := ms.map V.ref) (fun b σ G3 => ∃ (p3 : Addr) (u' : Nd) (v5 : Option V), σ = [some (.ref rw), some (.ref p), some (.int c), some (.ref p3), some (.int (0 + (j : Nat))), v5] ∧ Same H G3 ∧ GoL F S (xs.take b) u u' ∧ PlaceAt CP G3 p3 (keyF F S u'))
            ⟨p2, u, v5, rfl, s2, rfl, pl2⟩ (fun b σ G3 _ ⟨_, _, _, _, s3, _⟩ => sqT_same et s3) ?_ ?_⟩
          · rintro b y σ G3 hb ⟨p3, u', v5, rfl, s3, gl, pl3⟩
            obtain ⟨q, hq, rfl⟩ := map_get hb
            obtain ⟨m, hm, g, ⟨dm, em⟩, gp⟩ := paired_get hM hq
            obtain ⟨x, hx, rfl⟩ := map_get hm
            have mx := ok x (List.mem_of_getElem? hx)
            have okT : ∀ y ∈ xs.take b, MgOk F y := fun y hy => ok y (List.mem_of_mem_take hy)
            have ou' := GoL.on G.m S1 okT ou gl
            obtain ⟨kk, ii, pk, en⟩ := key_ple G.m G.n2 S1 ou'
            rw [low_mf] at gp
            have pg : PlE F S (((x.1 : Nat) : Int), x.2.1, 1) x.1 (x.2.1 * S) := by
              have z := mkPlE (F := F) (s := 1) (c := S) (k := x.1) (i := x.2.1) (Int.le_refl 1) S1 ⟨mx.rd, mx.lo, by unfold sz; rw [Int.mul_one]; exact mx.hi⟩
              rw [low_one, Int.one_mul] at z
              exact z
            have l1 := pk.le
            have l2 := pk.p1
            refine ⟨_, rfl, rw, CW, dw, _, _, rfl, s3 _ _ ew, TRw.cl, TRw.nT, rwF_t a t, _, rfl, _, rfl, q, CM, dm, _, _, rfl, s3 _ _ em, TM.cl, TM.nG, maF_g g _, _, rfl, q, CM, dm, _, _, rfl, s3 _ _ em, TM.cl, TM.nS, maF_s g _, ?_⟩
            refine ⟨a, p3, g, n, ps, F, keyF F S u', (((x.1 : Nat) : Int), x.2.1, 1), x.2.2, rfl, TA.same s3, pl3, gp.same s3, G, ⟨l2, by omega⟩, ⟨by show (1 : Int) ≤ 1; omega, by show (1 : Int) < 2 ^ 60; omega⟩, low_one _ _, by show _ * (1 : Int) < _; omega, PlErr.none pk.pl, fun _ => PlErr.none pg.pl, fun _ _ z => absurd z (by have := mx.s1; omega), fun _ _ _ p4 G4 s4 pl4 => ?_⟩
            rw [step_eq G.m pk pg S1] at pl4
            refine ⟨p4, _, _, rfl, s3.trans s4, ?_, pl4⟩
            rw [take_get hx]
            exact gl.snoc ⟨kk, ii, pk.on, en.symm, rfl⟩
          · rintro σ G3 ⟨p3, u', v5, rfl, s3, gl, pl3⟩
            rw [lenE, List.take_length] at gl
            exact ⟨p3, u', _, _, rfl, s3, ⟨u, gr, gl⟩, pl3⟩
        · rintro σ G2 ⟨p2, u, v4, v5, rfl, s2, gr, pl2⟩
          exact ⟨_, rfl, kont h0 h1 p2 G2 u s2 gr pl2⟩
      · rw [decide_eq_false h1]
        exact iteT ⟨_, rfl, len2, fun b hb => er2 hb ((x2 fun z => h1 z.2).mono s1)⟩
    · rw [decide_eq_false h0]
      exact iteF ⟨_, rfl, iteT ⟨_, rfl, len2, fun b hb => er2 hb ((x2 fun z => h0 z.1).mono s1)⟩⟩
end
end OT
set_option Elab.async false
set_option linter.all false
set_option maxRecDepth 100000
set_option maxHeartbeats 2000000
namespace OTR
open PySem PySem.Spec PyProof.Rows L2
open AutoSeq1 (wpAny_loadPart')
open MeetsSeq MeetsSeq2 MeetsSeq3 SeqRoads2 SeqAt
section
variable {X : Cx} {n : Nat} {R : Rdg} {a b : Addr} {xa ya : List V} {Q : Bool → Hp → Prop} {pn : List (Addr × Obj)} {σ : L2.St} {A : Around}
theorem ls_loopN (eq : EqB X n R) (sb : Sub X (n + 1) A) (hl : xa.length = ya.length) : ∀ (xs ys : List V) (i : Nat) (H : Hp) (t : Shared), xs = xa.drop i → ys = ya.drop i → i + xs.length = xa.length → Inv X pn σ H t → lsAll R a b xa ya xs ys H (fun r H' => Q (!r) H') →
    wpAny (model X.prog X.w) A.in1 (Builtin.«list.__eq__.loop» ⟨[.ref a, .ref b, rawInt i, rawInt 3], []⟩) (GQ.FinOf X.prog X.w A (wants (toldB X pn σ Q) X.xe)) (fun e t' => wants (toldB X pn σ Q) X.xe (.error e) t') t := by
  intro xs
  induction xs with
  | nil =>
    intro ys i H t hx hy hi I h
    obtain ⟨ha, hb⟩ := h.at_
    obtain ⟨_, its, k, rv, e⟩ := (show ObjOk X.prog X.w H t.heap a (.lst xa) from I.hok a _ ha)
    obtain ⟨_, its2, k2, rv2, e2⟩ := (show ObjOk X.prog X.w H t.heap b (.lst ya) from I.hok b _ hb)
    have q : Q false H := by cases ys <;> exact h.2
    have fin : wants (toldB X pn σ Q) X.xe (.ok (.ret (.bool false))) t := ⟨false, H, rfl, I, q⟩
    have l1 := rv.length
    have l2 := rv2.length
    have n1 : its.toArray[((i : Nat) : Int).toNat]? = none := by
      simp at hi
      simp
      omega
    have n2 : its2.toArray[((i : Nat) : Int).toNat]? = none := by
      simp at hi
      simp
      omega
    have sz : (its.toArray.size != its2.toArray.size) = false := by
      simp
      omega
    obtain ⟨hp, g, d, tk, os⟩ := t
    wp_walk using wpAny_loadPart' e, wpAny_loadPart' e2
    rw [n1, n2]
    wp_walk using wpAny_loadPart' e, wpAny_loadPart' e2
    show wants (toldB X pn σ Q) X.xe (.ok (.ret (.bool (its.toArray.size != its2.toArray.size)))) _
    rw [sz]
    exact fin
  | cons x xs ih =>
    intro ys i H t hx hy hi I h
    obtain ⟨ha, hb⟩ := h.at_
    obtain ⟨_, its, k, rv, e⟩ := (show ObjOk X.prog X.w H t.heap a (.lst xa) from I.hok a _ ha)
    obtain ⟨_, its2, k2, rv2, e2⟩ := (show ObjOk X.prog X.w H t.heap b (.lst ya) from I.hok b _ hb)
    have lt : i < xa.length := by
      rw [List.length_cons] at hi
      omega
    have lt2 : i < ya.length := by omega
    have hx2 := hx
    rw [List.drop_eq_getElem_cons lt] at hx2
    injection hx2 with ex etx
    have hy2 := hy
    rw [List.drop_eq_getElem_cons lt2] at hy2
    subst hy2
    obtain ⟨v, hv, r1⟩ := rv.get (List.getElem?_eq_getElem lt)
    obtain ⟨v2, hv2, r2⟩ := rv2.get (List.getElem?_eq_getElem lt2)
    rw [← ex] at r1
    have one : its.toArray[((i : Nat) : Int).toNat]? = some v := by simpa using hv
    have two : its2.toArray[((i : Nat) : Int).toNat]? = some v2 := by simpa using hv2
    have step := eq A.in1 pn t σ H x _ v v2 _ sb.in1 I r1 r2 h.2
    obtain ⟨hp, g, d, tk, os⟩ := t
    wp_walk using wpAny_loadPart' e, wpAny_loadPart' e2
    rw [one, two]
    refine wpAny_bind (wpAny_mono step (fun r t2 q => ?_) fun _ _ z => z)
    obtain ⟨H2, I2, q⟩ := q
    cases r with
    | true =>
      have more := ih (ya.drop (i + 1)) (i + 1) H2 t2 etx rfl (by rw [List.length_cons] at hi; omega) I2 q
      have nx : ((i : Int) + 1) = ((i + 1 : Nat) : Int) := by omega
      obtain ⟨hp2, g2, d2, tk2, os2⟩ := t2
      wp_walk
      rw [nx]
      exact ⟨plainId_quiet plain_eq_loop _, codeAny_builtin entry_eq_loop (by
        rw [Around.under_plainId plain_eq_loop _]
        exact more)⟩
    | false =>
      obtain ⟨⟨ha2, hb2⟩, q⟩ := (show (H2 a = some (.lst xa) ∧ H2 b = some (.lst ya)) ∧ Q (!false) H2 from q)
      have fin : wants (toldB X pn σ Q) X.xe (.ok (.ret (.bool true))) t2 := ⟨true, H2, rfl, I2, q⟩
      obtain ⟨_, its3, k3, rv3, e3⟩ := (show ObjOk X.prog X.w H2 t2.heap a (.lst xa) from I2.hok a _ ha2)
      obtain ⟨_, its4, k4, rv4, e4⟩ := (show ObjOk X.prog X.w H2 t2.heap b (.lst ya) from I2.hok b _ hb2)
      obtain ⟨v3, hv3, _⟩ := rv3.get (List.getElem?_eq_getElem lt)
      obtain ⟨v4, hv4, _⟩ := rv4.get (List.getElem?_eq_getElem lt2)
      have three : its3.toArray[((i : Nat) : Int).toNat]? = some v3 := by simpa using hv3
      have four : its4.toArray[((i : Nat) : Int).toNat]? = some v4 := by simpa using hv4
      obtain ⟨hp2, g2, d2, tk2, os2⟩ := t2
      wp_walk using wpAny_loadPart' e3, wpAny_loadPart' e4
      rw [three, four]
      wp_walk
      exact fin
theorem ls_callN {H : Hp} {t : Shared} (eq : EqB X n R) (sb : Sub X (n + 1) A) (I : Inv X pn σ H t) (ha : H a = some (.lst xa)) (hb : H b = some (.lst ya)) (h1 : xa.length ≠ ya.length → Q true H) (h2 : xa.length = ya.length → lsAll R a b xa ya xa ya H (fun r H' => Q (!r) H')) :
    wpAny (model X.prog X.w) A (call (.builtin "list.__ne__") [.ref a, .ref b]) (toldB X pn σ Q) X.xe t := by
  obtain ⟨_, its, k, rv, e⟩ := (show ObjOk X.prog X.w H t.heap a (.lst xa) from I.hok a _ ha)
  obtain ⟨_, its2, k2, rv2, e2⟩ := (show ObjOk X.prog X.w H t.heap b (.lst ya) from I.hok b _ hb)
  have l1 := rv.length
  have l2 := rv2.length
  have f3 := AutoSeq1.sub_list_list
  refine GQ.call_here F.slot_list_ne ⟨_, e, rfl⟩ F.entry_list_ne (F.args_list_ne_2 _ _) ?_
  by_cases hl : xa.length = ya.length
  · have go := ls_loopN (A := A) (a := a) (b := b) eq sb hl xa ya 0 H t rfl rfl (by simp) I (h2 hl)
    have hne : ¬ (its.toArray.size != its2.toArray.size) = true := by
      simp
      omega
    obtain ⟨hp, g, d, tk, os⟩ := t
    wp_walk using wpAny_loadPart' e, wpAny_loadPart' e2
    rw [if_neg hne]
    wp_walk
    exact ⟨plainId_quiet plain_eq_loop _, codeAny_builtin entry_eq_loop (by
      rw [Around.under_plainId plain_eq_loop _]
      exact go)⟩
  · have hne : (its.toArray.size != its2.toArray.size) = true := by
      simp
      omega
    have fin : wants (toldB X pn σ Q) X.xe (.ok (.ret (.bool true))) t := ⟨true, H, rfl, I, h1 hl⟩
    obtain ⟨hp, g, d, tk, os⟩ := t
    wp_walk using wpAny_loadPart' e, wpAny_loadPart' e2
    rw [if_pos hne]
    wp_walk
    exact fin
theorem rcB_lstN (eq : EqB X n R) : RcB X (n + 1) .NotEq (RNot (RLst R)) := by
  intro A pn t σ H x y u v Q sb I rx ry h
  obtain ⟨a, b, xs, ys, rfl, rfl, ha, hb, h1, h2⟩ := h
  cases (show u = Value.ref a from rx)
  cases (show v = Value.ref b from ry)
  obtain ⟨_, its, k, rv, e⟩ := (show ObjOk X.prog X.w H t.heap a (.lst xs) from I.hok a _ ha)
  obtain ⟨_, its2, k2, rv2, e2⟩ := (show ObjOk X.prog X.w H t.heap b (.lst ys) from I.hok b _ hb)
  refine wpAny_richCompare_same_room (op := .NotEq) (T := "list") ⟨_, e, rfl⟩ ⟨_, e2, rfl⟩ F.slot_list_ne (wpAny_mono (ls_callN eq sb I ha hb h1 h2) (fun r t' q => ?_) fun _ _ z => z) sb.room.units0
  obtain ⟨r', H', rfl, I', q⟩ := q
  exact ⟨(fun z => nomatch z), r', H', rfl, I', q⟩
end
end OTR
set_option Elab.async false
set_option linter.all false
set_option maxRecDepth 100000
set_option maxHeartbeats 4000000
namespace OT
open PySem L2 OTR
abbrev sBkCall : Stmt := inClass (top 46) 6
theorem tnB {σ : List (Option V)} {H : Hp} {Q : List V → Hp → Prop} (h : Q [] H) : tNil σ H Q := h
theorem pl_map {CP : Addr} {H : Hp} {F : List Fact} {S : Int} {ps : List Addr} {us : List Nd} (h : Paired (fun p u => PlaceAt CP H p (keyF F S u)) ps us) : Paired (PlaceAt CP H) ps (us.map (keyF F S)) := by
  induction h with
  | nil => exact .nil
  | cons h _ ih => exact .cons h ih
theorem eq_plD {K : PySem.W.Frag} {CP : Addr} {H : Hp} {p p' : Addr} {z z' : Fact} {Q : Bool → Hp → Prop} (h : PlaceAt CP H p z) (k : PlaceAt CP H p' z') (q : Q (decide (z = z')) H) : ROr (ROwn K CP (spPlaceE CP)) (.ref p) (.ref p') H Q := by
  obtain ⟨dx, e1⟩ := id h
  obtain ⟨dy, e2⟩ := id k
  by_cases e : p = p'
  · subst e
    rw [e1] at e2
    have e3 : plF z = plF z' := by injection Option.some.inj e2
    rw [decide_eq_true (plF_inj e3)] at q
    exact .inl ⟨p, rfl, rfl, q⟩
  · exact .inr ⟨⟨_, _, .ins e1, .ins e2⟩, fun z => e (V.ref.inj z), p, dx, plF z, _, rfl, e1, .ins e2, nf_same, p, dx, z, _, rfl, e1, .inl ⟨p', dy, z', rfl, e2, _, rfl, q⟩⟩
theorem ls_plD {K : PySem.W.Frag} {CP : Addr} {H : Hp} {a b : Addr} {xa ya : List V} {Q : Bool → Hp → Prop} (ha : H a = some (.lst xa)) (hb : H b = some (.lst ya)) : ∀ {ps ps' : List Addr} {zs zs' : List Fact}, Paired (PlaceAt CP H) ps zs → Paired (PlaceAt CP H) ps' zs' → ps.length = ps'.length → Q (decide (zs = zs')) H → lsAll (ROr (ROwn K CP (spPlaceE CP))) a b xa ya (ps.map V.ref) (ps'.map V.ref) H Q
  | _, _, _, _, .nil, .nil, _, q => ⟨⟨ha, hb⟩, q⟩
  | _, _, _, _, .nil, .cons _ _, l, _ => by simp at l
  | _, _, _, _, .cons _ _, .nil, l, _ => by simp at l
  | _, _, _, _, .cons (b := z) h t, .cons (b := z') k u, l, q => by
    refine ⟨⟨ha, hb⟩, eq_plD h k ?_⟩
    by_cases e : z = z'
    · subst e
      rw [decide_eq_true rfl, if_pos rfl]
      refine ls_plD ha hb t u (by simpa using l) ?_
      have w : ∀ zs zs' : List Fact, decide (z :: zs = z :: zs') = decide (zs = zs') := fun zs zs' => by simp
      rw [w] at q
      exact q
    · rw [decide_eq_false e, if_neg Bool.false_ne_true]
      rw [decide_eq_false (fun w => e (List.cons.inj w).1)] at q
      exact ⟨⟨ha, hb⟩, q⟩
theorem afterK {K : PySem.W.Frag} {CT CR CM CP CW CB CNR COR : Addr} {rw' pp : Addr} {n S : Int} {F : List Fact} {xs : List MG} {u : Nd} {G : Hp} {Q : VK} {E : XK} (row : RowS K CT CR CM CP CW G rw' n F xs) (pl : PlaceAt CP G pp (keyF F S u)) (ou : OnT F S u) (S1 : 1 ≤ S) (S2 : S ≤ 1000)
    (fin : ∀ pa G' v, Same G G' → GoL F S xs u v → PlaceAt CP G' pa (keyF F S v) → Q (.ref pa) G') : spAfter K CT CR CM CP CW CB CNR COR [.ref rw', .ref pp, .int 1] G Q E := by
  obtain ⟨ok, lx, TG, x, ps, ms, ro, te, ma⟩ := row
  obtain ⟨k, i, pe, en⟩ := key_ple TG.m TG.n2 S1 ou
  have := pe.le
  exact ⟨rw', pp, x, 1, n, S, i, k, ps, F, ms, xs, _, rfl, ro, te, TG, ma, ok, by omega, pl, ⟨pe.p1, by omega⟩, pe.lo, PlErr.none pe.pl, fun _ z => absurd ⟨by decide, by decide⟩ z, fun _ => ⟨pe, S1, S2⟩, fun _ _ _ pa G' v s gr pk => fin pa G' v s (by
    obtain ⟨w, a, b⟩ := gr
    cases (show _ = _ from a)
    rw [en] at b
    exact b) pk⟩
def spBkCall (K : PySem.W.Frag) (CT CR CM CP CW CBk CNo : Addr) : Sp := fun vs H Q E => ∃ (b P : Addr) (z : Str) (n S : Int) (F : List Fact) (av : List Addr) (st : BSt) (hist : List BSt), vs = [.ref b, .str z] ∧ BookAt K CT CR CM CP CW CBk n F S av H b P st hist ∧ hist.length < 100000 ∧ (∀ c ∈ av, H c ≠ none) ∧
  (rowOf st.rows z = none → Raised CNo [("name", .str z)] H E) ∧ ∀ xs us, rowOf st.rows z = some xs → Paired (GoL F S xs) st.folk us →
    (us.map (keyF F S) = st.folk.map (keyF F S) → ∀ H', Same H H' → Q .non H') ∧ (us.map (keyF F S) ≠ st.folk.map (keyF F S) → ∀ H', KzB b P H H' → BookAt K CT CR CM CP CW CBk n F S av H' b P ⟨st.rows, us, st.ans⟩ (hist ++ [st]) → Q .non H')
section
variable {P : Program} {w : World} {K : PySem.W.Frag} {mg : Str → Option Value} {base : Heap}
abbrev nBkCall : List Str := ["self", "name", "called", "moved", "place"]
theorem scBkCall : FnScope nBkCall ["self", "name"] (defScope sBkCall) := ⟨rfl, rfl, rfl, by decide +kernel, rfl, by decide +kernel, by decide +kernel⟩
theorem ok_bkCall {f CT CR CM CP CW CBk CB CNo CNR COR fRo fAF fPE fCh : Addr} {fd fdRo fdAF fdPE fdCh : FuncData} {ds : List Value} (F0 : Fun K "call" "Book.call" sBkCall f fd) (T : BkT K mg CBk)
    (hRo : Meth K CBk "row" fRo) (FRo : FnOk P w K mg base (L2.CX P w) 4 fRo fdRo ["self", "name"] (spBkRow K CT CR CM CP CW CBk CNo)) (bRo : Binds K fdRo ["self", "name"] [])
    (FAF : FnOk P w K mg base (L2.CX P w) 8 fAF fdAF ["row", "place", "rounds"] (spAfter K CT CR CM CP CW CB CNR COR)) (rAF : Vals [V.int 1] ds) (bAF : Binds K fdAF ["row", "place", "rounds"] ds) (mAF : mg "after" = some (.ref fAF)) (kAF : PySem.W.keepIn K (.ref fAF) = true)
    (cP : QC K CP fPE) (FPE : FnOk P w K mg base CX0 1 fPE fdPE ["self", "other"] (spPlaceE CP)) (bPE : Binds K fdPE ["self", "other"] [])
    (hCh : Meth K CBk "change" fCh) (FCh : FnOk P w K mg base CX0 1 fCh fdCh ["self", "kept", "folk", "answers"] (spBkChange K CT CR CM CP CW CBk)) (bCh : Binds K fdCh ["self", "kept", "folk", "answers"] []) :
    FnOk P w K mg base (L2.CX P w) 9 f fd ["self", "name"] (spBkCall K CT CR CM CP CW CBk CNo) := by
  refine F0.okX scBkCall (fun vs H Q E h => ?_) (fun cdv A outer s0 H vs Q E hr h => ?_)
  · obtain ⟨b, PP, z, n, S, fs, av, st, hist, rfl, _⟩ := h
    rfl
  · obtain ⟨b, PP, z, n, S, fs, av, st, hist, rfl, BK, short, isAv, k1, kC⟩ := h
    have hr1 : Room 1 _ := hr.mono (by decide)
    have hr2 : Room 2 _ := hr.mono (by decide)
    have hr4 : Room 4 _ := hr.mono (by decide)
    refine ⟨_, pss_cons (ps_set (i := 2) scBkCall.nd rfl (Or.inr rfl) (pe_meth (pv 0) T.cl hRo FRo hr4 bRo .nil (passes_call (takes_of rfl rfl rfl rfl) fun _ _ _ _ h => h) (pa_cons (pv 1) pa_nil)))
      (pss_cons (ps_setLc (i := 3) (own := [("place", 4)]) (g := gName 4) (tt := tYes) (te := tCall (spAfter K CT CR CM CP CW CB CNR COR) [V.int 1] L2.E0 (tCons (tVar 2) (tCons (tVar 4) tNil))) rfl scBkCall.nd rfl rfl (sw_true rfl rfl rfl (by decide +kernel)) (pi_list (pe_fld (pv 0) rfl)) (blkOk_by (own := [("place", 4)]) (N := nBkCall) (sc := defScope sBkCall) (by decide +kernel)) (fun _ _ _ _ _ => (pg_name (i := 4) scBkCall.nd rfl (Or.inl rfl))) (fun _ _ _ _ _ => pts_nil) (fun _ _ _ _ _ => (pe_call FAF hr rfl mAF kAF bAF rAF passF (pa_cons (pv 2) (pa_cons (pv 4) pa_nil)))))
      (pss_one (ps_if (pt_cmpR (op_neB (rcB_lstN (RcB.eqB (rcB_own FPE cP.eq cP.fn bPE))) hr2) (pv 3) (pe_fld (pv 0) rfl) (nomark _))
        (pss_one (ps_expr (pe_meth (pv 0) T.cl hCh FCh hr1 bCh .nil pass0 (pa_cons (pe_fld (pv 0) rfl) (pa_cons (pv 3) (pa_cons (pe_fld (pv 0) rfl) pa_nil))))))
        pss_nil))), ?_⟩
    obtain ⟨dx, x, D, L, A', ps, ts, e, TA, ST, eP, pr⟩ := id BK.at_
    obtain ⟨qs, gL, plL⟩ := ST.folk
    have ok := ST.ok
    have ql : qs.length = st.folk.length := Paired.length plL
    -- called = self.row(name)
    refine ⟨_, rfl, b, dx, _, rfl, e, bkF_no (by decide +kernel), _, rfl, b, PP, n, S, fs, av, st, hist, z, rfl, BK, k1, fun xs hx rw' RS => ?_⟩
    -- moved = [after(called, place) for place in self.folk]
    refine ⟨_, rfl, b, CBk, dx, _, _, rfl, e, T.cl, T.nF, bkF_f x D L A' PP, L, rfl, ⟨_, SqL.of gL⟩, fun D' hD' => lc_list (K := K) (a := L) (xs := qs.map V.ref) (fun i Hc => ∃ (ps' : List Addr) (us : List Nd), Hc D' = some (.lst (ps'.map V.ref)) ∧ Same H Hc ∧ Paired (fun p u => PlaceAt CP Hc p (keyF fs S u)) ps' us ∧ Paired (GoL fs S xs) (st.folk.take i) us)
      ⟨[], [], upd_same, Same.new hD', .nil, .nil⟩ (fun i Hc _ ⟨_, _, _, sg, _⟩ => SqL.of (sg _ _ gL)) ?_ ?_⟩
    · rintro i y Hc hi ⟨ps', us, gD, sg, pl, go⟩
      obtain ⟨p, hp, rfl⟩ := map_get hi
      obtain ⟨u, hu, pu⟩ := paired_get plL hp
      have il := (List.getElem?_eq_some_iff.mp hu).1
      dsimp only [gName]
      refine ⟨rfl, ?_⟩
      unfold tYes
      refine iteT ⟨_, rfl, _, rfl, tnB ?_⟩
      show spAfter K CT CR CM CP CW CB CNR COR [V.ref rw', V.ref p, V.int 1] Hc _ _
      refine afterK (RS.kz (.of sg)) (pu.same sg) (ok.on u (List.mem_of_getElem? hu)) BK.S1 BK.S2 fun pa G' v s' gv pv' => ?_
      have gD' := s' _ _ gD
      have kz : Kz G' (upd G' D' (.lst (ps'.map V.ref ++ [V.ref pa]))) := .put gD'
      refine ⟨_, gD', ?_, ps' ++ [pa], us ++ [v], by rw [List.map_append]; exact upd_same, fun c o ec => ?_, ?_, ?_⟩
      · have l1 : ps'.length = us.length := Paired.length pl
        have l2 : (st.folk.take i).length = us.length := Paired.length go
        rw [List.length_take] at l2
        have := ok.folk
        rw [PySem.sizeLine_eq, List.length_map]
        omega
      · rw [upd_ne (ne_of_none ec hD')]
        exact s' _ _ (sg c o ec)
      · exact paired_snoc (Paired.mapP pl fun _ _ a => (a.same s').kz kz) (pv'.kz kz)
      · rw [take_snoc hu]
        exact paired_snoc go gv
    · rintro Hc ⟨ps', us, gD, sg, pl, go⟩
      rw [List.length_map, ql, List.take_length] at go
      have l1 : ps'.length = us.length := Paired.length pl
      have l2 : st.folk.length = us.length := Paired.length go
      obtain ⟨kS, kM⟩ := kC xs us hx go
      have gL1 := sg _ _ gL
      have e1 := sg _ _ e
      have pr1 := pl_map pl
      have pr2 := pl_map (Paired.mapP plL fun _ _ a => PlaceAt.same a sg)
      -- if moved != self.folk
      refine ⟨_, rfl, _, rfl, b, CBk, dx, _, _, rfl, e1, T.cl, T.nF, bkF_f x D L A' PP, D', L, _, _, rfl, rfl, gD, gL1, fun ne => absurd (by rw [List.length_map, List.length_map]; omega) ne, fun _ => ls_plD gD gL1 pr1 pr2 (by omega) ?_⟩
      by_cases c : us.map (keyF fs S) = st.folk.map (keyF fs S)
      · rw [decide_eq_true c]
        exact ⟨_, rfl, iteF (kS c Hc sg)⟩
      · rw [decide_eq_false c]
        refine ⟨_, rfl, iteT ?_⟩
        have nD' : D' ∉ av := fun q => isAv _ q (Same.free (Same.refl H) hD')
        refine ⟨_, rfl, b, dx, _, rfl, e1, bkF_no (by decide +kernel), _, rfl, b, CBk, dx, _, _, rfl, e1, T.cl, T.nK, bkF_k x D L A' PP, _, rfl, _, rfl, b, CBk, dx, _, _, rfl, e1, T.cl, T.nA, bkF_a x D L A' PP, b, PP, D, D', A', n, S, fs, av, st, ⟨st.rows, us, st.ans⟩, hist, rfl, BK.same sg, ⟨⟨ok.nd, ok.na, ok.few, by show us.length ≤ 100; have := ok.folk; omega, ok.many, fun u hu => ?_⟩, ?_, ⟨ps', gD, pl⟩, nD', sg _ _ ST.ans⟩, short, fun H3 k3 BK3 => kM c H3 (KzB.trans (KzB.of sg) k3) BK3⟩
        · obtain ⟨j, hj⟩ := List.getElem?_of_mem (show u ∈ us from hu)
          have jl := (List.getElem?_eq_some_iff.mp hj).1
          obtain ⟨v, hv, g⟩ := paired_get go (List.getElem?_eq_getElem (show j < st.folk.length by omega))
          rw [hj] at hv
          cases hv
          exact GoL.on BK.G.m BK.S1 RS.ok (ok.on _ (List.getElem_mem _)) g
        · obtain ⟨kvs, gD0, kv⟩ := ST.kept
          exact ⟨kvs, sg _ _ gD0, kv.kz (.of sg)⟩
end
end OT
set_option Elab.async false
set_option linter.all false
set_option maxRecDepth 100000
set_option maxHeartbeats 4000000
set_option Elab.async false
set_option linter.all false
set_option maxRecDepth 100000
set_option maxHeartbeats 4000000
namespace OT
open PySem L2 OTR
def tsK (n : Int) (L : Addr) : List (Key × V) := [((Sum.inr "count" : Key), .int n), (Sum.inr "roads", .ref L)]
/-- a tree's numbers, as the law holds them -/
def SpecAt (H : Hp) (d : Addr) (n : Int) (F : List Fact) : Prop := ∃ L, H d = some (.dK (tsK n L)) ∧ FactsAt H L F
end OT
set_option Elab.async false
set_option linter.all false
set_option maxRecDepth 100000
set_option maxHeartbeats 4000000
namespace OT
open PySem L2 OTR
theorem SpecAt.same {H H' : Hp} {d : Addr} {n : Int} {F : List Fact} (h : SpecAt H d n F) (s : Same H H') : SpecAt H' d n F := let ⟨L, a, ts, b, c⟩ := h; ⟨L, s _ _ a, ts, s _ _ b, tups_same c s⟩
theorem SpecAt.but {H H' : Hp} {s d : Addr} {n : Int} {F : List Fact} (h : SpecAt H d n F) (src : Src H s) (b : But s H H') : SpecAt H' d n F := by
  obtain ⟨L, e, ts, g, c⟩ := h
  refine ⟨L, b _ _ e (src.ne e fun _ _ _ z => nomatch z), ts, b _ _ g (src.ne g fun x y z q => ?_), tups_but c src b⟩
  have e1 := HO.lst.inj q
  cases ts with
  | nil => exact nomatch e1
  | cons t r =>
    rw [List.map_cons] at e1
    exact nomatch (List.cons.inj e1).1
end OT
set_option Elab.async false
set_option linter.all false
set_option maxRecDepth 100000
set_option maxHeartbeats 4000000
namespace OT
open PySem L2 OTR
def Eqv (R : Rdg) (x y : V) (H : Hp) : Prop := ∀ H1, Same H H1 → ∀ Q : Bool → Hp → Prop, (∀ H2, Same H1 H2 → Q true H2) → R x y H1 Q
theorem Eqv.same {R : Rdg} {x y : V} {H H' : Hp} (h : Eqv R x y H) (s : Same H H') : Eqv R x y H' := fun H1 s1 Q q => h H1 (s.trans s1) Q q
theorem eqAll_eqv {R : Rdg} {H : Hp} {xs ys : List V} (h : Paired (fun x y => Eqv R x y H) xs ys) : ∀ H1, Same H H1 → ∀ Q : Bool → Hp → Prop, (∀ H2, Same H1 H2 → Q true H2) → eqAll R xs ys H1 Q := by
  induction h with
  | nil => exact fun H1 _ Q q => q H1 (Same.refl _)
  | cons h1 _ ih =>
    refine fun H1 s Q q => h1 H1 s _ fun H2 s2 => ?_
    show if true = true then _ else _
    rw [if_pos rfl]
    exact ih H2 (s.trans s2) Q fun H3 s3 => q H3 (s2.trans s3)
theorem Eqv.tup {K : PySem.W.Frag} {R : Rdg} {a b : Addr} {H : Hp} {xs ys : List V} (ha : SqT K H a xs) (hb : SqT K H b ys) (h : Paired (fun x y => Eqv R x y H) xs ys) : Eqv (RTup K R) (.ref a) (.ref b) H := fun H1 s Q q =>
  ⟨a, b, xs, ys, rfl, rfl, sqT_kz ha (.of s), sqT_kz hb (.of s), eqAll_eqv h H1 s Q q⟩
theorem lsAll_eqv {R : Rdg} {H : Hp} {a b : Addr} {xa ya xs ys : List V} (ha : H a = some (.lst xa)) (hb : H b = some (.lst ya)) (h : Paired (fun x y => Eqv R x y H) xs ys) : ∀ H1, Same H H1 → ∀ Q : Bool → Hp → Prop, (∀ H2, Same H1 H2 → Q true H2) → lsAll R a b xa ya xs ys H1 Q := by
  induction h with
  | nil => exact fun H1 s Q q => ⟨⟨s _ _ ha, s _ _ hb⟩, q H1 (Same.refl _)⟩
  | cons h1 _ ih =>
    refine fun H1 s Q q => ⟨⟨s _ _ ha, s _ _ hb⟩, h1 H1 s _ fun H2 s2 => ?_⟩
    show if true = true then _ else _
    rw [if_pos rfl]
    exact ih H2 (s.trans s2) Q fun H3 s3 => q H3 (s2.trans s3)
theorem Eqv.lst {R : Rdg} {a b : Addr} {H : Hp} {xs ys : List V} (ha : H a = some (.lst xs)) (hb : H b = some (.lst ys)) (h : Paired (fun x y => Eqv R x y H) xs ys) : Eqv (RLst R) (.ref a) (.ref b) H := fun H1 s Q q =>
  ⟨a, b, xs, ys, rfl, rfl, s _ _ ha, s _ _ hb, fun n => absurd (Paired.length h) n, fun _ => lsAll_eqv ha hb h H1 s Q q⟩
theorem Eqv.row {K : PySem.W.Frag} {CT CR CM CP CW : Addr} {H : Hp} {a b : Addr} {n : Int} {F : List Fact} {xs : List MG} (R1 : RowS K CT CR CM CP CW H a n F xs) (R2 : RowS K CT CR CM CP CW H b n F xs) : Eqv (ROwn K CW (spRowE K CT CR CM CP CW)) (.ref a) (.ref b) H := fun H1 s Q q => by
  have R1 := R1.kz (.of s)
  have R2 := R2.kz (.of s)
  obtain ⟨_, _, _, ⟨dx, t, e, _⟩, _⟩ := R1.at_
  obtain ⟨_, _, _, ⟨dx', t', e', _⟩, _⟩ := R2.at_
  refine ⟨a, dx, _, _, rfl, e, .ins e', nf_same, a, n, F, xs, _, rfl, R1, .inl ⟨b, n, F, xs, rfl, R2, fun H' s => ⟨_, rfl, ?_⟩⟩⟩
  rw [decide_eq_true ⟨⟨rfl, rfl⟩, rfl⟩]
  exact q H' s
end OT
set_option Elab.async false
set_option linter.all false
set_option maxRecDepth 100000
set_option maxHeartbeats 4000000
namespace OT
open PySem L2 OTR
def Dcv (R : Rdg) (x y : V) (b : Bool) (H : Hp) : Prop := ∀ H1, Same H H1 → ∀ Q : Bool → Hp → Prop, (∀ H2, Same H1 H2 → Q b H2) → R x y H1 Q
def RFV : Rdg := fun x y H Q => flatV x = true ∧ flatV y = true ∧ Q (eqV x y) H
theorem eqB_fv {X : Cx} {n : Nat} : EqB X n RFV := fun A pn t σ H x y u v Q sb I rx ry h => by
  obtain ⟨fx, fy, q⟩ := h
  exact eqAt_V rx ry fx fy X.prog X.w X.xe _ ⟨H, I, q⟩
theorem Dcv.flat {x y : V} {H : Hp} (fx : flatV x = true) (fy : flatV y = true) : Dcv RFV x y (eqV x y) H := fun H1 _ Q q => ⟨fx, fy, q H1 (Same.refl _)⟩
theorem Dcv.ror {R : Rdg} {a c : Addr} {b : Bool} {H : Hp} {t1 t2 : Value} (h1 : ∀ H1, Same H H1 → HasT H1 (.ref a) t1) (h2 : ∀ H1, Same H H1 → HasT H1 (.ref c) t2) (same : a = c → b = true) (h : Dcv R (.ref a) (.ref c) b H) : Dcv (ROr R) (.ref a) (.ref c) b H := fun H1 s Q q => by
  by_cases e : a = c
  · have eb := same e
    subst e eb
    exact .inl ⟨a, rfl, rfl, q H1 (Same.refl _)⟩
  · exact .inr ⟨⟨_, _, h1 H1 s, h2 H1 s⟩, fun z => e (V.ref.inj z), h H1 s Q q⟩
/-- pair by pair, until the first that differs -/
def AllD (R : Rdg) (H : Hp) : List V → List V → Bool → Prop
  | [], [], b => b = true
  | x :: xs, y :: ys, b => ∃ b1 b2, Dcv R x y b1 H ∧ AllD R H xs ys b2 ∧ b = (b1 && b2)
  | _, _, b => b = false
theorem AllD.len {R : Rdg} {H : Hp} : ∀ {xs ys : List V} {b : Bool}, AllD R H xs ys b → xs.length ≠ ys.length → b = false
  | [], [], _, _, n => absurd rfl n
  | [], _ :: _, _, h, _ => h
  | _ :: _, [], _, h, _ => h
  | x :: xs, y :: ys, b, ⟨b1, b2, _, h2, e⟩, n => by
    have := AllD.len h2 fun z => n (by rw [List.length_cons, List.length_cons, z])
    rw [e, this, Bool.and_false]
theorem AllD.ls {R : Rdg} {H : Hp} {a c : Addr} {xa ya : List V} (ha : H a = some (.lst xa)) (hc : H c = some (.lst ya)) : ∀ {xs ys : List V} {b : Bool}, AllD R H xs ys b → xs.length = ys.length → ∀ H1, Same H H1 → ∀ Q : Bool → Hp → Prop, (∀ H2, Same H1 H2 → Q b H2) → lsAll R a c xa ya xs ys H1 Q
  | [], [], _, h, _, H1, s, Q, q => by
    cases (show _ = true from h)
    exact ⟨⟨s _ _ ha, s _ _ hc⟩, q H1 (Same.refl _)⟩
  | [], _ :: _, _, _, l, _, _, _, _ => by simp at l
  | _ :: _, [], _, _, l, _, _, _, _ => by simp at l
  | x :: xs, y :: ys, b, ⟨b1, b2, h1, h2, e⟩, l, H1, s, Q, q => by
    refine ⟨⟨s _ _ ha, s _ _ hc⟩, h1 H1 s _ fun H2 s2 => ?_⟩
    cases b1 with
    | true =>
      rw [if_pos rfl]
      rw [Bool.true_and] at e
      subst e
      exact AllD.ls ha hc h2 (by simpa using l) H2 (s.trans s2) Q fun H3 s3 => q H3 (s2.trans s3)
    | false =>
      rw [if_neg Bool.false_ne_true]
      rw [Bool.false_and] at e
      subst e
      exact ⟨⟨(s.trans s2) _ _ ha, (s.trans s2) _ _ hc⟩, q H2 s2⟩
theorem Dcv.lst {R : Rdg} {a c : Addr} {b : Bool} {H : Hp} {xs ys : List V} (ha : H a = some (.lst xs)) (hc : H c = some (.lst ys)) (h : AllD R H xs ys b) : Dcv (RLst R) (.ref a) (.ref c) b H := fun H1 s Q q =>
  ⟨a, c, xs, ys, rfl, rfl, s _ _ ha, s _ _ hc, (fun n => by
    have e := h.len n
    subst e
    exact q H1 (Same.refl _)), fun l => AllD.ls ha hc h l H1 s Q q⟩
theorem AllD.eq {R : Rdg} {H : Hp} : ∀ {xs ys : List V} {b : Bool}, AllD R H xs ys b → ∀ H1, Same H H1 → ∀ Q : Bool → Hp → Prop, (∀ H2, Same H1 H2 → Q b H2) → eqAll R xs ys H1 Q
  | [], [], _, h, H1, s, Q, q => by
    cases (show _ = true from h)
    exact q H1 (Same.refl _)
  | [], _ :: _, _, h, H1, s, Q, q => by
    cases (show _ = false from h)
    exact q H1 (Same.refl _)
  | _ :: _, [], _, h, H1, s, Q, q => by
    cases (show _ = false from h)
    exact q H1 (Same.refl _)
  | x :: xs, y :: ys, b, ⟨b1, b2, h1, h2, e⟩, H1, s, Q, q => by
    refine h1 H1 s _ fun H2 s2 => ?_
    cases b1 with
    | true =>
      show if true = true then _ else _
      rw [if_pos rfl]
      rw [Bool.true_and] at e
      subst e
      exact AllD.eq h2 H2 (s.trans s2) Q fun H3 s3 => q H3 (s2.trans s3)
    | false =>
      show if false = true then _ else _
      rw [if_neg Bool.false_ne_true]
      rw [Bool.false_and] at e
      subst e
      exact q H2 s2
theorem Dcv.tup {K : PySem.W.Frag} {R : Rdg} {a c : Addr} {b : Bool} {H : Hp} {xs ys : List V} (ha : SqT K H a xs) (hc : SqT K H c ys) (h : AllD R H xs ys b) : Dcv (RTup K R) (.ref a) (.ref c) b H := fun H1 s Q q =>
  ⟨a, c, xs, ys, rfl, rfl, sqT_kz ha (.of s), sqT_kz hc (.of s), h.eq H1 s Q q⟩
theorem Dcv.row {K : PySem.W.Frag} {CT CR CM CP CW : Addr} {H : Hp} {a c : Addr} {n : Int} {F : List Fact} {xs xs' : List MG} (R1 : RowS K CT CR CM CP CW H a n F xs) (R2 : RowS K CT CR CM CP CW H c n F xs') : Dcv (ROwn K CW (spRowE K CT CR CM CP CW)) (.ref a) (.ref c) (decide (rowK F xs = rowK F xs')) H := fun H1 s Q q => by
  have R1 := R1.kz (.of s)
  have R2 := R2.kz (.of s)
  obtain ⟨_, _, _, ⟨dx, t, e, _⟩, _⟩ := R1.at_
  obtain ⟨_, _, _, ⟨dx', t', e', _⟩, _⟩ := R2.at_
  refine ⟨a, dx, _, _, rfl, e, .ins e', nf_same, a, n, F, xs, _, rfl, R1, .inl ⟨c, n, F, xs', rfl, R2, fun H' s => ⟨_, rfl, ?_⟩⟩⟩
  have w : decide ((n = n ∧ F = F) ∧ rowK F xs = rowK F xs') = decide (rowK F xs = rowK F xs') := decide_eq_decide.mpr ⟨fun h => h.2, fun h => ⟨⟨rfl, rfl⟩, h⟩⟩
  rw [w]
  exact q H' s
end OT
set_option Elab.async false
set_option linter.all false
set_option maxRecDepth 100000
set_option maxHeartbeats 4000000
set_option Elab.async false
set_option linter.all false
set_option maxRecDepth 100000
set_option maxHeartbeats 4000000
namespace OT
open PySem L2 OTR
theorem allD_of {R : Rdg} {H : Hp} {α β : Type} {P : V → α → Prop} {P' : V → β → Prop} {E : α → β → Prop} (h : ∀ x a y c, P x a → P' y c → ∃ b : Bool, (b = true ↔ E a c) ∧ Dcv R x y b H) : ∀ {xs ys : List V} {as : List α} {cs : List β}, Paired P xs as → Paired P' ys cs → ∃ b : Bool, (b = true ↔ Paired E as cs) ∧ AllD R H xs ys b
  | _, _, _, _, .nil, .nil => ⟨true, ⟨fun _ => .nil, fun _ => rfl⟩, rfl⟩
  | _, _, _, _, .nil, .cons _ _ => ⟨false, ⟨fun z => (nomatch z), fun z => (nomatch z)⟩, rfl⟩
  | _, _, _, _, .cons _ _, .nil => ⟨false, ⟨fun z => (nomatch z), fun z => (nomatch z)⟩, rfl⟩
  | _, _, _, _, .cons p r, .cons p' r' => by
    obtain ⟨b1, e1, d1⟩ := h _ _ _ _ p p'
    obtain ⟨b2, e2, d2⟩ := allD_of h r r'
    refine ⟨b1 && b2, ?_, b1, b2, d1, d2, rfl⟩
    rw [Bool.and_eq_true, e1, e2]
    exact ⟨fun ⟨a, b⟩ => .cons a b, fun z => by cases z with | cons a b => exact ⟨a, b⟩⟩
theorem paired_eq {α : Type} : ∀ {l m : List α}, Paired Eq l m ↔ l = m
  | [], [] => ⟨fun _ => rfl, fun _ => .nil⟩
  | [], _ :: _ => ⟨fun z => (nomatch z), fun z => (nomatch z)⟩
  | _ :: _, [] => ⟨fun z => (nomatch z), fun z => (nomatch z)⟩
  | a :: l, b :: m => ⟨fun z => by cases z with | cons x y => rw [x, paired_eq.mp y], fun z => by cases z; exact .cons rfl (paired_eq.mpr rfl)⟩
theorem paired_self {α : Type} {E : α → α → Prop} : ∀ {l : List α}, Paired E l l ↔ ∀ a ∈ l, E a a
  | [] => ⟨fun _ _ z => (nomatch z), fun _ => .nil⟩
  | a :: l => ⟨fun z => by
      cases z with
      | cons x y =>
        intro c hc
        rcases List.mem_cons.mp hc with rfl | hc
        · exact x
        · exact paired_self.mp y c hc, fun z => .cons (z a (List.mem_cons_self ..)) (paired_self.mpr fun c hc => z c (List.mem_cons_of_mem _ hc))⟩
/-- two books look alike to the law -/
structure Obs (F : List Fact) (S : Int) (st st' : BSt) : Prop where
  nm : (st.rows.map (·.1)).Perm (st'.rows.map (·.1))
  rw : ∀ z xs xs', rowOf st.rows z = some xs → rowOf st'.rows z = some xs' → rowK F xs = rowK F xs'
  fk : st.folk.map (keyF F S) = st'.folk.map (keyF F S)
  cn : (st.ans.map (·.1)).Perm (st'.ans.map (·.1))
  cr : ∀ k, k ∈ st.ans.map (·.1) → ansOf st.ans k = ansOf st'.ans k
theorem Obs.refl (F : List Fact) (S : Int) (st : BSt) : Obs F S st st := ⟨.refl _, fun z xs xs' h h' => by rw [h] at h'; cases h'; rfl, rfl, .refl _, fun _ _ => rfl⟩
section
variable {K : PySem.W.Frag} {CT CR CM CP CW : Addr} {n : Int} {F : List Fact} {S : Int} {H : Hp} {x y : Addr} {st st' : BSt} {m m' : Nat}
theorem eqV_int {a c : Int} : eqV (.int a) (.int c) = true ↔ a = c := by simp [eqV]
end
end OT
set_option Elab.async false
set_option linter.all false
set_option maxRecDepth 100000
set_option maxHeartbeats 4000000
namespace OT
open PySem L2 OTR
section
variable {K : PySem.W.Frag} {CT CR CM CP CW : Addr} {n : Int} {F : List Fact} {S : Int} {H : Hp} {x y : Addr} {st st' : BSt} {m m' : Nat}
theorem paired_refs {α : Type} {R : Addr → α → Prop} : ∀ {l : List Addr} {m : List α}, Paired R l m → Paired (fun v a => ∃ r, v = V.ref r ∧ R r a) (l.map V.ref) m
  | _, _, .nil => .nil
  | _, _, .cons a r => .cons ⟨_, rfl, a⟩ (paired_refs r)
end
end OT
set_option Elab.async false
set_option linter.all false
set_option maxRecDepth 100000
set_option maxHeartbeats 4000000
set_option Elab.async false
set_option linter.all false
set_option maxRecDepth 100000
set_option maxHeartbeats 4000000
set_option Elab.async false
set_option linter.all false
set_option maxRecDepth 100000
set_option maxHeartbeats 4000000
namespace OT
open PySem L2 OTR
section
variable {K : PySem.W.Frag} {CT CR CM CP CW CBk : Addr} {n : Int} {F : List Fact} {S : Int} {av : List Addr} {H H' : Hp} {b P : Addr} {st : BSt} {hist : List BSt}
/-- a free place is none of the book's lists -/
theorem BookAt.avoid (h : BookAt K CT CR CM CP CW CBk n F S av H b P st hist) {c : Addr} (hc : H c = none) : BookAt K CT CR CM CP CW CBk n F S (c :: av) H b P st hist := by
  have up : ∀ {D L A : Addr} {s' : BSt}, BkSt K CT CR CM CP CW n F S av H D L A s' → BkSt K CT CR CM CP CW n F S (c :: av) H D L A s' := fun s => ⟨s.ok, s.kept, s.folk, fun z => by
    rcases List.mem_cons.mp z with rfl | z
    · obtain ⟨ps, e, _⟩ := s.folk
      rw [hc] at e
      cases e
    · exact s.av z, s.ans⟩
  obtain ⟨dx, x, D, L, A, ps, ts, e, te, s, eP, pr⟩ := h.at_
  exact ⟨⟨dx, x, D, L, A, ps, ts, e, te, up s, eP, Paired.mapP pr fun _ _ ⟨D', L', A', e', s'⟩ => ⟨D', L', A', e', up s'⟩⟩, h.G, h.S1, h.S2, List.mem_cons_of_mem _ h.inP, h.short⟩
theorem BookAt.less (h : BookAt K CT CR CM CP CW CBk n F S av H b P st hist) {av' : List Addr} (sub : ∀ c ∈ av', c ∈ av) (inP : P ∈ av') : BookAt K CT CR CM CP CW CBk n F S av' H b P st hist := by
  have up : ∀ {D L A : Addr} {s' : BSt}, BkSt K CT CR CM CP CW n F S av H D L A s' → BkSt K CT CR CM CP CW n F S av' H D L A s' := fun s => ⟨s.ok, s.kept, s.folk, fun z => s.av (sub _ z), s.ans⟩
  obtain ⟨dx, x, D, L, A, ps, ts, e, te, s, eP, pr⟩ := h.at_
  exact ⟨⟨dx, x, D, L, A, ps, ts, e, te, up s, eP, Paired.mapP pr fun _ _ ⟨D', L', A', e', s'⟩ => ⟨D', L', A', e', up s'⟩⟩, h.G, h.S1, h.S2, inP, h.short⟩
theorem BookAt.bIns (h : BookAt K CT CR CM CP CW CBk n F S av H b P st hist) : ∃ dx fs, H b = some (.ins CBk dx fs) := by
  obtain ⟨dx, x, D, L, A, ps, ts, e, _⟩ := h.at_
  exact ⟨dx, _, e⟩
theorem BookAt.pLst (h : BookAt K CT CR CM CP CW CBk n F S av H b P st hist) : ∃ xs, H P = some (.lst xs) := by
  obtain ⟨dx, x, D, L, A, ps, ts, e, te, s, eP, pr⟩ := h.at_
  exact ⟨_, eP⟩
/-- a list that is none of the book's changes -/
theorem BookAt.but (h : BookAt K CT CR CM CP CW CBk n F S av H b P st hist) {s : Addr} {xs : List V} (es : H s = some (.lst xs)) (ins : s ∈ av) (nP : s ≠ P) (bt : But s H H') : BookAt K CT CR CM CP CW CBk n F S av H' b P st hist := by
  have kz : Kz H H' := fun c o e k => bt c o e fun z => by
    rw [z, es] at e
    exact k.1 xs (Option.some.inj e).symm
  have kl : ∀ {D L A : Addr} {s' : BSt}, BkSt K CT CR CM CP CW n F S av H D L A s' → ∀ xs, H L = some (.lst xs) → H' L = some (.lst xs) := fun hs xs eL => bt _ _ eL fun z => hs.av (z ▸ ins)
  obtain ⟨dx, x, D, L, A, ps, ts, e, te, st', eP, pr⟩ := h.at_
  exact ⟨⟨dx, x, D, L, A, ps, ts, bt _ _ e (fun z => by rw [z, es] at e; cases e), te.kz kz, st'.kz kz (kl st'), bt _ _ eP nP.symm, Paired.mapP pr fun _ _ ⟨D', L', A', e', s'⟩ => ⟨D', L', A', kz _ _ e' .tup, s'.kz kz (kl s')⟩⟩, h.G, h.S1, h.S2, h.inP, h.short⟩
theorem BookAt.put (h : BookAt K CT CR CM CP CW CBk n F S av H b P st hist) {s : Addr} {xs ys : List V} (es : H s = some (.lst xs)) (ins : s ∈ av) (nP : s ≠ P) : BookAt K CT CR CM CP CW CBk n F S av (upd H s (.lst ys)) b P st hist :=
  h.but es ins nP fun c o e z => (upd_ne z).trans e
theorem BookAt.okS (h : BookAt K CT CR CM CP CW CBk n F S av H b P st hist) : BOk F S st := by
  obtain ⟨dx, x, D, L, A, ps, ts, e, te, s, eP, pr⟩ := h.at_
  exact s.ok
theorem KzB.but {s : Addr} {H0 : Hp} (k : KzB b P H0 H) (hs : H0 s = none) (bt : But s H H') : KzB b P H0 H' := fun c o e z y => bt _ _ (k _ _ e z y) fun q => by
  rw [q, hs] at e
  cases e
end
/-- a book's state after keep, whole -/
def keepS (F : List Fact) (z : Str) (xs : List MG) (st : BSt) (hist : List BSt) : BSt × List BSt :=
  match rowOf st.rows z with
  | some ys => if rowK F ys = rowK F xs then (st, hist) else (⟨putR st.rows z xs, st.folk, without st.ans z⟩, hist ++ [st])
  | none => (⟨putR st.rows z xs, st.folk, without st.ans z⟩, hist ++ [st])
section
variable {K : PySem.W.Frag} {CT CR CM CP CW CBk CB CNN CNR COR CNW : Addr} {n : Int} {F : List Fact} {S : Int} {av : List Addr} {H : Hp} {b P l : Addr} {st : BSt} {hist : List BSt} {z : Str} {xs : List MG} {ms : List Addr} {Q : VK} {E : XK}
theorem keepK (BK : BookAt K CT CR CM CP CW CBk n F S av H b P st hist) (sh : hist.length < 100000) (sq : SqA K H l (ms.map V.ref)) (ma : MasAt CM CP H ms (xs.map mf)) (ok : ∀ x ∈ xs, MgOk F x) (l24 : xs.length ≤ 24) (nm : isNm z = true) (zl : z.length ≤ 1000000) (few : st.rows.length < 8)
    (k : ∀ H', KzB b P H H' → BookAt K CT CR CM CP CW CBk n F S av H' b P (keepS F z xs st hist).1 (keepS F z xs st hist).2 → Q .non H') : spBkKeep K CT CR CM CP CW CBk CB CNN CNR COR CNW [.ref b, .str z, .ref l] H Q E := by
  have d0 := dueM_mg ok l24
  refine ⟨b, P, l, z, n, S, F, av, st, hist, ms, xs.map mf, xs, rfl, zl, BK, sh, sq, ma, fun m hm => ?_, by rw [List.length_map]; omega, by omega, fun q => ?_, fun _ _ q => ?_, fun _ _ => ⟨noM d0, fun _ => ⟨rfl, ok, by omega⟩, fun _ ys hy ek H' s => ?_, fun _ nk H' kz B => ?_⟩⟩
  · obtain ⟨x, _, rfl⟩ := List.mem_map.mp hm
    exact msm_mf x
  · rw [nm] at q
    cases q
  · omega
  · have e : keepS F z xs st hist = (st, hist) := by
      unfold keepS
      rw [hy]
      exact if_pos ek
    rw [e] at k
    exact k H' (.of s) (BK.same s)
  · have e : keepS F z xs st hist = (⟨putR st.rows z xs, st.folk, without st.ans z⟩, hist ++ [st]) := by
      unfold keepS
      cases h : rowOf st.rows z with
      | none => rfl
      | some ys => exact if_neg (nk ys h)
    rw [e] at k
    exact k H' kz B
end
def postS (F : List Fact) (S : Int) (k : Nat) (i : Int) (st : BSt) (hi : List BSt) : BSt × List BSt := (⟨st.rows, st.folk ++ [node F S k i], st.ans⟩, hi ++ [st])
open Classical in
noncomputable def callS (F : List Fact) (S : Int) (us : List Nd) (st : BSt) (hi : List BSt) : BSt × List BSt := if us.map (keyF F S) = st.folk.map (keyF F S) then (st, hi) else (⟨st.rows, us, st.ans⟩, hi ++ [st])
theorem paired_uniq {α β : Type} {R : α → β → Prop} (u : ∀ a b b', R a b → R a b' → b = b') : ∀ {l : List α} {m m' : List β}, Paired R l m → Paired R l m' → m = m'
  | _, _, _, .nil, .nil => rfl
  | _, _, _, .cons a r, .cons b s => by rw [u _ _ _ a b, paired_uniq u r s]
theorem goL_exB {n : Int} {F : List Fact} {S : Int} (T : TreeM n F) (hS : 1 ≤ S) : ∀ {gs : List MG} {u : Nd}, (∀ x ∈ gs, MgOk F x) → OnT F S u → ∃ v, GoL F S gs u v
  | [], u, _, _ => ⟨u, rfl⟩
  | x :: gs, u, ok, ou => by
    obtain ⟨k, i, o, rfl⟩ := id ou
    have okx := ok x List.mem_cons_self
    have h : GoX F S x (node F S k i) _ := ⟨k, i, o, rfl, rfl⟩
    obtain ⟨v, hv⟩ := goL_exB T hS (gs := gs) (fun y hy => ok y (List.mem_cons_of_mem _ hy)) (Go.on T hS (okx.on hS) (okx.m0 hS) h)
    exact ⟨v, _, h, hv⟩
theorem goL_all {n : Int} {F : List Fact} {S : Int} (T : TreeM n F) (hS : 1 ≤ S) {xs : List MG} (ok : ∀ x ∈ xs, MgOk F x) : ∀ {l : List Nd}, (∀ u ∈ l, OnT F S u) → ∃ us, Paired (GoL F S xs) l us
  | [], _ => ⟨[], .nil⟩
  | u :: l, h => by
    obtain ⟨v, hv⟩ := goL_exB T hS ok (h u (List.mem_cons_self ..))
    obtain ⟨us, hu⟩ := goL_all T hS ok fun u hu => h u (List.mem_cons_of_mem _ hu)
    exact ⟨v :: us, .cons hv hu⟩
section
variable {K : PySem.W.Frag} {CT CR CM CP CW CBk CB CNo CNN CNR COR CNW CWd : Addr} {n : Int} {F : List Fact} {S : Int} {av : List Addr} {H : Hp} {b P p : Addr} {st : BSt} {hist : List BSt} {z y : Str} {xs ys : List MG} {Q : VK} {E : XK}
theorem postK {r : Fact} {k : Nat} {i : Int} (BK : BookAt K CT CR CM CP CW CBk n F S av H b P st hist) (sh : hist.length < 100000) (al : ∀ c ∈ av, H c ≠ none) (pl : PlaceAt CP H p r) (sm : PlSm r) (lw : low r = r) (pe : PlE F S r k i) (few : st.folk.length < 24)
    (q : ∀ H', KzB b P H H' → BookAt K CT CR CM CP CW CBk n F S av H' b P (postS F S k i st hist).1 (postS F S k i st hist).2 → Q (.int (st.folk.length : Nat)) H') : spBkPost K CT CR CM CP CW CBk CB CNR COR [.ref b, .ref p] H Q E :=
  ⟨b, P, p, n, S, i, k, F, av, st, hist, r, rfl, BK, pl, sm, lw, sh, al, PlErr.none pe.pl, fun _ c => absurd few (by omega), fun _ => pe, fun _ _ H' k B => q H' k B⟩
theorem callK {us : List Nd} (BK : BookAt K CT CR CM CP CW CBk n F S av H b P st hist) (sh : hist.length < 100000) (al : ∀ c ∈ av, H c ≠ none) (hx : rowOf st.rows z = some xs) (ok : ∀ x ∈ xs, MgOk F x) (go : Paired (GoL F S xs) st.folk us)
    (q : ∀ H', KzB b P H H' → BookAt K CT CR CM CP CW CBk n F S av H' b P (callS F S us st hist).1 (callS F S us st hist).2 → Q .non H') : spBkCall K CT CR CM CP CW CBk CNo [.ref b, .str z] H Q E := by
  refine ⟨b, P, z, n, S, F, av, st, hist, rfl, BK, sh, al, fun e => (by rw [hx] at e; cases e), fun xs' us' hx' go' => ?_⟩
  rw [hx] at hx'
  cases hx'
  obtain rfl : us' = us := paired_uniq (R := GoL F S xs) (fun a b b' h h' => GoL.uniq BK.G.m BK.S1 ok h h') go' go
  refine ⟨fun e H' s => ?_, fun ne H' k B => ?_⟩
  · have w : callS F S us' st hist = (st, hist) := if_pos e
    rw [w] at q
    exact q H' (.of s) (BK.same s)
  · have w : callS F S us' st hist = (⟨st.rows, us', st.ans⟩, hist ++ [st]) := if_neg ne
    rw [w] at q
    exact q H' k B
end
end OT
set_option Elab.async false
set_option linter.all false
set_option maxRecDepth 100000
set_option maxHeartbeats 4000000
namespace OT
open PySem L2 OTR
theorem kz_but {H H' : Hp} {s : Addr} (h : Src H s) (k : But s H H') : Kz H H' := fun c o e q => k _ _ e fun z => by
  obtain ⟨_, _, _, _, es⟩ := h
  rw [z, es] at e
  exact q.1 _ (Option.some.inj e).symm
theorem FactsAt.kz {H H' : Hp} {l : Addr} {gs : List Fact} (h : FactsAt H l gs) (kz : Kz H H') (k : ∀ xs, H l = some (.lst xs) → H' l = some (.lst xs)) : FactsAt H' l gs := let ⟨ts, a, b⟩ := h; ⟨ts, k _ a, Paired.mapP b fun _ _ e => kz _ _ e .tup⟩
/-- what was there at B is apart from the lists that came later -/
def Fz (B H H' : Hp) : Prop := Kz H H' ∧ ∀ c xs, B c = none → H c = some (.lst xs) → H' c = some (.lst xs)
theorem Fz.trans {B H H1 H2 : Hp} (a : Fz B H H1) (b : Fz B H1 H2) : Fz B H H2 := ⟨a.1.trans b.1, fun c xs n e => b.2 c xs n (a.2 c xs n e)⟩
theorem Fz.of {B H H' : Hp} (s : Same H H') : Fz B H H' := ⟨.of s, fun _ _ _ e => s _ _ e⟩
theorem Fz.but {B H H' : Hp} {s : Addr} (h : Src H s) (bs : B s ≠ none) (k : But s H H') : Fz B H H' := ⟨kz_but h k, fun c xs n e => k _ _ e fun z => bs (z ▸ n)⟩
theorem Fz.put {B H : Hp} {d : Addr} {xs ys : List V} (e : H d = some (.lst xs)) (bd : B d ≠ none) : Fz B H (upd H d (.lst ys)) := ⟨.put e, fun c zs n e' => (upd_ne (fun z : c = d => bd (z ▸ n))).trans e'⟩
theorem Fz.book {K : PySem.W.Frag} {CT CR CM CP CW CBk : Addr} {n : Int} {F : List Fact} {S : Int} {av : List Addr} {B H H' : Hp} {b P : Addr} {st : BSt} {hi : List BSt} (h : BookAt K CT CR CM CP CW CBk n F S av H b P st hi) (k : KzB b P H H') (bb : B b ≠ none) (bP : B P ≠ none) : Fz B H H' := ⟨h.kz k, fun c xs n e => k _ _ e (fun z => bb (z ▸ n)) fun z => bP (z ▸ n)⟩
/-- an operation: its kind, two names, road and number, marches' facts -/
structure Op where
  kd : Str
  tx : Str
  ot : Str
  ro : Int
  nu : Int
  gs : List Fact
def OpAt (B H : Hp) (t : Addr) (o : Op) : Prop := ∃ p l, H t = some (.tup [.str o.kd, .str o.tx, .str o.ot, .ref p, .ref l]) ∧ H p = some (.tup [.int o.ro, .int o.nu]) ∧ B l = none ∧ FactsAt H l o.gs
theorem OpAt.fz {B H H' : Hp} {t : Addr} {o : Op} (h : OpAt B H t o) (k : Fz B H H') : OpAt B H' t o := let ⟨p, l, e, e2, nb, fa⟩ := h; ⟨p, l, k.1 _ _ e .tup, k.1 _ _ e2 .tup, nb, fa.kz k.1 fun xs q => k.2 _ _ nb q⟩
theorem OpAt.mono {B B' H : Hp} {t : Addr} {o : Op} (h : OpAt B H t o) (k : ∀ c, B c = none → B' c = none) : OpAt B' H t o := let ⟨p, l, e, e2, nb, fa⟩ := h; ⟨p, l, e, e2, k _ nb, fa⟩
end OT
set_option Elab.async false
set_option linter.all false
set_option maxRecDepth 100000
set_option maxHeartbeats 4000000
namespace OT
open PySem L2 OTR
/-- a piece of the lane: where it begins, how long it is, whether its road leads forward, the road's ends -/
structure Lp where
  st : Int
  ln : Int
  fw : Bool
  a : Int
  b : Int
instance : Inhabited Lp := ⟨⟨0, 0, true, 0, 0⟩⟩
def lnF (ps : List Lp) : List Fact := ps.map fun p => (p.a, p.b, p.ln)
def lpK (ps : List Lp) (k : Nat) : Lp := ps.getD k default
def lpSt (ps : List Lp) (k : Nat) : Int := (lpK ps k).st
def lpFw (ps : List Lp) (k : Nat) : Bool := (lpK ps k).fw
theorem lpK_of {ps : List Lp} {k : Nat} {p : Lp} (h : ps[k]? = some p) : lpK ps k = p := by
  unfold lpK
  rw [List.getD_eq_getElem?_getD, h]
  rfl
theorem rd_lnF {ps : List Lp} {k : Nat} {p : Lp} (h : ps[k]? = some p) : rd (lnF ps) k = (p.a, p.b, p.ln) := rd_of (by unfold lnF; rw [List.getElem?_map, h]; rfl)
theorem len_lnF (ps : List Lp) : (lnF ps).length = ps.length := List.length_map ..
/-- the pieces so far, along the crossings of the order -/
structure LaneI (os : List Int) (i : Nat) (ps : List Lp) (tot : Int) : Prop where
  ex : ∃ X : Int → Int, (∀ p ∈ ps, X p.a = (if p.fw = true then p.st else p.st + p.ln) ∧ X p.b = (if p.fw = true then p.st + p.ln else p.st)) ∧ (∀ c, os[i]? = some c → X c = tot) ∧ (∀ c ∈ os.take (i + 1), X c ≤ tot) ∧ (∀ c c', c ∈ os.take (i + 1) → c' ∈ os.take (i + 1) → X c = X c' → c = c')
  en : ∀ p ∈ ps, p.a ∈ os.take (i + 1) ∧ p.b ∈ os.take (i + 1)
  lo : ∀ p ∈ ps, 0 ≤ p.st ∧ 1 ≤ p.ln ∧ p.st + p.ln ≤ tot
  cov : ∀ x, 0 ≤ x → x < tot → ∃ p ∈ ps, p.st ≤ x ∧ x < p.st + p.ln
  dis : ps.Pairwise fun p q => p.st + p.ln ≤ q.st ∨ q.st + q.ln ≤ p.st
  t0 : 0 ≤ tot
theorem LaneI.zero {os : List Int} : LaneI os 0 [] 0 :=
  ⟨⟨fun _ => 0, (fun p hp => nomatch hp), (fun _ _ => rfl), (fun _ _ => Int.le_refl _), fun c c' hc hc' _ => by
    cases os with
    | nil => cases hc
    | cons o r =>
      rw [List.take_succ_cons, List.take_zero] at hc hc'
      rw [List.mem_singleton.mp hc, List.mem_singleton.mp hc']⟩, (fun p hp => nomatch hp), (fun p hp => nomatch hp), (fun x h0 h1 => by omega), .nil, Int.le_refl _⟩
theorem LaneI.add {os : List Int} {i : Nat} {ps : List Lp} {tot len a b : Int} {fw : Bool} (h : LaneI os i ps tot) (nd : os.Nodup) (ha : os[i + 1]? = some a) (hb : os[i]? = some b) (hl : 1 ≤ len) : LaneI os (i + 1) (ps ++ [⟨tot, len, fw, if fw = true then b else a, if fw = true then a else b⟩]) (tot + len) := by
  obtain ⟨X, e1, e2, e3, e4⟩ := h.ex
  have tk : os.take (i + 1 + 1) = os.take (i + 1) ++ [a] := take_get ha
  have na : a ∉ os.take (i + 1) := fun m => by
    obtain ⟨q, hq, eq⟩ := List.getElem_of_mem m
    rw [List.length_take] at hq
    rw [List.getElem_take] at eq
    obtain ⟨h2, h3⟩ := List.getElem?_eq_some_iff.mp ha
    have := (List.getElem_inj nd).mp (eq.trans h3.symm)
    omega
  have mb : b ∈ os.take (i + 1) := List.mem_of_getElem? (i := i) (by rw [List.getElem?_take, if_pos (by omega)]; exact hb)
  have nb : b ≠ a := fun z => na (z ▸ mb)
  have old : ∀ c ∈ os.take (i + 1), c ≠ a := fun c hc z => na (z ▸ hc)
  have X' : ∀ c, c ∈ os.take (i + 1) → (if c = a then tot + len else X c) = X c := fun c hc => if_neg (old c hc)
  have Xa : (if a = a then tot + len else X a) = tot + len := if_pos rfl
  have Xb : X b = tot := e2 b hb
  refine ⟨⟨fun c => if c = a then tot + len else X c, fun p hp => ?_, fun c hc => ?_, fun c hc => ?_, fun c c' hc hc' e => ?_⟩, fun p hp => ?_, fun p hp => ?_, fun x h0 h1 => ?_, ?_, ?_⟩
  · rcases List.mem_append.mp hp with hp | hp
    · obtain ⟨m1, m2⟩ := h.en p hp
      dsimp only
      rw [X' _ m1, X' _ m2]
      exact e1 p hp
    · rw [List.mem_singleton.mp hp]
      cases fw
      · exact ⟨Xa, (X' _ mb).trans Xb⟩
      · exact ⟨(X' _ mb).trans Xb, Xa⟩
  · rw [ha] at hc
    cases hc
    exact Xa
  · rw [tk] at hc
    rcases List.mem_append.mp hc with hc | hc
    · dsimp only
      rw [X' _ hc]
      have := e3 c hc
      omega
    · rw [List.mem_singleton.mp hc]
      dsimp only
      rw [Xa]
      exact Int.le_refl _
  · rw [tk] at hc hc'
    dsimp only at e
    rcases List.mem_append.mp hc with hc | hc
    · rcases List.mem_append.mp hc' with hc' | hc'
      · rw [X' _ hc, X' _ hc'] at e
        exact e4 c c' hc hc' e
      · rw [List.mem_singleton.mp hc'] at e ⊢
        rw [X' _ hc, Xa] at e
        have := e3 c hc
        omega
    · rcases List.mem_append.mp hc' with hc' | hc'
      · rw [List.mem_singleton.mp hc] at e ⊢
        rw [X' _ hc', Xa] at e
        have := e3 c' hc'
        omega
      · rw [List.mem_singleton.mp hc, List.mem_singleton.mp hc']
  · rw [tk]
    rcases List.mem_append.mp hp with hp | hp
    · obtain ⟨m1, m2⟩ := h.en p hp
      exact ⟨List.mem_append_left _ m1, List.mem_append_left _ m2⟩
    · rw [List.mem_singleton.mp hp]
      have m1 : a ∈ os.take (i + 1) ++ [a] := List.mem_append_right _ (List.mem_singleton.mpr rfl)
      have m2 : b ∈ os.take (i + 1) ++ [a] := List.mem_append_left _ mb
      cases fw
      · exact ⟨m1, m2⟩
      · exact ⟨m2, m1⟩
  · rcases List.mem_append.mp hp with hp | hp
    · have := h.lo p hp
      omega
    · rw [List.mem_singleton.mp hp]
      exact ⟨h.t0, hl, Int.le_refl _⟩
  · by_cases c : x < tot
    · obtain ⟨p, hp, z⟩ := h.cov x h0 c
      exact ⟨p, List.mem_append_left _ hp, z⟩
    · exact ⟨_, List.mem_append_right _ (List.mem_singleton.mpr rfl), by dsimp only; omega, by dsimp only; omega⟩
  · refine List.pairwise_append.mpr ⟨h.dis, List.pairwise_singleton _ _, fun p hp q hq => ?_⟩
    rw [List.mem_singleton.mp hq]
    have := h.lo p hp
    exact .inl (by dsimp only; omega)
  · have := h.t0
    omega
/-- the pieces, in any order, are a lane -/
theorem LaneI.lane {os : List Int} {i : Nat} {ps qs : List Lp} {tot : Int} (h : LaneI os i ps tot) (pm : qs.Perm ps) : ∃ X, LaneG (lnF qs) (lpSt qs) (lpFw qs) X tot := by
  obtain ⟨X, e1, e2, e3, e4⟩ := h.ex
  have get : ∀ k, k < (lnF qs).length → ∃ p, qs[k]? = some p ∧ p ∈ ps ∧ lpK qs k = p ∧ rd (lnF qs) k = (p.a, p.b, p.ln) := fun k hk => by
    rw [len_lnF] at hk
    have e := List.getElem?_eq_getElem hk
    exact ⟨_, e, pm.mem_iff.mp (List.mem_of_getElem? e), lpK_of e, rd_lnF e⟩
  have dis : qs.Pairwise fun p q => p.st + p.ln ≤ q.st ∨ q.st + q.ln ≤ p.st := (pm.pairwise_iff (fun {p q} z => z.symm)).mpr h.dis
  refine ⟨X, fun k hk => ?_, fun k hk => ?_, fun x h0 h1 => ?_, fun k k' x hk hk' a1 a2 b1 b2 => ?_, fun k k' c c' hk hk' hc hc' e => ?_⟩
  · obtain ⟨p, _, hp, ep, er⟩ := get k hk
    unfold lpSt
    rw [ep, er]
    have := h.lo p hp
    exact ⟨this.1, this.2.2⟩
  · obtain ⟨p, _, hp, ep, er⟩ := get k hk
    unfold lpSt lpFw
    rw [ep, er]
    exact e1 p hp
  · obtain ⟨p, hp, z⟩ := h.cov x h0 h1
    obtain ⟨k, hk⟩ := List.getElem?_of_mem (pm.mem_iff.mpr hp)
    have lt := (List.getElem?_eq_some_iff.mp hk).1
    refine ⟨k, by rw [len_lnF]; exact lt, ?_⟩
    unfold lpSt
    rw [lpK_of hk, rd_lnF hk]
    exact z
  · obtain ⟨p, gp, hp, ep, er⟩ := get k hk
    obtain ⟨p', gp', hp', ep', er'⟩ := get k' hk'
    unfold lpSt at a1 a2 b1 b2
    rw [ep] at a1
    rw [ep, er] at a2
    rw [ep'] at b1
    rw [ep', er'] at b2
    dsimp only at a2 b2
    have pw := List.pairwise_iff_getElem.mp dis
    obtain ⟨l1, g1⟩ := List.getElem?_eq_some_iff.mp gp
    obtain ⟨l2, g2⟩ := List.getElem?_eq_some_iff.mp gp'
    apply Classical.byContradiction
    intro ne
    rcases Nat.lt_or_gt_of_ne ne with lt | lt
    · have := pw k k' l1 l2 lt
      rw [g1, g2] at this
      omega
    · have := pw k' k l2 l1 lt
      rw [g1, g2] at this
      omega
  · obtain ⟨p, gp, hp, ep, er⟩ := get k hk
    obtain ⟨p', gp', hp', ep', er'⟩ := get k' hk'
    rw [er] at hc
    rw [er'] at hc'
    obtain ⟨m1, m2⟩ := h.en p hp
    obtain ⟨m1', m2'⟩ := h.en p' hp'
    refine e4 c c' ?_ ?_ e
    · rcases hc with z | z
      · rw [z]
        exact m1
      · rw [z]
        exact m2
    · rcases hc' with z | z
      · rw [z]
        exact m1'
      · rw [z]
        exact m2'
def LpAt (H : Hp) (t : Addr) (p : Lp) : Prop := ∃ e, H t = some (.tup [.int p.st, .int p.ln, .bl p.fw, .ref e]) ∧ H e = some (.tup [.int p.a, .int p.b])
theorem LpAt.kz {H H' : Hp} {t : Addr} {p : Lp} (h : LpAt H t p) (k : Kz H H') : LpAt H' t p := let ⟨e, a, b⟩ := h; ⟨e, k _ _ a .tup, k _ _ b .tup⟩
def laneK (n tot : Int) (L : Addr) : List (Key × V) := [((Sum.inr "count" : Key), .int n), (Sum.inr "total", .int tot), (Sum.inr "pieces", .ref L)]
def LaneAt (H : Hp) (d : Addr) (n tot : Int) (ps : List Lp) : Prop := ∃ (L : Addr) (ts : List Addr), H d = some (.dK (laneK n tot L)) ∧ H L = some (.lst (ts.map V.ref)) ∧ Paired (LpAt H) ts ps
/-- what is told of a drawn lane -/
structure LaneT (n tot : Int) (ps : List Lp) : Prop where
  G : TreeG n (lnF ps)
  L : ∃ X, LaneG (lnF ps) (lpSt ps) (lpFw ps) X tot
  t1 : 1 ≤ tot
  t9 : tot ≤ 8000000000
  ln : ∀ p ∈ ps, 1 ≤ p.ln ∧ p.ln ≤ 1000000000 ∧ 0 ≤ p.st ∧ p.st + p.ln ≤ tot
  p0 : 0 < ps.length
  p8 : ps.length ≤ 8
  du : due n (lnF ps) = none
end OT
set_option Elab.async false
set_option linter.all false
set_option maxRecDepth 100000
set_option maxHeartbeats 4000000
namespace OT
open PySem L2 OTR
abbrev sLane65 : Stmt := top 56
theorem drawn_tgB {most long n : Int} {fs : List Fact} (d : Drawn most long n fs) (h24 : most ≤ 24) (hl : long ≤ 1000000000) : TreeG n fs :=
  ⟨⟨fun r hr => let ⟨a, b, c, _⟩ := d.ok r hr; ⟨a, b, c⟩, d.nr, d.con⟩, fun r hr => by
    obtain ⟨_, _, _, z⟩ := d.ok r hr
    omega, d.lo, by have := d.hi; omega, d.len⟩
def spLane : Sp := fun vs H Q _ => ∃ s : Addr, vs = [.ref s] ∧ Src H s ∧ ∀ d n tot ps H', H d = none → LaneAt H' d n tot ps → LaneT n tot ps → Src H' s → But s H H' → Q (.ref d) H'
section
variable {P : Program} {w : World} {K : PySem.W.Frag} {mg : Str → Option Value} {base : Heap}
abbrev nLane : List Str := ["_law_source_here", "_law_count", "_law_labels", "_law_pieces", "_law_start", "_law_index", "_law_length", "_law_forward", "_law_ends"]
theorem scLane : FnScope nLane ["_law_source_here"] (defScope sLane65) := ⟨rfl, rfl, rfl, by decide +kernel, rfl, by decide +kernel, by decide +kernel⟩
theorem ok_lane {f fD fC fS : Addr} {fd fdD fdC fdS : FuncData} (F : Fun K "_law_lane" "_law_lane" sLane65 f fd)
    (FD : FnOk P w K mg base CX0 1 fD fdD ["_law_source_here", "_law_bound"] spDraw) (bD : Binds K fdD ["_law_source_here", "_law_bound"] []) (mD : mg "_law_draw" = some (.ref fD)) (kD : PySem.W.keepIn K (.ref fD) = true)
    (FC : FnOk P w K mg base CX0 2 fC fdC ["_law_source_here", "_law_items"] (spPick K)) (bC : Binds K fdC ["_law_source_here", "_law_items"] []) (mC : mg "_law_choice" = some (.ref fC)) (kC : PySem.W.keepIn K (.ref fC) = true)
    (FS : FnOk P w K mg base CX0 2 fS fdS ["_law_source_here", "_law_items"] spShuf) (bS : Binds K fdS ["_law_source_here", "_law_items"] []) (mS : mg "_law_shuffled" = some (.ref fS)) (kS : PySem.W.keepIn K (.ref fS) = true)
    (hList : mg "list" = none) (hRg : mg "range" = none) : FnOk P w K mg base CX0 3 f fd ["_law_source_here"] spLane := by
  refine F.ok scLane (fun vs H Q E h => ?_) (fun cdv A outer s0 H vs Q E hr h => ?_)
  · obtain ⟨s, rfl, _⟩ := h
    rfl
  · obtain ⟨s, rfl, hs, kont⟩ := h
    have hr1 : Room 1 _ := hr.mono (by decide)
    have hr2 : Room 2 _ := hr.mono (by decide)
    refine ⟨_, pss_cons (ps_set (i := 1) scLane.nd rfl (Or.inl rfl) (pe_op op_add pe_int (pe_call FD hr1 rfl mD kD bD .nil pass0 (pa_cons (pv 0) (pa_cons pe_int pa_nil)))))
      (pss_cons (ps_set (i := 2) scLane.nd rfl (Or.inl rfl) (pe_call FS hr2 rfl mS kS bS .nil pass0 (pa_cons (pv 0) (pa_cons (pe_listRg rfl rfl hList (prg_1 rfl hRg (pv 1))) pa_nil))))
      (pss_cons (ps_set (i := 3) scLane.nd rfl (Or.inl rfl) (pe_lst pa_nil))
      (pss_cons (ps_set (i := 4) scLane.nd rfl (Or.inl rfl) pe_int)
      (pss_cons (ps_for PassesOwn.never rfl (pi_range2 (by rfl) hRg (pa_cons pe_int (pa_cons (pv 1) pa_nil))) (pg_name (i := 5) scLane.nd rfl (Or.inl rfl))
        (pss_cons (ps_set (i := 6) scLane.nd rfl (Or.inl rfl) (pe_call FC hr2 rfl mC kC bC .nil pass0 (pa_cons (pv 0) (pa_cons (pe_lst (pa_cons pe_int (pa_cons (pe_op op_add pe_int (pe_call FD hr1 rfl mD kD bD .nil pass0 (pa_cons (pv 0) (pa_cons pe_int pa_nil)))) (pa_cons (pe_op op_add pe_int (pe_call FD hr1 rfl mD kD bD .nil pass0 (pa_cons (pv 0) (pa_cons (pe_op op_pow pe_int pe_int) pa_nil)))) (pa_cons (pe_op op_pow pe_int pe_int) pa_nil))))) pa_nil))))
        (pss_cons (ps_set (i := 7) scLane.nd rfl (Or.inl rfl) (pe_cmpR op_eq (pe_call FD hr1 rfl mD kD bD .nil pass0 (pa_cons (pv 0) (pa_cons pe_int pa_nil))) pe_int (nomark _)))
        (pss_cons (ps_set (i := 8) scLane.nd rfl (Or.inl rfl) (pe_tup (pa_cons (pe_ix ix_list (pv 2) (pe_op op_sub (pv 5) pe_int) (fun _ _ => rfl)) (pa_cons (pe_ix ix_list (pv 2) (pv 5) (fun _ _ => rfl)) pa_nil))))
        (pss_cons (ps_expr (pe_bm PySem.F.plainAttrs_list PySem.F.slot_list_append PySem.F.type_list_append mt_append (pv 3) (pa_cons (pe_tup (pa_cons (pv 4) (pa_cons (pv 6) (pa_cons (pv 7) (pa_cons (pe_ifExp (pt_val (pv 7)) (pv 8) (pe_revT (pv 8))) pa_nil))))) pa_nil)))
        (pss_one (ps_set (i := 4) scLane.nd rfl (Or.inl rfl) (pe_op op_add (pv 4) (pv 6)))))))))
      (pss_one (ps_ret (pe_disp (pps_cons pe_str (pv 1) (pps_cons pe_str (pv 4) (pps_cons pe_str (pe_call FS hr2 rfl mS kS bS .nil pass0 (pa_cons (pv 0) (pa_cons (pv 3) pa_nil))) pps_nil))) (by rfl) (by rfl) (fun z => by cases z) (by decide)))))))), ?_⟩
    -- count = 2 + draw(source, 8)
    refine ⟨_, rfl, s, 8, rfl, hs, by decide, by decide, fun r0 H1 r0a r0b src1 b1 => ⟨_, _, rfl, rfl, ?_⟩⟩
    obtain ⟨n, hn⟩ : ∃ n : Int, n = 2 + r0 := ⟨_, rfl⟩
    dsimp only [gName]
    rw [← hn]
    have n2 : 2 ≤ n := by omega
    have n9 : n ≤ 9 := by omega
    have fresh : ∀ {G : Hp} {p : Addr}, But s H G → Src G s → G p = none → H p = none := fun {G p} b sg hp => Src.fresh b sg hp
    -- labels = shuffled(source, list(range(count)))
    refine ⟨_, rfl, _, rfl, n, rfl, RgOk.of_le (by omega) (by omega) (by omega) (by omega), fun q1 hq1 => ?_⟩
    have src1' : Src (upd H1 q1 (.lst (rgV 0 n))) s := src1.same (Same.new hq1)
    refine ⟨s, q1, rgV 0 n, rfl, src1', upd_same, by rw [rgV_length]; omega, fun po ys H2 pm hpo1 hpo src2 b2 => ?_⟩
    obtain ⟨os, rfl, po'⟩ : ∃ os : List Int, ys = os.map V.int ∧ os.Perm ((List.range (n - 0).toNat).map fun i : Nat => (0 : Int) + (i : Nat)) := by
      have e : rgV 0 n = ((List.range (n - 0).toNat).map fun i : Nat => (0 : Int) + (i : Nat)).map V.int := by
        unfold rgV
        rw [List.map_map]
        rfl
      rw [e] at pm
      exact perm_map pm
    have ol : os.length = n.toNat := by
      rw [po'.length_eq, List.length_map, List.length_range]
      congr 1
      omega
    have ond : os.Nodup := po'.nodup_iff.mpr (List.Pairwise.map _ (fun a b (z : a < b) => by omega) (List.pairwise_lt_range))
    have oin : ∀ x ∈ os, In n x := fun x hx => by
      obtain ⟨i, hi, rfl⟩ := List.mem_map.mp (po'.mem_iff.mp hx)
      have := List.mem_range.mp hi
      exact ⟨by omega, by omega⟩
    have b02 : But s H H2 := fun b o e nb => b2 b o (Same.new hq1 b o (b1 b o e nb)) nb
    have npo : po ≠ s := src1'.new hpo1
    -- pieces = []
    refine ⟨Nat.zero_le _, fun pf hpf => ?_⟩
    have npf : pf ≠ s := src2.new hpf
    have hpfH : H pf = none := fresh b02 src2 hpf
    have npp : po ≠ pf := ne_of_none hpo hpf
    have src4 : Src (upd H2 pf (.lst [])) s := src2.same (Same.new hpf)
    -- for index in range(1, count)
    refine ⟨_, rfl, 1, n, rfl, ⟨by omega, by omega, by omega, by omega⟩, for_range (lo := 1) (n := (n - 1).toNat) (fun i σ G => ∃ (v5 v6 v7 v8 : Option V) (ts : List Addr) (ps : List Lp) (tot : Int), σ = [some (.ref s), some (.int n), some (.ref po), some (.ref pf), some (.int tot), v5, v6, v7, v8] ∧
        Src G s ∧ But s H G ∧ G po = some (.lst (os.map V.int)) ∧ G pf = some (.lst (ts.map V.ref)) ∧ Paired (LpAt G) ts ps ∧ Part os 1000000000 i (lnF ps) ∧ LaneI os i ps tot ∧ tot ≤ i * 1000000000 ∧ ∀ p ∈ ps, p.ln ≤ 1000000000)
      ⟨none, none, none, none, [], [], 0, rfl, src4, b02.put hpfH, by rw [upd_ne npp]; exact hpo, upd_same, .nil, ⟨rfl, fun r z => (by cases z), noRing_nil, fun x y hx hy => one_con hx hy⟩, .zero, by decide, fun r z => (by cases z)⟩ ?_ ?_⟩
    · rintro i σ G hi ⟨v5, v6, v7, v8, ts, ps, tot, rfl, sg, bg, gpo, gpf, gts, part, lane, tl, lens⟩
      have il : i + 1 < os.length := by omega
      have ha : os[i + 1]? = some os[i + 1] := List.getElem?_eq_getElem il
      generalize os[i + 1] = a at ha
      have hav : (os.map V.int)[i + 1]? = some (V.int a) := by rw [List.getElem?_map, ha]; rfl
      have jl : i < os.length := by omega
      have hb : os[i]? = some os[i] := List.getElem?_eq_getElem jl
      generalize os[i] = b at hb
      have hbv : (os.map V.int)[i]? = some (V.int b) := by rw [List.getElem?_map, hb]; rfl
      have tsl : ts.length ≤ 1000 := by
        have := Paired.length gts
        have := part.len
        rw [len_lnF] at this
        omega
      -- length = choice(source, [1, 1 + draw(source, 9), 1 + draw(source, 10 ** 9), 10 ** 9])
      refine ⟨_, rfl, _, rfl, s, 9, rfl, sg, by decide, by decide, fun d5 G4 d50 d51 sg4 bg4 => ⟨_, _, rfl, rfl, ?_⟩⟩
      refine ⟨_, rfl, _, _, rfl, rfl, ⟨by decide, by decide, by decide⟩, s, (10 : Int) ^ (9 : Int).toNat, rfl, sg4, by decide, by decide, fun d6 G5 d60 d61 sg5 bg5 => ⟨_, _, rfl, rfl, _, _, rfl, rfl, ⟨by decide, by decide, by decide⟩, ?_⟩⟩
      have e9 : (10 : Int) ^ (9 : Int).toNat = 1000000000 := by decide
      have d62 : d6 < 1000000000 := by
        rw [e9] at d61
        exact d61
      refine ⟨(by show 4 ≤ sizeLine; decide), fun pl2 hpl2 => ?_⟩
      have s5 : Same G5 (upd G5 pl2 (.lst [.int 1, .int (1 + d5), .int (1 + d6), .int 1000000000])) := Same.new hpl2
      refine ⟨s, pl2, _, rfl, sg5.same s5, sg5.new hpl2, SqL.of upd_same, (by show 0 < 4; decide), (by show 4 < 1000000; decide), fun v G6 hv sg6 bg6 => ?_⟩
      obtain ⟨z, rfl, z1, z2⟩ : ∃ z : Int, v = V.int z ∧ 1 ≤ z ∧ z ≤ 1000000000 := by
        rcases List.mem_cons.mp hv with rfl | hv
        · exact ⟨1, rfl, by decide, by decide⟩
        · rcases List.mem_cons.mp hv with rfl | hv
          · exact ⟨_, rfl, by omega, by omega⟩
          · rcases List.mem_cons.mp hv with rfl | hv
            · exact ⟨_, rfl, by omega, by omega⟩
            · rw [List.mem_singleton.mp hv]
              exact ⟨_, rfl, by omega, by omega⟩
      have b06 : But s G G6 := fun b o e nb => bg6 b o (s5 b o (bg5 b o (bg4 b o e nb) nb)) nb
      -- forward = draw(source, 2) == 0
      refine ⟨_, rfl, s, 2, rfl, sg6, by decide, by decide, fun d7 G7 d70 d71 sg7 bg7 => ⟨rfl, ?_⟩⟩
      have b07 : But s G G7 := b06.trans bg7
      generalize (decide (V.int d7 = V.int 0)) = fw
      have gpo7 := b07 _ _ gpo npo
      have gpf7 := b07 _ _ gpf npf
      -- ends = (labels[index - 1], labels[index])
      refine ⟨_, rfl, _, rfl, _, _, rfl, rfl, po, os.map V.int, _, V.int b, rfl, rfl, SqL.of gpo7, at_of (by omega) hbv, _, rfl, _, rfl, po, os.map V.int, _, V.int a, rfl, rfl, SqL.of gpo7, at_of (by omega) hav, (by show 2 ≤ sizeLine; decide), fun pe hpe => ?_⟩
      have s8 := Same.new (o := .tup [.int b, .int a]) hpe
      have e8 : upd G7 pe (.tup [.int b, .int a]) pe = some (.tup [.int b, .int a]) := upd_same
      generalize upd G7 pe (.tup [.int b, .int a]) = G8 at s8 e8 ⊢
      have b08 : But s G G8 := b07.same s8
      have sg8 := sg7.same s8
      -- pieces.append((start, length, forward, ends if forward else ends[::-1]))
      have gpf8 := s8 _ _ gpf7
      refine ⟨_, rfl, .inl ⟨rfl, _, SqL.of gpf8⟩, ?_⟩
      refine ⟨_, rfl, _, rfl, _, rfl, _, rfl, _, rfl, ?_⟩
      have next : ∀ (pr : Addr) (G9 : Hp), Same G8 G9 → G9 pr = some (.tup [.int (if fw = true then b else a), .int (if fw = true then a else b)]) →
          ∀ pt, G9 pt = none → ∃ (v5 v6 v7 v8 : Option V) (ts' : List Addr) (ps' : List Lp) (tot' : Int), [some (V.ref s), some (V.int n), some (V.ref po), some (V.ref pf), some (V.int (tot + z)), some (V.int (1 + (i : Int))), some (V.int z), some (V.bl fw), some (V.ref pe)] = [some (.ref s), some (.int n), some (.ref po), some (.ref pf), some (.int tot'), v5, v6, v7, v8] ∧
            Src (upd (upd G9 pt (.tup [.int tot, .int z, .bl fw, .ref pr])) pf (.lst (ts.map V.ref ++ [V.ref pt]))) s ∧ But s H (upd (upd G9 pt (.tup [.int tot, .int z, .bl fw, .ref pr])) pf (.lst (ts.map V.ref ++ [V.ref pt]))) ∧ (upd (upd G9 pt (.tup [.int tot, .int z, .bl fw, .ref pr])) pf (.lst (ts.map V.ref ++ [V.ref pt]))) po = some (.lst (os.map V.int)) ∧ (upd (upd G9 pt (.tup [.int tot, .int z, .bl fw, .ref pr])) pf (.lst (ts.map V.ref ++ [V.ref pt]))) pf = some (.lst (ts'.map V.ref)) ∧ Paired (LpAt (upd (upd G9 pt (.tup [.int tot, .int z, .bl fw, .ref pr])) pf (.lst (ts.map V.ref ++ [V.ref pt])))) ts' ps' ∧
            Part os 1000000000 (i + 1) (lnF ps') ∧ LaneI os (i + 1) ps' tot' ∧ tot' ≤ ((i + 1 : Nat) : Int) * 1000000000 ∧ ∀ p ∈ ps', p.ln ≤ 1000000000 := by
        intro pr G9 s9 e9' pt hpt
        have s10 := Same.new (o := .tup [.int tot, .int z, .bl fw, .ref pr]) hpt
        have e10 : upd G9 pt (.tup [.int tot, .int z, .bl fw, .ref pr]) pt = some (.tup [.int tot, .int z, .bl fw, .ref pr]) := upd_same
        have e11 := s10 _ _ e9'
        have sAll := s9.trans s10
        generalize upd G9 pt (.tup [.int tot, .int z, .bl fw, .ref pr]) = G10 at s10 e10 e11 sAll ⊢
        have gpf10 := sAll _ _ gpf8
        have b010 : But s G G10 := b08.same sAll
        have kz : Kz G (upd G10 pf (.lst (ts.map V.ref ++ [V.ref pt]))) := (kz_but sg b010).trans (.put gpf10)
        have kz2 : Kz G10 (upd G10 pf (.lst (ts.map V.ref ++ [V.ref pt]))) := .put gpf10
        refine ⟨_, _, _, _, ts ++ [pt], ps ++ [⟨tot, z, fw, if fw = true then b else a, if fw = true then a else b⟩], tot + z, rfl, (sg8.same sAll).upd npf, ((bg.trans b08).same sAll).put hpfH, by rw [upd_ne npp]; exact b010 _ _ gpo npo, by rw [List.map_append]; exact upd_same, paired_snoc (Paired.mapP gts fun _ _ a => a.kz kz) ⟨pr, kz2 _ _ e10 .tup, kz2 _ _ e11 .tup⟩, ?_, lane.add ond ha hb z1, ?_, fun p hp => ?_⟩
        · unfold lnF
          rw [List.map_append]
          refine part.add (r := (if fw = true then b else a, if fw = true then a else b, z)) ond ha hb (Nat.le_refl _) ?_ z1 (.inr z2)
          cases fw
          · exact .inl ⟨rfl, rfl⟩
          · exact .inr ⟨rfl, rfl⟩
        · have e : ((i + 1 : Nat) : Int) * 1000000000 = (i : Int) * 1000000000 + 1000000000 := by omega
          rw [e]
          omega
        · rcases List.mem_append.mp hp with h | h
          · exact lens p h
          · rw [List.mem_singleton.mp h]
            exact z2
      cases fw with
      | true =>
        refine iteT ⟨_, rfl, (by show 4 ≤ sizeLine; decide), fun pt hpt => ?_⟩
        have nx := next pe G8 (Same.refl _) e8 pt hpt
        refine ⟨pf, ts.map V.ref, .ref pt, rfl, rfl, (Same.new hpt) _ _ gpf8, small1000 (by rw [List.length_map]; omega), _, rfl, _, rfl, _, _, rfl, rfl, ?_⟩
        exact nx
      | false =>
        refine iteF ⟨_, rfl, pe, _, rfl, SqT.of e8, fun pr hpr => ⟨(by show 4 ≤ sizeLine; decide), fun pt hpt => ?_⟩⟩
        have s9 := Same.new (o := .tup [V.int b, V.int a].reverse) hpr
        have nx := next pr _ s9 upd_same pt hpt
        refine ⟨pf, ts.map V.ref, .ref pt, rfl, rfl, (Same.new hpt) _ _ (s9 _ _ gpf8), small1000 (by rw [List.length_map]; omega), _, rfl, _, rfl, _, _, rfl, rfl, ?_⟩
        exact nx
    · rintro σ G ⟨v5, v6, v7, v8, ts, ps, tot, rfl, sg, bg, gpo, gpf, gts, part, lane, tl, lens⟩
      have psl : ps.length = (n - 1).toNat := by
        have := part.len
        rw [len_lnF] at this
        exact this
      have tsl : ts.length = (n - 1).toNat := by
        rw [Paired.length gts]
        exact psl
      -- {'count': count, 'total': start, 'pieces': shuffled(source, pieces)}
      refine fun g hg => ?_
      have sg0 := sg.same (Same.new (o := .dK []) hg)
      have ng : g ≠ s := sg.new hg
      refine ⟨_, rfl, _, rfl, _, rfl, _, rfl, s, pf, ts.map V.ref, rfl, sg0, (Same.new hg) _ _ gpf, by rw [List.length_map]; omega, fun p ys G1 pm hp hys sg1 bg1 => ?_⟩
      obtain ⟨ts', rfl, q'⟩ := perm_map pm
      obtain ⟨qs, h', qf⟩ := perm_paired q' gts
      have gg1 : G1 g = some (.dK []) := bg1 _ _ upd_same ng
      refine ⟨gg1, laneK n tot p, rfl, (by show 3 ≤ 15; decide), ?_⟩
      have em : mergeK [] (laneK n tot p) = laneK n tot p := rfl
      rw [em]
      have hgH : H g = none := fresh bg sg hg
      have npg : p ≠ g := fun z => by
        rw [z] at hp
        rw [upd_same] at hp
        cases hp
      have allin : ∀ x, In n x → x ∈ os.take ((n - 1).toNat + 1) := fun x hx => by
        rw [List.take_of_length_le (by omega)]
        refine po'.mem_iff.mpr (List.mem_map.mpr ⟨x.toNat, List.mem_range.mpr ?_, ?_⟩)
        · have := hx.1
          have := hx.2
          omega
        · have := hx.1
          omega
      have k1 : Kz G G1 := (Kz.of (Same.new hg)).trans (kz_but sg0 bg1)
      have bz : But s H (upd G1 g (.dK (laneK n tot p))) := fun b o e nb => by
        rw [upd_ne (ne_of_none e hgH)]
        exact bg1 b o ((Same.new hg) b o (bg b o e nb)) nb
      have qF : (lnF qs).Perm (lnF ps) := qf.map _
      have dr : Drawn 9 1000000000 n (lnF qs) := ⟨n2, n9, by rw [qF.length_eq, part.len]; omega, fun r hr => by
        obtain ⟨a, b, c⟩ := part.ok r (qF.mem_iff.mp hr)
        have ia := oin _ (List.mem_of_mem_take a)
        have ib := oin _ (List.mem_of_mem_take b)
        exact ⟨ia, ib, c⟩, noRing_perm qF part.nr, fun x y hx hy => (part.con x y (allin x hx) (allin y hy)).mono fun r hr => qF.mem_iff.mpr hr⟩
      have lt1 : 1 ≤ tot := by
        cases ps with
        | nil => simp at psl; omega
        | cons p r =>
          have := lane.lo p (List.mem_cons_self ..)
          omega
      have qsl := qf.length_eq
      refine kont g n tot qs _ hgH ⟨p, ts', upd_same, (upd_ne npg).trans hys, Paired.mapP h' fun t q ⟨e, a, b⟩ => ⟨e, ?_, ?_⟩⟩ ⟨drawn_tgB dr (by decide) (by decide), lane.lane qf, lt1, by omega, fun q hq => ?_, by omega, by omega, dr.due (by decide) (by decide)⟩ (sg1.upd ng) bz
      · rw [upd_ne (fun z => by
          have := k1 _ _ a .tup
          rw [z, gg1] at this
          cases this)]
        exact k1 _ _ a .tup
      · rw [upd_ne (fun z => by
          have := k1 _ _ b .tup
          rw [z, gg1] at this
          cases this)]
        exact k1 _ _ b .tup
      · have hp := qf.mem_iff.mp hq
        have := lane.lo q hp
        have := lens q hp
        omega
end
end OT
set_option Elab.async false
set_option linter.all false
set_option maxRecDepth 100000
set_option maxHeartbeats 4000000
namespace OT
open PySem L2 OTR
abbrev sForms65 : Stmt := top 57
/-- all pairs of road and number of a coordinate -/
noncomputable def fms (ps : List Lp) (S x : Int) (m : Nat) : List (Nat × Int) := fmL (lnF ps) (lpSt ps) (lpFw ps) S x m
theorem LaneAt.kz {H H' : Hp} {d : Addr} {n tot : Int} {ps : List Lp} (h : LaneAt H d n tot ps) (k : Kz H H') (l : ∀ L xs, H d = some (.dK (laneK n tot L)) → H L = some (.lst xs) → H' L = some (.lst xs)) : LaneAt H' d n tot ps :=
  let ⟨L, ts, a, b, c⟩ := h; ⟨L, ts, k _ _ a .dK, l L _ a b, Paired.mapP c fun _ _ e => e.kz k⟩
theorem LaneAt.same {H H' : Hp} {d : Addr} {n tot : Int} {ps : List Lp} (h : LaneAt H d n tot ps) (s : Same H H') : LaneAt H' d n tot ps := h.kz (.of s) fun L xs _ e => s _ _ e
theorem get_lp {H : Hp} {d L : Addr} {n tot : Int} (e : H d = some (.dK (laneK n tot L))) : DGet H d (.str "pieces") (some (.ref L)) := by
  have h : valV (laneK n tot L) (.inr "pieces") = some (.ref L) := (valV_neg (fun q => absurd q (show ¬ (Sum.inr (Str.ofString "count") : Key) = Sum.inr (Str.ofString "pieces") by decide +kernel))).trans ((valV_neg (fun q => absurd q (show ¬ (Sum.inr (Str.ofString "total") : Key) = Sum.inr (Str.ofString "pieces") by decide +kernel))).trans (valV_pos rfl))
  rw [← h]
  exact DGet.k (k := .inr "pieces") e
theorem get_lt {H : Hp} {d L : Addr} {n tot : Int} (e : H d = some (.dK (laneK n tot L))) : DGet H d (.str "total") (some (.int tot)) := by
  have h : valV (laneK n tot L) (.inr "total") = some (.int tot) := (valV_neg (fun q => absurd q (show ¬ (Sum.inr (Str.ofString "count") : Key) = Sum.inr (Str.ofString "total") by decide +kernel))).trans (valV_pos rfl)
  rw [← h]
  exact DGet.k (k := .inr "total") e
theorem get_lc {H : Hp} {d L : Addr} {n tot : Int} (e : H d = some (.dK (laneK n tot L))) : DGet H d (.str "count") (some (.int n)) := by
  have h : valV (laneK n tot L) (.inr "count") = some (.int n) := valV_pos rfl
  rw [← h]
  exact DGet.k (k := .inr "count") e
def spForms : Sp := fun vs H Q _ => ∃ (d : Addr) (n tot S x : Int) (ps : List Lp), vs = [.ref d, .int S, .int x] ∧ LaneAt H d n tot ps ∧ LaneT n tot ps ∧ 1 ≤ S ∧ S ≤ 1000 ∧
  ∀ l ts H', Same H H' → H l = none → H' l = some (.lst (ts.map V.ref)) → Paired (PrAt H') ts (fms ps S x ps.length) → Q (.ref l) H'
section
variable {P : Program} {w : World} {K : PySem.W.Frag} {mg : Str → Option Value} {base : Heap}
abbrev nForms : List Str := ["_law_lane_here", "_law_parts", "_law_at", "_law_result", "_law_road", "_law_start", "_law_length", "_law_forward", "_law_ends", "_law_low", "_law_high"]
theorem scForms : FnScope nForms ["_law_lane_here", "_law_parts", "_law_at"] (defScope sForms65) := ⟨rfl, rfl, rfl, by decide +kernel, rfl, by decide +kernel, by decide +kernel⟩
theorem ok_forms {f : Addr} {fd : FuncData} (F : Fun K "_law_forms" "_law_forms" sForms65 f fd) (hEn : mg "enumerate" = none) : FnOk P w K mg base CX0 1 f fd ["_law_lane_here", "_law_parts", "_law_at"] spForms := by
  refine F.ok scForms (fun vs H Q E h => ?_) (fun cdv A outer s0 H vs Q E hr h => ?_)
  · obtain ⟨d, n, tot, S, x, ps, rfl, _⟩ := h
    rfl
  · obtain ⟨d, n, tot, S, x, ps, rfl, la, lt, S1, S2, kont⟩ := h
    have hu := hu_of hr
    refine ⟨_, pss_cons (ps_set (i := 3) scForms.nd rfl (Or.inl rfl) (pe_lst pa_nil))
      (pss_cons (ps_for PassesOwn.never rfl (pi_enum (by rfl) hEn (pa_cons (pe_dget hu (pv 0) pe_str (fun _ _ => rfl)) pa_nil)) (pg_tup rfl (pgs_cons (pg_name (i := 4) scForms.nd rfl (Or.inl rfl)) (pgs_cons (pg_tup rfl (pgs_cons (pg_name (i := 5) scForms.nd rfl (Or.inl rfl)) (pgs_cons (pg_name (i := 6) scForms.nd rfl (Or.inl rfl)) (pgs_cons (pg_name (i := 7) scForms.nd rfl (Or.inl rfl)) (pgs_cons (pg_name (i := 8) scForms.nd rfl (Or.inl rfl)) pgs_nil))))) pgs_nil)))
        (pss_cons (ps_par (i := 9) (j := 10) rfl scForms.nd rfl rfl (by decide) rfl rfl (pa_cons (pe_op op_mul (pv 5) (pv 1)) (pa_cons (pe_op op_mul (pe_op op_add (pv 5) (pv 6)) (pv 1)) pa_nil)) (by rfl))
        (pss_one (ps_if (pt_chain op_le op_le (pv 9) (pv 2) (pv 10))
          (pss_one (ps_expr (pe_bm PySem.F.plainAttrs_list PySem.F.slot_list_append PySem.F.type_list_append mt_append (pv 3) (pa_cons (pe_tup (pa_cons (pv 4) (pa_cons (pe_ifExp (pt_val (pv 7)) (pe_op op_sub (pv 2) (pv 9)) (pe_op op_sub (pv 10) (pv 2))) pa_nil))) pa_nil))))
          pss_nil))))
      (pss_one (ps_ret (pv 3)))), ?_⟩
    have S64 : -(2 ^ 64 : Int) < S ∧ S < 2 ^ 64 := ⟨by omega, by omega⟩
    obtain ⟨L, ts, ed, eL, htp⟩ := la
    have tl : (ts.map V.ref).length = ps.length := by rw [List.length_map]; exact Paired.length htp
    have p8 := lt.p8
    refine ⟨Nat.zero_le _, fun pf hpf => ?_⟩
    have s1 := Same.new (o := .lst []) hpf
    have g1 : upd H pf (.lst []) pf = some (.lst []) := upd_same
    generalize upd H pf (.lst []) = H1 at s1 g1 ⊢
    refine ⟨_, rfl, d, _, rfl, get_lp (s1 _ _ ed), L, _, rfl, SqL.of (s1 _ _ eL), for_it (walk_enum (K := K) (a := L) (xs := ts.map V.ref)) (fun i σ G => ∃ (v4 v5 v6 v7 v8 v9 v10 : Option V) (us : List Addr), σ = [some (.ref d), some (.int S), some (.int x), some (.ref pf), v4, v5, v6, v7, v8, v9, v10] ∧ Same H G ∧ G pf = some (.lst (us.map V.ref)) ∧ Paired (PrAt G) us (fms ps S x i) ∧ us.length ≤ i)
      ⟨none, none, none, none, none, none, none, [], rfl, s1, g1, .nil, Nat.le_refl _⟩ (fun i σ G _ ⟨_, _, _, _, _, _, _, _, _, sG, _⟩ => SqL.of (sG _ _ eL)) ?_ ?_⟩
    · rintro i v σ G G' hi ⟨v4, v5, v6, v7, v8, v9, v10, us, rfl, sG, gpf, pr, ul⟩ ⟨T', x1, y1, rfl, hT, rfl, hx1, hy1⟩
      cases hx1
      rw [tl] at hi
      obtain ⟨t, ht, rfl⟩ := map_get (show (ts.map V.ref)[i]? = some y1 from hy1)
      obtain ⟨p, hp, e, e1, e2⟩ := paired_get htp ht
      have sT := Same.new (o := .tup [.int (i : Nat), .ref t]) hT
      have sG1 := sG.trans sT
      refine ⟨T', _, rfl, SqT.of upd_same, rfl, _, _, rfl, _, _, rfl, t, _, rfl, SqT.of (sG1 _ _ e1), rfl, _, _, rfl, _, _, rfl, _, _, rfl, _, _, rfl, rfl, rfl, ?_⟩
      dsimp only [gName]
      have gpf1 := sT _ _ gpf
      have pr1 := Paired.mapP pr fun u z (a : PrAt G u z) => (show PrAt _ u z from sT _ _ a)
      generalize upd G T' (.tup [.int (i : Nat), .ref t]) = G1 at sT sG1 gpf1 pr1 ⊢
      have ek : lpK ps i = p := lpK_of hp
      have er : rd (lnF ps) i = (p.a, p.b, p.ln) := rd_lnF hp
      -- low, high = start * parts, (start + length) * parts
      refine ⟨_, rfl, _, rfl, _, _, rfl, rfl, .inr S64, _, rfl, _, rfl, _, _, rfl, rfl, _, rfl, _, _, rfl, rfl, .inr S64, _, _, rfl, ?_⟩
      have ef : fms ps S x (i + 1) = fms ps S x i ++ (if p.st * S ≤ x ∧ x ≤ (p.st + p.ln) * S then [(i, if p.fw = true then x - p.st * S else (p.st + p.ln) * S - x)] else []) := by
        show fmL (lnF ps) (lpSt ps) (lpFw ps) S x (i + 1) = _
        unfold fmL
        unfold lpSt lpFw
        rw [ek, er]
        rfl
      -- low <= at <= high
      refine ⟨_, rfl, _, rfl, _, _, rfl, rfl, _, rfl, ?_⟩
      have no : ¬ (p.st * S ≤ x ∧ x ≤ (p.st + p.ln) * S) → ∃ (v4 v5 v6 v7 v8 v9 v10 : Option V) (us' : List Addr), [some (V.ref d), some (V.int S), some (V.int x), some (V.ref pf), some (V.int (i : Nat)), some (V.int p.st), some (V.int p.ln), some (V.bl p.fw), some (V.ref e), some (V.int (p.st * S)), some (V.int ((p.st + p.ln) * S))] = [some (.ref d), some (.int S), some (.int x), some (.ref pf), v4, v5, v6, v7, v8, v9, v10] ∧ Same H G1 ∧ G1 pf = some (.lst (us'.map V.ref)) ∧ Paired (PrAt G1) us' (fms ps S x (i + 1)) ∧ us'.length ≤ i + 1 := fun c => by
        rw [ef, if_neg c, List.append_nil]
        exact ⟨_, _, _, _, _, _, _, us, rfl, sG1, gpf1, pr1, by omega⟩
      by_cases c1 : p.st * S ≤ x
      · rw [decide_eq_true c1]
        refine iteT ⟨_, rfl, _, _, rfl, rfl, _, rfl, ?_⟩
        by_cases c2 : x ≤ (p.st + p.ln) * S
        · rw [decide_eq_true c2]
          refine iteT ?_
          refine ⟨_, rfl, .inl ⟨rfl, _, SqL.of gpf1⟩, ?_⟩
          have fin : ∀ z : Int, z = (if p.fw = true then x - p.st * S else (p.st + p.ln) * S - x) → ∀ pt, G1 pt = none → ∃ (l : Addr) (xs : List V) (v : V), V.ref pf = V.ref l ∧ [V.ref pt] = [v] ∧ upd G1 pt (.tup [.int (i : Nat), .int z]) l = some (.lst xs) ∧ xs.length < sizeLine ∧
              ∃ (v4 v5 v6 v7 v8 v9 v10 : Option V) (us' : List Addr), [some (V.ref d), some (V.int S), some (V.int x), some (V.ref pf), some (V.int (i : Nat)), some (V.int p.st), some (V.int p.ln), some (V.bl p.fw), some (V.ref e), some (V.int (p.st * S)), some (V.int ((p.st + p.ln) * S))] = [some (.ref d), some (.int S), some (.int x), some (.ref pf), v4, v5, v6, v7, v8, v9, v10] ∧ Same H (upd (upd G1 pt (.tup [.int (i : Nat), .int z])) l (.lst (xs ++ [v]))) ∧ (upd (upd G1 pt (.tup [.int (i : Nat), .int z])) l (.lst (xs ++ [v]))) pf = some (.lst (us'.map V.ref)) ∧ Paired (PrAt (upd (upd G1 pt (.tup [.int (i : Nat), .int z])) l (.lst (xs ++ [v])))) us' (fms ps S x (i + 1)) ∧ us'.length ≤ i + 1 := by
            intro z ez pt hpt
            have s2 := Same.new (o := .tup [.int (i : Nat), .int z]) hpt
            have e2 : upd G1 pt (.tup [.int (i : Nat), .int z]) pt = some (.tup [.int (i : Nat), .int z]) := upd_same
            generalize upd G1 pt (.tup [.int (i : Nat), .int z]) = G2 at s2 e2 ⊢
            have gpf2 := s2 _ _ gpf1
            have kz : Kz G2 (upd G2 pf (.lst (us.map V.ref ++ [V.ref pt]))) := .put gpf2
            refine ⟨pf, us.map V.ref, .ref pt, rfl, rfl, gpf2, small1000 (by rw [List.length_map]; omega), _, _, _, _, _, _, _, us ++ [pt], rfl, fun c o ec => ?_, by rw [List.map_append]; exact upd_same, ?_, by rw [List.length_append]; show us.length + 1 ≤ i + 1; omega⟩
            · rw [upd_ne (ne_of_none ec hpf)]
              exact s2 _ _ (sG1 _ _ ec)
            · rw [ef, if_pos ⟨c1, c2⟩]
              refine paired_snoc (Paired.mapP pr1 fun u z (a : PrAt G1 u z) => (show PrAt _ u z from kz _ _ (s2 _ _ a) .tup)) ?_
              rw [← ez]
              exact kz _ _ e2 .tup
          refine ⟨_, rfl, _, rfl, _, rfl, ?_⟩
          cases hf : p.fw with
          | true =>
            rw [hf] at fin
            refine iteT ⟨_, rfl, _, rfl, _, _, rfl, rfl, (by show 2 ≤ sizeLine; decide), fun pt hpt => ?_⟩
            exact fin _ rfl pt hpt
          | false =>
            rw [hf] at fin
            refine iteF ⟨_, rfl, _, rfl, _, _, rfl, rfl, (by show 2 ≤ sizeLine; decide), fun pt hpt => ?_⟩
            exact fin _ rfl pt hpt
        · rw [decide_eq_false c2]
          exact iteF (no fun z => c2 z.2)
      · rw [decide_eq_false c1]
        exact iteF ⟨false, rfl, iteF (no fun z => c1 z.1)⟩
    · rintro σ G ⟨v4, v5, v6, v7, v8, v9, v10, us, rfl, sG, gpf, pr, ul⟩
      rw [tl] at pr
      exact ⟨_, rfl, kont pf us G sG hpf gpf pr⟩
end
end OT
set_option Elab.async false
set_option linter.all false
set_option maxRecDepth 100000
set_option maxHeartbeats 4000000
namespace OT
open PySem L2 OTR
abbrev sExp65 : Stmt := top 58
abbrev sMoved65 : Stmt := top 61
/-- as spDraw, for greater numbers -/
def spDrwW : Sp := fun vs H Q _ => ∃ (s : Addr) (m : Int), vs = [.ref s, .int m] ∧ Src H s ∧ 0 < m ∧ m < 2 ^ 62 ∧ ∀ r H', 0 ≤ r → r < m → Src H' s → But s H H' → Q (.int r) H'
/-- a coordinate of the lane -/
noncomputable def cX (ps : List Lp) (X : Int → Int) (S : Int) (u : Nd) : Int := cdN (lnF ps) (lpSt ps) (lpFw ps) X S u
def spExp65 : Sp := fun vs H Q _ => ∃ (d : Addr) (n tot S x : Int) (ps : List Lp) (X : Int → Int) (u : Nd), vs = [.ref d, .int S, .int x] ∧ LaneAt H d n tot ps ∧ LaneT n tot ps ∧ LaneG (lnF ps) (lpSt ps) (lpFw ps) X tot ∧ 1 ≤ S ∧ S ≤ 1000 ∧ OnT (lnF ps) S u ∧ cX ps X S u = x ∧
  ∀ t H', Same H H' → H t = none → TupAt H' t (keyF (lnF ps) S u) → Q (.ref t) H'
/-- a goal and steps -/
def GsAt (H : Hp) (t : Addr) (g : Int × Int) : Prop := H t = some (.tup [.int g.1, .int g.2])
def mvL (S : Int) (gs : List (Int × Int)) (x : Int) : Int := gs.foldl (fun x g => mvd x (g.1 * S) (g.2 * S)) x
def spMoved (K : PySem.W.Frag) : Sp := fun vs H Q _ => ∃ (x S : Int) (l : Addr) (ts : List Addr) (gs : List (Int × Int)), vs = [.int x, .ref l, .int S] ∧ H l = some (.lst (ts.map V.ref)) ∧ Paired (GsAt H) ts gs ∧ 1 ≤ S ∧ S ≤ 1000 ∧ Q (.int (mvL S gs x)) H
theorem gcd_le {i S : Int} (hS : 1 ≤ S) : gcdI i S ≤ S := by
  unfold gcdI
  have := Nat.gcd_le_right i.natAbs (show 0 < S.natAbs by omega)
  omega
section
variable {P : Program} {w : World} {K : PySem.W.Frag} {mg : Str → Option Value} {base : Heap}
theorem ok_drwW {f : Addr} {fd : FuncData} (F : Fun K "_law_draw" "_law_draw" sDrwK f fd) : FnOk P w K mg base CX0 1 f fd ["_law_source_here", "_law_bound"] spDrwW := by
  refine F.ok scDrwK (fun vs H Q E h => ?_) (fun cdv A outer s H vs Q E hr h => ?_)
  · obtain ⟨s, m, rfl, _⟩ := h
    rfl
  · obtain ⟨s, m, rfl, ⟨a, b, c, ha, hs⟩, hm0, hm1, k⟩ := h
    refine ⟨_, pss_cons (ps_if (pt_cmpR op_gt (pe_ix ix_list (pv 0) pe_int (fun _ _ => rfl)) pe_int (nomark _))
        (pss_cons (ps_set (i := 2) scDrwK.nd rfl (Or.inl rfl) (pe_op op_mod (pe_ix ix_list (pv 0) pe_int (fun _ _ => rfl)) (pv 1)))
        (pss_cons (ps_asg (pe_op op_fdivW (pe_ix ix_list (pv 0) pe_int (fun _ _ => rfl)) (pv 1)) (pg_sub (pv 0) pe_int set_list))
        (pss_one (ps_ret (pv 2)))))
        pss_nil)
      (pss_cons (ps_asg (pe_op op_add (pe_ix ix_list (pv 0) pe_int (fun _ _ => rfl)) pe_int) (pg_sub (pv 0) pe_int set_list))
      (pss_cons (ps_set (i := 2) scDrwK.nd rfl (Or.inl rfl) (pe_op op_mod (pe_op op_mul (pe_op op_add (pe_op op_add (pe_ix ix_list (pv 0) pe_int (fun _ _ => rfl)) (pe_op op_mul pe_int (pe_ix ix_list (pv 0) pe_int (fun _ _ => rfl)))) pe_int) pe_int) pe_int))
      (pss_cons (ps_set (i := 2) scDrwK.nd rfl (Or.inl rfl) (pe_op op_mod (pe_op op_mul (pv 2) (pe_op op_add (pe_op op_add (pe_op op_fdiv (pv 2) pe_int) pe_int) (pe_ix ix_list (pv 0) pe_int (fun _ _ => rfl)))) pe_int))
      (pss_one (ps_ret (pe_op op_mod (pe_op op_fdiv (pe_op op_mod (pe_op op_mul (pv 2) (pe_op op_add (pe_op op_fdiv (pv 2) pe_int) pe_int)) pe_int) pe_int) (pv 1))))))), ?_⟩
    refine ⟨_, rfl, _, _, _, _, rfl, rfl, SqL.of hs, rfl, _, _, rfl, rfl, _, rfl, ?_⟩
    refine ite2 (fun _ => ?_) (fun _ => ?_)
    · refine ⟨_, rfl, _, _, _, _, rfl, rfl, SqL.of hs, rfl, _, rfl, _, _, rfl, rfl, hm0, ?_⟩
      refine ⟨_, rfl, _, _, _, _, rfl, rfl, SqL.of hs, rfl, _, rfl, _, _, rfl, rfl, wide_div hm0 (b := 62) (by omega) (by decide) (by decide), ?_⟩
      refine ⟨_, rfl, _, _, _, _, rfl, rfl, hs, rfl, ?_⟩
      refine ⟨_, rfl, ?_⟩
      exact k _ _ (mod_in hm0).1 (mod_in hm0).2 ⟨_, _, _, Int.ediv_nonneg ha (by omega), upd_same⟩ But.upd
    · refine ⟨_, rfl, _, _, _, _, rfl, rfl, SqL.of hs, rfl, _, _, rfl, rfl, ?_⟩
      refine ⟨_, rfl, _, _, _, _, rfl, rfl, hs, rfl, ?_⟩
      have hs' : SqL K (upd H s (.lst [.int a, .int b, .int (c + 1)])) s [.int a, .int b, .int (c + 1)] := SqL.of upd_same
      refine ⟨_, rfl, _, _, _, _, rfl, rfl, hs', rfl, _, rfl, _, _, _, _, rfl, rfl, hs', rfl, _, _, rfl, rfl, .inl ⟨by decide, by decide⟩, _, _, rfl, rfl, _, _, rfl, rfl, _, _, rfl, rfl, .inr ⟨by decide, by decide⟩, _, _, rfl, rfl, (by show (0 : Int) < 2147483629; decide), ?_⟩
      generalize hx : ((b + 40693 * (c + 1) + 7) * 69621 % 2147483629 : Int) = x
      have x0 : 0 ≤ x ∧ x < 2147483629 := by rw [← hx]; exact mod_in (by decide)
      refine ⟨_, rfl, _, rfl, _, _, rfl, rfl, ⟨by decide, by decide⟩, _, _, rfl, rfl, _, rfl, _, _, _, _, rfl, rfl, hs', rfl, _, _, rfl, rfl, _, _, rfl, rfl, .inl ⟨by omega, by omega⟩, _, _, rfl, rfl, (by show (0 : Int) < 2147483579; decide), ?_⟩
      generalize hy : (x * (x / 1021 + 48271 + (c + 1)) % 2147483579 : Int) = y
      have y0 : 0 ≤ y ∧ y < 2147483579 := by rw [← hy]; exact mod_in (by decide)
      refine ⟨_, rfl, _, rfl, _, _, rfl, rfl, ⟨by decide, by decide⟩, _, _, rfl, rfl, _, _, rfl, rfl, .inl ⟨by omega, by omega⟩, _, _, rfl, rfl, (by show (0 : Int) < 2147483563; decide), _, _, rfl, rfl, ⟨by decide, by decide⟩, _, rfl, _, _, rfl, rfl, hm0, ?_⟩
      exact k _ _ (mod_in hm0).1 (mod_in hm0).2 ⟨_, _, _, ha, upd_same⟩ But.upd
abbrev nExp65 : List Str := ["_law_lane_here", "_law_parts", "_law_at", "_law_road", "_law_number", "_law_divisor", "_law_other"]
theorem scExp65 : FnScope nExp65 ["_law_lane_here", "_law_parts", "_law_at"] (defScope sExp65) := ⟨rfl, rfl, rfl, by decide +kernel, rfl, by decide +kernel, by decide +kernel⟩
theorem ok_exp65 {f fF : Addr} {fd fdF : FuncData} (F : Fun K "_law_expected" "_law_expected" sExp65 f fd)
    (FF : FnOk P w K mg base CX0 1 fF fdF ["_law_lane_here", "_law_parts", "_law_at"] spForms) (bF : Binds K fdF ["_law_lane_here", "_law_parts", "_law_at"] []) (mF : mg "_law_forms" = some (.ref fF)) (kF : PySem.W.keepIn K (.ref fF) = true) :
    FnOk P w K mg base CX0 2 f fd ["_law_lane_here", "_law_parts", "_law_at"] spExp65 := by
  refine F.ok scExp65 (fun vs H Q E h => ?_) (fun cdv A outer s0 H vs Q E hr h => ?_)
  · obtain ⟨d, n, tot, S, x, ps, X, u, rfl, _⟩ := h
    rfl
  · obtain ⟨d, n, tot, S, x, ps, X, u, rfl, la, lt, LG, S1, S2, ou, eu, kont⟩ := h
    refine ⟨_, pss_cons (ps_asg (pe_ix ix_list (pe_call FF hr rfl mF kF bF .nil pass0 (pa_cons (pv 0) (pa_cons (pv 1) (pa_cons (pv 2) pa_nil)))) pe_int (fun _ _ => rfl)) (pg_tup rfl (pgs_cons (pg_name (i := 3) scExp65.nd rfl (Or.inl rfl)) (pgs_cons (pg_name (i := 4) scExp65.nd rfl (Or.inl rfl)) pgs_nil))))
      (pss_cons (ps_par (i := 5) (j := 6) rfl scExp65.nd rfl rfl (by decide) rfl rfl (pa_cons (pv 4) (pa_cons (pv 1) pa_nil)) (by rfl))
      (pss_cons (ps_while PassesOwn.never (pt_cmpR op_gt (pv 6) pe_int (nomark _))
        (pss_one (ps_par (i := 5) (j := 6) rfl scExp65.nd rfl rfl (by decide) rfl rfl (pa_cons (pv 6) (pa_cons (pe_op op_mod (pv 5) (pv 6)) pa_nil)) (by rfl))))
      (pss_one (ps_ret (pe_tup (pa_cons (pv 3) (pa_cons (pe_op op_fdiv (pv 4) (pv 5)) (pa_cons (pe_op op_fdiv (pv 1) (pv 5)) pa_nil)))))))), ?_⟩
    obtain ⟨k, i, rest, ef, ek, ok, _⟩ := fm_key lt.G.m LG S1 lt.G.n2 ou
    have i0 := ok.2.1
    refine ⟨_, rfl, _, rfl, _, rfl, d, n, tot, S, x, ps, rfl, la, lt, S1, S2, fun l ts H1 s1 hl el pr => ?_⟩
    have ef' : fms ps S x ps.length = (k, i) :: rest := by
      rw [← eu, ← len_lnF]
      exact ef
    rw [ef'] at pr
    cases pr with
    | cons pt pr =>
    rename_i t ts
    refine ⟨l, _, 0, .ref t, rfl, rfl, SqL.of el, atI_nat (j := 0) rfl, t, _, rfl, SqT.of pt, rfl, _, _, rfl, _, _, rfl, rfl, ?_⟩
    dsimp only [gName]
    refine ⟨_, rfl, _, rfl, _, _, rfl, ?_⟩
    refine ⟨fun m σ G => ∃ x' y' : Int, σ = [some (.ref d), some (.int S), some (.int x), some (.int (k : Nat)), some (.int i), some (.int x'), some (.int y')] ∧ G = H1 ∧ 0 ≤ x' ∧ 0 ≤ y' ∧ gcdI x' y' = gcdI i S ∧ m = y'.toNat, ⟨_, _, _, rfl, rfl, i0, by omega, rfl, rfl⟩, ?_⟩
    rintro m σ G ⟨x', y', rfl, rfl, x0, y0, e, rfl⟩
    refine ⟨_, rfl, _, _, rfl, rfl, _, rfl, ?_⟩
    by_cases h : y' > 0
    · rw [decide_eq_true h]
      refine iteT ⟨fun σ' G' => ∃ x'' y'' : Int, σ' = [some (.ref d), some (.int S), some (.int x), some (.int (k : Nat)), some (.int i), some (.int x''), some (.int y'')] ∧ G' = G ∧ 0 ≤ x'' ∧ 0 ≤ y'' ∧ gcdI x'' y'' = gcdI i S ∧ y''.toNat < y'.toNat, fun σ' G' ⟨x', y', e1, e2, e3, e4, e5, e6⟩ => ⟨_, e6, x', y', e1, e2, e3, e4, e5, rfl⟩, ?_⟩
      have m0 := Int.emod_nonneg x' (show y' ≠ 0 by omega)
      have m1 := Int.emod_lt_of_pos x' h
      exact ⟨_, rfl, _, rfl, _, rfl, _, _, rfl, rfl, h, _, _, rfl, _, _, rfl, rfl, y0, m0, (gcdI_step x0 h).trans e, by omega⟩
    · rw [decide_eq_false h]
      refine iteF ?_
      have e0 : y' = 0 := by omega
      rw [e0, gcdI_zero x0] at e
      have g1 := gcd_pos (a := i) (b := S) S1
      have g2 := gcd_le (i := i) S1
      rw [← e] at g1 g2
      refine ⟨_, rfl, _, rfl, _, rfl, _, _, rfl, rfl, ⟨g1, by omega⟩, _, rfl, _, rfl, _, _, rfl, rfl, ⟨g1, by omega⟩, (by show 3 ≤ sizeLine; decide), fun q hq => ?_⟩
      refine kont q _ (s1.trans (Same.new hq)) (Same.free s1 hq) ?_
      rw [ek]
      show upd _ q _ q = some (.tup [.int ((k : Nat) : Int), .int (i / gcdI i S), .int (S / gcdI i S)])
      rw [e]
      exact upd_same
abbrev nMoved : List Str := ["_law_at", "_law_specs", "_law_parts", "_law_goal", "_law_steps", "_law_gap", "_law_size"]
theorem scMoved : FnScope nMoved ["_law_at", "_law_specs", "_law_parts"] (defScope sMoved65) := ⟨rfl, rfl, rfl, by decide +kernel, rfl, by decide +kernel, by decide +kernel⟩
theorem ok_moved {f : Addr} {fd : FuncData} (F : Fun K "_law_moved" "_law_moved" sMoved65 f fd) (hMin : mg "min" = none) (hAbs : mg "abs" = none) : FnOk P w K mg base CX0 1 f fd ["_law_at", "_law_specs", "_law_parts"] (spMoved K) := by
  refine F.ok scMoved (fun vs H Q E h => ?_) (fun cdv A outer s0 H vs Q E hr h => ?_)
  · obtain ⟨x, S, l, ts, gs, rfl, _⟩ := h
    rfl
  · obtain ⟨x, S, l, ts, gs, rfl, el, gts, S1, S2, kont⟩ := h
    refine ⟨_, pss_cons (ps_for PassesOwn.never rfl (pi_list (pv 1)) (pg_tup rfl (pgs_cons (pg_name (i := 3) scMoved.nd rfl (Or.inl rfl)) (pgs_cons (pg_name (i := 4) scMoved.nd rfl (Or.inl rfl)) pgs_nil)))
        (pss_cons (ps_set (i := 5) scMoved.nd rfl (Or.inl rfl) (pe_op op_sub (pe_op op_mul (pv 3) (pv 2)) (pv 0)))
        (pss_cons (ps_set (i := 6) scMoved.nd rfl (Or.inl rfl) (pe_callB (call_min2 rfl) (by rfl) hMin (by decide +kernel) (pa_cons (pe_callB call_abs (by rfl) hAbs (by decide +kernel) (pa_cons (pv 5) pa_nil)) (pa_cons (pe_op op_mul (pv 4) (pv 2)) pa_nil))))
        (pss_one (ps_set (i := 0) scMoved.nd rfl (Or.inl rfl) (pe_ifExp (pt_cmpR op_gt (pv 5) pe_int (nomark _)) (pe_op op_add (pv 0) (pv 6)) (pe_op op_sub (pv 0) (pv 6))))))))
      (pss_one (ps_ret (pv 0))), ?_⟩
    have S64 : -(2 ^ 64 : Int) < S ∧ S < 2 ^ 64 := ⟨by omega, by omega⟩
    have tl := Paired.length gts
    refine ⟨_, rfl, l, rfl, ⟨_, SqL.of el⟩, for_list (K := K) (a := l) (xs := ts.map V.ref) (fun i σ G => ∃ (v3 v4 v5 v6 : Option V), σ = [some (.int (mvL S (gs.take i) x)), some (.ref l), some (.int S), v3, v4, v5, v6] ∧ G = H)
      ⟨none, none, none, none, rfl, rfl⟩ (fun i σ G _ ⟨_, _, _, _, _, e⟩ => e ▸ SqL.of el) ?_ ?_⟩
    · rintro i y σ G hi ⟨v3, v4, v5, v6, rfl, rfl⟩
      obtain ⟨t, ht, rfl⟩ := map_get hi
      obtain ⟨g, hg, tg⟩ := paired_get gts ht
      refine ⟨t, _, rfl, SqT.of tg, rfl, _, _, rfl, _, _, rfl, rfl, ?_⟩
      dsimp only [gName]
      refine ⟨_, rfl, _, rfl, _, _, rfl, rfl, .inr S64, _, rfl, _, _, rfl, rfl, ?_⟩
      refine ⟨_, rfl, _, rfl, _, rfl, _, rfl, _, _, rfl, rfl, .inr S64, _, _, rfl, ?_⟩
      have em : mvL S (gs.take (i + 1)) x = mvd (mvL S (gs.take i) x) (g.1 * S) (g.2 * S) := by
        rw [take_snoc hg]
        unfold mvL
        rw [List.foldl_append]
        rfl
      generalize mvL S (gs.take i) x = z at em ⊢
      refine ⟨_, rfl, _, _, rfl, rfl, _, rfl, ?_⟩
      by_cases c : g.1 * S - z > 0
      · rw [decide_eq_true c]
        have ez := em
        unfold mvd at ez
        rw [if_pos c] at ez
        refine iteT ⟨_, rfl, _, rfl, _, _, rfl, rfl, ?_⟩
        rw [ez]
        exact ⟨_, _, _, _, rfl, rfl⟩
      · rw [decide_eq_false c]
        have ez := em
        unfold mvd at ez
        rw [if_neg c] at ez
        refine iteF ⟨_, rfl, _, rfl, _, _, rfl, rfl, ?_⟩
        rw [ez]
        exact ⟨_, _, _, _, rfl, rfl⟩
    · rintro σ G ⟨v3, v4, v5, v6, rfl, rfl⟩
      rw [List.length_map, tl, List.take_length]
      exact ⟨_, rfl, kont⟩
end
end OT
set_option Elab.async false
set_option linter.all false
set_option maxRecDepth 100000
set_option maxHeartbeats 4000000
namespace OT
open PySem L2 OTR
abbrev sCoord65 : Stmt := top 59
abbrev sRow65 : Stmt := top 60
theorem LaneAt.but {H H' : Hp} {s d : Addr} {n tot : Int} {ps : List Lp} (h : LaneAt H d n tot ps) (src : Src H s) (b : But s H H') : LaneAt H' d n tot ps := by
  obtain ⟨L, ts, ed, eL, pr⟩ := h
  have kz := kz_but src b
  refine ⟨L, ts, kz _ _ ed .dK, b _ _ eL (src.ne eL fun x y z q => ?_), Paired.mapP pr fun _ _ e => e.kz kz⟩
  have e1 := HO.lst.inj q
  cases ts with
  | nil => exact nomatch e1
  | cons t r =>
    rw [List.map_cons] at e1
    exact nomatch (List.cons.inj e1).1
theorem cd_full {n : Int} {F : List Fact} {st : Nat → Int} {fw : Nat → Bool} {X : Int → Int} {tot S y : Int} (T : TreeM n F) (L : LaneG F st fw X tot) (hS : 1 ≤ S) (ht : 1 ≤ tot) (h0 : 0 ≤ y) (h1 : y ≤ tot * S) : ∃ u, OnT F S u ∧ cdN F st fw X S u = y := by
  have fin : ∀ x, 0 ≤ x → x < tot → x * S ≤ y → y ≤ x * S + S → ∃ u, OnT F S u ∧ cdN F st fw X S u = y := fun x a b c d => by
    obtain ⟨k, i, o, e, _⟩ := cd_ex T L hS a b c d
    exact ⟨_, ⟨k, i, o, rfl⟩, by rw [cd_node L o, e]⟩
  by_cases c : y < tot * S
  · have q1 : y / S * S ≤ y := Int.ediv_mul_le y (by omega)
    have q2 : y < y / S * S + S := by
      have h := Int.lt_ediv_add_one_mul_self y (b := S) (show 0 < S by omega)
      rw [Int.add_mul, Int.one_mul] at h
      exact h
    exact fin _ (Int.ediv_nonneg h0 (by omega)) (Int.ediv_lt_of_lt_mul (by omega) c) q1 (by omega)
  · have e : (tot - 1) * S + S = tot * S := by rw [Int.sub_mul, Int.one_mul]; omega
    exact fin (tot - 1) (by omega) (by omega) (by omega) (by omega)
def spCoord : Sp := fun vs H Q _ => ∃ (s d : Addr) (n tot S : Int) (ps : List Lp), vs = [.ref s, .ref d, .int S] ∧ Src H s ∧ LaneAt H d n tot ps ∧ LaneT n tot ps ∧ 1 ≤ S ∧ S ≤ 1000 ∧ ∀ x H', 0 ≤ x → x ≤ tot * S → Src H' s → But s H H' → Q (.int x) H'
/-- a drawn march: its goal's coordinate and its steps -/
def RowR (ps : List Lp) (g : Int × Int) (x : MG) : Prop := MgOk (lnF ps) x ∧ cdP (lnF ps) (lpSt ps) (lpFw ps) 1 x.1 x.2.1 = g.1 ∧ g.2 = x.2.2
def spRow65 (CM CP : Addr) : Sp := fun vs H Q _ => ∃ (s d : Addr) (n tot : Int) (ps : List Lp), vs = [.ref s, .ref d] ∧ Src H s ∧ LaneAt H d n tot ps ∧ LaneT n tot ps ∧
  ∀ t l1 l2 us gs ms xs H', H t = none → H' t = some (.tup [.ref l1, .ref l2]) → H l1 = none → H' l1 = some (.lst (us.map V.ref)) → Paired (GsAt H') us gs → H l2 = none → H' l2 = some (.lst (ms.map V.ref)) → MasAt CM CP H' ms (xs.map mf) → Paired (RowR ps) gs xs → gs.length ≤ 4 → Src H' s → But s H H' → Q (.ref t) H'
section
variable {P : Program} {w : World} {K : PySem.W.Frag} {mg : Str → Option Value} {base : Heap}
abbrev nCoord : List Str := ["_law_source_here", "_law_lane_here", "_law_parts", "_law_total", "_law_start", "_law_length", "_law_forward", "_law_ends", "_law_crossing", "_law_options"]
theorem scCoord : FnScope nCoord ["_law_source_here", "_law_lane_here", "_law_parts"] (defScope sCoord65) := ⟨rfl, rfl, rfl, by decide +kernel, rfl, by decide +kernel, by decide +kernel⟩
theorem ok_coord {f fD fC : Addr} {fd fdD fdC : FuncData} (F : Fun K "_law_coordinate" "_law_coordinate" sCoord65 f fd)
    (FD : FnOk P w K mg base CX0 1 fD fdD ["_law_source_here", "_law_bound"] spDrwW) (bD : Binds K fdD ["_law_source_here", "_law_bound"] []) (mD : mg "_law_draw" = some (.ref fD)) (kD : PySem.W.keepIn K (.ref fD) = true)
    (FC : FnOk P w K mg base CX0 2 fC fdC ["_law_source_here", "_law_items"] (spPick K)) (bC : Binds K fdC ["_law_source_here", "_law_items"] []) (mC : mg "_law_choice" = some (.ref fC)) (kC : PySem.W.keepIn K (.ref fC) = true)
    (hMax : mg "max" = none) (hMin : mg "min" = none) : FnOk P w K mg base CX0 3 f fd ["_law_source_here", "_law_lane_here", "_law_parts"] spCoord := by
  refine F.ok scCoord (fun vs H Q E h => ?_) (fun cdv A outer s0 H vs Q E hr h => ?_)
  · obtain ⟨s, d, n, tot, S, ps, rfl, _⟩ := h
    rfl
  · obtain ⟨s, d, n, tot, S, ps, rfl, hs, la, lt, S1, S2, kont⟩ := h
    have hu := hu_of hr
    have hr1 : Room 1 _ := hr.mono (by decide)
    have hr2 : Room 2 _ := hr.mono (by decide)
    refine ⟨_, pss_cons (ps_set (i := 3) scCoord.nd rfl (Or.inl rfl) (pe_op op_mul (pe_dget hu (pv 1) pe_str (fun _ _ => rfl)) (pv 2)))
      (pss_cons (ps_asg (pe_call FC hr2 rfl mC kC bC .nil pass0 (pa_cons (pv 0) (pa_cons (pe_dget hu (pv 1) pe_str (fun _ _ => rfl)) pa_nil))) (pg_tup rfl (pgs_cons (pg_name (i := 4) scCoord.nd rfl (Or.inl rfl)) (pgs_cons (pg_name (i := 5) scCoord.nd rfl (Or.inl rfl)) (pgs_cons (pg_name (i := 6) scCoord.nd rfl (Or.inl rfl)) (pgs_cons (pg_name (i := 7) scCoord.nd rfl (Or.inl rfl)) pgs_nil))))))
      (pss_cons (ps_set (i := 8) scCoord.nd rfl (Or.inl rfl) (pe_op op_mul (pe_call FC hr2 rfl mC kC bC .nil pass0 (pa_cons (pv 0) (pa_cons (pe_lst (pa_cons (pv 4) (pa_cons (pe_op op_add (pv 4) (pv 5)) pa_nil))) pa_nil))) (pv 2)))
      (pss_cons (ps_set (i := 9) scCoord.nd rfl (Or.inl rfl) (pe_lst (pa_cons (pv 8) (pa_cons (pe_op op_add (pv 8) pe_int) (pa_cons (pe_op op_sub (pv 8) pe_int) (pa_cons (pe_call FD hr1 rfl mD kD bD .nil pass0 (pa_cons (pv 0) (pa_cons (pe_op op_add (pv 3) pe_int) pa_nil))) pa_nil))))))
      (pss_one (ps_ret (pe_callB (call_max2 rfl) (by rfl) hMax (by decide +kernel) (pa_cons pe_int (pa_cons (pe_callB (call_min2 rfl) (by rfl) hMin (by decide +kernel) (pa_cons (pv 3) (pa_cons (pe_call FC hr2 rfl mC kC bC .nil pass0 (pa_cons (pv 0) (pa_cons (pv 9) pa_nil))) pa_nil))) pa_nil)))))))), ?_⟩
    have S64 : -(2 ^ 64 : Int) < S ∧ S < 2 ^ 64 := ⟨by omega, by omega⟩
    obtain ⟨L, ts, ed, eL, htp⟩ := id la
    have tl : (ts.map V.ref).length = ps.length := by rw [List.length_map]; exact Paired.length htp
    have p0 := lt.p0
    have p8 := lt.p8
    have t1 := lt.t1
    have t9 := lt.t9
    have m0 : 0 ≤ tot * S := Int.mul_nonneg (by omega) (by omega)
    have m9 : tot * S ≤ 8000000000 * 1000 := Int.mul_le_mul t9 S2 (by omega) (by omega)
    have nL : L ≠ s := hs.ne eL fun x y z q => by
      have e1 := HO.lst.inj q
      cases ts with
      | nil => exact nomatch e1
      | cons t r =>
        rw [List.map_cons] at e1
        exact nomatch (List.cons.inj e1).1
    -- total = lane['total'] * parts
    refine ⟨_, rfl, d, _, rfl, get_lt ed, _, rfl, _, _, rfl, rfl, .inr S64, ?_⟩
    -- start, length, forward, ends = choice(source, lane['pieces'])
    refine ⟨_, rfl, _, rfl, d, _, rfl, get_lp ed, s, L, _, rfl, hs, nL, SqL.of eL, by rw [tl]; exact p0, by rw [tl]; omega, fun v H1 hv sg1 bg1 => ?_⟩
    obtain ⟨t, ht, rfl⟩ := List.mem_map.mp hv
    obtain ⟨j, hj⟩ := List.getElem?_of_mem ht
    obtain ⟨p, hp, e, e1, e2⟩ := paired_get htp hj
    have e1' := bg1 _ _ e1 (hs.ne e1 fun _ _ _ z => nomatch z)
    obtain ⟨l1, l2, l3, l4⟩ := lt.ln p (List.mem_of_getElem? hp)
    refine ⟨t, _, rfl, SqT.of e1', rfl, _, _, rfl, _, _, rfl, _, _, rfl, _, _, rfl, rfl, ?_⟩
    dsimp only [gName]
    -- crossing = choice(source, [start, start + length]) * parts
    refine ⟨_, rfl, _, rfl, _, rfl, _, rfl, _, _, rfl, rfl, (by show 2 ≤ sizeLine; decide), fun q hq => ?_⟩
    refine ⟨s, q, _, rfl, sg1.same (Same.new hq), sg1.new hq, SqL.of upd_same, (by show 0 < 2; decide), (by show 2 < 1000000; decide), fun v H2 hv2 sg2 bg2 => ?_⟩
    obtain ⟨c, rfl⟩ : ∃ c : Int, v = .int c := by
      rcases List.mem_cons.mp hv2 with z | hv2
      · exact ⟨_, z⟩
      · exact ⟨_, List.mem_singleton.mp hv2⟩
    refine ⟨_, rfl, _, _, rfl, rfl, .inr S64, ?_⟩
    have b2 : But s H H2 := fun b o eb nb => bg2 b o (Same.new hq b o (bg1 b o eb nb)) nb
    -- options = [crossing, crossing + 1, crossing - 1, draw(source, total + 1)]
    refine ⟨_, rfl, _, rfl, _, _, rfl, rfl, _, rfl, _, _, rfl, rfl, ?_⟩
    refine ⟨_, rfl, _, rfl, _, _, rfl, rfl, s, _, rfl, sg2, by omega, by omega, fun r H3 r0 r1 sg3 bg3 => ⟨(by show 4 ≤ sizeLine; decide), fun q4 hq4 => ?_⟩⟩
    have s4 := Same.new (o := .lst [.int (c * S), .int (c * S + 1), .int (c * S - 1), .int r]) hq4
    -- max(0, min(total, choice(source, options)))
    refine ⟨_, rfl, _, rfl, _, rfl, s, q4, _, rfl, sg3.same s4, sg3.new hq4, SqL.of upd_same, (by show 0 < 4; decide), (by show 4 < 1000000; decide), fun v H5 hv5 sg5 bg5 => ?_⟩
    obtain ⟨z, rfl⟩ : ∃ z : Int, v = .int z := by
      rcases List.mem_cons.mp hv5 with e | hv5
      · exact ⟨_, e⟩
      · rcases List.mem_cons.mp hv5 with e | hv5
        · exact ⟨_, e⟩
        · rcases List.mem_cons.mp hv5 with e | hv5
          · exact ⟨_, e⟩
          · exact ⟨_, List.mem_singleton.mp hv5⟩
    have b5 : But s H H5 := fun b o eb nb => bg5 b o (s4 b o (bg3 b o (b2 b o eb nb) nb)) nb
    refine ⟨_, _, rfl, _, _, rfl, kont _ H5 ?_ ?_ sg5 b5⟩
    · split <;> (split <;> omega)
    · split <;> (split <;> omega)
abbrev nRow65 : List Str := ["_law_source_here", "_law_lane_here", "_law_specs", "_law_marches", "_law_index", "_law_goal", "_law_steps", "_law_road", "_law_number"]
theorem scRow65 : FnScope nRow65 ["_law_source_here", "_law_lane_here"] (defScope sRow65) := ⟨rfl, rfl, rfl, by decide +kernel, rfl, by decide +kernel, by decide +kernel⟩
theorem ok_row65 {f fD fC fCo fF fMa fPl CM CP CB : Addr} {fd fdD fdC fdCo fdF fdMa fdPl : FuncData} (F : Fun K "_law_row" "_law_row" sRow65 f fd)
    (FD : FnOk P w K mg base CX0 1 fD fdD ["_law_source_here", "_law_bound"] spDraw) (bD : Binds K fdD ["_law_source_here", "_law_bound"] []) (mD : mg "_law_draw" = some (.ref fD)) (kD : PySem.W.keepIn K (.ref fD) = true)
    (FC : FnOk P w K mg base CX0 2 fC fdC ["_law_source_here", "_law_items"] (spPick K)) (bC : Binds K fdC ["_law_source_here", "_law_items"] []) (mC : mg "_law_choice" = some (.ref fC)) (kC : PySem.W.keepIn K (.ref fC) = true)
    (FCo : FnOk P w K mg base CX0 3 fCo fdCo ["_law_source_here", "_law_lane_here", "_law_parts"] spCoord) (bCo : Binds K fdCo ["_law_source_here", "_law_lane_here", "_law_parts"] []) (mCo : mg "_law_coordinate" = some (.ref fCo)) (kCo : PySem.W.keepIn K (.ref fCo) = true)
    (FF : FnOk P w K mg base CX0 1 fF fdF ["_law_lane_here", "_law_parts", "_law_at"] spForms) (bF : Binds K fdF ["_law_lane_here", "_law_parts", "_law_at"] []) (mF : mg "_law_forms" = some (.ref fF)) (kF : PySem.W.keepIn K (.ref fF) = true)
    (TM : MaT K mg CM) (TP : PlT K mg CP) (MM : Mk K CM fMa) (MP : Mk K CP fPl) (FMa : FnOk P w K mg base CX0 1 fMa fdMa ["self", "goal", "steps"] (spMarchI CM)) (bMa : Binds K fdMa ["self", "goal", "steps"] [])
    (FPl : FnOk P w K mg base (L2.CX P w) 3 fPl fdPl ["self", "road", "number", "parts"] (spPlaceI CP CB)) (bPl : Binds K fdPl ["self", "road", "number", "parts"] [])
    (hRg : mg "range" = none) : FnOk P w K mg base CX0 5 f fd ["_law_source_here", "_law_lane_here"] (spRow65 CM CP) := by
  refine F.ok scRow65 (fun vs H Q E h => ?_) (fun cdv A outer s0 H vs Q E hr h => ?_)
  · obtain ⟨s, d, n, tot, ps, rfl, _⟩ := h
    rfl
  · obtain ⟨s, d, n, tot, ps, rfl, hs, la, lt, kont⟩ := h
    have hr1 : Room 1 _ := hr.mono (by decide)
    have hr2 : Room 2 _ := hr.mono (by decide)
    have hr3 : Room 3 _ := hr.mono (by decide)
    have hr4 : Room 4 _ := hr.mono (by decide)
    refine ⟨_, pss_cons (ps_set (i := 2) scRow65.nd rfl (Or.inl rfl) (pe_lst pa_nil))
      (pss_cons (ps_set (i := 3) scRow65.nd rfl (Or.inl rfl) (pe_lst pa_nil))
      (pss_cons (ps_for PassesOwn.never rfl (pi_range1 (by rfl) hRg (pa_cons (pe_call FD hr1 rfl mD kD bD .nil pass0 (pa_cons (pv 0) (pa_cons pe_int pa_nil))) pa_nil)) (pg_name (i := 4) scRow65.nd rfl (Or.inl rfl))
        (pss_cons (ps_set (i := 5) scRow65.nd rfl (Or.inl rfl) (pe_call FCo hr3 rfl mCo kCo bCo .nil pass0 (pa_cons (pv 0) (pa_cons (pv 1) (pa_cons pe_int pa_nil)))))
        (pss_cons (ps_set (i := 6) scRow65.nd rfl (Or.inl rfl) (pe_call FC hr2 rfl mC kC bC .nil pass0 (pa_cons (pv 0) (pa_cons (pe_lst (pa_cons pe_int (pa_cons (pe_op op_add pe_int (pe_call FD hr1 rfl mD kD bD .nil pass0 (pa_cons (pv 0) (pa_cons pe_int pa_nil)))) (pa_cons (pe_op op_add pe_int (pe_call FD hr1 rfl mD kD bD .nil pass0 (pa_cons (pv 0) (pa_cons (pe_op op_pow pe_int pe_int) pa_nil)))) (pa_cons (pe_op op_pow pe_int pe_int) pa_nil))))) pa_nil))))
        (pss_cons (ps_asg (pe_call FC hr2 rfl mC kC bC .nil pass0 (pa_cons (pv 0) (pa_cons (pe_call FF hr1 rfl mF kF bF .nil pass0 (pa_cons (pv 1) (pa_cons pe_int (pa_cons (pv 5) pa_nil)))) pa_nil))) (pg_tup rfl (pgs_cons (pg_name (i := 7) scRow65.nd rfl (Or.inl rfl)) (pgs_cons (pg_name (i := 8) scRow65.nd rfl (Or.inl rfl)) pgs_nil))))
        (pss_cons (ps_expr (pe_bm PySem.F.plainAttrs_list PySem.F.slot_list_append PySem.F.type_list_append mt_append (pv 2) (pa_cons (pe_tup (pa_cons (pv 5) (pa_cons (pv 6) pa_nil))) pa_nil)))
        (pss_one (ps_expr (pe_bm PySem.F.plainAttrs_list PySem.F.slot_list_append PySem.F.type_list_append mt_append (pv 3) (pa_cons (pe_make MM FMa hr2 (by rfl) TM.mgC bMa .nil pass0 (pa_cons (pe_make MP FPl hr4 (by rfl) TP.mgC bPl .nil passF (pa_cons (pv 7) (pa_cons (pv 8) (pa_cons pe_int pa_nil)))) (pa_cons (pv 6) pa_nil))) pa_nil)))))))))
      (pss_one (ps_ret (pe_tup (pa_cons (pv 2) (pa_cons (pv 3) pa_nil))))))), ?_⟩
    obtain ⟨X, LG⟩ := lt.L
    -- specs = [], marches = []
    refine ⟨Nat.zero_le _, fun l1 hl1 => ⟨Nat.zero_le _, fun l2 hl2 => ?_⟩⟩
    have s1 := Same.new (o := .lst []) hl1
    have s2 := Same.new (o := .lst []) hl2
    have e1 := s2 _ _ (upd_same (H := H) (a := l1) (o := .lst []))
    have e2 := upd_same (H := upd H l1 (.lst [])) (a := l2) (o := .lst [])
    have hl2H := Same.free s1 hl2
    have n12 : l1 ≠ l2 := fun z => by
      rw [← z, upd_same] at hl2
      cases hl2
    have s12 := s1.trans s2
    have n1s : l1 ≠ s := hs.new hl1
    have n2s : l2 ≠ s := hs.new hl2H
    generalize upd (upd H l1 (.lst [])) l2 (.lst []) = H2 at e1 e2 s12 ⊢
    -- for index in range(draw(source, 5))
    refine ⟨_, rfl, s, 5, rfl, hs.same s12, by decide, by decide, fun c H3 c0 c5 sg3 bg3 => ⟨c, rfl, by omega, by omega, ?_⟩⟩
    refine for_range (lo := 0) (n := c.toNat) (fun i σ G => ∃ (v4 v5 v6 v7 v8 : Option V) (us ms : List Addr) (gs : List (Int × Int)) (xs : List MG), σ = [some (.ref s), some (.ref d), some (.ref l1), some (.ref l2), v4, v5, v6, v7, v8] ∧ Src G s ∧ But s H G ∧ G l1 = some (.lst (us.map V.ref)) ∧ Paired (GsAt G) us gs ∧ G l2 = some (.lst (ms.map V.ref)) ∧ MasAt CM CP G ms (xs.map mf) ∧ Paired (RowR ps) gs xs ∧ gs.length = i)
      ⟨none, none, none, none, none, [], [], [], [], rfl, sg3, fun b o e nb => bg3 b o (s12 b o e) nb, bg3 _ _ e1 n1s, .nil, bg3 _ _ e2 n2s, .nil, .nil, rfl⟩ ?_ ?_
    · rintro i σ G hi ⟨v4, v5, v6, v7, v8, us, ms, gs, xs, rfl, sg, bg, g1, pr1, g2, pr2, rr, gl⟩
      have u1 := Paired.length pr1
      have u2 := Paired.length pr2
      have u3 := Paired.length rr
      rw [List.length_map] at u2
      -- goal = coordinate(source, lane, 1)
      refine ⟨_, rfl, _, rfl, s, d, n, tot, 1, ps, rfl, sg, la.but hs bg, lt, by decide, by decide, fun goal G1 gl0 gl1 sg1 bg1 => ?_⟩
      -- steps = choice(..)
      refine ⟨_, rfl, _, rfl, s, 9, rfl, sg1, by decide, by decide, fun d5 G4 d50 d51 sg4 bg4 => ⟨_, _, rfl, rfl, ?_⟩⟩
      refine ⟨_, rfl, _, _, rfl, rfl, ⟨by decide, by decide, by decide⟩, s, (10 : Int) ^ (9 : Int).toNat, rfl, sg4, by decide, by decide, fun d6 G5 d60 d61 sg5 bg5 => ⟨_, _, rfl, rfl, _, _, rfl, rfl, ⟨by decide, by decide, by decide⟩, ?_⟩⟩
      have e9 : (10 : Int) ^ (9 : Int).toNat = 1000000000 := by decide
      have d62 : d6 < 1000000000 := by
        rw [e9] at d61
        exact d61
      refine ⟨(by show 4 ≤ sizeLine; decide), fun pl2 hpl2 => ?_⟩
      have s5 : Same G5 (upd G5 pl2 (.lst [.int 1, .int (1 + d5), .int (1 + d6), .int 1000000000])) := Same.new hpl2
      refine ⟨s, pl2, _, rfl, sg5.same s5, sg5.new hpl2, SqL.of upd_same, (by show 0 < 4; decide), (by show 4 < 1000000; decide), fun v G6 hv sg6 bg6 => ?_⟩
      obtain ⟨z, rfl, z1, z2⟩ : ∃ z : Int, v = V.int z ∧ 1 ≤ z ∧ z ≤ 1000000000 := by
        rcases List.mem_cons.mp hv with rfl | hv
        · exact ⟨1, rfl, by decide, by decide⟩
        · rcases List.mem_cons.mp hv with rfl | hv
          · exact ⟨_, rfl, by omega, by omega⟩
          · rcases List.mem_cons.mp hv with rfl | hv
            · exact ⟨_, rfl, by omega, by omega⟩
            · rw [List.mem_singleton.mp hv]
              exact ⟨_, rfl, by omega, by omega⟩
      have b06 : But s G G6 := fun b o e nb => bg6 b o (s5 b o (bg5 b o (bg4 b o (bg1 b o e nb) nb) nb)) nb
      clear hv s5 bg6 bg5 bg4 sg5 sg4 hpl2
      -- road, number = choice(source, forms(lane, 1, goal))
      refine ⟨_, rfl, _, rfl, _, rfl, d, n, tot, 1, goal, ps, rfl, la.but hs (bg.trans b06), lt, by decide, by decide, fun l ts G7 s7 hl el pr => ?_⟩
      obtain ⟨u, ou, eu⟩ := cd_full lt.G.m LG (S := 1) (y := goal) (by decide) lt.t1 gl0 gl1
      obtain ⟨k0, i0, rest, ef, _⟩ := fm_key lt.G.m LG (S := 1) (by decide) lt.G.n2 ou
      have sg7 := sg6.same s7
      have hl0 : 0 < (ts.map V.ref).length := by
        rw [List.length_map, Paired.length pr]
        unfold fms
        rw [← eu, ← len_lnF, ef]
        exact Nat.succ_pos _
      have hl8 : (ts.map V.ref).length < 1000000 := by
        rw [List.length_map, Paired.length pr]
        have : ∀ m, (fms ps 1 goal m).length ≤ m := fun m => by
          induction m with
          | zero => exact Nat.le_refl _
          | succ m ih =>
            unfold fms at ih ⊢
            unfold fmL
            rw [List.length_append]
            split
            · show _ + 1 ≤ _; omega
            · show _ + 0 ≤ _; omega
        have := this ps.length
        have := lt.p8
        omega
      refine ⟨s, l, _, rfl, sg7, sg6.new hl, SqL.of el, hl0, hl8, fun v G8 hv sg8 bg8 => ?_⟩
      obtain ⟨t, ht, rfl⟩ := List.mem_map.mp hv
      obtain ⟨j, hj⟩ := List.getElem?_of_mem ht
      obtain ⟨⟨k, i'⟩, hki, pt⟩ := paired_get pr hj
      have mem := List.mem_of_getElem? hki
      obtain ⟨on, ecd⟩ := fm_on (F := lnF ps) (st := lpSt ps) (fw := lpFw ps) (S := 1) (x := goal) (m := ps.length) (Nat.le_of_eq (len_lnF ps).symm) mem
      have pt8 : G8 t = some (.tup [.int (k : Nat), .int i']) := bg8 _ _ pt (sg7.ne pt fun _ _ _ z => nomatch z)
      refine ⟨t, _, rfl, SqT.of pt8, rfl, _, _, rfl, _, _, rfl, rfl, ?_⟩
      dsimp only [gName]
      have b08 : But s G G8 := (b06.same s7).trans bg8
      have kz8 : Kz G G8 := kz_but sg b08
      have g18 := b08 _ _ g1 n1s
      have g28 := b08 _ _ g2 n2s
      -- specs.append((goal, steps))
      refine ⟨_, rfl, .inl ⟨rfl, _, SqL.of g18⟩, _, rfl, _, rfl, (by show 2 ≤ sizeLine; decide), fun pt2 hpt2 => ?_⟩
      have s9 := Same.new (o := .tup [.int goal, .int z]) hpt2
      have e9' := upd_same (H := G8) (a := pt2) (o := .tup [.int goal, .int z])
      generalize upd G8 pt2 (.tup [.int goal, .int z]) = G9 at s9 e9' ⊢
      have g19 := s9 _ _ g18
      refine ⟨l1, us.map V.ref, .ref pt2, rfl, rfl, g19, small1000 (by rw [List.length_map]; omega), ?_⟩
      have kzA : Kz G9 (upd G9 l1 (.lst (us.map V.ref ++ [V.ref pt2]))) := .put g19
      have g2A : upd G9 l1 (.lst (us.map V.ref ++ [V.ref pt2])) l2 = some (.lst (ms.map V.ref)) := (upd_ne n12.symm).trans (s9 _ _ g28)
      have g1A : upd G9 l1 (.lst (us.map V.ref ++ [V.ref pt2])) l1 = some (.lst ((us ++ [pt2]).map V.ref)) := by rw [List.map_append]; exact upd_same
      have sgA : Src (upd G9 l1 (.lst (us.map V.ref ++ [V.ref pt2]))) s := (sg8.same s9).upd n1s
      have bA : But s H (upd G9 l1 (.lst (us.map V.ref ++ [V.ref pt2]))) := ((bg.trans b08).same s9).put hl1
      have kz0A : Kz G (upd G9 l1 (.lst (us.map V.ref ++ [V.ref pt2]))) := (kz8.trans (.of s9)).trans kzA
      have eA := kzA _ _ e9' .tup
      generalize upd G9 l1 (.lst (us.map V.ref ++ [V.ref pt2])) = GA at g1A g2A sgA bA kz0A eA ⊢
      -- marches.append(March(Place(road, number, 1), steps))
      refine ⟨_, rfl, .inl ⟨rfl, _, SqL.of g2A⟩, _, rfl, _, rfl, fun x dx nx ndx nex => ⟨x, dx, ((k : Int), i', 1), rfl, upd_same, fun q => absurd q (by show ¬ (1 : Int) < 1; omega), fun _ => ⟨(by show (1 : Int).natAbs.log2 < 9000; decide), fun GB px keep => ⟨rfl, _, rfl, fun x2 dx2 nx2 ndx2 nex2 => ⟨x2, dx2, x, z, rfl, upd_same, fun GC mx keep2 => ⟨rfl, ?_⟩⟩⟩⟩⟩⟩
      have sAC : Same GA GC := (made_same nx ndx keep).trans (made_same nx2 ndx2 keep2)
      have ma : MaAt CM CP GC x2 (mf (k, i', z)) := ⟨x, mx, px.same (made_same nx2 ndx2 keep2)⟩
      have g2C := sAC _ _ g2A
      refine ⟨l2, ms.map V.ref, .ref x2, rfl, rfl, g2C, small1000 (by rw [List.length_map]; omega), ?_⟩
      have kzC : Kz GC (upd GC l2 (.lst (ms.map V.ref ++ [V.ref x2]))) := .put g2C
      have kzAll : Kz G (upd GC l2 (.lst (ms.map V.ref ++ [V.ref x2]))) := (kz0A.trans (.of sAC)).trans kzC
      have er : (rd (lnF ps) k).2.2 * 1 = (rd (lnF ps) k).2.2 := Int.mul_one _
      have mgo : MgOk (lnF ps) (k, i', z) := ⟨on.1, on.2.1, by have := on.2.2; unfold sz at this; rw [er] at this; exact this, z1, z2⟩
      refine ⟨_, _, _, _, _, us ++ [pt2], ms ++ [x2], gs ++ [(goal, z)], xs ++ [(k, i', z)], rfl, (sgA.same sAC).upd n2s, ((bA.same sAC)).put hl2H, (upd_ne n12).trans (sAC _ _ g1A), paired_snoc (Paired.mapP pr1 fun u g (a : GsAt G u g) => (show GsAt _ u g from kzAll _ _ a .tup)) ?_, by rw [List.map_append]; exact upd_same, ?_, paired_snoc rr ⟨mgo, ecd, rfl⟩, by rw [List.length_append, gl]; rfl⟩
      · exact kzC _ _ (sAC _ _ eA) .tup
      · rw [List.map_append]
        have m1 : MasAt CM CP GC [x2] ([((k, i', z) : MG)].map mf) := .cons ma .nil
        exact paired_snoc (pr2.kz kzAll) (by cases m1.kz kzC with | cons a _ => exact a)
    · rintro σ G ⟨v4, v5, v6, v7, v8, us, ms, gs, xs, rfl, sg, bg, g1, pr1, g2, pr2, rr, gl⟩
      refine ⟨_, rfl, _, rfl, (by show 2 ≤ sizeLine; decide), fun q hq => ?_⟩
      have s9 := Same.new (o := .tup [.ref l1, .ref l2]) hq
      exact kont q l1 l2 us gs ms xs _ (Src.fresh bg sg hq) upd_same hl1 (s9 _ _ g1) (Paired.mapP pr1 fun u g (a : GsAt G u g) => (show GsAt _ u g from s9 _ _ a)) hl2H (s9 _ _ g2) (MasAt.same pr2 s9) rr (by omega) (sg.same s9) (bg.same s9)
end
end OT
set_option Elab.async false
set_option linter.all false
set_option maxRecDepth 100000
set_option maxHeartbeats 4000000
namespace OT
open PySem L2 OTR
abbrev sStands65 : Stmt := top 62
theorem cdP_mul {F : List Fact} {st : Nat → Int} {fw : Nat → Bool} {S : Int} {k : Nat} {i : Int} : cdP F st fw S k (i * S) = cdP F st fw 1 k i * S := by
  unfold cdP sz
  cases fw k
  · rw [if_neg Bool.false_ne_true, if_neg Bool.false_ne_true, Int.mul_one, Int.mul_one, Int.add_mul, Int.sub_mul]
  · rw [if_pos rfl, if_pos rfl, Int.mul_one, Int.add_mul]
/-- a row on the lane -/
theorem goL_mv {n tot S : Int} {ps : List Lp} {X : Int → Int} (T : TreeM n (lnF ps)) (L : LaneG (lnF ps) (lpSt ps) (lpFw ps) X tot) (hS : 1 ≤ S) : ∀ {gs : List (Int × Int)} {xs : List MG}, Paired (RowR ps) gs xs → ∀ {u v : Nd}, OnT (lnF ps) S u → GoL (lnF ps) S xs u v → cX ps X S v = mvL S gs (cX ps X S u)
  | _, _, .nil, u, v, _, h => by
    cases (show u = v from h)
    rfl
  | g :: gs, x :: xs, .cons r rr, u, v, ou, h => by
    obtain ⟨w, h1, h2⟩ := h
    obtain ⟨ok, ec, es⟩ := r
    have on := ok.on hS
    have m0 := ok.m0 hS
    have e := cd_go T L hS on m0 h1
    rw [cd_node L on, cdP_mul, ec, ← es] at e
    have ow := Go.on T hS on m0 h1
    rw [goL_mv T L hS rr ow h2]
    show mvL S gs (cX ps X S w) = mvL S gs (mvd (cX ps X S u) (g.1 * S) (g.2 * S))
    rw [show cX ps X S w = _ from e]
    rfl
/-- two lists of the same three numbers each -/
theorem tups_eq {K : PySem.W.Frag} {H : Hp} {x y : Addr} {us vs : List Addr} {ks : List Fact} (hx : H x = some (.lst (us.map V.ref))) (hy : H y = some (.lst (vs.map V.ref))) (pu : Paired (TupAt H) us ks) (pw : Paired (TupAt H) vs ks) : Dcv (RLst (ROr (RTup K RFV))) (.ref x) (.ref y) true H := by
  obtain ⟨b, hb, ad⟩ := allD_of (H := H) (R := ROr (RTup K RFV)) (E := Eq) (fun v a u c ⟨t, hv, ta⟩ ⟨t', hu, ta'⟩ => by
    subst hv hu
    refine ⟨eqV (.int a.1) (.int c.1) && (eqV (.int a.2.1) (.int c.2.1) && (eqV (.int a.2.2) (.int c.2.2) && true)), ?_, Dcv.ror (fun H1 s => .tup (s _ _ ta)) (fun H1 s => .tup (s _ _ ta')) (fun q => ?_) (Dcv.tup (SqT.of ta) (SqT.of ta') ⟨_, _, Dcv.flat rfl rfl, ⟨_, _, Dcv.flat rfl rfl, ⟨_, _, Dcv.flat rfl rfl, rfl, rfl⟩, rfl⟩, rfl⟩)⟩
    · rw [Bool.and_eq_true, Bool.and_eq_true, Bool.and_true, eqV_int, eqV_int, eqV_int]
      exact ⟨fun ⟨a, b, c⟩ => Prod.ext a (Prod.ext b c), fun q => by rw [q]; exact ⟨rfl, rfl, rfl⟩⟩
    · subst q
      have ta0 : H t = some (.tup [.int a.1, .int a.2.1, .int a.2.2]) := ta
      have ta1 : H t = some (.tup [.int c.1, .int c.2.1, .int c.2.2]) := ta'
      rw [ta0] at ta1
      injection ta1 with q1
      injection q1 with q2
      injection q2 with q3 q4
      injection q4 with q5 q6
      injection q6 with q7 _
      rw [V.int.inj q3, V.int.inj q5, V.int.inj q7]
      simp [eqV]) (paired_refs pu) (paired_refs pw)
  have eb : b = true := hb.mpr (paired_self.mpr fun p _ => rfl)
  subst eb
  exact Dcv.lst hx hy ad
def spStands (K : PySem.W.Frag) (CT CR CM CP CW CBk : Addr) : Sp := fun vs H Q _ => ∃ (b P d fl : Addr) (n tot S : Int) (ps : List Lp) (X : Int → Int) (av : List Addr) (st : BSt) (hist : List BSt), vs = [.ref b, .ref d, .int S, .ref fl] ∧ BookAt K CT CR CM CP CW CBk n (lnF ps) S av H b P st hist ∧ LaneAt H d n tot ps ∧ LaneT n tot ps ∧ LaneG (lnF ps) (lpSt ps) (lpFw ps) X tot ∧
  H fl = some (.lst ((st.folk.map (cX ps X S)).map V.int)) ∧ ∀ H', Same H H' → Q (.bl true) H'
section
variable {P : Program} {w : World} {K : PySem.W.Frag} {mg : Str → Option Value} {base : Heap}
abbrev nStands : List Str := ["_law_book", "_law_lane_here", "_law_parts", "_law_folk", "_law_places", "_law_place", "_law_at"]
theorem scStands : FnScope nStands ["_law_book", "_law_lane_here", "_law_parts", "_law_folk"] (defScope sStands65) := ⟨rfl, rfl, rfl, by decide +kernel, rfl, by decide +kernel, by decide +kernel⟩
theorem ok_stands {f fEx fWh CT CR CM CP CW CBk : Addr} {fd fdEx fdWh : FuncData} (F0 : Fun K "_law_stands" "_law_stands" sStands65 f fd) (T : BkT K mg CBk) (TP : PlT K mg CP)
    (FEx : FnOk P w K mg base CX0 2 fEx fdEx ["_law_lane_here", "_law_parts", "_law_at"] spExp65) (bEx : Binds K fdEx ["_law_lane_here", "_law_parts", "_law_at"] []) (mEx : mg "_law_expected" = some (.ref fEx)) (kEx : PySem.W.keepIn K (.ref fEx) = true)
    (hWh : Meth K CBk "where" fWh) (FWh : FnOk P w K mg base CX0 1 fWh fdWh ["self"] (spBkWhere K CT CR CM CP CW CBk)) (bWh : Binds K fdWh ["self"] []) :
    FnOk P w K mg base CX0 4 f fd ["_law_book", "_law_lane_here", "_law_parts", "_law_folk"] (spStands K CT CR CM CP CW CBk) := by
  refine F0.ok scStands (fun vs H Q E h => ?_) (fun cdv A outer s0 H vs Q E hr h => ?_)
  · obtain ⟨b, PP, d, fl, n, tot, S, ps, X, av, st, hist, rfl, _⟩ := h
    rfl
  · obtain ⟨b, PP, d, fl, n, tot, S, lps, X, av, st, hist, rfl, BK, la, lt, LG, efl, kont⟩ := h
    have hr1 : Room 1 _ := hr.mono (by decide)
    have hr2 : Room 2 _ := hr.mono (by decide)
    have hr3 : Room 3 _ := hr.mono (by decide)
    refine ⟨_, pss_cons (ps_setLc (i := 4) (own := [("_law_place", 5)]) (g := gName 5) (tt := tYes) (te := tTup (tCons (tFld K (tVar 5) "road") (tCons (tFld K (tVar 5) "number") (tCons (tFld K (tVar 5) "parts") tNil)))) rfl scStands.nd rfl rfl (sw_true rfl rfl rfl (by decide +kernel)) (pi_list (pe_meth0 (pv 0) T.cl hWh FWh hr1 bWh .nil pass0)) (blkOk_by (own := [("_law_place", 5)]) (N := nStands) (sc := defScope sStands65) (by decide +kernel)) (fun _ _ _ _ _ => (pg_name (i := 5) scStands.nd rfl (Or.inl rfl))) (fun _ _ _ _ _ => pts_nil) (fun _ _ _ _ _ => (pe_tup (pa_cons (pe_fld (pv 5) rfl) (pa_cons (pe_fld (pv 5) rfl) (pa_cons (pe_fld (pv 5) rfl) pa_nil))))))
      (pss_one (ps_ret (pe_cmpR (op_eqB (rcB_lst (RcB.eqB (rcB_tup (n := 1) eqB_fv))) hr3) (pv 4) (pe_lc (own := [("_law_at", 6)]) (g := gName 6) (tt := tYes) (te := tCall spExp65 [] E0 (tCons (tVar 1) (tCons (tVar 2) (tCons (tVar 6) tNil)))) rfl scStands.nd (pi_list (pv 3)) (blkOk_by (own := [("_law_at", 6)]) (N := nStands) (sc := defScope sStands65) (by decide +kernel)) (fun _ _ _ _ _ => (pg_name (i := 6) scStands.nd rfl (Or.inl rfl))) (fun _ _ _ _ _ => pts_nil) (fun _ _ _ _ _ => (pe_call FEx hr2 rfl mEx kEx bEx .nil pass0 (pa_cons (pv 1) (pa_cons (pv 2) (pa_cons (pv 6) pa_nil)))))) (nomark _)))), ?_⟩
    obtain ⟨dx, x, D, L, A', ps, ts, e, TA, ST, eP, pr⟩ := id BK.at_
    have fol := ST.ok.folk
    have on := ST.ok.on
    -- where()
    refine ⟨_, rfl, b, dx, _, rfl, e, bkF_no (by decide +kernel), b, PP, n, S, lnF lps, av, st, hist, rfl, BK, fun l3 qs nl3 pq => ?_⟩
    have s0 := Same.new (o := .lst (qs.map V.ref)) nl3
    have g0 : upd H l3 (.lst (qs.map V.ref)) l3 = some (.lst (qs.map V.ref)) := upd_same
    have pq0 := Paired.mapP pq fun _ _ a => PlaceAt.kz a (.of s0)
    have ql := Paired.length pq
    generalize upd H l3 (.lst (qs.map V.ref)) = H0 at s0 g0 pq0 ⊢
    refine ⟨l3, rfl, ⟨_, SqL.of g0⟩, fun D0 hD0 => lc_list (K := K) (a := l3) (xs := qs.map V.ref) (fun i Hc => ∃ us : List Addr, Hc D0 = some (.lst (us.map V.ref)) ∧ Same H0 Hc ∧ us.length = i ∧ Paired (TupAt Hc) us ((st.folk.take i).map (keyF (lnF lps) S)))
      ⟨[], upd_same, Same.new hD0, rfl, .nil⟩ (fun i Hc _ ⟨_, _, sg, _⟩ => SqL.of (sg _ _ g0)) ?_ ?_⟩
    · rintro i y Hc hi ⟨us, gD, sg, ul, tp⟩
      obtain ⟨p, hp, rfl⟩ := map_get hi
      obtain ⟨u, hu, pu⟩ := paired_get pq0 hp
      obtain ⟨dp, ep⟩ := id (pu.kz (.of sg))
      have il := (List.getElem?_eq_some_iff.mp hu).1
      dsimp only [gName]
      refine ⟨rfl, ?_⟩
      unfold tYes
      refine iteT ⟨_, rfl, p, CP, dp, _, _, rfl, ep, TP.cl, TP.nR, plF_r _, _, rfl, p, CP, dp, _, _, rfl, ep, TP.cl, TP.nN, plF_n _, _, rfl, p, CP, dp, _, _, rfl, ep, TP.cl, TP.nP, plF_p _, (by show 3 ≤ sizeLine; decide), fun q hq => ?_⟩
      have s1 := Same.new (o := .tup [.int (keyF (lnF lps) S u).1, .int (keyF (lnF lps) S u).2.1, .int (keyF (lnF lps) S u).2.2]) hq
      have nq : q ≠ D0 := fun z => by rw [z, gD] at hq; cases hq
      refine ⟨_, s1 _ _ gD, (by rw [PySem.sizeLine_eq, List.length_map]; omega), us ++ [q], by rw [List.map_append]; exact upd_same, fun c o ec => ?_, by rw [List.length_append, ul]; rfl, ?_⟩
      · rw [upd_ne (ne_of_none ec hD0)]
        exact s1 _ _ (sg _ _ ec)
      · rw [take_snoc hu, List.map_append]
        refine paired_snoc (tups_put (tups_same tp s1) (s1 _ _ gD)) ?_
        show upd _ D0 _ q = _
        rw [upd_ne nq]
        exact upd_same
    · rintro H1 ⟨us, gD0, s01, ul, tp⟩
      rw [List.length_map, ql, List.take_length] at tp
      have sH := s0.trans s01
      -- [expected(lane, parts, at) for at in folk]
      refine ⟨_, rfl, _, rfl, fl, rfl, ⟨_, SqL.of (sH _ _ efl)⟩, fun D2 hD2 => lc_list (K := K) (a := fl) (xs := (st.folk.map (cX lps X S)).map V.int) (fun i Hc => ∃ ws : List Addr, Hc D2 = some (.lst (ws.map V.ref)) ∧ Same H1 Hc ∧ ws.length = i ∧ Paired (TupAt Hc) ws ((st.folk.take i).map (keyF (lnF lps) S)))
        ⟨[], upd_same, Same.new hD2, rfl, .nil⟩ (fun i Hc _ ⟨_, _, sg, _⟩ => SqL.of (sg _ _ (sH _ _ efl))) ?_ ?_⟩
      · rintro i y Hc hi ⟨ws, gD, sg, wl, tp2⟩
        obtain ⟨z, hz, rfl⟩ := map_get hi
        obtain ⟨u, hu, rfl⟩ := map_get hz
        have il := (List.getElem?_eq_some_iff.mp hu).1
        dsimp only [gName]
        refine ⟨rfl, ?_⟩
        unfold tYes
        refine iteT ⟨_, rfl, _, rfl, _, rfl, d, n, tot, S, _, lps, X, u, rfl, la.same (sH.trans sg), lt, LG, BK.S1, BK.S2, on u (List.mem_of_getElem? hu), rfl, fun t Hc' s2 ht tt => ?_⟩
        have gD' := s2 _ _ gD
        have nq : t ≠ D2 := fun z => by rw [z, gD] at ht; cases ht
        refine ⟨_, gD', (by rw [PySem.sizeLine_eq, List.length_map]; omega), ws ++ [t], by rw [List.map_append]; exact upd_same, fun c o ec => ?_, by rw [List.length_append, wl]; rfl, ?_⟩
        · rw [upd_ne (ne_of_none ec hD2)]
          exact s2 _ _ (sg _ _ ec)
        · rw [take_snoc hu, List.map_append]
          refine paired_snoc (tups_put (tups_same tp2 s2) gD') ?_
          show upd _ D2 _ t = _
          rw [upd_ne nq]
          exact tt
      · rintro H3 ⟨ws, gD2, s13, wl, tp2⟩
        rw [List.length_map, List.length_map, List.take_length] at tp2
        exact tups_eq (s13 _ _ gD0) gD2 (tups_same tp s13) tp2 H3 (Same.refl _) _ fun H4 s4 => kont H4 ((sH.trans s13).trans s4)
end
end OT
set_option Elab.async false
set_option linter.all false
set_option maxRecDepth 100000
set_option maxHeartbeats 4000000
namespace OT
open PySem L2 OTR
/-- all stays but the source, the book and its past -/
def Bt3 (s b P : Addr) (H H' : Hp) : Prop := ∀ c o, H c = some o → c ≠ s → c ≠ b → c ≠ P → H' c = some o
theorem Bt3.trans {s b P : Addr} {H H1 H2 : Hp} (x : Bt3 s b P H H1) (y : Bt3 s b P H1 H2) : Bt3 s b P H H2 := fun c o e n1 n2 n3 => y c o (x c o e n1 n2 n3) n1 n2 n3
theorem Bt3.of {s b P : Addr} {H H1 : Hp} (k : Same H H1) : Bt3 s b P H H1 := fun c o e _ _ _ => k c o e
theorem Bt3.but {s b P : Addr} {H H1 : Hp} (k : But s H H1) : Bt3 s b P H H1 := fun c o e n _ _ => k c o e n
theorem Bt3.book {s b P : Addr} {H H1 : Hp} (k : KzB b P H H1) : Bt3 s b P H H1 := fun c o e _ n m => k c o e n m
theorem Bt3.put {s b P L : Addr} {H G : Hp} {o : HO} (k : Bt3 s b P H G) (hL : H L = none) : Bt3 s b P H (upd G L o) := fun c u e x y z => (upd_ne (ne_of_none e hL)).trans (k c u e x y z)
theorem ints_dcv {H : Hp} {x y : Addr} {ns ms : List Int} (hx : H x = some (.lst (ns.map V.int))) (hy : H y = some (.lst (ms.map V.int))) : Dcv (RLst RFV) (.ref x) (.ref y) (decide (ns = ms)) H := by
  have pi : ∀ l : List Int, Paired (fun v a => v = V.int a) (l.map V.int) l := fun l => by
    induction l with
    | nil => exact .nil
    | cons _ _ ih => exact .cons rfl ih
  obtain ⟨b, hb, ad⟩ := allD_of (H := H) (R := RFV) (E := Eq) (fun v a u c hv hu => by
    subst hv hu
    exact ⟨_, eqV_int, Dcv.flat rfl rfl⟩) (pi ns) (pi ms)
  have eb : b = decide (ns = ms) := Bool.eq_iff_iff.mpr (by rw [hb, decide_eq_true_eq]; exact paired_eq)
  subst eb
  exact Dcv.lst hx hy ad
theorem ints_ne {H : Hp} {x y : Addr} {ns ms : List Int} {Q : Bool → Hp → Prop} (hx : H x = some (.lst (ns.map V.int))) (hy : H y = some (.lst (ms.map V.int))) (q : ∀ H', Same H H' → Q (!decide (ns = ms)) H') : RNot (RLst RFV) (.ref x) (.ref y) H Q := ints_dcv hx hy H (Same.refl _) _ fun H' s => q H' s
/-- the rows that the law keeps: a dict from names to goals and steps -/
def KvZ (B H : Hp) (kv : Key × V) (z : Str × List (Int × Int)) : Prop := kv.1 = .inr z.1 ∧ ∃ l us, kv.2 = .ref l ∧ B l = none ∧ H l = some (.lst (us.map V.ref)) ∧ Paired (GsAt H) us z.2
def ZrR (ps : List Lp) (z : Str × List (Int × Int)) (r : Str × List MG) : Prop := z.1 = r.1 ∧ Paired (RowR ps) z.2 r.2
def RwsAt (B H : Hp) (rd : Addr) (ps : List Lp) (rows : List (Str × List MG)) : Prop := ∃ (kvs : List (Key × V)) (zs : List (Str × List (Int × Int))), H rd = some (.dK kvs) ∧ Paired (KvZ B H) kvs zs ∧ Paired (ZrR ps) zs rows
theorem RwsAt.fz {B H H' : Hp} {rd : Addr} {ps : List Lp} {rows : List (Str × List MG)} (h : RwsAt B H rd ps rows) (k : Fz B H H') : RwsAt B H' rd ps rows :=
  let ⟨kvs, zs, a, b, c⟩ := h; ⟨kvs, zs, k.1 _ _ a .dK, Paired.mapP b fun _ _ ⟨e, l, us, e1, nb, e2, p⟩ => ⟨e, l, us, e1, nb, k.2 _ _ nb e2, Paired.mapP p fun _ _ (g : GsAt H _ _) => (show GsAt H' _ _ from k.1 _ _ g .tup)⟩, c⟩
theorem rws_keys {B H : Hp} {ps : List Lp} : ∀ {kvs : List (Key × V)} {zs : List (Str × List (Int × Int))} {rows : List (Str × List MG)}, Paired (KvZ B H) kvs zs → Paired (ZrR ps) zs rows → kvs.map (·.1) = (rows.map (·.1)).map Sum.inr
  | _, _, _, .nil, .nil => rfl
  | _, _, _, .cons a r, .cons b s => by
    rw [List.map_cons, List.map_cons, List.map_cons, rws_keys r s, a.1, b.1]
theorem rws_get {B H : Hp} {ps : List Lp} {z : Str} : ∀ {kvs : List (Key × V)} {zs : List (Str × List (Int × Int))} {rows : List (Str × List MG)}, Paired (KvZ B H) kvs zs → Paired (ZrR ps) zs rows → z ∈ rows.map (·.1) →
    ∃ xs l us gs, rowOf rows z = some xs ∧ valV kvs (.inr z) = some (.ref l) ∧ B l = none ∧ H l = some (.lst (us.map V.ref)) ∧ Paired (GsAt H) us gs ∧ Paired (RowR ps) gs xs
  | [], [], [], .nil, .nil, m => nomatch m
  | kv :: kvs, y :: zs, r :: rows, .cons a q, .cons b s, m => by
    obtain ⟨e, l, us, e1, nb, e2, p⟩ := a
    obtain ⟨e', rr⟩ := b
    by_cases c : r.1 = z
    · refine ⟨r.2, l, us, y.2, ?_, ?_, nb, e2, p, rr⟩
      · unfold rowOf
        rw [List.find?_cons_of_pos (by simpa using c)]
        rfl
      · obtain ⟨k, v⟩ := kv
        dsimp only at e e1
        rw [e, e1, e', c]
        exact valV_pos rfl
    · have m' : z ∈ rows.map (·.1) := by
        rcases List.mem_cons.mp m with h | h
        · exact absurd h.symm c
        · exact h
      obtain ⟨xs, l', us', gs, h1, h2, h3⟩ := rws_get q s m'
      refine ⟨xs, l', us', gs, ?_, ?_, h3⟩
      · unfold rowOf at h1 ⊢
        rw [List.find?_cons_of_neg (by simpa using c)]
        exact h1
      · obtain ⟨k, v⟩ := kv
        dsimp only at e
        rw [e, e']
        exact (valV_neg fun q => absurd (Sum.inr.inj q) c).trans h2
theorem rws_len {B H : Hp} {ps : List Lp} {kvs : List (Key × V)} {zs : List (Str × List (Int × Int))} {rows : List (Str × List MG)} (a : Paired (KvZ B H) kvs zs) (b : Paired (ZrR ps) zs rows) : kvs.length = rows.length := (Paired.length a).trans (Paired.length b)
/-- what a call does, by coordinates -/
theorem call_mv {n tot S : Int} {ps : List Lp} {X : Int → Int} (T : TreeM n (lnF ps)) (L : LaneG (lnF ps) (lpSt ps) (lpFw ps) X tot) (hS : 1 ≤ S) {gs : List (Int × Int)} {xs : List MG} (rr : Paired (RowR ps) gs xs) : ∀ {l us : List Nd}, (∀ u ∈ l, OnT (lnF ps) S u) → Paired (GoL (lnF ps) S xs) l us → us.map (cX ps X S) = (l.map (cX ps X S)).map (mvL S gs)
  | _, _, _, .nil => rfl
  | u :: l, v :: us, on, .cons a r => by
    rw [List.map_cons, List.map_cons, List.map_cons, call_mv T L hS rr (fun u hu => on u (List.mem_cons_of_mem _ hu)) r, goL_mv T L hS rr (on u (List.mem_cons_self ..)) a]
theorem coords_inj {n tot S : Int} {ps : List Lp} {X : Int → Int} (T : TreeM n (lnF ps)) (L : LaneG (lnF ps) (lpSt ps) (lpFw ps) X tot) (hS : 1 ≤ S) : ∀ {l us : List Nd}, (∀ u ∈ l, OnT (lnF ps) S u) → (∀ u ∈ us, OnT (lnF ps) S u) → us.map (cX ps X S) = l.map (cX ps X S) → us = l
  | [], [], _, _, _ => rfl
  | [], _ :: _, _, _, e => by simp at e
  | _ :: _, [], _, _, e => by simp at e
  | u :: l, v :: us, o1, o2, e => by
    rw [List.map_cons, List.map_cons] at e
    obtain ⟨e1, e2⟩ := List.cons.inj e
    rw [cdN_inj T L hS (o2 v (List.mem_cons_self ..)) (o1 u (List.mem_cons_self ..)) e1, coords_inj T L hS (fun u hu => o1 u (List.mem_cons_of_mem _ hu)) (fun u hu => o2 u (List.mem_cons_of_mem _ hu)) e2]
theorem keyS_inj {n : Int} {F : List Fact} {S : Int} (T : TreeM n F) (n2 : 2 ≤ n) (hS : 1 ≤ S) {u v : Nd} (ou : OnT F S u) (ov : OnT F S v) (e : keyF F S u = keyF F S v) : u = v := by
  obtain ⟨k1, i1, p1, e1⟩ := key_ple T n2 hS ou
  obtain ⟨k2, i2, p2, e2⟩ := key_ple T n2 hS ov
  rw [← e1, ← e2]
  rw [← e] at p2
  have a := p1.rd
  rw [p2.rd] at a
  have ek : k2 = k1 := by omega
  obtain ⟨d1, _, x1, y1⟩ := p1.d
  obtain ⟨d2, _, x2, y2⟩ := p2.d
  have b := p1.p1
  have ed : d1 = d2 := Int.eq_of_mul_eq_mul_left (show (keyF F S u).2.2 ≠ 0 by omega) (x1.symm.trans x2)
  rw [ek, y1, y2, ed]
theorem keys_inj {n S : Int} {F : List Fact} (T : TreeM n F) (n2 : 2 ≤ n) (hS : 1 ≤ S) : ∀ {l us : List Nd}, (∀ u ∈ l, OnT F S u) → (∀ u ∈ us, OnT F S u) → us.map (keyF F S) = l.map (keyF F S) → us = l
  | [], [], _, _, _ => rfl
  | [], _ :: _, _, _, e => by simp at e
  | _ :: _, [], _, _, e => by simp at e
  | u :: l, v :: us, o1, o2, e => by
    rw [List.map_cons, List.map_cons] at e
    obtain ⟨e1, e2⟩ := List.cons.inj e
    have one : v = u := keyS_inj T n2 hS (o2 v (List.mem_cons_self ..)) (o1 u (List.mem_cons_self ..)) e1
    rw [one, keys_inj T n2 hS (fun u hu => o1 u (List.mem_cons_of_mem _ hu)) (fun u hu => o2 u (List.mem_cons_of_mem _ hu)) e2]
end OT
set_option Elab.async false
set_option linter.all false
set_option maxRecDepth 100000
set_option maxHeartbeats 4000000
namespace OT
open PySem L2 OTR
abbrev sCalls65 : Stmt := top 63
theorem bt3_alive {K : PySem.W.Frag} {CT CR CM CP CW CBk : Addr} {n : Int} {F : List Fact} {S : Int} {av : List Addr} {s b P : Addr} {H G : Hp} {st : BSt} {hi : List BSt} (k : Bt3 s b P H G) (src : Src G s) (Bk : BookAt K CT CR CM CP CW CBk n F S av G b P st hi) {c : Addr} (hc : G c = none) : H c = none := by
  cases e : H c with
  | none => rfl
  | some o =>
    by_cases zs : c = s
    · obtain ⟨_, _, _, _, es⟩ := src
      rw [zs, es] at hc
      cases hc
    · by_cases zb : c = b
      · obtain ⟨_, _, eb⟩ := Bk.bIns
        rw [zb, eb] at hc
        cases hc
      · by_cases zP : c = P
        · obtain ⟨_, eP⟩ := Bk.pLst
          rw [zP, eP] at hc
          cases hc
        · rw [k _ _ e zs zb zP] at hc
          cases hc
theorem LaneAt.bt3 {K : PySem.W.Frag} {CT CR CM CP CW CBk : Addr} {nn : Int} {F : List Fact} {S : Int} {av : List Addr} {s b P : Addr} {H G : Hp} {st : BSt} {hi : List BSt} {d : Addr} {n tot : Int} {ps : List Lp} (h : LaneAt H d n tot ps) (nP : ∀ L, H d = some (.dK (laneK n tot L)) → L ≠ P) (src : Src H s) (Bk : BookAt K CT CR CM CP CW CBk nn F S av H b P st hi) (k : Bt3 s b P H G) : LaneAt G d n tot ps := by
  obtain ⟨L, ts, ed, eL, pr⟩ := h
  obtain ⟨_, _, _, _, es⟩ := id src
  obtain ⟨_, _, eb⟩ := Bk.bIns
  obtain ⟨_, eP⟩ := Bk.pLst
  have tup : ∀ {c : Addr} {xs : List V}, H c = some (.tup xs) → G c = some (.tup xs) := fun {c xs} e => k _ _ e (fun z => by rw [z, es] at e; cases e) (fun z => by rw [z, eb] at e; cases e) fun z => by rw [z, eP] at e; cases e
  refine ⟨L, ts, k _ _ ed (fun z => by rw [z, es] at ed; cases ed) (fun z => by rw [z, eb] at ed; cases ed) (fun z => by rw [z, eP] at ed; cases ed), k _ _ eL (src.ne eL fun x y z q => ?_) (fun z => by rw [z, eb] at eL; cases eL) (nP L ed), Paired.mapP pr fun _ _ ⟨e, a, b⟩ => ⟨e, tup a, tup b⟩⟩
  have e1 := HO.lst.inj q
  cases ts with
  | nil => exact nomatch e1
  | cons t r =>
    rw [List.map_cons] at e1
    exact nomatch (List.cons.inj e1).1
theorem paired_unsnoc {α β : Type} {R : α → β → Prop} : ∀ {m : List β} {b : β} {l : List α}, Paired R l (m ++ [b]) → ∃ l' a, l = l' ++ [a] ∧ Paired R l' m ∧ R a b
  | [], b, _, .cons a .nil => ⟨[], _, rfl, .nil, a⟩
  | c :: m, b, _, .cons a r => by
    obtain ⟨l', x, e, p, q⟩ := paired_unsnoc (m := m) r
    exact ⟨_ :: l', x, by rw [e]; rfl, .cons a p, q⟩
/-- at a the coordinates of where the folk stand -/
noncomputable def CoA (B G : Hp) (ps : List Lp) (X : Int → Int) (S : Int) (a : Addr) (st : BSt) : Prop := B a = none ∧ G a = some (.lst ((st.folk.map (cX ps X S)).map V.int))
theorem CoA.fz {B G G' : Hp} {ps : List Lp} {X : Int → Int} {S : Int} {a : Addr} {st : BSt} (h : CoA B G ps X S a st) (k : Fz B G G') : CoA B G' ps X S a st := ⟨h.1, k.2 _ _ h.1 h.2⟩
def spCalls65 (K : PySem.W.Frag) (CT CR CM CP CW CBk : Addr) : Sp := fun vs H Q _ => ∃ (s b P d fl rd : Addr) (n tot S : Int) (ps : List Lp) (X : Int → Int) (st : BSt) (hist : List BSt) (B : Hp), vs = [.ref s, .ref b, .ref d, .int S, .ref fl, .ref rd] ∧ Src H s ∧ BookAt K CT CR CM CP CW CBk n (lnF ps) S [P, s] H b P st hist ∧ LaneAt H d n tot ps ∧ (∀ L, H d = some (.dK (laneK n tot L)) → L ≠ P) ∧ LaneT n tot ps ∧ LaneG (lnF ps) (lpSt ps) (lpFw ps) X tot ∧
  B s ≠ none ∧ B b ≠ none ∧ B P ≠ none ∧ (∀ c, H c = none → B c = none) ∧ s ≠ P ∧ CoA B H ps X S fl st ∧ RwsAt B H rd ps st.rows ∧ 0 < st.rows.length ∧ st.rows.length ≤ 8 ∧ hist.length ≤ 1000 ∧
  ∀ H', Src H' s → Bt3 s b P H H' → BookAt K CT CR CM CP CW CBk n (lnF ps) S [P, s] H' b P st hist → Q (.bl true) H'
section
variable {P : Program} {w : World} {K : PySem.W.Frag} {mg : Str → Option Value} {base : Heap}
abbrev nCalls65 : List Str := ["_law_source_here", "_law_book", "_law_lane_here", "_law_parts", "_law_folk", "_law_rows", "_law_history", "_law_count", "_law_turn", "_law_text", "_law_moved_here", "_law_at"]
theorem scCalls65 : FnScope nCalls65 ["_law_source_here", "_law_book", "_law_lane_here", "_law_parts", "_law_folk", "_law_rows"] (defScope sCalls65) := ⟨rfl, rfl, rfl, by decide +kernel, rfl, by decide +kernel, by decide +kernel⟩
theorem ok_calls65 {f fD fC fMv fSt CT CR CM CP CW CBk CNo fMy fCa fBa : Addr} {fd fdD fdC fdMv fdSt fdMy fdCa fdBa : FuncData} (F0 : Fun K "_law_calls_right" "_law_calls_right" sCalls65 f fd) (T : BkT K mg CBk)
    (FD : FnOk P w K mg base CX0 1 fD fdD ["_law_source_here", "_law_bound"] spDraw) (bD : Binds K fdD ["_law_source_here", "_law_bound"] []) (mD : mg "_law_draw" = some (.ref fD)) (kD : PySem.W.keepIn K (.ref fD) = true)
    (FC : FnOk P w K mg base CX0 2 fC fdC ["_law_source_here", "_law_items"] (spPick K)) (bC : Binds K fdC ["_law_source_here", "_law_items"] []) (mC : mg "_law_choice" = some (.ref fC)) (kC : PySem.W.keepIn K (.ref fC) = true)
    (FMv : FnOk P w K mg base CX0 1 fMv fdMv ["_law_at", "_law_specs", "_law_parts"] (spMoved K)) (bMv : Binds K fdMv ["_law_at", "_law_specs", "_law_parts"] []) (mMv : mg "_law_moved" = some (.ref fMv)) (kMv : PySem.W.keepIn K (.ref fMv) = true)
    (FSt : FnOk P w K mg base CX0 4 fSt fdSt ["_law_book", "_law_lane_here", "_law_parts", "_law_folk"] (spStands K CT CR CM CP CW CBk)) (bSt : Binds K fdSt ["_law_book", "_law_lane_here", "_law_parts", "_law_folk"] []) (mSt : mg "_law_stands" = some (.ref fSt)) (kSt : PySem.W.keepIn K (.ref fSt) = true)
    (hMy : Meth K CBk "many" fMy) (FMy : FnOk P w K mg base CX0 1 fMy fdMy ["self"] (spBkMany K CT CR CM CP CW CBk)) (bMy : Binds K fdMy ["self"] [])
    (hCa : Meth K CBk "call" fCa) (FCa : FnOk P w K mg base (L2.CX P w) 9 fCa fdCa ["self", "name"] (spBkCall K CT CR CM CP CW CBk CNo)) (bCa : Binds K fdCa ["self", "name"] [])
    (hBa : Meth K CBk "back" fBa) (FBa : FnOk P w K mg base CX0 1 fBa fdBa ["self"] (spBkBack K CT CR CM CP CW CBk)) (bBa : Binds K fdBa ["self"] [])
    (hLen : mg "len" = none) (hRg : mg "range" = none) (hSo : mg "sorted" = none) :
    FnOk P w K mg base CX0 10 f fd ["_law_source_here", "_law_book", "_law_lane_here", "_law_parts", "_law_folk", "_law_rows"] (spCalls65 K CT CR CM CP CW CBk) := by
  refine F0.ok scCalls65 (fun vs H Q E h => ?_) (fun cdv A outer s0 H vs Q E hr h => ?_)
  · obtain ⟨s, b, PP, d, fl, rd, n, tot, S, ps, X, st, hist, B, rfl, _⟩ := h
    rfl
  · obtain ⟨s, b, PP, d, fl, rd, n, tot, S, lps, X, st, hist, B, rfl, hs, BK, la, lanP, lt, LG, Bs, Bb, BP, al, nsP, efl, rws, r0, r8, h1000, kont⟩ := h
    have hu := hu_of hr
    have hr1 : Room 1 _ := hr.mono (by decide)
    have hr2 : Room 2 _ := hr.mono (by decide)
    have hr4 : Room 4 _ := hr.mono (by decide)
    refine ⟨_, pss_cons (ps_set (i := 6) scCalls65.nd rfl (Or.inl rfl) (pe_lst (pa_cons (pv 4) pa_nil)))
      (pss_cons (ps_set (i := 7) scCalls65.nd rfl (Or.inl rfl) (pe_meth0 (pv 1) T.cl hMy FMy hr1 bMy .nil pass0))
      (pss_cons (ps_for PassesOwn.never rfl (pi_range1 (by rfl) hRg (pa_cons (pe_op op_add pe_int (pe_call FD hr1 rfl mD kD bD .nil pass0 (pa_cons (pv 0) (pa_cons pe_int pa_nil)))) pa_nil)) (pg_name (i := 8) scCalls65.nd rfl (Or.inl rfl))
        (pss_cons (ps_set (i := 9) scCalls65.nd rfl (Or.inr rfl) (pe_call FC hr2 rfl mC kC bC .nil pass0 (pa_cons (pv 0) (pa_cons (pe_callB (call_sortedD rfl) (by rfl) hSo (by decide +kernel) (pa_cons (pv 5) pa_nil)) pa_nil))))
        (pss_cons (ps_expr (pe_meth (pv 1) T.cl hCa FCa hr bCa .nil passF (pa_cons (pv 9) pa_nil)))
        (pss_cons (ps_setLc (i := 10) (own := [("_law_at", 11)]) (g := gName 11) (tt := tYes) (te := tCall (spMoved K) [] E0 (tCons (tVar 11) (tCons (tDGet (tVar 5) (tVar 9)) (tCons (tVar 3) tNil)))) rfl scCalls65.nd rfl rfl (sw_true rfl rfl rfl (by decide +kernel)) (pi_list (pe_ix ix_list (pv 6) (pe_un un_neg pe_int) (fun _ _ => rfl))) (blkOk_by (own := [("_law_at", 11)]) (N := nCalls65) (sc := defScope sCalls65) (by decide +kernel)) (fun _ _ _ _ _ => (pg_name (i := 11) scCalls65.nd rfl (Or.inl rfl))) (fun _ _ _ _ _ => pts_nil) (fun _ _ _ _ _ => (pe_call FMv hr1 rfl mMv kMv bMv .nil pass0 (pa_cons (pv 11) (pa_cons (pe_dget hu (pv 5) (pv 9) (fun _ _ => rfl)) (pa_cons (pv 3) pa_nil))))))
        (C8.pss_cut (ps_if (pt_cmpR (op_neB (rcB_lstN (n := 1) eqB_fv) hr2) (pv 10) (pe_ix ix_list (pv 6) (pe_un un_neg pe_int) (fun _ _ => rfl)) (nomark _))
          (pss_one (ps_expr (pe_bm PySem.F.plainAttrs_list PySem.F.slot_list_append PySem.F.type_list_append mt_append (pv 6) (pa_cons (pv 10) pa_nil))))
          pss_nil)
        (pss_one (ps_if (PW.pt (pw_or (pt_cmpR op_ne (pe_meth0 (pv 1) T.cl hMy FMy hr1 bMy .nil pass0) (pe_op op_sub (pe_op op_add (pv 7) (pe_callB call_len_seq (by rfl) hLen PySem.boot_len (pa_cons (pv 6) pa_nil))) pe_int) (nomark _)) (pw_or1 (pt_not (pt_val (pe_call FSt hr4 rfl mSt kSt bSt .nil pass0 (pa_cons (pv 1) (pa_cons (pv 2) (pa_cons (pv 3) (pa_cons (pv 10) pa_nil))))))))))
          (pss_one (ps_ret pe_bl))
          pss_nil)))))))
      (pss_cons (ps_while PassesOwn.never (pt_cmpR op_gt (pe_callB call_len_seq (by rfl) hLen PySem.boot_len (pa_cons (pv 6) pa_nil)) pe_int (nomark _))
        (pss_cons (ps_expr (pe_meth0 (pv 1) T.cl hBa FBa hr1 bBa .nil pass0))
        (pss_cons (ps_expr (pe_bm0 PySem.F.plainAttrs_list PySem.F.slot_list_pop PySem.F.type_list_pop mt_pop (pv 6)))
        (pss_one (ps_if (pt_not (pt_val (pe_call FSt hr4 rfl mSt kSt bSt .nil pass0 (pa_cons (pv 1) (pa_cons (pv 2) (pa_cons (pv 3) (pa_cons (pe_ix ix_list (pv 6) (pe_un un_neg pe_int) (fun _ _ => rfl)) pa_nil)))))))
          (pss_one (ps_ret pe_bl))
          pss_nil)))))
      (pss_one (ps_ret (pe_cmpR op_eq (pe_meth0 (pv 1) T.cl hMy FMy hr1 bMy .nil pass0) (pv 7) (nomark _))))))), ?_⟩
    have S1 := BK.S1
    have S2 := BK.S2
    have n2 := lt.G.n2
    -- history = [folk]
    refine ⟨_, rfl, (by show 1 ≤ sizeLine; decide), fun HL hHL => ?_⟩
    have s1 := Same.new (o := .lst [.ref fl]) hHL
    have g1 : upd H HL (.lst [.ref fl]) HL = some (.lst [.ref fl]) := upd_same
    have V0 : ∀ c, upd B HL (.lst []) c = none → B c = none := fun c hc => by
      by_cases z : c = HL
      · rw [z]
        exact al HL hHL
      · rw [upd_ne z] at hc
        exact hc
    have VL : upd B HL (.lst []) HL ≠ none := by
      rw [upd_same]
      exact fun z => by cases z
    have Vs : upd B HL (.lst []) s ≠ none := fun z => Bs (V0 _ z)
    have Vb : upd B HL (.lst []) b ≠ none := fun z => Bb (V0 _ z)
    have VP : upd B HL (.lst []) PP ≠ none := fun z => BP (V0 _ z)
    have Vn : ∀ {c : Addr} {o : HO}, H c = some o → B c = none → upd B HL (.lst []) c = none := fun {c o} e z => (upd_ne (ne_of_none e hHL)).trans z
    have efl1 : CoA (upd B HL (.lst [])) H lps X S fl st := ⟨Vn efl.2 efl.1, efl.2⟩
    have rws1 : RwsAt (upd B HL (.lst [])) H rd lps st.rows := let ⟨kvs, zs, a, p, c⟩ := rws; ⟨kvs, zs, a, Paired.mapP p fun _ _ ⟨e, l, us, e1, nb, e2, q⟩ => ⟨e, l, us, e1, Vn e2 nb, e2, q⟩, c⟩
    have efl1 := efl1.fz (.of s1)
    have rws1 := rws1.fz (.of s1)
    have hs1 := hs.same s1
    have BK1 := (BK.avoid hHL).same s1
    have bt1 : Bt3 s b PP H _ := .of s1
    have nHs : HL ≠ s := hs.new hHL
    have nHP : HL ≠ PP := fun z => by
      obtain ⟨_, eP⟩ := BK.pLst
      rw [← z, hHL] at eP
      cases eP
    have nHb : HL ≠ b := fun z => by
      obtain ⟨_, _, eb⟩ := BK.bIns
      rw [← z, hHL] at eb
      cases eb
    generalize upd H HL (.lst [.ref fl]) = H1 at s1 g1 efl1 rws1 hs1 BK1 bt1 ⊢
    have alV : ∀ {G : Hp} {sti : BSt} {hi : List BSt}, Bt3 s b PP H G → Src G s → BookAt K CT CR CM CP CW CBk n (lnF lps) S (HL :: [PP, s]) G b PP sti hi → G HL ≠ none → ∀ c, G c = none → upd B HL (.lst []) c = none := fun {G sti hi} bt sg Bk gn c hc => by
      have nc : c ≠ HL := fun z => gn (z ▸ hc)
      rw [upd_ne nc]
      exact al c (bt3_alive bt sg Bk hc)
    -- count = many()
    obtain ⟨dx1, x1, D1, Lf1, A1, ps1, ts1, e1, _⟩ := id BK1.at_
    refine ⟨_, rfl, b, dx1, _, rfl, e1, bkF_no (by decide +kernel), b, PP, n, S, lnF lps, HL :: [PP, s], st, hist, rfl, BK1, ?_⟩
    -- for turn in range(1 + draw(source, 16))
    refine ⟨_, rfl, s, 16, rfl, hs1, by decide, by decide, fun c G2 c0 c16 sg2 bg2 => ⟨_, _, rfl, rfl, _, rfl, by omega, by omega, ?_⟩⟩
    have fz2 : Fz (upd B HL (.lst [])) H1 G2 := .but hs1 Vs bg2
    obtain ⟨_, _, _, _, es1⟩ := id hs1
    refine for_range (lo := 0) (n := (1 + c).toNat) (fun i σ G => ∃ (v8 v9 v10 : Option V) (hnew : List BSt) (sti : BSt) (hl : List Addr), σ = [some (.ref s), some (.ref b), some (.ref d), some (.int S), some (.ref fl), some (.ref rd), some (.ref HL), some (.int (hist.length : Nat)), v8, v9, v10, none] ∧ Src G s ∧ Bt3 s b PP H G ∧ G HL = some (.lst (hl.map V.ref)) ∧ Paired (CoA (upd B HL (.lst [])) G lps X S) hl (hnew ++ [sti]) ∧ BookAt K CT CR CM CP CW CBk n (lnF lps) S (HL :: [PP, s]) G b PP sti (hist ++ hnew) ∧
        RwsAt (upd B HL (.lst [])) G rd lps st.rows ∧ sti.rows = st.rows ∧ hnew.length ≤ i ∧ (hnew ++ [sti]).head? = some st)
      ⟨none, none, none, [], st, [fl], rfl, sg2, bt1.trans (.but bg2), bg2 _ _ g1 nHs, .cons (efl1.fz fz2) .nil, by rw [List.append_nil]; exact BK1.but es1 (by simp) nsP bg2, rws1.fz fz2, rfl, Nat.le_refl _, rfl⟩ ?_ ?_
    · rintro i σ G hi ⟨v8, v9, v10, hnew, sti, hl, rfl, sg, bt, gH, co, BKi, rw', er, nl, hd⟩
      have hi16 : i < 17 := by omega
      have hll := Paired.length co
      rw [List.length_append] at hll
      simp only [List.length_singleton] at hll
      -- text = choice(source, sorted(rows))
      obtain ⟨kvs, zs, erd, pk, pz⟩ := id rw'
      have kl := rws_len pk pz
      refine ⟨_, rfl, _, rfl, rd, kvs, st.rows.map (·.1), rfl, .inl erd, rws_keys pk pz, by rw [List.length_map]; omega, fun ys p hp hso np => ?_⟩
      have s3 := Same.new (o := .lst (ys.map V.str)) np
      have g3 : upd G p (.lst (ys.map V.str)) p = some (.lst (ys.map V.str)) := upd_same
      have yl : ys.length = st.rows.length := by rw [hp.length_eq, List.length_map]
      generalize upd G p (.lst (ys.map V.str)) = G3 at s3 g3 ⊢
      refine ⟨s, p, ys.map V.str, rfl, sg.same s3, sg.new np, SqL.of g3, by rw [List.length_map, yl]; exact r0, by rw [List.length_map]; omega, fun v G4 hv sg4 bg4 => ?_⟩
      obtain ⟨z, hz, rfl⟩ := List.mem_map.mp hv
      have b4 : But s G G4 := fun b o e nb => bg4 b o (s3 b o e) nb
      have fz4 : Fz (upd B HL (.lst [])) G G4 := .but sg Vs b4
      obtain ⟨_, _, _, _, esG⟩ := id sg
      have BK4 := BKi.but esG (by simp) nsP b4
      have rw4 := rw'.fz fz4
      have co4 := Paired.mapP co fun _ _ a => CoA.fz a fz4
      have gH4 := b4 _ _ gH nHs
      have bt4 := bt.trans (.but b4)
      clear hv s3 g3 bg4 np pk kl erd pz rw' co gH sg b4 fz4 esG BKi bt
      -- book.call(text)
      obtain ⟨kvs, zs, erd, pk, pz⟩ := id rw4
      obtain ⟨xs, l, us, gs, hxs, hval, nbl, el, pgs, rr⟩ := rws_get pk pz (hp.mem_iff.mp hz)
      have hx : rowOf sti.rows z = some xs := by rw [er]; exact hxs
      have okx : ∀ x ∈ xs, MgOk (lnF lps) x := fun x hx => by
        obtain ⟨j, hj⟩ := List.getElem?_of_mem hx
        have lj := (List.getElem?_eq_some_iff.mp hj).1
        have : j < gs.length := by rw [Paired.length rr]; exact lj
        obtain ⟨x', hx', r⟩ := paired_get rr (List.getElem?_eq_getElem this)
        rw [hj] at hx'
        cases hx'
        exact r.1
      have onI := BK4.okS.on
      obtain ⟨vs', go⟩ := goL_all BK4.G.m S1 okx onI
      have onV : ∀ v ∈ vs', OnT (lnF lps) S v := fun v hv => by
        obtain ⟨j, hj⟩ := List.getElem?_of_mem hv
        have lj := (List.getElem?_eq_some_iff.mp hj).1
        have : j < sti.folk.length := by rw [Paired.length go]; exact lj
        obtain ⟨v', hv', gg⟩ := paired_get go (List.getElem?_eq_getElem this)
        rw [hj] at hv'
        cases hv'
        exact GoL.on BK4.G.m S1 okx (onI _ (List.getElem_mem _)) gg
      have avl : ∀ c ∈ HL :: [PP, s], G4 c ≠ none := fun c hc => by
        rcases List.mem_cons.mp hc with rfl | hc
        · rw [gH4]
          exact fun z => by cases z
        · rcases List.mem_cons.mp hc with rfl | hc
          · obtain ⟨_, e⟩ := BK4.pLst
            rw [e]
            exact fun z => by cases z
          · rw [List.mem_singleton.mp hc]
            obtain ⟨_, _, _, _, e⟩ := sg4
            rw [e]
            exact fun z => by cases z
      obtain ⟨dx4, x4, D4, Lf4, A4, ps4, ts4, e4, _⟩ := id BK4.at_
      refine ⟨_, rfl, b, dx4, _, rfl, e4, bkF_no (by decide +kernel), _, rfl, tnB ?_⟩
      show spBkCall K CT CR CM CP CW CBk CNo [V.ref b, V.str z] G4 _ _
      refine callK BK4 (by rw [List.length_append]; omega) avl hx okx go fun G5 k5 BK5 => ?_
      have fz5 : Fz (upd B HL (.lst [])) G4 G5 := .book BK4 k5 Vb VP
      have rw5 := rw4.fz fz5
      have co5 := Paired.mapP co4 fun _ _ a => CoA.fz a fz5
      have gH5 := k5 _ _ gH4 nHb nHP
      have bt5 := bt4.trans (.book k5)
      have sg5 : Src G5 s := by
        obtain ⟨a1, a2, a3, a0, es⟩ := sg4
        obtain ⟨_, _, eb⟩ := BK4.bIns
        exact ⟨a1, a2, a3, a0, k5 _ _ es (fun z => by rw [z, eb] at es; cases es) nsP⟩
      have el5 := fz5.2 l _ nbl el
      have pgs5 := Paired.mapP pgs fun _ _ (g : GsAt G4 _ _) => (show GsAt G5 _ _ from fz5.1 _ _ g .tup)
      have erd5 := fz5.1 _ _ erd .dK
      have ecs := call_mv BK4.G.m LG S1 rr onI go
      -- moved_here = [moved(at, rows[text], parts) for at in history[-1]]
      obtain ⟨hl', a, ehl, pre, coa⟩ := paired_unsnoc co5
      have eat : ∀ {G : Hp}, G HL = some (.lst (hl.map V.ref)) → atI (hl.map V.ref) (-1) = some (V.ref a) := fun {G} _ => by
        rw [ehl, List.map_append]
        exact atI_last _ _
      refine ⟨_, rfl, _, rfl, HL, _, _, .ref a, rfl, rfl, SqL.of gH5, eat gH5, a, rfl, ⟨_, SqL.of coa.2⟩, fun D hD => lc_list (K := K) (a := a) (xs := (sti.folk.map (cX lps X S)).map V.int) (fun j Hc => Hc D = some (.lst ((((sti.folk.map (cX lps X S)).take j).map (mvL S gs)).map V.int)) ∧ Same G5 Hc)
        ⟨upd_same, Same.new hD⟩ (fun j Hc _ ⟨_, sc⟩ => SqL.of (sc _ _ coa.2)) ?_ ?_⟩
      · rintro j y Hc hj ⟨gD, sc⟩
        obtain ⟨x, hx', rfl⟩ := map_get hj
        have jl := (List.getElem?_eq_some_iff.mp hx').1
        rw [List.length_map] at jl
        have f100 := BK4.okS.folk
        dsimp only [gName]
        refine ⟨rfl, ?_⟩
        unfold tYes
        refine iteT ⟨_, rfl, _, rfl, _, rfl, rd, _, rfl, (by rw [← hval]; exact DGet.k (k := .inr z) (sc _ _ erd5)), _, rfl, x, S, l, us, gs, rfl, sc _ _ el5, Paired.mapP pgs5 fun _ _ (g : GsAt G5 _ _) => (show GsAt Hc _ _ from sc _ _ g), S1, S2, ?_⟩
        refine ⟨_, gD, (by rw [PySem.sizeLine_eq, List.length_map, List.length_map, List.length_take]; omega), ?_, fun c o ec => ?_⟩
        · rw [take_snoc hx', List.map_append, List.map_append]
          exact upd_same
        · rw [upd_ne (ne_of_none ec hD)]
          exact sc _ _ ec
      rintro G6 ⟨gD, s6⟩
      rw [List.length_map, List.length_map, List.take_of_length_le (by rw [List.length_map]; exact Nat.le_refl _), ← ecs] at gD
      have fz6 : Fz (upd B HL (.lst [])) G5 G6 := .of s6
      have rw6 := rw5.fz fz6
      have co6 := Paired.mapP co5 fun _ _ a => CoA.fz a fz6
      have gH6 := s6 _ _ gH5
      have coa6 := coa.fz fz6
      have bt6 := bt5.trans (.of s6)
      have sg6 := sg5.same s6
      have BK6 := BK5.same s6
      have nD : upd B HL (.lst []) D = none := alV bt5 sg5 BK5 (fun z => by rw [gH5] at z; cases z) D hD
      refine ⟨fun σ' G' => ∃ (hnew' : List BSt) (sti' : BSt) (hl' : List Addr), σ' = [some (.ref s), some (.ref b), some (.ref d), some (.int S), some (.ref fl), some (.ref rd), some (.ref HL), some (.int (hist.length : Nat)), some (.int (0 + (i : Int))), some (.str z), some (.ref D), none] ∧ Src G' s ∧ Bt3 s b PP H G' ∧ G' HL = some (.lst (hl'.map V.ref)) ∧ Paired (CoA (upd B HL (.lst [])) G' lps X S) hl' (hnew' ++ [sti']) ∧ BookAt K CT CR CM CP CW CBk n (lnF lps) S (HL :: [PP, s]) G' b PP sti' (hist ++ hnew') ∧
        RwsAt (upd B HL (.lst [])) G' rd lps st.rows ∧ sti'.rows = st.rows ∧ hnew'.length ≤ i + 1 ∧ (hnew' ++ [sti']).head? = some st ∧ CoA (upd B HL (.lst [])) G' lps X S D sti', ?_, ?_⟩
      · -- if moved_here != history[-1]
        refine ⟨_, rfl, _, rfl, _, rfl, HL, _, _, .ref a, rfl, rfl, SqL.of gH6, eat gH6, ?_⟩
        refine ints_ne gD coa6.2 fun G7 s7 => ⟨_, rfl, ?_⟩
        have fz7 : Fz (upd B HL (.lst [])) G6 G7 := .of s7
        have gH7 := s7 _ _ gH6
        by_cases ck : vs'.map (keyF (lnF lps) S) = sti.folk.map (keyF (lnF lps) S)
        · have ev := keys_inj BK4.G.m n2 S1 onI onV ck
          have ecS : callS (lnF lps) S vs' sti (hist ++ hnew) = (sti, hist ++ hnew) := if_pos ck
          rw [ev, decide_eq_true rfl]
          rw [ecS] at BK6
          rw [ev] at gD
          exact iteF ⟨hnew, sti, hl, rfl, sg6.same s7, bt6.trans (.of s7), gH7, Paired.mapP co6 fun _ _ a => CoA.fz a fz7, BK6.same s7, rw6.fz fz7, er, by omega, hd, nD, s7 _ _ gD⟩
        · have ne : ¬ vs'.map (cX lps X S) = sti.folk.map (cX lps X S) := fun q => ck (by rw [coords_inj BK4.G.m LG S1 onI onV q])
          have ecS : callS (lnF lps) S vs' sti (hist ++ hnew) = (⟨sti.rows, vs', sti.ans⟩, hist ++ hnew ++ [sti]) := if_neg ck
          rw [decide_eq_false ne]
          rw [ecS] at BK6
          refine iteT ⟨_, rfl, .inl ⟨rfl, _, SqL.of gH7⟩, _, rfl, HL, _, .ref D, rfl, rfl, gH7, small1000 (by rw [List.length_map]; omega), ?_⟩
          have fz8 : Fz (upd B HL (.lst [])) G6 (upd G7 HL (.lst (hl.map V.ref ++ [V.ref D]))) := fz7.trans (.put gH7 VL)
          have coD : CoA (upd B HL (.lst [])) G6 lps X S D ⟨sti.rows, vs', sti.ans⟩ := ⟨nD, gD⟩
          refine ⟨hnew ++ [sti], ⟨sti.rows, vs', sti.ans⟩, hl ++ [D], rfl, (sg6.same s7).upd nHs, (bt6.trans (.of s7)).put hHL, by rw [List.map_append]; exact upd_same, paired_snoc (Paired.mapP co6 fun _ _ a => CoA.fz a fz8) (coD.fz fz8), ?_, rw6.fz fz8, er, by rw [List.length_append]; show hnew.length + 1 ≤ i + 1; omega, ?_, coD.fz fz8⟩
          · rw [← List.append_assoc]
            exact (BK6.same s7).put gH7 (List.mem_cons_self ..) nHP
          · cases hnew with
            | nil => exact hd
            | cons a r => exact hd
      · clear co6 gH6 coa6 bt6 sg6 BK6 rw6 fz6 gD s6 nD hD eat pre coa ehl
        rintro σ' G7 ⟨hnew', sti', hl2, rfl, sg7, bt7, gH7, co7, BK7, rw7, er7, nl7, hd7, coD⟩
        have hll7 := Paired.length co7
        rw [List.length_append] at hll7
        simp only [List.length_singleton] at hll7
        obtain ⟨dx7, x7, D7, Lf7, A7, ps7, ts7, e7, _⟩ := id BK7.at_
        -- many() != count + len(history) - 1
        refine ⟨_, rfl, b, dx7, _, rfl, e7, bkF_no (by decide +kernel), b, PP, n, S, lnF lps, HL :: [PP, s], sti', hist ++ hnew', rfl, BK7, _, rfl, _, rfl, HL, _, rfl, .inl (SqL.of gH7), _, _, rfl, rfl, _, _, rfl, rfl, rfl, _, rfl, ?_⟩
        have em : V.int (((hist ++ hnew').length : Nat) : Int) = V.int (((hist.length : Nat) : Int) + (((hl2.map V.ref).length : Nat) : Int) - 1) := by
          rw [List.length_append, List.length_map]
          exact congrArg V.int (by omega)
        rw [em, decide_eq_true rfl]
        refine iteF ?_
        -- stands(book, lane, parts, moved_here)
        refine ⟨_, rfl, _, rfl, _, rfl, _, rfl, b, PP, d, D, n, tot, S, lps, X, HL :: [PP, s], sti', hist ++ hnew', rfl, BK7, la.bt3 lanP hs BK bt7, lt, LG, coD.2, fun G8 s8 => ⟨_, rfl, iteF ?_⟩⟩
        have fz8 : Fz (upd B HL (.lst [])) G7 G8 := .of s8
        exact ⟨_, _, _, hnew', sti', hl2, rfl, sg7.same s8, bt7.trans (.of s8), s8 _ _ gH7, Paired.mapP co7 fun _ _ a => CoA.fz a fz8, BK7.same s8, rw7.fz fz8, er7, nl7, hd7⟩
    · rintro σ G ⟨v8, v9, v10, hnew, sti, hl, rfl, sg, bt, gH, co, BKi, rw', er, nl, hd⟩
      -- while len(history) > 1
      refine ⟨fun m σ G => ∃ (v8 v9 v10 : Option V) (hnew : List BSt) (sti : BSt) (hl : List Addr), σ = [some (.ref s), some (.ref b), some (.ref d), some (.int S), some (.ref fl), some (.ref rd), some (.ref HL), some (.int (hist.length : Nat)), v8, v9, v10, none] ∧ Src G s ∧ Bt3 s b PP H G ∧ G HL = some (.lst (hl.map V.ref)) ∧ Paired (CoA (upd B HL (.lst [])) G lps X S) hl (hnew ++ [sti]) ∧ BookAt K CT CR CM CP CW CBk n (lnF lps) S (HL :: [PP, s]) G b PP sti (hist ++ hnew) ∧ (hnew ++ [sti]).head? = some st ∧ m = hnew.length,
        ⟨_, v8, v9, v10, hnew, sti, hl, rfl, sg, bt, gH, co, BKi, hd, rfl⟩, ?_⟩
      clear sg bt gH co BKi rw' er nl hd
      rintro m σ G ⟨v8, v9, v10, hnew, sti, hl, rfl, sg, bt, gH, co, BKi, hd, rfl⟩
      have hll := Paired.length co
      rw [List.length_append] at hll
      simp only [List.length_singleton] at hll
      refine ⟨_, rfl, HL, _, rfl, .inl (SqL.of gH), _, _, rfl, rfl, _, rfl, ?_⟩
      rcases List.eq_nil_or_concat hnew with z | ⟨h', s', z⟩
      · subst z
        rw [List.nil_append] at hd
        cases hd
        rw [decide_eq_false (by rw [List.length_map, hll]; decide)]
        refine iteF ?_
        obtain ⟨dx7, x7, D7, Lf7, A7, ps7, ts7, e7, _⟩ := id BKi.at_
        refine ⟨_, rfl, b, dx7, _, rfl, e7, bkF_no (by decide +kernel), b, PP, n, S, lnF lps, HL :: [PP, s], _, hist ++ [], rfl, BKi, _, rfl, rfl, ?_⟩
        rw [show decide (V.int (((hist ++ ([] : List BSt)).length : Nat) : Int) = V.int ((hist.length : Nat) : Int)) = true from decide_eq_true (by rw [List.append_nil])]
        rw [List.append_nil] at BKi
        exact kont G sg bt (BKi.less (fun _ hc => List.mem_cons_of_mem _ hc) BK.inP)
      · rw [List.concat_eq_append] at z
        subst z
        rw [decide_eq_true (by rw [List.length_map, hll, List.length_append]; simp only [List.length_singleton]; omega)]
        refine iteT ⟨fun σ' G' => ∃ (v8 v9 v10 : Option V) (hnew2 : List BSt) (sti : BSt) (hl : List Addr), σ' = [some (.ref s), some (.ref b), some (.ref d), some (.int S), some (.ref fl), some (.ref rd), some (.ref HL), some (.int (hist.length : Nat)), v8, v9, v10, none] ∧ Src G' s ∧ Bt3 s b PP H G' ∧ G' HL = some (.lst (hl.map V.ref)) ∧ Paired (CoA (upd B HL (.lst [])) G' lps X S) hl (hnew2 ++ [sti]) ∧ BookAt K CT CR CM CP CW CBk n (lnF lps) S (HL :: [PP, s]) G' b PP sti (hist ++ hnew2) ∧ (hnew2 ++ [sti]).head? = some st ∧ hnew2.length < (h' ++ [s']).length,
          fun σ' G' ⟨a1, a2, a3, a4, a5, a6, h1, h2, h3, h4, h5, h6, h7, h8⟩ => ⟨_, h8, a1, a2, a3, a4, a5, a6, h1, h2, h3, h4, h5, h6, h7, rfl⟩, ?_⟩
        -- book.back()
        rw [← List.append_assoc] at BKi
        obtain ⟨dx7, x7, D7, Lf7, A7, ps7, ts7, e7, _⟩ := id BKi.at_
        refine ⟨_, rfl, b, dx7, _, rfl, e7, bkF_no (by decide +kernel), b, PP, n, S, lnF lps, HL :: [PP, s], sti, s', hist ++ h', rfl, BKi, fun G2 k2 BK2 => ?_⟩
        have fz2' : Fz (upd B HL (.lst [])) G G2 := .book BKi k2 Vb VP
        have gH2 := k2 _ _ gH nHb nHP
        have co2 := Paired.mapP co fun _ _ a => CoA.fz a fz2'
        have bt2 := bt.trans (.book k2)
        have sg2' : Src G2 s := by
          obtain ⟨a1, a2, a3, a0, es⟩ := sg
          obtain ⟨_, _, eb⟩ := BKi.bIns
          exact ⟨a1, a2, a3, a0, k2 _ _ es (fun z => by rw [z, eb] at es; cases es) nsP⟩
        -- history.pop()
        obtain ⟨hl', a, rfl, co3, _⟩ := paired_unsnoc co2
        refine ⟨_, rfl, .inl ⟨rfl, _, SqL.of gH2⟩, HL, _, .ref a, rfl, rfl, gH2, by simp, ?_⟩
        have dl : ((hl' ++ [a]).map V.ref).dropLast = hl'.map V.ref := by rw [List.map_append]; exact List.dropLast_concat
        rw [dl]
        have fz3 : Fz (upd B HL (.lst [])) G2 (upd G2 HL (.lst (hl'.map V.ref))) := .put gH2 VL
        have gH3 : upd G2 HL (.lst (hl'.map V.ref)) HL = some (.lst (hl'.map V.ref)) := upd_same
        have BK3 := BK2.put (ys := hl'.map V.ref) gH2 (List.mem_cons_self ..) nHP
        have bt3 : Bt3 s b PP H (upd G2 HL (.lst (hl'.map V.ref))) := bt2.put hHL
        have sg3 : Src (upd G2 HL (.lst (hl'.map V.ref))) s := sg2'.upd nHs
        have co4 := Paired.mapP co3 fun _ _ a => CoA.fz a fz3
        generalize upd G2 HL (.lst (hl'.map V.ref)) = G3 at fz3 gH3 BK3 bt3 sg3 co4 ⊢
        -- stands(book, lane, parts, history[-1])
        obtain ⟨hl2, a2, ehl2, _, coa⟩ := paired_unsnoc co4
        have eat : atI (hl'.map V.ref) (-1) = some (V.ref a2) := by
          rw [ehl2, List.map_append]
          exact atI_last _ _
        refine ⟨_, rfl, _, rfl, _, rfl, _, rfl, _, rfl, HL, _, _, .ref a2, rfl, rfl, SqL.of gH3, eat, b, PP, d, a2, n, tot, S, lps, X, HL :: [PP, s], s', hist ++ h', rfl, BK3, la.bt3 lanP hs BK bt3, lt, LG, coa.2, fun G8 s8 => ⟨_, rfl, iteF ?_⟩⟩
        have fz8 : Fz (upd B HL (.lst [])) G3 G8 := .of s8
        refine ⟨_, _, _, h', s', hl', rfl, sg3.same s8, bt3.trans (.of s8), s8 _ _ gH3, Paired.mapP co4 fun _ _ a => CoA.fz a fz8, BK3.same s8, ?_, by rw [List.length_append]; exact Nat.lt_succ_self _⟩
        cases h' with
        | nil => exact hd
        | cons a r => exact hd
end
end OT
set_option Elab.async false
set_option linter.all false
set_option maxRecDepth 100000
set_option maxHeartbeats 4000000
namespace OT
open PySem L2 OTR
abbrev sRounds65 : Stmt := top 64
def catK {α : Type} (us ws : List α) : List α := us ++ ws
theorem catK_rel {vs zs : List V} {us ws : List Value} (r1 : Vals vs us) (r2 : Vals zs ws) : Vals (catK vs zs) (catK us ws) := r1.append r2
def itM (S : Int) (gs : List (Int × Int)) : Nat → Int → Int
  | 0, x => x
  | c + 1, x => mvL S gs (itM S gs c x)
theorem goR_mv {n tot S : Int} {ps : List Lp} {X : Int → Int} (T : TreeM n (lnF ps)) (L : LaneG (lnF ps) (lpSt ps) (lpFw ps) X tot) (hS : 1 ≤ S) {gs : List (Int × Int)} {xs : List MG} (rr : Paired (RowR ps) gs xs) (ok : ∀ x ∈ xs, MgOk (lnF ps) x) : ∀ {c : Nat} {u v : Nd}, OnT (lnF ps) S u → GoR (lnF ps) S xs c u v → OnT (lnF ps) S v ∧ cX ps X S v = itM S gs c (cX ps X S u)
  | 0, u, v, ou, h => by
    cases (show u = v from h)
    exact ⟨ou, rfl⟩
  | c + 1, u, v, ou, h => by
    obtain ⟨w, h1, h2⟩ := h
    obtain ⟨ow, ew⟩ := goR_mv T L hS rr ok ou h1
    refine ⟨GoL.on T hS ok ow h2, ?_⟩
    rw [goL_mv T L hS rr ow h2, ew]
    rfl
theorem trip_ne {K : PySem.W.Frag} {H : Hp} {a c : Addr} {k : Fact} {Q : Bool → Hp → Prop} (ha : TupAt H a k) (hc : TupAt H c k) (q : ∀ H', Same H H' → Q false H') : RNot (RTup K RFV) (.ref a) (.ref c) H Q := by
  have d : Dcv (RTup K RFV) (.ref a) (.ref c) (eqV (.int k.1) (.int k.1) && (eqV (.int k.2.1) (.int k.2.1) && (eqV (.int k.2.2) (.int k.2.2) && true))) H := Dcv.tup (SqT.of ha) (SqT.of hc) ⟨_, _, Dcv.flat rfl rfl, ⟨_, _, Dcv.flat rfl rfl, ⟨_, _, Dcv.flat rfl rfl, rfl, rfl⟩, rfl⟩, rfl⟩
  have e : (eqV (.int k.1) (.int k.1) && (eqV (.int k.2.1) (.int k.2.1) && (eqV (.int k.2.2) (.int k.2.2) && true))) = true := by
    rw [Bool.and_eq_true, Bool.and_eq_true, Bool.and_true, eqV_int, eqV_int, eqV_int]
    exact ⟨rfl, rfl, rfl⟩
  rw [e] at d
  exact d H (Same.refl _) _ fun H' s => q H' s
/-- goals and steps, and the same as marches of the program -/
def ItemAt (CM CP : Addr) (ps : List Lp) (H : Hp) (t : Addr) : Prop := ∃ (l1 l2 : Addr) (us : List Addr) (gs : List (Int × Int)) (ms : List Addr) (xs : List MG), H t = some (.tup [.ref l1, .ref l2]) ∧ H l1 = some (.lst (us.map V.ref)) ∧ Paired (GsAt H) us gs ∧ H l2 = some (.lst (ms.map V.ref)) ∧ MasAt CM CP H ms (xs.map mf) ∧ Paired (RowR ps) gs xs ∧ gs.length ≤ 4
theorem ItemAt.same {CM CP : Addr} {ps : List Lp} {H H' : Hp} {t : Addr} (h : ItemAt CM CP ps H t) (s : Same H H') : ItemAt CM CP ps H' t :=
  let ⟨l1, l2, us, gs, ms, xs, a, b, c, d, e, f, g⟩ := h; ⟨l1, l2, us, gs, ms, xs, s _ _ a, s _ _ b, Paired.mapP c fun _ _ (x : GsAt H _ _) => (show GsAt H' _ _ from s _ _ x), s _ _ d, MasAt.same e s, f, g⟩
def spRounds65 (K : PySem.W.Frag) (CT CR : Addr) : Sp := fun vs H Q _ => ∃ (s tr d : Addr) (n tot S x : Int) (ps : List Addr) (lps : List Lp) (X : Int → Int) (u : Nd), vs = [.ref s, .ref tr, .ref d, .int S, .int x] ∧ Src H s ∧ TreeAt K CT CR H tr n ps (lnF lps) ∧ LaneAt H d n tot lps ∧ LaneT n tot lps ∧ LaneG (lnF lps) (lpSt lps) (lpFw lps) X tot ∧ 1 ≤ S ∧ S ≤ 1000 ∧ OnT (lnF lps) S u ∧ cX lps X S u = x ∧
  ∀ H', But s H H' → Q (.bl true) H'
section
variable {P : Program} {w : World} {K : PySem.W.Frag} {mg : Str → Option Value} {base : Heap}
abbrev nRounds65 : List Str := ["_law_source_here", "_law_tree", "_law_lane_here", "_law_parts", "_law_at", "_law_count", "_law_goal", "_law_road", "_law_number", "_law_single", "_law_specs", "_law_marches", "_law_expected_here", "_law_turn", "_law_place"]
theorem scRounds65 : FnScope nRounds65 ["_law_source_here", "_law_tree", "_law_lane_here", "_law_parts", "_law_at"] (defScope sRounds65) := ⟨rfl, rfl, rfl, by decide +kernel, rfl, by decide +kernel, by decide +kernel⟩
theorem ok_rounds65 {f fD fC fF fRo fMv fEx fA fMa fPl fRw CT CR CM CP CW CB CNR COR CNW : Addr} {fd fdD fdC fdF fdRo fdMv fdEx fdA fdMa fdPl fdRw : FuncData} (F0 : Fun K "_law_many_rounds_right" "_law_many_rounds_right" sRounds65 f fd)
    (FD : FnOk P w K mg base CX0 1 fD fdD ["_law_source_here", "_law_bound"] spDraw) (bD : Binds K fdD ["_law_source_here", "_law_bound"] []) (mD : mg "_law_draw" = some (.ref fD)) (kD : PySem.W.keepIn K (.ref fD) = true)
    (FC : FnOk P w K mg base CX0 2 fC fdC ["_law_source_here", "_law_items"] (spPick K)) (bC : Binds K fdC ["_law_source_here", "_law_items"] []) (mC : mg "_law_choice" = some (.ref fC)) (kC : PySem.W.keepIn K (.ref fC) = true)
    (FF : FnOk P w K mg base CX0 1 fF fdF ["_law_lane_here", "_law_parts", "_law_at"] spForms) (bF : Binds K fdF ["_law_lane_here", "_law_parts", "_law_at"] []) (mF : mg "_law_forms" = some (.ref fF)) (kF : PySem.W.keepIn K (.ref fF) = true)
    (FRo : FnOk P w K mg base CX0 5 fRo fdRo ["_law_source_here", "_law_lane_here"] (spRow65 CM CP)) (bRo : Binds K fdRo ["_law_source_here", "_law_lane_here"] []) (mRo : mg "_law_row" = some (.ref fRo)) (kRo : PySem.W.keepIn K (.ref fRo) = true)
    (FMv : FnOk P w K mg base CX0 1 fMv fdMv ["_law_at", "_law_specs", "_law_parts"] (spMoved K)) (bMv : Binds K fdMv ["_law_at", "_law_specs", "_law_parts"] []) (mMv : mg "_law_moved" = some (.ref fMv)) (kMv : PySem.W.keepIn K (.ref fMv) = true)
    (FEx : FnOk P w K mg base CX0 2 fEx fdEx ["_law_lane_here", "_law_parts", "_law_at"] spExp65) (bEx : Binds K fdEx ["_law_lane_here", "_law_parts", "_law_at"] []) (mEx : mg "_law_expected" = some (.ref fEx)) (kEx : PySem.W.keepIn K (.ref fEx) = true)
    (FA : FnOk P w K mg base (L2.CX P w) 8 fA fdA ["row", "place", "rounds"] (spAfter K CT CR CM CP CW CB CNR COR)) (mA : mg "after" = some (.ref fA)) (kA : PySem.W.keepIn K (.ref fA) = true) (kbA : KBn K fdA ["row", "place", "rounds"] 2 ["rounds"] (fun us ws => catK us ws) (fun vs zs => catK vs zs))
    (TM : MaT K mg CM) (TP : PlT K mg CP) (MM : Mk K CM fMa) (MP : Mk K CP fPl) (FMa : FnOk P w K mg base CX0 1 fMa fdMa ["self", "goal", "steps"] (spMarchI CM)) (bMa : Binds K fdMa ["self", "goal", "steps"] [])
    (FPl : FnOk P w K mg base (L2.CX P w) 3 fPl fdPl ["self", "road", "number", "parts"] (spPlaceI CP CB)) (bPl : Binds K fdPl ["self", "road", "number", "parts"] [])
    (TW : RwT K mg CW) (MRw : Mk K CW fRw) (FRw : FnOk P w K mg base (L2.CX P w) 5 fRw fdRw ["self", "tree", "marches"] (spRowI K CT CR CM CP CW CB CNR COR CNW)) (bRw : Binds K fdRw ["self", "tree", "marches"] [])
    (hRg : mg "range" = none) : FnOk P w K mg base CX0 9 f fd ["_law_source_here", "_law_tree", "_law_lane_here", "_law_parts", "_law_at"] (spRounds65 K CT CR) := by
  refine F0.ok scRounds65 (fun vs H Q E h => ?_) (fun cdv A outer s0 H vs Q E hr h => ?_)
  · obtain ⟨s, tr, d, n, tot, S, x, ps, lps, X, u, rfl, _⟩ := h
    rfl
  · obtain ⟨s, tr, d, n, tot, S, x, ps, lps, X, u, rfl, hs, TA, la, lt, LG, S1, S2, ou, eu, kont⟩ := h
    have hu := hu_of hr
    have hr1 : Room 1 _ := hr.mono (by decide)
    have hr2 : Room 2 _ := hr.mono (by decide)
    have hr4 : Room 4 _ := hr.mono (by decide)
    have hr5 : Room 5 _ := hr.mono (by decide)
    have hr6 : Room 6 _ := hr.mono (by decide)
    refine ⟨_, pss_cons (ps_set (i := 5) scRounds65.nd rfl (Or.inl rfl) (pe_call FC hr2 rfl mC kC bC .nil pass0 (pa_cons (pv 0) (pa_cons (pe_lst (pa_cons pe_int (pa_cons pe_int (pa_cons (pe_op op_add pe_int (pe_call FD hr1 rfl mD kD bD .nil pass0 (pa_cons (pv 0) (pa_cons pe_int pa_nil)))) pa_nil)))) pa_nil))))
      (pss_cons (ps_set (i := 6) scRounds65.nd rfl (Or.inl rfl) (pe_call FC hr2 rfl mC kC bC .nil pass0 (pa_cons (pv 0) (pa_cons (pe_lst (pa_cons pe_int (pa_cons (pe_dget hu (pv 2) pe_str (fun _ _ => rfl)) pa_nil))) pa_nil))))
      (pss_cons (ps_asg (pe_ix ix_list (pe_call FF hr1 rfl mF kF bF .nil pass0 (pa_cons (pv 2) (pa_cons pe_int (pa_cons (pv 6) pa_nil)))) pe_int (fun _ _ => rfl)) (pg_tup rfl (pgs_cons (pg_name (i := 7) scRounds65.nd rfl (Or.inl rfl)) (pgs_cons (pg_name (i := 8) scRounds65.nd rfl (Or.inl rfl)) pgs_nil))))
      (pss_cons (ps_set (i := 9) scRounds65.nd rfl (Or.inl rfl) (pe_tup (pa_cons (pe_lst (pa_cons (pe_tup (pa_cons (pv 6) (pa_cons pe_int pa_nil))) pa_nil)) (pa_cons (pe_lst (pa_cons (pe_make MM FMa hr2 (by rfl) TM.mgC bMa .nil pass0 (pa_cons (pe_make MP FPl hr4 (by rfl) TP.mgC bPl .nil passF (pa_cons (pv 7) (pa_cons (pv 8) (pa_cons pe_int pa_nil)))) (pa_cons pe_int pa_nil))) pa_nil)) pa_nil))))
      (pss_cons (ps_asg (pe_call FC hr2 rfl mC kC bC .nil pass0 (pa_cons (pv 0) (pa_cons (pe_call FF hr1 rfl mF kF bF .nil pass0 (pa_cons (pv 2) (pa_cons (pv 3) (pa_cons (pv 4) pa_nil)))) pa_nil))) (pg_tup rfl (pgs_cons (pg_name (i := 7) scRounds65.nd rfl (Or.inl rfl)) (pgs_cons (pg_name (i := 8) scRounds65.nd rfl (Or.inl rfl)) pgs_nil))))
      (pss_cons (ps_for PassesOwn.never rfl (pi_list (pe_lst (pa_cons (pv 9) (pa_cons (pe_call FRo hr5 rfl mRo kRo bRo .nil pass0 (pa_cons (pv 0) (pa_cons (pv 2) pa_nil))) pa_nil)))) (pg_tup rfl (pgs_cons (pg_name (i := 10) scRounds65.nd rfl (Or.inl rfl)) (pgs_cons (pg_name (i := 11) scRounds65.nd rfl (Or.inl rfl)) pgs_nil)))
        (pss_cons (ps_set (i := 12) scRounds65.nd rfl (Or.inl rfl) (pv 4))
        (pss_cons (ps_for PassesOwn.never rfl (pi_range1 (by rfl) hRg (pa_cons (pv 5) pa_nil)) (pg_name (i := 13) scRounds65.nd rfl (Or.inl rfl))
          (pss_one (ps_set (i := 12) scRounds65.nd rfl (Or.inl rfl) (pe_call FMv hr1 rfl mMv kMv bMv .nil pass0 (pa_cons (pv 12) (pa_cons (pv 10) (pa_cons (pv 3) pa_nil)))))))
        (pss_cons (ps_set (i := 14) scRounds65.nd rfl (Or.inl rfl) (pe_callN FA hr rfl mA kA kbA passF (pa_cons (pe_make MRw FRw hr6 (by rfl) TW.mgC bRw .nil passF (pa_cons (pv 1) (pa_cons (pv 11) pa_nil))) (pa_cons (pe_make MP FPl hr4 (by rfl) TP.mgC bPl .nil passF (pa_cons (pv 7) (pa_cons (pv 8) (pa_cons (pv 3) pa_nil)))) pa_nil)) (pk_cons (pv 5) pk_nil)))
        (pss_one (ps_if (pt_cmpR (op_neB (rcB_tupNe (n := 1) eqB_fv) hr2) (pe_tup (pa_cons (pe_fld (pv 14) rfl) (pa_cons (pe_fld (pv 14) rfl) (pa_cons (pe_fld (pv 14) rfl) pa_nil)))) (pe_call FEx hr2 rfl mEx kEx bEx .nil pass0 (pa_cons (pv 2) (pa_cons (pv 3) (pa_cons (pv 12) pa_nil)))) (nomark _))
          (pss_one (ps_ret pe_bl))
          pss_nil))))))
      (pss_one (ps_ret pe_bl))))))), ?_⟩
    have lgS : S.natAbs.log2 < 9000 := by
      rw [Nat.log2_lt (by omega)]
      have h1 : S.natAbs < 2 ^ 60 := by omega
      exact Nat.lt_of_lt_of_le h1 (Nat.pow_le_pow_right (by decide) (by decide))
    -- count = choice(source, [1000, 1000, 1 + draw(source, 1000)])
    refine ⟨_, rfl, _, rfl, s, 1000, rfl, hs, by decide, by decide, fun c1 G1 c10 c11 sg1 bg1 => ⟨_, _, rfl, rfl, (by show 3 ≤ sizeLine; decide), fun q1 hq1 => ?_⟩⟩
    refine ⟨s, q1, _, rfl, sg1.same (Same.new hq1), sg1.new hq1, SqL.of upd_same, (by show 0 < 3; decide), (by show 3 < 1000000; decide), fun v G2 hv sg2 bg2 => ?_⟩
    obtain ⟨c, rfl, c0, c9⟩ : ∃ c : Int, v = .int c ∧ 0 ≤ c ∧ c ≤ 1000 := by
      rcases List.mem_cons.mp hv with e | hv
      · exact ⟨1000, e, by decide, by decide⟩
      · rcases List.mem_cons.mp hv with e | hv
        · exact ⟨1000, e, by decide, by decide⟩
        · exact ⟨_, List.mem_singleton.mp hv, by omega, by omega⟩
    have b2 : But s H G2 := fun b o e nb => bg2 b o (Same.new hq1 b o (bg1 b o e nb)) nb
    clear hv bg2 bg1 hq1 sg1
    -- goal = choice(source, [0, lane['total']])
    obtain ⟨L2', ts2, ed2, _⟩ := id (la.but hs b2)
    refine ⟨_, rfl, _, rfl, d, _, rfl, get_lt ed2, (by show 2 ≤ sizeLine; decide), fun q3 hq3 => ?_⟩
    refine ⟨s, q3, _, rfl, sg2.same (Same.new hq3), sg2.new hq3, SqL.of upd_same, (by show 0 < 2; decide), (by show 2 < 1000000; decide), fun v G4 hv sg4 bg4 => ?_⟩
    have t1 := lt.t1
    obtain ⟨goal, rfl, gl0, gl1⟩ : ∃ g : Int, v = .int g ∧ 0 ≤ g ∧ g ≤ tot * 1 := by
      rcases List.mem_cons.mp hv with e | hv
      · exact ⟨0, e, by decide, by omega⟩
      · exact ⟨tot, List.mem_singleton.mp hv, by omega, by omega⟩
    have b4 : But s H G4 := fun b o e nb => bg4 b o (Same.new hq3 b o (b2 b o e nb)) nb
    clear hv bg4 hq3 sg2 b2 ed2
    -- road, number = forms(lane, 1, goal)[0]
    obtain ⟨u1, ou1, eu1⟩ := cd_full lt.G.m LG (S := 1) (y := goal) (by decide) t1 gl0 gl1
    obtain ⟨k1, i1, rest1, ef1, _, on1, nd1⟩ := fm_key lt.G.m LG (S := 1) (by decide) lt.G.n2 ou1
    have ec1 : cdP (lnF lps) (lpSt lps) (lpFw lps) 1 k1 i1 = goal := by rw [← cd_node LG on1, nd1, eu1]
    refine ⟨_, rfl, _, rfl, d, n, tot, 1, goal, lps, rfl, la.but hs b4, lt, by decide, by decide, fun l5 ts5 G5 s5 hl5 el5 pr5 => ?_⟩
    have ef1' : fms lps 1 goal lps.length = (k1, i1) :: rest1 := by
      rw [← eu1, ← len_lnF]
      exact ef1
    rw [ef1'] at pr5
    cases pr5 with
    | cons pt5 pr5 =>
    rename_i t5 ts5
    refine ⟨l5, _, 0, .ref t5, rfl, rfl, SqL.of el5, atI_nat (j := 0) rfl, t5, _, rfl, SqT.of pt5, rfl, _, _, rfl, _, _, rfl, rfl, ?_⟩
    dsimp only [gName]
    -- single
    refine ⟨_, rfl, (by show 2 ≤ sizeLine; decide), fun p6 hp6 => ⟨(by show 1 ≤ sizeLine; decide), fun l6 hl6 => ?_⟩⟩
    have s6 := Same.new (o := .tup [.int goal, .int 1]) hp6
    have e6 := upd_same (H := G5) (a := p6) (o := .tup [.int goal, .int 1])
    generalize upd G5 p6 (.tup [.int goal, .int 1]) = G6 at s6 e6 hl6 ⊢
    have s7 := Same.new (o := .lst [.ref p6]) hl6
    have e7 := upd_same (H := G6) (a := l6) (o := .lst [.ref p6])
    have e6 := s7 _ _ e6
    generalize upd G6 l6 (.lst [.ref p6]) = G7 at s7 e7 e6 ⊢
    refine ⟨_, rfl, _, rfl, fun x8 dx8 nx ndx nex => ⟨x8, dx8, ((k1 : Int), i1, 1), rfl, upd_same, fun q => absurd q (by show ¬ (1 : Int) < 1; omega), fun _ => ⟨(by show (1 : Int).natAbs.log2 < 9000; decide), fun G8 px keep => ⟨rfl, fun x9 dx9 nx2 ndx2 nex2 => ⟨x9, dx9, x8, 1, rfl, upd_same, fun G9 mx keep2 => ⟨rfl, (by show 1 ≤ sizeLine; decide), fun l9 hl9 => ⟨(by show 2 ≤ sizeLine; decide), fun t9 ht9 => ?_⟩⟩⟩⟩⟩⟩⟩
    have s79 : Same G7 G9 := (made_same nx ndx keep).trans (made_same nx2 ndx2 keep2)
    have ma9 : MaAt CM CP G9 x9 (mf (k1, i1, 1)) := ⟨x8, mx, px.same (made_same nx2 ndx2 keep2)⟩
    have sA := Same.new (o := .lst [.ref x9]) hl9
    have eA := upd_same (H := G9) (a := l9) (o := .lst [.ref x9])
    have maA := ma9.same sA
    generalize upd G9 l9 (.lst [.ref x9]) = GA at sA eA maA ht9 ⊢
    have sB := Same.new (o := .tup [.ref l6, .ref l9]) ht9
    have eB := upd_same (H := GA) (a := t9) (o := .tup [.ref l6, .ref l9])
    have eA := sB _ _ eA
    have maB := maA.same sB
    have e7B := ((s79.trans sA).trans sB) _ _ e7
    have e6B := ((s79.trans sA).trans sB) _ _ e6
    have s5B := (((((s5.trans s6).trans s7).trans s79).trans sA).trans sB)
    generalize upd GA t9 (.tup [.ref l6, .ref l9]) = GB at sB eB eA maB e7B e6B s5B ⊢
    have er1 : (rd (lnF lps) k1).2.2 * 1 = (rd (lnF lps) k1).2.2 := Int.mul_one _
    have item : ItemAt CM CP lps GB t9 := ⟨l6, l9, [p6], [(goal, 1)], [x9], [(k1, i1, 1)], eB, e7B, .cons e6B .nil, eA, .cons maB .nil, .cons ⟨⟨on1.1, on1.2.1, by have := on1.2.2; unfold sz at this; rw [er1] at this; exact this, by show (1 : Int) ≤ 1; decide, by show (1 : Int) ≤ 1000000000; decide⟩, ec1, rfl⟩ .nil, by show 1 ≤ 4; decide⟩
    have sgB := sg4.same s5B
    have bB : But s H GB := b4.same s5B
    clear s6 s7 s79 sA sB px keep mx keep2 ma9 maA maB eA eB e7 e6 e7B e6B nx ndx nex nx2 ndx2 nex2 hl9 ht9 hl6 hp6 s5 el5 pt5 pr5 hl5 sg4 b4 s5B
    -- road, number = choice(source, forms(lane, parts, at))
    refine ⟨_, rfl, _, rfl, _, rfl, _, rfl, d, n, tot, S, x, lps, rfl, la.but hs bB, lt, S1, S2, fun lC tsC GC sC hlC elC prC => ?_⟩
    obtain ⟨k0, i0, rest, ef, _⟩ := fm_key lt.G.m LG S1 lt.G.n2 ou
    have hl0 : 0 < (tsC.map V.ref).length := by
      rw [List.length_map, Paired.length prC]
      unfold fms
      rw [← eu, ← len_lnF]
      unfold cX
      rw [ef]
      exact Nat.succ_pos _
    have hl8 : (tsC.map V.ref).length < 1000000 := by
      rw [List.length_map, Paired.length prC]
      have : ∀ m, (fms lps S x m).length ≤ m := fun m => by
        induction m with
        | zero => exact Nat.le_refl _
        | succ m ih =>
          unfold fms at ih ⊢
          unfold fmL
          rw [List.length_append]
          split
          · show _ + 1 ≤ _; omega
          · show _ + 0 ≤ _; omega
      have := this lps.length
      have := lt.p8
      omega
    refine ⟨s, lC, _, rfl, sgB.same sC, sgB.new hlC, SqL.of elC, hl0, hl8, fun v GD hv sgD bgD => ?_⟩
    obtain ⟨t, ht, rfl⟩ := List.mem_map.mp hv
    obtain ⟨j, hj⟩ := List.getElem?_of_mem ht
    obtain ⟨⟨k, i'⟩, hki, pt⟩ := paired_get prC hj
    have mem := List.mem_of_getElem? hki
    obtain ⟨on, ecd⟩ := fm_on (F := lnF lps) (st := lpSt lps) (fw := lpFw lps) (S := S) (x := x) (m := lps.length) (Nat.le_of_eq (len_lnF lps).symm) mem
    have pt8 : GD t = some (.tup [.int (k : Nat), .int i']) := bgD _ _ pt ((sgB.same sC).ne pt fun _ _ _ z => nomatch z)
    refine ⟨t, _, rfl, SqT.of pt8, rfl, _, _, rfl, _, _, rfl, rfl, ?_⟩
    dsimp only [gName]
    have ecx : cX lps X S (node (lnF lps) S k i') = x := (cd_node LG on).trans ecd
    have bD' : But s H GD := fun b o e nb => bgD b o (sC b o (bB b o e nb)) nb
    have kzBD : Kz GB GD := (Kz.of sC).trans (kz_but (sgB.same sC) bgD)
    have lstD : ∀ {c : Addr} {xs : List V}, GB c = some (.lst xs) → c ≠ s → GD c = some (.lst xs) := fun {c xs} e nb => bgD _ _ (sC _ _ e) nb
    -- for specs, marches in [single, row(source, lane)]
    refine ⟨_, rfl, _, rfl, _, rfl, s, d, n, tot, lps, rfl, sgD, la.but hs bD', lt, fun t2 m1 m2 us gs ms xs GE ht2 et2 hm1 em1 pgs hm2 em2 pms rr g4 sgE bgE => ⟨(by show 2 ≤ sizeLine; decide), fun qE hqE => ?_⟩⟩
    have itemE : ItemAt CM CP lps GE t9 := by
      obtain ⟨l1, l2, us', gs', ms', xs', a, b, c, d', e, f', g⟩ := item
      have kzBE : Kz GB GE := kzBD.trans (kz_but sgD bgE)
      have n1 : l1 ≠ s := sgB.ne b fun x y z q => by
        have e1 := HO.lst.inj q
        cases us' with
        | nil => exact nomatch e1
        | cons t r =>
          rw [List.map_cons] at e1
          exact nomatch (List.cons.inj e1).1
      have n2 : l2 ≠ s := sgB.ne d' fun x y z q => by
        have e1 := HO.lst.inj q
        cases ms' with
        | nil => exact nomatch e1
        | cons t r =>
          rw [List.map_cons] at e1
          exact nomatch (List.cons.inj e1).1
      exact ⟨l1, l2, us', gs', ms', xs', kzBE _ _ a .tup, bgE _ _ (lstD b n1) n1, Paired.mapP c fun _ _ (x : GsAt GB _ _) => (show GsAt GE _ _ from kzBE _ _ x .tup), bgE _ _ (lstD d' n2) n2, e.kz kzBE, f', g⟩
    have item2 : ItemAt CM CP lps GE t2 := ⟨m1, m2, us, gs, ms, xs, et2, em1, pgs, em2, pms, rr, g4⟩
    have sF := Same.new (o := .lst [.ref t9, .ref t2]) hqE
    have gF := upd_same (H := GE) (a := qE) (o := .lst [.ref t9, .ref t2])
    have bE : But s H GE := bD'.trans bgE
    have laE := la.but hs bE
    have TAE := TA.kz (kz_but hs bE)
    generalize upd GE qE (.lst [.ref t9, .ref t2]) = GF at sF gF ⊢
    refine ⟨qE, rfl, ⟨_, SqL.of gF⟩, for_list (K := K) (a := qE) (xs := [.ref t9, .ref t2]) (fun i σ G => ∃ (v9 v10 v11 v12 v13 v14 : Option V), σ = [some (.ref s), some (.ref tr), some (.ref d), some (.int S), some (.int x), some (.int c), some (.int goal), some (.int (k : Nat)), some (.int i'), v9, v10, v11, v12, v13, v14] ∧ Same GE G ∧ G qE = some (.lst [.ref t9, .ref t2]))
      ⟨_, none, none, none, none, none, rfl, sF, gF⟩ (fun i σ G _ ⟨_, _, _, _, _, _, _, _, gq⟩ => SqL.of gq) ?_ ?_⟩
    · rintro i y σ G hi ⟨v9, v10, v11, v12, v13, v14, rfl, sG, gq⟩
      obtain ⟨tt, rfl, it⟩ : ∃ tt, y = .ref tt ∧ ItemAt CM CP lps G tt := by
        match i, hi with
        | 0, hi =>
          cases hi
          exact ⟨t9, rfl, itemE.same sG⟩
        | 1, hi =>
          cases hi
          exact ⟨t2, rfl, item2.same sG⟩
        | i + 2, hi => simp at hi
      obtain ⟨l1, l2, us, gs, ms, xs, e0, e1, pgs, e2, pms, rr, g4⟩ := it
      refine ⟨tt, _, rfl, SqT.of e0, rfl, _, _, rfl, _, _, rfl, rfl, ?_⟩
      dsimp only [gName]
      have okx : ∀ q ∈ xs, MgOk (lnF lps) q := fun q hq => by
        obtain ⟨j, hj⟩ := List.getElem?_of_mem hq
        have lj := (List.getElem?_eq_some_iff.mp hj).1
        have : j < gs.length := by rw [Paired.length rr]; exact lj
        obtain ⟨x', hx', r⟩ := paired_get rr (List.getElem?_eq_getElem this)
        rw [hj] at hx'
        cases hx'
        exact r.1
      have xl : xs.length ≤ 4 := by rw [← Paired.length rr]; exact g4
      -- expected = at; count times moved
      refine ⟨_, rfl, _, rfl, c, rfl, by omega, by omega, ?_⟩
      refine for_range (lo := 0) (n := c.toNat) (fun j σ G' => ∃ v13 : Option V, σ = [some (.ref s), some (.ref tr), some (.ref d), some (.int S), some (.int x), some (.int c), some (.int goal), some (.int (k : Nat)), some (.int i'), v9, some (.ref l1), some (.ref l2), some (.int (itM S gs j x)), v13, v14] ∧ G' = G)
        ⟨v13, rfl, rfl⟩ ?_ ?_
      · rintro j σ G' hj ⟨v13, rfl, rfl⟩
        exact ⟨_, rfl, _, rfl, _, rfl, _, S, l1, us, gs, rfl, e1, pgs, S1, S2, _, rfl, rfl⟩
      rintro σ G' ⟨v13, rfl, rfl⟩
      -- after(Row(tree, marches), Place(road, number, parts), rounds=count)
      refine ⟨_, rfl, _, rfl, fun y dy ny ndy nyd => ?_⟩
      have s9 := (Same.new (o := .own y) ndy).trans (Same.new (o := .ins CW dy []) (show upd G' dy (.own y) y = none by rw [upd_ne (Ne.symm nyd)]; exact ny))
      refine ⟨y, dy, tr, l2, n, ps, lnF lps, ms, xs.map mf, G', rfl, upd_same, ny, s9, TAE.same sG, lt.G, .inl (SqL.of e2), pms, fun m hm => ?_, by rw [List.length_map]; omega, noM (dueM_mg okx (by omega)), fun _ H9 RA s89 => ⟨rfl, ?_⟩⟩
      · obtain ⟨q, _, rfl⟩ := List.mem_map.mp hm
        exact msm_mf q
      refine ⟨_, rfl, _, rfl, _, rfl, fun p3 dp3 np3 ndp3 nep3 => ⟨p3, dp3, ((k : Int), i', S), rfl, upd_same, fun z => absurd z (by show ¬ S < 1; omega), fun _ => ⟨lgS, fun Ga P9 keep9 => ⟨rfl, _, rfl, rfl, rfl, ?_⟩⟩⟩⟩
      have sa : Same H9 Ga := made_same np3 ndp3 keep9
      have pe := mkPl0 (F := lnF lps) (s := S) (k := k) (i := i') S1 on
      have sGa : Same G' Ga := s89.trans sa
      refine ⟨y, p3, tr, c, n, S, i', k, ps, lnF lps, ms, xs, low (((k : Nat) : Int), i', S), rfl, let ⟨u, t, e1, e2⟩ := RA; ⟨u, t, sa _ _ e1, sqT_same e2 sa⟩, TAE.same (sG.trans sGa), lt.G, MasAt.same pms sGa, okx, by omega, P9, low_sm S1 (by show S < 2 ^ 60; omega), pe.lo, PlErr.none pe.pl, fun _ z => absurd ⟨c0, c9⟩ z, fun _ => ⟨pe, S1, S2⟩, fun _ _ _ pa Gb v sb gr pla => ?_⟩
      obtain ⟨ov, ev⟩ := goR_mv lt.G.m LG S1 rr okx ⟨k, i', on, rfl⟩ gr
      rw [ecx] at ev
      obtain ⟨da, ea⟩ := id pla
      -- (place.road, place.number, place.parts) != expected(lane, parts, expected_here)
      refine ⟨_, rfl, pa, CP, da, _, _, rfl, ea, TP.cl, TP.nR, plF_r _, _, rfl, pa, CP, da, _, _, rfl, ea, TP.cl, TP.nN, plF_n _, _, rfl, pa, CP, da, _, _, rfl, ea, TP.cl, TP.nP, plF_p _, (by show 3 ≤ sizeLine; decide), fun q hq => ?_⟩
      have sq := Same.new (o := .tup [.int (keyF (lnF lps) S v).1, .int (keyF (lnF lps) S v).2.1, .int (keyF (lnF lps) S v).2.2]) hq
      have tq : TupAt _ q (keyF (lnF lps) S v) := upd_same (H := Gb) (a := q) (o := .tup [.int (keyF (lnF lps) S v).1, .int (keyF (lnF lps) S v).2.1, .int (keyF (lnF lps) S v).2.2])
      generalize upd Gb q (.tup [.int (keyF (lnF lps) S v).1, .int (keyF (lnF lps) S v).2.1, .int (keyF (lnF lps) S v).2.2]) = Gc at sq tq ⊢
      have sGc : Same GE Gc := ((sG.trans sGa).trans sb).trans sq
      refine ⟨_, rfl, _, rfl, _, rfl, d, n, tot, S, _, lps, X, v, rfl, laE.same sGc, lt, LG, S1, S2, ov, ev, fun t' Gd sd ht' tt' => ?_⟩
      refine trip_ne (show TupAt Gd q _ from sd _ _ tq) tt' fun Ge se => ⟨_, rfl, iteF ?_⟩
      have sfin := ((sGc.trans sd).trans se)
      exact ⟨_, _, _, _, _, _, rfl, sfin, (((((sGa.trans sb).trans sq).trans sd).trans se)) _ _ gq⟩
    · rintro σ G ⟨v9, v10, v11, v12, v13, v14, rfl, sG, gq⟩
      exact kont G (bE.same sG)
end
end OT
set_option Elab.async false
set_option linter.all false
set_option maxRecDepth 100000
set_option maxHeartbeats 4000000
namespace OTR
open PySem L2
section
variable {X : Cx}
/-- d[k] as a target among others -/
def rSetD : V → V → V → Hp → (Hp → Prop) → Prop := fun o i v H Q => ∃ a H', o = .ref a ∧ DPut H a i v H' ∧ Q H'
theorem set_dict (hu : X.A.units + 1 < cLine) : PSet X rSetD := by
  intro pins s σ H o i v ov iv u Q I ro ri rv h
  obtain ⟨a, H', rfl, g, q⟩ := h
  cases ro
  exact d_setItem hu I g ri rv fun s' I' => ⟨H', I', q⟩
end
end OTR
namespace OT
open PySem L2 OTR
/-- as Kz, tables apart -/
def KzD (H H' : Hp) : Prop := ∀ c o, H c = some o → Cst o → (∀ kvs, o ≠ .dK kvs) → H' c = some o
section
variable {K : PySem.W.Frag} {CT CR CM CP CW CBk : Addr} {n : Int} {F : List Fact} {S : Int} {av : List Addr} {H H' : Hp} {b P : Addr} {st : BSt} {hist : List BSt}
theorem sqT_kzd {p : Addr} {xs : List V} (h : SqT K H p xs) (k : KzD H H') : SqT K H' p xs := by
  rcases h with (h | ⟨o, h⟩) | h
  · exact .inl (.inl (k _ _ h .tup (fun _ z => nomatch z)))
  · exact .inl (.inr ⟨o, k _ _ h .frz (fun _ z => nomatch z)⟩)
  · exact .inr h
theorem TreeAt.kzd {p : Addr} {ps : List Addr} (h : TreeAt K CT CR H p n ps F) (k : KzD H H') : TreeAt K CT CR H' p n ps F :=
  let ⟨dx, t, d, kvs, a, b, c, e⟩ := h
  ⟨dx, t, d, kvs, k _ _ a (.ins (show 3 ≠ 5 by decide)) (fun _ z => nomatch z), sqT_kzd b k, Paired.mapP c fun _ _ ⟨dy, z⟩ => ⟨dy, k _ _ z (.ins (show 3 ≠ 5 by decide)) (fun _ z => nomatch z)⟩, ⟨k _ _ e.dc .dT (fun _ z => nomatch z), e.has, fun x y v z => let ⟨q, l, a, b, c⟩ := e.val x y v z; ⟨q, l, a, sqT_kzd b k, c⟩, e.len⟩⟩
theorem PlaceAt.kzd {C p : Addr} {r : Fact} (h : PlaceAt C H p r) (k : KzD H H') : PlaceAt C H' p r := let ⟨dx, e⟩ := h; ⟨dx, k _ _ e (.ins (show 3 ≠ 5 by decide)) (fun _ z => nomatch z)⟩
theorem MasAt.kzd {ps : List Addr} {l : List MFact} (h : MasAt CM CP H ps l) (k : KzD H H') : MasAt CM CP H' ps l := Paired.mapP h fun _ _ ⟨g, ⟨dx, e⟩, b⟩ => ⟨g, ⟨dx, k _ _ e (.ins (show 2 ≠ 5 by decide)) (fun _ z => nomatch z)⟩, b.kzd k⟩
theorem RowS.kzd {p : Addr} {xs : List MG} (h : RowS K CT CR CM CP CW H p n F xs) (k : KzD H H') : RowS K CT CR CM CP CW H' p n F xs :=
  ⟨h.ok, h.len, h.G, let ⟨a, ps, ms, ⟨dx, t, e, u⟩, tr, m⟩ := h.at_; ⟨a, ps, ms, ⟨dx, t, k _ _ e (.ins (show 2 ≠ 5 by decide)) (fun _ z => nomatch z), sqT_kzd u k⟩, tr.kzd k, m.kzd k⟩⟩
theorem KvR.kzd {kvs : List (Key × V)} {l : List (Str × List MG)} (h : KvR K CT CR CM CP CW n F H kvs l) (k : KzD H H') : KvR K CT CR CM CP CW n F H' kvs l :=
  Paired.mapP h fun _ _ ⟨e, rw', e2, r⟩ => ⟨e, rw', e2, r.kzd k⟩
/-- a table that is none of the book's changes -/
theorem BookAt.dput (h : BookAt K CT CR CM CP CW CBk n F S av H b P st hist) {rd : Addr} {kvs : List (Key × V)} (e : H rd = some (.dK kvs)) (no : ∀ rows, ¬ KvR K CT CR CM CP CW n F H kvs rows) (bt : ∀ c o, H c = some o → c ≠ rd → H' c = some o) : BookAt K CT CR CM CP CW CBk n F S av H' b P st hist := by
  have kd : KzD H H' := fun c o ec _ nk => bt c o ec fun z => by
    rw [z, e] at ec
    exact nk kvs (Option.some.inj ec).symm
  have ot : ∀ {c : Addr} {o : HO}, H c = some o → (∀ kvs, o ≠ .dK kvs) → H' c = some o := fun {c o} ec nk => bt c o ec fun z => by
    rw [z, e] at ec
    exact nk kvs (Option.some.inj ec).symm
  have up : ∀ {D L A : Addr} {s' : BSt}, BkSt K CT CR CM CP CW n F S av H D L A s' → BkSt K CT CR CM CP CW n F S av H' D L A s' := fun s => by
    refine ⟨s.ok, ?_, ?_, s.av, ot s.ans (fun _ z => nomatch z)⟩
    · obtain ⟨kv, eD, r⟩ := s.kept
      refine ⟨kv, bt _ _ eD fun z => ?_, r.kzd kd⟩
      rw [z, e] at eD
      cases eD
      exact no _ r
    · obtain ⟨ps, eL, pr⟩ := s.folk
      exact ⟨ps, ot eL (fun _ z => nomatch z), Paired.mapP pr fun _ _ p => p.kzd kd⟩
  obtain ⟨dx, x, D, L, A, ps, ts, eb, te, s, eP, pr⟩ := h.at_
  exact ⟨⟨dx, x, D, L, A, ps, ts, ot eb (fun _ z => nomatch z), te.kzd kd, up s, ot eP (fun _ z => nomatch z), Paired.mapP pr fun _ _ ⟨D', L', A', e', s'⟩ => ⟨D', L', A', ot e' (fun _ z => nomatch z), up s'⟩⟩, h.G, h.S1, h.S2, h.inP, h.short⟩
/-- the book, whatever becomes of a table -/
def BkD (K : PySem.W.Frag) (CT CR CM CP CW CBk : Addr) (n : Int) (F : List Fact) (S : Int) (av : List Addr) (rd : Addr) (H : Hp) (b P : Addr) (st : BSt) (hist : List BSt) : Prop :=
  ∀ H' : Hp, (∀ c o, H c = some o → c ≠ rd → H' c = some o) → BookAt K CT CR CM CP CW CBk n F S av H' b P st hist
theorem BkD.at' {rd : Addr} (h : BkD K CT CR CM CP CW CBk n F S av rd H b P st hist) : BookAt K CT CR CM CP CW CBk n F S av H b P st hist := h H fun _ _ e _ => e
theorem BkD.new {rd : Addr} {o : HO} (h : BookAt K CT CR CM CP CW CBk n F S av H b P st hist) (hr : H rd = none) : BkD K CT CR CM CP CW CBk n F S av rd (upd H rd o) b P st hist := fun H' k => h.same fun c u e => k c u ((upd_ne (ne_of_none e hr)).trans e) (ne_of_none e hr)
theorem BkD.same {rd : Addr} (h : BkD K CT CR CM CP CW CBk n F S av rd H b P st hist) (s : Same H H') : BkD K CT CR CM CP CW CBk n F S av rd H' b P st hist := fun G k => h G fun c o e n => k c o (s c o e) n
theorem BkD.put {rd : Addr} {o : HO} (h : BkD K CT CR CM CP CW CBk n F S av rd H b P st hist) : BkD K CT CR CM CP CW CBk n F S av rd (upd H rd o) b P st hist := fun G k => h G fun c u e n => k c u ((upd_ne n).trans e) n
theorem BkD.but {rd s : Addr} {xs : List V} (h : BkD K CT CR CM CP CW CBk n F S av rd H b P st hist) (es : H s = some (.lst xs)) (ins : s ∈ av) (nP : s ≠ P) (k : But s H H') : BkD K CT CR CM CP CW CBk n F S av rd H' b P st hist := fun G kg => by
  have h2 := h (fun c => if c = s then H s else G c) fun c o e n => by
    show (if c = s then H s else G c) = some o
    by_cases z : c = s
    · rw [if_pos z, ← z]
      exact e
    · rw [if_neg z]
      exact kg c o (k c o e z) n
  refine h2.but (s := s) (xs := xs) ?_ ins nP fun c o e n => ?_
  · show (if s = s then H s else G s) = _
    rw [if_pos rfl]
    exact es
  · have e' : (if c = s then H s else G c) = some o := e
    rw [if_neg n] at e'
    exact e'
end
theorem bt3_kz {K : PySem.W.Frag} {CT CR CM CP CW CBk : Addr} {n : Int} {F : List Fact} {S : Int} {av : List Addr} {s b P : Addr} {H G : Hp} {st : BSt} {hi : List BSt} (src : Src H s) (Bk : BookAt K CT CR CM CP CW CBk n F S av H b P st hi) (k : Bt3 s b P H G) : Kz H G := fun c o e q => by
  obtain ⟨_, _, _, _, es⟩ := src
  obtain ⟨dx, x, D, L, A, ps, ts, eb, _, _, eP, _⟩ := Bk.at_
  refine k c o e (fun z => ?_) (fun z => ?_) fun z => ?_
  · rw [z, es] at e
    exact q.1 _ (Option.some.inj e).symm
  · rw [z, eb] at e
    exact q.2.2 _ _ _ (Option.some.inj e).symm rfl
  · rw [z, eP] at e
    exact q.1 _ (Option.some.inj e).symm
/-- a row more -/
theorem rws_put {B H : Hp} {ps : List Lp} {kvs : List (Key × V)} {zs : List (Str × List (Int × Int))} {rows : List (Str × List MG)} {z : Str} {l : Addr} {us : List Addr} {gs : List (Int × Int)} {xs : List MG} (pk : Paired (KvZ B H) kvs zs) (pz : Paired (ZrR ps) zs rows) (new : z ∉ rows.map (·.1)) (nb : B l = none) (el : H l = some (.lst (us.map V.ref))) (pg : Paired (GsAt H) us gs) (rr : Paired (RowR ps) gs xs) :
    putK kvs (.inr z) (.ref l) = kvs ++ [(.inr z, .ref l)] ∧ Paired (KvZ B H) (kvs ++ [(.inr z, .ref l)]) (zs ++ [(z, gs)]) ∧ Paired (ZrR ps) (zs ++ [(z, gs)]) (rows ++ [(z, xs)]) ∧ putR rows z xs = rows ++ [(z, xs)] ∧ rowOf rows z = none := by
  have nk : (.inr z : Key) ∉ kvs.map (·.1) := fun h => by
    rw [rws_keys pk pz] at h
    obtain ⟨y, hy, e⟩ := List.mem_map.mp h
    exact new (Sum.inr.inj e ▸ hy)
  refine ⟨?_, paired_snoc pk ⟨rfl, l, us, rfl, nb, el, pg⟩, paired_snoc pz ⟨rfl, rr⟩, ?_, ?_⟩
  · refine putK_new _ ?_
    cases e : valV kvs (.inr z) with
    | none => rfl
    | some v =>
      have h := valV_any (.inr z : Key) kvs
      rw [e] at h
      obtain ⟨kv, hm, hk⟩ := List.any_eq_true.mp h
      exact absurd (List.mem_map.mpr ⟨kv, hm, by simpa using hk⟩) nk
  · unfold putR
    rw [if_neg]
    intro h
    obtain ⟨r, hr, e⟩ := List.any_eq_true.mp h
    exact new (List.mem_map.mpr ⟨r, hr, by simpa using e⟩)
  · cases e : rowOf rows z with
    | none => rfl
    | some xs' =>
      unfold rowOf at e
      cases f : rows.find? (fun a => decide (a.1 = z)) with
      | none => rw [f] at e; cases e
      | some a =>
        have h2 := List.find?_some f
        exact absurd (List.mem_map.mpr ⟨a, List.mem_of_find?_eq_some f, by simpa using h2⟩) new
end OT
set_option Elab.async false
set_option linter.all false
set_option maxRecDepth 100000
set_option maxHeartbeats 4000000
namespace OT
open PySem L2 OTR
abbrev sLaw : Stmt := top 65
section
variable {P : Program} {w : World} {K : PySem.W.Frag} {mg : Str → Option Value} {base : Heap}
abbrev nLaw65 : List Str := ["_law_script", "_law_index", "_law_source_here", "_law_lane_here", "_law_parts", "_law_tree", "_law_book", "_law_folk", "_law_at", "_law_road", "_law_number", "_law_rows", "_law_text", "_law_marches", "_law_piece", "_law_turn"]
theorem scLaw65 : FnScope nLaw65 ["_law_script"] (defScope sLaw) := ⟨rfl, rfl, rfl, by decide +kernel, rfl, by decide +kernel, by decide +kernel⟩
theorem ok_law65 {f fCe fRg fD fLa fC fCo fF fRo fSt fCr fMr fR fT fBk fPo fKp fPl CT CR CM CP CW CBk CB CN CG CNN CNR COR CNW : Addr} {fd fdCe fdRg fdD fdLa fdC fdCo fdF fdRo fdSt fdCr fdMr fdR fdT fdBk fdPo fdKp fdPl : FuncData} (F0 : Fun K "law" "law" sLaw f fd) (T : BkT K mg CBk)
    (FCe : FnOk P w K mg base CX0 1 fCe fdCe ["_law_script", "_law_index"] (spCellAt K)) (bCe : Binds K fdCe ["_law_script", "_law_index"] []) (mCe : mg "_law_cell_at" = some (.ref fCe)) (kCe : PySem.W.keepIn K (.ref fCe) = true)
    (FRg : FnOk P w K mg base CX0 1 fRg fdRg ["_law_cell"] spSource) (bRg : Binds K fdRg ["_law_cell"] []) (mRg : mg "_law_source" = some (.ref fRg)) (kRg : PySem.W.keepIn K (.ref fRg) = true)
    (FD : FnOk P w K mg base CX0 1 fD fdD ["_law_source_here", "_law_bound"] spDraw) (bD : Binds K fdD ["_law_source_here", "_law_bound"] []) (mD : mg "_law_draw" = some (.ref fD)) (kD : PySem.W.keepIn K (.ref fD) = true)
    (FLa : FnOk P w K mg base CX0 3 fLa fdLa ["_law_source_here"] spLane) (bLa : Binds K fdLa ["_law_source_here"] []) (mLa : mg "_law_lane" = some (.ref fLa)) (kLa : PySem.W.keepIn K (.ref fLa) = true)
    (FC : FnOk P w K mg base CX0 2 fC fdC ["_law_source_here", "_law_items"] (spPick K)) (bC : Binds K fdC ["_law_source_here", "_law_items"] []) (mC : mg "_law_choice" = some (.ref fC)) (kC : PySem.W.keepIn K (.ref fC) = true)
    (FCo : FnOk P w K mg base CX0 3 fCo fdCo ["_law_source_here", "_law_lane_here", "_law_parts"] spCoord) (bCo : Binds K fdCo ["_law_source_here", "_law_lane_here", "_law_parts"] []) (mCo : mg "_law_coordinate" = some (.ref fCo)) (kCo : PySem.W.keepIn K (.ref fCo) = true)
    (FF : FnOk P w K mg base CX0 1 fF fdF ["_law_lane_here", "_law_parts", "_law_at"] spForms) (bF : Binds K fdF ["_law_lane_here", "_law_parts", "_law_at"] []) (mF : mg "_law_forms" = some (.ref fF)) (kF : PySem.W.keepIn K (.ref fF) = true)
    (FRo : FnOk P w K mg base CX0 5 fRo fdRo ["_law_source_here", "_law_lane_here"] (spRow65 CM CP)) (bRo : Binds K fdRo ["_law_source_here", "_law_lane_here"] []) (mRo : mg "_law_row" = some (.ref fRo)) (kRo : PySem.W.keepIn K (.ref fRo) = true)
    (FSt : FnOk P w K mg base CX0 4 fSt fdSt ["_law_book", "_law_lane_here", "_law_parts", "_law_folk"] (spStands K CT CR CM CP CW CBk)) (bSt : Binds K fdSt ["_law_book", "_law_lane_here", "_law_parts", "_law_folk"] []) (mSt : mg "_law_stands" = some (.ref fSt)) (kSt : PySem.W.keepIn K (.ref fSt) = true)
    (FCr : FnOk P w K mg base CX0 10 fCr fdCr ["_law_source_here", "_law_book", "_law_lane_here", "_law_parts", "_law_folk", "_law_rows"] (spCalls65 K CT CR CM CP CW CBk)) (bCr : Binds K fdCr ["_law_source_here", "_law_book", "_law_lane_here", "_law_parts", "_law_folk", "_law_rows"] []) (mCr : mg "_law_calls_right" = some (.ref fCr)) (kCr : PySem.W.keepIn K (.ref fCr) = true)
    (FMr : FnOk P w K mg base CX0 9 fMr fdMr ["_law_source_here", "_law_tree", "_law_lane_here", "_law_parts", "_law_at"] (spRounds65 K CT CR)) (bMr : Binds K fdMr ["_law_source_here", "_law_tree", "_law_lane_here", "_law_parts", "_law_at"] []) (mMr : mg "_law_many_rounds_right" = some (.ref fMr)) (kMr : PySem.W.keepIn K (.ref fMr) = true)
    (TR : RdT K mg CR) (TT : TeT K mg CT) (MR : Mk K CR fR) (MT : Mk K CT fT)
    (FR : FnOk P w K mg base CX0 1 fR fdR ["self", "a", "b", "length"] (spRoadI CR)) (bR : Binds K fdR ["self", "a", "b", "length"] [])
    (FT : FnOk P w K mg base (L2.CX P w) 5 fT fdT ["self", "crossings", "roads"] (spTreeI K CT CR CB CN CG)) (bT : Binds K fdT ["self", "crossings", "roads"] [])
    (MBk : Mk K CBk fBk) (FBk : FnOk P w K mg base CX0 1 fBk fdBk ["self", "tree"] (spBkI K CT CR CM CP CW CBk)) (bBk : Binds K fdBk ["self", "tree"] [])
    (hPo : Meth K CBk "post" fPo) (FPo : FnOk P w K mg base (L2.CX P w) 7 fPo fdPo ["self", "place"] (spBkPost K CT CR CM CP CW CBk CB CNR COR)) (bPo : Binds K fdPo ["self", "place"] [])
    (hKp : Meth K CBk "keep" fKp) (FKp : FnOk P w K mg base (L2.CX P w) 10 fKp fdKp ["self", "name", "marches"] (spBkKeep K CT CR CM CP CW CBk CB CNN CNR COR CNW)) (bKp : Binds K fdKp ["self", "name", "marches"] [])
    (TP : PlT K mg CP) (MP : Mk K CP fPl) (FPl : FnOk P w K mg base (L2.CX P w) 3 fPl fdPl ["self", "road", "number", "parts"] (spPlaceI CP CB)) (bPl : Binds K fdPl ["self", "road", "number", "parts"] [])
    (hLen : mg "len" = none) (hRg : mg "range" = none) (hMax : mg "max" = none) (hMin : mg "min" = none) :
    FnOk P w K mg base CX0 11 f fd ["_law_script"] (spLaw K) := by
  refine F0.ok scLaw65 (fun vs H Q E h => ?_) (fun cdv A outer s0 H vs Q E hr h => ?_)
  · obtain ⟨a, ns, rfl, _⟩ := h
    rfl
  · obtain ⟨a, ns, rfl, hS, hns, kont⟩ := h
    have hu := hu_of hr
    have hr1 : Room 1 _ := hr.mono (by decide)
    have hr2 : Room 2 _ := hr.mono (by decide)
    have hr3 : Room 3 _ := hr.mono (by decide)
    have hr4 : Room 4 _ := hr.mono (by decide)
    have hr5 : Room 5 _ := hr.mono (by decide)
    have hr6 : Room 6 _ := hr.mono (by decide)
    have hr7 : Room 7 _ := hr.mono (by decide)
    have hr9 : Room 9 _ := hr.mono (by decide)
    refine ⟨_, pss_cons (ps_for PassesOwn.never rfl (pi_range1 (by rfl) hRg (pa_cons (pe_callB (call_max2 rfl) (by rfl) hMax (by decide +kernel) (pa_cons pe_int (pa_cons (pe_callB (call_min2 rfl) (by rfl) hMin (by decide +kernel) (pa_cons pe_int (pa_cons (pe_callB call_len_seq (by rfl) hLen PySem.boot_len (pa_cons (pv 0) pa_nil)) pa_nil))) pa_nil))) pa_nil)) (pg_name (i := 1) scLaw65.nd rfl (Or.inl rfl))
        (pss_cons (ps_set (i := 2) scLaw65.nd rfl (Or.inr rfl) (pe_call FRg hr1 rfl mRg kRg bRg .nil pass0 (pa_cons (pe_call FCe hr1 rfl mCe kCe bCe .nil pass0 (pa_cons (pv 0) (pa_cons (pv 1) pa_nil))) pa_nil)))
        (pss_cons (ps_set (i := 3) scLaw65.nd rfl (Or.inr rfl) (pe_call FLa hr3 rfl mLa kLa bLa .nil pass0 (pa_cons (pv 2) pa_nil)))
        (pss_cons (ps_set (i := 4) scLaw65.nd rfl (Or.inr rfl) (pe_call FC hr2 rfl mC kC bC .nil pass0 (pa_cons (pv 2) (pa_cons (pe_lst (pa_cons pe_int (pa_cons pe_int (pa_cons pe_int (pa_cons pe_int (pa_cons (pe_op op_add pe_int (pe_call FD hr1 rfl mD kD bD .nil pass0 (pa_cons (pv 2) (pa_cons pe_int pa_nil)))) pa_nil)))))) pa_nil))))
        (pss_cons (ps_set (i := 5) scLaw65.nd rfl (Or.inl rfl) (pe_make MT FT hr6 (by rfl) TT.mgC bT .nil passF (pa_cons (pe_dget hu (pv 3) pe_str (fun _ _ => rfl)) (pa_cons (pe_lc (own := [("_law_piece", 14)]) (g := gName 14) (tt := tYes) (te := tMake CR (spRoadI CR) [] E0 (tCons (tOp (rIxT K) (tOp (rIxT K) (tVar 14) (tC (.int 3))) (tC (.int 0))) (tCons (tOp (rIxT K) (tOp (rIxT K) (tVar 14) (tC (.int 3))) (tC (.int 1))) (tCons (tOp (rIxT K) (tVar 14) (tC (.int 1))) tNil)))) rfl scLaw65.nd (pi_list (pe_dget hu (pv 3) pe_str (fun _ _ => rfl))) (blkOk_by (own := [("_law_piece", 14)]) (N := nLaw65) (sc := defScope sLaw) (by decide +kernel)) (fun _ _ _ _ _ => (pg_name (i := 14) scLaw65.nd rfl (Or.inl rfl))) (fun _ _ _ _ _ => pts_nil) (fun _ _ _ _ _ => (pe_make MR FR hr2 (by rfl) TR.mgC bR .nil pass0 (pa_cons (pe_ix ix_tup (pe_ix ix_tup (pv 14) pe_int (fun _ _ => rfl)) pe_int (fun _ _ => rfl)) (pa_cons (pe_ix ix_tup (pe_ix ix_tup (pv 14) pe_int (fun _ _ => rfl)) pe_int (fun _ _ => rfl)) (pa_cons (pe_ix ix_tup (pv 14) pe_int (fun _ _ => rfl)) pa_nil)))))) pa_nil))))
        (pss_cons (ps_set (i := 6) scLaw65.nd rfl (Or.inl rfl) (pe_make MBk FBk hr2 (by rfl) T.mgC bBk .nil pass0 (pa_cons (pv 5) pa_nil)))
        (pss_cons (ps_setLc (i := 7) (own := [("_law_turn", 15)]) (g := gName 15) (tt := tYes) (te := tCall spCoord [] E0 (tCons (tVar 2) (tCons (tVar 3) (tCons (tVar 4) tNil)))) rfl scLaw65.nd rfl rfl (sw_true rfl rfl rfl (by decide +kernel)) (pi_range1 (by rfl) hRg (pa_cons (pe_op op_add pe_int (pe_call FD hr1 rfl mD kD bD .nil pass0 (pa_cons (pv 2) (pa_cons pe_int pa_nil)))) pa_nil)) (blkOk_by (own := [("_law_turn", 15)]) (N := nLaw65) (sc := defScope sLaw) (by decide +kernel)) (fun _ _ _ _ _ => (pg_name (i := 15) scLaw65.nd rfl (Or.inl rfl))) (fun _ _ _ _ _ => pts_nil) (fun _ _ _ _ _ => (pe_call FCo hr3 rfl mCo kCo bCo .nil pass0 (pa_cons (pv 2) (pa_cons (pv 3) (pa_cons (pv 4) pa_nil))))))
        (pss_cons (ps_for PassesOwn.never rfl (pi_list (pv 7)) (pg_name (i := 8) scLaw65.nd rfl (Or.inl rfl))
          (pss_cons (ps_asg (pe_call FC hr2 rfl mC kC bC .nil pass0 (pa_cons (pv 2) (pa_cons (pe_call FF hr1 rfl mF kF bF .nil pass0 (pa_cons (pv 3) (pa_cons (pv 4) (pa_cons (pv 8) pa_nil)))) pa_nil))) (pg_tup rfl (pgs_cons (pg_name (i := 9) scLaw65.nd rfl (Or.inl rfl)) (pgs_cons (pg_name (i := 10) scLaw65.nd rfl (Or.inl rfl)) pgs_nil))))
          (pss_one (ps_expr (pe_meth (pv 6) T.cl hPo FPo hr7 bPo .nil passF (pa_cons (pe_make MP FPl hr4 (by rfl) TP.mgC bPl .nil passF (pa_cons (pv 9) (pa_cons (pv 10) (pa_cons (pv 4) pa_nil)))) pa_nil))))))
        (pss_cons (ps_set (i := 11) scLaw65.nd rfl (Or.inl rfl) pe_dnewK)
        (pss_cons (ps_for PassesOwn.never rfl (pi_list (pe_slice sl_list (pe_lst (pa_cons pe_str (pa_cons pe_str (pa_cons pe_str pa_nil)))) po_none (po_some (pe_op op_add pe_int (pe_call FD hr1 rfl mD kD bD .nil pass0 (pa_cons (pv 2) (pa_cons pe_int pa_nil))))))) (pg_name (i := 12) scLaw65.nd rfl (Or.inl rfl))
          (pss_cons (ps_asg (pe_call FRo hr5 rfl mRo kRo bRo .nil pass0 (pa_cons (pv 2) (pa_cons (pv 3) pa_nil))) (pg_tup rfl (pgs_cons (pg_sub (pv 11) (pv 12) (set_dict hu)) (pgs_cons (pg_name (i := 13) scLaw65.nd rfl (Or.inl rfl)) pgs_nil))))
          (pss_one (ps_expr (pe_meth (pv 6) T.cl hKp FKp hr bKp .nil passF (pa_cons (pv 12) (pa_cons (pv 13) pa_nil)))))))
        (pss_cons (ps_if (pt_not (pt_val (pe_call FSt hr4 rfl mSt kSt bSt .nil pass0 (pa_cons (pv 6) (pa_cons (pv 3) (pa_cons (pv 4) (pa_cons (pv 7) pa_nil)))))))
          (pss_one (ps_ret pe_bl))
          pss_nil)
        (pss_cons (ps_if (pt_not (pt_val (pe_call FCr hr rfl mCr kCr bCr .nil pass0 (pa_cons (pv 2) (pa_cons (pv 6) (pa_cons (pv 3) (pa_cons (pv 4) (pa_cons (pv 7) (pa_cons (pv 11) pa_nil)))))))))
          (pss_one (ps_ret pe_bl))
          pss_nil)
        (pss_one (ps_if (PW.pt (pw_and (pt_cmpR op_eq (pv 1) pe_int (nomark _)) (pw_and1 (pt_not (pt_val (pe_call FMr hr9 rfl mMr kMr bMr .nil pass0 (pa_cons (pv 2) (pa_cons (pv 5) (pa_cons (pv 3) (pa_cons (pv 4) (pa_cons (pe_ix ix_list (pv 7) pe_int (fun _ _ => rfl)) pa_nil)))))))))))
          (pss_one (ps_ret pe_bl))
          pss_nil))))))))))))))
      (pss_one (ps_ret pe_bl)), ?_⟩
    -- for index in range(max(1, min(3, len(script))))
    refine ⟨_, rfl, a, _, rfl, .inl hS, _, _, rfl, _, _, rfl, ?_⟩
    obtain ⟨c, hc, c3⟩ : ∃ c : Nat, (if (if (((ns.map V.int).length : Nat) : Int) < 3 then (((ns.map V.int).length : Nat) : Int) else 3) > 1 then (if (((ns.map V.int).length : Nat) : Int) < 3 then (((ns.map V.int).length : Nat) : Int) else 3) else 1) = ((c : Nat) : Int) ∧ c ≤ 3 := by
      rw [List.length_map]
      by_cases q : ((ns.length : Nat) : Int) < 3
      · rw [if_pos q]
        by_cases q2 : ((ns.length : Nat) : Int) > 1
        · rw [if_pos q2]
          exact ⟨ns.length, rfl, by omega⟩
        · rw [if_neg q2]
          exact ⟨1, rfl, by decide⟩
      · rw [if_neg q, if_pos (by decide)]
        exact ⟨3, rfl, by decide⟩
    rw [hc]
    refine ⟨_, rfl, by omega, by omega, ?_⟩
    refine for_range (lo := 0) (n := ((c : Nat) : Int).toNat) (fun i σ G => ∃ v1 v2 v3 v4 v5 v6 v7 v8 v9 v10 v11 v12 v13 : Option V, σ = [some (.ref a), v1, v2, v3, v4, v5, v6, v7, v8, v9, v10, v11, v12, v13, none, none] ∧ SqL K G a (ns.map V.int))
      ⟨none, none, none, none, none, none, none, none, none, none, none, none, none, rfl, hS⟩ ?_ ?_
    · rintro i σ G hi ⟨v1, v2, v3, v4, v5, v6, v7, v8, v9, v10, v11, v12, v13, rfl, sq⟩
      -- source, lane
      refine ⟨_, rfl, _, rfl, a, ns, i, (by show [V.ref a, V.int (0 + (i : Int))] = _; rw [Int.zero_add]), sq, fun z => ⟨z, rfl, fun s G1 hsn src1 sg1 => ?_⟩⟩
      refine ⟨_, rfl, s, rfl, src1, fun d n tot lps G2 hd la2 lt src2 bt2 => ?_⟩
      obtain ⟨X, LG⟩ := lt.L
      -- parts
      refine ⟨_, rfl, _, rfl, s, 1000, rfl, src2, by decide, by decide, fun c1 G3 c10 c11 src3 bt3 => ⟨_, _, rfl, rfl, (by show 5 ≤ sizeLine; decide), fun q3 hq3 => ?_⟩⟩
      refine ⟨s, q3, _, rfl, src3.same (Same.new hq3), src3.new hq3, SqL.of upd_same, (by show 0 < 5; decide), (by show 5 < 1000000; decide), fun v G4 hv src4 bt4' => ?_⟩
      obtain ⟨S, rfl, S1, S2⟩ : ∃ S : Int, v = .int S ∧ 1 ≤ S ∧ S ≤ 1000 := by
        rcases List.mem_cons.mp hv with e | hv
        · exact ⟨1, e, by decide, by decide⟩
        · rcases List.mem_cons.mp hv with e | hv
          · exact ⟨2, e, by decide, by decide⟩
          · rcases List.mem_cons.mp hv with e | hv
            · exact ⟨3, e, by decide, by decide⟩
            · rcases List.mem_cons.mp hv with e | hv
              · exact ⟨6, e, by decide, by decide⟩
              · exact ⟨_, List.mem_singleton.mp hv, by omega, by omega⟩
      have b24 : But s G2 G4 := fun b o e nb => bt4' b o (Same.new hq3 b o (bt3 b o e nb)) nb
      have la4 := la2.but src2 b24
      have b04 : But s G1 G4 := fun b o e nb => b24 b o (bt2 b o e nb) nb
      obtain ⟨a0, oa, e04, a0s, back⟩ : ∃ a0 oa, G4 a0 = some oa ∧ a0 ≠ s ∧ ∀ H' : Hp, H' a0 = some oa → SqL K H' a (ns.map V.int) := by
        obtain ⟨L, ts, ed, _⟩ := id la4
        rcases sq with (h | ⟨o, h⟩) | h
        · have na : a ≠ s := ne_of_none h hsn
          exact ⟨a, _, b04 _ _ (sg1 _ _ h) na, na, fun H' e => .inl (.inl e)⟩
        · have na : a ≠ s := ne_of_none h hsn
          exact ⟨a, _, b04 _ _ (sg1 _ _ h) na, na, fun H' e => .inl (.inr ⟨o, e⟩)⟩
        · exact ⟨d, _, ed, src4.ne ed (fun _ _ _ z => nomatch z), fun H' _ => .inr h⟩
      clear hv bt4' hq3 bt3 src3 b24 b04 bt2 src2 la2 hd sg1 src1 hsn sq
      -- tree = Tree(lane['count'], [Road(piece[3][0], piece[3][1], piece[1]) for piece in lane['pieces']])
      obtain ⟨L, ts, ed4, eL4, htp⟩ := id la4
      have p8 := lt.p8
      have tl : (ts.map V.ref).length = lps.length := by rw [List.length_map]; exact Paired.length htp
      refine ⟨_, rfl, d, _, rfl, get_lc ed4, _, rfl, d, _, rfl, get_lp ed4, L, rfl, ⟨_, SqL.of eL4⟩, fun D5 hD5 => lc_list (K := K) (a := L) (xs := ts.map V.ref) (fun i Gc => ∃ rs : List Addr, Gc D5 = some (.lst (rs.map V.ref)) ∧ Same G4 Gc ∧ RoadsAt CR Gc rs ((lnF lps).take i) ∧ rs.length = i)
        ⟨[], upd_same, Same.new hD5, .nil, rfl⟩ (fun i Gc _ ⟨_, _, sc, _⟩ => SqL.of (sc _ _ eL4)) ?_ ?_⟩
      · rintro j y Gc hj ⟨rs, gD, sc, rd', rl⟩
        obtain ⟨t, ht, rfl⟩ := map_get hj
        obtain ⟨p, hp, e, e1, e2⟩ := paired_get htp ht
        have jl : j < lps.length := (List.getElem?_eq_some_iff.mp hp).1
        dsimp only [gName]
        refine ⟨rfl, ?_⟩
        unfold tYes
        refine iteT ⟨_, rfl, t, _, _, .ref e, rfl, rfl, SqT.of (sc _ _ e1), rfl, e, _, _, .int p.a, rfl, rfl, SqT.of (sc _ _ e2), rfl, _, rfl, t, _, _, .ref e, rfl, rfl, SqT.of (sc _ _ e1), rfl, e, _, _, .int p.b, rfl, rfl, SqT.of (sc _ _ e2), rfl, _, rfl, t, _, _, .int p.ln, rfl, rfl, SqT.of (sc _ _ e1), rfl, fun x dx nx ndx nex => ⟨x, dx, (p.a, p.b, p.ln), rfl, upd_same, fun G' rx keep => ⟨rfl, rs.map V.ref, ?_, small1000 (by rw [List.length_map]; omega), rs ++ [x], by rw [List.map_append]; exact upd_same, fun b o eb => ?_, ?_, by rw [List.length_append, rl]; rfl⟩⟩⟩
        · exact made_same nx ndx keep _ _ gD
        · rw [upd_ne (ne_of_none eb hD5)]
          exact made_same nx ndx keep _ _ (sc _ _ eb)
        · have sG' : Same Gc G' := made_same nx ndx keep
          have gD' := sG' _ _ gD
          have hF : (lnF lps)[j]? = some (p.a, p.b, p.ln) := by
            unfold lnF
            rw [List.getElem?_map, hp]
            rfl
          have stay : ∀ {q : Addr} {r : Fact}, RoadAt CR G' q r → RoadAt CR (upd G' D5 (.lst (rs.map V.ref ++ [V.ref x]))) q r := fun {q r} h => h.kp (.put gD')
          rw [take_snoc hF]
          exact paired_snoc (Paired.mapP rd' fun q r h => stay (h.same sG')) (stay rx)
      rintro G5 ⟨rs, gD5, s45, rd5, _⟩
      rw [tl, ← len_lnF, List.take_length] at rd5
      refine fun xt dxt nxt ndxt nxd => ⟨xt, dxt, D5, n, rs, lnF lps, G5, rfl, upd_same, nxt, fun b o e => ?_, .inl (SqL.of gD5), rd5, by rw [len_lnF]; omega, no_err lt.du, fun _ G6 TA6 s56 => ⟨rfl, ?_⟩⟩
      · rw [upd_ne (ne_of_none e nxt), upd_ne (ne_of_none e ndxt)]
        exact e
      have s46 := s45.trans s56
      have la6 := la4.same s46
      have src6 := src4.same s46
      have e06 := s46 _ _ e04
      obtain ⟨L6, ts6, ed6, eL6, htp6⟩ := id la6
      obtain ⟨sa, sb, sc', sha, es6⟩ := id src6
      have as6 : ∀ c ∈ [s], G6 c ≠ none := fun c hc => by
        rw [List.mem_singleton.mp hc, es6]
        exact fun z => by cases z
      clear la4 src4 e04 ed4 eL4 htp gD5 rd5 s45 s56 s46 nxt ndxt nxd hD5 tl
      -- book = Book(tree)
      refine ⟨_, rfl, fun b dx nb ndx nex => ?_⟩
      have s6' := (Same.new (o := .own b) ndx).trans (Same.new (o := .ins CBk dx []) (show upd G6 dx (.own b) b = none by rw [upd_ne (Ne.symm nex)]; exact nb))
      refine ⟨G6, b, dx, xt, n, S, rs, lnF lps, [s], rfl, upd_same, s6', nb, TA6, lt.G, S1, S2, as6, fun B P1 s7 hP1 aP1 nPb B1 => ⟨rfl, ?_⟩⟩
      have la7 := la6.same s7
      have src7 := src6.same s7
      have TA7 := TA6.same s7
      have e07 := s7 _ _ e06
      have a0b : a0 ≠ b := ne_of_none e06 nb
      have a0P : a0 ≠ P1 := ne_of_none e06 hP1
      have nsP : s ≠ P1 := ne_of_none es6 hP1
      have lanP : ∀ L, B d = some (.dK (laneK n tot L)) → L ≠ P1 := fun L e => by
        rw [s7 _ _ ed6] at e
        have e1 : L6 = L := by
          have e2 := HO.dK.inj (Option.some.inj e)
          unfold laneK at e2
          have e3 := (List.cons.inj (List.cons.inj (List.cons.inj e2).2).2).1
          exact V.ref.inj (Prod.mk.inj e3).2
        rw [← e1]
        exact ne_of_none eL6 hP1
      have Bs : B s ≠ none := fun z => by rw [s7 _ _ es6] at z; cases z
      have Bb : B b ≠ none := fun z => by
        obtain ⟨_, _, e⟩ := B1.bIns
        rw [z] at e
        cases e
      clear s6' as6 es6 sha nb ndx nex hP1 nPb s7 TA6 e06 la6 src6 ed6 eL6 htp6
      -- folk = [coordinate(source, lane, parts) for turn in range(1 + draw(source, 6))]
      refine ⟨_, rfl, s, 6, rfl, src7, by decide, by decide, fun c8 G8 c80 c81 src8 bg8 => ⟨_, _, rfl, rfl, _, rfl, by omega, by omega, fun fl hfl => ?_⟩⟩
      have nfs : fl ≠ s := src8.new hfl
      have hflB : B fl = none := Src.fresh bg8 src8 hfl
      refine lc_range (lo := 0) (n := (1 + c8).toNat) (fun j Gc => ∃ zs : List Int, Gc fl = some (.lst (zs.map V.int)) ∧ Src Gc s ∧ But s G8 Gc ∧ zs.length = j ∧ ∀ z ∈ zs, 0 ≤ z ∧ z ≤ tot * S)
        ⟨[], upd_same, src8.same (Same.new hfl), fun b o e _ => (Same.new hfl) b o e, rfl, fun z hz => nomatch hz⟩ ?_ ?_
      · rintro j Gc hj ⟨zs, gf, sg, bg, zl, zok⟩
        dsimp only [gName]
        refine ⟨rfl, ?_⟩
        unfold tYes
        refine iteT ⟨_, rfl, _, rfl, _, rfl, s, d, n, tot, S, lps, rfl, sg, la7.but src7 (bg8.trans bg), lt, S1, S2, fun x Gc' x0 x1 sg' bg' => ?_⟩
        refine ⟨_, bg' _ _ gf nfs, small1000 (by rw [List.length_map]; omega), zs ++ [x], by rw [List.map_append]; exact upd_same, sg'.upd nfs, (bg.trans bg').put hfl, by rw [List.length_append, zl]; rfl, fun z hz => ?_⟩
        rcases List.mem_append.mp hz with h | h
        · exact zok z h
        · rw [List.mem_singleton.mp h]
          exact ⟨x0, x1⟩
      rintro G9 ⟨zs, gf9, src9, bg89, zl, zok⟩
      have bg9 : But s B G9 := bg8.trans bg89
      obtain ⟨_, _, _, _, es7⟩ := id src7
      have B9 := B1.but es7 (by simp) nsP bg9
      clear bg8 bg89 src8 hfl
      have alB : ∀ {G : Hp} {st : BSt} {hi : List BSt}, Bt3 s b P1 B G → Src G s → BookAt K CT CR CM CP CW CBk n (lnF lps) S [P1, s] G b P1 st hi → ∀ c, G c = none → B c = none := fun {G st hi} bt sg Bk c hc => bt3_alive bt sg Bk hc
      have avl : ∀ {G : Hp} {st : BSt} {hi : List BSt}, Src G s → BookAt K CT CR CM CP CW CBk n (lnF lps) S [P1, s] G b P1 st hi → ∀ c ∈ [P1, s], G c ≠ none := fun {G st hi} sg Bk c hc => by
        rcases List.mem_cons.mp hc with rfl | hc
        · obtain ⟨_, e⟩ := Bk.pLst
          rw [e]
          exact fun z => by cases z
        · rw [List.mem_singleton.mp hc]
          obtain ⟨_, _, _, _, e⟩ := sg
          rw [e]
          exact fun z => by cases z
      have srcK : ∀ {G G' : Hp} {st : BSt} {hi : List BSt}, Src G s → BookAt K CT CR CM CP CW CBk n (lnF lps) S [P1, s] G b P1 st hi → KzB b P1 G G' → Src G' s := fun {G G' st hi} sg Bk k => by
        obtain ⟨a1, a2, a3, a0, es⟩ := sg
        obtain ⟨_, _, eb⟩ := Bk.bIns
        exact ⟨a1, a2, a3, a0, k _ _ es (fun z => by rw [z, eb] at es; cases es) nsP⟩
      -- for at in folk: book.post(..)
      refine ⟨_, rfl, fl, rfl, ⟨_, SqL.of gf9⟩, for_list (K := K) (a := fl) (xs := zs.map V.int) (fun j σ G => ∃ (v8 v9 v10 : Option V) (st : BSt) (hist : List BSt), σ = [some (.ref a), some (.int (0 + (i : Int))), some (.ref s), some (.ref d), some (.int S), some (.ref xt), some (.ref b), some (.ref fl), v8, v9, v10, v11, v12, v13, none, none] ∧ Src G s ∧ Bt3 s b P1 B G ∧ G fl = some (.lst (zs.map V.int)) ∧ BookAt K CT CR CM CP CW CBk n (lnF lps) S [P1, s] G b P1 st hist ∧ st.rows = [] ∧ st.folk.map (cX lps X S) = zs.take j ∧ hist.length = j)
        ⟨_, _, _, ⟨[], [], []⟩, [], rfl, src9, .but bg9, gf9, B9, rfl, rfl, rfl⟩ (fun j σ G _ ⟨_, _, _, _, _, _, _, _, gf, _⟩ => SqL.of gf) ?_ ?_⟩
      · rintro j y σ G hj ⟨v8, v9, v10, st, hist, rfl, sg, bt, gf, BK, er, ef, hl⟩
        obtain ⟨x, hx, rfl⟩ := map_get hj
        have jl : j < zs.length := (List.getElem?_eq_some_iff.mp hx).1
        obtain ⟨x0, x1⟩ := zok x (List.mem_of_getElem? hx)
        obtain ⟨u, ou, eu⟩ := cd_full lt.G.m LG (S := S) (y := x) S1 lt.t1 x0 x1
        have laG := la7.bt3 lanP src7 B1 bt
        dsimp only [gName]
        refine ⟨_, rfl, _, rfl, _, rfl, _, rfl, d, n, tot, S, x, lps, rfl, laG, lt, S1, S2, fun lC tsC GC sC hlC elC prC => ?_⟩
        obtain ⟨k0, i0, rest, efm, _⟩ := fm_key lt.G.m LG S1 lt.G.n2 ou
        have hl0 : 0 < (tsC.map V.ref).length := by
          rw [List.length_map, Paired.length prC]
          unfold fms
          rw [← eu, ← len_lnF, efm]
          exact Nat.succ_pos _
        have hl8 : (tsC.map V.ref).length < 1000000 := by
          rw [List.length_map, Paired.length prC]
          have : ∀ m, (fms lps S x m).length ≤ m := fun m => by
            induction m with
            | zero => exact Nat.le_refl _
            | succ m ih =>
              unfold fms at ih ⊢
              unfold fmL
              rw [List.length_append]
              split
              · show _ + 1 ≤ _; omega
              · show _ + 0 ≤ _; omega
          have := this lps.length
          omega
        refine ⟨s, lC, _, rfl, sg.same sC, sg.new hlC, SqL.of elC, hl0, hl8, fun v GD hv sgD bgD => ?_⟩
        obtain ⟨t, ht, rfl⟩ := List.mem_map.mp hv
        obtain ⟨jj, hjj⟩ := List.getElem?_of_mem ht
        obtain ⟨⟨k, i'⟩, hki, pt⟩ := paired_get prC hjj
        have mem := List.mem_of_getElem? hki
        obtain ⟨on, ecd⟩ := fm_on (F := lnF lps) (st := lpSt lps) (fw := lpFw lps) (S := S) (x := x) (m := lps.length) (Nat.le_of_eq (len_lnF lps).symm) mem
        have pt8 : GD t = some (.tup [.int (k : Nat), .int i']) := bgD _ _ pt ((sg.same sC).ne pt fun _ _ _ z => nomatch z)
        have ecx : cX lps X S (node (lnF lps) S k i') = x := (cd_node LG on).trans ecd
        have bGD : But s G GD := fun b o e nb => bgD b o (sC b o e) nb
        refine ⟨t, _, rfl, SqT.of pt8, rfl, _, _, rfl, _, _, rfl, rfl, ?_⟩
        dsimp only [gName]
        obtain ⟨_, _, _, _, esG⟩ := id sg
        have BKD := BK.but esG (by simp) nsP bGD
        -- book.post(Place(road, number, parts))
        obtain ⟨dx7, x7, D7, Lf7, A7, ps7, ts7, e7, _⟩ := id BKD.at_
        have lgS : S.natAbs.log2 < 9000 := by
          rw [Nat.log2_lt (by omega)]
          have h1 : S.natAbs < 2 ^ 60 := by omega
          exact Nat.lt_of_lt_of_le h1 (Nat.pow_le_pow_right (by decide) (by decide))
        refine ⟨_, rfl, b, dx7, _, rfl, e7, bkF_no (by decide +kernel), _, rfl, _, rfl, _, rfl, fun x9 dx9 nx ndx nex => ⟨x9, dx9, ((k : Int), i', S), rfl, upd_same, fun z => absurd z (by show ¬ S < 1; omega), fun _ => ⟨lgS, fun G6 px keep => ⟨rfl, tnB ?_⟩⟩⟩⟩
        show spBkPost K CT CR CM CP CW CBk CB CNR COR [V.ref b, V.ref x9] G6 _ _
        have s6 : Same GD G6 := made_same nx ndx keep
        have BK6 := BKD.same s6
        have sg6 := sgD.same s6
        have pe := mkPl0 (F := lnF lps) (s := S) (k := k) (i := i') S1 on
        have fl6 : st.folk.length < 24 := by
          have := congrArg List.length ef
          rw [List.length_map, List.length_take] at this
          omega
        refine postK BK6 (by omega) (avl sg6 BK6) px (low_sm S1 (by show S < 2 ^ 60; omega)) pe.lo pe fl6 fun G7 k7 BK7 => ?_
        have bt6 : Bt3 s b P1 B G6 := bt.trans ((Bt3.but bGD).trans (.of s6))
        have gf6 := s6 _ _ (bGD _ _ gf nfs)
        have nfb : fl ≠ b := fun z => Bb (z ▸ hflB)
        have nfP : fl ≠ P1 := fun z => aP1 (z ▸ hflB)
        refine ⟨_, _, _, _, _, rfl, srcK sg6 BK6 k7, bt6.trans (.book k7), k7 _ _ gf6 nfb nfP, BK7, er, ?_, by show (hist ++ [st]).length = j + 1; rw [List.length_append, hl]; rfl⟩
        show (st.folk ++ [node (lnF lps) S k i']).map (cX lps X S) = zs.take (j + 1)
        rw [List.map_append, ef, take_snoc hx, List.map_cons, ecx]
        rfl
      · rintro σ G ⟨v8, v9, v10, st, hist, rfl, sg, bt, gf, BK, er, ef, hl⟩
        rw [List.length_map] at ef hl
        rw [List.take_length] at ef
        have zl7 : zs.length ≤ 7 := by omega
        have z0 : 0 < zs.length := by omega
        -- rows = {}
        refine fun rd hrd => ?_
        have rdB := alB bt sg BK rd hrd
        have BD0 := BkD.new (o := .dK []) BK hrd
        have sR := Same.new (o := .dK []) hrd
        have erd0 : upd G rd (.dK []) rd = some (.dK []) := upd_same
        have nrs : rd ≠ s := sg.new hrd
        have sg0 := sg.same sR
        have bt0 : Bt3 s b P1 B (upd G rd (.dK [])) := bt.trans (.of sR)
        have gf0 := sR _ _ gf
        generalize upd G rd (.dK []) = GR at BD0 sR erd0 sg0 bt0 gf0 ⊢
        -- for text in ['a', 'b', 'c'][:1 + draw(source, 3)]
        refine ⟨(by show 3 ≤ sizeLine; decide), fun q1 hq1 => ?_⟩
        have s1 := Same.new (o := .lst [.str "a", .str "b", .str "c"]) hq1
        have e1 := upd_same (H := GR) (a := q1) (o := .lst [.str "a", .str "b", .str "c"])
        have BD1 := BD0.same s1
        have erd1 := s1 _ _ erd0
        have sg1 := sg0.same s1
        have bt1 := bt0.trans (.of s1)
        have gf1 := s1 _ _ gf0
        have nq1 : q1 ≠ s := sg0.new hq1
        generalize upd GR q1 (.lst [.str "a", .str "b", .str "c"]) = GA at s1 e1 BD1 erd1 sg1 bt1 gf1 ⊢
        refine ⟨_, rfl, s, 3, rfl, sg1, by decide, by decide, fun c2 GB c20 c21 sg2 bg2 => ⟨_, _, rfl, rfl, _, rfl, q1, _, rfl, SqL.of (bg2 _ _ e1 nq1), fun q2 hq2 => ?_⟩⟩
        obtain ⟨_, _, _, _, es1⟩ := id sg1
        have BD2 := BD1.but es1 (by simp) nsP bg2
        have erd2 := bg2 _ _ erd1 nrs
        have bt2 := bt1.trans (.but bg2)
        have gf2 := bg2 _ _ gf1 nfs
        obtain ⟨m, em, m1, m3⟩ : ∃ m : Nat, 1 + c2 = ((m : Nat) : Int) ∧ 1 ≤ m ∧ m ≤ 3 := ⟨(1 + c2).toNat, by omega, by omega, by omega⟩
        have ecut : cutV [V.str "a", V.str "b", V.str "c"] none (some (1 + c2)) = ((["a", "b", "c"] : List Str).take m).map V.str := by
          rw [em, cut_to (by show m ≤ 3; omega)]
          exact (List.map_take (f := V.str) (l := (["a", "b", "c"] : List Str)) (i := m)).symm
        rw [ecut]
        have s3 := Same.new (o := .lst (((["a", "b", "c"] : List Str).take m).map V.str)) hq2
        have e3 : upd GB q2 (.lst (((["a", "b", "c"] : List Str).take m).map V.str)) q2 = some (.lst (((["a", "b", "c"] : List Str).take m).map V.str)) := upd_same
        have BD3 := BD2.same s3
        have erd3 := s3 _ _ erd2
        have sg3 := sg2.same s3
        have bt3 := bt2.trans (.of s3)
        have gf3 := s3 _ _ gf2
        have q2B := alB bt2 sg2 BD2.at' q2 hq2
        generalize upd GB q2 (.lst (((["a", "b", "c"] : List Str).take m).map V.str)) = GC at s3 e3 BD3 erd3 sg3 bt3 gf3 ⊢
        have tlen : (((["a", "b", "c"] : List Str).take m).map V.str).length = m := by
          rw [List.length_map, List.length_take]
          show min m 3 = m
          omega
        have nq2s : q2 ≠ s := fun z => Bs (z ▸ q2B)
        have nq2b : q2 ≠ b := fun z => Bb (z ▸ q2B)
        have nq2P : q2 ≠ P1 := fun z => aP1 (z ▸ q2B)
        have nrb : rd ≠ b := fun z => Bb (z ▸ rdB)
        have nrP : rd ≠ P1 := fun z => aP1 (z ▸ rdB)
        have nfb : fl ≠ b := fun z => Bb (z ▸ hflB)
        have nfP : fl ≠ P1 := fun z => aP1 (z ▸ hflB)
        refine ⟨q2, rfl, ⟨_, SqL.of e3⟩, for_list (K := K) (a := q2) (xs := ((["a", "b", "c"] : List Str).take m).map V.str) (fun j σ G => ∃ (v12 v13 : Option V) (st' : BSt) (hist' : List BSt) (kvs : List (Key × V)) (zz : List (Str × List (Int × Int))), σ = [some (.ref a), some (.int (0 + (i : Int))), some (.ref s), some (.ref d), some (.int S), some (.ref xt), some (.ref b), some (.ref fl), v8, v9, v10, some (.ref rd), v12, v13, none, none] ∧ Src G s ∧ Bt3 s b P1 B G ∧ G fl = some (.lst (zs.map V.int)) ∧ G q2 = some (.lst (((["a", "b", "c"] : List Str).take m).map V.str)) ∧ G rd = some (.dK kvs) ∧ BkD K CT CR CM CP CW CBk n (lnF lps) S [P1, s] rd G b P1 st' hist' ∧
            Paired (KvZ B G) kvs zz ∧ Paired (ZrR lps) zz st'.rows ∧ st'.rows.map (·.1) = (["a", "b", "c"] : List Str).take j ∧ st'.folk = st.folk ∧ hist'.length = hist.length + j)
          ⟨_, _, st, hist, [], [], rfl, sg3, bt3, gf3, e3, erd3, BD3, .nil, by rw [er]; exact .nil, by rw [er]; rfl, rfl, rfl⟩ (fun j σ G _ ⟨_, _, _, _, _, _, _, _, _, _, e, _⟩ => SqL.of e) ?_ ?_⟩
        · clear BD0 BD1 BD2 BD3 sg0 sg1 sg2 sg3 bt0 bt1 bt2 bt3 gf0 gf1 gf2 gf3 erd0 erd1 erd2 erd3 s1 s3 e1 e3 es1 bg2 hq1 hq2 sR hrd
          rintro j y σ G hj ⟨v12, v13, st', hist', kvs, zz, rfl, sg, bt, gf, eq2, erd, BD, pk, pz, en, efk, hl'⟩
          obtain ⟨z, hz, rfl⟩ := map_get hj
          have jm : j < m := by
            have := (List.getElem?_eq_some_iff.mp hj).1
            rw [tlen] at this
            exact this
          have hz3 : (["a", "b", "c"] : List Str)[j]? = some z := by
            rw [List.getElem?_take, if_pos jm] at hz
            exact hz
          have rl : st'.rows.length = j := by
            have := congrArg List.length en
            rw [List.length_map, List.length_take] at this
            have : st'.rows.length = min j 3 := this
            omega
          have new : z ∉ st'.rows.map (·.1) := fun h => by
            rw [en] at h
            obtain ⟨jj, hjj⟩ := List.getElem?_of_mem h
            have lj : jj < j := by
              have := (List.getElem?_eq_some_iff.mp hjj).1
              rw [List.length_take] at this
              omega
            rw [List.getElem?_take, if_pos lj] at hjj
            have nd : (["a", "b", "c"] : List Str).Nodup := by decide +kernel
            have := (List.getElem?_inj (List.getElem?_eq_some_iff.mp hjj).1 nd).mp (hjj.trans hz3.symm)
            omega
          dsimp only [gName]
          -- rows[text], marches = row(source, lane)
          refine ⟨_, rfl, _, rfl, s, d, n, tot, lps, rfl, sg, la7.bt3 lanP src7 B1 bt, lt, fun t l1 l2 us gs ms xs G1 ht et hl1 el1 pgs hl2 el2 pms rr g4 sg1 bg1 => ?_⟩
          have alG := alB bt sg BD.at'
          obtain ⟨_, _, _, _, esG⟩ := id sg
          have BD1 := BD.but esG (by simp) nsP bg1
          have kz1 : Kz G G1 := kz_but sg bg1
          have l1B := alG l1 hl1
          have nts : t ≠ s := sg.new ht
          have okx : ∀ q ∈ xs, MgOk (lnF lps) q := fun q hq => by
            obtain ⟨jj, hjj⟩ := List.getElem?_of_mem hq
            have lj := (List.getElem?_eq_some_iff.mp hjj).1
            have : jj < gs.length := by rw [Paired.length rr]; exact lj
            obtain ⟨x', hx', r⟩ := paired_get rr (List.getElem?_eq_getElem this)
            rw [hjj] at hx'
            cases hx'
            exact r.1
          have xl : xs.length ≤ 4 := by rw [← Paired.length rr]; exact g4
          have pk1 : Paired (KvZ B G1) kvs zz := Paired.mapP pk fun _ _ ⟨e, l, us', e1, nb, e2, q⟩ => ⟨e, l, us', e1, nb, bg1 _ _ e2 (fun z => Bs (z ▸ nb)), Paired.mapP q fun _ _ (g : GsAt G _ _) => (show GsAt G1 _ _ from kz1 _ _ g .tup)⟩
          obtain ⟨w1, w2, w3, w4, w5⟩ := rws_put pk1 pz new l1B el1 pgs rr
          have erd1 := bg1 _ _ erd nrs
          have kl : kvs.length ≤ 3 := by
            have := rws_len pk pz
            omega
          have nr1 : l1 ≠ rd := fun z => by
            rw [z, erd] at hl1
            cases hl1
          have nr2 : l2 ≠ rd := fun z => by
            rw [z, erd] at hl2
            cases hl2
          refine ⟨t, _, rfl, SqT.of et, rfl, _, _, rfl, _, rfl, _, rfl, rd, _, rfl, DPut.k (k := .inr z) erd1 (by rw [PySem.sizeLine_eq]; omega), _, _, rfl, rfl, ?_⟩
          rw [w1]
          -- book.keep(text, marches)
          have BD2 := BD1.put (o := .dK (kvs ++ [(.inr z, .ref l1)]))
          have erd2 : upd G1 rd (.dK (kvs ++ [(.inr z, .ref l1)])) rd = some (.dK (kvs ++ [(.inr z, .ref l1)])) := upd_same
          have but2 : ∀ c o, G1 c = some o → c ≠ rd → upd G1 rd (.dK (kvs ++ [(.inr z, .ref l1)])) c = some o := fun c o e n => (upd_ne n).trans e
          have tup2 : ∀ {c : Addr} {xs : List V}, G1 c = some (.tup xs) → upd G1 rd (.dK (kvs ++ [(.inr z, .ref l1)])) c = some (.tup xs) := fun {c xs} e => but2 _ _ e fun z => by rw [z, erd1] at e; cases e
          have lst2 : ∀ {c : Addr} {xs : List V}, G1 c = some (.lst xs) → upd G1 rd (.dK (kvs ++ [(.inr z, .ref l1)])) c = some (.lst xs) := fun {c xs} e => but2 _ _ e fun z => by rw [z, erd1] at e; cases e
          have kd2 : KzD G1 (upd G1 rd (.dK (kvs ++ [(.inr z, .ref l1)]))) := fun c o e _ nk => but2 _ _ e fun z => by
            rw [z, erd1] at e
            exact nk _ (Option.some.inj e).symm
          have pk2 : Paired (KvZ B (upd G1 rd (.dK (kvs ++ [(.inr z, .ref l1)])))) (kvs ++ [(.inr z, .ref l1)]) (zz ++ [(z, gs)]) := Paired.mapP w2 fun _ _ ⟨e, l, us', e1, nb, e2, q⟩ => ⟨e, l, us', e1, nb, lst2 e2, Paired.mapP q fun _ _ (g : GsAt G1 _ _) => (show GsAt _ _ _ from tup2 g)⟩
          have pms2 := pms.kzd kd2
          have el2' := lst2 el2
          have sg2 : Src (upd G1 rd (.dK (kvs ++ [(.inr z, .ref l1)]))) s := sg1.upd nrs
          have bt2 : Bt3 s b P1 B (upd G1 rd (.dK (kvs ++ [(.inr z, .ref l1)]))) := (bt.trans (.but bg1)).put rdB
          have gf2 := lst2 (bg1 _ _ gf nfs)
          have eq2' := lst2 (bg1 _ _ eq2 nq2s)
          generalize upd G1 rd (.dK (kvs ++ [(.inr z, .ref l1)])) = G2 at BD2 erd2 pk2 pms2 el2' sg2 bt2 gf2 eq2' ⊢
          have BK2 := BD2.at'
          obtain ⟨dx7, x7, D7, Lf7, A7, ps7, ts7, e7, _⟩ := id BK2.at_
          have nm : isNm z = true ∧ z.length ≤ 1000000 := by
            have : ∀ y ∈ (["a", "b", "c"] : List Str), isNm y = true ∧ y.length ≤ 1000000 := by decide +kernel
            exact this _ (List.mem_of_getElem? hz3)
          refine ⟨_, rfl, b, dx7, _, rfl, e7, bkF_no (by decide +kernel), _, rfl, _, rfl, tnB ?_⟩
          show spBkKeep K CT CR CM CP CW CBk CB CNN CNR COR CNW [V.ref b, V.str z, V.ref l2] G2 _ _
          refine keepK BK2 (by omega) (.inl (SqL.of el2')) pms2 okx (by omega) nm.1 nm.2 (by omega) fun G3 k3 BK3 => ?_
          have ekS : keepS (lnF lps) z xs st' hist' = (⟨putR st'.rows z xs, st'.folk, without st'.ans z⟩, hist' ++ [st']) := by
            unfold keepS
            rw [w5]
          rw [ekS, w4] at BK3
          have kz3 := BK2.kz k3
          have erd3 := kz3 _ _ erd2 .dK
          have lst3 : ∀ {c : Addr} {xs : List V}, B c = none → G2 c = some (.lst xs) → G3 c = some (.lst xs) := fun {c xs} nb e => k3 _ _ e (fun z => Bb (z ▸ nb)) fun z => aP1 (z ▸ nb)
          have pk3 : Paired (KvZ B G3) (kvs ++ [(.inr z, .ref l1)]) (zz ++ [(z, gs)]) := Paired.mapP pk2 fun _ _ ⟨e, l, us', e1, nb, e2, q⟩ => ⟨e, l, us', e1, nb, lst3 nb e2, Paired.mapP q fun _ _ (g : GsAt G2 _ _) => (show GsAt G3 _ _ from kz3 _ _ g .tup)⟩
          have no : ∀ rows, ¬ KvR K CT CR CM CP CW n (lnF lps) G3 (kvs ++ [(.inr z, .ref l1)]) rows := fun rows h => by
            cases hkv : kvs ++ [((.inr z : Key), V.ref l1)] with
            | nil => simp at hkv
            | cons kv r =>
              rw [hkv] at h pk3
              generalize zz ++ [(z, gs)] = zq at pk3
              cases h with
              | cons a _ =>
                cases pk3 with
                | cons a' _ =>
                  obtain ⟨_, rw', e2, R⟩ := a
                  obtain ⟨_, l, us', e2', _, el, _⟩ := a'
                  rw [e2] at e2'
                  cases e2'
                  obtain ⟨_, _, _, ⟨dw, tw, ew, _⟩, _⟩ := R.at_
                  rw [ew] at el
                  cases el
          refine ⟨_, _, _, _, _, _, rfl, srcK sg2 BK2 k3, bt2.trans (.book k3), lst3 hflB gf2, lst3 q2B eq2', erd3, fun H' kH => BK3.dput erd3 no kH, pk3, w3, ?_, efk, by show (hist' ++ [st']).length = _; rw [List.length_append, hl']; rfl⟩
          show (st'.rows ++ [(z, xs)]).map (·.1) = _
          rw [List.map_append, en, take_snoc hz3]
          rfl
        · rintro σ G ⟨v12, v13, st', hist', kvs, zz, rfl, sg, bt, gf, eq2, erd, BD, pk, pz, en, efk, hl'⟩
          rw [tlen] at en hl'
          have BKG := BD.at'
          have rl : st'.rows.length = m := by
            have := congrArg List.length en
            rw [List.length_map, List.length_take] at this
            have : st'.rows.length = min m 3 := this
            omega
          have efl : G fl = some (.lst ((st'.folk.map (cX lps X S)).map V.int)) := by
            rw [efk, ef]
            exact gf
          -- stands
          refine ⟨_, rfl, _, rfl, _, rfl, _, rfl, b, P1, d, fl, n, tot, S, lps, X, [P1, s], st', hist', rfl, BKG, la7.bt3 lanP src7 B1 bt, lt, LG, efl, fun Ga sa => ⟨_, rfl, iteF ?_⟩⟩
          have sga := sg.same sa
          have bta := bt.trans (.of sa)
          have BKa := BKG.same sa
          have rws : RwsAt B Ga rd lps st'.rows := ⟨kvs, zz, sa _ _ erd, Paired.mapP pk fun _ _ ⟨e, l, us', e1, nb, e2, q⟩ => ⟨e, l, us', e1, nb, sa _ _ e2, Paired.mapP q fun _ _ (g : GsAt G _ _) => (show GsAt Ga _ _ from sa _ _ g)⟩, pz⟩
          have laa := la7.bt3 lanP src7 B1 bta
          have lanPa : ∀ L, Ga d = some (.dK (laneK n tot L)) → L ≠ P1 := fun L e => by
            obtain ⟨L', ts', ed', _⟩ := id la7
            have kz := bt3_kz src7 B1 bta
            have e' := kz _ _ ed' .dK
            rw [e] at e'
            have e1 : L = L' := by
              have e2 := HO.dK.inj (Option.some.inj e')
              unfold laneK at e2
              have e3 := (List.cons.inj (List.cons.inj (List.cons.inj e2).2).2).1
              exact V.ref.inj (Prod.mk.inj e3).2
            rw [e1]
            exact lanP L' ed'
          -- calls_right
          refine ⟨_, rfl, _, rfl, _, rfl, _, rfl, _, rfl, _, rfl, s, b, P1, d, fl, rd, n, tot, S, lps, X, st', hist', B, rfl, sga, BKa, laa, lanPa, lt, LG, Bs, Bb, aP1, alB bta sga BKa, nsP, ⟨hflB, sa _ _ efl⟩, rws, by omega, by omega, by omega, fun Gb sgb btb BKb => ⟨_, rfl, iteF ?_⟩⟩
          have bt9 := bta.trans btb
          have e0b := bt9 _ _ e07 a0s a0b a0P
          -- index == 0 and not many_rounds_right(..)
          refine ⟨_, rfl, rfl, _, rfl, ite2 (fun _ => ?_) (fun _ => iteF ⟨_, _, _, _, _, _, _, _, _, _, _, _, _, rfl, back _ e0b⟩)⟩
          have gfb := btb _ _ (sa _ _ gf) nfs nfb nfP
          obtain ⟨x0, hx0⟩ : ∃ x0, zs[0]? = some x0 := ⟨_, List.getElem?_eq_getElem z0⟩
          obtain ⟨x00, x01⟩ := zok x0 (List.mem_of_getElem? hx0)
          obtain ⟨u, ou, eu⟩ := cd_full lt.G.m LG (S := S) (y := x0) S1 lt.t1 x00 x01
          refine ⟨_, rfl, _, rfl, _, rfl, _, rfl, _, rfl, fl, _, 0, .int x0, rfl, rfl, SqL.of gfb, atI_nat (j := 0) (by rw [List.getElem?_map, hx0]; rfl), ?_⟩
          refine ⟨s, xt, d, n, tot, S, x0, rs, lps, X, u, rfl, sgb, TA7.kz (bt3_kz src7 B1 bt9), la7.bt3 lanP src7 B1 bt9, lt, LG, S1, S2, ou, eu, fun Gc btc => ⟨_, rfl, iteF ?_⟩⟩
          exact ⟨_, _, _, _, _, _, _, _, _, _, _, _, _, rfl, back _ (btc _ _ e0b a0s)⟩
    · rintro σ G ⟨v1, v2, v3, v4, v5, v6, v7, v8, v9, v10, v11, v12, v13, rfl, sq⟩
      exact kont G
end
end OT
set_option Elab.async false
set_option linter.all false
set_option maxRecDepth 100000
set_option maxHeartbeats 2000000
namespace OT
open PySem L2 OTR
theorem qc_ok {K : PySem.W.Frag} {C f : Addr} (cl : Cls K C) (g : gB K = true) (h : eqB K C f = true) : QC K C f := by
  obtain ⟨g1, g2⟩ := two g
  obtain ⟨h1, h⟩ := two h
  obtain ⟨h2, h⟩ := two h
  obtain ⟨h3, h⟩ := two h
  obtain ⟨h4, h⟩ := two h
  obtain ⟨h5, h6⟩ := two h
  have key : ∀ T, oth T → PySem.W.kitOne K (.type T) (.ref C) = some false ∧ PySem.W.subIn K (.type T) (.ref C) = some false ∧ PySem.W.subIn K (.ref C) (.type T) = some false := fun T hT => by
    have m : T ∈ ["NoneType", "tuple", "list"] := by
      rcases hT with rfl | rfl | rfl
      · exact List.mem_cons_self
      · exact List.mem_cons_of_mem _ List.mem_cons_self
      · exact List.mem_cons_of_mem _ (List.mem_cons_of_mem _ List.mem_cons_self)
    obtain ⟨k1, k⟩ := two (List.all_eq_true.mp h6 T m)
    obtain ⟨k2, k3⟩ := two k
    exact ⟨of_decide_eq_true k1, of_decide_eq_true k2, of_decide_eq_true k3⟩
  exact ⟨cl, He.eqO_ok h1, He.eqO_ok g1, of_decide_eq_true g2, of_decide_eq_true h2, He.eqO_ok h3, h4, He.eqO_ok h5, fun T hT => (key T hT).1, fun T hT => by
    have z := (key T hT).2.1
    unfold PySem.W.notFirst
    rw [z]
    simp, fun T hT => (key T hT).2.2⟩
theorem er_ok {K : PySem.W.Frag} {mg : Str → Option Value} {nm : Str} {C f : Addr} (m : mg nm = some (.ref C)) (g : gB K = true) (h : erB K C f = true) : ErT K mg nm C f := by
  obtain ⟨g1, g2⟩ := two g
  obtain ⟨h1, h⟩ := two h
  obtain ⟨h2, h⟩ := two h
  obtain ⟨h3, h⟩ := two h
  obtain ⟨h4, h⟩ := two h
  obtain ⟨h5, h⟩ := two h
  obtain ⟨h6, h⟩ := two h
  obtain ⟨h7, h⟩ := two h
  obtain ⟨h8, h9⟩ := two h
  have x := xfB_ok h2
  exact ⟨m, ⟨veB_ok h1, He.eqO_ok h3, x.exC, of_decide_eq_true h4, h5⟩, x, ⟨x.ga, x.gg, x.exC, x.hdC, He.eqO_ok h6, He.eqO_ok g1, of_decide_eq_true g2, of_decide_eq_true h7⟩, He.eqO_ok h8, of_decide_eq_true h9⟩
end OT
set_option Elab.async false
set_option linter.all false
set_option maxRecDepth 100000
set_option maxHeartbeats 2000000
namespace OT
open PySem L2 OTR
theorem all_mk {P : Program} {w : World} {K : PySem.W.Frag} {mg : Str → Option Value} {fC fI fA fCK fCH fEA fEB fCO fKY fKD fLG fST fAF fVK fVO fVS fXC fXS fXD fXP fXU fXN fXO fXE fXI fXR fXV fXA fXH fXL fL CR CT CP CM CW CBk CB CN CG CNR COR CNW CNN CNo fB fN fG fNR fOR fNW fR fT fPl fMa fRw fRE fTE fPE fME fWE fNN fNO fVI fVC fVR fVW fVM fVB fVP fVE fVA : Addr} {fdC fdI fdA fdCK fdCH fdEA fdEB fdCO fdKY fdKD fdLG fdST fdAF fdVK fdVO fdVS fdXC fdXS fdXD fdXP fdXU fdXN fdXO fdXE fdXI fdXR fdXV fdXA fdXH fdXL fdL fdB fdN fdG fdNR fdOR fdNW fdR fdT fdPl fdMa fdRw fdRE fdTE fdPE fdME fdWE fdNN fdNO fdVI fdVC fdVR fdVW fdVM fdVB fdVP fdVE fdVA : FuncData}
    (aC : mg "check_road" = some (.ref fC))
    (FC : Fun K "check_road" "check_road" sCheck fC fdC)
    (aI : mg "join_trails" = some (.ref fI))
    (FI : Fun K "join_trails" "join_trails" sJoin fI fdI)
    (aA : mg "trails_along" = some (.ref fA))
    (FA : Fun K "trails_along" "trails_along" sTrails fA fdA)
    (aCK : mg "check_place" = some (.ref fCK))
    (FCK : Fun K "check_place" "check_place" sCheckPl fCK fdCK)
    (aCH : mg "check_march" = some (.ref fCH))
    (FCH : Fun K "check_march" "check_march" sCheckMa fCH fdCH)
    (aEA : mg "end_at" = some (.ref fEA))
    (FEA : Fun K "end_at" "end_at" sEndAt fEA fdEA)
    (aEB : mg "end_beyond" = some (.ref fEB))
    (FEB : Fun K "end_beyond" "end_beyond" sEndBeyond fEB fdEB)
    (aCO : mg "corner" = some (.ref fCO))
    (FCO : Fun K "corner" "corner" sCorner fCO fdCO)
    (aKY : mg "key" = some (.ref fKY))
    (FKY : Fun K "key" "key" sKey fKY fdKY)
    (aKD : mg "keyed" = some (.ref fKD))
    (FKD : Fun K "keyed" "keyed" sKeyed fKD fdKD)
    (aLG : mg "legs" = some (.ref fLG))
    (FLG : Fun K "legs" "legs" sLegs fLG fdLG)
    (aST : mg "step" = some (.ref fST))
    (FST : Fun K "step" "step" sStep fST fdST)
    (aAF : mg "after" = some (.ref fAF))
    (DDAF : FunD K "after" "after" (defArgs sAfter) (defBody sAfter) (defScope sAfter) [] [("rounds", V.int 1)] fAF fdAF)
    (aVK : mg "check_kept" = some (.ref fVK))
    (FVK : Fun K "check_kept" "check_kept" sChkKept fVK fdVK)
    (aVO : mg "answers_without" = some (.ref fVO))
    (FVO : Fun K "answers_without" "answers_without" sWithout fVO fdVO)
    (aVS : mg "is_name" = some (.ref fVS))
    (FVS : Fun K "is_name" "is_name" sIsName fVS fdVS)
    (aXC : mg "_law_cell_at" = some (.ref fXC))
    (FXC : Fun K "_law_cell_at" "_law_cell_at" sCellAt fXC fdXC)
    (aXS : mg "_law_source" = some (.ref fXS))
    (FXS : Fun K "_law_source" "_law_source" sSrcK fXS fdXS)
    (aXD : mg "_law_draw" = some (.ref fXD))
    (FXD : Fun K "_law_draw" "_law_draw" sDrwK fXD fdXD)
    (aXP : mg "_law_choice" = some (.ref fXP))
    (FXP : Fun K "_law_choice" "_law_choice" sChoice fXP fdXP)
    (aXU : mg "_law_shuffled" = some (.ref fXU))
    (FXU : Fun K "_law_shuffled" "_law_shuffled" sShuf fXU fdXU)
    (aXN : mg "_law_lane" = some (.ref fXN))
    (FXN : Fun K "_law_lane" "_law_lane" sLane65 fXN fdXN)
    (aXO : mg "_law_forms" = some (.ref fXO))
    (FXO : Fun K "_law_forms" "_law_forms" sForms65 fXO fdXO)
    (aXE : mg "_law_expected" = some (.ref fXE))
    (FXE : Fun K "_law_expected" "_law_expected" sExp65 fXE fdXE)
    (aXI : mg "_law_coordinate" = some (.ref fXI))
    (FXI : Fun K "_law_coordinate" "_law_coordinate" sCoord65 fXI fdXI)
    (aXR : mg "_law_row" = some (.ref fXR))
    (FXR : Fun K "_law_row" "_law_row" sRow65 fXR fdXR)
    (aXV : mg "_law_moved" = some (.ref fXV))
    (FXV : Fun K "_law_moved" "_law_moved" sMoved65 fXV fdXV)
    (aXA : mg "_law_stands" = some (.ref fXA))
    (FXA : Fun K "_law_stands" "_law_stands" sStands65 fXA fdXA)
    (aXH : mg "_law_calls_right" = some (.ref fXH))
    (FXH : Fun K "_law_calls_right" "_law_calls_right" sCalls65 fXH fdXH)
    (aXL : mg "_law_many_rounds_right" = some (.ref fXL))
    (FXL : Fun K "_law_many_rounds_right" "_law_many_rounds_right" sRounds65 fXL fdXL)
    (aL : mg "law" = some (.ref fL))
    (FL : Fun K "law" "law" sLaw fL fdL)
    (mCR : mg "Road" = some (.ref CR))
    (mCT : mg "Tree" = some (.ref CT))
    (mCP : mg "Place" = some (.ref CP))
    (mCM : mg "March" = some (.ref CM))
    (mCW : mg "Row" = some (.ref CW))
    (mCBk : mg "Book" = some (.ref CBk))
    (mCB : mg "BadCount" = some (.ref CB))
    (mCN : mg "NoCrossing" = some (.ref CN))
    (mCG : mg "RingRoad" = some (.ref CG))
    (mCNR : mg "NoRoad" = some (.ref CNR))
    (mCOR : mg "OffRoad" = some (.ref COR))
    (mCNW : mg "NotWhole" = some (.ref CNW))
    (mCNN : mg "NoName" = some (.ref CNN))
    (mCNo : mg "NoRow" = some (.ref CNo))
    (FB : Fun K "__init__" "BadCount.__init__" sBad fB fdB)
    (FN : Fun K "__init__" "NoCrossing.__init__" sNoC fN fdN)
    (FG : Fun K "__init__" "RingRoad.__init__" sRing fG fdG)
    (FNR : Fun K "__init__" "NoRoad.__init__" sNoRd fNR fdNR)
    (FOR : Fun K "__init__" "OffRoad.__init__" sOff fOR fdOR)
    (FNW : Fun K "__init__" "NotWhole.__init__" sNotW fNW fdNW)
    (FR : Fun K "__init__" "Road.__init__" sRoadI fR fdR)
    (FT : Fun K "__init__" "Tree.__init__" sTreeI fT fdT)
    (FPl : Fun K "__init__" "Place.__init__" sPlaceI fPl fdPl)
    (FMa : Fun K "__init__" "March.__init__" sMarchI fMa fdMa)
    (FRw : Fun K "__init__" "Row.__init__" sRowI fRw fdRw)
    (FRE : Fun K "__eq__" "Road.__eq__" sRoadE fRE fdRE)
    (FTE : Fun K "__eq__" "Tree.__eq__" sTreeE fTE fdTE)
    (FPE : Fun K "__eq__" "Place.__eq__" sPlaceE fPE fdPE)
    (FME : Fun K "__eq__" "March.__eq__" sMarchE fME fdME)
    (FWE : Fun K "__eq__" "Row.__eq__" sRowE fWE fdWE)
    (FNN : Fun K "__init__" "NoName.__init__" sNoNameI fNN fdNN)
    (FNO : Fun K "__init__" "NoRow.__init__" sNoRowI fNO fdNO)
    (FVI : Fun K "__init__" "Book.__init__" sBkI fVI fdVI)
    (FVC : Fun K "change" "Book.change" sBkChange fVC fdVC)
    (FVR : Fun K "row" "Book.row" sBkRow fVR fdVR)
    (FVW : Fun K "where" "Book.where" sBkWhere fVW fdVW)
    (FVM : Fun K "many" "Book.many" sBkMany fVM fdVM)
    (FVB : Fun K "back" "Book.back" sBkBack fVB fdVB)
    (FVP : Fun K "post" "Book.post" sBkPost fVP fdVP)
    (FVE : Fun K "keep" "Book.keep" sBkKeep fVE fdVE)
    (FVA : Fun K "call" "Book.call" sBkCall fVA fdVA)
    (clCR : Cls K CR)
    (nCR0 : NoAttr K CR "a")
    (nCR1 : NoAttr K CR "b")
    (nCR2 : NoAttr K CR "length")
    (MCR : Mk K CR fR)
    (QCR : QC K CR fRE)
    (clCT : Cls K CT)
    (nCT0 : NoAttr K CT "crossings")
    (nCT1 : NoAttr K CT "roads")
    (nCT2 : NoAttr K CT "trails")
    (MCT : Mk K CT fT)
    (QCT : QC K CT fTE)
    (clCP : Cls K CP)
    (nCP0 : NoAttr K CP "road")
    (nCP1 : NoAttr K CP "number")
    (nCP2 : NoAttr K CP "parts")
    (MCP : Mk K CP fPl)
    (QCP : QC K CP fPE)
    (clCM : Cls K CM)
    (nCM0 : NoAttr K CM "goal")
    (nCM1 : NoAttr K CM "steps")
    (MCM : Mk K CM fMa)
    (QCM : QC K CM fME)
    (clCW : Cls K CW)
    (nCW0 : NoAttr K CW "tree")
    (nCW1 : NoAttr K CW "marches")
    (MCW : Mk K CW fRw)
    (QCW : QC K CW fWE)
    (clCBk : Cls K CBk)
    (nCBk0 : NoAttr K CBk "tree")
    (nCBk1 : NoAttr K CBk "kept")
    (nCBk2 : NoAttr K CBk "folk")
    (nCBk3 : NoAttr K CBk "answers")
    (nCBk4 : NoAttr K CBk "past")
    (MCBk : Mk K CBk fVI)
    (nCB0 : NoAttr K CB "what")
    (nCB1 : NoAttr K CB "count")
    (TCB : ErT K mg "BadCount" CB fB)
    (nCN0 : NoAttr K CN "crossing")
    (TCN : ErT K mg "NoCrossing" CN fN)
    (nCG0 : NoAttr K CG "road")
    (TCG : ErT K mg "RingRoad" CG fG)
    (nCNR0 : NoAttr K CNR "road")
    (TCNR : ErT K mg "NoRoad" CNR fNR)
    (nCOR0 : NoAttr K COR "road")
    (TCOR : ErT K mg "OffRoad" COR fOR)
    (nCNW0 : NoAttr K CNW "march")
    (TCNW : ErT K mg "NotWhole" CNW fNW)
    (nCNN0 : NoAttr K CNN "name")
    (TCNN : ErT K mg "NoName" CNN fNN)
    (nCNo0 : NoAttr K CNo "name")
    (TCNo : ErT K mg "NoRow" CNo fNO)
    (z_abs : mg "abs" = none)
    (z_all : mg "all" = none)
    (z_dict : mg "dict" = none)
    (z_enumerate : mg "enumerate" = none)
    (z_int : mg "int" = none)
    (z_isinstance : mg "isinstance" = none)
    (z_len : mg "len" = none)
    (z_list : mg "list" = none)
    (z_max : mg "max" = none)
    (z_min : mg "min" = none)
    (z_range : mg "range" = none)
    (z_sorted : mg "sorted" = none)
    (z_tuple : mg "tuple" = none)
    (hVC : Meth K CBk "change" fVC)
    (hVR : Meth K CBk "row" fVR)
    (hVW : Meth K CBk "where" fVW)
    (hVM : Meth K CBk "many" fVM)
    (hVB : Meth K CBk "back" fVB)
    (hVP : Meth K CBk "post" fVP)
    (hVE : Meth K CBk "keep" fVE)
    (hVA : Meth K CBk "call" fVA)
    (v0 : ∃ t, mg "LEAST_CROSSINGS" = some (.int 2 t))
    (v1 : ∃ t, mg "MOST_CROSSINGS" = some (.int 24 t))
    (v2 : ∃ t, mg "MOST_MARCHES" = some (.int 24 t))
    (v3 : ∃ t, mg "MOST_ROUNDS" = some (.int 1000 t))
    (v4 : ∃ t, mg "LONGEST_NAME" = some (.int 8 t))
    (v5 : ∃ t, mg "MOST_FOLK" = some (.int 24 t))
    (v6 : ∃ t, mg "MOST_ROWS" = some (.int 8 t))
    (hs_LETTERS : ∃ t, mg "LETTERS" = some (.str "abcdefghijklmnopqrstuvwxyz" t))
    (hs_DIGITS : ∃ t, mg "DIGITS" = some (.str "0123456789" t))
    (hL0 : ∃ t, mg "LONGEST_ROAD" = some (.int 1000000000 t))
    (hL1 : ∃ t, mg "MOST_STEPS" = some (.int 1000000000 t))
    (gcdB : mg "gcd" = some (.builtin "math.gcd"))
    (lcmB : mg "lcm" = some (.builtin "math.lcm"))
    : (∀ (s : Shared) (v : Value), BindsTo s fdL ⟨[v], []⟩ [("_law_script", v)]) ∧ ∀ base : Heap, K.In base → base.Ns mainGlobals mg → FnOk P w K mg base CX0 11 fL fdL ["_law_script"] (spLaw K) := by
  have bC := FC.binds (ps := ["crossings", "road"]) fun _ _ _ _ _ _ us hl => match us, hl with | [_, _], _ => rfl
  have bI := FI.binds (ps := ["trails", "crossings", "number", "road"]) fun _ _ _ _ _ _ us hl => match us, hl with | [_, _, _, _], _ => rfl
  have bA := FA.binds (ps := ["crossings", "roads"]) fun _ _ _ _ _ _ us hl => match us, hl with | [_, _], _ => rfl
  have bCK := FCK.binds (ps := ["tree", "place"]) fun _ _ _ _ _ _ us hl => match us, hl with | [_, _], _ => rfl
  have bCH := FCH.binds (ps := ["tree", "number", "march"]) fun _ _ _ _ _ _ us hl => match us, hl with | [_, _, _], _ => rfl
  have bEA := FEA.binds (ps := ["road", "crossing"]) fun _ _ _ _ _ _ us hl => match us, hl with | [_, _], _ => rfl
  have bEB := FEB.binds (ps := ["road", "crossing"]) fun _ _ _ _ _ _ us hl => match us, hl with | [_, _], _ => rfl
  have bCO := FCO.binds (ps := ["tree", "crossing"]) fun _ _ _ _ _ _ us hl => match us, hl with | [_, _], _ => rfl
  have bKY := FKY.binds (ps := ["tree", "place"]) fun _ _ _ _ _ _ us hl => match us, hl with | [_, _], _ => rfl
  have bKD := FKD.binds (ps := ["row"]) fun _ _ _ _ _ _ us hl => match us, hl with | [_], _ => rfl
  have bLG := FLG.binds (ps := ["tree", "one", "other", "parts"]) fun _ _ _ _ _ _ us hl => match us, hl with | [_, _, _, _], _ => rfl
  have bST := FST.binds (ps := ["tree", "place", "goal", "steps"]) fun _ _ _ _ _ _ us hl => match us, hl with | [_, _, _, _], _ => rfl
  have bVK := FVK.binds (ps := ["kept", "name"]) fun _ _ _ _ _ _ us hl => match us, hl with | [_, _], _ => rfl
  have bVO := FVO.binds (ps := ["answers", "name"]) fun _ _ _ _ _ _ us hl => match us, hl with | [_, _], _ => rfl
  have bVS := FVS.binds (ps := ["name"]) fun _ _ _ _ _ _ us hl => match us, hl with | [_], _ => rfl
  have bXC := FXC.binds (ps := ["_law_script", "_law_index"]) fun _ _ _ _ _ _ us hl => match us, hl with | [_, _], _ => rfl
  have bXS := FXS.binds (ps := ["_law_cell"]) fun _ _ _ _ _ _ us hl => match us, hl with | [_], _ => rfl
  have bXD := FXD.binds (ps := ["_law_source_here", "_law_bound"]) fun _ _ _ _ _ _ us hl => match us, hl with | [_, _], _ => rfl
  have bXP := FXP.binds (ps := ["_law_source_here", "_law_items"]) fun _ _ _ _ _ _ us hl => match us, hl with | [_, _], _ => rfl
  have bXU := FXU.binds (ps := ["_law_source_here", "_law_items"]) fun _ _ _ _ _ _ us hl => match us, hl with | [_, _], _ => rfl
  have bXN := FXN.binds (ps := ["_law_source_here"]) fun _ _ _ _ _ _ us hl => match us, hl with | [_], _ => rfl
  have bXO := FXO.binds (ps := ["_law_lane_here", "_law_parts", "_law_at"]) fun _ _ _ _ _ _ us hl => match us, hl with | [_, _, _], _ => rfl
  have bXE := FXE.binds (ps := ["_law_lane_here", "_law_parts", "_law_at"]) fun _ _ _ _ _ _ us hl => match us, hl with | [_, _, _], _ => rfl
  have bXI := FXI.binds (ps := ["_law_source_here", "_law_lane_here", "_law_parts"]) fun _ _ _ _ _ _ us hl => match us, hl with | [_, _, _], _ => rfl
  have bXR := FXR.binds (ps := ["_law_source_here", "_law_lane_here"]) fun _ _ _ _ _ _ us hl => match us, hl with | [_, _], _ => rfl
  have bXV := FXV.binds (ps := ["_law_at", "_law_specs", "_law_parts"]) fun _ _ _ _ _ _ us hl => match us, hl with | [_, _, _], _ => rfl
  have bXA := FXA.binds (ps := ["_law_book", "_law_lane_here", "_law_parts", "_law_folk"]) fun _ _ _ _ _ _ us hl => match us, hl with | [_, _, _, _], _ => rfl
  have bXH := FXH.binds (ps := ["_law_source_here", "_law_book", "_law_lane_here", "_law_parts", "_law_folk", "_law_rows"]) fun _ _ _ _ _ _ us hl => match us, hl with | [_, _, _, _, _, _], _ => rfl
  have bXL := FXL.binds (ps := ["_law_source_here", "_law_tree", "_law_lane_here", "_law_parts", "_law_at"]) fun _ _ _ _ _ _ us hl => match us, hl with | [_, _, _, _, _], _ => rfl
  have bB := FB.binds (ps := ["self", "what", "count"]) fun _ _ _ _ _ _ us hl => match us, hl with | [_, _, _], _ => rfl
  have bN := FN.binds (ps := ["self", "crossing"]) fun _ _ _ _ _ _ us hl => match us, hl with | [_, _], _ => rfl
  have bG := FG.binds (ps := ["self", "road"]) fun _ _ _ _ _ _ us hl => match us, hl with | [_, _], _ => rfl
  have bNR := FNR.binds (ps := ["self", "road"]) fun _ _ _ _ _ _ us hl => match us, hl with | [_, _], _ => rfl
  have bOR := FOR.binds (ps := ["self", "road"]) fun _ _ _ _ _ _ us hl => match us, hl with | [_, _], _ => rfl
  have bNW := FNW.binds (ps := ["self", "march"]) fun _ _ _ _ _ _ us hl => match us, hl with | [_, _], _ => rfl
  have bR := FR.binds (ps := ["self", "a", "b", "length"]) fun _ _ _ _ _ _ us hl => match us, hl with | [_, _, _, _], _ => rfl
  have bT := FT.binds (ps := ["self", "crossings", "roads"]) fun _ _ _ _ _ _ us hl => match us, hl with | [_, _, _], _ => rfl
  have bPl := FPl.binds (ps := ["self", "road", "number", "parts"]) fun _ _ _ _ _ _ us hl => match us, hl with | [_, _, _, _], _ => rfl
  have bMa := FMa.binds (ps := ["self", "goal", "steps"]) fun _ _ _ _ _ _ us hl => match us, hl with | [_, _, _], _ => rfl
  have bRw := FRw.binds (ps := ["self", "tree", "marches"]) fun _ _ _ _ _ _ us hl => match us, hl with | [_, _, _], _ => rfl
  have bRE := FRE.binds (ps := ["self", "other"]) fun _ _ _ _ _ _ us hl => match us, hl with | [_, _], _ => rfl
  have bTE := FTE.binds (ps := ["self", "other"]) fun _ _ _ _ _ _ us hl => match us, hl with | [_, _], _ => rfl
  have bPE := FPE.binds (ps := ["self", "other"]) fun _ _ _ _ _ _ us hl => match us, hl with | [_, _], _ => rfl
  have bME := FME.binds (ps := ["self", "other"]) fun _ _ _ _ _ _ us hl => match us, hl with | [_, _], _ => rfl
  have bWE := FWE.binds (ps := ["self", "other"]) fun _ _ _ _ _ _ us hl => match us, hl with | [_, _], _ => rfl
  have bNN := FNN.binds (ps := ["self", "name"]) fun _ _ _ _ _ _ us hl => match us, hl with | [_, _], _ => rfl
  have bNO := FNO.binds (ps := ["self", "name"]) fun _ _ _ _ _ _ us hl => match us, hl with | [_, _], _ => rfl
  have bVI := FVI.binds (ps := ["self", "tree"]) fun _ _ _ _ _ _ us hl => match us, hl with | [_, _], _ => rfl
  have bVC := FVC.binds (ps := ["self", "kept", "folk", "answers"]) fun _ _ _ _ _ _ us hl => match us, hl with | [_, _, _, _], _ => rfl
  have bVR := FVR.binds (ps := ["self", "name"]) fun _ _ _ _ _ _ us hl => match us, hl with | [_, _], _ => rfl
  have bVW := FVW.binds (ps := ["self"]) fun _ _ _ _ _ _ us hl => match us, hl with | [_], _ => rfl
  have bVM := FVM.binds (ps := ["self"]) fun _ _ _ _ _ _ us hl => match us, hl with | [_], _ => rfl
  have bVB := FVB.binds (ps := ["self"]) fun _ _ _ _ _ _ us hl => match us, hl with | [_], _ => rfl
  have bVP := FVP.binds (ps := ["self", "place"]) fun _ _ _ _ _ _ us hl => match us, hl with | [_, _], _ => rfl
  have bVE := FVE.binds (ps := ["self", "name", "marches"]) fun _ _ _ _ _ _ us hl => match us, hl with | [_, _, _], _ => rfl
  have bVA := FVA.binds (ps := ["self", "name"]) fun _ _ _ _ _ _ us hl => match us, hl with | [_, _], _ => rfl
  have kC := FC.kp
  have kI := FI.kp
  have kA := FA.kp
  have kCK := FCK.kp
  have kCH := FCH.kp
  have kEA := FEA.kp
  have kEB := FEB.kp
  have kCO := FCO.kp
  have kKY := FKY.kp
  have kKD := FKD.kp
  have kLG := FLG.kp
  have kST := FST.kp
  have kAF := DDAF.kp
  have kVK := FVK.kp
  have kVO := FVO.kp
  have kVS := FVS.kp
  have kXC := FXC.kp
  have kXS := FXS.kp
  have kXD := FXD.kp
  have kXP := FXP.kp
  have kXU := FXU.kp
  have kXN := FXN.kp
  have kXO := FXO.kp
  have kXE := FXE.kp
  have kXI := FXI.kp
  have kXR := FXR.kp
  have kXV := FXV.kp
  have kXA := FXA.kp
  have kXH := FXH.kp
  have kXL := FXL.kp
  have TR : RdT K mg CR := ⟨clCR, nCR0, nCR1, nCR2, mCR⟩
  have TT : TeT K mg CT := ⟨clCT, nCT0, nCT1, nCT2, mCT⟩
  have TP : PlT K mg CP := ⟨clCP, nCP0, nCP1, nCP2, mCP⟩
  have TM : MaT K mg CM := ⟨clCM, nCM0, nCM1, mCM⟩
  have TW : RwT K mg CW := ⟨clCW, nCW0, nCW1, mCW⟩
  have TBk : BkT K mg CBk := ⟨clCBk, nCBk0, nCBk1, nCBk2, nCBk3, nCBk4, mCBk⟩
  have FAF := fun_of DDAF
  have DA := DDAF
  obtain ⟨dsAF, rAF, bAF⟩ := DA.binds0 (ps := ["row", "place", "rounds"]) 2 (by simp) rfl fun _ _ _ _ _ _ us ks h1 h2 => match us, ks, h1, h2 with | [_, _], [_], _, _ => ⟨_, _, _, _, _, _, rfl, rfl, rfl⟩
  have kbAF : KBn K _ ["row", "place", "rounds"] 2 ["rounds"] (fun us ws => catK us ws) (fun vs zs => catK vs zs) := kb_of FAF catK catK_rel fun _ _ _ _ _ _ us ws h1 h2 => match us, ws, h1, h2 with | [_, _], [_], _, _ => rfl
  refine ⟨fun s v => ?_, fun base _ _ => ?_⟩
  · obtain ⟨oc, od, kV, doc, pm, an, cdv, ct, osl, e0, _, _⟩ := FL.ex
    rw [e0]
    exact .of_eq rfl
  · have OB : FnOk P w K mg base CX0 1 _ _ _ _ := ok_bad FB TCB.ox nCB0 nCB1
    have ON : FnOk P w K mg base CX0 1 _ _ _ _ := ok_noc FN TCN.ox nCN0
    have OG : FnOk P w K mg base CX0 1 _ _ _ _ := ok_ringI FG TCG.ox nCG0
    have ONR : FnOk P w K mg base CX0 1 _ _ _ _ := ok_noRd FNR TCNR.ox nCNR0
    have OOR : FnOk P w K mg base CX0 1 _ _ _ _ := ok_off FOR TCOR.ox nCOR0
    have ONW : FnOk P w K mg base CX0 1 _ _ _ _ := ok_notW FNW TCNW.ox nCNW0
    have OR_ : FnOk P w K mg base CX0 1 _ _ _ (spRoadI CR) := ok_roadI FR TR
    have OC : FnOk P w K mg base (L2.CX P w) 3 _ _ _ (spCheck CR CB CN) := ok_check FC TR TCB TCN OB bB ON bN hL0
    have OI : FnOk P w K mg base CX0 1 _ _ _ (spJoin K CR) := ok_join FI TR z_range
    have OA : FnOk P w K mg base (L2.CX P w) 4 _ _ _ (spTrails K CR CB CN CG) := ok_trails FA TR TCG OG bG OC bC aC kC OI bI aI kI z_range z_enumerate
    have OT : FnOk P w K mg base (L2.CX P w) 5 _ _ _ (spTreeI K CT CR CB CN CG) := ok_treeI FT TT TCB OB bB OA bA aA kA v0 v1 z_len z_tuple
    have OPl : FnOk P w K mg base (L2.CX P w) 3 _ _ _ (spPlaceI CP CB) := ok_placeI FPl TP TCB OB bB gcdB
    have OCK : FnOk P w K mg base (L2.CX P w) 3 _ _ _ (spCheckPl K CT CR CP CNR COR) := ok_checkPl FCK TT TR TP TCNR TCOR ONR bNR OOR bOR z_len
    have OMa : FnOk P w K mg base CX0 1 _ _ _ (spMarchI CM) := ok_marchI FMa TM
    have OCH : FnOk P w K mg base (L2.CX P w) 4 _ _ _ (spCheckMa K CT CR CM CP CB CNR COR CNW) := ok_checkMa FCH TM TP TCB TCNW OCK bCK aCK kCK OB bB ONW bNW hL1
    have ORw : FnOk P w K mg base (L2.CX P w) 5 _ _ _ (spRowI K CT CR CM CP CW CB CNR COR CNW) := ok_rowI FRw TW TCB OCH bCH aCH kCH OB bB v2 z_len z_enumerate z_tuple
    have ORE : FnOk P w K mg base CX0 1 _ _ _ (spRoadE CR) := ok_roadE FRE TR QCR z_isinstance
    have OTE : FnOk P w K mg base CX0 3 _ _ _ (spTreeE K CT CR) := ok_treeE FTE TT QCT QCR ORE bRE z_isinstance
    have OPE : FnOk P w K mg base CX0 1 _ _ _ (spPlaceE CP) := ok_placeE FPE TP QCP z_isinstance
    have OME : FnOk P w K mg base CX0 2 _ _ _ (spMarchE CM CP) := ok_marchE FME TM QCM QCP OPE bPE z_isinstance
    have OEA : FnOk P w K mg base CX0 1 _ _ _ (spEndAt CR) := ok_endAt FEA TR
    have OEB : FnOk P w K mg base CX0 1 _ _ _ (spEndBy CR) := ok_endBy FEB TR
    have OCO : FnOk P w K mg base (L2.CX P w) 5 _ _ _ (spCorner K CT CR CP CN) := ok_corner FCO TT TR TP TCN ON bN OEA bEA aEA kEA MCP OPl bPl z_min z_enumerate
    have OKY : FnOk P w K mg base (L2.CX P w) 6 _ _ _ (spKey K CT CR CP CNR COR) := ok_key FKY TT TR TP OCK bCK aCK kCK OCO bCO aCO kCO
    have OKD : FnOk P w K mg base CX0 7 _ _ _ (spKeyed K CT CR CM CP CW) := ok_keyed FKD TW TM MCM OMa bMa OKY bKY aKY kKY
    have OWE : FnOk P w K mg base CX0 8 _ _ _ (spRowE K CT CR CM CP CW) := ok_rowE FWE TW QCW QCT QCM OTE bTE OME bME OKD bKD aKD kKD z_isinstance
    have OLG : FnOk P w K mg base CX0 2 _ _ _ (spLegs K CT CR CP) := ok_legs FLG TT TR TP OEA bEA aEA kEA OEB bEB aEB kEB
    have OST : FnOk P w K mg base (L2.CX P w) 7 _ _ _ (spStep K CT CR CP CB CNR COR) := ok_step FST TP TCB OB bB OCK bCK aCK kCK OLG bLG aLG kLG OKY bKY aKY kKY MCP OPl bPl lcmB z_abs
    have OAF : FnOk P w K mg base (L2.CX P w) 8 _ _ _ (spAfter K CT CR CM CP CW CB CNR COR) := ok_after FAF TW TM TCB OB bB OKY bKY aKY kKY OST bST aST kST v3 z_range
    have ONN : FnOk P w K mg base CX0 1 _ _ _ _ := ok_noNameI FNN TCNN.ox nCNN0
    have ONO : FnOk P w K mg base CX0 1 _ _ _ _ := ok_noRowI FNO TCNo.ox nCNo0
    have OVI : FnOk P w K mg base CX0 1 _ _ _ (spBkI K CT CR CM CP CW CBk) := ok_bkI FVI TBk
    have OVC : FnOk P w K mg base CX0 1 _ _ _ (spBkChange K CT CR CM CP CW CBk) := ok_bkChange FVC TBk
    have OVK : FnOk P w K mg base (L2.CX P w) 3 _ _ _ (spChkKept CNo) := ok_chkKept FVK TCNo ONO bNO
    have OVR : FnOk P w K mg base (L2.CX P w) 4 _ _ _ (spBkRow K CT CR CM CP CW CBk CNo) := ok_bkRow FVR TBk OVK bVK aVK kVK
    have OVW : FnOk P w K mg base CX0 1 _ _ _ (spBkWhere K CT CR CM CP CW CBk) := ok_bkWhere FVW TBk z_list
    have OVM : FnOk P w K mg base CX0 1 _ _ _ (spBkMany K CT CR CM CP CW CBk) := ok_bkMany FVM TBk z_len
    have OVB : FnOk P w K mg base CX0 1 _ _ _ (spBkBack K CT CR CM CP CW CBk) := ok_bkBack FVB TBk
    have OVO : FnOk P w K mg base CX0 1 _ _ _ spWithout := ok_without FVO
    have OVS : FnOk P w K mg base CX0 1 _ _ _ spIsName := ok_isName FVS v4 hs_LETTERS hs_DIGITS z_len z_all
    have OVP : FnOk P w K mg base (L2.CX P w) 7 _ _ _ (spBkPost K CT CR CM CP CW CBk CB CNR COR) := ok_bkPost FVP TBk TCB OB bB OKY bKY aKY kKY hVC OVC bVC v5 z_len
    have OVE : FnOk P w K mg base (L2.CX P w) 10 _ _ _ (spBkKeep K CT CR CM CP CW CBk CB CNN CNR COR CNW) := ok_bkKeep FVE TBk TCB OB bB TCNN ONN bNN OVS bVS aVS kVS TW MCW ORw bRw QCW OWE bWE hVC OVC bVC OVO bVO aVO kVO v6 z_len z_dict
    have OVA : FnOk P w K mg base (L2.CX P w) 9 _ _ _ (spBkCall K CT CR CM CP CW CBk CNo) := ok_bkCall FVA TBk hVR OVR bVR OAF rAF bAF aAF kAF QCP OPE bPE hVC OVC bVC
    have OXC : FnOk P w K mg base CX0 1 _ _ _ (spCellAt K) := ok_cellAt FXC z_len
    have OXS : FnOk P w K mg base CX0 1 _ _ _ spSource := ok_srcK FXS z_int
    have OXD : FnOk P w K mg base CX0 1 _ _ _ spDraw := ok_drwK FXD
    have OXDW : FnOk P w K mg base CX0 1 _ _ _ spDrwW := ok_drwW FXD
    have OXP : FnOk P w K mg base CX0 2 _ _ _ (spPick K) := ok_pick FXP OXD bXD aXD kXD z_len
    have OXU : FnOk P w K mg base CX0 2 _ _ _ spShuf := ok_shuf FXU OXD bXD aXD kXD z_len z_list
    have OXN : FnOk P w K mg base CX0 3 _ _ _ spLane := ok_lane FXN OXD bXD aXD kXD OXP bXP aXP kXP OXU bXU aXU kXU z_list z_range
    have OXO : FnOk P w K mg base CX0 1 _ _ _ spForms := ok_forms FXO z_enumerate
    have OXE : FnOk P w K mg base CX0 2 _ _ _ spExp65 := ok_exp65 FXE OXO bXO aXO kXO
    have OXI : FnOk P w K mg base CX0 3 _ _ _ spCoord := ok_coord FXI OXDW bXD aXD kXD OXP bXP aXP kXP z_max z_min
    have OXR : FnOk P w K mg base CX0 5 _ _ _ (spRow65 CM CP) := ok_row65 FXR OXD bXD aXD kXD OXP bXP aXP kXP OXI bXI aXI kXI OXO bXO aXO kXO TM TP MCM MCP OMa bMa OPl bPl z_range
    have OXV : FnOk P w K mg base CX0 1 _ _ _ (spMoved K) := ok_moved FXV z_min z_abs
    have OXA : FnOk P w K mg base CX0 4 _ _ _ (spStands K CT CR CM CP CW CBk) := ok_stands FXA TBk TP OXE bXE aXE kXE hVW OVW bVW
    have OXH : FnOk P w K mg base CX0 10 _ _ _ (spCalls65 K CT CR CM CP CW CBk) := ok_calls65 FXH TBk OXD bXD aXD kXD OXP bXP aXP kXP OXV bXV aXV kXV OXA bXA aXA kXA hVM OVM bVM hVA OVA bVA hVB OVB bVB z_len z_range z_sorted
    have OXL : FnOk P w K mg base CX0 9 _ _ _ (spRounds65 K CT CR) := ok_rounds65 FXL OXD bXD aXD kXD OXP bXP aXP kXP OXO bXO aXO kXO OXR bXR aXR kXR OXV bXV aXV kXV OXE bXE aXE kXE OAF aAF kAF kbAF TM TP MCM MCP OMa bMa OPl bPl TW MCW ORw bRw z_range
    exact ok_law65 FL TBk OXC bXC aXC kXC OXS bXS aXS kXS OXD bXD aXD kXD OXN bXN aXN kXN OXP bXP aXP kXP OXI bXI aXI kXI OXO bXO aXO kXO OXR bXR aXR kXR OXA bXA aXA kXA OXH bXH aXH kXH OXL bXL aXL kXL TR TT MCR MCT OR_ bR OT bT MCBk OVI bVI hVP OVP bVP hVE OVE bVE TP MCP OPl bPl z_len z_range z_max z_min
end OT
set_option Elab.async false
set_option linter.all false
set_option maxRecDepth 100000
set_option maxHeartbeats 0
namespace OT
open PySem L2 OTR
theorem hk_facts {P : Program} {w : World} {K : PySem.W.Frag} {h : Heap} {mg : Str → Option Value} (X : K.In h) (G : h.Ns mainGlobals mg) (c : SaysP hkFa hkFn hkEx K) :
    ∃ fd : FuncData, (∀ (s : Shared) (v : Value), BindsTo s fd ⟨[v], []⟩ [("_law_script", v)]) ∧ mg "law" = some (.ref (He.ga K "law")) ∧ ∀ base : Heap, K.In base → base.Ns mainGlobals mg → FnOk P w K mg base CX0 11 (He.ga K "law") fd ["_law_script"] (spLaw K) := by
  obtain ⟨fdC, dC⟩ := c.d.def_ 0 (d := ⟨("check_road", none), "check_road", "check_road", defArgs (top 20), defBody (top 20), defScope (top 20), [], []⟩) rfl
  obtain ⟨fdI, dI⟩ := c.d.def_ 1 (d := ⟨("join_trails", none), "join_trails", "join_trails", defArgs (top 21), defBody (top 21), defScope (top 21), [], []⟩) rfl
  obtain ⟨fdA, dA⟩ := c.d.def_ 2 (d := ⟨("trails_along", none), "trails_along", "trails_along", defArgs (top 19), defBody (top 19), defScope (top 19), [], []⟩) rfl
  obtain ⟨fdCK, dCK⟩ := c.d.def_ 3 (d := ⟨("check_place", none), "check_place", "check_place", defArgs (top 26), defBody (top 26), defScope (top 26), [], []⟩) rfl
  obtain ⟨fdCH, dCH⟩ := c.d.def_ 4 (d := ⟨("check_march", none), "check_march", "check_march", defArgs (top 37), defBody (top 37), defScope (top 37), [], []⟩) rfl
  obtain ⟨fdEA, dEA⟩ := c.d.def_ 5 (d := ⟨("end_at", none), "end_at", "end_at", defArgs (top 22), defBody (top 22), defScope (top 22), [], []⟩) rfl
  obtain ⟨fdEB, dEB⟩ := c.d.def_ 6 (d := ⟨("end_beyond", none), "end_beyond", "end_beyond", defArgs (top 23), defBody (top 23), defScope (top 23), [], []⟩) rfl
  obtain ⟨fdCO, dCO⟩ := c.d.def_ 7 (d := ⟨("corner", none), "corner", "corner", defArgs (top 28), defBody (top 28), defScope (top 28), [], []⟩) rfl
  obtain ⟨fdKY, dKY⟩ := c.d.def_ 8 (d := ⟨("key", none), "key", "key", defArgs (top 27), defBody (top 27), defScope (top 27), [], []⟩) rfl
  obtain ⟨fdKD, dKD⟩ := c.d.def_ 9 (d := ⟨("keyed", none), "keyed", "keyed", defArgs (top 38), defBody (top 38), defScope (top 38), [], []⟩) rfl
  obtain ⟨fdLG, dLG⟩ := c.d.def_ 10 (d := ⟨("legs", none), "legs", "legs", defArgs (top 30), defBody (top 30), defScope (top 30), [], []⟩) rfl
  obtain ⟨fdST, dST⟩ := c.d.def_ 11 (d := ⟨("step", none), "step", "step", defArgs (top 29), defBody (top 29), defScope (top 29), [], []⟩) rfl
  obtain ⟨fdAF, dAF⟩ := c.d.def_ 12 (d := ⟨("after", none), "after", "after", defArgs (top 39), defBody (top 39), defScope (top 39), [], [("rounds", .int 1)]⟩) rfl
  obtain ⟨fdVK, dVK⟩ := c.d.def_ 13 (d := ⟨("check_kept", none), "check_kept", "check_kept", defArgs (top 48), defBody (top 48), defScope (top 48), [], []⟩) rfl
  obtain ⟨fdVO, dVO⟩ := c.d.def_ 14 (d := ⟨("answers_without", none), "answers_without", "answers_without", defArgs (top 49), defBody (top 49), defScope (top 49), [], []⟩) rfl
  obtain ⟨fdVS, dVS⟩ := c.d.def_ 15 (d := ⟨("is_name", none), "is_name", "is_name", defArgs (top 47), defBody (top 47), defScope (top 47), [], []⟩) rfl
  obtain ⟨fdXC, dXC⟩ := c.d.def_ 16 (d := ⟨("_law_cell_at", none), "_law_cell_at", "_law_cell_at", defArgs (top 51), defBody (top 51), defScope (top 51), [], []⟩) rfl
  obtain ⟨fdXS, dXS⟩ := c.d.def_ 17 (d := ⟨("_law_source", none), "_law_source", "_law_source", defArgs (top 52), defBody (top 52), defScope (top 52), [], []⟩) rfl
  obtain ⟨fdXD, dXD⟩ := c.d.def_ 18 (d := ⟨("_law_draw", none), "_law_draw", "_law_draw", defArgs (top 53), defBody (top 53), defScope (top 53), [], []⟩) rfl
  obtain ⟨fdXP, dXP⟩ := c.d.def_ 19 (d := ⟨("_law_choice", none), "_law_choice", "_law_choice", defArgs (top 54), defBody (top 54), defScope (top 54), [], []⟩) rfl
  obtain ⟨fdXU, dXU⟩ := c.d.def_ 20 (d := ⟨("_law_shuffled", none), "_law_shuffled", "_law_shuffled", defArgs (top 55), defBody (top 55), defScope (top 55), [], []⟩) rfl
  obtain ⟨fdXN, dXN⟩ := c.d.def_ 21 (d := ⟨("_law_lane", none), "_law_lane", "_law_lane", defArgs (top 56), defBody (top 56), defScope (top 56), [], []⟩) rfl
  obtain ⟨fdXO, dXO⟩ := c.d.def_ 22 (d := ⟨("_law_forms", none), "_law_forms", "_law_forms", defArgs (top 57), defBody (top 57), defScope (top 57), [], []⟩) rfl
  obtain ⟨fdXE, dXE⟩ := c.d.def_ 23 (d := ⟨("_law_expected", none), "_law_expected", "_law_expected", defArgs (top 58), defBody (top 58), defScope (top 58), [], []⟩) rfl
  obtain ⟨fdXI, dXI⟩ := c.d.def_ 24 (d := ⟨("_law_coordinate", none), "_law_coordinate", "_law_coordinate", defArgs (top 59), defBody (top 59), defScope (top 59), [], []⟩) rfl
  obtain ⟨fdXR, dXR⟩ := c.d.def_ 25 (d := ⟨("_law_row", none), "_law_row", "_law_row", defArgs (top 60), defBody (top 60), defScope (top 60), [], []⟩) rfl
  obtain ⟨fdXV, dXV⟩ := c.d.def_ 26 (d := ⟨("_law_moved", none), "_law_moved", "_law_moved", defArgs (top 61), defBody (top 61), defScope (top 61), [], []⟩) rfl
  obtain ⟨fdXA, dXA⟩ := c.d.def_ 27 (d := ⟨("_law_stands", none), "_law_stands", "_law_stands", defArgs (top 62), defBody (top 62), defScope (top 62), [], []⟩) rfl
  obtain ⟨fdXH, dXH⟩ := c.d.def_ 28 (d := ⟨("_law_calls_right", none), "_law_calls_right", "_law_calls_right", defArgs (top 63), defBody (top 63), defScope (top 63), [], []⟩) rfl
  obtain ⟨fdXL, dXL⟩ := c.d.def_ 29 (d := ⟨("_law_many_rounds_right", none), "_law_many_rounds_right", "_law_many_rounds_right", defArgs (top 64), defBody (top 64), defScope (top 64), [], []⟩) rfl
  obtain ⟨fdL, dL⟩ := c.d.def_ 30 (d := ⟨("law", none), "law", "law", defArgs (top 65), defBody (top 65), defScope (top 65), [], []⟩) rfl
  obtain ⟨fdB, dB⟩ := c.d.def_ 31 (d := ⟨("BadCount", some "__init__"), "__init__", "BadCount.__init__", defArgs (inClass (top 4) 0), defBody (inClass (top 4) 0), defScope (inClass (top 4) 0), [], []⟩) rfl
  obtain ⟨fdN, dN⟩ := c.d.def_ 32 (d := ⟨("NoCrossing", some "__init__"), "__init__", "NoCrossing.__init__", defArgs (inClass (top 5) 0), defBody (inClass (top 5) 0), defScope (inClass (top 5) 0), [], []⟩) rfl
  obtain ⟨fdG, dG⟩ := c.d.def_ 33 (d := ⟨("RingRoad", some "__init__"), "__init__", "RingRoad.__init__", defArgs (inClass (top 6) 0), defBody (inClass (top 6) 0), defScope (inClass (top 6) 0), [], []⟩) rfl
  obtain ⟨fdNR, dNR⟩ := c.d.def_ 34 (d := ⟨("NoRoad", some "__init__"), "__init__", "NoRoad.__init__", defArgs (inClass (top 7) 0), defBody (inClass (top 7) 0), defScope (inClass (top 7) 0), [], []⟩) rfl
  obtain ⟨fdOR, dOR⟩ := c.d.def_ 35 (d := ⟨("OffRoad", some "__init__"), "__init__", "OffRoad.__init__", defArgs (inClass (top 8) 0), defBody (inClass (top 8) 0), defScope (inClass (top 8) 0), [], []⟩) rfl
  obtain ⟨fdNW, dNW⟩ := c.d.def_ 36 (d := ⟨("NotWhole", some "__init__"), "__init__", "NotWhole.__init__", defArgs (inClass (top 9) 0), defBody (inClass (top 9) 0), defScope (inClass (top 9) 0), [], []⟩) rfl
  obtain ⟨fdR, dR⟩ := c.d.def_ 37 (d := ⟨("Road", some "__init__"), "__init__", "Road.__init__", defArgs (inClass (top 17) 0), defBody (inClass (top 17) 0), defScope (inClass (top 17) 0), [], []⟩) rfl
  obtain ⟨fdT, dT⟩ := c.d.def_ 38 (d := ⟨("Tree", some "__init__"), "__init__", "Tree.__init__", defArgs (inClass (top 18) 0), defBody (inClass (top 18) 0), defScope (inClass (top 18) 0), [], []⟩) rfl
  obtain ⟨fdPl, dPl⟩ := c.d.def_ 39 (d := ⟨("Place", some "__init__"), "__init__", "Place.__init__", defArgs (inClass (top 25) 0), defBody (inClass (top 25) 0), defScope (inClass (top 25) 0), [], []⟩) rfl
  obtain ⟨fdMa, dMa⟩ := c.d.def_ 40 (d := ⟨("March", some "__init__"), "__init__", "March.__init__", defArgs (inClass (top 35) 0), defBody (inClass (top 35) 0), defScope (inClass (top 35) 0), [], []⟩) rfl
  obtain ⟨fdRw, dRw⟩ := c.d.def_ 41 (d := ⟨("Row", some "__init__"), "__init__", "Row.__init__", defArgs (inClass (top 36) 0), defBody (inClass (top 36) 0), defScope (inClass (top 36) 0), [], []⟩) rfl
  obtain ⟨fdRE, dRE⟩ := c.d.def_ 42 (d := ⟨("Road", some "__eq__"), "__eq__", "Road.__eq__", defArgs (inClass (top 17) 1), defBody (inClass (top 17) 1), defScope (inClass (top 17) 1), [], []⟩) rfl
  obtain ⟨fdTE, dTE⟩ := c.d.def_ 43 (d := ⟨("Tree", some "__eq__"), "__eq__", "Tree.__eq__", defArgs (inClass (top 18) 1), defBody (inClass (top 18) 1), defScope (inClass (top 18) 1), [], []⟩) rfl
  obtain ⟨fdPE, dPE⟩ := c.d.def_ 44 (d := ⟨("Place", some "__eq__"), "__eq__", "Place.__eq__", defArgs (inClass (top 25) 1), defBody (inClass (top 25) 1), defScope (inClass (top 25) 1), [], []⟩) rfl
  obtain ⟨fdME, dME⟩ := c.d.def_ 45 (d := ⟨("March", some "__eq__"), "__eq__", "March.__eq__", defArgs (inClass (top 35) 1), defBody (inClass (top 35) 1), defScope (inClass (top 35) 1), [], []⟩) rfl
  obtain ⟨fdWE, dWE⟩ := c.d.def_ 46 (d := ⟨("Row", some "__eq__"), "__eq__", "Row.__eq__", defArgs (inClass (top 36) 1), defBody (inClass (top 36) 1), defScope (inClass (top 36) 1), [], []⟩) rfl
  obtain ⟨fdNN, dNN⟩ := c.d.def_ 47 (d := ⟨("NoName", some "__init__"), "__init__", "NoName.__init__", defArgs (inClass (top 10) 0), defBody (inClass (top 10) 0), defScope (inClass (top 10) 0), [], []⟩) rfl
  obtain ⟨fdNO, dNO⟩ := c.d.def_ 48 (d := ⟨("NoRow", some "__init__"), "__init__", "NoRow.__init__", defArgs (inClass (top 11) 0), defBody (inClass (top 11) 0), defScope (inClass (top 11) 0), [], []⟩) rfl
  obtain ⟨fdVI, dVI⟩ := c.d.def_ 49 (d := ⟨("Book", some "__init__"), "__init__", "Book.__init__", defArgs (inClass (top 46) 0), defBody (inClass (top 46) 0), defScope (inClass (top 46) 0), [], []⟩) rfl
  obtain ⟨fdVC, dVC⟩ := c.d.def_ 50 (d := ⟨("Book", some "change"), "change", "Book.change", defArgs (inClass (top 46) 12), defBody (inClass (top 46) 12), defScope (inClass (top 46) 12), [], []⟩) rfl
  obtain ⟨fdVR, dVR⟩ := c.d.def_ 51 (d := ⟨("Book", some "row"), "row", "Book.row", defArgs (inClass (top 46) 3), defBody (inClass (top 46) 3), defScope (inClass (top 46) 3), [], []⟩) rfl
  obtain ⟨fdVW, dVW⟩ := c.d.def_ 52 (d := ⟨("Book", some "where"), "where", "Book.where", defArgs (inClass (top 46) 7), defBody (inClass (top 46) 7), defScope (inClass (top 46) 7), [], []⟩) rfl
  obtain ⟨fdVM, dVM⟩ := c.d.def_ 53 (d := ⟨("Book", some "many"), "many", "Book.many", defArgs (inClass (top 46) 10), defBody (inClass (top 46) 10), defScope (inClass (top 46) 10), [], []⟩) rfl
  obtain ⟨fdVB, dVB⟩ := c.d.def_ 54 (d := ⟨("Book", some "back"), "back", "Book.back", defArgs (inClass (top 46) 11), defBody (inClass (top 46) 11), defScope (inClass (top 46) 11), [], []⟩) rfl
  obtain ⟨fdVP, dVP⟩ := c.d.def_ 55 (d := ⟨("Book", some "post"), "post", "Book.post", defArgs (inClass (top 46) 5), defBody (inClass (top 46) 5), defScope (inClass (top 46) 5), [], []⟩) rfl
  obtain ⟨fdVE, dVE⟩ := c.d.def_ 56 (d := ⟨("Book", some "keep"), "keep", "Book.keep", defArgs (inClass (top 46) 1), defBody (inClass (top 46) 1), defScope (inClass (top 46) 1), [], []⟩) rfl
  obtain ⟨fdVA, dVA⟩ := c.d.def_ 57 (d := ⟨("Book", some "call"), "call", "Book.call", defArgs (inClass (top 46) 6), defBody (inClass (top 46) 6), defScope (inClass (top 46) 6), [], []⟩) rfl
  have z := all_mk (P := P) (w := w) (K := K) (mg := mg) (fC := He.ga K "check_road") (fI := He.ga K "join_trails") (fA := He.ga K "trails_along") (fCK := He.ga K "check_place") (fCH := He.ga K "check_march") (fEA := He.ga K "end_at") (fEB := He.ga K "end_beyond") (fCO := He.ga K "corner") (fKY := He.ga K "key") (fKD := He.ga K "keyed") (fLG := He.ga K "legs") (fST := He.ga K "step") (fAF := He.ga K "after") (fVK := He.ga K "check_kept") (fVO := He.ga K "answers_without") (fVS := He.ga K "is_name") (fXC := He.ga K "_law_cell_at") (fXS := He.ga K "_law_source") (fXD := He.ga K "_law_draw") (fXP := He.ga K "_law_choice") (fXU := He.ga K "_law_shuffled") (fXN := He.ga K "_law_lane") (fXO := He.ga K "_law_forms") (fXE := He.ga K "_law_expected") (fXI := He.ga K "_law_coordinate") (fXR := He.ga K "_law_row") (fXV := He.ga K "_law_moved") (fXA := He.ga K "_law_stands") (fXH := He.ga K "_law_calls_right") (fXL := He.ga K "_law_many_rounds_right") (fL := He.ga K "law") (CR := He.ga K "Road") (CT := He.ga K "Tree") (CP := He.ga K "Place") (CM := He.ga K "March") (CW := He.ga K "Row") (CBk := He.ga K "Book") (CB := He.ga K "BadCount") (CN := He.ga K "NoCrossing") (CG := He.ga K "RingRoad") (CNR := He.ga K "NoRoad") (COR := He.ga K "OffRoad") (CNW := He.ga K "NotWhole") (CNN := He.ga K "NoName") (CNo := He.ga K "NoRow") (fB := He.ma K (He.ga K "BadCount") "__init__") (fN := He.ma K (He.ga K "NoCrossing") "__init__") (fG := He.ma K (He.ga K "RingRoad") "__init__") (fNR := He.ma K (He.ga K "NoRoad") "__init__") (fOR := He.ma K (He.ga K "OffRoad") "__init__") (fNW := He.ma K (He.ga K "NotWhole") "__init__") (fR := He.ma K (He.ga K "Road") "__init__") (fT := He.ma K (He.ga K "Tree") "__init__") (fPl := He.ma K (He.ga K "Place") "__init__") (fMa := He.ma K (He.ga K "March") "__init__") (fRw := He.ma K (He.ga K "Row") "__init__") (fRE := He.ma K (He.ga K "Road") "__eq__") (fTE := He.ma K (He.ga K "Tree") "__eq__") (fPE := He.ma K (He.ga K "Place") "__eq__") (fME := He.ma K (He.ga K "March") "__eq__") (fWE := He.ma K (He.ga K "Row") "__eq__") (fNN := He.ma K (He.ga K "NoName") "__init__") (fNO := He.ma K (He.ga K "NoRow") "__init__") (fVI := He.ma K (He.ga K "Book") "__init__") (fVC := He.ma K (He.ga K "Book") "change") (fVR := He.ma K (He.ga K "Book") "row") (fVW := He.ma K (He.ga K "Book") "where") (fVM := He.ma K (He.ga K "Book") "many") (fVB := He.ma K (He.ga K "Book") "back") (fVP := He.ma K (He.ga K "Book") "post") (fVE := He.ma K (He.ga K "Book") "keep") (fVA := He.ma K (He.ga K "Book") "call") (fdC := fdC) (fdI := fdI) (fdA := fdA) (fdCK := fdCK) (fdCH := fdCH) (fdEA := fdEA) (fdEB := fdEB) (fdCO := fdCO) (fdKY := fdKY) (fdKD := fdKD) (fdLG := fdLG) (fdST := fdST) (fdAF := fdAF) (fdVK := fdVK) (fdVO := fdVO) (fdVS := fdVS) (fdXC := fdXC) (fdXS := fdXS) (fdXD := fdXD) (fdXP := fdXP) (fdXU := fdXU) (fdXN := fdXN) (fdXO := fdXO) (fdXE := fdXE) (fdXI := fdXI) (fdXR := fdXR) (fdXV := fdXV) (fdXA := fdXA) (fdXH := fdXH) (fdXL := fdXL) (fdL := fdL) (fdB := fdB) (fdN := fdN) (fdG := fdG) (fdNR := fdNR) (fdOR := fdOR) (fdNW := fdNW) (fdR := fdR) (fdT := fdT) (fdPl := fdPl) (fdMa := fdMa) (fdRw := fdRw) (fdRE := fdRE) (fdTE := fdTE) (fdPE := fdPE) (fdME := fdME) (fdWE := fdWE) (fdNN := fdNN) (fdNO := fdNO) (fdVI := fdVI) (fdVC := fdVC) (fdVR := fdVR) (fdVW := fdVW) (fdVM := fdVM) (fdVB := fdVB) (fdVP := fdVP) (fdVE := fdVE) (fdVA := fdVA)
    (He.glo_ok X G (c.d.fact 0 (f := .glo "check_road") rfl))
    (fun_of dC)
    (He.glo_ok X G (c.d.fact 1 (f := .glo "join_trails") rfl))
    (fun_of dI)
    (He.glo_ok X G (c.d.fact 2 (f := .glo "trails_along") rfl))
    (fun_of dA)
    (He.glo_ok X G (c.d.fact 3 (f := .glo "check_place") rfl))
    (fun_of dCK)
    (He.glo_ok X G (c.d.fact 4 (f := .glo "check_march") rfl))
    (fun_of dCH)
    (He.glo_ok X G (c.d.fact 5 (f := .glo "end_at") rfl))
    (fun_of dEA)
    (He.glo_ok X G (c.d.fact 6 (f := .glo "end_beyond") rfl))
    (fun_of dEB)
    (He.glo_ok X G (c.d.fact 7 (f := .glo "corner") rfl))
    (fun_of dCO)
    (He.glo_ok X G (c.d.fact 8 (f := .glo "key") rfl))
    (fun_of dKY)
    (He.glo_ok X G (c.d.fact 9 (f := .glo "keyed") rfl))
    (fun_of dKD)
    (He.glo_ok X G (c.d.fact 10 (f := .glo "legs") rfl))
    (fun_of dLG)
    (He.glo_ok X G (c.d.fact 11 (f := .glo "step") rfl))
    (fun_of dST)
    (He.glo_ok X G (c.d.fact 12 (f := .glo "after") rfl))
    dAF
    (He.glo_ok X G (c.d.fact 13 (f := .glo "check_kept") rfl))
    (fun_of dVK)
    (He.glo_ok X G (c.d.fact 14 (f := .glo "answers_without") rfl))
    (fun_of dVO)
    (He.glo_ok X G (c.d.fact 15 (f := .glo "is_name") rfl))
    (fun_of dVS)
    (He.glo_ok X G (c.d.fact 16 (f := .glo "_law_cell_at") rfl))
    (fun_of dXC)
    (He.glo_ok X G (c.d.fact 17 (f := .glo "_law_source") rfl))
    (fun_of dXS)
    (He.glo_ok X G (c.d.fact 18 (f := .glo "_law_draw") rfl))
    (fun_of dXD)
    (He.glo_ok X G (c.d.fact 19 (f := .glo "_law_choice") rfl))
    (fun_of dXP)
    (He.glo_ok X G (c.d.fact 20 (f := .glo "_law_shuffled") rfl))
    (fun_of dXU)
    (He.glo_ok X G (c.d.fact 21 (f := .glo "_law_lane") rfl))
    (fun_of dXN)
    (He.glo_ok X G (c.d.fact 22 (f := .glo "_law_forms") rfl))
    (fun_of dXO)
    (He.glo_ok X G (c.d.fact 23 (f := .glo "_law_expected") rfl))
    (fun_of dXE)
    (He.glo_ok X G (c.d.fact 24 (f := .glo "_law_coordinate") rfl))
    (fun_of dXI)
    (He.glo_ok X G (c.d.fact 25 (f := .glo "_law_row") rfl))
    (fun_of dXR)
    (He.glo_ok X G (c.d.fact 26 (f := .glo "_law_moved") rfl))
    (fun_of dXV)
    (He.glo_ok X G (c.d.fact 27 (f := .glo "_law_stands") rfl))
    (fun_of dXA)
    (He.glo_ok X G (c.d.fact 28 (f := .glo "_law_calls_right") rfl))
    (fun_of dXH)
    (He.glo_ok X G (c.d.fact 29 (f := .glo "_law_many_rounds_right") rfl))
    (fun_of dXL)
    (He.glo_ok X G (c.d.fact 30 (f := .glo "law") rfl))
    (fun_of dL)
    (He.glo_ok X G (c.d.fact 31 (f := .glo "Road") rfl))
    (He.glo_ok X G (c.d.fact 32 (f := .glo "Tree") rfl))
    (He.glo_ok X G (c.d.fact 33 (f := .glo "Place") rfl))
    (He.glo_ok X G (c.d.fact 34 (f := .glo "March") rfl))
    (He.glo_ok X G (c.d.fact 35 (f := .glo "Row") rfl))
    (He.glo_ok X G (c.d.fact 36 (f := .glo "Book") rfl))
    (He.glo_ok X G (c.d.fact 37 (f := .glo "BadCount") rfl))
    (He.glo_ok X G (c.d.fact 38 (f := .glo "NoCrossing") rfl))
    (He.glo_ok X G (c.d.fact 39 (f := .glo "RingRoad") rfl))
    (He.glo_ok X G (c.d.fact 40 (f := .glo "NoRoad") rfl))
    (He.glo_ok X G (c.d.fact 41 (f := .glo "OffRoad") rfl))
    (He.glo_ok X G (c.d.fact 42 (f := .glo "NotWhole") rfl))
    (He.glo_ok X G (c.d.fact 43 (f := .glo "NoName") rfl))
    (He.glo_ok X G (c.d.fact 44 (f := .glo "NoRow") rfl))
    (fun_of dB)
    (fun_of dN)
    (fun_of dG)
    (fun_of dNR)
    (fun_of dOR)
    (fun_of dNW)
    (fun_of dR)
    (fun_of dT)
    (fun_of dPl)
    (fun_of dMa)
    (fun_of dRw)
    (fun_of dRE)
    (fun_of dTE)
    (fun_of dPE)
    (fun_of dME)
    (fun_of dWE)
    (fun_of dNN)
    (fun_of dNO)
    (fun_of dVI)
    (fun_of dVC)
    (fun_of dVR)
    (fun_of dVW)
    (fun_of dVM)
    (fun_of dVB)
    (fun_of dVP)
    (fun_of dVE)
    (fun_of dVA)
    (He.cls_ok (c.d.fact 45 (f := .cls "Road") rfl))
    (He.noat_ok (c.d.fact 46 (f := .noat "Road" "a") rfl))
    (He.noat_ok (c.d.fact 47 (f := .noat "Road" "b") rfl))
    (He.noat_ok (c.d.fact 48 (f := .noat "Road" "length") rfl))
    (He.mkr_ok (c.d.fact 49 (f := .mkr "Road") rfl))
    (qc_ok (He.cls_ok (c.d.fact 45 (f := .cls "Road") rfl)) (ex_at c.more 0 rfl) (ex_at c.more 1 rfl))
    (He.cls_ok (c.d.fact 50 (f := .cls "Tree") rfl))
    (He.noat_ok (c.d.fact 51 (f := .noat "Tree" "crossings") rfl))
    (He.noat_ok (c.d.fact 52 (f := .noat "Tree" "roads") rfl))
    (He.noat_ok (c.d.fact 53 (f := .noat "Tree" "trails") rfl))
    (He.mkr_ok (c.d.fact 54 (f := .mkr "Tree") rfl))
    (qc_ok (He.cls_ok (c.d.fact 50 (f := .cls "Tree") rfl)) (ex_at c.more 0 rfl) (ex_at c.more 2 rfl))
    (He.cls_ok (c.d.fact 55 (f := .cls "Place") rfl))
    (He.noat_ok (c.d.fact 56 (f := .noat "Place" "road") rfl))
    (He.noat_ok (c.d.fact 57 (f := .noat "Place" "number") rfl))
    (He.noat_ok (c.d.fact 58 (f := .noat "Place" "parts") rfl))
    (He.mkr_ok (c.d.fact 59 (f := .mkr "Place") rfl))
    (qc_ok (He.cls_ok (c.d.fact 55 (f := .cls "Place") rfl)) (ex_at c.more 0 rfl) (ex_at c.more 3 rfl))
    (He.cls_ok (c.d.fact 60 (f := .cls "March") rfl))
    (He.noat_ok (c.d.fact 61 (f := .noat "March" "goal") rfl))
    (He.noat_ok (c.d.fact 62 (f := .noat "March" "steps") rfl))
    (He.mkr_ok (c.d.fact 63 (f := .mkr "March") rfl))
    (qc_ok (He.cls_ok (c.d.fact 60 (f := .cls "March") rfl)) (ex_at c.more 0 rfl) (ex_at c.more 4 rfl))
    (He.cls_ok (c.d.fact 64 (f := .cls "Row") rfl))
    (He.noat_ok (c.d.fact 65 (f := .noat "Row" "tree") rfl))
    (He.noat_ok (c.d.fact 66 (f := .noat "Row" "marches") rfl))
    (He.mkr_ok (c.d.fact 67 (f := .mkr "Row") rfl))
    (qc_ok (He.cls_ok (c.d.fact 64 (f := .cls "Row") rfl)) (ex_at c.more 0 rfl) (ex_at c.more 5 rfl))
    (He.cls_ok (c.d.fact 68 (f := .cls "Book") rfl))
    (He.noat_ok (c.d.fact 69 (f := .noat "Book" "tree") rfl))
    (He.noat_ok (c.d.fact 70 (f := .noat "Book" "kept") rfl))
    (He.noat_ok (c.d.fact 71 (f := .noat "Book" "folk") rfl))
    (He.noat_ok (c.d.fact 72 (f := .noat "Book" "answers") rfl))
    (He.noat_ok (c.d.fact 73 (f := .noat "Book" "past") rfl))
    (He.mkr_ok (c.d.fact 74 (f := .mkr "Book") rfl))
    (He.noat_ok (c.d.fact 75 (f := .noat "BadCount" "what") rfl))
    (He.noat_ok (c.d.fact 76 (f := .noat "BadCount" "count") rfl))
    (er_ok (He.glo_ok X G (c.d.fact 37 (f := .glo "BadCount") rfl)) (ex_at c.more 0 rfl) (ex_at c.more 6 rfl))
    (He.noat_ok (c.d.fact 77 (f := .noat "NoCrossing" "crossing") rfl))
    (er_ok (He.glo_ok X G (c.d.fact 38 (f := .glo "NoCrossing") rfl)) (ex_at c.more 0 rfl) (ex_at c.more 7 rfl))
    (He.noat_ok (c.d.fact 78 (f := .noat "RingRoad" "road") rfl))
    (er_ok (He.glo_ok X G (c.d.fact 39 (f := .glo "RingRoad") rfl)) (ex_at c.more 0 rfl) (ex_at c.more 8 rfl))
    (He.noat_ok (c.d.fact 79 (f := .noat "NoRoad" "road") rfl))
    (er_ok (He.glo_ok X G (c.d.fact 40 (f := .glo "NoRoad") rfl)) (ex_at c.more 0 rfl) (ex_at c.more 9 rfl))
    (He.noat_ok (c.d.fact 80 (f := .noat "OffRoad" "road") rfl))
    (er_ok (He.glo_ok X G (c.d.fact 41 (f := .glo "OffRoad") rfl)) (ex_at c.more 0 rfl) (ex_at c.more 10 rfl))
    (He.noat_ok (c.d.fact 81 (f := .noat "NotWhole" "march") rfl))
    (er_ok (He.glo_ok X G (c.d.fact 42 (f := .glo "NotWhole") rfl)) (ex_at c.more 0 rfl) (ex_at c.more 11 rfl))
    (He.noat_ok (c.d.fact 82 (f := .noat "NoName" "name") rfl))
    (er_ok (He.glo_ok X G (c.d.fact 43 (f := .glo "NoName") rfl)) (ex_at c.more 0 rfl) (ex_at c.more 12 rfl))
    (He.noat_ok (c.d.fact 83 (f := .noat "NoRow" "name") rfl))
    (er_ok (He.glo_ok X G (c.d.fact 44 (f := .glo "NoRow") rfl)) (ex_at c.more 0 rfl) (ex_at c.more 13 rfl))
    (He.free_ok X G (c.d.fact 84 (f := .free "abs") rfl))
    (He.free_ok X G (c.d.fact 85 (f := .free "all") rfl))
    (He.free_ok X G (c.d.fact 86 (f := .free "dict") rfl))
    (He.free_ok X G (c.d.fact 87 (f := .free "enumerate") rfl))
    (He.free_ok X G (c.d.fact 88 (f := .free "int") rfl))
    (He.free_ok X G (c.d.fact 89 (f := .free "isinstance") rfl))
    (He.free_ok X G (c.d.fact 90 (f := .free "len") rfl))
    (He.free_ok X G (c.d.fact 91 (f := .free "list") rfl))
    (He.free_ok X G (c.d.fact 92 (f := .free "max") rfl))
    (He.free_ok X G (c.d.fact 93 (f := .free "min") rfl))
    (He.free_ok X G (c.d.fact 94 (f := .free "range") rfl))
    (He.free_ok X G (c.d.fact 95 (f := .free "sorted") rfl))
    (He.free_ok X G (c.d.fact 96 (f := .free "tuple") rfl))
    (He.meth_ok (c.d.fact 97 (f := .meth "Book" "change") rfl))
    (He.meth_ok (c.d.fact 98 (f := .meth "Book" "row") rfl))
    (He.meth_ok (c.d.fact 99 (f := .meth "Book" "where") rfl))
    (He.meth_ok (c.d.fact 100 (f := .meth "Book" "many") rfl))
    (He.meth_ok (c.d.fact 101 (f := .meth "Book" "back") rfl))
    (He.meth_ok (c.d.fact 102 (f := .meth "Book" "post") rfl))
    (He.meth_ok (c.d.fact 103 (f := .meth "Book" "keep") rfl))
    (He.meth_ok (c.d.fact 104 (f := .meth "Book" "call") rfl))
    (He.int_ok X G (c.d.fact 105 (f := .int "LEAST_CROSSINGS" 2) rfl))
    (He.int_ok X G (c.d.fact 106 (f := .int "MOST_CROSSINGS" 24) rfl))
    (He.int_ok X G (c.d.fact 107 (f := .int "MOST_MARCHES" 24) rfl))
    (He.int_ok X G (c.d.fact 108 (f := .int "MOST_ROUNDS" 1000) rfl))
    (He.int_ok X G (c.d.fact 109 (f := .int "LONGEST_NAME" 8) rfl))
    (He.int_ok X G (c.d.fact 110 (f := .int "MOST_FOLK" 24) rfl))
    (He.int_ok X G (c.d.fact 111 (f := .int "MOST_ROWS" 8) rfl))
    (He.str_ok X G (c.d.fact 112 (f := .str "LETTERS" "abcdefghijklmnopqrstuvwxyz") rfl))
    (He.str_ok X G (c.d.fact 113 (f := .str "DIGITS" "0123456789") rfl))
    (He.int_ok X G (c.d.fact 114 (f := .int "LONGEST_ROAD" 1000000000) rfl))
    (He.int_ok X G (c.d.fact 115 (f := .int "MOST_STEPS" 1000000000) rfl))
    (PySem.W.mg_of X G (He.eqO_ok (ex_at c.more 14 rfl)))
    (PySem.W.mg_of X G (He.eqO_ok (ex_at c.more 15 rfl)))
  exact ⟨fdL, z.1, He.glo_ok X G (c.d.fact 30 (f := .glo "law") rfl), z.2⟩
end OT
open PySem PySem.W PySem.Calls PyProof.Rows
theorem PySem.Challenge.cw_onetrain_k65_folk_on_long_lanes_holds : PySem.Challenge.rw_onetrain_k65_folk_on_long_lanes.Holds := by
  w_on; o_law
  refine HandSHeadRun.head_imp (r := OpenLaw.row PySem.Challenge.rw_onetrain_k65_folk_on_long_lanes) (q := OT.hkQ) (H := OT.hk) (ob := OT.hkOb) (M := 8000) (loose := OT.hkNames) (kwd := []) OT.hkOb_eq OT.hk_run (by rfl) (by rfl) (by rfl) (by rfl) (by first | assumption | decide +kernel) (by decide +kernel) ⟨rfl, rfl, rfl, rfl, rfl, by decide +kernel⟩ ?hw ?hc
  case hw => w_witness2
  case hc =>
    refine L2.walk_ofE (l := PySem.Challenge.rw_onetrain_k65_folk_on_long_lanes) (n := 63) (k := 11) (x := "_law_script") (CX := L2.CX0) rfl (by decide) (by kernel_rfl) ⟨rfl, by decide, by decide⟩ ?F (fun _ _ _ _ z => z)
    intro w mg fa h Y G hmg
    obtain ⟨K, KX, c⟩ := Y
    obtain ⟨fd, hb, hm, hF⟩ := OT.hk_facts (P := (PySem.Challenge.rw_onetrain_k65_folk_on_long_lanes).prog) (w := w) KX G c
    have e := hmg.symm.trans hm
    cases e
    exact ⟨K, fd, OT.spLaw K, KX, hb, fun H a ns hl _ hS => ⟨a, ns, rfl, hS, hl, fun _ => rfl⟩, hF⟩
