import PyProof.Rows.All
import Wide.All
import OpenK.AllK
import Wide.FinOn
import HandS.Base
import HandS.Call
import HandS.List
import HandS.Ends
import HandS.Words
import HandS.WordsList
import HandS.ExcField
import HandS.ExcInit
import HandS.Defaults
import HandS.HeadHook2
import HandS.Head0
import HandS.Head1
import HandS.Head2
import HandS.Head3
import HandS.Comp
import HandS.Dict
import HandS.Iter
import HandS.Text
import HandS.WordsDict
import HandS.ForMost
import HandS.Conv
import HandS.Walk
import HandS.More
import HandS.TupAny
import HandS.DeepEq
import HandS.SetFor
import HandS.Style
import KE.GoesEnum
import HandS.Exc
import HandS.ExcIs
import HandS.IsInst
import HandS.WordsExc
import HandS.DictComp
import KE.KExcIs
import HandS.OwnEq
import HandS.Codes
import HandS.Zip
import HandS.MakeKwOnly
import KE.GoesZip
import KE.GoesMore
import HandS.FStr
import HandS.Gcd
import HandS.Wide
import KE.KMathGC
import HandS.TryMany
import HandS.HotCalls
import HandS.Replace
import HandS.ReplaceDef
import HandS.ReplaceLit
import PyProof.StrBlock2
import PyProof.Rows.StrFit
import HandS.Lambda
import HandS.Deep
import HandS.HeadEnd
import HandS.EndTab
import HandS.EndOwn
import PySem.Challenge.RW_onetrain_k72_texts_refused
set_option Elab.async false
set_option linter.all false
set_option maxRecDepth 100000
set_option maxHeartbeats 1000000
namespace OT
open PySem L2
def top (i : Nat) : Stmt := PySem.Challenge.pw_onetrain_k72_texts_refused.main.body.getD i (.Pass ⟨0, 0, 0, 0⟩)
abbrev sSource : Stmt := top 46
abbrev sDraw : Stmt := top 47
abbrev sPick : Stmt := top 48
abbrev sShuf : Stmt := top 49
/-- the source of draws at s: three ints, the first not below 0 -/
def Src (H : Hp) (s : Addr) : Prop := ∃ a b c : Int, 0 ≤ a ∧ H s = some (.lst [.int a, .int b, .int c])
/-- all that was tracked is as it was, but at s -/
def But (s : Addr) (H H' : Hp) : Prop := ∀ b o, H b = some o → b ≠ s → H' b = some o
theorem But.refl {s : Addr} {H : Hp} : But s H H := fun _ _ e _ => e
theorem But.trans {s : Addr} {H H1 H2 : Hp} (x : But s H H1) (y : But s H1 H2) : But s H H2 := fun b o e n => y b o (x b o e n) n
theorem But.same {s : Addr} {H H1 H2 : Hp} (x : But s H H1) (y : Same H1 H2) : But s H H2 := fun b o e n => y b o (x b o e n)
theorem But.upd {s : Addr} {H : Hp} {o : HO} : But s H (upd H s o) := fun b _ e n => by rw [upd_ne n]; exact e
theorem Same.new {H : Hp} {p : Addr} {o : HO} (n : H p = none) : Same H (upd H p o) := fun b _ e => by rw [upd_ne (ne_of_none e n)]; exact e
/-- _law_source(cell): a new source -/
def spSource : Sp := fun vs H Q _ => ∃ n : Int, vs = [.int n] ∧ ∀ s H', H s = none → Src H' s → Same H H' → Q (.ref s) H'
/-- _law_draw(source, many): a number from 0 to many - 1 -/
def spDraw : Sp := fun vs H Q _ => ∃ (s : Addr) (m : Int), vs = [.ref s, .int m] ∧ Src H s ∧ 0 < m ∧ m < 1073741824 ∧ ∀ r H', 0 ≤ r → r < m → Src H' s → But s H H' → Q (.int r) H'
/-- _law_pick(source, some): one of the items -/
def spPick (K : PySem.W.Frag) : Sp := fun vs H Q _ => ∃ (s l : Addr) (xs : List V), vs = [.ref s, .ref l] ∧ Src H s ∧ l ≠ s ∧ SqL K H l xs ∧ 0 < xs.length ∧ xs.length < 1000000 ∧ ∀ v H', v ∈ xs → Src H' s → But s H H' → Q v H'
section
variable {P : Program} {w : World} {K : PySem.W.Frag} {mg : Str → Option Value} {base : Heap}
theorem scSource : FnScope ["_law_cell"] ["_law_cell"] (defScope sSource) := ⟨rfl, rfl, rfl, by decide +kernel, rfl, by decide +kernel, by decide +kernel⟩
theorem ok_source {f : Addr} {fd : FuncData} (F : Fun K "_law_source" "_law_source" sSource f fd) (hA : mg "abs" = none) : FnOk P w K mg base CX0 1 f fd ["_law_cell"] spSource := by
  refine F.ok scSource (fun vs H Q E h => ?_) (fun cdv A outer s H vs Q E hr h => ?_)
  · obtain ⟨n, rfl, _⟩ := h
    rfl
  · obtain ⟨n, rfl, k⟩ := h
    refine ⟨_, pss_one (ps_ret (pe_lst (pa_cons (pe_callB call_abs (by rfl) hA (by decide +kernel) (pa_cons (pv 0) pa_nil)) (pa_cons (pe_op op_mod (pv 0) pe_int) (pa_cons pe_int pa_nil))))), ?_⟩
    refine ⟨_, rfl, _, rfl, ?_⟩
    refine ⟨_, rfl, _, _, rfl, rfl, (by show (0 : Int) < 2147483629; decide), ?_⟩
    refine ⟨(by show 3 ≤ sizeLine; decide), fun p hp => ?_⟩
    exact k p _ hp ⟨_, _, _, (by split <;> omega), upd_same⟩ (Same.new hp)
theorem scDraw : FnScope ["_law_source_here", "_law_many", "_law_found", "_law_number_here"] ["_law_source_here", "_law_many"] (defScope sDraw) := ⟨rfl, rfl, rfl, by decide +kernel, rfl, by decide +kernel, by decide +kernel⟩
end
end OT
set_option Elab.async false
set_option linter.all false
set_option maxRecDepth 100000
set_option maxHeartbeats 2000000
namespace OT
open PySem L2
theorem fun_of {K : PySem.W.Frag} {x qual : Str} {st : Stmt} {kws : List (Str × V)} {f : Addr} {fd : FuncData} (F : FunD K x qual (defArgs st) (defBody st) (defScope st) [] kws f fd) : Fun K x qual st f fd := by
  obtain ⟨oc, od, dV, kV, doc, pm, an, cdv, ct, osl, e0, lk, hcd, hD, hK⟩ := F.ex
  rcases hD with ⟨_, e1⟩ | ⟨e1, _⟩
  · rw [e1] at e0
    exact ⟨⟨oc, od, kV, doc, pm, an, cdv, ct, osl, e0, lk, hcd⟩, F.kp⟩
  · exact absurd rfl e1
theorem two {a b : Bool} (h : (a && b) = true) : a = true ∧ b = true := Bool.and_eq_true_iff.mp h
theorem ex_at {l : List Bool} (h : (l.all fun b => b) = true) (i : Nat) {b : Bool} (e : l[i]? = some b) : b = true := List.all_eq_true.mp h b (List.mem_of_getElem? e)
/-- the class's object is that of an error below ValueError -/
def veB (K : PySem.W.Frag) (C : Addr) : Bool := match K.lookup C with
  | some o => (match o.cls, o.data, o.slots.toList with
    | .type t, .cls cd, [_, _, _, _, some (.builtin n), _] => (match cd.mro with
      | .ref b :: bm => decide (t = "type" ∧ b = C ∧ n = "ValueError.__new__" ∧ cd.hasDel = false ∧ cd.hasDict = true ∧ PySem.HandSPX.refsVE bm = true)
      | _ => false)
    | _, _, _ => false)
  | none => false
theorem veB_ok {K : PySem.W.Frag} {C : Addr} (h : veB K C = true) :
    ∃ nm q N bs bm sn sub ab col dd k0 k1 k2 k3 k5, K.lookup C = some (excClassObj nm q C N bs bm true sn sub ab col dd k0 k1 k2 k3 k5 "ValueError.__new__") ∧ PySem.HandSPX.refsVE bm = true := by
  unfold veB at h
  split at h
  · rename_i o lk
    split at h
    · rename_i t cd x0 x1 x2 x3 n x5 e1 e2 e3
      split at h
      · rename_i b bm e4
        obtain ⟨h1, h2, h3, h4, h5, h6⟩ := of_decide_eq_true h
        obtain ⟨oc, od, dt, osl⟩ := o
        obtain ⟨c1, c2, c3, c4, c5, c6, c7, c8, c9, c10, c11⟩ := cd
        dsimp only at e1 e2 e3 e4 h4 h5
        subst e1 e2 e4 h1 h2 h3 h4 h5
        have e5 : osl = #[x0, x1, x2, x3, some (.builtin "ValueError.__new__"), x5] := Array.ext' e3
        subst e5
        exact ⟨_, _, _, _, _, _, _, _, _, _, _, _, _, _, _, lk, h6⟩
      · cases h
    · cases h
  · cases h
/-- what every instance's __class__ leans on -/
def gB (K : PySem.W.Frag) : Bool := He.eqO (PySem.W.specialIn K (.builtin "object.__class__") "__get__") (some (some (.builtin "getset_descriptor.__get__"))) && decide (PySem.W.takesIn K (.builtin "object.__class__") = some true)
/-- a class with an own __eq__ at f -/
def eqB (K : PySem.W.Frag) (C f : Addr) : Bool := He.eqO (PySem.W.findIn K (.ref C) "__class__") (some (some (.builtin "object.__class__"))) && (decide (PySem.W.mroIn K C (.type "object") = some true) &&
  (He.eqO (PySem.W.findIn K (.ref C) "__eq__") (some (some (.ref f))) && (PySem.W.isFn K (.ref f) && (He.eqO (PySem.W.findIn K (.ref C) "__ne__") (some (some (.builtin "object.__ne__"))) &&
  (["NoneType", "tuple", "list"].all fun T => decide (PySem.W.kitOne K (.type T) (.ref C) = some false) && (decide (PySem.W.subIn K (.type T) (.ref C) = some false) && decide (PySem.W.subIn K (.ref C) (.type T) = some false)))))))
/-- an error class with an own __init__ at f -/
def erB (K : PySem.W.Frag) (C f : Addr) : Bool := veB K C && (xfB K C && (He.eqO (PySem.W.findIn K (.ref C) "__setattr__") (some (some (.builtin "object.__setattr__"))) && (decide (PySem.W.typeIn K (.ref C) = some (.type "type")) &&
  (PySem.W.keepIn K (.ref C) && (He.eqO (PySem.W.findIn K (.ref C) "__class__") (some (some (.builtin "object.__class__"))) && (decide (PySem.W.mroIn K C (.type "object") = some true) &&
  (He.eqO (PySem.W.findIn K (.ref C) "__init__") (some (some (.ref f))) && decide (PySem.W.typeIn K (.ref f) = some (.type "function")))))))))
def kidsO (o : Obj) : List Addr := match o.data with
  | .dict es _ => es.toList.flatMap fun e => He.refV e.val
  | .func fd => He.refV fd.code ++ He.refV fd.kwdefaults
  | .cls cd => [cd.ns]
  | _ => []
def kids (g : Addr → Option Obj) (as : List Addr) : List Addr := as.flatMap fun a => match g a with
  | some o => kidsO o
  | none => []
/-- the list in its own words, part by part -/
def told {α β : Type} : List α → (List α → β) → β
  | [], k => k []
  | x :: xs, k => told xs fun ys => k (x :: ys)
theorem told_eq {α β : Type} : ∀ (l : List α) (k : List α → β), told l k = k l
  | [], _ => rfl
  | x :: xs, k => by
    unfold told
    exact told_eq xs _
def asP {β : Type} (g : Addr → Option Obj) (k : List Addr → β) : β := told (kids g [mainGlobals]) fun l1 => told (kids g l1) fun l2 => told (kids g l2) fun l3 => told (kids g l3) fun l4 => k (mainGlobals :: (l1 ++ (l2 ++ (l3 ++ l4))))
theorem asP_eq {β : Type} (g : Addr → Option Obj) (k : List Addr → β) : ∃ l, asP g k = k l := by
  unfold asP
  simp only [told_eq]
  exact ⟨_, rfl⟩
abbrev AlP : Type := He.AlD × Bool
def obsP (fa : List He.Fa) (fn : List He.DefD) (ex : PySem.W.Frag → List Bool) (K : PySem.W.Frag) : AlP := (He.obsD fa fn K, (ex K).all fun b => b)
def obsPG (fa : List He.Fa) (fn : List He.DefD) (ex : PySem.W.Frag → List Bool) (g : Addr → Option Obj) : AlP := asP g fun l => told (He.frG g l) fun K => obsP fa fn ex K
theorem obsPG_is (fa : List He.Fa) (fn : List He.DefD) (ex : PySem.W.Frag → List Bool) (g : Addr → Option Obj) : ∃ l, obsPG fa fn ex g = obsP fa fn ex (He.frG g l) := by
  unfold obsPG
  obtain ⟨l, e⟩ := asP_eq g fun l => told (He.frG g l) fun K => obsP fa fn ex K
  rw [e, told_eq]
  exact ⟨l, rfl⟩
/-- what the head says of the written part K -/
structure SaysP (fa : List He.Fa) (fn : List He.DefD) (ex : PySem.W.Frag → List Bool) (K : PySem.W.Frag) : Prop where
  d : He.SaysD fa fn K
  more : ((ex K).all fun b => b) = true
def hookP (fa : List He.Fa) (fn : List He.DefD) (ex : PySem.W.Frag → List Bool) : PySem.W.Hook where
  α := AlP
  obs := fun st => obsPG fa fn ex st.heap.get?
  val := fun _ => (He.valD fn, true)
  says := fun _ h => ∃ K : PySem.W.Frag, K.In h ∧ SaysP fa fn ex K
  of := fun _ st e => by
    obtain ⟨l, q⟩ := obsPG_is fa fn ex st.heap.get?
    have z : obsP fa fn ex (He.frG st.heap.get? l) = (He.valD fn, true) := q.symm.trans e
    exact ⟨_, He.frG_in, congrArg (fun y : AlP => y.1) z, congrArg (fun y : AlP => y.2) z⟩
  keeps := fun _ _ _ y old => by
    obtain ⟨K, inn, c⟩ := y
    exact ⟨K, inn.keeps old, c⟩
theorem obsPG_eq {fa : List He.Fa} {fn : List He.DefD} {ex : PySem.W.Frag → List Bool} {g : Addr → Option Obj} {st : Shared} (h : ∀ a, g a = st.heap.get? a) : obsPG fa fn ex g = (hookP fa fn ex).obs st := by
  have e : g = st.heap.get? := funext h
  subst e
  rfl
end OT
set_option Elab.async false
set_option linter.all false
set_option maxRecDepth 100000
set_option maxHeartbeats 2000000
namespace OT
open PySem L2
/-- the code object of the function at f -/
def cdA (K : PySem.W.Frag) (f : Addr) : Addr := match K.lookup f with
  | some o => (match o.data with
    | .func fd => (match fd.code with
      | .ref c => c
      | _ => f)
    | _ => f)
  | none => f
/-- its table -/
def ptA (K : PySem.W.Frag) (f : Addr) : Addr := match K.lookup (cdA K f) with
  | some o => (match o.data with
    | .fields vs => (match (vs[11]? : Option Value) with
      | some (.ref p) => p
      | _ => f)
    | _ => f)
  | none => f
def tabB (K : PySem.W.Frag) (f : Addr) : Bool := (match K.lookup f with
  | some o => (match o.data with
    | .func fd => decide (fd.code = .ref (cdA K f))
    | _ => false)
  | none => false) && ((match K.lookup (cdA K f) with
  | some o => (match o.data with
    | .fields vs => decide ((vs[11]? : Option Value) = some (.ref (ptA K f)))
    | _ => false)
  | none => false) && (PySem.W.codeHdIn K (cdA K f) (ptA K f) && (K.lookup (ptA K f)).isNone))
end OT
set_option Elab.async false
set_option linter.all false
set_option maxRecDepth 100000
set_option maxHeartbeats 0
namespace OT
open PySem L2
def hkNames0 : List PySem.Str := ["gcd", "TrainError", "BadCount", "NoCrossing", "RingRoad", "NoRoad", "OffRoad", "NotWhole", "BadRow", "BadText", "LEAST_CROSSINGS", "MOST_CROSSINGS", "LONGEST_ROAD", "Road", "Tree", "trails_along", "check_road", "join_trails", "end_at", "Place", "check_place", "key", "corner", "MOST_MARCHES", "MOST_STEPS", "March", "Row", "check_march", "keyed", "DIGITS"]
def hkNames1 : List PySem.Str := ["MOST_DIGITS", "LEAST_PARTS", "NO_MARCHES", "read_tree", "read_road", "read_place", "read_number", "read_row", "read_marches", "read_march", "_law_source", "_law_draw", "_law_pick", "_law_shuffled", "_law_tree", "_law_made", "_law_marches", "_law_place_text", "_law_row_text", "_law_tree_rows", "_law_number", "_law_road", "_law_march", "_law_said", "_law_spoilt_part", "_law_spoilt", "_law_tree_right", "_law_row_right"]
def hkNames : List PySem.Str := hkNames0 ++ hkNames1
def hkFa0 : List He.Fa := [.glo "_law_source", .glo "_law_draw", .glo "_law_pick", .glo "_law_shuffled", .glo "_law_tree", .glo "check_road", .glo "join_trails", .glo "trails_along", .glo "check_place", .glo "check_march", .glo "_law_made", .glo "_law_marches", .glo "end_at", .glo "corner", .glo "key", .glo "keyed", .glo "read_number", .glo "read_road", .glo "read_tree", .glo "read_place", .glo "read_march", .glo "read_marches", .glo "read_row", .glo "_law_place_text", .glo "_law_row_text", .glo "_law_tree_rows", .glo "_law_number", .glo "_law_road", .glo "_law_march", .glo "_law_said"]
def hkFa1 : List He.Fa := [.glo "_law_spoilt_part", .glo "_law_spoilt", .glo "_law_tree_right", .glo "_law_row_right", .glo "law", .glo "Road", .glo "Tree", .glo "Place", .glo "March", .glo "Row", .glo "BadCount", .glo "NoCrossing", .glo "RingRoad", .glo "NoRoad", .glo "OffRoad", .glo "NotWhole", .glo "BadRow", .glo "BadText", .glo "TrainError", .cls "Road", .noat "Road" "a", .noat "Road" "b", .noat "Road" "length", .mkr "Road", .cls "Tree", .noat "Tree" "crossings", .noat "Tree" "roads", .noat "Tree" "trails", .mkr "Tree", .cls "Place"]
def hkFa2 : List He.Fa := [.noat "Place" "road", .noat "Place" "number", .noat "Place" "parts", .mkr "Place", .cls "March", .noat "March" "goal", .noat "March" "steps", .mkr "March", .cls "Row", .noat "Row" "tree", .noat "Row" "marches", .mkr "Row", .noat "BadCount" "what", .noat "BadCount" "count", .noat "NoCrossing" "crossing", .noat "RingRoad" "road", .noat "NoRoad" "road", .noat "OffRoad" "road", .noat "NotWhole" "march", .noat "BadRow" "number", .noat "BadText" "place", .free "abs", .free "any", .free "enumerate", .free "int", .free "isinstance", .free "len", .free "list", .free "min", .free "range"]
def hkFa3 : List He.Fa := [.free "str", .free "tuple", .meth "BadCount" "told", .meth "NoCrossing" "told", .meth "RingRoad" "told", .meth "NoRoad" "told", .meth "OffRoad" "told", .meth "NotWhole" "told", .int "LEAST_CROSSINGS" 2, .int "MOST_CROSSINGS" 24, .int "MOST_MARCHES" 24, .int "MOST_DIGITS" 31, .int "LEAST_PARTS" 2, .str "DIGITS" "0123456789", .str "NO_MARCHES" "none", .int "LONGEST_ROAD" 1000000000, .int "MOST_STEPS" 1000000000, .exm "BadRow" "BadRow" true, .exm "BadText" "BadRow" false, .exm "BadText" "BadText" true, .exm "BadCount" "BadRow" false, .exm "NoCrossing" "BadRow" false, .exm "RingRoad" "BadRow" false, .exm "NoRoad" "BadRow" false, .exm "OffRoad" "BadRow" false, .exm "NotWhole" "BadRow" false, .exm "BadCount" "BadText" false, .exm "NoCrossing" "BadText" false, .exm "RingRoad" "BadText" false, .exm "NoRoad" "BadText" false]
def hkFa4 : List He.Fa := [.exm "OffRoad" "BadText" false, .exm "NotWhole" "BadText" false, .exm "BadCount" "TrainError" true, .exm "NoCrossing" "TrainError" true, .exm "RingRoad" "TrainError" true, .exm "NoRoad" "TrainError" true, .exm "OffRoad" "TrainError" true, .exm "NotWhole" "TrainError" true]
def hkFa : List He.Fa := hkFa0 ++ hkFa1 ++ hkFa2 ++ hkFa3 ++ hkFa4
def hkFn0 : List He.DefD := [⟨("_law_source", none), "_law_source", "_law_source", defArgs (top 46), defBody (top 46), defScope (top 46), [], []⟩, ⟨("_law_draw", none), "_law_draw", "_law_draw", defArgs (top 47), defBody (top 47), defScope (top 47), [], []⟩, ⟨("_law_pick", none), "_law_pick", "_law_pick", defArgs (top 48), defBody (top 48), defScope (top 48), [], []⟩, ⟨("_law_shuffled", none), "_law_shuffled", "_law_shuffled", defArgs (top 49), defBody (top 49), defScope (top 49), [], []⟩, ⟨("_law_tree", none), "_law_tree", "_law_tree", defArgs (top 50), defBody (top 50), defScope (top 50), [], []⟩, ⟨("check_road", none), "check_road", "check_road", defArgs (top 18), defBody (top 18), defScope (top 18), [], []⟩, ⟨("join_trails", none), "join_trails", "join_trails", defArgs (top 19), defBody (top 19), defScope (top 19), [], []⟩, ⟨("trails_along", none), "trails_along", "trails_along", defArgs (top 17), defBody (top 17), defScope (top 17), [], []⟩, ⟨("check_place", none), "check_place", "check_place", defArgs (top 23), defBody (top 23), defScope (top 23), [], []⟩, ⟨("check_march", none), "check_march", "check_march", defArgs (top 31), defBody (top 31), defScope (top 31), [], []⟩, ⟨("_law_made", none), "_law_made", "_law_made", defArgs (top 51), defBody (top 51), defScope (top 51), [], []⟩, ⟨("_law_marches", none), "_law_marches", "_law_marches", defArgs (top 52), defBody (top 52), defScope (top 52), [], []⟩, ⟨("end_at", none), "end_at", "end_at", defArgs (top 20), defBody (top 20), defScope (top 20), [], []⟩, ⟨("corner", none), "corner", "corner", defArgs (top 25), defBody (top 25), defScope (top 25), [], []⟩, ⟨("key", none), "key", "key", defArgs (top 24), defBody (top 24), defScope (top 24), [], []⟩, ⟨("keyed", none), "keyed", "keyed", defArgs (top 32), defBody (top 32), defScope (top 32), [], []⟩, ⟨("read_number", none), "read_number", "read_number", defArgs (top 41), defBody (top 41), defScope (top 41), [], []⟩, ⟨("read_road", none), "read_road", "read_road", defArgs (top 39), defBody (top 39), defScope (top 39), [], []⟩, ⟨("read_tree", none), "read_tree", "read_tree", defArgs (top 38), defBody (top 38), defScope (top 38), [], []⟩, ⟨("read_place", none), "read_place", "read_place", defArgs (top 40), defBody (top 40), defScope (top 40), [], []⟩]
def hkFn1 : List He.DefD := [⟨("read_march", none), "read_march", "read_march", defArgs (top 44), defBody (top 44), defScope (top 44), [], []⟩, ⟨("read_marches", none), "read_marches", "read_marches", defArgs (top 43), defBody (top 43), defScope (top 43), [], []⟩, ⟨("read_row", none), "read_row", "read_row", defArgs (top 42), defBody (top 42), defScope (top 42), [], []⟩, ⟨("_law_place_text", none), "_law_place_text", "_law_place_text", defArgs (top 53), defBody (top 53), defScope (top 53), [], []⟩, ⟨("_law_row_text", none), "_law_row_text", "_law_row_text", defArgs (top 54), defBody (top 54), defScope (top 54), [], []⟩, ⟨("_law_tree_rows", none), "_law_tree_rows", "_law_tree_rows", defArgs (top 55), defBody (top 55), defScope (top 55), [], []⟩, ⟨("_law_number", none), "_law_number", "_law_number", defArgs (top 56), defBody (top 56), defScope (top 56), [], []⟩, ⟨("_law_road", none), "_law_road", "_law_road", defArgs (top 57), defBody (top 57), defScope (top 57), [], []⟩, ⟨("_law_march", none), "_law_march", "_law_march", defArgs (top 58), defBody (top 58), defScope (top 58), [], []⟩, ⟨("_law_said", none), "_law_said", "_law_said", defArgs (top 59), defBody (top 59), defScope (top 59), [], []⟩, ⟨("_law_spoilt_part", none), "_law_spoilt_part", "_law_spoilt_part", defArgs (top 60), defBody (top 60), defScope (top 60), [], []⟩, ⟨("_law_spoilt", none), "_law_spoilt", "_law_spoilt", defArgs (top 61), defBody (top 61), defScope (top 61), [], []⟩, ⟨("_law_tree_right", none), "_law_tree_right", "_law_tree_right", defArgs (top 62), defBody (top 62), defScope (top 62), [], []⟩, ⟨("_law_row_right", none), "_law_row_right", "_law_row_right", defArgs (top 63), defBody (top 63), defScope (top 63), [], []⟩, ⟨("law", none), "law", "law", defArgs (top 64), defBody (top 64), defScope (top 64), [], []⟩, ⟨("BadCount", some "__init__"), "__init__", "BadCount.__init__", defArgs (inClass (top 3) 0), defBody (inClass (top 3) 0), defScope (inClass (top 3) 0), [], []⟩, ⟨("NoCrossing", some "__init__"), "__init__", "NoCrossing.__init__", defArgs (inClass (top 4) 0), defBody (inClass (top 4) 0), defScope (inClass (top 4) 0), [], []⟩, ⟨("RingRoad", some "__init__"), "__init__", "RingRoad.__init__", defArgs (inClass (top 5) 0), defBody (inClass (top 5) 0), defScope (inClass (top 5) 0), [], []⟩, ⟨("NoRoad", some "__init__"), "__init__", "NoRoad.__init__", defArgs (inClass (top 6) 0), defBody (inClass (top 6) 0), defScope (inClass (top 6) 0), [], []⟩, ⟨("OffRoad", some "__init__"), "__init__", "OffRoad.__init__", defArgs (inClass (top 7) 0), defBody (inClass (top 7) 0), defScope (inClass (top 7) 0), [], []⟩]
def hkFn2 : List He.DefD := [⟨("NotWhole", some "__init__"), "__init__", "NotWhole.__init__", defArgs (inClass (top 8) 0), defBody (inClass (top 8) 0), defScope (inClass (top 8) 0), [], []⟩, ⟨("Road", some "__init__"), "__init__", "Road.__init__", defArgs (inClass (top 15) 0), defBody (inClass (top 15) 0), defScope (inClass (top 15) 0), [], []⟩, ⟨("Tree", some "__init__"), "__init__", "Tree.__init__", defArgs (inClass (top 16) 0), defBody (inClass (top 16) 0), defScope (inClass (top 16) 0), [], []⟩, ⟨("Place", some "__init__"), "__init__", "Place.__init__", defArgs (inClass (top 22) 0), defBody (inClass (top 22) 0), defScope (inClass (top 22) 0), [], []⟩, ⟨("March", some "__init__"), "__init__", "March.__init__", defArgs (inClass (top 29) 0), defBody (inClass (top 29) 0), defScope (inClass (top 29) 0), [], []⟩, ⟨("Row", some "__init__"), "__init__", "Row.__init__", defArgs (inClass (top 30) 0), defBody (inClass (top 30) 0), defScope (inClass (top 30) 0), [], []⟩, ⟨("Road", some "__eq__"), "__eq__", "Road.__eq__", defArgs (inClass (top 15) 1), defBody (inClass (top 15) 1), defScope (inClass (top 15) 1), [], []⟩, ⟨("Tree", some "__eq__"), "__eq__", "Tree.__eq__", defArgs (inClass (top 16) 1), defBody (inClass (top 16) 1), defScope (inClass (top 16) 1), [], []⟩, ⟨("Place", some "__eq__"), "__eq__", "Place.__eq__", defArgs (inClass (top 22) 1), defBody (inClass (top 22) 1), defScope (inClass (top 22) 1), [], []⟩, ⟨("March", some "__eq__"), "__eq__", "March.__eq__", defArgs (inClass (top 29) 1), defBody (inClass (top 29) 1), defScope (inClass (top 29) 1), [], []⟩, ⟨("Row", some "__eq__"), "__eq__", "Row.__eq__", defArgs (inClass (top 30) 1), defBody (inClass (top 30) 1), defScope (inClass (top 30) 1), [], []⟩, ⟨("BadRow", some "__init__"), "__init__", "BadRow.__init__", defArgs (inClass (top 9) 0), defBody (inClass (top 9) 0), defScope (inClass (top 9) 0), [], []⟩, ⟨("BadText", some "__init__"), "__init__", "BadText.__init__", defArgs (inClass (top 10) 0), defBody (inClass (top 10) 0), defScope (inClass (top 10) 0), [], []⟩, ⟨("BadCount", some "told"), "told", "BadCount.told", defArgs (inClass (top 3) 1), defBody (inClass (top 3) 1), defScope (inClass (top 3) 1), [], []⟩, ⟨("NoCrossing", some "told"), "told", "NoCrossing.told", defArgs (inClass (top 4) 1), defBody (inClass (top 4) 1), defScope (inClass (top 4) 1), [], []⟩, ⟨("RingRoad", some "told"), "told", "RingRoad.told", defArgs (inClass (top 5) 1), defBody (inClass (top 5) 1), defScope (inClass (top 5) 1), [], []⟩, ⟨("NoRoad", some "told"), "told", "NoRoad.told", defArgs (inClass (top 6) 1), defBody (inClass (top 6) 1), defScope (inClass (top 6) 1), [], []⟩, ⟨("OffRoad", some "told"), "told", "OffRoad.told", defArgs (inClass (top 7) 1), defBody (inClass (top 7) 1), defScope (inClass (top 7) 1), [], []⟩, ⟨("NotWhole", some "told"), "told", "NotWhole.told", defArgs (inClass (top 8) 1), defBody (inClass (top 8) 1), defScope (inClass (top 8) 1), [], []⟩]
def hkFn : List He.DefD := hkFn0 ++ hkFn1 ++ hkFn2
def hkEx0 (K : PySem.W.Frag) : List Bool := [gB K, eqB K (He.ga K "Road") (He.ma K (He.ga K "Road") "__eq__"), eqB K (He.ga K "Tree") (He.ma K (He.ga K "Tree") "__eq__"), eqB K (He.ga K "Place") (He.ma K (He.ga K "Place") "__eq__"), eqB K (He.ga K "March") (He.ma K (He.ga K "March") "__eq__"), eqB K (He.ga K "Row") (He.ma K (He.ga K "Row") "__eq__"), erB K (He.ga K "BadCount") (He.ma K (He.ga K "BadCount") "__init__"), erB K (He.ga K "NoCrossing") (He.ma K (He.ga K "NoCrossing") "__init__"), erB K (He.ga K "RingRoad") (He.ma K (He.ga K "RingRoad") "__init__"), erB K (He.ga K "NoRoad") (He.ma K (He.ga K "NoRoad") "__init__"), erB K (He.ga K "OffRoad") (He.ma K (He.ga K "OffRoad") "__init__"), erB K (He.ga K "NotWhole") (He.ma K (He.ga K "NotWhole") "__init__"), erB K (He.ga K "BadRow") (He.ma K (He.ga K "BadRow") "__init__"), erB K (He.ga K "BadText") (He.ma K (He.ga K "BadText") "__init__"), He.eqO (PySem.W.nsIn K mainGlobals "gcd") (some (some (.builtin "math.gcd")))]
def hkEx1 (K : PySem.W.Frag) : List Bool := [tabB K (He.ga K "_law_tree_right"), tabB K (He.ga K "_law_row_right"), decide (ptA K (He.ga K "_law_tree_right") ≠ ptA K (He.ga K "_law_row_right"))]
def hkEx (K : PySem.W.Frag) : List Bool := hkEx0 K ++ hkEx1 K
abbrev hkR : PySem.W.OpenRow := PySem.W.OpenLaw.row PySem.Challenge.rw_onetrain_k72_texts_refused
abbrev hkQ : Program := PySem.W.view hkR.prog [62, 63, 64]
abbrev hk : PySem.W.Hook := hookP hkFa hkFn hkEx
def hkOb (s : PySem.W.SharedT) : AlP := obsPG hkFa hkFn hkEx (HandSHeadRun.getT s)
theorem hkOb_eq (s : PySem.W.SharedT) : hkOb s = hk.obs s.abs := obsPG_eq (HandSHeadRun.getT_eq s)
theorem hk_run (w : World) : HandSHeadRun.RunEqI hkR hkQ hk hkOb 6000 hkNames w := by
  unfold HandSHeadRun.RunEqI
  kernel_rfl
end OT
set_option Elab.async false
set_option linter.all false
set_option maxRecDepth 100000
set_option maxHeartbeats 1000000
namespace OT
open PySem L2
section
variable {P : Program} {w : World} {K : PySem.W.Frag} {mg : Str → Option Value} {base : Heap}
theorem mod_in {x m : Int} (h : 0 < m) : 0 ≤ x % m ∧ x % m < m := ⟨Int.emod_nonneg _ (by omega), Int.emod_lt_of_pos _ h⟩
theorem ok_draw {f : Addr} {fd : FuncData} (F : Fun K "_law_draw" "_law_draw" sDraw f fd) : FnOk P w K mg base CX0 1 f fd ["_law_source_here", "_law_many"] spDraw := by
  refine F.ok scDraw (fun vs H Q E h => ?_) (fun cdv A outer s H vs Q E hr h => ?_)
  · obtain ⟨s, m, rfl, _⟩ := h
    rfl
  · obtain ⟨s, m, rfl, ⟨a, b, c, ha, hs⟩, hm0, hm1, k⟩ := h
    refine ⟨_, pss_cons (ps_if (pt_cmpR op_ge (pe_ix ix_list (pv 0) pe_int (fun _ _ => rfl)) (pe_op op_pow pe_int pe_int) (nomark _))
        (pss_cons (ps_set (i := 2) scDraw.nd rfl (Or.inl rfl) (pe_op op_mod (pe_ix ix_list (pv 0) pe_int (fun _ _ => rfl)) (pv 1)))
        (pss_cons (ps_asg (pe_op op_fdiv (pe_ix ix_list (pv 0) pe_int (fun _ _ => rfl)) (pv 1)) (pg_sub (pv 0) pe_int set_list))
        (pss_one (ps_ret (pv 2))))) pss_nil)
      (pss_cons (ps_asg (pe_op op_add (pe_ix ix_list (pv 0) pe_int (fun _ _ => rfl)) pe_int) (pg_sub (pv 0) pe_int set_list))
      (pss_cons (ps_set (i := 3) scDraw.nd rfl (Or.inl rfl) (pe_op op_mod (pe_op op_mul (pe_op op_add (pe_op op_add (pe_ix ix_list (pv 0) pe_int (fun _ _ => rfl)) (pe_op op_mul pe_int (pe_ix ix_list (pv 0) pe_int (fun _ _ => rfl)))) pe_int) pe_int) pe_int))
      (pss_cons (ps_set (i := 3) scDraw.nd rfl (Or.inl rfl) (pe_op op_mod (pe_op op_mul (pv 3) (pe_op op_add (pe_op op_fdiv (pv 3) pe_int) pe_int)) pe_int))
      (pss_one (ps_ret (pe_op op_mod (pe_op op_mod (pe_op op_add (pe_op op_fdiv (pv 3) pe_int) (pe_op op_mul (pe_op op_mod (pv 3) pe_int) pe_int)) pe_int) (pv 1))))))), ?_⟩
    refine ⟨_, rfl, _, _, _, _, rfl, rfl, SqL.of hs, rfl, _, _, rfl, rfl, ⟨by decide, by decide, by decide⟩, _, _, rfl, rfl, _, rfl, ?_⟩
    refine ite2 (fun _ => ?_) (fun _ => ?_)
    · refine ⟨_, rfl, _, _, _, _, rfl, rfl, SqL.of hs, rfl, _, rfl, _, _, rfl, rfl, hm0, ?_⟩
      refine ⟨_, rfl, _, _, _, _, rfl, rfl, SqL.of hs, rfl, _, rfl, _, _, rfl, rfl, ⟨hm0, hm1⟩, ?_⟩
      refine ⟨_, rfl, _, _, _, _, rfl, rfl, hs, rfl, ?_⟩
      refine ⟨_, rfl, ?_⟩
      exact k _ _ (mod_in hm0).1 (mod_in hm0).2 ⟨_, _, _, Int.ediv_nonneg ha (by omega), upd_same⟩ But.upd
    · refine ⟨_, rfl, _, _, _, _, rfl, rfl, SqL.of hs, rfl, _, _, rfl, rfl, ?_⟩
      refine ⟨_, rfl, _, _, _, _, rfl, rfl, hs, rfl, ?_⟩
      have hs' : SqL K (upd H s (.lst [.int a, .int b, .int (c + 1)])) s [.int a, .int b, .int (c + 1)] := SqL.of upd_same
      refine ⟨_, rfl, _, _, _, _, rfl, rfl, hs', rfl, _, rfl, _, _, _, _, rfl, rfl, hs', rfl, _, _, rfl, rfl, .inl ⟨by decide, by decide⟩, _, _, rfl, rfl, _, _, rfl, rfl, _, _, rfl, rfl, .inr ⟨by decide, by decide⟩, _, _, rfl, rfl, (by show (0 : Int) < 2147483647; decide), ?_⟩
      generalize hx : ((b + 7919 * (c + 1) + 1) * 48271 % 2147483647 : Int) = x
      have x0 : 0 ≤ x ∧ x < 2147483647 := by rw [← hx]; exact mod_in (by decide)
      refine ⟨_, rfl, _, rfl, _, _, rfl, rfl, ⟨by decide, by decide⟩, _, _, rfl, rfl, _, _, rfl, rfl, .inl ⟨by omega, by omega⟩, _, _, rfl, rfl, (by show (0 : Int) < 2147483587; decide), ?_⟩
      generalize hy : (x * (x / 1013 + 69621) % 2147483587 : Int) = y
      refine ⟨_, rfl, _, _, rfl, rfl, ⟨by decide, by decide⟩, _, rfl, _, _, rfl, rfl, (by show (0 : Int) < 7919; decide), _, _, rfl, rfl, .inr ⟨by decide, by decide⟩, _, _, rfl, rfl, _, _, rfl, rfl, (by show (0 : Int) < 2147483399; decide), _, rfl, _, _, rfl, rfl, hm0, ?_⟩
      exact k _ _ (mod_in hm0).1 (mod_in hm0).2 ⟨_, _, _, ha, upd_same⟩ But.upd
end
end OT
set_option Elab.async false
set_option linter.all false
set_option maxRecDepth 100000
set_option maxHeartbeats 1000000
namespace OTR
open PySem PySem.Spec PyProof.Rows L2
section
variable {X : Cx}
/-- xs != [] -/
def rNeNil (K : PySem.W.Frag) : R2 := fun x y H Q => ∃ a b xs, x = .ref a ∧ y = .ref b ∧ SqL K H a xs ∧ SqL K H b [] ∧ Q (.bl (!xs.isEmpty)) H
def rEqNil (K : PySem.W.Frag) : R2 := fun x y H Q => ∃ a b xs, x = .ref a ∧ y = .ref b ∧ SqL K H a xs ∧ SqL K H b [] ∧ Q (.bl xs.isEmpty) H
theorem op_neNil (hu : X.A.units < cLine) : OpR X (compareOp .NotEq) (rNeNil X.K) := by
  intro pins s σ H x y v u Q I rx ry h
  obtain ⟨a, b, xs, rfl, rfl, ha, hb, q⟩ := h
  obtain rfl : v = Value.ref a := rx
  obtain rfl : u = Value.ref b := ry
  obtain ⟨us, r1, p1, _⟩ := I.list ha
  obtain ⟨ws, r2, p2, _⟩ := I.list hb
  cases r2
  show wpAny (model X.prog X.w) X.A (richCompare .NotEq (.ref a) (.ref b)) _ _ _
  cases xs with
  | nil =>
    cases r1
    have z := SeqAt.RcNeAt.lists (A := X.A) (s := s) (e := fun _ => true) p1.isList p2.isList rfl hu (fun j h1 _ => absurd h1 (Nat.not_lt_zero j))
    exact z X.prog X.w _ _ ⟨.bl false, H, I, rfl, q⟩
  | cons y ys =>
    cases r1 with
    | cons r1 rr =>
      have z := SeqAt.RcNeAt.lists_lengths (A := X.A) (s := s) p1.isList p2.isList (by simp) hu
      exact z X.prog X.w _ _ ⟨.bl true, H, I, rfl, q⟩
end
section
variable {prog : Program} {w : World} {A : Around} {E : Value → Shared → Prop} {s : Shared}
theorem adjust_rev (n : Nat) : Builtin.Slice.sliceAdjust none none (-1) (n : Int) = ((n : Int) - 1, -1) := by
  unfold Builtin.Slice.sliceAdjust
  simp
theorem places_rev (n : Nat) : Builtin.Slice.slicePlaces ((n : Int) - 1) (-1) (-1) = n := by
  unfold Builtin.Slice.slicePlaces
  have h1 : ¬ ((-1 : Int) > 0) := by omega
  simp only [h1, if_false]
  split
  · have e : ((n : Int) - 1 - -1 - 1) / (- -1) + 1 = n := by
      rw [show (- -1 : Int) = 1 by decide, Int.ediv_one]
      omega
    rw [e]
    simp
  · have e : n = 0 := by omega
    subst e
    rfl
theorem sliceApplied_rev {sl : Addr} {vl vu vs : Value} {n : Nat} {Q : Int × Int × Nat → Shared → Prop} (hs : s.heap.IsSliceOf sl vl vu vs) (pl : IsPart vl none) (pu : IsPart vu none) (ps : IsPart vs (some (-1)))
    (h : Q ((n : Int) - 1, -1, n) s) : wpAny (model prog w) A (Builtin.Slice.sliceApplied (.ref sl) (pure (n : Int))) Q E s := by
  obtain ⟨os, hos, hcs, hds⟩ := id hs
  unfold Builtin.Slice.sliceApplied Builtin.Slice.sliceFields
  refine wpAny_bind (wpAny_bind (wpAny_field hos hds (x := vl) rfl (wpAny_bind (wpAny_field hos hds (x := vu) rfl (wpAny_bind (wpAny_field hos hds (x := vs) rfl (wpAny_pure ?_)))))))
  refine wpAny_bind (HT.slicePart_ ps ?_)
  show wpAny _ _ (if ((-1 : Int) == 0) = true then _ else _) _ _ s
  rw [if_neg (by decide)]
  refine wpAny_bind (HT.slicePart_ pl (wpAny_bind (HT.slicePart_ pu (wpAny_bind (wpAny_pure ?_)))))
  show wpAny _ _ (match Builtin.Slice.sliceAdjust none none (-1) (n : Int) with | (lo, hi) => pure (lo, (-1 : Int), Builtin.Slice.slicePlaces lo hi (-1))) _ _ s
  rw [adjust_rev n]
  show wpAny _ _ (pure ((n : Int) - 1, (-1 : Int), Builtin.Slice.slicePlaces ((n : Int) - 1) (-1) (-1))) _ _ s
  rw [places_rev]
  exact wpAny_pure h
theorem fm_congr {α β : Type} {f g : α → Option β} : ∀ {l : List α}, (∀ a ∈ l, f a = g a) → l.filterMap f = l.filterMap g
  | [], _ => rfl
  | a :: l, h => by
    have h1 := h a (List.mem_cons_self ..)
    have h2 := fm_congr (l := l) fun b hb => h b (List.mem_cons_of_mem _ hb)
    rw [List.filterMap_cons, List.filterMap_cons, h1, h2]
theorem pick_rev (xs : Array Value) : ((List.range xs.size).filterMap fun (m : Nat) => xs[((xs.size : Int) - 1 + (m : Int) * -1).toNat]?).toArray = xs.toList.reverse.toArray := by
  have e : (List.range xs.size).filterMap (fun (m : Nat) => xs[((xs.size : Int) - 1 + (m : Int) * -1).toNat]?) = ((List.range xs.size).map fun k => xs.size - 1 - k).filterMap (xs[·]?) := by
    rw [List.filterMap_map]
    apply fm_congr
    intro m hm
    have h := List.mem_range.mp hm
    have z : ((xs.size : Int) - 1 + (m : Int) * -1).toNat = xs.size - 1 - m := by omega
    rw [z]
    rfl
  rw [e, PySem.W.krv_range, List.filterMap_reverse, PySem.W.krv_all]
theorem getItem_tuple_rev {t sl : Addr} {items : Array Value} {vl vu vs : Value} {Q : Value → Shared → Prop} (ht : IsTup s.heap t items) (hs : s.heap.IsSliceOf sl vl vu vs) (pl : IsPart vl none) (pu : IsPart vu none) (ps : IsPart vs (some (-1)))
    (h : Q (.ref s.heap.objs.size) { s with heap := s.heap.push { cls := .type "tuple", data := .seq items.toList.reverse.toArray } })
    (hsz : items.size ≤ sizeLine) : wpAny (model prog w) A (getItem (.ref t) (.ref sl)) Q E s := by
  have htake : sizeOk (.seq items.toList.reverse.toArray) := by
    show items.toList.reverse.toArray.size ≤ sizeLine
    rw [List.size_toArray, List.length_reverse, Array.length_toList]
    exact hsz
  obtain ⟨os, hos, hcs, hds⟩ := id hs
  have hTs : s.TypeIs (.ref sl) "slice" := ⟨os, hos, hcs⟩
  unfold getItem
  try with_reducible refine wpAny_holding ?_
  first | refine wpAny_bind (wpAny_pure ?_) | skip
  refine wpAny_bind (wpAny_sequenceKey ht.typeIs (by decide) ?_)
  refine wpAny_bind (wpAny_callSpecial?_slot (name := Str.ofString "__getitem__") ht.typeIs PyProof.Rows.slot_tuple_getitem
    (wpAny_call_entry PyProof.Rows.slot_tuple_getitem ht.typeIs entry_tuple_getitem ?_ (args_tuple_getitem _ _)))
  show wpAny _ _ (Builtin.Tuple.tupleItemsOf (.ref t) >>= _) _ _ s
  refine wpAny_bind (tupleItemsOf_ ht ?_)
  refine wpAny_bind (wpAny_typeOf hTs ?_)
  rw [if_pos (by decide)]
  refine wpAny_bind (sliceApplied_rev hs pl pu ps ?_)
  have hno : ¬ ((((items.size : Int) - 1) == 0 && (-1 : Int) == 1 && items.size == items.size) = true) := by
    intro q
    rw [Bool.and_eq_true, Bool.and_eq_true] at q
    exact absurd (eq_of_beq q.1.2) (by decide)
  show wpAny _ _ (if (((items.size : Int) - 1) == 0 && (-1 : Int) == 1 && items.size == items.size) = true then _ else _) _ _ s
  rw [if_neg hno, pick_rev]
  first
    | exact wpAny_bind (m := Builtin.Tuple.tupleExact _) (wpAny_newObj_type (wpAny_pure ⟨_, rfl, wpAny_pure h⟩) htake)
    | exact wpAny_bind (m := Builtin.Tuple.tupleExact _) (wpAny_newObj_type (wpAny_bind (wpAny_pure (wpAny_pure ⟨_, rfl, wpAny_pure h⟩))) htake)
    | exact wpAny_bind (wpAny_bind (m := Builtin.Tuple.tupleExact _) (wpAny_newObj_type (wpAny_pure (wpAny_pure ⟨_, rfl, wpAny_pure h⟩)) htake))
    | exact wpAny_bind (wpAny_bind (m := Builtin.Tuple.tupleExact _) (wpAny_newObj_type (wpAny_pure ⟨_, rfl, wpAny_pure h⟩) htake))
end
section
variable {X : Cx}
def tRevT (K : PySem.W.Frag) (te : TE) : TE := fun σ H Q => te σ H fun x H1 => ∃ a xs, x = .ref a ∧ SqT K H1 a xs ∧ ∀ p, H1 p = none → Q (.ref p) (upd H1 p (.tup xs.reverse))
theorem pe_revT {e : Expr} {te : TE} {k : Nat} {p1 p2 p3 pos : Pos} (he : PE X e te) : PE X (.Subscript e (.Slice none none (some (.UnaryOp .USub (.Constant (.int 1) k p1) p2)) p3) pos) (tRevT X.K te) := by
  refine ⟨fun pins s σ H Q I h => ?_⟩
  refine Subscript_ (thn (he.run pins s σ H _ I h) fun v s1 ⟨x, H1, I1, r1, q1⟩ => ?_)
  obtain ⟨a, xs, ex, hx, q⟩ := q1
  subst ex
  cases r1
  have hst : PO X (some (.UnaryOp .USub (.Constant (.int 1) k p1) p2)) (tPart (tUn (rU fun i => .int (-i)) (tC (.int 1)))) := po_some (pe_un un_neg pe_int)
  refine wpAny_Slice (thn (po_none.run pins s1 σ H1 (fun o H2 => o = none ∧ H2 = H1) I1 ⟨rfl, rfl⟩) fun vl s2 ⟨l, H2, I2, pl, el, e2⟩ => ?_)
  subst el e2
  refine thn (po_none.run pins s2 σ H2 (fun o H3 => o = none ∧ H3 = H2) I2 ⟨rfl, rfl⟩) fun vu s3 ⟨u, H3, I3, pu, eu, e3⟩ => ?_
  subst eu e3
  refine thn (hst.run pins s3 σ H3 (fun o H4 => o = some (-1) ∧ H4 = H3) I3 ⟨1, rfl, -1, rfl, rfl, rfl⟩) fun vs s4 ⟨o, H4, I4, ps, eo, e4⟩ => ?_
  subst eo e4
  have I5 : Inv X pins σ H4 { s4 with heap := s4.heap.push { cls := .type "slice", data := .fields #[vl, vu, vs] } } := I4.kept (t' := s4.toks) fun b ob q => Heap.get?_push_of_some _ q
  obtain ⟨its, r, ht, hz⟩ := I5.tuple hx
  have hlen := r.length
  show wpAny (model X.prog X.w) X.A (subscriptTail e (.Slice none none (some (.UnaryOp .USub (.Constant (.int 1) k p1) p2)) p3) (.ref a) (.ref s4.heap.objs.size)) (EP X pins σ Q) X.xe { s4 with heap := s4.heap.push { cls := .type "slice", data := .fields #[vl, vu, vs] } }
  refine tail_any (ops := [.ref a, .ref s4.heap.objs.size]) ht.typeIs (PyProof.Rows.slot_tuple_getitem.lookup) ?_ (by with_unfolding_all rfl)
  refine getItem_tuple_rev ht (Heap.IsSliceOf.new _ vl vu vs) pl pu ps ?_ (by rw [List.size_toArray]; omega)
  refine ⟨.ref _, _, I5.laid (t' := s4.toks) (o := .tup xs.reverse) (fun b ob q => Heap.get?_push_of_some _ q) (Nat.le_refl _) ?_, rfl, q _ (I5.hok.fresh (Nat.le_refl _))⟩
  refine ⟨by rw [List.length_reverse]; exact hz, its.reverse, r.reverse, ?_⟩
  have e := Heap.get?_push_size (s4.heap.push { cls := .type "slice", data := .fields #[vl, vu, vs] }) (o := { cls := .type "tuple", data := .seq its.reverse.toArray }) rfl
  exact ⟨_, by simpa using e, rfl, _, rfl⟩
end
end OTR
set_option Elab.async false
set_option linter.all false
set_option maxRecDepth 100000
set_option maxHeartbeats 1000000
namespace OTR
open PySem PySem.Spec PyProof.Rows L2
theorem meets_enumerate_new1 {v : Value} {ob : Obj} {H : Heap → Prop} (B : Begins v ob H) :
    Meets (Builtin.«enumerate.__new__» ⟨[.type "enumerate", v], []⟩) (fun _ R s => H s.heap ∧
      R (.ok (.ret (.ref (s.heap.push ob).objs.size))) { s with heap := (s.heap.push ob).push { cls := .type "enumerate", data := .fields #[.none, .bool false, .ref s.heap.objs.size, rawInt 0, .none, .none] } }) :=
  .of_wp fun prg w A R s h => by
    obtain ⟨hp, g, d, tk, os⟩ := s; obtain ⟨t1, h⟩ := h
    have hsub := sub_enumerate
    have qv : ∀ {A' : Around} {Er : Value → Shared → Prop} {Q : Value → Shared → Prop}, Q (.ref hp.objs.size) ⟨hp.push ob, g, d, tk, os⟩ → wpAny (model prg w) A' (pyIter v) Q Er ⟨hp, g, d, tk, os⟩ :=
      fun q => B.iter prg w _ _ ⟨hp, g, d, tk, os⟩ _ t1 q
    wp_walk using qv
    refine wpAny_stack_any fun _ => wpAny_pure ?_
    split
    · rename_i c _ _ _ _ _
      cases (c == Value.type "enumerate")
      · wp_walk using qv
        exact ⟨_, rfl, h⟩
      · wp_walk using qv
        exact ⟨_, rfl, h⟩
    · wp_walk using qv
      exact ⟨_, rfl, h⟩
section
variable {prg : Program} {w : World} {A : Around} {Er : Value → Shared → Prop} {s : Shared}
theorem enum_begins1 {v : Value} {ob : Obj} {H : Heap → Prop} {Q : Value → Shared → Prop} (B : Begins v ob H) (t1 : H s.heap)
    (h : ∀ g1, IsEnum g1 (s.heap.objs.size + 1) s.heap.objs.size 0 .none → g1.get? s.heap.objs.size = some ob → g1.objs.size = s.heap.objs.size + 2 →
      (∀ bb ob, s.heap.get? bb = some ob → g1.get? bb = some ob) → Q (.ref (s.heap.objs.size + 1)) { s with heap := g1 }) :
    wpAny (model prg w) A (call (.type "enumerate") [v]) Q Er s := by
  refine callType_new F.called_enumerate (by decide) (F.typeCall_enumerate_1 _) (F.newCall_enumerate_1 _) (fun x => F.args_object_init_2 x _) F.entry_enumerate_new
    (meets_enumerate_new1 B) ⟨t1, ?_⟩
  have sm : (s.heap.push ob).objs.size = s.heap.objs.size + 1 := Heap.size_push ..
  show _ ∧ _
  rw [sm]
  have en : IsEnum ((s.heap.push ob).push { cls := .type "enumerate", data := .fields #[.none, .bool false, .ref s.heap.objs.size, rawInt 0, .none, .none] }) (s.heap.objs.size + 1) s.heap.objs.size 0 .none := by
    have := Heap.get?_push_size (s.heap.push ob) (o := { cls := .type "enumerate", data := .fields #[.none, .bool false, .ref s.heap.objs.size, rawInt 0, .none, .none] }) rfl
    rw [sm] at this; exact this
  refine ⟨⟨_, en, rfl⟩, h _ en (Heap.get?_push_of_some _ (Heap.get?_push_size _ B.free)) (by rw [Heap.size_push, sm]) fun bb ob x => Heap.get?_push_of_some _ (Heap.get?_push_of_some _ x)⟩
end
def IteT (K : PySem.W.Frag) (a : Addr) : It :=
  ⟨fun i H => ∃ (xs : List V) (x : V), SqT K H a xs ∧ xs[i]? = some x, fun i H v H' => ∃ T x, v = .ref T ∧ H T = none ∧ H' = upd H T (.tup [.int (i : Nat), x]) ∧ ∀ xs, SqT K H a xs → xs[i]? = some x, fun i H => ∃ xs : List V, SqT K H a xs ∧ i = xs.length⟩
theorem turn_enumT {P : Program} {w : World} {K : PySem.W.Frag} {elts : List Expr} {kk : Nat} {tpos : Pos} (a e it : Addr) :
    Turn P w K (.Tuple elts kk tpos) (IteT K a) [e, it] e (fun i h => (∃ prv, IsEnum h e it ((i : Nat) : Int) prv) ∧ h.IsTupleIter it a i ∧ e ≠ it ∧ e ≠ a ∧ a ≠ it) where
  mem := by simp
  obj := fun i h st bb mb => by
    obtain ⟨⟨prv, en⟩, ⟨ob, hob, cal, hd⟩, _⟩ := st
    have alt : bb = e ∨ bb = it := by simpa using mb
    rcases alt with z | z
    · rw [z]; exact ⟨_, en, fun v q => nomatch q⟩
    · rw [z]; exact ⟨ob, hob, fun v q => by rw [hd] at q; cases q⟩
  keep := fun i h g1 st k => let ⟨⟨prv, en⟩, hi, n1⟩ := st; ⟨⟨prv, k e (by simp) _ en⟩, hi.at fun ob q => k it (by simp) ob q, n1⟩
  item := by
    intro X aP aw aK cal i pn s st1 H Er I off st hg
    subst aP aw aK
    obtain ⟨⟨prv, en⟩, ti, n1, n2, n3⟩ := st
    obtain ⟨xs, x, sq, hx⟩ := hg
    obtain ⟨ws, rel, p, sm⟩ := I.tuple sq
    obtain ⟨u, gu, relu⟩ := rel.get hx
    have lte : e < s.heap.objs.size := Heap.lt_size en
    have lti : it < s.heap.objs.size := by obtain ⟨_, q, _⟩ := ti; exact Heap.lt_size q
    have lti2 : i < ws.length := (List.getElem?_eq_some_iff.mp gu).1
    have D := Draws.tuple (prog := X.prog) (w := X.w) (A := X.A.in1) (I.ok.hd cal) it a n3 ws.toArray
    refine wpAny_pyNext_enum_itemD D en ⟨ti, p⟩ (by simpa using lti2) n1 (by simp [n1, n2]) fun y g1 tk hyy hob hst' hT szz kp => ?_
    obtain ⟨hit', _⟩ := hst'
    have ey : y = u := by
      have z : ws[i]? = some y := by simpa using hyy
      rw [gu] at z
      exact (Option.some.inj z).symm
    subst ey
    refine ⟨_, rfl, wpAny_letOwnedTupleGo_enum (s := { s with heap := g1, toks := tk + 1 }) hob fun g2 he' sb => ?_⟩
    have hT2 : g2.get? s.heap.objs.size = some { cls := .type "tuple", data := .seq #[.int i tk, y] } := (sb.2 _ (Nat.ne_of_gt lte)).trans hT
    have new : ObjOk X.prog X.w (upd H s.heap.objs.size (.tup [.int (i : Nat), x])) g2 s.heap.objs.size (.tup [.int (i : Nat), x]) :=
      ⟨by show 2 ≤ sizeLine; decide, [.int i tk, y], .cons ⟨_, rfl⟩ (.cons relu .nil), ⟨_, hT2, rfl, _, rfl⟩⟩
    have In1 : Inv X pn st1 (upd H s.heap.objs.size (.tup [.int (i : Nat), x])) { s with heap := g2, toks := tk + 1 } :=
      I.turnedNew (ch := [e, it]) (fun bb ob mb q => (sb.2 bb (fun z => mb (by simp [z]))).trans (kp bb ob (fun z => mb (by simp [z])) (fun z => mb (by simp [z])) q)) off (Nat.le_refl _) new
    refine ⟨.ref s.heap.objs.size, _, In1, rfl, ⟨_, x, rfl, I.hok.fresh (Nat.le_refl _), rfl, fun ys hyy => by rw [I.tuple_inj hyy sq]; exact hx⟩, ⟨⟨y, ?_⟩, hit'.at fun ob q => (sb.2 it (Ne.symm n1)).trans q, n1, n2, n3⟩, fun bb mb => ?_⟩
    · have nxt1 : ((i + 1 : Nat) : Int) = (i : Int) + 1 := by omega
      rw [nxt1]; exact he'
    · have mb2 : bb < s.heap.objs.size := by
        have alt : bb = e ∨ bb = it := by simpa using mb
        rcases alt with z | z
        · rw [z]; exact lte
        · rw [z]; exact lti
      rw [upd_ne (Nat.ne_of_lt mb2)]
      exact (off bb mb).1
  done := by
    intro X aP aw aK cal i pn s st1 H Er I off st hg
    subst aP aw aK
    obtain ⟨⟨prv, en⟩, ti, n1, n2, n3⟩ := st
    obtain ⟨xs, sq, hx⟩ := hg
    obtain ⟨ws, rel, p, sm⟩ := I.tuple sq
    obtain ⟨f0, f1, f2, f3, f4, f5⟩ := off it (by simp)
    have len1 := rel.length
    have eqi : i = ws.toArray.size := by simp; omega
    have D := Draws.tuple (prog := X.prog) (w := X.w) (A := X.A.in1) (I.ok.hd cal) it a n3 ws.toArray
    have stands : s.heap.IsTupleIter it a ws.toArray.size ∧ s.heap.IsTuple a ws.toArray := ⟨eqi ▸ ti, p⟩
    exact wpAny_pyNext_enum_endD D en stands fun g1 keepb => ⟨rfl, I.turned (t' := s.toks) (fun bb ob mb q => keepb bb ob mb q) f0 f1 f3 f4 f5⟩
  self := fun A i s Q Er st h => let ⟨⟨_, en⟩, _⟩ := st; wpAny_pyIter_enum en h
def iEnumT (K : PySem.W.Frag) (ta : TA) : TI := fun st1 H R => ta st1 H fun vs Hq => ∃ a xs, vs = [.ref a] ∧ SqT K Hq a xs ∧ R (IteT K a) Hq
theorem pi_enumT {X : Cx} {e : Expr} {ta : TA} {p pos tpos : Pos} {elts : List Expr} {kk : Nat} (hg : Gl X "enumerate") (hm : X.mg "enumerate" = none) (ha : PA X [e] ta) (hs : starEach [e] X.env = [(false, eval e X.env)] := by rfl) :
    PI X (.Tuple elts kk tpos) (.Call (.Name "enumerate" p) [e] [] pos) (iEnumT X.K ta) := by
  refine ⟨fun pn s st1 H R I h => ?_⟩
  refine Call_ (ld_blt I hg hm boot_enumerate (PyProof.Rows.callWith_type1 (thn (ha.run pos pn s st1 H _ I h) fun uu sq1 ⟨vs, Hq, In1, rq, qv⟩ => ?_) hs rfl))
  obtain ⟨a, xs, ex, sq, q⟩ := qv
  subst ex
  cases rq with
  | cons r rr =>
    cases rr
    cases r
    obtain ⟨ws, rel, p', sm⟩ := In1.tuple sq
    have lta : a < sq1.heap.objs.size := p'.lt
    refine enum_begins1 (begins_tuple a ws.toArray) p' fun g1 en ti szz kp => wpAny_pyIter_enum en ?_
    have In2 : Inv X pn st1 Hq { sq1 with heap := g1 } := In1.kept (t' := sq1.toks) kp
    refine ⟨sq1.heap.objs.size + 1, [sq1.heap.objs.size + 1, sq1.heap.objs.size], _, _, Hq, rfl, In2, turn_enumT a (sq1.heap.objs.size + 1) sq1.heap.objs.size, ⟨⟨.none, en⟩, ⟨_, ti, rfl, rfl⟩, Nat.succ_ne_self _, Nat.ne_of_gt (Nat.lt_succ_of_lt lta), Nat.ne_of_lt lta⟩, fun bb mb => ?_, q⟩
    have alt : bb = sq1.heap.objs.size + 1 ∨ bb = sq1.heap.objs.size := by simpa using mb
    have low : sq1.heap.objs.size ≤ bb := by
      rcases alt with z | z
      · rw [z]; exact Nat.le_add_right _ _
      · rw [z]; exact Nat.le_refl _
    exact In1.fpOk low (In1.hok.fresh low)
theorem walk_enumT {K : PySem.W.Frag} {a : Addr} {xs : List V} : Walk (IteT K a) xs.length (fun H => SqT K H a xs) (YPair (fun i => some (.int (i : Nat))) (fun i => xs[i]?)) := by
  refine ⟨fun i _ hi q => ⟨xs, xs[i], q, by simp [hi]⟩, fun _ q => ⟨xs, q, rfl⟩, fun i H v H' _ q y => ?_⟩
  obtain ⟨T, x, t1, t2, t3, t4⟩ := y
  exact ⟨T, .int (i : Nat), x, t1, t2, t3, rfl, t4 xs q⟩
end OTR
set_option Elab.async false
set_option linter.all false
set_option maxRecDepth 100000
set_option maxHeartbeats 1000000
namespace OTR
open PySem PySem.Spec PyProof.Rows L2
/-- of an error of the class at C, with these fields: whatever ws dict's place -/
def Raised (C : Addr) (fs : List (Str × V)) (H : Hp) (E : XK) : Prop := ∀ (d : Addr) (H' : Hp), (∀ b o, H b = some o → H' b = some o) → H d = none → H' d = some (.xd fs) → E (.ref C) (some d) H'
theorem Raised.mono {C : Addr} {fs : List (Str × V)} {H H1 : Hp} {E : XK} (h : Raised C fs H E) (s : ∀ b o, H b = some o → H1 b = some o) : Raised C fs H1 E := fun d H' s' n e => h d H' (fun b o z => s' b o (s b o z)) (by
  cases q : H d with
  | none => rfl
  | some o =>
    rw [s d o q] at n
    cases n) e
/-- an error class with an __init__ of ws own -/
structure ErT (K : PySem.W.Frag) (mg : Str → Option Value) (nm : Str) (C fI : Addr) : Prop where
  gC : mg nm = some (.ref C)
  ox : OexC K C
  xf : XfC K C
  ex : ExcC K C
  iC : PySem.W.findIn K (.ref C) "__init__" = some (some (.ref fI))
  tI : PySem.W.typeIn K (.ref fI) = some (.type "function")
/-- __init__(self, f): self.f = f -/
def spEr1 (C : Addr) (f : Str) : Sp := fun vs H Qr _ => ∃ (a : Addr) (v : V), vs = [.ref a, v] ∧ H a = some (exo a C none) ∧ ∀ dx, H dx = none → dx ≠ a → Qr .non (upd (upd H dx (exd dx [(f, v)])) a (exo a C (some dx)))
/-- __init__(self, f, g): self.f = f; self.g = g -/
def spEr2 (C : Addr) (f g : Str) : Sp := fun vs H Qr _ => ∃ (a : Addr) (v y : V), vs = [.ref a, v, y] ∧ H a = some (exo a C none) ∧ ∀ dx, H dx = none → dx ≠ a → Qr .non (upd (upd (upd H dx (exd dx [(f, v)])) a (exo a C (some dx))) dx (exd dx [(g, y), (f, v)]))
def kEr (C : Addr) (a : Addr) (H : Hp) (Qr : XK) : VK := fun v H2 => v = .non ∧ ∃ (d : Addr) (fs : List (Str × V)), H2 a = some (exo a C (some d)) ∧ H2 d = some (exd d fs) ∧ H d = none ∧ Qr (.ref C) (some d) (upd (del H2 a) d (.xd fs))
theorem er1 {C a : Addr} {f : Str} {v : V} {H : Hp} {E : XK} (h : H a = none) (k : Raised C [(f, v)] H E) : spEr1 C f [.ref a, v] (upd H a (exo a C none)) (kEr C a H E) (fun _ _ _ => False) := by
  refine ⟨a, v, rfl, upd_same, fun dx n ne => ⟨rfl, dx, [(f, v)], upd_same, by rw [upd_ne ne]; exact upd_same, by rw [upd_ne ne] at n; exact n, ?_⟩⟩
  rw [upd_ne ne] at n
  refine k dx _ (fun b o e => ?_) n upd_same
  have t1 : b ≠ dx := ne_of_none e n
  have t2 : b ≠ a := ne_of_none e h
  rw [upd_ne t1, del_ne t2, upd_ne t2, upd_ne t1, upd_ne t2]
  exact e
theorem er2 {C a : Addr} {f g : Str} {v y : V} {H : Hp} {E : XK} (h : H a = none) (k : Raised C [(g, y), (f, v)] H E) : spEr2 C f g [.ref a, v, y] (upd H a (exo a C none)) (kEr C a H E) (fun _ _ _ => False) := by
  refine ⟨a, v, y, rfl, upd_same, fun dx n ne => ⟨rfl, dx, [(g, y), (f, v)], by rw [upd_ne (Ne.symm ne)]; exact upd_same, upd_same, by rw [upd_ne ne] at n; exact n, ?_⟩⟩
  rw [upd_ne ne] at n
  refine k dx _ (fun b o e => ?_) n upd_same
  have t1 : b ≠ dx := ne_of_none e n
  have t2 : b ≠ a := ne_of_none e h
  rw [upd_ne t1, del_ne t2, upd_ne t1, upd_ne t2, upd_ne t1, upd_ne t2]
  exact e
section
variable {P : Program} {w : World} {K : PySem.W.Frag} {mg : Str → Option Value} {bas : Heap}
theorem lk0 {f : Str} {v : V} {r : List (Str × V)} : ((f, v) :: r).lookup f = some v := by rw [lookup_put, if_pos rfl]
theorem lk1 {f g : Str} {v : V} {r : List (Str × V)} (h : f ≠ g) : ((g, v) :: r).lookup f = r.lookup f := by rw [lookup_put, if_neg h]
end
end OTR
namespace OT
/-- a road: its ends and its length -/
abbrev Fact := Int × Int × Int
/-- the road r joins x and y -/
def Jn (r : Fact) (x y : Int) : Prop := (r.1 = x ∧ r.2.1 = y) ∨ (r.1 = y ∧ r.2.1 = x)
theorem Jn.symm {r : Fact} {x y : Int} (h : Jn r x y) : Jn r y x := Or.symm h
/-- x and y are joined by roads of F -/
inductive Con (F : List Fact) : Int → Int → Prop
  | refl (x : Int) : Con F x x
  | step {x y z : Int} {r : Fact} (h : Con F x y) (m : r ∈ F) (j : Jn r y z) : Con F x z
theorem Con.one {F : List Fact} {x y : Int} {r : Fact} (m : r ∈ F) (j : Jn r x y) : Con F x y := .step (.refl x) m j
theorem Con.trans {F : List Fact} {x y z : Int} (h : Con F x y) (k : Con F y z) : Con F x z := by
  induction k with
  | refl => exact h
  | step _ m j ih => exact .step ih m j
theorem Con.symm {F : List Fact} {x y : Int} (h : Con F x y) : Con F y x := by
  induction h with
  | refl => exact .refl _
  | step _ m j ih => exact (Con.one m j.symm).trans ih
theorem Con.mono {F G : List Fact} (s : ∀ r ∈ F, r ∈ G) {x y : Int} (h : Con F x y) : Con G x y := by
  induction h with
  | refl => exact .refl _
  | step _ m j ih => exact .step ih (s _ m) j
theorem Con.nil {x y : Int} (h : Con [] x y) : x = y := by
  cases h with
  | refl => rfl
  | step _ m _ => cases m
theorem con_snoc {F : List Fact} {r : Fact} {x y : Int} : Con (F ++ [r]) x y ↔ Con F x y ∨ (Con F x r.1 ∧ Con F r.2.1 y) ∨ (Con F x r.2.1 ∧ Con F r.1 y) := by
  constructor
  · intro h
    induction h with
    | refl => exact .inl (.refl _)
    | @step y z q _ m j ih =>
      rcases List.mem_append.mp m with m | m
      · rcases ih with h | ⟨h, k⟩ | ⟨h, k⟩
        · exact .inl (.step h m j)
        · exact .inr (.inl ⟨h, .step k m j⟩)
        · exact .inr (.inr ⟨h, .step k m j⟩)
      · obtain rfl := List.mem_singleton.mp m
        rcases j with ⟨rfl, rfl⟩ | ⟨rfl, rfl⟩
        · rcases ih with h | ⟨h, k⟩ | ⟨h, k⟩
          · exact .inr (.inl ⟨h, .refl _⟩)
          · exact .inr (.inl ⟨h, .refl _⟩)
          · exact .inl h
        · rcases ih with h | ⟨h, k⟩ | ⟨h, k⟩
          · exact .inr (.inr ⟨h, .refl _⟩)
          · exact .inl h
          · exact .inr (.inr ⟨h, .refl _⟩)
  · have s : ∀ q ∈ F, q ∈ F ++ [r] := fun q h => List.mem_append_left _ h
    have m : r ∈ F ++ [r] := List.mem_append_right _ (List.mem_singleton.mpr rfl)
    rintro (h | ⟨h, k⟩ | ⟨h, k⟩)
    · exact h.mono s
    · exact ((h.mono s).trans (.one m (.inl ⟨rfl, rfl⟩))).trans (k.mono s)
    · exact ((h.mono s).trans (.one m (.inr ⟨rfl, rfl⟩))).trans (k.mono s)
/-- the way from x to y over the roads with these numbers -/
inductive Way (F : List Fact) : Int → List Nat → Int → Prop
  | nil (x : Int) : Way F x [] x
  | cons {x y z : Int} {k : Nat} {r : Fact} {l : List Nat} (e : F[k]? = some r) (j : Jn r x y) (w : Way F y l z) : Way F x (k :: l) z
theorem Way.append {F : List Fact} {x y z : Int} {l m : List Nat} (h : Way F x l y) (k : Way F y m z) : Way F x (l ++ m) z := by
  induction h with
  | nil => exact k
  | cons e j _ ih => exact .cons e j (ih k)
theorem Way.rev {F : List Fact} {x y : Int} {l : List Nat} (h : Way F x l y) : Way F y l.reverse x := by
  induction h with
  | nil => exact .nil _
  | cons e j _ ih =>
    rw [List.reverse_cons]
    exact ih.append (.cons e j.symm (.nil _))
theorem Way.con {F : List Fact} {x y : Int} {l : List Nat} (h : Way F x l y) : Con F x y := by
  induction h with
  | nil => exact .refl _
  | cons e j _ ih => exact (Con.one (List.mem_of_getElem? e) j).trans ih
theorem Way.mono {F G : List Fact} {x y : Int} {l : List Nat} (h : Way F x l y) : Way (F ++ G) x l y := by
  induction h with
  | nil => exact .nil _
  | cons e j _ ih => exact .cons (by rw [List.getElem?_append_left (List.getElem?_eq_some_iff.mp e).1]; exact e) j ih
theorem Way.mem {F : List Fact} {x y : Int} {l : List Nat} (h : Way F x l y) : ∀ k ∈ l, ∃ r, F[k]? = some r ∧ Con F x r.1 := by
  induction h with
  | nil => intro k h; cases h
  | @cons x y z k r l e j w ih =>
    intro q hq
    rcases List.mem_cons.mp hq with rfl | hq
    · refine ⟨r, e, ?_⟩
      rcases j with ⟨rfl, rfl⟩ | ⟨rfl, rfl⟩
      · exact .refl _
      · exact Con.one (List.mem_of_getElem? e) (.inr ⟨rfl, rfl⟩)
    · obtain ⟨r', e', c⟩ := ih q hq
      exact ⟨r', e', (Con.one (List.mem_of_getElem? e) j).trans c⟩
theorem Way.lt {F : List Fact} {x y : Int} {l : List Nat} (h : Way F x l y) {k : Nat} (m : k ∈ l) : k < F.length := by
  obtain ⟨r, e, _⟩ := h.mem k m
  exact (List.getElem?_eq_some_iff.mp e).1
/-- a way over the new road -/
theorem way_over {F : List Fact} {r : Fact} {x y : Int} {l m : List Nat} (h : Way F x l r.1) (k : Way F r.2.1 m y) : Way (F ++ [r]) x (l ++ F.length :: m) y :=
  h.mono.append (.cons (by rw [List.getElem?_append_right (Nat.le_refl _)]; simp) (.inl ⟨rfl, rfl⟩) k.mono)
theorem way_nodup {F : List Fact} {r : Fact} {x y : Int} {l m : List Nat} (no : ¬ Con F r.1 r.2.1) (h : Way F x l r.1) (k : Way F r.2.1 m y) (hl : l.Nodup) (hm : m.Nodup) : (l ++ F.length :: m).Nodup := by
  rw [List.nodup_append]
  refine ⟨hl, List.nodup_cons.mpr ⟨fun z => Nat.lt_irrefl _ (k.lt z), hm⟩, ?_⟩
  intro a ha b hb e
  subst e
  rcases List.mem_cons.mp hb with rfl | hb
  · exact Nat.lt_irrefl _ (h.lt ha)
  · obtain ⟨q, e1, c1⟩ := h.rev.mem a (List.mem_reverse.mpr ha)
    obtain ⟨q', e2, c2⟩ := k.mem a hb
    rw [e1] at e2
    cases e2
    exact no (c1.trans c2.symm)
theorem nodup_le : ∀ (n : Nat) (l : List Nat), l.Nodup → (∀ k ∈ l, k < n) → l.length ≤ n
  | 0, l, _, h => by
    cases l with
    | nil => exact Nat.le_refl _
    | cons a l => exact absurd (h a (List.mem_cons_self ..)) (Nat.not_lt_zero _)
  | n + 1, l, hn, h => by
    have q := nodup_le n (l.erase n) (hn.erase n) fun k hk => by
      have h1 := h k (List.mem_of_mem_erase hk)
      have h2 : k ≠ n := fun z => by
        rw [z] at hk
        exact (List.Nodup.not_mem_erase hn) hk
      omega
    by_cases m : n ∈ l
    · have := List.length_erase_of_mem m
      omega
    · rw [List.erase_of_not_mem m] at q
      omega
theorem Way.short {F : List Fact} {x y : Int} {l : List Nat} (h : Way F x l y) (n : l.Nodup) : l.length ≤ F.length := nodup_le _ l n fun _ m => h.lt m
/-- the crossings are 0 to n - 1 -/
def In (n x : Int) : Prop := 0 ≤ x ∧ x < n
instance (n x : Int) : Decidable (In n x) := inferInstanceAs (Decidable (0 ≤ x ∧ x < n))
/-- what a tree's maker finds -/
inductive Err
  | crossings (n : Int) | roads (k : Int) | crossing (c : Int) | length (s : Int) | ring (k : Int)
  deriving DecidableEq
open Classical in
noncomputable def dueR (n : Int) : List Fact → List Fact → Option Err
  | _, [] => none
  | done, r :: rest => if ¬ In n r.1 then some (.crossing r.1) else if ¬ In n r.2.1 then some (.crossing r.2.1) else if ¬ (1 ≤ r.2.2 ∧ r.2.2 ≤ 1000000000) then some (.length r.2.2)
      else if Con done r.1 r.2.1 then some (.ring done.length) else dueR n (done ++ [r]) rest
noncomputable def due (n : Int) (F : List Fact) : Option Err :=
  if ¬ (2 ≤ n ∧ n ≤ 24) then some (.crossings n) else if (F.length : Int) ≠ n - 1 then some (.roads F.length) else dueR n [] F
theorem dueR_nil (n : Int) (done : List Fact) : dueR n done [] = none := by unfold dueR; rfl
theorem dueR_a {n : Int} {done rest : List Fact} {r : Fact} (h : ¬ In n r.1) : dueR n done (r :: rest) = some (.crossing r.1) := by
  rw [dueR, if_pos h]
theorem dueR_b {n : Int} {done rest : List Fact} {r : Fact} (h : In n r.1) (h2 : ¬ In n r.2.1) : dueR n done (r :: rest) = some (.crossing r.2.1) := by
  rw [dueR, if_neg (fun z => z h), if_pos h2]
theorem dueR_l {n : Int} {done rest : List Fact} {r : Fact} (h : In n r.1) (h2 : In n r.2.1) (h3 : ¬ (1 ≤ r.2.2 ∧ r.2.2 ≤ 1000000000)) : dueR n done (r :: rest) = some (.length r.2.2) := by
  rw [dueR, if_neg (fun z => z h), if_neg (fun z => z h2), if_pos h3]
theorem dueR_ring {n : Int} {done rest : List Fact} {r : Fact} (h : In n r.1) (h2 : In n r.2.1) (h3 : 1 ≤ r.2.2 ∧ r.2.2 ≤ 1000000000) (h4 : Con done r.1 r.2.1) : dueR n done (r :: rest) = some (.ring done.length) := by
  rw [dueR, if_neg (fun z => z h), if_neg (fun z => z h2), if_neg (fun z => z h3), if_pos h4]
theorem dueR_go {n : Int} {done rest : List Fact} {r : Fact} (h : In n r.1) (h2 : In n r.2.1) (h3 : 1 ≤ r.2.2 ∧ r.2.2 ≤ 1000000000) (h4 : ¬ Con done r.1 r.2.1) : dueR n done (r :: rest) = dueR n (done ++ [r]) rest := by
  rw [dueR, if_neg (fun z => z h), if_neg (fun z => z h2), if_neg (fun z => z h3), if_neg h4]
end OT
set_option Elab.async false
set_option linter.all false
set_option maxRecDepth 100000
set_option maxHeartbeats 1000000
namespace OT
open PySem L2 OTR
abbrev sBad : Stmt := inClass (top 3) 0
abbrev sNoC : Stmt := inClass (top 4) 0
abbrev sRing : Stmt := inClass (top 5) 0
abbrev sRoadI : Stmt := inClass (top 15) 0
abbrev sTreeI : Stmt := inClass (top 16) 0
abbrev sTrails : Stmt := top 17
abbrev sCheck : Stmt := top 18
abbrev sJoin : Stmt := top 19
theorem len1 {v : V} : [v].length ≤ 1000 := by show 1 ≤ 1000; decide
theorem len2 {v y : V} : [v, y].length ≤ 1000 := by show 2 ≤ 1000; decide
/-- what the walk asks of Road -/
structure RdT (K : PySem.W.Frag) (mg : Str → Option Value) (C : Addr) : Prop where
  cl : Cls K C
  nA : NoAttr K C "a"
  nB : NoAttr K C "b"
  nL : NoAttr K C "length"
  mgC : mg "Road" = some (.ref C)
def rdF (r : Fact) : List (Str × V) := [("a", .int r.1), ("b", .int r.2.1), ("length", .int r.2.2)]
theorem rdF_a (r : Fact) : (rdF r).lookup ("a" : Str) = some (.int r.1) := lk0
theorem rdF_b (r : Fact) : (rdF r).lookup ("b" : Str) = some (.int r.2.1) := by
  unfold rdF
  rw [lk1 (by decide +kernel)]
  exact lk0
theorem rdF_l (r : Fact) : (rdF r).lookup ("length" : Str) = some (.int r.2.2) := by
  unfold rdF
  rw [lk1 (by decide +kernel), lk1 (by decide +kernel)]
  exact lk0
theorem rdF_put (r : Fact) : putF "length" (.int r.2.2) (putF "b" (.int r.2.1) (putF "a" (.int r.1) [])) = rdF r := by
  have h1 : ¬ (("a" : Str) = "b") := by decide +kernel
  have h2 : ¬ (("a" : Str) = "length") := by decide +kernel
  have h3 : ¬ (("b" : Str) = "length") := by decide +kernel
  show putF "length" (.int r.2.2) (if ("a" : Str) = "b" then [(("a" : Str), V.int r.2.1)] else (("a" : Str), V.int r.1) :: putF "b" (.int r.2.1) []) = rdF r
  rw [if_neg h1]
  show (if ("a" : Str) = "length" then _ else (("a" : Str), V.int r.1) :: (if ("b" : Str) = "length" then _ else (("b" : Str), V.int r.2.1) :: putF "length" (.int r.2.2) [])) = rdF r
  rw [if_neg h2, if_neg h3]
  rfl
/-- a road at p -/
def RoadAt (CR : Addr) (H : Hp) (p : Addr) (r : Fact) : Prop := ∃ dx, H p = some (.ins CR dx (rdF r))
theorem RoadAt.same {CR : Addr} {H H' : Hp} {p : Addr} {r : Fact} (h : RoadAt CR H p r) (s : Same H H') : RoadAt CR H' p r := let ⟨dx, e⟩ := h; ⟨dx, s _ _ e⟩
/-- Road(a, b, length): its __init__ -/
def spRoadI (C : Addr) : Sp := fun vs H Q _ => ∃ (p dx : Addr) (r : Fact), vs = [.ref p, .int r.1, .int r.2.1, .int r.2.2] ∧ H p = some (.ins C dx []) ∧ ∀ H', RoadAt C H' p r → (∀ b o, H b = some o → b ≠ p → H' b = some o) → Q .non H'
/-- check_road -/
def LenOk (s : Int) : Prop := 1 ≤ s ∧ s ≤ 1000000000
def spCheck (CR CB CN : Addr) : Sp := fun vs H Q E => ∃ (n : Int) (p : Addr) (r : Fact), vs = [.int n, .ref p] ∧ RoadAt CR H p r ∧
  (¬ In n r.1 → Raised CN [("crossing", .int r.1)] H E) ∧ (In n r.1 → ¬ In n r.2.1 → Raised CN [("crossing", .int r.2.1)] H E) ∧
  (In n r.1 → In n r.2.1 → ¬ LenOk r.2.2 → Raised CB [("count", .int r.2.2), ("what", .str "length")] H E) ∧
  (In n r.1 → In n r.2.1 → LenOk r.2.2 → ∀ H', Same H H' → Q .non H')
section
variable {P : Program} {w : World} {K : PySem.W.Frag} {mg : Str → Option Value} {base : Heap}
theorem scBad : FnScope ["self", "what", "count"] ["self", "what", "count"] (defScope sBad) := ⟨rfl, rfl, rfl, by decide +kernel, rfl, by decide +kernel, by decide +kernel⟩
theorem ok_bad {f C : Addr} {fd : FuncData} (F : Fun K "__init__" "BadCount.__init__" sBad f fd) (T : OexC K C) (n1 : PySem.W.findIn K (.ref C) "what" = some none) (n2 : PySem.W.findIn K (.ref C) "count" = some none) : FnOk P w K mg base CX0 1 f fd ["self", "what", "count"] (spEr2 C "what" "count") := by
  refine F.ok scBad (fun vs H Q E h => ?_) (fun cdv A outer s H vs Q E hr h => ?_)
  · obtain ⟨a, v, y, rfl, _⟩ := h
    rfl
  · obtain ⟨a, v, y, rfl, ha, k⟩ := h
    refine ⟨_, pss_cons (ps_ost (pv 0) (pv 1)) (pss_one (ps_ost (pv 0) (pv 2))), ?_⟩
    refine ⟨_, rfl, _, rfl, a, C, rfl, T, n1, .inl ⟨ha, fun dx n ne => ?_⟩⟩
    refine ⟨_, rfl, _, rfl, a, C, rfl, T, n2, .inr ⟨dx, _, upd_same, by rw [upd_ne ne]; exact upd_same, (by show 1 ≤ 900; decide), ?_⟩⟩
    exact k dx n ne
theorem scNoC : FnScope ["self", "crossing"] ["self", "crossing"] (defScope sNoC) := ⟨rfl, rfl, rfl, by decide +kernel, rfl, by decide +kernel, by decide +kernel⟩
theorem ok_noc {f C : Addr} {fd : FuncData} (F : Fun K "__init__" "NoCrossing.__init__" sNoC f fd) (T : OexC K C) (n1 : PySem.W.findIn K (.ref C) "crossing" = some none) : FnOk P w K mg base CX0 1 f fd ["self", "crossing"] (spEr1 C "crossing") := by
  refine F.ok scNoC (fun vs H Q E h => ?_) (fun cdv A outer s H vs Q E hr h => ?_)
  · obtain ⟨a, v, rfl, _⟩ := h
    rfl
  · obtain ⟨a, v, rfl, ha, k⟩ := h
    refine ⟨_, pss_one (ps_ost (pv 0) (pv 1)), ?_⟩
    exact ⟨_, rfl, _, rfl, a, C, rfl, T, n1, .inl ⟨ha, fun dx n ne => k dx n ne⟩⟩
theorem scRing : FnScope ["self", "road"] ["self", "road"] (defScope sRing) := ⟨rfl, rfl, rfl, by decide +kernel, rfl, by decide +kernel, by decide +kernel⟩
theorem ok_ringI {f C : Addr} {fd : FuncData} (F : Fun K "__init__" "RingRoad.__init__" sRing f fd) (T : OexC K C) (n1 : PySem.W.findIn K (.ref C) "road" = some none) : FnOk P w K mg base CX0 1 f fd ["self", "road"] (spEr1 C "road") := by
  refine F.ok scRing (fun vs H Q E h => ?_) (fun cdv A outer s H vs Q E hr h => ?_)
  · obtain ⟨a, v, rfl, _⟩ := h
    rfl
  · obtain ⟨a, v, rfl, ha, k⟩ := h
    refine ⟨_, pss_one (ps_ost (pv 0) (pv 1)), ?_⟩
    exact ⟨_, rfl, _, rfl, a, C, rfl, T, n1, .inl ⟨ha, fun dx n ne => k dx n ne⟩⟩
theorem scRoadI : FnScope ["self", "a", "b", "length"] ["self", "a", "b", "length"] (defScope sRoadI) := ⟨rfl, rfl, rfl, by decide +kernel, rfl, by decide +kernel, by decide +kernel⟩
theorem ok_roadI {f C : Addr} {fd : FuncData} (F : Fun K "__init__" "Road.__init__" sRoadI f fd) (T : RdT K mg C) : FnOk P w K mg base CX0 1 f fd ["self", "a", "b", "length"] (spRoadI C) := by
  refine F.ok scRoadI (fun vs H Q E h => ?_) (fun cdv A outer s H vs Q E hr h => ?_)
  · obtain ⟨p, dx, r, rfl, _⟩ := h
    rfl
  · obtain ⟨p, dx, r, rfl, hp, k⟩ := h
    refine ⟨_, pss_cons (ps_fld (pv 0) (pv 1) rfl) (pss_cons (ps_fld (pv 0) (pv 2) rfl) (pss_one (ps_fld (pv 0) (pv 3) rfl))), ?_⟩
    refine ⟨_, rfl, _, rfl, p, C, dx, [], rfl, hp, T.cl, T.nA, (by show 0 < 1000; decide), ?_⟩
    refine ⟨_, rfl, _, rfl, p, C, dx, _, rfl, upd_same, T.cl, T.nB, (by show 1 < 1000; decide), ?_⟩
    refine ⟨_, rfl, _, rfl, p, C, dx, putF "b" (.int r.2.1) (putF "a" (.int r.1) []), rfl, upd_same, T.cl, T.nL, ?_, ?_⟩
    · have h1 : ¬ (("a" : Str) = "b") := by decide +kernel
      show (if ("a" : Str) = "b" then [(("a" : Str), V.int r.2.1)] else (("a" : Str), V.int r.1) :: putF "b" (.int r.2.1) []).length < 1000
      rw [if_neg h1]
      show 2 < 1000
      decide
    · refine k _ ⟨dx, ?_⟩ fun b o e n => ?_
      · rw [rdF_put]
        exact upd_same
      · rw [upd_ne n, upd_ne n, upd_ne n]
        exact e
theorem scCheck : FnScope ["crossings", "road", "crossing"] ["crossings", "road"] (defScope sCheck) := ⟨rfl, rfl, rfl, by decide +kernel, rfl, by decide +kernel, by decide +kernel⟩
theorem ok_check {f CR CB CN fB fN : Addr} {fd fdB fdN : FuncData} (F : Fun K "check_road" "check_road" sCheck f fd) (TR : RdT K mg CR) (TB : ErT K mg "BadCount" CB fB) (TN : ErT K mg "NoCrossing" CN fN)
    (FB : FnOk P w K mg base CX0 1 fB fdB ["self", "what", "count"] (spEr2 CB "what" "count")) (bB : Binds K fdB ["self", "what", "count"] [])
    (FN : FnOk P w K mg base CX0 1 fN fdN ["self", "crossing"] (spEr1 CN "crossing")) (bN : Binds K fdN ["self", "crossing"] []) (hL : ∃ t, mg "LONGEST_ROAD" = some (.int 1000000000 t)) :
    FnOk P w K mg base (L2.CX P w) 3 f fd ["crossings", "road"] (spCheck CR CB CN) := by
  refine F.okX scCheck (fun vs H Q E h => ?_) (fun cdv A outer s H vs Q E hr h => ?_)
  · obtain ⟨n, p, r, rfl, _⟩ := h
    rfl
  · obtain ⟨n, p, r, rfl, hR, k1, k2, k3, k4⟩ := h
    obtain ⟨tL, hL⟩ := hL
    refine ⟨_, pss_cons (ps_for (passes_of rfl) rfl (pi_tup (pe_tup (pa_cons (pe_fld (pv 1) rfl) (pa_cons (pe_fld (pv 1) rfl) pa_nil)))) (pg_name (i := 2) scCheck.nd rfl (Or.inl rfl))
        (pss_one (ps_if (pt_not (pt_chain op_le op_lt pe_int (pv 2) (pv 0))) (pss_one (ps_raise rfl (takes_of rfl rfl rfl rfl) (pmk_oex TN.ox TN.iC TN.tI FN hr bN .nil pass0 (by rfl) TN.gC (pa_cons (pv 2) pa_nil)))) pss_nil)))
      (pss_one (ps_if (pt_not (pt_chain op_le op_le pe_int (pe_fld (pv 1) rfl) (pe_glob (v := V.int 1000000000) rfl hL ⟨tL, rfl⟩)))
        (pss_one (ps_raise rfl (takes_of rfl rfl rfl rfl) (pmk_oex TB.ox TB.iC TB.tI FB hr bB .nil pass0 (by rfl) TB.gC (pa_cons pe_str (pa_cons (pe_fld (pv 1) rfl) pa_nil))))) pss_nil)), ?_⟩
    obtain ⟨dx, hp⟩ := id hR
    refine ⟨_, rfl, p, CR, dx, _, _, rfl, hp, TR.cl, TR.nA, rdF_a r, _, rfl, p, CR, dx, _, _, rfl, hp, TR.cl, TR.nB, rdF_b r, (by show 2 ≤ sizeLine; decide), fun t ht => ?_⟩
    refine ⟨t, rfl, ⟨_, SqT.of upd_same⟩, for_tup (K := K) (a := t) (xs := [V.int r.1, V.int r.2.1]) (fun i σ H2 => ∃ v : Option V, σ = [some (.int n), some (.ref p), v] ∧ Same (upd H t (.tup [V.int r.1, V.int r.2.1])) H2 ∧ (1 ≤ i → In n r.1) ∧ (2 ≤ i → In n r.2.1))
      ⟨none, rfl, Same.refl _, fun z => absurd z (by decide), fun z => absurd z (by decide)⟩ (fun i σ H2 _ ⟨_, _, s2, _⟩ => SqT.of (s2 _ _ upd_same)) ?_ ?_⟩
    · rintro i y σ H2 hi ⟨v, rfl, s2, i1, i2⟩
      have s1 : Same H H2 := (Same.new ht).trans s2
      have hil : i < 2 := (List.getElem?_eq_some_iff.mp hi).1
      have hc : i = 0 ∨ i = 1 := by omega
      rcases hc with rfl | rfl
      · cases hi
        refine ⟨_, rfl, _, _, rfl, rfl, _, rfl, ?_⟩
        by_cases h0 : 0 ≤ r.1
        · rw [decide_eq_true h0]
          refine iteT ⟨_, rfl, _, _, rfl, rfl, _, rfl, ?_⟩
          by_cases h1 : r.1 < n
          · rw [decide_eq_true h1]
            exact iteF ⟨_, rfl, s2, fun _ => ⟨h0, h1⟩, fun z => absurd z (by decide)⟩
          · rw [decide_eq_false h1]
            refine iteT ⟨_, rfl, len1, fun a ha => er1 ha ((k1 fun z => h1 z.2).mono s1)⟩
        · rw [decide_eq_false h0]
          refine iteF ⟨_, rfl, ?_⟩
          exact iteT ⟨_, rfl, len1, fun a ha => er1 ha ((k1 fun z => h0 z.1).mono s1)⟩
      · cases hi
        have in1 := i1 (Nat.le_refl _)
        refine ⟨_, rfl, _, _, rfl, rfl, _, rfl, ?_⟩
        by_cases h0 : 0 ≤ r.2.1
        · rw [decide_eq_true h0]
          refine iteT ⟨_, rfl, _, _, rfl, rfl, _, rfl, ?_⟩
          by_cases h1 : r.2.1 < n
          · rw [decide_eq_true h1]
            exact iteF ⟨_, rfl, s2, fun _ => in1, fun _ => ⟨h0, h1⟩⟩
          · rw [decide_eq_false h1]
            refine iteT ⟨_, rfl, len1, fun a ha => er1 ha ((k2 in1 fun z => h1 z.2).mono s1)⟩
        · rw [decide_eq_false h0]
          refine iteF ⟨_, rfl, ?_⟩
          exact iteT ⟨_, rfl, len1, fun a ha => er1 ha ((k2 in1 fun z => h0 z.1).mono s1)⟩
    · rintro σ H2 ⟨v, rfl, s2, i1, i2⟩
      have s1 : Same H H2 := (Same.new ht).trans s2
      have in1 := i1 (by show 1 ≤ 2; decide)
      have in2 := i2 (by show 2 ≤ 2; decide)
      have hp2 := s1 _ _ hp
      refine ⟨_, rfl, p, CR, dx, _, _, rfl, hp2, TR.cl, TR.nL, rdF_l r, _, _, rfl, rfl, _, rfl, ?_⟩
      by_cases h0 : 1 ≤ r.2.2
      · rw [decide_eq_true h0]
        refine iteT ⟨_, _, rfl, rfl, _, rfl, ?_⟩
        by_cases h1 : r.2.2 ≤ 1000000000
        · rw [decide_eq_true h1]
          exact iteF (k4 in1 in2 ⟨h0, h1⟩ _ s1)
        · rw [decide_eq_false h1]
          exact iteT ⟨_, rfl, p, CR, dx, _, _, rfl, hp2, TR.cl, TR.nL, rdF_l r, len2, fun a ha => er2 ha ((k3 in1 in2 fun z => h1 z.2).mono s1)⟩
      · rw [decide_eq_false h0]
        refine iteF ⟨_, rfl, ?_⟩
        exact iteT ⟨_, rfl, p, CR, dx, _, _, rfl, hp2, TR.cl, TR.nL, rdF_l r, len2, fun a ha => er2 ha ((k3 in1 in2 fun z => h0 z.1).mono s1)⟩
end
end OT
set_option Elab.async false
set_option linter.all false
set_option maxRecDepth 100000
set_option maxHeartbeats 4000000
namespace OTR
open PySem PySem.Spec PyProof.Rows L2
theorem d_dictSetT {X : Cx} {pins : List (Addr × Obj)} {σ : L2.St} {H : Hp} {s : Shared} {E : Value → Shared → Prop} {D b : Addr} {ent : List (List Key × V)} {key : List Key} {v : V} {u r : Value} {Q : Unit → Shared → Prop} (hu : X.A.units + 1 < cLine) (Iv : Inv X pins σ H s) (atD : H D = some (.dT ent)) (eb : H b = some (.tup (key.map kV))) (hz : ent.length < sizeLine)
    (rky : RelV (.ref b) u) (rv : RelV v r) (h : ∀ s', Inv X pins σ (upd H D (.dT (putK ent key v))) s' → Q () s') : wpAny (model X.prog X.w) X.A (dictSet D u r) Q E s := by
  cases (show u = Value.ref b from rky)
  obtain ⟨zz, fin, xs, rel, dd⟩ := dt_of Iv.hok atD
  have hzv : xs.length ≤ sizeLine := by rw [← Paired.length rel]; exact zz
  have len1 : (putK ent key v).length ≤ sizeLine := by have := length_putK ent key v; omega
  refine wpAny_dictSet_heap (hsz := hzv) (Nat.lt_of_succ_lt hu) (key_of Iv.hok eb) dd fun h' dd' hs => h _ ?_
  obtain ⟨q, slots, prm, hq, t2, t3, t4, _, t5⟩ := dd'
  refine d_write Iv (by rw [atD]; exact True.intro) hs ⟨q, hq⟩ ⟨len1, fin, _, (rel.put key eb rv).keeps fun c ys ec => ?_, q, slots, prm, hq, t2, t3, t4, t5⟩
  rw [upd_ne (ne_of ec atD (fun zz => nomatch zz))]
  exact ec
section
variable {X : Cx}
def tDcT (wi : TI) (g : TG) (tt : TT) (tk tv : TE) (vs : List Nat) : TE := fun σ H Q => wi σ H fun J H1 => ∀ D, H1 D = none → ∃ W : Nat → Nat → Hp → Prop, (∃ mm, W 0 mm (upd H1 D (.dT []))) ∧ ∀ i mm H, W i mm H →
  (J.stop i H ∧ Q (.ref D) H) ∨ (J.go i H ∧ ∃ Nxt : Hp → Prop, (∀ H', Nxt H' → ∃ m', m' < mm ∧ W (i + 1) m' H') ∧ ∀ x H', J.yld i H x H' → g x (wipe σ vs) H' fun σ2 Hb => wipe σ2 vs = wipe σ vs ∧ tt σ2 Hb fun b Hc =>
    if b = true then tk σ2 Hc fun y Hk => tv σ2 Hk fun zz Hv => ∃ ent key b, y = .ref b ∧ Hv b = some (.tup (key.map kV)) ∧ Hv D = some (.dT ent) ∧ ent.length < sizeLine ∧ Nxt (upd Hv D (.dT (putK ent key zz))) else Nxt Hc)
theorem dcT_core {pin0 : List (Addr × Obj)} {s : Shared} {σ : L2.St} {H : Hp} {Q : VK} {kx vx tg iter : Expr} {ifs : List Expr} {scope : Scope} {own : List (Str × Nat)} {pos pos2 : Pos} {wi : TI} {g : TG} {tt : TT} {tk tv : TE} {aft : Option (Value → Sem Unit)} {Qq : Value → Shared → Prop}
    (hu : X.A.units + 1 < cLine) (hc : X.calm = true) (nodN : X.N.Nodup) (Iv : Inv X pin0 σ H s) (walk : PI X tg iter wi) (ok : BlkOk X.N X.env.scope scope own)
    (rdG : ∀ (s : Shared) (H : Hp) (Cn : Addr) (clo : List (Str × Addr)) (foot : List Addr), PG (X.blk s H scope (compEnvC scope clo Cn X.env) foot) tg g) (rdT : ∀ (s : Shared) (H : Hp) (Cn : Addr) (clo : List (Str × Addr)) (foot : List Addr), PTs (X.blk s H scope (compEnvC scope clo Cn X.env) foot) ifs tt)
    (rdK : ∀ (s : Shared) (H : Hp) (Cn : Addr) (clo : List (Str × Addr)) (foot : List Addr), PE (X.blk s H scope (compEnvC scope clo Cn X.env) foot) kx tk)
    (rdV : ∀ (s : Shared) (H : Hp) (Cn : Addr) (clo : List (Str × Addr)) (foot : List Addr), PE (X.blk s H scope (compEnvC scope clo Cn X.env) foot) vx tv) (hs : ∀ xx, foldedSetIterable iter X.env xx = pure xx)
    (h : tDcT wi g tt tk tv (own.map (·.2)) σ H Q)
    (goOn : ∀ D Cn s' mm H', Inv X pin0 σ H' s' → Q (.ref D) H' → s'.heap.Ns Cn mm → FpOk X pin0 H' Cn → compPost (model X.prog X.w) X.A X.xe aft Qq (.ref D) Cn (.ok .next) s') :
    wpAny (model X.prog X.w) X.A (comprehension (.DictComp kx vx [⟨tg, iter, ifs, 0⟩] scope pos) scope X.env pos2 newDict false (eval iter X.env) aft) Qq X.xe s := by
  have frees : ∀ y ∈ scope.names, y.2 = .free → ∃ c, X.env.cells.lookup y.1 = some c := fun y hy e => by
    rcases ok.free y hy e with key | key
    · exact Iv.ok.has _ (.inl key)
    · exact Iv.ok.has _ (.inr key)
  refine wpAny_comprehension_free (use := aft) rfl hs (closure_ok frees) ok.kind (fun y hy e => by rw [ok.uniq y hy, e])
    (thn (walk.run pin0 s σ H _ Iv h) fun xvv u1 hxx => thn hxx fun ivv u2 hv2 => ?_)
  obtain ⟨it, foot, tn, W1, U2, e, K2, T, at_2, off_2, q⟩ := hv2
  subst e
  refine wpAny_newObj_type (newEnv_comp ?_)
  generalize eD : u2.heap.objs.size = D
  have nD : U2 D = none := K2.hok.fresh (Nat.le_of_eq eD)
  obtain ⟨W, ⟨mv0, wv0⟩, round⟩ := q D nD
  -- the new list
  generalize es0 : ({ u2 with heap := u2.heap.push { cls := .type "dict", data := .dict #[] } } : Shared) = t0
  have J0 : Inv X pin0 σ (upd U2 D (.dT [])) t0 := by
    rw [← es0]
    refine K2.laid (t' := u2.toks) (fun b o e => Heap.get?_push_of_some _ e) (Nat.le_of_eq eD) ?_
    rw [← eD]
    exact dt_empty u2.heap K2.big
  have e0 : t0.heap = u2.heap.push { cls := .type "dict", data := .dict #[] } := by rw [← es0]
  have low0 : ∀ b ∈ foot, b < u2.heap.objs.size := fun b hb => by
    obtain ⟨o, e, _⟩ := T.obj _ _ at_2 b hb
    exact Heap.lt_size e
  have off0 : ∀ b ∈ foot, FpOk X pin0 (upd U2 D (.dT [])) b ∧ b < t0.heap.objs.size := fun b hb => by
    have lt2 := low0 b hb
    refine ⟨⟨?_, (off_2 b hb).2⟩, by rw [e0, Heap.size_push]; exact Nat.lt_succ_of_lt lt2⟩
    rw [upd_ne (by rw [← eD]; exact Nat.ne_of_lt lt2)]
    exact (off_2 b hb).1
  have at0 : tn 0 t0.heap := T.keep _ _ _ at_2 fun b _ o e => by rw [e0]; exact Heap.get?_push_of_some _ e
  have J1 := block_start J0 ok nodN off0
  have rg := rdG t0 (upd U2 D (.dT [])) t0.heap.objs.size (cellsFrom (t0.heap.objs.size + 1) scope.names (cloFrom X.env.cells scope.names [])) foot
  have rt := rdT t0 (upd U2 D (.dT [])) t0.heap.objs.size (cellsFrom (t0.heap.objs.size + 1) scope.names (cloFrom X.env.cells scope.names [])) foot
  have rk := rdK t0 (upd U2 D (.dT [])) t0.heap.objs.size (cellsFrom (t0.heap.objs.size + 1) scope.names (cloFrom X.env.cells scope.names [])) foot
  have rv := rdV t0 (upd U2 D (.dT [])) t0.heap.objs.size (cellsFrom (t0.heap.objs.size + 1) scope.names (cloFrom X.env.cells scope.names [])) foot
  show codeAny _ _ (.compStart (.DictComp kx vx [⟨tg, iter, ifs, 0⟩] scope pos) 0 (.ref it) (.ref D) (compEnvC scope (cellsFrom (t0.heap.objs.size + 1) scope.names (cloFrom X.env.cells scope.names [])) t0.heap.objs.size X.env)) (compPost (model X.prog X.w) X.A X.xe aft Qq (.ref D) t0.heap.objs.size) { t0 with heap := pushCells (t0.heap.push { cls := .type "dict", data := .dict #[] }) scope.names }
  have offs : ∀ b ∈ foot, (upd U2 D (.dT [])) b = none := fun b hb => (off0 b hb).1.1
  generalize ece : compEnvC scope (cellsFrom (t0.heap.objs.size + 1) scope.names (cloFrom X.env.cells scope.names [])) t0.heap.objs.size X.env = cenv at J1 rg rt rk rv ⊢
  have cL : cenv.locals = t0.heap.objs.size := by subst ece; rfl
  generalize hH3 : upd U2 D (.dT []) = G0 at J0 J1 rg rt rk rv wv0 offs off0
  generalize es1 : ({ t0 with heap := pushCells (t0.heap.push { cls := .type "dict", data := .dict #[] }) scope.names } : Shared) = t1 at J1 ⊢
  have at1 : tn 0 t1.heap := T.keep _ _ _ at0 fun b _ o e => by rw [← es1]; exact pushCells_keeps _ _ _ _ (Heap.get?_push_of_some _ e)
  have still : ∀ {σ' : L2.St} {H' : Hp} {s' : Shared}, Inv (X.blk t0 G0 scope cenv foot) [] σ' H' s' → (∀ b ∈ foot, H' b = none) → ∀ b ∈ foot, FpOk (X.blk t0 G0 scope cenv foot) [] H' b := fun {σ' H' s'} Iw hn b hb =>
    ⟨hn b hb, (Iw.ok.exf b hb).1, Iw.ok.exfs b hb, .inl hb, fun xx c e => (Iw.ok.exf b hb).2 xx c e, fun p hp => absurd (show p ∈ ([] : List (Addr × Obj)) ++ [] from hp) (by simp)⟩
  have whole : codeAny (model X.prog X.w) X.A (.compLoop (.DictComp kx vx [⟨tg, iter, ifs, 0⟩] scope pos) 0 (.ref it) (.ref D) cenv) (compPost (model X.prog X.w) X.A X.xe aft Qq (.ref D) t0.heap.objs.size) t1 := by
    refine compLoop_anyD (fun n s' => ∃ i H', Inv (X.blk t0 G0 scope cenv foot) [] (wipe σ (own.map (·.2))) H' s' ∧ tn i s'.heap ∧ (∀ b ∈ foot, H' b = none) ∧ W i n H') ?_ mv0 ⟨0, G0, J1, at1, offs, wv0⟩
    rintro n t2 ⟨i, G2, J2, at2, n5, w5⟩
    rcases round i n G2 w5 with ⟨stop, qd⟩ | ⟨go, Nxt, hNx, step⟩
    · have dn := T.done (X.blk t0 G0 scope cenv foot) rfl rfl rfl hc i [] t2 _ G2 (fun _ _ => False) J2 (still J2 n5) at2 stop
      refine thnF dn fun r t3 ⟨hr, J3⟩ => ?_
      subst hr
      -- back in the def's context
      have J4 : Inv X pin0 σ G2 t3 := J0.call' (ch := foot) J3.os J3.base J3.hok J3.bare fun b hb => ⟨(off0 b hb).1.2.2.2.1, (off0 b hb).1.2.1, (off0 b hb).1.2.2.2.2.1, (off0 b hb).1.2.2.2.2.2⟩
      have nC : G2 t0.heap.objs.size = none := by
        have zz : G2 cenv.locals = none := J3.free
        rw [cL] at zz
        exact zz
      obtain ⟨mm, hn, _⟩ := J3.loc
      have hn : t3.heap.Ns cenv.locals mm := hn
      rw [cL] at hn
      exact goOn D t0.heap.objs.size t3 mm G2 J4 qd hn (J0.fpOk (Nat.le_refl _) nC)
    · have im := T.item (X.blk t0 G0 scope cenv foot) rfl rfl rfl hc i [] t2 _ G2 (fun _ _ => False) J2 (still J2 n5) at2 go
      refine thnF im fun r t3 ⟨u, hr, h6⟩ => ?_
      subst hr
      refine thnF h6 fun _ t4 ⟨xx, G4, J4, r7, y7, at4, n7⟩ => ?_
      have I7' := J4.pinned (still J4 n7) (T.obj _ _ at4)
      refine thnF (rg.run _ t4 _ G4 xx u _ I7' r7 (step xx G4 y7)) fun _ t5 ⟨σ8, G5, J5, eqw, q8⟩ => ?_
      refine thnF (rt.run _ t5 σ8 G5 _ J5 q8) fun b t6 ⟨G6, J6, qb⟩ => ?_
      -- the turn's end
      have ended : ∀ {s' : Shared} {H' : Hp}, Inv (X.blk t0 G0 scope cenv foot) ([] ++ pinsAt foot t4.heap) σ8 H' s' → Nxt H' → ∃ mm, mm < n ∧ ∃ i H', Inv (X.blk t0 G0 scope cenv foot) [] (wipe σ (own.map (·.2))) H' s' ∧ tn i s'.heap ∧ (∀ b ∈ foot, H' b = none) ∧ W i mm H' := fun {s' H'} Iw nx => by
        obtain ⟨m', lt1, wn⟩ := hNx H' nx
        have pin' : ∀ b ∈ foot, ∀ o, t4.heap.get? b = some o → s'.heap.get? b = some o ∧ H' b = none := fun b hb o e =>
          let zz := Iw.pin (b, o) (List.mem_append_right _ (List.mem_append_right _ (mem_pinsAt hb e)))
          ⟨zz.1, zz.2.1⟩
        have len1 : (wipe σ (own.map (·.2))).length = σ8.length := by rw [← eqw, wipe_length]
        refine ⟨m', lt1, i + 1, H', (Iw.unpinned (pins := [])).weak len1 (fun j v e => ?_), T.keep _ _ _ at4 fun b hb o e => (pin' b hb o e).1, fun b hb => ?_, wn⟩
        · rw [← eqw] at e
          exact (wipe_some e).1
        · obtain ⟨o, e, _⟩ := T.obj _ _ at4 b hb
          exact (pin' b hb o e).2
      cases b with
      | false =>
        simp only [Bool.false_eq_true, if_false] at qb ⊢
        exact ended J6 qb
      | true =>
        simp only [if_true] at qb ⊢
        refine thnF (rk.run _ t6 σ8 G6 _ J6 qb) fun zz t7 ⟨yk, G7, J7, r10, q10⟩ => ?_
        refine thnF (rv.run _ t7 σ8 G7 _ J7 q10) fun z2 t8 ⟨yv, G8, J8, r11, ent, key, kb, ek, ekb, hD11, hz11, nx⟩ => ?_
        subst ek
        exact d_dictSetT (X := X.blk t0 G0 scope cenv foot) hu J8 hD11 ekb hz11 r10 r11 fun t9 J9 => ended J9 nx
  exact codeAny_compStart_dict whole (T.self X.A 0 _ _ _ at1 whole)
/-- name = {..} on one line, the name a local -/
theorem swD_true {kx vx : Expr} {gs : List Comprehension} {scope : Scope} {pos pp : Pos} {y : Str} {l : Nat} {env : Env} (h1 : env.scope.kind = .function) (t2 : env.scope.names.lookup y = some .local) (t3 : (pp.line == pos.line) = true)
    (t4 : (scope.names.any fun (n, key) => n == y && (key == .local || key == .cell)) = false) : swapsWith (.DictComp kx vx gs scope pos) (some (.Name y pp)) l env = pure true := by
  have e1 : env.kindOf y = some .local := t2
  have e2 : env.blockKind = .function := by
    unfold Env.blockKind
    rw [h1]
    rfl
  unfold swapsWith
  simp only [e2, e1, t4, Expr.pos, t3]
  rfl
theorem ps_setDcT {i : Nat} {y : Str} {pp : Pos} {kx vx tg iter : Expr} {ifs : List Expr} {scope : Scope} {own : List (Str × Nat)} {pos spos : Pos} {wi : TI} {g : TG} {tt : TT} {tk tv : TE} (hu : X.A.units + 1 < cLine) (cm : X.calm = true) (nN : X.N.Nodup) (iy : X.N[i]? = some y) (yl : X.env.scope.names.lookup y = some .local)
    (sw : swapsWith (.DictComp kx vx [⟨tg, iter, ifs, 0⟩] scope pos) (some (.Name y pp)) spos.line X.env = pure true) (walk : PI X tg iter wi) (bk : BlkOk X.N X.env.scope scope own)
    (a1 : ∀ (s : Shared) (H : Hp) (Cn : Addr) (clo : List (Str × Addr)) (foot : List Addr), PG (X.blk s H scope (compEnvC scope clo Cn X.env) foot) tg g)
    (a2 : ∀ (s : Shared) (H : Hp) (Cn : Addr) (clo : List (Str × Addr)) (foot : List Addr), PTs (X.blk s H scope (compEnvC scope clo Cn X.env) foot) ifs tt)
    (a3 : ∀ (s : Shared) (H : Hp) (Cn : Addr) (clo : List (Str × Addr)) (foot : List Addr), PE (X.blk s H scope (compEnvC scope clo Cn X.env) foot) kx tk)
    (a4 : ∀ (s : Shared) (H : Hp) (Cn : Addr) (clo : List (Str × Addr)) (foot : List Addr), PE (X.blk s H scope (compEnvC scope clo Cn X.env) foot) vx tv) (a5 : ∀ x, foldedSetIterable iter X.env x = pure x := by intro _; rfl) :
    PS X (.Assign [.Name y pp] (.DictComp kx vx [⟨tg, iter, ifs, 0⟩] scope pos) spos) (tAsg (tDcT wi g tt tk tv (own.map (·.2))) (gName i)) := by
  refine ⟨fun ps0 s0 σ0 G0 D I0 h0 => ?_⟩
  rw [exec_Assign_Name_used _ _ _ _ sw]
  refine wpAny_bind (wpAny_standAt (wpAny_bind ?_))
  show wpAny _ X.A (do let _ ← comprehension (.DictComp kx vx [⟨tg, iter, ifs, 0⟩] scope pos) scope X.env (firstIterPos [⟨tg, iter, ifs, 0⟩] pos) newDict false (eval iter X.env) (some (assign (.Name y pp) X.env))) _ _ s0
  have h1 : tDcT wi g tt tk tv (own.map (·.2)) σ0 G0 (fun x H1 => gName i x σ0 H1 D.nx) := h0
  refine wpAny_bind (thn (dcT_core (Qq := fun _ u => SP X ps0 D .next u) hu cm nN I0 walk bk a1 a2 a3 a4 a5 h1 fun Ln Cn u mm G' J' q hn f => ?_) fun _ u hq => wpAny_pure (wpAny_pure hq))
  show wpAny _ _ (assign (.Name y pp) X.env (.ref Ln)) _ _ _
  refine wpAny_assign_Name (store_ok2 (v := V.ref Ln) J' nN iy (.inl yl) rfl (fun u2 J2 ⟨a, sb, ha⟩ => ?_) (.inr yl))
  obtain ⟨c0, c1, c2, c3, c4, c5⟩ := f
  have apart : Cn ≠ a := by
    rcases ha with zz | zz
    · rw [zz]
      exact c1
    · exact fun e => c4 y a zz e.symm
  exact ⟨mm, hn.sameBut sb apart, fun g3 same3 => ⟨_, G', J2.turned (t' := u2.toks) (fun b o hb e => (same3.2 b hb).trans e) c0 c1 c3 c4 c5, q⟩⟩
/-- over range(n): Pv by the turn and the heap -/
theorem dcT_range {lo : Int} {n : Nat} {g : TG} {tt : TT} {tk tv : TE} {vs : List Nat} {σ : L2.St} {H1 : Hp} {D : Addr} {Qd : Hp → Prop} (Pv : Nat → Hp → Prop) (h0 : Pv 0 (upd H1 D (.dT [])))
    (hs : ∀ i H, i < n → Pv i H → g (.int (lo + i)) (wipe σ vs) H fun σ2 Hb => wipe σ2 vs = wipe σ vs ∧ tt σ2 Hb fun b Hc =>
      if b = true then tk σ2 Hc fun y Hk => tv σ2 Hk fun zz Hv => ∃ ent key b, y = .ref b ∧ Hv b = some (.tup (key.map kV)) ∧ Hv D = some (.dT ent) ∧ ent.length < sizeLine ∧ Pv (i + 1) (upd Hv D (.dT (putK ent key zz))) else Pv (i + 1) Hc) (fin : ∀ H, Pv n H → Qd H) :
    ∃ W : Nat → Nat → Hp → Prop, (∃ mm, W 0 mm (upd H1 D (.dT []))) ∧ ∀ i mm H, W i mm H →
      ((Itr lo n).stop i H ∧ Qd H) ∨ ((Itr lo n).go i H ∧ ∃ Nxt : Hp → Prop, (∀ H', Nxt H' → ∃ m', m' < mm ∧ W (i + 1) m' H') ∧ ∀ x H', (Itr lo n).yld i H x H' → g x (wipe σ vs) H' fun σ2 Hb => wipe σ2 vs = wipe σ vs ∧ tt σ2 Hb fun b Hc =>
        if b = true then tk σ2 Hc fun y Hk => tv σ2 Hk fun zz Hv => ∃ ent key b, y = .ref b ∧ Hv b = some (.tup (key.map kV)) ∧ Hv D = some (.dT ent) ∧ ent.length < sizeLine ∧ Nxt (upd Hv D (.dT (putK ent key zz))) else Nxt Hc) := by
  refine ⟨fun i mm H => mm = n - i ∧ i ≤ n ∧ Pv i H, ⟨n, by simp, Nat.zero_le _, h0⟩, ?_⟩
  rintro i mm H ⟨rfl, le1, p⟩
  by_cases lt2 : i < n
  · refine .inr ⟨lt2, Pv (i + 1), fun H' pp2 => ⟨n - (i + 1), by omega, rfl, lt2, pp2⟩, fun x H' y => ?_⟩
    obtain ⟨e, ex⟩ := y
    subst e ex
    exact hs i _ lt2 p
  · have e : i = n := by omega
    subst e
    exact .inl ⟨Nat.le_refl _, fin H p⟩
end
end OTR
set_option Elab.async false
set_option linter.all false
set_option maxRecDepth 100000
set_option maxHeartbeats 2000000
namespace OT
open PySem L2 OTR
abbrev key2 (x y : Int) : List Key := [Sum.inl x, Sum.inl y]
theorem key2_inj {x y a b : Int} : key2 x y = key2 a b ↔ x = a ∧ y = b := by simp [key2]
def hasK (kvs : List (List Key × V)) (x y : Int) : Bool := (valV kvs (key2 x y)).isSome
theorem hasK_some {kvs : List (List Key × V)} {x y : Int} (h : hasK kvs x y = true) : ∃ v, valV kvs (key2 x y) = some v := Option.isSome_iff_exists.mp h
theorem hasK_of {kvs : List (List Key × V)} {x y : Int} {v : V} (h : valV kvs (key2 x y) = some v) : hasK kvs x y = true := by
  unfold hasK
  rw [h]
  rfl
theorem hasK_put {kvs : List (List Key × V)} {x y a b : Int} {v : V} : hasK (putK kvs (key2 x y) v) a b = true ↔ (a = x ∧ b = y) ∨ hasK kvs a b = true := by
  unfold hasK
  rw [valV_put]
  by_cases h : key2 a b = key2 x y
  · rw [if_pos h]
    exact ⟨fun _ => .inl (key2_inj.mp h), fun _ => rfl⟩
  · rw [if_neg h]
    exact ⟨.inr, fun z => z.resolve_left fun q => h (key2_inj.mpr q)⟩
/-- v is the trail from x to y -/
def TrailAt (K : PySem.W.Frag) (H : Hp) (F : List Fact) (x y : Int) (v : V) : Prop := ∃ (p : Addr) (l : List Nat), v = .ref p ∧ SqT K H p (l.map fun k => V.int (k : Nat)) ∧ Way F x l y ∧ l.Nodup
theorem sqT_but {K : PySem.W.Frag} {H H' : Hp} {d p : Addr} {xs : List V} {kvs : List (List Key × V)} (h : SqT K H p xs) (hd : H d = some (.dT kvs)) (e : But d H H') : SqT K H' p xs := by
  rcases h with (h | ⟨o, h⟩) | h
  · exact .inl (.inl (e _ _ h (ne_of h hd (fun z => nomatch z))))
  · exact .inl (.inr ⟨o, e _ _ h (ne_of h hd (fun z => nomatch z))⟩)
  · exact .inr h
theorem sqT_same {K : PySem.W.Frag} {H H' : Hp} {p : Addr} {xs : List V} (h : SqT K H p xs) (e : Same H H') : SqT K H' p xs := by
  rcases h with (h | ⟨o, h⟩) | h
  · exact .inl (.inl (e _ _ h))
  · exact .inl (.inr ⟨o, e _ _ h⟩)
  · exact .inr h
theorem TrailAt.but {K : PySem.W.Frag} {H H' : Hp} {d : Addr} {kvs : List (List Key × V)} {F : List Fact} {x y : Int} {v : V} (h : TrailAt K H F x y v) (hd : H d = some (.dT kvs)) (e : But d H H') : TrailAt K H' F x y v :=
  let ⟨p, l, a, b, c⟩ := h; ⟨p, l, a, sqT_but b hd e, c⟩
theorem TrailAt.same {K : PySem.W.Frag} {H H' : Hp} {F : List Fact} {x y : Int} {v : V} (h : TrailAt K H F x y v) (e : Same H H') : TrailAt K H' F x y v :=
  let ⟨p, l, a, b, c⟩ := h; ⟨p, l, a, sqT_same b e, c⟩
/-- at d stand the trails of all pairs that F joins -/
structure TrOk (K : PySem.W.Frag) (H : Hp) (d : Addr) (kvs : List (List Key × V)) (n : Int) (F : List Fact) : Prop where
  dc : H d = some (.dT kvs)
  has : ∀ x y, hasK kvs x y = true ↔ In n x ∧ In n y ∧ Con F x y
  val : ∀ x y v, valV kvs (key2 x y) = some v → TrailAt K H F x y v
  len : kvs.length ≤ 24 + 1200 * F.length
theorem TrOk.same {K : PySem.W.Frag} {H H' : Hp} {d : Addr} {kvs : List (List Key × V)} {n : Int} {F : List Fact} (h : TrOk K H d kvs n F) (e : Same H H') : TrOk K H' d kvs n F := ⟨e _ _ h.dc, h.has, fun x y v z => (h.val x y v z).same e, h.len⟩
/-- while the trails over a new road are added -/
structure Grow (K : PySem.W.Frag) (H : Hp) (d : Addr) (old kvs : List (List Key × V)) (n : Int) (F : List Fact) (r : Fact) : Prop where
  dc : H d = some (.dT kvs)
  sound : ∀ x y, hasK kvs x y = true → In n x ∧ In n y ∧ Con (F ++ [r]) x y
  keep : ∀ x y v, valV old (key2 x y) = some v → valV kvs (key2 x y) = some v
  val : ∀ x y v, valV kvs (key2 x y) = some v → TrailAt K H (F ++ [r]) x y v
theorem TrOk.grow {K : PySem.W.Frag} {H : Hp} {d : Addr} {kvs : List (List Key × V)} {n : Int} {F : List Fact} {r : Fact} (h : TrOk K H d kvs n F) : Grow K H d kvs kvs n F r :=
  ⟨h.dc, fun x y z => let ⟨a, b, c⟩ := (h.has x y).mp z; ⟨a, b, con_snoc.mpr (.inl c)⟩, fun _ _ _ z => z, fun x y v z => let ⟨p, l, a, b, c, e⟩ := h.val x y v z; ⟨p, l, a, b, c.mono, e⟩⟩
theorem Grow.same {K : PySem.W.Frag} {H H' : Hp} {d : Addr} {old kvs : List (List Key × V)} {n : Int} {F : List Fact} {r : Fact} (h : Grow K H d old kvs n F r) (e : Same H H') : Grow K H' d old kvs n F r := ⟨e _ _ h.dc, h.sound, h.keep, fun x y v z => (h.val x y v z).same e⟩
theorem Grow.put {K : PySem.W.Frag} {H : Hp} {d p : Addr} {old kvs : List (List Key × V)} {n x y : Int} {F : List Fact} {r : Fact} {l : List Nat} (h : Grow K H d old kvs n F r) (no : hasK old x y = false) (hx : In n x) (hy : In n y)
    (hp : SqT K H p (l.map fun k => V.int (k : Nat))) (w : Way (F ++ [r]) x l y) (nd : l.Nodup) : Grow K (upd H d (.dT (putK kvs (key2 x y) (.ref p)))) d old (putK kvs (key2 x y) (.ref p)) n F r := by
  refine ⟨upd_same, fun a b z => ?_, fun a b v z => ?_, fun a b v z => ?_⟩
  · rcases hasK_put.mp z with ⟨rfl, rfl⟩ | z
    · exact ⟨hx, hy, w.con⟩
    · exact h.sound a b z
  · rw [valV_put, if_neg]
    · exact h.keep a b v z
    · intro q
      obtain ⟨rfl, rfl⟩ := key2_inj.mp q
      rw [hasK_of z] at no
      cases no
  · rw [valV_put] at z
    by_cases q : key2 a b = key2 x y
    · rw [if_pos q] at z
      obtain ⟨rfl, rfl⟩ := key2_inj.mp q
      cases z
      exact ⟨p, l, rfl, sqT_but hp h.dc But.upd, w, nd⟩
    · rw [if_neg q] at z
      exact (h.val a b v z).but h.dc But.upd
/-- the crossings that F joins with a -/
def Side (hs : List Int) (n : Int) (F : List Fact) (a : Int) : Prop := ∀ x, x ∈ hs ↔ In n x ∧ Con F x a
theorem grow_end {K : PySem.W.Frag} {H : Hp} {d : Addr} {old kvs : List (List Key × V)} {n : Int} {F : List Fact} {r : Fact} {hs ts : List Int} (g : Grow K H d old kvs n F r) (hold : ∀ x y, hasK old x y = true ↔ In n x ∧ In n y ∧ Con F x y)
    (hh : Side hs n F r.1) (ht : Side ts n F r.2.1) (all : ∀ x ∈ hs, ∀ y ∈ ts, hasK kvs x y = true ∧ hasK kvs y x = true) (len : kvs.length ≤ 24 + 1200 * (F.length + 1)) : TrOk K H d kvs n (F ++ [r]) := by
  refine ⟨g.dc, fun x y => ?_, g.val, by rw [List.length_append]; exact len⟩
  refine Iff.intro (g.sound x y) ?_
  rintro ⟨hx, hy, c⟩
  rcases con_snoc.mp c with c | ⟨c1, c2⟩ | ⟨c1, c2⟩
  · obtain ⟨v, hv⟩ := hasK_some ((hold x y).mpr ⟨hx, hy, c⟩)
    exact hasK_of (g.keep x y v hv)
  · exact (all x ((hh x).mpr ⟨hx, c1⟩) y ((ht y).mpr ⟨hy, c2.symm⟩)).1
  · exact (all y ((hh y).mpr ⟨hy, c2.symm⟩) x ((ht x).mpr ⟨hx, c1⟩)).2
def spJoin (K : PySem.W.Frag) (CR : Addr) : Sp := fun vs H Q _ => ∃ (d rp : Addr) (n : Int) (F : List Fact) (r : Fact) (kvs : List (List Key × V)), vs = [.ref d, .int n, .int (F.length : Nat), .ref rp] ∧ RoadAt CR H rp r ∧ TrOk K H d kvs n F ∧
  0 ≤ n ∧ n ≤ 24 ∧ F.length ≤ 24 ∧ In n r.1 ∧ In n r.2.1 ∧ ¬ Con F r.1 r.2.1 ∧ ∀ H' kvs', TrOk K H' d kvs' n (F ++ [r]) → But d H H' → Q .non H'
/-- t + u -/
theorem catA_of {K : PySem.W.Frag} {H : Hp} {a b : Addr} {xs ys : List V} {Q : VK} (ha : SqT K H a xs) (hb : SqT K H b ys) (hl : xs.length + ys.length ≤ sizeLine) (k : ∀ p H', Same H H' → SqT K H' p (xs ++ ys) → Q (.ref p) H') : rCatA K (.ref a) (.ref b) H Q := by
  refine ⟨a, b, xs, ys, rfl, rfl, ha, hb, hl, fun e => ?_, fun _ e => ?_, fun _ _ p hp => k p _ (Same.new hp) (SqT.of upd_same)⟩
  · subst e
    exact k b H (Same.refl H) hb
  · subst e
    exact k a H (Same.refl H) (by rw [List.append_nil]; exact ha)
section
variable {P : Program} {w : World} {K : PySem.W.Frag} {mg : Str → Option Value} {base : Heap}
abbrev nJoin : List Str := ["trails", "crossings", "number", "road", "heads", "tails", "head", "tail", "trail", "crossing"]
theorem scJoin : FnScope nJoin ["trails", "crossings", "number", "road"] (defScope sJoin) := ⟨rfl, rfl, rfl, by decide +kernel, rfl, by decide +kernel, by decide +kernel⟩
/-- what the comprehension over range(n) has kept behind i turns -/
def Kept (l : List Int) (i : Nat) (p : Int → Bool) : Prop := (∀ x, x ∈ l ↔ (0 ≤ x ∧ x < (i : Int)) ∧ p x = true) ∧ l.length ≤ i
theorem Kept.zero {p : Int → Bool} : Kept [] 0 p := ⟨fun x => ⟨fun h => (by cases h), fun h => (by omega)⟩, Nat.le_refl _⟩
theorem Kept.yes {l : List Int} {i : Nat} {p : Int → Bool} (h : Kept l i p) (e : p (i : Int) = true) : Kept (l ++ [(i : Int)]) (i + 1) p := by
  refine ⟨fun x => ?_, by rw [List.length_append]; exact Nat.succ_le_succ h.2⟩
  rw [List.mem_append, List.mem_singleton, h.1]
  constructor
  · rintro (⟨a, b⟩ | rfl)
    · exact ⟨by omega, b⟩
    · exact ⟨by omega, e⟩
  · rintro ⟨a, b⟩
    by_cases q : x = (i : Int)
    · exact .inr q
    · exact .inl ⟨by omega, b⟩
theorem Kept.no {l : List Int} {i : Nat} {p : Int → Bool} (h : Kept l i p) (e : p (i : Int) = false) : Kept l (i + 1) p := by
  refine ⟨fun x => ?_, Nat.le_succ_of_le h.2⟩
  rw [h.1]
  constructor
  · rintro ⟨a, b⟩
    exact ⟨by omega, b⟩
  · rintro ⟨a, b⟩
    refine ⟨?_, b⟩
    by_cases q : x = (i : Int)
    · rw [q, e] at b
      cases b
    · omega
theorem ok_join {f CR : Addr} {fd : FuncData} (F : Fun K "join_trails" "join_trails" sJoin f fd) (TR : RdT K mg CR) (hRg : mg "range" = none) : FnOk P w K mg base CX0 1 f fd ["trails", "crossings", "number", "road"] (spJoin K CR) := by
  refine F.ok scJoin (fun vs H Q E h => ?_) (fun cdv A outer s H vs Q E hr h => ?_)
  · obtain ⟨d, rp, n, F, r, kvs, rfl, _⟩ := h
    rfl
  · obtain ⟨d, rp, n, F, r, kvs, rfl, hR, hT, hn0, hn24, hF24, ia, ib, nc, k⟩ := h
    have hu := hu_of hr
    obtain ⟨dx, hrp⟩ := id hR
    refine ⟨_, pss_cons (ps_setLc (i := 4) (own := [("crossing", 9)]) (g := gName 9) (tt := tB (tDIn (tTup (tCons (tVar 9) (tCons (tFld K (tVar 3) "a") tNil))) (tVar 0))) rfl scJoin.nd rfl rfl (sw_true rfl rfl rfl (by decide +kernel)) (pi_range1 rfl hRg (pa_cons (pv 1) pa_nil))
          (blkOk_by (own := [("crossing", 9)]) (N := nJoin) (sc := defScope sJoin) (by decide +kernel)) (fun _ _ _ _ _ => pg_name (i := 9) scJoin.nd rfl (Or.inl rfl))
          (fun _ _ _ _ _ => pts_one (pt_cmp (pc_din hu (pe_tup (pa_cons (pv 9) (pa_cons (pe_fld (pv 3) rfl) pa_nil))) (pv 0)))) (fun _ _ _ _ _ => pv 9))
      (pss_cons (ps_setLc (i := 5) (own := [("crossing", 9)]) (g := gName 9) (tt := tB (tDIn (tTup (tCons (tFld K (tVar 3) "b") (tCons (tVar 9) tNil))) (tVar 0))) rfl scJoin.nd rfl rfl (sw_true rfl rfl rfl (by decide +kernel)) (pi_range1 rfl hRg (pa_cons (pv 1) pa_nil))
          (blkOk_by (own := [("crossing", 9)]) (N := nJoin) (sc := defScope sJoin) (by decide +kernel)) (fun _ _ _ _ _ => pg_name (i := 9) scJoin.nd rfl (Or.inl rfl))
          (fun _ _ _ _ _ => pts_one (pt_cmp (pc_din hu (pe_tup (pa_cons (pe_fld (pv 3) rfl) (pa_cons (pv 9) pa_nil))) (pv 0)))) (fun _ _ _ _ _ => pv 9))
      (pss_one (ps_for PassesOwn.never rfl (pi_list (pv 4)) (pg_name (i := 6) scJoin.nd rfl (Or.inl rfl))
        (pss_one (ps_for PassesOwn.never rfl (pi_list (pv 5)) (pg_name (i := 7) scJoin.nd rfl (Or.inl rfl))
          (pss_cons (ps_set (i := 8) scJoin.nd rfl (Or.inl rfl) (pe_op op_catA (pe_op op_catA (pe_dget hu (pv 0) (pe_tup (pa_cons (pv 6) (pa_cons (pe_fld (pv 3) rfl) pa_nil))) (fun _ _ => rfl)) (pe_tup (pa_cons (pv 2) pa_nil)))
              (pe_dget hu (pv 0) (pe_tup (pa_cons (pe_fld (pv 3) rfl) (pa_cons (pv 7) pa_nil))) (fun _ _ => rfl))))
          (pss_cons (ps_dput hu (pv 0) (pe_tup (pa_cons (pv 6) (pa_cons (pv 7) pa_nil))) (pv 8) rfl)
          (pss_one (ps_dput hu (pv 0) (pe_tup (pa_cons (pv 7) (pa_cons (pv 6) pa_nil))) (pe_revT (pv 8)) rfl))))))))), ?_⟩
    have hne : ∀ {b : Addr} {o : HO}, H b = some o → ∀ {Hc : Hp} {t : Addr}, Same H Hc → Hc t = none → b ≠ t := fun e _ _ sc n => ne_of_none (sc _ _ e) n
    -- heads
    refine ⟨_, rfl, n, rfl, by omega, by omega, fun D1 hD1 => lc_range (lo := 0) (n := n.toNat) (fun i Hc => ∃ l : List Int, Hc D1 = some (.lst (l.map V.int)) ∧ Same H Hc ∧ Kept l i fun x => hasK kvs x r.1)
      ⟨[], upd_same, Same.new hD1, Kept.zero⟩ ?_ ?_⟩
    · rintro i Hc hi ⟨l, hl, sc, kp⟩
      have e0 : (0 : Int) + (i : Int) = (i : Int) := Int.zero_add _
      rw [e0]
      refine ⟨rfl, _, rfl, _, rfl, rp, CR, dx, _, _, rfl, sc _ _ hrp, TR.cl, TR.nA, rdF_a r, (by show 2 ≤ sizeLine; decide), fun t ht => ?_⟩
      have nD : D1 ≠ t := ne_of_none hl ht
      have nd : d ≠ t := ne_of_none (sc _ _ hT.dc) ht
      have sc' : Same H (upd Hc t (.tup [.int (i : Int), .int r.1])) := sc.trans (Same.new ht)
      refine ⟨_, rfl, d, _, rfl, DGet.t (k := key2 (i : Int) r.1) (sc' _ _ hT.dc) upd_same, _, rfl, ?_⟩
      cases e : hasK kvs (i : Int) r.1 with
      | true =>
        have e' : (valV kvs (key2 (i : Int) r.1)).isSome = true := e
        rw [e']
        refine iteT ⟨_, rfl, l.map V.int, by rw [upd_ne nD]; exact hl, small1000 (by rw [List.length_map]; have := kp.2; omega), l ++ [(i : Int)], by rw [List.map_append]; exact upd_same, fun b o z => ?_, kp.yes e⟩
        rw [upd_ne (ne_of_none z hD1)]
        exact sc' b o z
      | false =>
        have e' : (valV kvs (key2 (i : Int) r.1)).isSome = false := e
        rw [e']
        exact iteF ⟨l, by rw [upd_ne nD]; exact hl, sc', kp.no e⟩
    rintro H4 ⟨hs, hh1, s4, kp1⟩
    have side1 : Side hs n F r.1 := fun x => by
      rw [kp1.1]
      show _ ∧ hasK kvs x r.1 = true ↔ _
      rw [hT.has]
      unfold In
      exact ⟨fun ⟨_, c, _, g⟩ => ⟨c, g⟩, fun ⟨⟨a, b⟩, g⟩ => ⟨⟨a, by omega⟩, ⟨a, b⟩, ia, g⟩⟩
    -- tails
    refine ⟨_, rfl, n, rfl, by omega, by omega, fun D2 hD2 => lc_range (lo := 0) (n := n.toNat) (fun i Hc => ∃ l : List Int, Hc D2 = some (.lst (l.map V.int)) ∧ Same H4 Hc ∧ Kept l i fun x => hasK kvs r.2.1 x)
      ⟨[], upd_same, Same.new hD2, Kept.zero⟩ ?_ ?_⟩
    · rintro i Hc hi ⟨l, hl, sc, kp⟩
      have e0 : (0 : Int) + (i : Int) = (i : Int) := Int.zero_add _
      rw [e0]
      have sH : Same H Hc := s4.trans sc
      refine ⟨rfl, _, rfl, rp, CR, dx, _, _, rfl, sH _ _ hrp, TR.cl, TR.nB, rdF_b r, _, rfl, (by show 2 ≤ sizeLine; decide), fun t ht => ?_⟩
      have nD : D2 ≠ t := ne_of_none hl ht
      have sc' : Same H4 (upd Hc t (.tup [.int r.2.1, .int (i : Int)])) := sc.trans (Same.new ht)
      refine ⟨_, rfl, d, _, rfl, DGet.t (k := key2 r.2.1 (i : Int)) ((s4.trans sc') _ _ hT.dc) upd_same, _, rfl, ?_⟩
      cases e : hasK kvs r.2.1 (i : Int) with
      | true =>
        have e' : (valV kvs (key2 r.2.1 (i : Int))).isSome = true := e
        rw [e']
        refine iteT ⟨_, rfl, l.map V.int, by rw [upd_ne nD]; exact hl, small1000 (by rw [List.length_map]; have := kp.2; omega), l ++ [(i : Int)], by rw [List.map_append]; exact upd_same, fun b o z => ?_, kp.yes e⟩
        rw [upd_ne (ne_of_none z hD2)]
        exact sc' b o z
      | false =>
        have e' : (valV kvs (key2 r.2.1 (i : Int))).isSome = false := e
        rw [e']
        exact iteF ⟨l, by rw [upd_ne nD]; exact hl, sc', kp.no e⟩
    rintro H5 ⟨ts, hh2, s5, kp2⟩
    have side2 : Side ts n F r.2.1 := fun x => by
      rw [kp2.1]
      show _ ∧ hasK kvs r.2.1 x = true ↔ _
      rw [hT.has]
      unfold In
      exact ⟨fun ⟨⟨a, b⟩, _, ⟨c, e⟩, g⟩ => ⟨⟨c, e⟩, g.symm⟩, fun ⟨⟨a, b⟩, g⟩ => ⟨⟨a, by omega⟩, ib, ⟨a, b⟩, g.symm⟩⟩
    have sH5 : Same H H5 := s4.trans s5
    have d1 : D1 ≠ d := (ne_of_none hT.dc hD1).symm
    have d2 : D2 ≠ d := (ne_of_none (s4 _ _ hT.dc) hD2).symm
    have rpd : rp ≠ d := ne_of hrp hT.dc (fun z => nomatch z)
    have lh : hs.length ≤ 24 := by have := kp1.2; omega
    have lt : ts.length ≤ 24 := by have := kp2.2; omega
    have hh1' : H5 D1 = some (.lst (hs.map V.int)) := s5 _ _ hh1
    -- for head in heads
    refine ⟨_, rfl, D1, rfl, ⟨_, SqL.of hh1'⟩, for_list (K := K) (a := D1) (xs := hs.map V.int) (fun i σ H2 => ∃ (v6 v7 v8 : Option V) (kvs' : List (List Key × V)), σ = [some (.ref d), some (.int n), some (.int (F.length : Nat)), some (.ref rp), some (.ref D1), some (.ref D2), v6, v7, v8, none] ∧
        But d H5 H2 ∧ Grow K H2 d kvs kvs' n F r ∧ (∀ (i' : Nat) (x : Int), i' < i → hs[i']? = some x → ∀ y ∈ ts, hasK kvs' x y = true ∧ hasK kvs' y x = true) ∧ kvs'.length ≤ kvs.length + 2 * (i * ts.length))
      ⟨none, none, none, kvs, rfl, But.refl, (hT.same sH5).grow, fun i' x z => absurd z (Nat.not_lt_zero _), by omega⟩ (fun i σ H2 _ ⟨_, _, _, _, _, b2, _⟩ => SqL.of (b2 _ _ hh1' d1)) ?_ ?_⟩
    · rintro i xv σ H2 hi ⟨v6, v7, v8, kvs1, rfl, b2, g2, done2, len2⟩
      have hil : i < hs.length := by
        have := (List.getElem?_eq_some_iff.mp hi).1
        rwa [List.length_map] at this
      obtain ⟨x, hx, rfl⟩ : ∃ x, hs[i]? = some x ∧ xv = V.int x := by
        rw [List.getElem?_map] at hi
        cases e : hs[i]? with
        | none => rw [e] at hi; cases hi
        | some z => rw [e] at hi; exact ⟨z, rfl, (Option.some.inj hi).symm⟩
      obtain ⟨ix, cx⟩ := (side1 x).mp (List.mem_of_getElem? hx)
      -- for tail in tails
      refine ⟨_, rfl, D2, rfl, ⟨_, SqL.of (b2 _ _ hh2 d2)⟩, for_list (K := K) (a := D2) (xs := ts.map V.int) (fun j σ H3 => ∃ (v7 v8 : Option V) (kvs' : List (List Key × V)), σ = [some (.ref d), some (.int n), some (.int (F.length : Nat)), some (.ref rp), some (.ref D1), some (.ref D2), some (.int x), v7, v8, none] ∧
          But d H5 H3 ∧ Grow K H3 d kvs kvs' n F r ∧ (∀ (i' : Nat) (x : Int), i' < i → hs[i']? = some x → ∀ y ∈ ts, hasK kvs' x y = true ∧ hasK kvs' y x = true) ∧ (∀ (j' : Nat) (y : Int), j' < j → ts[j']? = some y → hasK kvs' x y = true ∧ hasK kvs' y x = true) ∧ kvs'.length ≤ kvs.length + 2 * (i * ts.length + j))
        ⟨v7, v8, kvs1, rfl, b2, g2, done2, fun j' y z => absurd z (Nat.not_lt_zero _), by omega⟩ (fun j σ H3 _ ⟨_, _, _, _, b3, _⟩ => SqL.of (b3 _ _ hh2 d2)) ?_ ?_⟩
      · rintro j yv σ H3 hj ⟨v7, v8, kvs2, rfl, b3, g3, done3, row3, len3⟩
        have hjl : j < ts.length := by
          have := (List.getElem?_eq_some_iff.mp hj).1
          rwa [List.length_map] at this
        obtain ⟨y, hy, rfl⟩ : ∃ y, ts[j]? = some y ∧ yv = V.int y := by
          rw [List.getElem?_map] at hj
          cases e : ts[j]? with
          | none => rw [e] at hj; cases hj
          | some z => rw [e] at hj; exact ⟨z, rfl, (Option.some.inj hj).symm⟩
        obtain ⟨iy, cy⟩ := (side2 y).mp (List.mem_of_getElem? hy)
        have bH : But d H H3 := fun b o z nb => b3 b o (sH5 b o z) nb
        obtain ⟨v0, hv0⟩ := hasK_some ((hT.has x r.1).mpr ⟨ix, ia, cx⟩)
        obtain ⟨v1, hv1⟩ := hasK_some ((hT.has r.2.1 y).mpr ⟨ib, iy, cy.symm⟩)
        obtain ⟨p0, l0, rfl, q0, w0, n0⟩ := (hT.val _ _ _ hv0).but hT.dc bH
        obtain ⟨p1, l1, rfl, q1, w1, n1⟩ := (hT.val _ _ _ hv1).but hT.dc bH
        have kv0 := g3.keep _ _ _ hv0
        have kv1 := g3.keep _ _ _ hv1
        have no1 : hasK kvs x y = false := by
          cases e : hasK kvs x y with
          | false => rfl
          | true => exact absurd ((cx.symm.trans ((hT.has x y).mp e).2.2).trans cy) nc
        have no2 : hasK kvs y x = false := by
          cases e : hasK kvs y x with
          | false => rfl
          | true => exact absurd ((cx.symm.trans ((hT.has y x).mp e).2.2.symm).trans cy) nc
        have hrp3 : H3 rp = some (.ins CR dx (rdF r)) := bH _ _ hrp rpd
        have sl0 := w0.short n0
        have sl1 := w1.short n1
        have tot : i * ts.length ≤ 23 * 24 := Nat.mul_le_mul (by omega) lt
        have big : kvs2.length ≤ 24 + 1200 * 24 + 2 * (23 * 24 + 24) := by have := hT.len; omega
        -- trail = trails[head, road.a] + (number,) + trails[road.b, tail]
        refine ⟨_, rfl, _, rfl, _, rfl, rp, CR, dx, _, _, rfl, hrp3, TR.cl, TR.nA, rdF_a r, (by show 2 ≤ sizeLine; decide), fun t1 ht1 => ?_⟩
        have s1 : Same H3 (upd H3 t1 (.tup [.int x, .int r.1])) := Same.new ht1
        refine ⟨d, _, rfl, (by rw [← kv0]; exact DGet.t (k := key2 x r.1) (s1 _ _ g3.dc) upd_same), _, rfl, (by show 1 ≤ sizeLine; decide), fun t2 ht2 => ?_⟩
        have s2 := s1.trans (Same.new (o := .tup [.int (F.length : Nat)]) ht2)
        refine catA_of (sqT_same q0 s2) (SqT.of upd_same) (by rw [List.length_map]; show l0.length + 1 ≤ sizeLine; rw [PySem.sizeLine_eq]; omega) fun q2 H6 s6 hq2 => ?_
        have s6' : Same H3 H6 := s2.trans s6
        refine ⟨_, rfl, _, rfl, rp, CR, dx, _, _, rfl, s6' _ _ hrp3, TR.cl, TR.nB, rdF_b r, _, rfl, (by show 2 ≤ sizeLine; decide), fun t3 ht3 => ?_⟩
        have s7 : Same H3 (upd H6 t3 (.tup [.int r.2.1, .int y])) := s6'.trans (Same.new ht3)
        refine ⟨d, _, rfl, (by rw [← kv1]; exact DGet.t (k := key2 r.2.1 y) (s7 _ _ g3.dc) upd_same), ?_⟩
        refine catA_of (sqT_same hq2 (Same.new ht3)) (sqT_same q1 s7) (by rw [List.length_append, List.length_map, List.length_map]; show l0.length + 1 + l1.length ≤ sizeLine; rw [PySem.sizeLine_eq]; omega) fun q3 H8 s8 hq3 => ?_
        have s8' : Same H3 H8 := s7.trans s8
        have hq3' : SqT K H8 q3 ((l0 ++ F.length :: l1).map fun k => V.int (k : Nat)) := by
          rw [List.map_append, List.map_cons]
          rw [List.append_assoc] at hq3
          exact hq3
        have ww := way_over w0 w1
        have wn := way_nodup nc w0 w1 n0 n1
        -- trails[head, tail] = trail
        refine ⟨_, rfl, _, rfl, _, rfl, _, rfl, (by show 2 ≤ sizeLine; decide), fun t4 ht4 => ?_⟩
        have s9 : Same H3 (upd H8 t4 (.tup [.int x, .int y])) := s8'.trans (Same.new ht4)
        refine ⟨d, _, rfl, DPut.t (k := key2 x y) (s9 _ _ g3.dc) upd_same (by rw [PySem.sizeLine_eq]; omega), ?_⟩
        have g9 := (g3.same s9).put no1 ix iy (sqT_same hq3' (Same.new ht4)) ww wn
        have nq3 := sqT_but (sqT_same hq3' (Same.new (o := .tup [.int x, .int y]) ht4)) (s9 _ _ g3.dc) (But.upd (o := .dT (putK kvs2 (key2 x y) (.ref q3))))
        -- trails[tail, head] = trail[::-1]
        refine ⟨_, rfl, q3, _, rfl, nq3, fun q4 hq4 => ?_⟩
        refine ⟨_, rfl, _, rfl, _, rfl, (by show 2 ≤ sizeLine; decide), fun t5 ht5 => ?_⟩
        have s10 := (Same.new (o := .tup (((l0 ++ F.length :: l1).map fun k => V.int (k : Nat)).reverse)) hq4).trans (Same.new (o := .tup [.int y, .int x]) ht5)
        have g10 := g9.same s10
        refine ⟨d, _, rfl, DPut.t (k := key2 y x) g10.dc upd_same (by have := length_putK kvs2 (key2 x y) (V.ref q3); rw [PySem.sizeLine_eq]; omega), ?_⟩
        have hq4' := (Same.new (o := .tup [.int y, .int x]) ht5) q4 _ upd_same
        have g11 := g10.put (p := q4) (l := (l0 ++ F.length :: l1).reverse) no2 iy ix (by rw [List.map_reverse]; exact SqT.of hq4') ww.rev (List.pairwise_reverse.mpr (wn.imp Ne.symm))
        refine ⟨_, _, _, rfl, fun b o z nb => ?_, g11, fun i' x' a b y' c => ?_, fun j' y' a b => ?_, ?_⟩
        · rw [upd_ne nb]
          refine s10 b o ?_
          rw [upd_ne nb]
          exact s9 b o (b3 b o z nb)
        · obtain ⟨h1, h2⟩ := done3 i' x' a b y' c
          exact ⟨hasK_put.mpr (.inr (hasK_put.mpr (.inr h1))), hasK_put.mpr (.inr (hasK_put.mpr (.inr h2)))⟩
        · by_cases e : j' = j
          · subst e
            rw [hy] at b
            cases b
            exact ⟨hasK_put.mpr (.inr (hasK_put.mpr (.inl ⟨rfl, rfl⟩))), hasK_put.mpr (.inl ⟨rfl, rfl⟩)⟩
          · obtain ⟨h1, h2⟩ := row3 j' y' (by omega) b
            exact ⟨hasK_put.mpr (.inr (hasK_put.mpr (.inr h1))), hasK_put.mpr (.inr (hasK_put.mpr (.inr h2)))⟩
        · have z1 := length_putK kvs2 (key2 x y) (V.ref q3)
          have z2 := length_putK (putK kvs2 (key2 x y) (V.ref q3)) (key2 y x) (V.ref q4)
          omega
      · rintro σ H3 ⟨v7, v8, kvs2, rfl, b3, g3, done3, row3, len3⟩
        rw [List.length_map] at row3 len3
        refine ⟨_, _, _, kvs2, rfl, b3, g3, fun i' x' a b y c => ?_, by rw [Nat.add_mul, Nat.one_mul]; omega⟩
        by_cases e : i' = i
        · subst e
          rw [hx] at b
          cases b
          obtain ⟨j', hj', e'⟩ := List.getElem_of_mem c
          exact row3 j' y hj' (by rw [List.getElem?_eq_getElem hj', e'])
        · exact done3 i' x' (by omega) b y c
    · rintro σ H2 ⟨v6, v7, v8, kvs1, rfl, b2, g2, done2, len2⟩
      rw [List.length_map] at done2 len2
      have tot : hs.length * ts.length ≤ 24 * 24 := Nat.mul_le_mul lh lt
      refine k H2 kvs1 (grow_end g2 hT.has side1 side2 (fun x hx y hy => ?_) (by have := hT.len; omega)) (fun b o z nb => b2 b o (sH5 b o z) nb)
      obtain ⟨i', hi', e'⟩ := List.getElem_of_mem hx
      exact done2 i' x hi' (by rw [List.getElem?_eq_getElem hi', e']) y hy
end
end OT
set_option Elab.async false
set_option linter.all false
set_option maxRecDepth 100000
set_option maxHeartbeats 2000000
namespace OT
open PySem L2 OTR
/-- the error that a tree's maker raises -/
def ErrR (CB CN CG : Addr) (H : Hp) (E : XK) : Err → Prop
  | .crossings n => Raised CB [("count", .int n), ("what", .str "crossings")] H E
  | .roads k => Raised CB [("count", .int k), ("what", .str "roads")] H E
  | .crossing c => Raised CN [("crossing", .int c)] H E
  | .length s => Raised CB [("count", .int s), ("what", .str "length")] H E
  | .ring k => Raised CG [("road", .int k)] H E
theorem ErrR.mono {CB CN CG : Addr} {H H1 : Hp} {E : XK} {e : Err} (h : ErrR CB CN CG H E e) (s : Same H H1) : ErrR CB CN CG H1 E e := by
  cases e with
  | crossings n => exact Raised.mono h s
  | roads n => exact Raised.mono h s
  | crossing n => exact Raised.mono h s
  | length n => exact Raised.mono h s
  | ring n => exact Raised.mono h s
/-- roads at these places -/
def RoadsAt (CR : Addr) (H : Hp) (ps : List Addr) (F : List Fact) : Prop := Paired (RoadAt CR H) ps F
theorem RoadsAt.same {CR : Addr} {H H' : Hp} {ps : List Addr} {F : List Fact} (h : RoadsAt CR H ps F) (s : Same H H') : RoadsAt CR H' ps F := by
  unfold RoadsAt at h ⊢
  induction h with
  | nil => exact .nil
  | cons a _ ih => exact .cons (a.same s) ih
theorem RoadsAt.get {CR : Addr} {H : Hp} : ∀ {ps : List Addr} {F : List Fact}, RoadsAt CR H ps F → ∀ {i : Nat} {p : Addr}, ps[i]? = some p → ∃ r, F[i]? = some r ∧ RoadAt CR H p r
  | _, _, .nil, i, p, e => by simp at e
  | _, _, .cons a t, 0, p, e => by
    have z := Option.some.inj e
    subst z
    exact ⟨_, rfl, a⟩
  | _, _, .cons a t, i + 1, p, e => RoadsAt.get (ps := _) (F := _) t (i := i) e
theorem RoadsAt.len {CR : Addr} {H : Hp} {ps : List Addr} {F : List Fact} (h : RoadsAt CR H ps F) : ps.length = F.length := Paired.length h
def spTrails (K : PySem.W.Frag) (CR CB CN CG : Addr) : Sp := fun vs H Q E => ∃ (n : Int) (t : Addr) (ps : List Addr) (F : List Fact), vs = [.int n, .ref t] ∧ SqT K H t (ps.map V.ref) ∧ RoadsAt CR H ps F ∧ 0 ≤ n ∧ n ≤ 24 ∧ F.length ≤ 24 ∧
  (∀ e, dueR n [] F = some e → ErrR CB CN CG H E e) ∧ (dueR n [] F = none → ∀ d kvs H', TrOk K H' d kvs n F → Same H H' → H d = none → Q (.ref d) H')
theorem map_get {α β : Type} {f : α → β} {l : List α} {i : Nat} {y : β} (h : (l.map f)[i]? = some y) : ∃ p, l[i]? = some p ∧ y = f p := by
  rw [List.getElem?_map] at h
  cases e : l[i]? with
  | none =>
    rw [e] at h
    cases h
  | some z =>
    rw [e] at h
    exact ⟨z, rfl, (Option.some.inj h).symm⟩
theorem drop_get {α : Type} {l : List α} {i : Nat} {x : α} (h : l[i]? = some x) : l.drop i = x :: l.drop (i + 1) := by
  obtain ⟨hi, e⟩ := List.getElem?_eq_some_iff.mp h
  rw [List.drop_eq_getElem_cons hi, e]
theorem take_get {α : Type} {l : List α} {i : Nat} {x : α} (h : l[i]? = some x) : l.take (i + 1) = l.take i ++ [x] := by
  obtain ⟨hi, e⟩ := List.getElem?_eq_some_iff.mp h
  rw [List.take_succ, h]
  rfl
section
variable {P : Program} {w : World} {K : PySem.W.Frag} {mg : Str → Option Value} {base : Heap}
abbrev nTrails : List Str := ["crossings", "roads", "trails", "number", "road", "crossing"]
theorem scTrails : FnScope nTrails ["crossings", "roads"] (defScope sTrails) := ⟨rfl, rfl, rfl, by decide +kernel, rfl, by decide +kernel, by decide +kernel⟩
theorem ok_trails {f fC fJ CR CB CN CG fG : Addr} {fd fdC fdJ fdG : FuncData} (F : Fun K "trails_along" "trails_along" sTrails f fd) (TR : RdT K mg CR) (TG' : ErT K mg "RingRoad" CG fG)
    (FG : FnOk P w K mg base CX0 1 fG fdG ["self", "road"] (spEr1 CG "road")) (bG : Binds K fdG ["self", "road"] [])
    (FC : FnOk P w K mg base (L2.CX P w) 3 fC fdC ["crossings", "road"] (spCheck CR CB CN)) (bC : Binds K fdC ["crossings", "road"] []) (mC : mg "check_road" = some (.ref fC)) (kC : PySem.W.keepIn K (.ref fC) = true)
    (FJ : FnOk P w K mg base CX0 1 fJ fdJ ["trails", "crossings", "number", "road"] (spJoin K CR)) (bJ : Binds K fdJ ["trails", "crossings", "number", "road"] []) (mJ : mg "join_trails" = some (.ref fJ)) (kJ : PySem.W.keepIn K (.ref fJ) = true)
    (hRg : mg "range" = none) (hEn : mg "enumerate" = none) :
    FnOk P w K mg base (L2.CX P w) 4 f fd ["crossings", "roads"] (spTrails K CR CB CN CG) := by
  refine F.okX scTrails (fun vs H Q E h => ?_) (fun cdv A outer s H vs Q E hr h => ?_)
  · obtain ⟨n, t, ps, F, rfl, _⟩ := h
    rfl
  · obtain ⟨n, t, ps, F, rfl, hS, hR, hn0, hn24, hF, kE, kQ⟩ := h
    have hu := hu_of hr
    have hr2 : Room 2 _ := hr.mono (by decide)
    have hr1 : Room 1 _ := hr.mono (by decide)
    refine ⟨_, pss_cons (ps_setDcT (i := 2) (own := [("crossing", 5)]) (g := gName 5) hu rfl scTrails.nd rfl rfl (swD_true rfl rfl rfl (by decide +kernel)) (pi_range1 rfl hRg (pa_cons (pv 0) pa_nil))
          (blkOk_by (own := [("crossing", 5)]) (N := nTrails) (sc := defScope sTrails) (by decide +kernel)) (fun _ _ _ _ _ => pg_name (i := 5) scTrails.nd rfl (Or.inl rfl)) (fun _ _ _ _ _ => pts_nil)
          (fun _ _ _ _ _ => pe_tup (pa_cons (pv 5) (pa_cons (pv 5) pa_nil))) (fun _ _ _ _ _ => pe_tup pa_nil))
      (pss_cons (ps_for (passes_of rfl) rfl (pi_enumT rfl hEn (pa_cons (pv 1) pa_nil)) (pg_tup rfl (pgs_cons (pg_name (i := 3) scTrails.nd rfl (Or.inl rfl)) (pgs_cons (pg_name (i := 4) scTrails.nd rfl (Or.inl rfl)) pgs_nil)))
        (pss_cons (ps_expr (pe_call FC hr rfl mC kC bC .nil (passes_call (takes_of rfl rfl rfl rfl) fun _ _ _ _ h => h) (pa_cons (pv 0) (pa_cons (pv 4) pa_nil))))
        (pss_cons (ps_if (pt_cmp (pc_din hu (pe_tup (pa_cons (pe_fld (pv 4) rfl) (pa_cons (pe_fld (pv 4) rfl) pa_nil))) (pv 2)))
            (pss_one (ps_raise rfl (takes_of rfl rfl rfl rfl) (pmk_oex TG'.ox TG'.iC TG'.tI FG hr2 bG .nil pass0 (by rfl) TG'.gC (pa_cons (pv 3) pa_nil)))) pss_nil)
        (pss_one (ps_expr (pe_call FJ hr1 rfl mJ kJ bJ .nil pass0 (pa_cons (pv 2) (pa_cons (pv 0) (pa_cons (pv 3) (pa_cons (pv 4) pa_nil))))))))))
      (pss_one (ps_ret (pv 2)))), ?_⟩
    -- trails = {(crossing, crossing): () ..}
    refine ⟨_, rfl, n, rfl, by omega, by omega, fun D hD => dcT_range (lo := 0) (n := n.toNat) (fun i Hc => ∃ kvs : List (List Key × V), Hc D = some (.dT kvs) ∧ Same H Hc ∧ (∀ x y, hasK kvs x y = true ↔ (0 ≤ x ∧ x < (i : Int)) ∧ x = y) ∧
        (∀ x y v, valV kvs (key2 x y) = some v → TrailAt K Hc [] x y v) ∧ kvs.length ≤ i)
      ⟨[], upd_same, Same.new hD, fun x y => ⟨fun z => (by cases z), fun z => (by omega)⟩, fun x y v z => (by cases z), Nat.le_refl _⟩ ?_ ?_⟩
    · rintro i Hc hi ⟨kvs, hk, sc, has, val, len⟩
      have e0 : (0 : Int) + (i : Int) = (i : Int) := Int.zero_add _
      rw [e0]
      refine ⟨rfl, ?_⟩
      unfold tYes
      refine iteT ?_
      refine ⟨_, rfl, _, rfl, (by show 2 ≤ sizeLine; decide), fun t1 h1 => ⟨Nat.zero_le _, fun t2 h2 => ?_⟩⟩
      have s1 : Same Hc (upd Hc t1 (.tup [.int (i : Int), .int (i : Int)])) := Same.new h1
      have s2 : Same Hc (upd (upd Hc t1 (.tup [.int (i : Int), .int (i : Int)])) t2 (.tup [])) := s1.trans (Same.new h2)
      have n2 : t1 ≠ t2 := ne_of_none upd_same h2
      refine ⟨kvs, key2 (i : Int) (i : Int), t1, rfl, by rw [upd_ne n2]; exact upd_same, s2 _ _ hk, small1000 (by omega), putK kvs (key2 (i : Int) (i : Int)) (.ref t2), upd_same, fun b o z => ?_, fun x y => ?_, fun x y v z => ?_, Nat.le_trans (length_putK _ _ _) (Nat.succ_le_succ len)⟩
      · rw [upd_ne (ne_of_none z hD)]
        exact s2 b o (sc b o z)
      · rw [hasK_put, has]
        constructor
        · rintro (⟨rfl, rfl⟩ | ⟨a, rfl⟩)
          · exact ⟨by omega, rfl⟩
          · exact ⟨by omega, rfl⟩
        · rintro ⟨a, rfl⟩
          by_cases q : x = (i : Int)
          · exact .inl ⟨q, q⟩
          · exact .inr ⟨by omega, rfl⟩
      · rw [valV_put] at z
        by_cases q : key2 x y = key2 (i : Int) (i : Int)
        · rw [if_pos q] at z
          obtain ⟨rfl, rfl⟩ := key2_inj.mp q
          cases z
          exact ⟨t2, [], rfl, sqT_but (SqT.of upd_same) (s2 _ _ hk) But.upd, .nil _, List.nodup_nil⟩
        · rw [if_neg q] at z
          exact ((val x y v z).same s2).but (s2 _ _ hk) But.upd
    rintro H1 ⟨kvs0, hk0, s1, has0, val0, len0⟩
    have T0 : TrOk K H1 D kvs0 n [] := by
      refine ⟨hk0, fun x y => ?_, val0, by have : n.toNat ≤ 24 := by omega
                                           exact Nat.le_trans len0 (by omega)⟩
      rw [has0]
      unfold In
      constructor
      · rintro ⟨a, rfl⟩
        exact ⟨by omega, by omega, .refl _⟩
      · rintro ⟨a, b, c⟩
        have e := c.nil
        exact ⟨by omega, e⟩
    have hS1 : SqT K H1 t (ps.map V.ref) := sqT_same hS s1
    -- for number, road in enumerate(roads)
    refine ⟨_, rfl, t, _, rfl, hS1, for_it (walk_enumT (K := K) (a := t) (xs := ps.map V.ref)) (fun i σ H2 => ∃ (v3 v4 : Option V) (kvs : List (List Key × V)), σ = [some (.int n), some (.ref t), some (.ref D), v3, v4, none] ∧ But D H1 H2 ∧ TrOk K H2 D kvs n (F.take i) ∧ dueR n [] F = dueR n (F.take i) (F.drop i))
      ⟨none, none, kvs0, rfl, But.refl, T0, rfl⟩ (fun i σ H2 _ ⟨_, _, _, _, b2, T2, _⟩ => sqT_but hS1 hk0 b2) ?_ ?_⟩
    · rintro i x σ H2 H3 hi ⟨v3, v4, kvs, rfl, b2, T2, e2⟩ ⟨T, x1, y1, rfl, hT, rfl, hx1, hy1⟩
      cases hx1
      rw [List.length_map] at hi
      obtain ⟨p, hp, rfl⟩ := map_get (show (ps.map V.ref)[i]? = some y1 from hy1)
      obtain ⟨r, hr', hrd⟩ := hR.get hp
      have sB : ∀ b o, H b = some o → H2 b = some o := fun b o z => b2 b o (s1 b o z) (ne_of_none z hD)
      have s3 : Same H2 (upd H2 T (.tup [.int (i : Nat), .ref p])) := Same.new hT
      have rd3 := (hrd.same sB).same s3
      have ed := drop_get hr'
      rw [ed] at e2
      have iF : i < F.length := (List.getElem?_eq_some_iff.mp hr').1
      have lenT : (F.take i).length = i := by rw [List.length_take]; omega
      refine ⟨T, _, rfl, SqT.of upd_same, rfl, _, _, rfl, _, _, rfl, rfl, ?_⟩
      refine ⟨_, rfl, _, rfl, n, p, r, rfl, rd3, fun z => ?_, fun z1 z2 => ?_, fun z1 z2 z3 => ?_, fun z1 z2 z3 H4 s4 => ?_⟩
      · rw [dueR_a z] at e2
        exact (kE _ e2).mono fun b o q => s3 b o (sB b o q)
      · rw [dueR_b z1 z2] at e2
        exact (kE _ e2).mono fun b o q => s3 b o (sB b o q)
      · rw [dueR_l z1 z2 z3] at e2
        exact (kE _ e2).mono fun b o q => s3 b o (sB b o q)
      have s5 : Same H2 H4 := s3.trans s4
      have rd4 := rd3.same s4
      obtain ⟨dx, hpx⟩ := id rd4
      have T4 := T2.same s5
      refine ⟨_, rfl, p, CR, dx, _, _, rfl, hpx, TR.cl, TR.nA, rdF_a r, _, rfl, p, CR, dx, _, _, rfl, hpx, TR.cl, TR.nB, rdF_b r, (by show 2 ≤ sizeLine; decide), fun t1 h1 => ?_⟩
      have s6 : Same H4 (upd H4 t1 (.tup [.int r.1, .int r.2.1])) := Same.new h1
      refine ⟨_, rfl, D, _, rfl, DGet.t (k := key2 r.1 r.2.1) (s6 _ _ T4.dc) upd_same, _, rfl, ?_⟩
      have s7 : Same H2 (upd H4 t1 (.tup [.int r.1, .int r.2.1])) := s5.trans s6
      cases e : hasK kvs r.1 r.2.1 with
      | true =>
        have e' : (valV kvs (key2 r.1 r.2.1)).isSome = true := e
        rw [e']
        have c := ((T2.has _ _).mp e).2.2
        rw [dueR_ring z1 z2 z3 c, lenT] at e2
        refine iteT ⟨_, rfl, len1, fun a ha => er1 ha ?_⟩
        exact Raised.mono (kE _ e2) fun b o q => s7 b o (sB b o q)
      | false =>
        have e' : (valV kvs (key2 r.1 r.2.1)).isSome = false := e
        rw [e']
        have nc : ¬ Con (F.take i) r.1 r.2.1 := fun c => by
          rw [(T2.has _ _).mpr ⟨z1, z2, c⟩] at e
          cases e
        rw [dueR_go z1 z2 z3 nc] at e2
        refine iteF ⟨_, rfl, _, rfl, _, rfl, _, rfl, D, p, n, F.take i, r, kvs, by rw [lenT]; rfl, rd4.same s6, T4.same s6, hn0, hn24, by rw [lenT]; omega, z1, z2, nc, fun H8 kvs8 T8 b8 => ?_⟩
        refine ⟨_, _, kvs8, rfl, fun b o q nb => b8 b o (s7 b o (b2 b o q nb)) nb, ?_, ?_⟩
        · rw [take_get hr']
          exact T8
        · rw [take_get hr']
          exact e2
    · rintro σ H2 ⟨v3, v4, kvs, rfl, b2, T2, e2⟩
      have el : (ps.map V.ref).length = F.length := by rw [List.length_map]; exact hR.len
      rw [el, List.take_length] at T2
      rw [el, List.take_length, List.drop_length, dueR_nil] at e2
      exact ⟨_, rfl, kQ e2 D kvs H2 T2 (fun b o z => b2 b o (s1 b o z) (ne_of_none z hD)) hD⟩
end
end OT
set_option Elab.async false
set_option linter.all false
set_option maxRecDepth 100000
set_option maxHeartbeats 2000000
namespace OT
open PySem L2 OTR
/-- what the walk asks of Tree -/
structure TeT (K : PySem.W.Frag) (mg : Str → Option Value) (C : Addr) : Prop where
  cl : Cls K C
  nC : NoAttr K C "crossings"
  nR : NoAttr K C "roads"
  nT : NoAttr K C "trails"
  mgC : mg "Tree" = some (.ref C)
def teF (n : Int) (t d : Addr) : List (Str × V) := [("crossings", .int n), ("roads", .ref t), ("trails", .ref d)]
theorem teF_c (n : Int) (t d : Addr) : (teF n t d).lookup ("crossings" : Str) = some (.int n) := lk0
theorem teF_r (n : Int) (t d : Addr) : (teF n t d).lookup ("roads" : Str) = some (.ref t) := by
  unfold teF
  rw [lk1 (by decide +kernel)]
  exact lk0
theorem teF1 (n : Int) (t : Addr) : putF "roads" (.ref t) (putF "crossings" (.int n) []) = ([("crossings", V.int n), ("roads", V.ref t)] : List (Str × V)) := by
  have h1 : ¬ (("crossings" : Str) = "roads") := by decide +kernel
  show (if ("crossings" : Str) = "roads" then [(("crossings" : Str), V.ref t)] else (("crossings" : Str), V.int n) :: putF "roads" (.ref t) []) = _
  rw [if_neg h1]
  rfl
theorem teF2 (n : Int) (t d : Addr) : putF "trails" (.ref d) [("crossings", .int n), ("roads", .ref t)] = teF n t d := by
  have h2 : ¬ (("crossings" : Str) = "trails") := by decide +kernel
  have h3 : ¬ (("roads" : Str) = "trails") := by decide +kernel
  show (if ("crossings" : Str) = "trails" then _ else (("crossings" : Str), V.int n) :: (if ("roads" : Str) = "trails" then _ else (("roads" : Str), V.ref t) :: putF "trails" (.ref d) [])) = _
  rw [if_neg h2, if_neg h3]
  rfl
theorem teF1_r (n : Int) (t : Addr) : ([("crossings", .int n), ("roads", .ref t)] : List (Str × V)).lookup ("roads" : Str) = some (.ref t) := by
  rw [lk1 (by decide +kernel)]
  exact lk0
/-- a tree at p: n crossings, the roads at ps in a tuple, the trails in a dict -/
def TreeAt (K : PySem.W.Frag) (CT CR : Addr) (H : Hp) (p : Addr) (n : Int) (ps : List Addr) (F : List Fact) : Prop :=
  ∃ (dx t d : Addr) (kvs : List (List Key × V)), H p = some (.ins CT dx (teF n t d)) ∧ SqT K H t (ps.map V.ref) ∧ RoadsAt CR H ps F ∧ TrOk K H d kvs n F
def SqA (K : PySem.W.Frag) (H : Hp) (l : Addr) (xs : List V) : Prop := SqL K H l xs ∨ SqT K H l xs
theorem SqA.same {K : PySem.W.Frag} {H H' : Hp} {l : Addr} {xs : List V} (h : SqA K H l xs) (s : Same H H') : SqA K H' l xs := h.elim (fun h => .inl (s.seq h)) fun h => .inr (sqT_same h s)
def spTreeI (K : PySem.W.Frag) (CT CR CB CN CG : Addr) : Sp := fun vs H Q E => ∃ (p dx l : Addr) (n : Int) (ps : List Addr) (F : List Fact) (H0 : Hp), vs = [.ref p, .int n, .ref l] ∧ H p = some (.ins CT dx []) ∧ H0 p = none ∧ Same H0 H ∧ SqA K H0 l (ps.map V.ref) ∧ RoadsAt CR H0 ps F ∧ F.length ≤ 1000 ∧
  (∀ e, due n F = some e → ErrR CB CN CG H0 E e) ∧ (due n F = none → ∀ H', TreeAt K CT CR H' p n ps F → Same H0 H' → Q .non H')
/-- tuple(a name), a list or a tuple at the name -/
def rTupO (K : PySem.W.Frag) : List V → Hp → VK → Prop := fun xs H Q => ∃ p ys, xs = [.ref p] ∧ ((SqL K H p ys ∧ ∀ l, H l = none → Q (.ref l) (upd H l (.tup ys))) ∨ (SqT K H p ys ∧ Q (.ref p) H))
theorem tupE {K : PySem.W.Frag} {σ : L2.St} {H : Hp} {i : Nat} {l : Addr} {ys : List V} {Q : VK} (hi : σ[i]? = some (some (.ref l))) (h : SqA K H l ys) (k : ∀ t H', Same H H' → SqT K H' t ys → Q (.ref t) H') : tCB (rTupO K) (tCons (tVar i) tNil) σ H Q := by
  refine ⟨_, hi, l, ys, rfl, ?_⟩
  rcases h with h | h
  · exact .inl ⟨h, fun t ht => k t _ (Same.new ht) (SqT.of upd_same)⟩
  · exact .inr ⟨h, k l H (Same.refl H) h⟩
theorem sqT_ins {K : PySem.W.Frag} {H : Hp} {p q C dx : Addr} {fs : List (Str × V)} {o : HO} {xs : List V} (hp : H p = some (.ins C dx fs)) (h : SqT K H q xs) : SqT K (upd H p o) q xs := by
  rcases h with (h | ⟨u, h⟩) | h
  · exact .inl (.inl (by rw [upd_ne (ne_of h hp (fun z => nomatch z))]; exact h))
  · exact .inl (.inr ⟨u, by rw [upd_ne (ne_of h hp (fun z => nomatch z))]; exact h⟩)
  · exact .inr h
theorem TrOk.ins {K : PySem.W.Frag} {H : Hp} {p d C dx : Addr} {fs : List (Str × V)} {o : HO} {kvs : List (List Key × V)} {n : Int} {F : List Fact} (h : TrOk K H d kvs n F) (hp : H p = some (.ins C dx fs)) : TrOk K (upd H p o) d kvs n F :=
  ⟨by rw [upd_ne (ne_of h.dc hp (fun z => nomatch z))]; exact h.dc, h.has, fun x y v z => let ⟨q, l, a, b, c⟩ := h.val x y v z; ⟨q, l, a, sqT_ins hp b, c⟩, h.len⟩
theorem due_c {n : Int} {F : List Fact} (h : ¬ (2 ≤ n ∧ n ≤ 24)) : due n F = some (.crossings n) := by
  unfold due
  rw [if_pos h]
theorem due_r {n : Int} {F : List Fact} (h : 2 ≤ n ∧ n ≤ 24) (h2 : (F.length : Int) ≠ n - 1) : due n F = some (.roads F.length) := by
  unfold due
  rw [if_neg (fun z => z h), if_pos h2]
theorem due_go {n : Int} {F : List Fact} (h : 2 ≤ n ∧ n ≤ 24) (h2 : (F.length : Int) = n - 1) : due n F = dueR n [] F := by
  unfold due
  rw [if_neg (fun z => z h), if_neg (fun z => z h2)]
section
variable {P : Program} {w : World} {K : PySem.W.Frag} {mg : Str → Option Value} {base : Heap}
theorem scTreeI : FnScope ["self", "crossings", "roads"] ["self", "crossings", "roads"] (defScope sTreeI) := ⟨rfl, rfl, rfl, by decide +kernel, rfl, by decide +kernel, by decide +kernel⟩
theorem ok_treeI {f fA CT CR CB CN CG fB : Addr} {fd fdA fdB : FuncData} (F : Fun K "__init__" "Tree.__init__" sTreeI f fd) (TT : TeT K mg CT) (TB : ErT K mg "BadCount" CB fB)
    (FB : FnOk P w K mg base CX0 1 fB fdB ["self", "what", "count"] (spEr2 CB "what" "count")) (bB : Binds K fdB ["self", "what", "count"] [])
    (FA : FnOk P w K mg base (L2.CX P w) 4 fA fdA ["crossings", "roads"] (spTrails K CR CB CN CG)) (bA : Binds K fdA ["crossings", "roads"] []) (mA : mg "trails_along" = some (.ref fA)) (kA : PySem.W.keepIn K (.ref fA) = true)
    (hLeast : ∃ t, mg "LEAST_CROSSINGS" = some (.int 2 t)) (hMost : ∃ t, mg "MOST_CROSSINGS" = some (.int 24 t)) (hLen : mg "len" = none) (hTup : mg "tuple" = none) :
    FnOk P w K mg base (L2.CX P w) 5 f fd ["self", "crossings", "roads"] (spTreeI K CT CR CB CN CG) := by
  refine F.okX scTreeI (fun vs H Q E h => ?_) (fun cdv A outer s H vs Q E hr h => ?_)
  · obtain ⟨p, dx, l, n, ps, F, H0, rfl, _⟩ := h
    rfl
  · obtain ⟨p, dx, l, n, ps, F, H0, rfl, hp, hp0, s0, hS, hR, hF, kE, kQ⟩ := h
    obtain ⟨tl, hLeast⟩ := hLeast
    obtain ⟨tm, hMost⟩ := hMost
    have hr2 : Room 2 _ := hr.mono (by decide)
    refine ⟨_, pss_cons (ps_if (pt_not (pt_chain op_le op_le (pe_glob (v := V.int 2) rfl hLeast ⟨tl, rfl⟩) (pv 1) (pe_glob (v := V.int 24) rfl hMost ⟨tm, rfl⟩)))
          (pss_one (ps_raise rfl (takes_of rfl rfl rfl rfl) (pmk_oex TB.ox TB.iC TB.tI FB hr2 bB .nil pass0 (by rfl) TB.gC (pa_cons pe_str (pa_cons (pv 1) pa_nil))))) pss_nil)
      (pss_cons (ps_if (pt_cmpR op_ne (pe_callB call_len_seq (by rfl) hLen PySem.boot_len (pa_cons (pv 2) pa_nil)) (pe_op op_sub (pv 1) pe_int) (nomark _))
          (pss_one (ps_raise rfl (takes_of rfl rfl rfl rfl) (pmk_oex TB.ox TB.iC TB.tI FB hr2 bB .nil pass0 (by rfl) TB.gC (pa_cons pe_str (pa_cons (pe_callB call_len_seq (by rfl) hLen PySem.boot_len (pa_cons (pv 2) pa_nil)) pa_nil))))) pss_nil)
      (pss_cons (ps_fld (pv 0) (pv 1) rfl)
      (pss_cons (ps_fld (pv 0) (pe_callTy (r := rTupO K) call_tuple_of (by rfl) hTup (by decide +kernel) (pa_cons (pv 2) pa_nil)) rfl)
      (pss_one (ps_fld (pv 0) (pe_call FA hr rfl mA kA bA .nil (passes_call (takes_of rfl rfl rfl rfl) fun _ _ _ _ h => h) (pa_cons (pv 1) (pa_cons (pe_fld (pv 0) rfl) pa_nil))) rfl))))), ?_⟩
    have lenE : (ps.map V.ref).length = F.length := by rw [List.length_map]; exact hR.len
    have bad : ¬ (2 ≤ n ∧ n ≤ 24) → Raised CB [("count", .int n), ("what", .str "crossings")] H E := fun z => Raised.mono (kE _ (due_c z)) s0
    have sp : ∀ {o : HO}, Same H0 (upd H p o) := fun {o} b u e => by
      rw [upd_ne (ne_of_none e hp0)]
      exact s0 b u e
    refine ⟨_, rfl, _, _, rfl, rfl, _, rfl, ?_⟩
    by_cases h0 : 2 ≤ n
    · rw [decide_eq_true h0]
      refine iteT ⟨_, _, rfl, rfl, _, rfl, ?_⟩
      by_cases h1 : n ≤ 24
      · rw [decide_eq_true h1]
        refine iteF ?_
        refine ⟨_, rfl, l, _, rfl, hS.same s0, _, rfl, _, _, rfl, rfl, rfl, _, rfl, ?_⟩
        rw [lenE]
        by_cases h2 : (F.length : Int) = n - 1
        · have hd := due_go ⟨h0, h1⟩ h2
          refine iteNS (by rw [h2]) ?_
          refine ⟨_, rfl, _, rfl, p, CT, dx, [], rfl, hp, TT.cl, TT.nC, (by show 0 < 1000; decide), ?_⟩
          refine tupE rfl (hS.same sp) fun t Hb sb ht => ?_
          have hpb := sb _ _ (upd_same (H := H) (a := p) (o := .ins CT dx (putF "crossings" (.int n) [])))
          have s0b : Same H0 Hb := sp.trans sb
          refine ⟨_, rfl, p, CT, dx, _, rfl, hpb, TT.cl, TT.nR, (by show 1 < 1000; decide), ?_⟩
          rw [teF1]
          have s0c : Same H0 (upd Hb p (.ins CT dx [("crossings", .int n), ("roads", .ref t)])) := fun b u e => by
            rw [upd_ne (ne_of_none e hp0)]
            exact s0b b u e
          have htc : SqT K (upd Hb p (.ins CT dx [("crossings", .int n), ("roads", .ref t)])) t (ps.map V.ref) := sqT_ins hpb ht
          refine ⟨_, rfl, _, rfl, p, CT, dx, _, _, rfl, upd_same, TT.cl, TT.nR, teF1_r n t, n, t, ps, F, rfl, htc, hR.same s0c, by omega, h1, by omega, fun e he => ?_, fun he d kvs H' T s' hd' => ?_⟩
          · exact (kE e (by rw [hd]; exact he)).mono s0c
          · have hp' := s' _ _ (upd_same (H := Hb) (a := p) (o := .ins CT dx [("crossings", .int n), ("roads", .ref t)]))
            have ndp : d ≠ p := ne_of T.dc hp' (fun z => nomatch z)
            have s0d : Same H0 (upd H' p (.ins CT dx (teF n t d))) := fun b u e => by
              rw [upd_ne (ne_of_none e hp0)]
              exact s' b u (s0c b u e)
            refine ⟨_, rfl, p, CT, dx, _, rfl, hp', TT.cl, TT.nT, (by show 2 < 1000; decide), ?_⟩
            rw [teF2]
            exact kQ (by rw [hd]; exact he) _ ⟨dx, t, d, kvs, upd_same, sqT_ins hp' (sqT_same htc s'), hR.same s0d, T.ins hp'⟩ s0d
        · have k2 : Raised CB [("count", .int F.length), ("what", .str "roads")] H E := Raised.mono (kE _ (due_r ⟨h0, h1⟩ h2)) s0
          have h3 : ¬ (V.int (F.length : Int) = V.int (n - 1)) := fun z => h2 (V.int.inj z)
          rw [decide_eq_false h3]
          refine iteT ⟨_, rfl, l, _, rfl, hS.same s0, len2, fun a ha => ?_⟩
          rw [lenE]
          exact er2 ha k2
      · rw [decide_eq_false h1]
        exact iteT ⟨_, rfl, len2, fun a ha => er2 ha (bad fun z => h1 z.2)⟩
    · rw [decide_eq_false h0]
      exact iteF ⟨_, rfl, iteT ⟨_, rfl, len2, fun a ha => er2 ha (bad fun z => h0 z.1)⟩⟩
end
end OT
set_option Elab.async false
set_option linter.all false
set_option maxRecDepth 100000
set_option maxHeartbeats 1000000
namespace OTR
open PySem PySem.Spec PyProof.Rows L2
section
variable {X : Cx}
/-- xs == [] -/
theorem op_eqNil (ul : X.A.units < cLine) : OpR X (compareOp .Eq) (rEqNil X.K) := by
  intro p0 s0 g0 H0 x y vx vy Q J rx ry h
  obtain ⟨a, b, xs, rfl, rfl, ea, eb, q⟩ := h
  obtain rfl : vx = Value.ref a := rx
  obtain rfl : vy = Value.ref b := ry
  obtain ⟨us, w1, l1, _⟩ := J.list ea
  obtain ⟨ws, w2, l2, _⟩ := J.list eb
  cases w2
  show wpAny (model X.prog X.w) X.A (richCompare .Eq (.ref a) (.ref b)) _ _ _
  cases xs with
  | nil =>
    cases w1
    have z := SeqAt.RcAt.lists (A := X.A) (s := s0) (e := fun _ => true) l1.isList l2.isList rfl ul (fun j h1 _ => absurd h1 (Nat.not_lt_zero j))
    exact z X.prog X.w _ _ ⟨.bl true, H0, J, rfl, q⟩
  | cons y ys =>
    cases w1 with
    | cons _ _ =>
      have z := SeqAt.RcAt.lists_lengths (A := X.A) (s := s0) l1.isList l2.isList (by simp) ul
      exact z X.prog X.w _ _ ⟨.bl false, H0, J, rfl, q⟩
/-- xs + ys, lists that are read -/
def rCatS (K : PySem.W.Frag) : R2 := fun x y H Q => ∃ l b xs zs, x = .ref l ∧ y = .ref b ∧ SqL K H l xs ∧ SqL K H b zs ∧ xs.length + zs.length ≤ sizeLine ∧ ∀ p, H p = none → Q (.ref p) (upd H p (.lst (xs ++ zs)))
theorem op_catS : OpR X (binaryOp .Add) (rCatS X.K) := by
  intro p0 s0 g0 H0 x y vx vy Q J rx ry h
  obtain ⟨l, b, xs, zs, rfl, rfl, ea, eb, hz, q⟩ := h
  cases rx
  cases ry
  obtain ⟨us, w1, l1, _⟩ := J.list ea
  obtain ⟨ws, w2, l2, _⟩ := J.list eb
  obtain ⟨⟨c1, d1, t1, k1⟩, o1, e1, n1, f1⟩ := l1.isList
  obtain ⟨⟨c2, d2, t2, k2⟩, o2, e2, n2, f2⟩ := l2.isList
  simp only at e1 f1 e2 f2
  subst e1 f1 e2 f2
  have zz : us.toArray.size + ws.toArray.size ≤ sizeLine := by
    rw [List.size_toArray, List.size_toArray, ← w1.length, ← w2.length]
    exact hz
  refine concat_meets ⟨_, o1, rfl⟩ ⟨_, o2, rfl⟩ noFill_list_add seq_list_add PySem.F.slot_list_add PySem.F.entry_list_add (PySem.F.args_list_add_2 _ _) (list_addW l b us.toArray ws.toArray n1 n2 d1 d2 k1 k2 zz) ⟨o1, o2, ?_⟩
  have ea' : us.toArray ++ ws.toArray = (us ++ ws).toArray := by simp
  rw [ea']
  exact ⟨.ref _, _, J.lnew (t' := s0.toks) (w1.append w2) (by rw [List.length_append]; exact hz), rfl, q _ J.fresh⟩
end
end OTR
set_option Elab.async false
set_option linter.all false
set_option maxRecDepth 100000
set_option maxHeartbeats 2000000
namespace OTR
open PySem PySem.Spec PyProof.Rows L2
/-- how two values are compared in the abstract heap: what is wanted of the answer -/
abbrev Rdg := V → V → Hp → (Bool → Hp → Prop) → Prop
def EqB (X : Cx) (n : Nat) (R : Rdg) : Prop := ∀ (A : Around) (pn : List (Addr × Obj)) (t : Shared) (σ : L2.St) (H : Hp) (x y : V) (u v : Value) (Q : Bool → Hp → Prop), Sub X n A → Inv X pn σ H t → RelV x u → RelV y v → R x y H Q →
  wpAny (model X.prog X.w) A (eqBool u v) (fun r t' => ∃ H', Inv X pn σ H' t' ∧ Q r H') X.xe t
def RcB (X : Cx) (n : Nat) (op : CmpOp) (R : Rdg) : Prop := ∀ (A : Around) (pn : List (Addr × Obj)) (t : Shared) (σ : L2.St) (H : Hp) (x y : V) (u v : Value) (Q : Bool → Hp → Prop), Sub X n A → Inv X pn σ H t → RelV x u → RelV y v → R x y H Q →
  wpAny (model X.prog X.w) A (richCompare op u v) (fun r t' => ∃ b H', r = .bool b ∧ Inv X pn σ H' t' ∧ Q b H') X.xe t
/-- what a value's type is -/
inductive HasT (H : Hp) : V → Value → Prop where
  | non : HasT H .non (.type "NoneType")
  | tup {a : Addr} {xs : List V} (e : H a = some (.tup xs)) : HasT H (.ref a) (.type "tuple")
  | lst {a : Addr} {xs : List V} (e : H a = some (.lst xs)) : HasT H (.ref a) (.type "list")
  | ins {a C dx : Addr} {fs : List (Str × V)} (e : H a = some (.ins C dx fs)) : HasT H (.ref a) (.ref C)
section
variable {X : Cx} {pn : List (Addr × Obj)} {σ : L2.St} {H : Hp} {t : Shared}
theorem HasT.looks {x : V} {u ty : Value} (h : HasT H x ty) (I : Inv X pn σ H t) (r : RelV x u) : PySem.W.Looks (model X.prog X.w) t.heap (typeOf u) ty := by
  cases h with
  | non =>
    cases (show u = Value.none from r)
    exact PySem.W.Looks.of_pure rfl
  | @tup a xs e =>
    cases (show u = Value.ref a from r)
    obtain ⟨_, _, _, o, g1, g2, _⟩ := (show ObjOk X.prog X.w H t.heap a (.tup xs) from I.hok a _ e)
    exact g2 ▸ (PySem.W.Looks.ld g1).andThen .now
  | @lst a xs e =>
    cases (show u = Value.ref a from r)
    obtain ⟨_, _, n, _, g1⟩ := (show ObjOk X.prog X.w H t.heap a (.lst xs) from I.hok a _ e)
    exact (PySem.W.Looks.ld g1).andThen .now
  | @ins a C dx fs e =>
    cases (show u = Value.ref a from r)
    obtain ⟨m, J, _⟩ := ins_get I.hok e
    obtain ⟨od, J, _⟩ := J.look
    exact J.type
variable {n : Nat} {C f : Addr} {fd : FuncData} {ps : List Str} {sp : Sp}
/-- the own __eq__ is called with the two -/
theorem run_own {A : Around} {x y : V} {u v : Value} {Q : VK} (F : FnOk X.prog X.w X.K X.mg X.base CX0 n f fd ps sp) (hb : Binds X.K fd ps []) (sb : Sub X n A) (I : Inv X pn σ H t) (rx : RelV x u) (ry : RelV y v) (h : sp [x, y] H Q fun _ _ _ => False) :
    wpAny (model X.prog X.w) A (call (.ref f) [u, v]) (fun r t' => ∃ z H', RelV z r ∧ Inv X pn σ H' t' ∧ Q z H') X.xe t := by
  have env : Env0 X.prog X.w X.K X.mg X.base A X.stack t H := by
    have e := I.env0
    exact ⟨by rw [sb.fr]; exact e.frames, e.mod, e.bs, e.bsz, e.funs, e.frf, e.hok, e.bare⟩
  have len := F.len _ _ _ _ h
  have two : Vals [x, y] [u, v] := .cons rx (.cons ry .nil)
  have bind := hb t [u, v] I.kIn (by simpa using len)
  refine wpAny_call (codeAny_mono (F.run A X.stack t H ⟨[u, v], []⟩ [u, v] [x, y] _ _ sb.room env (by simpa using bind) two h) fun r t' q => ?_)
  cases r with
  | error e => exact False.elim q
  | ok fl =>
    cases fl with
    | ret w =>
      obtain ⟨z, H', I', rz, q'⟩ := I.after q
      exact ⟨z, H', rz, I', q'⟩
    | next => exact False.elim q
    | brk => exact False.elim q
    | cont => exact False.elim q
end
section
variable {X : Cx} {n : Nat} {C f : Addr} {fd : FuncData} {ps : List Str} {sp : Sp}
/-- x is an instance of the class at C, y whatever its __eq__ takes -/
def ROwn (K : PySem.W.Frag) (C : Addr) (sp : Sp) : Rdg := fun x y H Q => ∃ (a dx : Addr) (fs : List (Str × V)) (ty : Value), x = .ref a ∧ H a = some (.ins C dx fs) ∧ HasT H y ty ∧ PySem.W.notFirst K C ty = true ∧ sp [x, y] H (fun z H' => ∃ b, z = .bl b ∧ Q b H') fun _ _ _ => False
theorem rcB_own (F : FnOk X.prog X.w X.K X.mg X.base CX0 n f fd ps sp) (hs : PySem.W.findIn X.K (.ref C) "__eq__" = some (some (.ref f))) (hf : PySem.W.isFn X.K (.ref f) = true) (hb : Binds X.K fd ps []) : RcB X n .Eq (ROwn X.K C sp) := by
  intro A pn t σ H x y u v Q sb I rx ry h
  obtain ⟨a, dx, fs, ty, rfl, ha, hy, nf, h⟩ := h
  have look := hy.looks I ry
  cases (show u = Value.ref a from rx)
  obtain ⟨m, J, _⟩ := ins_get I.hok ha
  obtain ⟨od, J, _⟩ := J.look
  obtain ⟨m2, fr⟩ := I.fr
  refine PySem.W.cmp_K (op := .Eq) sb.room.units0 fr I.ok.mod.kin J look nf hs hf ?_
  refine wpAny_mono (run_own F hb sb I rx ry h) (fun r t' q => ?_) fun _ _ z => z
  obtain ⟨z, H', rz, I', b, rfl, q⟩ := q
  cases (show r = Value.bool b from rz)
  exact ⟨b, H', rfl, I', q⟩
/-- from the comparison to == inside a list or a tuple: the same object is equal to itself -/
def ROr (R : Rdg) : Rdg := fun x y H Q => (∃ a, x = .ref a ∧ y = .ref a ∧ Q true H) ∨ (∃ t1 t2, HasT H x t1 ∧ HasT H y t2) ∧ x ≠ y ∧ R x y H Q
theorem HasT.val {H : Hp} {x : V} {u ty : Value} (h : HasT H x ty) (r : RelV x u) : (x = .non ∧ u = .none) ∨ ∃ a, x = .ref a ∧ u = .ref a := by
  cases h with
  | non => exact .inl ⟨rfl, r⟩
  | tup e => exact .inr ⟨_, rfl, r⟩
  | lst e => exact .inr ⟨_, rfl, r⟩
  | ins e => exact .inr ⟨_, rfl, r⟩
theorem RcB.eqB {R : Rdg} (h : RcB X n .Eq R) : EqB X n (ROr R) := by
  intro A pn t σ H x y u v Q sb I rx ry hq
  rcases hq with ⟨a, rfl, rfl, q⟩ | ⟨⟨t1, t2, h1, h2⟩, ne, q⟩
  · cases (show u = Value.ref a from rx)
    cases (show v = Value.ref a from ry)
    exact SeqAt.EqAt.same (A := A) (s := t) (.ref a) X.prog X.w X.xe _ ⟨H, I, q⟩
  · have rest : wpAny (model X.prog X.w) A (richCompare .Eq u v >>= truthOfDropped) (fun r t' => ∃ H', Inv X pn σ H' t' ∧ Q r H') X.xe t := by
      refine wpAny_bind (wpAny_mono (h A pn t σ H x y u v Q sb I rx ry q) (fun r t' z => ?_) fun _ _ z => z)
      obtain ⟨b, H', rfl, I', q'⟩ := z
      exact wpAny_truthy_bool ⟨H', I', q'⟩
    have neq : ¬ (u == v) = true := fun z => ne (by
      have z := eq_of_beq z
      rcases h1.val rx with ⟨e1, e2⟩ | ⟨a, e1, e2⟩ <;> rcases h2.val ry with ⟨e3, e4⟩ | ⟨b, e3, e4⟩
      · rw [e1, e3]
      · rw [e2, e4] at z; cases z
      · rw [e2, e4] at z; cases z
      · rw [e2, e4] at z
        cases z
        rw [e1, e3])
    unfold eqBool
    refine wpAny_holding ?_
    refine wpAny_ite_split (fun z => absurd z neq) (fun _ => ?_)
    rcases h1.val rx with ⟨_, rfl⟩ | ⟨a, _, rfl⟩ <;> exact rest
end
end OTR
set_option Elab.async false
set_option linter.all false
set_option maxRecDepth 100000
set_option maxHeartbeats 2000000
namespace OTR
open PySem PySem.Spec PyProof.Rows L2
open AutoSeq1 (wpAny_loadPart')
open MeetsSeq MeetsSeq2 MeetsSeq3 SeqRoads2
/-- the list at p holds all; x is looked for among the last ones -/
def inAll (R : Rdg) (p : Addr) (all : List V) (x : V) : List V → Hp → (Bool → Hp → Prop) → Prop
  | [], H, Q => H p = some (.lst all) ∧ Q false H
  | y :: ys, H, Q => H p = some (.lst all) ∧ R y x H fun b H' => if b = true then Q true H' else inAll R p all x ys H' Q
theorem inAll.at_ {R : Rdg} {p : Addr} {all ys : List V} {x : V} {H : Hp} {Q : Bool → Hp → Prop} (h : inAll R p all x ys H Q) : H p = some (.lst all) := by
  cases ys <;> exact h.1
section
variable {X : Cx} {n : Nat} {R : Rdg} {p : Addr} {all : List V} {x : V} {u : Value} {Q : Bool → Hp → Prop} {pn : List (Addr × Obj)} {σ : L2.St} {A : Around}
abbrev toldB (X : Cx) (pn : List (Addr × Obj)) (σ : L2.St) (Q : Bool → Hp → Prop) : Value → Shared → Prop := fun v t => ∃ b H, v = .bool b ∧ Inv X pn σ H t ∧ Q b H
end
end OTR
set_option Elab.async false
set_option linter.all false
set_option maxRecDepth 100000
set_option maxHeartbeats 2000000
namespace OTR
open PySem PySem.Spec PyProof.Rows L2
open AutoSeq1 (wpAny_loadPart')
open MeetsSeq MeetsSeq2 MeetsSeq3 SeqRoads2 SeqAt
section
variable {X : Cx} {n : Nat} {C f : Addr} {fd : FuncData} {ps : List Str} {sp : Sp} {R R' : Rdg}
theorem RcB.mono {op : CmpOp} {m : Nat} (h : RcB X n op R) (le : n ≤ m) : RcB X m op R := fun A pn t σ H x y u v Q sb => h A pn t σ H x y u v Q (sb.mono le)
theorem EqB.mono {m : Nat} (h : EqB X n R) (le : n ≤ m) : EqB X m R := fun A pn t σ H x y u v Q sb => h A pn t σ H x y u v Q (sb.mono le)
/-- as an expression -/
def rCmpB (R : Rdg) : R2 := fun x y H Q => R x y H fun b H' => Q (.bl b) H'
theorem op_eqB (h : RcB X n .Eq R) (hr : Room n X.A) : OpR X (compareOp .Eq) (rCmpB R) := by
  intro pn t σ H x y u v Q I rx ry q
  show wpAny (model X.prog X.w) X.A (richCompare .Eq u v) (EP X pn σ Q) X.xe t
  refine wpAny_mono (h X.A pn t σ H x y u v _ ⟨hr, rfl⟩ I rx ry q) (fun r t' z => ?_) fun _ _ z => z
  obtain ⟨b, H', rfl, I', q⟩ := z
  exact ⟨.bl b, H', I', rfl, q⟩
end
end OTR
set_option Elab.async false
set_option linter.all false
set_option maxRecDepth 100000
set_option maxHeartbeats 2000000
namespace OTR
open PySem PySem.Spec PyProof.Rows L2
open AutoSeq1 (wpAny_loadPart')
open MeetsSeq MeetsSeq2 MeetsSeq3 SeqRoads2 SeqAt
def eqAll (R : Rdg) : List V → List V → Hp → (Bool → Hp → Prop) → Prop
  | [], [], H, Q => Q true H
  | x :: xs, y :: ys, H, Q => R x y H fun b H' => if b = true then eqAll R xs ys H' Q else Q false H'
  | _, _, H, Q => Q false H
def RTup (K : PySem.W.Frag) (R : Rdg) : Rdg := fun x y H Q => ∃ (a b : Addr) (xs ys : List V), x = .ref a ∧ y = .ref b ∧ SqT K H a xs ∧ SqT K H b ys ∧ eqAll R xs ys H Q
section
variable {X : Cx} {n : Nat} {R : Rdg} {pn : List (Addr × Obj)} {σ : L2.St} {A : Around} {E : Value → Shared → Prop}
theorem tup_eq_body {a b : Addr} {us vs : List Value} {xs ys : List V} {H : Hp} {t : Shared} {P : Fin → Shared → Prop} {Q : Bool → Hp → Prop} (eq : EqB X n R) (sb : Sub X n A) (I : Inv X pn σ H t) (ea : t.heap.IsTuple a us.toArray) (eb : t.heap.IsTuple b vs.toArray) (rx : Vals xs us) (ry : Vals ys vs)
    (h : eqAll R xs ys H Q) (k : ∀ r H' t', Inv X pn σ H' t' → Q r H' → P (.done (.ret (.bool r))) t') : wpAny (model X.prog X.w) A (Builtin.«tuple.__eq__» ⟨[.ref a, .ref b], []⟩) P X.xe t := by
  obtain ⟨oa, g1, c1, m1, d1⟩ := ea
  obtain ⟨ob, g2, c2, m2, d2⟩ := eb
  show wpAny _ _ (isInstance (.ref b) (.type "tuple") >>= _) _ _ t
  refine wpAny_bind (wpAny_isInstance ⟨ob, g2, c2⟩ isSubtype_tuple_tuple ?_)
  simp only [Bool.not_true, Bool.false_eq_true, if_false]
  refine wpAny_bind (wpAny_tupleItemsOf g1 d1 ?_)
  refine wpAny_bind (wpAny_tupleItemsOf g2 d2 ?_)
  refine wpAny_bind ?_
  refine wpAny_forIn_list _ (fun rest r t' => r.1 = none ∧ ∃ (xs' ys' : List V) (us' vs' : List Value) (H' : Hp), rest = List.zip us' vs' ∧ Vals xs' us' ∧ Vals ys' vs' ∧ Inv X pn σ H' t' ∧ eqAll R xs' ys' H' Q ∧ (us'.length == vs'.length) = (us.toArray.size == vs.toArray.size))
    _ ?_ ?_ _ _ ⟨rfl, xs, ys, us, vs, H, rfl, rx, ry, I, h, by simp⟩
  · rintro ⟨u, v⟩ rest r t' ⟨hr, xs', ys', us', vs', H', hz, q1, q2, I', h', len⟩
    cases q1 with
    | nil => simp at hz
    | @cons x u' xs'' us'' p1 q1 =>
      cases q2 with
      | nil => simp at hz
      | @cons y v' ys'' vs'' p2 q2 =>
        simp only [List.zip_cons_cons, List.cons.injEq, Prod.mk.injEq] at hz
        obtain ⟨⟨rfl, rfl⟩, rfl⟩ := hz
        refine wpAny_bind (wpAny_mono (eq A pn t' σ H' x y _ _ _ sb I' p1 p2 h') (fun r2 t2 q => ?_) fun _ _ z => z)
        obtain ⟨H2, I2, q⟩ := q
        cases r2 with
        | true =>
          simp only [Bool.not_true, Bool.false_eq_true, if_false]
          exact wpAny_pure ⟨rfl, xs'', ys'', us'', vs'', H2, rfl, q1, q2, I2, q, by simpa using len⟩
        | false =>
          simp only [Bool.not_false, if_true]
          exact wpAny_bind (wpAny_pure (wpAny_pure (wpAny_pure (k false H2 t2 I2 q))))
  · rintro ⟨r1, r2⟩ t' ⟨hr, xs', ys', us', vs', H', hz, q1, q2, I', h', len⟩
    simp only at hr
    subst hr
    refine wpAny_pure ?_
    show P (.done (.ret (.bool (us.toArray.size == vs.toArray.size)))) t'
    rw [← len]
    cases q1 with
    | nil =>
      cases q2 with
      | nil => exact k true H' t' I' h'
      | cons _ _ => exact k false H' t' I' h'
    | cons _ _ =>
      cases q2 with
      | nil => exact k false H' t' I' h'
      | cons _ _ => simp at hz
theorem rcB_tup (eq : EqB X n R) : RcB X (n + 1) .Eq (RTup X.K R) := by
  intro A pn t σ H x y u v Q sb I rx ry h
  obtain ⟨a, b, xs, ys, rfl, rfl, ha, hb, h⟩ := h
  cases (show u = Value.ref a from rx)
  cases (show v = Value.ref b from ry)
  obtain ⟨us, r1, e1, _⟩ := I.tuple ha
  obtain ⟨vs, r2, e2, _⟩ := I.tuple hb
  refine wpAny_richCompare_same_room (op := .Eq) (T := "tuple") (let ⟨o, k1, k2, _⟩ := e1; ⟨o, k1, k2⟩) (let ⟨o, k1, k2, _⟩ := e2; ⟨o, k1, k2⟩) F.slot_tuple_eq (GQ.call_here F.slot_tuple_eq (let ⟨o, k1, k2, _⟩ := e1; ⟨o, k1, k2⟩) F.entry_tuple_eq (F.args_tuple_eq_2 _ _) ?_) sb.room.units0
  exact tup_eq_body eq sb.in1 I e1 e2 r1 r2 h fun r H' t' I' q => ⟨(fun z => nomatch z), r, H', rfl, I', q⟩
end
end OTR
set_option Elab.async false
set_option linter.all false
set_option maxRecDepth 100000
set_option maxHeartbeats 2000000
namespace OT
open PySem L2 OTR
abbrev sRoadE : Stmt := inClass (top 15) 1
abbrev sTreeE : Stmt := inClass (top 16) 1
abbrev sPlaceE : Stmt := inClass (top 22) 1
theorem hasTyx {K : PySem.W.Frag} {H : Hp} {x : V} {T : String} (h : HasT H x (.type T)) : TyX K H x (.type T) := by
  cases h with
  | non => exact .base .non
  | tup e => exact .base (.tup e)
  | lst e => exact .base (.lst e)
/-- None, a tuple, a list -/
def oth (T : String) : Prop := T = "NoneType" ∨ T = "tuple" ∨ T = "list"
theorem hasT_oth {H : Hp} {x : V} {T : String} (h : HasT H x (.type T)) : oth T := by
  cases h with
  | non => exact .inl rfl
  | tup e => exact .inr (.inl rfl)
  | lst e => exact .inr (.inr rfl)
/-- a class with an own __eq__ -/
structure QC (K : PySem.W.Frag) (C f : Addr) : Prop where
  cl : Cls K C
  ha : PySem.W.findIn K (.ref C) "__class__" = some (some (.builtin "object.__class__"))
  hn : PySem.W.specialIn K (.builtin "object.__class__") "__get__" = some (some (.builtin "getset_descriptor.__get__"))
  ht : PySem.W.takesIn K (.builtin "object.__class__") = some true
  hm : PySem.W.mroIn K C (.type "object") = some true
  eq : PySem.W.findIn K (.ref C) "__eq__" = some (some (.ref f))
  fn : PySem.W.isFn K (.ref f) = true
  ne : PySem.W.findIn K (.ref C) "__ne__" = some (some (.builtin "object.__ne__"))
  kit : ∀ T, oth T → PySem.W.kitOne K (.type T) (.ref C) = some false
  nf : ∀ T, oth T → PySem.W.notFirst K C (.type T) = true
  sub : ∀ T, oth T → PySem.W.subIn K (.ref C) (.type T) = some false
theorem kit_same {K : PySem.W.Frag} {C : Addr} : PySem.W.kitOne K (.ref C) (.ref C) = some true := by
  unfold PySem.W.kitOne
  rw [if_pos (by simp)]
theorem nf_same {K : PySem.W.Frag} {C : Addr} : PySem.W.notFirst K C (.ref C) = true := by
  unfold PySem.W.notFirst
  simp
theorem QC.tyx {K : PySem.W.Frag} {C f : Addr} (c : QC K C f) {H : Hp} {a dx : Addr} {fs : List (Str × V)} (e : H a = some (.ins C dx fs)) : TyX K H (.ref a) (.ref C) := .base (.ins e c.cl c.ha c.hn c.ht c.hm)
theorem iteV {α β : Prop} {i j : Int} (h : i = j) (x : α) : if decide (V.int i = V.int j) = true then α else β := by
  rw [if_pos (decide_eq_true (by rw [h]))]
  exact x
theorem iteN {α β : Prop} {i j : Int} (h : i ≠ j) (x : β) : if decide (V.int i = V.int j) = true then α else β := by
  rw [if_neg (by rw [decide_eq_false (fun z => h (V.int.inj z))]; exact Bool.false_ne_true)]
  exact x
/-- Road.__eq__ -/
def spRoadE (C : Addr) : Sp := fun vs H Q _ => ∃ (a dx : Addr) (r : Fact) (y : V), vs = [.ref a, y] ∧ H a = some (.ins C dx (rdF r)) ∧ ((∃ (b dy : Addr) (r' : Fact), y = .ref b ∧ H b = some (.ins C dy (rdF r')) ∧ Q (.bl (decide (r = r'))) H) ∨ ((∃ T, HasT H y (.type T)) ∧ Q (.bl false) H))
section
variable {P : Program} {w : World} {K : PySem.W.Frag} {mg : Str → Option Value} {base : Heap}
theorem scRoadE : FnScope ["self", "other"] ["self", "other"] (defScope sRoadE) := ⟨rfl, rfl, rfl, by decide +kernel, rfl, by decide +kernel, by decide +kernel⟩
theorem ok_roadE {f C fe : Addr} {fd : FuncData} (F : Fun K "__eq__" "Road.__eq__" sRoadE f fd) (T : RdT K mg C) (c : QC K C fe) (hIs : mg "isinstance" = none) : FnOk P w K mg base CX0 1 f fd ["self", "other"] (spRoadE C) := by
  refine F.ok scRoadE (fun vs H Q E h => ?_) (fun cdv A outer s H vs Q E hr h => ?_)
  · obtain ⟨a, dx, r, y, rfl, _⟩ := h
    rfl
  · obtain ⟨a, dx, r, y, rfl, ea, h⟩ := h
    refine ⟨_, pss_one (ps_ret (pe_and (pe_callB call_isi (by rfl) hIs (by decide +kernel) (pa_cons (pv 1) (pa_cons (pe_glob (v := V.ref C) rfl T.mgC rfl) pa_nil)))
      (pe_and (pe_cmpR op_eq (pe_fld (pv 0) rfl) (pe_fld (pv 1) rfl) (nomark _)) (pe_and (pe_cmpR op_eq (pe_fld (pv 0) rfl) (pe_fld (pv 1) rfl) (nomark _)) (pe_one (pe_cmpR op_eq (pe_fld (pv 0) rfl) (pe_fld (pv 1) rfl) (nomark _))))))), ?_⟩
    rcases h with ⟨b, dy, r', rfl, eb, k⟩ | ⟨⟨ty, hy⟩, k⟩
    · refine ⟨_, rfl, _, _, _, _, true, rfl, .own C, c.tyx eb, kit_same, _, rfl, ?_⟩
      refine iteT ⟨_, rfl, a, C, dx, _, _, rfl, ea, T.cl, T.nA, rdF_a r, _, rfl, b, C, dy, _, _, rfl, eb, T.cl, T.nA, rdF_a r', rfl, _, rfl, ?_⟩
      by_cases h1 : r.1 = r'.1
      · refine iteV h1 ⟨_, rfl, a, C, dx, _, _, rfl, ea, T.cl, T.nB, rdF_b r, _, rfl, b, C, dy, _, _, rfl, eb, T.cl, T.nB, rdF_b r', rfl, _, rfl, ?_⟩
        by_cases h2 : r.2.1 = r'.2.1
        · refine iteV h2 ⟨_, rfl, a, C, dx, _, _, rfl, ea, T.cl, T.nL, rdF_l r, _, rfl, b, C, dy, _, _, rfl, eb, T.cl, T.nL, rdF_l r', rfl, ?_⟩
          have e : decide (V.int r.2.2 = V.int r'.2.2) = decide (r = r') := by
            rw [decide_eq_decide]
            exact ⟨fun z => Prod.ext h1 (Prod.ext h2 (V.int.inj z)), fun z => by rw [z]⟩
          rw [e]
          exact k
        · refine iteN h2 ?_
          rw [decide_eq_false (fun z : r = r' => h2 (by rw [z]))] at k
          exact k
      · refine iteN h1 ?_
        rw [decide_eq_false (fun z : r = r' => h1 (by rw [z]))] at k
        exact k
    · exact ⟨_, rfl, _, _, _, _, false, rfl, .own C, hasTyx hy, c.kit _ (hasT_oth hy), _, rfl, iteF k⟩
end
end OT
set_option Elab.async false
set_option linter.all false
set_option maxRecDepth 100000
set_option maxHeartbeats 2000000
namespace OT
open PySem L2 OTR
theorem rdF_inj {r r' : Fact} (h : rdF r = rdF r') : r = r' := by
  unfold rdF at h
  simp only [List.cons.injEq, Prod.mk.injEq, V.int.injEq, true_and, and_true] at h
  exact Prod.ext h.1 (Prod.ext h.2.1 h.2.2)
theorem RoadAt.inj {CR : Addr} {H : Hp} {p : Addr} {r r' : Fact} (h : RoadAt CR H p r) (k : RoadAt CR H p r') : r = r' := by
  obtain ⟨dx, e⟩ := h
  obtain ⟨dy, e'⟩ := k
  rw [e] at e'
  injection e' with e'
  injection e' with _ _ e'
  exact rdF_inj e'
/-- two roads compared: each is itself, else by their fields -/
theorem eq_road {K : PySem.W.Frag} {CR : Addr} {H : Hp} {p p' : Addr} {r r' : Fact} {Q : Bool → Hp → Prop} (h : RoadAt CR H p r) (k : RoadAt CR H p' r') (q : Q (decide (r = r')) H) : ROr (ROwn K CR (spRoadE CR)) (.ref p) (.ref p') H Q := by
  by_cases e : p = p'
  · subst e
    refine .inl ⟨p, rfl, rfl, ?_⟩
    rw [decide_eq_true (h.inj k)] at q
    exact q
  · obtain ⟨dx, e1⟩ := h
    obtain ⟨dy, e2⟩ := k
    exact .inr ⟨⟨_, _, .ins e1, .ins e2⟩, fun z => e (V.ref.inj z), p, dx, rdF r, _, rfl, e1, .ins e2, nf_same, p, dx, r, _, rfl, e1, .inl ⟨p', dy, r', rfl, e2, _, rfl, q⟩⟩
theorem eqAll_roads {K : PySem.W.Frag} {CR : Addr} {H : Hp} {Q : Bool → Hp → Prop} : ∀ {ps ps' : List Addr} {F F' : List Fact}, RoadsAt CR H ps F → RoadsAt CR H ps' F' → Q (decide (F = F')) H → eqAll (ROr (ROwn K CR (spRoadE CR))) (ps.map V.ref) (ps'.map V.ref) H Q
  | _, _, _, _, .nil, .nil, q => q
  | _, _, _, _, .nil, .cons _ _, q => q
  | _, _, _, _, .cons _ _, .nil, q => q
  | _, _, _, _, .cons (b := r) h t, .cons (b := r') k u, q => by
    refine eq_road h k ?_
    by_cases e : r = r'
    · subst e
      rw [decide_eq_true rfl, if_pos rfl]
      refine eqAll_roads t u ?_
      have z : ∀ F F' : List Fact, decide (r :: F = r :: F') = decide (F = F') := fun F F' => by simp
      rw [z] at q
      exact q
    · rw [decide_eq_false e, if_neg Bool.false_ne_true]
      rw [decide_eq_false (fun z => e (List.cons.inj z).1)] at q
      exact q
/-- Tree.__eq__ -/
def spTreeE (K : PySem.W.Frag) (CT CR : Addr) : Sp := fun vs H Q _ => ∃ (a : Addr) (n : Int) (ps : List Addr) (F : List Fact) (y : V), vs = [.ref a, y] ∧ TreeAt K CT CR H a n ps F ∧
  ((∃ (b : Addr) (n' : Int) (ps' : List Addr) (F' : List Fact), y = .ref b ∧ TreeAt K CT CR H b n' ps' F' ∧ Q (.bl (decide (n = n' ∧ F = F'))) H) ∨ ((∃ T, HasT H y (.type T)) ∧ Q (.bl false) H))
section
variable {P : Program} {w : World} {K : PySem.W.Frag} {mg : Str → Option Value} {base : Heap}
theorem scTreeE : FnScope ["self", "other"] ["self", "other"] (defScope sTreeE) := ⟨rfl, rfl, rfl, by decide +kernel, rfl, by decide +kernel, by decide +kernel⟩
theorem ok_treeE {f C fe CR fR : Addr} {fd fdR : FuncData} (F : Fun K "__eq__" "Tree.__eq__" sTreeE f fd) (T : TeT K mg C) (c : QC K C fe) (cR : QC K CR fR) (FR : FnOk P w K mg base CX0 1 fR fdR ["self", "other"] (spRoadE CR)) (bR : Binds K fdR ["self", "other"] []) (hIs : mg "isinstance" = none) :
    FnOk P w K mg base CX0 3 f fd ["self", "other"] (spTreeE K C CR) := by
  refine F.ok scTreeE (fun vs H Q E h => ?_) (fun cdv A outer s H vs Q E hr h => ?_)
  · obtain ⟨a, n, ps, F, y, rfl, _⟩ := h
    rfl
  · obtain ⟨a, n, ps, F, y, rfl, TA, h⟩ := h
    refine ⟨_, pss_one (ps_ret (pe_and (pe_callB call_isi (by rfl) hIs (by decide +kernel) (pa_cons (pv 1) (pa_cons (pe_glob (v := V.ref C) rfl T.mgC rfl) pa_nil)))
      (pe_and (pe_cmpR op_eq (pe_fld (pv 0) rfl) (pe_fld (pv 1) rfl) (nomark _)) (pe_one (pe_cmpR (op_eqB (rcB_tup (RcB.eqB (rcB_own FR cR.eq cR.fn bR))) hr) (pe_fld (pv 0) rfl) (pe_fld (pv 1) rfl) (nomark _)))))), ?_⟩
    obtain ⟨dx, t, d, kvs, ea, et, rds, _⟩ := TA
    rcases h with ⟨b, n', ps', F', rfl, TB, k⟩ | ⟨⟨ty, hy⟩, k⟩
    · obtain ⟨dy, t', d', kvs', eb, et', rds', _⟩ := TB
      refine ⟨_, rfl, _, _, _, _, true, rfl, .own C, c.tyx eb, kit_same, _, rfl, ?_⟩
      refine iteT ⟨_, rfl, a, C, dx, _, _, rfl, ea, T.cl, T.nC, teF_c n t d, _, rfl, b, C, dy, _, _, rfl, eb, T.cl, T.nC, teF_c n' t' d', rfl, _, rfl, ?_⟩
      by_cases h1 : n = n'
      · refine iteV h1 ⟨_, rfl, a, C, dx, _, _, rfl, ea, T.cl, T.nR, teF_r n t d, _, rfl, b, C, dy, _, _, rfl, eb, T.cl, T.nR, teF_r n' t' d', t, t', _, _, rfl, rfl, et, et', eqAll_roads rds rds' ?_⟩
        have z : decide (n = n' ∧ F = F') = decide (F = F') := by rw [decide_eq_decide]; exact ⟨fun z => z.2, fun z => ⟨h1, z⟩⟩
        rw [z] at k
        exact k
      · refine iteN h1 ?_
        rw [decide_eq_false (fun z : n = n' ∧ F = F' => h1 z.1)] at k
        exact k
    · exact ⟨_, rfl, _, _, _, _, false, rfl, .own C, hasTyx hy, c.kit _ (hasT_oth hy), _, rfl, iteF k⟩
end
end OT
set_option Elab.async false
set_option linter.all false
set_option maxRecDepth 100000
set_option maxHeartbeats 2000000
namespace OT
open PySem L2 OTR
abbrev sTreeD : Stmt := top 50
theorem sqL_but {K : PySem.W.Frag} {H H' : Hp} {s l : Addr} {xs : List V} (h : SqL K H l xs) (n : l ≠ s) (e : But s H H') : SqL K H' l xs := by
  rcases h with (h | ⟨o, h⟩) | h
  · exact .inl (.inl (e _ _ h n))
  · exact .inl (.inr ⟨o, e _ _ h n⟩)
  · exact .inr h
theorem Src.same {s : Addr} {H H' : Hp} (h : Src H s) (e : Same H H') : Src H' s := let ⟨a, b, c, h0, h1⟩ := h; ⟨a, b, c, h0, e _ _ h1⟩
theorem Src.ne {s l : Addr} {H : Hp} {o : HO} (h : Src H s) (hl : H l = some o) (d : ∀ a b c : Int, o ≠ .lst [.int a, .int b, .int c]) : l ≠ s := fun z => by
  obtain ⟨a, b, c, _, h1⟩ := h
  rw [z, h1] at hl
  exact d a b c (Option.some.inj hl).symm
theorem Src.new {s l : Addr} {H : Hp} (h : Src H s) (hl : H l = none) : l ≠ s := fun z => by
  obtain ⟨a, b, c, _, h1⟩ := h
  rw [z, h1] at hl
  cases hl
theorem But.new {s l : Addr} {H H' : Hp} {o : HO} (b : But s H H') (hl : H l = none) : But s H (L2.upd H' l o) := fun c u e n => by
  rw [upd_ne (ne_of_none e hl)]
  exact b c u e n
theorem Src.upd {s l : Addr} {H : Hp} {o : HO} (h : Src H s) (n : l ≠ s) : Src (L2.upd H l o) s := let ⟨a, b, c, h0, h1⟩ := h; ⟨a, b, c, h0, by rw [upd_ne (Ne.symm n)]; exact h1⟩
def spShuf : Sp := fun vs H Q _ => ∃ (s l : Addr) (xs : List V), vs = [.ref s, .ref l] ∧ Src H s ∧ H l = some (.lst xs) ∧ xs.length ≤ 1000 ∧ ∀ p ys H', ys.Perm xs → H p = none → H' p = some (.lst ys) → Src H' s → But s H H' → Q (.ref p) H'
theorem seqIx {i : Int} {n : Nat} (h0 : 0 ≤ i) (h1 : i < n) : seqIndex? i n = some i.toNat := by
  unfold seqIndex?
  have e : (if i < 0 then i + (n : Int) else i) = i := if_neg (by omega)
  simp only [e]
  rw [if_pos (by simp; omega)]
theorem perm_erase {α : Type} : ∀ {l : List α} {k : Nat} {y : α}, l[k]? = some y → (y :: l.eraseIdx k).Perm l
  | [], k, y, h => by simp at h
  | a :: l, 0, y, h => by
    have e := Option.some.inj h
    subst e
    exact List.Perm.refl _
  | a :: l, k + 1, y, h => by
    have ih := perm_erase (l := l) (k := k) (y := y) h
    exact (List.Perm.swap a y _).trans (ih.cons a)
section
variable {P : Program} {w : World} {K : PySem.W.Frag} {mg : Str → Option Value} {base : Heap}
theorem scPick : FnScope ["_law_source_here", "_law_some"] ["_law_source_here", "_law_some"] (defScope sPick) := ⟨rfl, rfl, rfl, by decide +kernel, rfl, by decide +kernel, by decide +kernel⟩
theorem ok_pick {f fD : Addr} {fd fdD : FuncData} (F : Fun K "_law_pick" "_law_pick" sPick f fd) (FD : FnOk P w K mg base CX0 1 fD fdD ["_law_source_here", "_law_many"] spDraw) (bD : Binds K fdD ["_law_source_here", "_law_many"] []) (mD : mg "_law_draw" = some (.ref fD)) (kD : PySem.W.keepIn K (.ref fD) = true)
    (hLen : mg "len" = none) : FnOk P w K mg base CX0 2 f fd ["_law_source_here", "_law_some"] (spPick K) := by
  refine F.ok scPick (fun vs H Q E h => ?_) (fun cdv A outer s H vs Q E hr h => ?_)
  · obtain ⟨s, l, xs, rfl, _⟩ := h
    rfl
  · obtain ⟨s, l, xs, rfl, hs, hn, hl, l0, l1, k⟩ := h
    refine ⟨_, pss_one (ps_ret (pe_ix ix_list (pv 1) (pe_call FD hr rfl mD kD bD .nil pass0 (pa_cons (pv 0) (pa_cons (pe_callB call_len_seq (by rfl) hLen PySem.boot_len (pa_cons (pv 1) pa_nil)) pa_nil))) (fun _ _ => rfl))), ?_⟩
    refine ⟨_, rfl, _, rfl, _, rfl, l, xs, rfl, .inl hl, s, _, rfl, hs, by omega, by omega, fun r H' r0 r1 src b => ?_⟩
    obtain ⟨j, rfl⟩ : ∃ j : Nat, r = (j : Int) := ⟨r.toNat, by omega⟩
    have hj : j < xs.length := by omega
    exact ⟨l, xs, (j : Int), xs[j], rfl, rfl, sqL_but hl hn b, atI_nat (List.getElem?_eq_getElem hj), k _ _ (List.getElem_mem hj) src b⟩
theorem scShuf : FnScope ["_law_source_here", "_law_some", "_law_left", "_law_found"] ["_law_source_here", "_law_some"] (defScope sShuf) := ⟨rfl, rfl, rfl, by decide +kernel, rfl, by decide +kernel, by decide +kernel⟩
theorem ok_shuf {f fD : Addr} {fd fdD : FuncData} (F : Fun K "_law_shuffled" "_law_shuffled" sShuf f fd) (FD : FnOk P w K mg base CX0 1 fD fdD ["_law_source_here", "_law_many"] spDraw) (bD : Binds K fdD ["_law_source_here", "_law_many"] []) (mD : mg "_law_draw" = some (.ref fD)) (kD : PySem.W.keepIn K (.ref fD) = true)
    (hLen : mg "len" = none) (hList : mg "list" = none) : FnOk P w K mg base CX0 2 f fd ["_law_source_here", "_law_some"] spShuf := by
  refine F.ok scShuf (fun vs H Q E h => ?_) (fun cdv A outer s H vs Q E hr h => ?_)
  · obtain ⟨s, l, xs, rfl, _⟩ := h
    rfl
  · obtain ⟨s, l, xs, rfl, hs, hl, lx, k⟩ := h
    have hu : (A.deeper (PyProof.Rows.envOfC "_law_shuffled" (defScope sShuf) _ f cdv)).units < cLine := Nat.lt_of_succ_lt (hu_of hr)
    refine ⟨_, pss_cons (ps_set (i := 2) scShuf.nd rfl (Or.inl rfl) (pe_callTy call_list_of (by rfl) hList (by decide +kernel) (pa_cons (pv 1) pa_nil)))
      (pss_cons (ps_set (i := 3) scShuf.nd rfl (Or.inl rfl) (pe_lst pa_nil))
      (pss_cons (ps_while PassesOwn.never (pt_cmpR (op_neNil hu) (pv 2) (pe_lst pa_nil) (nomark _))
        (pss_one (ps_expr (pe_bm PySem.F.plainAttrs_list PySem.F.slot_list_append PySem.F.type_list_append mt_append (pv 3)
          (pa_cons (pe_bm PySem.F.plainAttrs_list PySem.F.slot_list_pop PySem.F.type_list_pop mt_popAt (pv 2) (pa_cons (pe_call FD hr rfl mD kD bD .nil pass0 (pa_cons (pv 0) (pa_cons (pe_callB call_len_seq (by rfl) hLen PySem.boot_len (pa_cons (pv 2) pa_nil)) pa_nil))) pa_nil)) pa_nil)))))
      (pss_one (ps_ret (pv 3))))), ?_⟩
    refine ⟨_, rfl, l, xs, rfl, .inl (SqL.of hl), fun p2 h2 => ⟨Nat.zero_le _, fun p3 h3 => ?_⟩⟩
    have n2 : p2 ≠ s := hs.new h2
    have hs2 : Src (upd H p2 (.lst xs)) s := hs.same (Same.new h2)
    have n3 : p3 ≠ s := hs2.new h3
    have n32 : p2 ≠ p3 := ne_of_none upd_same h3
    have H3 : H p3 = none := by
      rw [upd_ne (Ne.symm n32)] at h3
      exact h3
    refine ⟨fun m σ H2 => ∃ ls fs : List V, σ = [some (.ref s), some (.ref l), some (.ref p2), some (.ref p3)] ∧ H2 p2 = some (.lst ls) ∧ H2 p3 = some (.lst fs) ∧ (fs ++ ls).Perm xs ∧ Src H2 s ∧ But s H H2 ∧ m = ls.length,
      ⟨xs.length, xs, [], rfl, by rw [upd_ne n32]; exact upd_same, upd_same, List.Perm.refl _, hs2.same (Same.new h3), fun b o e nb => by rw [upd_ne (ne_of_none e H3), upd_ne (ne_of_none e h2)]; exact e, rfl⟩, ?_⟩
    rintro m σ H2 ⟨ls, fs, rfl, g2, g3, pm, src, b2, rfl⟩
    refine ⟨_, rfl, Nat.zero_le _, fun q hq => ⟨p2, q, ls, rfl, rfl, SqL.of (by rw [upd_ne (ne_of_none g2 hq)]; exact g2), SqL.of upd_same, _, rfl, ?_⟩⟩
    have sq : Same H2 (upd H2 q (.lst [])) := Same.new hq
    have ltot : ls.length ≤ 1000 := by
      have := pm.length_eq
      rw [List.length_append] at this
      omega
    have ftot : fs.length ≤ 1000 := by
      have := pm.length_eq
      rw [List.length_append] at this
      omega
    cases ls with
    | nil =>
      refine iteF ⟨_, rfl, k p3 fs _ (by rw [List.append_nil] at pm; exact pm) H3 (sq _ _ g3) (src.same sq) fun b o e nb => sq b o (b2 b o e nb)⟩
    | cons y ys =>
      refine iteT ⟨fun σ' H' => ∃ ls' fs' : List V, σ' = [some (.ref s), some (.ref l), some (.ref p2), some (.ref p3)] ∧ H' p2 = some (.lst ls') ∧ H' p3 = some (.lst fs') ∧ (fs' ++ ls').Perm xs ∧ Src H' s ∧ But s H H' ∧ ls'.length < (y :: ys).length,
        fun σ' H' ⟨ls', fs', e1, e2, e3, e4, e5, e6, e7⟩ => ⟨ls'.length, e7, ls', fs', e1, e2, e3, e4, e5, e6, rfl⟩, ?_⟩
      refine ⟨_, rfl, .inl ⟨rfl, _, SqL.of (sq _ _ g3)⟩, _, rfl, .inl ⟨rfl, _, SqL.of (sq _ _ g2)⟩, _, rfl, _, rfl, p2, y :: ys, rfl, .inl (SqL.of (sq _ _ g2)), s, _, rfl, src.same sq, by rw [List.length_cons]; omega, by omega, fun r H5 r0 r1 src5 b5 => ?_⟩
      have g25 := b5 _ _ (sq _ _ g2) n2
      have g35 := b5 _ _ (sq _ _ g3) n3
      obtain ⟨j, rfl⟩ : ∃ j : Nat, r = (j : Int) := ⟨r.toNat, by omega⟩
      have hj : j < (y :: ys).length := by omega
      refine ⟨p2, y :: ys, (j : Int), j, (y :: ys)[j], rfl, rfl, g25, by omega, by omega, by rw [seqIx r0 r1]; simp, List.getElem?_eq_getElem hj, ?_⟩
      refine ⟨p3, fs, _, rfl, rfl, by rw [upd_ne (Ne.symm n32)]; exact g35, small1000 ftot, ?_⟩
      have pe := perm_erase (List.getElem?_eq_getElem hj)
      refine ⟨(y :: ys).eraseIdx j, fs ++ [(y :: ys)[j]], rfl, by rw [upd_ne n32]; exact upd_same, upd_same, ?_, (src5.upd n2).upd n3, fun b o e nb => ?_, ?_⟩
      · rw [List.append_assoc]
        exact (List.Perm.append_left fs pe).trans pm
      · rw [upd_ne (ne_of_none e H3), upd_ne (ne_of_none e h2)]
        exact b5 b o (sq b o (b2 b o e nb)) nb
      · rw [List.length_eraseIdx_of_lt hj]
        omega
end
end OT
namespace OT
/-- no road of fs joins what the others join already -/
def NoRing (fs : List Fact) : Prop := ∀ (i : Nat) (r : Fact), fs[i]? = some r → ¬ Con (fs.eraseIdx i) r.1 r.2.1
/-- a crossing that no road of F meets -/
theorem Con.alone {F : List Fact} {v x : Int} (h : Con F x v) (no : ∀ r ∈ F, r.1 ≠ v ∧ r.2.1 ≠ v) : x = v := by
  cases h with
  | refl => rfl
  | step _ m j =>
    obtain ⟨n1, n2⟩ := no _ m
    rcases j with ⟨_, e⟩ | ⟨e, _⟩
    · exact absurd e n2
    · exact absurd e n1
theorem noRing_nil : NoRing [] := fun i r h => by simp at h
theorem noRing_add {fs : List Fact} {r : Fact} {v u : Int} (h : NoRing fs) (no : ∀ q ∈ fs, q.1 ≠ v ∧ q.2.1 ≠ v) (e : (r.1 = v ∧ r.2.1 = u) ∨ (r.1 = u ∧ r.2.1 = v)) (ne : u ≠ v) : NoRing (fs ++ [r]) := by
  intro i q hi c
  by_cases hl : i < fs.length
  · rw [List.getElem?_append_left hl] at hi
    rw [List.eraseIdx_append_of_lt_length hl] at c
    have mq : q ∈ fs := List.mem_of_getElem? hi
    have no' : ∀ p ∈ fs.eraseIdx i, p.1 ≠ v ∧ p.2.1 ≠ v := fun p hp => no p (List.mem_of_mem_eraseIdx hp)
    obtain ⟨q1, q2⟩ := no q mq
    rcases con_snoc.mp c with c | ⟨c1, c2⟩ | ⟨c1, c2⟩
    · exact h i q hi c
    · rcases e with ⟨e1, e2⟩ | ⟨e1, e2⟩
      · rw [e1] at c1
        exact q1 (c1.alone no')
      · rw [e2] at c2
        exact q2 (c2.symm.alone no')
    · rcases e with ⟨e1, e2⟩ | ⟨e1, e2⟩
      · rw [e1] at c2
        exact q2 (c2.symm.alone no')
      · rw [e2] at c1
        exact q1 (c1.alone no')
  · have hl2 : fs.length ≤ i := Nat.le_of_not_lt hl
    rw [List.getElem?_append_right hl2] at hi
    have e0 : i = fs.length := by
      have z := (List.getElem?_eq_some_iff.mp hi).1
      simp at z
      omega
    subst e0
    rw [Nat.sub_self] at hi
    cases hi
    rw [List.eraseIdx_append_of_length_le (Nat.le_refl _), Nat.sub_self] at c
    have c' : Con fs r.1 r.2.1 := by simpa using c
    rcases e with ⟨e1, e2⟩ | ⟨e1, e2⟩
    · rw [e1, e2] at c'
      exact ne (c'.symm.alone no)
    · rw [e1, e2] at c'
      exact ne (c'.alone no)
theorem take_sub_erase {α : Type} : ∀ {l : List α} {i : Nat} {x : α}, x ∈ l.take i → x ∈ l.eraseIdx i
  | [], i, x, h => by simp at h
  | a :: l, 0, x, h => by simp at h
  | a :: l, i + 1, x, h => by
    rcases List.mem_cons.mp h with e | h
    · exact List.mem_cons.mpr (.inl e)
    · exact List.mem_cons.mpr (.inr (take_sub_erase h))
theorem noRing_due {n : Int} {fs : List Fact} (h : NoRing fs) (ok : ∀ r ∈ fs, In n r.1 ∧ In n r.2.1 ∧ 1 ≤ r.2.2 ∧ r.2.2 ≤ 1000000000) : dueR n [] fs = none := by
  have key : ∀ (k i : Nat), i + k = fs.length → dueR n (fs.take i) (fs.drop i) = none := by
    intro k
    induction k with
    | zero =>
      intro i hi
      rw [List.drop_of_length_le (by omega), dueR_nil]
    | succ k ih =>
      intro i hi
      have hl : i < fs.length := by omega
      have g : fs[i]? = some fs[i] := List.getElem?_eq_getElem hl
      obtain ⟨a, b, c, d⟩ := ok _ (List.getElem_mem hl)
      rw [List.drop_eq_getElem_cons hl, dueR_go a b ⟨c, d⟩ (fun z => h i _ g (z.mono fun r hr => take_sub_erase hr))]
      have e : fs.take i ++ [fs[i]] = fs.take (i + 1) := by
        rw [List.take_succ, g]
        rfl
      rw [e]
      exact ih (i + 1) (by omega)
  have z := key fs.length 0 (by omega)
  simpa using z
theorem erase_perm {α : Type} : ∀ {l : List α} {k : Nat} {y : α}, l[k]? = some y → (y :: l.eraseIdx k).Perm l
  | [], k, y, h => by simp at h
  | a :: l, 0, y, h => by
    have e := Option.some.inj h
    subst e
    exact List.Perm.refl _
  | a :: l, k + 1, y, h => by
    have ih := erase_perm (l := l) (k := k) (y := y) h
    exact (List.Perm.swap a y _).trans (ih.cons a)
theorem noRing_perm {fs gs : List Fact} (p : gs.Perm fs) (h : NoRing fs) : NoRing gs := by
  intro i r hi c
  have m : r ∈ fs := p.mem_iff.mp (List.mem_of_getElem? hi)
  obtain ⟨j, hj, e⟩ := List.getElem_of_mem m
  have hj' : fs[j]? = some r := by rw [List.getElem?_eq_getElem hj, e]
  have q : (gs.eraseIdx i).Perm (fs.eraseIdx j) := List.Perm.cons_inv (((erase_perm hi).trans p).trans (erase_perm hj').symm)
  exact h j r hj' (c.mono fun x hx => q.mem_iff.mp hx)
/-- what a drawn tree is -/
structure Drawn (most long n : Int) (fs : List Fact) : Prop where
  lo : 2 ≤ n
  hi : n ≤ most
  len : (fs.length : Int) = n - 1
  ok : ∀ r ∈ fs, In n r.1 ∧ In n r.2.1 ∧ 1 ≤ r.2.2 ∧ (r.2.2 ≤ 2 ∨ r.2.2 ≤ long)
  nr : NoRing fs
  con : ∀ x y, In n x → In n y → Con fs x y
theorem Drawn.due {most long n : Int} {fs : List Fact} (h : Drawn most long n fs) (h24 : most ≤ 24) (hl : long ≤ 1000000000) : due n fs = none := by
  unfold OT.due
  have a := h.lo
  have b := h.hi
  rw [if_neg (fun z => z ⟨a, by omega⟩), if_neg (fun z => z h.len)]
  exact noRing_due h.nr fun r hr => let ⟨x, y, z, w⟩ := h.ok r hr; ⟨x, y, z, by omega⟩
end OT
set_option Elab.async false
set_option linter.all false
set_option maxRecDepth 100000
set_option maxHeartbeats 2000000
namespace OT
open PySem L2 OTR
def TupAt (H : Hp) (t : Addr) (r : Fact) : Prop := H t = some (.tup [.int r.1, .int r.2.1, .int r.2.2])
theorem TupAt.but {H H' : Hp} {s t : Addr} {r : Fact} (h : TupAt H t r) (src : Src H s) (b : But s H H') : TupAt H' t r := b _ _ h (src.ne h fun _ _ _ z => nomatch z)
theorem tups_but {H H' : Hp} {s : Addr} {ts : List Addr} {fs : List Fact} (h : Paired (TupAt H) ts fs) (src : Src H s) (b : But s H H') : Paired (TupAt H') ts fs := by
  induction h with
  | nil => exact .nil
  | cons a _ ih => exact .cons (a.but src b) ih
theorem tups_same {H H' : Hp} {ts : List Addr} {fs : List Fact} (h : Paired (TupAt H) ts fs) (b : Same H H') : Paired (TupAt H') ts fs := by
  induction h with
  | nil => exact .nil
  | cons a _ ih => exact .cons (b _ _ a) ih
theorem paired_snoc {α β : Type} {R : α → β → Prop} {as : List α} {bs : List β} {a : α} {b : β} (h : Paired R as bs) (x : R a b) : Paired R (as ++ [a]) (bs ++ [b]) := by
  induction h with
  | nil => exact .cons x .nil
  | cons y _ ih => exact .cons y ih
theorem tups_put {H : Hp} {p : Addr} {xs ys : List V} {ts : List Addr} {fs : List Fact} (h : Paired (TupAt H) ts fs) (hp : H p = some (.lst xs)) : Paired (TupAt (upd H p (.lst ys))) ts fs := by
  induction h with
  | nil => exact .nil
  | cons a _ ih =>
    refine .cons ?_ ih
    unfold TupAt at a ⊢
    rw [upd_ne (ne_of a hp (fun z => nomatch z))]
    exact a
theorem But.put {s p : Addr} {H G : Hp} {o : HO} (b : But s H G) (hp : H p = none) : But s H (L2.upd G p o) := fun c u e n => by
  rw [upd_ne (ne_of_none e hp)]
  exact b c u e n
/-- at q a list of triples -/
def FactsAt (H : Hp) (q : Addr) (fs : List Fact) : Prop := ∃ ts : List Addr, H q = some (.lst (ts.map V.ref)) ∧ Paired (TupAt H) ts fs
theorem perm_map {α β : Type} {f : α → β} : ∀ {ys : List β} {l : List α}, ys.Perm (l.map f) → ∃ l' : List α, ys = l'.map f ∧ l'.Perm l := by
  intro ys l p
  generalize h : l.map f = zs at p
  induction p generalizing l with
  | nil =>
    cases l with
    | nil => exact ⟨[], rfl, .nil⟩
    | cons a l => cases h
  | cons x _ ih =>
    cases l with
    | nil => cases h
    | cons a l =>
      injection h with h1 h2
      obtain ⟨l', e, q⟩ := ih h2
      exact ⟨a :: l', by rw [List.map_cons, h1, e], q.cons a⟩
  | swap x y zs =>
    cases l with
    | nil => cases h
    | cons a l =>
      cases l with
      | nil =>
        injection h with h1 h2
        cases h2
      | cons b l =>
        injection h with h1 h2
        injection h2 with h2 h3
        exact ⟨b :: a :: l, by rw [List.map_cons, List.map_cons, h1, h2, h3], .swap a b l⟩
  | trans _ _ ih1 ih2 =>
    obtain ⟨l1, e1, q1⟩ := ih2 h
    obtain ⟨l2, e2, q2⟩ := ih1 e1.symm
    exact ⟨l2, e2, q2.trans q1⟩
theorem perm_paired {α β : Type} {R : α → β → Prop} : ∀ {as' as : List α}, as'.Perm as → ∀ {bs : List β}, Paired R as bs → ∃ bs', Paired R as' bs' ∧ bs'.Perm bs := by
  intro as' as p
  induction p with
  | nil =>
    intro bs h
    cases h
    exact ⟨[], .nil, .nil⟩
  | cons x _ ih =>
    intro bs h
    cases h with
    | cons y t =>
      obtain ⟨b', h', q⟩ := ih t
      exact ⟨_ :: b', .cons y h', q.cons _⟩
  | swap x y zs =>
    intro bs h
    cases h with
    | cons a t =>
      cases t with
      | cons b t => exact ⟨_ :: _ :: _, .cons b (.cons a t), .swap _ _ _⟩
  | trans _ _ ih1 ih2 =>
    intro bs h
    obtain ⟨b1, h1, q1⟩ := ih2 h
    obtain ⟨b2, h2, q2⟩ := ih1 h1
    exact ⟨b2, h2, q2.trans q1⟩
def spTreeD : Sp := fun vs H Q _ => ∃ (s : Addr) (most long : Int), vs = [.ref s, .int most, .int long] ∧ Src H s ∧ 2 ≤ most ∧ most ≤ 24 ∧ 1 ≤ long ∧ long ≤ 1000000000 ∧
  ∀ p q n fs H', H' p = some (.tup [.int n, .ref q]) → H q = none → FactsAt H' q fs → Drawn most long n fs → Src H' s → But s H H' → Q (.ref p) H'
theorem one_con {os : List Int} {fs : List Fact} {x y : Int} (hx : x ∈ os.take (0 + 1)) (hy : y ∈ os.take (0 + 1)) : Con fs x y := by
  cases os with
  | nil => cases hx
  | cons a r =>
    rw [List.take_succ_cons, List.take_zero] at hx hy
    rw [List.mem_singleton.mp hx, List.mem_singleton.mp hy]
    exact .refl a
/-- the roads drawn so far: their ends among the first crossings of the order -/
structure Part (os : List Int) (long : Int) (i : Nat) (fs : List Fact) : Prop where
  len : fs.length = i
  ok : ∀ r ∈ fs, r.1 ∈ os.take (i + 1) ∧ r.2.1 ∈ os.take (i + 1) ∧ 1 ≤ r.2.2 ∧ (r.2.2 ≤ 2 ∨ r.2.2 ≤ long)
  nr : NoRing fs
  con : ∀ x y, x ∈ os.take (i + 1) → y ∈ os.take (i + 1) → Con fs x y
theorem Part.add {os : List Int} {long : Int} {i j : Nat} {fs : List Fact} {r : Fact} {a b : Int} (h : Part os long i fs) (nd : os.Nodup) (ha : os[i + 1]? = some a) (hb : os[j]? = some b) (hj : j ≤ i) (e : (r.1 = a ∧ r.2.1 = b) ∨ (r.1 = b ∧ r.2.1 = a))
    (l1 : 1 ≤ r.2.2) (l2 : r.2.2 ≤ 2 ∨ r.2.2 ≤ long) : Part os long (i + 1) (fs ++ [r]) := by
  have tk : os.take (i + 1 + 1) = os.take (i + 1) ++ [a] := take_get ha
  have mb : b ∈ os.take (i + 1) := List.mem_of_getElem? (i := j) (by rw [List.getElem?_take, if_pos (by omega)]; exact hb)
  have na : a ∉ os.take (i + 1) := fun m => by
    obtain ⟨q, hq, eq⟩ := List.getElem_of_mem m
    rw [List.length_take] at hq
    rw [List.getElem_take] at eq
    have h1 := (List.getElem?_eq_some_iff.mp ha)
    obtain ⟨h2, h3⟩ := h1
    have := (List.getElem_inj nd).mp (eq.trans h3.symm)
    omega
  have ba : b ≠ a := fun z => na (z ▸ mb)
  refine ⟨by rw [List.length_append, h.len]; rfl, fun q hq => ?_, noRing_add h.nr (fun q hq => ?_) e ba, fun x y hx hy => ?_⟩
  · rw [tk]
    rcases List.mem_append.mp hq with hq | hq
    · obtain ⟨x, y, z⟩ := h.ok q hq
      exact ⟨List.mem_append_left _ x, List.mem_append_left _ y, z⟩
    · obtain rfl := List.mem_singleton.mp hq
      have m1 : a ∈ os.take (i + 1) ++ [a] := List.mem_append_right _ (List.mem_singleton.mpr rfl)
      have m2 : b ∈ os.take (i + 1) ++ [a] := List.mem_append_left _ mb
      rcases e with ⟨e1, e2⟩ | ⟨e1, e2⟩
      · rw [e1, e2]
        exact ⟨m1, m2, l1, l2⟩
      · rw [e1, e2]
        exact ⟨m2, m1, l1, l2⟩
  · obtain ⟨x, y, _⟩ := h.ok q hq
    exact ⟨fun z => na (z ▸ x), fun z => na (z ▸ y)⟩
  · have old : ∀ {x y : Int}, x ∈ os.take (i + 1) → y ∈ os.take (i + 1) → Con (fs ++ [r]) x y := fun hx hy => (h.con _ _ hx hy).mono fun q hq => List.mem_append_left _ hq
    have ab : Con (fs ++ [r]) a b := Con.one (r := r) (List.mem_append_right _ (List.mem_singleton.mpr rfl)) e
    have to : ∀ {x : Int}, x ∈ os.take (i + 1 + 1) → Con (fs ++ [r]) x b := fun hx => by
      rw [tk] at hx
      rcases List.mem_append.mp hx with c | c
      · exact old c mb
      · rw [List.mem_singleton.mp c]
        exact ab
    exact (to hx).trans (to hy).symm
section
variable {P : Program} {w : World} {K : PySem.W.Frag} {mg : Str → Option Value} {base : Heap}
abbrev nTreeD : List Str := ["_law_source_here", "_law_most", "_law_long", "_law_many", "_law_order", "_law_found", "_law_at", "_law_ends"]
theorem scTreeD : FnScope nTreeD ["_law_source_here", "_law_most", "_law_long"] (defScope sTreeD) := ⟨rfl, rfl, rfl, by decide +kernel, rfl, by decide +kernel, by decide +kernel⟩
theorem ok_treeD {f fD fP fS : Addr} {fd fdD fdP fdS : FuncData} (F : Fun K "_law_tree" "_law_tree" sTreeD f fd)
    (FD : FnOk P w K mg base CX0 1 fD fdD ["_law_source_here", "_law_many"] spDraw) (bD : Binds K fdD ["_law_source_here", "_law_many"] []) (mD : mg "_law_draw" = some (.ref fD)) (kD : PySem.W.keepIn K (.ref fD) = true)
    (FP : FnOk P w K mg base CX0 2 fP fdP ["_law_source_here", "_law_some"] (spPick K)) (bP : Binds K fdP ["_law_source_here", "_law_some"] []) (mP : mg "_law_pick" = some (.ref fP)) (kP : PySem.W.keepIn K (.ref fP) = true)
    (FS : FnOk P w K mg base CX0 2 fS fdS ["_law_source_here", "_law_some"] spShuf) (bS : Binds K fdS ["_law_source_here", "_law_some"] []) (mS : mg "_law_shuffled" = some (.ref fS)) (kS : PySem.W.keepIn K (.ref fS) = true)
    (hList : mg "list" = none) (hRg : mg "range" = none) : FnOk P w K mg base CX0 3 f fd ["_law_source_here", "_law_most", "_law_long"] spTreeD := by
  refine F.ok scTreeD (fun vs H Q E h => ?_) (fun cdv A outer s H vs Q E hr h => ?_)
  · obtain ⟨s, most, long, rfl, _⟩ := h
    rfl
  · obtain ⟨s, most, long, rfl, hs, m2, m24, l1, l9, k⟩ := h
    have hr1 : Room 1 _ := hr.mono (by decide)
    refine ⟨_, pss_cons (ps_set (i := 3) scTreeD.nd rfl (Or.inl rfl) (pe_op op_add pe_int (pe_call FD hr1 rfl mD kD bD .nil pass0 (pa_cons (pv 0) (pa_cons (pe_op op_sub (pv 1) pe_int) pa_nil)))))
      (pss_cons (ps_set (i := 4) scTreeD.nd rfl (Or.inl rfl) (pe_call FS hr rfl mS kS bS .nil pass0 (pa_cons (pv 0) (pa_cons (pe_listRg rfl rfl hList (prg_1 rfl hRg (pv 3))) pa_nil))))
      (pss_cons (ps_set (i := 5) scTreeD.nd rfl (Or.inl rfl) (pe_lst pa_nil))
      (pss_cons (ps_for PassesOwn.never rfl (pi_range2 (by rfl) hRg (pa_cons pe_int (pa_cons (pv 3) pa_nil))) (pg_name (i := 6) scTreeD.nd rfl (Or.inl rfl))
        (pss_cons (ps_set (i := 7) scTreeD.nd rfl (Or.inl rfl) (pe_lst (pa_cons (pe_ix ix_list (pv 4) (pv 6) (fun _ _ => rfl)) (pa_cons (pe_ix ix_list (pv 4)
            (pe_call FP hr rfl mP kP bP .nil pass0 (pa_cons (pv 0) (pa_cons (pe_lst (pa_cons (pe_op op_sub (pv 6) pe_int) (pa_cons pe_int (pa_cons (pe_call FD hr1 rfl mD kD bD .nil pass0 (pa_cons (pv 0) (pa_cons (pv 6) pa_nil))) pa_nil)))) pa_nil))) (fun _ _ => rfl)) pa_nil))))
        (C8.pss_cut (ps_if (pt_cmpR op_eq (pe_call FD hr1 rfl mD kD bD .nil pass0 (pa_cons (pv 0) (pa_cons pe_int pa_nil))) pe_int (nomark _))
            (pss_one (ps_expr (pe_bm0 PySem.F.plainAttrs_list PySem.F.slot_list_reverse PySem.F.type_list_reverse mt_reverse (pv 7)))) pss_nil)
        (pss_one (ps_expr (pe_bm PySem.F.plainAttrs_list PySem.F.slot_list_append PySem.F.type_list_append mt_append (pv 5)
            (pa_cons (pe_tup (pa_cons (pe_ix ix_list (pv 7) pe_int (fun _ _ => rfl)) (pa_cons (pe_ix ix_list (pv 7) pe_int (fun _ _ => rfl)) (pa_cons (pe_call FP hr rfl mP kP bP .nil pass0 (pa_cons (pv 0) (pa_cons
              (pe_lst (pa_cons pe_int (pa_cons pe_int (pa_cons (pe_op op_add pe_int (pe_call FD hr1 rfl mD kD bD .nil pass0 (pa_cons (pv 0) (pa_cons (pv 2) pa_nil)))) pa_nil)))) pa_nil))) pa_nil)))) pa_nil)))))))
      (pss_one (ps_ret (pe_tup (pa_cons (pv 3) (pa_cons (pe_call FS hr rfl mS kS bS .nil pass0 (pa_cons (pv 0) (pa_cons (pv 5) pa_nil))) pa_nil)))))))), ?_⟩
    -- many = 2 + draw(source, most - 1)
    refine ⟨_, rfl, _, rfl, _, _, rfl, rfl, s, most - 1, rfl, hs, by omega, by omega, fun r0 H1 r0a r0b src1 b1 => ⟨_, _, rfl, rfl, ?_⟩⟩
    let n : Int := 2 + r0
    have hn : n = 2 + r0 := rfl
    have n2 : 2 ≤ n := by omega
    have nm : n ≤ most := by omega
    -- order = shuffled(source, list(range(many)))
    refine ⟨_, rfl, _, rfl, n, rfl, RgOk.of_le (by omega) (by omega) (by omega) (by omega), fun q1 hq1 => ?_⟩
    have src1' : Src (upd H1 q1 (.lst (rgV 0 n))) s := src1.same (Same.new hq1)
    refine ⟨s, q1, rgV 0 n, rfl, src1', upd_same, by rw [rgV_length]; omega, fun po ys H2 pm hpo1 hpo src2 b2 => ?_⟩
    obtain ⟨os, rfl, po'⟩ : ∃ os : List Int, ys = os.map V.int ∧ os.Perm ((List.range (n - 0).toNat).map fun i : Nat => (0 : Int) + (i : Nat)) := by
      have e : rgV 0 n = ((List.range (n - 0).toNat).map fun i : Nat => (0 : Int) + (i : Nat)).map V.int := by
        unfold rgV
        rw [List.map_map]
        rfl
      rw [e] at pm
      exact perm_map pm
    have ol : os.length = n.toNat := by
      rw [po'.length_eq, List.length_map, List.length_range]
      congr 1
      omega
    have ond : os.Nodup := po'.nodup_iff.mpr (List.Pairwise.map _ (fun a b (z : a < b) => by omega) (List.pairwise_lt_range))
    have oin : ∀ x ∈ os, In n x := fun x hx => by
      obtain ⟨i, hi, rfl⟩ := List.mem_map.mp (po'.mem_iff.mp hx)
      have := List.mem_range.mp hi
      exact ⟨by omega, by omega⟩
    have b02 : But s H H2 := fun b o e nb => b2 b o (Same.new hq1 b o (b1 b o e nb)) nb
    have hpo0 : H1 po = none := by
      by_cases e : po = q1
      · rw [e]
        exact hq1
      · rw [upd_ne e] at hpo1
        exact hpo1
    have npo : po ≠ s := src1.new hpo0
    have fresh : ∀ {G : Hp} {p : Addr}, But s H G → Src G s → G p = none → H p = none := fun {G p} b sg hp => by
      cases e : H p with
      | none => rfl
      | some o =>
        have z := b p o e (sg.new hp)
        rw [hp] at z
        cases z
    have hpoH : H po = none := fresh b1 src1 hpo0
    -- found = []
    refine ⟨Nat.zero_le _, fun pf hpf => ?_⟩
    have npf : pf ≠ s := src2.new hpf
    have hpfH : H pf = none := fresh b02 src2 hpf
    have npp : po ≠ pf := ne_of_none hpo hpf
    have src3 : Src (upd H2 pf (.lst [])) s := src2.same (Same.new hpf)
    -- for at in range(1, many)
    refine ⟨_, rfl, 1, n, rfl, ⟨by omega, by omega, by omega, by omega⟩, for_range (lo := 1) (n := (n - 1).toNat) (fun i σ G => ∃ (v6 v7 : Option V) (ts : List Addr) (fs : List Fact), σ = [some (.ref s), some (.int most), some (.int long), some (.int n), some (.ref po), some (.ref pf), v6, v7] ∧
        Src G s ∧ But s H G ∧ G po = some (.lst (os.map V.int)) ∧ G pf = some (.lst (ts.map V.ref)) ∧ Paired (TupAt G) ts fs ∧ Part os long i fs)
      ⟨none, none, [], [], rfl, src3, b02.put hpfH, by rw [upd_ne npp]; exact hpo, upd_same, .nil, ⟨rfl, fun r z => (by cases z), noRing_nil, fun x y hx hy => one_con hx hy⟩⟩ ?_ ?_⟩
    · rintro i σ G hi ⟨v6, v7, ts, fs, rfl, sg, bg, gpo, gpf, gts, part⟩
      let at' : Int := 1 + (i : Int)
      have hat : at' = 1 + (i : Int) := rfl
      have il : i + 1 < os.length := by omega
      have ha : os[i + 1]? = some os[i + 1] := List.getElem?_eq_getElem il
      generalize os[i + 1] = a at ha
      have hav : (os.map V.int)[i + 1]? = some (V.int a) := by rw [List.getElem?_map, ha]; rfl
      have tsl : ts.length ≤ 1000 := by
        have := Paired.length gts
        have := part.len
        omega
      -- ends = [order[at], order[pick(source, [at - 1, 0, draw(source, at)])]]
      refine ⟨_, rfl, _, rfl, po, os.map V.int, at', V.int a, rfl, rfl, SqL.of gpo, at_of (by omega) hav, ?_⟩
      refine ⟨_, rfl, _, rfl, _, rfl, _, _, rfl, rfl, _, rfl, _, rfl, s, at', rfl, sg, by omega, by omega, fun d G1 d0 d1 sg1 bg1 => ?_⟩
      refine ⟨(by show 3 ≤ sizeLine; decide), fun pl hpl => ?_⟩
      have sg1' := sg1.same (Same.new (o := .lst [.int (at' - 1), .int 0, .int d]) hpl)
      refine ⟨s, pl, _, rfl, sg1', sg1.new hpl, SqL.of upd_same, (by show 0 < 3; decide), (by show 3 < 1000000; decide), fun v G2 hv sg2 bg2 => ?_⟩
      have gpo2 : G2 po = some (.lst (os.map V.int)) := bg2 _ _ (Same.new hpl _ _ (bg1 _ _ gpo npo)) npo
      have gpf2 : G2 pf = some (.lst (ts.map V.ref)) := bg2 _ _ (Same.new hpl _ _ (bg1 _ _ gpf npf)) npf
      have gts2 : Paired (TupAt G2) ts fs := tups_but (tups_same (tups_but gts sg bg1) (Same.new hpl)) sg1' bg2
      have bgg2 : But s H G2 := fun b o e nb => bg2 b o (Same.new hpl b o (bg1 b o (bg b o e nb) nb)) nb
      obtain ⟨j, rfl, hj⟩ : ∃ j : Nat, v = V.int (j : Int) ∧ j ≤ i := by
        rcases List.mem_cons.mp hv with rfl | hv
        · exact ⟨i, congrArg V.int (show (at' - 1 : Int) = (i : Int) by omega), Nat.le_refl _⟩
        · rcases List.mem_cons.mp hv with rfl | hv
          · exact ⟨0, rfl, Nat.zero_le _⟩
          · rcases List.mem_cons.mp hv with rfl | hv
            · exact ⟨d.toNat, congrArg V.int (show (d : Int) = ((d.toNat : Nat) : Int) by omega), by omega⟩
            · cases hv
      have jl : j < os.length := by omega
      have hb : os[j]? = some os[j] := List.getElem?_eq_getElem jl
      generalize os[j] = b at hb
      have hbv : (os.map V.int)[j]? = some (V.int b) := by rw [List.getElem?_map, hb]; rfl
      refine ⟨po, os.map V.int, (j : Int), V.int b, rfl, rfl, SqL.of gpo2, atI_nat hbv, (by show 2 ≤ sizeLine; decide), fun pe hpe => ?_⟩
      have npe : pe ≠ s := sg2.new hpe
      have poe : po ≠ pe := ne_of_none gpo2 hpe
      have pfe : pf ≠ pe := ne_of_none gpf2 hpe
      have hpeH : H pe = none := fresh bgg2 sg2 hpe
      have s3 : Same G2 (upd G2 pe (.lst [.int a, .int b])) := Same.new hpe
      -- if draw(source, 2) == 0: ends.reverse()
      refine ⟨fun σ' G' => ∃ x y : Int, σ' = [some (.ref s), some (.int most), some (.int long), some (.int n), some (.ref po), some (.ref pf), some (.int at'), some (.ref pe)] ∧ G' pe = some (.lst [.int x, .int y]) ∧ ((x = a ∧ y = b) ∨ (x = b ∧ y = a)) ∧
          Src G' s ∧ But s H G' ∧ G' po = some (.lst (os.map V.int)) ∧ G' pf = some (.lst (ts.map V.ref)) ∧ Paired (TupAt G') ts fs, ?_, ?_⟩
      · refine ⟨_, rfl, s, 2, rfl, sg2.same s3, by decide, by decide, fun c G4 c0 c1 sg4 bg4 => ?_⟩
        have e4 := bg4 _ _ (upd_same (H := G2) (a := pe) (o := .lst [.int a, .int b])) npe
        have gpo4 := bg4 _ _ (s3 _ _ gpo2) npo
        have gpf4 := bg4 _ _ (s3 _ _ gpf2) npf
        have gts4 := tups_but (tups_same gts2 s3) (sg2.same s3) bg4
        have bgg4 : But s H G4 := fun b o e nb => bg4 b o (s3 b o (bgg2 b o e nb)) nb
        refine ⟨rfl, _, rfl, ?_⟩
        by_cases hc : c = 0
        · subst hc
          refine iteT ⟨_, rfl, .inl ⟨rfl, _, SqL.of e4⟩, pe, _, rfl, rfl, e4, b, a, rfl, upd_same, .inr ⟨rfl, rfl⟩, sg4.upd npe, bgg4.put hpeH, by rw [upd_ne poe]; exact gpo4, by rw [upd_ne pfe]; exact gpf4, ?_⟩
          exact tups_put gts4 e4
        · have h3 : ¬ (V.int c = V.int 0) := fun z => hc (V.int.inj z)
          rw [decide_eq_false h3]
          exact iteF ⟨a, b, rfl, e4, .inl ⟨rfl, rfl⟩, sg4, bgg4, gpo4, gpf4, gts4⟩
      · rintro σ' G4 ⟨x, y, rfl, e4, hxy, sg4, bgg4, gpo4, gpf4, gts4⟩
        refine ⟨_, rfl, .inl ⟨rfl, _, SqL.of gpf4⟩, ?_⟩
        refine ⟨_, rfl, pe, _, 0, V.int x, rfl, rfl, SqL.of e4, rfl, _, rfl, pe, _, 1, V.int y, rfl, rfl, SqL.of e4, rfl, ?_⟩
        refine ⟨_, rfl, _, rfl, _, rfl, s, long, rfl, sg4, by omega, by omega, fun d G5 d0 d1 sg5 bg5 => ⟨_, _, rfl, rfl, (by show 3 ≤ sizeLine; decide), fun pl hpl => ?_⟩⟩
        have s5 : Same G5 (upd G5 pl (.lst [.int 1, .int 2, .int (1 + d)])) := Same.new hpl
        refine ⟨s, pl, _, rfl, sg5.same s5, sg5.new hpl, SqL.of upd_same, (by show 0 < 3; decide), (by show 3 < 1000000; decide), fun v G6 hv sg6 bg6 => ?_⟩
        obtain ⟨z, rfl, z1, z2⟩ : ∃ z : Int, v = V.int z ∧ 1 ≤ z ∧ (z ≤ 2 ∨ z ≤ long) := by
          rcases List.mem_cons.mp hv with rfl | hv
          · exact ⟨1, rfl, by decide, .inl (by decide)⟩
          · rcases List.mem_cons.mp hv with rfl | hv
            · exact ⟨2, rfl, by decide, .inl (by decide)⟩
            · rcases List.mem_cons.mp hv with rfl | hv
              · exact ⟨1 + d, rfl, by omega, .inr (by omega)⟩
              · cases hv
        have gpo6 := bg6 _ _ (s5 _ _ (bg5 _ _ gpo4 npo)) npo
        have gpf6 := bg6 _ _ (s5 _ _ (bg5 _ _ gpf4 npf)) npf
        have gts6 := tups_but (tups_same (tups_but gts4 sg4 bg5) s5) (sg5.same s5) bg6
        have bgg6 : But s H G6 := fun b o e nb => bg6 b o (s5 b o (bg5 b o (bgg4 b o e nb) nb)) nb
        refine ⟨(by show 3 ≤ sizeLine; decide), fun pt hpt => ?_⟩
        have s6 : Same G6 (upd G6 pt (.tup [.int x, .int y, .int z])) := Same.new hpt
        refine ⟨pf, ts.map V.ref, .ref pt, rfl, rfl, s6 _ _ gpf6, small1000 (by rw [List.length_map]; omega), ?_⟩
        have nft : pt ≠ pf := (ne_of_none gpf6 hpt).symm
        refine ⟨_, _, ts ++ [pt], fs ++ [(x, y, z)], rfl, (sg6.same s6).upd npf, (bgg6.put (fresh bgg6 sg6 hpt)).put hpfH, by rw [upd_ne npp]; exact s6 _ _ gpo6, by rw [List.map_append]; exact upd_same, paired_snoc (tups_put (tups_same gts6 s6) (s6 _ _ gpf6)) ?_, part.add ond ha hb hj (hxy) z1 z2⟩
        show upd _ pf _ pt = _
        rw [upd_ne nft]
        exact upd_same
    · rintro σ G ⟨v6, v7, ts, fs, rfl, sg, bg, gpo, gpf, gts, part⟩
      have tsl : ts.length ≤ 1000 := by
        have := Paired.length gts
        have := part.len
        omega
      refine ⟨_, rfl, _, rfl, _, rfl, s, pf, ts.map V.ref, rfl, sg, gpf, by rw [List.length_map]; exact tsl, fun p ys G1 pm hp hys sg1 bg1 => ⟨(by show 2 ≤ sizeLine; decide), fun pt hpt => ?_⟩⟩
      obtain ⟨ts', rfl, q'⟩ := perm_map pm
      obtain ⟨fs', h', qf⟩ := perm_paired q' gts
      have s1 : Same G1 (upd G1 pt (.tup [.int n, .ref p])) := Same.new hpt
      have allin : ∀ x, In n x → x ∈ os.take ((n - 1).toNat + 1) := fun x hx => by
        rw [List.take_of_length_le (by omega)]
        refine po'.mem_iff.mpr (List.mem_map.mpr ⟨x.toNat, List.mem_range.mpr ?_, ?_⟩)
        · have := hx.1
          have := hx.2
          omega
        · have := hx.1
          omega
      refine k pt p n fs' _ upd_same (fresh bg sg hp) ⟨ts', s1 _ _ hys, tups_same (tups_but h' sg bg1) s1⟩ ⟨n2, nm, by rw [qf.length_eq, part.len]; omega, fun r hr => ?_, noRing_perm qf part.nr, fun x y hx hy => (part.con x y (allin x hx) (allin y hy)).mono fun r hr => qf.mem_iff.mpr hr⟩ (sg1.same s1) fun b o e nb => s1 b o (bg1 b o (bg b o e nb) nb)
      obtain ⟨a, b, c⟩ := part.ok r (qf.mem_iff.mp hr)
      exact ⟨oin _ (List.mem_of_mem_take a), oin _ (List.mem_of_mem_take b), c⟩
end
end OT
set_option Elab.async false
set_option linter.all false
set_option maxRecDepth 100000
set_option maxHeartbeats 1000000
namespace OTR
open PySem PySem.Spec PyProof.Rows L2
end OTR
set_option Elab.async false
set_option linter.all false
set_option maxRecDepth 100000
set_option maxHeartbeats 2000000
namespace OT
open PySem L2 OTR
def Kp (H H' : Hp) : Prop := ∀ b o, H b = some o → (∀ xs, o ≠ .lst xs) → H' b = some o
theorem Kp.of {H H' : Hp} (s : Same H H') : Kp H H' := fun b o e _ => s b o e
theorem Kp.trans {H H1 H2 : Hp} (k : Kp H H1) (l : Kp H1 H2) : Kp H H2 := fun b o e n => l b o (k b o e n) n
theorem Kp.put {H : Hp} {q : Addr} {xs ys : List V} (h : H q = some (.lst xs)) : Kp H (upd H q (.lst ys)) := fun b o e n => by
  rw [upd_ne (fun z => by
    rw [z, h] at e
    exact n xs (Option.some.inj e).symm)]
  exact e
theorem Kp.src {H H' : Hp} {s : Addr} (src : Src H s) (b : But s H H') : Kp H H' := fun c o e n => b c o e (src.ne e fun x y z q => n _ q)
theorem sqT_kp {K : PySem.W.Frag} {H H' : Hp} {p : Addr} {xs : List V} (h : SqT K H p xs) (k : Kp H H') : SqT K H' p xs := by
  rcases h with (h | ⟨o, h⟩) | h
  · exact .inl (.inl (k _ _ h fun _ z => nomatch z))
  · exact .inl (.inr ⟨o, k _ _ h fun _ z => nomatch z⟩)
  · exact .inr h
theorem RoadAt.kp {CR : Addr} {H H' : Hp} {p : Addr} {r : Fact} (h : RoadAt CR H p r) (k : Kp H H') : RoadAt CR H' p r := let ⟨dx, e⟩ := h; ⟨dx, k _ _ e fun _ z => nomatch z⟩
theorem RoadsAt.kp {CR : Addr} {H H' : Hp} {ps : List Addr} {F : List Fact} (h : RoadsAt CR H ps F) (k : Kp H H') : RoadsAt CR H' ps F := by
  unfold RoadsAt at h ⊢
  induction h with
  | nil => exact .nil
  | cons a _ ih => exact .cons (a.kp k) ih
theorem TrOk.kp {K : PySem.W.Frag} {H H' : Hp} {d : Addr} {kvs : List (List Key × V)} {n : Int} {F : List Fact} (h : TrOk K H d kvs n F) (k : Kp H H') : TrOk K H' d kvs n F :=
  ⟨k _ _ h.dc (fun _ z => nomatch z), h.has, fun x y v z => let ⟨q, l, a, b, c⟩ := h.val x y v z; ⟨q, l, a, sqT_kp b k, c⟩, h.len⟩
theorem TreeAt.kp {K : PySem.W.Frag} {CT CR : Addr} {H H' : Hp} {p : Addr} {n : Int} {ps : List Addr} {F : List Fact} (h : TreeAt K CT CR H p n ps F) (k : Kp H H') : TreeAt K CT CR H' p n ps F :=
  let ⟨dx, t, d, kvs, a, b, c, e⟩ := h; ⟨dx, t, d, kvs, k _ _ a (fun _ z => nomatch z), sqT_kp b k, c.kp k, e.kp k⟩
theorem TreeAt.same {K : PySem.W.Frag} {CT CR : Addr} {H H' : Hp} {p : Addr} {n : Int} {ps : List Addr} {F : List Fact} (h : TreeAt K CT CR H p n ps F) (s : Same H H') : TreeAt K CT CR H' p n ps F := h.kp (.of s)
/-- a call that could raise and doesn't -/
theorem passF {P : Program} {w : World} {X : Cx} : Passes (L2.CX P w) X E0 := fun _ _ _ _ _ _ _ ⟨_, _, _, _, _, _, _, _, _, _, _, _, h⟩ => False.elim h
theorem no_err {CB CN CG : Addr} {H : Hp} {E : XK} {n : Int} {F : List Fact} (h : due n F = none) : ∀ e, due n F = some e → ErrR CB CN CG H E e := fun e z => by
  rw [h] at z
  cases z
theorem paired_get {α β : Type} {R : α → β → Prop} : ∀ {as : List α} {bs : List β} {i : Nat} {a : α}, Paired R as bs → as[i]? = some a → ∃ b, bs[i]? = some b ∧ R a b
  | _, _, _, _, .nil, e => by simp at e
  | _, _, 0, _, .cons r _, e => by
    have z := Option.some.inj e
    subst z
    exact ⟨_, rfl, r⟩
  | _, _, i + 1, _, .cons _ t, e => paired_get (i := i) t e
theorem cut_from {xs : List V} {i : Nat} (h : i ≤ xs.length) : cutV xs (some (i : Int)) none = xs.drop i := by
  unfold cutV
  have e0 : HT.sIx xs.length 0 (some (i : Int)) = i := by
    rw [HT.sIx_nat]
    omega
  have e1 : HT.sIx xs.length xs.length none = xs.length := rfl
  rw [e0, e1]
  exact List.take_of_length_le (by rw [List.length_drop]; exact Nat.le_refl _)
theorem cut_to {xs : List V} {i : Nat} (h : i ≤ xs.length) : cutV xs none (some (i : Int)) = xs.take i := by
  unfold cutV
  have e0 : HT.sIx xs.length 0 none = 0 := rfl
  have e1 : HT.sIx xs.length xs.length (some (i : Int)) = i := by
    rw [HT.sIx_nat]
    omega
  rw [e0, e1]
  simp
theorem made_same {G G' : Hp} {x dx C : Addr} (nx : G x = none) (ndx : G dx = none) (keep : ∀ b o, upd (upd G dx (.own x)) x (.ins C dx []) b = some o → b ≠ x → G' b = some o) : Same G G' := fun b o e =>
  keep b o (by rw [upd_ne (ne_of_none e nx), upd_ne (ne_of_none e ndx)]; exact e) (ne_of_none e nx)
/-- [Road(a, b, length) for a, b, length in facts] -/
theorem lc_roads {K : PySem.W.Frag} {CR a D : Addr} {ts : List Addr} {fs : List Fact} {σ : L2.St} {H1 : Hp} {i1 i2 i3 : Nat} {Qd : Hp → Prop} (hq : H1 a = some (.lst (ts.map V.ref))) (hts : Paired (TupAt H1) ts fs) (hD : H1 D = none) (hl : fs.length ≤ 900)
    (st : ∀ x y z : V, wipe ((((wipe σ [i1, i2, i3]).set i1 (some x)).set i2 (some y)).set i3 (some z)) [i1, i2, i3] = wipe σ [i1, i2, i3] ∧ ((((wipe σ [i1, i2, i3]).set i1 (some x)).set i2 (some y)).set i3 (some z))[i1]? = some (some x) ∧
      ((((wipe σ [i1, i2, i3]).set i1 (some x)).set i2 (some y)).set i3 (some z))[i2]? = some (some y) ∧ ((((wipe σ [i1, i2, i3]).set i1 (some x)).set i2 (some y)).set i3 (some z))[i3]? = some (some z))
    (k : ∀ G ps, G D = some (.lst (ps.map V.ref)) → Same H1 G → RoadsAt CR G ps fs → Qd G) :
    ∃ W : Nat → Nat → Hp → Prop, (∃ m, W 0 m (upd H1 D (.lst []))) ∧ ∀ i m H, W i m H →
      ((Itl K a).stop i H ∧ Qd H) ∨ ((Itl K a).go i H ∧ ∃ Nx : Hp → Prop, (∀ H', Nx H' → ∃ m', m' < m ∧ W (i + 1) m' H') ∧ ∀ x H', (Itl K a).yld i H x H' → gTup K 3 (gCons (gName i1) (gCons (gName i2) (gCons (gName i3) gNil))) x (wipe σ [i1, i2, i3]) H' fun σ2 H2 => wipe σ2 [i1, i2, i3] = wipe σ [i1, i2, i3] ∧ tYes σ2 H2 fun b H3 =>
        if b = true then tMake CR (spRoadI CR) [] E0 (tCons (tVar i1) (tCons (tVar i2) (tCons (tVar i3) tNil))) σ2 H3 fun y H4 => ∃ acc, H4 D = some (.lst acc) ∧ acc.length < sizeLine ∧ Nx (upd H4 D (.lst (acc ++ [y]))) else Nx H3) := by
  have el : (ts.map V.ref).length = fs.length := by rw [List.length_map]; exact Paired.length hts
  refine lc_list (K := K) (a := a) (xs := ts.map V.ref) (fun i Gc => ∃ ps : List Addr, Gc D = some (.lst (ps.map V.ref)) ∧ Same H1 Gc ∧ RoadsAt CR Gc ps (fs.take i) ∧ ps.length = i)
    ⟨[], upd_same, Same.new hD, .nil, rfl⟩ (fun i Gc _ ⟨_, _, sc, _⟩ => SqL.of (sc _ _ hq)) ?_ ?_
  · rintro i y Gc hi ⟨ps, hps, sc, rd, pl⟩
    obtain ⟨t, ht, rfl⟩ := map_get hi
    obtain ⟨r, hr', tr⟩ := paired_get hts ht
    have ih : i < fs.length := (List.getElem?_eq_some_iff.mp hr').1
    obtain ⟨st0, st1, st2, st3⟩ := st (.int r.1) (.int r.2.1) (.int r.2.2)
    refine ⟨t, _, rfl, SqT.of (sc _ _ tr), rfl, _, _, rfl, _, _, rfl, _, _, rfl, rfl, st0, ?_⟩
    unfold tYes
    refine iteT ?_
    refine ⟨_, st1, _, st2, _, st3, fun x dx nx ndx nex => ⟨x, dx, r, rfl, upd_same, fun G' rx keep => ⟨rfl, ps.map V.ref, ?_, small1000 (by rw [List.length_map]; omega), ps ++ [x], by rw [List.map_append]; exact upd_same, fun b o e => ?_, ?_, by rw [List.length_append, pl]; rfl⟩⟩⟩
    · exact keep D _ (by rw [upd_ne (ne_of_none hps nx), upd_ne (ne_of_none hps ndx)]; exact hps) (ne_of_none hps nx)
    · rw [upd_ne (ne_of_none e hD)]
      exact keep b o (by rw [upd_ne (ne_of_none (sc b o e) nx), upd_ne (ne_of_none (sc b o e) ndx)]; exact sc b o e) (ne_of_none (sc b o e) nx)
    · have gD : G' D = some (.lst (ps.map V.ref)) := keep D _ (by rw [upd_ne (ne_of_none hps nx), upd_ne (ne_of_none hps ndx)]; exact hps) (ne_of_none hps nx)
      have stay : ∀ {p : Addr} {r' : Fact}, RoadAt CR G' p r' → RoadAt CR (upd G' D (.lst (ps.map V.ref ++ [V.ref x]))) p r' := fun {p r'} h => h.kp (.put gD)
      have old : RoadsAt CR (upd G' D (.lst (ps.map V.ref ++ [V.ref x]))) ps (fs.take i) := by
        refine Paired.mapP rd fun p r' h => stay ?_
        obtain ⟨e, h⟩ := h
        exact ⟨e, keep p _ (by rw [upd_ne (ne_of_none h nx), upd_ne (ne_of_none h ndx)]; exact h) (ne_of_none h nx)⟩
      rw [take_get hr']
      exact paired_snoc old (stay rx)
  · rintro G4 ⟨ps, hps, sc, rd, pl⟩
    rw [el, List.take_length] at rd
    exact k G4 ps hps sc rd
end OT
set_option Elab.async false
set_option linter.all false
set_option maxRecDepth 100000
set_option maxHeartbeats 4000000
namespace OT
open PySem L2 OTR
abbrev sReadNumber : Stmt := top 41
/-- the text of a whole number -/
abbrev sn (i : Int) : Str := Str.ofString (toString i)
/-- a number that a text may tell -/
def NB (i : Int) : Prop := 0 ≤ i ∧ i < 10000000000000000000000000000000
theorem tl_sn {i : Int} (h : 0 ≤ i) : TL.tl (sn i) = TL.numL i.toNat := by
  obtain ⟨n, rfl⟩ : ∃ n : Nat, i = (n : Int) := ⟨i.toNat, by omega⟩
  exact TL.tl_num n
theorem numL_le {i : Int} (h : NB i) : (TL.numL i.toNat).length ≤ 31 := TL.numL_len (by decide) (by
  have := h.2
  have e : (10 : Nat) ^ 31 = 10000000000000000000000000000000 := by decide
  rw [e]
  have := h.1
  omega)
theorem sn_len {i : Int} (h : NB i) : (sn i).length ≤ 31 := by
  rw [TL.len_tl, tl_sn h.1]
  exact numL_le h
theorem nb_log {i : Int} (h : NB i) : i.natAbs.log2 < 1920 := by
  have h0 := h.1
  have h1 := h.2
  by_cases z : i.natAbs = 0
  · rw [z]
    decide
  · rw [Nat.log2_lt z]
    have : i.natAbs < 2 ^ 110 := by omega
    exact Nat.lt_of_lt_of_le this (Nat.pow_le_pow_right (by decide) (by decide))
/-- all signs are digits -/
def Dg (l : List Nat) : Prop := ∀ c ∈ l, 48 ≤ c ∧ c ≤ 57
instance (l : List Nat) : Decidable (Dg l) := by
  unfold Dg
  infer_instance
/-- the number that a text tells -/
def rdNum (l : List Nat) : Option Int := if (1 ≤ l.length ∧ l.length ≤ 31) ∧ Dg l ∧ (l.head? = some 48 → l = [48]) then some (NumText.digitsVal l : Nat) else none
theorem val_lt : ∀ (l : List Nat) (acc : Nat), Dg l → List.foldl (fun acc c => acc * 10 + (c - 48)) acc l < (acc + 1) * 10 ^ l.length
  | [], acc, _ => by simp
  | c :: l, acc, h => by
    have hc := h c List.mem_cons_self
    have ih := val_lt l (acc * 10 + (c - 48)) fun x hx => h x (List.mem_cons_of_mem _ hx)
    rw [List.foldl_cons, List.length_cons]
    have e : (acc + 1) * 10 ^ (l.length + 1) = ((acc + 1) * 10) * 10 ^ l.length := by rw [Nat.pow_succ, Nat.mul_assoc, Nat.mul_comm 10]
    rw [e]
    exact Nat.lt_of_lt_of_le ih (Nat.mul_le_mul_right _ (by omega))
/-- a number or None -/
def oI : Option Int → V
  | some i => .int i
  | none => .non
/-- one sign is not in a text -/
abbrev rNI : V → V → Hp → VK → Prop := fun x y H Q => ∃ (c : Nat) (z : Str), x = .str ⟨#[c]⟩ ∧ y = .str z ∧ Q (.bl (!decide (c ∈ z.cps.toList))) H
def spRdNum : Sp := fun vs H Q _ => ∃ z : Str, vs = [.str z] ∧ z.length ≤ 1000000 ∧ ∀ H', Same H H' → Q (oI (rdNum (TL.tl z))) H'
section
variable {P : Program} {w : World} {K : PySem.W.Frag} {mg : Str → Option Value} {base : Heap}
abbrev nReadNumber : List Str := ["text", "mark"]
theorem scReadNumber : FnScope nReadNumber ["text"] (defScope sReadNumber) := ⟨rfl, rfl, rfl, by decide +kernel, rfl, by decide +kernel, by decide +kernel⟩
theorem ok_readNumber {f : Addr} {fd : FuncData} (F : Fun K "read_number" "read_number" sReadNumber f fd) (hMD : ∃ t, mg "MOST_DIGITS" = some (.int 31 t)) (hDG : ∃ t, mg "DIGITS" = some (.str "0123456789" t)) (hLen : mg "len" = none) (hAny : mg "any" = none) (hInt : mg "int" = none) : FnOk P w K mg base CX0 1 f fd ["text"] spRdNum := by
  refine F.ok scReadNumber (fun vs H Q E h => ?_) (fun cdv A outer s0 H vs Q E hr h => ?_)
  · obtain ⟨z, rfl, _⟩ := h
    rfl
  · obtain ⟨z, rfl, zl, kont⟩ := h
    obtain ⟨tM, hMD⟩ := hMD
    obtain ⟨tD, hDG⟩ := hDG
    refine ⟨_, pss_cons (ps_if (PW.pt (pw_or (pt_not (pt_chain op_le op_le pe_int (pe_callB call_len_str (by rfl) hLen (by decide +kernel) (pa_cons (pv 0) pa_nil)) (pe_glob (v := V.int 31) rfl hMD ⟨tM, rfl⟩))) (pw_or1 (pt_val (pe_callB (cr_any rfl) (by rfl) hAny (by decide +kernel) (pa_cons (pe_lc (own := [("mark", 1)]) (g := gName 1) (tt := tYes) (te := tOp rNI (tVar 1) (tC (V.str "0123456789"))) rfl scReadNumber.nd (pi_str (pv 0)) (blkOk_by (own := [("mark", 1)]) (N := nReadNumber) (sc := defScope sReadNumber) (by decide +kernel)) (fun _ _ _ _ _ => (pg_name (i := 1) scReadNumber.nd rfl (Or.inl rfl))) (fun _ _ _ _ _ => pts_nil) (fun _ _ _ _ _ => (pe_cmpR op_notIn_sign (pv 1) (pe_glob (v := V.str "0123456789") rfl hDG ⟨tD, rfl⟩) rfl))) pa_nil))))))
        (pss_one (ps_ret pe_non))
        pss_nil)
      (pss_cons (ps_if (PW.pt (pw_and (pt_cmpR op_eq (pe_ix ix_str (pv 0) pe_int (fun _ _ => rfl)) pe_str (nomark _)) (pw_and1 (pt_cmpR op_ne (pv 0) pe_str (nomark _)))))
        (pss_one (ps_ret pe_non))
        pss_nil)
      (pss_one (ps_ret (pe_callTy call_int_str (by rfl) hInt (by decide +kernel) (pa_cons (pv 0) pa_nil))))), ?_⟩
    have tz : z.length = (TL.tl z).length := TL.len_tl z
    have zL : z.length ≤ sizeLine := by rw [PySem.sizeLine_eq]; omega
    -- 1 <= len(text) <= MOST_DIGITS
    refine ⟨_, rfl, _, rfl, zL, _, _, rfl, rfl, _, rfl, ?_⟩
    have ctr : decide (1 ≤ ((z.length : Nat) : Int)) = decide (1 ≤ (TL.tl z).length) := by
      rw [decide_eq_decide, tz]
      omega
    have no : ¬ ((1 ≤ (TL.tl z).length ∧ (TL.tl z).length ≤ 31) ∧ Dg (TL.tl z) ∧ ((TL.tl z).head? = some 48 → TL.tl z = [48])) → rdNum (TL.tl z) = none := fun h => if_neg h
    by_cases c1 : ¬ (1 ≤ (TL.tl z).length)
    · rw [ctr, decide_eq_false c1]
      refine iteF ⟨_, rfl, iteT ?_⟩
      have h := kont H (Same.refl H)
      rw [no fun q => c1 q.1.1] at h
      exact h
    replace c1 := Classical.not_not.mp c1
    rw [ctr, decide_eq_true c1]
    refine iteT ⟨_, _, rfl, rfl, _, rfl, ?_⟩
    by_cases c2 : ¬ ((TL.tl z).length ≤ 31)
    · rw [decide_eq_false (by rw [tz]; omega)]
      refine iteT ?_
      have h := kont H (Same.refl H)
      rw [no fun q => c2 q.1.2] at h
      exact h
    replace c2 := Classical.not_not.mp c2
    rw [decide_eq_true (by rw [tz]; omega)]
    refine iteF ?_
    have zs : z.cps.size = (TL.tl z).length := by simp
    -- any([mark not in DIGITS for mark in text])
    refine ⟨_, rfl, z, rfl, fun D hD => lc_it (walk_str (z := z)) (fun i Gc => Gc D = some (.lst (((TL.tl z).take i).map fun c => V.bl (!decide (48 ≤ c ∧ c ≤ 57)))) ∧ Same H Gc)
      ⟨upd_same, Same.new hD⟩ (fun _ _ _ _ => trivial) ?_ ?_⟩
    · rintro i x Gc G' hi ⟨gD, sg⟩ ⟨rfl, c, hc, rfl⟩
      have hc' : (TL.tl z)[i]? = some c := by
        rw [← hc]
        exact (Array.getElem?_toList).trans rfl
      dsimp only [gName]
      refine ⟨rfl, ?_⟩
      unfold tYes
      refine iteT ⟨_, rfl, c, "0123456789", rfl, rfl, _, gD, (by rw [PySem.sizeLine_eq, List.length_map, List.length_take]; omega), ?_, fun b o e => by rw [upd_ne (ne_of_none e hD)]; exact sg b o e⟩
      rw [take_get hc', List.map_append]
      have e : decide (c ∈ ((("0123456789" : Str)).cps.toList)) = decide (48 ≤ c ∧ c ≤ 57) := by
        rw [decide_eq_decide]
        have e0 : (("0123456789" : Str)).cps.toList = [48, 49, 50, 51, 52, 53, 54, 55, 56, 57] := by decide
        rw [e0]
        simp only [List.mem_cons, List.not_mem_nil, or_false]
        omega
      rw [e]
      exact upd_same
    · rintro G1 ⟨gD, s1⟩
      rw [zs, List.take_length] at gD
      have gD' : G1 D = some (.lst ((((TL.tl z).map fun c => !decide (48 ≤ c ∧ c ≤ 57)) : List Bool).map V.bl)) := by rw [List.map_map]; exact gD
      refine ⟨D, _, rfl, SqL.of gD', _, rfl, ?_⟩
      have ea : (((TL.tl z).map fun c => !decide (48 ≤ c ∧ c ≤ 57)) : List Bool).any id = !decide (Dg (TL.tl z)) := by
        by_cases d : Dg (TL.tl z)
        · rw [decide_eq_true d]
          refine List.any_eq_false.mpr fun b hb => ?_
          obtain ⟨c, hc, rfl⟩ := List.mem_map.mp hb
          have := d c hc
          simp [this]
        · rw [decide_eq_false d]
          refine List.any_eq_true.mpr ?_
          have ⟨c, hc⟩ := Classical.not_forall.mp d
          have ⟨h1, h2⟩ := Classical.not_imp.mp hc
          exact ⟨_, List.mem_map.mpr ⟨c, h1, rfl⟩, by simp only [id]; rw [decide_eq_false h2]; rfl⟩
      rw [ea]
      by_cases c3 : ¬ (Dg (TL.tl z))
      · rw [decide_eq_false c3]
        refine iteT ?_
        have h := kont G1 s1
        rw [no fun q => c3 q.2.1] at h
        exact h
      replace c3 := Classical.not_not.mp c3
      rw [decide_eq_true c3]
      refine iteF ?_
      -- text[0] == "0" and text != "0"
      obtain ⟨c, r, ez⟩ : ∃ c r, TL.tl z = c :: r := by
        cases e : TL.tl z with
        | nil => rw [e] at c1; exact absurd c1 (by decide)
        | cons c r => exact ⟨c, r, rfl⟩
      have at0 : atI z.cps.toList 0 = some c := by
        have e1 : z.cps.toList = c :: r := ez
        rw [e1]
        show atI (c :: r) ((0 : Nat) : Int) = _
        exact atI_nat rfl
      have s0e : ∀ y : Str, decide ((V.str y : V) = V.str "0") = decide (TL.tl y = [48]) := fun y => by
        rw [decide_eq_decide]
        have e0 : TL.tl ("0" : Str) = [48] := by decide
        exact ⟨fun q => by rw [V.str.inj q, e0], fun q => by rw [TL.ext_tl (q.trans e0.symm)]⟩
      refine ⟨_, rfl, z, 0, c, rfl, rfl, zL, at0, rfl, _, rfl, ?_⟩
      rw [s0e]
      have good : ((TL.tl z).head? = some 48 → TL.tl z = [48]) → oI (rdNum (TL.tl z)) = V.int (NumText.digitsVal (TL.tl z) : Nat) := fun h => by
        unfold rdNum
        rw [if_pos ⟨⟨c1, c2⟩, c3, h⟩]
        rfl
      have fin : ((TL.tl z).head? = some 48 → TL.tl z = [48]) → PySem.intText? z = some ((NumText.digitsVal (TL.tl z) : Nat) : Int) ∧ z.length ≤ 640 ∧ Q (V.int ((NumText.digitsVal (TL.tl z) : Nat) : Int)) G1 := fun h => ⟨intText_digits c3 (fun q => by rw [show TL.tl z = [] from q] at ez; cases ez) (by omega), by omega, by
        rw [← good h]
        exact kont G1 s1⟩
      by_cases c4 : c = 48
      · subst c4
        rw [decide_eq_true (rfl : TL.tl (⟨#[48]⟩ : Str) = [48])]
        refine iteT ⟨_, rfl, rfl, _, rfl, ?_⟩
        rw [s0e]
        by_cases c5 : TL.tl z = [48]
        · rw [decide_eq_true c5]
          exact iteF ⟨_, rfl, z, _, rfl, fin fun _ => c5⟩
        · rw [decide_eq_false c5]
          refine iteT ?_
          have h := kont G1 s1
          rw [no fun q => c5 (q.2.2 (by rw [ez]; rfl))] at h
          exact h
      · rw [decide_eq_false (fun q : TL.tl (⟨#[c]⟩ : Str) = [48] => c4 (List.cons.inj q).1)]
        exact iteF (iteF ⟨_, rfl, z, _, rfl, fin fun q => absurd (by rw [ez] at q; exact Option.some.inj q) c4⟩)
end
end OT
set_option Elab.async false
set_option linter.all false
set_option maxRecDepth 100000
set_option maxHeartbeats 4000000
namespace OT
open PySem L2 OTR
theorem first_of {s : Nat} : ∀ {l : List Nat}, s ∈ l → ∃ p r, l = p ++ s :: r ∧ s ∉ p
  | [], h => by cases h
  | c :: l, h => by
    by_cases e : s = c
    · subst e
      exact ⟨[], l, rfl, by simp⟩
    · obtain ⟨p, r, e1, h1⟩ := first_of (l := l) (by rcases List.mem_cons.mp h with z | z; exact absurd z e; exact z)
      refine ⟨c :: p, r, by rw [e1]; rfl, fun z => ?_⟩
      rcases List.mem_cons.mp z with z | z
      · exact e z
      · exact h1 z
structure Sep (y : Str) (s : Nat) : Prop where
  tl : TL.tl y = [s]
  kd : y.cps.all (· < 256) = true
theorem sep_blank : Sep " " 32 := ⟨by decide, by decide +kernel⟩
theorem sep_colon : Sep ":" 58 := ⟨by decide, by decide +kernel⟩
theorem sep_slash : Sep "/" 47 := ⟨by decide, by decide +kernel⟩
theorem cut_no {y z : Str} {s : Nat} (Y : Sep y s) (h : s ∉ TL.tl z) : Txt.split z y = [z] ∧ Txt.partition z y = (z, Str.empty, Str.empty) := by
  refine ⟨TL.map_tl_inj ?_, TL.partition_none Y.tl h⟩
  rw [TL.split_spl _ y (by rw [Y.tl]; simp) (TL.kind_ok Y.kd), Y.tl, TL.spl_last1 h]
  rfl
theorem cut_at {y a b : Str} {s : Nat} (Y : Sep y s) (h : s ∉ TL.tl a) : Txt.split (a ++ y ++ b) y = a :: Txt.split b y ∧ Txt.partition (a ++ y ++ b) y = (a, y, b) := by
  refine ⟨TL.map_tl_inj ?_, TL.partition_app Y.tl h⟩
  rw [TL.split_spl _ y (by rw [Y.tl]; simp) (TL.kind_ok Y.kd), TL.tl_append, TL.tl_append, List.append_assoc, Y.tl, TL.spl_part1 h, List.map_cons, TL.split_spl _ y (by rw [Y.tl]; simp) (TL.kind_ok Y.kd), Y.tl, List.nil_append]
theorem cut_or {y : Str} {s : Nat} (Y : Sep y s) (z : Str) : (s ∉ TL.tl z ∧ Txt.split z y = [z] ∧ Txt.partition z y = (z, Str.empty, Str.empty)) ∨
    ∃ a b : Str, z = a ++ y ++ b ∧ s ∉ TL.tl a ∧ Txt.split z y = a :: Txt.split b y ∧ Txt.partition z y = (a, y, b) := by
  by_cases h : s ∈ TL.tl z
  · obtain ⟨p, r, e, n⟩ := first_of h
    have ez : z = (⟨p.toArray⟩ : Str) ++ y ++ ⟨r.toArray⟩ := TL.ext_tl (by rw [e, TL.tl_append, TL.tl_append, Y.tl, TL.tl_mk, TL.tl_mk]; simp)
    have na : s ∉ TL.tl (⟨p.toArray⟩ : Str) := n
    obtain ⟨h1, h2⟩ := cut_at (b := ⟨r.toArray⟩) Y na
    exact .inr ⟨_, _, ez, na, by rw [ez]; exact h1, by rw [ez]; exact h2⟩
  · exact .inl ⟨h, cut_no Y h⟩
theorem split_cons {y : Str} {s : Nat} (Y : Sep y s) (z : Str) : ∃ a r, Txt.split z y = a :: r := by
  rcases cut_or Y z with ⟨_, h, _⟩ | ⟨a, b, _, _, h, _⟩
  · exact ⟨_, _, h⟩
  · exact ⟨_, _, h⟩
/-- the parts of a text are no longer than it, and not many more than its signs -/
theorem spl_len (S : List Nat) (hS : S ≠ []) : ∀ (n : Nat) (l acc : List Nat), l.length ≤ n → (TL.spl S 0 acc l).length ≤ l.length + 1 ∧ ∀ p ∈ TL.spl S 0 acc l, p.length ≤ acc.length + l.length
  | 0, l, acc, h => by
    have e : l = [] := List.eq_nil_of_length_eq_zero (Nat.le_zero.mp h)
    subst e
    rw [TL.spl_nil]
    exact ⟨by simp, fun p hp => by rw [List.mem_singleton.mp hp]; simp⟩
  | n + 1, [], acc, h => by
    rw [TL.spl_nil]
    exact ⟨by simp, fun p hp => by rw [List.mem_singleton.mp hp]; simp⟩
  | n + 1, c :: r, acc, h => by
    have hr : r.length ≤ n := by
      rw [List.length_cons] at h
      omega
    cases e : TL.pre S (c :: r) with
    | true =>
      rw [TL.spl_hit e, TL.spl_pass]
      have hd : (r.drop (S.length - 1)).length ≤ r.length := by
        rw [List.length_drop]
        omega
      obtain ⟨h1, h2⟩ := spl_len S hS n (r.drop (S.length - 1)) [] (by omega)
      refine ⟨by simp only [List.length_cons]; omega, fun p hp => ?_⟩
      rcases List.mem_cons.mp hp with z | z
      · rw [z]
        omega
      · have := h2 p z
        simp only [List.length_nil, List.length_cons] at *
        omega
    | false =>
      rw [TL.spl_miss e]
      obtain ⟨h1, h2⟩ := spl_len S hS n r (acc ++ [c]) hr
      refine ⟨by simp only [List.length_cons]; omega, fun p hp => ?_⟩
      have := h2 p hp
      simp only [List.length_append, List.length_cons, List.length_nil] at *
      omega
theorem split_len {y : Str} (h0 : TL.tl y ≠ []) (hk : y.cps.all (· < 256) = true) (z : Str) : (Txt.split z y).length ≤ z.length + 1 ∧ ∀ p ∈ Txt.split z y, p.length ≤ z.length := by
  have e := TL.split_spl z y h0 (TL.kind_ok hk)
  obtain ⟨h1, h2⟩ := spl_len (TL.tl y) h0 _ (TL.tl z) [] (Nat.le_refl _)
  rw [← e] at h1 h2
  rw [List.length_map] at h1
  refine ⟨by rw [TL.len_tl]; exact h1, fun p hp => ?_⟩
  have := h2 (TL.tl p) (List.mem_map.mpr ⟨p, hp, rfl⟩)
  rw [TL.len_tl, TL.len_tl]
  simpa using this
theorem split_ne {y : Str} (h0 : TL.tl y ≠ []) (hk : y.cps.all (· < 256) = true) (z : Str) : Txt.split z y ≠ [] := fun q => by
  have e := TL.split_spl z y h0 (TL.kind_ok hk)
  rw [q] at e
  have n : ∀ (l acc : List Nat), TL.spl (TL.tl y) 0 acc l ≠ [] := by
    intro l
    induction l with
    | nil => intro acc; rw [TL.spl_nil]; simp
    | cons c r ih =>
      intro acc
      cases h : TL.pre (TL.tl y) (c :: r) with
      | true => rw [TL.spl_hit h]; simp
      | false => rw [TL.spl_miss h]; exact ih _
  exact n _ _ e.symm
theorem part_len {y : Str} {s : Nat} (Y : Sep y s) (z : Str) : (Txt.partition z y).1.length ≤ z.length ∧ (Txt.partition z y).2.2.length ≤ z.length := by
  rcases cut_or Y z with ⟨_, _, h⟩ | ⟨a, b, e, _, _, h⟩
  · rw [h]
    exact ⟨Nat.le_refl _, Nat.zero_le _⟩
  · rw [h]
    have l : z.length = a.length + 1 + b.length := by
      rw [e, TL.len_tl, TL.tl_append, TL.tl_append, Y.tl, List.length_append, List.length_append, ← TL.len_tl, ← TL.len_tl]
      rfl
    exact ⟨by show a.length ≤ _; omega, by show b.length ≤ _; omega⟩
def rdN (z : Str) : Option Int := rdNum (TL.tl z)
theorem rdN_nb {z : Str} {i : Int} (h : rdN z = some i) : NB i := by
  unfold rdN rdNum at h
  split at h
  · rename_i c
    cases h
    have v := val_lt (TL.tl z) 0 c.2.1
    rw [Nat.zero_add, Nat.one_mul] at v
    have p : (10 : Nat) ^ (TL.tl z).length ≤ 10 ^ 31 := Nat.pow_le_pow_right (by decide) c.1.2
    have e : (10 : Nat) ^ 31 = 10000000000000000000000000000000 := by decide
    have v' : NumText.digitsVal (TL.tl z) < 10 ^ (TL.tl z).length := v
    exact ⟨by omega, by omega⟩
  · cases h
theorem rdN_sep {z : Str} {s : Nat} (h : s ∈ TL.tl z) (hs : s < 48 ∨ 57 < s) : rdN z = none := by
  unfold rdN rdNum
  rw [if_neg fun q => ?_]
  have := q.2.1 s h
  omega
theorem rdN_emp : rdN Str.empty = none := by
  unfold rdN rdNum
  rw [if_neg fun q => ?_]
  have e : TL.tl Str.empty = [] := rfl
  rw [e] at q
  exact absurd q.1.1 (by decide)
/-- three numbers -/
def tri : List (Option Int) → Option Fact
  | [some a, some b, some c] => some (a, b, c)
  | _ => none
theorem tri_len {l : List (Option Int)} (h : l.length ≠ 3) : tri l = none := by
  unfold tri
  split
  · simp at h
  · rfl
theorem tri_none {l : List (Option Int)} (h : none ∈ l) : tri l = none := by
  unfold tri
  split
  · simp at h
  · rfl
theorem tri_some {l : List (Option Int)} (h : l.length = 3) (n : none ∉ l) : ∃ a b c, l = [some a, some b, some c] := by
  match l, h, n with
  | [some a, some b, some c], _, _ => exact ⟨a, b, c, rfl⟩
  | [none, _, _], _, n => simp at n
  | [some _, none, _], _, n => simp at n
  | [some _, some _, none], _, n => simp at n
/-- the road that a row of text tells -/
def rdR (z : Str) : Option Fact :=
  match Txt.split z " " with
  | w :: ws => if w = ("road" : Str) then tri (ws.map rdN) else none
  | [] => none
/-- the place that a text tells -/
def rdP (g : Str) : Option Fact :=
  match rdN (Txt.partition g ":").1, rdN (Txt.partition (Txt.partition g ":").2.2 "/").1, (if (Txt.partition (Txt.partition g ":").2.2 "/").2.1 = Str.empty then some 1 else rdN (Txt.partition (Txt.partition g ":").2.2 "/").2.2) with
  | some a, some b, some c => if ¬ (Txt.partition (Txt.partition g ":").2.2 "/").2.1 = Str.empty ∧ c < 2 then none else some (a, b, c)
  | _, _, _ => none
/-- the march that a text tells -/
def rdM (z : Str) : Option (Fact × Int) :=
  match rdP (Txt.partition z " ").1, rdN (Txt.partition z " ").2.2 with
  | some r, some n => some (r, n)
  | _, _ => none
theorem rdP_nb {z : Str} {r : Fact} (h : rdP z = some r) : (NB r.1 ∧ NB r.2.1 ∧ NB r.2.2) ∧ 1 ≤ r.2.2 := by
  unfold rdP at h
  split at h
  · rename_i a b c h1 h2 h3
    by_cases e : (Txt.partition (Txt.partition z ":").2.2 "/").2.1 = Str.empty
    · rw [if_pos e] at h3
      cases h3
      rw [if_neg fun q => q.1 e] at h
      cases h
      exact ⟨⟨rdN_nb h1, rdN_nb h2, (⟨by decide, by decide⟩ : NB 1)⟩, (by decide : (1 : Int) ≤ 1)⟩
    · rw [if_neg e] at h3
      by_cases c2 : c < 2
      · rw [if_pos ⟨e, c2⟩] at h
        cases h
      · rw [if_neg fun q => c2 q.2] at h
        cases h
        exact ⟨⟨rdN_nb h1, rdN_nb h2, rdN_nb h3⟩, by show 1 ≤ c; omega⟩
  · cases h
theorem rdM_nb {z : Str} {x : Fact × Int} (h : rdM z = some x) : ((NB x.1.1 ∧ NB x.1.2.1 ∧ NB x.1.2.2) ∧ 1 ≤ x.1.2.2) ∧ NB x.2 := by
  unfold rdM at h
  split at h
  · rename_i r n h1 h2
    cases h
    exact ⟨rdP_nb h1, rdN_nb h2⟩
  · cases h
/-- the turn of the first that tells nothing -/
def badAt {α β : Type} (f : α → Option β) : List α → Option Nat
  | [] => none
  | x :: l => match f x with
    | none => some 0
    | some _ => (badAt f l).map (· + 1)
theorem badAt_hit {α β : Type} {f : α → Option β} : ∀ {l : List α} {i : Nat} {x : α}, (∀ (j : Nat) (y : α), j < i → l[j]? = some y → f y ≠ none) → l[i]? = some x → f x = none → badAt f l = some i
  | [], i, x, _, h, _ => by simp at h
  | y :: l, 0, x, _, h, hx => by
    cases (show y = x by simpa using h)
    show (match f y with | none => some 0 | some _ => (badAt f l).map (· + 1)) = _
    rw [hx]
  | y :: l, i + 1, x, hb, h, hx => by
    have ih := badAt_hit (l := l) (i := i) (x := x) (fun j z hj hz => hb (j + 1) z (by omega) (by simpa using hz)) (by simpa using h) hx
    show (match f y with | none => some 0 | some _ => (badAt f l).map (· + 1)) = _
    cases e : f y with
    | none => exact absurd e (hb 0 y (by omega) rfl)
    | some v => rw [ih]; rfl
theorem badAt_none {α β : Type} {f : α → Option β} : ∀ {l : List α}, (∀ x ∈ l, f x ≠ none) → badAt f l = none
  | [], _ => rfl
  | y :: l, h => by
    show (match f y with | none => some 0 | some _ => (badAt f l).map (· + 1)) = _
    cases e : f y with
    | none => exact absurd e (h y List.mem_cons_self)
    | some v => rw [badAt_none fun x hx => h x (List.mem_cons_of_mem _ hx)]; rfl
theorem badAt_all {α β : Type} {f : α → Option β} : ∀ {l : List α}, badAt f l = none → ∀ x ∈ l, f x ≠ none
  | [], _, x, hx => by cases hx
  | y :: l, h, x, hx => by
    have h : (match f y with | none => some 0 | some _ => (badAt f l).map (· + 1)) = none := h
    cases e : f y with
    | none => rw [e] at h; cases h
    | some v =>
      rw [e] at h
      rcases List.mem_cons.mp hx with rfl | hx
      · rw [e]; simp
      · exact badAt_all (by simpa using h) x hx
theorem badAt_some {α β : Type} {f : α → Option β} : ∀ {l : List α} {i : Nat}, badAt f l = some i → (∃ x, l[i]? = some x ∧ f x = none) ∧ ∀ (j : Nat) (y : α), j < i → l[j]? = some y → f y ≠ none
  | [], i, h => by cases h
  | y :: l, i, h => by
    have h : (match f y with | none => some 0 | some _ => (badAt f l).map (· + 1)) = some i := h
    cases e : f y with
    | none =>
      rw [e] at h
      cases h
      exact ⟨⟨y, rfl, e⟩, fun j z hj => absurd hj (by omega)⟩
    | some v =>
      rw [e] at h
      obtain ⟨k, hk, rfl⟩ : ∃ k, badAt f l = some k ∧ i = k + 1 := by
        cases e2 : badAt f l with
        | none => rw [e2] at h; cases h
        | some k => rw [e2] at h; cases h; exact ⟨k, rfl, rfl⟩
      obtain ⟨⟨x, hx, fx⟩, hb⟩ := badAt_some hk
      refine ⟨⟨x, by simpa using hx, fx⟩, fun j z hj hz => ?_⟩
      cases j with
      | zero =>
        cases (show y = z by simpa using hz)
        rw [e]; simp
      | succ j => exact hb j z (by omega) (by simpa using hz)
theorem take_good {α β : Type} {f : α → Option β} {l : List α} {i : Nat} {x : α} {v : β} (h : l[i]? = some x) (e : f x = some v) : (l.take (i + 1)).filterMap f = (l.take i).filterMap f ++ [v] := by
  rw [take_get h, List.filterMap_append]
  simp [e]
theorem good_len {α β : Type} {f : α → Option β} : ∀ {l : List α}, (∀ x ∈ l, f x ≠ none) → (l.filterMap f).length = l.length
  | [], _ => rfl
  | x :: l, h => by
    cases e : f x with
    | none => exact absurd e (h x List.mem_cons_self)
    | some v =>
      rw [List.filterMap_cons_some e, List.length_cons, List.length_cons, good_len fun y hy => h y (List.mem_cons_of_mem _ hy)]
theorem good_get {α β : Type} {f : α → Option β} : ∀ {l : List α} {i : Nat} {x : α} {v : β}, (∀ x ∈ l, f x ≠ none) → l[i]? = some x → f x = some v → (l.filterMap f)[i]? = some v
  | [], i, x, v, _, h, _ => by simp at h
  | y :: l, i, x, v, hg, h, e => by
    cases e2 : f y with
    | none => exact absurd e2 (hg y List.mem_cons_self)
    | some u =>
      rw [List.filterMap_cons_some e2]
      cases i with
      | zero =>
        cases (show y = x by simpa using h)
        rw [e] at e2
        cases e2
        rfl
      | succ i =>
        rw [List.getElem?_cons_succ]
        exact good_get (fun z hz => hg z (List.mem_cons_of_mem _ hz)) (by simpa using h) e
end OT
namespace OT
def SameEnds (r r' : Fact) : Prop := (r'.1 = r.1 ∧ r'.2.1 = r.2.1) ∨ (r'.1 = r.2.1 ∧ r'.2.1 = r.1)
theorem SameEnds.refl (r : Fact) : SameEnds r r := .inl ⟨rfl, rfl⟩
theorem SameEnds.symm {r r' : Fact} (h : SameEnds r r') : SameEnds r' r := h.elim (fun ⟨a, b⟩ => .inl ⟨a.symm, b.symm⟩) fun ⟨a, b⟩ => .inr ⟨b.symm, a.symm⟩
def gcdI (a b : Int) : Int := ((Nat.gcd a.natAbs b.natAbs : Nat) : Int)
/-- number / parts in lowest terms -/
def low (r : Fact) : Fact := (r.1, r.2.1 / gcdI r.2.1 r.2.2, r.2.2 / gcdI r.2.1 r.2.2)
theorem gcd_pos {a b : Int} (h : 1 ≤ b) : 0 < gcdI a b := by
  have : 0 < Nat.gcd a.natAbs b.natAbs := Nat.gcd_pos_of_pos_right _ (by omega)
  unfold gcdI
  omega
theorem gcd_log {a b : Int} (h : 1 ≤ b) (k : b.natAbs.log2 < 9000) : (gcdI a b).natAbs.log2 < 9000 := by
  have p := gcd_pos (a := a) h
  have l : Nat.gcd a.natAbs b.natAbs ≤ b.natAbs := Nat.gcd_le_right _ (by omega)
  have e : (gcdI a b).natAbs = Nat.gcd a.natAbs b.natAbs := by
    unfold gcdI
    omega
  rw [e]
  have n1 : Nat.gcd a.natAbs b.natAbs ≠ 0 := by omega
  have n2 : b.natAbs ≠ 0 := by omega
  rw [Nat.log2_lt n1]
  rw [Nat.log2_lt n2] at k
  omega
theorem gcdI_left (a b : Int) : gcdI a b ∣ a := Int.gcd_dvd_left a b
theorem gcdI_right (a b : Int) : gcdI a b ∣ b := Int.gcd_dvd_right a b
theorem low_mul {a n s : Int} (k : Int) (hk : 0 < k) : low (a, n * k, s * k) = low (a, n, s) := by
  have e : gcdI (n * k) (s * k) = gcdI n s * k := by
    unfold gcdI
    rw [Int.natAbs_mul, Int.natAbs_mul, Nat.gcd_mul_right, Int.natCast_mul]
    congr 1
    omega
  unfold low
  simp only
  rw [e, Int.mul_ediv_mul_of_pos_left n _ hk, Int.mul_ediv_mul_of_pos_left s _ hk]
theorem back_of {x g : Int} (h : g ∣ x) : x = x / g * g := (Int.ediv_mul_cancel h).symm
end OT
set_option Elab.async false
set_option linter.all false
set_option maxRecDepth 100000
set_option maxHeartbeats 2000000
namespace OT
open PySem L2 OTR
abbrev sPlaceI : Stmt := inClass (top 22) 0
structure PlT (K : PySem.W.Frag) (mg : Str → Option Value) (C : Addr) : Prop where
  cl : Cls K C
  nR : NoAttr K C "road"
  nN : NoAttr K C "number"
  nP : NoAttr K C "parts"
  mgC : mg "Place" = some (.ref C)
/-- a place: road, number, parts -/
def plF (r : Fact) : List (Str × V) := [("road", .int r.1), ("number", .int r.2.1), ("parts", .int r.2.2)]
theorem plF_r (r : Fact) : (plF r).lookup ("road" : Str) = some (.int r.1) := lk0
theorem plF_n (r : Fact) : (plF r).lookup ("number" : Str) = some (.int r.2.1) := by
  unfold plF
  rw [lk1 (by decide +kernel)]
  exact lk0
theorem plF_p (r : Fact) : (plF r).lookup ("parts" : Str) = some (.int r.2.2) := by
  unfold plF
  rw [lk1 (by decide +kernel), lk1 (by decide +kernel)]
  exact lk0
theorem plF_put1 (r : Fact) : putF "number" (.int r.2.1) (putF "road" (.int r.1) []) = ([("road", V.int r.1), ("number", V.int r.2.1)] : List (Str × V)) := by
  have h1 : ¬ (("road" : Str) = "number") := by decide +kernel
  show (if ("road" : Str) = "number" then _ else (("road" : Str), V.int r.1) :: putF "number" (.int r.2.1) []) = _
  rw [if_neg h1]
  rfl
theorem plF_put (r : Fact) : putF "parts" (.int r.2.2) (putF "number" (.int r.2.1) (putF "road" (.int r.1) [])) = plF r := by
  rw [plF_put1]
  have h2 : ¬ (("road" : Str) = "parts") := by decide +kernel
  have h3 : ¬ (("number" : Str) = "parts") := by decide +kernel
  show (if ("road" : Str) = "parts" then _ else (("road" : Str), V.int r.1) :: (if ("number" : Str) = "parts" then _ else (("number" : Str), V.int r.2.1) :: putF "parts" (.int r.2.2) [])) = plF r
  rw [if_neg h2, if_neg h3]
  rfl
def PlaceAt (C : Addr) (H : Hp) (p : Addr) (r : Fact) : Prop := ∃ dx, H p = some (.ins C dx (plF r))
theorem PlaceAt.same {C : Addr} {H H' : Hp} {p : Addr} {r : Fact} (h : PlaceAt C H p r) (s : Same H H') : PlaceAt C H' p r := let ⟨dx, e⟩ := h; ⟨dx, s _ _ e⟩
/-- Place(road, number, parts): its __init__ -/
def spPlaceI (C CB : Addr) : Sp := fun vs H Q E => ∃ (p dx : Addr) (r : Fact), vs = [.ref p, .int r.1, .int r.2.1, .int r.2.2] ∧ H p = some (.ins C dx []) ∧
  (r.2.2 < 1 → Raised CB [("count", .int r.2.2), ("what", .str "parts")] H E) ∧
  (1 ≤ r.2.2 → r.2.2.natAbs.log2 < 9000 ∧ ∀ H', PlaceAt C H' p (low r) → (∀ b o, H b = some o → b ≠ p → H' b = some o) → Q .non H')
section
variable {P : Program} {w : World} {K : PySem.W.Frag} {mg : Str → Option Value} {base : Heap}
theorem scPlaceI : FnScope ["self", "road", "number", "parts", "shared"] ["self", "road", "number", "parts"] (defScope sPlaceI) := ⟨rfl, rfl, rfl, by decide +kernel, rfl, by decide +kernel, by decide +kernel⟩
theorem ok_placeI {f C CB fB : Addr} {fd fdB : FuncData} (F : Fun K "__init__" "Place.__init__" sPlaceI f fd) (T : PlT K mg C) (TB : ErT K mg "BadCount" CB fB)
    (FB : FnOk P w K mg base CX0 1 fB fdB ["self", "what", "count"] (spEr2 CB "what" "count")) (bB : Binds K fdB ["self", "what", "count"] []) (hG : mg "gcd" = some (.builtin "math.gcd")) :
    FnOk P w K mg base (L2.CX P w) 3 f fd ["self", "road", "number", "parts"] (spPlaceI C CB) := by
  refine F.okX scPlaceI (fun vs H Q E h => ?_) (fun cdv A outer s H vs Q E hr h => ?_)
  · obtain ⟨p, dx, r, rfl, _⟩ := h
    rfl
  · obtain ⟨p, dx, r, rfl, hp, kE, kQ⟩ := h
    refine ⟨_, pss_cons (ps_if (pt_cmpR op_lt (pv 3) pe_int (nomark _)) (pss_one (ps_raise rfl (takes_of rfl rfl rfl rfl) (pmk_oex TB.ox TB.iC TB.tI FB hr bB .nil pass0 (by rfl) TB.gC (pa_cons pe_str (pa_cons (pv 3) pa_nil))))) pss_nil)
      (pss_cons (ps_set (i := 4) scPlaceI.nd rfl (Or.inl rfl) (pe_callBfun cr_gcd (by rfl) hG (pa_cons (pv 2) (pa_cons (pv 3) pa_nil))))
      (pss_cons (ps_fld (pv 0) (pv 1) rfl) (pss_cons (ps_fld (pv 0) (pe_op op_fdivW (pv 2) (pv 4)) rfl) (pss_one (ps_fld (pv 0) (pe_op op_fdivW (pv 3) (pv 4)) rfl))))), ?_⟩
    refine ⟨_, rfl, _, _, rfl, rfl, _, rfl, ?_⟩
    by_cases h1 : r.2.2 < 1
    · rw [decide_eq_true h1]
      exact iteT ⟨_, rfl, len2, fun a ha => er2 ha (kE h1)⟩
    · rw [decide_eq_false h1]
      obtain ⟨lg, k⟩ := kQ (by omega)
      have g0 := gcd_pos (a := r.2.1) (b := r.2.2) (by omega)
      have gl := gcd_log (a := r.2.1) (b := r.2.2) (by omega) lg
      refine iteF ?_
      refine ⟨_, rfl, _, rfl, _, _, rfl, ?_⟩
      refine ⟨_, rfl, _, rfl, p, C, dx, [], rfl, hp, T.cl, T.nR, (by show 0 < 1000; decide), ?_⟩
      refine ⟨_, rfl, _, rfl, _, _, rfl, rfl, ⟨g0, gl⟩, _, rfl, p, C, dx, _, rfl, upd_same, T.cl, T.nN, (by show 1 < 1000; decide), ?_⟩
      refine ⟨_, rfl, _, rfl, _, _, rfl, rfl, ⟨g0, gl⟩, _, rfl, p, C, dx, _, rfl, upd_same, T.cl, T.nP, ?_, ?_⟩
      · show (putF "number" (.int (low r).2.1) (putF "road" (.int (low r).1) [])).length < 1000
        rw [plF_put1 (low r)]
        show 2 < 1000
        decide
      · refine k _ ⟨dx, ?_⟩ fun b o e n => ?_
        · rw [← plF_put (low r)]
          exact upd_same
        · rw [upd_ne n, upd_ne n, upd_ne n]
          exact e
theorem scPlaceE : FnScope ["self", "other"] ["self", "other"] (defScope sPlaceE) := ⟨rfl, rfl, rfl, by decide +kernel, rfl, by decide +kernel, by decide +kernel⟩
/-- Place.__eq__ -/
def spPlaceE (C : Addr) : Sp := fun vs H Q _ => ∃ (a dx : Addr) (r : Fact) (y : V), vs = [.ref a, y] ∧ H a = some (.ins C dx (plF r)) ∧ ((∃ (b dy : Addr) (r' : Fact), y = .ref b ∧ H b = some (.ins C dy (plF r')) ∧ Q (.bl (decide (r = r'))) H) ∨ ((∃ T, HasT H y (.type T)) ∧ Q (.bl false) H))
theorem ok_placeE {f C fe : Addr} {fd : FuncData} (F : Fun K "__eq__" "Place.__eq__" sPlaceE f fd) (T : PlT K mg C) (c : QC K C fe) (hIs : mg "isinstance" = none) : FnOk P w K mg base CX0 1 f fd ["self", "other"] (spPlaceE C) := by
  refine F.ok scPlaceE (fun vs H Q E h => ?_) (fun cdv A outer s H vs Q E hr h => ?_)
  · obtain ⟨a, dx, r, y, rfl, _⟩ := h
    rfl
  · obtain ⟨a, dx, r, y, rfl, ea, h⟩ := h
    refine ⟨_, pss_one (ps_ret (pe_and (pe_callB call_isi (by rfl) hIs (by decide +kernel) (pa_cons (pv 1) (pa_cons (pe_glob (v := V.ref C) rfl T.mgC rfl) pa_nil)))
      (pe_and (pe_cmpR op_eq (pe_fld (pv 0) rfl) (pe_fld (pv 1) rfl) (nomark _)) (pe_and (pe_cmpR op_eq (pe_fld (pv 0) rfl) (pe_fld (pv 1) rfl) (nomark _)) (pe_one (pe_cmpR op_eq (pe_fld (pv 0) rfl) (pe_fld (pv 1) rfl) (nomark _))))))), ?_⟩
    rcases h with ⟨b, dy, r', rfl, eb, k⟩ | ⟨⟨ty, hy⟩, k⟩
    · refine ⟨_, rfl, _, _, _, _, true, rfl, .own C, c.tyx eb, kit_same, _, rfl, ?_⟩
      refine iteT ⟨_, rfl, a, C, dx, _, _, rfl, ea, T.cl, T.nR, plF_r r, _, rfl, b, C, dy, _, _, rfl, eb, T.cl, T.nR, plF_r r', rfl, _, rfl, ?_⟩
      by_cases h1 : r.1 = r'.1
      · refine iteV h1 ⟨_, rfl, a, C, dx, _, _, rfl, ea, T.cl, T.nN, plF_n r, _, rfl, b, C, dy, _, _, rfl, eb, T.cl, T.nN, plF_n r', rfl, _, rfl, ?_⟩
        by_cases h2 : r.2.1 = r'.2.1
        · refine iteV h2 ⟨_, rfl, a, C, dx, _, _, rfl, ea, T.cl, T.nP, plF_p r, _, rfl, b, C, dy, _, _, rfl, eb, T.cl, T.nP, plF_p r', rfl, ?_⟩
          have e : decide (V.int r.2.2 = V.int r'.2.2) = decide (r = r') := by
            rw [decide_eq_decide]
            exact ⟨fun z => Prod.ext h1 (Prod.ext h2 (V.int.inj z)), fun z => by rw [z]⟩
          rw [e]
          exact k
        · refine iteN h2 ?_
          rw [decide_eq_false (fun z : r = r' => h2 (by rw [z]))] at k
          exact k
      · refine iteN h1 ?_
        rw [decide_eq_false (fun z : r = r' => h1 (by rw [z]))] at k
        exact k
    · exact ⟨_, rfl, _, _, _, _, false, rfl, .own C, hasTyx hy, c.kit _ (hasT_oth hy), _, rfl, iteF k⟩
end
end OT
namespace OT
theorem Way.con_erase {F : List Fact} {x y : Int} {m : List Nat} {k : Nat} (w : Way F x m y) (n : k ∉ m) : Con (F.eraseIdx k) x y := by
  induction w with
  | nil => exact .refl _
  | @cons x y z j r l e jn w ih =>
    have ne : j ≠ k := fun z => n (z ▸ List.mem_cons_self ..)
    have mm : r ∈ F.eraseIdx k := List.mem_eraseIdx_iff_getElem?.mpr ⟨j, ne, e⟩
    exact (Con.one mm jn).trans (ih fun z => n (List.mem_cons_of_mem _ z))
/-- what joins a road's ends goes over it -/
theorem ring_no {F : List Fact} (nr : NoRing F) {k : Nat} {r : Fact} (e : F[k]? = some r) {x y : Int} (j : Jn r x y) {m : List Nat} (w : Way F x m y) : k ∈ m := by
  refine Classical.byContradiction fun n => ?_
  have c := w.con_erase n
  rcases j with ⟨rfl, rfl⟩ | ⟨rfl, rfl⟩
  · exact nr k r e c
  · exact nr k r e c.symm
theorem NoRing.ne {F : List Fact} (nr : NoRing F) {k : Nat} {r : Fact} (e : F[k]? = some r) : r.1 ≠ r.2.1 := fun z => nr k r e (by rw [z]; exact .refl _)
theorem Jn.end_eq {r : Fact} {x y z : Int} (ne : r.1 ≠ r.2.1) (j : Jn r x y) (j' : Jn r x z) : y = z := by
  rcases j with ⟨a, b⟩ | ⟨a, b⟩ <;> rcases j' with ⟨c, d⟩ | ⟨c, d⟩
  · exact b.symm.trans d
  · exact absurd (a.trans d.symm) ne
  · exact absurd (c.trans b.symm) ne
  · exact a.symm.trans c
theorem Jn.which {r : Fact} {x y u v : Int} (j : Jn r x y) (k : Jn r u v) : (u = x ∧ v = y) ∨ (u = y ∧ v = x) := by
  rcases j with ⟨a, b⟩ | ⟨a, b⟩ <;> rcases k with ⟨c, d⟩ | ⟨c, d⟩
  · exact .inl ⟨c.symm.trans a, d.symm.trans b⟩
  · exact .inr ⟨d.symm.trans b, c.symm.trans a⟩
  · exact .inr ⟨c.symm.trans a, d.symm.trans b⟩
  · exact .inl ⟨d.symm.trans b, c.symm.trans a⟩
theorem Way.split {F : List Fact} {x y : Int} {k : Nat} {m2 : List Nat} : ∀ {m1 : List Nat}, Way F x (m1 ++ k :: m2) y → ∃ u v r, Way F x m1 u ∧ F[k]? = some r ∧ Jn r u v ∧ Way F v m2 y := by
  intro m1
  induction m1 generalizing x with
  | nil =>
    intro w
    cases w with
    | cons e j w => exact ⟨_, _, _, .nil _, e, j, w⟩
  | cons a m1 ih =>
    intro w
    cases w with
    | cons e j w =>
      obtain ⟨u, v, r, w1, e1, j1, w2⟩ := ih w
      exact ⟨u, v, r, .cons e j w1, e1, j1, w2⟩
theorem mem_first {k : Nat} : ∀ {m : List Nat}, k ∈ m → ∃ m1 m2, m = m1 ++ k :: m2 ∧ k ∉ m1
  | [], h => by cases h
  | a :: m, h => by
    by_cases e : a = k
    · exact ⟨[], m, by rw [e]; rfl, by simp⟩
    · rcases List.mem_cons.mp h with h | h
      · exact absurd h.symm e
      · obtain ⟨m1, m2, rfl, n⟩ := mem_first h
        exact ⟨a :: m1, m2, rfl, fun z => by
          rcases List.mem_cons.mp z with z | z
          · exact e z.symm
          · exact n z⟩
theorem Way.uniq {F : List Fact} (nr : NoRing F) {y : Int} : ∀ {l m : List Nat} {x : Int}, Way F x l y → Way F x m y → l.Nodup → m.Nodup → l = m := by
  intro l
  induction l with
  | nil =>
    intro m x w v nl nm
    cases w
    cases v with
    | nil => rfl
    | cons e j v =>
      have z := ring_no nr e j v.rev
      exact absurd (List.mem_reverse.mp z) (List.nodup_cons.mp nm).1
  | cons k l ih =>
    intro m x w v nl nm
    cases w with
    | @cons _ z _ _ r _ e j w =>
      obtain ⟨nk, nl'⟩ := List.nodup_cons.mp nl
      cases v with
      | nil =>
        have z := ring_no nr e j w.rev
        exact absurd (List.mem_reverse.mp z) nk
      | @cons _ z' _ j' r' m' e' jn v =>
        obtain ⟨nj, nm'⟩ := List.nodup_cons.mp nm
        by_cases q : j' = k
        · subst q
          rw [e] at e'
          cases e'
          have ez := Jn.end_eq (nr.ne e) j jn
          subst ez
          rw [ih w v nl' nm']
        · exfalso
          by_cases km : k ∈ m'
          · obtain ⟨m1, m2, rfl, n1⟩ := mem_first km
            obtain ⟨u, u', r1, w1, e1, j1, w2⟩ := v.split
            rw [e] at e1
            cases e1
            rcases Jn.which j j1 with ⟨rfl, _⟩ | ⟨rfl, _⟩
            · have z := ring_no nr e' jn w1.rev
              exact nj (List.mem_append_left _ (List.mem_reverse.mp z))
            · have z := ring_no nr e j (Way.cons e' jn w1)
              rcases List.mem_cons.mp z with z | z
              · exact q z.symm
              · exact n1 z
          · have z := ring_no nr e j ((Way.cons e' jn v).append w.rev)
            rcases List.mem_append.mp z with z | z
            · rcases List.mem_cons.mp z with z | z
              · exact q z.symm
              · exact km z
            · exact nk (List.mem_reverse.mp z)
/-- a tree: the crossings 0 to n - 1, all joined, without a ring -/
structure TreeM (n : Int) (F : List Fact) : Prop where
  ok : ∀ r ∈ F, In n r.1 ∧ In n r.2.1 ∧ 1 ≤ r.2.2
  nr : NoRing F
  con : ∀ x y, In n x → In n y → Con F x y
open Classical in
/-- the way from x to y -/
noncomputable def tr (F : List Fact) (x y : Int) : List Nat := if h : ∃ l, Way F x l y ∧ l.Nodup then choose h else []
def rd (F : List Fact) (k : Nat) : Fact := F.getD k (0, 0, 0)
theorem rd_of {F : List Fact} {k : Nat} {r : Fact} (h : F[k]? = some r) : rd F k = r := by
  unfold rd
  rw [List.getD_eq_getElem?_getD, h]
  rfl
theorem rd_get {F : List Fact} {k : Nat} (h : k < F.length) : F[k]? = some (rd F k) := by
  unfold rd
  rw [List.getD_eq_getElem?_getD, List.getElem?_eq_getElem h]
  rfl
/-- the size of a road, in parts of a step -/
def sz (F : List Fact) (S : Int) (k : Nat) : Int := (rd F k).2.2 * S
/-- where a road meets the crossing at one of its ends -/
def eAt (F : List Fact) (S : Int) (k : Nat) (c : Int) : Int := if (rd F k).1 = c then 0 else sz F S k
/-- the crossing at the other end -/
def eBy (F : List Fact) (k : Nat) (c : Int) : Int := if (rd F k).1 = c then (rd F k).2.1 else (rd F k).1
/-- a leg: a road, from where to where -/
abbrev Leg := Nat × Int × Int
def dst (s e : Int) : Int := if e - s < 0 then -(e - s) else e - s
def total : List Leg → Int
  | [] => 0
  | (_, s, e) :: l => dst s e + total l
/-- the legs from the crossing c along the roads l to the place p of the road g -/
def legsC (F : List Fact) (S : Int) (g : Nat) (p : Int) : Int → List Nat → List Leg
  | c, [] => [(g, eAt F S g c, p)]
  | c, k :: l => if k = g then legsC F S g p c l else (k, eAt F S k c, eAt F S k (eBy F k c)) :: legsC F S g p (eBy F k c) l
open Classical in
/-- the end by which the way to the road g leaves the road k -/
noncomputable def up (F : List Fact) (g k : Nat) : Int := if k ∈ tr F (rd F k).1 (rd F g).1 then (rd F k).2.1 else (rd F k).1
/-- the legs from the place i of the road k -/
noncomputable def legsP (F : List Fact) (S : Int) (g : Nat) (p : Int) (k : Nat) (i : Int) : List Leg :=
  if k = g then [(g, i, p)] else (k, i, eAt F S k (up F g k)) :: legsC F S g p (up F g k) (tr F (up F g k) (rd F g).1)
end OT
namespace OT
inductive Nd
  | cr (c : Int) | mid (k : Nat) (i : Int)
  deriving DecidableEq
def node (F : List Fact) (S : Int) (k : Nat) (i : Int) : Nd := if i = 0 then .cr (rd F k).1 else if i = sz F S k then .cr (rd F k).2.1 else .mid k i
/-- i is a place of the road k -/
def On (F : List Fact) (S : Int) (k : Nat) (i : Int) : Prop := k < F.length ∧ 0 ≤ i ∧ i ≤ sz F S k
/-- one part of a step apart -/
def Adj (F : List Fact) (S : Int) (u v : Nd) : Prop := ∃ k i, k < F.length ∧ 0 ≤ i ∧ i + 1 ≤ sz F S k ∧ ((u = node F S k i ∧ v = node F S k (i + 1)) ∨ (u = node F S k (i + 1) ∧ v = node F S k i))
theorem Adj.symm {F : List Fact} {S : Int} {u v : Nd} (h : Adj F S u v) : Adj F S v u := let ⟨k, i, a, b, c, d⟩ := h; ⟨k, i, a, b, c, d.elim (fun z => .inr ⟨z.2, z.1⟩) fun z => .inl ⟨z.2, z.1⟩⟩
noncomputable def hP (F : List Fact) (S : Int) (g : Nat) (p : Int) (k : Nat) (i : Int) : Int := total (legsP F S g p k i)
section
variable {n : Int} {F : List Fact} {S : Int} {g : Nat} {p : Int} (T : TreeM n F) (hS : 1 ≤ S) (hg : On F S g p)
include T
theorem rd_ok {k : Nat} (h : k < F.length) : In n (rd F k).1 ∧ In n (rd F k).2.1 ∧ 1 ≤ (rd F k).2.2 ∧ (rd F k).1 ≠ (rd F k).2.1 := by
  have e := rd_get h
  obtain ⟨a, b, c⟩ := T.ok _ (List.mem_of_getElem? e)
  exact ⟨a, b, c, T.nr.ne e⟩
include hS
omit hS
end
end OT
set_option linter.all false
namespace OT
section
variable {n : Int} {F : List Fact} {S : Int} {g : Nat} {p : Int}
variable (T : TreeM n F) (hS : 1 ≤ S) (hg : On F S g p)
include T hS hg
omit T hS hg in
theorem Adj.of {k : Nat} {i j : Int} (hi : On F S k i) (hj : On F S k j) (a : j = i + 1 ∨ j = i - 1) : Adj F S (node F S k i) (node F S k j) := by
  rcases a with rfl | rfl
  · exact ⟨k, i, hi.1, hi.2.1, hj.2.2, .inl ⟨rfl, rfl⟩⟩
  · exact ⟨k, i - 1, hi.1, hj.2.1, by have := hi.2.2; omega, .inr ⟨by rw [Int.sub_add_cancel], rfl⟩⟩
end
end OT
set_option linter.all false
namespace OT
/-- the lowest-numbered road at a crossing -/
def fstR (F : List Fact) (c : Int) : Nat := F.findIdx fun r => decide (r.1 = c ∨ r.2.1 = c)
/-- the key of a place, as a road, a number and parts -/
def keyF (F : List Fact) (S : Int) : Nd → Fact
  | .cr c => ((fstR F c : Nat), eAt F 1 (fstR F c) c, 1)
  | .mid k i => low ((k : Nat), i, S)
theorem fstR_spec {n : Int} {F : List Fact} (T : TreeM n F) {c : Int} (hc : In n c) (h2 : 2 ≤ n) : fstR F c < F.length ∧ ((rd F (fstR F c)).1 = c ∨ (rd F (fstR F c)).2.1 = c) ∧ ∀ j, j < fstR F c → ¬ ((rd F j).1 = c ∨ (rd F j).2.1 = c) := by
  have ex : ∃ r ∈ F, r.1 = c ∨ r.2.1 = c := by
    obtain ⟨d, hd, ne⟩ : ∃ d, In n d ∧ d ≠ c := by
      by_cases z : c = 0
      · exact ⟨1, ⟨by decide, by omega⟩, by omega⟩
      · exact ⟨0, ⟨by decide, by omega⟩, fun q => z q.symm⟩
    have q := T.con d c hd hc
    cases q with
    | refl => exact absurd rfl ne
    | step _ m j =>
      refine ⟨_, m, ?_⟩
      rcases j with ⟨_, b⟩ | ⟨b, _⟩
      · exact .inr b
      · exact .inl b
  obtain ⟨r, m, e⟩ := ex
  have lt : fstR F c < F.length := List.findIdx_lt_length_of_exists ⟨r, m, by simpa using e⟩
  refine ⟨lt, ?_, fun j hj q => ?_⟩
  · have z := List.findIdx_getElem (xs := F) (p := fun r : Fact => decide (r.1 = c ∨ r.2.1 = c)) (w := lt)
    have z2 := of_decide_eq_true z
    have e2 : rd F (fstR F c) = F[fstR F c] := rd_of (List.getElem?_eq_getElem lt)
    rw [e2]
    exact z2
  · have lj : j < F.length := Nat.lt_trans hj lt
    have z := List.not_of_lt_findIdx (xs := F) (p := fun r : Fact => decide (r.1 = c ∨ r.2.1 = c)) hj
    have e2 : rd F j = F[j] := rd_of (List.getElem?_eq_getElem lj)
    rw [e2] at q
    simp only [decide_eq_false_iff_not] at z
    exact z q
end OT
set_option Elab.async false
set_option linter.all false
set_option maxRecDepth 100000
set_option maxHeartbeats 1000000
namespace OTR
open PySem PySem.Spec PyProof.Rows L2
end OTR
set_option Elab.async false
set_option linter.all false
set_option maxRecDepth 100000
set_option maxHeartbeats 4000000
namespace OT
open PySem L2 OTR
abbrev sNoRd : Stmt := inClass (top 6) 0
abbrev sOff : Stmt := inClass (top 7) 0
abbrev sCheckPl : Stmt := top 23
abbrev sEndAt : Stmt := top 20
abbrev sCorner : Stmt := top 25
abbrev sKey : Stmt := top 24
theorem PlaceAt.kp {C : Addr} {H H' : Hp} {p : Addr} {r : Fact} (h : PlaceAt C H p r) (k : Kp H H') : PlaceAt C H' p r := let ⟨dx, e⟩ := h; ⟨dx, k _ _ e fun _ z => nomatch z⟩
/-- a tree that the program has made -/
structure TreeG (n : Int) (F : List Fact) : Prop where
  m : TreeM n F
  big : ∀ r ∈ F, r.2.2 ≤ 1000000000
  n2 : 2 ≤ n
  n24 : n ≤ 24
  len : (F.length : Int) = n - 1
theorem TreeG.rd {n : Int} {F : List Fact} (T : TreeG n F) {k : Nat} (h : k < F.length) : 1 ≤ (rd F k).2.2 ∧ (OT.rd F k).2.2 ≤ 1000000000 := ⟨(rd_ok T.m h).2.2.1, T.big _ (List.mem_of_getElem? (rd_get h))⟩
theorem RoadsAt.at_ {CR : Addr} {H : Hp} {ps : List Addr} {F : List Fact} (h : RoadsAt CR H ps F) {k : Nat} (hk : k < F.length) : ∃ p, (ps.map V.ref)[k]? = some (V.ref p) ∧ RoadAt CR H p (rd F k) := by
  have lk : k < ps.length := by rw [h.len]; exact hk
  obtain ⟨r, e, a⟩ := h.get (List.getElem?_eq_getElem lk)
  refine ⟨ps[k], by rw [List.getElem?_map, List.getElem?_eq_getElem lk]; rfl, ?_⟩
  rw [rd_of e]
  exact a
/-- the place lies on the tree -/
def PlOn (F : List Fact) (r : Fact) : Prop := (0 ≤ r.1 ∧ r.1 < (F.length : Int)) ∧ 0 ≤ r.2.1 ∧ r.2.1 ≤ (rd F r.1.toNat).2.2 * r.2.2
/-- its parts: few enough -/
def PlSm (r : Fact) : Prop := 1 ≤ r.2.2 ∧ r.2.2 < 2 ^ 110
def spCheckPl (K : PySem.W.Frag) (CT CR CP CNR COR : Addr) : Sp := fun vs H Q E => ∃ (a p : Addr) (n : Int) (ps : List Addr) (F : List Fact) (r : Fact), vs = [.ref a, .ref p] ∧ TreeAt K CT CR H a n ps F ∧ PlaceAt CP H p r ∧ TreeG n F ∧ PlSm r ∧
  (¬ (0 ≤ r.1 ∧ r.1 < (F.length : Int)) → Raised CNR [("road", .int r.1)] H E) ∧ ((0 ≤ r.1 ∧ r.1 < (F.length : Int)) → ¬ (0 ≤ r.2.1 ∧ r.2.1 ≤ (rd F r.1.toNat).2.2 * r.2.2) → Raised COR [("road", .int r.1)] H E) ∧ (PlOn F r → Q .non H)
def spEndAt (CR : Addr) : Sp := fun vs H Q _ => ∃ (p : Addr) (r : Fact) (c : Int), vs = [.ref p, .int c] ∧ RoadAt CR H p r ∧ Q (.int (if r.1 = c then 0 else r.2.2)) H
def spCorner (K : PySem.W.Frag) (CT CR CP CN : Addr) : Sp := fun vs H Q E => ∃ (a : Addr) (n : Int) (ps : List Addr) (F : List Fact) (c : Int), vs = [.ref a, .int c] ∧ TreeAt K CT CR H a n ps F ∧ TreeG n F ∧
  (¬ In n c → Raised CN [("crossing", .int c)] H E) ∧ (In n c → ∀ p H', Same H H' → H p = none → PlaceAt CP H' p (keyF F 1 (.cr c)) → Q (.ref p) H')
section
variable {P : Program} {w : World} {K : PySem.W.Frag} {mg : Str → Option Value} {base : Heap}
theorem scNoRd : FnScope ["self", "road"] ["self", "road"] (defScope sNoRd) := ⟨rfl, rfl, rfl, by decide +kernel, rfl, by decide +kernel, by decide +kernel⟩
theorem ok_noRd {f C : Addr} {fd : FuncData} (F : Fun K "__init__" "NoRoad.__init__" sNoRd f fd) (T : OexC K C) (n1 : PySem.W.findIn K (.ref C) "road" = some none) : FnOk P w K mg base CX0 1 f fd ["self", "road"] (spEr1 C "road") := by
  refine F.ok scNoRd (fun vs H Q E h => ?_) (fun cdv A outer s H vs Q E hr h => ?_)
  · obtain ⟨a, v, rfl, _⟩ := h
    rfl
  · obtain ⟨a, v, rfl, ha, k⟩ := h
    refine ⟨_, pss_one (ps_ost (pv 0) (pv 1)), ?_⟩
    exact ⟨_, rfl, _, rfl, a, C, rfl, T, n1, .inl ⟨ha, fun dx n ne => k dx n ne⟩⟩
theorem scOff : FnScope ["self", "road"] ["self", "road"] (defScope sOff) := ⟨rfl, rfl, rfl, by decide +kernel, rfl, by decide +kernel, by decide +kernel⟩
theorem ok_off {f C : Addr} {fd : FuncData} (F : Fun K "__init__" "OffRoad.__init__" sOff f fd) (T : OexC K C) (n1 : PySem.W.findIn K (.ref C) "road" = some none) : FnOk P w K mg base CX0 1 f fd ["self", "road"] (spEr1 C "road") := by
  refine F.ok scOff (fun vs H Q E h => ?_) (fun cdv A outer s H vs Q E hr h => ?_)
  · obtain ⟨a, v, rfl, _⟩ := h
    rfl
  · obtain ⟨a, v, rfl, ha, k⟩ := h
    refine ⟨_, pss_one (ps_ost (pv 0) (pv 1)), ?_⟩
    exact ⟨_, rfl, _, rfl, a, C, rfl, T, n1, .inl ⟨ha, fun dx n ne => k dx n ne⟩⟩
theorem scEndAt : FnScope ["road", "crossing"] ["road", "crossing"] (defScope sEndAt) := ⟨rfl, rfl, rfl, by decide +kernel, rfl, by decide +kernel, by decide +kernel⟩
theorem ok_endAt {f CR : Addr} {fd : FuncData} (F : Fun K "end_at" "end_at" sEndAt f fd) (TR : RdT K mg CR) : FnOk P w K mg base CX0 1 f fd ["road", "crossing"] (spEndAt CR) := by
  refine F.ok scEndAt (fun vs H Q E h => ?_) (fun cdv A outer s H vs Q E hr h => ?_)
  · obtain ⟨p, r, c, rfl, _⟩ := h
    rfl
  · obtain ⟨p, r, c, rfl, ⟨dx, e⟩, k⟩ := h
    refine ⟨_, pss_one (ps_ret (pe_ifExp (pt_cmpR op_eq (pe_fld (pv 0) rfl) (pv 1) (nomark _)) pe_int (pe_fld (pv 0) rfl))), ?_⟩
    refine ⟨_, rfl, p, CR, dx, _, _, rfl, e, TR.cl, TR.nA, rdF_a r, _, rfl, rfl, _, rfl, ?_⟩
    by_cases h : r.1 = c
    · rw [if_pos h] at k
      exact iteV h k
    · rw [if_neg h] at k
      exact iteN h ⟨_, rfl, p, CR, dx, _, _, rfl, e, TR.cl, TR.nL, rdF_l r, k⟩
theorem scCheckPl : FnScope ["tree", "place"] ["tree", "place"] (defScope sCheckPl) := ⟨rfl, rfl, rfl, by decide +kernel, rfl, by decide +kernel, by decide +kernel⟩
theorem ok_checkPl {f CT CR CP CNR COR fNR fOR : Addr} {fd fdNR fdOR : FuncData} (F : Fun K "check_place" "check_place" sCheckPl f fd) (TT : TeT K mg CT) (TR : RdT K mg CR) (TP : PlT K mg CP) (TN : ErT K mg "NoRoad" CNR fNR) (TO : ErT K mg "OffRoad" COR fOR)
    (FN : FnOk P w K mg base CX0 1 fNR fdNR ["self", "road"] (spEr1 CNR "road")) (bN : Binds K fdNR ["self", "road"] []) (FO : FnOk P w K mg base CX0 1 fOR fdOR ["self", "road"] (spEr1 COR "road")) (bO : Binds K fdOR ["self", "road"] [])
    (hLen : mg "len" = none) : FnOk P w K mg base (L2.CX P w) 3 f fd ["tree", "place"] (spCheckPl K CT CR CP CNR COR) := by
  refine F.okX scCheckPl (fun vs H Q E h => ?_) (fun cdv A outer s H vs Q E hr h => ?_)
  · obtain ⟨a, p, n, ps, F, r, rfl, _⟩ := h
    rfl
  · obtain ⟨a, p, n, ps, F, r, rfl, TA, ⟨dp, ep⟩, G, ⟨sm1, sm2⟩, k1, k2, k3⟩ := h
    refine ⟨_, pss_cons (ps_if (pt_not (pt_chain op_le op_lt pe_int (pe_fld (pv 1) rfl) (pe_callB call_len_seq (by rfl) hLen PySem.boot_len (pa_cons (pe_fld (pv 0) rfl) pa_nil))))
          (pss_one (ps_raise rfl (takes_of rfl rfl rfl rfl) (pmk_oex TN.ox TN.iC TN.tI FN hr bN .nil pass0 (by rfl) TN.gC (pa_cons (pe_fld (pv 1) rfl) pa_nil)))) pss_nil)
      (pss_one (ps_if (pt_not (pt_chain op_le op_le pe_int (pe_fld (pv 1) rfl) (pe_op op_mul (pe_fld (pe_ix ix_tup (pe_fld (pv 0) rfl) (pe_fld (pv 1) rfl) (fun _ _ => rfl)) rfl) (pe_fld (pv 1) rfl))))
          (pss_one (ps_raise rfl (takes_of rfl rfl rfl rfl) (pmk_oex TO.ox TO.iC TO.tI FO hr bO .nil pass0 (by rfl) TO.gC (pa_cons (pe_fld (pv 1) rfl) pa_nil)))) pss_nil)), ?_⟩
    obtain ⟨dx, t, d, kvs, ea, et, rds, _⟩ := TA
    have pl : (ps.map V.ref).length = F.length := by rw [List.length_map]; exact rds.len
    refine ⟨_, rfl, p, CP, dp, _, _, rfl, ep, TP.cl, TP.nR, plF_r r, _, _, rfl, rfl, _, rfl, ?_⟩
    by_cases h0 : 0 ≤ r.1
    · rw [decide_eq_true h0]
      refine iteT ⟨_, rfl, a, CT, dx, _, _, rfl, ea, TT.cl, TT.nR, teF_r n t d, t, _, rfl, .inr et, _, _, rfl, rfl, _, rfl, ?_⟩
      rw [pl]
      by_cases h1 : r.1 < (F.length : Int)
      · rw [decide_eq_true h1]
        refine iteF ⟨_, rfl, p, CP, dp, _, _, rfl, ep, TP.cl, TP.nN, plF_n r, _, _, rfl, rfl, _, rfl, ?_⟩
        have lk : r.1.toNat < F.length := by omega
        obtain ⟨q, eq, dq, rq⟩ := rds.at_ lk
        have e1 : r.1 = ((r.1.toNat : Nat) : Int) := by omega
        by_cases h2 : 0 ≤ r.2.1
        · rw [decide_eq_true h2]
          have z := G.rd lk
          refine iteT ⟨_, rfl, a, CT, dx, _, _, rfl, ea, TT.cl, TT.nR, teF_r n t d, _, rfl, p, CP, dp, _, _, rfl, ep, TP.cl, TP.nR, plF_r r, t, _, _, _, rfl, rfl, et, at_of e1 eq, q, CR, dq, _, _, rfl, rq, TR.cl, TR.nL, rdF_l _, _, rfl, p, CP, dp, _, _, rfl, ep, TP.cl, TP.nP, plF_p r, _, _, rfl, rfl, .inl ⟨by omega, by omega⟩, _, _, rfl, rfl, _, rfl, ?_⟩
          by_cases h3 : r.2.1 ≤ (rd F r.1.toNat).2.2 * r.2.2
          · rw [decide_eq_true h3]
            exact iteF (k3 ⟨⟨h0, h1⟩, h2, h3⟩)
          · rw [decide_eq_false h3]
            exact iteT ⟨_, rfl, p, CP, dp, _, _, rfl, ep, TP.cl, TP.nR, plF_r r, len1, fun b hb => er1 hb (k2 ⟨h0, h1⟩ fun z => h3 z.2)⟩
        · rw [decide_eq_false h2]
          refine iteF ⟨_, rfl, ?_⟩
          exact iteT ⟨_, rfl, p, CP, dp, _, _, rfl, ep, TP.cl, TP.nR, plF_r r, len1, fun b hb => er1 hb (k2 ⟨h0, h1⟩ fun z => h2 z.1)⟩
      · rw [decide_eq_false h1]
        exact iteT ⟨_, rfl, p, CP, dp, _, _, rfl, ep, TP.cl, TP.nR, plF_r r, len1, fun b hb => er1 hb (k1 fun z => h1 z.2)⟩
    · rw [decide_eq_false h0]
      refine iteF ⟨_, rfl, ?_⟩
      exact iteT ⟨_, rfl, p, CP, dp, _, _, rfl, ep, TP.cl, TP.nR, plF_r r, len1, fun b hb => er1 hb (k1 fun z => h0 z.1)⟩
end
end OT
set_option Elab.async false
set_option linter.all false
set_option maxRecDepth 100000
set_option maxHeartbeats 4000000
namespace OT
open PySem L2 OTR
abbrev sReadRoad : Stmt := top 39
abbrev sReadTree : Stmt := top 38
def spReadRoadG (CR : Addr) : Sp := fun vs H Q _ => ∃ z : Str, vs = [.str z] ∧ z.length ≤ 500000 ∧ (rdR z = none → ∀ H', Same H H' → Q .non H') ∧ ∀ r, rdR z = some r → ∀ p H', Same H H' → H p = none → RoadAt CR H' p r → Q (.ref p) H'
/-- read_tree of any texts -/
def spReadTreeG (K : PySem.W.Frag) (CT CR CB CN CG CBR : Addr) : Sp := fun vs H Q E => ∃ (l : Addr) (zs : List Str), vs = [.ref l] ∧ SqL K H l (zs.map V.str) ∧ (∀ z ∈ zs, z.length ≤ 500000) ∧ zs.length ≤ 1000 ∧
  (zs = [] → Raised CBR [("number", .int 1)] H E) ∧ (∀ i : Nat, badAt rdR zs = some i → Raised CBR [("number", .int ((i : Nat) + 1))] H E) ∧
  (zs ≠ [] → badAt rdR zs = none → ∀ e, due ((zs.filterMap rdR).length + 1) (zs.filterMap rdR) = some e → ErrR CB CN CG H E e) ∧
  (zs ≠ [] → badAt rdR zs = none → due ((zs.filterMap rdR).length + 1) (zs.filterMap rdR) = none → ∀ p H' ps, Same H H' → H p = none → TreeAt K CT CR H' p ((zs.filterMap rdR).length + 1) ps (zs.filterMap rdR) → Q (.ref p) H')
theorem inV_oI (l : List (Option Int)) : inV .non (l.map oI) = decide (none ∈ l) := by
  unfold inV
  rw [List.any_map]
  by_cases h : none ∈ l
  · rw [decide_eq_true h]
    exact List.any_eq_true.mpr ⟨none, h, rfl⟩
  · rw [decide_eq_false h]
    refine List.any_eq_false.mpr fun o ho => ?_
    cases o with
    | none => exact absurd ho h
    | some i => simp [oI, eqV]
theorem flat_oI (l : List (Option Int)) : (l.map oI).all flatV = true := by
  rw [List.all_map]
  refine List.all_eq_true.mpr fun o _ => ?_
  cases o <;> rfl
section
variable {P : Program} {w : World} {K : PySem.W.Frag} {mg : Str → Option Value} {base : Heap}
abbrev nReadRoad : List Str := ["row", "words", "numbers", "word"]
theorem scReadRoad : FnScope nReadRoad ["row"] (defScope sReadRoad) := ⟨rfl, rfl, rfl, by decide +kernel, rfl, by decide +kernel, by decide +kernel⟩
theorem ok_readRoad {f CR fR fRN : Addr} {fd fdR fdRN : FuncData} (F : Fun K "read_road" "read_road" sReadRoad f fd) (TR : RdT K mg CR) (MR : Mk K CR fR) (FR : FnOk P w K mg base CX0 1 fR fdR ["self", "a", "b", "length"] (spRoadI CR)) (bR : Binds K fdR ["self", "a", "b", "length"] [])
    (FN : FnOk P w K mg base CX0 1 fRN fdRN ["text"] spRdNum) (bN : Binds K fdRN ["text"] []) (mN : mg "read_number" = some (.ref fRN)) (kN : PySem.W.keepIn K (.ref fRN) = true) (hLen : mg "len" = none) : FnOk P w K mg base CX0 3 f fd ["row"] (spReadRoadG CR) := by
  refine F.ok scReadRoad (fun vs H Q E h => ?_) (fun cdv A outer s0 H vs Q E hr h => ?_)
  · obtain ⟨z, rfl, _⟩ := h
    rfl
  · obtain ⟨z, rfl, zl, kN0, kont⟩ := h
    have hr1 : Room 1 _ := hr.mono (by decide)
    have hr2 : Room 2 _ := hr.mono (by decide)
    refine ⟨_, pss_cons (ps_set (i := 1) scReadRoad.nd rfl (Or.inl rfl) (pe_bm PySem.F.plainAttrs_str PySem.F.slot_str_split PySem.F.type_str_split mt_split (pv 0) (pa_cons pe_str pa_nil)))
      (pss_cons (ps_setLc (i := 2) (own := [("word", 3)]) (g := gName 3) (tt := tYes) (te := tCall spRdNum [] E0 (tCons (tVar 3) tNil)) rfl scReadRoad.nd rfl rfl (sw_true rfl rfl rfl (by decide +kernel)) (pi_list (pe_slice sl_list (pv 1) (po_some pe_int) po_none)) (blkOk_by (own := [("word", 3)]) (N := nReadRoad) (sc := defScope sReadRoad) (by decide +kernel)) (fun _ _ _ _ _ => (pg_name (i := 3) scReadRoad.nd rfl (Or.inl rfl))) (fun _ _ _ _ _ => pts_nil) (fun _ _ _ _ _ => (pe_call FN hr1 rfl mN kN bN .nil pass0 (pa_cons (pv 3) pa_nil))))
      (pss_cons (ps_if (PW.pt (pw_or (pt_cmpR op_ne (pe_ix ix_list (pv 1) pe_int (fun _ _ => rfl)) pe_str (nomark _)) (pw_or (pt_cmpR op_ne (pe_callB call_len (by rfl) hLen (by decide +kernel) (pa_cons (pv 2) pa_nil)) pe_int (nomark _)) (pw_or1 (pt_cmpR op_in_seq pe_non (pv 2) rfl)))))
        (pss_one (ps_ret pe_non))
        pss_nil)
      (pss_one (ps_ret (pe_make MR FR hr2 (by rfl) TR.mgC bR .nil pass0 (pa_cons (pe_ix ix_list (pv 2) pe_int (fun _ _ => rfl)) (pa_cons (pe_ix ix_list (pv 2) pe_int (fun _ _ => rfl)) (pa_cons (pe_ix ix_list (pv 2) pe_int (fun _ _ => rfl)) pa_nil)))))))), ?_⟩
    have b0 : TL.tl (" " : Str) ≠ [] := by decide
    obtain ⟨sl1, sl2⟩ := split_len b0 sep_blank.kd z
    obtain ⟨w, ws, sp⟩ := split_cons sep_blank z
    have rdz : rdR z = if w = ("road" : Str) then tri (ws.map rdN) else none := by
      unfold rdR
      rw [sp]
    refine ⟨_, rfl, rfl, z, " ", rfl, rfl, by decide +kernel, (by rw [PySem.sizeLine_eq]; omega), fun p1 h1 => ?_⟩
    rw [sp] at sl1 sl2
    rw [sp]
    have wl : ws.length ≤ 500000 := by
      rw [List.length_cons] at sl1
      omega
    have s1 := Same.new (o := .lst ((w :: ws).map V.str)) h1
    have g1 := upd_same (H := H) (a := p1) (o := .lst ((w :: ws).map V.str))
    clear h1
    generalize upd H p1 (.lst ((w :: ws).map V.str)) = H1 at *
    -- numbers
    refine ⟨_, rfl, _, rfl, p1, _, rfl, SqL.of g1, fun p2 h2 => ?_⟩
    rw [show cutV ((w :: ws).map V.str) (some 1) none = ws.map V.str from cut_from (i := 1) (by simp)]
    have s2 := s1.trans (Same.new (o := .lst (ws.map V.str)) h2)
    have g12 := Same.new (o := .lst (ws.map V.str)) h2 _ _ g1
    have g2 := upd_same (H := H1) (a := p2) (o := .lst (ws.map V.str))
    clear h2
    generalize upd H1 p2 (.lst (ws.map V.str)) = H2 at *
    refine ⟨p2, rfl, ⟨_, SqL.of g2⟩, fun D hD => lc_list (K := K) (a := p2) (xs := ws.map V.str) (fun i Gc => Gc D = some (.lst (((ws.map rdN).take i).map oI)) ∧ Same H2 Gc)
      ⟨upd_same, Same.new hD⟩ (fun i Gc _ ⟨_, sc⟩ => SqL.of (sc _ _ g2)) ?_ ?_⟩
    · rintro i y Gc hi ⟨gD, sc⟩
      obtain ⟨u, hu, rfl⟩ := map_get hi
      dsimp only [gName]
      refine ⟨rfl, ?_⟩
      unfold tYes
      have ul : u.length ≤ z.length := sl2 u (List.mem_cons_of_mem _ (List.mem_of_getElem? hu))
      refine iteT ⟨_, rfl, u, rfl, by omega, fun G' sg => ?_⟩
      have gD' := sg _ _ gD
      refine ⟨_, gD', by rw [PySem.sizeLine_eq, List.length_map, List.length_take, List.length_map]; omega, ?_, fun b o e => by rw [upd_ne (ne_of_none e hD)]; exact sg _ _ (sc b o e)⟩
      rw [take_get (show (ws.map rdN)[i]? = some (rdN u) by rw [List.getElem?_map, hu]; rfl), List.map_append]
      exact upd_same
    · rintro G1 ⟨gD, sc⟩
      rw [List.length_map, show ws.length = (ws.map rdN).length from (List.length_map ..).symm, List.take_length] at gD
      have g13 := sc _ _ g12
      have sG := s2.trans sc
      have out : rdR z = none → Q .non G1 := fun e => kN0 e G1 sG
      refine ⟨_, rfl, p1, _, 0, .str w, rfl, rfl, SqL.of g13, (show atI (List.map V.str (w :: ws)) ((0 : Nat) : Int) = some (V.str w) from atI_nat rfl), rfl, _, rfl, ?_⟩
      by_cases c1 : w = ("road" : Str)
      · subst c1
        rw [if_pos rfl] at rdz
        rw [decide_eq_true rfl]
        refine iteF ⟨_, rfl, _, _, rfl, .inl ⟨_, SqL.of gD, rfl⟩, rfl, _, rfl, ?_⟩
        rw [dec_int, List.length_map]
        by_cases c3 : (ws.map rdN).length = 3
        · have e3 : ((((ws.map rdN).length : Nat) : Int) == 3) = true := by
            rw [beq_iff_eq]
            omega
          rw [e3]
          refine iteF ⟨_, rfl, D, _, rfl, .inl (SqL.of gD), rfl, flat_oI _, _, rfl, ?_⟩
          show (if (if (false : Bool) = true then !inV _ _ else inV _ _) = true then _ else _)
          rw [if_neg Bool.false_ne_true, inV_oI]
          by_cases c4 : none ∈ ws.map rdN
          · rw [decide_eq_true c4]
            refine iteT (out ?_)
            rw [rdz, tri_none c4]
          · rw [decide_eq_false c4]
            refine iteF ?_
            obtain ⟨a, b, c, e4⟩ := tri_some c3 c4
            rw [e4] at rdz gD
            have gD : G1 D = some (.lst [.int a, .int b, .int c]) := gD
            refine ⟨_, rfl, D, _, 0, .int a, rfl, rfl, SqL.of gD, rfl, _, rfl, D, _, 1, .int b, rfl, rfl, SqL.of gD, rfl, _, rfl, D, _, 2, .int c, rfl, rfl, SqL.of gD, rfl, fun y dx nx ndx nex => ⟨y, dx, (a, b, c), rfl, upd_same, fun G2 RA keep => ⟨rfl, ?_⟩⟩⟩
            have s3 := sG.trans (made_same nx ndx keep)
            exact kont _ rdz y G2 s3 (Same.free sG nx) RA
        · have e3 : ((((ws.map rdN).length : Nat) : Int) == 3) = false := by
            rw [beq_eq_false_iff_ne]
            omega
          rw [e3]
          refine iteT (out ?_)
          rw [rdz, tri_len c3]
      · rw [decide_eq_false (fun q => c1 (V.str.inj q))]
        refine iteT (out ?_)
        rw [rdz, if_neg c1]
abbrev nReadTree : List Str := ["rows", "roads", "at", "row", "road"]
theorem scReadTree : FnScope nReadTree ["rows"] (defScope sReadTree) := ⟨rfl, rfl, rfl, by decide +kernel, rfl, by decide +kernel, by decide +kernel⟩
theorem ok_readTree {f CT CR CB CN CG CBR fT fRR fBR : Addr} {fd fdT fdRR fdBR : FuncData} (F : Fun K "read_tree" "read_tree" sReadTree f fd) (TT : TeT K mg CT) (TBR : ErT K mg "BadRow" CBR fBR)
    (FB : FnOk P w K mg base CX0 1 fBR fdBR ["self", "number"] (spEr1 CBR "number")) (bB : Binds K fdBR ["self", "number"] [])
    (MT : Mk K CT fT) (FT : FnOk P w K mg base (L2.CX P w) 5 fT fdT ["self", "crossings", "roads"] (spTreeI K CT CR CB CN CG)) (bT : Binds K fdT ["self", "crossings", "roads"] [])
    (FRR : FnOk P w K mg base CX0 3 fRR fdRR ["row"] (spReadRoadG CR)) (bRR : Binds K fdRR ["row"] []) (mRR : mg "read_road" = some (.ref fRR)) (kRR : PySem.W.keepIn K (.ref fRR) = true) (hLen : mg "len" = none) (hEn : mg "enumerate" = none) : FnOk P w K mg base (L2.CX P w) 7 f fd ["rows"] (spReadTreeG K CT CR CB CN CG CBR) := by
  refine F.okX scReadTree (fun vs H Q E h => ?_) (fun cdv A outer s0 H vs Q E hr h => ?_)
  · obtain ⟨l, zs, rfl, _⟩ := h
    rfl
  · obtain ⟨l, zs, rfl, hS, zl, zn, kE0, kE1, kE2, kont⟩ := h
    have hr2 : Room 2 _ := hr.mono (by decide)
    have hr3 : Room 3 _ := hr.mono (by decide)
    have hr6 : Room 6 _ := hr.mono (by decide)
    refine ⟨_, pss_cons (ps_if (pt_not (pt_truth (pv 0) (fun _ => rfl)))
          (pss_one (ps_raise rfl (takes_of rfl rfl rfl rfl) (pmk_oex TBR.ox TBR.iC TBR.tI FB hr2 bB .nil pass0 (by rfl) TBR.gC (pa_cons pe_int pa_nil))))
          pss_nil)
        (pss_cons (ps_set (i := 1) scReadTree.nd rfl (Or.inl rfl) (pe_lst pa_nil))
        (pss_cons (ps_for (passes_of rfl) rfl (pi_enum rfl hEn (pa_cons (pv 0) pa_nil)) (pg_tup rfl (pgs_cons (pg_name (i := 2) scReadTree.nd rfl (Or.inl rfl)) (pgs_cons (pg_name (i := 3) scReadTree.nd rfl (Or.inl rfl)) pgs_nil)))
          (pss_cons (ps_set (i := 4) scReadTree.nd rfl (Or.inl rfl) (pe_call FRR hr3 rfl mRR kRR bRR .nil pass0 (pa_cons (pv 3) pa_nil)))
          (pss_cons (ps_if (pt_cmp (pc_isN (pv 4)))
            (pss_one (ps_raise rfl (takes_of rfl rfl rfl rfl) (pmk_oex TBR.ox TBR.iC TBR.tI FB hr2 bB .nil pass0 (by rfl) TBR.gC (pa_cons (pe_op op_add (pv 2) pe_int) pa_nil))))
            pss_nil)
          (pss_one (ps_expr (pe_bm PySem.F.plainAttrs_list PySem.F.slot_list_append PySem.F.type_list_append mt_append (pv 1) (pa_cons (pv 4) pa_nil)))))))
        (pss_one (ps_ret (pe_make MT FT hr6 (by rfl) TT.mgC bT .nil (passes_call (takes_of rfl rfl rfl rfl) fun _ _ _ _ h => h) (pa_cons (pe_op op_add (pe_callB call_len (by rfl) hLen (by decide +kernel) (pa_cons (pv 1) pa_nil)) pe_int) (pa_cons (pv 1) pa_nil))))))), ?_⟩
    -- if not rows
    refine ⟨_, rfl, _, .inl ⟨_, hS, rfl⟩, ?_⟩
    by_cases e0 : zs = []
    · subst e0
      exact iteT ⟨len1, fun b hb => er1 hb (kE0 rfl)⟩
    have pos : ((zs.map V.str).isEmpty) = false := by
      cases zs with
      | nil => exact absurd rfl e0
      | cons r fs => rfl
    rw [pos]
    refine iteF ?_
    -- roads = []
    refine ⟨Nat.zero_le _, fun D hD => ?_⟩
    have s1 := Same.new (o := .lst []) hD
    refine ⟨_, rfl, l, _, rfl, s1.seq hS, for_it (walk_enum (K := K) (a := l) (xs := zs.map V.str)) (fun i σ G => ∃ (v2 v3 v4 : Option V) (us : List Addr), σ = [some (.ref l), some (.ref D), v2, v3, v4] ∧ Same H G ∧ G D = some (.lst (us.map V.ref)) ∧ RoadsAt CR G us ((zs.take i).filterMap rdR) ∧ us.length = i ∧ ∀ (j : Nat) (y : Str), j < i → zs[j]? = some y → rdR y ≠ none)
      ⟨none, none, none, [], rfl, s1, upd_same, .nil, rfl, fun j y hj => absurd hj (by omega)⟩ (fun i σ G _ ⟨_, _, _, _, _, sg, _⟩ => sg.seq hS) ?_ ?_⟩
    · rintro i y σ G0 G1 hi ⟨v2, v3, v4, us, rfl, sg, gD, ru, lu, good⟩ ⟨T', x1, y1, rfl, hT, rfl, hx1, hy1⟩
      cases hx1
      obtain ⟨z, hz, rfl⟩ := map_get (show (zs.map V.str)[i]? = some y1 from hy1)
      have il := (List.getElem?_eq_some_iff.mp hz).1
      have s2 := Same.new (o := .tup [.int (i : Nat), .str z]) hT
      refine ⟨T', _, rfl, SqT.of upd_same, rfl, _, _, rfl, _, _, rfl, rfl, ?_⟩
      dsimp only [gName]
      refine ⟨_, rfl, z, rfl, zl z (List.mem_of_getElem? hz), fun en G2 s3 => ?_, fun r hr' p G2 s3 hp RA => ?_⟩
      · refine ⟨_, rfl, _, rfl, iteT ⟨_, rfl, _, _, rfl, rfl, len1, fun b hb => er1 hb ?_⟩⟩
        exact (kE1 i (badAt_hit good hz en)).mono ((sg.trans s2).trans s3)
      · have s23 := s2.trans s3
        have gD2 := s23 _ _ gD
        refine ⟨_, rfl, _, rfl, iteF ?_⟩
        refine ⟨_, rfl, .inl ⟨rfl, _, SqL.of gD2⟩, _, rfl, D, _, _, rfl, rfl, gD2, small1000 (by rw [List.length_map]; omega), _, _, _, us ++ [p], rfl, fun b o e => by rw [upd_ne (ne_of_none e hD)]; exact s23 _ _ (sg b o e), by rw [List.map_append]; exact upd_same, ?_, by rw [List.length_append, lu]; rfl, fun j y hj hy => ?_⟩
        · rw [take_good hz hr']
          have k1 : Kp G0 (upd G2 D (.lst (us.map V.ref ++ [.ref p]))) := (Kp.of s23).trans (Kp.put gD2)
          exact paired_snoc (Paired.mapP (show Paired (RoadAt CR G0) us ((zs.take i).filterMap rdR) from ru) fun _ _ h => h.kp k1) (RA.kp (Kp.put gD2))
        · by_cases e : j = i
          · subst e
            rw [hz] at hy
            cases hy
            rw [hr']
            simp
          · exact good j y (by omega) hy
    · rintro σ G ⟨v2, v3, v4, us, rfl, sg, gD, ru, lu, good⟩
      rw [List.length_map] at lu good
      rw [List.length_map, List.take_length] at ru
      have gd : ∀ z ∈ zs, rdR z ≠ none := fun z hz => by
        obtain ⟨j, hj, ej⟩ := List.getElem_of_mem hz
        exact good j z hj (by rw [List.getElem?_eq_getElem hj, ej])
      have bn := badAt_none gd
      have gl := good_len gd
      refine ⟨_, rfl, _, _, rfl, .inl ⟨_, SqL.of gD, rfl⟩, _, _, rfl, rfl, _, rfl, fun y dx nx ndx nex => ?_⟩
      have lu2 : (us.map V.ref).length = (zs.filterMap rdR).length := by rw [List.length_map, lu, gl]
      rw [lu2]
      have s9 := (Same.new (o := .own y) ndx).trans (Same.new (o := .ins CT dx []) (show upd G dx (.own y) y = none by rw [upd_ne (Ne.symm nex)]; exact nx))
      exact ⟨y, dx, D, _, us, _, G, rfl, upd_same, nx, s9, .inl (SqL.of gD), ru, by rw [gl]; exact zn, fun e he => (kE2 e0 bn e he).mono sg, fun en H' TA s' => ⟨rfl, kont e0 bn en y H' us (sg.trans s') (Same.free sg nx) TA⟩⟩
end
end OT
set_option Elab.async false
set_option linter.all false
set_option maxRecDepth 100000
set_option maxHeartbeats 4000000
namespace OT
open PySem L2 OTR
theorem inV_int {b : Int} {fl : List Int} : inV (.int b) (fl.map V.int) = decide (b ∈ fl) := by
  unfold inV
  induction fl with
  | nil => rfl
  | cons a l ih =>
    rw [List.map_cons, List.any_cons, ih]
    show ((a == b) || decide (b ∈ l)) = decide (b ∈ a :: l)
    by_cases e : a = b
    · subst e
      simp
    · have e1 : (a == b) = false := by simpa using e
      have e2 : ¬ b = a := fun z => e z.symm
      rw [e1]
      simp [e2]
theorem low_one (a b : Int) : low (a, b, 1) = (a, b, 1) := by
  have g : gcdI b 1 = 1 := by
    unfold gcdI
    rw [show (1 : Int).natAbs = 1 from rfl, Nat.gcd_one_right]
    rfl
  show (a, b / gcdI b 1, 1 / gcdI b 1) = _
  rw [g, Int.ediv_one]
  rfl
/-- the road with this number ends at the crossing -/
def atEnd (F : List Fact) (c : Int) (x : Int) : Bool := decide ((rd F x.toNat).1 = c ∨ (rd F x.toNat).2.1 = c)
def spKey (K : PySem.W.Frag) (CT CR CP CNR COR : Addr) : Sp := fun vs H Q E => ∃ (a p : Addr) (n : Int) (ps : List Addr) (F : List Fact) (r : Fact), vs = [.ref a, .ref p] ∧ TreeAt K CT CR H a n ps F ∧ PlaceAt CP H p r ∧ TreeG n F ∧ PlSm r ∧ low r = r ∧
  (¬ (0 ≤ r.1 ∧ r.1 < (F.length : Int)) → Raised CNR [("road", .int r.1)] H E) ∧ ((0 ≤ r.1 ∧ r.1 < (F.length : Int)) → ¬ (0 ≤ r.2.1 ∧ r.2.1 ≤ (rd F r.1.toNat).2.2 * r.2.2) → Raised COR [("road", .int r.1)] H E) ∧
  (PlOn F r → ∀ p' H', Same H H' → PlaceAt CP H' p' (keyF F r.2.2 (node F r.2.2 r.1.toNat r.2.1)) → Q (.ref p') H')
section
variable {P : Program} {w : World} {K : PySem.W.Frag} {mg : Str → Option Value} {base : Heap}
abbrev nCor : List Str := ["tree", "crossing", "number", "at", "road"]
theorem scCor : FnScope nCor ["tree", "crossing"] (defScope sCorner) := ⟨rfl, rfl, rfl, by decide +kernel, rfl, by decide +kernel, by decide +kernel⟩
theorem ok_corner {f CT CR CP CN CB fN fE fP : Addr} {fd fdN fdE fdP : FuncData} (F : Fun K "corner" "corner" sCorner f fd) (TT : TeT K mg CT) (TR : RdT K mg CR) (TP : PlT K mg CP) (TN : ErT K mg "NoCrossing" CN fN)
    (FN : FnOk P w K mg base CX0 1 fN fdN ["self", "crossing"] (spEr1 CN "crossing")) (bN : Binds K fdN ["self", "crossing"] [])
    (FE : FnOk P w K mg base CX0 1 fE fdE ["road", "crossing"] (spEndAt CR)) (bE : Binds K fdE ["road", "crossing"] []) (mE : mg "end_at" = some (.ref fE)) (kE : PySem.W.keepIn K (.ref fE) = true)
    (MP : Mk K CP fP) (FP : FnOk P w K mg base (L2.CX P w) 3 fP fdP ["self", "road", "number", "parts"] (spPlaceI CP CB)) (bP : Binds K fdP ["self", "road", "number", "parts"] [])
    (hMin : mg "min" = none) (hEn : mg "enumerate" = none) : FnOk P w K mg base (L2.CX P w) 5 f fd ["tree", "crossing"] (spCorner K CT CR CP CN) := by
  refine F.okX scCor (fun vs H Q E h => ?_) (fun cdv A outer s H vs Q E hr h => ?_)
  · obtain ⟨a, n, ps, F, c, rfl, _⟩ := h
    rfl
  · obtain ⟨a, n, ps, F, c, rfl, TA, G, k1, k2⟩ := h
    have hr1 : Room 1 _ := hr.mono (by decide)
    have hr2 : Room 2 _ := hr.mono (by decide)
    refine ⟨_, pss_cons (ps_if (pt_not (pt_chain op_le op_lt pe_int (pv 1) (pe_fld (pv 0) rfl)))
          (pss_one (ps_raise rfl (takes_of rfl rfl rfl rfl) (pmk_oex TN.ox TN.iC TN.tI FN hr2 bN .nil pass0 (by rfl) TN.gC (pa_cons (pv 1) pa_nil)))) pss_nil)
      (pss_cons (ps_set (i := 2) scCor.nd rfl (Or.inl rfl) (pe_callB (cr_min rfl) (by rfl) hMin (by decide +kernel) (pa_cons
          (pe_lc (own := [("at", 3), ("road", 4)]) (g := gTup K 2 (gCons (gName 3) (gCons (gName 4) gNil))) (tt := tTest (tOp (rIn K false) (tVar 1) (tTup (tCons (tFld K (tVar 4) "a") (tCons (tFld K (tVar 4) "b") tNil))))) rfl scCor.nd (pi_enumT (by rfl) hEn (pa_cons (pe_fld (pv 0) rfl) pa_nil))
            (blkOk_by (own := [("at", 3), ("road", 4)]) (N := nCor) (sc := defScope sCorner) (by decide +kernel))
            (fun _ _ _ _ _ => pg_tup rfl (pgs_cons (pg_name (i := 3) scCor.nd rfl (Or.inl rfl)) (pgs_cons (pg_name (i := 4) scCor.nd rfl (Or.inl rfl)) pgs_nil)))
            (fun _ _ _ _ _ => pts_one (pt_cmpR op_in_seq (pv 1) (pe_tup (pa_cons (pe_fld (pv 4) rfl) (pa_cons (pe_fld (pv 4) rfl) pa_nil))) (by rfl))) (fun _ _ _ _ _ => pv 3)) pa_nil)))
      (pss_one (ps_ret (pe_make MP FP hr (by rfl) TP.mgC bP .nil passF (pa_cons (pv 2) (pa_cons (pe_call FE hr1 rfl mE kE bE .nil pass0 (pa_cons (pe_ix ix_tup (pe_fld (pv 0) rfl) (pv 2) (fun _ _ => rfl)) (pa_cons (pv 1) pa_nil))) (pa_cons pe_int pa_nil))))))), ?_⟩
    obtain ⟨dx, t, d, kvs, ea, et, rds, _⟩ := TA
    have pl : (ps.map V.ref).length = F.length := by rw [List.length_map]; exact rds.len
    have l23 : F.length ≤ 23 := by have := G.len; have := G.n24; omega
    have ifin : In n c → _ := k2
    refine ⟨_, rfl, _, _, rfl, rfl, _, rfl, ?_⟩
    by_cases h0 : 0 ≤ c
    · rw [decide_eq_true h0]
      refine iteT ⟨_, rfl, a, CT, dx, _, _, rfl, ea, TT.cl, TT.nC, teF_c n t d, _, _, rfl, rfl, _, rfl, ?_⟩
      by_cases h1 : c < n
      · rw [decide_eq_true h1]
        refine iteF ?_
        have ic : In n c := ⟨h0, h1⟩
        obtain ⟨f1, f2, f3⟩ := fstR_spec G.m ic G.n2
        -- number = min([at ..])
        refine ⟨_, rfl, a, CT, dx, _, _, rfl, ea, TT.cl, TT.nR, teF_r n t d, t, _, rfl, et, fun D hD => lc_it (walk_enumT (K := K) (a := t) (xs := ps.map V.ref)) (fun i Hc => ∃ l : List Int, Hc D = some (.lst (l.map V.int)) ∧ Same H Hc ∧ Kept l i (atEnd F c))
          ⟨[], upd_same, Same.new hD, Kept.zero⟩ (fun i Hc _ ⟨_, _, sc, _⟩ => sqT_same et sc) ?_ ?_⟩
        · rintro i v Hc H' hi ⟨l, hl, sc, kp⟩ ⟨T, x1, y1, rfl, hT, rfl, hx1, hy1⟩
          cases hx1
          rw [pl] at hi
          obtain ⟨q, hq, rfl⟩ := map_get (show (ps.map V.ref)[i]? = some y1 from hy1)
          obtain ⟨r, hr', hrd⟩ := rds.get hq
          have s1 : Same H (upd Hc T (.tup [.int (i : Nat), .ref q])) := sc.trans (Same.new hT)
          obtain ⟨dq, eq⟩ := hrd.same s1
          have nD : D ≠ T := ne_of_none hl hT
          refine ⟨T, _, rfl, SqT.of upd_same, rfl, _, _, rfl, _, _, rfl, rfl, rfl, ?_⟩
          refine ⟨_, rfl, _, rfl, q, CR, dq, _, _, rfl, eq, TR.cl, TR.nA, rdF_a r, _, rfl, q, CR, dq, _, _, rfl, eq, TR.cl, TR.nB, rdF_b r, (by show 2 ≤ sizeLine; decide), fun t2 h2 => ⟨t2, _, rfl, .inr (SqT.of upd_same), rfl, rfl, _, rfl, ?_⟩⟩
          have s2 := s1.trans (Same.new (o := .tup [.int r.1, .int r.2.1]) h2)
          have n2 : D ≠ t2 := ne_of_none (by rw [upd_ne nD]; exact hl) h2
          have eb : inV (.int c) [.int r.1, .int r.2.1] = atEnd F c (i : Int) := by
            rw [show ([V.int r.1, V.int r.2.1] : List V) = [r.1, r.2.1].map V.int from rfl, inV_int]
            unfold atEnd
            rw [Int.toNat_natCast, rd_of hr']
            rw [decide_eq_decide]
            simp only [List.mem_cons, List.not_mem_nil, or_false]
            exact ⟨fun z => z.elim (fun z => .inl z.symm) fun z => .inr z.symm, fun z => z.elim (fun z => .inl z.symm) fun z => .inr z.symm⟩
          show if inV (.int c) [.int r.1, .int r.2.1] = true then _ else _
          rw [eb]
          cases e : atEnd F c (i : Int) with
          | true =>
            refine iteT ⟨_, rfl, l.map V.int, by rw [upd_ne n2, upd_ne nD]; exact hl, small1000 (by rw [List.length_map]; have := kp.2; omega), l ++ [(i : Int)], by rw [List.map_append]; exact upd_same, fun b o z => ?_, kp.yes e⟩
            rw [upd_ne (ne_of_none z hD)]
            exact s2 b o z
          | false => exact iteF ⟨l, by rw [upd_ne n2, upd_ne nD]; exact hl, s2, kp.no e⟩
        · rintro H4 ⟨l, hl, s4, kp⟩
          rw [pl] at kp
          have inl : ((fstR F c : Nat) : Int) ∈ l := (kp.1 _).mpr ⟨⟨by omega, by omega⟩, by unfold atEnd; rw [Int.toNat_natCast]; exact decide_eq_true f2⟩
          refine ⟨D, l, rfl, SqL.of hl, List.length_pos_of_mem inl, fun m hm hle => ?_⟩
          have em : m = ((fstR F c : Nat) : Int) := by
            obtain ⟨⟨m0, m1⟩, m2⟩ := (kp.1 m).mp hm
            have m3 := hle _ inl
            have m4 : ¬ m.toNat < fstR F c := fun z => f3 _ z (of_decide_eq_true m2)
            omega
          subst em
          obtain ⟨q, eq, rq⟩ := rds.at_ f1
          have rq4 := rq.same s4
          -- return Place(number, end_at(tree.roads[number], crossing), 1)
          refine ⟨_, rfl, _, rfl, a, CT, dx, _, _, rfl, s4 _ _ ea, TT.cl, TT.nR, teF_r n t d, _, rfl, t, _, _, _, rfl, rfl, sqT_same et s4, atI_nat eq, _, rfl, q, rd F (fstR F c), c, rfl, rq4, fun x dx' nx ndx nex => ⟨x, dx', (((fstR F c : Nat) : Int), _, 1), rfl, upd_same, fun z => absurd z (by show ¬ (1 : Int) < 1; decide), fun _ => ⟨(by show (1 : Int).natAbs.log2 < 9000; decide), fun H5 px keep => ⟨rfl, ?_⟩⟩⟩⟩
          have s5 := made_same nx ndx keep
          refine k2 ic x H5 (s4.trans s5) (s4.free nx) ?_
          rw [low_one] at px
          have ek : keyF F 1 (.cr c) = (((fstR F c : Nat) : Int), (if (rd F (fstR F c)).1 = c then 0 else (rd F (fstR F c)).2.2), 1) := by
            show (((fstR F c : Nat) : Int), eAt F 1 (fstR F c) c, (1 : Int)) = _
            unfold eAt sz
            rw [Int.mul_one]
          rw [ek]
          exact px
      · rw [decide_eq_false h1]
        exact iteT ⟨_, rfl, len1, fun b hb => er1 hb (k1 fun z => h1 z.2)⟩
    · rw [decide_eq_false h0]
      exact iteF ⟨_, rfl, iteT ⟨_, rfl, len1, fun b hb => er1 hb (k1 fun z => h0 z.1)⟩⟩
end
end OT
set_option Elab.async false
set_option linter.all false
set_option maxRecDepth 100000
set_option maxHeartbeats 1000000
namespace OT
open PySem L2 OTR
/-- a march: the road, the distance and the parts of its goal; its steps -/
abbrev MFact := Int × Int × Int × Int
def mPl (m : MFact) : Fact := (m.1, m.2.1, m.2.2.1)
inductive ErrM where
  | marches (n : Int)
  | no (r : Int)
  | off (r : Int)
  | whole (k : Int)
  | steps (n : Int)
def RdIn (F : List Fact) (x : Int) : Prop := 0 ≤ x ∧ x < (F.length : Int)
instance (F : List Fact) (x : Int) : Decidable (RdIn F x) := by unfold RdIn; exact inferInstance
def SpIn (F : List Fact) (r : Fact) : Prop := 0 ≤ r.2.1 ∧ r.2.1 ≤ (rd F r.1.toNat).2.2 * r.2.2
instance (F : List Fact) (r : Fact) : Decidable (SpIn F r) := by unfold SpIn; exact inferInstance
def StIn (n : Int) : Prop := 1 ≤ n ∧ n ≤ 1000000000
instance (n : Int) : Decidable (StIn n) := by unfold StIn; exact inferInstance
/-- the error of the march with the number k -/
def dueO (F : List Fact) (k : Int) (m : MFact) : Option ErrM :=
  if ¬ RdIn F m.1 then some (.no m.1) else if ¬ SpIn F (mPl m) then some (.off m.1) else if m.2.1 % m.2.2.1 ≠ 0 then some (.whole k) else if ¬ StIn m.2.2.2 then some (.steps m.2.2.2) else none
def dueL (F : List Fact) : Nat → List MFact → Option ErrM
  | _, [] => none
  | k, m :: l => match dueO F (k : Nat) m with
    | some e => some e
    | none => dueL F (k + 1) l
def dueM (F : List Fact) (l : List MFact) : Option ErrM := if 24 < l.length then some (.marches l.length) else dueL F 0 l
theorem dueL_cons_some {F : List Fact} {k : Nat} {m : MFact} {l : List MFact} {e : ErrM} (h : dueO F (k : Nat) m = some e) : dueL F k (m :: l) = some e := by
  unfold dueL
  rw [h]
theorem dueL_cons_none {F : List Fact} {k : Nat} {m : MFact} {l : List MFact} (h : dueO F (k : Nat) m = none) : dueL F k (m :: l) = dueL F (k + 1) l := by
  rw [dueL, h]
theorem dueO_no {F : List Fact} {k : Int} {m : MFact} (h : ¬ RdIn F m.1) : dueO F k m = some (.no m.1) := by
  unfold dueO
  rw [if_pos h]
theorem dueO_off {F : List Fact} {k : Int} {m : MFact} (h : RdIn F m.1) (h2 : ¬ SpIn F (mPl m)) : dueO F k m = some (.off m.1) := by
  unfold dueO
  rw [if_neg (fun z => z h), if_pos h2]
theorem dueO_whole {F : List Fact} {k : Int} {m : MFact} (h : RdIn F m.1) (h2 : SpIn F (mPl m)) (h3 : m.2.1 % m.2.2.1 ≠ 0) : dueO F k m = some (.whole k) := by
  unfold dueO
  rw [if_neg (fun z => z h), if_neg (fun z => z h2), if_pos h3]
theorem dueO_steps {F : List Fact} {k : Int} {m : MFact} (h : RdIn F m.1) (h2 : SpIn F (mPl m)) (h3 : m.2.1 % m.2.2.1 = 0) (h4 : ¬ StIn m.2.2.2) : dueO F k m = some (.steps m.2.2.2) := by
  unfold dueO
  rw [if_neg (fun z => z h), if_neg (fun z => z h2), if_neg (fun z => z h3), if_pos h4]
theorem dueO_go {F : List Fact} {k : Int} {m : MFact} (h : RdIn F m.1) (h2 : SpIn F (mPl m)) (h3 : m.2.1 % m.2.2.1 = 0) (h4 : StIn m.2.2.2) : dueO F k m = none := by
  unfold dueO
  rw [if_neg (fun z => z h), if_neg (fun z => z h2), if_neg (fun z => z h3), if_neg (fun z => z h4)]
theorem low_pos {r : Fact} (h : 1 ≤ r.2.2) : 1 ≤ (low r).2.2 ∧ (low r).2.2 ≤ r.2.2 := by
  have g0 := gcd_pos (a := r.2.1) (b := r.2.2) h
  have d := back_of (gcdI_right r.2.1 r.2.2)
  show 1 ≤ r.2.2 / gcdI r.2.1 r.2.2 ∧ r.2.2 / gcdI r.2.1 r.2.2 ≤ r.2.2
  generalize gcdI r.2.1 r.2.2 = g at *
  generalize r.2.2 / g = q at *
  have q1 : 1 ≤ q := by
    have z : 0 < q * g := by omega
    by_cases c : 0 < q
    · omega
    · have : q * g ≤ 0 := Int.mul_nonpos_of_nonpos_of_nonneg (by omega) (by omega)
      omega
  refine ⟨q1, ?_⟩
  have : q * 1 ≤ q * g := Int.mul_le_mul_of_nonneg_left (by omega) (by omega)
  omega
theorem low_sm {r : Fact} (h : 1 ≤ r.2.2) (h2 : r.2.2 < 2 ^ 110) : PlSm (low r) := ⟨(low_pos h).1, by have := (low_pos h).2; omega⟩
theorem low_sp {F : List Fact} {r : Fact} (h : 1 ≤ r.2.2) : SpIn F (low r) ↔ SpIn F r := by
  have g0 := gcd_pos (a := r.2.1) (b := r.2.2) h
  have d := back_of (gcdI_right r.2.1 r.2.2)
  have c := back_of (gcdI_left r.2.1 r.2.2)
  unfold SpIn
  show (0 ≤ r.2.1 / gcdI r.2.1 r.2.2 ∧ r.2.1 / gcdI r.2.1 r.2.2 ≤ (rd F r.1.toNat).2.2 * (r.2.2 / gcdI r.2.1 r.2.2)) ↔ _
  generalize gcdI r.2.1 r.2.2 = g at *
  generalize r.2.2 / g = q at *
  generalize r.2.1 / g = p at *
  generalize (rd F r.1.toNat).2.2 = L at *
  rw [c, d, ← Int.mul_assoc]
  constructor
  · rintro ⟨a, b⟩
    exact ⟨Int.mul_nonneg a (by omega), Int.mul_le_mul_of_nonneg_right b (by omega)⟩
  · rintro ⟨a, b⟩
    refine ⟨?_, Int.le_of_mul_le_mul_right b g0⟩
    by_cases z : 0 ≤ p
    · exact z
    · have : p * g < 0 := Int.mul_neg_of_neg_of_pos (by omega) g0
      omega
theorem low_whl {r : Fact} (h : 1 ≤ r.2.2) : (low r).2.2 = 1 ↔ r.2.1 % r.2.2 = 0 := by
  have g0 := gcd_pos (a := r.2.1) (b := r.2.2) h
  have d := back_of (gcdI_right r.2.1 r.2.2)
  have c := back_of (gcdI_left r.2.1 r.2.2)
  show r.2.2 / gcdI r.2.1 r.2.2 = 1 ↔ _
  constructor
  · intro e
    rw [e, Int.one_mul] at d
    exact Int.emod_eq_zero_of_dvd (by rw [d]; exact gcdI_left _ _)
  · intro e
    have dv : r.2.2 ∣ r.2.1 := Int.dvd_of_emod_eq_zero e
    have dg : r.2.2 ∣ gcdI r.2.1 r.2.2 := by
      unfold gcdI
      exact Int.dvd_coe_gcd dv (Int.dvd_refl _)
    have le : r.2.2 ≤ gcdI r.2.1 r.2.2 := Int.le_of_dvd g0 dg
    have ge : gcdI r.2.1 r.2.2 ≤ r.2.2 := Int.le_of_dvd (by omega) (gcdI_right _ _)
    have e1 : gcdI r.2.1 r.2.2 = r.2.2 := by omega
    rw [e1]
    exact Int.ediv_self (by omega)
end OT
set_option Elab.async false
set_option linter.all false
set_option maxRecDepth 100000
set_option maxHeartbeats 4000000
namespace OT
open PySem L2 OTR
theorem keyF_cr (F : List Fact) (S : Int) (c : Int) : keyF F S (.cr c) = keyF F 1 (.cr c) := rfl
section
variable {P : Program} {w : World} {K : PySem.W.Frag} {mg : Str → Option Value} {base : Heap}
theorem scKey : FnScope ["tree", "place", "road"] ["tree", "place"] (defScope sKey) := ⟨rfl, rfl, rfl, by decide +kernel, rfl, by decide +kernel, by decide +kernel⟩
theorem ok_key {f CT CR CP CN CNR COR fC fK : Addr} {fd fdC fdK : FuncData} (F : Fun K "key" "key" sKey f fd) (TT : TeT K mg CT) (TR : RdT K mg CR) (TP : PlT K mg CP)
    (FC : FnOk P w K mg base (L2.CX P w) 3 fC fdC ["tree", "place"] (spCheckPl K CT CR CP CNR COR)) (bC : Binds K fdC ["tree", "place"] []) (mC : mg "check_place" = some (.ref fC)) (kC : PySem.W.keepIn K (.ref fC) = true)
    (FK : FnOk P w K mg base (L2.CX P w) 5 fK fdK ["tree", "crossing"] (spCorner K CT CR CP CN)) (bK : Binds K fdK ["tree", "crossing"] []) (mK : mg "corner" = some (.ref fK)) (kK : PySem.W.keepIn K (.ref fK) = true) :
    FnOk P w K mg base (L2.CX P w) 6 f fd ["tree", "place"] (spKey K CT CR CP CNR COR) := by
  refine F.okX scKey (fun vs H Q E h => ?_) (fun cdv A outer s H vs Q E hr h => ?_)
  · obtain ⟨a, p, n, ps, F, r, rfl, _⟩ := h
    rfl
  · obtain ⟨a, p, n, ps, F, r, rfl, TA, PA', G, sm, lo, k1, k2, k3⟩ := h
    have hr3 : Room 3 _ := hr.mono (by decide)
    refine ⟨_, pss_cons (ps_expr (pe_call FC hr3 rfl mC kC bC .nil (passes_call (takes_of rfl rfl rfl rfl) fun _ _ _ _ h => h) (pa_cons (pv 0) (pa_cons (pv 1) pa_nil))))
      (pss_cons (ps_set (i := 2) scKey.nd rfl (Or.inl rfl) (pe_ix ix_tup (pe_fld (pv 0) rfl) (pe_fld (pv 1) rfl) (fun _ _ => rfl)))
      (pss_cons (ps_if (pt_cmpR op_eq (pe_fld (pv 1) rfl) pe_int (nomark _)) (pss_one (ps_ret (pe_call FK hr rfl mK kK bK .nil passF (pa_cons (pv 0) (pa_cons (pe_fld (pv 2) rfl) pa_nil))))) pss_nil)
      (pss_cons (ps_if (pt_cmpR op_eq (pe_fld (pv 1) rfl) (pe_op op_mul (pe_fld (pv 2) rfl) (pe_fld (pv 1) rfl)) (nomark _)) (pss_one (ps_ret (pe_call FK hr rfl mK kK bK .nil passF (pa_cons (pv 0) (pa_cons (pe_fld (pv 2) rfl) pa_nil))))) pss_nil)
      (pss_one (ps_ret (pv 1)))))), ?_⟩
    refine ⟨_, rfl, _, rfl, a, p, n, ps, F, r, rfl, TA, PA', G, sm, k1, k2, fun on => ?_⟩
    have k3' := k3 on
    obtain ⟨⟨o1, o2⟩, o3, o4⟩ := on
    have TA' := TA
    obtain ⟨dx, t, d, kvs, ea, et, rds, _⟩ := TA
    obtain ⟨dp, ep⟩ := id PA'
    have lk : r.1.toNat < F.length := by omega
    have e1 : r.1 = ((r.1.toNat : Nat) : Int) := by omega
    obtain ⟨q, eq, dq, rq⟩ := rds.at_ lk
    obtain ⟨ok1, ok2, ok3, ok4⟩ := rd_ok G.m lk
    have z := G.rd lk
    refine ⟨_, rfl, a, CT, dx, _, _, rfl, ea, TT.cl, TT.nR, teF_r n t d, _, rfl, p, CP, dp, _, _, rfl, ep, TP.cl, TP.nR, plF_r r, t, _, _, _, rfl, rfl, et, at_of e1 eq, ?_⟩
    refine ⟨_, rfl, p, CP, dp, _, _, rfl, ep, TP.cl, TP.nN, plF_n r, rfl, _, rfl, ?_⟩
    by_cases h0 : r.2.1 = 0
    · refine iteV h0 ⟨_, rfl, _, rfl, q, CR, dq, _, _, rfl, rq, TR.cl, TR.nA, rdF_a _, a, n, ps, F, _, rfl, TA', G, fun z => absurd ok1 z, fun _ p' H' s' hp' px => ?_⟩
      refine k3' p' H' s' ?_
      unfold node
      rw [if_pos h0, keyF_cr]
      exact px
    · refine iteN h0 ⟨_, rfl, p, CP, dp, _, _, rfl, ep, TP.cl, TP.nN, plF_n r, _, rfl, q, CR, dq, _, _, rfl, rq, TR.cl, TR.nL, rdF_l _, _, rfl, p, CP, dp, _, _, rfl, ep, TP.cl, TP.nP, plF_p r, _, _, rfl, rfl, .inl ⟨by omega, by omega⟩, rfl, _, rfl, ?_⟩
      by_cases h1 : r.2.1 = (rd F r.1.toNat).2.2 * r.2.2
      · refine iteV h1 ⟨_, rfl, _, rfl, q, CR, dq, _, _, rfl, rq, TR.cl, TR.nB, rdF_b _, a, n, ps, F, _, rfl, TA', G, fun z => absurd ok2 z, fun _ p' H' s' hp' px => ?_⟩
        refine k3' p' H' s' ?_
        unfold node
        rw [if_neg h0, if_pos (show r.2.1 = sz F r.2.2 r.1.toNat from h1), keyF_cr]
        exact px
      · refine iteN h1 ⟨_, rfl, k3' p H (Same.refl H) ?_⟩
        unfold node
        rw [if_neg h0, if_neg (show ¬ r.2.1 = sz F r.2.2 r.1.toNat from h1)]
        show PlaceAt CP H p (low (((r.1.toNat : Nat) : Int), r.2.1, r.2.2))
        rw [← e1]
        show PlaceAt CP H p (low r)
        rw [lo]
        exact PA'
end
end OT
set_option Elab.async false
set_option linter.all false
set_option maxRecDepth 100000
set_option maxHeartbeats 4000000
namespace OT
open PySem L2 OTR
abbrev sNotW : Stmt := inClass (top 8) 0
abbrev sMarchI : Stmt := inClass (top 29) 0
abbrev sRowI : Stmt := inClass (top 30) 0
abbrev sCheckMa : Stmt := top 31
structure MaT (K : PySem.W.Frag) (mg : Str → Option Value) (C : Addr) : Prop where
  cl : Cls K C
  nG : NoAttr K C "goal"
  nS : NoAttr K C "steps"
  mgC : mg "March" = some (.ref C)
structure RwT (K : PySem.W.Frag) (mg : Str → Option Value) (C : Addr) : Prop where
  cl : Cls K C
  nT : NoAttr K C "tree"
  nM : NoAttr K C "marches"
  mgC : mg "Row" = some (.ref C)
def maF (g : Addr) (n : Int) : List (Str × V) := [("goal", .ref g), ("steps", .int n)]
theorem maF_g (g : Addr) (n : Int) : (maF g n).lookup ("goal" : Str) = some (.ref g) := lk0
theorem maF_s (g : Addr) (n : Int) : (maF g n).lookup ("steps" : Str) = some (.int n) := by
  unfold maF
  rw [lk1 (by decide +kernel)]
  exact lk0
theorem maF_put (g : Addr) (n : Int) : putF "steps" (.int n) (putF "goal" (.ref g) []) = maF g n := by
  have h1 : ¬ (("goal" : Str) = "steps") := by decide +kernel
  show (if ("goal" : Str) = "steps" then _ else (("goal" : Str), V.ref g) :: putF "steps" (.int n) []) = maF g n
  rw [if_neg h1]
  rfl
def rwF (a t : Addr) : List (Str × V) := [("tree", .ref a), ("marches", .ref t)]
theorem rwF_t (a t : Addr) : (rwF a t).lookup ("tree" : Str) = some (.ref a) := lk0
theorem rwF_m (a t : Addr) : (rwF a t).lookup ("marches" : Str) = some (.ref t) := by
  unfold rwF
  rw [lk1 (by decide +kernel)]
  exact lk0
theorem rwF_put (a t : Addr) : putF "marches" (.ref t) (putF "tree" (.ref a) []) = rwF a t := by
  have h1 : ¬ (("tree" : Str) = "marches") := by decide +kernel
  show (if ("tree" : Str) = "marches" then _ else (("tree" : Str), V.ref a) :: putF "marches" (.ref t) []) = rwF a t
  rw [if_neg h1]
  rfl
def MarchAt (C : Addr) (H : Hp) (p g : Addr) (n : Int) : Prop := ∃ dx, H p = some (.ins C dx (maF g n))
theorem MarchAt.same {C : Addr} {H H' : Hp} {p g : Addr} {n : Int} (h : MarchAt C H p g n) (s : Same H H') : MarchAt C H' p g n := let ⟨dx, e⟩ := h; ⟨dx, s _ _ e⟩
/-- a march of the program, as the law tells it -/
def MaAt (CM CP : Addr) (H : Hp) (p : Addr) (m : MFact) : Prop := ∃ g, MarchAt CM H p g m.2.2.2 ∧ PlaceAt CP H g (low (mPl m))
theorem MaAt.same {CM CP : Addr} {H H' : Hp} {p : Addr} {m : MFact} (h : MaAt CM CP H p m) (s : Same H H') : MaAt CM CP H' p m := let ⟨g, a, b⟩ := h; ⟨g, a.same s, b.same s⟩
abbrev MasAt (CM CP : Addr) (H : Hp) (ps : List Addr) (l : List MFact) : Prop := Paired (MaAt CM CP H) ps l
theorem MasAt.same {CM CP : Addr} {H H' : Hp} {ps : List Addr} {l : List MFact} (h : MasAt CM CP H ps l) (s : Same H H') : MasAt CM CP H' ps l := Paired.mapP h fun _ _ a => a.same s
/-- the parts of the goals: few enough -/
def MSm (m : MFact) : Prop := 1 ≤ m.2.2.1 ∧ m.2.2.1 < 2 ^ 110
def RaisM (CB CNR COR CNW : Addr) (H : Hp) (E : XK) : ErrM → Prop
  | .marches n => Raised CB [("count", .int n), ("what", .str "marches")] H E
  | .no r => Raised CNR [("road", .int r)] H E
  | .off r => Raised COR [("road", .int r)] H E
  | .whole k => Raised CNW [("march", .int k)] H E
  | .steps n => Raised CB [("count", .int n), ("what", .str "steps")] H E
theorem RaisM.mono {CB CNR COR CNW : Addr} {H H1 : Hp} {E : XK} {e : ErrM} (h : RaisM CB CNR COR CNW H E e) (s : ∀ b o, H b = some o → H1 b = some o) : RaisM CB CNR COR CNW H1 E e := by
  cases e <;> exact Raised.mono h s
def spMarchI (C : Addr) : Sp := fun vs H Q _ => ∃ (p dx g : Addr) (n : Int), vs = [.ref p, .ref g, .int n] ∧ H p = some (.ins C dx []) ∧ ∀ H', MarchAt C H' p g n → (∀ b o, H b = some o → b ≠ p → H' b = some o) → Q .non H'
def spCheckMa (K : PySem.W.Frag) (CT CR CM CP CB CNR COR CNW : Addr) : Sp := fun vs H Q E => ∃ (a p : Addr) (k n : Int) (ps : List Addr) (F : List Fact) (m : MFact), vs = [.ref a, .int k, .ref p] ∧ TreeAt K CT CR H a n ps F ∧ TreeG n F ∧ MaAt CM CP H p m ∧ MSm m ∧
  (∀ e, dueO F k m = some e → RaisM CB CNR COR CNW H E e) ∧ (dueO F k m = none → Q .non H)
def RowAt (K : PySem.W.Frag) (CW : Addr) (H : Hp) (p a : Addr) (ms : List Addr) : Prop := ∃ dx t, H p = some (.ins CW dx (rwF a t)) ∧ SqT K H t (ms.map V.ref)
def spRowI (K : PySem.W.Frag) (CT CR CM CP CW CB CNR COR CNW : Addr) : Sp := fun vs H Q E => ∃ (p dx a l : Addr) (n : Int) (ps : List Addr) (F : List Fact) (ms : List Addr) (fs : List MFact) (H0 : Hp), vs = [.ref p, .ref a, .ref l] ∧ H p = some (.ins CW dx []) ∧ H0 p = none ∧ Same H0 H ∧
  TreeAt K CT CR H0 a n ps F ∧ TreeG n F ∧ SqA K H0 l (ms.map V.ref) ∧ MasAt CM CP H0 ms fs ∧ (∀ m ∈ fs, MSm m) ∧ fs.length ≤ 900000 ∧
  (∀ e, dueM F fs = some e → RaisM CB CNR COR CNW H0 E e) ∧ (dueM F fs = none → ∀ H', RowAt K CW H' p a ms → Same H0 H' → Q .non H')
section
variable {P : Program} {w : World} {K : PySem.W.Frag} {mg : Str → Option Value} {base : Heap}
theorem scNotW : FnScope ["self", "march"] ["self", "march"] (defScope sNotW) := ⟨rfl, rfl, rfl, by decide +kernel, rfl, by decide +kernel, by decide +kernel⟩
theorem ok_notW {f C : Addr} {fd : FuncData} (F : Fun K "__init__" "NotWhole.__init__" sNotW f fd) (T : OexC K C) (n1 : PySem.W.findIn K (.ref C) "march" = some none) : FnOk P w K mg base CX0 1 f fd ["self", "march"] (spEr1 C "march") := by
  refine F.ok scNotW (fun vs H Q E h => ?_) (fun cdv A outer s H vs Q E hr h => ?_)
  · obtain ⟨a, v, rfl, _⟩ := h
    rfl
  · obtain ⟨a, v, rfl, ha, k⟩ := h
    refine ⟨_, pss_one (ps_ost (pv 0) (pv 1)), ?_⟩
    exact ⟨_, rfl, _, rfl, a, C, rfl, T, n1, .inl ⟨ha, fun dx n ne => k dx n ne⟩⟩
theorem scMarchI : FnScope ["self", "goal", "steps"] ["self", "goal", "steps"] (defScope sMarchI) := ⟨rfl, rfl, rfl, by decide +kernel, rfl, by decide +kernel, by decide +kernel⟩
theorem ok_marchI {f C : Addr} {fd : FuncData} (F : Fun K "__init__" "March.__init__" sMarchI f fd) (T : MaT K mg C) : FnOk P w K mg base CX0 1 f fd ["self", "goal", "steps"] (spMarchI C) := by
  refine F.ok scMarchI (fun vs H Q E h => ?_) (fun cdv A outer s H vs Q E hr h => ?_)
  · obtain ⟨p, dx, g, n, rfl, _⟩ := h
    rfl
  · obtain ⟨p, dx, g, n, rfl, hp, k⟩ := h
    refine ⟨_, pss_cons (ps_fld (pv 0) (pv 1) rfl) (pss_one (ps_fld (pv 0) (pv 2) rfl)), ?_⟩
    refine ⟨_, rfl, _, rfl, p, C, dx, [], rfl, hp, T.cl, T.nG, (by show 0 < 1000; decide), ?_⟩
    refine ⟨_, rfl, _, rfl, p, C, dx, _, rfl, upd_same, T.cl, T.nS, (by show 1 < 1000; decide), ?_⟩
    refine k _ ⟨dx, ?_⟩ fun b o e n => ?_
    · rw [← maF_put]
      exact upd_same
    · rw [upd_ne n, upd_ne n]
      exact e
theorem scCheckMa : FnScope ["tree", "number", "march"] ["tree", "number", "march"] (defScope sCheckMa) := ⟨rfl, rfl, rfl, by decide +kernel, rfl, by decide +kernel, by decide +kernel⟩
theorem ok_checkMa {f CT CR CM CP CB CNR COR CNW fC fB fW : Addr} {fd fdC fdB fdW : FuncData} (F : Fun K "check_march" "check_march" sCheckMa f fd) (TM : MaT K mg CM) (TP : PlT K mg CP) (TB : ErT K mg "BadCount" CB fB) (TW : ErT K mg "NotWhole" CNW fW)
    (FC : FnOk P w K mg base (L2.CX P w) 3 fC fdC ["tree", "place"] (spCheckPl K CT CR CP CNR COR)) (bC : Binds K fdC ["tree", "place"] []) (mC : mg "check_place" = some (.ref fC)) (kC : PySem.W.keepIn K (.ref fC) = true)
    (FB : FnOk P w K mg base CX0 1 fB fdB ["self", "what", "count"] (spEr2 CB "what" "count")) (bB : Binds K fdB ["self", "what", "count"] [])
    (FW : FnOk P w K mg base CX0 1 fW fdW ["self", "march"] (spEr1 CNW "march")) (bW : Binds K fdW ["self", "march"] []) (hL : ∃ t, mg "MOST_STEPS" = some (.int 1000000000 t)) :
    FnOk P w K mg base (L2.CX P w) 4 f fd ["tree", "number", "march"] (spCheckMa K CT CR CM CP CB CNR COR CNW) := by
  refine F.okX scCheckMa (fun vs H Q E h => ?_) (fun cdv A outer s H vs Q E hr h => ?_)
  · obtain ⟨a, p, k, n, ps, F, m, rfl, _⟩ := h
    rfl
  · obtain ⟨a, p, k, n, ps, F, m, rfl, TA, G, ⟨g, ⟨dm, em⟩, pl⟩, ⟨sm1, sm2⟩, kE, kQ⟩ := h
    obtain ⟨tL, hL⟩ := hL
    have hr1 : Room 2 _ := hr.mono (by decide)
    refine ⟨_, pss_cons (ps_expr (pe_call FC hr rfl mC kC bC .nil (passes_call (takes_of rfl rfl rfl rfl) fun _ _ _ _ h => h) (pa_cons (pv 0) (pa_cons (pe_fld (pv 2) rfl) pa_nil))))
      (pss_cons (ps_if (pt_cmpR op_ne (pe_fld (pe_fld (pv 2) rfl) rfl) pe_int (nomark _))
          (pss_one (ps_raise rfl (takes_of rfl rfl rfl rfl) (pmk_oex TW.ox TW.iC TW.tI FW hr1 bW .nil pass0 (by rfl) TW.gC (pa_cons (pv 1) pa_nil)))) pss_nil)
      (pss_one (ps_if (pt_not (pt_chain op_le op_le pe_int (pe_fld (pv 2) rfl) (pe_glob (v := V.int 1000000000) rfl hL ⟨tL, rfl⟩)))
          (pss_one (ps_raise rfl (takes_of rfl rfl rfl rfl) (pmk_oex TB.ox TB.iC TB.tI FB hr1 bB .nil pass0 (by rfl) TB.gC (pa_cons pe_str (pa_cons (pe_fld (pv 2) rfl) pa_nil))))) pss_nil))), ?_⟩
    have lsm := low_sm (r := mPl m) sm1 sm2
    have lsp := low_sp (F := F) (r := mPl m) sm1
    have lwh := low_whl (r := mPl m) sm1
    obtain ⟨dp, ep⟩ := id pl
    refine ⟨_, rfl, _, rfl, p, CM, dm, _, _, rfl, em, TM.cl, TM.nG, maF_g g _, a, g, n, ps, F, low (mPl m), rfl, TA, pl, G, lsm, fun z => ?_, fun z1 z2 => ?_, fun on => ?_⟩
    · exact kE _ (dueO_no (m := m) z)
    · exact kE _ (dueO_off (m := m) z1 fun z => z2 (lsp.mpr z))
    obtain ⟨on1, on2⟩ := on
    have on2' := lsp.mp on2
    refine ⟨_, rfl, p, CM, dm, _, _, rfl, em, TM.cl, TM.nG, maF_g g _, g, CP, dp, _, _, rfl, ep, TP.cl, TP.nP, plF_p _, rfl, _, rfl, ?_⟩
    by_cases h3 : (low (mPl m)).2.2 = 1
    · have w3 := lwh.mp h3
      refine iteNS (by rw [h3]) ?_
      refine ⟨_, rfl, p, CM, dm, _, _, rfl, em, TM.cl, TM.nS, maF_s g _, _, _, rfl, rfl, _, rfl, ?_⟩
      by_cases h0 : 1 ≤ m.2.2.2
      · rw [decide_eq_true h0]
        refine iteT ⟨_, _, rfl, rfl, _, rfl, ?_⟩
        by_cases h1 : m.2.2.2 ≤ 1000000000
        · rw [decide_eq_true h1]
          exact iteF (kQ (dueO_go on1 on2' w3 ⟨h0, h1⟩))
        · rw [decide_eq_false h1]
          exact iteT ⟨_, rfl, p, CM, dm, _, _, rfl, em, TM.cl, TM.nS, maF_s g _, len2, fun b hb => er2 hb (kE _ (dueO_steps on1 on2' w3 fun z => h1 z.2))⟩
      · rw [decide_eq_false h0]
        refine iteF ⟨_, rfl, ?_⟩
        exact iteT ⟨_, rfl, p, CM, dm, _, _, rfl, em, TM.cl, TM.nS, maF_s g _, len2, fun b hb => er2 hb (kE _ (dueO_steps on1 on2' w3 fun z => h0 z.1))⟩
    · have h4 : ¬ (V.int (low (mPl m)).2.2 = V.int 1) := fun z => h3 (V.int.inj z)
      rw [decide_eq_false h4]
      exact iteT ⟨_, rfl, len1, fun b hb => er1 hb (kE _ (dueO_whole (m := m) on1 on2' fun z => h3 (lwh.mpr z)))⟩
abbrev nRowI : List Str := ["self", "tree", "marches", "number", "march"]
theorem scRowI : FnScope nRowI ["self", "tree", "marches"] (defScope sRowI) := ⟨rfl, rfl, rfl, by decide +kernel, rfl, by decide +kernel, by decide +kernel⟩
theorem ok_rowI {f CT CR CM CP CW CB CNR COR CNW fC fB : Addr} {fd fdC fdB : FuncData} (F : Fun K "__init__" "Row.__init__" sRowI f fd) (TW : RwT K mg CW) (TB : ErT K mg "BadCount" CB fB)
    (FC : FnOk P w K mg base (L2.CX P w) 4 fC fdC ["tree", "number", "march"] (spCheckMa K CT CR CM CP CB CNR COR CNW)) (bC : Binds K fdC ["tree", "number", "march"] []) (mC : mg "check_march" = some (.ref fC)) (kC : PySem.W.keepIn K (.ref fC) = true)
    (FB : FnOk P w K mg base CX0 1 fB fdB ["self", "what", "count"] (spEr2 CB "what" "count")) (bB : Binds K fdB ["self", "what", "count"] [])
    (hMost : ∃ t, mg "MOST_MARCHES" = some (.int 24 t)) (hLen : mg "len" = none) (hEn : mg "enumerate" = none) (hTup : mg "tuple" = none) :
    FnOk P w K mg base (L2.CX P w) 5 f fd ["self", "tree", "marches"] (spRowI K CT CR CM CP CW CB CNR COR CNW) := by
  refine F.okX scRowI (fun vs H Q E h => ?_) (fun cdv A outer s H vs Q E hr h => ?_)
  · obtain ⟨p, dx, a, l, n, ps, F, ms, fs, H0, rfl, _⟩ := h
    rfl
  · obtain ⟨p, dx, a, l, n, ps, F, ms, fs, H0, rfl, hp, hp0, s0, TA, G, hS, hM, sm, hl, kE, kQ⟩ := h
    obtain ⟨tm, hMost⟩ := hMost
    have hr1 : Room 2 _ := hr.mono (by decide)
    have lenE : (ms.map V.ref).length = fs.length := by rw [List.length_map]; exact Paired.length hM
    -- behind the loop: the fields
    have sp : ∀ {H2 : Hp} {o : HO}, Same H0 H2 → Same H0 (upd H2 p o) := fun {H2 o} s2 b u e => by
      rw [upd_ne (ne_of_none e hp0)]
      exact s2 b u e
    have due0 : ¬ 24 < fs.length → dueM F fs = dueL F 0 fs := fun z => by
      unfold dueM
      rw [if_neg z]
    have due1 : 24 < fs.length → dueM F fs = some (.marches fs.length) := fun z => by
      unfold dueM
      rw [if_pos z]
    -- one turn
    have turn : ∀ {i : Nat} {q : Addr} {H2 : Hp}, ms[i]? = some q → dueM F fs = dueL F i (fs.drop i) → Same H0 H2 → ∃ m, fs[i]? = some m ∧ MaAt CM CP H2 q m ∧ MSm m ∧ (∀ e, dueO F (i : Nat) m = some e → RaisM CB CNR COR CNW H2 E e) ∧ (dueO F (i : Nat) m = none → dueM F fs = dueL F (i + 1) (fs.drop (i + 1))) := fun {i q H2} hq e2 s2 => by
      obtain ⟨m, hm, am⟩ := paired_get hM hq
      have ed := drop_get hm
      refine ⟨m, hm, am.same s2, sm m (List.mem_of_getElem? hm), fun e he => ?_, fun he => ?_⟩
      · refine RaisM.mono (kE e ?_) s2
        rw [e2, ed, dueL_cons_some he]
      · rw [e2, ed, dueL_cons_none he]
    rcases hS with hS | hS
    · refine ⟨_, pss_cons (ps_if (pt_cmpR op_gt (pe_callB call_len_seq (by rfl) hLen PySem.boot_len (pa_cons (pv 2) pa_nil)) (pe_glob (v := V.int 24) rfl hMost ⟨tm, rfl⟩) (nomark _))
          (pss_one (ps_raise rfl (takes_of rfl rfl rfl rfl) (pmk_oex TB.ox TB.iC TB.tI FB hr1 bB .nil pass0 (by rfl) TB.gC (pa_cons pe_str (pa_cons (pe_callB call_len_seq (by rfl) hLen PySem.boot_len (pa_cons (pv 2) pa_nil)) pa_nil))))) pss_nil)
        (pss_cons (ps_for (passes_of rfl) rfl (pi_enum rfl hEn (pa_cons (pv 2) pa_nil)) (pg_tup rfl (pgs_cons (pg_name (i := 3) scRowI.nd rfl (Or.inl rfl)) (pgs_cons (pg_name (i := 4) scRowI.nd rfl (Or.inl rfl)) pgs_nil)))
          (pss_one (ps_expr (pe_call FC hr rfl mC kC bC .nil (passes_call (takes_of rfl rfl rfl rfl) fun _ _ _ _ h => h) (pa_cons (pv 1) (pa_cons (pv 3) (pa_cons (pv 4) pa_nil)))))))
        (pss_cons (ps_fld (pv 0) (pv 1) rfl)
        (pss_one (ps_fld (pv 0) (pe_callTy (r := rTupO K) call_tuple_of (by rfl) hTup (by decide +kernel) (pa_cons (pv 2) pa_nil)) rfl)))), ?_⟩
      refine ⟨_, rfl, l, _, rfl, .inl (s0.seq hS), _, _, rfl, rfl, _, rfl, ?_⟩
      rw [lenE]
      by_cases h24 : 24 < fs.length
      · rw [decide_eq_true (by omega : (fs.length : Int) > 24)]
        refine iteT ⟨_, rfl, l, _, rfl, .inl (s0.seq hS), len2, fun b hb => ?_⟩
        rw [lenE]
        exact er2 hb (RaisM.mono (e := .marches fs.length) (kE _ (due1 h24)) s0)
      · rw [decide_eq_false (by omega : ¬ (fs.length : Int) > 24)]
        refine iteF ?_
        refine ⟨_, rfl, l, _, rfl, s0.seq hS, for_it (walk_enum (K := K) (a := l) (xs := ms.map V.ref)) (fun i σ H2 => ∃ (v3 v4 : Option V), σ = [some (.ref p), some (.ref a), some (.ref l), v3, v4] ∧ Same H H2 ∧ dueM F fs = dueL F i (fs.drop i))
          ⟨none, none, rfl, Same.refl H, due0 h24⟩ (fun i σ H2 _ ⟨_, _, _, s2, _⟩ => (s0.trans s2).seq hS) ?_ ?_⟩
        · rintro i x σ H2 H3 hi ⟨v3, v4, rfl, s2, e2⟩ ⟨T, x1, y1, rfl, hT, rfl, hx1, hy1⟩
          cases hx1
          obtain ⟨q, hq, rfl⟩ := map_get (show (ms.map V.ref)[i]? = some y1 from hy1)
          have s3 : Same H2 (upd H2 T (.tup [.int (i : Nat), .ref q])) := Same.new hT
          obtain ⟨m, hm, am, smm, t1, t2⟩ := turn hq e2 ((s0.trans s2).trans s3)
          refine ⟨T, _, rfl, SqT.of upd_same, rfl, _, _, rfl, _, _, rfl, rfl, ?_⟩
          refine ⟨_, rfl, _, rfl, _, rfl, a, q, (i : Nat), n, ps, F, m, rfl, TA.same ((s0.trans s2).trans s3), G, am, smm, t1, fun he => ?_⟩
          exact ⟨_, _, rfl, s2.trans s3, t2 he⟩
        · rintro σ H2 ⟨v3, v4, rfl, s2, e2⟩
          rw [lenE, List.drop_length] at e2
          refine ⟨_, rfl, _, rfl, p, CW, dx, [], rfl, s2 _ _ hp, TW.cl, TW.nT, (by show 0 < 1000; decide), ?_⟩
          refine tupE rfl (.inl (sp (s0.trans s2) |>.seq hS)) fun t Hb sb ht => ?_
          have hpb := sb _ _ (upd_same (H := H2) (a := p) (o := .ins CW dx (putF "tree" (.ref a) [])))
          refine ⟨_, rfl, p, CW, dx, _, rfl, hpb, TW.cl, TW.nM, (by show 1 < 1000; decide), ?_⟩
          rw [rwF_put]
          exact kQ e2 _ ⟨dx, t, upd_same, sqT_ins hpb ht⟩ (sp ((sp (s0.trans s2)).trans sb))
    · refine ⟨_, pss_cons (ps_if (pt_cmpR op_gt (pe_callB call_len_seq (by rfl) hLen PySem.boot_len (pa_cons (pv 2) pa_nil)) (pe_glob (v := V.int 24) rfl hMost ⟨tm, rfl⟩) (nomark _))
          (pss_one (ps_raise rfl (takes_of rfl rfl rfl rfl) (pmk_oex TB.ox TB.iC TB.tI FB hr1 bB .nil pass0 (by rfl) TB.gC (pa_cons pe_str (pa_cons (pe_callB call_len_seq (by rfl) hLen PySem.boot_len (pa_cons (pv 2) pa_nil)) pa_nil))))) pss_nil)
        (pss_cons (ps_for (passes_of rfl) rfl (pi_enumT (by rfl) hEn (pa_cons (pv 2) pa_nil)) (pg_tup rfl (pgs_cons (pg_name (i := 3) scRowI.nd rfl (Or.inl rfl)) (pgs_cons (pg_name (i := 4) scRowI.nd rfl (Or.inl rfl)) pgs_nil)))
          (pss_one (ps_expr (pe_call FC hr rfl mC kC bC .nil (passes_call (takes_of rfl rfl rfl rfl) fun _ _ _ _ h => h) (pa_cons (pv 1) (pa_cons (pv 3) (pa_cons (pv 4) pa_nil)))))))
        (pss_cons (ps_fld (pv 0) (pv 1) rfl)
        (pss_one (ps_fld (pv 0) (pe_callTy (r := rTupO K) call_tuple_of (by rfl) hTup (by decide +kernel) (pa_cons (pv 2) pa_nil)) rfl)))), ?_⟩
      refine ⟨_, rfl, l, _, rfl, .inr (sqT_same hS s0), _, _, rfl, rfl, _, rfl, ?_⟩
      rw [lenE]
      by_cases h24 : 24 < fs.length
      · rw [decide_eq_true (by omega : (fs.length : Int) > 24)]
        refine iteT ⟨_, rfl, l, _, rfl, .inr (sqT_same hS s0), len2, fun b hb => ?_⟩
        rw [lenE]
        exact er2 hb (RaisM.mono (e := .marches fs.length) (kE _ (due1 h24)) s0)
      · rw [decide_eq_false (by omega : ¬ (fs.length : Int) > 24)]
        refine iteF ?_
        refine ⟨_, rfl, l, _, rfl, sqT_same hS s0, for_it (walk_enumT (K := K) (a := l) (xs := ms.map V.ref)) (fun i σ H2 => ∃ (v3 v4 : Option V), σ = [some (.ref p), some (.ref a), some (.ref l), v3, v4] ∧ Same H H2 ∧ dueM F fs = dueL F i (fs.drop i))
          ⟨none, none, rfl, Same.refl H, due0 h24⟩ (fun i σ H2 _ ⟨_, _, _, s2, _⟩ => sqT_same hS (s0.trans s2)) ?_ ?_⟩
        · rintro i x σ H2 H3 hi ⟨v3, v4, rfl, s2, e2⟩ ⟨T, x1, y1, rfl, hT, rfl, hx1, hy1⟩
          cases hx1
          obtain ⟨q, hq, rfl⟩ := map_get (show (ms.map V.ref)[i]? = some y1 from hy1)
          have s3 : Same H2 (upd H2 T (.tup [.int (i : Nat), .ref q])) := Same.new hT
          obtain ⟨m, hm, am, smm, t1, t2⟩ := turn hq e2 ((s0.trans s2).trans s3)
          refine ⟨T, _, rfl, SqT.of upd_same, rfl, _, _, rfl, _, _, rfl, rfl, ?_⟩
          refine ⟨_, rfl, _, rfl, _, rfl, a, q, (i : Nat), n, ps, F, m, rfl, TA.same ((s0.trans s2).trans s3), G, am, smm, t1, fun he => ?_⟩
          exact ⟨_, _, rfl, s2.trans s3, t2 he⟩
        · rintro σ H2 ⟨v3, v4, rfl, s2, e2⟩
          rw [lenE, List.drop_length] at e2
          refine ⟨_, rfl, _, rfl, p, CW, dx, [], rfl, s2 _ _ hp, TW.cl, TW.nT, (by show 0 < 1000; decide), ?_⟩
          refine tupE rfl (.inr (sqT_same hS (sp (s0.trans s2)))) fun t Hb sb ht => ?_
          have hpb := sb _ _ (upd_same (H := H2) (a := p) (o := .ins CW dx (putF "tree" (.ref a) [])))
          refine ⟨_, rfl, p, CW, dx, _, rfl, hpb, TW.cl, TW.nM, (by show 1 < 1000; decide), ?_⟩
          rw [rwF_put]
          exact kQ e2 _ ⟨dx, t, upd_same, sqT_ins hpb ht⟩ (sp ((sp (s0.trans s2)).trans sb))
end
end OT
set_option Elab.async false
set_option linter.all false
set_option maxRecDepth 100000
set_option maxHeartbeats 4000000
namespace OT
open PySem L2 OTR
abbrev sReadPlace : Stmt := top 40
theorem nb_log9 {i : Int} (h : NB i) : i.natAbs.log2 < 9000 := Nat.lt_of_lt_of_le (nb_log h) (by decide)
def spReadPlaceG (CP : Addr) : Sp := fun vs H Q _ => ∃ z : Str, vs = [.str z] ∧ z.length ≤ 500000 ∧ (rdP z = none → ∀ H', Same H H' → Q .non H') ∧ ∀ r, rdP z = some r → ∀ p H', Same H H' → H p = none → PlaceAt CP H' p (low r) → Q (.ref p) H'
/-- the place of three numbers -/
def plc (s : Bool) : Option Int → Option Int → Option Int → Option Fact
  | some a, some b, some c => if s = true ∧ c < 2 then none else some (a, b, c)
  | _, _, _ => none
theorem plc_none {s : Bool} {a b c : Option Int} (h : none ∈ [a, b, c]) : plc s a b c = none := by
  unfold plc
  split
  · simp at h
  · rfl
theorem slash_ne : ¬ ("/" : Str) = Str.empty := by decide
theorem rdP_E {z x s1 rest n : Str} (h1 : Txt.partition z ":" = (x, s1, rest)) (h2 : Txt.partition rest "/" = (n, Str.empty, Str.empty)) : rdP z = plc false (rdN x) (rdN n) (some 1) := by
  unfold rdP
  rw [h1]
  dsimp only
  rw [h2]
  dsimp only
  rw [if_pos rfl]
  cases rdN x <;> cases rdN n <;> simp [plc]
theorem rdP_F {z x s1 rest n p : Str} (h1 : Txt.partition z ":" = (x, s1, rest)) (h2 : Txt.partition rest "/" = (n, ("/" : Str), p)) : rdP z = plc true (rdN x) (rdN n) (rdN p) := by
  unfold rdP
  rw [h1]
  dsimp only
  rw [h2]
  dsimp only
  rw [if_neg slash_ne]
  cases rdN x <;> cases rdN n <;> cases rdN p <;> simp [plc, slash_ne]
section
variable {P : Program} {w : World} {K : PySem.W.Frag} {mg : Str → Option Value} {base : Heap}
abbrev nReadPlace : List Str := ["text", "road", "_", "rest", "number", "slash", "parts", "numbers"]
theorem scReadPlace : FnScope nReadPlace ["text"] (defScope sReadPlace) := ⟨rfl, rfl, rfl, by decide +kernel, rfl, by decide +kernel, by decide +kernel⟩
theorem ok_readPlace {f CP CB fPl fRN : Addr} {fd fdPl fdRN : FuncData} (F : Fun K "read_place" "read_place" sReadPlace f fd) (TP : PlT K mg CP) (MPl : Mk K CP fPl) (FPl : FnOk P w K mg base (L2.CX P w) 3 fPl fdPl ["self", "road", "number", "parts"] (spPlaceI CP CB)) (bPl : Binds K fdPl ["self", "road", "number", "parts"] [])
    (FN : FnOk P w K mg base CX0 1 fRN fdRN ["text"] spRdNum) (bN : Binds K fdRN ["text"] []) (mN : mg "read_number" = some (.ref fRN)) (kN : PySem.W.keepIn K (.ref fRN) = true) (hLP : ∃ t, mg "LEAST_PARTS" = some (.int 2 t)) : FnOk P w K mg base CX0 5 f fd ["text"] (spReadPlaceG CP) := by
  refine F.ok scReadPlace (fun vs H Q E h => ?_) (fun cdv A outer s0 H vs Q E hr h => ?_)
  · obtain ⟨z, rfl, _⟩ := h
    rfl
  · obtain ⟨z, rfl, zl, kN0, kont⟩ := h
    obtain ⟨tL, hLP⟩ := hLP
    have hr1 : Room 1 _ := hr.mono (by decide)
    have hr4 : Room 4 _ := hr.mono (by decide)
    refine ⟨_, pss_cons (ps_asg (pe_bm PySem.F.plainAttrs_str PySem.F.slot_str_partition PySem.F.type_str_partition mt_partition (pv 0) (pa_cons pe_str pa_nil)) (pg_tup rfl (pgs_cons (pg_name (i := 1) scReadPlace.nd rfl (Or.inl rfl)) (pgs_cons (pg_name (i := 2) scReadPlace.nd rfl (Or.inl rfl)) (pgs_cons (pg_name (i := 3) scReadPlace.nd rfl (Or.inl rfl)) pgs_nil)))))
      (pss_cons (ps_asg (pe_bm PySem.F.plainAttrs_str PySem.F.slot_str_partition PySem.F.type_str_partition mt_partition (pv 3) (pa_cons pe_str pa_nil)) (pg_tup rfl (pgs_cons (pg_name (i := 4) scReadPlace.nd rfl (Or.inl rfl)) (pgs_cons (pg_name (i := 5) scReadPlace.nd rfl (Or.inl rfl)) (pgs_cons (pg_name (i := 6) scReadPlace.nd rfl (Or.inl rfl)) pgs_nil)))))
      (pss_cons (ps_set (i := 7) scReadPlace.nd rfl (Or.inl rfl) (pe_lst (pa_cons (pe_call FN hr1 rfl mN kN bN .nil pass0 (pa_cons (pv 1) pa_nil)) (pa_cons (pe_call FN hr1 rfl mN kN bN .nil pass0 (pa_cons (pv 4) pa_nil)) (pa_cons (pe_ifExp (pt_truth (pv 5) (fun _ => rfl)) (pe_call FN hr1 rfl mN kN bN .nil pass0 (pa_cons (pv 6) pa_nil)) pe_int) pa_nil)))))
      (pss_cons (ps_if (PW.pt (pw_or (pt_cmpR op_in_seq pe_non (pv 7) rfl) (pw_or1 (PW.pt (pw_and (pt_truth (pv 5) (fun _ => rfl)) (pw_and1 (pt_cmpR op_lt (pe_ix ix_list (pv 7) pe_int (fun _ _ => rfl)) (pe_glob (v := V.int 2) rfl hLP ⟨tL, rfl⟩) (nomark _))))))))
        (pss_one (ps_ret pe_non))
        pss_nil)
      (pss_one (ps_ret (pe_make MPl FPl hr4 (by rfl) TP.mgC bPl .nil passF (pa_cons (pe_ix ix_list (pv 7) pe_int (fun _ _ => rfl)) (pa_cons (pe_ix ix_list (pv 7) pe_int (fun _ _ => rfl)) (pa_cons (pe_ix ix_list (pv 7) pe_int (fun _ _ => rfl)) pa_nil))))))))), ?_⟩
    -- road, _, rest
    refine ⟨_, rfl, rfl, z, ":", rfl, rfl, by decide +kernel, (by rw [PySem.sizeLine_eq]; omega), fun p1 h1 => ?_⟩
    obtain ⟨l1, l2⟩ := part_len sep_colon z
    obtain ⟨x, sg1, rest, e1⟩ : ∃ x s1 rest, Txt.partition z ":" = (x, s1, rest) := ⟨_, _, _, rfl⟩
    rw [e1] at l1 l2
    rw [e1]
    replace l1 : x.length ≤ z.length := l1
    replace l2 : rest.length ≤ z.length := l2
    have s1 := Same.new (o := .tup [.str x, .str sg1, .str rest]) h1
    refine ⟨p1, _, rfl, SqT.of upd_same, rfl, _, _, rfl, _, _, rfl, _, _, rfl, rfl, ?_⟩
    dsimp only [gName]
    clear h1
    generalize upd H p1 (.tup [.str x, .str sg1, .str rest]) = H1 at *
    -- number, slash, parts
    refine ⟨_, rfl, rfl, rest, "/", rfl, rfl, by decide +kernel, (by rw [PySem.sizeLine_eq]; omega), fun p2 h2 => ?_⟩
    obtain ⟨l3, l4⟩ := part_len sep_slash rest
    have three : ∀ {x y z : V}, [x, y, z].length ≤ sizeLine := fun {x y z} => (by show 3 ≤ sizeLine; decide)
    rcases cut_or sep_slash rest with ⟨_, _, e2⟩ | ⟨n, pt, _, _, _, e2⟩
    · have ez := rdP_E e1 e2
      rw [e2] at l3 l4
      rw [e2]
      have s2 := s1.trans (Same.new (o := .tup [.str rest, .str Str.empty, .str Str.empty]) h2)
      refine ⟨p2, _, rfl, SqT.of upd_same, rfl, _, _, rfl, _, _, rfl, _, _, rfl, rfl, ?_⟩
      dsimp only [gName]
      clear h2
      generalize upd H1 p2 (.tup [.str rest, .str Str.empty, .str Str.empty]) = H2 at *
      -- numbers
      refine ⟨_, rfl, x, rfl, by omega, fun G1 t1 => ?_⟩
      refine ⟨_, rfl, rest, rfl, by omega, fun G2 t2 => ?_⟩
      refine ⟨_, rfl, false, ⟨by decide +kernel, by decide +kernel⟩, iteF ⟨three, fun D hD => ?_⟩⟩
      have s3 := (s2.trans t1).trans t2
      have gD : upd G2 D (.lst [oI (rdN x), oI (rdN rest), .int 1]) D = some (.lst ([rdN x, rdN rest, some 1].map oI)) := upd_same
      have s4 := s3.trans (Same.new (o := .lst [oI (rdN x), oI (rdN rest), .int 1]) hD)
      clear hD
      show tSeq _ _ _ _ (upd G2 D (.lst [oI (rdN x), oI (rdN rest), .int 1]))
      generalize upd G2 D (.lst [oI (rdN x), oI (rdN rest), .int 1]) = G9 at *
      refine ⟨_, rfl, D, _, rfl, .inl (SqL.of gD), rfl, flat_oI _, _, rfl, ?_⟩
      show (if (if (false : Bool) = true then !inV _ _ else inV _ _) = true then _ else _)
      rw [if_neg Bool.false_ne_true, inV_oI]
      by_cases c4 : none ∈ [rdN x, rdN rest, some 1]
      · rw [decide_eq_true c4]
        exact iteT (kN0 (ez.trans (plc_none c4)) G9 s4)
      · rw [decide_eq_false c4]
        obtain ⟨a, ea⟩ : ∃ a, rdN x = some a := by
          cases e : rdN x with
          | none => rw [e] at c4; simp at c4
          | some a => exact ⟨a, rfl⟩
        obtain ⟨b, eb⟩ : ∃ b, rdN rest = some b := by
          cases e : rdN rest with
          | none => rw [e] at c4; simp at c4
          | some a => exact ⟨a, rfl⟩
        rw [ea, eb] at gD ez
        have gD : G9 D = some (.lst [.int a, .int b, .int 1]) := gD
        have ez : rdP z = some (a, b, 1) := ez
        refine iteF ⟨_, rfl, false, ⟨by decide +kernel, by decide +kernel⟩, iteF (iteF ?_)⟩
        refine ⟨_, rfl, D, _, 0, .int a, rfl, rfl, SqL.of gD, rfl, _, rfl, D, _, 1, .int b, rfl, rfl, SqL.of gD, rfl, _, rfl, D, _, 2, .int 1, rfl, rfl, SqL.of gD, rfl, fun y dx nx ndx nex => ⟨y, dx, (a, b, 1), rfl, upd_same, fun z => absurd z (by show ¬ (1 : Int) < 1; decide), fun _ => ⟨by show (1 : Int).natAbs.log2 < 9000; decide, fun G5 PP keep => ⟨rfl, ?_⟩⟩⟩⟩
        exact kont _ ez y G5 (s4.trans (made_same nx ndx keep)) (Same.free s4 nx) PP
    · have ez := rdP_F e1 e2
      rw [e2] at l3 l4
      rw [e2]
      replace l3 : n.length ≤ rest.length := l3
      replace l4 : pt.length ≤ rest.length := l4
      have s2 := s1.trans (Same.new (o := .tup [.str n, .str "/", .str pt]) h2)
      refine ⟨p2, _, rfl, SqT.of upd_same, rfl, _, _, rfl, _, _, rfl, _, _, rfl, rfl, ?_⟩
      dsimp only [gName]
      clear h2
      generalize upd H1 p2 (.tup [.str n, .str "/", .str pt]) = H2 at *
      -- numbers
      refine ⟨_, rfl, x, rfl, by omega, fun G1 t1 => ?_⟩
      refine ⟨_, rfl, n, rfl, by omega, fun G2 t2 => ?_⟩
      refine ⟨_, rfl, true, ⟨by decide +kernel, by decide +kernel⟩, iteT ⟨_, rfl, pt, rfl, by omega, fun G3 t3 => ⟨three, fun D hD => ?_⟩⟩⟩
      have s3 := (s2.trans t1).trans (t2.trans t3)
      have gD : upd G3 D (.lst [oI (rdN x), oI (rdN n), oI (rdN pt)]) D = some (.lst ([rdN x, rdN n, rdN pt].map oI)) := upd_same
      have s4 := s3.trans (Same.new (o := .lst [oI (rdN x), oI (rdN n), oI (rdN pt)]) hD)
      clear hD
      show tSeq _ _ _ _ (upd G3 D (.lst [oI (rdN x), oI (rdN n), oI (rdN pt)]))
      generalize upd G3 D (.lst [oI (rdN x), oI (rdN n), oI (rdN pt)]) = G9 at *
      refine ⟨_, rfl, D, _, rfl, .inl (SqL.of gD), rfl, flat_oI _, _, rfl, ?_⟩
      show (if (if (false : Bool) = true then !inV _ _ else inV _ _) = true then _ else _)
      rw [if_neg Bool.false_ne_true, inV_oI]
      by_cases c4 : none ∈ [rdN x, rdN n, rdN pt]
      · rw [decide_eq_true c4]
        exact iteT (kN0 (ez.trans (plc_none c4)) G9 s4)
      · rw [decide_eq_false c4]
        have so : ∀ o : Option Int, o ∈ [rdN x, rdN n, rdN pt] → ∃ a, o = some a := fun o ho => by
          cases o with
          | none => exact absurd ho c4
          | some a => exact ⟨a, rfl⟩
        obtain ⟨a, ea⟩ := so (rdN x) (by simp)
        obtain ⟨b, eb⟩ := so (rdN n) (by simp)
        obtain ⟨c, ec⟩ := so (rdN pt) (by simp)
        have nbc := rdN_nb ec
        rw [ea, eb, ec] at gD ez
        have gD : G9 D = some (.lst [.int a, .int b, .int c]) := gD
        refine iteF ⟨_, rfl, true, ⟨by decide +kernel, by decide +kernel⟩, iteT ⟨_, rfl, D, _, 2, .int c, rfl, rfl, SqL.of gD, rfl, _, _, rfl, rfl, _, rfl, ?_⟩⟩
        have ez : rdP z = if true = true ∧ c < 2 then none else some (a, b, c) := ez
        by_cases c2 : c < 2
        · rw [decide_eq_true c2]
          rw [if_pos ⟨rfl, c2⟩] at ez
          exact iteT (kN0 ez G9 s4)
        · rw [decide_eq_false c2]
          rw [if_neg fun q => c2 q.2] at ez
          refine iteF ?_
          refine ⟨_, rfl, D, _, 0, .int a, rfl, rfl, SqL.of gD, rfl, _, rfl, D, _, 1, .int b, rfl, rfl, SqL.of gD, rfl, _, rfl, D, _, 2, .int c, rfl, rfl, SqL.of gD, rfl, fun y dx nx ndx nex => ⟨y, dx, (a, b, c), rfl, upd_same, fun z => absurd z (by show ¬ c < 1; omega), fun _ => ⟨nb_log9 nbc, fun G5 PP keep => ⟨rfl, ?_⟩⟩⟩⟩
          exact kont _ ez y G5 (s4.trans (made_same nx ndx keep)) (Same.free s4 nx) PP
end
end OT
set_option Elab.async false
set_option linter.all false
set_option maxRecDepth 100000
set_option maxHeartbeats 4000000
namespace OT
open PySem L2 OTR
abbrev sMade : Stmt := top 51
/-- a drawn tree, with its roads' facts -/
structure TrAt (H : Hp) (p q : Addr) (n : Int) (F : List Fact) : Prop where
  t : H p = some (.tup [.int n, .ref q])
  f : FactsAt H q F
theorem FactsAt.same {H H' : Hp} {q : Addr} {F : List Fact} (h : FactsAt H q F) (s : Same H H') : FactsAt H' q F := let ⟨ts, a, b⟩ := h; ⟨ts, s _ _ a, tups_same b s⟩
theorem TrAt.same {H H' : Hp} {p q : Addr} {n : Int} {F : List Fact} (h : TrAt H p q n F) (s : Same H H') : TrAt H' p q n F := ⟨s _ _ h.t, h.f.same s⟩
theorem TrAt.but {H H' : Hp} {a p q : Addr} {n : Int} {F : List Fact} (h : TrAt H p q n F) (s : Src H a) (b : But a H H') : TrAt H' p q n F := by
  obtain ⟨hp, ts, hq, hts⟩ := h
  obtain ⟨x, y, z, _, hs⟩ := id s
  refine ⟨b _ _ hp (ne_of hp hs fun e => nomatch e), ts, b _ _ hq (ne_of hq hs fun e => ?_), tups_but hts s b⟩
  have e1 := HO.lst.inj e
  cases ts with
  | nil => exact nomatch e1
  | cons t r =>
    rw [List.map_cons] at e1
    exact nomatch (List.cons.inj e1).1
def spMade (K : PySem.W.Frag) (CT CR : Addr) : Sp := fun vs H Q _ => ∃ (p q : Addr) (n : Int) (F : List Fact), vs = [.ref p] ∧ TrAt H p q n F ∧ due n F = none ∧ F.length ≤ 23 ∧ ∀ x ps H', Same H H' → TreeAt K CT CR H' x n ps F → Q (.ref x) H'
section
variable {P : Program} {w : World} {K : PySem.W.Frag} {mg : Str → Option Value} {base : Heap}
abbrev nMade : List Str := ["_law_m", "_law_one", "_law_other", "_law_size"]
theorem scMade : FnScope nMade ["_law_m"] (defScope sMade) := ⟨rfl, rfl, rfl, by decide +kernel, rfl, by decide +kernel, by decide +kernel⟩
theorem ok_made {f fR fT CR CT CB CN CG : Addr} {fd fdR fdT : FuncData} (F : Fun K "_law_made" "_law_made" sMade f fd) (TR : RdT K mg CR) (TT : TeT K mg CT) (MR : Mk K CR fR) (MT : Mk K CT fT)
    (FR : FnOk P w K mg base CX0 1 fR fdR ["self", "a", "b", "length"] (spRoadI CR)) (bR : Binds K fdR ["self", "a", "b", "length"] [])
    (FT : FnOk P w K mg base (L2.CX P w) 5 fT fdT ["self", "crossings", "roads"] (spTreeI K CT CR CB CN CG)) (bT : Binds K fdT ["self", "crossings", "roads"] []) : FnOk P w K mg base CX0 7 f fd ["_law_m"] (spMade K CT CR) := by
  refine F.ok scMade (fun vs H Q E h => ?_) (fun cdv A outer s H vs Q E hr h => ?_)
  · obtain ⟨p, q, n, fs, rfl, _⟩ := h
    rfl
  · obtain ⟨p, q, n, fs, rfl, ⟨hp, ts, hq, hts⟩, hd, l23, k⟩ := h
    have hr2 : Room 2 _ := hr.mono (by decide)
    refine ⟨_, pss_one (ps_ret (pe_make MT FT hr (by rfl) TT.mgC bT .nil passF (pa_cons (pe_ix ix_tup (pv 0) pe_int (fun _ _ => rfl)) (pa_cons
      (pe_lc (own := [("_law_one", 1), ("_law_other", 2), ("_law_size", 3)]) (g := gTup K 3 (gCons (gName 1) (gCons (gName 2) (gCons (gName 3) gNil)))) (tt := tYes) rfl scMade.nd (pi_list (pe_ix ix_tup (pv 0) pe_int (fun _ _ => rfl)))
          (blkOk_by (own := [("_law_one", 1), ("_law_other", 2), ("_law_size", 3)]) (N := nMade) (sc := defScope sMade) (by decide +kernel))
          (fun _ _ _ _ _ => pg_tup rfl (pgs_cons (pg_name (i := 1) scMade.nd rfl (Or.inl rfl)) (pgs_cons (pg_name (i := 2) scMade.nd rfl (Or.inl rfl)) (pgs_cons (pg_name (i := 3) scMade.nd rfl (Or.inl rfl)) pgs_nil)))) (fun _ _ _ _ _ => pts_nil)
          (fun _ _ _ _ _ => pe_make MR FR hr2 (by rfl) TR.mgC bR .nil pass0 (pa_cons (pv 1) (pa_cons (pv 2) (pa_cons (pv 3) pa_nil))))) pa_nil)))), ?_⟩
    refine ⟨_, rfl, p, _, _, _, rfl, rfl, SqT.of hp, rfl, _, rfl, p, _, _, _, rfl, rfl, SqT.of hp, rfl, q, rfl, ⟨_, SqL.of hq⟩, fun D hD => lc_roads hq hts hD (by omega) (fun _ _ _ => ⟨rfl, rfl, rfl, rfl⟩) fun G1 ps gD s1 rd => ?_⟩
    refine fun x dx nx ndx nex => ⟨x, dx, D, n, ps, fs, G1, rfl, upd_same, nx, fun b o e => ?_, .inl (SqL.of gD), rd, by omega, no_err hd, fun _ G2 T1 s2 => ⟨rfl, ?_⟩⟩
    · rw [upd_ne (ne_of_none e nx), upd_ne (ne_of_none e ndx)]
      exact e
    exact k x ps G2 (s1.trans s2) T1
end
end OT
set_option Elab.async false
set_option linter.all false
set_option maxRecDepth 100000
set_option maxHeartbeats 4000000
namespace OT
open PySem L2 OTR
/-- a drawn march (road, distance, steps) -/
structure MrOk (F : List Fact) (far : Int) (r : Fact) : Prop where
  rd : RdIn F r.1
  lo : 0 ≤ r.2.1
  hi : r.2.1 ≤ (OT.rd F r.1.toNat).2.2
  s1 : 1 ≤ r.2.2
  s2 : r.2.2 ≤ 2 ∨ r.2.2 ≤ far
theorem Src.fresh {s p : Addr} {H G : Hp} (b : But s H G) (sg : Src G s) (hp : G p = none) : H p = none := by
  cases e : H p with
  | none => rfl
  | some o =>
    have z := b p o e (sg.new hp)
    rw [hp] at z
    cases z
def spMarches : Sp := fun vs H Q _ => ∃ (s p q : Addr) (n most far : Int) (F : List Fact), vs = [.ref s, .ref p, .int most, .int far] ∧ Src H s ∧ TrAt H p q n F ∧ 0 < F.length ∧ F.length ≤ 23 ∧ (∀ r ∈ F, 1 ≤ r.2.2 ∧ r.2.2 ≤ 1000000000) ∧
  0 ≤ most ∧ most ≤ 100 ∧ 1 ≤ far ∧ far ≤ 1000000000 ∧ ∀ q' fs H', H q' = none → FactsAt H' q' fs → (∀ r ∈ fs, MrOk F far r) → (fs.length : Int) ≤ most → Src H' s → But s H H' → Q (.ref q') H'
end OT
set_option Elab.async false
set_option linter.all false
set_option maxRecDepth 100000
set_option maxHeartbeats 4000000
namespace OT
open PySem L2 OTR
/-- a march: the road of its goal, the distance, the steps -/
abbrev MG := Nat × Int × Int
structure MgOk (F : List Fact) (x : MG) : Prop where
  rd : x.1 < F.length
  lo : 0 ≤ x.2.1
  hi : x.2.1 ≤ (OT.rd F x.1).2.2
  s1 : 1 ≤ x.2.2
  s2 : x.2.2 ≤ 1000000000
def mf (x : MG) : MFact := (((x.1 : Nat) : Int), x.2.1, 1, x.2.2)
theorem low_mf (x : MG) : low (mPl (mf x)) = (((x.1 : Nat) : Int), x.2.1, 1) := low_one _ _
/-- a drawn march, as a march -/
def mg3 (r : Fact) : MG := (r.1.toNat, r.2.1, r.2.2)
theorem MrOk.mg {F : List Fact} {far : Int} {r : Fact} (h : MrOk F far r) (hf : far ≤ 1000000000) : MgOk F (mg3 r) :=
  ⟨by show r.1.toNat < F.length; have := h.rd.1; have := h.rd.2; omega, h.lo, h.hi, h.s1, by show r.2.2 ≤ _; rcases h.s2 with z | z <;> omega⟩
theorem MarchAt.kp {C : Addr} {H H' : Hp} {p g : Addr} {n : Int} (h : MarchAt C H p g n) (k : Kp H H') : MarchAt C H' p g n := let ⟨dx, e⟩ := h; ⟨dx, k _ _ e fun _ z => nomatch z⟩
theorem MaAt.kp {CM CP : Addr} {H H' : Hp} {p : Addr} {m : MFact} (h : MaAt CM CP H p m) (k : Kp H H') : MaAt CM CP H' p m := let ⟨g, a, b⟩ := h; ⟨g, a.kp k, b.kp k⟩
theorem MasAt.kp {CM CP : Addr} {H H' : Hp} {ps : List Addr} {l : List MFact} (h : MasAt CM CP H ps l) (k : Kp H H') : MasAt CM CP H' ps l := Paired.mapP h fun _ _ a => a.kp k
theorem RowAt.kp {K : PySem.W.Frag} {CW : Addr} {H H' : Hp} {p a : Addr} {ms : List Addr} (h : RowAt K CW H p a ms) (k : Kp H H') : RowAt K CW H' p a ms := let ⟨dx, t, e, u⟩ := h; ⟨dx, t, k _ _ e (fun _ z => nomatch z), sqT_kp u k⟩
end OT
set_option Elab.async false
set_option linter.all false
set_option maxRecDepth 100000
set_option maxHeartbeats 4000000
namespace OT
open PySem L2 OTR
abbrev sMarches : Stmt := top 52
section
variable {P : Program} {w : World} {K : PySem.W.Frag} {mg : Str → Option Value} {base : Heap}
abbrev nMarches : List Str := ["_law_source_here", "_law_m", "_law_most", "_law_far_most", "_law_found", "_law_k", "_law_at", "_law_spot"]
theorem scMarches : FnScope nMarches ["_law_source_here", "_law_m", "_law_most", "_law_far_most"] (defScope sMarches) := ⟨rfl, rfl, rfl, by decide +kernel, rfl, by decide +kernel, by decide +kernel⟩
theorem ok_marches {f fD fP : Addr} {fd fdD fdP : FuncData} (F : Fun K "_law_marches" "_law_marches" sMarches f fd)
    (FD : FnOk P w K mg base CX0 1 fD fdD ["_law_source_here", "_law_many"] spDraw) (bD : Binds K fdD ["_law_source_here", "_law_many"] []) (mD : mg "_law_draw" = some (.ref fD)) (kD : PySem.W.keepIn K (.ref fD) = true)
    (FP : FnOk P w K mg base CX0 2 fP fdP ["_law_source_here", "_law_some"] (spPick K)) (bP : Binds K fdP ["_law_source_here", "_law_some"] []) (mP : mg "_law_pick" = some (.ref fP)) (kP : PySem.W.keepIn K (.ref fP) = true)
    (hLen : mg "len" = none) (hRg : mg "range" = none) : FnOk P w K mg base CX0 3 f fd ["_law_source_here", "_law_m", "_law_most", "_law_far_most"] spMarches := by
  refine F.ok scMarches (fun vs H Q E h => ?_) (fun cdv A outer s H vs Q E hr h => ?_)
  · obtain ⟨a, p, q, n, most, far, fs, rfl, _⟩ := h
    rfl
  · obtain ⟨s, p, q, n, most, far, fs, rfl, hs, tr, f0, f23, big, m0, m100, l1, l9, kont⟩ := h
    have hr1 : Room 1 _ := hr.mono (by decide)
    refine ⟨_, pss_cons (ps_set (i := 4) scMarches.nd rfl (Or.inl rfl) (pe_lst pa_nil))
      (pss_cons (ps_for PassesOwn.never rfl (pi_range1 (by rfl) hRg (pa_cons (pe_call FD hr1 rfl mD kD bD .nil pass0 (pa_cons (pv 0) (pa_cons (pe_op op_add (pv 2) pe_int) pa_nil))) pa_nil)) (pg_name (i := 5) scMarches.nd rfl (Or.inl rfl))
        (pss_cons (ps_set (i := 6) scMarches.nd rfl (Or.inl rfl) (pe_call FD hr1 rfl mD kD bD .nil pass0 (pa_cons (pv 0) (pa_cons (pe_callB call_len (by rfl) hLen (by decide +kernel) (pa_cons (pe_ix ix_tup (pv 1) pe_int (fun _ _ => rfl)) pa_nil)) pa_nil))))
        (pss_cons (ps_set (i := 7) scMarches.nd rfl (Or.inl rfl) (pe_call FP hr rfl mP kP bP .nil pass0 (pa_cons (pv 0) (pa_cons
            (pe_lst (pa_cons pe_int (pa_cons (pe_ix ix_tup (pe_ix ix_list (pe_ix ix_tup (pv 1) pe_int (fun _ _ => rfl)) (pv 6) (fun _ _ => rfl)) pe_int (fun _ _ => rfl))
              (pa_cons (pe_call FD hr1 rfl mD kD bD .nil pass0 (pa_cons (pv 0) (pa_cons (pe_op op_add (pe_ix ix_tup (pe_ix ix_list (pe_ix ix_tup (pv 1) pe_int (fun _ _ => rfl)) (pv 6) (fun _ _ => rfl)) pe_int (fun _ _ => rfl)) pe_int) pa_nil))) pa_nil)))) pa_nil))))
        (pss_one (ps_expr (pe_bm PySem.F.plainAttrs_list PySem.F.slot_list_append PySem.F.type_list_append mt_append (pv 4)
            (pa_cons (pe_tup (pa_cons (pv 6) (pa_cons (pv 7) (pa_cons (pe_call FP hr rfl mP kP bP .nil pass0 (pa_cons (pv 0) (pa_cons
              (pe_lst (pa_cons pe_int (pa_cons pe_int (pa_cons (pe_op op_add pe_int (pe_call FD hr1 rfl mD kD bD .nil pass0 (pa_cons (pv 0) (pa_cons (pv 3) pa_nil)))) pa_nil)))) pa_nil))) pa_nil)))) pa_nil)))))))
      (pss_one (ps_ret (pv 4)))), ?_⟩
    -- found = []
    refine ⟨Nat.zero_le _, fun pf hpf => ?_⟩
    have npf : pf ≠ s := hs.new hpf
    have hs1 : Src (upd H pf (.lst [])) s := hs.same (Same.new hpf)
    -- for k in range(draw(source, most + 1))
    refine ⟨_, rfl, _, rfl, _, _, rfl, rfl, s, _, rfl, hs1, by omega, by omega, fun c H1 c0 c1 src1 b1 => ⟨c, rfl, by omega, by omega, ?_⟩⟩
    refine for_range (lo := 0) (n := c.toNat) (fun i σ G => ∃ (v5 v6 v7 : Option V) (ts : List Addr) (gs : List Fact), σ = [some (.ref s), some (.ref p), some (.int most), some (.int far), some (.ref pf), v5, v6, v7] ∧
        Src G s ∧ But s H G ∧ G pf = some (.lst (ts.map V.ref)) ∧ Paired (TupAt G) ts gs ∧ (∀ r ∈ gs, MrOk fs far r) ∧ gs.length = i)
      ⟨none, none, none, [], [], rfl, src1, fun b o e nb => b1 b o (Same.new hpf b o e) nb, b1 _ _ upd_same npf, .nil, fun r z => (by cases z), rfl⟩ ?_ ?_
    · rintro i σ G hi ⟨v5, v6, v7, ts, gs, rfl, sg, bg, gpf, gts, ok, gl⟩
      have trG : TrAt G p q n fs := tr.but hs bg
      have tsl : ts.length ≤ 1000 := by
        have := Paired.length gts
        omega
      obtain ⟨hp, ts0, hq, hts⟩ := id trG
      have tl : (ts0.map V.ref).length = fs.length := by rw [List.length_map]; exact Paired.length hts
      -- at = draw(source, len(m[1]))
      refine ⟨_, rfl, _, rfl, p, _, _, _, rfl, rfl, SqT.of hp, rfl, _, _, rfl, .inl ⟨_, SqL.of hq, rfl⟩, s, _, rfl, sg, by rw [tl]; omega, by rw [tl]; omega, fun r G1 r0 r1 sg1 bg1 => ?_⟩
      rw [tl] at r1
      obtain ⟨k, rfl⟩ : ∃ k : Nat, r = (k : Int) := ⟨r.toNat, by omega⟩
      have hk : k < fs.length := by omega
      have b01 : But s H G1 := fun b o e nb => bg1 b o (bg b o e nb) nb
      obtain ⟨hp1, ts1, hq1, hts1⟩ := tr.but hs b01
      have lt1 : k < ts1.length := by rw [Paired.length hts1]; exact hk
      obtain ⟨r, hr', trr⟩ := paired_get hts1 (List.getElem?_eq_getElem lt1)
      have er : rd fs k = r := rd_of hr'
      obtain ⟨bg1', bg2'⟩ := big _ (List.mem_of_getElem? hr')
      have ixk : atI (ts1.map V.ref) (k : Int) = some (V.ref ts1[k]) := atI_nat (by rw [List.getElem?_map, List.getElem?_eq_getElem lt1]; rfl)
      -- spot = pick(source, [0, m[1][at][2], draw(source, m[1][at][2] + 1)])
      refine ⟨_, rfl, _, rfl, p, _, _, _, rfl, rfl, SqT.of hp1, rfl, _, rfl, q, _, _, .ref ts1[k], rfl, rfl, SqL.of hq1, ixk, _, _, _, _, rfl, rfl, SqT.of trr, rfl, ?_⟩
      refine ⟨_, rfl, _, rfl, p, _, _, _, rfl, rfl, SqT.of hp1, rfl, _, rfl, q, _, _, .ref ts1[k], rfl, rfl, SqL.of hq1, ixk, _, _, _, _, rfl, rfl, SqT.of trr, rfl, _, _, rfl, rfl, s, _, rfl, sg1, by omega, by omega, fun d G2 d0 d1 sg2 bg2 => ?_⟩
      refine ⟨(by show 3 ≤ sizeLine; decide), fun pl hpl => ?_⟩
      have sg2' := sg2.same (Same.new (o := .lst [.int 0, .int r.2.2, .int d]) hpl)
      refine ⟨s, pl, _, rfl, sg2', sg2.new hpl, SqL.of upd_same, (by show 0 < 3; decide), (by show 3 < 1000000; decide), fun v G3 hv sg3 bg3 => ?_⟩
      obtain ⟨x, rfl, x0, x1⟩ : ∃ x : Int, v = V.int x ∧ 0 ≤ x ∧ x ≤ r.2.2 := by
        rcases List.mem_cons.mp hv with rfl | hv
        · exact ⟨0, rfl, by omega, by omega⟩
        · rcases List.mem_cons.mp hv with rfl | hv
          · exact ⟨_, rfl, by omega, by omega⟩
          · rw [List.mem_singleton.mp hv]
            exact ⟨_, rfl, by omega, by omega⟩
      have b13 : But s G1 G3 := fun b o e nb => bg3 b o (Same.new hpl b o (bg2 b o e nb)) nb
      have b3 : But s G G3 := fun b o e nb => b13 b o (bg1 b o e nb) nb
      have gpf3 := b3 _ _ gpf npf
      -- found.append((at, spot, pick(source, [1, 2, 1 + draw(source, far)])))
      refine ⟨_, rfl, .inl ⟨rfl, _, SqL.of gpf3⟩, ?_⟩
      refine ⟨_, rfl, _, rfl, _, rfl, _, rfl, _, rfl, s, far, rfl, sg3, by omega, by omega, fun d G5 d0 d1 sg5 bg5 => ⟨_, _, rfl, rfl, (by show 3 ≤ sizeLine; decide), fun pl2 hpl2 => ?_⟩⟩
      have s5 : Same G5 (upd G5 pl2 (.lst [.int 1, .int 2, .int (1 + d)])) := Same.new hpl2
      refine ⟨s, pl2, _, rfl, sg5.same s5, sg5.new hpl2, SqL.of upd_same, (by show 0 < 3; decide), (by show 3 < 1000000; decide), fun v G6 hv sg6 bg6 => ?_⟩
      obtain ⟨z, rfl, z1, z2⟩ : ∃ z : Int, v = V.int z ∧ 1 ≤ z ∧ (z ≤ 2 ∨ z ≤ far) := by
        rcases List.mem_cons.mp hv with rfl | hv
        · exact ⟨1, rfl, by decide, .inl (by decide)⟩
        · rcases List.mem_cons.mp hv with rfl | hv
          · exact ⟨2, rfl, by decide, .inl (by decide)⟩
          · rw [List.mem_singleton.mp hv]
            exact ⟨1 + d, rfl, by omega, .inr (by omega)⟩
      have b36 : But s G3 G6 := fun b o e nb => bg6 b o (s5 b o (bg5 b o e nb)) nb
      have b06 : But s G G6 := fun b o e nb => b36 b o (b3 b o e nb) nb
      have gpf6 := b06 _ _ gpf npf
      have gts6 := tups_but gts sg b06
      refine ⟨(by show 3 ≤ sizeLine; decide), fun pt hpt => ?_⟩
      have s6 : Same G6 (upd G6 pt (.tup [.int (k : Int), .int x, .int z])) := Same.new hpt
      refine ⟨pf, ts.map V.ref, .ref pt, rfl, rfl, s6 _ _ gpf6, small1000 (by rw [List.length_map]; omega), ?_⟩
      have nft : pt ≠ pf := (ne_of_none gpf6 hpt).symm
      have bH6 : But s H G6 := fun b o e nb => b06 b o (bg b o e nb) nb
      refine ⟨_, _, _, ts ++ [pt], gs ++ [((k : Int), x, z)], rfl, (sg6.same s6).upd npf, (bH6.put (Src.fresh bH6 sg6 hpt)).put hpf, by rw [List.map_append]; exact upd_same, paired_snoc (tups_put (tups_same gts6 s6) (s6 _ _ gpf6)) ?_, fun r' hr2 => ?_, by rw [List.length_append, gl]; rfl⟩
      · show upd _ pf _ pt = _
        rw [upd_ne nft]
        exact upd_same
      · rcases List.mem_append.mp hr2 with h | h
        · exact ok r' h
        · rw [List.mem_singleton.mp h]
          exact ⟨⟨by omega, by show (k : Int) < _; omega⟩, x0, by show x ≤ (rd fs ((k : Int)).toNat).2.2; rw [Int.toNat_natCast, er]; exact x1, z1, z2⟩
    · rintro σ G ⟨v5, v6, v7, ts, gs, rfl, sg, bg, gpf, gts, ok, gl⟩
      exact ⟨_, rfl, kont pf gs G hpf ⟨ts, gpf, gts⟩ ok (by omega) sg bg⟩
end
end OT
set_option Elab.async false
set_option linter.all false
set_option maxRecDepth 100000
set_option maxHeartbeats 4000000
set_option Elab.async false
set_option linter.all false
set_option maxRecDepth 100000
set_option maxHeartbeats 4000000
namespace OT
open PySem L2 OTR
theorem Drawn.treeG {most long n : Int} {fs : List Fact} (d : Drawn most long n fs) (h24 : most ≤ 24) (hl : long ≤ 1000000000) : TreeG n fs :=
  ⟨⟨fun r hr => let ⟨a, b, c, _⟩ := d.ok r hr; ⟨a, b, c⟩, d.nr, d.con⟩, fun r hr => by
    obtain ⟨_, _, _, z⟩ := d.ok r hr
    omega, d.lo, by have := d.hi; omega, d.len⟩
/-- a list is written: what else stands -/
theorem TrAt.put {H : Hp} {D p q : Addr} {n : Int} {F : List Fact} {xs ys : List V} (h : TrAt H p q n F) (hD : H D = some (.lst xs)) (nq : q ≠ D) : TrAt (upd H D (.lst ys)) p q n F := by
  obtain ⟨hp, ts, hq, hts⟩ := h
  exact ⟨by rw [upd_ne (ne_of hp hD (fun z => nomatch z))]; exact hp, ts, by rw [upd_ne nq]; exact hq, tups_put hts hD⟩
theorem TreeAt.but {K : PySem.W.Frag} {CT CR : Addr} {H H' : Hp} {s p : Addr} {n : Int} {ps : List Addr} {F : List Fact} (h : TreeAt K CT CR H p n ps F) (src : Src H s) (b : But s H H') : TreeAt K CT CR H' p n ps F := h.kp (.src src b)
end OT
set_option Elab.async false
set_option linter.all false
set_option maxRecDepth 100000
set_option maxHeartbeats 2000000
namespace OTR
open PySem PySem.Spec PyProof.Rows L2
open AutoSeq1 (wpAny_loadPart')
open MeetsSeq MeetsSeq2 MeetsSeq3 SeqRoads2 SeqAt
def RFlat : Rdg := fun x y H Q => x = y ∧ flatB x = true ∧ Q true H
section
variable {X : Cx} {n : Nat} {R R' : Rdg}
theorem eqB_flat : EqB X n RFlat := fun A pn t σ H x y u v Q sb I rx ry h => by
  obtain ⟨rfl, f, q⟩ := h
  exact eqAt_same rx ry f X.prog X.w X.xe _ ⟨H, I, q⟩
theorem EqB.or (h : EqB X n R) (h' : EqB X n R') : EqB X n (fun x y H Q => R x y H Q ∨ R' x y H Q) := fun A pn t σ H x y u v Q sb I rx ry d => by
  rcases d with d | d
  · exact h A pn t σ H x y u v Q sb I rx ry d
  · exact h' A pn t σ H x y u v Q sb I rx ry d
end
/-- the lists at a and b hold all; what is left of them is compared -/
def lsAll (R : Rdg) (a b : Addr) (xa ya : List V) : List V → List V → Hp → (Bool → Hp → Prop) → Prop
  | x :: xs, y :: ys, H, Q => (H a = some (.lst xa) ∧ H b = some (.lst ya)) ∧ R x y H fun r H' => if r = true then lsAll R a b xa ya xs ys H' Q else (H' a = some (.lst xa) ∧ H' b = some (.lst ya)) ∧ Q false H'
  | _, _, H, Q => (H a = some (.lst xa) ∧ H b = some (.lst ya)) ∧ Q true H
theorem lsAll.at_ {R : Rdg} {a b : Addr} {xa ya xs ys : List V} {H : Hp} {Q : Bool → Hp → Prop} (h : lsAll R a b xa ya xs ys H Q) : H a = some (.lst xa) ∧ H b = some (.lst ya) := by
  cases xs <;> cases ys <;> exact h.1
section
variable {X : Cx} {n : Nat} {R : Rdg} {a b : Addr} {xa ya : List V} {Q : Bool → Hp → Prop} {pn : List (Addr × Obj)} {σ : L2.St} {A : Around}
theorem ls_loop (eq : EqB X n R) (sb : Sub X (n + 1) A) (hl : xa.length = ya.length) : ∀ (xs ys : List V) (i : Nat) (H : Hp) (t : Shared), xs = xa.drop i → ys = ya.drop i → i + xs.length = xa.length → Inv X pn σ H t → lsAll R a b xa ya xs ys H Q →
    wpAny (model X.prog X.w) A.in1 (Builtin.«list.__eq__.loop» ⟨[.ref a, .ref b, rawInt i, rawInt 2], []⟩) (GQ.FinOf X.prog X.w A (wants (toldB X pn σ Q) X.xe)) (fun e t' => wants (toldB X pn σ Q) X.xe (.error e) t') t := by
  intro xs
  induction xs with
  | nil =>
    intro ys i H t hx hy hi I h
    obtain ⟨ha, hb⟩ := h.at_
    obtain ⟨_, its, k, rv, e⟩ := (show ObjOk X.prog X.w H t.heap a (.lst xa) from I.hok a _ ha)
    obtain ⟨_, its2, k2, rv2, e2⟩ := (show ObjOk X.prog X.w H t.heap b (.lst ya) from I.hok b _ hb)
    have q : Q true H := by cases ys <;> exact h.2
    have fin : wants (toldB X pn σ Q) X.xe (.ok (.ret (.bool true))) t := ⟨true, H, rfl, I, q⟩
    have l1 := rv.length
    have l2 := rv2.length
    have n1 : its.toArray[((i : Nat) : Int).toNat]? = none := by
      simp at hi
      simp
      omega
    have n2 : its2.toArray[((i : Nat) : Int).toNat]? = none := by
      simp at hi
      simp
      omega
    have sz : (its.toArray.size == its2.toArray.size) = true := by
      simp
      omega
    obtain ⟨hp, g, d, tk, os⟩ := t
    wp_walk using wpAny_loadPart' e, wpAny_loadPart' e2
    rw [n1, n2]
    wp_walk using wpAny_loadPart' e, wpAny_loadPart' e2
    show wants (toldB X pn σ Q) X.xe (.ok (.ret (.bool (its.toArray.size == its2.toArray.size)))) _
    rw [sz]
    exact fin
  | cons x xs ih =>
    intro ys i H t hx hy hi I h
    obtain ⟨ha, hb⟩ := h.at_
    obtain ⟨_, its, k, rv, e⟩ := (show ObjOk X.prog X.w H t.heap a (.lst xa) from I.hok a _ ha)
    obtain ⟨_, its2, k2, rv2, e2⟩ := (show ObjOk X.prog X.w H t.heap b (.lst ya) from I.hok b _ hb)
    have lt : i < xa.length := by
      rw [List.length_cons] at hi
      omega
    have lt2 : i < ya.length := by omega
    have hx2 := hx
    rw [List.drop_eq_getElem_cons lt] at hx2
    injection hx2 with ex etx
    have hy2 := hy
    rw [List.drop_eq_getElem_cons lt2] at hy2
    subst hy2
    obtain ⟨v, hv, r1⟩ := rv.get (List.getElem?_eq_getElem lt)
    obtain ⟨v2, hv2, r2⟩ := rv2.get (List.getElem?_eq_getElem lt2)
    rw [← ex] at r1
    have one : its.toArray[((i : Nat) : Int).toNat]? = some v := by simpa using hv
    have two : its2.toArray[((i : Nat) : Int).toNat]? = some v2 := by simpa using hv2
    have step := eq A.in1 pn t σ H x _ v v2 _ sb.in1 I r1 r2 h.2
    obtain ⟨hp, g, d, tk, os⟩ := t
    wp_walk using wpAny_loadPart' e, wpAny_loadPart' e2
    rw [one, two]
    refine wpAny_bind (wpAny_mono step (fun r t2 q => ?_) fun _ _ z => z)
    obtain ⟨H2, I2, q⟩ := q
    cases r with
    | true =>
      have more := ih (ya.drop (i + 1)) (i + 1) H2 t2 etx rfl (by rw [List.length_cons] at hi; omega) I2 q
      have nx : ((i : Int) + 1) = ((i + 1 : Nat) : Int) := by omega
      obtain ⟨hp2, g2, d2, tk2, os2⟩ := t2
      wp_walk
      rw [nx]
      exact ⟨plainId_quiet plain_eq_loop _, codeAny_builtin entry_eq_loop (by
        rw [Around.under_plainId plain_eq_loop _]
        exact more)⟩
    | false =>
      obtain ⟨⟨ha2, hb2⟩, q⟩ := (show (H2 a = some (.lst xa) ∧ H2 b = some (.lst ya)) ∧ Q false H2 from q)
      have fin : wants (toldB X pn σ Q) X.xe (.ok (.ret (.bool false))) t2 := ⟨false, H2, rfl, I2, q⟩
      obtain ⟨_, its3, k3, rv3, e3⟩ := (show ObjOk X.prog X.w H2 t2.heap a (.lst xa) from I2.hok a _ ha2)
      obtain ⟨_, its4, k4, rv4, e4⟩ := (show ObjOk X.prog X.w H2 t2.heap b (.lst ya) from I2.hok b _ hb2)
      obtain ⟨v3, hv3, _⟩ := rv3.get (List.getElem?_eq_getElem lt)
      obtain ⟨v4, hv4, _⟩ := rv4.get (List.getElem?_eq_getElem lt2)
      have three : its3.toArray[((i : Nat) : Int).toNat]? = some v3 := by simpa using hv3
      have four : its4.toArray[((i : Nat) : Int).toNat]? = some v4 := by simpa using hv4
      obtain ⟨hp2, g2, d2, tk2, os2⟩ := t2
      wp_walk using wpAny_loadPart' e3, wpAny_loadPart' e4
      rw [three, four]
      wp_walk
      exact fin
/-- xs == ys of two lists -/
def RLst (R : Rdg) : Rdg := fun x y H Q => ∃ (a b : Addr) (xs ys : List V), x = .ref a ∧ y = .ref b ∧ H a = some (.lst xs) ∧ H b = some (.lst ys) ∧ (xs.length ≠ ys.length → Q false H) ∧ (xs.length = ys.length → lsAll R a b xs ys xs ys H Q)
theorem ls_call {H : Hp} {t : Shared} (eq : EqB X n R) (sb : Sub X (n + 1) A) (I : Inv X pn σ H t) (ha : H a = some (.lst xa)) (hb : H b = some (.lst ya)) (h1 : xa.length ≠ ya.length → Q false H) (h2 : xa.length = ya.length → lsAll R a b xa ya xa ya H Q) :
    wpAny (model X.prog X.w) A (call (.builtin "list.__eq__") [.ref a, .ref b]) (toldB X pn σ Q) X.xe t := by
  obtain ⟨_, its, k, rv, e⟩ := (show ObjOk X.prog X.w H t.heap a (.lst xa) from I.hok a _ ha)
  obtain ⟨_, its2, k2, rv2, e2⟩ := (show ObjOk X.prog X.w H t.heap b (.lst ya) from I.hok b _ hb)
  have l1 := rv.length
  have l2 := rv2.length
  have f3 := AutoSeq1.sub_list_list
  refine GQ.call_here F.slot_list_eq ⟨_, e, rfl⟩ F.entry_list_eq (F.args_list_eq_2 _ _) ?_
  by_cases hl : xa.length = ya.length
  · have go := ls_loop (A := A) (a := a) (b := b) eq sb hl xa ya 0 H t rfl rfl (by simp) I (h2 hl)
    have hne : ¬ (its.toArray.size != its2.toArray.size) = true := by
      simp
      omega
    obtain ⟨hp, g, d, tk, os⟩ := t
    wp_walk using wpAny_loadPart' e, wpAny_loadPart' e2
    rw [if_neg hne]
    wp_walk
    exact ⟨plainId_quiet plain_eq_loop _, codeAny_builtin entry_eq_loop (by
      rw [Around.under_plainId plain_eq_loop _]
      exact go)⟩
  · have hne : (its.toArray.size != its2.toArray.size) = true := by
      simp
      omega
    have fin : wants (toldB X pn σ Q) X.xe (.ok (.ret (.bool false))) t := ⟨false, H, rfl, I, h1 hl⟩
    obtain ⟨hp, g, d, tk, os⟩ := t
    wp_walk using wpAny_loadPart' e, wpAny_loadPart' e2
    rw [if_pos hne]
    wp_walk
    exact fin
theorem rcB_lst (eq : EqB X n R) : RcB X (n + 1) .Eq (RLst R) := by
  intro A pn t σ H x y u v Q sb I rx ry h
  obtain ⟨a, b, xs, ys, rfl, rfl, ha, hb, h1, h2⟩ := h
  cases (show u = Value.ref a from rx)
  cases (show v = Value.ref b from ry)
  obtain ⟨_, its, k, rv, e⟩ := (show ObjOk X.prog X.w H t.heap a (.lst xs) from I.hok a _ ha)
  obtain ⟨_, its2, k2, rv2, e2⟩ := (show ObjOk X.prog X.w H t.heap b (.lst ys) from I.hok b _ hb)
  refine wpAny_richCompare_same_room (op := .Eq) (T := "list") ⟨_, e, rfl⟩ ⟨_, e2, rfl⟩ F.slot_list_eq (wpAny_mono (ls_call eq sb I ha hb h1 h2) (fun r t' q => ?_) fun _ _ z => z) sb.room.units0
  obtain ⟨r', H', rfl, I', q⟩ := q
  exact ⟨(fun z => nomatch z), r', H', rfl, I', q⟩
end
end OTR
set_option Elab.async false
set_option linter.all false
set_option maxRecDepth 100000
set_option maxHeartbeats 4000000
namespace OTR
open PySem PySem.Spec PyProof.Rows L2
/-- a key: an int, or a tuple of ints and texts -/
abbrev MKy := Int ⊕ List Key
section
variable {P : Program} {w : World}
def mHash (P : Program) (w : World) : MKy → Int
  | .inl i => (mixKind P w).hash (.inl i)
  | .inr ks => (tupleKind (mixKind P w)).hash ks
variable {A : Around} {E : Value → Shared → Prop} {s : Shared}
/-- an entry of the dict: its key's hash, its key, its value -/
def EntR (P : Program) (w : World) (x : MKy × V × V) (e : DictEntry) : Prop := e.hash = mHash P w x.1 ∧ RelV x.2.1 e.key ∧ RelV x.2.2 e.val
/-- what stands at d: a dict with these entries -/
def DictM (P : Program) (w : World) (d : Addr) (ent : List (MKy × V × V)) (h : Heap) : Prop := ∃ o es ep, h.get? d = some o ∧ o.ExactDict ∧ o.data = .dict es ep ∧ Paired (EntR P w) ent es.toList
def KeyM (H : Hp) : MKy → V → Prop
  | .inl i, y => y = .int i
  | .inr ks, y => ∃ b, y = .ref b ∧ H b = some (.tup (ks.map kV))
/-- a dict whose keys are ints and tuples of ints and texts -/
def MixAt (P : Program) (w : World) (H : Hp) (d : Addr) (kvs : List (MKy × V)) : Prop := ∃ ent : List (MKy × V × V), H d = some (.ext (DictM P w d ent)) ∧ (d == sysModules) = false ∧ ent.length ≤ sizeLine ∧ ent.map (fun x => (x.1, x.2.2)) = kvs ∧
  (∀ x ∈ ent, KeyM H x.1 x.2.1) ∧ (ent.map (·.1)).Nodup
theorem KeyM.keep {H H' : Hp} {k : MKy} {y : V} (x : KeyM H k y) (t : ∀ b xs, H b = some (.tup xs) → H' b = some (.tup xs)) : KeyM H' k y := by
  cases k with
  | inl i => exact x
  | inr ks =>
    obtain ⟨b, e, h⟩ := x
    exact ⟨b, e, t b _ h⟩
theorem MixAt.keep {H H' : Hp} {d : Addr} {kvs : List (MKy × V)} (x : MixAt P w H d kvs) (hd : ∀ o, H d = some o → H' d = some o) (t : ∀ b xs, H b = some (.tup xs) → H' b = some (.tup xs)) : MixAt P w H' d kvs :=
  let ⟨ent, e, a, b, c, f, g⟩ := x
  ⟨ent, hd _ e, a, b, c, fun y hy => (f y hy).keep t, g⟩
end
end OTR
set_option Elab.async false
set_option linter.all false
set_option maxRecDepth 100000
set_option maxHeartbeats 4000000
namespace OTR
open PySem PySem.Spec PyProof.Rows L2
end OTR
set_option Elab.async false
set_option linter.all false
set_option maxRecDepth 100000
set_option maxHeartbeats 4000000
namespace OTR
open PySem PySem.Spec PyProof.Rows L2
end OTR
set_option Elab.async false
set_option linter.all false
set_option maxRecDepth 100000
set_option maxHeartbeats 4000000
namespace OT
open PySem L2 OTR
/-- the key of a node -/
def nk : Nd → MKy
  | .cr c => .inl c
  | .mid k i => .inr [.inl (k : Int), .inl i]
end OT
set_option linter.all false
set_option Elab.async false
set_option linter.all false
set_option maxRecDepth 100000
set_option maxHeartbeats 4000000
set_option Elab.async false
set_option linter.all false
set_option maxRecDepth 100000
set_option maxHeartbeats 4000000
namespace OT
open PySem L2 OTR
abbrev sMarchE : Stmt := inClass (top 29) 1
abbrev sKeyed : Stmt := top 32
abbrev sRowE : Stmt := inClass (top 30) 1
/-- a march as it counts: the key of its goal, its steps -/
def kOf (F : List Fact) (x : MG) : Fact × Int := (keyF F 1 (node F 1 x.1 x.2.1), x.2.2)
def rowK (F : List Fact) (xs : List MG) : List (Fact × Int) := xs.map (kOf F)
def MkAt (CM CP : Addr) (H : Hp) (p : Addr) (z : Fact × Int) : Prop := ∃ g, MarchAt CM H p g z.2 ∧ PlaceAt CP H g z.1
theorem MkAt.same {CM CP : Addr} {H H' : Hp} {p : Addr} {z : Fact × Int} (h : MkAt CM CP H p z) (s : Same H H') : MkAt CM CP H' p z := let ⟨g, a, b⟩ := h; ⟨g, a.same s, b.same s⟩
theorem plF_inj {r r' : Fact} (h : plF r = plF r') : r = r' := by
  unfold plF at h
  simp only [List.cons.injEq, Prod.mk.injEq, V.int.injEq, true_and, and_true] at h
  exact Prod.ext h.1 (Prod.ext h.2.1 h.2.2)
theorem PlaceAt.inj {C : Addr} {H : Hp} {p : Addr} {r r' : Fact} (h : PlaceAt C H p r) (k : PlaceAt C H p r') : r = r' := by
  obtain ⟨dx, e⟩ := h
  obtain ⟨dy, e'⟩ := k
  rw [e] at e'
  injection e' with e'
  injection e' with _ _ e'
  exact plF_inj e'
theorem MarchAt.inj {C : Addr} {H : Hp} {p g g' : Addr} {n n' : Int} (h : MarchAt C H p g n) (k : MarchAt C H p g' n') : g = g' ∧ n = n' := by
  obtain ⟨dx, e⟩ := h
  obtain ⟨dy, e'⟩ := k
  rw [e] at e'
  injection e' with e'
  injection e' with _ _ e'
  unfold maF at e'
  simp only [List.cons.injEq, Prod.mk.injEq, V.int.injEq, V.ref.injEq, true_and, and_true] at e'
  exact e'
theorem MkAt.inj {CM CP : Addr} {H : Hp} {p : Addr} {z z' : Fact × Int} (h : MkAt CM CP H p z) (k : MkAt CM CP H p z') : z = z' := by
  obtain ⟨g, a, b⟩ := h
  obtain ⟨g', a', b'⟩ := k
  obtain ⟨rfl, e⟩ := a.inj a'
  exact Prod.ext (b.inj b') e
def spMarchE (CM CP : Addr) : Sp := fun vs H Q _ => ∃ (a : Addr) (z : Fact × Int) (y : V), vs = [.ref a, y] ∧ MkAt CM CP H a z ∧ ((∃ (b : Addr) (z' : Fact × Int), y = .ref b ∧ MkAt CM CP H b z' ∧ Q (.bl (decide (z = z'))) H) ∨ ((∃ T, HasT H y (.type T)) ∧ Q (.bl false) H))
def spKeyed (K : PySem.W.Frag) (CT CR CM CP CW : Addr) : Sp := fun vs H Q _ => ∃ (rw a : Addr) (n : Int) (ps : List Addr) (F : List Fact) (ms : List Addr) (xs : List MG), vs = [.ref rw] ∧ RowAt K CW H rw a ms ∧ TreeAt K CT CR H a n ps F ∧ TreeG n F ∧ MasAt CM CP H ms (xs.map mf) ∧ (∀ x ∈ xs, MgOk F x) ∧ xs.length ≤ 900 ∧
  ∀ D H' ks, Same H H' → H D = none → H' D = some (.lst (ks.map V.ref)) → Paired (MkAt CM CP H') ks (rowK F xs) → Q (.ref D) H'
/-- a row, with all that it rests on -/
structure RowS (K : PySem.W.Frag) (CT CR CM CP CW : Addr) (H : Hp) (p : Addr) (n : Int) (F : List Fact) (xs : List MG) : Prop where
  ok : ∀ x ∈ xs, MgOk F x
  len : xs.length ≤ 900
  G : TreeG n F
  at_ : ∃ (a : Addr) (ps ms : List Addr), RowAt K CW H p a ms ∧ TreeAt K CT CR H a n ps F ∧ MasAt CM CP H ms (xs.map mf)
def spRowE (K : PySem.W.Frag) (CT CR CM CP CW : Addr) : Sp := fun vs H Q _ => ∃ (a : Addr) (n : Int) (F : List Fact) (xs : List MG) (y : V), vs = [.ref a, y] ∧ RowS K CT CR CM CP CW H a n F xs ∧
  ((∃ (b : Addr) (n' : Int) (F' : List Fact) (xs' : List MG), y = .ref b ∧ RowS K CT CR CM CP CW H b n' F' xs' ∧ ∀ H', Same H H' → Q (.bl (decide ((n = n' ∧ F = F') ∧ rowK F xs = rowK F' xs'))) H') ∨ ((∃ T, HasT H y (.type T)) ∧ Q (.bl false) H))
theorem eq_mk {K : PySem.W.Frag} {CM CP : Addr} {H : Hp} {p p' : Addr} {z z' : Fact × Int} {Q : Bool → Hp → Prop} (h : MkAt CM CP H p z) (k : MkAt CM CP H p' z') (q : Q (decide (z = z')) H) : ROr (ROwn K CM (spMarchE CM CP)) (.ref p) (.ref p') H Q := by
  by_cases e : p = p'
  · subst e
    refine .inl ⟨p, rfl, rfl, ?_⟩
    rw [decide_eq_true (h.inj k)] at q
    exact q
  · obtain ⟨g, ⟨dx, e1⟩, h2⟩ := id h
    obtain ⟨g', ⟨dy, e2⟩, k2⟩ := id k
    exact .inr ⟨⟨_, _, .ins e1, .ins e2⟩, fun z => e (V.ref.inj z), p, dx, maF g z.2, _, rfl, e1, .ins e2, nf_same, p, z, _, rfl, h, .inl ⟨p', z', rfl, k, _, rfl, q⟩⟩
theorem ls_mk {K : PySem.W.Frag} {CM CP : Addr} {H : Hp} {a b : Addr} {xa ya : List V} {Q : Bool → Hp → Prop} (ha : H a = some (.lst xa)) (hb : H b = some (.lst ya)) : ∀ {ps ps' : List Addr} {zs zs' : List (Fact × Int)}, Paired (MkAt CM CP H) ps zs → Paired (MkAt CM CP H) ps' zs' → ps.length = ps'.length → Q (decide (zs = zs')) H → lsAll (ROr (ROwn K CM (spMarchE CM CP))) a b xa ya (ps.map V.ref) (ps'.map V.ref) H Q
  | _, _, _, _, .nil, .nil, _, q => ⟨⟨ha, hb⟩, q⟩
  | _, _, _, _, .nil, .cons _ _, l, _ => by simp at l
  | _, _, _, _, .cons _ _, .nil, l, _ => by simp at l
  | _, _, _, _, .cons (b := z) h t, .cons (b := z') k u, l, q => by
    refine ⟨⟨ha, hb⟩, eq_mk h k ?_⟩
    by_cases e : z = z'
    · subst e
      rw [decide_eq_true rfl, if_pos rfl]
      refine ls_mk ha hb t u (by simpa using l) ?_
      have w : ∀ zs zs' : List (Fact × Int), decide (z :: zs = z :: zs') = decide (zs = zs') := fun zs zs' => by simp
      rw [w] at q
      exact q
    · rw [decide_eq_false e, if_neg Bool.false_ne_true]
      rw [decide_eq_false (fun w => e (List.cons.inj w).1)] at q
      exact ⟨⟨ha, hb⟩, q⟩
section
variable {P : Program} {w : World} {K : PySem.W.Frag} {mg : Str → Option Value} {base : Heap}
theorem scMarchE : FnScope ["self", "other"] ["self", "other"] (defScope sMarchE) := ⟨rfl, rfl, rfl, by decide +kernel, rfl, by decide +kernel, by decide +kernel⟩
theorem ok_marchE {f C CP fe fPE : Addr} {fd fdPE : FuncData} (F : Fun K "__eq__" "March.__eq__" sMarchE f fd) (T : MaT K mg C) (c : QC K C fe) (cP : QC K CP fPE) (FPE : FnOk P w K mg base CX0 1 fPE fdPE ["self", "other"] (spPlaceE CP)) (bPE : Binds K fdPE ["self", "other"] []) (hIs : mg "isinstance" = none) :
    FnOk P w K mg base CX0 2 f fd ["self", "other"] (spMarchE C CP) := by
  refine F.ok scMarchE (fun vs H Q E h => ?_) (fun cdv A outer s H vs Q E hr h => ?_)
  · obtain ⟨a, z, y, rfl, _⟩ := h
    rfl
  · obtain ⟨a, z, y, rfl, ⟨g, ⟨dx, ea⟩, dg, eg⟩, h⟩ := h
    refine ⟨_, pss_one (ps_ret (pe_and (pe_callB call_isi (by rfl) hIs (by decide +kernel) (pa_cons (pv 1) (pa_cons (pe_glob (v := V.ref C) rfl T.mgC rfl) pa_nil)))
      (pe_and (pe_cmpR (op_eqB (rcB_own FPE cP.eq cP.fn bPE) hr) (pe_fld (pv 0) rfl) (pe_fld (pv 1) rfl) (nomark _)) (pe_one (pe_cmpR op_eq (pe_fld (pv 0) rfl) (pe_fld (pv 1) rfl) (nomark _)))))), ?_⟩
    rcases h with ⟨b, z', rfl, ⟨g', ⟨dy, eb⟩, dg', eg'⟩, k⟩ | ⟨⟨ty, hy⟩, k⟩
    · refine ⟨_, rfl, _, _, _, _, true, rfl, .own C, c.tyx eb, kit_same, _, rfl, ?_⟩
      refine iteT ⟨_, rfl, a, C, dx, _, _, rfl, ea, T.cl, T.nG, maF_g g _, _, rfl, b, C, dy, _, _, rfl, eb, T.cl, T.nG, maF_g g' _, ?_⟩
      refine ⟨g, dg, plF z.1, _, rfl, eg, .ins eg', nf_same, g, dg, z.1, _, rfl, eg, .inl ⟨g', dg', z'.1, rfl, eg', _, rfl, ?_⟩⟩
      by_cases h1 : z.1 = z'.1
      · rw [decide_eq_true h1]
        refine ⟨_, rfl, iteT ⟨_, rfl, a, C, dx, _, _, rfl, ea, T.cl, T.nS, maF_s g _, _, rfl, b, C, dy, _, _, rfl, eb, T.cl, T.nS, maF_s g' _, rfl, ?_⟩⟩
        have e : decide (z = z') = decide (V.int z.2 = V.int z'.2) := by
          rw [decide_eq_decide]
          exact ⟨fun w => by rw [w], fun w => Prod.ext h1 (V.int.inj w)⟩
        rw [e] at k
        exact k
      · rw [decide_eq_false h1]
        refine ⟨_, rfl, iteF ?_⟩
        rw [decide_eq_false (fun w : z = z' => h1 (by rw [w]))] at k
        exact k
    · exact ⟨_, rfl, _, _, _, _, false, rfl, .own C, hasTyx hy, c.kit _ (hasT_oth hy), _, rfl, iteF k⟩
theorem scKeyed : FnScope ["row", "march"] ["row"] (defScope sKeyed) := ⟨rfl, rfl, rfl, by decide +kernel, rfl, by decide +kernel, by decide +kernel⟩
theorem ok_keyed {f fK fM CT CR CM CP CW CNR COR : Addr} {fd fdK fdM : FuncData} (F : Fun K "keyed" "keyed" sKeyed f fd) (TRw : RwT K mg CW) (TM : MaT K mg CM) (MM : Mk K CM fM) (FM : FnOk P w K mg base CX0 1 fM fdM ["self", "goal", "steps"] (spMarchI CM)) (bM : Binds K fdM ["self", "goal", "steps"] [])
    (FK : FnOk P w K mg base (L2.CX P w) 6 fK fdK ["tree", "place"] (spKey K CT CR CP CNR COR)) (bK : Binds K fdK ["tree", "place"] []) (mK : mg "key" = some (.ref fK)) (kK : PySem.W.keepIn K (.ref fK) = true) : FnOk P w K mg base CX0 7 f fd ["row"] (spKeyed K CT CR CM CP CW) := by
  refine F.ok scKeyed (fun vs H Q E h => ?_) (fun cdv A outer s H vs Q E hr h => ?_)
  · obtain ⟨rw, a, n, ps, F, ms, xs, rfl, _⟩ := h
    rfl
  · obtain ⟨rw, a, n, ps, F, ms, xs, rfl, ⟨dw, t, ew, et⟩, TA, G, hM, ok, lx, kont⟩ := h
    have hr2 : Room 2 _ := hr.mono (by decide)
    refine ⟨_, pss_one (ps_ret (pe_lc (own := [("march", 1)]) (g := gName 1) (tt := tYes) (te := tMake CM (spMarchI CM) [] E0 (tCons (tCall (spKey K CT CR CP CNR COR) [] E0 (tCons (tFld K (tVar 0) "tree") (tCons (tFld K (tVar 1) "goal") tNil))) (tCons (tFld K (tVar 1) "steps") tNil))) rfl scKeyed.nd (pi_tup (pe_fld (pv 0) rfl))
        (blkOk_by (own := [("march", 1)]) (N := ["row", "march"]) (sc := defScope sKeyed) (by decide +kernel)) (fun _ _ _ _ _ => pg_name (i := 1) scKeyed.nd rfl (Or.inl rfl)) (fun _ _ _ _ _ => pts_nil)
        (fun _ _ _ _ _ => pe_make MM FM hr2 (by rfl) TM.mgC bM .nil pass0 (pa_cons (pe_call FK hr rfl mK kK bK .nil passF (pa_cons (pe_fld (pv 0) rfl) (pa_cons (pe_fld (pv 1) rfl) pa_nil))) (pa_cons (pe_fld (pv 1) rfl) pa_nil))))), ?_⟩
    have lenE : (ms.map V.ref).length = xs.length := by rw [List.length_map, Paired.length hM, List.length_map]
    refine ⟨_, rfl, rw, CW, dw, _, _, rfl, ew, TRw.cl, TRw.nM, rwF_m a t, t, rfl, ⟨_, et⟩, fun D hD => lc_tup (K := K) (a := t) (xs := ms.map V.ref) (fun i Gc => ∃ ks : List Addr, Gc D = some (.lst (ks.map V.ref)) ∧ Same H Gc ∧ Paired (MkAt CM CP Gc) ks (rowK F (xs.take i)) ∧ ks.length = i)
      ⟨[], upd_same, Same.new hD, .nil, rfl⟩ (fun i Gc _ ⟨_, _, sc, _⟩ => sqT_same et sc) ?_ ?_⟩
    · rintro i y Gc hi ⟨ks, hks, sc, pk, kl⟩
      obtain ⟨q, hq, rfl⟩ := map_get hi
      obtain ⟨m, hm, g, ⟨dm, em⟩, gp⟩ := paired_get hM hq
      obtain ⟨x, hx, rfl⟩ := map_get hm
      have ix : i < xs.length := (List.getElem?_eq_some_iff.mp hx).1
      have mx := ok x (List.mem_of_getElem? hx)
      have gp' : PlaceAt CP H g (((x.1 : Nat) : Int), x.2.1, 1) := by
        have z := gp
        rw [show low (mPl (mf x)) = (((x.1 : Nat) : Int), x.2.1, 1) from low_one _ _] at z
        exact z
      have on : PlOn F (((x.1 : Nat) : Int), x.2.1, (1 : Int)) := ⟨⟨by show 0 ≤ ((x.1 : Nat) : Int); omega, by show ((x.1 : Nat) : Int) < _; have := mx.rd; omega⟩, mx.lo, by show x.2.1 ≤ (rd F ((x.1 : Nat) : Int).toNat).2.2 * 1; rw [Int.toNat_natCast, Int.mul_one]; exact mx.hi⟩
      refine ⟨rfl, ?_⟩
      unfold tYes
      refine iteT ?_
      refine ⟨_, rfl, rw, CW, dw, _, _, rfl, sc _ _ ew, TRw.cl, TRw.nT, rwF_t a t, _, rfl, q, CM, dm, _, _, rfl, sc _ _ em, TM.cl, TM.nG, maF_g g _, a, g, n, ps, F, (((x.1 : Nat) : Int), x.2.1, 1), rfl, TA.same sc, gp'.same sc, G, ⟨by show (1 : Int) ≤ 1; omega, by show (1 : Int) < 2 ^ 110; omega⟩, low_one _ _, fun z => absurd on.1 z, fun _ z => absurd on.2 z, fun _ pk' G1 s1 pk1 => ?_⟩
      have s1' := sc.trans s1
      refine ⟨_, rfl, q, CM, dm, _, _, rfl, s1' _ _ em, TM.cl, TM.nS, maF_s g _, fun x2 dx2 nx2 ndx2 nex2 => ⟨x2, dx2, pk', x.2.2, rfl, upd_same, fun G2 mx2 keep2 => ⟨rfl, ks.map V.ref, ?_, small1000 (by rw [List.length_map]; omega), ks ++ [x2], by rw [List.map_append]; exact upd_same, fun b o e => ?_, ?_, by rw [List.length_append, kl]; rfl⟩⟩⟩
      · exact made_same nx2 ndx2 keep2 _ _ (s1 _ _ hks)
      · rw [upd_ne (ne_of_none e hD)]
        exact made_same nx2 ndx2 keep2 _ _ (s1' b o e)
      · have s2 : Same Gc G2 := s1.trans (made_same nx2 ndx2 keep2)
        have gD : G2 D = some (.lst (ks.map V.ref)) := s2 _ _ hks
        have put : ∀ {p : Addr} {z : Fact × Int}, MkAt CM CP G2 p z → MkAt CM CP (upd G2 D (.lst (ks.map V.ref ++ [V.ref x2]))) p z := fun {p z} ⟨g, ⟨d1, e1⟩, d2, e2⟩ =>
          ⟨g, ⟨d1, by rw [upd_ne (ne_of e1 gD (fun z => nomatch z))]; exact e1⟩, d2, by rw [upd_ne (ne_of e2 gD (fun z => nomatch z))]; exact e2⟩
        show Paired _ (ks ++ [x2]) ((xs.take (i + 1)).map (kOf F))
        rw [take_get hx, List.map_append]
        refine paired_snoc (Paired.mapP pk fun _ _ a => put (a.same s2)) (put ⟨pk', mx2, ?_⟩)
        have z := pk1.same (made_same nx2 ndx2 keep2)
        rw [Int.toNat_natCast] at z
        exact z
    · rintro G4 ⟨ks, hks, sc, pk, kl⟩
      rw [lenE, List.take_length] at pk
      exact kont D G4 ks sc hD hks pk
theorem scRowE : FnScope ["self", "other"] ["self", "other"] (defScope sRowE) := ⟨rfl, rfl, rfl, by decide +kernel, rfl, by decide +kernel, by decide +kernel⟩
theorem RowS.same {CT CR CM CP CW : Addr} {H H' : Hp} {p : Addr} {n : Int} {F : List Fact} {xs : List MG} (h : RowS K CT CR CM CP CW H p n F xs) (s : Same H H') : RowS K CT CR CM CP CW H' p n F xs := by
  obtain ⟨ok, len, G, a, ps, ms, ⟨dx, t, e, u⟩, T, M⟩ := h
  exact ⟨ok, len, G, a, ps, ms, ⟨dx, t, s _ _ e, sqT_same u s⟩, T.same s, MasAt.same M s⟩
theorem ok_rowE {f C CT CR CM CP fe fTE fME fKd : Addr} {fd fdTE fdME fdKd : FuncData} (F : Fun K "__eq__" "Row.__eq__" sRowE f fd) (T : RwT K mg C) (c : QC K C fe) (cT : QC K CT fTE) (cM : QC K CM fME)
    (FTE : FnOk P w K mg base CX0 3 fTE fdTE ["self", "other"] (spTreeE K CT CR)) (bTE : Binds K fdTE ["self", "other"] []) (FME : FnOk P w K mg base CX0 2 fME fdME ["self", "other"] (spMarchE CM CP)) (bME : Binds K fdME ["self", "other"] [])
    (FKd : FnOk P w K mg base CX0 7 fKd fdKd ["row"] (spKeyed K CT CR CM CP C)) (bKd : Binds K fdKd ["row"] []) (mKd : mg "keyed" = some (.ref fKd)) (kKd : PySem.W.keepIn K (.ref fKd) = true) (hIs : mg "isinstance" = none) :
    FnOk P w K mg base CX0 8 f fd ["self", "other"] (spRowE K CT CR CM CP C) := by
  refine F.ok scRowE (fun vs H Q E h => ?_) (fun cdv A outer s H vs Q E hr h => ?_)
  · obtain ⟨a, n, F, xs, y, rfl, _⟩ := h
    rfl
  · obtain ⟨a, n, F, xs, y, rfl, R1, h⟩ := h
    have hr3 : Room 3 _ := hr.mono (by decide)
    refine ⟨_, pss_one (ps_ret (pe_and (pe_callB call_isi (by rfl) hIs (by decide +kernel) (pa_cons (pv 1) (pa_cons (pe_glob (v := V.ref C) rfl T.mgC rfl) pa_nil)))
      (pe_and (pe_cmpR (op_eqB (rcB_own FTE cT.eq cT.fn bTE) hr3) (pe_fld (pv 0) rfl) (pe_fld (pv 1) rfl) (nomark _))
        (pe_one (pe_cmpR (op_eqB (rcB_lst (RcB.eqB (rcB_own FME cM.eq cM.fn bME))) hr3) (pe_call FKd hr rfl mKd kKd bKd .nil pass0 (pa_cons (pv 0) pa_nil)) (pe_call FKd hr rfl mKd kKd bKd .nil pass0 (pa_cons (pv 1) pa_nil)) (nomark _)))))), ?_⟩
    obtain ⟨ta, ps, ms, ⟨da, t, ea, et⟩, TA, M⟩ := R1.at_
    rcases h with ⟨b, n', F', xs', rfl, R2, k⟩ | ⟨⟨ty, hy⟩, k⟩
    · obtain ⟨tb, ps', ms', ⟨db, t', eb, et'⟩, TB, M'⟩ := R2.at_
      refine ⟨_, rfl, _, _, _, _, true, rfl, .own C, c.tyx eb, kit_same, _, rfl, ?_⟩
      refine iteT ⟨_, rfl, a, C, da, _, _, rfl, ea, T.cl, T.nT, rwF_t ta t, _, rfl, b, C, db, _, _, rfl, eb, T.cl, T.nT, rwF_t tb t', ?_⟩
      obtain ⟨dxa, ua, _, _, eta, _⟩ := id TA
      obtain ⟨dxb, ub, _, _, etb, _⟩ := id TB
      refine ⟨ta, dxa, _, _, rfl, eta, .ins etb, nf_same, ta, n, ps, F, _, rfl, TA, .inl ⟨tb, n', ps', F', rfl, TB, _, rfl, ?_⟩⟩
      by_cases h1 : n = n' ∧ F = F'
      · rw [decide_eq_true h1]
        refine ⟨_, rfl, iteT ?_⟩
        obtain ⟨rfl, rfl⟩ := h1
        refine ⟨_, rfl, a, ta, n, ps, F, ms, xs, rfl, ⟨da, t, ea, et⟩, TA, R1.G, M, R1.ok, R1.len, fun D1 H1 ks s1 n1 g1 p1 => ?_⟩
        refine ⟨_, rfl, b, tb, n, ps', F, ms', xs', rfl, ⟨db, t', s1 _ _ eb, sqT_same et' s1⟩, TB.same s1, R2.G, MasAt.same M' s1, R2.ok, R2.len, fun D2 H2 ks' s2 n2 g2 p2 => ?_⟩
        have k' := k H2 (s1.trans s2)
        have g1' := s2 _ _ g1
        have p1' : Paired (MkAt CM CP H2) ks (rowK F xs) := Paired.mapP p1 fun _ _ a => a.same s2
        have e : decide ((n = n ∧ F = F) ∧ rowK F xs = rowK F xs') = decide (rowK F xs = rowK F xs') := by
          rw [decide_eq_decide]
          exact ⟨fun w => w.2, fun w => ⟨⟨rfl, rfl⟩, w⟩⟩
        rw [e] at k'
        have l1 := Paired.length p1'
        have l2 := Paired.length p2
        refine ⟨D1, D2, _, _, rfl, rfl, g1', g2, fun ne => ?_, fun el => ls_mk g1' g2 p1' p2 (by simpa using el) k'⟩
        rw [decide_eq_false (fun w => ne (by rw [List.length_map, List.length_map, l1, l2, w]))] at k'
        exact k'
      · rw [decide_eq_false h1]
        have k' := k H (Same.refl H)
        rw [decide_eq_false (fun w => h1 w.1)] at k'
        exact ⟨_, rfl, iteF k'⟩
    · exact ⟨_, rfl, _, _, _, _, false, rfl, .own C, hasTyx hy, c.kit _ (hasT_oth hy), _, rfl, iteF k⟩
end
end OT
set_option Elab.async false
set_option linter.all false
set_option maxRecDepth 100000
set_option maxHeartbeats 4000000
namespace OT
open PySem L2 OTR
abbrev sReadMarch : Stmt := top 44
abbrev sReadMarches : Stmt := top 43
abbrev sReadRow : Stmt := top 42
abbrev Ma4 := Fact × Int
def m4 (x : Ma4) : MFact := (x.1.1, x.1.2.1, x.1.2.2, x.2)
def spReadMarchG (CM CP : Addr) : Sp := fun vs H Q _ => ∃ z : Str, vs = [.str z] ∧ z.length ≤ 500000 ∧ (rdM z = none → ∀ H', Same H H' → Q .non H') ∧ ∀ x, rdM z = some x → ∀ p H', Same H H' → H p = none → MaAt CM CP H' p (m4 x) → Q (.ref p) H'
/-- the parts of a row's text -/
def prts (z : Str) : List Str := if z = ("none" : Str) then [] else Txt.split z ", "
/-- read_marches of any text -/
def spReadMarchesG (CM CP CBT : Addr) : Sp := fun vs H Q E => ∃ z : Str, vs = [.str z] ∧ z.length ≤ 500000 ∧ (prts z).length ≤ 900000 ∧ (∀ i : Nat, badAt rdM (prts z) = some i → Raised CBT [("place", .int (i : Nat))] H E) ∧
  (badAt rdM (prts z) = none → ∀ D us H', Same H H' → H D = none → H' D = some (.lst (us.map V.ref)) → MasAt CM CP H' us (((prts z).filterMap rdM).map m4) → Q (.ref D) H')
def spReadRowG (K : PySem.W.Frag) (CT CR CM CP CW CB CNR COR CNW CBT : Addr) : Sp := fun vs H Q E => ∃ (x : Addr) (n : Int) (ps : List Addr) (F : List Fact) (z : Str), vs = [.ref x, .str z] ∧ TreeAt K CT CR H x n ps F ∧ TreeG n F ∧ z.length ≤ 500000 ∧ (prts z).length ≤ 900000 ∧
  (∀ i : Nat, badAt rdM (prts z) = some i → Raised CBT [("place", .int (i : Nat))] H E) ∧
  (badAt rdM (prts z) = none → ∀ e, dueM F (((prts z).filterMap rdM).map m4) = some e → RaisM CB CNR COR CNW H E e) ∧
  (badAt rdM (prts z) = none → dueM F (((prts z).filterMap rdM).map m4) = none → ∀ rw ms H', Same H H' → H rw = none → RowAt K CW H' rw x ms → MasAt CM CP H' ms (((prts z).filterMap rdM).map m4) → Q (.ref rw) H')
section
variable {P : Program} {w : World} {K : PySem.W.Frag} {mg : Str → Option Value} {base : Heap}
abbrev nReadMarch : List Str := ["text", "goal", "_", "steps", "place", "number"]
theorem scReadMarch : FnScope nReadMarch ["text"] (defScope sReadMarch) := ⟨rfl, rfl, rfl, by decide +kernel, rfl, by decide +kernel, by decide +kernel⟩
theorem ok_readMarch {f CM CP fMa fRN fRP : Addr} {fd fdMa fdRN fdRP : FuncData} (F : Fun K "read_march" "read_march" sReadMarch f fd) (TM : MaT K mg CM) (MMa : Mk K CM fMa) (FMa : FnOk P w K mg base CX0 1 fMa fdMa ["self", "goal", "steps"] (spMarchI CM)) (bMa : Binds K fdMa ["self", "goal", "steps"] [])
    (FN : FnOk P w K mg base CX0 1 fRN fdRN ["text"] spRdNum) (bN : Binds K fdRN ["text"] []) (mN : mg "read_number" = some (.ref fRN)) (kN : PySem.W.keepIn K (.ref fRN) = true)
    (FP : FnOk P w K mg base CX0 5 fRP fdRP ["text"] (spReadPlaceG CP)) (bP : Binds K fdRP ["text"] []) (mP : mg "read_place" = some (.ref fRP)) (kP : PySem.W.keepIn K (.ref fRP) = true) : FnOk P w K mg base CX0 6 f fd ["text"] (spReadMarchG CM CP) := by
  refine F.ok scReadMarch (fun vs H Q E h => ?_) (fun cdv A outer s0 H vs Q E hr h => ?_)
  · obtain ⟨z, rfl, _⟩ := h
    rfl
  · obtain ⟨z, rfl, zl, kN0, kont⟩ := h
    have hr1 : Room 1 _ := hr.mono (by decide)
    have hr2 : Room 2 _ := hr.mono (by decide)
    have hr5 : Room 5 _ := hr.mono (by decide)
    refine ⟨_, pss_cons (ps_asg (pe_bm PySem.F.plainAttrs_str PySem.F.slot_str_partition PySem.F.type_str_partition mt_partition (pv 0) (pa_cons pe_str pa_nil)) (pg_tup rfl (pgs_cons (pg_name (i := 1) scReadMarch.nd rfl (Or.inl rfl)) (pgs_cons (pg_name (i := 2) scReadMarch.nd rfl (Or.inl rfl)) (pgs_cons (pg_name (i := 3) scReadMarch.nd rfl (Or.inl rfl)) pgs_nil)))))
      (pss_cons (ps_set (i := 4) scReadMarch.nd rfl (Or.inl rfl) (pe_call FP hr5 rfl mP kP bP .nil pass0 (pa_cons (pv 1) pa_nil)))
      (pss_cons (ps_set (i := 5) scReadMarch.nd rfl (Or.inl rfl) (pe_call FN hr1 rfl mN kN bN .nil pass0 (pa_cons (pv 3) pa_nil)))
      (pss_one (ps_ret (pe_ifExp (PW.pt (pw_or (pt_cmp (pc_isN (pv 4))) (pw_or1 (pt_cmp (pc_isN (pv 5)))))) pe_non (pe_make MMa FMa hr2 (by rfl) TM.mgC bMa .nil pass0 (pa_cons (pv 4) (pa_cons (pv 5) pa_nil)))))))), ?_⟩
    refine ⟨_, rfl, rfl, z, " ", rfl, rfl, by decide +kernel, (by rw [PySem.sizeLine_eq]; omega), fun p1 h1 => ?_⟩
    obtain ⟨l1, l2⟩ := part_len sep_blank z
    have rz : rdM z = (match rdP (Txt.partition z " ").1, rdN (Txt.partition z " ").2.2 with | some r, some n => some (r, n) | _, _ => none) := rfl
    obtain ⟨g, sg1, st, e1⟩ : ∃ x s1 rest, Txt.partition z " " = (x, s1, rest) := ⟨_, _, _, rfl⟩
    rw [e1] at l1 l2 rz
    rw [e1]
    replace l1 : g.length ≤ z.length := l1
    replace l2 : st.length ≤ z.length := l2
    dsimp only at rz
    have s1 := Same.new (o := .tup [.str g, .str sg1, .str st]) h1
    refine ⟨p1, _, rfl, SqT.of upd_same, rfl, _, _, rfl, _, _, rfl, _, _, rfl, rfl, ?_⟩
    dsimp only [gName]
    clear h1
    generalize upd H p1 (.tup [.str g, .str sg1, .str st]) = H1 at *
    refine ⟨_, rfl, g, rfl, by omega, fun en G1 t1 => ?_, fun r er p G1 t1 hp PG => ?_⟩
    · rw [en] at rz
      refine ⟨_, rfl, st, rfl, by omega, fun G2 t2 => ?_⟩
      refine ⟨_, rfl, _, rfl, iteT ?_⟩
      exact kN0 rz G2 ((s1.trans t1).trans t2)
    · rw [er] at rz
      refine ⟨_, rfl, st, rfl, by omega, fun G2 t2 => ?_⟩
      refine ⟨_, rfl, _, rfl, iteF ?_⟩
      have s4 := (s1.trans t1).trans t2
      have rd : rdNum (TL.tl st) = rdN st := rfl
      rw [rd]
      cases e : rdN st with
      | none =>
        rw [e] at rz
        refine ⟨_, rfl, _, rfl, iteT ?_⟩
        exact kN0 rz G2 s4
      | some m =>
        rw [e] at rz
        refine ⟨_, rfl, _, rfl, iteF ?_⟩
        refine ⟨_, rfl, _, rfl, fun y dx nx ndx nex => ⟨y, dx, p, m, rfl, upd_same, fun G3 MP keep => ⟨rfl, ?_⟩⟩⟩
        have k3 := made_same nx ndx keep
        exact kont _ rz y G3 (s4.trans k3) (Same.free s4 nx) ⟨p, MP, (PG.same t2).same k3⟩
abbrev nReadMarches : List Str := ["text", "marches", "at", "part", "march"]
theorem scReadMarches : FnScope nReadMarches ["text"] (defScope sReadMarches) := ⟨rfl, rfl, rfl, by decide +kernel, rfl, by decide +kernel, by decide +kernel⟩
theorem ok_readMarches {f CM CP CBT fBT fRM : Addr} {fd fdBT fdRM : FuncData} (F : Fun K "read_marches" "read_marches" sReadMarches f fd) (TBT : ErT K mg "BadText" CBT fBT)
    (FB : FnOk P w K mg base CX0 1 fBT fdBT ["self", "place"] (spEr1 CBT "place")) (bB : Binds K fdBT ["self", "place"] [])
    (FRM : FnOk P w K mg base CX0 6 fRM fdRM ["text"] (spReadMarchG CM CP)) (bRM : Binds K fdRM ["text"] []) (mRM : mg "read_march" = some (.ref fRM)) (kRM : PySem.W.keepIn K (.ref fRM) = true) (hNM : ∃ t, mg "NO_MARCHES" = some (.str "none" t)) (hEn : mg "enumerate" = none) : FnOk P w K mg base (L2.CX P w) 7 f fd ["text"] (spReadMarchesG CM CP CBT) := by
  refine F.okX scReadMarches (fun vs H Q E h => ?_) (fun cdv A outer s0 H vs Q E hr h => ?_)
  · obtain ⟨z, rfl, _⟩ := h
    rfl
  · obtain ⟨z, rfl, zl, pl, kE1, kont⟩ := h
    obtain ⟨tN, hNM⟩ := hNM
    have hr2 : Room 2 _ := hr.mono (by decide)
    have hr6 : Room 6 _ := hr.mono (by decide)
    refine ⟨_, pss_cons (ps_if (pt_cmpR op_eq (pv 0) (pe_glob (v := V.str "none") rfl hNM ⟨tN, rfl⟩) (nomark _))
        (pss_one (ps_ret (pe_lst pa_nil)))
        pss_nil)
      (pss_cons (ps_set (i := 1) scReadMarches.nd rfl (Or.inl rfl) (pe_lst pa_nil))
      (pss_cons (ps_for (passes_of rfl) rfl (pi_enum rfl hEn (pa_cons (pe_bm PySem.F.plainAttrs_str PySem.F.slot_str_split PySem.F.type_str_split mt_split (pv 0) (pa_cons pe_str pa_nil)) pa_nil)) (pg_tup rfl (pgs_cons (pg_name (i := 2) scReadMarches.nd rfl (Or.inl rfl)) (pgs_cons (pg_name (i := 3) scReadMarches.nd rfl (Or.inl rfl)) pgs_nil)))
        (pss_cons (ps_set (i := 4) scReadMarches.nd rfl (Or.inl rfl) (pe_call FRM hr6 rfl mRM kRM bRM .nil pass0 (pa_cons (pv 3) pa_nil)))
        (pss_cons (ps_if (pt_cmp (pc_isN (pv 4)))
          (pss_one (ps_raise rfl (takes_of rfl rfl rfl rfl) (pmk_oex TBT.ox TBT.iC TBT.tI FB hr2 bB .nil pass0 (by rfl) TBT.gC (pa_cons (pv 2) pa_nil))))
          pss_nil)
        (pss_one (ps_expr (pe_bm PySem.F.plainAttrs_list PySem.F.slot_list_append PySem.F.type_list_append mt_append (pv 1) (pa_cons (pv 4) pa_nil)))))))
      (pss_one (ps_ret (pv 1))))), ?_⟩
    refine ⟨_, rfl, rfl, _, rfl, ?_⟩
    unfold prts at pl kE1 kont
    by_cases e : z = ("none" : Str)
    · subst e
      rw [if_pos rfl] at kont
      rw [decide_eq_true rfl]
      refine iteT ⟨Nat.zero_le _, fun D hD => ?_⟩
      exact kont rfl D [] _ (Same.new hD) hD upd_same .nil
    · rw [if_neg e] at pl kE1 kont
      rw [decide_eq_false (fun q => e (V.str.inj q))]
      refine iteF ?_
      refine ⟨Nat.zero_le _, fun D hD => ?_⟩
      have s1 := Same.new (o := .lst []) hD
      have b0 : TL.tl (", " : Str) ≠ [] := by decide
      obtain ⟨_, sl2⟩ := split_len b0 (by decide +kernel) z
      refine ⟨_, rfl, rfl, z, ", ", rfl, rfl, by decide +kernel, (by rw [PySem.sizeLine_eq]; omega), fun p2 h2 => ?_⟩
      generalize Txt.split z ", " = l at *
      have s2 := s1.trans (Same.new (o := .lst (l.map V.str)) h2)
      have gD0 : upd (upd H D (.lst [])) p2 (.lst (l.map V.str)) D = some (.lst (([] : List Addr).map V.ref)) := Same.new h2 _ _ upd_same
      have g2 : upd (upd H D (.lst [])) p2 (.lst (l.map V.str)) p2 = some (.lst (l.map V.str)) := upd_same
      have nD2 : p2 ≠ D := fun q => by rw [q, upd_same] at h2; cases h2
      clear h2
      generalize upd (upd H D (.lst [])) p2 (.lst (l.map V.str)) = H2 at *
      refine ⟨p2, _, rfl, SqL.of g2, for_it (walk_enum (K := K) (a := p2) (xs := l.map V.str)) (fun i σ G => ∃ (v2 v3 v4 : Option V) (us : List Addr), σ = [some (.str z), some (.ref D), v2, v3, v4] ∧ Same H G ∧ G p2 = some (.lst (l.map V.str)) ∧ G D = some (.lst (us.map V.ref)) ∧ MasAt CM CP G us (((l.take i).filterMap rdM).map m4) ∧ us.length = i ∧ ∀ (j : Nat) (y : Str), j < i → l[j]? = some y → rdM y ≠ none)
        ⟨none, none, none, [], rfl, s2, g2, gD0, .nil, rfl, fun j y hj => absurd hj (by omega)⟩ (fun i σ G _ ⟨_, _, _, _, _, _, g, _⟩ => SqL.of g) ?_ ?_⟩
      · rintro i y σ G0 G1 hi ⟨v2, v3, v4, us, rfl, sg, gp, gD, mu, lu, good⟩ ⟨T', x1, y1, rfl, hT, rfl, hx1, hy1⟩
        cases hx1
        obtain ⟨u, hu, rfl⟩ := map_get (show (l.map V.str)[i]? = some y1 from hy1)
        have il := (List.getElem?_eq_some_iff.mp hu).1
        have s3 := Same.new (o := .tup [.int (i : Nat), .str u]) hT
        refine ⟨T', _, rfl, SqT.of upd_same, rfl, _, _, rfl, _, _, rfl, rfl, ?_⟩
        dsimp only [gName]
        refine ⟨_, rfl, u, rfl, Nat.le_trans (sl2 u (List.mem_of_getElem? hu)) zl, fun en G2 s4 => ?_, fun x er p G2 s4 hp MA => ?_⟩
        · refine ⟨_, rfl, _, rfl, iteT ⟨_, rfl, len1, fun b hb => er1 hb ?_⟩⟩
          exact (kE1 i (badAt_hit good hu en)).mono ((sg.trans s3).trans s4)
        · have s34 := s3.trans s4
          have gD2 := s34 _ _ gD
          refine ⟨_, rfl, _, rfl, iteF ?_⟩
          refine ⟨_, rfl, .inl ⟨rfl, _, SqL.of gD2⟩, _, rfl, D, _, _, rfl, rfl, gD2, (by rw [PySem.sizeLine_eq, List.length_map]; omega), _, _, _, us ++ [p], rfl, fun b o e => by rw [upd_ne (ne_of_none e hD)]; exact s34 _ _ (sg b o e), by rw [upd_ne nD2]; exact s34 _ _ gp, by rw [List.map_append]; exact upd_same, ?_, by rw [List.length_append, lu]; rfl, fun j y hj hy => ?_⟩
          · rw [take_good hu er, List.map_append]
            have k1 : Kp G0 (upd G2 D (.lst (us.map V.ref ++ [.ref p]))) := (Kp.of s34).trans (Kp.put gD2)
            exact paired_snoc (MasAt.kp mu k1) (MasAt.kp (.cons MA .nil : MasAt CM CP G2 [p] [m4 x]) (Kp.put gD2) |> fun h => by cases h with | cons a _ => exact a)
          · by_cases e : j = i
            · subst e
              rw [hu] at hy
              cases hy
              rw [er]
              simp
            · exact good j y (by omega) hy
      · rintro σ G ⟨v2, v3, v4, us, rfl, sg, gp, gD, mu, lu, good⟩
        rw [List.length_map] at good
        rw [List.length_map, List.take_length] at mu
        have gd : ∀ z ∈ l, rdM z ≠ none := fun z hz => by
          obtain ⟨j, hj, ej⟩ := List.getElem_of_mem hz
          exact good j z hj (by rw [List.getElem?_eq_getElem hj, ej])
        exact ⟨_, rfl, kont (badAt_none gd) D us G sg hD gD mu⟩
abbrev nReadRow : List Str := ["tree", "text"]
theorem scReadRow : FnScope nReadRow ["tree", "text"] (defScope sReadRow) := ⟨rfl, rfl, rfl, by decide +kernel, rfl, by decide +kernel, by decide +kernel⟩
theorem ok_readRow {f CT CR CM CP CW CB CNR COR CNW CBT fRw fRM : Addr} {fd fdRw fdRM : FuncData} (F : Fun K "read_row" "read_row" sReadRow f fd) (TW : RwT K mg CW) (MRw : Mk K CW fRw) (FRw : FnOk P w K mg base (L2.CX P w) 5 fRw fdRw ["self", "tree", "marches"] (spRowI K CT CR CM CP CW CB CNR COR CNW)) (bRw : Binds K fdRw ["self", "tree", "marches"] [])
    (FRM : FnOk P w K mg base (L2.CX P w) 7 fRM fdRM ["text"] (spReadMarchesG CM CP CBT)) (bRM : Binds K fdRM ["text"] []) (mRM : mg "read_marches" = some (.ref fRM)) (kRM : PySem.W.keepIn K (.ref fRM) = true) : FnOk P w K mg base (L2.CX P w) 8 f fd ["tree", "text"] (spReadRowG K CT CR CM CP CW CB CNR COR CNW CBT) := by
  refine F.okX scReadRow (fun vs H Q E h => ?_) (fun cdv A outer s0 H vs Q E hr h => ?_)
  · obtain ⟨x, n, ps, fs, z, rfl, _⟩ := h
    rfl
  · obtain ⟨x, n, ps, fs, z, rfl, TA, TG, zl, pl, kE1, kE2, kont⟩ := h
    have hr6 : Room 6 _ := hr.mono (by decide)
    have hr7 : Room 7 _ := hr.mono (by decide)
    refine ⟨_, pss_one (ps_ret (pe_make MRw FRw hr6 (by rfl) TW.mgC bRw .nil (passes_call (takes_of rfl rfl rfl rfl) fun _ _ _ _ h => h) (pa_cons (pv 0) (pa_cons (pe_call FRM hr7 rfl mRM kRM bRM .nil (passes_call (takes_of rfl rfl rfl rfl) fun _ _ _ _ h => h) (pa_cons (pv 1) pa_nil)) pa_nil)))), ?_⟩
    refine ⟨_, rfl, _, rfl, z, rfl, zl, pl, kE1, fun bn D us G1 s1 hD gD mu => fun y dx nx ndx nex => ?_⟩
    have s9 := (Same.new (o := .own y) ndx).trans (Same.new (o := .ins CW dx []) (show upd G1 dx (.own y) y = none by rw [upd_ne (Ne.symm nex)]; exact nx))
    refine ⟨y, dx, x, D, n, ps, fs, us, _, G1, rfl, upd_same, nx, s9, TA.same s1, TG, .inl (SqL.of gD), mu, fun m hm => ?_, ?_, fun e z => RaisM.mono (kE2 bn e z) s1, fun en H' RA s' => ⟨rfl, kont bn en y us H' (s1.trans s') (Same.free s1 nx) RA (MasAt.same mu s')⟩⟩
    · obtain ⟨v, hv, rfl⟩ := List.mem_map.mp hm
      obtain ⟨u, hu, eu⟩ := List.mem_filterMap.mp hv
      obtain ⟨⟨⟨_, _, h3⟩, h4⟩, _⟩ := rdM_nb eu
      have := h3.2
      exact ⟨h4, by show v.1.2.2 < _; omega⟩
    · rw [List.length_map, good_len fun z hz => badAt_all bn z hz]
      exact pl
end
end OT
set_option Elab.async false
set_option linter.all false
set_option maxRecDepth 100000
set_option maxHeartbeats 4000000
namespace OT
open PySem L2 OTR
abbrev sLawNum : Stmt := top 56
abbrev sLawRoad : Stmt := top 57
def spLRoad : Sp := fun vs H Q _ => ∃ z : Str, vs = [.str z] ∧ z.length ≤ 500000 ∧ (rdR z = none → ∀ H', Same H H' → Q .non H') ∧ ∀ r, rdR z = some r → ∀ D H', Same H H' → H D = none → H' D = some (.lst [.int r.1, .int r.2.1, .int r.2.2]) → Q (.ref D) H'
section
variable {P : Program} {w : World} {K : PySem.W.Frag} {mg : Str → Option Value} {base : Heap}
abbrev nLawNum : List Str := ["_law_text", "_law_sign"]
theorem scLawNum : FnScope nLawNum ["_law_text"] (defScope sLawNum) := ⟨rfl, rfl, rfl, by decide +kernel, rfl, by decide +kernel, by decide +kernel⟩
theorem ok_lawNum {f : Addr} {fd : FuncData} (F : Fun K "_law_number" "_law_number" sLawNum f fd) (hLen : mg "len" = none) (hInt : mg "int" = none) : FnOk P w K mg base CX0 1 f fd ["_law_text"] spRdNum := by
  refine F.ok scLawNum (fun vs H Q E h => ?_) (fun cdv A outer s0 H vs Q E hr h => ?_)
  · obtain ⟨z, rfl, _⟩ := h
    rfl
  · obtain ⟨z, rfl, zl, kont⟩ := h
    have ul : (A.deeper (PyProof.Rows.envOfC "_law_number" (defScope sLawNum) s0.heap.objs.size f cdv)).units < cLine := Nat.lt_of_le_of_lt (Nat.le_add_right _ _) hr.units
    refine ⟨_, pss_cons (ps_if (PW.pt (pw_or (pt_not (pt_chain op_le op_le pe_int (pe_callB call_len_str (by rfl) hLen (by decide +kernel) (pa_cons (pv 0) pa_nil)) pe_int)) (pw_or1 (pt_cmpR (op_neNil ul) (pe_lc (own := [("_law_sign", 1)]) (g := gName 1) (tt := tTest (tOp rNI (tVar 1) (tC (V.str "0123456789")))) (te := tVar 1) rfl scLawNum.nd (pi_str (pv 0)) (blkOk_by (own := [("_law_sign", 1)]) (N := nLawNum) (sc := defScope sLawNum) (by decide +kernel)) (fun _ _ _ _ _ => (pg_name (i := 1) scLawNum.nd rfl (Or.inl rfl))) (fun _ _ _ _ _ => (pts_one (pt_cmpR op_notIn_sign (pv 1) pe_str rfl))) (fun _ _ _ _ _ => (pv 1))) (pe_lst pa_nil) (nomark _)))))
        (pss_one (ps_ret pe_non))
        pss_nil)
      (pss_one (ps_ret (pe_ifExp (PW.pt (pw_and (pt_cmpR op_eq (pe_ix ix_str (pv 0) pe_int (fun _ _ => rfl)) pe_str (nomark _)) (pw_and1 (pt_cmpR op_gt (pe_callB call_len_str (by rfl) hLen (by decide +kernel) (pa_cons (pv 0) pa_nil)) pe_int (nomark _))))) pe_non (pe_callTy call_int_str (by rfl) hInt (by decide +kernel) (pa_cons (pv 0) pa_nil))))), ?_⟩
    have tz : z.length = (TL.tl z).length := TL.len_tl z
    have zL : z.length ≤ sizeLine := by rw [PySem.sizeLine_eq]; omega
    refine ⟨_, rfl, _, rfl, zL, _, _, rfl, rfl, _, rfl, ?_⟩
    have ctr : decide (1 ≤ ((z.length : Nat) : Int)) = decide (1 ≤ (TL.tl z).length) := by
      rw [decide_eq_decide, tz]
      omega
    have no : ¬ ((1 ≤ (TL.tl z).length ∧ (TL.tl z).length ≤ 31) ∧ Dg (TL.tl z) ∧ ((TL.tl z).head? = some 48 → TL.tl z = [48])) → rdNum (TL.tl z) = none := fun h => if_neg h
    by_cases c1 : ¬ (1 ≤ (TL.tl z).length)
    · rw [ctr, decide_eq_false c1]
      refine iteF ⟨_, rfl, iteT ?_⟩
      have h := kont H (Same.refl H)
      rw [no fun q => c1 q.1.1] at h
      exact h
    replace c1 := Classical.not_not.mp c1
    rw [ctr, decide_eq_true c1]
    refine iteT ⟨_, _, rfl, rfl, _, rfl, ?_⟩
    by_cases c2 : ¬ ((TL.tl z).length ≤ 31)
    · rw [decide_eq_false (by rw [tz]; omega)]
      refine iteT ?_
      have h := kont H (Same.refl H)
      rw [no fun q => c2 q.1.2] at h
      exact h
    replace c2 := Classical.not_not.mp c2
    rw [decide_eq_true (by rw [tz]; omega)]
    refine iteF ?_
    have zs : z.cps.size = (TL.tl z).length := by simp
    let odd : List Nat → List Nat := fun l => l.filter fun c => !decide (48 ≤ c ∧ c ≤ 57)
    -- the signs that are no digits
    refine ⟨_, rfl, z, rfl, fun D hD => lc_it (walk_str (z := z)) (fun i Gc => Gc D = some (.lst ((odd ((TL.tl z).take i)).map fun c => V.str ⟨#[c]⟩)) ∧ Same H Gc)
      ⟨upd_same, Same.new hD⟩ (fun _ _ _ _ => trivial) ?_ ?_⟩
    · rintro i x Gc G' hi ⟨gD, sg⟩ ⟨rfl, c, hc, rfl⟩
      have hc' : (TL.tl z)[i]? = some c := by
        rw [← hc]
        exact (Array.getElem?_toList).trans rfl
      dsimp only [gName]
      refine ⟨rfl, _, rfl, c, "0123456789", rfl, rfl, _, rfl, ?_⟩
      have e : decide (c ∈ ((("0123456789" : Str)).cps.toList)) = decide (48 ≤ c ∧ c ≤ 57) := by
        rw [decide_eq_decide]
        have e0 : (("0123456789" : Str)).cps.toList = [48, 49, 50, 51, 52, 53, 54, 55, 56, 57] := by decide
        rw [e0]
        simp only [List.mem_cons, List.not_mem_nil, or_false]
        omega
      rw [e]
      by_cases d : 48 ≤ c ∧ c ≤ 57
      · rw [decide_eq_true d]
        refine iteF ⟨?_, sg⟩
        have eo : odd ((TL.tl z).take (i + 1)) = odd ((TL.tl z).take i) := by
          show List.filter _ _ = _
          rw [take_get hc', List.filter_append]
          simp [d, odd]
        rw [eo]
        exact gD
      · rw [decide_eq_false d]
        refine iteT ⟨_, rfl, _, gD, ?_, ?_, fun b o e => by rw [upd_ne (ne_of_none e hD)]; exact sg b o e⟩
        · have h1 : (odd ((TL.tl z).take i)).length ≤ ((TL.tl z).take i).length := List.length_filter_le _ _
          rw [PySem.sizeLine_eq, List.length_map]
          rw [List.length_take] at h1
          omega
        · have eo : odd ((TL.tl z).take (i + 1)) = odd ((TL.tl z).take i) ++ [c] := by
            show List.filter _ _ = _
            rw [take_get hc', List.filter_append]
            have dd : (!decide (48 ≤ c ∧ c ≤ 57)) = true := by rw [decide_eq_false d]; rfl
            have e1 : List.filter (fun c => !decide (48 ≤ c ∧ c ≤ 57)) [c] = [c] := List.filter_cons_of_pos (p := fun c => !decide (48 ≤ c ∧ c ≤ 57)) (l := []) dd
            rw [e1]
          rw [eo, List.map_append]
          exact upd_same
    · rintro G1 ⟨gD, s1⟩
      rw [zs, List.take_length] at gD
      refine ⟨Nat.zero_le _, fun p0 h0 => ?_⟩
      have s2 := s1.trans (Same.new (o := .lst []) h0)
      refine ⟨D, p0, _, rfl, rfl, SqL.of (Same.new h0 _ _ gD), SqL.of upd_same, _, rfl, ?_⟩
      generalize upd G1 p0 (.lst []) = G2 at *
      have ea : (!((odd (TL.tl z)).map fun c => V.str ⟨#[c]⟩).isEmpty) = !decide (Dg (TL.tl z)) := by
        congr 1
        by_cases d : Dg (TL.tl z)
        · rw [decide_eq_true d]
          have e0 : odd (TL.tl z) = [] := List.filter_eq_nil_iff.mpr fun c hc => by
            have := d c hc
            simp [this]
          rw [e0]
          rfl
        · rw [decide_eq_false d]
          have ⟨c, hc⟩ := Classical.not_forall.mp d
          have ⟨h1, h2⟩ := Classical.not_imp.mp hc
          have m : c ∈ odd (TL.tl z) := List.mem_filter.mpr ⟨h1, by rw [decide_eq_false h2]; rfl⟩
          cases eo : odd (TL.tl z) with
          | nil => rw [eo] at m; cases m
          | cons x l => rfl
      rw [ea]
      by_cases c3 : ¬ (Dg (TL.tl z))
      · rw [decide_eq_false c3]
        refine iteT ?_
        have h := kont G2 s2
        rw [no fun q => c3 q.2.1] at h
        exact h
      replace c3 := Classical.not_not.mp c3
      rw [decide_eq_true c3]
      refine iteF ?_
      obtain ⟨c, r, ez⟩ : ∃ c r, TL.tl z = c :: r := by
        cases e : TL.tl z with
        | nil => rw [e] at c1; exact absurd c1 (by decide)
        | cons c r => exact ⟨c, r, rfl⟩
      have at0 : atI z.cps.toList 0 = some c := by
        have e1 : z.cps.toList = c :: r := ez
        rw [e1]
        show atI (c :: r) ((0 : Nat) : Int) = _
        exact atI_nat rfl
      have s0e : decide ((V.str ⟨#[c]⟩ : V) = V.str "0") = decide (c = 48) := by
        rw [decide_eq_decide]
        have e0 : TL.tl ("0" : Str) = [48] := by decide
        exact ⟨fun q => (List.cons.inj (show TL.tl (⟨#[c]⟩ : Str) = [48] by rw [V.str.inj q, e0])).1, fun q => by rw [show (⟨#[c]⟩ : Str) = ("0" : Str) from TL.ext_tl (by rw [e0, q])]⟩
      have fin : ((TL.tl z).head? = some 48 → TL.tl z = [48]) → PySem.intText? z = some ((NumText.digitsVal (TL.tl z) : Nat) : Int) ∧ z.length ≤ 640 ∧ Q (V.int ((NumText.digitsVal (TL.tl z) : Nat) : Int)) G2 := fun h => ⟨intText_digits c3 (fun q => by rw [show TL.tl z = [] from q] at ez; cases ez) (by omega), by omega, by
        have k := kont G2 s2
        unfold rdNum at k
        rw [if_pos ⟨⟨c1, c2⟩, c3, h⟩] at k
        exact k⟩
      refine ⟨_, rfl, z, 0, c, rfl, rfl, zL, at0, rfl, _, rfl, ?_⟩
      rw [s0e]
      by_cases c4 : c = 48
      · subst c4
        rw [decide_eq_true rfl]
        refine iteT ⟨_, rfl, _, rfl, zL, _, _, rfl, rfl, _, rfl, ?_⟩
        by_cases c5 : r = []
        · subst c5
          have l1 : z.length = 1 := by rw [tz, ez]; rfl
          rw [decide_eq_false (by rw [l1]; decide)]
          exact iteF ⟨_, rfl, z, _, rfl, fin fun _ => ez⟩
        · have l1 : 1 < z.length := by
            rw [tz, ez, List.length_cons]
            have := List.length_pos_iff.mpr c5
            omega
          rw [decide_eq_true (by omega)]
          refine iteT ?_
          have h := kont G2 s2
          rw [no fun q => c5 (by
            have z := q.2.2 (by rw [ez]; rfl)
            rw [ez] at z
            exact (List.cons.inj z).2)] at h
          exact h
      · rw [decide_eq_false c4]
        exact iteF (iteF ⟨_, rfl, z, _, rfl, fin fun q => absurd (by rw [ez] at q; exact Option.some.inj q) c4⟩)
abbrev nLawRoad : List Str := ["_law_text", "_law_pieces", "_law_found", "_law_piece"]
theorem scLawRoad : FnScope nLawRoad ["_law_text"] (defScope sLawRoad) := ⟨rfl, rfl, rfl, by decide +kernel, rfl, by decide +kernel, by decide +kernel⟩
theorem ok_lawRoad {f fRN : Addr} {fd fdRN : FuncData} (F : Fun K "_law_road" "_law_road" sLawRoad f fd)
    (FN : FnOk P w K mg base CX0 1 fRN fdRN ["_law_text"] spRdNum) (bN : Binds K fdRN ["_law_text"] []) (mN : mg "_law_number" = some (.ref fRN)) (kN : PySem.W.keepIn K (.ref fRN) = true) (hLen : mg "len" = none) : FnOk P w K mg base CX0 2 f fd ["_law_text"] spLRoad := by
  refine F.ok scLawRoad (fun vs H Q E h => ?_) (fun cdv A outer s0 H vs Q E hr h => ?_)
  · obtain ⟨z, rfl, _⟩ := h
    rfl
  · obtain ⟨z, rfl, zl, kN0, kont⟩ := h
    have hr1 : Room 1 _ := hr.mono (by decide)
    refine ⟨_, pss_cons (ps_set (i := 1) scLawRoad.nd rfl (Or.inl rfl) (pe_bm PySem.F.plainAttrs_str PySem.F.slot_str_split PySem.F.type_str_split mt_split (pv 0) (pa_cons pe_str pa_nil)))
      (pss_cons (ps_setLc (i := 2) (own := [("_law_piece", 3)]) (g := gName 3) (tt := tYes) (te := tCall spRdNum [] E0 (tCons (tVar 3) tNil)) rfl scLawRoad.nd rfl rfl (sw_true rfl rfl rfl (by decide +kernel)) (pi_list (pe_slice sl_list (pv 1) (po_some pe_int) po_none)) (blkOk_by (own := [("_law_piece", 3)]) (N := nLawRoad) (sc := defScope sLawRoad) (by decide +kernel)) (fun _ _ _ _ _ => (pg_name (i := 3) scLawRoad.nd rfl (Or.inl rfl))) (fun _ _ _ _ _ => pts_nil) (fun _ _ _ _ _ => (pe_call FN hr1 rfl mN kN bN .nil pass0 (pa_cons (pv 3) pa_nil))))
      (pss_one (ps_ret (pe_ifExp (PW.pt (pw_or (pt_cmpR op_ne (pe_ix ix_list (pv 1) pe_int (fun _ _ => rfl)) pe_str (nomark _)) (pw_or (pt_cmpR op_ne (pe_callB call_len (by rfl) hLen (by decide +kernel) (pa_cons (pv 2) pa_nil)) pe_int (nomark _)) (pw_or1 (pt_cmpR op_in_seq pe_non (pv 2) rfl))))) pe_non (pv 2))))), ?_⟩
    have b0 : TL.tl (" " : Str) ≠ [] := by decide
    obtain ⟨sl1, sl2⟩ := split_len b0 sep_blank.kd z
    obtain ⟨w, ws, sp⟩ := split_cons sep_blank z
    have rdz : rdR z = if w = ("road" : Str) then tri (ws.map rdN) else none := by
      unfold rdR
      rw [sp]
    refine ⟨_, rfl, rfl, z, " ", rfl, rfl, by decide +kernel, (by rw [PySem.sizeLine_eq]; omega), fun p1 h1 => ?_⟩
    rw [sp] at sl1 sl2
    rw [sp]
    have wl : ws.length ≤ 500000 := by
      rw [List.length_cons] at sl1
      omega
    have s1 := Same.new (o := .lst ((w :: ws).map V.str)) h1
    have g1 := upd_same (H := H) (a := p1) (o := .lst ((w :: ws).map V.str))
    clear h1
    generalize upd H p1 (.lst ((w :: ws).map V.str)) = H1 at *
    refine ⟨_, rfl, _, rfl, p1, _, rfl, SqL.of g1, fun p2 h2 => ?_⟩
    rw [show cutV ((w :: ws).map V.str) (some 1) none = ws.map V.str from cut_from (i := 1) (by simp)]
    have s2 := s1.trans (Same.new (o := .lst (ws.map V.str)) h2)
    have g12 := Same.new (o := .lst (ws.map V.str)) h2 _ _ g1
    have g2 := upd_same (H := H1) (a := p2) (o := .lst (ws.map V.str))
    clear h2
    generalize upd H1 p2 (.lst (ws.map V.str)) = H2 at *
    refine ⟨p2, rfl, ⟨_, SqL.of g2⟩, fun D hD => lc_list (K := K) (a := p2) (xs := ws.map V.str) (fun i Gc => Gc D = some (.lst (((ws.map rdN).take i).map oI)) ∧ Same H2 Gc)
      ⟨upd_same, Same.new hD⟩ (fun i Gc _ ⟨_, sc⟩ => SqL.of (sc _ _ g2)) ?_ ?_⟩
    · rintro i y Gc hi ⟨gD, sc⟩
      obtain ⟨u, hu, rfl⟩ := map_get hi
      dsimp only [gName]
      refine ⟨rfl, ?_⟩
      unfold tYes
      have ul : u.length ≤ z.length := sl2 u (List.mem_cons_of_mem _ (List.mem_of_getElem? hu))
      refine iteT ⟨_, rfl, u, rfl, by omega, fun G' sg => ?_⟩
      have gD' := sg _ _ gD
      refine ⟨_, gD', by rw [PySem.sizeLine_eq, List.length_map, List.length_take, List.length_map]; omega, ?_, fun b o e => by rw [upd_ne (ne_of_none e hD)]; exact sg _ _ (sc b o e)⟩
      rw [take_get (show (ws.map rdN)[i]? = some (rdN u) by rw [List.getElem?_map, hu]; rfl), List.map_append]
      exact upd_same
    · rintro G1 ⟨gD, sc⟩
      rw [List.length_map, show ws.length = (ws.map rdN).length from (List.length_map ..).symm, List.take_length] at gD
      have g13 := sc _ _ g12
      have sG := s2.trans sc
      have out : rdR z = none → Q .non G1 := fun e => kN0 e G1 sG
      refine ⟨_, rfl, p1, _, 0, .str w, rfl, rfl, SqL.of g13, (show atI (List.map V.str (w :: ws)) ((0 : Nat) : Int) = some (V.str w) from atI_nat rfl), rfl, _, rfl, ?_⟩
      by_cases c1 : w = ("road" : Str)
      · subst c1
        rw [if_pos rfl] at rdz
        rw [decide_eq_true rfl]
        refine iteF ⟨_, rfl, _, _, rfl, .inl ⟨_, SqL.of gD, rfl⟩, rfl, _, rfl, ?_⟩
        rw [dec_int, List.length_map]
        by_cases c3 : (ws.map rdN).length = 3
        · have e3 : ((((ws.map rdN).length : Nat) : Int) == 3) = true := by
            rw [beq_iff_eq]
            omega
          rw [e3]
          refine iteF ⟨_, rfl, D, _, rfl, .inl (SqL.of gD), rfl, flat_oI _, _, rfl, ?_⟩
          show (if (if (false : Bool) = true then !inV _ _ else inV _ _) = true then _ else _)
          rw [if_neg Bool.false_ne_true, inV_oI]
          by_cases c4 : none ∈ ws.map rdN
          · rw [decide_eq_true c4]
            refine iteT (out ?_)
            rw [rdz, tri_none c4]
          · rw [decide_eq_false c4]
            refine iteF ?_
            obtain ⟨a, b, c, e4⟩ := tri_some c3 c4
            rw [e4] at rdz gD
            exact ⟨_, rfl, kont _ rdz D G1 sG (Same.free s2 hD) gD⟩
        · have e3 : ((((ws.map rdN).length : Nat) : Int) == 3) = false := by
            rw [beq_eq_false_iff_ne]
            omega
          rw [e3]
          refine iteT (out ?_)
          rw [rdz, tri_len c3]
      · rw [decide_eq_false (fun q => c1 (V.str.inj q))]
        refine iteT (out ?_)
        rw [rdz, if_neg c1]
end
end OT
set_option Elab.async false
set_option linter.all false
set_option maxRecDepth 100000
set_option maxHeartbeats 4000000
namespace OT
open PySem L2 OTR
abbrev sLawMarch : Stmt := top 58
theorem split_one {y z a : Str} {s : Nat} (Y : Sep y s) (e : Txt.split z y = [a]) : a = z ∧ Txt.partition z y = (z, Str.empty, Str.empty) := by
  rcases cut_or Y z with ⟨_, h, p⟩ | ⟨u, b, _, _, h, _⟩
  · rw [h] at e
    exact ⟨(List.cons.inj e).1.symm, p⟩
  · rw [h] at e
    obtain ⟨c, r, e2⟩ := split_cons Y b
    rw [e2] at e
    cases (List.cons.inj e).2
theorem split_two {y z a b : Str} {s : Nat} (Y : Sep y s) (e : Txt.split z y = [a, b]) : Txt.partition z y = (a, y, b) ∧ s ∉ TL.tl b := by
  rcases cut_or Y z with ⟨_, h, p⟩ | ⟨u, c, _, _, h, p⟩
  · rw [h] at e
    cases (List.cons.inj e).2
  · rw [h] at e
    obtain ⟨e1, e2⟩ := List.cons.inj e
    rcases cut_or Y c with ⟨n, h2, _⟩ | ⟨v, d, _, _, h2, _⟩
    · rw [h2] at e2
      rw [p, e1, (List.cons.inj e2).1]
      exact ⟨rfl, (List.cons.inj e2).1 ▸ n⟩
    · rw [h2] at e2
      obtain ⟨x, r, e3⟩ := split_cons Y d
      rw [e3] at e2
      cases (List.cons.inj e2).2
theorem split_more {y z a : Str} {r : List Str} {s : Nat} (Y : Sep y s) (e : Txt.split z y = a :: r) (h1 : r.length ≠ 1) : Txt.partition z y = (z, Str.empty, Str.empty) ∨ ∃ b, Txt.partition z y = (a, y, b) ∧ s ∈ TL.tl b := by
  rcases cut_or Y z with ⟨_, h, p⟩ | ⟨u, c, _, _, h, p⟩
  · exact .inl p
  · rw [h] at e
    obtain ⟨e1, e2⟩ := List.cons.inj e
    refine .inr ⟨c, by rw [p, e1], Classical.byContradiction fun n => h1 ?_⟩
    rw [← e2, (cut_no Y n).1]
    rfl
theorem rdM_of {z g s1 st : Str} (h : Txt.partition z " " = (g, s1, st)) : rdM z = (match rdP g, rdN st with | some r, some n => some (r, n) | _, _ => none) := by
  unfold rdM
  rw [h] <;> rfl
theorem rdM_no1 {z g s1 st : Str} (h : Txt.partition z " " = (g, s1, st)) (e : rdP g = none) : rdM z = none := by
  rw [rdM_of h, e]
theorem rdM_no2 {z g s1 st : Str} (h : Txt.partition z " " = (g, s1, st)) (e : rdN st = none) : rdM z = none := by
  rw [rdM_of h, e]
  cases rdP g <;> rfl
theorem rdM_bad1 {z g : Str} {pr : List Str} (e : Txt.split z " " = g :: pr) (h : pr.length ≠ 1) : rdM z = none := by
  rcases split_more sep_blank e h with p | ⟨b, p, m⟩
  · exact rdM_no2 p rdN_emp
  · exact rdM_no2 p (rdN_sep m (.inl (by decide)))
theorem tl_e : TL.tl Str.empty = [] := rfl
theorem rdP_bad1 {g x : Str} {hr : List Str} (e : Txt.split g ":" = x :: hr) (h : hr.length ≠ 1) : rdP g = none := by
  rcases split_more sep_colon e h with p | ⟨b, p, m⟩
  · have e2 : Txt.partition Str.empty "/" = (Str.empty, Str.empty, Str.empty) := (cut_no sep_slash (by rw [tl_e]; simp)).2
    rw [rdP_E p e2, rdN_emp]
    exact plc_none (by simp)
  · rcases cut_or sep_slash b with ⟨_, _, e2⟩ | ⟨n, pt, eb, _, _, e2⟩
    · rw [rdP_E p e2, rdN_sep m (.inr (by decide))]
      exact plc_none (by simp)
    · rw [rdP_F p e2]
      rw [eb, TL.tl_append, TL.tl_append, sep_slash.tl] at m
      rcases List.mem_append.mp m with m | m
      · rcases List.mem_append.mp m with m | m
        · rw [rdN_sep m (.inr (by decide))]
          exact plc_none (by simp)
        · have := List.mem_singleton.mp m
          omega
      · rw [rdN_sep m (.inr (by decide))]
        exact plc_none (by simp)
theorem rdP_bad2 {g x s1 rest n : Str} {r : List Str} (p : Txt.partition g ":" = (x, s1, rest)) (e : Txt.split rest "/" = n :: r) (h : 2 ≤ r.length) : rdP g = none := by
  rcases split_more sep_slash e (by omega) with q | ⟨b, q, m⟩
  · rcases cut_or sep_slash rest with ⟨_, h2, _⟩ | ⟨u, c, _, _, _, h2⟩
    · rw [h2] at e
      rw [← (List.cons.inj e).2] at h
      simp at h
    · rw [h2] at q
      exact absurd (Prod.mk.inj (Prod.mk.inj q).2).1 slash_ne
  · rw [rdP_F p q, rdN_sep m (.inl (by decide))]
    exact plc_none (by simp)
def spLMarch : Sp := fun vs H Q _ => ∃ z : Str, vs = [.str z] ∧ z.length ≤ 500000 ∧ (rdM z = none → ∀ H', Same H H' → Q .non H') ∧ ∀ x, rdM z = some x → ∀ D H', Same H H' → H D = none → H' D = some (.lst [.int x.1.1, .int x.1.2.1, .int x.1.2.2, .int x.2]) → Q (.ref D) H'
section
variable {P : Program} {w : World} {K : PySem.W.Frag} {mg : Str → Option Value} {base : Heap}
abbrev nLawMarch : List Str := ["_law_text", "_law_pieces", "_law_halves", "_law_rest", "_law_found", "_law_piece"]
theorem scLawMarch : FnScope nLawMarch ["_law_text"] (defScope sLawMarch) := ⟨rfl, rfl, rfl, by decide +kernel, rfl, by decide +kernel, by decide +kernel⟩
theorem ok_lawMarch {f fRN : Addr} {fd fdRN : FuncData} (F : Fun K "_law_march" "_law_march" sLawMarch f fd)
    (FN : FnOk P w K mg base CX0 1 fRN fdRN ["_law_text"] spRdNum) (bN : Binds K fdRN ["_law_text"] []) (mN : mg "_law_number" = some (.ref fRN)) (kN : PySem.W.keepIn K (.ref fRN) = true) (hLen : mg "len" = none) : FnOk P w K mg base CX0 2 f fd ["_law_text"] spLMarch := by
  refine F.ok scLawMarch (fun vs H Q E h => ?_) (fun cdv A outer s0 H vs Q E hr h => ?_)
  · obtain ⟨z, rfl, _⟩ := h
    rfl
  · obtain ⟨z, rfl, zl, kN0, kont⟩ := h
    have hr1 : Room 1 _ := hr.mono (by decide)
    refine ⟨_, pss_cons (ps_set (i := 1) scLawMarch.nd rfl (Or.inl rfl) (pe_bm PySem.F.plainAttrs_str PySem.F.slot_str_split PySem.F.type_str_split mt_split (pv 0) (pa_cons pe_str pa_nil)))
      (pss_cons (ps_set (i := 2) scLawMarch.nd rfl (Or.inl rfl) (pe_bm PySem.F.plainAttrs_str PySem.F.slot_str_split PySem.F.type_str_split mt_split (pe_ix ix_list (pv 1) pe_int (fun _ _ => rfl)) (pa_cons pe_str pa_nil)))
      (pss_cons (ps_if (PW.pt (pw_or (pt_cmpR op_ne (pe_callB call_len (by rfl) hLen (by decide +kernel) (pa_cons (pv 1) pa_nil)) pe_int (nomark _)) (pw_or1 (pt_cmpR op_ne (pe_callB call_len (by rfl) hLen (by decide +kernel) (pa_cons (pv 2) pa_nil)) pe_int (nomark _)))))
        (pss_one (ps_ret pe_non))
        pss_nil)
      (pss_cons (ps_set (i := 3) scLawMarch.nd rfl (Or.inl rfl) (pe_bm PySem.F.plainAttrs_str PySem.F.slot_str_split PySem.F.type_str_split mt_split (pe_ix ix_list (pv 2) pe_int (fun _ _ => rfl)) (pa_cons pe_str pa_nil)))
      (pss_cons (ps_setLc (i := 4) (own := [("_law_piece", 5)]) (g := gName 5) (tt := tYes) (te := tCall spRdNum [] E0 (tCons (tVar 5) tNil)) rfl scLawMarch.nd rfl rfl (sw_true rfl rfl rfl (by decide +kernel)) (pi_list (pe_op op_catS (pe_op op_catS (pe_lst (pa_cons (pe_ix ix_list (pv 2) pe_int (fun _ _ => rfl)) pa_nil)) (pv 3)) (pe_lst (pa_cons (pe_ix ix_list (pv 1) pe_int (fun _ _ => rfl)) pa_nil)))) (blkOk_by (own := [("_law_piece", 5)]) (N := nLawMarch) (sc := defScope sLawMarch) (by decide +kernel)) (fun _ _ _ _ _ => (pg_name (i := 5) scLawMarch.nd rfl (Or.inl rfl))) (fun _ _ _ _ _ => pts_nil) (fun _ _ _ _ _ => (pe_call FN hr1 rfl mN kN bN .nil pass0 (pa_cons (pv 5) pa_nil))))
      (pss_cons (ps_if (PW.pt (pw_or (pt_cmpR op_in_seq pe_non (pv 4) rfl) (pw_or (pt_cmpR op_gt (pe_callB call_len (by rfl) hLen (by decide +kernel) (pa_cons (pv 3) pa_nil)) pe_int (nomark _)) (pw_or1 (PW.pt (pw_and (pt_cmpR op_eq (pe_callB call_len (by rfl) hLen (by decide +kernel) (pa_cons (pv 3) pa_nil)) pe_int (nomark _)) (pw_and1 (pt_cmpR op_lt (pe_ix ix_list (pv 4) pe_int (fun _ _ => rfl)) pe_int (nomark _)))))))))
        (pss_one (ps_ret pe_non))
        pss_nil)
      (pss_one (ps_ret (pe_ifExp (pt_cmpR op_eq (pe_callB call_len (by rfl) hLen (by decide +kernel) (pa_cons (pv 3) pa_nil)) pe_int (nomark _)) (pv 4) (pe_lst (pa_cons (pe_ix ix_list (pv 4) pe_int (fun _ _ => rfl)) (pa_cons (pe_ix ix_list (pv 4) pe_int (fun _ _ => rfl)) (pa_cons pe_int (pa_cons (pe_ix ix_list (pv 4) pe_int (fun _ _ => rfl)) pa_nil))))))))))))), ?_⟩
    have b0 : TL.tl (" " : Str) ≠ [] := by decide
    obtain ⟨sl1, sl2⟩ := split_len b0 sep_blank.kd z
    obtain ⟨g, pr, sp⟩ := split_cons sep_blank z
    refine ⟨_, rfl, rfl, z, " ", rfl, rfl, by decide +kernel, (by rw [PySem.sizeLine_eq]; omega), fun p1 h1 => ?_⟩
    rw [sp] at sl1 sl2
    rw [sp]
    rw [List.length_cons] at sl1
    have gl : g.length ≤ z.length := sl2 g List.mem_cons_self
    have s1 := Same.new (o := .lst ((g :: pr).map V.str)) h1
    have g1 := upd_same (H := H) (a := p1) (o := .lst ((g :: pr).map V.str))
    clear h1
    generalize upd H p1 (.lst ((g :: pr).map V.str)) = H1 at *
    -- halves
    have b1 : TL.tl (":" : Str) ≠ [] := by decide
    obtain ⟨hl1, hl2⟩ := split_len b1 sep_colon.kd g
    obtain ⟨x, ha, sh⟩ := split_cons sep_colon g
    refine ⟨_, rfl, p1, _, 0, .str g, rfl, rfl, SqL.of g1, (show atI (List.map V.str (g :: pr)) ((0 : Nat) : Int) = some (V.str g) from atI_nat rfl), rfl, g, ":", rfl, rfl, by decide +kernel, (by rw [PySem.sizeLine_eq]; omega), fun p2 h2 => ?_⟩
    rw [sh] at hl1 hl2
    rw [sh]
    rw [List.length_cons] at hl1
    have s2 := s1.trans (Same.new (o := .lst ((x :: ha).map V.str)) h2)
    have g12 := Same.new (o := .lst ((x :: ha).map V.str)) h2 _ _ g1
    have g2 := upd_same (H := H1) (a := p2) (o := .lst ((x :: ha).map V.str))
    clear h2
    generalize upd H1 p2 (.lst ((x :: ha).map V.str)) = H2 at *
    -- if len(pieces) != 2 or len(halves) != 2
    refine ⟨_, rfl, _, _, rfl, .inl ⟨_, SqL.of g12, rfl⟩, rfl, _, rfl, ?_⟩
    rw [dec_int, List.length_map]
    by_cases c1 : pr.length = 1
    · have e1 : ((((g :: pr).length : Nat) : Int) == 2) = true := by
        rw [beq_iff_eq, List.length_cons]
        omega
      rw [e1]
      refine iteF ⟨_, rfl, _, _, rfl, .inl ⟨_, SqL.of g2, rfl⟩, rfl, _, rfl, ?_⟩
      rw [dec_int, List.length_map]
      obtain ⟨st, rfl⟩ : ∃ st, pr = [st] := by
        match pr, c1 with
        | [st], _ => exact ⟨st, rfl⟩
      obtain ⟨pz, _⟩ := split_two sep_blank sp
      have stl : st.length ≤ z.length := sl2 st (by simp)
      by_cases c2 : ha.length = 1
      · have e2 : ((((x :: ha).length : Nat) : Int) == 2) = true := by
          rw [beq_iff_eq, List.length_cons]
          omega
        rw [e2]
        refine iteF ?_
        obtain ⟨rest, rfl⟩ : ∃ rest, ha = [rest] := by
          match ha, c2 with
          | [rest], _ => exact ⟨rest, rfl⟩
        obtain ⟨pg, _⟩ := split_two sep_colon sh
        have xl : x.length ≤ g.length := hl2 x (by simp)
        have rl : rest.length ≤ g.length := hl2 rest (by simp)
        -- rest
        have b2 : TL.tl ("/" : Str) ≠ [] := by decide
        obtain ⟨rl1, rl2⟩ := split_len b2 sep_slash.kd rest
        obtain ⟨nn, r2, sr⟩ := split_cons sep_slash rest
        refine ⟨_, rfl, p2, _, 1, .str rest, rfl, rfl, SqL.of g2, (show atI (List.map V.str [x, rest]) ((1 : Nat) : Int) = some (V.str rest) from atI_nat rfl), rfl, rest, "/", rfl, rfl, by decide +kernel, (by rw [PySem.sizeLine_eq]; omega), fun p3 h3 => ?_⟩
        generalize hrs : Txt.split rest "/" = rs at *
        have s3 := s2.trans (Same.new (o := .lst (rs.map V.str)) h3)
        have k3 := Same.new (o := .lst (rs.map V.str)) h3
        have g13 := k3 _ _ g12
        have g23 := k3 _ _ g2
        have g3 := upd_same (H := H2) (a := p3) (o := .lst (rs.map V.str))
        clear h3 k3
        generalize upd H2 p3 (.lst (rs.map V.str)) = H3 at *
        -- found
        refine ⟨_, rfl, p2, _, 0, .str x, rfl, rfl, SqL.of g23, (show atI (List.map V.str [x, rest]) ((0 : Nat) : Int) = some (V.str x) from atI_nat rfl), (by show 1 ≤ sizeLine; decide), fun p4 h4 => ?_⟩
        have s4 := s3.trans (Same.new (o := .lst [.str x]) h4)
        have k4 := Same.new (o := .lst [.str x]) h4
        refine ⟨_, rfl, p4, p3, [.str x], rs.map V.str, rfl, rfl, SqL.of upd_same, SqL.of (k4 _ _ g3), (by rw [List.length_map, PySem.sizeLine_eq]; show 1 + _ ≤ _; omega), fun p5 h5 => ?_⟩
        have k5 := k4.trans (Same.new (o := .lst ([.str x] ++ rs.map V.str)) h5)
        refine ⟨_, rfl, p1, _, 1, .str st, rfl, rfl, SqL.of (k5 _ _ g13), (show atI (List.map V.str [g, st]) ((1 : Nat) : Int) = some (V.str st) from atI_nat rfl), (by show 1 ≤ sizeLine; decide), fun p6 h6 => ?_⟩
        have k6 := k5.trans (Same.new (o := .lst [.str st]) h6)
        refine ⟨p5, p6, [.str x] ++ rs.map V.str, [.str st], rfl, rfl, SqL.of (Same.new h6 _ _ upd_same), SqL.of upd_same, (by rw [List.length_append, List.length_map, PySem.sizeLine_eq]; show 1 + _ + 1 ≤ _; omega), fun p7 h7 => ?_⟩
        have eL : [V.str x] ++ rs.map V.str ++ [V.str st] = (x :: (rs ++ [st])).map V.str := by simp
        rw [eL]
        have k7 := k6.trans (Same.new (o := .lst ((x :: (rs ++ [st])).map V.str)) h7)
        have s7 := s3.trans k7
        have g37 := k7 _ _ g3
        have g7 : upd (upd (upd (upd H3 p4 (.lst [.str x])) p5 (.lst ([.str x] ++ rs.map V.str))) p6 (.lst [.str st])) p7 (.lst ((x :: (rs ++ [st])).map V.str)) p7 = some (.lst ((x :: (rs ++ [st])).map V.str)) := upd_same
        clear k4 k5 k6 k7 h4 h5 h6 h7
        generalize upd (upd (upd (upd H3 p4 (.lst [.str x])) p5 (.lst ([.str x] ++ rs.map V.str))) p6 (.lst [.str st])) p7 (.lst ((x :: (rs ++ [st])).map V.str)) = H7 at *
        have tl_ : ∀ u ∈ x :: (rs ++ [st]), u.length ≤ 500000 := fun u hu => by
          rcases List.mem_cons.mp hu with rfl | hu
          · omega
          · rcases List.mem_append.mp hu with hu | hu
            · have := rl2 u hu
              omega
            · rw [List.mem_singleton.mp hu]
              omega
        refine ⟨p7, rfl, ⟨_, SqL.of g7⟩, fun D hD => lc_list (K := K) (a := p7) (xs := (x :: (rs ++ [st])).map V.str) (fun i Gc => Gc D = some (.lst ((((x :: (rs ++ [st])).map rdN).take i).map oI)) ∧ Same H7 Gc)
          ⟨upd_same, Same.new hD⟩ (fun i Gc _ ⟨_, sc⟩ => SqL.of (sc _ _ g7)) ?_ ?_⟩
        · rintro i y Gc hi ⟨gD, sc⟩
          obtain ⟨u, hu, rfl⟩ := map_get hi
          dsimp only [gName]
          refine ⟨rfl, ?_⟩
          unfold tYes
          have ul := tl_ u (List.mem_of_getElem? hu)
          refine iteT ⟨_, rfl, u, rfl, by omega, fun G' sg => ?_⟩
          have gD' := sg _ _ gD
          refine ⟨_, gD', ?_, ?_, fun b o e => by rw [upd_ne (ne_of_none e hD)]; exact sg _ _ (sc b o e)⟩
          · rw [PySem.sizeLine_eq, List.length_map, List.length_take, List.length_map, List.length_cons, List.length_append]
            simp only [List.length_cons, List.length_nil]
            omega
          · rw [take_get (show ((x :: (rs ++ [st])).map rdN)[i]? = some (rdN u) by rw [List.getElem?_map, hu]; rfl), List.map_append]
            exact upd_same
        · rintro G1 ⟨gD, sc⟩
          rw [List.length_map, show (x :: (rs ++ [st])).length = ((x :: (rs ++ [st])).map rdN).length from (List.length_map ..).symm, List.take_length] at gD
          have sG := s7.trans sc
          have fD : H D = none := Same.free s7 hD
          have g38 := sc _ _ g37
          have out : rdM z = none → Q .non G1 := fun e => kN0 e G1 sG
          -- if None in found ..
          refine ⟨_, rfl, D, _, rfl, .inl (SqL.of gD), rfl, flat_oI _, _, rfl, ?_⟩
          show (if (if (false : Bool) = true then !inV _ _ else inV _ _) = true then _ else _)
          rw [if_neg Bool.false_ne_true, inV_oI]
          have stn : rdN st = none → rdM z = none := fun e => rdM_no2 pz e
          have gn : rdP g = none → rdM z = none := fun e => rdM_no1 pz e
          have hrs0 : Txt.split rest "/" = nn :: r2 := hrs.trans sr
          -- how many parts
          rcases Nat.lt_or_ge r2.length 2 with l2' | l2'
          · match r2, l2', sr, hrs0 with
            | [], _, sr, hrs0 =>
              -- a whole place
              obtain ⟨en, pr0⟩ := split_one sep_slash hrs0
              subst en
              have eP := rdP_E pg pr0
              subst sr
              by_cases c4 : none ∈ (x :: ([nn] ++ [st])).map rdN
              · rw [decide_eq_true c4]
                refine iteT (out ?_)
                simp only [List.map_cons, List.map_nil, List.cons_append, List.nil_append, List.mem_cons, List.not_mem_nil, or_false] at c4
                rcases c4 with c4 | c4 | c4
                · exact gn (by rw [eP, ← c4]; exact plc_none (by simp))
                · exact gn (by rw [eP, ← c4]; exact plc_none (by simp))
                · exact stn c4.symm
              · rw [decide_eq_false c4]
                simp only [List.map_cons, List.map_nil, List.cons_append, List.nil_append, List.mem_cons, List.not_mem_nil, or_false, not_or] at c4
                obtain ⟨a, ea⟩ : ∃ a, rdN x = some a := by
                  cases e : rdN x with
                  | none => exact absurd e.symm c4.1
                  | some a => exact ⟨a, rfl⟩
                obtain ⟨b, eb⟩ : ∃ b, rdN nn = some b := by
                  cases e : rdN nn with
                  | none => exact absurd e.symm c4.2.1
                  | some a => exact ⟨a, rfl⟩
                obtain ⟨m, em⟩ : ∃ b, rdN st = some b := by
                  cases e : rdN st with
                  | none => exact absurd e.symm c4.2.2
                  | some a => exact ⟨a, rfl⟩
                rw [ea, eb] at eP
                have eP : rdP g = some (a, b, 1) := eP
                have eM : rdM z = some ((a, b, 1), m) := by rw [rdM_of pz, eP, em]
                have gD : G1 D = some (.lst [.int a, .int b, .int m]) := by
                  have h := gD
                  simp only [List.map_cons, List.map_nil, List.cons_append, List.nil_append, ea, eb, em] at h
                  exact h
                refine iteF ⟨_, rfl, _, _, rfl, .inl ⟨_, SqL.of g38, rfl⟩, _, _, rfl, rfl, _, rfl, iteF ?_⟩
                refine ⟨_, rfl, _, _, rfl, .inl ⟨_, SqL.of g38, rfl⟩, rfl, _, rfl, iteF (iteF ?_)⟩
                refine ⟨_, rfl, _, _, rfl, .inl ⟨_, SqL.of g38, rfl⟩, rfl, _, rfl, iteF ?_⟩
                refine ⟨_, rfl, D, _, 0, .int a, rfl, rfl, SqL.of gD, rfl, _, rfl, D, _, 1, .int b, rfl, rfl, SqL.of gD, rfl, _, rfl, D, _, 2, .int m, rfl, rfl, SqL.of gD, rfl, (by show 4 ≤ sizeLine; decide), fun D2 h2 => ?_⟩
                exact kont _ eM D2 _ (sG.trans (Same.new h2)) (Same.free sG h2) upd_same
            | [pt], _, sr, hrs0 =>
              obtain ⟨pr0, _⟩ := split_two sep_slash hrs0
              have eP := rdP_F pg pr0
              subst sr
              by_cases c4 : none ∈ (x :: ([nn, pt] ++ [st])).map rdN
              · rw [decide_eq_true c4]
                refine iteT (out ?_)
                simp only [List.map_cons, List.map_nil, List.cons_append, List.nil_append, List.mem_cons, List.not_mem_nil, or_false] at c4
                rcases c4 with c4 | c4 | c4 | c4
                · exact gn (by rw [eP, ← c4]; exact plc_none (by simp))
                · exact gn (by rw [eP, ← c4]; exact plc_none (by simp))
                · exact gn (by rw [eP, ← c4]; exact plc_none (by simp))
                · exact stn c4.symm
              · rw [decide_eq_false c4]
                simp only [List.map_cons, List.map_nil, List.cons_append, List.nil_append, List.mem_cons, List.not_mem_nil, or_false, not_or] at c4
                obtain ⟨a, ea⟩ : ∃ a, rdN x = some a := by
                  cases e : rdN x with
                  | none => exact absurd e.symm c4.1
                  | some a => exact ⟨a, rfl⟩
                obtain ⟨b, eb⟩ : ∃ b, rdN nn = some b := by
                  cases e : rdN nn with
                  | none => exact absurd e.symm c4.2.1
                  | some a => exact ⟨a, rfl⟩
                obtain ⟨c, ec⟩ : ∃ b, rdN pt = some b := by
                  cases e : rdN pt with
                  | none => exact absurd e.symm c4.2.2.1
                  | some a => exact ⟨a, rfl⟩
                obtain ⟨m, em⟩ : ∃ b, rdN st = some b := by
                  cases e : rdN st with
                  | none => exact absurd e.symm c4.2.2.2
                  | some a => exact ⟨a, rfl⟩
                rw [ea, eb, ec] at eP
                have eP : rdP g = if true = true ∧ c < 2 then none else some (a, b, c) := eP
                have gD : G1 D = some (.lst [.int a, .int b, .int c, .int m]) := by
                  have h := gD
                  simp only [List.map_cons, List.map_nil, List.cons_append, List.nil_append, ea, eb, ec, em] at h
                  exact h
                refine iteF ⟨_, rfl, _, _, rfl, .inl ⟨_, SqL.of g38, rfl⟩, _, _, rfl, rfl, _, rfl, iteF ?_⟩
                refine ⟨_, rfl, _, _, rfl, .inl ⟨_, SqL.of g38, rfl⟩, rfl, _, rfl, iteT ?_⟩
                refine ⟨_, rfl, D, _, 2, .int c, rfl, rfl, SqL.of gD, rfl, _, _, rfl, rfl, _, rfl, ?_⟩
                by_cases c2' : c < 2
                · rw [decide_eq_true c2']
                  rw [if_pos ⟨rfl, c2'⟩] at eP
                  exact iteT (out (gn eP))
                · rw [decide_eq_false c2']
                  rw [if_neg fun q => c2' q.2] at eP
                  have eM : rdM z = some ((a, b, c), m) := by rw [rdM_of pz, eP, em]
                  refine iteF ⟨_, rfl, _, _, rfl, .inl ⟨_, SqL.of g38, rfl⟩, rfl, _, rfl, iteT ?_⟩
                  exact ⟨_, rfl, kont _ eM D G1 sG fD gD⟩
            | _ :: _ :: _, h, _, _ => exact absurd h (by simp only [List.length_cons]; omega)
          · have eN := gn (rdP_bad2 pg hrs0 l2')
            by_cases c4 : none ∈ (x :: (rs ++ [st])).map rdN
            · rw [decide_eq_true c4]
              exact iteT (out eN)
            · rw [decide_eq_false c4]
              refine iteF ⟨_, rfl, _, _, rfl, .inl ⟨_, SqL.of g38, rfl⟩, _, _, rfl, rfl, _, rfl, ?_⟩
              rw [decide_eq_true (by rw [List.length_map, sr, List.length_cons]; omega)]
              exact iteT (out eN)
      · have e2 : ((((x :: ha).length : Nat) : Int) == 2) = false := by
          rw [beq_eq_false_iff_ne, List.length_cons]
          omega
        rw [e2]
        exact iteT (kN0 (rdM_no1 pz (rdP_bad1 sh c2)) H2 s2)
    · have e1 : ((((g :: pr).length : Nat) : Int) == 2) = false := by
        rw [beq_eq_false_iff_ne, List.length_cons]
        omega
      rw [e1]
      exact iteT (kN0 (rdM_bad1 sp c1) H2 s2)
end
end OT
set_option Elab.async false
set_option linter.all false
set_option maxRecDepth 100000
set_option maxHeartbeats 2000000
namespace OTR
open PySem PySem.Spec PyProof.Rows L2
/-- one clause: its class, the slot of its name if it has one, its suite's reading -/
abbrev Cla := Value × Option Nat × (Addr → Value → Option Addr → TS)
def endM : Option Nat → Ends → Ends
  | none, D => D
  | some i, D => { nx := fun σ H => D.nx (σ.set i none) H, rt := D.rt, bk := fun σ H => D.bk (σ.set i none) H, ct := fun σ H => D.ct (σ.set i none) H }
def setM : Option Nat → Addr → L2.St → L2.St
  | none, _, σ => σ
  | some i, a, σ => σ.set i (some (.ref a))
def wMix (K : PySem.W.Frag) (Wout : WX) (D : Ends) : List Cla → WX
  | [] => Wout
  | (c, o, ts) :: r => fun cls d σ H => ∃ b, PySem.W.exmOne K cls c = some b ∧ (b = true → ∀ a, H a = none → ts a cls d (endM o D) (setM o a σ) H) ∧ (b = false → wMix K Wout D r cls d σ H)
inductive HdM (X : Cx) : List ExceptHandler → List Cla → Prop
  | nil : HdM X [] []
  | plain {x : Str} {c : Value} {ts : Addr → Value → Option Addr → TS} {b₀ : Stmt} {suite : List Stmt} {np pos' : Pos} {hds : List ExceptHandler} {l : List Cla} (hc : Names X x c)
      (hsu : ∀ (a : Addr) (oe : Obj) (cls : Value) (d : Option Addr) (pn : List (Addr × Obj)), Zc cls d oe → (∃ vs, oe.data = .fields vs) → PSs (X.suite a ((a, oe) :: pn)) (b₀ :: suite) (ts a cls d)) (r : HdM X hds l) :
      HdM X (.ExceptHandler (some (.Name x np)) none (b₀ :: suite) pos' :: hds) ((c, none, ts) :: l)
  | named {x n : Str} {i : Nat} {c : Value} {ts : Addr → Value → Option Addr → TS} {b₀ : Stmt} {suite : List Stmt} {np pos' : Pos} {hds : List ExceptHandler} {l : List Cla} (hc : Names X x c) (hi : X.N[i]? = some n) (hln : X.env.kindOf n = some .local)
      (hsu : ∀ (a : Addr) (oe : Obj) (cls : Value) (d : Option Addr) (pn : List (Addr × Obj)), Zc cls d oe → (∃ vs, oe.data = .fields vs) → PSs (X.suite a ((a, oe) :: pn)) (b₀ :: suite) (ts a cls d)) (r : HdM X hds l) :
      HdM X (.ExceptHandler (some (.Name x np)) (some n) (b₀ :: suite) pos' :: hds) ((c, some i, ts) :: l)
section
variable {X : Cx} {body : List Stmt} {h₀ : ExceptHandler} {hds : List ExceptHandler} {l : List Cla} {pos : Pos} {tb : WX → TS} {Wout : WX}
theorem ps_try_mix (hs : X.stack = X.env :: X.outer) (hf : X.env.frame = some X.env.locals) (hN : X.N.Nodup) (tk : Takes X Wout)
    (hb : ∀ (W : WX) (pn : List (Addr × Obj)) (xe : Value → Shared → Prop), Takes (X.tr pn xe) W → PassesOwn (model X.prog X.w) X.A X.env xe → PSs (X.tr pn xe) body (tb W))
    (hh : HdM X (h₀ :: hds) l) : PS X (.Try body (h₀ :: hds) [] [] pos) (fun D σ H => tb (wMix X.K Wout D l) D σ H) := by
  refine ⟨fun pins s σ H D I h => ?_⟩
  have ok := I.ok
  have hfr : X.A.frames = some (X.env :: X.outer) := by rw [ok.frames, hs]
  refine wpAny_Try_except ?_
  refine wpAny_mono ((hb (wMix X.K Wout D l) (X.pn ++ pins) (fun e s₁ => wpAny (model X.prog X.w) X.A (noteFrame e X.env) (fun _ s₂ => wpAny (model X.prog X.w) X.A (setFlight e none) (fun _ s₃ =>
    wpAny (model X.prog X.w) X.A (handleBy e X.env (h₀ :: hds)) (SP X pins D) X.xe s₃) X.xe s₂) X.xe s₁) (fun u s' xx => ?_) PassesOwn.looking).run [] s σ H D (I.toTry _) h) (fun f s1 hsp => ?_) (fun e s1 he => he)
  · -- an error of the body: let it land
    obtain ⟨a, B, sI, pins', σ', H', cls, d, rfl, J', nb, up, sky, na, os, ag, w⟩ := xx
    have J : Inv X pins σ' H' sI := J'.ofTry ok
    have sky' : Sky B (X.env :: X.outer) a (Zc cls d) X.env.locals s'.heap := by rw [← hs]; exact sky
    show wpAny (model X.prog X.w) X.A (noteFrame (.ref a) X.env) _ _ _
    refine Sky.land Zc.steady hfr hf sky' fun h3 fl3 up3 => ?_
    have J3 : Inv X pins σ' H' { s' with heap := h3 } := J.landed nb fl3.1 (up.trans up3) os ag
    obtain ⟨oe3, vs3, he3, hz3, hd3⟩ := fl3.there
    have nfr : a ∉ frs (X.env :: X.outer) := fun hm => by
      obtain ⟨_, o', e', hnf⟩ := fl3.2.2.1.mem hm
      rw [he3] at e'
      cases e'
      exact hnf _ hd3
    have nL : a ≠ X.env.locals := fun z => nfr (List.mem_filterMap.mpr ⟨X.env, List.mem_cons_self, by rw [hf, z]⟩)
    have nF : a ∉ X.fs := fun hm => by
      obtain ⟨e, he, q⟩ := List.mem_filterMap.mp hm
      exact nfr (List.mem_filterMap.mpr ⟨e, List.mem_cons_of_mem _ he, q⟩)
    have S3 := J3.suite he3 hd3 na nL nF
    have LT : PySem.W.Looks (model X.prog X.w) h3 (typeOf (.ref a)) cls := fun A Q E s k q => wpAny_typeOf_ref (k _ _ he3) (by rw [hz3.1]; exact q)
    have ask : ∀ {x : Str} {c : Value} {np : Pos} {Q : Value → Shared → Prop} {E : Value → Shared → Prop}, Names X x c → Q c { s' with heap := h3 } → wpAny (model X.prog X.w) (X.A.mark (some (.ref a))) (eval (.Name x np) X.env) Q E { s' with heap := h3 } := fun {x c np Q E} hc q => by
      obtain ⟨hg, hdbg, hm | ⟨hm, hv, hnn⟩⟩ := hc
      · exact ld_glob (X := X.suite a ((a, oe3) :: (X.pn ++ pins))) S3 hg hm q hdbg
      · exact ld_blt (X := X.suite a ((a, oe3) :: (X.pn ++ pins))) S3 hg hm hv q hnn hdbg
    have go : ∀ {hs2 : List ExceptHandler} {l2 : List Cla}, HdM X hs2 l2 → wMix X.K Wout D l2 cls d σ' H' →
        wpAny (model X.prog X.w) X.A (handleBy (.ref a) X.env hs2) (SP X pins D) X.xe { s' with heap := h3 } := by
      intro hs2 l2 hk
      induction hk with
      | nil =>
        intro w
        refine wpAny_handleBy_nil ?_
        obtain ⟨k1, k2, k3, oe, vs, T, oT, ts', he, hz, hd, h1, hr⟩ := id fl3
        unfold PySem.passOn
        refine wpAny_bind (wpAny_field he hd h1 ?_)
        rw [if_neg (show ¬ ((Value.ref T == Value.none) = true) from by simp)]
        have fin : wpAny (model X.prog X.w) X.A (setFlight (.ref a) X.env.frame) (fun _ s4 => wpAny (model X.prog X.w) X.A (throw (.ref a) : Sem Flow) (SP X pins D) X.xe s4) X.xe { s' with heap := h3 } := by
          rw [hf]
          refine HandSPX.setFlight_upZ fl3 fun h4 hh4 up4 => wpAny_throw (tk _ _ ?_)
          exact ⟨a, B, sI, pins, σ', H', cls, d, rfl, J, nb, (up.trans up3).trans up4, .inr (.inr (by rw [hs]; exact hh4)), na, os, ag, w⟩
        first
          | exact wpAny_bind (wpAny_pure (wpAny_bind fin))
          | exact wpAny_bind fin
      | @plain x c ts b₀ suite np pos' hds2 l2 hc hsu r ih =>
        intro w
        obtain ⟨b, hb1, hyes, hno⟩ := w
        refine wpAny_handleBy_cons (codeAny_handlers_test (ask hc ((PySem.W.exm_one (M := model X.prog X.w) (J3.kIn) LT hb1).here ?_))) (by intro q; cases q)
        cases b with
        | false => exact ih (hno rfl)
        | true =>
          refine codeAny_handlers_suite (HandSPX.lands_againZ fl3 fun h4 fl4 up4 => ?_)
          have J4 : Inv X pins σ' H' { s' with heap := h4 } := J.landed nb fl4.1 ((up.trans up3).trans up4) os ag
          obtain ⟨oe4, vs4, he4, hz4, hd4⟩ := fl4.there
          have S4 := J4.suite he4 hd4 na nL nF
          refine wpAny_mono ((hsu a oe4 cls d (X.pn ++ pins) hz4 ⟨_, hd4⟩).run [] _ _ H' _ S4 (hyes rfl a na)) (fun f s6 hsp => ?_) (fun _ _ z => False.elim z)
          cases f with
          | ret u =>
            obtain ⟨v6, σ6, H6, S6, r6, q6⟩ := hsp
            exact ⟨_, _, _, S6.unsuite ok, r6, q6⟩
          | next => exact let ⟨σ6, H6, S6, q6⟩ := hsp; ⟨_, _, S6.unsuite ok, q6⟩
          | brk => exact let ⟨σ6, H6, S6, q6⟩ := hsp; ⟨_, _, S6.unsuite ok, q6⟩
          | cont => exact let ⟨σ6, H6, S6, q6⟩ := hsp; ⟨_, _, S6.unsuite ok, q6⟩
      | @named x n i c ts b₀ suite np pos' hds2 l2 hc hi hln hsu r ih =>
        intro w
        obtain ⟨b, hb1, hyes, hno⟩ := w
        refine wpAny_handleBy_cons (codeAny_handlers_test (ask hc ((PySem.W.exm_one (M := model X.prog X.w) (J3.kIn) LT hb1).here ?_))) (by intro q; cases q)
        cases b with
        | false => exact ih (hno rfl)
        | true =>
          refine codeAny_handlers_suite_as (HandSPX.lands_againZ fl3 fun h4 fl4 up4 => ?_)
          have J4 : Inv X pins σ' H' { s' with heap := h4 } := J.landed nb fl4.1 ((up.trans up3).trans up4) os ag
          obtain ⟨oe4, vs4, he4, hz4, hd4⟩ := fl4.there
          have S4 := J4.suite he4 hd4 na nL nF
          refine store_ok (X := X.suite a ((a, oe4) :: (X.pn ++ pins))) (v := .ref a) S4 hN hi (.inl hln) rfl (fun s5 S5 => ?_) (.inr hln)
          refine wpAny_mono ((hsu a oe4 cls d (X.pn ++ pins) hz4 ⟨_, hd4⟩).run [] s5 _ H' _ S5 (hyes rfl a na)) (fun f s6 hsp => ?_) (fun _ _ z => False.elim z)
          have gone : ∀ {σ6 : L2.St} {H6 : Hp} {Q : Shared → Prop}, Inv (X.suite a ((a, oe4) :: (X.pn ++ pins))) [] σ6 H6 s6 → (∀ s7, Inv X pins (σ6.set i none) H6 s7 → Q s7) →
              wpAny (model X.prog X.w) X.A (do bindName X.env n .none; unbindBehindTheSuite X.env n pos') (fun _ s7 => Q s7) X.xe s6 := fun {σ6 H6 Q} S6 hq => gone_ok (S6.unsuite ok) hN hi hln hq
          cases f with
          | ret u =>
            obtain ⟨v6, σ6, H6, S6, r6, q6⟩ := hsp
            exact gone S6 fun s7 J7 => ⟨_, _, _, J7, r6, q6⟩
          | next => exact let ⟨σ6, H6, S6, q6⟩ := hsp; gone S6 fun s7 J7 => ⟨_, _, J7, q6⟩
          | brk => exact let ⟨σ6, H6, S6, q6⟩ := hsp; gone S6 fun s7 J7 => ⟨_, _, J7, q6⟩
          | cont => exact let ⟨σ6, H6, S6, q6⟩ := hsp; gone S6 fun s7 J7 => ⟨_, _, J7, q6⟩
    exact go hh w
  · cases f with
    | ret u =>
      obtain ⟨v, σ', H', J', r, q⟩ := hsp
      exact ⟨v, σ', H', J'.ofTry ok, r, q⟩
    | next => exact let ⟨σ', H', J', q⟩ := hsp; wpAny_execs_nil ⟨σ', H', J'.ofTry ok, q⟩
    | brk => exact let ⟨σ', H', J', q⟩ := hsp; ⟨σ', H', J'.ofTry ok, q⟩
    | cont => exact let ⟨σ', H', J', q⟩ := hsp; ⟨σ', H', J'.ofTry ok, q⟩
end
end OTR
set_option Elab.async false
set_option linter.all false
set_option maxRecDepth 100000
set_option maxHeartbeats 2000000
namespace OTR
open PySem PySem.Spec PyProof.Rows L2 L2H
structure FnQ (P : Program) (w : World) (K : PySem.W.Frag) (mg : Str → Option Value) (base : Heap) (k : Nat) (f : Addr) (fd : FuncData) (ps : List Str) (sp : Sp) : Prop where
  len : ∀ vs H Q E, sp vs H Q E → vs.length = ps.length
  run : ∀ (A : Around) (outer : List Env) (s : Shared) (H : Hp) (args : Args) (us : List Value) (vs : List V) (Q : VK) (E : XK) (p : Addr × Obj), RoomH k A → PinOk outer H s p → Env0 P w K mg base A outer s H → BindsTo s fd args (ps.zip us) → Vals vs us → sp vs H Q E →
    codeAny (model P w) A (.call (.ref f) args) (CR CX0 outer P w H s Q E) s
section
variable {P : Program} {w : World} {K : PySem.W.Frag} {mg : Str → Option Value} {base : Heap}
theorem fnQ_of {k : Nat} {f : Addr} {name qual : Str} {params : Arguments} {body : List Stmt} {scope : Scope} {dV kV doc pm cdv ct oc : Value} {an od : Option Addr}
    {osl : Array (Option Value)} {N ps : List Str} {sp : Sp} (lk : K.lookup f = some ⟨oc, od, .func (PySem.W.fnOf name qual params body scope dV kV doc pm an cdv ct), osl⟩) (hcd : PySem.W.codeIn K cdv qual = true) (S : FnScope N ps scope)
    (len : ∀ vs H Q E, sp vs H Q E → vs.length = ps.length)
    (hbody : ∀ (A : Around) (outer : List Env) (s : Shared) (H : Hp) (vs : List V) (Q : VK) (E : XK) (p : Addr × Obj), sp vs H Q E →
      ∃ t, PSs (cxH CX0 P w K mg base N qual scope f cdv A outer s H E p) body t ∧ t { nx := fun _ H' => Q .non H', rt := Q } (L2.start N vs) H) :
    FnQ P w K mg base (k + 1) f (PySem.W.fnOf name qual params body scope dV kV doc pm an cdv ct) ps sp := by
  refine ⟨len, fun A outer s H args us vs Q E p hr hpin e0 hb r hsp => ?_⟩
  have hl := len _ _ _ _ hsp
  have KX : K.In s.heap := e0.mod.kin.keeps fun b o e => (e0.bs b o e).1
  have lim : s.heap.NoLimit := e0.mod.nolimit.keeps fun b o e => (e0.bs b o e).1
  have hkind : ∀ y ∈ ps.zip us, scope.names.lookup y.1 = some .local ∨ (scope.names.lookup y.1 = some .cell ∧ ((cellsFrom (s.heap.objs.size + 1) scope.names []).lookup y.1).isSome = true) := fun ⟨n, v⟩ hy => by
    rcases S.par n (List.of_mem_zip hy).1 with q | q
    · exact .inl q
    · exact .inr ⟨q, PySem.W.cellsFrom_some _ _ _ (.inl q)⟩
  refine codeAny_call_function hr.depth (KX _ _ lk) rfl S.co S.gen rfl (PySem.W.codeRec_of KX hcd) (hb _ _ _ _ (wpAny_newFunctionEnv_cells S.kind hkind fun env he s1 x => ?_))
  subst he
  refine ⟨lim.keeps x.toInCall.keep, codeAny_func ?_⟩
  obtain ⟨t, ht, hq⟩ := hbody A outer s H vs Q E p hsp
  have I : Inv (cxH CX0 P w K mg base N qual scope f cdv A outer s H E p) [] (L2.start N vs) H s1 := inv_startH S hpin e0 hl r x
  refine wpAny_mono (ht.run [] s1 (L2.start N vs) H _ I hq) (fun fl s' hs => ?_) fun e s' hs => hs
  have fin : ∀ {σ' : L2.St} {H' : Hp} {v : V} {u : Value}, Inv (cxH CX0 P w K mg base N qual scope f cdv A outer s H E p) [] σ' H' s' → RelV v u → Q v H' → CE outer P w H s Q u s' :=
    fun {σ' H' v u} J rv q => ⟨v, H', J.os, J.bare, J.base, J.hok, rv, q⟩
  cases fl with
  | ret u =>
    obtain ⟨v, σ', H', J, rv, q⟩ := hs
    exact fin J rv q
  | next =>
    obtain ⟨σ', H', J, q⟩ := hs
    exact fin (v := V.non) (u := Value.none) J rfl q
  | brk => exact let ⟨_, _, _, q⟩ := hs; False.elim q
  | cont => exact let ⟨_, _, _, q⟩ := hs; False.elim q
end
/-- what one class says of itself by the method m -/
structure SaysM (X : Cx) (m : Str) (k : Nat) (C : Addr) (out : V) : Prop where
  xf : XfC X.K C
  gg : True
  ex : ∃ f fd, Meth X.K C m f ∧ FnQ X.prog X.w X.K X.mg X.base k f fd ["self"] (fun vs H Q _ => ∃ v, vs = [v] ∧ Q out H) ∧ Binds X.K fd ["self"] []
theorem got_meth {prog : Program} {w : World} {A : Around} {E : Value → Shared → Prop} {s : Shared} {K : PySem.W.Frag} {C x f : Addr} {ox : Obj} {od : Option Obj} {name : Str} {pl : Sem Bool} {Q : Value × List Value → Shared → Prop}
    (X : K.In s.heap) (I : PySem.W.InstAt s.heap x ox C od) (T : XfC K C) (hf : PySem.W.findIn K (.ref C) name = some (some (.ref f))) (ht : PySem.W.isFn K (.ref f) = true) (hs : ∀ o, od = some o → PySem.W.lookIn name o = some none) (h : Q (.ref f, [.ref x]) s) :
    wpAny (model prog w) A (getMethod (.ref x) name pl) Q E s := by
  have hcan : Manifest.canonical "BaseException.__getattribute__" = "object.__getattribute__" := by first | kernel_rfl | decide +kernel
  unfold getMethod specialOf
  refine wpAny_bind (wpAny_bind (I.type.here ((PySem.W.looks_findIn X T.ga).here ?_)))
  dsimp only
  rw [hcan, if_neg (by decide)]
  refine wpAny_bind (wpAny_bind (I.type.here ((PySem.W.looks_findIn X T.gg).here ?_)))
  refine wpAny_bind (wpAny_bind (I.type.here ((PySem.W.looks_findIn X hf).here (wpAny_bind ((PySem.W.looks_typeIn X (beq_iff_eq.mp ht)).here ?_)))))
  rw [if_neg (by decide +kernel)]
  refine wpAny_bind (wpAny_loadPart I.at_ ?_)
  have hd := I.dict
  cases e : ox.dict with
  | none => exact wpAny_bind (wpAny_rule (wpAny_pure h))
  | some dx =>
    cases od with
    | none => rw [e] at hd; exact hd.elim
    | some o =>
      rw [e] at hd
      refine wpAny_bind (wpAny_bind (wpAny_loadPart hd ?_))
      rw [PySem.W.nsLook_of (hs o rfl)]
      exact wpAny_pure (wpAny_bind (wpAny_rule (wpAny_pure h)))
/-- e.m() of a caught error of one of several classes; i: the slot of its name -/
def tTold (a : Addr) (cls : Value) (d : Option Addr) (S : Addr → V → Prop) (m : Str) (i : Nat) : TE := fun g0 G Q => ∃ (C dd : Addr) (fs : List (Str × V)) (out : V), S C out ∧ cls = .ref C ∧ d = some dd ∧ g0[i]? = some (some (.ref a)) ∧ G dd = some (.xd fs) ∧ fs.lookup m = none ∧ Q out G
theorem pe_told {X : Cx} {a : Addr} {oe : Obj} {cls : Value} {d : Option Addr} {p0 : List (Addr × Obj)} {e : Expr} {i k : Nat} {pos apos : Pos} {m : Str} {S : Addr → V → Prop} {pl : Sem Bool} (T : ∀ C out, S C out → SaysM X m k C out) (hr : Room k X.A)
    (hz : Zc cls d oe) (hf : ∃ vs, oe.data = .fields vs) (he : PE (X.suite a ((a, oe) :: p0)) e (tVar i))
    (ht : eval (.Call (.Attribute e m apos) [] [] pos) X.env = (do
      let ov ← eval e X.env
      standAt apos.atName
      let (f, first) ← holding [ov] (getMethod ov m pl)
      callWith pos f first (backTo pos (starEach [] X.env)) (backToKw pos (keywordEach [] X.env))) := by rfl) :
    PE (X.suite a ((a, oe) :: p0)) (.Call (.Attribute e m apos) [] [] pos) (tTold a cls d S m i) := by
  refine ⟨fun pins s σ H Q J h => ?_⟩
  obtain ⟨C, dd, fs, out, hS, rfl, rfl, hi, hx, l, q⟩ := h
  obtain ⟨xf, _, f, fd, hm, F, hb⟩ := T C out hS
  refine PySem.W.methodCall_KW (pl := pl) (thn (he.run pins s σ H (fun x H1 => x = .ref a ∧ H1 = H) J ⟨_, hi, rfl, rfl⟩) fun u s1 hh => ?_) ht
  obtain ⟨x, H1, I1, rx, rfl, rfl⟩ := hh
  obtain rfl : u = Value.ref a := rx
  have P1 := I1.pin (a, oe) (List.mem_append_left _ List.mem_cons_self)
  obtain ⟨vs, hd⟩ := hf
  have ob : ObjOk X.prog X.w H1 s1.heap dd (.xd fs) := I1.hok dd _ hx
  obtain ⟨mA, hns, hrl⟩ := ob
  obtain ⟨od, ho, hl⟩ := lookIn_ns hns
  have hn : mA m = none := RelO.none_of (by rw [← l]; exact hrl m)
  have Ii : PySem.W.InstAt s1.heap a oe C (some od) := ⟨P1.1, hz.1, by unfold PySem.W.notCls; rw [hd] <;> rfl, by rw [hz.2]; exact ho⟩
  refine got_meth I1.kIn Ii xf hm.at_ hm.fn (fun o e => by cases e; rw [hl, hn]) ?_
  refine PySem.W.callWith_K0 (first := [.ref a]) I1.kIn hm.kp ?_
  -- the def runs
  have r1 : Vals [V.ref a] [Value.ref a] := .cons rfl .nil
  have b := hb s1 [.ref a] I1.kIn rfl
  have hpin : PinOk (X.suite a ((a, oe) :: p0)).stack H1 s1 (a, oe) := ⟨P1.1, P1.2.1, fun hm => (List.mem_cons.mp (I1.stkSub a hm)).elim P1.2.2.1 P1.2.2.2.1, P1.2.2.2.2⟩
  refine wpAny_call (codeAny_mono (F.run _ _ s1 H1 ⟨[.ref a], []⟩ [.ref a] [.ref a] Q (fun _ _ _ => False) (a, oe) ⟨(roomH_of hr).dp, (roomH_of hr).un⟩ hpin I1.env0 b r1 ⟨_, rfl, q⟩) fun r s' hq => ?_)
  cases r with
  | error e => exact False.elim hq
  | ok fl =>
    cases fl with
    | ret u => exact I1.after hq
    | next => exact False.elim hq
    | brk => exact False.elim hq
    | cont => exact False.elim hq
end OTR
set_option Elab.async false
set_option linter.all false
set_option maxRecDepth 100000
set_option maxHeartbeats 2000000
namespace OTR
open PySem PySem.Spec PyProof.Rows L2 CwR
section
variable {X : Cx} {e : Expr} {es : List Expr} {te : TE} {t : TA} {pos : Pos}
theorem op_mul_str : OpR X (binaryOp .Mult) (fun x y H Q => ∃ i n, x = .str i ∧ y = .int n ∧ MulOk i n ∧ Q (.str (Txt.mul i n)) H) := by
  intro pins s σ H x y v u Q I rx ry h
  obtain ⟨i, n, rfl, rfl, hz, q⟩ := h
  obtain ⟨t, rfl⟩ := rx
  obtain ⟨t', rfl⟩ := ry
  exact SB.mul hz fun t' k => ⟨.str (Txt.mul i n), H, I.tok _, ⟨_, rfl⟩, q⟩
theorem pat_of (h : PA X es t) : PAT X es t := fun pos pins s σ H Q _ I q => h.run pos pins s σ H Q I q
theorem pat_consT (ha : PET X e te) (hr : PAT X es t) (hs : starEach (e :: es) X.env = (false, eval e X.env) :: starEach es X.env := by rfl) : PAT X (e :: es) (tCons te t) := by
  intro pos pins s σ H Q h0 I h
  rw [hs]
  show wpAny _ _ (spliced ((false, eval e X.env) :: backTo pos (starEach es X.env))) _ _ s
  refine Calls.spliced_cons (wpAny_mono (PySem.wpAny_toks (ha pins s σ H _ h0 I h)) (fun u s1 q => ?_) fun _ _ z => z.2)
  obtain ⟨hk, x, H1, I1, r1, q1⟩ := q
  exact thn (hr pos pins s1 σ H1 _ (Nat.le_trans h0 hk) I1 q1) fun us s2 ⟨xs, H2, I2, r2, q2⟩ => ⟨x :: xs, H2, I2, .cons r1 r2, q2⟩
theorem pet_lstT (h : PAT X es t) : PET X (.List es pos) (tLst t) := by
  intro pins s σ H Q h0 I hq
  refine wpAny_List_spliced (thn (h pos pins s σ H _ h0 I hq) fun us s1 ⟨xs, H1, I1, r, z, q⟩ => ⟨by rw [← r.length]; exact z, ?_⟩)
  have hf : H1 s1.heap.objs.size = none := I1.hok.fresh (Nat.le_refl _)
  refine ⟨.ref s1.heap.objs.size, upd H1 s1.heap.objs.size (.lst xs), I1.laid (t' := s1.toks) (fun b u e => Heap.get?_push_of_some _ e) (Nat.le_refl _) ?_, rfl, q _ hf⟩
  exact ⟨z, us, 0, r, Heap.get?_push_size _ rfl⟩
theorem pst_setT {i : Nat} {x : Str} {pos' : Pos} (hN : X.N.Nodup) (hi : X.N[i]? = some x) (hx : Loc X.env.scope x) (he : PET X e te) (hs : swapsWith e (some (.Name x pos')) pos.line X.env = pure false := by rfl) (hf : X.fn x = true ∨ X.env.scope.names.lookup x = some .local := by first | exact .inl rfl | exact .inr rfl | assumption) :
    PST X (.Assign [.Name x pos'] e pos) (tAsg te (gName i)) := by
  intro pins s σ H D h0 I h
  refine wpAny_Assign_Name (thn (he pins s σ H _ h0 I h) fun v s1 ⟨y, H1, I1, r1, q1⟩ => ?_) hs
  exact store_ok I1 hN hi hx r1 (fun s2 I2 => ⟨_, H1, I2, q1⟩) hf
end
section
variable {P : Program} {w : World} {K : PySem.W.Frag} {mg : Str → Option Value} {base : Heap}
theorem okT {x qual : Str} {st : Stmt} {f : Addr} {fd : FuncData} {N ps : List Str} {k : Nat} {sp : Sp} (F : Fun K x qual st f fd) (S : FnScope N ps (defScope st)) (hnc : ∀ y ∈ (defScope st).names, y.2 ≠ .cell) (hps : 1 ≤ ps.length) (len : ∀ vs H Q E, sp vs H Q E → vs.length = ps.length)
    (hbody : ∀ (cdv : Value) (A : Around) (outer : List Env) (s : Shared) (H : Hp) (vs : List V) (Q : VK) (E : XK), Room k (A.deeper (envOfC qual (defScope st) s.heap.objs.size f cdv)) → sp vs H Q E →
      ∃ t, PSsT (cxOf CX0 P w K mg base N qual (defScope st) f cdv A outer s H E) (defBody st) t ∧ t { nx := fun _ H' => Q .non H', rt := Q } (start N vs) H) : FnOk P w K mg base CX0 (k + 1) f fd ps sp := by
  obtain ⟨oc, od, kV, doc, pm, an, cdv, ct, osl, rfl, lk, hcd⟩ := F.ex
  exact fn_ofT lk hcd S hnc hps len fun A outer s H vs Q E hr hsp => hbody cdv A outer s H vs Q E hr hsp
end
end OTR
namespace OT
open PySem L2 OTR
def wt (l : List Str) : Nat := (l.map fun p => p.length).sum + l.length
theorem wt_app (a b : List Str) : wt (a ++ b) = wt a + wt b := by
  unfold wt
  rw [List.map_append, List.sum_append, List.length_append]
  omega
theorem wt_one (x : Str) : wt [x] = x.length + 1 := by simp [wt]
theorem wt_cons (x : Str) (l : List Str) : wt (x :: l) = x.length + 1 + wt l := by
  rw [show x :: l = [x] ++ l from rfl, wt_app, wt_one]
theorem wt_td (l : List Str) (k : Nat) : wt (l.take k) + wt (l.drop k) = wt l := by rw [← wt_app, List.take_append_drop]
theorem wt_drop (l : List Str) (k : Nat) : wt (l.drop k) ≤ wt l := by
  have := wt_td l k
  omega
theorem wt_set : ∀ (l : List Str) (k : Nat) (y : Str), wt (l.set k y) ≤ wt l + y.length
  | [], k, y => by simp
  | x :: l, 0, y => by
    rw [List.set_cons_zero, wt_cons, wt_cons]
    omega
  | x :: l, k + 1, y => by
    have := wt_set l k y
    rw [List.set_cons_succ, wt_cons, wt_cons]
    omega
theorem wt_len (l : List Str) : l.length ≤ wt l := by
  unfold wt
  omega
theorem spl_wt (S : List Nat) (hS : S ≠ []) : ∀ (n : Nat) (l acc : List Nat), l.length ≤ n → ((TL.spl S 0 acc l).map List.length).sum + (TL.spl S 0 acc l).length ≤ acc.length + l.length + 1
  | 0, l, acc, h => by
    have e : l = [] := List.eq_nil_of_length_eq_zero (Nat.le_zero.mp h)
    subst e
    rw [TL.spl_nil]
    simp
  | n + 1, [], acc, h => by
    rw [TL.spl_nil]
    simp
  | n + 1, c :: r, acc, h => by
    have hr : r.length ≤ n := by
      rw [List.length_cons] at h
      omega
    cases e : TL.pre S (c :: r) with
    | true =>
      rw [TL.spl_hit e, TL.spl_pass]
      have hd : (r.drop (S.length - 1)).length ≤ r.length := by
        rw [List.length_drop]
        omega
      have h1 := spl_wt S hS n (r.drop (S.length - 1)) [] (by omega)
      simp only [List.map_cons, List.sum_cons, List.length_cons, List.length_nil] at *
      omega
    | false =>
      rw [TL.spl_miss e]
      have h1 := spl_wt S hS n r (acc ++ [c]) hr
      simp only [List.length_append, List.length_cons, List.length_nil] at *
      omega
theorem split_wt {y : Str} (h0 : TL.tl y ≠ []) (hk : y.cps.all (· < 256) = true) (z : Str) : wt (Txt.split z y) ≤ z.length + 1 := by
  have e := TL.split_spl z y h0 (TL.kind_ok hk)
  have h1 := spl_wt (TL.tl y) h0 _ (TL.tl z) [] (Nat.le_refl _)
  rw [← e, List.map_map, List.length_map] at h1
  have e2 : (Txt.split z y).map (List.length ∘ TL.tl) = (Txt.split z y).map fun p => p.length := List.map_congr_left fun p _ => (TL.len_tl p).symm
  rw [e2, List.length_nil, Nat.zero_add, ← TL.len_tl] at h1
  exact h1
theorem joinL_le (S : List Nat) : ∀ (parts : List Str), (TL.joinL S (parts.map TL.tl)).length ≤ (parts.map fun p => p.length).sum + parts.length * S.length
  | [] => by simp [TL.joinL]
  | [q] => by
    have e : TL.joinL S ([q].map TL.tl) = TL.tl q := by simp [TL.joinL]
    rw [e, ← TL.len_tl]
    simp
  | q :: q2 :: qs => by
    have e : TL.joinL S ((q :: q2 :: qs).map TL.tl) = TL.tl q ++ S ++ TL.joinL S ((q2 :: qs).map TL.tl) := by simp [TL.joinL]
    have ih := joinL_le S (q2 :: qs)
    rw [e, List.length_append, List.length_append, ← TL.len_tl]
    simp only [List.map_cons, List.sum_cons, List.length_cons] at ih ⊢
    rw [Nat.add_mul _ 1, Nat.one_mul]
    omega
theorem join_wt (y : Str) (parts : List Str) : (Txt.join y parts).length ≤ (parts.map fun p => p.length).sum + parts.length * y.length := by
  rw [TL.join_eq, TL.len_tl, TL.tl_join, TL.len_tl y]
  exact joinL_le _ _
end OT
set_option Elab.async false
set_option linter.all false
set_option maxRecDepth 100000
set_option maxHeartbeats 2000000
namespace OT
open PySem L2 OTR CwR
abbrev sSpPart : Stmt := top 60
theorem ixN_nat {n k : Nat} (h : k < n) : ixN n ((k : Nat) : Int) = some k := by
  unfold ixN
  rw [if_pos (by omega), if_pos (by omega)]
  rfl
theorem pick_strs {K : PySem.W.Frag} {s : Addr} {G : Hp} {ys : List Str} {Q' : VK} (src : Src G s) (h0 : 0 < ys.length) (h1 : ys.length < 100) (k : ∀ (y : Str) (G' : Hp), y ∈ ys → Src G' s → But s G G' → Q' (.str y) G') : ∀ pl, G pl = none → spPick K [.ref s, .ref pl] (upd G pl (.lst (ys.map V.str))) Q' (fun _ _ _ => False) := fun pl hpl => by
  refine ⟨s, pl, _, rfl, src.same (Same.new hpl), src.new hpl, SqL.of upd_same, by rw [List.length_map]; exact h0, by rw [List.length_map]; omega, fun v G3 hv src3 b3 => ?_⟩
  obtain ⟨x, hx, rfl⟩ := List.mem_map.mp hv
  exact k x G3 hx src3 fun b o e nb => b3 b o (Same.new hpl b o e) nb
theorem skipI {σ : L2.St} {G : Hp} {ta u : TS} {D : Ends} {i : Nat} {d c : Int} (h : σ[i]? = some (some (.int d))) (n : d ≠ c) (k : u D σ G) : tSeq (tIfS (tTest (tOp rEq (tVar i) (tC (.int c)))) ta tNext) u D σ G := by
  refine ⟨_, h, rfl, _, rfl, ?_⟩
  rw [decide_eq_false (show ¬ ((V.int d : V) = V.int c) from fun q => n (V.int.inj q))]
  exact iteF k
theorem takeI {σ : L2.St} {G : Hp} {ta u : TS} {D : Ends} {i : Nat} {d c : Int} (h : σ[i]? = some (some (.int d))) (n : d = c) (k : ta { D with nx := u D } σ G) : tSeq (tIfS (tTest (tOp rEq (tVar i) (tC (.int c)))) ta tNext) u D σ G := by
  refine ⟨_, h, rfl, _, rfl, ?_⟩
  rw [decide_eq_true (show ((V.int d : V) = V.int c) from by rw [n])]
  exact iteT k
def spSpPart : Sp := fun vs H Q _ => ∃ (s : Addr) (z : Str), vs = [.ref s, .str z] ∧ Src H s ∧ z.length ≤ 100000 ∧ ∀ (y : Str) H', y.length ≤ 3 * z.length + 400 → Src H' s → But s H H' → Q (.str y) H'
section
variable {P : Program} {w : World} {K : PySem.W.Frag} {mg : Str → Option Value} {base : Heap}
abbrev nSpPart : List Str := ["_law_source_here", "_law_text", "_law_pieces", "_law_k", "_law_way", "_law_odd"]
theorem scSpPart : FnScope nSpPart ["_law_source_here", "_law_text"] (defScope sSpPart) := ⟨rfl, rfl, rfl, by decide +kernel, rfl, by decide +kernel, by decide +kernel⟩
theorem ok_spPart {f fD fP : Addr} {fd fdD fdP : FuncData} (F : Fun K "_law_spoilt_part" "_law_spoilt_part" sSpPart f fd)
    (FD : FnOk P w K mg base CX0 1 fD fdD ["_law_source_here", "_law_many"] spDraw) (bD : Binds K fdD ["_law_source_here", "_law_many"] []) (mD : mg "_law_draw" = some (.ref fD)) (kD : PySem.W.keepIn K (.ref fD) = true)
    (FP : FnOk P w K mg base CX0 2 fP fdP ["_law_source_here", "_law_some"] (spPick K)) (bP : Binds K fdP ["_law_source_here", "_law_some"] []) (mP : mg "_law_pick" = some (.ref fP)) (kP : PySem.W.keepIn K (.ref fP) = true)
    (hLen : mg "len" = none) : FnOk P w K mg base CX0 3 f fd ["_law_source_here", "_law_text"] spSpPart := by
  refine okT F scSpPart (by decide +kernel) (by decide) (fun vs H Q E h => ?_) (fun cdv A outer s0 H vs Q E hr h => ?_)
  · obtain ⟨s, z, rfl, _⟩ := h
    rfl
  · obtain ⟨s, z, rfl, src0, zl, kont⟩ := h
    have hr1 : Room 1 _ := hr.mono (by decide)
    have hr2 : Room 2 _ := hr.mono (by decide)
    refine ⟨_, psst_cons (PST.of (ps_set (i := 2) scSpPart.nd rfl (Or.inl rfl) (pe_bm PySem.F.plainAttrs_str PySem.F.slot_str_split PySem.F.type_str_split mt_split (pv 1) (pa_cons pe_str pa_nil))))
      (psst_cons (PST.of (ps_set (i := 3) scSpPart.nd rfl (Or.inl rfl) (pe_call FD hr1 rfl mD kD bD .nil pass0 (pa_cons (pv 0) (pa_cons (pe_callB call_len (by rfl) hLen (by decide +kernel) (pa_cons (pv 2) pa_nil)) pa_nil)))))
      (psst_cons (PST.of (ps_set (i := 4) scSpPart.nd rfl (Or.inl rfl) (pe_call FD hr1 rfl mD kD bD .nil pass0 (pa_cons (pv 0) (pa_cons pe_int pa_nil)))))
      (psst_cons (PST.of (ps_if (pt_cmpR op_eq (pv 4) pe_int (nomark _))
        (pss_one (ps_set (i := 2) scSpPart.nd rfl (Or.inl rfl) (pe_op op_catS (pe_slice sl_list (pv 2) po_none (po_some (pv 3))) (pe_slice sl_list (pv 2) (po_some (pe_op op_add (pv 3) pe_int)) po_none))))
        pss_nil))
      (psst_cons (PST.of (ps_if (pt_cmpR op_eq (pv 4) pe_int (nomark _))
        (pss_one (ps_expr (pe_bm PySem.F.plainAttrs_list PySem.F.slot_list_insert PySem.F.type_list_insert mt_insert (pv 2) (pa_cons (pv 3) (pa_cons (pe_call FP hr2 rfl mP kP bP .nil pass0 (pa_cons (pv 0) (pa_cons (pe_lst (pa_cons pe_str (pa_cons pe_str (pa_cons pe_str (pa_cons pe_str (pa_cons pe_str (pa_cons pe_str pa_nil))))))) pa_nil))) pa_nil)))))
        pss_nil))
      (psst_cons (PST.of (ps_if (pt_cmpR op_eq (pv 4) pe_int (nomark _))
        (pss_one (ps_asg (pe_call FP hr2 rfl mP kP bP .nil pass0 (pa_cons (pv 0) (pa_cons (pe_lst (pa_cons (pe_op op_add_str pe_str (pe_ix ix_list (pv 2) (pv 3) (fun _ _ => rfl))) (pa_cons (pe_op op_add_str pe_str (pe_ix ix_list (pv 2) (pv 3) (fun _ _ => rfl))) (pa_cons (pe_op op_add_str pe_str (pe_ix ix_list (pv 2) (pv 3) (fun _ _ => rfl))) (pa_cons (pe_op op_add_str (pe_ix ix_list (pv 2) (pv 3) (fun _ _ => rfl)) pe_str) (pa_cons pe_str (pa_cons pe_str pa_nil))))))) pa_nil))) (pg_sub (pv 2) (pv 3) set_list)))
        pss_nil))
      (psst_cons (PST.of (ps_if (pt_cmpR op_eq (pv 4) pe_int (nomark _))
        (pss_cons (ps_set (i := 5) scSpPart.nd rfl (Or.inl rfl) (pe_lst (pa_cons (pe_op op_mul_str pe_str pe_int) (pa_cons (pe_op op_mul_str pe_str pe_int) (pa_cons pe_str (pa_cons pe_str (pa_cons pe_str (pa_cons pe_str (pa_cons pe_str (pa_cons pe_str (pa_cons pe_str (pa_cons pe_str (pa_cons pe_str (pa_cons pe_str pa_nil))))))))))))))
        (pss_one (ps_asg (pe_call FP hr2 rfl mP kP bP .nil pass0 (pa_cons (pv 0) (pa_cons (pv 5) pa_nil))) (pg_sub (pv 2) (pv 3) set_list))))
        pss_nil))
      (psst_cons (PST.of (ps_if (pt_cmpR op_eq (pv 4) pe_int (nomark _))
        (pss_cons (ps_set (i := 5) scSpPart.nd rfl (Or.inl rfl) (pe_lst (pa_cons pe_str (pa_cons pe_str (pa_cons pe_str (pa_cons pe_str (pa_cons pe_str (pa_cons pe_str (pa_cons pe_str (pa_cons pe_str (pa_cons pe_str (pa_cons pe_str pa_nil))))))))))))
        (pss_one (ps_asg (pe_op op_add_str (pe_ix ix_list (pv 2) (pv 3) (fun _ _ => rfl)) (pe_call FP hr2 rfl mP kP bP .nil pass0 (pa_cons (pv 0) (pa_cons (pv 5) pa_nil)))) (pg_sub (pv 2) (pv 3) set_list))))
        pss_nil))
      (psst_cons (PST.of (ps_if (pt_cmpR op_eq (pv 4) pe_int (nomark _))
        (pss_one (ps_asg (pe_call FP hr2 rfl mP kP bP .nil pass0 (pa_cons (pv 0) (pa_cons (pe_lst (pa_cons pe_str (pa_cons pe_str (pa_cons pe_str (pa_cons pe_str (pa_cons pe_str (pa_cons pe_str (pa_cons pe_str (pa_cons pe_str (pa_cons pe_str (pa_cons pe_str pa_nil))))))))))) pa_nil))) (pg_sub (pv 2) pe_int set_list)))
        pss_nil))
      (psst_cons (PST.of (ps_set (i := 1) scSpPart.nd rfl (Or.inl rfl) (pe_bm PySem.F.plainAttrs_str PySem.F.slot_str_join PySem.F.type_str_join mt_join pe_str (pa_cons (pv 2) pa_nil))))
      (psst_cons (pst_if (pt_cmpR op_eq (pv 4) pe_int (nomark _))
        (psst_cons (pst_setT (i := 5) scSpPart.nd rfl (Or.inl rfl) (pet_lstT (pat_consT (PET.of (pe_op op_add_str pe_str (pv 1))) (pat_consT (PET.of (pe_op op_add_str (pv 1) pe_str)) (pat_consT (pet_replC (pv 1)) (pat_of (pa_cons pe_str (pa_cons pe_str (pa_cons (pe_op op_add_str (pv 1) pe_str) (pa_cons (pe_upper (pv 1)) (pa_cons pe_str pa_nil)))))))))))
        (psst_one (PST.of (ps_set (i := 1) scSpPart.nd rfl (Or.inl rfl) (pe_call FP hr2 rfl mP kP bP .nil pass0 (pa_cons (pv 0) (pa_cons (pv 5) pa_nil)))))))
        psst_nil)
      (psst_one (PST.of (ps_ret (pv 1)))))))))))))), ?_⟩
    have b0 : TL.tl (" " : Str) ≠ [] := by decide
    obtain ⟨sl1, sl2⟩ := split_len b0 sep_blank.kd z
    have w0 := split_wt b0 sep_blank.kd z
    have n0 := split_ne b0 sep_blank.kd z
    refine ⟨_, rfl, rfl, z, " ", rfl, rfl, by decide +kernel, (by rw [PySem.sizeLine_eq]; omega), fun D hD => ?_⟩
    generalize Txt.split z " " = ps at *
    have s1 := Same.new (o := .lst (ps.map V.str)) hD
    have gD := upd_same (H := H) (a := D) (o := .lst (ps.map V.str))
    have src1 := src0.same s1
    have nDs : D ≠ s := src0.new hD
    generalize upd H D (.lst (ps.map V.str)) = H1 at *
    have p0 : 0 < ps.length := List.length_pos_iff.mpr n0
    -- k, way
    refine ⟨_, rfl, _, rfl, _, _, rfl, .inl ⟨_, SqL.of gD, rfl⟩, s, _, rfl, src1, by rw [List.length_map]; omega, by rw [List.length_map]; omega, fun k0 H2 k1 k2 src2 b2 => ?_⟩
    rw [List.length_map] at k2
    obtain ⟨k, rfl⟩ : ∃ n : Nat, k0 = (n : Int) := ⟨k0.toNat, by omega⟩
    have kl : k < ps.length := by omega
    refine ⟨_, rfl, s, 8, rfl, src2, by decide, by decide, fun d H3 d1 d2 src3 b3 => ?_⟩
    have gD3 := b3 _ _ (b2 _ _ gD nDs) nDs
    have bH : But s H H3 := fun b o e nb => b3 b o (b2 b o (s1 b o e) nb) nb
    have fD : ∀ b o, H b = some o → b ≠ D := fun b o e => ne_of_none e hD
    clear src1 src2 b2 b3 gD s1
    dsimp only [gName]
    obtain ⟨pk, hpk⟩ : ∃ pk, ps[k]? = some pk := ⟨_, List.getElem?_eq_getElem kl⟩
    have pkl := sl2 pk (List.mem_of_getElem? hpk)
    have atk : atI (ps.map V.str) ((k : Nat) : Int) = some (.str pk) := atI_nat (by rw [List.getElem?_map, hpk]; rfl)
    have wl := wt_len ps
    have jl : ∀ {q : List Str} {n : Nat}, wt q ≤ n → n ≤ 400000 → (q.map fun p => p.length).sum + q.length * (" " : Str).length ≤ 16777216 ∧ (Txt.join " " q).length ≤ n := fun {q n} h1 h2 => by
      have e1 : (" " : Str).length = 1 := by decide
      have h3 := join_wt " " q
      unfold wt at h1
      rw [e1, Nat.mul_one] at h3 ⊢
      exact ⟨by omega, by omega⟩
    have lst12 : ∀ {l : List V}, l.length ≤ 12 → l.length ≤ sizeLine := fun h => Nat.le_trans h (by decide)
    by_cases w0' : d = 0
    · -- a piece is left out
      refine takeI rfl w0' ?_
      refine ⟨_, rfl, _, rfl, _, rfl, D, _, rfl, SqL.of gD3, fun q1 h1 => ?_⟩
      rw [cut_to (by rw [List.length_map]; omega), ← List.map_take]
      have t1 := Same.new (o := .lst ((ps.take k).map V.str)) h1
      refine ⟨_, rfl, _, rfl, _, _, rfl, rfl, _, rfl, D, _, rfl, SqL.of (t1 _ _ gD3), fun q2 h2 => ?_⟩
      rw [show ((k : Nat) : Int) + 1 = ((k + 1 : Nat) : Int) by omega, cut_from (by rw [List.length_map]; omega), ← List.map_drop]
      have t2 := t1.trans (Same.new (o := .lst ((ps.drop (k + 1)).map V.str)) h2)
      have g1 := Same.new (o := .lst ((ps.drop (k + 1)).map V.str)) h2 _ _ (upd_same (H := H3) (a := q1) (o := .lst ((ps.take k).map V.str)))
      refine ⟨q1, q2, (ps.take k).map V.str, (ps.drop (k + 1)).map V.str, rfl, rfl, SqL.of g1, SqL.of upd_same, (by rw [List.length_map, List.length_map, List.length_take, List.length_drop, PySem.sizeLine_eq]; omega), fun q3 h3 => ?_⟩
      rw [← List.map_append]
      have t3 := t2.trans (Same.new (o := .lst ((ps.take k ++ ps.drop (k + 1)).map V.str)) h3)
      have w3 : wt (ps.take k ++ ps.drop (k + 1)) ≤ z.length + 1 := by
        have h1 := wt_td ps k
        have h2 := wt_drop (ps.drop k) 1
        rw [List.drop_drop] at h2
        rw [wt_app]
        omega
      obtain ⟨j1, j2⟩ := jl w3 (by omega)
      refine skipI rfl (by omega) (skipI rfl (by omega) (skipI rfl (by omega) (skipI rfl (by omega) (skipI rfl (by omega) ?_))))
      refine ⟨rfl, _, rfl, " ", q3, _, rfl, rfl, .inl (SqL.of upd_same), j1, ?_⟩
      refine skipI rfl (by omega) ⟨_, rfl, kont _ _ (by omega) (src3.same t3) fun b o e nb => t3 b o (bH b o e nb)⟩
    refine skipI rfl w0' ?_
    -- writes into the list of pieces
    have put : ∀ {G : Hp} {q : List Str}, But s H G → Src G s → But s H (upd G D (.lst (q.map V.str))) ∧ Src (upd G D (.lst (q.map V.str))) s := fun {G q} b sr => ⟨fun c o e nb => by rw [upd_ne (fD c o e)]; exact b c o e nb, by obtain ⟨x, y, u, h0, h1⟩ := sr; exact ⟨x, y, u, h0, by rw [upd_ne (Ne.symm nDs)]; exact h1⟩⟩
    by_cases w1 : d = 1
    · refine takeI rfl w1 ?_
      refine ⟨_, rfl, .inl ⟨rfl, _, SqL.of gD3⟩, _, rfl, _, rfl, lst12 (by show 6 ≤ 12; decide), ?_⟩
      refine pick_strs (ys := ["0", "1", "-1", "", "x", "road"]) src3 (by show 0 < 6; decide) (by show 6 < 100; decide) fun y G' hy src4 b4 => ?_
      have yl : y.length ≤ 4 := by
        simp only [List.mem_cons, List.not_mem_nil, or_false] at hy
        rcases hy with rfl | rfl | rfl | rfl | rfl | rfl <;> decide
      have gD4 := b4 _ _ gD3 nDs
      refine ⟨D, _, ((k : Nat) : Int), .str y, rfl, rfl, gD4, (by rw [List.length_map, PySem.sizeLine_eq]; omega), by omega, by omega, ?_⟩
      rw [show ((k : Nat) : Int).toNat = k from rfl, ← List.map_take, ← List.map_drop, show List.map V.str (ps.take k) ++ [V.str y] ++ List.map V.str (ps.drop k) = (ps.take k ++ [y] ++ ps.drop k).map V.str by simp]
      obtain ⟨b5, src5⟩ := put (q := ps.take k ++ [y] ++ ps.drop k) (fun b o e nb => b4 b o (bH b o e nb) nb) src4
      have w3 : wt (ps.take k ++ [y] ++ ps.drop k) ≤ z.length + 6 := by
        have h1 := wt_td ps k
        rw [wt_app, wt_app, wt_one]
        omega
      obtain ⟨j1, j2⟩ := jl w3 (by omega)
      refine skipI rfl (by omega) (skipI rfl (by omega) (skipI rfl (by omega) (skipI rfl (by omega) ?_)))
      refine ⟨rfl, _, rfl, " ", D, _, rfl, rfl, .inl (SqL.of upd_same), j1, ?_⟩
      exact skipI rfl (by omega) ⟨_, rfl, kont _ _ (by omega) src5 b5⟩
    refine skipI rfl w1 ?_
    by_cases w2 : d = 2
    · refine takeI rfl w2 ?_
      have ap : ∀ (a b : Str), (a ++ b).length = a.length + b.length := fun a b => by rw [TL.len_tl, TL.tl_append, List.length_append, ← TL.len_tl, ← TL.len_tl]
      have e1 : ("0" : Str).length = 1 := by decide
      have e2 : ("-" : Str).length = 1 := by decide
      have e3 : ("+" : Str).length = 1 := by decide
      have e4 : ("." : Str).length = 1 := by decide
      have lim : pk.length + 1 ≤ sizeLine := by rw [PySem.sizeLine_eq]; omega
      refine ⟨_, rfl, _, rfl, _, rfl, D, _, _, .str pk, rfl, rfl, SqL.of gD3, atk, _, _, rfl, rfl, (by rw [e1]; omega), ?_⟩
      refine ⟨_, rfl, _, rfl, D, _, _, .str pk, rfl, rfl, SqL.of gD3, atk, _, _, rfl, rfl, (by rw [e2]; omega), ?_⟩
      refine ⟨_, rfl, _, rfl, D, _, _, .str pk, rfl, rfl, SqL.of gD3, atk, _, _, rfl, rfl, (by rw [e3]; omega), ?_⟩
      refine ⟨_, rfl, _, rfl, D, _, _, .str pk, rfl, rfl, SqL.of gD3, atk, _, _, rfl, rfl, (by rw [e4]; omega), lst12 (by show 6 ≤ 12; decide), ?_⟩
      refine pick_strs (ys := ["0" ++ pk, "-" ++ pk, "+" ++ pk, pk ++ ".", "00", "-0"]) src3 (by show 0 < 6; decide) (by show 6 < 100; decide) fun y G' hy src4 b4 => ?_
      have yl : y.length ≤ z.length + 2 := by
        simp only [List.mem_cons, List.not_mem_nil, or_false] at hy
        rcases hy with rfl | rfl | rfl | rfl | rfl | rfl
        · rw [ap, e1]; omega
        · rw [ap, e2]; omega
        · rw [ap, e3]; omega
        · rw [ap, e4]; omega
        · have : ("00" : Str).length = 2 := by decide
          omega
        · have : ("-0" : Str).length = 2 := by decide
          omega
      have gD4 := b4 _ _ gD3 nDs
      refine ⟨_, rfl, _, rfl, D, _, ((k : Nat) : Int), k, rfl, rfl, gD4, ixN_nat (by rw [List.length_map]; exact kl), ?_⟩
      rw [← List.map_set]
      obtain ⟨b5, src5⟩ := put (q := ps.set k y) (fun b o e nb => b4 b o (bH b o e nb) nb) src4
      have w3 : wt (ps.set k y) ≤ 2 * z.length + 3 := by
        have := wt_set ps k y
        omega
      obtain ⟨j1, j2⟩ := jl w3 (by omega)
      refine skipI rfl (by omega) (skipI rfl (by omega) (skipI rfl (by omega) ?_))
      refine ⟨rfl, _, rfl, " ", D, _, rfl, rfl, .inl (SqL.of upd_same), j1, ?_⟩
      exact skipI rfl (by omega) ⟨_, rfl, kont _ _ (by omega) src5 b5⟩
    refine skipI rfl w2 ?_
    by_cases w3' : d = 3
    · refine takeI rfl w3' ?_
      have m1 : MulOk ("1" : Str) 32 := ⟨by decide, fun _ _ => by decide, fun _ _ => by decide +kernel⟩
      have m2 : MulOk ("9" : Str) 31 := ⟨by decide, fun _ _ => by decide, fun _ _ => by decide +kernel⟩
      have l1 : (Txt.mul ("1" : Str) 32).length = 32 := by decide +kernel
      have l2 : (Txt.mul ("9" : Str) 31).length = 31 := by decide +kernel
      refine ⟨_, _, rfl, rfl, m1, _, _, rfl, rfl, m2, lst12 (by show 12 ≤ 12; decide), fun q1 h1 => ?_⟩
      have ys12 : ∀ y ∈ [Txt.mul ("1" : Str) 32, Txt.mul ("9" : Str) 31, ("0" : Str), "1", "2", "24", "", "a", "0:0", "0:1/1", "0:1/2", "0:2/2"], y.length ≤ 32 := fun y hy => by
        simp only [List.mem_cons, List.not_mem_nil, or_false] at hy
        rcases hy with rfl | rfl | rfl | rfl | rfl | rfl | rfl | rfl | rfl | rfl | rfl | rfl
        · rw [l1]; decide
        · rw [l2]; decide
        all_goals decide
      generalize Txt.mul ("1" : Str) 32 = y1 at *
      generalize Txt.mul ("9" : Str) 31 = y2 at *
      have t1 := Same.new (o := .lst (([y1, y2, "0", "1", "2", "24", "", "a", "0:0", "0:1/1", "0:1/2", "0:2/2"] : List Str).map V.str)) h1
      refine ⟨_, rfl, _, rfl, s, q1, _, rfl, src3.same t1, src3.new h1, SqL.of upd_same, (by show 0 < 12; decide), (by show 12 < 1000000; decide), fun v G' hv src4 b4' => ?_⟩
      obtain ⟨y, hy, rfl⟩ := List.mem_map.mp (show v ∈ ([y1, y2, "0", "1", "2", "24", "", "a", "0:0", "0:1/1", "0:1/2", "0:2/2"] : List Str).map V.str from hv)
      have yl := ys12 y hy
      have b4 : But s H3 G' := fun b o e nb => b4' b o (t1 b o e) nb
      have gD4 := b4 _ _ gD3 nDs
      refine ⟨_, rfl, _, rfl, D, _, ((k : Nat) : Int), k, rfl, rfl, gD4, ixN_nat (by rw [List.length_map]; exact kl), ?_⟩
      rw [← List.map_set]
      obtain ⟨b5, src5⟩ := put (q := ps.set k y) (fun b o e nb => b4 b o (bH b o e nb) nb) src4
      have w3 : wt (ps.set k y) ≤ z.length + 33 := by
        have := wt_set ps k y
        omega
      obtain ⟨j1, j2⟩ := jl w3 (by omega)
      refine skipI rfl (by omega) (skipI rfl (by omega) ?_)
      refine ⟨rfl, _, rfl, " ", D, _, rfl, rfl, .inl (SqL.of upd_same), j1, ?_⟩
      exact skipI rfl (by omega) ⟨_, rfl, kont _ _ (by omega) src5 b5⟩
    refine skipI rfl w3' ?_
    by_cases w4 : d = 4
    · refine takeI rfl w4 ?_
      refine ⟨lst12 (by show 10 ≤ 12; decide), fun q1 h1 => ?_⟩
      have ys10 : ∀ y ∈ ([":", "/", ":/", "/0", "/1", "/2", "/02", "1/", "//2", ":1"] : List Str), y.length ≤ 3 := fun y hy => by
        simp only [List.mem_cons, List.not_mem_nil, or_false] at hy
        rcases hy with rfl | rfl | rfl | rfl | rfl | rfl | rfl | rfl | rfl | rfl <;> decide
      have t1 := Same.new (o := .lst (([":", "/", ":/", "/0", "/1", "/2", "/02", "1/", "//2", ":1"] : List Str).map V.str)) h1
      refine ⟨_, rfl, _, rfl, D, _, _, .str pk, rfl, rfl, SqL.of (t1 _ _ gD3), atk, _, rfl, _, rfl, s, q1, _, rfl, src3.same t1, src3.new h1, SqL.of upd_same, (by show 0 < 10; decide), (by show 10 < 1000000; decide), fun v G' hv src4 b4' => ?_⟩
      obtain ⟨y, hy, rfl⟩ := List.mem_map.mp (show v ∈ ([":", "/", ":/", "/0", "/1", "/2", "/02", "1/", "//2", ":1"] : List Str).map V.str from hv)
      have yl := ys10 y hy
      have b4 : But s H3 G' := fun b o e nb => b4' b o (t1 b o e) nb
      have gD4 := b4 _ _ gD3 nDs
      refine ⟨_, _, rfl, rfl, (by rw [PySem.sizeLine_eq]; omega), _, rfl, _, rfl, D, _, ((k : Nat) : Int), k, rfl, rfl, gD4, ixN_nat (by rw [List.length_map]; exact kl), ?_⟩
      rw [← List.map_set]
      obtain ⟨b5, src5⟩ := put (q := ps.set k (pk ++ y)) (fun b o e nb => b4 b o (bH b o e nb) nb) src4
      have w3 : wt (ps.set k (pk ++ y)) ≤ 2 * z.length + 4 := by
        have h1 := wt_set ps k (pk ++ y)
        have h2 : (pk ++ y).length = pk.length + y.length := by rw [TL.len_tl, TL.tl_append, List.length_append, ← TL.len_tl, ← TL.len_tl]
        omega
      obtain ⟨j1, j2⟩ := jl w3 (by omega)
      refine skipI rfl (by omega) ?_
      refine ⟨rfl, _, rfl, " ", D, _, rfl, rfl, .inl (SqL.of upd_same), j1, ?_⟩
      exact skipI rfl (by omega) ⟨_, rfl, kont _ _ (by omega) src5 b5⟩
    refine skipI rfl w4 ?_
    by_cases w5 : d = 5
    · refine takeI rfl w5 ?_
      refine ⟨_, rfl, lst12 (by show 10 ≤ 12; decide), ?_⟩
      refine pick_strs (ys := ["road", "Road", "roads", "", "none", "1:0", "0:", ":0", "0:0:0", "0/1:2"]) src3 (by show 0 < 10; decide) (by show 10 < 100; decide) fun y G' hy src4 b4 => ?_
      have yl : y.length ≤ 5 := by
        simp only [List.mem_cons, List.not_mem_nil, or_false] at hy
        rcases hy with rfl | rfl | rfl | rfl | rfl | rfl | rfl | rfl | rfl | rfl <;> decide
      have gD4 := b4 _ _ gD3 nDs
      refine ⟨_, rfl, D, _, ((0 : Nat) : Int), 0, rfl, rfl, gD4, ixN_nat (by rw [List.length_map]; exact p0), ?_⟩
      rw [← List.map_set]
      obtain ⟨b5, src5⟩ := put (q := ps.set 0 y) (fun b o e nb => b4 b o (bH b o e nb) nb) src4
      have w3 : wt (ps.set 0 y) ≤ z.length + 6 := by
        have := wt_set ps 0 y
        omega
      obtain ⟨j1, j2⟩ := jl w3 (by omega)
      refine ⟨rfl, _, rfl, " ", D, _, rfl, rfl, .inl (SqL.of upd_same), j1, ?_⟩
      exact skipI rfl (by omega) ⟨_, rfl, kont _ _ (by omega) src5 b5⟩
    refine skipI rfl w5 ?_
    obtain ⟨j1, j2⟩ := jl w0 (by omega)
    refine ⟨rfl, _, rfl, " ", D, _, rfl, rfl, .inl (SqL.of gD3), j1, ?_⟩
    generalize Txt.join " " ps = x at *
    by_cases w6 : d = 6
    · refine takeI rfl w6 ?_
      have ap : ∀ (a b : Str), (a ++ b).length = a.length + b.length := fun a b => by rw [TL.len_tl, TL.tl_append, List.length_append, ← TL.len_tl, ← TL.len_tl]
      have e1 : (" " : Str).length = 1 := by decide
      have e2 : ("  " : Str).length = 2 := by decide
      have e3 : ("," : Str).length = 1 := by decide
      have rl := TK.replace_len x " " "  "
      rw [e2] at rl
      have ul := PyProof.Rows.len_upper x
      refine ⟨_, rfl, _, _, rfl, rfl, (by rw [e1, PySem.sizeLine_eq]; omega), _, rfl, _, _, rfl, rfl, (by rw [e1, PySem.sizeLine_eq]; omega), _, rfl, x, rfl, (by rw [e2]; omega), _, rfl, _, _, rfl, rfl, (by rw [e3, PySem.sizeLine_eq]; omega), _, rfl, ⟨x, rfl⟩, x, rfl, rfl, by omega, lst12 (by show 8 ≤ 12; decide), fun q1 h1 => ?_⟩
      have ys8 : ∀ y ∈ [" " ++ x, x ++ " ", Txt.replace x " " "  ", ("" : Str), " ", x ++ ",", Txt.upper x, "none"], y.length ≤ 3 * x.length + 10 := fun y hy => by
        simp only [List.mem_cons, List.not_mem_nil, or_false] at hy
        rcases hy with rfl | rfl | rfl | rfl | rfl | rfl | rfl | rfl
        · rw [ap, e1]; omega
        · rw [ap, e1]; omega
        · omega
        · have : ("" : Str).length = 0 := by decide
          omega
        · omega
        · rw [ap, e3]; omega
        · omega
        · have : ("none" : Str).length = 4 := by decide
          omega
      generalize Txt.replace x " " "  " = y1 at *
      generalize Txt.upper x = y2 at *
      have t1 := Same.new (o := .lst (([" " ++ x, x ++ " ", y1, ("" : Str), " ", x ++ ",", y2, "none"] : List Str).map V.str)) h1
      refine ⟨_, rfl, _, rfl, s, q1, _, rfl, src3.same t1, src3.new h1, SqL.of upd_same, (by show 0 < 8; decide), (by show 8 < 1000000; decide), fun v G' hv src4 b4' => ?_⟩
      obtain ⟨y, hy, rfl⟩ := List.mem_map.mp (show v ∈ ([" " ++ x, x ++ " ", y1, ("" : Str), " ", x ++ ",", y2, "none"] : List Str).map V.str from hv)
      have yl := ys8 y hy
      exact ⟨_, rfl, kont _ _ (by omega) src4 fun b o e nb => b4' b o (t1 b o (bH b o e nb)) nb⟩
    · exact skipI rfl w6 ⟨_, rfl, kont _ _ (by omega) src3 bH⟩
end
end OT
set_option Elab.async false
set_option linter.all false
set_option maxRecDepth 100000
set_option maxHeartbeats 4000000
namespace OT
open PySem L2 OTR CwR
abbrev sSpoilt : Stmt := top 61
theorem cutTS (ts : List Str) (i : Nat) {z : Int} (hz : z = (i : Int)) : cutV (ts.map V.str) none (some z) = (ts.take i).map V.str := by
  subst hz
  unfold cutV
  have e0 : HT.sIx (ts.map V.str).length 0 none = 0 := rfl
  have e1 : HT.sIx (ts.map V.str).length (ts.map V.str).length (some (i : Int)) = min i ts.length := by
    show (if (i : Int) < 0 then ((i : Int) + ((ts.map V.str).length : Int)).toNat else min (i : Int).toNat (ts.map V.str).length) = _
    rw [if_neg (by omega), Int.toNat_natCast, List.length_map]
  rw [e0, e1, List.drop_zero, Nat.sub_zero, List.map_take]
  by_cases h : i ≤ ts.length
  · rw [Nat.min_eq_left h]
  · rw [Nat.min_eq_right (by omega), List.take_of_length_le (by rw [List.length_map]; exact Nat.le_refl _), List.take_of_length_le (by rw [List.length_map]; omega)]
theorem cutDS (ts : List Str) (i : Nat) {z : Int} (hz : z = (i : Int)) : cutV (ts.map V.str) (some z) none = (ts.drop i).map V.str := by
  subst hz
  unfold cutV
  have e0 : HT.sIx (ts.map V.str).length 0 (some (i : Int)) = min i ts.length := by
    show (if (i : Int) < 0 then ((i : Int) + ((ts.map V.str).length : Int)).toNat else min (i : Int).toNat (ts.map V.str).length) = _
    rw [if_neg (by omega), Int.toNat_natCast, List.length_map]
  have e1 : HT.sIx (ts.map V.str).length (ts.map V.str).length none = ts.length := by
    show (ts.map V.str).length = _
    rw [List.length_map]
  rw [e0, e1, List.map_drop]
  by_cases h : i ≤ ts.length
  · rw [Nat.min_eq_left h, List.take_of_length_le (by rw [List.length_drop, List.length_map]; exact Nat.le_refl _)]
  · rw [Nat.min_eq_right (by omega), Nat.sub_self, List.take_zero, List.drop_of_length_le (by rw [List.length_map]; omega)]
theorem cutMS (ts : List Str) (i j : Nat) (ij : i ≤ j) {z y : Int} (hz : z = (i : Int)) (hy : y = (j : Int)) : cutV (ts.map V.str) (some z) (some y) = ((ts.take j).drop i).map V.str := by
  subst hz hy
  unfold cutV
  have e0 : HT.sIx (ts.map V.str).length 0 (some (i : Int)) = min i ts.length := by
    show (if (i : Int) < 0 then ((i : Int) + ((ts.map V.str).length : Int)).toNat else min (i : Int).toNat (ts.map V.str).length) = _
    rw [if_neg (by omega), Int.toNat_natCast, List.length_map]
  have e1 : HT.sIx (ts.map V.str).length (ts.map V.str).length (some (j : Int)) = min j ts.length := by
    show (if (j : Int) < 0 then ((j : Int) + ((ts.map V.str).length : Int)).toNat else min (j : Int).toNat (ts.map V.str).length) = _
    rw [if_neg (by omega), Int.toNat_natCast, List.length_map]
  rw [e0, e1, List.map_drop, List.map_take]
  apply List.ext_getElem?
  intro k
  rw [List.getElem?_take, List.getElem?_drop, List.getElem?_drop, List.getElem?_take]
  by_cases h1 : i ≤ ts.length
  · rw [Nat.min_eq_left h1]
    by_cases h2 : j ≤ ts.length
    · rw [Nat.min_eq_left h2]
      by_cases h3 : i + k < j
      · rw [if_pos (by omega), if_pos h3]
      · rw [if_neg (by omega), if_neg h3]
    · rw [Nat.min_eq_right (by omega)]
      by_cases h3 : i + k < ts.length
      · rw [if_pos (by omega), if_pos (by omega)]
      · rw [if_neg (by omega)]
        split
        · rw [List.getElem?_eq_none (by rw [List.length_map]; omega)]
        · rfl
  · rw [Nat.min_eq_right (by omega), Nat.min_eq_right (by omega), Nat.sub_self, if_neg (Nat.not_lt_zero _)]
    split
    · rw [List.getElem?_eq_none (by rw [List.length_map]; omega)]
    · rfl
def spSpoiltT (K : PySem.W.Frag) : Sp := fun vs H Q _ => ∃ (s l : Addr) (zs : List Str) (L : Nat), vs = [.ref s, .ref l] ∧ Src H s ∧ H l = some (.lst (zs.map V.str)) ∧ (∀ z ∈ zs, z.length ≤ L) ∧ L ≤ 100000 ∧ zs.length ≤ 50 ∧
  ∀ (D : Addr) (ys : List Str) H', (∀ y ∈ ys, y.length ≤ 3 * L + 400) → ys.length ≤ zs.length + 1 → H D = none → H' D = some (.lst (ys.map V.str)) → Src H' s → But s H H' → Q (.ref D) H'
section
variable {P : Program} {w : World} {K : PySem.W.Frag} {mg : Str → Option Value} {base : Heap}
abbrev nSpoilt : List Str := ["_law_source_here", "_law_some", "_law_at", "_law_way"]
theorem scSpoilt : FnScope nSpoilt ["_law_source_here", "_law_some"] (defScope sSpoilt) := ⟨rfl, rfl, rfl, by decide +kernel, rfl, by decide +kernel, by decide +kernel⟩
theorem ok_spoilt {f fD fP fS : Addr} {fd fdD fdP fdS : FuncData} (F : Fun K "_law_spoilt" "_law_spoilt" sSpoilt f fd)
    (FD : FnOk P w K mg base CX0 1 fD fdD ["_law_source_here", "_law_many"] spDraw) (bD : Binds K fdD ["_law_source_here", "_law_many"] []) (mD : mg "_law_draw" = some (.ref fD)) (kD : PySem.W.keepIn K (.ref fD) = true)
    (FP : FnOk P w K mg base CX0 2 fP fdP ["_law_source_here", "_law_some"] (spPick K)) (bP : Binds K fdP ["_law_source_here", "_law_some"] []) (mP : mg "_law_pick" = some (.ref fP)) (kP : PySem.W.keepIn K (.ref fP) = true)
    (FS : FnOk P w K mg base CX0 3 fS fdS ["_law_source_here", "_law_text"] spSpPart) (bS : Binds K fdS ["_law_source_here", "_law_text"] []) (mS : mg "_law_spoilt_part" = some (.ref fS)) (kS : PySem.W.keepIn K (.ref fS) = true)
    (hLen : mg "len" = none) : FnOk P w K mg base CX0 4 f fd ["_law_source_here", "_law_some"] (spSpoiltT K) := by
  refine F.ok scSpoilt (fun vs H Q E h => ?_) (fun cdv A outer s0 H vs Q E hr h => ?_)
  · obtain ⟨s, l, zs, L, rfl, _⟩ := h
    rfl
  · obtain ⟨s, l, zs, L, rfl, src0, hl, zl, LL, zn, kont⟩ := h
    have hr1 : Room 1 _ := hr.mono (by decide)
    have hr2 : Room 2 _ := hr.mono (by decide)
    have hr3 : Room 3 _ := hr.mono (by decide)
    have ul : (A.deeper (PyProof.Rows.envOfC "_law_spoilt" (defScope sSpoilt) s0.heap.objs.size f cdv)).units < cLine := Nat.lt_of_le_of_lt (Nat.le_add_right _ _) hr.units
    refine ⟨_, pss_cons (ps_if (pt_cmpR (op_eqNil ul) (pv 1) (pe_lst pa_nil) (nomark _))
        (pss_one (ps_ret (pe_lst (pa_cons (pe_call FP hr2 rfl mP kP bP .nil pass0 (pa_cons (pv 0) (pa_cons (pe_lst (pa_cons pe_str (pa_cons pe_str (pa_cons pe_str (pa_cons pe_str pa_nil))))) pa_nil))) pa_nil))))
        pss_nil)
      (pss_cons (ps_set (i := 2) scSpoilt.nd rfl (Or.inl rfl) (pe_call FD hr1 rfl mD kD bD .nil pass0 (pa_cons (pv 0) (pa_cons (pe_callB call_len (by rfl) hLen (by decide +kernel) (pa_cons (pv 1) pa_nil)) pa_nil))))
      (pss_cons (ps_set (i := 3) scSpoilt.nd rfl (Or.inl rfl) (pe_call FD hr1 rfl mD kD bD .nil pass0 (pa_cons (pv 0) (pa_cons pe_int pa_nil))))
      (pss_cons (ps_if (pt_cmpR op_eq (pv 3) pe_int (nomark _))
        (pss_one (ps_ret (pe_op op_catS (pe_slice sl_list (pv 1) po_none (po_some (pv 2))) (pe_slice sl_list (pv 1) (po_some (pe_op op_add (pv 2) pe_int)) po_none))))
        pss_nil)
      (pss_cons (ps_if (pt_cmpR op_eq (pv 3) pe_int (nomark _))
        (pss_one (ps_ret (pe_op op_catS (pe_slice sl_list (pv 1) po_none (po_some (pe_op op_add (pv 2) pe_int))) (pe_slice sl_list (pv 1) (po_some (pv 2)) po_none))))
        pss_nil)
      (pss_cons (ps_if (pt_cmpR op_eq (pv 3) pe_int (nomark _))
        (pss_one (ps_ret (pe_op op_catS (pe_op op_catS (pe_slice sl_list (pv 1) po_none (po_some (pv 2))) (pe_revL (pe_slice sl_list (pv 1) (po_some (pv 2)) (po_some (pe_op op_add (pv 2) pe_int))))) (pe_slice sl_list (pv 1) (po_some (pe_op op_add (pv 2) pe_int)) po_none))))
        pss_nil)
      (pss_one (ps_ret (pe_op op_catS (pe_op op_catS (pe_slice sl_list (pv 1) po_none (po_some (pv 2))) (pe_lst (pa_cons (pe_call FS hr3 rfl mS kS bS .nil pass0 (pa_cons (pv 0) (pa_cons (pe_ix ix_list (pv 1) (pv 2) (fun _ _ => rfl)) pa_nil))) pa_nil))) (pe_slice sl_list (pv 1) (po_some (pe_op op_add (pv 2) pe_int)) po_none))))))))), ?_⟩
    have nls : l ≠ s := src0.ne hl fun x y z e => by
      have e1 := HO.lst.inj e
      cases zs with
      | nil => exact nomatch e1
      | cons t r => exact nomatch (List.cons.inj e1).1
    -- if some == []
    refine ⟨_, rfl, Nat.zero_le _, fun p0 h0 => ?_⟩
    have t0 := Same.new (o := .lst []) h0
    refine ⟨l, p0, _, rfl, rfl, SqL.of (t0 _ _ hl), SqL.of upd_same, _, rfl, ?_⟩
    have src1 := src0.same t0
    have hl1 := t0 _ _ hl
    clear h0
    generalize upd H p0 (.lst []) = H1 at *
    by_cases e0 : zs = []
    · subst e0
      refine iteT ?_
      refine ⟨_, rfl, (by show 4 ≤ sizeLine; decide), ?_⟩
      refine pick_strs (ys := ["", "road", "none", "0:0 1"]) src1 (by show 0 < 4; decide) (by show 4 < 100; decide) fun y G hy src2 b2 => ?_
      have yl : y.length ≤ 5 := by
        simp only [List.mem_cons, List.not_mem_nil, or_false] at hy
        rcases hy with rfl | rfl | rfl | rfl <;> decide
      refine ⟨(by show 1 ≤ sizeLine; decide), fun D hD => ?_⟩
      have bD' : But s H G := fun b o e nb => b2 b o (t0 b o e) nb
      refine kont D [y] _ (fun u hu => by rw [List.mem_singleton.mp hu]; omega) (Nat.le_refl _) ?_ upd_same (src2.same (Same.new hD)) fun b o e nb => Same.new hD b o (bD' b o e nb)
      cases e : H D with
      | none => rfl
      | some o =>
        by_cases nb : D = s
        · rw [nb] at hD
          obtain ⟨x, y, u, h0, h1⟩ := src2
          rw [h1] at hD
          cases hD
        · rw [bD' D o e nb] at hD
          cases hD
    have em : ((zs.map V.str).isEmpty) = false := by
      cases zs with
      | nil => exact absurd rfl e0
      | cons r fs => rfl
    rw [em]
    have p0' : 0 < zs.length := List.length_pos_iff.mpr e0
    refine iteF ?_
    -- at, way
    refine ⟨_, rfl, _, rfl, _, _, rfl, .inl ⟨_, SqL.of hl1, rfl⟩, s, _, rfl, src1, by rw [List.length_map]; omega, by rw [List.length_map]; omega, fun k0 H2 k1 k2 src2 b2 => ?_⟩
    rw [List.length_map] at k2
    obtain ⟨k, rfl⟩ : ∃ n : Nat, k0 = (n : Int) := ⟨k0.toNat, by omega⟩
    have kl : k < zs.length := by omega
    refine ⟨_, rfl, s, 7, rfl, src2, by decide, by decide, fun d H3 d1 d2 src3 b3 => ?_⟩
    have hl3 := b3 _ _ (b2 _ _ hl1 nls) nls
    have bH : But s H H3 := fun b o e nb => b3 b o (b2 b o (t0 b o e) nb) nb
    clear src1 src2 b2 b3 hl1 t0
    dsimp only [gName]
    obtain ⟨pk, hpk⟩ : ∃ pk, zs[k]? = some pk := ⟨_, List.getElem?_eq_getElem kl⟩
    have pkl := zl pk (List.mem_of_getElem? hpk)
    have atk : atI (zs.map V.str) ((k : Nat) : Int) = some (.str pk) := atI_nat (by rw [List.getElem?_map, hpk]; rfl)
    have free : ∀ {G : Hp} {D : Addr}, Src G s → But s H G → G D = none → H D = none := fun {G D} sr b hD => by
      cases e : H D with
      | none => rfl
      | some o =>
        by_cases nb : D = s
        · rw [nb] at hD
          obtain ⟨x, y, u, h0, h1⟩ := sr
          rw [h1] at hD
          cases hD
        · rw [b D o e nb] at hD
          cases hD
    have k1e : ((k : Nat) : Int) + 1 = ((k + 1 : Nat) : Int) := by omega
    have k2e : ((k : Nat) : Int) + 2 = ((k + 2 : Nat) : Int) := by omega
    have fin : ∀ {G : Hp} {D : Addr} {ys : List Str}, Same H3 G → (∀ y ∈ ys, y ∈ zs) → ys.length ≤ zs.length + 1 → G D = none → Q (.ref D) (upd G D (.lst (ys.map V.str))) := fun {G D ys} sg hy hn hD =>
      kont D ys _ (fun y h => by have := zl y (hy y h); omega) hn (free (src3.same sg) (fun b o e nb => sg b o (bH b o e nb)) hD) upd_same ((src3.same sg).same (Same.new hD)) fun b o e nb => Same.new hD b o (sg b o (bH b o e nb))
    by_cases w0 : d = 0
    · refine takeI rfl w0 ?_
      refine ⟨_, rfl, _, rfl, _, rfl, l, _, rfl, SqL.of hl3, fun q1 h1 => ?_⟩
      rw [cutTS zs k rfl]
      have t1 := Same.new (o := .lst ((zs.take k).map V.str)) h1
      refine ⟨_, rfl, _, rfl, _, _, rfl, rfl, _, rfl, l, _, rfl, SqL.of (t1 _ _ hl3), fun q2 h2 => ?_⟩
      rw [cutDS zs (k + 1) k1e]
      have t2 := t1.trans (Same.new (o := .lst ((zs.drop (k + 1)).map V.str)) h2)
      have g1 := Same.new (o := .lst ((zs.drop (k + 1)).map V.str)) h2 _ _ (upd_same (H := H3) (a := q1) (o := .lst ((zs.take k).map V.str)))
      refine ⟨q1, q2, _, _, rfl, rfl, SqL.of g1, SqL.of upd_same, (by rw [List.length_map, List.length_map, List.length_take, List.length_drop, PySem.sizeLine_eq]; omega), fun q3 h3 => ?_⟩
      rw [← List.map_append]
      exact fin t2 (fun y hy => (List.mem_append.mp hy).elim List.mem_of_mem_take List.mem_of_mem_drop) (by rw [List.length_append, List.length_take, List.length_drop]; omega) h3
    refine skipI rfl w0 ?_
    by_cases w1 : d = 1
    · refine takeI rfl w1 ?_
      refine ⟨_, rfl, _, rfl, _, _, rfl, rfl, _, rfl, l, _, rfl, SqL.of hl3, fun q1 h1 => ?_⟩
      rw [cutTS zs (k + 1) k1e]
      have t1 := Same.new (o := .lst ((zs.take (k + 1)).map V.str)) h1
      refine ⟨_, rfl, _, rfl, _, rfl, l, _, rfl, SqL.of (t1 _ _ hl3), fun q2 h2 => ?_⟩
      rw [cutDS zs k rfl]
      have t2 := t1.trans (Same.new (o := .lst ((zs.drop k).map V.str)) h2)
      have g1 := Same.new (o := .lst ((zs.drop k).map V.str)) h2 _ _ (upd_same (H := H3) (a := q1) (o := .lst ((zs.take (k + 1)).map V.str)))
      refine ⟨q1, q2, _, _, rfl, rfl, SqL.of g1, SqL.of upd_same, (by rw [List.length_map, List.length_map, List.length_take, List.length_drop, PySem.sizeLine_eq]; omega), fun q3 h3 => ?_⟩
      rw [← List.map_append]
      exact fin t2 (fun y hy => (List.mem_append.mp hy).elim List.mem_of_mem_take List.mem_of_mem_drop) (by rw [List.length_append, List.length_take, List.length_drop]; omega) h3
    refine skipI rfl w1 ?_
    by_cases w2 : d = 2
    · refine takeI rfl w2 ?_
      refine ⟨_, rfl, _, rfl, _, rfl, l, _, rfl, SqL.of hl3, fun q1 h1 => ?_⟩
      rw [cutTS zs k rfl]
      have t1 := Same.new (o := .lst ((zs.take k).map V.str)) h1
      refine ⟨_, rfl, _, rfl, _, rfl, _, rfl, _, _, rfl, rfl, _, rfl, l, _, rfl, SqL.of (t1 _ _ hl3), fun q2 h2 => ?_⟩
      rw [cutMS zs k (k + 2) (by omega) rfl k2e]
      have t2' := Same.new (o := .lst (((zs.take (k + 2)).drop k).map V.str)) h2
      have t2 := t1.trans t2'
      refine ⟨q2, _, rfl, SqL.of upd_same, fun q2r h2r => ?_⟩
      rw [← List.map_reverse]
      have t2r' := Same.new (o := .lst (((zs.take (k + 2)).drop k).reverse.map V.str)) h2r
      have t2r := t2.trans t2r'
      refine ⟨q1, q2r, _, _, rfl, rfl, SqL.of (t2r' _ _ (t2' _ _ upd_same)), SqL.of upd_same, (by rw [PySem.sizeLine_eq, List.length_map, List.length_map, List.length_reverse, List.length_drop, List.length_take, List.length_take]; omega), fun q3 h3 => ?_⟩
      rw [← List.map_append]
      have t3 := t2r.trans (Same.new (o := .lst ((zs.take k ++ ((zs.take (k + 2)).drop k).reverse).map V.str)) h3)
      refine ⟨_, rfl, _, rfl, _, _, rfl, rfl, _, rfl, l, _, rfl, SqL.of (t3 _ _ hl3), fun q4 h4 => ?_⟩
      rw [cutDS zs (k + 2) k2e]
      have t4' := Same.new (o := .lst ((zs.drop (k + 2)).map V.str)) h4
      refine ⟨q3, q4, _, _, rfl, rfl, SqL.of (t4' _ _ upd_same), SqL.of upd_same, (by rw [PySem.sizeLine_eq, List.length_map, List.length_append, List.length_map, List.length_reverse, List.length_take, List.length_drop, List.length_take, List.length_drop]; omega), fun q5 h5 => ?_⟩
      rw [← List.map_append]
      refine fin (t3.trans t4') (fun y hy => ?_) (by rw [List.length_append, List.length_append, List.length_reverse, List.length_take, List.length_drop, List.length_take, List.length_drop]; omega) h5
      rcases List.mem_append.mp hy with h | h
      · rcases List.mem_append.mp h with h | h
        · exact List.mem_of_mem_take h
        · exact List.mem_of_mem_take (List.mem_of_mem_drop (List.mem_reverse.mp h))
      · exact List.mem_of_mem_drop h
    refine skipI rfl w2 ?_
    refine ⟨_, rfl, _, rfl, _, rfl, l, _, rfl, SqL.of hl3, fun q1 h1 => ?_⟩
    rw [cutTS zs k rfl]
    have t1 := Same.new (o := .lst ((zs.take k).map V.str)) h1
    refine ⟨_, rfl, _, rfl, _, rfl, l, _, _, .str pk, rfl, rfl, SqL.of (t1 _ _ hl3), atk, s, pk, rfl, src3.same t1, Nat.le_trans pkl LL, fun y G yl src4 b4' => ?_⟩
    have b4 : But s H3 G := fun b o e nb => b4' b o (t1 b o e) nb
    have n1s : q1 ≠ s := src3.new h1
    have g1 := b4' _ _ (upd_same (H := H3) (a := q1) (o := .lst ((zs.take k).map V.str))) n1s
    refine ⟨(by show 1 ≤ sizeLine; decide), fun q2 h2 => ?_⟩
    have t2 := Same.new (o := .lst [.str y]) h2
    refine ⟨q1, q2, (zs.take k).map V.str, [.str y], rfl, rfl, SqL.of (t2 _ _ g1), SqL.of upd_same, (by rw [PySem.sizeLine_eq, List.length_map, List.length_take]; show _ + 1 ≤ _; omega), fun q3 h3 => ?_⟩
    rw [show (zs.take k).map V.str ++ [V.str y] = (zs.take k ++ [y]).map V.str by simp]
    have t3 := t2.trans (Same.new (o := .lst ((zs.take k ++ [y]).map V.str)) h3)
    refine ⟨_, rfl, _, rfl, _, _, rfl, rfl, _, rfl, l, _, rfl, SqL.of (t3 _ _ (b4 _ _ hl3 nls)), fun q4 h4 => ?_⟩
    rw [cutDS zs (k + 1) k1e]
    have t4' := Same.new (o := .lst ((zs.drop (k + 1)).map V.str)) h4
    have t4 := t3.trans t4'
    refine ⟨q3, q4, _, _, rfl, rfl, SqL.of (t4' _ _ upd_same), SqL.of upd_same, (by rw [PySem.sizeLine_eq, List.length_map, List.length_append, List.length_map, List.length_take, List.length_drop]; show _ + 1 + _ ≤ _; omega), fun q5 h5 => ?_⟩
    rw [← List.map_append]
    have b5 : But s H (upd (upd (upd G q2 (.lst [.str y])) q3 (.lst ((zs.take k ++ [y]).map V.str))) q4 (.lst ((zs.drop (k + 1)).map V.str))) := fun b o e nb => t4 b o (b4 b o (bH b o e nb) nb)
    refine kont q5 _ _ (fun u hu => ?_) (by rw [List.length_append, List.length_append, List.length_take, List.length_drop]; show _ + 1 + _ ≤ _; omega) (free (src4.same t4) b5 h5) upd_same ((src4.same t4).same (Same.new h5)) fun b o e nb => Same.new h5 b o (b5 b o e nb)
    rcases List.mem_append.mp hu with h | h
    · rcases List.mem_append.mp h with h | h
      · have := zl u (List.mem_of_mem_take h)
        omega
      · rw [List.mem_singleton.mp h]
        omega
    · have := zl u (List.mem_of_mem_drop h)
      omega
end
end OT
set_option Elab.async false
set_option linter.all false
set_option maxRecDepth 100000
set_option maxHeartbeats 2000000
namespace OT
open PySem L2 OTR
abbrev sBadRow : Stmt := inClass (top 9) 0
abbrev sBadText : Stmt := inClass (top 10) 0
section
variable {P : Program} {w : World} {K : PySem.W.Frag} {mg : Str → Option Value} {base : Heap}
theorem scBadRow : FnScope ["self", "number"] ["self", "number"] (defScope sBadRow) := ⟨rfl, rfl, rfl, by decide +kernel, rfl, by decide +kernel, by decide +kernel⟩
theorem ok_badRow {f C : Addr} {fd : FuncData} (F : Fun K "__init__" "BadRow.__init__" sBadRow f fd) (T : OexC K C) (n1 : PySem.W.findIn K (.ref C) "number" = some none) : FnOk P w K mg base CX0 1 f fd ["self", "number"] (spEr1 C "number") := by
  refine F.ok scBadRow (fun vs H Q E h => ?_) (fun cdv A outer s H vs Q E hr h => ?_)
  · obtain ⟨a, v, rfl, _⟩ := h
    rfl
  · obtain ⟨a, v, rfl, ha, k⟩ := h
    refine ⟨_, pss_one (ps_ost (pv 0) (pv 1)), ?_⟩
    exact ⟨_, rfl, _, rfl, a, C, rfl, T, n1, .inl ⟨ha, fun dx n ne => k dx n ne⟩⟩
theorem scBadText : FnScope ["self", "place"] ["self", "place"] (defScope sBadText) := ⟨rfl, rfl, rfl, by decide +kernel, rfl, by decide +kernel, by decide +kernel⟩
theorem ok_badText {f C : Addr} {fd : FuncData} (F : Fun K "__init__" "BadText.__init__" sBadText f fd) (T : OexC K C) (n1 : PySem.W.findIn K (.ref C) "place" = some none) : FnOk P w K mg base CX0 1 f fd ["self", "place"] (spEr1 C "place") := by
  refine F.ok scBadText (fun vs H Q E h => ?_) (fun cdv A outer s H vs Q E hr h => ?_)
  · obtain ⟨a, v, rfl, _⟩ := h
    rfl
  · obtain ⟨a, v, rfl, ha, k⟩ := h
    refine ⟨_, pss_one (ps_ost (pv 0) (pv 1)), ?_⟩
    exact ⟨_, rfl, _, rfl, a, C, rfl, T, n1, .inl ⟨ha, fun dx n ne => k dx n ne⟩⟩
end
end OT
set_option Elab.async false
set_option linter.all false
set_option maxRecDepth 100000
set_option maxHeartbeats 4000000
namespace OT
open PySem L2 OTR LamX
abbrev sSaid : Stmt := top 59
/-- what an error is to the law -/
inductive ErrL
  | row (n : Int) | text (n : Int) | ref (C : Addr) (out : Str) (fs : List (Str × V))
def clL (CBR CBT : Addr) : ErrL → Addr
  | .row _ => CBR
  | .text _ => CBT
  | .ref C _ _ => C
def fdL : ErrL → List (Str × V)
  | .row n => [("number", .int n)]
  | .text n => [("place", .int n)]
  | .ref _ _ fs => fs
def tupL : ErrL → List V
  | .row n => [.str "row", .int n]
  | .text n => [.str "text", .int n]
  | .ref _ out _ => [.str "refused", .str out]
def okL (S : Addr → V → Prop) : ErrL → Prop
  | .ref C out fs => S C (.str out) ∧ fs.lookup ("told" : Str) = none
  | _ => True
def ErXL (CBR CBT : Addr) (S : Addr → V → Prop) (Q : VK) : XK := fun cls d H => ∃ (e : ErrL) (dd : Addr), cls = .ref (clL CBR CBT e) ∧ d = some dd ∧ H dd = some (.xd (fdL e)) ∧ okL S e ∧ ∀ p H', Same H H' → H' p = some (.tup (tupL e)) → Q (.ref p) H'
def TSaidL (CBR CBT : Addr) (S : Addr → V → Prop) : (XK → Hp → VK → Prop) → Hp → VK → Prop := fun tl H Q =>
  ∀ Kk : VK, (∀ v H1, (∀ p, H1 p = none → Q (.ref p) (upd H1 p (.tup [.str "told", v]))) → Kk v H1) → tl (ErXL CBR CBT S Q) H Kk
/-- of the classes: what the clauses say of them -/
structure ExL (K : PySem.W.Frag) (CBR CBT CTE : Addr) (S : Addr → V → Prop) : Prop where
  rr : PySem.W.exmOne K (.ref CBR) (.ref CBR) = some true
  tr : PySem.W.exmOne K (.ref CBT) (.ref CBR) = some false
  tt : PySem.W.exmOne K (.ref CBT) (.ref CBT) = some true
  sr : ∀ C out, S C out → PySem.W.exmOne K (.ref C) (.ref CBR) = some false
  st : ∀ C out, S C out → PySem.W.exmOne K (.ref C) (.ref CBT) = some false
  se : ∀ C out, S C out → PySem.W.exmOne K (.ref C) (.ref CTE) = some true
abbrev nSaid : List Str := ["_law_ask", "_law_found", "e"]
theorem scSaid : FnScope nSaid ["_law_ask"] (defScope sSaid) := ⟨rfl, rfl, rfl, by decide +kernel, rfl, by decide +kernel, by decide +kernel⟩
theorem takes_lenL {X : Cx} {W : WX} (t : Takes X W) : Takes X (fun c d σ H => σ.length = X.N.length → W c d σ H) := fun u s' ⟨a, B, sI, pins, σ, H, cls, d, e, I, nb, up, sky, na, os, ag, w⟩ =>
  t u s' ⟨a, B, sI, pins, σ, H, cls, d, e, I, nb, up, sky, na, os, ag, w I.len⟩
theorem said_gives {X : Cx} {g : Addr} {cdg : Value} {q : Str} {CBR CBT CTE fBR fBT : Addr} {S : Addr → V → Prop} (TBR : ErT X.K X.mg "BadRow" CBR fBR) (TBT : ErT X.K X.mg "BadText" CBT fBT) (gTE : X.mg "TrainError" = some (.ref CTE))
    (nR : PySem.W.findIn X.K (.ref CBR) "number" = some none) (nT : PySem.W.findIn X.K (.ref CBT) "place" = some none) (I : ExL X.K CBR CBT CTE S) (T : ∀ C out, S C out → SaysM X "told" 1 C out) (hr : Room 2 X.A) :
    GivesTo X nSaid "_law_said" (defScope sSaid) g cdg (defBody sSaid) "_law_ask" q (TSaidL CBR CBT S) := by
  intro f c' s H Q tl act hc h
  refine ⟨_, pss_cons (ps_set (i := 1) scSaid.nd rfl (Or.inl rfl) pe_non)
    (pss_cons (ps_try_mix (tb := fun W D σ H => ∃ Ech : XK, (∀ cls d σ' H', σ'.length = 3 → Ech cls d H' → W cls d σ' H') ∧ σ[0]? = some (some (.ref f)) ∧ H c' = some (CodeO c' q) ∧ tl Ech H fun v H' => [V.str "told", v].length ≤ sizeLine ∧ ∀ p, H' p = none → D.nx (σ.set 1 (some (.ref p))) (upd H' p (.tup [.str "told", v])))
        (l := [(.ref CBR, some 2, fun a cls d => tAsg (tTup (tCons (tC (.str "row")) (tCons (tXf a cls d CBR "number" (tVar 2)) tNil))) (gName 1)), (.ref CBT, some 2, fun a cls d => tAsg (tTup (tCons (tC (.str "text")) (tCons (tXf a cls d CBT "place" (tVar 2)) tNil))) (gName 1)),
          (.ref CTE, some 2, fun a cls d => tAsg (tTup (tCons (tC (.str "refused")) (tCons (tTold a cls d S "told" 2) tNil))) (gName 1))]) (Wout := fun _ _ _ _ => False) rfl rfl scSaid.nd LamX.takes0
        (fun W pn xe tk _ => ⟨fun pins s' σ H' D J h' => by
          obtain ⟨Ech, hW, h1, h2, h3⟩ := h'
          exact (pss_one (ps_set (i := 1) scSaid.nd rfl (Or.inl rfl) (pe_tup (pa_cons pe_str (pa_cons (act (fun c d σ H => σ.length = 3 → W c d σ H) pn xe Ech _ _ (takes_lenL tk) (fun cls d σ' H' e l => hW cls d σ' H' l e)) pa_nil))))).run pins s' σ H' D J ⟨h1, h2, h3⟩⟩)
        (.named ⟨rfl, by decide, Or.inl TBR.gC⟩ rfl rfl (fun a oe cls d pn hz hf => pss_one (ps_set (i := 1) scSaid.nd rfl (Or.inl rfl) (pe_tup (pa_cons pe_str (pa_cons (pe_xf TBR.xf nR hz hf (pv 2)) pa_nil)))))
        (.named ⟨rfl, by decide, Or.inl TBT.gC⟩ rfl rfl (fun a oe cls d pn hz hf => pss_one (ps_set (i := 1) scSaid.nd rfl (Or.inl rfl) (pe_tup (pa_cons pe_str (pa_cons (pe_xf TBT.xf nT hz hf (pv 2)) pa_nil)))))
        (.named ⟨rfl, by decide, Or.inl gTE⟩ rfl rfl (fun a oe cls d pn hz hf => pss_one (ps_set (i := 1) scSaid.nd rfl (Or.inl rfl) (pe_tup (pa_cons pe_str (pa_cons (pe_told (k := 1) (fun C out hS => let t := T C out hS; ⟨t.xf, True.intro, t.ex⟩) (hr.deeper _) hz hf (pv 2)) pa_nil))))) .nil))))
    (pss_one (ps_ret (pv 1)))), ?_⟩
  have two : ∀ {u v : V}, [u, v].length ≤ sizeLine := fun {u v} => (by show 2 ≤ sizeLine; decide)
  refine ⟨ErXL CBR CBT S Q, fun cls d σ' H' hl he => ?_, rfl, hc, h _ fun v H1 k => ⟨two, fun p hp => ⟨_, rfl, k p hp⟩⟩⟩
  obtain ⟨v0, v1, v2, rfl⟩ : ∃ v0 v1 v2, σ' = [v0, v1, v2] := by
    match σ', hl with
    | [v0, v1, v2], _ => exact ⟨v0, v1, v2, rfl⟩
  obtain ⟨e, dd, rfl, rfl, hx, ok, tell⟩ := he
  cases e with
  | row n =>
    refine ⟨true, I.rr, fun _ a ha => ?_, fun q => nomatch q⟩
    refine ⟨_, rfl, rfl, rfl, dd, _, _, rfl, hx, lk0, two, fun p hp => ?_⟩
    exact ⟨_, rfl, tell p _ (Same.new hp) upd_same⟩
  | text n =>
    refine ⟨false, I.tr, (fun q => nomatch q), fun _ => ⟨true, I.tt, fun _ a ha => ?_, fun q => nomatch q⟩⟩
    refine ⟨_, rfl, rfl, rfl, dd, _, _, rfl, hx, lk0, two, fun p hp => ?_⟩
    exact ⟨_, rfl, tell p _ (Same.new hp) upd_same⟩
  | ref C out fs =>
    obtain ⟨hS, hno⟩ := ok
    refine ⟨false, I.sr _ _ hS, (fun q => nomatch q), fun _ => ⟨false, I.st _ _ hS, (fun q => nomatch q), fun _ => ⟨true, I.se _ _ hS, fun _ a ha => ?_, fun q => nomatch q⟩⟩⟩
    refine ⟨C, dd, fs, _, hS, rfl, rfl, rfl, hx, hno, two, fun p hp => ?_⟩
    exact ⟨_, rfl, tell p _ (Same.new hp) upd_same⟩
/-- a method that gives a written text -/
theorem told_q {P : Program} {w : World} {K : PySem.W.Frag} {mg : Str → Option Value} {base : Heap} {x qual : Str} {st : Stmt} {f : Addr} {fd : FuncData} {out : Str} (F : Fun K x qual st f fd) (S : FnScope ["self"] ["self"] (defScope st)) (hb : ∀ X, PSs X (defBody st) (tRet (tC (V.str out)))) :
    FnQ P w K mg base 1 f fd ["self"] (fun vs H Q _ => ∃ v, vs = [v] ∧ Q (V.str out) H) := by
  obtain ⟨oc, od, kV, doc, pm, an, cdv, ct, osl, rfl, lk, hcd⟩ := F.ex
  refine fnQ_of lk hcd S (fun vs H Q E h => ?_) fun A outer s H vs Q E p h => ?_
  · obtain ⟨v, rfl, _⟩ := h
    rfl
  · obtain ⟨v, rfl, k⟩ := h
    exact ⟨_, hb _, k⟩
end OT
set_option Elab.async false
set_option linter.all false
set_option maxRecDepth 100000
set_option maxHeartbeats 4000000
namespace OT
open PySem L2 OTR LamX
/-- all stays but the source and the tables of code objects -/
def KD (s : Addr) (H H' : Hp) : Prop := ∀ b o, H b = some o → b ≠ s → (∀ ps, o ≠ .tbl ps) → H' b = some o
theorem KD.refl {s : Addr} {H : Hp} : KD s H H := fun _ _ e _ _ => e
theorem KD.trans {s : Addr} {H H1 H2 : Hp} (a : KD s H H1) (b : KD s H1 H2) : KD s H H2 := fun c o e n t => b c o (a c o e n t) n t
theorem KD.same {s : Addr} {H H' : Hp} (h : Same H H') : KD s H H' := fun b o e _ _ => h b o e
theorem KD.but {s : Addr} {H H' : Hp} (h : But s H H') : KD s H H' := fun b o e n _ => h b o e n
theorem KD.ext {s : Addr} {H H' : Hp} (h : ExtN H H') : KD s H H' := fun b o e _ t => h b o e t
/-- what is neither a list nor a table stays -/
def Kq (H H' : Hp) : Prop := ∀ b o, H b = some o → (∀ xs, o ≠ .lst xs) → (∀ ps, o ≠ .tbl ps) → H' b = some o
theorem KD.kq {s : Addr} {H H' : Hp} (k : KD s H H') (src : Src H s) : Kq H H' := fun b o e nl nt => k b o e (src.ne e fun x y z q => nl _ q) nt
theorem sqT_kq {K : PySem.W.Frag} {H H' : Hp} {p : Addr} {xs : List V} (h : SqT K H p xs) (k : Kq H H') : SqT K H' p xs := by
  rcases h with (h | ⟨o, h⟩) | h
  · exact .inl (.inl (k _ _ h (fun _ z => nomatch z) fun _ z => nomatch z))
  · exact .inl (.inr ⟨o, k _ _ h (fun _ z => nomatch z) fun _ z => nomatch z⟩)
  · exact .inr h
theorem RoadsAt.kq {CR : Addr} {H H' : Hp} {ps : List Addr} {F : List Fact} (h : RoadsAt CR H ps F) (k : Kq H H') : RoadsAt CR H' ps F := by
  unfold RoadsAt at h ⊢
  induction h with
  | nil => exact .nil
  | cons a _ ih =>
    obtain ⟨dx, e⟩ := a
    exact .cons ⟨dx, k _ _ e (fun _ z => nomatch z) fun _ z => nomatch z⟩ ih
theorem TrOk.kq {K : PySem.W.Frag} {H H' : Hp} {d : Addr} {kvs : List (List Key × V)} {n : Int} {F : List Fact} (h : TrOk K H d kvs n F) (k : Kq H H') : TrOk K H' d kvs n F :=
  ⟨k _ _ h.dc (fun _ z => nomatch z) (fun _ z => nomatch z), h.has, fun x y v z => let ⟨q, l, a, b, c⟩ := h.val x y v z; ⟨q, l, a, sqT_kq b k, c⟩, h.len⟩
theorem TreeAt.kq {K : PySem.W.Frag} {CT CR : Addr} {H H' : Hp} {p : Addr} {n : Int} {ps : List Addr} {F : List Fact} (h : TreeAt K CT CR H p n ps F) (k : Kq H H') : TreeAt K CT CR H' p n ps F :=
  let ⟨dx, t, d, kvs, a, b, c, e⟩ := h; ⟨dx, t, d, kvs, k _ _ a (fun _ z => nomatch z) (fun _ z => nomatch z), sqT_kq b k, c.kq k, e.kq k⟩
theorem PlaceAt.kq {C : Addr} {H H' : Hp} {p : Addr} {r : Fact} (h : PlaceAt C H p r) (k : Kq H H') : PlaceAt C H' p r := let ⟨dx, e⟩ := h; ⟨dx, k _ _ e (fun _ z => nomatch z) fun _ z => nomatch z⟩
theorem TrAt.kd {H H' : Hp} {s p q : Addr} {n : Int} {F : List Fact} (h : TrAt H p q n F) (src : Src H s) (k : KD s H H') : TrAt H' p q n F := by
  obtain ⟨hp, ts, hq, hts⟩ := h
  have kq := k.kq src
  refine ⟨kq _ _ hp (fun _ z => nomatch z) (fun _ z => nomatch z), ts, k _ _ hq (src.ne hq fun x y z e => ?_) (fun _ z => nomatch z), Paired.mapP hts fun _ _ a => kq _ _ a (fun _ z => nomatch z) fun _ z => nomatch z⟩
  have e1 := HO.lst.inj e
  cases ts with
  | nil => exact nomatch e1
  | cons t r =>
    rw [List.map_cons] at e1
    exact nomatch (List.cons.inj e1).1
theorem Src.extN {H H' : Hp} {s : Addr} (h : Src H s) (k : ExtN H H') : Src H' s := let ⟨a, b, c, h0, h1⟩ := h; ⟨a, b, c, h0, k _ _ h1 fun _ z => nomatch z⟩
theorem tabs_but {T : List (Addr × Str)} {H H' : Hp} {s : Addr} (t : Tabs T H) (src : Src H s) (b : But s H H') : Tabs T H' := fun p hp => by
  obtain ⟨ps, h1, h2, h3⟩ := t p hp
  refine ⟨ps, b _ _ h1 (src.ne h1 fun _ _ _ z => nomatch z), h2, fun pos cv hc => ?_⟩
  obtain ⟨c, e1, e2⟩ := h3 pos cv hc
  exact ⟨c, e1, b _ _ e2 (src.ne e2 fun x y z w => by unfold CodeO at w; cases w)⟩
theorem extN_kq {H H' : Hp} (h : ExtN H H') : Kq H H' := fun b o e _ t => h b o e t
theorem extN_same {H H' : Hp} (h : Same H H') : ExtN H H' := fun b o e _ => h b o e
theorem lam_pass {X : Cx} {A : Around} {outer : List Env} {s : Shared} {H : Hp} {E : XK} {scope : Scope} {f c' : Addr} : Passes (L2.CX X.prog X.w) (lamCx X A outer s H E scope f c') E := passes_call (takes_of rfl rfl rfl rfl) fun _ _ _ _ h => h
theorem rflat {x : V} {H : Hp} {Q : Bool → Hp → Prop} (f : flatB x = true) (q : Q true H) : RFlat x x H Q := by
  unfold RFlat
  exact ⟨rfl, f, q⟩
/-- what a tree's error says of itself -/
def outE : Err → Str
  | .crossings _ => "refused badcount"
  | .roads _ => "refused badcount"
  | .crossing _ => "refused nocrossing"
  | .length _ => "refused badcount"
  | .ring _ => "refused ringroad"
def outM : ErrM → Str
  | .marches _ => "refused badcount"
  | .no _ => "refused noroad"
  | .off _ => "refused offroad"
  | .whole _ => "refused notwhole"
  | .steps _ => "refused badcount"
/-- the classes and what they say -/
inductive SayL (CB CN CG CNR COR CNW : Addr) : Addr → V → Prop
  | bad : SayL CB CN CG CNR COR CNW CB (.str "refused badcount")
  | cross : SayL CB CN CG CNR COR CNW CN (.str "refused nocrossing")
  | ring : SayL CB CN CG CNR COR CNW CG (.str "refused ringroad")
  | no : SayL CB CN CG CNR COR CNW CNR (.str "refused noroad")
  | off : SayL CB CN CG CNR COR CNW COR (.str "refused offroad")
  | whole : SayL CB CN CG CNR COR CNW CNW (.str "refused notwhole")
theorem no1 {f : Str} {v : V} (h : ¬ (("told" : Str) = f)) : ([(f, v)] : List (Str × V)).lookup ("told" : Str) = none := by
  rw [lk1 h]
  rfl
theorem no2 {f g : Str} {v y : V} (h : ¬ (("told" : Str) = f)) (h' : ¬ (("told" : Str) = g)) : ([(f, v), (g, y)] : List (Str × V)).lookup ("told" : Str) = none := by
  rw [lk1 h, lk1 h']
  rfl
section
variable {CBR CBT CB CN CG CNR COR CNW : Addr} {H : Hp} {Q : VK}
abbrev ErXS (CBR CBT CB CN CG CNR COR CNW : Addr) (Q : VK) : XK := ErXL CBR CBT (SayL CB CN CG CNR COR CNW) Q
theorem raisL {e : Err} (fin : ∀ p H', Same H H' → H' p = some (.tup [.str "refused", .str (outE e)]) → Q (.ref p) H') : ErrR CB CN CG H (ErXS CBR CBT CB CN CG CNR COR CNW Q) e := by
  cases e with
  | crossings n => exact fun d H' s n' hx => ⟨.ref CB "refused badcount" _, d, rfl, rfl, hx, ⟨.bad, no2 (by decide +kernel) (by decide +kernel)⟩, fun p H'' s'' hp => fin p H'' (Same.trans s s'') hp⟩
  | roads n => exact fun d H' s n' hx => ⟨.ref CB "refused badcount" _, d, rfl, rfl, hx, ⟨.bad, no2 (by decide +kernel) (by decide +kernel)⟩, fun p H'' s'' hp => fin p H'' (Same.trans s s'') hp⟩
  | length n => exact fun d H' s n' hx => ⟨.ref CB "refused badcount" _, d, rfl, rfl, hx, ⟨.bad, no2 (by decide +kernel) (by decide +kernel)⟩, fun p H'' s'' hp => fin p H'' (Same.trans s s'') hp⟩
  | crossing c => exact fun d H' s n' hx => ⟨.ref CN "refused nocrossing" _, d, rfl, rfl, hx, ⟨.cross, no1 (by decide +kernel)⟩, fun p H'' s'' hp => fin p H'' (Same.trans s s'') hp⟩
  | ring k => exact fun d H' s n' hx => ⟨.ref CG "refused ringroad" _, d, rfl, rfl, hx, ⟨.ring, no1 (by decide +kernel)⟩, fun p H'' s'' hp => fin p H'' (Same.trans s s'') hp⟩
theorem raisML {e : ErrM} (fin : ∀ p H', Same H H' → H' p = some (.tup [.str "refused", .str (outM e)]) → Q (.ref p) H') : RaisM CB CNR COR CNW H (ErXS CBR CBT CB CN CG CNR COR CNW Q) e := by
  cases e with
  | marches n => exact fun d H' s n' hx => ⟨.ref CB "refused badcount" _, d, rfl, rfl, hx, ⟨.bad, no2 (by decide +kernel) (by decide +kernel)⟩, fun p H'' s'' hp => fin p H'' (Same.trans s s'') hp⟩
  | steps n => exact fun d H' s n' hx => ⟨.ref CB "refused badcount" _, d, rfl, rfl, hx, ⟨.bad, no2 (by decide +kernel) (by decide +kernel)⟩, fun p H'' s'' hp => fin p H'' (Same.trans s s'') hp⟩
  | no r => exact fun d H' s n' hx => ⟨.ref CNR "refused noroad" _, d, rfl, rfl, hx, ⟨.no, no1 (by decide +kernel)⟩, fun p H'' s'' hp => fin p H'' (Same.trans s s'') hp⟩
  | off r => exact fun d H' s n' hx => ⟨.ref COR "refused offroad" _, d, rfl, rfl, hx, ⟨.off, no1 (by decide +kernel)⟩, fun p H'' s'' hp => fin p H'' (Same.trans s s'') hp⟩
  | whole k => exact fun d H' s n' hx => ⟨.ref CNW "refused notwhole" _, d, rfl, rfl, hx, ⟨.whole, no1 (by decide +kernel)⟩, fun p H'' s'' hp => fin p H'' (Same.trans s s'') hp⟩
theorem raisR {S : Addr → V → Prop} {n : Int} (fin : ∀ p H', Same H H' → H' p = some (.tup [.str "row", .int n]) → Q (.ref p) H') : Raised CBR [("number", .int n)] H (ErXL CBR CBT S Q) :=
  fun d H' s n' hx => ⟨.row n, d, rfl, rfl, hx, True.intro, fun p H'' s'' hp => fin p H'' (Same.trans s s'') hp⟩
theorem raisT {S : Addr → V → Prop} {n : Int} (fin : ∀ p H', Same H H' → H' p = some (.tup [.str "text", .int n]) → Q (.ref p) H') : Raised CBT [("place", .int n)] H (ErXL CBR CBT S Q) :=
  fun d H' s n' hx => ⟨.text n, d, rfl, rfl, hx, True.intro, fun p H'' s'' hp => fin p H'' (Same.trans s s'') hp⟩
end
/-- two tuples of a text and something flat -/
theorem eq_flat2 {R : Rdg} {a b : V} {H : Hp} {Q : Bool → Hp → Prop} (fa : flatB a = true) (fb : flatB b = true) (q : Q true H) : eqAll (fun x y H Q => RFlat x y H Q ∨ R x y H Q) [a, b] [a, b] H Q :=
  .inl (rflat fa (iteT (.inl (rflat fb (iteT q)))))
end OT
set_option Elab.async false
set_option linter.all false
set_option maxRecDepth 100000
set_option maxHeartbeats 4000000
namespace OT
open PySem L2 OTR LamX
abbrev sTreeRt : Stmt := top 62
def FO (D : Addr) (G : Hp) (v : V) : Option Fact → Prop
  | none => v = .non
  | some r => ∃ E, v = .ref E ∧ E ≠ D ∧ G E = some (.lst [.int r.1, .int r.2.1, .int r.2.2])
theorem FO.same {D : Addr} {G G' : Hp} {v : V} {o : Option Fact} (h : FO D G v o) (s : ∀ b u, G b = some u → b ≠ D → G' b = some u) : FO D G' v o := by
  cases o with
  | none => exact h
  | some r =>
    obtain ⟨E, e, n, g⟩ := h
    exact ⟨E, e, n, s _ _ g n⟩
theorem FO.ext {D : Addr} {G G' : Hp} {v : V} {o : Option Fact} (h : FO D G v o) (s : ExtN G G') : FO D G' v o := by
  cases o with
  | none => exact h
  | some r =>
    obtain ⟨E, e, n, g⟩ := h
    exact ⟨E, e, n, s _ _ g fun _ z => nomatch z⟩
def dO : Option Fact → PyData
  | none => .none
  | some r => .list [.int r.1, .int r.2.1, .int r.2.2]
theorem fo_dp {K : PySem.W.Frag} {D : Addr} {G : Hp} {v : V} {o : Option Fact} (h : FO D G v o) : Dp K G v (dO o) := by
  cases o with
  | none =>
    cases (show v = .non from h)
    exact .non
  | some r =>
    obtain ⟨E, rfl, _, g⟩ := h
    exact .lst (SqL.of g) (.cons (.int _) (.cons (.int _) (.cons (.int _) .nil)))
theorem fo_all {K : PySem.W.Frag} {D : Addr} {G : Hp} : ∀ {vs : List V} {os : List (Option Fact)}, Paired (FO D G) vs os → DpAll K G vs (os.map dO)
  | [], _, h => by
    cases h
    exact .nil
  | v :: vs, _, h => by
    cases h with
    | cons a t => exact .cons (fo_dp a) (fo_all t)
theorem dO_lay : ∀ os : List (Option Fact), PyData.canLayAll0 (os.map dO) = true
  | [] => by simp [PyData.canLayAll0]
  | none :: os => by simp [PyData.canLayAll0, PyData.canLay0, dO, dO_lay os]
  | some r :: os => by simp [PyData.canLayAll0, PyData.canLay0, dO, dO_lay os]
theorem dO_depth : ∀ os : List (Option Fact), PyData.depthAll (os.map dO) ≤ 2
  | [] => by simp [PyData.depthAll]
  | none :: os => by
    have := dO_depth os
    simp only [List.map_cons, PyData.depthAll, PyData.depth, dO]
    omega
  | some r :: os => by
    have := dO_depth os
    simp only [List.map_cons, PyData.depthAll, PyData.depth, dO]
    omega
theorem dO_shaped (os : List (Option Fact)) : SeqAt.shaped (.list (os.map dO)) = true := by
  have d := dO_depth os
  have c := dO_lay os
  unfold SeqAt.shaped
  rw [Bool.and_eq_true]
  refine ⟨by simp only [PyData.canLay0]; exact c, decide_eq_true ?_⟩
  simp only [PyData.depth]
  omega
theorem eqv_dO (o : Option Fact) : PyData.eqv (dO o) .none = decide (o = none) := by
  cases o <;> simp [dO, PyData.eqv]
theorem any_dO (os : List (Option Fact)) : ((os.map dO).any fun z => PyData.eqv z .none) = decide (none ∈ os) := by
  rw [List.any_map]
  by_cases h : none ∈ os
  · rw [decide_eq_true h]
    exact List.any_eq_true.mpr ⟨none, h, by simp [eqv_dO]⟩
  · rw [decide_eq_false h]
    refine List.any_eq_false.mpr fun o ho => ?_
    cases o with
    | none => exact absurd ho h
    | some r => simp [eqv_dO]
inductive OutT
  | row (n : Int) | refused (s : Str) | told (n : Int) (F : List Fact)
noncomputable def outT (zs : List Str) : OutT :=
  if zs = [] then .row 1 else
  match badAt rdR zs with
  | some i => .row ((i : Nat) + 1)
  | none => match due ((zs.filterMap rdR).length + 1) (zs.filterMap rdR) with
    | some e => .refused (outE e)
    | none => .told ((zs.filterMap rdR).length + 1) (zs.filterMap rdR)
def OutAt (K : PySem.W.Frag) (CT CR : Addr) (G : Hp) (p : Addr) : OutT → Prop
  | .row n => G p = some (.tup [.str "row", .int n])
  | .refused s => G p = some (.tup [.str "refused", .str s])
  | .told n F => ∃ x ps, G p = some (.tup [.str "told", .ref x]) ∧ TreeAt K CT CR G x n ps F
theorem OutAt.kq {K : PySem.W.Frag} {CT CR : Addr} {G G' : Hp} {p : Addr} {o : OutT} (h : OutAt K CT CR G p o) (k : Kq G G') : OutAt K CT CR G' p o := by
  cases o with
  | row n => exact k _ _ h (fun _ z => nomatch z) fun _ z => nomatch z
  | refused s => exact k _ _ h (fun _ z => nomatch z) fun _ z => nomatch z
  | told n F =>
    obtain ⟨x, ps, a, b⟩ := h
    exact ⟨x, ps, k _ _ a (fun _ z => nomatch z) (fun _ z => nomatch z), b.kq k⟩
theorem eq_treeO {K : PySem.W.Frag} {CT CR : Addr} {H : Hp} {a b : Addr} {n : Int} {ps ps' : List Addr} {F : List Fact} {Q : Bool → Hp → Prop} (ha : TreeAt K CT CR H a n ps F) (hb : TreeAt K CT CR H b n ps' F) (q : Q true H) : ROr (ROwn K CT (spTreeE K CT CR)) (.ref a) (.ref b) H Q := by
  by_cases e : a = b
  · subst e
    exact .inl ⟨a, rfl, rfl, q⟩
  · obtain ⟨da, ta, dd, ka, ea, _⟩ := id ha
    obtain ⟨db, tb, de, kb, eb, _⟩ := id hb
    refine .inr ⟨⟨_, _, .ins ea, .ins eb⟩, fun z => e (V.ref.inj z), ?_⟩
    refine ⟨a, da, _, _, rfl, ea, .ins eb, nf_same, a, n, ps, F, _, rfl, ha, .inl ⟨b, n, ps', F, rfl, hb, _, rfl, ?_⟩⟩
    rw [decide_eq_true ⟨rfl, rfl⟩]
    exact q
theorem out_eq {K : PySem.W.Frag} {CT CR : Addr} {G : Hp} {p q : Addr} {o : OutT} {Q : Bool → Hp → Prop} (a : OutAt K CT CR G p o) (b : OutAt K CT CR G q o) (k : Q true G) : RTup K (fun x y H Q => RFlat x y H Q ∨ ROr (ROwn K CT (spTreeE K CT CR)) x y H Q) (.ref p) (.ref q) G Q := by
  cases o with
  | row n => exact ⟨p, q, _, _, rfl, rfl, SqT.of a, SqT.of b, eq_flat2 rfl rfl k⟩
  | refused s => exact ⟨p, q, _, _, rfl, rfl, SqT.of a, SqT.of b, eq_flat2 rfl rfl k⟩
  | told n F =>
    obtain ⟨x, ps, a1, a2⟩ := a
    obtain ⟨y, ps', b1, b2⟩ := b
    exact ⟨p, q, _, _, rfl, rfl, SqT.of a1, SqT.of b1, .inl (rflat rfl (iteT (.inr (eq_treeO a2 b2 (iteT k)))))⟩
theorem outT_nil {zs : List Str} (h : zs = []) : outT zs = .row 1 := if_pos h
theorem outT_bad {zs : List Str} {i : Nat} (h : zs ≠ []) (b : badAt rdR zs = some i) : outT zs = .row ((i : Nat) + 1) := by
  unfold outT
  rw [if_neg h, b]
theorem outT_err {zs : List Str} {e : Err} (h : zs ≠ []) (b : badAt rdR zs = none) (d : due ((zs.filterMap rdR).length + 1) (zs.filterMap rdR) = some e) : outT zs = .refused (outE e) := by
  unfold outT
  rw [if_neg h, b]
  dsimp only
  rw [d]
theorem outT_ok {zs : List Str} (h : zs ≠ []) (b : badAt rdR zs = none) (d : due ((zs.filterMap rdR).length + 1) (zs.filterMap rdR) = none) : outT zs = .told ((zs.filterMap rdR).length + 1) (zs.filterMap rdR) := by
  unfold outT
  rw [if_neg h, b]
  dsimp only
  rw [d]
theorem lst_self {a b : Addr} {zs : List Str} {H : Hp} {Q : Bool → Hp → Prop} (ha : H a = some (.lst (zs.map V.str))) (hb : H b = some (.lst (zs.map V.str))) (q : Q true H) : RLst RFlat (.ref a) (.ref b) H Q := by
  refine ⟨a, b, _, _, rfl, rfl, ha, hb, fun n => absurd rfl n, fun _ => ?_⟩
  have go : ∀ ys : List Str, lsAll RFlat a b (zs.map V.str) (zs.map V.str) (ys.map V.str) (ys.map V.str) H Q := by
    intro ys
    induction ys with
    | nil => exact ⟨⟨ha, hb⟩, q⟩
    | cons y ys ih => exact ⟨⟨ha, hb⟩, rflat rfl (iteT ih)⟩
  exact go zs
theorem bad_ne {zs : List Str} {i : Nat} (h : badAt rdR zs = some i) : zs ≠ [] := fun e => by
  subst e
  cases h
theorem read_lam {K : PySem.W.Frag} {CT CR CB CN CG CNR COR CNW CBR CBT l : Addr} {zs : List Str} {G : Hp} {Q1 Kk : VK} (hl : G l = some (.lst (zs.map V.str))) (zl : ∀ z ∈ zs, z.length ≤ 100000) (zn : zs.length ≤ 50)
    (hK : ∀ v H1, (∀ p, H1 p = none → Q1 (.ref p) (upd H1 p (.tup [.str "told", v]))) → Kk v H1) (fin : ∀ q G5, Same G G5 → OutAt K CT CR G5 q (outT zs) → Q1 (.ref q) G5) : spReadTreeG K CT CR CB CN CG CBR [.ref l] G Kk (ErXS CBR CBT CB CN CG CNR COR CNW Q1) := by
  refine ⟨l, zs, rfl, SqL.of hl, fun z hz => by have := zl z hz; omega, by omega, fun e => raisR fun p H' s hp => fin p H' s (by rw [outT_nil e]; exact hp), fun i hi => raisR fun p H' s hp => fin p H' s (by rw [outT_bad (bad_ne hi) hi]; exact hp),
    fun h0 bn e he => raisL fun p H' s hp => fin p H' s (by rw [outT_err h0 bn he]; exact hp), fun h0 bn dn x H' ps s hx TA => hK _ _ fun p hp => fin p _ (s.trans (Same.new hp)) ?_⟩
  rw [outT_ok h0 bn dn]
  exact ⟨x, ps, upd_same, TA.same (Same.new hp)⟩
abbrev qTreeL : Str := (PyProof.Rows.envOfC "_law_tree_right" (defScope sTreeRt) 0 0 .none).qual ++ "<lambda>"
def spTreeRtL (T : List (Addr × Str)) : Sp := fun vs H Q _ => ∃ (l : Addr) (zs : List Str), vs = [.ref l] ∧ H l = some (.lst (zs.map V.str)) ∧ (∀ z ∈ zs, z.length ≤ 100000) ∧ zs.length ≤ 50 ∧ Tabs T H ∧ ∀ H', ExtN H H' → Tabs T H' → Q (.bl true) H'
/-- Tree(len(found) + 1, [Road(..) for .. in found]) -/
abbrev tTreeLam (K : PySem.W.Frag) (CT CR CB CN CG : Addr) (E : XK) : TE := tMake CT (spTreeI K CT CR CB CN CG) [] E (tCons (tOp (rI0 fun i j => .int (i + j)) (tCB (fun xs H Q => ∃ x n, xs = [x] ∧ LenV K x H n ∧ Q (.int n) H) (tCons (tVar 1) tNil)) (tC (.int 1)))
  (tCons (tLc (iList K (tVar 1)) (gLst K 3 (gCons (gName 5) (gCons (gName 6) (gCons (gName 7) gNil)))) tYes (tMake CR (spRoadI CR) [] E0 (tCons (tVar 5) (tCons (tVar 6) (tCons (tVar 7) tNil)))) [5, 6, 7]) tNil))
section
variable {P : Program} {w : World} {K : PySem.W.Frag} {mg : Str → Option Value} {base : Heap}
abbrev nTreeRt : List Str := ["_law_some", "_law_found", "_law_due", "_law_kept", "_law_text", "_law_one", "_law_other", "_law_size"]
theorem scTreeRt : FnScope nTreeRt ["_law_some"] (defScope sTreeRt) := ⟨rfl, rfl, rfl, by decide +kernel, rfl, by decide +kernel, by decide +kernel⟩
theorem ok_treeRtL {f fS fLR fT fTE fR fRT c PT CT CR CB CN CG CNR COR CNW CBR CBT CTE fBR fBT : Addr} {fdLR fdT fdTE fdR fdRT : FuncData} {T : List (Addr × Str)} {oc kV dc pm ct ocS kVS dcS pmS cdS ctS : Value} {an od anS odS : Option Addr} {sl slS : Array (Option Value)}
    (lk : K.lookup f = some ⟨oc, od, .func (PySem.W.fnOf "_law_tree_right" "_law_tree_right" (defArgs sTreeRt) (defBody sTreeRt) (defScope sTreeRt) .none kV dc pm an (.ref c) ct), sl⟩) (hcd : PySem.W.codeIn K (.ref c) "_law_tree_right" = true) (TBt : TabB base mg c PT) (tIn : (PT, qTreeL) ∈ T) (tHu : ∀ p ∈ T, p.1 = PT → p.2 = qTreeL)
    (lkS : K.lookup fS = some ⟨ocS, odS, .func (PySem.W.fnOf "_law_said" "_law_said" (defArgs sSaid) (defBody sSaid) (defScope sSaid) .none kVS dcS pmS anS cdS ctS), slS⟩) (hcS : PySem.W.codeIn K cdS "_law_said" = true)
    (bS : Binds K (PySem.W.fnOf "_law_said" "_law_said" (defArgs sSaid) (defBody sSaid) (defScope sSaid) .none kVS dcS pmS anS cdS ctS) ["_law_ask"] []) (mS : mg "_law_said" = some (.ref fS)) (kS : PySem.W.keepIn K (.ref fS) = true)
    (TBR : ErT K mg "BadRow" CBR fBR) (TBT : ErT K mg "BadText" CBT fBT) (gTE : mg "TrainError" = some (.ref CTE)) (nR : PySem.W.findIn K (.ref CBR) "number" = some none) (nT : PySem.W.findIn K (.ref CBT) "place" = some none)
    (IX : ExL K CBR CBT CTE (SayL CB CN CG CNR COR CNW)) (SM : ∀ (X : Cx), X.prog = P → X.w = w → X.K = K → X.mg = mg → X.base = base → ∀ C out, SayL CB CN CG CNR COR CNW C out → SaysM X "told" 1 C out)
    (FLR : FnOk P w K mg base CX0 2 fLR fdLR ["_law_text"] spLRoad) (bLR : Binds K fdLR ["_law_text"] []) (mLR : mg "_law_road" = some (.ref fLR)) (kLR : PySem.W.keepIn K (.ref fLR) = true)
    (TR : RdT K mg CR) (MR : Mk K CR fR) (FR : FnOk P w K mg base CX0 1 fR fdR ["self", "a", "b", "length"] (spRoadI CR)) (bR : Binds K fdR ["self", "a", "b", "length"] [])
    (TT : TeT K mg CT) (MT : Mk K CT fT) (FT : FnOk P w K mg base (L2.CX P w) 5 fT fdT ["self", "crossings", "roads"] (spTreeI K CT CR CB CN CG)) (bT : Binds K fdT ["self", "crossings", "roads"] [])
    (cT : QC K CT fTE) (FTE : FnOk P w K mg base CX0 3 fTE fdTE ["self", "other"] (spTreeE K CT CR)) (bTE : Binds K fdTE ["self", "other"] [])
    (FRT : FnOk P w K mg base (L2.CX P w) 7 fRT fdRT ["rows"] (spReadTreeG K CT CR CB CN CG CBR)) (bRT : Binds K fdRT ["rows"] []) (mRT : mg "read_tree" = some (.ref fRT)) (kRT : PySem.W.keepIn K (.ref fRT) = true)
    (hLen : mg "len" = none) (hList : mg "list" = none) :
    FnOk P w K mg base CX0 10 f (PySem.W.fnOf "_law_tree_right" "_law_tree_right" (defArgs sTreeRt) (defBody sTreeRt) (defScope sTreeRt) .none kV dc pm an (.ref c) ct) ["_law_some"] (spTreeRtL T) := by
  refine fn_of lk hcd scTreeRt (fun vs H Q E h => ?_) (fun A outer s' H vs Q E hr h => ?_)
  · obtain ⟨l, zs, rfl, _⟩ := h
    rfl
  suffices ∃ t, PSs (cxOf CX0 P w K mg base nTreeRt "_law_tree_right" (defScope sTreeRt) f (.ref c) A outer s' H E).nox (defBody sTreeRt) t ∧ t { nx := fun _ H' => Q .non H', rt := Q } (L2.start nTreeRt vs) H from by
    obtain ⟨t, h1, h2⟩ := this
    exact ⟨t, h1.nox, h2⟩
  obtain ⟨l, zs, rfl, hl, zl, zn, tabs, kont⟩ := h
  have hr2 : Room 2 _ := hr.mono (by decide)
  have hr4 : Room 4 _ := hr.mono (by decide)
  have ul : (A.deeper (PyProof.Rows.envOfC "_law_tree_right" (defScope sTreeRt) s'.heap.objs.size f (.ref c))).units < cLine := Nat.lt_of_le_of_lt (Nat.le_add_right _ _) hr.units
  have u65 : (A.deeper (PyProof.Rows.envOfC "_law_tree_right" (defScope sTreeRt) s'.heap.objs.size f (.ref c))).units + 65 < cLine := by
    have := hr.un
    omega
  -- kept = list(some); return said(lambda: read_tree(some)) == due and some == kept
  obtain ⟨u, hu, hq⟩ : ∃ u : TS, PSs (cxOf CX0 P w K mg base nTreeRt "_law_tree_right" (defScope sTreeRt) f (.ref c) A outer s' H E).nox ((defBody sTreeRt).drop 3) u ∧ ∀ (p : Addr) (G2 : Hp) (v1 : Option V), ExtN H G2 → Tabs T G2 → OutAt K CT CR G2 p (outT zs) → u { nx := fun _ H' => Q .non H', rt := Q } [some (.ref l), v1, some (.ref p), none, none, none, none, none] G2 := by
    refine ⟨_, (pss_cons (ps_set (i := 3) scTreeRt.nd rfl (Or.inl rfl) (pe_callTy call_list_of (by rfl) hList (by decide +kernel) (pa_cons (pv 0) pa_nil)))
    (pss_one (ps_ret (pe_and (pe_cmpR (op_eqB (rcB_tup (EqB.or eqB_flat (RcB.eqB (rcB_own FTE cT.eq cT.fn bTE)))) hr4)
        (pe_lamcall (T := T) (k := 7) rfl mS kS lkS hcS bS scSaid rfl (Or.inl rfl) (said_gives TBR TBT gTE nR nT IX (SM _ rfl rfl rfl rfl rfl) hr2) TBt rfl tIn tHu hr (lamS_by (by change lamSB (defScope sTreeRt) _ = true; decide +kernel)) rfl (fun _ _ _ _ _ => rfl)
          (fun A' outer' s1 H1 E1 f1 c1 hr' => pe_call FRT hr' rfl mRT kRT bRT .nil lam_pass (pa_cons (pv 0) pa_nil))) (pv 2) (nomark _)) (pe_one (pe_cmpR (op_eqB (rcB_lst eqB_flat) hr2) (pv 0) (pv 3) (nomark _))))))), fun p G2 v1 eN tb o2 => ?_⟩
    have hl2 := eN _ _ hl fun _ z => nomatch z
    refine ⟨_, rfl, l, _, rfl, .inl (SqL.of hl2), fun D3 hD3 => ?_⟩
    have s3 := Same.new (o := .lst (zs.map V.str)) hD3
    have g3 := upd_same (H := G2) (a := D3) (o := .lst (zs.map V.str))
    have eN3 := eN.trans (extN_same s3)
    have tb3 := tb.ext s3
    have o3 := o2.kq (extN_kq (extN_same s3))
    clear hD3
    generalize upd G2 D3 (.lst (zs.map V.str)) = G3 at *
    refine ⟨tb3, fun G4 e4 tb4 Kk hK => ?_⟩
    have hl4 := e4 _ _ (s3 _ _ hl2) fun _ z => nomatch z
    have g4 := e4 _ _ g3 fun _ z => nomatch z
    have o4 := o3.kq (extN_kq e4)
    have eN4 := eN3.trans e4
    refine ⟨_, rfl, read_lam hl4 zl zn hK fun q G5 s5 oq => ?_⟩
    refine ⟨_, rfl, out_eq oq (o4.kq (extN_kq (extN_same s5))) ⟨true, rfl, iteT ?_⟩⟩
    exact ⟨_, rfl, _, rfl, lst_self (s5 _ _ hl4) (s5 _ _ g4) (kont G5 (eN4.trans (extN_same s5)) (tb4.ext s5))⟩
  refine ⟨_, pss_cons (ps_set (i := 1) scTreeRt.nd rfl (Or.inr rfl) (pe_lc (own := [("_law_text", 4)]) (g := gName 4) (tt := tYes) (te := tCall spLRoad [] E0 (tCons (tVar 4) tNil)) rfl scTreeRt.nd (pi_list (pv 0)) (blkOk_by (own := [("_law_text", 4)]) (N := nTreeRt) (sc := defScope sTreeRt) (by decide +kernel)) (fun _ _ _ _ _ => (pg_name (i := 4) scTreeRt.nd rfl (Or.inl rfl))) (fun _ _ _ _ _ => pts_nil) (fun _ _ _ _ _ => (pe_call FLR hr2 rfl mLR kLR bLR .nil pass0 (pa_cons (pv 4) pa_nil)))))
    (pss_cons (ps_set (i := 2) scTreeRt.nd rfl (Or.inl rfl) pe_non)
    (pss_cons (ps_if (PW.pt (pw_or (pt_cmpR (op_eqNil ul) (pv 1) (pe_lst pa_nil) (nomark _)) (pw_or1 (pt_cmpR (op_inD u65) pe_non (pv 1) rfl))))
      (pss_one (ps_set (i := 2) scTreeRt.nd rfl (Or.inl rfl) (pe_tup (pa_cons pe_str (pa_cons (pe_ifExp (pt_cmpR (op_eqNil ul) (pv 1) (pe_lst pa_nil) (nomark _)) pe_int (pe_op op_add (pe_bm PySem.F.plainAttrs_list PySem.F.slot_list_index PySem.F.type_list_index (mt_indexD u65) (pv 1) (pa_cons pe_non pa_nil)) pe_int)) pa_nil)))))
      (pss_one (ps_set (i := 2) scTreeRt.nd rfl (Or.inl rfl) (pe_lamcall (t := tTreeLam K CT CR CB CN CG) (T := T) (k := 7) rfl mS kS lkS hcS bS scSaid rfl (Or.inl rfl) (said_gives TBR TBT gTE nR nT IX (SM _ rfl rfl rfl rfl rfl) hr2) TBt rfl tIn tHu hr (lamS_by (by change lamSB (defScope sTreeRt) _ = true; decide +kernel)) rfl (fun _ _ _ _ _ => rfl)
          (fun A' outer' s1 H1 E1 f1 c1 hr' => pe_make MT FT (hr'.mono (by decide)) (by rfl) TT.mgC bT .nil lam_pass (pa_cons (pe_op op_add (pe_callB call_len (by rfl) hLen PySem.boot_len (pa_cons (pv 1) pa_nil)) pe_int)
            (pa_cons (pe_lc (own := [("_law_one", 5), ("_law_other", 6), ("_law_size", 7)]) (g := gLst K 3 (gCons (gName 5) (gCons (gName 6) (gCons (gName 7) gNil)))) (tt := tYes) rfl scTreeRt.nd (pi_list (pv 1)) (blkOk_by (own := [("_law_one", 5), ("_law_other", 6), ("_law_size", 7)]) (by kernel_rfl))
              (fun _ _ _ _ _ => pg_lst rfl (pgs_cons (pg_name (i := 5) scTreeRt.nd rfl (Or.inl rfl)) (pgs_cons (pg_name (i := 6) scTreeRt.nd rfl (Or.inl rfl)) (pgs_cons (pg_name (i := 7) scTreeRt.nd rfl (Or.inl rfl)) pgs_nil)))) (fun _ _ _ _ _ => pts_nil)
              (fun _ _ _ _ _ => pe_make MR FR (hr'.mono (by decide)) (by rfl) TR.mgC bR .nil pass0 (pa_cons (pv 5) (pa_cons (pv 6) (pa_cons (pv 7) pa_nil))))) pa_nil)))))))
    hu)), ?_⟩
  -- found
  refine ⟨_, rfl, l, rfl, ⟨_, SqL.of hl⟩, fun D hD => lc_list (K := K) (a := l) (xs := zs.map V.str) (fun i Gc => ∃ ws : List V, Gc D = some (.lst ws) ∧ Same H Gc ∧ Paired (FO D Gc) ws ((zs.map rdR).take i) ∧ ws.length = i)
    ⟨[], upd_same, Same.new hD, .nil, rfl⟩ (fun i Gc _ ⟨_, _, sc, _⟩ => SqL.of (sc _ _ hl)) ?_ ?_⟩
  · rintro i y Gc hi ⟨ws, gD, sc, pw, wn⟩
    obtain ⟨z, hz, rfl⟩ := map_get hi
    have il := (List.getElem?_eq_some_iff.mp hz).1
    dsimp only [gName]
    refine ⟨rfl, ?_⟩
    unfold tYes
    have zl1 := zl z (List.mem_of_getElem? hz)
    have hz' : (zs.map rdR)[i]? = some (rdR z) := by rw [List.getElem?_map, hz]; rfl
    have stay : ∀ {G' : Hp} {ws' : List V}, Same Gc G' → Paired (FO D (upd G' D (.lst ws'))) ws ((zs.map rdR).take i) := fun {G' ws'} sg => Paired.mapP pw fun _ _ h => h.same fun b u e nb => by rw [upd_ne nb]; exact sg b u e
    refine iteT ⟨_, rfl, z, rfl, by omega, fun en G' sg => ?_, fun r er E G' sg hE gE => ?_⟩
    · refine ⟨ws, sg _ _ gD, by rw [PySem.sizeLine_eq]; omega, ws ++ [.non], upd_same, fun b o e => by rw [upd_ne (ne_of_none e hD)]; exact sg _ _ (sc b o e), ?_, by rw [List.length_append, wn]; rfl⟩
      rw [take_get hz', en]
      exact paired_snoc (stay sg) rfl
    · have nE : E ≠ D := fun q => by rw [q, gD] at hE; cases hE
      refine ⟨ws, sg _ _ gD, by rw [PySem.sizeLine_eq]; omega, ws ++ [.ref E], upd_same, fun b o e => by rw [upd_ne (ne_of_none e hD)]; exact sg _ _ (sc b o e), ?_, by rw [List.length_append, wn]; rfl⟩
      rw [take_get hz', er]
      exact paired_snoc (stay sg) ⟨E, rfl, nE, by rw [upd_ne nE]; exact gE⟩
  · rintro G1 ⟨ws, gD, s1, pw, wn⟩
    rw [List.length_map] at wn
    rw [List.length_map, show zs.length = (zs.map rdR).length from (List.length_map ..).symm, List.take_length] at pw
    have two : ∀ {u v : V}, [u, v].length ≤ sizeLine := fun {u v} => (by show 2 ≤ sizeLine; decide)
    dsimp only [gName]
    -- if found == []
    refine ⟨_, rfl, Nat.zero_le _, fun p0 h0 => ?_⟩
    have t0 := Same.new (o := .lst []) h0
    have gD0 := t0 _ _ gD
    refine ⟨D, p0, _, rfl, rfl, SqL.of gD0, SqL.of upd_same, _, rfl, ?_⟩
    have sH0 := s1.trans t0
    have pw0 : Paired (FO D (upd G1 p0 (.lst []))) ws (zs.map rdR) := Paired.mapP pw fun _ _ h => h.same fun b u e _ => t0 b u e
    clear h0 t0
    generalize upd G1 p0 (.lst []) = G2 at *
    by_cases e0 : zs = []
    · have ew : ws = [] := List.eq_nil_of_length_eq_zero (by rw [wn, e0]; rfl)
      subst ew
      refine iteT ⟨_, rfl, Nat.zero_le _, fun p1 h1 => ?_⟩
      have t1 := Same.new (o := .lst []) h1
      refine ⟨D, p1, _, rfl, rfl, SqL.of (t1 _ _ gD0), SqL.of upd_same, _, rfl, iteT ⟨two, fun pt hpt => ?_⟩⟩
      have s3 := (sH0.trans t1).trans (Same.new (o := .tup [.str "row", .int 1]) hpt)
      exact hq pt _ _ (extN_same s3) (tabs.ext s3) (by rw [outT_nil e0]; exact upd_same)
    have em : ws.isEmpty = false := by
      cases ws with
      | nil => exact absurd (List.eq_nil_of_length_eq_zero wn.symm) e0
      | cons v ws => rfl
    rw [em]
    refine iteF ⟨_, rfl, .none, (zs.map rdR).map dO, .non, .lst (SqL.of gD0) (fo_all pw0), rfl, dO_shaped _, _, rfl, ?_⟩
    rw [any_dO]
    by_cases c4 : none ∈ zs.map rdR
    · rw [decide_eq_true c4]
      obtain ⟨i, hi⟩ : ∃ i, badAt rdR zs = some i := by
        cases e : badAt rdR zs with
        | some i => exact ⟨i, rfl⟩
        | none =>
          obtain ⟨z, hz, ez⟩ := List.mem_map.mp c4
          exact absurd ez (badAt_all e z hz)
      obtain ⟨⟨z, hz, ez⟩, hb⟩ := badAt_some hi
      refine iteT ⟨_, rfl, Nat.zero_le _, fun p1 h1 => ?_⟩
      have t1 := Same.new (o := .lst []) h1
      have gD1 := t1 _ _ gD0
      refine ⟨D, p1, _, rfl, rfl, SqL.of gD1, SqL.of upd_same, _, rfl, ?_⟩
      rw [em]
      have pw1 : Paired (FO D (upd G2 p1 (.lst []))) ws (zs.map rdR) := Paired.mapP pw0 fun _ _ h => h.same fun b u e _ => t1 b u e
      refine iteF ⟨_, rfl, .inl ⟨rfl, _, SqL.of gD1⟩, D, .non, .none, (zs.map rdR).map dO, i, dO none, rfl, rfl, .lst (SqL.of gD1) (fo_all pw1), .non, dO_shaped _, rfl, ?_, rfl, fun m z' hm hz' => ?_, _, _, rfl, rfl, two, fun pt hpt => ?_⟩
      · rw [List.getElem?_map, List.getElem?_map, hz]
        show some (dO (rdR z)) = _
        rw [ez]
      · rw [List.getElem?_map, List.getElem?_map] at hz'
        cases e : zs[m]? with
        | none => rw [e] at hz'; cases hz'
        | some u =>
          rw [e] at hz'
          cases (show dO (rdR u) = z' from Option.some.inj hz')
          rw [eqv_dO, decide_eq_false (hb m u hm e)]
      · have s3 := (sH0.trans t1).trans (Same.new (o := .tup [.str "row", .int ((i : Nat) + 1)]) hpt)
        exact hq pt _ _ (extN_same s3) (tabs.ext s3) (by rw [outT_bad e0 hi]; exact upd_same)
    · rw [decide_eq_false c4]
      have gd : ∀ z ∈ zs, rdR z ≠ none := fun z hz e => c4 (List.mem_map.mpr ⟨z, hz, e⟩)
      have bn := badAt_none gd
      have gl := good_len gd
      refine iteF ⟨tabs.ext sH0, fun G3 e3 tb3 Kk hK => ?_⟩
      have gD3 := e3 _ _ gD0 fun _ z => nomatch z
      have pw3 : Paired (FO D G3) ws (zs.map rdR) := Paired.mapP pw0 fun _ _ h => h.ext e3
      have eH3 := (extN_same sH0).trans e3
      -- Tree(len(found) + 1, [..])
      refine ⟨_, rfl, _, _, rfl, .inl ⟨_, SqL.of gD3, rfl⟩, _, _, rfl, rfl, ?_⟩
      refine ⟨_, rfl, D, rfl, ⟨_, SqL.of gD3⟩, fun L hL => lc_list (K := K) (a := D) (xs := ws) (fun i Gc => ∃ ps : List Addr, Gc L = some (.lst (ps.map V.ref)) ∧ Same G3 Gc ∧ RoadsAt CR Gc ps ((zs.filterMap rdR).take i) ∧ ps.length = i)
        ⟨[], upd_same, Same.new hL, .nil, rfl⟩ (fun i Gc _ ⟨_, _, sc, _⟩ => SqL.of (sc _ _ gD3)) ?_ ?_⟩
      · rintro i y Gc hi ⟨ps, hps, sc, rd, pl⟩
        obtain ⟨o, ho, fo⟩ := paired_get pw3 hi
        obtain ⟨z, hz, rfl⟩ := map_get ho
        have il := (List.getElem?_eq_some_iff.mp hz).1
        cases er : rdR z with
        | none => exact absurd er (gd z (List.mem_of_getElem? hz))
        | some r =>
          rw [er] at fo
          obtain ⟨E, rfl, nE, gE⟩ := fo
          have hr' := good_get gd hz er
          refine ⟨E, _, rfl, SqL.of (sc _ _ gE), rfl, _, _, rfl, _, _, rfl, _, _, rfl, rfl, rfl, ?_⟩
          unfold tYes
          refine iteT ?_
          refine ⟨_, rfl, _, rfl, _, rfl, fun x dx nx ndx nex => ⟨x, dx, r, rfl, upd_same, fun G' rx keep => ⟨rfl, ps.map V.ref, ?_, small1000 (by rw [List.length_map]; omega), ps ++ [x], by rw [List.map_append]; exact upd_same, fun b o e => ?_, ?_, by rw [List.length_append, pl]; rfl⟩⟩⟩
          · exact keep L _ (by rw [upd_ne (ne_of_none hps nx), upd_ne (ne_of_none hps ndx)]; exact hps) (ne_of_none hps nx)
          · rw [upd_ne (ne_of_none e hL)]
            exact keep b o (by rw [upd_ne (ne_of_none (sc b o e) nx), upd_ne (ne_of_none (sc b o e) ndx)]; exact sc b o e) (ne_of_none (sc b o e) nx)
          · have gL : G' L = some (.lst (ps.map V.ref)) := keep L _ (by rw [upd_ne (ne_of_none hps nx), upd_ne (ne_of_none hps ndx)]; exact hps) (ne_of_none hps nx)
            have stay : ∀ {p : Addr} {r' : Fact}, RoadAt CR G' p r' → RoadAt CR (upd G' L (.lst (ps.map V.ref ++ [V.ref x]))) p r' := fun {p r'} h => by
              obtain ⟨e, h⟩ := h
              refine ⟨e, ?_⟩
              rw [upd_ne (ne_of h gL (fun z => nomatch z))]
              exact h
            have old : RoadsAt CR (upd G' L (.lst (ps.map V.ref ++ [V.ref x]))) ps ((zs.filterMap rdR).take i) := by
              refine Paired.mapP rd fun p r' h => stay ?_
              obtain ⟨e, h⟩ := h
              exact ⟨e, keep p _ (by rw [upd_ne (ne_of_none h nx), upd_ne (ne_of_none h ndx)]; exact h) (ne_of_none h nx)⟩
            rw [take_get hr']
            exact paired_snoc old (stay rx)
      · rintro G4 ⟨ps, hps, sc, rd, pl⟩
        rw [wn] at pl rd
        rw [show zs.length = (zs.filterMap rdR).length from gl.symm, List.take_length] at rd
        refine fun y dx nx ndx nex => ?_
        rw [wn, show zs.length = (zs.filterMap rdR).length from gl.symm]
        have s9 := (Same.new (o := .own y) ndx).trans (Same.new (o := .ins CT dx []) (show upd G4 dx (.own y) y = none by rw [upd_ne (Ne.symm nex)]; exact nx))
        have eH4 := eH3.trans (extN_same sc)
        have tb4 := tb3.ext sc
        refine ⟨y, dx, L, _, ps, _, G4, rfl, upd_same, nx, s9, .inl (SqL.of hps), rd, by rw [gl]; omega, fun e he => raisL fun p H' s5 hp => ?_, fun en H' TA s5 => ⟨rfl, hK _ _ fun p hp => ?_⟩⟩
        · exact hq p H' _ (eH4.trans (extN_same s5)) (tb4.ext s5) (by rw [outT_err e0 bn he]; exact hp)
        · have s6 := s5.trans (Same.new (o := .tup [.str "told", .ref y]) hp)
          refine hq p _ _ (eH4.trans (extN_same s6)) (tb4.ext s6) ?_
          rw [outT_ok e0 bn en]
          exact ⟨y, _, upd_same, TA.same (Same.new hp)⟩
end
end OT
set_option Elab.async false
set_option linter.all false
set_option maxRecDepth 100000
set_option maxHeartbeats 4000000
namespace OT
open PySem L2 OTR LamX
theorem RowAt.kq {K : PySem.W.Frag} {CW : Addr} {H H' : Hp} {p a : Addr} {ms : List Addr} (h : RowAt K CW H p a ms) (k : Kq H H') : RowAt K CW H' p a ms := let ⟨dx, t, e, u⟩ := h; ⟨dx, t, k _ _ e (fun _ z => nomatch z) (fun _ z => nomatch z), sqT_kq u k⟩
theorem MasAt.kq {CM CP : Addr} {H H' : Hp} {ps : List Addr} {l : List MFact} (h : MasAt CM CP H ps l) (k : Kq H H') : MasAt CM CP H' ps l := Paired.mapP h fun _ _ ⟨g, ⟨dx, e⟩, b⟩ => ⟨g, ⟨dx, k _ _ e (fun _ z => nomatch z) fun _ z => nomatch z⟩, b.kq k⟩
def FM (D : Addr) (G : Hp) (v : V) : Option Ma4 → Prop
  | none => v = .non
  | some r => ∃ E, v = .ref E ∧ E ≠ D ∧ G E = some (.lst [.int r.1.1, .int r.1.2.1, .int r.1.2.2, .int r.2])
theorem FM.same {D : Addr} {G G' : Hp} {v : V} {o : Option Ma4} (h : FM D G v o) (s : ∀ b u, G b = some u → b ≠ D → G' b = some u) : FM D G' v o := by
  cases o with
  | none => exact h
  | some r =>
    obtain ⟨E, e, n, g⟩ := h
    exact ⟨E, e, n, s _ _ g n⟩
def dM : Option Ma4 → PyData
  | none => .none
  | some r => .list [.int r.1.1, .int r.1.2.1, .int r.1.2.2, .int r.2]
theorem fm_dp {K : PySem.W.Frag} {D : Addr} {G : Hp} {v : V} {o : Option Ma4} (h : FM D G v o) : Dp K G v (dM o) := by
  cases o with
  | none =>
    cases (show v = .non from h)
    exact .non
  | some r =>
    obtain ⟨E, rfl, _, g⟩ := h
    exact .lst (SqL.of g) (.cons (.int _) (.cons (.int _) (.cons (.int _) (.cons (.int _) .nil))))
theorem fm_all {K : PySem.W.Frag} {D : Addr} {G : Hp} : ∀ {vs : List V} {os : List (Option Ma4)}, Paired (FM D G) vs os → DpAll K G vs (os.map dM)
  | [], _, h => by
    cases h
    exact .nil
  | v :: vs, _, h => by
    cases h with
    | cons a t => exact .cons (fm_dp a) (fm_all t)
theorem dM_lay : ∀ os : List (Option Ma4), PyData.canLayAll0 (os.map dM) = true
  | [] => by simp [PyData.canLayAll0]
  | none :: os => by simp [PyData.canLayAll0, PyData.canLay0, dM, dM_lay os]
  | some r :: os => by simp [PyData.canLayAll0, PyData.canLay0, dM, dM_lay os]
theorem dM_depth : ∀ os : List (Option Ma4), PyData.depthAll (os.map dM) ≤ 2
  | [] => by simp [PyData.depthAll]
  | none :: os => by
    have := dM_depth os
    simp only [List.map_cons, PyData.depthAll, PyData.depth, dM]
    omega
  | some r :: os => by
    have := dM_depth os
    simp only [List.map_cons, PyData.depthAll, PyData.depth, dM]
    omega
theorem dM_shaped (os : List (Option Ma4)) : SeqAt.shaped (.list (os.map dM)) = true := by
  have d := dM_depth os
  have c := dM_lay os
  unfold SeqAt.shaped
  rw [Bool.and_eq_true]
  refine ⟨by simp only [PyData.canLay0]; exact c, decide_eq_true ?_⟩
  simp only [PyData.depth]
  omega
theorem eqv_dM (o : Option Ma4) : PyData.eqv (dM o) .none = decide (o = none) := by
  cases o <;> simp [dM, PyData.eqv]
theorem any_dM (os : List (Option Ma4)) : ((os.map dM).any fun z => PyData.eqv z .none) = decide (none ∈ os) := by
  rw [List.any_map]
  by_cases h : none ∈ os
  · rw [decide_eq_true h]
    exact List.any_eq_true.mpr ⟨none, h, by simp [eqv_dM]⟩
  · rw [decide_eq_false h]
    refine List.any_eq_false.mpr fun o ho => ?_
    cases o with
    | none => exact absurd ho h
    | some r => simp [eqv_dM]
theorem dueL_none {F : List Fact} : ∀ {fs : List MFact} {k : Nat}, dueL F k fs = none → ∀ m ∈ fs, ∃ k : Int, dueO F k m = none
  | [], _, _, m, hm => nomatch hm
  | a :: fs, k, h, m, hm => by
    cases e : dueO F (k : Nat) a with
    | some x =>
      rw [dueL_cons_some e] at h
      cases h
    | none =>
      rw [dueL_cons_none e] at h
      rcases List.mem_cons.mp hm with rfl | hm
      · exact ⟨_, e⟩
      · exact dueL_none h m hm
theorem dueM_none {F : List Fact} {fs : List MFact} (h : dueM F fs = none) : fs.length ≤ 24 ∧ ∀ m ∈ fs, ∃ k : Int, dueO F k m = none := by
  unfold dueM at h
  by_cases c : 24 < fs.length
  · rw [if_pos c] at h
    cases h
  · rw [if_neg c] at h
    exact ⟨by omega, dueL_none h⟩
theorem dueO_all {F : List Fact} {k : Int} {m : MFact} (h : dueO F k m = none) : RdIn F m.1 ∧ SpIn F (mPl m) ∧ m.2.1 % m.2.2.1 = 0 ∧ StIn m.2.2.2 := by
  by_cases c1 : RdIn F m.1
  · by_cases c2 : SpIn F (mPl m)
    · by_cases c3 : m.2.1 % m.2.2.1 = 0
      · by_cases c4 : StIn m.2.2.2
        · exact ⟨c1, c2, c3, c4⟩
        · rw [dueO_steps c1 c2 c3 c4] at h
          cases h
      · rw [dueO_whole c1 c2 c3] at h
        cases h
    · rw [dueO_off c1 c2] at h
      cases h
  · rw [dueO_no c1] at h
    cases h
/-- a march that is read, as the road, the distance and the steps -/
def gOf (y : Ma4) : MG := (y.1.1.toNat, y.1.2.1 / y.1.2.2, y.2)
theorem gOf_ok {F : List Fact} {k : Int} {y : Ma4} (h : dueO F k (m4 y) = none) (p : 1 ≤ y.1.2.2) : MgOk F (gOf y) ∧ ∀ {CM CP : Addr} {H : Hp} {q : Addr}, MaAt CM CP H q (m4 y) → MaAt CM CP H q (mf (gOf y)) := by
  obtain ⟨⟨r0, r1⟩, ⟨s0, s1⟩, wh, t1, t2⟩ := dueO_all h
  obtain ⟨⟨a, b, c⟩, m⟩ := y
  replace r0 : 0 ≤ a := r0
  replace r1 : a < (F.length : Int) := r1
  replace s0 : 0 ≤ b := s0
  replace s1 : b ≤ (rd F a.toNat).2.2 * c := s1
  replace wh : b % c = 0 := wh
  replace p : 1 ≤ c := p
  have bq : b = b / c * c := (Int.ediv_mul_cancel (Int.dvd_of_emod_eq_zero wh)).symm
  refine ⟨⟨by show a.toNat < F.length; omega, Int.ediv_nonneg s0 (by show 0 ≤ c; omega), ?_, t1, t2⟩, fun {CM CP H q} ⟨g, u, w⟩ => ⟨g, u, ?_⟩⟩
  · show b / c ≤ (rd F a.toNat).2.2
    rw [bq] at s1
    exact Int.le_of_mul_le_mul_right s1 (by omega)
  · rw [low_mf]
    have e : low (mPl (m4 ((a, b, c), m))) = (a, b / c, 1) := by
      show low (a, b, c) = _
      have h1 := low_mul (a := a) (n := b / c) (s := 1) c (by omega)
      rw [Int.one_mul, ← bq] at h1
      rw [h1, low_one]
    rw [e] at w
    show PlaceAt CP H g (((a.toNat : Nat) : Int), b / c, 1)
    rw [Int.toNat_of_nonneg r0]
    exact w
theorem rowS4 {K : PySem.W.Frag} {CT CR CM CP CW : Addr} {H : Hp} {rw x : Addr} {n : Int} {ps ms : List Addr} {F : List Fact} {L : List Ma4} (R : RowAt K CW H rw x ms) (TA : TreeAt K CT CR H x n ps F) (TG : TreeG n F) (M : MasAt CM CP H ms (L.map m4)) (pos : ∀ y ∈ L, 1 ≤ y.1.2.2) (d : dueM F (L.map m4) = none) :
    RowS K CT CR CM CP CW H rw n F (L.map gOf) := by
  obtain ⟨l24, all⟩ := dueM_none d
  rw [List.length_map] at l24
  have ok : ∀ y ∈ L, MgOk F (gOf y) ∧ ∀ {q : Addr}, MaAt CM CP H q (m4 y) → MaAt CM CP H q (mf (gOf y)) := fun y hy => by
    obtain ⟨k, hk⟩ := all (m4 y) (List.mem_map.mpr ⟨y, hy, rfl⟩)
    exact ⟨(gOf_ok hk (pos y hy)).1, fun h => (gOf_ok hk (pos y hy)).2 h⟩
  refine ⟨fun g hg => ?_, by rw [List.length_map]; omega, TG, x, ps, ms, R, TA, ?_⟩
  · obtain ⟨y, hy, rfl⟩ := List.mem_map.mp hg
    exact (ok y hy).1
  · have go : ∀ {ms : List Addr} {L : List Ma4}, (∀ y ∈ L, ∀ {q : Addr}, MaAt CM CP H q (m4 y) → MaAt CM CP H q (mf (gOf y))) → MasAt CM CP H ms (L.map m4) → MasAt CM CP H ms ((L.map gOf).map mf) := by
      intro ms L
      induction L generalizing ms with
      | nil =>
        intro _ h
        cases h
        exact .nil
      | cons y L ih =>
        intro w h
        cases h with
        | cons a t => exact .cons (w y List.mem_cons_self a) (ih (fun z hz => w z (List.mem_cons_of_mem _ hz)) t)
    exact go (fun y hy {q} => (ok y hy).2) M
theorem eq_rowO {K : PySem.W.Frag} {CT CR CM CP CW : Addr} {H : Hp} {a b : Addr} {n : Int} {F : List Fact} {xs : List MG} {Q : Bool → Hp → Prop} (ha : RowS K CT CR CM CP CW H a n F xs) (hb : RowS K CT CR CM CP CW H b n F xs) (q : ∀ H', Same H H' → Q true H') : ROr (ROwn K CW (spRowE K CT CR CM CP CW)) (.ref a) (.ref b) H Q := by
  by_cases e : a = b
  · subst e
    exact .inl ⟨a, rfl, rfl, q H fun _ _ h => h⟩
  · obtain ⟨x1, p1, m1, ⟨da, ta, ea, _⟩, _⟩ := id ha.at_
    obtain ⟨x2, p2, m2, ⟨db, tb, eb, _⟩, _⟩ := id hb.at_
    refine .inr ⟨⟨_, _, .ins ea, .ins eb⟩, fun z => e (V.ref.inj z), ?_⟩
    refine ⟨a, da, _, _, rfl, ea, .ins eb, nf_same, a, n, F, xs, _, rfl, ha, .inl ⟨b, n, F, xs, rfl, hb, fun H' s => ⟨_, rfl, ?_⟩⟩⟩
    rw [decide_eq_true ⟨⟨rfl, rfl⟩, rfl⟩]
    exact q H' s
inductive OutW
  | text (n : Int) | refused (s : Str) | told (L : List Ma4)
noncomputable def outW (F : List Fact) (z : Str) : OutW :=
  match badAt rdM (prts z) with
  | some i => .text ((i : Nat) : Int)
  | none => match dueM F (((prts z).filterMap rdM).map m4) with
    | some e => .refused (outM e)
    | none => .told ((prts z).filterMap rdM)
def OutWAt (K : PySem.W.Frag) (CM CP CW x : Addr) (G : Hp) (p : Addr) : OutW → Prop
  | .text n => G p = some (.tup [.str "text", .int n])
  | .refused s => G p = some (.tup [.str "refused", .str s])
  | .told L => ∃ rw ms, G p = some (.tup [.str "told", .ref rw]) ∧ RowAt K CW G rw x ms ∧ MasAt CM CP G ms (L.map m4)
theorem OutWAt.kq {K : PySem.W.Frag} {CM CP CW x : Addr} {G G' : Hp} {p : Addr} {o : OutW} (h : OutWAt K CM CP CW x G p o) (k : Kq G G') : OutWAt K CM CP CW x G' p o := by
  cases o with
  | text n => exact k _ _ h (fun _ z => nomatch z) fun _ z => nomatch z
  | refused s => exact k _ _ h (fun _ z => nomatch z) fun _ z => nomatch z
  | told L =>
    obtain ⟨rw, ms, a, b, c⟩ := h
    exact ⟨rw, ms, k _ _ a (fun _ z => nomatch z) (fun _ z => nomatch z), b.kq k, c.kq k⟩
theorem outW_bad {F : List Fact} {z : Str} {i : Nat} (b : badAt rdM (prts z) = some i) : outW F z = .text ((i : Nat) : Int) := by
  unfold outW
  rw [b]
theorem outW_err {F : List Fact} {z : Str} {e : ErrM} (b : badAt rdM (prts z) = none) (d : dueM F (((prts z).filterMap rdM).map m4) = some e) : outW F z = .refused (outM e) := by
  unfold outW
  rw [b]
  dsimp only
  rw [d]
theorem outW_ok {F : List Fact} {z : Str} (b : badAt rdM (prts z) = none) (d : dueM F (((prts z).filterMap rdM).map m4) = none) : outW F z = .told ((prts z).filterMap rdM) := by
  unfold outW
  rw [b]
  dsimp only
  rw [d]
theorem rd_pos {l : List Str} : ∀ y ∈ l.filterMap rdM, 1 ≤ y.1.2.2 := fun y hy => by
  obtain ⟨u, _, eu⟩ := List.mem_filterMap.mp hy
  exact (rdM_nb eu).1.2
theorem outW_eq {K : PySem.W.Frag} {CT CR CM CP CW x : Addr} {G : Hp} {p q : Addr} {n : Int} {ps : List Addr} {F : List Fact} {z : Str} {Q : Bool → Hp → Prop} (TA : TreeAt K CT CR G x n ps F) (TG : TreeG n F) (a : OutWAt K CM CP CW x G p (outW F z)) (b : OutWAt K CM CP CW x G q (outW F z)) (k : ∀ G', Same G G' → Q true G') :
    RTup K (fun x y H Q => RFlat x y H Q ∨ ROr (ROwn K CW (spRowE K CT CR CM CP CW)) x y H Q) (.ref p) (.ref q) G Q := by
  cases eb : badAt rdM (prts z) with
  | some i =>
    rw [outW_bad eb] at a b
    exact ⟨p, q, _, _, rfl, rfl, SqT.of a, SqT.of b, eq_flat2 rfl rfl (k G fun _ _ h => h)⟩
  | none =>
    cases ed : dueM F (((prts z).filterMap rdM).map m4) with
    | some e =>
      rw [outW_err eb ed] at a b
      exact ⟨p, q, _, _, rfl, rfl, SqT.of a, SqT.of b, eq_flat2 rfl rfl (k G fun _ _ h => h)⟩
    | none =>
      rw [outW_ok eb ed] at a b
      obtain ⟨r1, m1, a1, a2, a3⟩ := a
      obtain ⟨r2, m2, b1, b2, b3⟩ := b
      exact ⟨p, q, _, _, rfl, rfl, SqT.of a1, SqT.of b1, .inl (rflat rfl (iteT (.inr (eq_rowO (rowS4 a2 TA TG a3 rd_pos ed) (rowS4 b2 TA TG b3 rd_pos ed) fun G' s => iteT (k G' s)))))⟩
theorem prts_len (z : Str) : (prts z).length ≤ z.length + 1 := by
  unfold prts
  by_cases e : z = ("none" : Str)
  · rw [if_pos e]
    exact Nat.zero_le _
  · rw [if_neg e]
    have b0 : TL.tl (", " : Str) ≠ [] := by decide
    exact (split_len b0 (by decide +kernel) z).1
theorem rowR_lam {K : PySem.W.Frag} {CT CR CM CP CW CB CN CG CNR COR CNW CBR CBT x : Addr} {n : Int} {ps : List Addr} {F : List Fact} {z : Str} {G : Hp} {Q1 Kk : VK} (TA : TreeAt K CT CR G x n ps F) (TG : TreeG n F) (zl : z.length ≤ 500000)
    (hK : ∀ v H1, (∀ p, H1 p = none → Q1 (.ref p) (upd H1 p (.tup [.str "told", v]))) → Kk v H1) (fin : ∀ q G5, Same G G5 → OutWAt K CM CP CW x G5 q (outW F z) → Q1 (.ref q) G5) : spReadRowG K CT CR CM CP CW CB CNR COR CNW CBT [.ref x, .str z] G Kk (ErXS CBR CBT CB CN CG CNR COR CNW Q1) := by
  refine ⟨x, n, ps, F, z, rfl, TA, TG, zl, by have := prts_len z; omega, fun i hi => raisT fun p H' s hp => fin p H' s (by rw [outW_bad hi]; exact hp),
    fun bn e he => raisML fun p H' s hp => fin p H' s (by rw [outW_err bn he]; exact hp), fun bn dn rw ms H' s hx RA MA => hK _ _ fun p hp => fin p _ (s.trans (Same.new hp)) ?_⟩
  rw [outW_ok bn dn]
  have sn := Same.new (o := .tup [.str "told", .ref rw]) hp
  exact ⟨rw, ms, upd_same, RA.kq (extN_kq (extN_same sn)), MasAt.same MA sn⟩
end OT
set_option Elab.async false
set_option linter.all false
set_option maxRecDepth 100000
set_option maxHeartbeats 4000000
namespace OT
open PySem L2 OTR LamX
abbrev sRowRt : Stmt := top 63
abbrev qRowL : Str := (PyProof.Rows.envOfC "_law_row_right" (defScope sRowRt) 0 0 .none).qual ++ "<lambda>"
def spRowRtL (K : PySem.W.Frag) (CT CR : Addr) (T : List (Addr × Str)) : Sp := fun vs H Q _ => ∃ (x : Addr) (n : Int) (ps : List Addr) (F : List Fact) (z : Str), vs = [.ref x, .str z] ∧ TreeAt K CT CR H x n ps F ∧ TreeG n F ∧ z.length ≤ 500000 ∧ Tabs T H ∧ ∀ H', ExtN H H' → Tabs T H' → Q (.bl true) H'
section
variable {P : Program} {w : World} {K : PySem.W.Frag} {mg : Str → Option Value} {base : Heap}
abbrev nRowRt : List Str := ["_law_tree_so", "_law_text", "_law_found", "_law_due", "_law_made_here", "_law_piece", "_law_at", "_law_spot", "_law_share", "_law_many"]
theorem scRowRt : FnScope nRowRt ["_law_tree_so", "_law_text"] (defScope sRowRt) := ⟨rfl, rfl, rfl, by decide +kernel, rfl, by decide +kernel, by decide +kernel⟩
theorem ok_rowRtL {f fS fLM fW fWE fMa fPl fRR c PT CT CR CM CP CW CB CN CG CNR COR CNW CBR CBT CTE fBR fBT : Addr} {fdLM fdW fdWE fdMa fdPl fdRR : FuncData} {T : List (Addr × Str)} {oc kV dc pm ct ocS kVS dcS pmS cdS ctS : Value} {an od anS odS : Option Addr} {sl slS : Array (Option Value)}
    (lk : K.lookup f = some ⟨oc, od, .func (PySem.W.fnOf "_law_row_right" "_law_row_right" (defArgs sRowRt) (defBody sRowRt) (defScope sRowRt) .none kV dc pm an (.ref c) ct), sl⟩) (hcd : PySem.W.codeIn K (.ref c) "_law_row_right" = true) (TBt : TabB base mg c PT) (tIn : (PT, qRowL) ∈ T) (tHu : ∀ p ∈ T, p.1 = PT → p.2 = qRowL)
    (lkS : K.lookup fS = some ⟨ocS, odS, .func (PySem.W.fnOf "_law_said" "_law_said" (defArgs sSaid) (defBody sSaid) (defScope sSaid) .none kVS dcS pmS anS cdS ctS), slS⟩) (hcS : PySem.W.codeIn K cdS "_law_said" = true)
    (bS : Binds K (PySem.W.fnOf "_law_said" "_law_said" (defArgs sSaid) (defBody sSaid) (defScope sSaid) .none kVS dcS pmS anS cdS ctS) ["_law_ask"] []) (mS : mg "_law_said" = some (.ref fS)) (kS : PySem.W.keepIn K (.ref fS) = true)
    (TBR : ErT K mg "BadRow" CBR fBR) (TBT : ErT K mg "BadText" CBT fBT) (gTE : mg "TrainError" = some (.ref CTE)) (nR : PySem.W.findIn K (.ref CBR) "number" = some none) (nT : PySem.W.findIn K (.ref CBT) "place" = some none)
    (IX : ExL K CBR CBT CTE (SayL CB CN CG CNR COR CNW)) (SM : ∀ (X : Cx), X.prog = P → X.w = w → X.K = K → X.mg = mg → X.base = base → ∀ C out, SayL CB CN CG CNR COR CNW C out → SaysM X "told" 1 C out)
    (FLM : FnOk P w K mg base CX0 2 fLM fdLM ["_law_text"] spLMarch) (bLM : Binds K fdLM ["_law_text"] []) (mLM : mg "_law_march" = some (.ref fLM)) (kLM : PySem.W.keepIn K (.ref fLM) = true)
    (TM : MaT K mg CM) (MMa : Mk K CM fMa) (FMa : FnOk P w K mg base CX0 1 fMa fdMa ["self", "goal", "steps"] (spMarchI CM)) (bMa : Binds K fdMa ["self", "goal", "steps"] [])
    (TP : PlT K mg CP) (MPl : Mk K CP fPl) (FPl : FnOk P w K mg base (L2.CX P w) 3 fPl fdPl ["self", "road", "number", "parts"] (spPlaceI CP CB)) (bPl : Binds K fdPl ["self", "road", "number", "parts"] [])
    (TW : RwT K mg CW) (MW : Mk K CW fW) (FW : FnOk P w K mg base (L2.CX P w) 5 fW fdW ["self", "tree", "marches"] (spRowI K CT CR CM CP CW CB CNR COR CNW)) (bW : Binds K fdW ["self", "tree", "marches"] [])
    (cW : QC K CW fWE) (FWE : FnOk P w K mg base CX0 8 fWE fdWE ["self", "other"] (spRowE K CT CR CM CP CW)) (bWE : Binds K fdWE ["self", "other"] [])
    (FRR : FnOk P w K mg base (L2.CX P w) 8 fRR fdRR ["tree", "text"] (spReadRowG K CT CR CM CP CW CB CNR COR CNW CBT)) (bRR : Binds K fdRR ["tree", "text"] []) (mRR : mg "read_row" = some (.ref fRR)) (kRR : PySem.W.keepIn K (.ref fRR) = true) :
    FnOk P w K mg base CX0 11 f (PySem.W.fnOf "_law_row_right" "_law_row_right" (defArgs sRowRt) (defBody sRowRt) (defScope sRowRt) .none kV dc pm an (.ref c) ct) ["_law_tree_so", "_law_text"] (spRowRtL K CT CR T) := by
  refine fn_of lk hcd scRowRt (fun vs H Q E h => ?_) (fun A outer s' H vs Q E hr h => ?_)
  · obtain ⟨x, n, ps, fs, z, rfl, _⟩ := h
    rfl
  suffices ∃ t, PSs (cxOf CX0 P w K mg base nRowRt "_law_row_right" (defScope sRowRt) f (.ref c) A outer s' H E).nox (defBody sRowRt) t ∧ t { nx := fun _ H' => Q .non H', rt := Q } (L2.start nRowRt vs) H from by
    obtain ⟨t, h1, h2⟩ := this
    exact ⟨t, h1.nox, h2⟩
  obtain ⟨x, n, ps, fs, z, rfl, TA, TG, zl, tabs, kont⟩ := h
  have hr2 : Room 2 _ := hr.mono (by decide)
  have hr4 : Room 4 _ := hr.mono (by decide)
  have hr9 : Room 9 _ := hr.mono (by decide)
  have u65 : (A.deeper (PyProof.Rows.envOfC "_law_row_right" (defScope sRowRt) s'.heap.objs.size f (.ref c))).units + 65 < cLine := by
    have := hr.un
    omega
  have two : ∀ {u v : V}, [u, v].length ≤ sizeLine := fun {u v} => (by show 2 ≤ sizeLine; decide)
  -- return said(lambda: read_row(tree, text)) == due
  obtain ⟨u, hu, hq⟩ : ∃ u : TS, PSs (cxOf CX0 P w K mg base nRowRt "_law_row_right" (defScope sRowRt) f (.ref c) A outer s' H E).nox ((defBody sRowRt).drop 3) u ∧ ∀ (p : Addr) (G2 : Hp) (v2 v4 : Option V), ExtN H G2 → Tabs T G2 → OutWAt K CM CP CW x G2 p (outW fs z) → u { nx := fun _ H' => Q .non H', rt := Q } [some (.ref x), some (.str z), v2, some (.ref p), v4, none, none, none, none, none] G2 := by
    refine ⟨_, (pss_one (ps_ret (pe_cmpR (op_eqB (rcB_tup (EqB.or eqB_flat (RcB.eqB (rcB_own FWE cW.eq cW.fn bWE)))) hr9)
        (pe_lamcall (T := T) (k := 8) rfl mS kS lkS hcS bS scSaid rfl (Or.inl rfl) (said_gives TBR TBT gTE nR nT IX (SM _ rfl rfl rfl rfl rfl) hr2) TBt rfl tIn tHu hr (lamS_by (by change lamSB (defScope sRowRt) _ = true; decide +kernel)) rfl (fun _ _ _ _ _ => rfl)
          (fun A' outer' s1 H1 E1 f1 c1 hr' => pe_call FRR hr' rfl mRR kRR bRR .nil lam_pass (pa_cons (pv 0) (pa_cons (pv 1) pa_nil)))) (pv 3) (nomark _)))), fun p G2 v2 v4 eN tb o2 => ?_⟩
    refine ⟨tb, fun G4 e4 tb4 Kk hK => ?_⟩
    have eN4 := eN.trans e4
    have TA4 := TA.kq (extN_kq eN4)
    refine ⟨_, rfl, _, rfl, rowR_lam TA4 TG zl hK fun q G5 s5 oq => ?_⟩
    refine ⟨_, rfl, outW_eq (TA4.same s5) TG oq ((o2.kq (extN_kq e4)).kq (extN_kq (extN_same s5))) fun G6 s6 => ?_⟩
    exact kont G6 ((eN4.trans (extN_same s5)).trans (extN_same s6)) ((tb4.ext s5).ext s6)
  -- found is there
  obtain ⟨u1, hu1, hq1⟩ : ∃ u1 : TS, PSs (cxOf CX0 P w K mg base nRowRt "_law_row_right" (defScope sRowRt) f (.ref c) A outer s' H E).nox ((defBody sRowRt).drop 1) u1 ∧ ∀ (D : Addr) (G1 : Hp) (ws : List V), Same H G1 → H D = none → G1 D = some (.lst ws) → Paired (FM D G1) ws ((prts z).map rdM) → u1 { nx := fun _ H' => Q .non H', rt := Q } [some (.ref x), some (.str z), some (.ref D), none, none, none, none, none, none, none] G1 := by
    refine ⟨_, pss_cons (ps_set (i := 3) scRowRt.nd rfl (Or.inl rfl) pe_non)
      (pss_cons (ps_if (pt_cmpR (op_inD u65) pe_non (pv 2) rfl)
        (pss_one (ps_set (i := 3) scRowRt.nd rfl (Or.inl rfl) (pe_tup (pa_cons pe_str (pa_cons (pe_bm PySem.F.plainAttrs_list PySem.F.slot_list_index PySem.F.type_list_index (mt_indexD u65) (pv 2) (pa_cons pe_non pa_nil)) pa_nil)))))
        (pss_cons (ps_set (i := 4) scRowRt.nd rfl (Or.inr rfl) (pe_lc (own := [("_law_at", 6), ("_law_spot", 7), ("_law_share", 8), ("_law_many", 9)]) (g := gLst K 4 (gCons (gName 6) (gCons (gName 7) (gCons (gName 8) (gCons (gName 9) gNil))))) (tt := tYes) rfl scRowRt.nd (pi_list (pv 2)) (blkOk_by (own := [("_law_at", 6), ("_law_spot", 7), ("_law_share", 8), ("_law_many", 9)]) (N := nRowRt) (sc := defScope sRowRt) (by decide +kernel))
            (fun _ _ _ _ _ => pg_lst rfl (pgs_cons (pg_name (i := 6) scRowRt.nd rfl (Or.inl rfl)) (pgs_cons (pg_name (i := 7) scRowRt.nd rfl (Or.inl rfl)) (pgs_cons (pg_name (i := 8) scRowRt.nd rfl (Or.inl rfl)) (pgs_cons (pg_name (i := 9) scRowRt.nd rfl (Or.inl rfl)) pgs_nil))))) (fun _ _ _ _ _ => pts_nil)
            (fun _ _ _ _ _ => pe_make MMa FMa hr2 (by rfl) TM.mgC bMa .nil pass0 (pa_cons (pe_make MPl FPl hr4 (by rfl) TP.mgC bPl .nil passF (pa_cons (pv 6) (pa_cons (pv 7) (pa_cons (pv 8) pa_nil)))) (pa_cons (pv 9) pa_nil)))))
        (pss_one (ps_set (i := 3) scRowRt.nd rfl (Or.inl rfl) (pe_lamcall (T := T) (k := 8) rfl mS kS lkS hcS bS scSaid rfl (Or.inl rfl) (said_gives TBR TBT gTE nR nT IX (SM _ rfl rfl rfl rfl rfl) hr2) TBt rfl tIn tHu hr (lamS_by (by change lamSB (defScope sRowRt) _ = true; decide +kernel)) rfl (fun _ _ _ _ _ => rfl)
          (fun A' outer' s1 H1 E1 f1 c1 hr' => pe_make MW FW (hr'.mono (by decide)) (by rfl) TW.mgC bW .nil lam_pass (pa_cons (pv 0) (pa_cons (pv 4) pa_nil))))))))
      hu), fun D G1 ws sH hDn gD pw => ?_⟩
    have wn : ws.length = (prts z).length := by rw [Paired.length pw, List.length_map]
    refine ⟨_, rfl, .none, ((prts z).map rdM).map dM, .non, .lst (SqL.of gD) (fm_all pw), rfl, dM_shaped _, _, rfl, ?_⟩
    rw [any_dM]
    by_cases c4 : none ∈ (prts z).map rdM
    · rw [decide_eq_true c4]
      obtain ⟨i, hi⟩ : ∃ i, badAt rdM (prts z) = some i := by
        cases e : badAt rdM (prts z) with
        | some i => exact ⟨i, rfl⟩
        | none =>
          obtain ⟨z, hz, ez⟩ := List.mem_map.mp c4
          exact absurd ez (badAt_all e z hz)
      obtain ⟨⟨y, hy, ez⟩, hb⟩ := badAt_some hi
      refine iteT ⟨_, rfl, .inl ⟨rfl, _, SqL.of gD⟩, D, .non, .none, ((prts z).map rdM).map dM, i, dM none, rfl, rfl, .lst (SqL.of gD) (fm_all pw), .non, dM_shaped _, rfl, ?_, rfl, fun m z' hm hz' => ?_, two, fun pt hpt => ?_⟩
      · rw [List.getElem?_map, List.getElem?_map, hy]
        show some (dM (rdM y)) = _
        rw [ez]
      · rw [List.getElem?_map, List.getElem?_map] at hz'
        cases e : (prts z)[m]? with
        | none => rw [e] at hz'; cases hz'
        | some u =>
          rw [e] at hz'
          cases (show dM (rdM u) = z' from Option.some.inj hz')
          rw [eqv_dM, decide_eq_false (hb m u hm e)]
      · have s3 := sH.trans (Same.new (o := .tup [.str "text", .int (i : Nat)]) hpt)
        exact hq pt _ _ _ (extN_same s3) (tabs.ext s3) (by rw [outW_bad hi]; exact upd_same)
    · rw [decide_eq_false c4]
      have gd : ∀ y ∈ prts z, rdM y ≠ none := fun y hy e => c4 (List.mem_map.mpr ⟨y, hy, e⟩)
      have bn := badAt_none gd
      have gl := good_len gd
      have pn := prts_len z
      refine iteF ⟨_, rfl, D, rfl, ⟨_, SqL.of gD⟩, fun L hL => lc_list (K := K) (a := D) (xs := ws) (fun i Gc => ∃ us : List Addr, Gc L = some (.lst (us.map V.ref)) ∧ Same G1 Gc ∧ MasAt CM CP Gc us ((((prts z).filterMap rdM).take i).map m4) ∧ us.length = i)
        ⟨[], upd_same, Same.new hL, .nil, rfl⟩ (fun i Gc _ ⟨_, _, sc, _⟩ => SqL.of (sc _ _ gD)) ?_ ?_⟩
      · rintro i y Gc hi ⟨us, hus, sc, rd, pl⟩
        obtain ⟨o, ho, fo⟩ := paired_get pw hi
        obtain ⟨y, hy, rfl⟩ := map_get ho
        have il := (List.getElem?_eq_some_iff.mp hy).1
        cases er : rdM y with
        | none => exact absurd er (gd y (List.mem_of_getElem? hy))
        | some r =>
          rw [er] at fo
          obtain ⟨E, rfl, nE, gE⟩ := fo
          have hr' := good_get gd hy er
          obtain ⟨⟨⟨nb1, nb2, nb3⟩, pos⟩, nb4⟩ := rdM_nb er
          refine ⟨E, _, rfl, SqL.of (sc _ _ gE), rfl, _, _, rfl, _, _, rfl, _, _, rfl, _, _, rfl, rfl, rfl, ?_⟩
          unfold tYes
          refine iteT ?_
          refine ⟨_, rfl, _, rfl, _, rfl, fun x1 dx nx ndx nex => ⟨x1, dx, r.1, rfl, upd_same, fun q => absurd q (by omega), fun _ => ⟨nb_log9 nb3, fun G5 px keep => ⟨rfl, _, rfl, fun x2 dx2 nx2 ndx2 nex2 => ⟨x2, dx2, x1, r.2, rfl, upd_same, fun G6 mx keep2 => ⟨rfl, us.map V.ref, ?_, (by rw [PySem.sizeLine_eq, List.length_map]; omega), us ++ [x2], by rw [List.map_append]; exact upd_same, fun b o e => ?_, ?_, by rw [List.length_append, pl]; rfl⟩⟩⟩⟩⟩⟩
          · exact made_same nx2 ndx2 keep2 _ _ (made_same nx ndx keep _ _ hus)
          · rw [upd_ne (ne_of_none e hL)]
            exact made_same nx2 ndx2 keep2 _ _ (made_same nx ndx keep _ _ (sc b o e))
          · have s6 : Same Gc G6 := (made_same nx ndx keep).trans (made_same nx2 ndx2 keep2)
            have gL : G6 L = some (.lst (us.map V.ref)) := s6 _ _ hus
            have kL : Kp G6 (upd G6 L (.lst (us.map V.ref ++ [V.ref x2]))) := .put gL
            have old : MasAt CM CP (upd G6 L (.lst (us.map V.ref ++ [V.ref x2]))) us ((((prts z).filterMap rdM).take i).map m4) := MasAt.kp (MasAt.same rd s6) kL
            rw [take_get hr', List.map_append]
            exact paired_snoc old (MaAt.kp ⟨x1, mx, px.same (made_same nx2 ndx2 keep2)⟩ kL)
      · rintro G4 ⟨us, hus, sc, rd, pl⟩
        rw [wn] at pl rd
        rw [show (prts z).length = ((prts z).filterMap rdM).length from gl.symm, List.take_length] at rd
        have sH4 := sH.trans sc
        refine ⟨tabs.ext sH4, fun G5 e5 tb5 Kk hK => ?_⟩
        have eH5 := (extN_same sH4).trans e5
        have TA5 := TA.kq (extN_kq eH5)
        have hus5 := e5 _ _ hus fun _ q => nomatch q
        have rd5 := MasAt.kq rd (extN_kq e5)
        refine ⟨_, rfl, _, rfl, fun y dx nx ndx nex => ?_⟩
        have s9 := (Same.new (o := .own y) ndx).trans (Same.new (o := .ins CW dx []) (show upd G5 dx (.own y) y = none by rw [upd_ne (Ne.symm nex)]; exact nx))
        refine ⟨y, dx, x, L, n, ps, fs, us, _, G5, rfl, upd_same, nx, s9, TA5, TG, .inl (SqL.of hus5), rd5, fun m hm => ?_, by rw [List.length_map, gl]; omega, fun e he => raisML fun p H' s5 hp => ?_, fun en H' RA s5 => ⟨rfl, hK _ _ fun p hp => ?_⟩⟩
        · obtain ⟨v, hv, rfl⟩ := List.mem_map.mp hm
          obtain ⟨u', hu', eu⟩ := List.mem_filterMap.mp hv
          obtain ⟨⟨⟨_, _, h3⟩, h4⟩, _⟩ := rdM_nb eu
          have := h3.2
          exact ⟨h4, by show v.1.2.2 < _; omega⟩
        · exact hq p H' _ _ (eH5.trans (extN_same s5)) (tb5.ext s5) (by rw [outW_err bn he]; exact hp)
        · have sn := Same.new (o := .tup [.str "told", .ref y]) hp
          refine hq p _ _ _ (eH5.trans (extN_same (s5.trans sn))) (tb5.ext (s5.trans sn)) ?_
          rw [outW_ok bn en]
          exact ⟨y, us, upd_same, RA.kq (extN_kq (extN_same sn)), MasAt.same rd5 (s5.trans sn)⟩
  refine ⟨_, pss_cons (ps_set (i := 2) scRowRt.nd rfl (Or.inl rfl) (pe_ifExp (pt_cmpR op_eq (pv 1) pe_str (nomark _)) (pe_lst pa_nil) (pe_lc (own := [("_law_piece", 5)]) (g := gName 5) (tt := tYes) (te := tCall spLMarch [] E0 (tCons (tVar 5) tNil)) rfl scRowRt.nd (pi_list (pe_bm PySem.F.plainAttrs_str PySem.F.slot_str_split PySem.F.type_str_split mt_split (pv 1) (pa_cons pe_str pa_nil))) (blkOk_by (own := [("_law_piece", 5)]) (N := nRowRt) (sc := defScope sRowRt) (by decide +kernel)) (fun _ _ _ _ _ => (pg_name (i := 5) scRowRt.nd rfl (Or.inl rfl))) (fun _ _ _ _ _ => pts_nil) (fun _ _ _ _ _ => (pe_call FLM hr2 rfl mLM kLM bLM .nil pass0 (pa_cons (pv 5) pa_nil))))))
    hu1, ?_⟩
  refine ⟨_, rfl, rfl, _, rfl, ?_⟩
  by_cases e : z = ("none" : Str)
  · rw [decide_eq_true (show (V.str z : V) = V.str "none" from by rw [e])]
    refine iteT ⟨Nat.zero_le _, fun D hD => ?_⟩
    have s1 := Same.new (o := .lst []) hD
    refine hq1 D _ [] s1 hD upd_same ?_
    unfold prts
    rw [if_pos e]
    exact .nil
  · rw [decide_eq_false (show ¬ ((V.str z : V) = V.str "none") from fun q => e (V.str.inj q))]
    have ep : prts z = Txt.split z ", " := by
      unfold prts
      rw [if_neg e]
    have b0 : TL.tl (", " : Str) ≠ [] := by decide
    obtain ⟨sl1, sl2⟩ := split_len b0 (by decide +kernel) z
    refine iteF ⟨_, rfl, rfl, z, ", ", rfl, rfl, by decide +kernel, (by rw [PySem.sizeLine_eq]; omega), fun p1 h1 => ?_⟩
    rw [← ep] at sl1 sl2
    rw [← ep]
    have s1 := Same.new (o := .lst ((prts z).map V.str)) h1
    have g1 := upd_same (H := H) (a := p1) (o := .lst ((prts z).map V.str))
    have f1 : ∀ b o, H b = some o → b ≠ p1 := fun b o e => ne_of_none e h1
    have h1' := h1
    clear h1
    generalize upd H p1 (.lst ((prts z).map V.str)) = H1 at *
    refine ⟨p1, rfl, ⟨_, SqL.of g1⟩, fun D hD => lc_list (K := K) (a := p1) (xs := (prts z).map V.str) (fun i Gc => ∃ ws : List V, Gc D = some (.lst ws) ∧ Same H1 Gc ∧ Paired (FM D Gc) ws (((prts z).map rdM).take i) ∧ ws.length = i)
      ⟨[], upd_same, Same.new hD, .nil, rfl⟩ (fun i Gc _ ⟨_, _, sc, _⟩ => SqL.of (sc _ _ g1)) ?_ ?_⟩
    · rintro i y Gc hi ⟨ws, gD, sc, pw, wn⟩
      obtain ⟨y, hy, rfl⟩ := map_get hi
      have il := (List.getElem?_eq_some_iff.mp hy).1
      dsimp only [gName]
      refine ⟨rfl, ?_⟩
      unfold tYes
      have yl := sl2 y (List.mem_of_getElem? hy)
      have hy' : ((prts z).map rdM)[i]? = some (rdM y) := by rw [List.getElem?_map, hy]; rfl
      have stay : ∀ {G' : Hp} {ws' : List V}, Same Gc G' → Paired (FM D (upd G' D (.lst ws'))) ws (((prts z).map rdM).take i) := fun {G' ws'} sg => Paired.mapP pw fun _ _ h => h.same fun b u e nb => by rw [upd_ne nb]; exact sg b u e
      refine iteT ⟨_, rfl, y, rfl, by omega, fun en G' sg => ?_, fun r er E G' sg hE gE => ?_⟩
      · refine ⟨ws, sg _ _ gD, by rw [PySem.sizeLine_eq]; omega, ws ++ [.non], upd_same, fun b o e => by rw [upd_ne (ne_of_none e hD)]; exact sg _ _ (sc b o e), ?_, by rw [List.length_append, wn]; rfl⟩
        rw [take_get hy', en]
        exact paired_snoc (stay sg) rfl
      · have nE : E ≠ D := fun q => by rw [q, gD] at hE; cases hE
        refine ⟨ws, sg _ _ gD, by rw [PySem.sizeLine_eq]; omega, ws ++ [.ref E], upd_same, fun b o e => by rw [upd_ne (ne_of_none e hD)]; exact sg _ _ (sc b o e), ?_, by rw [List.length_append, wn]; rfl⟩
        rw [take_get hy', er]
        exact paired_snoc (stay sg) ⟨E, rfl, nE, by rw [upd_ne nE]; exact gE⟩
    · rintro G1 ⟨ws, gD, sg, pw, wn⟩
      rw [List.length_map, show (prts z).length = ((prts z).map rdM).length from (List.length_map ..).symm, List.take_length] at pw
      refine hq1 D G1 ws (s1.trans sg) ?_ gD pw
      cases hh : H D with
      | none => rfl
      | some o =>
        have := s1 _ _ hh
        rw [hD] at this
        cases this
end
end OT
set_option Elab.async false
set_option linter.all false
set_option maxRecDepth 100000
set_option maxHeartbeats 4000000
namespace OT
open PySem L2 OTR
abbrev sPlTextL : Stmt := top 53
abbrev sRowTextL : Stmt := top 54
abbrev sTreeRowsL : Stmt := top 55
/-- the text of a road -/
def roadT (r : Fact) : Str := Txt.join " " [("road" : Str), sn r.1, sn r.2.1, sn r.2.2]
def NB3 (r : Fact) : Prop := NB r.1 ∧ NB r.2.1 ∧ NB r.2.2
theorem tl_blank : TL.tl (" " : Str) = [32] := by decide
theorem tl_road : TL.tl ("road" : Str) = [114, 111, 97, 100] := by decide
theorem tl_roadS : TL.tl ("road " : Str) = [114, 111, 97, 100, 32] := by decide
theorem tl_emp : TL.tl Str.empty = [] := rfl
theorem road_fstr (r : Fact) : Str.empty ++ "road " ++ sn r.1 ++ " " ++ sn r.2.1 ++ " " ++ sn r.2.2 = roadT r := by
  apply TL.ext_tl
  unfold roadT
  rw [TL.join_eq, TL.tl_join]
  simp only [TL.tl_append, tl_emp, tl_roadS, tl_blank, List.map_cons, List.map_nil, TL.joinL, tl_road]
  simp
theorem roadT_len {r : Fact} (h : NB3 r) : (roadT r).length ≤ 200 := by
  rw [← road_fstr, TL.len_tl]
  have l1 := sn_len h.1
  have l2 := sn_len h.2.1
  have l3 := sn_len h.2.2
  rw [TL.len_tl] at l1 l2 l3
  simp only [TL.tl_append, tl_emp, tl_roadS, tl_blank, List.length_append, List.length_cons, List.length_nil] at *
  omega
def roadsT (F : List Fact) : List Str := F.map roadT
/-- what stands behind the colon -/
def plR (r : Fact) : Str := if r.2.2 = 1 then sn r.2.1 else sn r.2.1 ++ "/" ++ sn r.2.2
/-- the text of a place -/
def plT (r : Fact) : Str := sn r.1 ++ ":" ++ plR r
/-- the text of a march -/
def maT (p : Fact × Int) : Str := plT p.1 ++ " " ++ sn p.2
theorem ln_app (a b : Str) : (a ++ b).length = a.length + b.length := by rw [TL.len_tl, TL.tl_append, List.length_append, ← TL.len_tl, ← TL.len_tl]
theorem plR_len {r : Fact} (h : NB3 r) : (plR r).length ≤ 63 := by
  have l2 := sn_len h.2.1
  have l3 := sn_len h.2.2
  have e : ("/" : Str).length = 1 := by decide
  unfold plR
  split
  · omega
  · rw [ln_app, ln_app]
    omega
theorem plT_len {r : Fact} (h : NB3 r) : (plT r).length ≤ 95 := by
  have l1 := sn_len h.1
  have l2 := plR_len h
  have e : (":" : Str).length = 1 := by decide
  unfold plT
  rw [ln_app, ln_app]
  omega
theorem maT_len {p : Fact × Int} (h : NB3 p.1) (hn : NB p.2) : (maT p).length ≤ 127 := by
  have l1 := plT_len h
  have l2 := sn_len hn
  have e : (" " : Str).length = 1 := by decide
  unfold maT
  rw [ln_app, ln_app]
  omega
def NBm (x : Ma4) : Prop := NB3 x.1 ∧ 1 ≤ x.1.2.2 ∧ NB x.2
/-- the text of a row -/
def rowT (l : List Ma4) : Str := if l = [] then "none" else Txt.join ", " (l.map maT)
theorem sum_maT {l : List Ma4} (nb : ∀ x ∈ l, NBm x) : ((l.map maT).map fun p => p.length).sum ≤ l.length * 127 := by
  induction l with
  | nil => simp
  | cons x l ih =>
    have h1 := maT_len (nb x List.mem_cons_self).1 (nb x List.mem_cons_self).2.2
    have h2 := ih fun y hy => nb y (List.mem_cons_of_mem _ hy)
    simp only [List.map_cons, List.sum_cons, List.length_cons]
    rw [Nat.add_mul]
    omega
/-- a drawn march, as a march of a text -/
def pr4 (g : Fact) : Ma4 := ((g.1, g.2.1, 1), g.2.2)
def NBg (g : Fact) : Prop := NB g.1 ∧ NB g.2.1 ∧ NB g.2.2
theorem nb1 : NB 1 := ⟨by decide, by decide⟩
theorem NBg.m {g : Fact} (h : NBg g) : NBm (pr4 g) := ⟨⟨h.1, h.2.1, nb1⟩, Int.le_refl 1, h.2.2⟩
abbrev rStrI : List V → Hp → VK → Prop := fun xs H Q => ∃ i : Int, xs = [.int i] ∧ i.natAbs.log2 < 1920 ∧ Q (.str (Str.ofString (toString i))) H
abbrev tStr (t : TE) : TE := tCB rStrI (tCons t tNil)
abbrev rAddS : V → V → Hp → VK → Prop := fun x y H Q => ∃ i j : Str, x = .str i ∧ y = .str j ∧ i.length + j.length ≤ sizeLine ∧ Q (.str (i ++ j)) H
abbrev rJoin (K : PySem.W.Frag) : V → List V → Hp → VK → Prop := fun x xs H Q => ∃ a p, ∃ ys : List Str, x = .str a ∧ xs = [.ref p] ∧ (SqL K H p (ys.map V.str) ∨ SqT K H p (ys.map V.str)) ∧ (ys.map (·.length)).sum + ys.length * a.length ≤ 16777216 ∧ Q (.str (Txt.join a ys)) H
def spPlTextL : Sp := fun vs H Q _ => ∃ (t : Addr) (a b c : Int), vs = [.ref t, .int c] ∧ H t = some (.tup [.int a, .int b]) ∧ NB3 (a, b, c) ∧ Q (.str (plT (a, b, c))) H
def spRowTextL : Sp := fun vs H Q _ => ∃ (l : Addr) (gs : List Fact), vs = [.ref l] ∧ FactsAt H l gs ∧ (∀ g ∈ gs, NBg g) ∧ gs.length ≤ 1000 ∧ ∀ H', Same H H' → Q (.str (rowT (gs.map pr4))) H'
def spTreeRowsL : Sp := fun vs H Q _ => ∃ (p q : Addr) (n : Int) (F : List Fact), vs = [.ref p] ∧ H p = some (.tup [.int n, .ref q]) ∧ FactsAt H q F ∧ (∀ r ∈ F, NB3 r) ∧ F.length ≤ 1000 ∧ ∀ L H', Same H H' → H L = none → H' L = some (.lst ((roadsT F).map V.str)) → Q (.ref L) H'
section
variable {P : Program} {w : World} {K : PySem.W.Frag} {mg : Str → Option Value} {base : Heap}
abbrev nPlTextL : List Str := ["_law_spot", "_law_share", "_law_found"]
theorem scPlTextL : FnScope nPlTextL ["_law_spot", "_law_share"] (defScope sPlTextL) := ⟨rfl, rfl, rfl, by decide +kernel, rfl, by decide +kernel, by decide +kernel⟩
theorem ok_plTextL {f : Addr} {fd : FuncData} (F : Fun K "_law_place_text" "_law_place_text" sPlTextL f fd) (hStr : mg "str" = none) : FnOk P w K mg base CX0 1 f fd ["_law_spot", "_law_share"] spPlTextL := by
  refine F.ok scPlTextL (fun vs H Q E h => ?_) (fun cdv A outer s0 H vs Q E hr h => ?_)
  · obtain ⟨t, a, b, c, rfl, _⟩ := h
    rfl
  · obtain ⟨t, a, b, c, rfl, ht, nb, kont⟩ := h
    refine ⟨_, pss_cons (ps_set (i := 2) scPlTextL.nd rfl (Or.inl rfl) (pe_op op_add_str (pe_op op_add_str (pe_callTy call_str_int (by rfl) hStr (by decide +kernel) (pa_cons (pe_ix ix_tup (pv 0) pe_int (fun _ _ => rfl)) pa_nil)) pe_str) (pe_callTy call_str_int (by rfl) hStr (by decide +kernel) (pa_cons (pe_ix ix_tup (pv 0) pe_int (fun _ _ => rfl)) pa_nil))))
      (pss_one (ps_ret (pe_ifExp (pt_cmpR op_eq (pv 1) pe_int (nomark _)) (pv 2) (pe_op op_add_str (pe_op op_add_str (pv 2) pe_str) (pe_callTy call_str_int (by rfl) hStr (by decide +kernel) (pa_cons (pv 1) pa_nil)))))), ?_⟩
    obtain ⟨n1, n2, n3⟩ := nb
    have l1 : (Str.ofString (toString a)).length ≤ 31 := sn_len n1
    have l2 : (Str.ofString (toString b)).length ≤ 31 := sn_len n2
    have l3 : (Str.ofString (toString c)).length ≤ 31 := sn_len n3
    have e1 : (":" : Str).length = 1 := by decide
    have e2 : ("/" : Str).length = 1 := by decide
    refine ⟨_, rfl, t, _, 0, .int a, rfl, rfl, SqT.of ht, rfl, a, rfl, nb_log n1, _, _, rfl, rfl, (by rw [PySem.sizeLine_eq]; omega), _, rfl, t, _, 1, .int b, rfl, rfl, SqT.of ht, rfl, b, rfl, nb_log n2, _, _, rfl, rfl, (by rw [PySem.sizeLine_eq]; simp only [ln_app]; omega), ?_⟩
    refine ⟨_, rfl, rfl, _, rfl, ?_⟩
    rw [dec_int]
    by_cases h : c = 1
    · rw [show (c == 1) = true from beq_iff_eq.mpr h]
      refine iteT ⟨_, rfl, ?_⟩
      have e : sn a ++ ":" ++ sn b = plT (a, b, c) := by
        unfold plT plR
        rw [if_pos (show (a, b, c).2.2 = 1 from h)]
      have k := kont
      rw [← e] at k
      exact k
    · rw [show (c == 1) = false from beq_eq_false_iff_ne.mpr h]
      refine iteF ⟨_, rfl, _, _, rfl, rfl, (by rw [PySem.sizeLine_eq]; simp only [ln_app]; omega), _, rfl, c, rfl, nb_log n3, _, _, rfl, rfl, (by rw [PySem.sizeLine_eq]; simp only [ln_app]; omega), ?_⟩
      have e : sn a ++ ":" ++ sn b ++ "/" ++ sn c = plT (a, b, c) := by
        apply TL.ext_tl
        unfold plT plR
        rw [if_neg (show ¬ (a, b, c).2.2 = 1 from h)]
        simp only [TL.tl_append, List.append_assoc]
      have k := kont
      rw [← e] at k
      exact k
/-- a road's text in the law -/
def tRoadL (K : PySem.W.Frag) : TE := tBM K "str" (rJoin K) (tC (V.str " ")) (tCons (tLst (tCons (tC (V.str "road")) (tCons (tStr (tVar 1)) (tCons (tStr (tVar 2)) (tCons (tStr (tVar 3)) tNil))))) tNil)
abbrev nTreeRowsL : List Str := ["_law_m", "_law_one", "_law_other", "_law_size"]
theorem scTreeRowsL : FnScope nTreeRowsL ["_law_m"] (defScope sTreeRowsL) := ⟨rfl, rfl, rfl, by decide +kernel, rfl, by decide +kernel, by decide +kernel⟩
theorem ok_treeRowsL {f : Addr} {fd : FuncData} (F : Fun K "_law_tree_rows" "_law_tree_rows" sTreeRowsL f fd) (hStr : mg "str" = none) : FnOk P w K mg base CX0 1 f fd ["_law_m"] spTreeRowsL := by
  refine F.ok scTreeRowsL (fun vs H Q E h => ?_) (fun cdv A outer s0 H vs Q E hr h => ?_)
  · obtain ⟨p, q, n, fs, rfl, _⟩ := h
    rfl
  · obtain ⟨p, q, n, fs, rfl, hp, ⟨ts, hq, hts⟩, nb, fl, kont⟩ := h
    refine ⟨_, pss_one (ps_ret (pe_lc (own := [("_law_one", 1), ("_law_other", 2), ("_law_size", 3)]) (g := gTup K 3 (gCons (gName 1) (gCons (gName 2) (gCons (gName 3) gNil)))) (tt := tYes) (te := tRoadL K) rfl scTreeRowsL.nd (pi_list (pe_ix ix_tup (pv 0) pe_int (fun _ _ => rfl))) (blkOk_by (own := [("_law_one", 1), ("_law_other", 2), ("_law_size", 3)]) (N := nTreeRowsL) (sc := defScope sTreeRowsL) (by decide +kernel)) (fun _ _ _ _ _ => (pg_tup rfl (pgs_cons (pg_name (i := 1) scTreeRowsL.nd rfl (Or.inl rfl)) (pgs_cons (pg_name (i := 2) scTreeRowsL.nd rfl (Or.inl rfl)) (pgs_cons (pg_name (i := 3) scTreeRowsL.nd rfl (Or.inl rfl)) pgs_nil))))) (fun _ _ _ _ _ => pts_nil) (fun _ _ _ _ _ => (pe_bm PySem.F.plainAttrs_str PySem.F.slot_str_join PySem.F.type_str_join mt_join pe_str (pa_cons (pe_lst (pa_cons pe_str (pa_cons (pe_callTy call_str_int (by rfl) hStr (by decide +kernel) (pa_cons (pv 1) pa_nil)) (pa_cons (pe_callTy call_str_int (by rfl) hStr (by decide +kernel) (pa_cons (pv 2) pa_nil)) (pa_cons (pe_callTy call_str_int (by rfl) hStr (by decide +kernel) (pa_cons (pv 3) pa_nil)) pa_nil))))) pa_nil))))), ?_⟩
    have tl : ts.length = fs.length := Paired.length hts
    refine ⟨_, rfl, p, _, 0 + 1, .ref q, rfl, rfl, SqT.of hp, rfl, q, rfl, ⟨_, SqL.of hq⟩, fun D hD => lc_list (K := K) (a := q) (xs := ts.map V.ref) (fun i Gc => Gc D = some (.lst ((roadsT (fs.take i)).map V.str)) ∧ Same H Gc)
      ⟨upd_same, Same.new hD⟩ (fun i Gc _ ⟨_, sg⟩ => SqL.of (sg _ _ hq)) ?_ ?_⟩
    · rintro i y Gc hi ⟨gD, sg⟩
      obtain ⟨u, hu, rfl⟩ := map_get hi
      obtain ⟨r, hr', tr⟩ := paired_get hts hu
      have il := (List.getElem?_eq_some_iff.mp hr').1
      obtain ⟨n1, n2, n3⟩ := nb r (List.mem_of_getElem? hr')
      have l1 : (Str.ofString (toString r.1)).length ≤ 31 := sn_len n1
      have l2 : (Str.ofString (toString r.2.1)).length ≤ 31 := sn_len n2
      have l3 : (Str.ofString (toString r.2.2)).length ≤ 31 := sn_len n3
      have e1 : (" " : Str).length = 1 := by decide
      have e4 : ("road" : Str).length = 4 := by decide
      refine ⟨u, _, rfl, SqT.of (sg _ _ tr), rfl, _, _, rfl, _, _, rfl, _, _, rfl, rfl, rfl, ?_⟩
      unfold tYes tRoadL
      refine iteT ⟨rfl, _, rfl, r.1, rfl, nb_log n1, _, rfl, r.2.1, rfl, nb_log n2, _, rfl, r.2.2, rfl, nb_log n3, (by show 4 ≤ sizeLine; decide), fun p2 h2 => ?_⟩
      have s2 := Same.new (o := .lst (([("road" : Str), sn r.1, sn r.2.1, sn r.2.2] : List Str).map V.str)) h2
      have g2 : upd Gc p2 (.lst (([("road" : Str), sn r.1, sn r.2.1, sn r.2.2] : List Str).map V.str)) p2 = some (.lst (([("road" : Str), sn r.1, sn r.2.1, sn r.2.2] : List Str).map V.str)) := upd_same
      refine ⟨" ", p2, [("road" : Str), sn r.1, sn r.2.1, sn r.2.2], rfl, rfl, .inl (SqL.of g2), ?_, _, s2 _ _ gD, ?_, ?_, fun b o e => ?_⟩
      · simp only [List.map_cons, List.map_nil, List.sum_cons, List.sum_nil, List.length_cons, List.length_nil]
        unfold sn
        omega
      · rw [PySem.sizeLine_eq]
        unfold roadsT
        rw [List.length_map, List.length_map, List.length_take]
        omega
      · rw [take_get hr']
        unfold roadsT
        rw [List.map_append, List.map_append]
        exact upd_same
      · rw [upd_ne (ne_of_none e hD)]
        exact s2 _ _ (sg b o e)
    · rintro G1 ⟨gD, s1⟩
      rw [List.length_map, tl, List.take_length] at gD
      exact kont D G1 s1 hD gD
/-- a march's text in the law -/
def tMaL : TE := tOp rAddS (tOp rAddS (tCall spPlTextL [] E0 (tCons (tTup (tCons (tVar 1) (tCons (tVar 2) tNil))) (tCons (tC (V.int 1)) tNil))) (tC (V.str " "))) (tStr (tVar 3))
abbrev nRowTextL : List Str := ["_law_marches_so", "_law_at", "_law_spot", "_law_many"]
theorem scRowTextL : FnScope nRowTextL ["_law_marches_so"] (defScope sRowTextL) := ⟨rfl, rfl, rfl, by decide +kernel, rfl, by decide +kernel, by decide +kernel⟩
theorem ok_rowTextL {f fPT : Addr} {fd fdPT : FuncData} (F : Fun K "_law_row_text" "_law_row_text" sRowTextL f fd) (FP : FnOk P w K mg base CX0 1 fPT fdPT ["_law_spot", "_law_share"] spPlTextL) (bP : Binds K fdPT ["_law_spot", "_law_share"] []) (mP : mg "_law_place_text" = some (.ref fPT)) (kP : PySem.W.keepIn K (.ref fPT) = true) (hStr : mg "str" = none) : FnOk P w K mg base CX0 2 f fd ["_law_marches_so"] spRowTextL := by
  refine F.ok scRowTextL (fun vs H Q E h => ?_) (fun cdv A outer s0 H vs Q E hr h => ?_)
  · obtain ⟨l, gs, rfl, _⟩ := h
    rfl
  · obtain ⟨l, gs, rfl, ⟨ts, hl, hts⟩, nb, gl, kont⟩ := h
    have hr1 : Room 1 _ := hr.mono (by decide)
    have ul : (A.deeper (PyProof.Rows.envOfC "_law_row_text" (defScope sRowTextL) s0.heap.objs.size f cdv)).units < cLine := Nat.lt_of_le_of_lt (Nat.le_add_right _ _) hr.units
    refine ⟨_, pss_cons (ps_if (pt_cmpR (op_eqNil ul) (pv 0) (pe_lst pa_nil) (nomark _))
        (pss_one (ps_ret pe_str))
        pss_nil)
      (pss_one (ps_ret (pe_bm PySem.F.plainAttrs_str PySem.F.slot_str_join PySem.F.type_str_join mt_join pe_str (pa_cons (pe_lc (own := [("_law_at", 1), ("_law_spot", 2), ("_law_many", 3)]) (g := gTup K 3 (gCons (gName 1) (gCons (gName 2) (gCons (gName 3) gNil)))) (tt := tYes) (te := tMaL) rfl scRowTextL.nd (pi_list (pv 0)) (blkOk_by (own := [("_law_at", 1), ("_law_spot", 2), ("_law_many", 3)]) (N := nRowTextL) (sc := defScope sRowTextL) (by decide +kernel)) (fun _ _ _ _ _ => (pg_tup rfl (pgs_cons (pg_name (i := 1) scRowTextL.nd rfl (Or.inl rfl)) (pgs_cons (pg_name (i := 2) scRowTextL.nd rfl (Or.inl rfl)) (pgs_cons (pg_name (i := 3) scRowTextL.nd rfl (Or.inl rfl)) pgs_nil))))) (fun _ _ _ _ _ => pts_nil) (fun _ _ _ _ _ => (pe_op op_add_str (pe_op op_add_str (pe_call FP hr1 rfl mP kP bP .nil pass0 (pa_cons (pe_tup (pa_cons (pv 1) (pa_cons (pv 2) pa_nil))) (pa_cons pe_int pa_nil))) pe_str) (pe_callTy call_str_int (by rfl) hStr (by decide +kernel) (pa_cons (pv 3) pa_nil))))) pa_nil)))), ?_⟩
    have tl : ts.length = gs.length := Paired.length hts
    -- marches == []
    refine ⟨_, rfl, Nat.zero_le _, fun p0 h0 => ?_⟩
    have s0' := Same.new (o := .lst []) h0
    refine ⟨l, p0, _, rfl, rfl, SqL.of (s0' _ _ hl), SqL.of upd_same, _, rfl, ?_⟩
    have hl0 := s0' _ _ hl
    generalize upd H p0 (.lst []) = H0 at s0' hl0 ⊢
    by_cases e : gs = []
    · subst e
      have et : ts = [] := List.eq_nil_of_length_eq_zero tl
      subst et
      exact iteT (kont H0 s0')
    · have em : ((ts.map V.ref).isEmpty) = false := by
        cases ts with
        | nil => exact absurd (List.eq_nil_of_length_eq_zero tl.symm) e
        | cons m ms => rfl
      rw [em]
      refine iteF ?_
      refine ⟨rfl, _, rfl, l, rfl, ⟨_, SqL.of hl0⟩, fun D hD => lc_list (K := K) (a := l) (xs := ts.map V.ref) (fun i Gc => Gc D = some (.lst ((((gs.map pr4).take i).map maT).map V.str)) ∧ Same H0 Gc)
        ⟨upd_same, Same.new hD⟩ (fun i Gc _ ⟨_, sg⟩ => SqL.of (sg _ _ hl0)) ?_ ?_⟩
      · rintro i y Gc hi ⟨gD, sg⟩
        obtain ⟨u, hu, rfl⟩ := map_get hi
        obtain ⟨r, hr', tr⟩ := paired_get hts hu
        have il := (List.getElem?_eq_some_iff.mp hr').1
        have nbr := nb r (List.mem_of_getElem? hr')
        obtain ⟨n1, n2, n3⟩ := nbr
        have l3 : (Str.ofString (toString r.2.2)).length ≤ 31 := sn_len n3
        have p95 := plT_len (r := (r.1, r.2.1, 1)) ⟨n1, n2, nb1⟩
        have e1 : (" " : Str).length = 1 := by decide
        refine ⟨u, _, rfl, SqT.of (sg _ _ (s0' _ _ tr)), rfl, _, _, rfl, _, _, rfl, _, _, rfl, rfl, rfl, ?_⟩
        unfold tYes tMaL
        refine iteT ⟨_, rfl, _, rfl, (by show 2 ≤ sizeLine; decide), fun t2 ht2 => ?_⟩
        have s2 := Same.new (o := .tup [.int r.1, .int r.2.1]) ht2
        refine ⟨t2, r.1, r.2.1, 1, rfl, upd_same, ⟨n1, n2, nb1⟩, _, _, rfl, rfl, (by rw [PySem.sizeLine_eq]; omega), _, rfl, r.2.2, rfl, nb_log n3, _, _, rfl, rfl, (by rw [PySem.sizeLine_eq]; simp only [ln_app]; omega), _, s2 _ _ gD, ?_, ?_, fun b o e => ?_⟩
        · rw [PySem.sizeLine_eq, List.length_map, List.length_map, List.length_take, List.length_map]
          omega
        · rw [take_get (show (gs.map pr4)[i]? = some (pr4 r) by rw [List.getElem?_map, hr']; rfl), List.map_append, List.map_append]
          exact upd_same
        · rw [upd_ne (ne_of_none e hD)]
          exact s2 _ _ (sg b o e)
      · rintro G1 ⟨gD, s1⟩
        have el : (ts.map V.ref).length = (gs.map pr4).length := by rw [List.length_map, List.length_map, tl]
        rw [el, List.take_length] at gD
        have sm := sum_maT (l := gs.map pr4) fun y hy => by
          obtain ⟨g, hg, rfl⟩ := List.mem_map.mp hy
          exact (nb g hg).m
        rw [List.length_map] at sm
        refine ⟨", ", D, (gs.map pr4).map maT, rfl, rfl, .inl (SqL.of gD), ?_, ?_⟩
        · have h2 : (", " : Str).length = 2 := by decide
          rw [List.length_map, List.length_map, h2]
          omega
        have h := kont G1 (s0'.trans s1)
        unfold rowT at h
        rw [if_neg (by simpa using e)] at h
        exact h
end
end OT
set_option Elab.async false
set_option linter.all false
set_option maxRecDepth 100000
set_option maxHeartbeats 4000000
namespace OT
open PySem L2 OTR LamX
abbrev sLaw : Stmt := top 64
def spLawT (K : PySem.W.Frag) (T : List (Addr × Str)) : Sp := fun vs H Q _ => ∃ (a : Addr) (ns : List Int), vs = [.ref a] ∧ SqL K H a (ns.map V.int) ∧ ns.length ≤ 63 ∧ Tabs T H ∧ ∀ H', Q (.bl true) H'
/-- how long a part is after k changes -/
def Lb : Nat → Nat
  | 0 => 200
  | k + 1 => 3 * Lb k + 400
theorem lb_le {k : Nat} (h : k ≤ 3) : Lb k ≤ 10600 := by
  have c : k = 0 ∨ k = 1 ∨ k = 2 ∨ k = 3 := by omega
  rcases c with rfl | rfl | rfl | rfl <;> decide
theorem src_str {H : Hp} {s l : Addr} {zs : List Str} (src : Src H s) (h : H l = some (.lst (zs.map V.str))) : l ≠ s := src.ne h fun x y z e => by
  have e1 := HO.lst.inj e
  cases zs with
  | nil => exact nomatch e1
  | cons t r =>
    rw [List.map_cons] at e1
    exact nomatch (List.cons.inj e1).1
theorem nbg_of {F : List Fact} {far : Int} {r : Fact} (h : MrOk F far r) (hf : far ≤ 1000000000) (fl : F.length ≤ 23) (big : ∀ r ∈ F, 1 ≤ r.2.2 ∧ r.2.2 ≤ 1000000000) : NBg r := by
  have r0 := h.rd.1
  have r1 := h.rd.2
  have lo := h.lo
  have hi := h.hi
  have s1 := h.s1
  have s2 := h.s2
  have hk : r.1.toNat < F.length := by omega
  have b := (big _ (List.mem_of_getElem? (rd_get hk))).2
  exact ⟨⟨r0, by omega⟩, ⟨lo, by omega⟩, ⟨by omega, by omega⟩⟩
theorem one_len {g : Fact} (h : NBg g) : (rowT ([g].map pr4)).length ≤ 200 := by
  have m := maT_len (p := pr4 g) h.m.1 h.m.2.2
  have j := join_wt ", " ([pr4 g].map maT)
  have h2 : (", " : Str).length = 2 := by decide
  unfold rowT
  rw [if_neg (by simp)]
  simp only [List.map_cons, List.map_nil, List.sum_cons, List.sum_nil, List.length_cons, List.length_nil] at j ⊢
  omega
theorem sum_lb {zs : List Str} {L : Nat} (h : ∀ z ∈ zs, z.length ≤ L) : (zs.map fun p => p.length).sum ≤ zs.length * L := by
  induction zs with
  | nil => simp
  | cons x l ih =>
    have h1 := h x List.mem_cons_self
    have h2 := ih fun y hy => h y (List.mem_cons_of_mem _ hy)
    simp only [List.map_cons, List.sum_cons, List.length_cons]
    rw [Nat.add_mul]
    omega
section
variable {P : Program} {w : World} {K : PySem.W.Frag} {mg : Str → Option Value} {base : Heap}
abbrev nLaw : List Str := ["_law_script", "_law_cell", "_law_source_here", "_law_m", "_law_tree_so", "_law_turn", "_law_some", "_law_marches_so", "_law_k", "_law_text", "_law_fact"]
theorem scLaw : FnScope nLaw ["_law_script"] (defScope sLaw) := ⟨rfl, rfl, rfl, by decide +kernel, rfl, by decide +kernel, by decide +kernel⟩
theorem ok_law {f fS fD fE fMD fMR fRT fTX fSp fSP fTL fRL CT CR : Addr} {T : List (Addr × Str)} {fd fdS fdD fdE fdMD fdMR fdRT fdTX fdSp fdSP fdTL fdRL : FuncData} (F : Fun K "law" "law" sLaw f fd)
    (FS : FnOk P w K mg base CX0 1 fS fdS ["_law_cell"] spSource) (bS : Binds K fdS ["_law_cell"] []) (mS : mg "_law_source" = some (.ref fS)) (kS : PySem.W.keepIn K (.ref fS) = true)
    (FD : FnOk P w K mg base CX0 1 fD fdD ["_law_source_here", "_law_many"] spDraw) (bD : Binds K fdD ["_law_source_here", "_law_many"] []) (mD : mg "_law_draw" = some (.ref fD)) (kD : PySem.W.keepIn K (.ref fD) = true)
    (FE : FnOk P w K mg base CX0 3 fE fdE ["_law_source_here", "_law_most", "_law_long"] spTreeD) (bE : Binds K fdE ["_law_source_here", "_law_most", "_law_long"] []) (mE : mg "_law_tree" = some (.ref fE)) (kE : PySem.W.keepIn K (.ref fE) = true)
    (FMD : FnOk P w K mg base CX0 7 fMD fdMD ["_law_m"] (spMade K CT CR)) (bMD : Binds K fdMD ["_law_m"] []) (mMD : mg "_law_made" = some (.ref fMD)) (kMD : PySem.W.keepIn K (.ref fMD) = true)
    (FMR : FnOk P w K mg base CX0 3 fMR fdMR ["_law_source_here", "_law_m", "_law_most", "_law_far_most"] spMarches) (bMR : Binds K fdMR ["_law_source_here", "_law_m", "_law_most", "_law_far_most"] []) (mMR : mg "_law_marches" = some (.ref fMR)) (kMR : PySem.W.keepIn K (.ref fMR) = true)
    (FRT : FnOk P w K mg base CX0 1 fRT fdRT ["_law_m"] spTreeRowsL) (bRT : Binds K fdRT ["_law_m"] []) (mRT : mg "_law_tree_rows" = some (.ref fRT)) (kRT : PySem.W.keepIn K (.ref fRT) = true)
    (FTX : FnOk P w K mg base CX0 2 fTX fdTX ["_law_marches_so"] spRowTextL) (bTX : Binds K fdTX ["_law_marches_so"] []) (mTX : mg "_law_row_text" = some (.ref fTX)) (kTX : PySem.W.keepIn K (.ref fTX) = true)
    (FSp : FnOk P w K mg base CX0 4 fSp fdSp ["_law_source_here", "_law_some"] (spSpoiltT K)) (bSp : Binds K fdSp ["_law_source_here", "_law_some"] []) (mSp : mg "_law_spoilt" = some (.ref fSp)) (kSp : PySem.W.keepIn K (.ref fSp) = true)
    (FSP : FnOk P w K mg base CX0 3 fSP fdSP ["_law_source_here", "_law_text"] spSpPart) (bSP : Binds K fdSP ["_law_source_here", "_law_text"] []) (mSP : mg "_law_spoilt_part" = some (.ref fSP)) (kSP : PySem.W.keepIn K (.ref fSP) = true)
    (FTL : FnOk P w K mg base CX0 10 fTL fdTL ["_law_some"] (spTreeRtL T)) (bTL : Binds K fdTL ["_law_some"] []) (mTL : mg "_law_tree_right" = some (.ref fTL)) (kTL : PySem.W.keepIn K (.ref fTL) = true)
    (FRL : FnOk P w K mg base CX0 11 fRL fdRL ["_law_tree_so", "_law_text"] (spRowRtL K CT CR T)) (bRL : Binds K fdRL ["_law_tree_so", "_law_text"] []) (mRL : mg "_law_row_right" = some (.ref fRL)) (kRL : PySem.W.keepIn K (.ref fRL) = true)
    (hRg : mg "range" = none) : FnOk P w K mg base CX0 12 f fd ["_law_script"] (spLawT K T) := by
  refine F.ok scLaw (fun vs H Q E h => ?_) (fun cdv A outer s H vs Q E hr h => ?_)
  · obtain ⟨a, ns, rfl, _⟩ := h
    rfl
  · obtain ⟨a, ns, rfl, hS, hlen, tab0, k⟩ := h
    have hr1 : Room 1 _ := hr.mono (by decide)
    have hr2 : Room 2 _ := hr.mono (by decide)
    have hr3 : Room 3 _ := hr.mono (by decide)
    have hr4 : Room 4 _ := hr.mono (by decide)
    have hr7 : Room 7 _ := hr.mono (by decide)
    have hr10 : Room 10 _ := hr.mono (by decide)
    have hr11 : Room 11 _ := hr.mono (by decide)
    refine ⟨_, pss_cons (ps_for PassesOwn.never rfl (pi_list (pe_slice sl_list (pe_op op_catS (pv 0) (pe_lst (pa_cons pe_int pa_nil))) po_none (po_some pe_int))) (pg_name (i := 1) scLaw.nd rfl (Or.inl rfl))
        (pss_cons (ps_set (i := 2) scLaw.nd rfl (Or.inl rfl) (pe_call FS hr1 rfl mS kS bS .nil pass0 (pa_cons (pv 1) pa_nil)))
        (pss_cons (ps_set (i := 3) scLaw.nd rfl (Or.inl rfl) (pe_call FE hr3 rfl mE kE bE .nil pass0 (pa_cons (pv 2) (pa_cons pe_int (pa_cons pe_int pa_nil)))))
        (pss_cons (ps_set (i := 4) scLaw.nd rfl (Or.inl rfl) (pe_call FMD hr7 rfl mMD kMD bMD .nil pass0 (pa_cons (pv 3) pa_nil)))
        (pss_one (ps_for PassesOwn.never rfl (pi_range1 (by rfl) hRg (pa_cons pe_int pa_nil)) (pg_name (i := 5) scLaw.nd rfl (Or.inl rfl))
          (pss_cons (ps_set (i := 6) scLaw.nd rfl (Or.inl rfl) (pe_call FRT hr1 rfl mRT kRT bRT .nil pass0 (pa_cons (pv 3) pa_nil)))
          (pss_cons (ps_setLc (i := 7) (own := [("_law_fact", 10)]) (g := gName 10) (tt := tYes) (te := tCall spRowTextL [] E0 (tCons (tLst (tCons (tVar 10) tNil)) tNil)) rfl scLaw.nd rfl rfl (sw_true rfl rfl rfl (by decide +kernel)) (pi_list (pe_call FMR hr3 rfl mMR kMR bMR .nil pass0 (pa_cons (pv 2) (pa_cons (pv 3) (pa_cons pe_int (pa_cons pe_int pa_nil)))))) (blkOk_by (own := [("_law_fact", 10)]) (N := nLaw) (sc := defScope sLaw) (by decide +kernel)) (fun _ _ _ _ _ => (pg_name (i := 10) scLaw.nd rfl (Or.inl rfl))) (fun _ _ _ _ _ => pts_nil) (fun _ _ _ _ _ => (pe_call FTX hr2 rfl mTX kTX bTX .nil pass0 (pa_cons (pe_lst (pa_cons (pv 10) pa_nil)) pa_nil))))
          (pss_cons (ps_for PassesOwn.never rfl (pi_range1 (by rfl) hRg (pa_cons (pe_call FD hr1 rfl mD kD bD .nil pass0 (pa_cons (pv 2) (pa_cons pe_int pa_nil))) pa_nil)) (pg_name (i := 8) scLaw.nd rfl (Or.inl rfl))
            (pss_one (ps_par (i := 6) (j := 7) rfl scLaw.nd rfl rfl (by decide) rfl rfl (pa_cons (pe_call FSp hr4 rfl mSp kSp bSp .nil pass0 (pa_cons (pv 2) (pa_cons (pv 6) pa_nil))) (pa_cons (pe_call FSp hr4 rfl mSp kSp bSp .nil pass0 (pa_cons (pv 2) (pa_cons (pv 7) pa_nil))) pa_nil)) (by rfl))))
          (pss_cons (ps_set (i := 9) scLaw.nd rfl (Or.inl rfl) (pe_bm PySem.F.plainAttrs_str PySem.F.slot_str_join PySem.F.type_str_join mt_join pe_str (pa_cons (pv 7) pa_nil)))
          (pss_cons (ps_if (PW.pt (pw_or (pt_not (pt_val (pe_call FTL hr10 rfl mTL kTL bTL .nil pass0 (pa_cons (pv 6) pa_nil)))) (pw_or1 (pt_not (pt_val (pe_call FRL hr11 rfl mRL kRL bRL .nil pass0 (pa_cons (pv 4) (pa_cons (pv 9) pa_nil))))))))
            (pss_one (ps_ret pe_bl))
            pss_nil)
          (pss_one (ps_if (pt_not (pt_val (pe_call FRL hr11 rfl mRL kRL bRL .nil pass0 (pa_cons (pv 4) (pa_cons (pe_call FSP hr3 rfl mSP kSP bSP .nil pass0 (pa_cons (pv 2) (pa_cons (pv 9) pa_nil))) pa_nil)))))
            (pss_one (ps_ret pe_bl))
            pss_nil)))))))))))))
      (pss_one (ps_ret pe_bl)), ?_⟩
    have two : ∀ {v : V}, [v].length ≤ sizeLine := fun {v} => (by show 1 ≤ sizeLine; decide)
    have flat0 : ∀ {v : V}, v ∈ (ns.map V.int ++ [V.int 0]) → ∃ z : Int, v = V.int z := fun {v} hv => by
      rcases List.mem_append.mp hv with hv | hv
      · obtain ⟨z, _, rfl⟩ := List.mem_map.mp hv
        exact ⟨z, rfl⟩
      · exact ⟨0, List.mem_singleton.mp hv⟩
    -- (script + [0])[:6]
    refine ⟨_, rfl, two, fun p0 h0 => ⟨a, p0, _, _, rfl, rfl, (Same.new h0).seq hS, SqL.of upd_same, by rw [List.length_map, PySem.sizeLine_eq]; show _ + 1 ≤ _; omega, fun p1 h1 => ?_⟩⟩
    refine ⟨_, rfl, p1, _, rfl, SqL.of upd_same, fun p2 h2 => ?_⟩
    have g2 : upd (upd (upd H p0 (.lst [.int 0])) p1 (.lst (ns.map V.int ++ [.int 0]))) p2 (.lst (cutV (ns.map V.int ++ [V.int 0]) none (some 6))) p2 = some (.lst (cutV (ns.map V.int ++ [V.int 0]) none (some 6))) := upd_same
    have tab1 := tab0.ext (((Same.new (o := .lst [.int 0]) h0).trans (Same.new (o := .lst (ns.map V.int ++ [.int 0])) h1)).trans (Same.new (o := .lst (cutV (ns.map V.int ++ [V.int 0]) none (some 6))) h2))
    have cm : ∀ v ∈ cutV (ns.map V.int ++ [V.int 0]) none (some 6), v ∈ ns.map V.int ++ [V.int 0] := fun v hv => List.mem_of_mem_drop (List.mem_of_mem_take hv)
    generalize cutV (ns.map V.int ++ [V.int 0]) none (some 6) = cs at g2 cm tab1 ⊢
    generalize upd (upd (upd H p0 (.lst [.int 0])) p1 (.lst (ns.map V.int ++ [.int 0]))) p2 (.lst cs) = H1 at g2 tab1 ⊢
    refine ⟨p2, rfl, ⟨_, SqL.of g2⟩, for_list (K := K) (a := p2) (xs := cs) (fun i σ G => ∃ v1 v2 v3 v4 v5 v6 v7 v8 v9 : Option V, σ = [some (.ref a), v1, v2, v3, v4, v5, v6, v7, v8, v9, none] ∧ G p2 = some (.lst cs) ∧ Tabs T G)
      ⟨none, none, none, none, none, none, none, none, none, rfl, g2, tab1⟩ (fun i σ G _ ⟨_, _, _, _, _, _, _, _, _, _, e, _⟩ => SqL.of e) ?_ ?_⟩
    · rintro i y σ G hi ⟨v1, v2, v3, v4, v5, v6, v7, v8, v9, rfl, gp, tb⟩
      obtain ⟨z, rfl⟩ := flat0 (cm _ (List.mem_of_getElem? hi))
      -- source = source_of(cell)
      refine ⟨_, rfl, z, rfl, fun s G1 hsn src1 sg1 => ?_⟩
      have n2 : p2 ≠ s := ne_of_none gp hsn
      -- m = tree(source, 6, 9)
      refine ⟨_, rfl, s, 6, 9, rfl, src1, by decide, by decide, by decide, by decide, fun p q n fs G4 hp hq hf dr src4 b4 => ?_⟩
      have gp4 := b4 _ _ (sg1 _ _ gp) n2
      have tb4 := tabs_but (tb.ext sg1) src1 b4
      have TG := dr.treeG (by decide) (by decide)
      have big : ∀ r ∈ fs, 1 ≤ r.2.2 ∧ r.2.2 ≤ 1000000000 := fun r hr => by
        obtain ⟨_, _, z1, z⟩ := dr.ok r hr
        omega
      have nb : ∀ r ∈ fs, NB3 r := fun r hr => by
        obtain ⟨i1, i2, z1, z⟩ := dr.ok r hr
        have hi := dr.hi
        have h2 := big r hr
        unfold In at i1 i2
        exact ⟨⟨by omega, by omega⟩, ⟨by omega, by omega⟩, ⟨by omega, by omega⟩⟩
      have l23 : fs.length ≤ 23 := by have := TG.len; have := TG.n24; omega
      have l0 : 0 < fs.length := by have := TG.len; have := TG.n2; omega
      -- tree_so = made(m)
      refine ⟨_, rfl, p, q, n, fs, rfl, ⟨hp, hf⟩, dr.due (by decide) (by decide), l23, fun x ps G5 s5 T5 => ?_⟩
      have tr5 : TrAt G5 p q n fs := (TrAt.mk hp hf).same s5
      have src5 := src4.same s5
      have gp5 := s5 _ _ gp4
      have tb5 := tb4.ext s5
      clear gp4 tb4 src4 hp hf s5 b4 src1 sg1 gp tb hsn
      -- for turn in range(4)
      refine ⟨4, rfl, by decide, by decide, for_range (lo := 0) (n := 4) (fun j σ G => ∃ v5 v6 v7 v8 v9 : Option V, σ = [some (.ref a), some (.int z), some (.ref s), some (.ref p), some (.ref x), v5, v6, v7, v8, v9, none] ∧ Src G s ∧ TrAt G p q n fs ∧ TreeAt K CT CR G x n ps fs ∧ G p2 = some (.lst cs) ∧ Tabs T G)
        ⟨v5, v6, v7, v8, v9, rfl, src5, tr5, T5, gp5, tb5⟩ ?_ ?_⟩
      · rintro j σ G hj ⟨v5, v6, v7, v8, v9, rfl, src, tr, TA, gp, tb⟩
        -- some = tree_rows(m)
        obtain ⟨hp, hf⟩ := id tr
        refine ⟨_, rfl, p, q, n, fs, rfl, hp, hf, nb, by omega, fun l1 G1 s1 l1n g1 => ?_⟩
        have src1 := src.same s1
        have tr1 := tr.same s1
        have TA1 := TA.same s1
        have gp1 := s1 _ _ gp
        have tb1 := tb.ext s1
        clear hp hf src tr TA gp tb
        -- marches(source, m, 4, 12)
        refine ⟨_, rfl, _, rfl, s, p, q, n, 4, 12, fs, rfl, src1, tr1, l0, l23, big, by decide, by decide, by decide, by decide, fun q' gs G2 q'n ⟨ts, hl, hts⟩ okm gl src2 b2 => ?_⟩
        have nbg : ∀ g ∈ gs, NBg g := fun g hg => nbg_of (okm g hg) (by decide) l23 big
        have g12 := b2 _ _ g1 (src_str src1 g1)
        have tr2 := tr1.but src1 b2
        have TA2 := TA1.but src1 b2
        have gp2 := b2 _ _ gp1 n2
        have tb2 := tabs_but tb1 src1 b2
        clear g1 tr1 TA1 gp1 tb1 b2 s1
        have tl : ts.length = gs.length := Paired.length hts
        refine ⟨q', rfl, ⟨_, SqL.of hl⟩, fun D hD => lc_list (K := K) (a := q') (xs := ts.map V.ref) (fun i Gc => ∃ ms : List Str, Gc D = some (.lst (ms.map V.str)) ∧ Same G2 Gc ∧ ms.length = i ∧ ∀ m ∈ ms, m.length ≤ 200)
          ⟨[], upd_same, Same.new hD, rfl, fun _ h => nomatch h⟩ (fun i Gc _ ⟨_, _, sg, _⟩ => SqL.of (sg _ _ hl)) ?_ ?_⟩
        · rintro i y Gc hi ⟨ms, gD, sg, mi, mb⟩
          obtain ⟨u, hu, rfl⟩ := map_get hi
          obtain ⟨r, hr', tr⟩ := paired_get hts hu
          have il := (List.getElem?_eq_some_iff.mp hu).1
          have nbr := nbg r (List.mem_of_getElem? hr')
          dsimp only [gName]
          refine ⟨rfl, ?_⟩
          unfold tYes
          refine iteT ⟨_, rfl, two, fun p0 h0 => ⟨p0, [r], rfl, ⟨[u], upd_same, .cons (Same.new (o := .lst [.ref u]) h0 _ _ (sg _ _ tr)) .nil⟩, fun g hg => (List.mem_singleton.mp hg) ▸ nbr, (show 1 ≤ 1000 by decide), fun G3 s3 => ?_⟩⟩
          have s3' := (Same.new (o := .lst [.ref u]) h0).trans s3
          refine ⟨_, s3' _ _ gD, ?_, ms ++ [rowT ([r].map pr4)], by rw [List.map_append]; exact upd_same, fun b o e => ?_, by rw [List.length_append, mi]; rfl, fun m hm => ?_⟩
          · rw [PySem.sizeLine_eq, List.length_map]
            omega
          · rw [upd_ne (ne_of_none e hD)]
            exact s3' _ _ (sg b o e)
          · rcases List.mem_append.mp hm with hm | hm
            · exact mb m hm
            · rw [List.mem_singleton.mp hm]
              exact one_len nbr
        · rintro G3 ⟨ms, gD, s3, mi, mb⟩
          rw [List.length_map, tl] at mi
          have src3 := src2.same s3
          have tr3 := tr2.same s3
          have TA3 := TA2.same s3
          have gp3 := s3 _ _ gp2
          have tb3 := tb2.ext s3
          have g13 := s3 _ _ g12
          clear src2 tr2 TA2 gp2 tb2 g12
          -- for k in range(draw(source, 4))
          refine ⟨_, rfl, s, 4, rfl, src3, by decide, by decide, fun c G4 c0 c4 src4 b4 => ⟨c, rfl, by omega, by omega, ?_⟩⟩
          refine for_range (lo := 0) (n := c.toNat) (fun k σ G => ∃ (v8 v9 : Option V) (l1 l2 : Addr) (zs ys : List Str), σ = [some (.ref a), some (.int z), some (.ref s), some (.ref p), some (.ref x), some (.int (0 + (j : Nat))), some (.ref l1), some (.ref l2), v8, v9, none] ∧ Src G s ∧ TrAt G p q n fs ∧ TreeAt K CT CR G x n ps fs ∧ G p2 = some (.lst cs) ∧ Tabs T G ∧
              G l1 = some (.lst (zs.map V.str)) ∧ G l2 = some (.lst (ys.map V.str)) ∧ (∀ z ∈ zs, z.length ≤ Lb k) ∧ (∀ y ∈ ys, y.length ≤ Lb k) ∧ zs.length ≤ 23 + k ∧ ys.length ≤ 4 + k)
            ⟨v8, v9, l1, D, roadsT fs, ms, rfl, src4, tr3.but src3 b4, TA3.but src3 b4, b4 _ _ gp3 n2, tabs_but tb3 src3 b4, b4 _ _ g13 (src_str src3 g13), b4 _ _ gD (src_str src3 gD), fun y hy => ?_, mb, ?_, by omega⟩ ?_ ?_
          · obtain ⟨r, hr', rfl⟩ := List.mem_map.mp hy
            exact roadT_len (nb r hr')
          · unfold roadsT
            rw [List.length_map]
            omega
          · rintro k σ G hk ⟨v8, v9, l1, l2, zs, ys, rfl, src, tr, TA, gp, tb, gl1, gl2, bz, by', lz, ly⟩
            have k3 : k < 3 := by omega
            have lb := lb_le (k := k) (by omega)
            -- some, marches_so = (spoilt(source, some), spoilt(source, marches_so))
            refine ⟨_, rfl, _, rfl, s, l1, zs, Lb k, rfl, src, gl1, bz, by omega, by omega, fun D1 us1 H1 bu1 lu1 dn1 gd1 src1 b1 => ?_⟩
            have gl2' := b1 _ _ gl2 (src_str src gl2)
            refine ⟨_, rfl, _, rfl, s, l2, ys, Lb k, rfl, src1, gl2', by', by omega, by omega, fun D2 us2 H2 bu2 lu2 dn2 gd2 src2 b2 => ?_⟩
            exact ⟨_, _, rfl, _, _, D1, D2, us1, us2, rfl, src2, (tr.but src b1).but src1 b2, (TA.but src b1).but src1 b2, b2 _ _ (b1 _ _ gp n2) n2, tabs_but (tabs_but tb src b1) src1 b2, b2 _ _ gd1 (src_str src1 gd1), gd2, bu1, bu2, by omega, by omega⟩
          · rintro σ G ⟨v8, v9, l1, l2, zs, ys, rfl, src, tr, TA, gp, tb, gl1, gl2, bz, by', lz, ly⟩
            have lb := lb_le (k := c.toNat) (by omega)
            have h2 : (", " : Str).length = 2 := by decide
            have sm := sum_lb by'
            have y7 : ys.length ≤ 7 := by omega
            have yl : ys.length * Lb c.toNat ≤ 7 * 10600 := Nat.mul_le_mul y7 lb
            have y2 : ys.length * (", " : Str).length ≤ 7 * 2 := Nat.mul_le_mul y7 (Nat.le_of_eq h2)
            have jw := join_wt ", " ys
            -- text = ", ".join(marches_so)
            refine ⟨rfl, _, rfl, ", ", l2, ys, rfl, rfl, .inl (SqL.of gl2), by omega, ?_⟩
            have tlen : (Txt.join ", " ys).length ≤ 75000 := by omega
            generalize Txt.join ", " ys = tx at tlen ⊢
            -- if not tree_right(some) or not row_right(tree_so, text)
            refine ⟨_, rfl, l1, zs, rfl, gl1, fun z hz => Nat.le_trans (bz z hz) (by omega), by omega, tb, fun G5 e5 tb5 => ⟨true, rfl, iteF ?_⟩⟩
            have src5 := src.extN e5
            have TA5 := TA.kq (extN_kq e5)
            have tr5 := tr.kd src (KD.ext e5)
            have gp5 := e5 _ _ gp fun _ z => nomatch z
            refine ⟨_, rfl, _, rfl, x, n, ps, fs, tx, rfl, TA5, TG, by omega, tb5, fun G6 e6 tb6 => ⟨true, rfl, iteF ?_⟩⟩
            have src6 := src5.extN e6
            have TA6 := TA5.kq (extN_kq e6)
            have tr6 := tr5.kd src5 (KD.ext e6)
            have gp6 := e6 _ _ gp5 fun _ z => nomatch z
            -- if not row_right(tree_so, spoilt_part(source, text))
            refine ⟨_, rfl, _, rfl, _, rfl, s, tx, rfl, src6, by omega, fun y G7 yl src7 b7 => ?_⟩
            have TA7 := TA6.but src6 b7
            refine ⟨x, n, ps, fs, y, rfl, TA7, TG, by omega, tabs_but tb6 src6 b7, fun G8 e8 tb8 => ⟨true, rfl, iteF ?_⟩⟩
            exact ⟨_, _, _, _, _, rfl, src7.extN e8, (tr6.but src6 b7).kd src7 (KD.ext e8), TA7.kq (extN_kq e8), e8 _ _ (b7 _ _ gp6 n2) (fun _ z => nomatch z), tb8⟩
      · rintro σ G ⟨v5, v6, v7, v8, v9, rfl, src, tr, TA, gp, tb⟩
        exact ⟨_, _, _, _, _, _, _, _, _, rfl, gp, tb⟩
    · rintro σ G ⟨v1, v2, v3, v4, v5, v6, v7, v8, v9, rfl, gp, tb⟩
      exact k G
end
end OT
set_option Elab.async false
set_option linter.all false
set_option maxRecDepth 100000
set_option maxHeartbeats 4000000
namespace OT
open PySem L2 OTR LamX
abbrev sToldB : Stmt := inClass (top 3) 1
abbrev sToldN : Stmt := inClass (top 4) 1
abbrev sToldG : Stmt := inClass (top 5) 1
abbrev sToldNR : Stmt := inClass (top 6) 1
abbrev sToldOR : Stmt := inClass (top 7) 1
abbrev sToldNW : Stmt := inClass (top 8) 1
section
variable {P : Program} {w : World} {K : PySem.W.Frag} {mg : Str → Option Value} {base : Heap}
theorem says_q {X : Cx} (e1 : X.prog = P) (e2 : X.w = w) (e3 : X.K = K) (e4 : X.mg = mg) (e5 : X.base = base) {C f : Addr} {fd : FuncData} {qual out : Str} {st : Stmt} (xf : XfC K C) (m : Meth K C "told" f) (F : Fun K "told" qual st f fd) (b : Binds K fd ["self"] []) (S : FnScope ["self"] ["self"] (defScope st))
    (hb : ∀ X, PSs X (defBody st) (tRet (tC (V.str out)))) : SaysM X "told" 1 C (.str out) := by
  subst e1 e2 e3 e4 e5
  exact ⟨xf, True.intro, f, fd, m, told_q F S hb, b⟩
theorem sm_all {CB CN CG CNR COR CNW fB fN fG fNR fOR fNW : Addr} {fdB fdN fdG fdNR fdOR fdNW : FuncData}
    (xB : XfC K CB) (xN : XfC K CN) (xG : XfC K CG) (xNR : XfC K CNR) (xOR : XfC K COR) (xNW : XfC K CNW)
    (mB : Meth K CB "told" fB) (FB : Fun K "told" "BadCount.told" sToldB fB fdB) (bB : Binds K fdB ["self"] [])
    (mN : Meth K CN "told" fN) (FN : Fun K "told" "NoCrossing.told" sToldN fN fdN) (bN : Binds K fdN ["self"] [])
    (mG : Meth K CG "told" fG) (FG : Fun K "told" "RingRoad.told" sToldG fG fdG) (bG : Binds K fdG ["self"] [])
    (mNR : Meth K CNR "told" fNR) (FNR : Fun K "told" "NoRoad.told" sToldNR fNR fdNR) (bNR : Binds K fdNR ["self"] [])
    (mOR : Meth K COR "told" fOR) (FOR : Fun K "told" "OffRoad.told" sToldOR fOR fdOR) (bOR : Binds K fdOR ["self"] [])
    (mNW : Meth K CNW "told" fNW) (FNW : Fun K "told" "NotWhole.told" sToldNW fNW fdNW) (bNW : Binds K fdNW ["self"] []) :
    ∀ (X : Cx), X.prog = P → X.w = w → X.K = K → X.mg = mg → X.base = base → ∀ C out, SayL CB CN CG CNR COR CNW C out → SaysM X "told" 1 C out := by
  intro X e1 e2 e3 e4 e5 C out h
  cases h with
  | bad => exact says_q e1 e2 e3 e4 e5 xB mB FB bB ⟨rfl, rfl, rfl, by decide +kernel, rfl, by decide +kernel, by decide +kernel⟩ fun X => pss_one (ps_ret pe_str)
  | cross => exact says_q e1 e2 e3 e4 e5 xN mN FN bN ⟨rfl, rfl, rfl, by decide +kernel, rfl, by decide +kernel, by decide +kernel⟩ fun X => pss_one (ps_ret pe_str)
  | ring => exact says_q e1 e2 e3 e4 e5 xG mG FG bG ⟨rfl, rfl, rfl, by decide +kernel, rfl, by decide +kernel, by decide +kernel⟩ fun X => pss_one (ps_ret pe_str)
  | no => exact says_q e1 e2 e3 e4 e5 xNR mNR FNR bNR ⟨rfl, rfl, rfl, by decide +kernel, rfl, by decide +kernel, by decide +kernel⟩ fun X => pss_one (ps_ret pe_str)
  | off => exact says_q e1 e2 e3 e4 e5 xOR mOR FOR bOR ⟨rfl, rfl, rfl, by decide +kernel, rfl, by decide +kernel, by decide +kernel⟩ fun X => pss_one (ps_ret pe_str)
  | whole => exact says_q e1 e2 e3 e4 e5 xNW mNW FNW bNW ⟨rfl, rfl, rfl, by decide +kernel, rfl, by decide +kernel, by decide +kernel⟩ fun X => pss_one (ps_ret pe_str)
theorem ix_all {CB CN CG CNR COR CNW CBR CBT CTE : Addr} (rr : PySem.W.exmOne K (.ref CBR) (.ref CBR) = some true) (tr : PySem.W.exmOne K (.ref CBT) (.ref CBR) = some false) (tt : PySem.W.exmOne K (.ref CBT) (.ref CBT) = some true)
    (r1 : PySem.W.exmOne K (.ref CB) (.ref CBR) = some false) (r2 : PySem.W.exmOne K (.ref CN) (.ref CBR) = some false) (r3 : PySem.W.exmOne K (.ref CG) (.ref CBR) = some false) (r4 : PySem.W.exmOne K (.ref CNR) (.ref CBR) = some false) (r5 : PySem.W.exmOne K (.ref COR) (.ref CBR) = some false) (r6 : PySem.W.exmOne K (.ref CNW) (.ref CBR) = some false)
    (t1 : PySem.W.exmOne K (.ref CB) (.ref CBT) = some false) (t2 : PySem.W.exmOne K (.ref CN) (.ref CBT) = some false) (t3 : PySem.W.exmOne K (.ref CG) (.ref CBT) = some false) (t4 : PySem.W.exmOne K (.ref CNR) (.ref CBT) = some false) (t5 : PySem.W.exmOne K (.ref COR) (.ref CBT) = some false) (t6 : PySem.W.exmOne K (.ref CNW) (.ref CBT) = some false)
    (e1 : PySem.W.exmOne K (.ref CB) (.ref CTE) = some true) (e2 : PySem.W.exmOne K (.ref CN) (.ref CTE) = some true) (e3 : PySem.W.exmOne K (.ref CG) (.ref CTE) = some true) (e4 : PySem.W.exmOne K (.ref CNR) (.ref CTE) = some true) (e5 : PySem.W.exmOne K (.ref COR) (.ref CTE) = some true) (e6 : PySem.W.exmOne K (.ref CNW) (.ref CTE) = some true) :
    ExL K CBR CBT CTE (SayL CB CN CG CNR COR CNW) where
  rr := rr
  tr := tr
  tt := tt
  sr := fun C out h => by cases h <;> assumption
  st := fun C out h => by cases h <;> assumption
  se := fun C out h => by cases h <;> assumption
end
end OT
set_option Elab.async false
set_option linter.all false
set_option maxRecDepth 100000
set_option maxHeartbeats 2000000
namespace OT
open PySem L2 OTR
theorem qc_ok {K : PySem.W.Frag} {C f : Addr} (cl : Cls K C) (g : gB K = true) (h : eqB K C f = true) : QC K C f := by
  obtain ⟨g1, g2⟩ := two g
  obtain ⟨h1, h⟩ := two h
  obtain ⟨h2, h⟩ := two h
  obtain ⟨h3, h⟩ := two h
  obtain ⟨h4, h⟩ := two h
  obtain ⟨h5, h6⟩ := two h
  have key : ∀ T, oth T → PySem.W.kitOne K (.type T) (.ref C) = some false ∧ PySem.W.subIn K (.type T) (.ref C) = some false ∧ PySem.W.subIn K (.ref C) (.type T) = some false := fun T hT => by
    have m : T ∈ ["NoneType", "tuple", "list"] := by
      rcases hT with rfl | rfl | rfl
      · exact List.mem_cons_self
      · exact List.mem_cons_of_mem _ List.mem_cons_self
      · exact List.mem_cons_of_mem _ (List.mem_cons_of_mem _ List.mem_cons_self)
    obtain ⟨k1, k⟩ := two (List.all_eq_true.mp h6 T m)
    obtain ⟨k2, k3⟩ := two k
    exact ⟨of_decide_eq_true k1, of_decide_eq_true k2, of_decide_eq_true k3⟩
  exact ⟨cl, He.eqO_ok h1, He.eqO_ok g1, of_decide_eq_true g2, of_decide_eq_true h2, He.eqO_ok h3, h4, He.eqO_ok h5, fun T hT => (key T hT).1, fun T hT => by
    have z := (key T hT).2.1
    unfold PySem.W.notFirst
    rw [z]
    simp, fun T hT => (key T hT).2.2⟩
theorem er_ok {K : PySem.W.Frag} {mg : Str → Option Value} {nm : Str} {C f : Addr} (m : mg nm = some (.ref C)) (g : gB K = true) (h : erB K C f = true) : ErT K mg nm C f := by
  obtain ⟨g1, g2⟩ := two g
  obtain ⟨h1, h⟩ := two h
  obtain ⟨h2, h⟩ := two h
  obtain ⟨h3, h⟩ := two h
  obtain ⟨h4, h⟩ := two h
  obtain ⟨h5, h⟩ := two h
  obtain ⟨h6, h⟩ := two h
  obtain ⟨h7, h⟩ := two h
  obtain ⟨h8, h9⟩ := two h
  have x := xfB_ok h2
  exact ⟨m, ⟨veB_ok h1, He.eqO_ok h3, x.exC, of_decide_eq_true h4, h5⟩, x, ⟨x.ga, x.gg, x.exC, x.hdC, He.eqO_ok h6, He.eqO_ok g1, of_decide_eq_true g2, of_decide_eq_true h7⟩, He.eqO_ok h8, of_decide_eq_true h9⟩
end OT
set_option Elab.async false
set_option linter.all false
set_option maxRecDepth 100000
set_option maxHeartbeats 2000000
namespace OT
open PySem L2 OTR
def TabOf (K : PySem.W.Frag) (f c PT : Addr) : Prop := ∃ (o : Obj) (fd : FuncData) (e : Value) (dd : Option Addr) (vs : Array Value) (sl : Array (Option Value)), K.lookup f = some o ∧ o.data = .func fd ∧ fd.code = .ref c ∧ K.lookup c = some ⟨e, dd, .fields vs, sl⟩ ∧ vs[11]? = some (.ref PT) ∧ PySem.W.codeHdIn K c PT = true ∧ K.lookup PT = none
theorem tab_ok {K : PySem.W.Frag} {f : Addr} (h : tabB K f = true) : TabOf K f (cdA K f) (ptA K f) := by
  unfold tabB at h
  obtain ⟨h1, h⟩ := two h
  obtain ⟨h2, h⟩ := two h
  obtain ⟨h3, h4⟩ := two h
  generalize cdA K f = c at *
  generalize ptA K f = p at *
  cases e1 : K.lookup f with
  | none =>
    rw [e1] at h1
    cases h1
  | some o =>
    rw [e1] at h1
    dsimp only at h1
    split at h1
    · rename_i fd e2
      cases e3 : K.lookup c with
      | none =>
        rw [e3] at h2
        cases h2
      | some u =>
        rw [e3] at h2
        dsimp only at h2
        split at h2
        · rename_i vs e4
          obtain ⟨x1, x2, x3, x4⟩ := u
          dsimp only at e4
          subst e4
          exact ⟨o, fd, x1, x2, vs, x4, e1, e2, of_decide_eq_true h1, e3, of_decide_eq_true h2, h3, Option.isNone_iff_eq_none.mp h4⟩
        · cases h2
    · cases h1
theorem fun_tab {K : PySem.W.Frag} {x qual : Str} {st : Stmt} {f c PT : Addr} {fd : FuncData} (F : Fun K x qual st f fd) (t : TabOf K f c PT) : ∃ (oc : Value) (od : Option Addr) (kV doc pm : Value) (an : Option Addr) (ct : Value) (osl : Array (Option Value)),
    fd = PySem.W.fnOf x qual (defArgs st) (defBody st) (defScope st) .none kV doc pm an (.ref c) ct ∧ K.lookup f = some ⟨oc, od, .func (PySem.W.fnOf x qual (defArgs st) (defBody st) (defScope st) .none kV doc pm an (.ref c) ct), osl⟩ ∧ PySem.W.codeIn K (.ref c) qual = true := by
  obtain ⟨oc, od, kV, doc, pm, an, cdv, ct, osl, rfl, lk, hcd⟩ := F.ex
  obtain ⟨o, fd, e, dd, vs, sl, k1, k2, k3, _⟩ := t
  rw [lk] at k1
  cases k1
  cases k2
  have e3 : cdv = .ref c := k3
  subst e3
  exact ⟨oc, od, kV, doc, pm, an, ct, osl, rfl, lk, hcd⟩
theorem fun_ex {K : PySem.W.Frag} {x qual : Str} {st : Stmt} {f : Addr} {fd : FuncData} (F : Fun K x qual st f fd) : ∃ (oc : Value) (od : Option Addr) (kV doc pm : Value) (an : Option Addr) (cdv ct : Value) (osl : Array (Option Value)),
    fd = PySem.W.fnOf x qual (defArgs st) (defBody st) (defScope st) .none kV doc pm an cdv ct ∧ K.lookup f = some ⟨oc, od, .func (PySem.W.fnOf x qual (defArgs st) (defBody st) (defScope st) .none kV doc pm an cdv ct), osl⟩ ∧ PySem.W.codeIn K cdv qual = true := by
  obtain ⟨oc, od, kV, doc, pm, an, cdv, ct, osl, rfl, lk, hcd⟩ := F.ex
  exact ⟨oc, od, kV, doc, pm, an, cdv, ct, osl, rfl, lk, hcd⟩
/-- the goal behind the head, from the law's promise; nms: the defs that hold lambdas -/
theorem walkT {l : PySem.W.OpenLaw} {q : Program} {loose : List Str} {XP : (Str → Option Value) → Heap → Prop} {YP : World → Heap → Prop} {d : DefRec} {k : Nat} (sp : PySem.W.Frag → List (Addr × Str) → Sp)
    (hsp : ∀ K T H a (ns : List Int), ns.length ≤ 63 → LamX.Tabs T H → SqL K H a (ns.map V.int) → sp K T [.ref a] H (fun v _ => v = .bl true) fun _ _ _ => False)
    (nms : List Str) (most : l.most = some 63) (plain : d.params.defaults = []) (hr : Room k callerA) (hrec : (nms.all fun nm => (PyProof.Rows.recsOf q).any fun e => e.name == nm) = true)
    (F : ∀ (w : World) (mg : Str → Option Value) (fa : Addr) (h : Heap), YP w h → h.Ns mainGlobals mg → mg d.name = some (.ref fa) →
      ∃ (K : PySem.W.Frag) (fd : FuncData) (cs : List (Addr × Addr)) (T : List (Addr × Str)), K.In h ∧ (∀ p ∈ cs, ∃ nm ∈ nms, ∃ f, mg nm = some (.ref f) ∧ TabOf K f p.1 p.2) ∧ (∀ t ∈ T, ∃ p ∈ cs, p.2 = t.1) ∧ (∀ (s : Shared) (u : Value), BindsTo s fd ⟨[u], []⟩ [("_law_script", u)]) ∧
        ∀ base : Heap, K.In base → base.Ns mainGlobals mg → (∀ p ∈ cs, LamX.TabB base mg p.1 p.2) → FnOk l.prog w K mg base CX0 k fa fd ["_law_script"] (sp K T)) :
    PySem.W.WalkO q loose XP YP l.row.toRowW d [] (fun f vs => PySem.call f vs) := by
  refine Att.attach_callB most plain fun w s₀ s₁ mg mb fa o pm cd doc a vs ns G Y ho hd hcd hmg hobj hints hlen hbits hg => ?_
  obtain ⟨K, fd, cs, T, KX, tab, inT, hb, hF⟩ := F w mg fa _ Y G.T.g hmg
  refine LamX.law_callTs (cs := cs) KX G.T.g G.T.b G.T.builtins G.T.nolimit hg (fun p hp => ?_) (fun p hp => ?_) (fun p hp => ?_) G.T.bmain hobj hints (Nat.le_trans hlen (by decide)) hr
    hF hb (fun H hH hS => hsp K T H a ns hlen (fun t ht => ?_) hS) fun H e s' z => z
  · obtain ⟨nm, hnm, f, hm, o1, fd1, e, dd, vs1, sl, k1, k2, k3, k4, k5, k6, k7⟩ := tab p hp
    obtain ⟨dL, hmem, hn1⟩ := List.any_eq_true.mp (List.all_eq_true.mp hrec nm hnm)
    have hn2 : dL.name = nm := beq_iff_eq.mp hn1
    obtain ⟨a', o', fd', c', P', h1, h2, h3, h4, h5, h6⟩ := G.T.tab dL hmem
    rw [hn2, hm] at h1
    cases h1
    have g1 := KX _ _ k1
    rw [g1] at h2
    cases h2
    rw [k2] at h3
    cases h3
    rw [k3] at h4
    cases h4
    obtain ⟨⟨oc, vc, e1, _, e3, e4⟩, hP⟩ := h6
    have g2 := KX _ _ k4
    rw [g2] at e1
    cases e1
    cases e3
    rw [k5] at e4
    cases e4
    exact hP
  · obtain ⟨nm, hnm, f, hm, o1, fd1, e, dd, vs1, sl, k1, k2, k3, k4, k5, k6, k7⟩ := tab p hp
    exact k7
  · obtain ⟨nm, hnm, f, hm, o1, fd1, e, dd, vs1, sl, k1, k2, k3, k4, k5, k6, k7⟩ := tab p hp
    exact PySem.W.codeHd_of_K KX k6
  · obtain ⟨p, hp, e⟩ := inT t ht
    have z := LamX.TabS.nil (q := t.2) (hH p hp)
    rw [e] at z
    exact z
end OT
set_option Elab.async false
set_option linter.all false
set_option maxRecDepth 100000
set_option maxHeartbeats 2000000
namespace OT
open PySem L2 OTR
theorem all_mk {P : Program} {w : World} {K : PySem.W.Frag} {mg : Str → Option Value} {fS fD fP fU fE fC fI fA fCK fCH fMD fMR fEA fCO fKY fKD fRN fRRD fRTR fRP fRMA fRMS fRRW fLPT fLRT fLTR fLN fLR fLM fLSA fLSP fLSO fLTL fLRL fL CR CT CP CM CW CB CN CG CNR COR CNW CBR CBT CTE fB fN fG fNR fOR fNW fR fT fPl fMa fRw fRE fTE fPE fME fWE fBR fBT fTDB fTDN fTDG fTDNR fTDOR fTDNW cALTL PTLTL cALRL PTLRL : Addr} {fdS fdD fdP fdU fdE fdC fdI fdA fdCK fdCH fdMD fdMR fdEA fdCO fdKY fdKD fdRN fdRRD fdRTR fdRP fdRMA fdRMS fdRRW fdLPT fdLRT fdLTR fdLN fdLR fdLM fdLSA fdLSP fdLSO fdLTL fdLRL fdL fdB fdN fdG fdNR fdOR fdNW fdR fdT fdPl fdMa fdRw fdRE fdTE fdPE fdME fdWE fdBR fdBT fdTDB fdTDN fdTDG fdTDNR fdTDOR fdTDNW : FuncData}
    (aS : mg "_law_source" = some (.ref fS))
    (FS : Fun K "_law_source" "_law_source" sSource fS fdS)
    (aD : mg "_law_draw" = some (.ref fD))
    (FD : Fun K "_law_draw" "_law_draw" sDraw fD fdD)
    (aP : mg "_law_pick" = some (.ref fP))
    (FP : Fun K "_law_pick" "_law_pick" sPick fP fdP)
    (aU : mg "_law_shuffled" = some (.ref fU))
    (FU : Fun K "_law_shuffled" "_law_shuffled" sShuf fU fdU)
    (aE : mg "_law_tree" = some (.ref fE))
    (FE : Fun K "_law_tree" "_law_tree" sTreeD fE fdE)
    (aC : mg "check_road" = some (.ref fC))
    (FC : Fun K "check_road" "check_road" sCheck fC fdC)
    (aI : mg "join_trails" = some (.ref fI))
    (FI : Fun K "join_trails" "join_trails" sJoin fI fdI)
    (aA : mg "trails_along" = some (.ref fA))
    (FA : Fun K "trails_along" "trails_along" sTrails fA fdA)
    (aCK : mg "check_place" = some (.ref fCK))
    (FCK : Fun K "check_place" "check_place" sCheckPl fCK fdCK)
    (aCH : mg "check_march" = some (.ref fCH))
    (FCH : Fun K "check_march" "check_march" sCheckMa fCH fdCH)
    (aMD : mg "_law_made" = some (.ref fMD))
    (FMD : Fun K "_law_made" "_law_made" sMade fMD fdMD)
    (aMR : mg "_law_marches" = some (.ref fMR))
    (FMR : Fun K "_law_marches" "_law_marches" sMarches fMR fdMR)
    (aEA : mg "end_at" = some (.ref fEA))
    (FEA : Fun K "end_at" "end_at" sEndAt fEA fdEA)
    (aCO : mg "corner" = some (.ref fCO))
    (FCO : Fun K "corner" "corner" sCorner fCO fdCO)
    (aKY : mg "key" = some (.ref fKY))
    (FKY : Fun K "key" "key" sKey fKY fdKY)
    (aKD : mg "keyed" = some (.ref fKD))
    (FKD : Fun K "keyed" "keyed" sKeyed fKD fdKD)
    (aRN : mg "read_number" = some (.ref fRN))
    (FRN : Fun K "read_number" "read_number" sReadNumber fRN fdRN)
    (aRRD : mg "read_road" = some (.ref fRRD))
    (FRRD : Fun K "read_road" "read_road" sReadRoad fRRD fdRRD)
    (aRTR : mg "read_tree" = some (.ref fRTR))
    (FRTR : Fun K "read_tree" "read_tree" sReadTree fRTR fdRTR)
    (aRP : mg "read_place" = some (.ref fRP))
    (FRP : Fun K "read_place" "read_place" sReadPlace fRP fdRP)
    (aRMA : mg "read_march" = some (.ref fRMA))
    (FRMA : Fun K "read_march" "read_march" sReadMarch fRMA fdRMA)
    (aRMS : mg "read_marches" = some (.ref fRMS))
    (FRMS : Fun K "read_marches" "read_marches" sReadMarches fRMS fdRMS)
    (aRRW : mg "read_row" = some (.ref fRRW))
    (FRRW : Fun K "read_row" "read_row" sReadRow fRRW fdRRW)
    (aLPT : mg "_law_place_text" = some (.ref fLPT))
    (FLPT : Fun K "_law_place_text" "_law_place_text" sPlTextL fLPT fdLPT)
    (aLRT : mg "_law_row_text" = some (.ref fLRT))
    (FLRT : Fun K "_law_row_text" "_law_row_text" sRowTextL fLRT fdLRT)
    (aLTR : mg "_law_tree_rows" = some (.ref fLTR))
    (FLTR : Fun K "_law_tree_rows" "_law_tree_rows" sTreeRowsL fLTR fdLTR)
    (aLN : mg "_law_number" = some (.ref fLN))
    (FLN : Fun K "_law_number" "_law_number" sLawNum fLN fdLN)
    (aLR : mg "_law_road" = some (.ref fLR))
    (FLR : Fun K "_law_road" "_law_road" sLawRoad fLR fdLR)
    (aLM : mg "_law_march" = some (.ref fLM))
    (FLM : Fun K "_law_march" "_law_march" sLawMarch fLM fdLM)
    (aLSA : mg "_law_said" = some (.ref fLSA))
    (FLSA : Fun K "_law_said" "_law_said" sSaid fLSA fdLSA)
    (aLSP : mg "_law_spoilt_part" = some (.ref fLSP))
    (FLSP : Fun K "_law_spoilt_part" "_law_spoilt_part" sSpPart fLSP fdLSP)
    (aLSO : mg "_law_spoilt" = some (.ref fLSO))
    (FLSO : Fun K "_law_spoilt" "_law_spoilt" sSpoilt fLSO fdLSO)
    (aLTL : mg "_law_tree_right" = some (.ref fLTL))
    (FLTL : Fun K "_law_tree_right" "_law_tree_right" sTreeRt fLTL fdLTL)
    (aLRL : mg "_law_row_right" = some (.ref fLRL))
    (FLRL : Fun K "_law_row_right" "_law_row_right" sRowRt fLRL fdLRL)
    (aL : mg "law" = some (.ref fL))
    (FL : Fun K "law" "law" sLaw fL fdL)
    (mCR : mg "Road" = some (.ref CR))
    (mCT : mg "Tree" = some (.ref CT))
    (mCP : mg "Place" = some (.ref CP))
    (mCM : mg "March" = some (.ref CM))
    (mCW : mg "Row" = some (.ref CW))
    (mCB : mg "BadCount" = some (.ref CB))
    (mCN : mg "NoCrossing" = some (.ref CN))
    (mCG : mg "RingRoad" = some (.ref CG))
    (mCNR : mg "NoRoad" = some (.ref CNR))
    (mCOR : mg "OffRoad" = some (.ref COR))
    (mCNW : mg "NotWhole" = some (.ref CNW))
    (mCBR : mg "BadRow" = some (.ref CBR))
    (mCBT : mg "BadText" = some (.ref CBT))
    (mCTE : mg "TrainError" = some (.ref CTE))
    (FB : Fun K "__init__" "BadCount.__init__" sBad fB fdB)
    (FN : Fun K "__init__" "NoCrossing.__init__" sNoC fN fdN)
    (FG : Fun K "__init__" "RingRoad.__init__" sRing fG fdG)
    (FNR : Fun K "__init__" "NoRoad.__init__" sNoRd fNR fdNR)
    (FOR : Fun K "__init__" "OffRoad.__init__" sOff fOR fdOR)
    (FNW : Fun K "__init__" "NotWhole.__init__" sNotW fNW fdNW)
    (FR : Fun K "__init__" "Road.__init__" sRoadI fR fdR)
    (FT : Fun K "__init__" "Tree.__init__" sTreeI fT fdT)
    (FPl : Fun K "__init__" "Place.__init__" sPlaceI fPl fdPl)
    (FMa : Fun K "__init__" "March.__init__" sMarchI fMa fdMa)
    (FRw : Fun K "__init__" "Row.__init__" sRowI fRw fdRw)
    (FRE : Fun K "__eq__" "Road.__eq__" sRoadE fRE fdRE)
    (FTE : Fun K "__eq__" "Tree.__eq__" sTreeE fTE fdTE)
    (FPE : Fun K "__eq__" "Place.__eq__" sPlaceE fPE fdPE)
    (FME : Fun K "__eq__" "March.__eq__" sMarchE fME fdME)
    (FWE : Fun K "__eq__" "Row.__eq__" sRowE fWE fdWE)
    (FBR : Fun K "__init__" "BadRow.__init__" sBadRow fBR fdBR)
    (FBT : Fun K "__init__" "BadText.__init__" sBadText fBT fdBT)
    (FTDB : Fun K "told" "BadCount.told" sToldB fTDB fdTDB)
    (FTDN : Fun K "told" "NoCrossing.told" sToldN fTDN fdTDN)
    (FTDG : Fun K "told" "RingRoad.told" sToldG fTDG fdTDG)
    (FTDNR : Fun K "told" "NoRoad.told" sToldNR fTDNR fdTDNR)
    (FTDOR : Fun K "told" "OffRoad.told" sToldOR fTDOR fdTDOR)
    (FTDNW : Fun K "told" "NotWhole.told" sToldNW fTDNW fdTDNW)
    (clCR : Cls K CR)
    (nCR0 : NoAttr K CR "a")
    (nCR1 : NoAttr K CR "b")
    (nCR2 : NoAttr K CR "length")
    (MCR : Mk K CR fR)
    (QCR : QC K CR fRE)
    (clCT : Cls K CT)
    (nCT0 : NoAttr K CT "crossings")
    (nCT1 : NoAttr K CT "roads")
    (nCT2 : NoAttr K CT "trails")
    (MCT : Mk K CT fT)
    (QCT : QC K CT fTE)
    (clCP : Cls K CP)
    (nCP0 : NoAttr K CP "road")
    (nCP1 : NoAttr K CP "number")
    (nCP2 : NoAttr K CP "parts")
    (MCP : Mk K CP fPl)
    (QCP : QC K CP fPE)
    (clCM : Cls K CM)
    (nCM0 : NoAttr K CM "goal")
    (nCM1 : NoAttr K CM "steps")
    (MCM : Mk K CM fMa)
    (QCM : QC K CM fME)
    (clCW : Cls K CW)
    (nCW0 : NoAttr K CW "tree")
    (nCW1 : NoAttr K CW "marches")
    (MCW : Mk K CW fRw)
    (QCW : QC K CW fWE)
    (nCB0 : NoAttr K CB "what")
    (nCB1 : NoAttr K CB "count")
    (TCB : ErT K mg "BadCount" CB fB)
    (nCN0 : NoAttr K CN "crossing")
    (TCN : ErT K mg "NoCrossing" CN fN)
    (nCG0 : NoAttr K CG "road")
    (TCG : ErT K mg "RingRoad" CG fG)
    (nCNR0 : NoAttr K CNR "road")
    (TCNR : ErT K mg "NoRoad" CNR fNR)
    (nCOR0 : NoAttr K COR "road")
    (TCOR : ErT K mg "OffRoad" COR fOR)
    (nCNW0 : NoAttr K CNW "march")
    (TCNW : ErT K mg "NotWhole" CNW fNW)
    (nCBR0 : NoAttr K CBR "number")
    (TCBR : ErT K mg "BadRow" CBR fBR)
    (nCBT0 : NoAttr K CBT "place")
    (TCBT : ErT K mg "BadText" CBT fBT)
    (z_abs : mg "abs" = none)
    (z_any : mg "any" = none)
    (z_enumerate : mg "enumerate" = none)
    (z_int : mg "int" = none)
    (z_isinstance : mg "isinstance" = none)
    (z_len : mg "len" = none)
    (z_list : mg "list" = none)
    (z_min : mg "min" = none)
    (z_range : mg "range" = none)
    (z_str : mg "str" = none)
    (z_tuple : mg "tuple" = none)
    (hTDB : Meth K CB "told" fTDB)
    (hTDN : Meth K CN "told" fTDN)
    (hTDG : Meth K CG "told" fTDG)
    (hTDNR : Meth K CNR "told" fTDNR)
    (hTDOR : Meth K COR "told" fTDOR)
    (hTDNW : Meth K CNW "told" fTDNW)
    (v0 : ∃ t, mg "LEAST_CROSSINGS" = some (.int 2 t))
    (v1 : ∃ t, mg "MOST_CROSSINGS" = some (.int 24 t))
    (v2 : ∃ t, mg "MOST_MARCHES" = some (.int 24 t))
    (v3 : ∃ t, mg "MOST_DIGITS" = some (.int 31 t))
    (v4 : ∃ t, mg "LEAST_PARTS" = some (.int 2 t))
    (hs_DIGITS : ∃ t, mg "DIGITS" = some (.str "0123456789" t))
    (hs_NO_MARCHES : ∃ t, mg "NO_MARCHES" = some (.str "none" t))
    (hL0 : ∃ t, mg "LONGEST_ROAD" = some (.int 1000000000 t))
    (hL1 : ∃ t, mg "MOST_STEPS" = some (.int 1000000000 t))
    (gcdB : mg "gcd" = some (.builtin "math.gcd"))
    (xrr : PySem.W.exmOne K (.ref CBR) (.ref CBR) = some true)
    (xtr : PySem.W.exmOne K (.ref CBT) (.ref CBR) = some false)
    (xtt : PySem.W.exmOne K (.ref CBT) (.ref CBT) = some true)
    (xrCB : PySem.W.exmOne K (.ref CB) (.ref CBR) = some false)
    (xrCN : PySem.W.exmOne K (.ref CN) (.ref CBR) = some false)
    (xrCG : PySem.W.exmOne K (.ref CG) (.ref CBR) = some false)
    (xrCNR : PySem.W.exmOne K (.ref CNR) (.ref CBR) = some false)
    (xrCOR : PySem.W.exmOne K (.ref COR) (.ref CBR) = some false)
    (xrCNW : PySem.W.exmOne K (.ref CNW) (.ref CBR) = some false)
    (xtCB : PySem.W.exmOne K (.ref CB) (.ref CBT) = some false)
    (xtCN : PySem.W.exmOne K (.ref CN) (.ref CBT) = some false)
    (xtCG : PySem.W.exmOne K (.ref CG) (.ref CBT) = some false)
    (xtCNR : PySem.W.exmOne K (.ref CNR) (.ref CBT) = some false)
    (xtCOR : PySem.W.exmOne K (.ref COR) (.ref CBT) = some false)
    (xtCNW : PySem.W.exmOne K (.ref CNW) (.ref CBT) = some false)
    (xeCB : PySem.W.exmOne K (.ref CB) (.ref CTE) = some true)
    (xeCN : PySem.W.exmOne K (.ref CN) (.ref CTE) = some true)
    (xeCG : PySem.W.exmOne K (.ref CG) (.ref CTE) = some true)
    (xeCNR : PySem.W.exmOne K (.ref CNR) (.ref CTE) = some true)
    (xeCOR : PySem.W.exmOne K (.ref COR) (.ref CTE) = some true)
    (xeCNW : PySem.W.exmOne K (.ref CNW) (.ref CTE) = some true)
    (tLTL : TabOf K fLTL cALTL PTLTL)
    (tLRL : TabOf K fLRL cALRL PTLRL)
    (tnLTLLRL : PTLTL ≠ PTLRL)
    : (∀ (s : Shared) (v : Value), BindsTo s fdL ⟨[v], []⟩ [("_law_script", v)]) ∧ ∀ base : Heap, K.In base → base.Ns mainGlobals mg → (∀ p ∈ ([(cALTL, PTLTL), (cALRL, PTLRL)] : List (Addr × Addr)), LamX.TabB base mg p.1 p.2) → FnOk P w K mg base CX0 12 fL fdL ["_law_script"] (spLawT K [(PTLTL, qTreeL), (PTLRL, qRowL)]) := by
  have bS := FS.binds (ps := ["_law_cell"]) fun _ _ _ _ _ _ us hl => match us, hl with | [_], _ => rfl
  have bD := FD.binds (ps := ["_law_source_here", "_law_many"]) fun _ _ _ _ _ _ us hl => match us, hl with | [_, _], _ => rfl
  have bP := FP.binds (ps := ["_law_source_here", "_law_some"]) fun _ _ _ _ _ _ us hl => match us, hl with | [_, _], _ => rfl
  have bU := FU.binds (ps := ["_law_source_here", "_law_some"]) fun _ _ _ _ _ _ us hl => match us, hl with | [_, _], _ => rfl
  have bE := FE.binds (ps := ["_law_source_here", "_law_most", "_law_long"]) fun _ _ _ _ _ _ us hl => match us, hl with | [_, _, _], _ => rfl
  have bC := FC.binds (ps := ["crossings", "road"]) fun _ _ _ _ _ _ us hl => match us, hl with | [_, _], _ => rfl
  have bI := FI.binds (ps := ["trails", "crossings", "number", "road"]) fun _ _ _ _ _ _ us hl => match us, hl with | [_, _, _, _], _ => rfl
  have bA := FA.binds (ps := ["crossings", "roads"]) fun _ _ _ _ _ _ us hl => match us, hl with | [_, _], _ => rfl
  have bCK := FCK.binds (ps := ["tree", "place"]) fun _ _ _ _ _ _ us hl => match us, hl with | [_, _], _ => rfl
  have bCH := FCH.binds (ps := ["tree", "number", "march"]) fun _ _ _ _ _ _ us hl => match us, hl with | [_, _, _], _ => rfl
  have bMD := FMD.binds (ps := ["_law_m"]) fun _ _ _ _ _ _ us hl => match us, hl with | [_], _ => rfl
  have bMR := FMR.binds (ps := ["_law_source_here", "_law_m", "_law_most", "_law_far_most"]) fun _ _ _ _ _ _ us hl => match us, hl with | [_, _, _, _], _ => rfl
  have bEA := FEA.binds (ps := ["road", "crossing"]) fun _ _ _ _ _ _ us hl => match us, hl with | [_, _], _ => rfl
  have bCO := FCO.binds (ps := ["tree", "crossing"]) fun _ _ _ _ _ _ us hl => match us, hl with | [_, _], _ => rfl
  have bKY := FKY.binds (ps := ["tree", "place"]) fun _ _ _ _ _ _ us hl => match us, hl with | [_, _], _ => rfl
  have bKD := FKD.binds (ps := ["row"]) fun _ _ _ _ _ _ us hl => match us, hl with | [_], _ => rfl
  have bRN := FRN.binds (ps := ["text"]) fun _ _ _ _ _ _ us hl => match us, hl with | [_], _ => rfl
  have bRRD := FRRD.binds (ps := ["row"]) fun _ _ _ _ _ _ us hl => match us, hl with | [_], _ => rfl
  have bRTR := FRTR.binds (ps := ["rows"]) fun _ _ _ _ _ _ us hl => match us, hl with | [_], _ => rfl
  have bRP := FRP.binds (ps := ["text"]) fun _ _ _ _ _ _ us hl => match us, hl with | [_], _ => rfl
  have bRMA := FRMA.binds (ps := ["text"]) fun _ _ _ _ _ _ us hl => match us, hl with | [_], _ => rfl
  have bRMS := FRMS.binds (ps := ["text"]) fun _ _ _ _ _ _ us hl => match us, hl with | [_], _ => rfl
  have bRRW := FRRW.binds (ps := ["tree", "text"]) fun _ _ _ _ _ _ us hl => match us, hl with | [_, _], _ => rfl
  have bLPT := FLPT.binds (ps := ["_law_spot", "_law_share"]) fun _ _ _ _ _ _ us hl => match us, hl with | [_, _], _ => rfl
  have bLRT := FLRT.binds (ps := ["_law_marches_so"]) fun _ _ _ _ _ _ us hl => match us, hl with | [_], _ => rfl
  have bLTR := FLTR.binds (ps := ["_law_m"]) fun _ _ _ _ _ _ us hl => match us, hl with | [_], _ => rfl
  have bLN := FLN.binds (ps := ["_law_text"]) fun _ _ _ _ _ _ us hl => match us, hl with | [_], _ => rfl
  have bLR := FLR.binds (ps := ["_law_text"]) fun _ _ _ _ _ _ us hl => match us, hl with | [_], _ => rfl
  have bLM := FLM.binds (ps := ["_law_text"]) fun _ _ _ _ _ _ us hl => match us, hl with | [_], _ => rfl
  have bLSA := FLSA.binds (ps := ["_law_ask"]) fun _ _ _ _ _ _ us hl => match us, hl with | [_], _ => rfl
  have bLSP := FLSP.binds (ps := ["_law_source_here", "_law_text"]) fun _ _ _ _ _ _ us hl => match us, hl with | [_, _], _ => rfl
  have bLSO := FLSO.binds (ps := ["_law_source_here", "_law_some"]) fun _ _ _ _ _ _ us hl => match us, hl with | [_, _], _ => rfl
  have bLTL := FLTL.binds (ps := ["_law_some"]) fun _ _ _ _ _ _ us hl => match us, hl with | [_], _ => rfl
  have bLRL := FLRL.binds (ps := ["_law_tree_so", "_law_text"]) fun _ _ _ _ _ _ us hl => match us, hl with | [_, _], _ => rfl
  have bB := FB.binds (ps := ["self", "what", "count"]) fun _ _ _ _ _ _ us hl => match us, hl with | [_, _, _], _ => rfl
  have bN := FN.binds (ps := ["self", "crossing"]) fun _ _ _ _ _ _ us hl => match us, hl with | [_, _], _ => rfl
  have bG := FG.binds (ps := ["self", "road"]) fun _ _ _ _ _ _ us hl => match us, hl with | [_, _], _ => rfl
  have bNR := FNR.binds (ps := ["self", "road"]) fun _ _ _ _ _ _ us hl => match us, hl with | [_, _], _ => rfl
  have bOR := FOR.binds (ps := ["self", "road"]) fun _ _ _ _ _ _ us hl => match us, hl with | [_, _], _ => rfl
  have bNW := FNW.binds (ps := ["self", "march"]) fun _ _ _ _ _ _ us hl => match us, hl with | [_, _], _ => rfl
  have bR := FR.binds (ps := ["self", "a", "b", "length"]) fun _ _ _ _ _ _ us hl => match us, hl with | [_, _, _, _], _ => rfl
  have bT := FT.binds (ps := ["self", "crossings", "roads"]) fun _ _ _ _ _ _ us hl => match us, hl with | [_, _, _], _ => rfl
  have bPl := FPl.binds (ps := ["self", "road", "number", "parts"]) fun _ _ _ _ _ _ us hl => match us, hl with | [_, _, _, _], _ => rfl
  have bMa := FMa.binds (ps := ["self", "goal", "steps"]) fun _ _ _ _ _ _ us hl => match us, hl with | [_, _, _], _ => rfl
  have bRw := FRw.binds (ps := ["self", "tree", "marches"]) fun _ _ _ _ _ _ us hl => match us, hl with | [_, _, _], _ => rfl
  have bRE := FRE.binds (ps := ["self", "other"]) fun _ _ _ _ _ _ us hl => match us, hl with | [_, _], _ => rfl
  have bTE := FTE.binds (ps := ["self", "other"]) fun _ _ _ _ _ _ us hl => match us, hl with | [_, _], _ => rfl
  have bPE := FPE.binds (ps := ["self", "other"]) fun _ _ _ _ _ _ us hl => match us, hl with | [_, _], _ => rfl
  have bME := FME.binds (ps := ["self", "other"]) fun _ _ _ _ _ _ us hl => match us, hl with | [_, _], _ => rfl
  have bWE := FWE.binds (ps := ["self", "other"]) fun _ _ _ _ _ _ us hl => match us, hl with | [_, _], _ => rfl
  have bBR := FBR.binds (ps := ["self", "number"]) fun _ _ _ _ _ _ us hl => match us, hl with | [_, _], _ => rfl
  have bBT := FBT.binds (ps := ["self", "place"]) fun _ _ _ _ _ _ us hl => match us, hl with | [_, _], _ => rfl
  have bTDB := FTDB.binds (ps := ["self"]) fun _ _ _ _ _ _ us hl => match us, hl with | [_], _ => rfl
  have bTDN := FTDN.binds (ps := ["self"]) fun _ _ _ _ _ _ us hl => match us, hl with | [_], _ => rfl
  have bTDG := FTDG.binds (ps := ["self"]) fun _ _ _ _ _ _ us hl => match us, hl with | [_], _ => rfl
  have bTDNR := FTDNR.binds (ps := ["self"]) fun _ _ _ _ _ _ us hl => match us, hl with | [_], _ => rfl
  have bTDOR := FTDOR.binds (ps := ["self"]) fun _ _ _ _ _ _ us hl => match us, hl with | [_], _ => rfl
  have bTDNW := FTDNW.binds (ps := ["self"]) fun _ _ _ _ _ _ us hl => match us, hl with | [_], _ => rfl
  have kS := FS.kp
  have kD := FD.kp
  have kP := FP.kp
  have kU := FU.kp
  have kE := FE.kp
  have kC := FC.kp
  have kI := FI.kp
  have kA := FA.kp
  have kCK := FCK.kp
  have kCH := FCH.kp
  have kMD := FMD.kp
  have kMR := FMR.kp
  have kEA := FEA.kp
  have kCO := FCO.kp
  have kKY := FKY.kp
  have kKD := FKD.kp
  have kRN := FRN.kp
  have kRRD := FRRD.kp
  have kRTR := FRTR.kp
  have kRP := FRP.kp
  have kRMA := FRMA.kp
  have kRMS := FRMS.kp
  have kRRW := FRRW.kp
  have kLPT := FLPT.kp
  have kLRT := FLRT.kp
  have kLTR := FLTR.kp
  have kLN := FLN.kp
  have kLR := FLR.kp
  have kLM := FLM.kp
  have kLSA := FLSA.kp
  have kLSP := FLSP.kp
  have kLSO := FLSO.kp
  have kLTL := FLTL.kp
  have kLRL := FLRL.kp
  have TR : RdT K mg CR := ⟨clCR, nCR0, nCR1, nCR2, mCR⟩
  have TT : TeT K mg CT := ⟨clCT, nCT0, nCT1, nCT2, mCT⟩
  have TP : PlT K mg CP := ⟨clCP, nCP0, nCP1, nCP2, mCP⟩
  have TM : MaT K mg CM := ⟨clCM, nCM0, nCM1, mCM⟩
  have TW : RwT K mg CW := ⟨clCW, nCW0, nCW1, mCW⟩
  have IX : ExL K CBR CBT CTE (SayL CB CN CG CNR COR CNW) := ix_all xrr xtr xtt xrCB xrCN xrCG xrCNR xrCOR xrCNW xtCB xtCN xtCG xtCNR xtCOR xtCNW xeCB xeCN xeCG xeCNR xeCOR xeCNW
  obtain ⟨ocLSA, odLSA, kVLSA, dcLSA, pmLSA, anLSA, cdLSA, ctLSA, slLSA, rfl, lLSA, cLSA⟩ := fun_ex FLSA
  obtain ⟨ocLTL, odLTL, kVLTL, dcLTL, pmLTL, anLTL, ctLTL, slLTL, rfl, lLTL, cLTL⟩ := fun_tab FLTL tLTL
  obtain ⟨ocLRL, odLRL, kVLRL, dcLRL, pmLRL, anLRL, ctLRL, slLRL, rfl, lLRL, cLRL⟩ := fun_tab FLRL tLRL
  refine ⟨fun s v => ?_, fun base _ _ TB => ?_⟩
  · obtain ⟨oc, od, kV, doc, pm, an, cdv, ct, osl, e0, _, _⟩ := FL.ex
    rw [e0]
    exact .of_eq rfl
  · have TBLTL := TB (cALTL, PTLTL) (.head _)
    have TILTL : (PTLTL, qTreeL) ∈ ([(PTLTL, qTreeL), (PTLRL, qRowL)] : List (Addr × Str)) := .head _
    have TULTL : ∀ p ∈ ([(PTLTL, qTreeL), (PTLRL, qRowL)] : List (Addr × Str)), p.1 = PTLTL → p.2 = qTreeL := fun p hp e => by
      rcases List.mem_cons.mp hp with rfl | hp
      · rfl
      rcases List.mem_cons.mp hp with rfl | hp
      · exact absurd e.symm tnLTLLRL
      exact nomatch hp
    have TBLRL := TB (cALRL, PTLRL) (.tail _ (.head _))
    have TILRL : (PTLRL, qRowL) ∈ ([(PTLTL, qTreeL), (PTLRL, qRowL)] : List (Addr × Str)) := .tail _ (.head _)
    have TULRL : ∀ p ∈ ([(PTLTL, qTreeL), (PTLRL, qRowL)] : List (Addr × Str)), p.1 = PTLRL → p.2 = qRowL := fun p hp e => by
      rcases List.mem_cons.mp hp with rfl | hp
      · exact absurd e tnLTLLRL
      rcases List.mem_cons.mp hp with rfl | hp
      · rfl
      exact nomatch hp
    have OS : FnOk P w K mg base CX0 1 _ _ _ _ := ok_source FS z_abs
    have OD : FnOk P w K mg base CX0 1 _ _ _ _ := ok_draw FD
    have OP : FnOk P w K mg base CX0 2 _ _ _ _ := ok_pick FP OD bD aD kD z_len
    have OU : FnOk P w K mg base CX0 2 _ _ _ _ := ok_shuf FU OD bD aD kD z_len z_list
    have OE : FnOk P w K mg base CX0 3 _ _ _ _ := ok_treeD FE OD bD aD kD OP bP aP kP OU bU aU kU z_list z_range
    have OB : FnOk P w K mg base CX0 1 _ _ _ _ := ok_bad FB TCB.ox nCB0 nCB1
    have ON : FnOk P w K mg base CX0 1 _ _ _ _ := ok_noc FN TCN.ox nCN0
    have OG : FnOk P w K mg base CX0 1 _ _ _ _ := ok_ringI FG TCG.ox nCG0
    have ONR : FnOk P w K mg base CX0 1 _ _ _ _ := ok_noRd FNR TCNR.ox nCNR0
    have OOR : FnOk P w K mg base CX0 1 _ _ _ _ := ok_off FOR TCOR.ox nCOR0
    have ONW : FnOk P w K mg base CX0 1 _ _ _ _ := ok_notW FNW TCNW.ox nCNW0
    have OR_ : FnOk P w K mg base CX0 1 _ _ _ (spRoadI CR) := ok_roadI FR TR
    have OC : FnOk P w K mg base (L2.CX P w) 3 _ _ _ (spCheck CR CB CN) := ok_check FC TR TCB TCN OB bB ON bN hL0
    have OI : FnOk P w K mg base CX0 1 _ _ _ (spJoin K CR) := ok_join FI TR z_range
    have OA : FnOk P w K mg base (L2.CX P w) 4 _ _ _ (spTrails K CR CB CN CG) := ok_trails FA TR TCG OG bG OC bC aC kC OI bI aI kI z_range z_enumerate
    have OT : FnOk P w K mg base (L2.CX P w) 5 _ _ _ (spTreeI K CT CR CB CN CG) := ok_treeI FT TT TCB OB bB OA bA aA kA v0 v1 z_len z_tuple
    have OPl : FnOk P w K mg base (L2.CX P w) 3 _ _ _ (spPlaceI CP CB) := ok_placeI FPl TP TCB OB bB gcdB
    have OCK : FnOk P w K mg base (L2.CX P w) 3 _ _ _ (spCheckPl K CT CR CP CNR COR) := ok_checkPl FCK TT TR TP TCNR TCOR ONR bNR OOR bOR z_len
    have OMa : FnOk P w K mg base CX0 1 _ _ _ (spMarchI CM) := ok_marchI FMa TM
    have OCH : FnOk P w K mg base (L2.CX P w) 4 _ _ _ (spCheckMa K CT CR CM CP CB CNR COR CNW) := ok_checkMa FCH TM TP TCB TCNW OCK bCK aCK kCK OB bB ONW bNW hL1
    have ORw : FnOk P w K mg base (L2.CX P w) 5 _ _ _ (spRowI K CT CR CM CP CW CB CNR COR CNW) := ok_rowI FRw TW TCB OCH bCH aCH kCH OB bB v2 z_len z_enumerate z_tuple
    have OMD : FnOk P w K mg base CX0 7 _ _ _ (spMade K CT CR) := ok_made FMD TR TT MCR MCT OR_ bR OT bT
    have OMR : FnOk P w K mg base CX0 3 _ _ _ spMarches := ok_marches FMR OD bD aD kD OP bP aP kP z_len z_range
    have ORE : FnOk P w K mg base CX0 1 _ _ _ (spRoadE CR) := ok_roadE FRE TR QCR z_isinstance
    have OTE : FnOk P w K mg base CX0 3 _ _ _ (spTreeE K CT CR) := ok_treeE FTE TT QCT QCR ORE bRE z_isinstance
    have OPE : FnOk P w K mg base CX0 1 _ _ _ (spPlaceE CP) := ok_placeE FPE TP QCP z_isinstance
    have OME : FnOk P w K mg base CX0 2 _ _ _ (spMarchE CM CP) := ok_marchE FME TM QCM QCP OPE bPE z_isinstance
    have OEA : FnOk P w K mg base CX0 1 _ _ _ (spEndAt CR) := ok_endAt FEA TR
    have OCO : FnOk P w K mg base (L2.CX P w) 5 _ _ _ (spCorner K CT CR CP CN) := ok_corner FCO TT TR TP TCN ON bN OEA bEA aEA kEA MCP OPl bPl z_min z_enumerate
    have OKY : FnOk P w K mg base (L2.CX P w) 6 _ _ _ (spKey K CT CR CP CNR COR) := ok_key FKY TT TR TP OCK bCK aCK kCK OCO bCO aCO kCO
    have OKD : FnOk P w K mg base CX0 7 _ _ _ (spKeyed K CT CR CM CP CW) := ok_keyed FKD TW TM MCM OMa bMa OKY bKY aKY kKY
    have OWE : FnOk P w K mg base CX0 8 _ _ _ (spRowE K CT CR CM CP CW) := ok_rowE FWE TW QCW QCT QCM OTE bTE OME bME OKD bKD aKD kKD z_isinstance
    have OBR : FnOk P w K mg base CX0 1 _ _ _ _ := ok_badRow FBR TCBR.ox nCBR0
    have OBT : FnOk P w K mg base CX0 1 _ _ _ _ := ok_badText FBT TCBT.ox nCBT0
    have ORN : FnOk P w K mg base CX0 1 _ _ _ spRdNum := ok_readNumber FRN v3 hs_DIGITS z_len z_any z_int
    have ORRD : FnOk P w K mg base CX0 3 _ _ _ (spReadRoadG CR) := ok_readRoad FRRD TR MCR OR_ bR ORN bRN aRN kRN z_len
    have ORTR : FnOk P w K mg base (L2.CX P w) 7 _ _ _ (spReadTreeG K CT CR CB CN CG CBR) := ok_readTree FRTR TT TCBR OBR bBR MCT OT bT ORRD bRRD aRRD kRRD z_len z_enumerate
    have ORP : FnOk P w K mg base CX0 5 _ _ _ (spReadPlaceG CP) := ok_readPlace FRP TP MCP OPl bPl ORN bRN aRN kRN v4
    have ORMA : FnOk P w K mg base CX0 6 _ _ _ (spReadMarchG CM CP) := ok_readMarch FRMA TM MCM OMa bMa ORN bRN aRN kRN ORP bRP aRP kRP
    have ORMS : FnOk P w K mg base (L2.CX P w) 7 _ _ _ (spReadMarchesG CM CP CBT) := ok_readMarches FRMS TCBT OBT bBT ORMA bRMA aRMA kRMA hs_NO_MARCHES z_enumerate
    have ORRW : FnOk P w K mg base (L2.CX P w) 8 _ _ _ (spReadRowG K CT CR CM CP CW CB CNR COR CNW CBT) := ok_readRow FRRW TW MCW ORw bRw ORMS bRMS aRMS kRMS
    have OLPT : FnOk P w K mg base CX0 1 _ _ _ spPlTextL := ok_plTextL FLPT z_str
    have OLRT : FnOk P w K mg base CX0 2 _ _ _ spRowTextL := ok_rowTextL FLRT OLPT bLPT aLPT kLPT z_str
    have OLTR : FnOk P w K mg base CX0 1 _ _ _ spTreeRowsL := ok_treeRowsL FLTR z_str
    have OLN : FnOk P w K mg base CX0 1 _ _ _ spRdNum := ok_lawNum FLN z_len z_int
    have OLR : FnOk P w K mg base CX0 2 _ _ _ spLRoad := ok_lawRoad FLR OLN bLN aLN kLN z_len
    have OLM : FnOk P w K mg base CX0 2 _ _ _ spLMarch := ok_lawMarch FLM OLN bLN aLN kLN z_len
    have SM := sm_all (P := P) (w := w) (K := K) (mg := mg) (base := base) TCB.xf TCN.xf TCG.xf TCNR.xf TCOR.xf TCNW.xf hTDB FTDB bTDB hTDN FTDN bTDN hTDG FTDG bTDG hTDNR FTDNR bTDNR hTDOR FTDOR bTDOR hTDNW FTDNW bTDNW
    have OLSP : FnOk P w K mg base CX0 3 _ _ _ spSpPart := ok_spPart FLSP OD bD aD kD OP bP aP kP z_len
    have OLSO : FnOk P w K mg base CX0 4 _ _ _ (spSpoiltT K) := ok_spoilt FLSO OD bD aD kD OP bP aP kP OLSP bLSP aLSP kLSP z_len
    have OLTL : FnOk P w K mg base CX0 10 _ _ _ (spTreeRtL [(PTLTL, qTreeL), (PTLRL, qRowL)]) := ok_treeRtL lLTL cLTL TBLTL TILTL TULTL lLSA cLSA bLSA aLSA kLSA TCBR TCBT mCTE nCBR0 nCBT0 IX SM OLR bLR aLR kLR TR MCR OR_ bR TT MCT OT bT QCT OTE bTE ORTR bRTR aRTR kRTR z_len z_list
    have OLRL : FnOk P w K mg base CX0 11 _ _ _ (spRowRtL K CT CR [(PTLTL, qTreeL), (PTLRL, qRowL)]) := ok_rowRtL lLRL cLRL TBLRL TILRL TULRL lLSA cLSA bLSA aLSA kLSA TCBR TCBT mCTE nCBR0 nCBT0 IX SM OLM bLM aLM kLM TM MCM OMa bMa TP MCP OPl bPl TW MCW ORw bRw QCW OWE bWE ORRW bRRW aRRW kRRW
    exact ok_law FL OS bS aS kS OD bD aD kD OE bE aE kE OMD bMD aMD kMD OMR bMR aMR kMR OLTR bLTR aLTR kLTR OLRT bLRT aLRT kLRT OLSO bLSO aLSO kLSO OLSP bLSP aLSP kLSP OLTL bLTL aLTL kLTL OLRL bLRL aLRL kLRL z_range
end OT
set_option Elab.async false
set_option linter.all false
set_option maxRecDepth 100000
set_option maxHeartbeats 0
namespace OT
open PySem L2 OTR
theorem hk_facts {P : Program} {w : World} {K : PySem.W.Frag} {h : Heap} {mg : Str → Option Value} (X : K.In h) (G : h.Ns mainGlobals mg) (c : SaysP hkFa hkFn hkEx K) :
    ∃ fd : FuncData, (∀ (s : Shared) (v : Value), BindsTo s fd ⟨[v], []⟩ [("_law_script", v)]) ∧ mg "law" = some (.ref (He.ga K "law")) ∧ (∀ p ∈ ([(cdA K (He.ga K "_law_tree_right"), ptA K (He.ga K "_law_tree_right")), (cdA K (He.ga K "_law_row_right"), ptA K (He.ga K "_law_row_right"))] : List (Addr × Addr)), ∃ nm ∈ (["_law_tree_right", "_law_row_right"] : List Str), ∃ f, mg nm = some (.ref f) ∧ TabOf K f p.1 p.2) ∧ ∀ base : Heap, K.In base → base.Ns mainGlobals mg → (∀ p ∈ ([(cdA K (He.ga K "_law_tree_right"), ptA K (He.ga K "_law_tree_right")), (cdA K (He.ga K "_law_row_right"), ptA K (He.ga K "_law_row_right"))] : List (Addr × Addr)), LamX.TabB base mg p.1 p.2) → FnOk P w K mg base CX0 12 (He.ga K "law") fd ["_law_script"] (spLawT K [(ptA K (He.ga K "_law_tree_right"), qTreeL), (ptA K (He.ga K "_law_row_right"), qRowL)]) := by
  obtain ⟨fdS, dS⟩ := c.d.def_ 0 (d := ⟨("_law_source", none), "_law_source", "_law_source", defArgs (top 46), defBody (top 46), defScope (top 46), [], []⟩) rfl
  obtain ⟨fdD, dD⟩ := c.d.def_ 1 (d := ⟨("_law_draw", none), "_law_draw", "_law_draw", defArgs (top 47), defBody (top 47), defScope (top 47), [], []⟩) rfl
  obtain ⟨fdP, dP⟩ := c.d.def_ 2 (d := ⟨("_law_pick", none), "_law_pick", "_law_pick", defArgs (top 48), defBody (top 48), defScope (top 48), [], []⟩) rfl
  obtain ⟨fdU, dU⟩ := c.d.def_ 3 (d := ⟨("_law_shuffled", none), "_law_shuffled", "_law_shuffled", defArgs (top 49), defBody (top 49), defScope (top 49), [], []⟩) rfl
  obtain ⟨fdE, dE⟩ := c.d.def_ 4 (d := ⟨("_law_tree", none), "_law_tree", "_law_tree", defArgs (top 50), defBody (top 50), defScope (top 50), [], []⟩) rfl
  obtain ⟨fdC, dC⟩ := c.d.def_ 5 (d := ⟨("check_road", none), "check_road", "check_road", defArgs (top 18), defBody (top 18), defScope (top 18), [], []⟩) rfl
  obtain ⟨fdI, dI⟩ := c.d.def_ 6 (d := ⟨("join_trails", none), "join_trails", "join_trails", defArgs (top 19), defBody (top 19), defScope (top 19), [], []⟩) rfl
  obtain ⟨fdA, dA⟩ := c.d.def_ 7 (d := ⟨("trails_along", none), "trails_along", "trails_along", defArgs (top 17), defBody (top 17), defScope (top 17), [], []⟩) rfl
  obtain ⟨fdCK, dCK⟩ := c.d.def_ 8 (d := ⟨("check_place", none), "check_place", "check_place", defArgs (top 23), defBody (top 23), defScope (top 23), [], []⟩) rfl
  obtain ⟨fdCH, dCH⟩ := c.d.def_ 9 (d := ⟨("check_march", none), "check_march", "check_march", defArgs (top 31), defBody (top 31), defScope (top 31), [], []⟩) rfl
  obtain ⟨fdMD, dMD⟩ := c.d.def_ 10 (d := ⟨("_law_made", none), "_law_made", "_law_made", defArgs (top 51), defBody (top 51), defScope (top 51), [], []⟩) rfl
  obtain ⟨fdMR, dMR⟩ := c.d.def_ 11 (d := ⟨("_law_marches", none), "_law_marches", "_law_marches", defArgs (top 52), defBody (top 52), defScope (top 52), [], []⟩) rfl
  obtain ⟨fdEA, dEA⟩ := c.d.def_ 12 (d := ⟨("end_at", none), "end_at", "end_at", defArgs (top 20), defBody (top 20), defScope (top 20), [], []⟩) rfl
  obtain ⟨fdCO, dCO⟩ := c.d.def_ 13 (d := ⟨("corner", none), "corner", "corner", defArgs (top 25), defBody (top 25), defScope (top 25), [], []⟩) rfl
  obtain ⟨fdKY, dKY⟩ := c.d.def_ 14 (d := ⟨("key", none), "key", "key", defArgs (top 24), defBody (top 24), defScope (top 24), [], []⟩) rfl
  obtain ⟨fdKD, dKD⟩ := c.d.def_ 15 (d := ⟨("keyed", none), "keyed", "keyed", defArgs (top 32), defBody (top 32), defScope (top 32), [], []⟩) rfl
  obtain ⟨fdRN, dRN⟩ := c.d.def_ 16 (d := ⟨("read_number", none), "read_number", "read_number", defArgs (top 41), defBody (top 41), defScope (top 41), [], []⟩) rfl
  obtain ⟨fdRRD, dRRD⟩ := c.d.def_ 17 (d := ⟨("read_road", none), "read_road", "read_road", defArgs (top 39), defBody (top 39), defScope (top 39), [], []⟩) rfl
  obtain ⟨fdRTR, dRTR⟩ := c.d.def_ 18 (d := ⟨("read_tree", none), "read_tree", "read_tree", defArgs (top 38), defBody (top 38), defScope (top 38), [], []⟩) rfl
  obtain ⟨fdRP, dRP⟩ := c.d.def_ 19 (d := ⟨("read_place", none), "read_place", "read_place", defArgs (top 40), defBody (top 40), defScope (top 40), [], []⟩) rfl
  obtain ⟨fdRMA, dRMA⟩ := c.d.def_ 20 (d := ⟨("read_march", none), "read_march", "read_march", defArgs (top 44), defBody (top 44), defScope (top 44), [], []⟩) rfl
  obtain ⟨fdRMS, dRMS⟩ := c.d.def_ 21 (d := ⟨("read_marches", none), "read_marches", "read_marches", defArgs (top 43), defBody (top 43), defScope (top 43), [], []⟩) rfl
  obtain ⟨fdRRW, dRRW⟩ := c.d.def_ 22 (d := ⟨("read_row", none), "read_row", "read_row", defArgs (top 42), defBody (top 42), defScope (top 42), [], []⟩) rfl
  obtain ⟨fdLPT, dLPT⟩ := c.d.def_ 23 (d := ⟨("_law_place_text", none), "_law_place_text", "_law_place_text", defArgs (top 53), defBody (top 53), defScope (top 53), [], []⟩) rfl
  obtain ⟨fdLRT, dLRT⟩ := c.d.def_ 24 (d := ⟨("_law_row_text", none), "_law_row_text", "_law_row_text", defArgs (top 54), defBody (top 54), defScope (top 54), [], []⟩) rfl
  obtain ⟨fdLTR, dLTR⟩ := c.d.def_ 25 (d := ⟨("_law_tree_rows", none), "_law_tree_rows", "_law_tree_rows", defArgs (top 55), defBody (top 55), defScope (top 55), [], []⟩) rfl
  obtain ⟨fdLN, dLN⟩ := c.d.def_ 26 (d := ⟨("_law_number", none), "_law_number", "_law_number", defArgs (top 56), defBody (top 56), defScope (top 56), [], []⟩) rfl
  obtain ⟨fdLR, dLR⟩ := c.d.def_ 27 (d := ⟨("_law_road", none), "_law_road", "_law_road", defArgs (top 57), defBody (top 57), defScope (top 57), [], []⟩) rfl
  obtain ⟨fdLM, dLM⟩ := c.d.def_ 28 (d := ⟨("_law_march", none), "_law_march", "_law_march", defArgs (top 58), defBody (top 58), defScope (top 58), [], []⟩) rfl
  obtain ⟨fdLSA, dLSA⟩ := c.d.def_ 29 (d := ⟨("_law_said", none), "_law_said", "_law_said", defArgs (top 59), defBody (top 59), defScope (top 59), [], []⟩) rfl
  obtain ⟨fdLSP, dLSP⟩ := c.d.def_ 30 (d := ⟨("_law_spoilt_part", none), "_law_spoilt_part", "_law_spoilt_part", defArgs (top 60), defBody (top 60), defScope (top 60), [], []⟩) rfl
  obtain ⟨fdLSO, dLSO⟩ := c.d.def_ 31 (d := ⟨("_law_spoilt", none), "_law_spoilt", "_law_spoilt", defArgs (top 61), defBody (top 61), defScope (top 61), [], []⟩) rfl
  obtain ⟨fdLTL, dLTL⟩ := c.d.def_ 32 (d := ⟨("_law_tree_right", none), "_law_tree_right", "_law_tree_right", defArgs (top 62), defBody (top 62), defScope (top 62), [], []⟩) rfl
  obtain ⟨fdLRL, dLRL⟩ := c.d.def_ 33 (d := ⟨("_law_row_right", none), "_law_row_right", "_law_row_right", defArgs (top 63), defBody (top 63), defScope (top 63), [], []⟩) rfl
  obtain ⟨fdL, dL⟩ := c.d.def_ 34 (d := ⟨("law", none), "law", "law", defArgs (top 64), defBody (top 64), defScope (top 64), [], []⟩) rfl
  obtain ⟨fdB, dB⟩ := c.d.def_ 35 (d := ⟨("BadCount", some "__init__"), "__init__", "BadCount.__init__", defArgs (inClass (top 3) 0), defBody (inClass (top 3) 0), defScope (inClass (top 3) 0), [], []⟩) rfl
  obtain ⟨fdN, dN⟩ := c.d.def_ 36 (d := ⟨("NoCrossing", some "__init__"), "__init__", "NoCrossing.__init__", defArgs (inClass (top 4) 0), defBody (inClass (top 4) 0), defScope (inClass (top 4) 0), [], []⟩) rfl
  obtain ⟨fdG, dG⟩ := c.d.def_ 37 (d := ⟨("RingRoad", some "__init__"), "__init__", "RingRoad.__init__", defArgs (inClass (top 5) 0), defBody (inClass (top 5) 0), defScope (inClass (top 5) 0), [], []⟩) rfl
  obtain ⟨fdNR, dNR⟩ := c.d.def_ 38 (d := ⟨("NoRoad", some "__init__"), "__init__", "NoRoad.__init__", defArgs (inClass (top 6) 0), defBody (inClass (top 6) 0), defScope (inClass (top 6) 0), [], []⟩) rfl
  obtain ⟨fdOR, dOR⟩ := c.d.def_ 39 (d := ⟨("OffRoad", some "__init__"), "__init__", "OffRoad.__init__", defArgs (inClass (top 7) 0), defBody (inClass (top 7) 0), defScope (inClass (top 7) 0), [], []⟩) rfl
  obtain ⟨fdNW, dNW⟩ := c.d.def_ 40 (d := ⟨("NotWhole", some "__init__"), "__init__", "NotWhole.__init__", defArgs (inClass (top 8) 0), defBody (inClass (top 8) 0), defScope (inClass (top 8) 0), [], []⟩) rfl
  obtain ⟨fdR, dR⟩ := c.d.def_ 41 (d := ⟨("Road", some "__init__"), "__init__", "Road.__init__", defArgs (inClass (top 15) 0), defBody (inClass (top 15) 0), defScope (inClass (top 15) 0), [], []⟩) rfl
  obtain ⟨fdT, dT⟩ := c.d.def_ 42 (d := ⟨("Tree", some "__init__"), "__init__", "Tree.__init__", defArgs (inClass (top 16) 0), defBody (inClass (top 16) 0), defScope (inClass (top 16) 0), [], []⟩) rfl
  obtain ⟨fdPl, dPl⟩ := c.d.def_ 43 (d := ⟨("Place", some "__init__"), "__init__", "Place.__init__", defArgs (inClass (top 22) 0), defBody (inClass (top 22) 0), defScope (inClass (top 22) 0), [], []⟩) rfl
  obtain ⟨fdMa, dMa⟩ := c.d.def_ 44 (d := ⟨("March", some "__init__"), "__init__", "March.__init__", defArgs (inClass (top 29) 0), defBody (inClass (top 29) 0), defScope (inClass (top 29) 0), [], []⟩) rfl
  obtain ⟨fdRw, dRw⟩ := c.d.def_ 45 (d := ⟨("Row", some "__init__"), "__init__", "Row.__init__", defArgs (inClass (top 30) 0), defBody (inClass (top 30) 0), defScope (inClass (top 30) 0), [], []⟩) rfl
  obtain ⟨fdRE, dRE⟩ := c.d.def_ 46 (d := ⟨("Road", some "__eq__"), "__eq__", "Road.__eq__", defArgs (inClass (top 15) 1), defBody (inClass (top 15) 1), defScope (inClass (top 15) 1), [], []⟩) rfl
  obtain ⟨fdTE, dTE⟩ := c.d.def_ 47 (d := ⟨("Tree", some "__eq__"), "__eq__", "Tree.__eq__", defArgs (inClass (top 16) 1), defBody (inClass (top 16) 1), defScope (inClass (top 16) 1), [], []⟩) rfl
  obtain ⟨fdPE, dPE⟩ := c.d.def_ 48 (d := ⟨("Place", some "__eq__"), "__eq__", "Place.__eq__", defArgs (inClass (top 22) 1), defBody (inClass (top 22) 1), defScope (inClass (top 22) 1), [], []⟩) rfl
  obtain ⟨fdME, dME⟩ := c.d.def_ 49 (d := ⟨("March", some "__eq__"), "__eq__", "March.__eq__", defArgs (inClass (top 29) 1), defBody (inClass (top 29) 1), defScope (inClass (top 29) 1), [], []⟩) rfl
  obtain ⟨fdWE, dWE⟩ := c.d.def_ 50 (d := ⟨("Row", some "__eq__"), "__eq__", "Row.__eq__", defArgs (inClass (top 30) 1), defBody (inClass (top 30) 1), defScope (inClass (top 30) 1), [], []⟩) rfl
  obtain ⟨fdBR, dBR⟩ := c.d.def_ 51 (d := ⟨("BadRow", some "__init__"), "__init__", "BadRow.__init__", defArgs (inClass (top 9) 0), defBody (inClass (top 9) 0), defScope (inClass (top 9) 0), [], []⟩) rfl
  obtain ⟨fdBT, dBT⟩ := c.d.def_ 52 (d := ⟨("BadText", some "__init__"), "__init__", "BadText.__init__", defArgs (inClass (top 10) 0), defBody (inClass (top 10) 0), defScope (inClass (top 10) 0), [], []⟩) rfl
  obtain ⟨fdTDB, dTDB⟩ := c.d.def_ 53 (d := ⟨("BadCount", some "told"), "told", "BadCount.told", defArgs (inClass (top 3) 1), defBody (inClass (top 3) 1), defScope (inClass (top 3) 1), [], []⟩) rfl
  obtain ⟨fdTDN, dTDN⟩ := c.d.def_ 54 (d := ⟨("NoCrossing", some "told"), "told", "NoCrossing.told", defArgs (inClass (top 4) 1), defBody (inClass (top 4) 1), defScope (inClass (top 4) 1), [], []⟩) rfl
  obtain ⟨fdTDG, dTDG⟩ := c.d.def_ 55 (d := ⟨("RingRoad", some "told"), "told", "RingRoad.told", defArgs (inClass (top 5) 1), defBody (inClass (top 5) 1), defScope (inClass (top 5) 1), [], []⟩) rfl
  obtain ⟨fdTDNR, dTDNR⟩ := c.d.def_ 56 (d := ⟨("NoRoad", some "told"), "told", "NoRoad.told", defArgs (inClass (top 6) 1), defBody (inClass (top 6) 1), defScope (inClass (top 6) 1), [], []⟩) rfl
  obtain ⟨fdTDOR, dTDOR⟩ := c.d.def_ 57 (d := ⟨("OffRoad", some "told"), "told", "OffRoad.told", defArgs (inClass (top 7) 1), defBody (inClass (top 7) 1), defScope (inClass (top 7) 1), [], []⟩) rfl
  obtain ⟨fdTDNW, dTDNW⟩ := c.d.def_ 58 (d := ⟨("NotWhole", some "told"), "told", "NotWhole.told", defArgs (inClass (top 8) 1), defBody (inClass (top 8) 1), defScope (inClass (top 8) 1), [], []⟩) rfl
  have z := all_mk (P := P) (w := w) (K := K) (mg := mg) (fS := He.ga K "_law_source") (fD := He.ga K "_law_draw") (fP := He.ga K "_law_pick") (fU := He.ga K "_law_shuffled") (fE := He.ga K "_law_tree") (fC := He.ga K "check_road") (fI := He.ga K "join_trails") (fA := He.ga K "trails_along") (fCK := He.ga K "check_place") (fCH := He.ga K "check_march") (fMD := He.ga K "_law_made") (fMR := He.ga K "_law_marches") (fEA := He.ga K "end_at") (fCO := He.ga K "corner") (fKY := He.ga K "key") (fKD := He.ga K "keyed") (fRN := He.ga K "read_number") (fRRD := He.ga K "read_road") (fRTR := He.ga K "read_tree") (fRP := He.ga K "read_place") (fRMA := He.ga K "read_march") (fRMS := He.ga K "read_marches") (fRRW := He.ga K "read_row") (fLPT := He.ga K "_law_place_text") (fLRT := He.ga K "_law_row_text") (fLTR := He.ga K "_law_tree_rows") (fLN := He.ga K "_law_number") (fLR := He.ga K "_law_road") (fLM := He.ga K "_law_march") (fLSA := He.ga K "_law_said") (fLSP := He.ga K "_law_spoilt_part") (fLSO := He.ga K "_law_spoilt") (fLTL := He.ga K "_law_tree_right") (fLRL := He.ga K "_law_row_right") (fL := He.ga K "law") (CR := He.ga K "Road") (CT := He.ga K "Tree") (CP := He.ga K "Place") (CM := He.ga K "March") (CW := He.ga K "Row") (CB := He.ga K "BadCount") (CN := He.ga K "NoCrossing") (CG := He.ga K "RingRoad") (CNR := He.ga K "NoRoad") (COR := He.ga K "OffRoad") (CNW := He.ga K "NotWhole") (CBR := He.ga K "BadRow") (CBT := He.ga K "BadText") (CTE := He.ga K "TrainError") (fB := He.ma K (He.ga K "BadCount") "__init__") (fN := He.ma K (He.ga K "NoCrossing") "__init__") (fG := He.ma K (He.ga K "RingRoad") "__init__") (fNR := He.ma K (He.ga K "NoRoad") "__init__") (fOR := He.ma K (He.ga K "OffRoad") "__init__") (fNW := He.ma K (He.ga K "NotWhole") "__init__") (fR := He.ma K (He.ga K "Road") "__init__") (fT := He.ma K (He.ga K "Tree") "__init__") (fPl := He.ma K (He.ga K "Place") "__init__") (fMa := He.ma K (He.ga K "March") "__init__") (fRw := He.ma K (He.ga K "Row") "__init__") (fRE := He.ma K (He.ga K "Road") "__eq__") (fTE := He.ma K (He.ga K "Tree") "__eq__") (fPE := He.ma K (He.ga K "Place") "__eq__") (fME := He.ma K (He.ga K "March") "__eq__") (fWE := He.ma K (He.ga K "Row") "__eq__") (fBR := He.ma K (He.ga K "BadRow") "__init__") (fBT := He.ma K (He.ga K "BadText") "__init__") (fTDB := He.ma K (He.ga K "BadCount") "told") (fTDN := He.ma K (He.ga K "NoCrossing") "told") (fTDG := He.ma K (He.ga K "RingRoad") "told") (fTDNR := He.ma K (He.ga K "NoRoad") "told") (fTDOR := He.ma K (He.ga K "OffRoad") "told") (fTDNW := He.ma K (He.ga K "NotWhole") "told") (cALTL := cdA K (He.ga K "_law_tree_right")) (PTLTL := ptA K (He.ga K "_law_tree_right")) (cALRL := cdA K (He.ga K "_law_row_right")) (PTLRL := ptA K (He.ga K "_law_row_right")) (fdS := fdS) (fdD := fdD) (fdP := fdP) (fdU := fdU) (fdE := fdE) (fdC := fdC) (fdI := fdI) (fdA := fdA) (fdCK := fdCK) (fdCH := fdCH) (fdMD := fdMD) (fdMR := fdMR) (fdEA := fdEA) (fdCO := fdCO) (fdKY := fdKY) (fdKD := fdKD) (fdRN := fdRN) (fdRRD := fdRRD) (fdRTR := fdRTR) (fdRP := fdRP) (fdRMA := fdRMA) (fdRMS := fdRMS) (fdRRW := fdRRW) (fdLPT := fdLPT) (fdLRT := fdLRT) (fdLTR := fdLTR) (fdLN := fdLN) (fdLR := fdLR) (fdLM := fdLM) (fdLSA := fdLSA) (fdLSP := fdLSP) (fdLSO := fdLSO) (fdLTL := fdLTL) (fdLRL := fdLRL) (fdL := fdL) (fdB := fdB) (fdN := fdN) (fdG := fdG) (fdNR := fdNR) (fdOR := fdOR) (fdNW := fdNW) (fdR := fdR) (fdT := fdT) (fdPl := fdPl) (fdMa := fdMa) (fdRw := fdRw) (fdRE := fdRE) (fdTE := fdTE) (fdPE := fdPE) (fdME := fdME) (fdWE := fdWE) (fdBR := fdBR) (fdBT := fdBT) (fdTDB := fdTDB) (fdTDN := fdTDN) (fdTDG := fdTDG) (fdTDNR := fdTDNR) (fdTDOR := fdTDOR) (fdTDNW := fdTDNW)
    (He.glo_ok X G (c.d.fact 0 (f := .glo "_law_source") rfl))
    (fun_of dS)
    (He.glo_ok X G (c.d.fact 1 (f := .glo "_law_draw") rfl))
    (fun_of dD)
    (He.glo_ok X G (c.d.fact 2 (f := .glo "_law_pick") rfl))
    (fun_of dP)
    (He.glo_ok X G (c.d.fact 3 (f := .glo "_law_shuffled") rfl))
    (fun_of dU)
    (He.glo_ok X G (c.d.fact 4 (f := .glo "_law_tree") rfl))
    (fun_of dE)
    (He.glo_ok X G (c.d.fact 5 (f := .glo "check_road") rfl))
    (fun_of dC)
    (He.glo_ok X G (c.d.fact 6 (f := .glo "join_trails") rfl))
    (fun_of dI)
    (He.glo_ok X G (c.d.fact 7 (f := .glo "trails_along") rfl))
    (fun_of dA)
    (He.glo_ok X G (c.d.fact 8 (f := .glo "check_place") rfl))
    (fun_of dCK)
    (He.glo_ok X G (c.d.fact 9 (f := .glo "check_march") rfl))
    (fun_of dCH)
    (He.glo_ok X G (c.d.fact 10 (f := .glo "_law_made") rfl))
    (fun_of dMD)
    (He.glo_ok X G (c.d.fact 11 (f := .glo "_law_marches") rfl))
    (fun_of dMR)
    (He.glo_ok X G (c.d.fact 12 (f := .glo "end_at") rfl))
    (fun_of dEA)
    (He.glo_ok X G (c.d.fact 13 (f := .glo "corner") rfl))
    (fun_of dCO)
    (He.glo_ok X G (c.d.fact 14 (f := .glo "key") rfl))
    (fun_of dKY)
    (He.glo_ok X G (c.d.fact 15 (f := .glo "keyed") rfl))
    (fun_of dKD)
    (He.glo_ok X G (c.d.fact 16 (f := .glo "read_number") rfl))
    (fun_of dRN)
    (He.glo_ok X G (c.d.fact 17 (f := .glo "read_road") rfl))
    (fun_of dRRD)
    (He.glo_ok X G (c.d.fact 18 (f := .glo "read_tree") rfl))
    (fun_of dRTR)
    (He.glo_ok X G (c.d.fact 19 (f := .glo "read_place") rfl))
    (fun_of dRP)
    (He.glo_ok X G (c.d.fact 20 (f := .glo "read_march") rfl))
    (fun_of dRMA)
    (He.glo_ok X G (c.d.fact 21 (f := .glo "read_marches") rfl))
    (fun_of dRMS)
    (He.glo_ok X G (c.d.fact 22 (f := .glo "read_row") rfl))
    (fun_of dRRW)
    (He.glo_ok X G (c.d.fact 23 (f := .glo "_law_place_text") rfl))
    (fun_of dLPT)
    (He.glo_ok X G (c.d.fact 24 (f := .glo "_law_row_text") rfl))
    (fun_of dLRT)
    (He.glo_ok X G (c.d.fact 25 (f := .glo "_law_tree_rows") rfl))
    (fun_of dLTR)
    (He.glo_ok X G (c.d.fact 26 (f := .glo "_law_number") rfl))
    (fun_of dLN)
    (He.glo_ok X G (c.d.fact 27 (f := .glo "_law_road") rfl))
    (fun_of dLR)
    (He.glo_ok X G (c.d.fact 28 (f := .glo "_law_march") rfl))
    (fun_of dLM)
    (He.glo_ok X G (c.d.fact 29 (f := .glo "_law_said") rfl))
    (fun_of dLSA)
    (He.glo_ok X G (c.d.fact 30 (f := .glo "_law_spoilt_part") rfl))
    (fun_of dLSP)
    (He.glo_ok X G (c.d.fact 31 (f := .glo "_law_spoilt") rfl))
    (fun_of dLSO)
    (He.glo_ok X G (c.d.fact 32 (f := .glo "_law_tree_right") rfl))
    (fun_of dLTL)
    (He.glo_ok X G (c.d.fact 33 (f := .glo "_law_row_right") rfl))
    (fun_of dLRL)
    (He.glo_ok X G (c.d.fact 34 (f := .glo "law") rfl))
    (fun_of dL)
    (He.glo_ok X G (c.d.fact 35 (f := .glo "Road") rfl))
    (He.glo_ok X G (c.d.fact 36 (f := .glo "Tree") rfl))
    (He.glo_ok X G (c.d.fact 37 (f := .glo "Place") rfl))
    (He.glo_ok X G (c.d.fact 38 (f := .glo "March") rfl))
    (He.glo_ok X G (c.d.fact 39 (f := .glo "Row") rfl))
    (He.glo_ok X G (c.d.fact 40 (f := .glo "BadCount") rfl))
    (He.glo_ok X G (c.d.fact 41 (f := .glo "NoCrossing") rfl))
    (He.glo_ok X G (c.d.fact 42 (f := .glo "RingRoad") rfl))
    (He.glo_ok X G (c.d.fact 43 (f := .glo "NoRoad") rfl))
    (He.glo_ok X G (c.d.fact 44 (f := .glo "OffRoad") rfl))
    (He.glo_ok X G (c.d.fact 45 (f := .glo "NotWhole") rfl))
    (He.glo_ok X G (c.d.fact 46 (f := .glo "BadRow") rfl))
    (He.glo_ok X G (c.d.fact 47 (f := .glo "BadText") rfl))
    (He.glo_ok X G (c.d.fact 48 (f := .glo "TrainError") rfl))
    (fun_of dB)
    (fun_of dN)
    (fun_of dG)
    (fun_of dNR)
    (fun_of dOR)
    (fun_of dNW)
    (fun_of dR)
    (fun_of dT)
    (fun_of dPl)
    (fun_of dMa)
    (fun_of dRw)
    (fun_of dRE)
    (fun_of dTE)
    (fun_of dPE)
    (fun_of dME)
    (fun_of dWE)
    (fun_of dBR)
    (fun_of dBT)
    (fun_of dTDB)
    (fun_of dTDN)
    (fun_of dTDG)
    (fun_of dTDNR)
    (fun_of dTDOR)
    (fun_of dTDNW)
    (He.cls_ok (c.d.fact 49 (f := .cls "Road") rfl))
    (He.noat_ok (c.d.fact 50 (f := .noat "Road" "a") rfl))
    (He.noat_ok (c.d.fact 51 (f := .noat "Road" "b") rfl))
    (He.noat_ok (c.d.fact 52 (f := .noat "Road" "length") rfl))
    (He.mkr_ok (c.d.fact 53 (f := .mkr "Road") rfl))
    (qc_ok (He.cls_ok (c.d.fact 49 (f := .cls "Road") rfl)) (ex_at c.more 0 rfl) (ex_at c.more 1 rfl))
    (He.cls_ok (c.d.fact 54 (f := .cls "Tree") rfl))
    (He.noat_ok (c.d.fact 55 (f := .noat "Tree" "crossings") rfl))
    (He.noat_ok (c.d.fact 56 (f := .noat "Tree" "roads") rfl))
    (He.noat_ok (c.d.fact 57 (f := .noat "Tree" "trails") rfl))
    (He.mkr_ok (c.d.fact 58 (f := .mkr "Tree") rfl))
    (qc_ok (He.cls_ok (c.d.fact 54 (f := .cls "Tree") rfl)) (ex_at c.more 0 rfl) (ex_at c.more 2 rfl))
    (He.cls_ok (c.d.fact 59 (f := .cls "Place") rfl))
    (He.noat_ok (c.d.fact 60 (f := .noat "Place" "road") rfl))
    (He.noat_ok (c.d.fact 61 (f := .noat "Place" "number") rfl))
    (He.noat_ok (c.d.fact 62 (f := .noat "Place" "parts") rfl))
    (He.mkr_ok (c.d.fact 63 (f := .mkr "Place") rfl))
    (qc_ok (He.cls_ok (c.d.fact 59 (f := .cls "Place") rfl)) (ex_at c.more 0 rfl) (ex_at c.more 3 rfl))
    (He.cls_ok (c.d.fact 64 (f := .cls "March") rfl))
    (He.noat_ok (c.d.fact 65 (f := .noat "March" "goal") rfl))
    (He.noat_ok (c.d.fact 66 (f := .noat "March" "steps") rfl))
    (He.mkr_ok (c.d.fact 67 (f := .mkr "March") rfl))
    (qc_ok (He.cls_ok (c.d.fact 64 (f := .cls "March") rfl)) (ex_at c.more 0 rfl) (ex_at c.more 4 rfl))
    (He.cls_ok (c.d.fact 68 (f := .cls "Row") rfl))
    (He.noat_ok (c.d.fact 69 (f := .noat "Row" "tree") rfl))
    (He.noat_ok (c.d.fact 70 (f := .noat "Row" "marches") rfl))
    (He.mkr_ok (c.d.fact 71 (f := .mkr "Row") rfl))
    (qc_ok (He.cls_ok (c.d.fact 68 (f := .cls "Row") rfl)) (ex_at c.more 0 rfl) (ex_at c.more 5 rfl))
    (He.noat_ok (c.d.fact 72 (f := .noat "BadCount" "what") rfl))
    (He.noat_ok (c.d.fact 73 (f := .noat "BadCount" "count") rfl))
    (er_ok (He.glo_ok X G (c.d.fact 40 (f := .glo "BadCount") rfl)) (ex_at c.more 0 rfl) (ex_at c.more 6 rfl))
    (He.noat_ok (c.d.fact 74 (f := .noat "NoCrossing" "crossing") rfl))
    (er_ok (He.glo_ok X G (c.d.fact 41 (f := .glo "NoCrossing") rfl)) (ex_at c.more 0 rfl) (ex_at c.more 7 rfl))
    (He.noat_ok (c.d.fact 75 (f := .noat "RingRoad" "road") rfl))
    (er_ok (He.glo_ok X G (c.d.fact 42 (f := .glo "RingRoad") rfl)) (ex_at c.more 0 rfl) (ex_at c.more 8 rfl))
    (He.noat_ok (c.d.fact 76 (f := .noat "NoRoad" "road") rfl))
    (er_ok (He.glo_ok X G (c.d.fact 43 (f := .glo "NoRoad") rfl)) (ex_at c.more 0 rfl) (ex_at c.more 9 rfl))
    (He.noat_ok (c.d.fact 77 (f := .noat "OffRoad" "road") rfl))
    (er_ok (He.glo_ok X G (c.d.fact 44 (f := .glo "OffRoad") rfl)) (ex_at c.more 0 rfl) (ex_at c.more 10 rfl))
    (He.noat_ok (c.d.fact 78 (f := .noat "NotWhole" "march") rfl))
    (er_ok (He.glo_ok X G (c.d.fact 45 (f := .glo "NotWhole") rfl)) (ex_at c.more 0 rfl) (ex_at c.more 11 rfl))
    (He.noat_ok (c.d.fact 79 (f := .noat "BadRow" "number") rfl))
    (er_ok (He.glo_ok X G (c.d.fact 46 (f := .glo "BadRow") rfl)) (ex_at c.more 0 rfl) (ex_at c.more 12 rfl))
    (He.noat_ok (c.d.fact 80 (f := .noat "BadText" "place") rfl))
    (er_ok (He.glo_ok X G (c.d.fact 47 (f := .glo "BadText") rfl)) (ex_at c.more 0 rfl) (ex_at c.more 13 rfl))
    (He.free_ok X G (c.d.fact 81 (f := .free "abs") rfl))
    (He.free_ok X G (c.d.fact 82 (f := .free "any") rfl))
    (He.free_ok X G (c.d.fact 83 (f := .free "enumerate") rfl))
    (He.free_ok X G (c.d.fact 84 (f := .free "int") rfl))
    (He.free_ok X G (c.d.fact 85 (f := .free "isinstance") rfl))
    (He.free_ok X G (c.d.fact 86 (f := .free "len") rfl))
    (He.free_ok X G (c.d.fact 87 (f := .free "list") rfl))
    (He.free_ok X G (c.d.fact 88 (f := .free "min") rfl))
    (He.free_ok X G (c.d.fact 89 (f := .free "range") rfl))
    (He.free_ok X G (c.d.fact 90 (f := .free "str") rfl))
    (He.free_ok X G (c.d.fact 91 (f := .free "tuple") rfl))
    (He.meth_ok (c.d.fact 92 (f := .meth "BadCount" "told") rfl))
    (He.meth_ok (c.d.fact 93 (f := .meth "NoCrossing" "told") rfl))
    (He.meth_ok (c.d.fact 94 (f := .meth "RingRoad" "told") rfl))
    (He.meth_ok (c.d.fact 95 (f := .meth "NoRoad" "told") rfl))
    (He.meth_ok (c.d.fact 96 (f := .meth "OffRoad" "told") rfl))
    (He.meth_ok (c.d.fact 97 (f := .meth "NotWhole" "told") rfl))
    (He.int_ok X G (c.d.fact 98 (f := .int "LEAST_CROSSINGS" 2) rfl))
    (He.int_ok X G (c.d.fact 99 (f := .int "MOST_CROSSINGS" 24) rfl))
    (He.int_ok X G (c.d.fact 100 (f := .int "MOST_MARCHES" 24) rfl))
    (He.int_ok X G (c.d.fact 101 (f := .int "MOST_DIGITS" 31) rfl))
    (He.int_ok X G (c.d.fact 102 (f := .int "LEAST_PARTS" 2) rfl))
    (He.str_ok X G (c.d.fact 103 (f := .str "DIGITS" "0123456789") rfl))
    (He.str_ok X G (c.d.fact 104 (f := .str "NO_MARCHES" "none") rfl))
    (He.int_ok X G (c.d.fact 105 (f := .int "LONGEST_ROAD" 1000000000) rfl))
    (He.int_ok X G (c.d.fact 106 (f := .int "MOST_STEPS" 1000000000) rfl))
    (PySem.W.mg_of X G (He.eqO_ok (ex_at c.more 14 rfl)))
    (He.exm_ok (c.d.fact 107 (f := .exm "BadRow" "BadRow" true) rfl))
    (He.exm_ok (c.d.fact 108 (f := .exm "BadText" "BadRow" false) rfl))
    (He.exm_ok (c.d.fact 109 (f := .exm "BadText" "BadText" true) rfl))
    (He.exm_ok (c.d.fact 110 (f := .exm "BadCount" "BadRow" false) rfl))
    (He.exm_ok (c.d.fact 111 (f := .exm "NoCrossing" "BadRow" false) rfl))
    (He.exm_ok (c.d.fact 112 (f := .exm "RingRoad" "BadRow" false) rfl))
    (He.exm_ok (c.d.fact 113 (f := .exm "NoRoad" "BadRow" false) rfl))
    (He.exm_ok (c.d.fact 114 (f := .exm "OffRoad" "BadRow" false) rfl))
    (He.exm_ok (c.d.fact 115 (f := .exm "NotWhole" "BadRow" false) rfl))
    (He.exm_ok (c.d.fact 116 (f := .exm "BadCount" "BadText" false) rfl))
    (He.exm_ok (c.d.fact 117 (f := .exm "NoCrossing" "BadText" false) rfl))
    (He.exm_ok (c.d.fact 118 (f := .exm "RingRoad" "BadText" false) rfl))
    (He.exm_ok (c.d.fact 119 (f := .exm "NoRoad" "BadText" false) rfl))
    (He.exm_ok (c.d.fact 120 (f := .exm "OffRoad" "BadText" false) rfl))
    (He.exm_ok (c.d.fact 121 (f := .exm "NotWhole" "BadText" false) rfl))
    (He.exm_ok (c.d.fact 122 (f := .exm "BadCount" "TrainError" true) rfl))
    (He.exm_ok (c.d.fact 123 (f := .exm "NoCrossing" "TrainError" true) rfl))
    (He.exm_ok (c.d.fact 124 (f := .exm "RingRoad" "TrainError" true) rfl))
    (He.exm_ok (c.d.fact 125 (f := .exm "NoRoad" "TrainError" true) rfl))
    (He.exm_ok (c.d.fact 126 (f := .exm "OffRoad" "TrainError" true) rfl))
    (He.exm_ok (c.d.fact 127 (f := .exm "NotWhole" "TrainError" true) rfl))
    (tab_ok (ex_at c.more 15 rfl))
    (tab_ok (ex_at c.more 16 rfl))
    (of_decide_eq_true (ex_at c.more 17 rfl))
  exact ⟨fdL, z.1, He.glo_ok X G (c.d.fact 34 (f := .glo "law") rfl), List.forall_mem_cons.mpr ⟨⟨_, .head _, _, He.glo_ok X G (c.d.fact 32 (f := .glo "_law_tree_right") rfl), tab_ok (ex_at c.more 15 rfl)⟩, List.forall_mem_cons.mpr ⟨⟨_, .tail _ (.head _), _, He.glo_ok X G (c.d.fact 33 (f := .glo "_law_row_right") rfl), tab_ok (ex_at c.more 16 rfl)⟩, fun _ h => nomatch h⟩⟩, z.2⟩
end OT
open PySem PySem.W PySem.Calls PyProof.Rows
theorem PySem.Challenge.cw_onetrain_k72_texts_refused_holds : PySem.Challenge.rw_onetrain_k72_texts_refused.Holds := by
  w_on; o_law
  refine HandSHeadRun.head_imp (r := OpenLaw.row PySem.Challenge.rw_onetrain_k72_texts_refused) (q := OT.hkQ) (H := OT.hk) (ob := OT.hkOb) (M := 6000) (loose := OT.hkNames) (kwd := []) OT.hkOb_eq OT.hk_run (by rfl) (by rfl) (by rfl) (by rfl) (by first | assumption | decide +kernel) (by decide +kernel) ⟨rfl, rfl, rfl, rfl, rfl, by decide +kernel⟩ ?hw ?hc
  case hw => w_witness2
  case hc =>
    refine OT.walkT (l := PySem.Challenge.rw_onetrain_k72_texts_refused) (k := 12) OT.spLawT (fun K T H a ns hl tb hS => ⟨a, ns, rfl, hS, hl, tb, fun _ => rfl⟩) ["_law_tree_right", "_law_row_right"] rfl (by kernel_rfl) ⟨rfl, by decide, by decide⟩ (by decide +kernel) ?F
    intro w mg fa h Y G hmg
    obtain ⟨K, KX, c⟩ := Y
    obtain ⟨fd, hb, hm, ht, hF⟩ := OT.hk_facts (P := (PySem.Challenge.rw_onetrain_k72_texts_refused).prog) (w := w) KX G c
    have e := hmg.symm.trans hm
    cases e
    refine ⟨K, fd, _, _, KX, ht, ?_, hb, hF⟩
    exact List.forall_mem_cons.mpr ⟨⟨_, .head _, rfl⟩, List.forall_mem_cons.mpr ⟨⟨_, .tail _ (.head _), rfl⟩, fun _ h => nomatch h⟩⟩
