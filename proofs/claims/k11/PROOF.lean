import PyProof.Rows.All
import Wide.All
import OpenK.AllK
import Wide.FinOn
import KE.KStateDown
import HandS.Head0
import HandS.Head1
import HandS.Head2
import HandS.HeadEnd
import HandS.HeadHook1
import HandS.HeadHook2
import HandS.ExcInit
import KE.KExcInit
import HandS.ForSpec
import HandS.ForExc
import HandS.HotCalls
import HandS.Defaults
import HandS.Flow
import HandS.Wide
import HandS.TupAny
import HandS.Text
import HandS.Deep
import HandS.IsInst
import HandS.RaiseMore
import HandS.SetFor
import HandS.Style
import HandS.Comp
import HandS.ExcIs
import HandS.Dict
import HandS.Ends
import HandS.Walk
import HandS.Small
import KE.DataMinMax
import HandS.Strs
import KE.KExcIs
import HandS.ExcValue
import HandS.ExcField
import HandS.More
import KE.KCallOwn
import OpenK.KOps
import HandS.FStr
import HandS.OwnEq
import KE.DataCmp
import KE.DataFind
import HandS.Iter
import HandS.StrMore
import KE.GoesEnumKw
import KE.KUnpackStar
import PyProof.NeKinds
import PyProof.ReprUnder
import PyProof.ReprNest
import PyProof.ReprDict
import HandS.TupSets
import KE.SortKeyHeap
import HandS.SortKw
import HandS.Star
import HandS.TupMul
import KE.KTryMore
import PyProof.FactsAll.dict_2
import HandS.SetTxt0
import HandS.List
import HandS.WideBits
import PyProof.WalksMore
import PyProof.FactsAll.subtypes_4
import HandS.SetBool
import PyProof.TupleOfSeq
import PySem.Challenge.RW_dimcellar_k11_cellars_deed_by_deed
set_option Elab.async false
set_option linter.all false
set_option maxRecDepth 100000
set_option maxHeartbeats 4000000
namespace Den
open PySem PySem.Spec PyProof.Rows L2
inductive Tag where
  | ty (n : String)
  | ow (c : Nat)
  deriving DecidableEq
def tupN (K : PySem.W.Frag) (x : Str) (vs : List He.Dv) : Bool := match K.lookup (He.ga K x) with
  | some ⟨.type c, dd, .seq us _, _⟩ => (decide (c = "tuple") && dd.isNone) && (decide (us.size ≤ sizeLine) && He.relAll (vs.map (He.Dv.v K)) us.toList)
  | _ => false
abbrev AlZ : Type := Bool × Bool × List He.FnW
def sawZ (e : PySem.W.Frag → Bool) (fa : List He.Fa) (fn : List He.DefD) (K : PySem.W.Frag) : AlZ := (e K, (fa.all fun f => f.ok K) && fn.all fun d => d.ok K, fn.map fun d => He.fnW K d.at_)
def endZ (fn : List He.DefD) : AlZ := (true, true, fn.map He.DefD.val)
structure SaysZ (e : PySem.W.Frag → Bool) (fa : List He.Fa) (fn : List He.DefD) (K : PySem.W.Frag) : Prop where
  more : e K = true
  d : He.SaysD fa fn K
theorem saysZ {e : PySem.W.Frag → Bool} {fa : List He.Fa} {fn : List He.DefD} {K : PySem.W.Frag} (h : sawZ e fa fn K = endZ fn) : SaysZ e fa fn K := by
  have h1 : e K = true := congrArg (fun z : AlZ => z.1) h
  have h2 : ((fa.all fun f => f.ok K) && fn.all fun d => d.ok K) = true := congrArg (fun z : AlZ => z.2.1) h
  have h3 : (fn.map fun d => He.fnW K d.at_) = fn.map He.DefD.val := congrArg (fun z : AlZ => z.2.2) h
  exact ⟨h1, show (((fa.all fun f => f.ok K) && fn.all fun d => d.ok K, fn.map fun d => He.fnW K d.at_) : He.AlD) = (true, fn.map He.DefD.val) from by rw [h2, h3]⟩
def lookZ (n : Nat) (e : PySem.W.Frag → Bool) (fa : List He.Fa) (fn : List He.DefD) (g : Addr → Option Obj) : AlZ := sawZ e fa fn (He.frG g (He.asD g n))
def hookZ (n : Nat) (e : PySem.W.Frag → Bool) (fa : List He.Fa) (fn : List He.DefD) : PySem.W.Hook where
  α := AlZ
  obs := fun s => lookZ n e fa fn s.heap.get?
  val := fun _ => endZ fn
  says := fun _ hp => ∃ part : PySem.W.Frag, part.In hp ∧ SaysZ e fa fn part
  of := fun _ _ z => ⟨_, He.frG_in, saysZ z⟩
  keeps := fun _ _ _ told stay => told.elim fun part z => ⟨part, PySem.W.Frag.In.keeps z.1 stay, z.2⟩
theorem lookZ_eq {n : Nat} {e : PySem.W.Frag → Bool} {fa : List He.Fa} {fn : List He.DefD} {look : Addr → Option Obj} {s : Shared} (same : ∀ a, look a = s.heap.get? a) : lookZ n e fa fn look = (hookZ n e fa fn).obs s := by
  obtain rfl : look = s.heap.get? := funext same
  rfl
theorem zJoin {S A : Type} {x : Option S} {lf : S → Bool} {sq : S → A} {sv : A} {K : S → PySem.W.Frag} {e : PySem.W.Frag → Bool} {a1 a2 : List He.Fa} {f1 f2 : List He.DefD}
    (h1 : x.map (fun s => (lf s, sq s)) = some (true, sv)) (h2 : x.map (fun s => e (K s)) = some true) (h6 : x.map (fun s => a1.all fun f => f.ok (K s)) = some true) (h7 : x.map (fun s => a2.all fun f => f.ok (K s)) = some true)
    (h3 : x.map (fun s => (f1 ++ f2).map fun d => He.fnW (K s) d.at_) = some ((f1 ++ f2).map He.DefD.val))
    (h4 : x.map (fun s => f1.all fun d => d.ok (K s)) = some true) (h5 : x.map (fun s => f2.all fun d => d.ok (K s)) = some true) :
    x.map (fun s => (lf s, sq s, sawZ e (a1 ++ a2) (f1 ++ f2) (K s))) = some (true, sv, endZ (f1 ++ f2)) := by
  cases x with
  | none => cases h1
  | some s =>
    simp only [Option.map_some, Option.some.injEq, Prod.mk.injEq] at h1 h2 h3 h4 h5 h6 h7
    simp only [Option.map_some, sawZ, endZ, List.all_append, h1.1, h1.2, h2, h6, h7, h3, h4, h5, Bool.and_self]
end Den
set_option maxRecDepth 100000
set_option maxHeartbeats 4000000
namespace K11
open PySem PySem.Spec PyProof.Rows L2 Den
abbrev P : Program := PySem.Challenge.pw_dimcellar_k11_cellars_deed_by_deed
def top (i : Nat) : Stmt := P.main.body.getD i (.Pass ⟨0, 0, 0, 0⟩)
def clsAt (s : Stmt) (j : Nat) : Stmt := match s with
  | .ClassDef _ _ _ b .. => b.getD j (.Pass ⟨0, 0, 0, 0⟩)
  | _ => .Pass ⟨0, 0, 0, 0⟩
def veB : List Value := [.type "ValueError", .type "Exception", .type "BaseException", .type "object"]
def leB : List Value := [.type "LookupError", .type "Exception", .type "BaseException", .type "object"]
def heldC : List Nat := [7, 8, 5, 16, 15, 9, 10, 11, 12, 2, 3, 4, 17, 21, 22, 23]
def isV : List Nat := [7, 8, 5, 16, 15, 9, 10, 11, 12, 2, 3, 4, 17]
def isL : List Nat := [21, 22, 23]
def errTab : List (Tag × Tag × Bool) := (([7, 8, 5, 16, 15, 9, 10, 11, 12, 2, 3, 4, 17] : List Nat).flatMap fun a => (([2, 3, 4, 5, 6, 7, 8, 9, 10, 11, 12, 13, 14, 15, 16, 17, 18, 19, 20, 21, 22, 23] : List Nat).map fun d => (Tag.ow a, Tag.ow d, decide (a = d) || decide (d = 19))) ++ [(Tag.ow a, Tag.ty "ValueError", true), (Tag.ow a, Tag.ty "LookupError", false)]) ++ (([21, 22, 23] : List Nat).flatMap fun a => (([2, 3, 4, 5, 6, 7, 8, 9, 10, 11, 12, 13, 14, 15, 16, 17, 18, 19, 20, 21, 22, 23] : List Nat).map fun d => (Tag.ow a, Tag.ow d, decide (a = d) || decide (d = 20))) ++ [(Tag.ow a, Tag.ty "ValueError", false), (Tag.ow a, Tag.ty "LookupError", true)])
def cth_CellarError_HereError (c : Nat) : Option Bool := if c ∈ heldC then some true else none
abbrev st_TooMany : Stmt := clsAt (top 27) 0
abbrev st_Full : Stmt := clsAt (top 30) 0
abbrev st_Gone : Stmt := clsAt (top 31) 0
abbrev st_Kept : Stmt := clsAt (top 32) 0
abbrev st_is_whole : Stmt := top 3
abbrev st_is_within : Stmt := top 4
abbrev st_is_month : Stmt := top 5
abbrev st_is_year : Stmt := top 6
abbrev st_is_word : Stmt := top 7
abbrev st_is_maker : Stmt := top 8
abbrev st_is_rising : Stmt := top 9
abbrev st_is_size : Stmt := top 37
abbrev st_Bottle : Stmt := clsAt (top 36) 0
abbrev st_Bottle___eq__ : Stmt := clsAt (top 36) 1
abbrev st__are_rooms : Stmt := top 41
abbrev st__check_when_and_who : Stmt := top 42
abbrev st__put : Stmt := top 43
abbrev st__cleared : Stmt := top 44
abbrev st__laid : Stmt := top 45
abbrev st__row_text : Stmt := top 46
abbrev st_Cellar : Stmt := clsAt (top 40) 0
abbrev st_Cellar___str__ : Stmt := clsAt (top 40) 3
abbrev st_Cellar_lying : Stmt := clsAt (top 40) 22
abbrev st_Cellar___len__ : Stmt := clsAt (top 40) 1
abbrev st_Cellar__now : Stmt := clsAt (top 40) 24
abbrev st_Cellar__keep : Stmt := clsAt (top 40) 25
abbrev st_Cellar__like : Stmt := clsAt (top 40) 26
abbrev st_Cellar__check_place : Stmt := clsAt (top 40) 27
abbrev st_Cellar__check_number : Stmt := clsAt (top 40) 28
abbrev st_Cellar__check_lies : Stmt := clsAt (top 40) 29
abbrev st_Cellar__others_of : Stmt := clsAt (top 40) 32
abbrev st_Cellar__check_free : Stmt := clsAt (top 40) 30
abbrev st_Cellar__bound_with : Stmt := clsAt (top 40) 31
abbrev st_Cellar__leave : Stmt := clsAt (top 40) 34
abbrev st_Cellar__leave_alone : Stmt := clsAt (top 40) 33
abbrev st_Cellar_lay : Stmt := clsAt (top 40) 5
abbrev st_Cellar_move : Stmt := clsAt (top 40) 6
abbrev st_Cellar_drink : Stmt := clsAt (top 40) 7
abbrev st_Cellar_give : Stmt := clsAt (top 40) 8
abbrev st_Cellar_smash : Stmt := clsAt (top 40) 9
abbrev st_Cellar_bind : Stmt := clsAt (top 40) 10
abbrev st_Cellar_drink_set : Stmt := clsAt (top 40) 11
abbrev st_Cellar_loosen : Stmt := clsAt (top 40) 12
abbrev st_Cellar_undo : Stmt := clsAt (top 40) 13
abbrev st_Cellar_bottle : Stmt := clsAt (top 40) 14
abbrev st_Cellar_place : Stmt := clsAt (top 40) 15
abbrev st_Cellar_became : Stmt := clsAt (top 40) 16
abbrev st_Cellar_row : Stmt := clsAt (top 40) 17
abbrev st_Cellar_counts : Stmt := clsAt (top 40) 18
abbrev st_Cellar_twins : Stmt := clsAt (top 40) 19
abbrev st_Cellar_set_of : Stmt := clsAt (top 40) 20
abbrev st__law_cell_at : Stmt := top 48
abbrev st__law_pot : Stmt := top 49
abbrev st__law_take : Stmt := top 50
abbrev st__law_whole : Stmt := top 51
abbrev st__law_within : Stmt := top 52
abbrev st__law_mixed : Stmt := top 53
abbrev st__law_kinds : Stmt := top 54
abbrev st__law_rooms : Stmt := top 55
abbrev st__law_begun : Stmt := top 56
abbrev st__law_more : Stmt := top 57
abbrev st__law_is_who : Stmt := top 58
abbrev st__law_there : Stmt := top 59
abbrev st__law_place : Stmt := top 60
abbrev st__law_when : Stmt := top 61
abbrev st__law_set : Stmt := top 62
abbrev st__law_kept : Stmt := top 63
abbrev st__law_rows_less : Stmt := top 64
abbrev st__law_gone : Stmt := top 65
abbrev st__law_laid : Stmt := top 66
abbrev st__law_moved : Stmt := top 67
abbrev st__law_bound : Stmt := top 68
abbrev st__law_done : Stmt := top 69
abbrev st__law_behind : Stmt := top 70
abbrev st__law_word : Stmt := top 71
abbrev st__law_call : Stmt := top 72
abbrev st__law_met : Stmt := top 73
abbrev st__law_deed : Stmt := top 74
abbrev st__law_step : Stmt := top 75
abbrev st__law_here : Stmt := top 76
abbrev st__law_text : Stmt := top 77
abbrev st__law_shown : Stmt := top 78
abbrev st__law_says : Stmt := top 79
abbrev st_law : Stmt := top 80
end K11
set_option maxRecDepth 100000
set_option maxHeartbeats 4000000
namespace K11
open PySem PySem.Spec PyProof.Rows L2 Den
def tagC (cs : List Addr) : Tag → Value
  | .ty n => .type n
  | .ow c => .ref (cs.getD c 0)
def vB (K : PySem.W.Frag) (a : Addr) : Bool := PySem.W.subIn K (.ref a) (.type "BaseException") == some true && (PySem.W.findIn K (.ref a) "__getattribute__" == some (some (.builtin "BaseException.__getattribute__")) && (PySem.W.findIn K (.ref a) "__getattr__" == some none && (PySem.W.hasDictIn K a &&
  (PySem.W.findIn K (.ref a) "__class__" == some (some (.builtin "object.__class__")) && (PySem.W.specialIn K (.builtin "object.__class__") "__get__" == some (some (.builtin "getset_descriptor.__get__")) && (PySem.W.takesIn K (.builtin "object.__class__") == some true && PySem.W.mroIn K a (.type "object") == some true))))))
def nB (K : PySem.W.Frag) (a : Addr) : Bool := PySem.W.excIn K a veB "ValueError.__new__" && (PySem.W.keepIn K (.ref a) && (PySem.W.subIn K (.ref a) (.type "BaseException") == some true && PySem.W.typeIn K (.ref a) == some (.type "type")))
def iB (K : PySem.W.Frag) (a : Addr) (fs : List Str) (bm : List Value) (nid : String) : Bool := PySem.W.excInitIn K a bm nid && (PySem.W.excOver K a bm && (PySem.W.hasDictIn K a && (PySem.W.findIn K (.ref a) "__setattr__" == some (some (.builtin "object.__setattr__")) && (PySem.W.keepIn K (.ref a) && (PySem.W.typeIn K (.ref a) == some (.type "type") && (fs.all fun f => PySem.W.findIn K (.ref a) f == some none))))))
def ownB (K : PySem.W.Frag) (a : Addr) : Bool := PySem.W.findIn K (.ref a) "__class__" == some (some (.builtin "object.__class__")) && (PySem.W.specialIn K (.builtin "object.__class__") "__get__" == some (some (.builtin "getset_descriptor.__get__")) && (PySem.W.takesIn K (.builtin "object.__class__") == some true && PySem.W.mroIn K a (.type "object") == some true))
def errN : List Nat := [2, 3, 4, 5, 7, 8, 16, 15, 9, 10, 11, 12]
def errW : List (Nat × List Str × Bool) := [(17, (["many", "most"] : List Str), true), (21, (["room", "shelf"] : List Str), false), (22, (["number", "fate"] : List Str), false), (23, (["number", "others"] : List Str), false)]
def bmOf (b : Bool) : List Value := if b = true then veB else leB
def nidOf (b : Bool) : String := if b = true then "ValueError.__new__" else "LookupError.__new__"
def ownL : List Nat := [0, 1]
def tyZ : List (Tag × Tag × Bool) := (["NoneType", "bool", "int", "str", "list", "tuple", "dict"].flatMap fun a => (["int", "bool", "str", "list", "tuple", "dict"].map fun b => (Tag.ty a, Tag.ty b, a == b || (a == "bool" && b == "int"))) ++ [(Tag.ty a, Tag.ow 0, false), (Tag.ty a, Tag.ow 1, false)]) ++ ([0, 1].flatMap fun c => (["int", "bool", "str", "list", "tuple", "dict"].map fun b => (Tag.ow c, Tag.ty b, false)) ++ [(Tag.ow c, Tag.ow 0, c == 0), (Tag.ow c, Tag.ow 1, c == 1)])
def chk (K : PySem.W.Frag) (cs : List Addr) : Bool := (tyZ.all fun q => PySem.W.kitOne K (tagC cs q.1) (tagC cs q.2.1) == some q.2.2) && ((heldC.all fun c => PySem.W.exmAny K (.ref (cs.getD c 0)) [.ref (cs.getD 19 0), .ref (cs.getD 20 0)] == cth_CellarError_HereError c) &&
  ((heldC.all fun c => vB K (cs.getD c 0)) && ((errN.all fun c => nB K (cs.getD c 0)) && ((errW.all fun z => iB K (cs.getD z.1 0) z.2.1 (bmOf z.2.2) (nidOf z.2.2)) && ownL.all fun c => ownB K (cs.getD c 0)))))
def zC (K : PySem.W.Frag) : List Addr := [He.ga K "Bottle", He.ga K "Cellar", He.ga K "NoMaker", He.ga K "NoYear", He.ga K "NoSize", He.ga K "NoBottle", He.ga K "NoBottles", He.ga K "NoRooms", He.ga K "NoHold", He.ga K "NoMonth", He.ga K "NoWho", He.ga K "NoSet", He.ga K "NoDeed", He.ga K "NoWishes", He.ga K "NoLine", He.ga K "NoNumber", He.ga K "NoPlace", He.ga K "TooMany", He.ga K "NoText", He.ga K "CellarError", He.ga K "HereError", He.ga K "Full", He.ga K "Gone", He.ga K "Kept"]
def zF (K : PySem.W.Frag) : List Addr := [He.fAd K ("is_whole", none), He.fAd K ("is_within", none), He.fAd K ("is_month", none), He.fAd K ("is_year", none), He.fAd K ("is_word", none), He.fAd K ("is_maker", none), He.fAd K ("is_rising", none), He.fAd K ("is_size", none), He.fAd K ("Bottle", some "__init__"), He.fAd K ("Bottle", some "__eq__"), He.fAd K ("_are_rooms", none), He.fAd K ("_check_when_and_who", none), He.fAd K ("_put", none), He.fAd K ("_cleared", none), He.fAd K ("_laid", none), He.fAd K ("_row_text", none), He.fAd K ("Cellar", some "__init__"), He.fAd K ("Cellar", some "__str__"), He.fAd K ("Cellar", some "lying"), He.fAd K ("Cellar", some "__len__"), He.fAd K ("Cellar", some "_now"), He.fAd K ("Cellar", some "_keep"), He.fAd K ("Cellar", some "_like"), He.fAd K ("Cellar", some "_check_place"), He.fAd K ("Cellar", some "_check_number"), He.fAd K ("Cellar", some "_check_lies"), He.fAd K ("Cellar", some "_others_of"), He.fAd K ("Cellar", some "_check_free"), He.fAd K ("Cellar", some "_bound_with"), He.fAd K ("Cellar", some "_leave"), He.fAd K ("Cellar", some "_leave_alone"), He.fAd K ("Cellar", some "lay"), He.fAd K ("Cellar", some "move"), He.fAd K ("Cellar", some "drink"), He.fAd K ("Cellar", some "give"), He.fAd K ("Cellar", some "smash"), He.fAd K ("Cellar", some "bind"), He.fAd K ("Cellar", some "drink_set"), He.fAd K ("Cellar", some "loosen"), He.fAd K ("Cellar", some "undo"), He.fAd K ("Cellar", some "bottle"), He.fAd K ("Cellar", some "place"), He.fAd K ("Cellar", some "became"), He.fAd K ("Cellar", some "row"), He.fAd K ("Cellar", some "counts"), He.fAd K ("Cellar", some "twins"), He.fAd K ("Cellar", some "set_of"), He.fAd K ("_law_cell_at", none), He.fAd K ("_law_pot", none), He.fAd K ("_law_take", none), He.fAd K ("_law_whole", none), He.fAd K ("_law_within", none), He.fAd K ("_law_mixed", none), He.fAd K ("_law_kinds", none), He.fAd K ("_law_rooms", none), He.fAd K ("_law_begun", none), He.fAd K ("_law_more", none), He.fAd K ("_law_is_who", none), He.fAd K ("_law_there", none), He.fAd K ("_law_place", none), He.fAd K ("_law_when", none), He.fAd K ("_law_set", none), He.fAd K ("_law_kept", none), He.fAd K ("_law_rows_less", none), He.fAd K ("_law_gone", none), He.fAd K ("_law_laid", none), He.fAd K ("_law_moved", none), He.fAd K ("_law_bound", none), He.fAd K ("_law_done", none), He.fAd K ("_law_behind", none), He.fAd K ("_law_word", none), He.fAd K ("_law_call", none), He.fAd K ("_law_met", none), He.fAd K ("_law_deed", none), He.fAd K ("_law_step", none), He.fAd K ("_law_here", none), He.fAd K ("_law_text", none), He.fAd K ("_law_shown", none), He.fAd K ("_law_says", none), He.fAd K ("law", none), He.fAd K ("TooMany", some "__init__"), He.fAd K ("Full", some "__init__"), He.fAd K ("Gone", some "__init__"), He.fAd K ("Kept", some "__init__")]
def nvB_Bottle (K : PySem.W.Frag) (cs : List Addr) : Bool := ((Tag.ow 0 :: ["NoneType", "bool", "int", "str", "list", "tuple", "dict"].map Tag.ty).all fun t => PySem.W.notFirst K (cs.getD 0 0) (tagC cs t)) && (PySem.W.findIn K (.ref (cs.getD 0 0)) "__ne__" == some (some (.builtin "object.__ne__")) && PySem.W.mroIn K (cs.getD 0 0) (.type "object") == some true)
def zMore (K : PySem.W.Frag) : Bool := chk K (zC K) && nvB_Bottle K (zC K) && tupN K "SIZES" [.int 37, .int 75, .int 150] && (errTab.all fun q => PySem.W.kitOne K (tagC (zC K) q.1) (tagC (zC K) q.2.1) == some q.2.2)
def zFn1 : List He.DefD := [
  ⟨("is_whole", none), "is_whole", "is_whole", defArgs st_is_whole, defBody st_is_whole, defScope st_is_whole, [], []⟩,
  ⟨("is_within", none), "is_within", "is_within", defArgs st_is_within, defBody st_is_within, defScope st_is_within, [], []⟩,
  ⟨("is_month", none), "is_month", "is_month", defArgs st_is_month, defBody st_is_month, defScope st_is_month, [], []⟩,
  ⟨("is_year", none), "is_year", "is_year", defArgs st_is_year, defBody st_is_year, defScope st_is_year, [], []⟩,
  ⟨("is_word", none), "is_word", "is_word", defArgs st_is_word, defBody st_is_word, defScope st_is_word, [], []⟩,
  ⟨("is_maker", none), "is_maker", "is_maker", defArgs st_is_maker, defBody st_is_maker, defScope st_is_maker, [], []⟩,
  ⟨("is_rising", none), "is_rising", "is_rising", defArgs st_is_rising, defBody st_is_rising, defScope st_is_rising, [], []⟩,
  ⟨("is_size", none), "is_size", "is_size", defArgs st_is_size, defBody st_is_size, defScope st_is_size, [], []⟩,
  ⟨("Bottle", some "__init__"), "__init__", "Bottle.__init__", defArgs st_Bottle, defBody st_Bottle, defScope st_Bottle, [.int 75], []⟩,
  ⟨("Bottle", some "__eq__"), "__eq__", "Bottle.__eq__", defArgs st_Bottle___eq__, defBody st_Bottle___eq__, defScope st_Bottle___eq__, [], []⟩,
  ⟨("_are_rooms", none), "_are_rooms", "_are_rooms", defArgs st__are_rooms, defBody st__are_rooms, defScope st__are_rooms, [], []⟩,
  ⟨("_check_when_and_who", none), "_check_when_and_who", "_check_when_and_who", defArgs st__check_when_and_who, defBody st__check_when_and_who, defScope st__check_when_and_who, [], []⟩,
  ⟨("_put", none), "_put", "_put", defArgs st__put, defBody st__put, defScope st__put, [], []⟩,
  ⟨("_cleared", none), "_cleared", "_cleared", defArgs st__cleared, defBody st__cleared, defScope st__cleared, [], []⟩,
  ⟨("_laid", none), "_laid", "_laid", defArgs st__laid, defBody st__laid, defScope st__laid, [], []⟩,
  ⟨("_row_text", none), "_row_text", "_row_text", defArgs st__row_text, defBody st__row_text, defScope st__row_text, [], []⟩,
  ⟨("Cellar", some "__init__"), "__init__", "Cellar.__init__", defArgs st_Cellar, defBody st_Cellar, defScope st_Cellar, [.int 6], []⟩,
  ⟨("Cellar", some "__str__"), "__str__", "Cellar.__str__", defArgs st_Cellar___str__, defBody st_Cellar___str__, defScope st_Cellar___str__, [], []⟩,
  ⟨("Cellar", some "lying"), "lying", "Cellar.lying", defArgs st_Cellar_lying, defBody st_Cellar_lying, defScope st_Cellar_lying, [], []⟩,
  ⟨("Cellar", some "__len__"), "__len__", "Cellar.__len__", defArgs st_Cellar___len__, defBody st_Cellar___len__, defScope st_Cellar___len__, [], []⟩,
  ⟨("Cellar", some "_now"), "_now", "Cellar._now", defArgs st_Cellar__now, defBody st_Cellar__now, defScope st_Cellar__now, [], []⟩,
  ⟨("Cellar", some "_keep"), "_keep", "Cellar._keep", defArgs st_Cellar__keep, defBody st_Cellar__keep, defScope st_Cellar__keep, [], []⟩,
  ⟨("Cellar", some "_like"), "_like", "Cellar._like", defArgs st_Cellar__like, defBody st_Cellar__like, defScope st_Cellar__like, [], []⟩,
  ⟨("Cellar", some "_check_place"), "_check_place", "Cellar._check_place", defArgs st_Cellar__check_place, defBody st_Cellar__check_place, defScope st_Cellar__check_place, [], []⟩,
  ⟨("Cellar", some "_check_number"), "_check_number", "Cellar._check_number", defArgs st_Cellar__check_number, defBody st_Cellar__check_number, defScope st_Cellar__check_number, [], []⟩,
  ⟨("Cellar", some "_check_lies"), "_check_lies", "Cellar._check_lies", defArgs st_Cellar__check_lies, defBody st_Cellar__check_lies, defScope st_Cellar__check_lies, [], []⟩,
  ⟨("Cellar", some "_others_of"), "_others_of", "Cellar._others_of", defArgs st_Cellar__others_of, defBody st_Cellar__others_of, defScope st_Cellar__others_of, [], []⟩,
  ⟨("Cellar", some "_check_free"), "_check_free", "Cellar._check_free", defArgs st_Cellar__check_free, defBody st_Cellar__check_free, defScope st_Cellar__check_free, [], []⟩,
  ⟨("Cellar", some "_bound_with"), "_bound_with", "Cellar._bound_with", defArgs st_Cellar__bound_with, defBody st_Cellar__bound_with, defScope st_Cellar__bound_with, [], []⟩,
  ⟨("Cellar", some "_leave"), "_leave", "Cellar._leave", defArgs st_Cellar__leave, defBody st_Cellar__leave, defScope st_Cellar__leave, [], []⟩,
  ⟨("Cellar", some "_leave_alone"), "_leave_alone", "Cellar._leave_alone", defArgs st_Cellar__leave_alone, defBody st_Cellar__leave_alone, defScope st_Cellar__leave_alone, [], []⟩,
  ⟨("Cellar", some "lay"), "lay", "Cellar.lay", defArgs st_Cellar_lay, defBody st_Cellar_lay, defScope st_Cellar_lay, [.int 0, .int 0], []⟩,
  ⟨("Cellar", some "move"), "move", "Cellar.move", defArgs st_Cellar_move, defBody st_Cellar_move, defScope st_Cellar_move, [.int 0, .int 0], []⟩,
  ⟨("Cellar", some "drink"), "drink", "Cellar.drink", defArgs st_Cellar_drink, defBody st_Cellar_drink, defScope st_Cellar_drink, [.str ""], []⟩,
  ⟨("Cellar", some "give"), "give", "Cellar.give", defArgs st_Cellar_give, defBody st_Cellar_give, defScope st_Cellar_give, [.str ""], []⟩,
  ⟨("Cellar", some "smash"), "smash", "Cellar.smash", defArgs st_Cellar_smash, defBody st_Cellar_smash, defScope st_Cellar_smash, [], []⟩,
  ⟨("Cellar", some "bind"), "bind", "Cellar.bind", defArgs st_Cellar_bind, defBody st_Cellar_bind, defScope st_Cellar_bind, [], []⟩,
  ⟨("Cellar", some "drink_set"), "drink_set", "Cellar.drink_set", defArgs st_Cellar_drink_set, defBody st_Cellar_drink_set, defScope st_Cellar_drink_set, [.str ""], []⟩,
  ⟨("Cellar", some "loosen"), "loosen", "Cellar.loosen", defArgs st_Cellar_loosen, defBody st_Cellar_loosen, defScope st_Cellar_loosen, [], []⟩,
  ⟨("Cellar", some "undo"), "undo", "Cellar.undo", defArgs st_Cellar_undo, defBody st_Cellar_undo, defScope st_Cellar_undo, [], []⟩,
  ⟨("Cellar", some "bottle"), "bottle", "Cellar.bottle", defArgs st_Cellar_bottle, defBody st_Cellar_bottle, defScope st_Cellar_bottle, [], []⟩,
  ⟨("Cellar", some "place"), "place", "Cellar.place", defArgs st_Cellar_place, defBody st_Cellar_place, defScope st_Cellar_place, [], []⟩]
def zFn2 : List He.DefD := [
  ⟨("Cellar", some "became"), "became", "Cellar.became", defArgs st_Cellar_became, defBody st_Cellar_became, defScope st_Cellar_became, [], []⟩,
  ⟨("Cellar", some "row"), "row", "Cellar.row", defArgs st_Cellar_row, defBody st_Cellar_row, defScope st_Cellar_row, [.int 0, .int 0], []⟩,
  ⟨("Cellar", some "counts"), "counts", "Cellar.counts", defArgs st_Cellar_counts, defBody st_Cellar_counts, defScope st_Cellar_counts, [], []⟩,
  ⟨("Cellar", some "twins"), "twins", "Cellar.twins", defArgs st_Cellar_twins, defBody st_Cellar_twins, defScope st_Cellar_twins, [], []⟩,
  ⟨("Cellar", some "set_of"), "set_of", "Cellar.set_of", defArgs st_Cellar_set_of, defBody st_Cellar_set_of, defScope st_Cellar_set_of, [], []⟩,
  ⟨("_law_cell_at", none), "_law_cell_at", "_law_cell_at", defArgs st__law_cell_at, defBody st__law_cell_at, defScope st__law_cell_at, [], []⟩,
  ⟨("_law_pot", none), "_law_pot", "_law_pot", defArgs st__law_pot, defBody st__law_pot, defScope st__law_pot, [], []⟩,
  ⟨("_law_take", none), "_law_take", "_law_take", defArgs st__law_take, defBody st__law_take, defScope st__law_take, [], []⟩,
  ⟨("_law_whole", none), "_law_whole", "_law_whole", defArgs st__law_whole, defBody st__law_whole, defScope st__law_whole, [], []⟩,
  ⟨("_law_within", none), "_law_within", "_law_within", defArgs st__law_within, defBody st__law_within, defScope st__law_within, [], []⟩,
  ⟨("_law_mixed", none), "_law_mixed", "_law_mixed", defArgs st__law_mixed, defBody st__law_mixed, defScope st__law_mixed, [], []⟩,
  ⟨("_law_kinds", none), "_law_kinds", "_law_kinds", defArgs st__law_kinds, defBody st__law_kinds, defScope st__law_kinds, [], []⟩,
  ⟨("_law_rooms", none), "_law_rooms", "_law_rooms", defArgs st__law_rooms, defBody st__law_rooms, defScope st__law_rooms, [], []⟩,
  ⟨("_law_begun", none), "_law_begun", "_law_begun", defArgs st__law_begun, defBody st__law_begun, defScope st__law_begun, [], []⟩,
  ⟨("_law_more", none), "_law_more", "_law_more", defArgs st__law_more, defBody st__law_more, defScope st__law_more, [], []⟩,
  ⟨("_law_is_who", none), "_law_is_who", "_law_is_who", defArgs st__law_is_who, defBody st__law_is_who, defScope st__law_is_who, [], []⟩,
  ⟨("_law_there", none), "_law_there", "_law_there", defArgs st__law_there, defBody st__law_there, defScope st__law_there, [], []⟩,
  ⟨("_law_place", none), "_law_place", "_law_place", defArgs st__law_place, defBody st__law_place, defScope st__law_place, [], []⟩,
  ⟨("_law_when", none), "_law_when", "_law_when", defArgs st__law_when, defBody st__law_when, defScope st__law_when, [], []⟩,
  ⟨("_law_set", none), "_law_set", "_law_set", defArgs st__law_set, defBody st__law_set, defScope st__law_set, [], []⟩,
  ⟨("_law_kept", none), "_law_kept", "_law_kept", defArgs st__law_kept, defBody st__law_kept, defScope st__law_kept, [], []⟩,
  ⟨("_law_rows_less", none), "_law_rows_less", "_law_rows_less", defArgs st__law_rows_less, defBody st__law_rows_less, defScope st__law_rows_less, [], []⟩,
  ⟨("_law_gone", none), "_law_gone", "_law_gone", defArgs st__law_gone, defBody st__law_gone, defScope st__law_gone, [], []⟩,
  ⟨("_law_laid", none), "_law_laid", "_law_laid", defArgs st__law_laid, defBody st__law_laid, defScope st__law_laid, [], []⟩,
  ⟨("_law_moved", none), "_law_moved", "_law_moved", defArgs st__law_moved, defBody st__law_moved, defScope st__law_moved, [], []⟩,
  ⟨("_law_bound", none), "_law_bound", "_law_bound", defArgs st__law_bound, defBody st__law_bound, defScope st__law_bound, [], []⟩,
  ⟨("_law_done", none), "_law_done", "_law_done", defArgs st__law_done, defBody st__law_done, defScope st__law_done, [], []⟩,
  ⟨("_law_behind", none), "_law_behind", "_law_behind", defArgs st__law_behind, defBody st__law_behind, defScope st__law_behind, [], []⟩,
  ⟨("_law_word", none), "_law_word", "_law_word", defArgs st__law_word, defBody st__law_word, defScope st__law_word, [], []⟩,
  ⟨("_law_call", none), "_law_call", "_law_call", defArgs st__law_call, defBody st__law_call, defScope st__law_call, [], []⟩,
  ⟨("_law_met", none), "_law_met", "_law_met", defArgs st__law_met, defBody st__law_met, defScope st__law_met, [], []⟩,
  ⟨("_law_deed", none), "_law_deed", "_law_deed", defArgs st__law_deed, defBody st__law_deed, defScope st__law_deed, [], []⟩,
  ⟨("_law_step", none), "_law_step", "_law_step", defArgs st__law_step, defBody st__law_step, defScope st__law_step, [], []⟩,
  ⟨("_law_here", none), "_law_here", "_law_here", defArgs st__law_here, defBody st__law_here, defScope st__law_here, [], []⟩,
  ⟨("_law_text", none), "_law_text", "_law_text", defArgs st__law_text, defBody st__law_text, defScope st__law_text, [], []⟩,
  ⟨("_law_shown", none), "_law_shown", "_law_shown", defArgs st__law_shown, defBody st__law_shown, defScope st__law_shown, [], []⟩,
  ⟨("_law_says", none), "_law_says", "_law_says", defArgs st__law_says, defBody st__law_says, defScope st__law_says, [], []⟩,
  ⟨("law", none), "law", "law", defArgs st_law, defBody st_law, defScope st_law, [], []⟩,
  ⟨("TooMany", some "__init__"), "__init__", "TooMany.__init__", defArgs st_TooMany, defBody st_TooMany, defScope st_TooMany, [], []⟩,
  ⟨("Full", some "__init__"), "__init__", "Full.__init__", defArgs st_Full, defBody st_Full, defScope st_Full, [], []⟩,
  ⟨("Gone", some "__init__"), "__init__", "Gone.__init__", defArgs st_Gone, defBody st_Gone, defScope st_Gone, [], []⟩,
  ⟨("Kept", some "__init__"), "__init__", "Kept.__init__", defArgs st_Kept, defBody st_Kept, defScope st_Kept, [], []⟩]
def zFn : List He.DefD := zFn1 ++ zFn2
def zFa1 : List He.Fa := [.glo "Bottle", .glo "Cellar", .glo "NoMaker", .glo "NoYear", .glo "NoSize", .glo "NoBottle", .glo "NoBottles", .glo "NoRooms", .glo "NoHold", .glo "NoMonth", .glo "NoWho", .glo "NoSet", .glo "NoDeed", .glo "NoWishes", .glo "NoLine", .glo "NoNumber", .glo "NoPlace", .glo "TooMany", .glo "NoText", .glo "CellarError", .glo "HereError", .glo "Full", .glo "Gone", .glo "Kept", .glo "is_whole", .glo "is_within", .glo "is_month", .glo "is_year", .glo "is_word", .glo "is_maker", .glo "is_rising", .glo "is_size", .meth "Bottle" "__init__", .meth "Bottle" "__eq__", .glo "_are_rooms", .glo "_check_when_and_who", .glo "_put", .glo "_cleared", .glo "_laid", .glo "_row_text", .meth "Cellar" "__init__", .meth "Cellar" "__str__", .meth "Cellar" "lying", .meth "Cellar" "__len__", .meth "Cellar" "_now", .meth "Cellar" "_keep", .meth "Cellar" "_like", .meth "Cellar" "_check_place", .meth "Cellar" "_check_number", .meth "Cellar" "_check_lies", .meth "Cellar" "_others_of", .meth "Cellar" "_check_free", .meth "Cellar" "_bound_with", .meth "Cellar" "_leave", .meth "Cellar" "_leave_alone", .meth "Cellar" "lay", .meth "Cellar" "move", .meth "Cellar" "drink", .meth "Cellar" "give", .meth "Cellar" "smash", .meth "Cellar" "bind", .meth "Cellar" "drink_set", .meth "Cellar" "loosen", .meth "Cellar" "undo", .meth "Cellar" "bottle", .meth "Cellar" "place", .meth "Cellar" "became", .meth "Cellar" "row", .meth "Cellar" "counts", .meth "Cellar" "twins", .meth "Cellar" "set_of", .glo "_law_cell_at"]
def zFa2 : List He.Fa := [.glo "_law_pot", .glo "_law_take", .glo "_law_whole", .glo "_law_within", .glo "_law_mixed", .glo "_law_kinds", .glo "_law_rooms", .glo "_law_begun", .glo "_law_more", .glo "_law_is_who", .glo "_law_there", .glo "_law_place", .glo "_law_when", .glo "_law_set", .glo "_law_kept", .glo "_law_rows_less", .glo "_law_gone", .glo "_law_laid", .glo "_law_moved", .glo "_law_bound", .glo "_law_done", .glo "_law_behind", .glo "_law_word", .glo "_law_call", .glo "_law_met", .glo "_law_deed", .glo "_law_step", .glo "_law_here", .glo "_law_text", .glo "_law_shown", .glo "_law_says", .glo "law", .meth "TooMany" "__init__", .meth "Full" "__init__", .meth "Gone" "__init__", .meth "Kept" "__init__", .free "int", .free "bool", .free "str", .free "list", .free "tuple", .free "isinstance", .free "len", .free "all", .free "any", .free "max", .free "min", .free "range", .free "repr", .free "sorted", .free "enumerate", .free "dict", .free "ValueError", .free "LookupError", .glo "SIZES", .int "USUAL_SIZE" 75, .int "MONTHS" 1000, .int "MOST_BOTTLES" 40, .cls "Bottle", .mkr "Bottle", .noat "Bottle" "maker", .noat "Bottle" "year", .noat "Bottle" "size", .cls "Cellar", .mkr "Cellar", .noat "Cellar" "_rooms", .noat "Cellar" "_hold", .noat "Cellar" "_bottles", .noat "Cellar" "_shelves", .noat "Cellar" "_fates", .noat "Cellar" "_sets", .noat "Cellar" "_past"]
def zFa : List He.Fa := zFa1 ++ zFa2
abbrev zR : PySem.W.OpenRow := PySem.W.OpenLaw.row PySem.Challenge.rw_dimcellar_k11_cellars_deed_by_deed
def zLoose : List Str := (zR.prog.main.scope.names.map (·.1)).filter fun n => n != ("law" : Str)
abbrev zHook : PySem.W.Hook := hookZ 4 zMore zFa zFn
def zOb (s : PySem.W.SharedT) : AlZ := lookZ 4 zMore zFa zFn (HandSHeadRun.getT s)
theorem zOb_eq (s : PySem.W.SharedT) : zOb s = zHook.obs s.abs := lookZ_eq (HandSHeadRun.getT_eq s)
end K11
set_option maxRecDepth 100000
set_option maxHeartbeats 0
namespace K11
open PySem PySem.W PySem.Calls PySem.Spec PyProof.Rows L2 Den
noncomputable abbrev zEnd (w : World) (os : OsState) : Option PySem.W.SharedT := HandSHeadRun.endF (HandSHeadRun.stepQ (HandSHeadRun.denQ HandSHeadRun.tabQ) zR.prog w) 20000 zR.prog w os
noncomputable abbrev zK (s : PySem.W.SharedT) : PySem.W.Frag := He.frG (HandSHeadRun.getT s) (He.asD (HandSHeadRun.getT s) 4)
theorem zRun1 (w : World) (os : OsState) : (zEnd w os).map (fun s => (HandSHeadRun.looksF zR.prog (boot_heap w.params) s.abs, HandSHeadRun.seenQ (PySem.W.view zR.prog [80]) zLoose (importedModules zR.prog.main.body) (fun s => PySem.W.xlAt (PySem.W.view zR.prog [80]) [] s && PySem.W.recOk zR.toRowW.records s) s.abs)) = some (true, PySem.W.openGood (PySem.W.view zR.prog [80]) zLoose) := by
  kernel_rfl
theorem zRun2 (w : World) (os : OsState) : (zEnd w os).map (fun s => zMore (zK s)) = some true := by
  kernel_rfl
theorem zRun6 (w : World) (os : OsState) : (zEnd w os).map (fun s => zFa1.all fun f => f.ok (zK s)) = some true := by
  kernel_rfl
theorem zRun7 (w : World) (os : OsState) : (zEnd w os).map (fun s => zFa2.all fun f => f.ok (zK s)) = some true := by
  kernel_rfl
theorem zRun3 (w : World) (os : OsState) : (zEnd w os).map (fun s => (zFn1 ++ zFn2).map fun d => He.fnW (zK s) d.at_) = some ((zFn1 ++ zFn2).map He.DefD.val) := by
  kernel_rfl
theorem zRun4 (w : World) (os : OsState) : (zEnd w os).map (fun s => zFn1.all fun d => d.ok (zK s)) = some true := by
  kernel_rfl
theorem zRun5 (w : World) (os : OsState) : (zEnd w os).map (fun s => zFn2.all fun d => d.ok (zK s)) = some true := by
  kernel_rfl
theorem zRun (w : World) : HandSHeadRun.RunEq zR (PySem.W.view zR.prog [80]) zHook zOb 20000 zLoose w := fun os =>
  zJoin (K := zK) (zRun1 w os) (zRun2 w os) (zRun6 w os) (zRun7 w os) (zRun3 w os) (zRun4 w os) (zRun5 w os)
end K11
set_option maxRecDepth 100000
set_option maxHeartbeats 4000000
namespace Den
open PySem L2
inductive D where
  | non
  | bl (b : Bool)
  | int (i : Int)
  | str (x : Str)
  | ty (n : String)
  | cl (i : Nat)
  | fn (i : Nat)
  | lst (xs : List D)
  | ro (xs : List D)
  | tup (xs : List D)
  | dic (ks : List Key) (xs : List D)
  | dct (ks : List (List Key)) (xs : List D)
  | ins (c : Nat) (xs : List D)
  | exc (c : Nat) (xs : List D)
  | err (c : Nat) (xs : List D)
  | box (k : Nat)
inductive Cell where
  | lst (xs : List D)
  | ins (c : Nat) (xs : List D)
  | dic (ks : List Key) (xs : List D)
  | set (ks : List (List Key))
  | dicT (kvs : List (List Key × D))
  | dead
def Cell.live : Cell → Bool
  | .dead => false
  | _ => true
abbrev Store := List Cell
structure Txt where
  K : PySem.W.Frag
  ca : Nat → Addr
  fa : Nat → Addr
  fl : Nat → List Str
  /-- what a set of tuples is, by its rows -/
  so : Addr → List (Addr × List Key) → Heap → Prop
  /-- what a dict keyed by tuples is, by its keys and values -/
  dto : Addr → List (List Key × Addr × V) → Heap → Prop
structure Io where
  ad : List Addr
  hd : List Addr
def Io.add (ι : Io) (p : Addr) : Io := ⟨ι.ad ++ [p], ι.hd⟩
theorem Io.add_at (ι : Io) (p : Addr) : (ι.add p).ad[ι.ad.length]? = some p := by
  unfold Io.add
  simp
abbrev XT := List (Addr × Nat × Option Addr)
def SqN (K : PySem.W.Frag) (G : Hp) (a : Addr) (xs : List V) : Prop := (∃ o, G a = some (.frz o (.tup xs)) ∧ o.dict = none) ∨
  ∃ (o : Obj) (its : Array Value) (n : Nat), K.lookup a = some o ∧ (o.cls = .type "tuple" ∧ o.dict = none) ∧ o.data = .seq its n ∧ its.size ≤ sizeLine ∧ Vals xs its.toList
theorem SqN.t {K : PySem.W.Frag} {G : Hp} {a : Addr} {xs : List V} (h : SqN K G a xs) : SqT K G a xs := by
  rcases h with ⟨o, h, _⟩ | ⟨o, its, n, h1, ⟨h2, _⟩, h3, h4, h5⟩
  · exact .inl (.inr ⟨o, h⟩)
  · exact .inr ⟨o, its, n, h1, h2, h3, h4, h5⟩
mutual
inductive Rep (T : Txt) (xp : XT) (G : Hp) (ι : Io) : V → D → Prop
  | non : Rep T xp G ι .non .non
  | bl (b : Bool) : Rep T xp G ι (.bl b) (.bl b)
  | int (i : Int) : Rep T xp G ι (.int i) (.int i)
  | str (x : Str) : Rep T xp G ι (.str x) (.str x)
  | ty (n : String) : Rep T xp G ι (.ty n) (.ty n)
  | cl (i : Nat) : Rep T xp G ι (.ref (T.ca i)) (.cl i)
  | fn (i : Nat) : Rep T xp G ι (.ref (T.fa i)) (.fn i)
  | lst {a : Addr} {xs : List V} {ds : List D} : G a = some (.lst xs) → RepL T xp G ι xs ds → Rep T xp G ι (.ref a) (.lst ds)
  | ro {a : Addr} {xs : List V} {ds : List D} : SqL T.K G a xs → RepL T xp G ι xs ds → Rep T xp G ι (.ref a) (.ro ds)
  | tup {a : Addr} {xs : List V} {ds : List D} : SqN T.K G a xs → RepL T xp G ι xs ds → Rep T xp G ι (.ref a) (.tup ds)
  | dic {a : Addr} {o : Obj} {ks : List Key} {xs : List V} {ds : List D} : G a = some (.frz o (.dK (ks.zip xs))) → ks.length = xs.length → RepL T xp G ι xs ds → Rep T xp G ι (.ref a) (.dic ks ds)
  | dct {a : Addr} {o : Obj} {R : List (List Key × Addr × V)} {ks : List (List Key)} {ds : List D} : G a = some (.frz o (.ext (T.dto a R))) → R.map (·.1) = ks → (∀ p ∈ R, SqN T.K G p.2.1 (p.1.map kV)) → RepL T xp G ι (R.map (·.2.2)) ds → Rep T xp G ι (.ref a) (.dct ks ds)
  | ins {a dx : Addr} {c : Nat} {xs : List V} {ds : List D} : G a = some (.ins (T.ca c) dx ((T.fl c).zip xs)) → xs.length ≤ (T.fl c).length → RepL T xp G ι xs ds → Rep T xp G ι (.ref a) (.ins c ds)
  | exc {a : Addr} {c : Nat} {ds : List D} : (a, c, none) ∈ xp → ds = [] → Rep T xp G ι (.ref a) (.exc c ds)
  | excd {a d : Addr} {c : Nat} {xs : List V} {ds : List D} : (a, c, some d) ∈ xp → G d = some (.xd ((T.fl c).zip xs)) → xs.length ≤ (T.fl c).length → RepL T xp G ι xs ds → ds ≠ [] → Rep T xp G ι (.ref a) (.exc c ds)
  | err {a : Addr} {c : Nat} {ds : List D} : G a = some (exo a (T.ca c) none) → ds = [] → Rep T xp G ι (.ref a) (.err c ds)
  | errd {a d : Addr} {c : Nat} {fs : List (Str × V)} {xs : List V} {ds : List D} : G a = some (exo a (T.ca c) (some d)) → G d = some (exd d fs) → (∀ (i : Nat) (f : Str), (T.fl c)[i]? = some f → fs.lookup f = xs[i]?) → RepL T xp G ι xs ds → Rep T xp G ι (.ref a) (.err c ds)
  | box {k : Nat} {a : Addr} : ι.ad[k]? = some a → Rep T xp G ι (.ref a) (.box k)
inductive RepL (T : Txt) (xp : XT) (G : Hp) (ι : Io) : List V → List D → Prop
  | nil : RepL T xp G ι [] []
  | cons {v : V} {vs : List V} {d : D} {ds : List D} : Rep T xp G ι v d → RepL T xp G ι vs ds → RepL T xp G ι (v :: vs) (d :: ds)
end
def Le (G G' : Hp) : Prop := ∀ a o, G a = some o → G' a = some o
structure Pre (ι ι' : Io) : Prop where
  ad : ∀ (k : Nat) (a : Addr), ι.ad[k]? = some a → ι'.ad[k]? = some a
  hd : ι'.hd = ι.hd
theorem Le.refl (G : Hp) : Le G G := fun _ _ h => h
theorem Le.trans {A B C : Hp} (h : Le A B) (g : Le B C) : Le A C := fun a o e => g a o (h a o e)
theorem Pre.refl (ι : Io) : Pre ι ι := ⟨fun _ _ h => h, rfl⟩
theorem Pre.trans {a b c : Io} (h : Pre a b) (g : Pre b c) : Pre a c := ⟨fun k x e => g.ad k x (h.ad k x e), g.hd.trans h.hd⟩
theorem le_rd {G G' : Hp} (e : Le G G') {a : Addr} {u : HO} (h : Rd G a u) : Rd G' a u := by
  rcases h with h | ⟨o, h⟩
  · exact .inl (e _ _ h)
  · exact .inr ⟨o, e _ _ h⟩
theorem le_l {K : PySem.W.Frag} {G G' : Hp} (e : Le G G') {a : Addr} {xs : List V} (h : SqL K G a xs) : SqL K G' a xs := h.elim (fun x => .inl (le_rd e x)) .inr
theorem le_n {K : PySem.W.Frag} {G G' : Hp} (e : Le G G') {a : Addr} {xs : List V} (h : SqN K G a xs) : SqN K G' a xs := h.elim (fun ⟨o, x, y⟩ => .inl ⟨o, e _ _ x, y⟩) .inr
theorem le_t {K : PySem.W.Frag} {G G' : Hp} (e : Le G G') {a : Addr} {xs : List V} (h : SqT K G a xs) : SqT K G' a xs := h.elim (fun x => .inl (le_rd e x)) .inr
section
variable {T : Txt} {xp : XT} {G G' : Hp} {ι ι' : Io}
mutual
theorem Rep.monoA (e : Le G G') (p : ∀ (k : Nat) (a : Addr), ι.ad[k]? = some a → ι'.ad[k]? = some a) : ∀ {v : V} {d : D}, Rep T xp G ι v d → Rep T xp G' ι' v d
  | _, _, .non => .non
  | _, _, .bl b => .bl b
  | _, _, .int i => .int i
  | _, _, .str x => .str x
  | _, _, .ty n => .ty n
  | _, _, .cl i => .cl i
  | _, _, .fn i => .fn i
  | _, _, .lst h r => .lst (e _ _ h) (RepL.monoA e p r)
  | _, _, .ro h r => .ro (le_l e h) (RepL.monoA e p r)
  | _, _, .tup h r => .tup (le_n e h) (RepL.monoA e p r)
  | _, _, .dic h l r => .dic (e _ _ h) l (RepL.monoA e p r)
  | _, _, .dct h k t r => .dct (e _ _ h) k (fun q hq => le_n e (t q hq)) (RepL.monoA e p r)
  | _, _, .ins h l r => .ins (e _ _ h) l (RepL.monoA e p r)
  | _, _, .exc h l => .exc h l
  | _, _, .excd h g l r n => .excd h (e _ _ g) l (RepL.monoA e p r) n
  | _, _, .err h l => .err (e _ _ h) l
  | _, _, .errd h g k r => .errd (e _ _ h) (e _ _ g) k (RepL.monoA e p r)
  | _, _, .box h => .box (p _ _ h)
theorem RepL.monoA (e : Le G G') (p : ∀ (k : Nat) (a : Addr), ι.ad[k]? = some a → ι'.ad[k]? = some a) : ∀ {v : List V} {d : List D}, RepL T xp G ι v d → RepL T xp G' ι' v d
  | _, _, .nil => .nil
  | _, _, .cons h r => .cons (Rep.monoA e p h) (RepL.monoA e p r)
end
theorem Rep.mono (e : Le G G') (p : Pre ι ι') {v : V} {d : D} (h : Rep T xp G ι v d) : Rep T xp G' ι' v d := h.monoA e p.ad
theorem RepL.mono (e : Le G G') (p : Pre ι ι') {v : List V} {d : List D} (h : RepL T xp G ι v d) : RepL T xp G' ι' v d := h.monoA e p.ad
theorem Rep.re (p : ι'.ad = ι.ad) {v : V} {d : D} (h : Rep T xp G ι v d) : Rep T xp G ι' v d := h.monoA (Le.refl _) fun k a e => by rw [p]; exact e
theorem RepL.re (p : ι'.ad = ι.ad) {v : List V} {d : List D} (h : RepL T xp G ι v d) : RepL T xp G ι' v d := h.monoA (Le.refl _) fun k a e => by rw [p]; exact e
theorem RepL.length : ∀ {v : List V} {d : List D}, RepL T xp G ι v d → v.length = d.length
  | _, _, .nil => rfl
  | _, _, .cons _ r => congrArg Nat.succ r.length
theorem RepL.append : ∀ {v w : List V} {d e : List D}, RepL T xp G ι v d → RepL T xp G ι w e → RepL T xp G ι (v ++ w) (d ++ e)
  | _, _, _, _, .nil, q => q
  | _, _, _, _, .cons h r, q => .cons h (r.append q)
theorem RepL.get : ∀ {v : List V} {d : List D} {i : Nat} {x : D}, RepL T xp G ι v d → d[i]? = some x → ∃ u, v[i]? = some u ∧ Rep T xp G ι u x
  | _, _, _, _, .nil, e => by simp at e
  | _, _, 0, _, .cons h _, e => by simp at e; exact ⟨_, by simp, e ▸ h⟩
  | _, _, i + 1, _, .cons _ r, e => by
    obtain ⟨u, h1, h2⟩ := r.get (i := i) (by simpa using e)
    exact ⟨u, by simpa using h1, h2⟩
theorem RepL.getV : ∀ {v : List V} {d : List D} {i : Nat} {u : V}, RepL T xp G ι v d → v[i]? = some u → ∃ x, d[i]? = some x ∧ Rep T xp G ι u x
  | _, _, _, _, .nil, e => by simp at e
  | _, _, 0, _, .cons h _, e => by simp at e; exact ⟨_, by simp, e ▸ h⟩
  | _, _, i + 1, _, .cons _ r, e => by
    obtain ⟨u, h1, h2⟩ := r.getV (i := i) (by simpa using e)
    exact ⟨u, by simpa using h1, h2⟩
theorem RepL.set : ∀ {v : List V} {d : List D} (i : Nat) {u : V} {x : D}, RepL T xp G ι v d → Rep T xp G ι u x → RepL T xp G ι (v.set i u) (d.set i x)
  | _, _, _, _, _, .nil, _ => .nil
  | _, _, 0, _, _, .cons _ r, q => .cons q r
  | _, _, i + 1, _, _, .cons h r, q => .cons h (r.set i q)
theorem RepL.take : ∀ {v : List V} {d : List D} (n : Nat), RepL T xp G ι v d → RepL T xp G ι (v.take n) (d.take n)
  | _, _, 0, _ => .nil
  | _, _, _ + 1, .nil => .nil
  | _, _, n + 1, .cons h r => .cons h (r.take n)
theorem RepL.drop : ∀ {v : List V} {d : List D} (n : Nat), RepL T xp G ι v d → RepL T xp G ι (v.drop n) (d.drop n)
  | _, _, 0, q => q
  | _, _, _ + 1, .nil => .nil
  | _, _, n + 1, .cons _ r => r.drop n
theorem RepL.reverse : ∀ {v : List V} {d : List D}, RepL T xp G ι v d → RepL T xp G ι v.reverse d.reverse
  | _, _, .nil => .nil
  | _, _, .cons h r => by
    rw [List.reverse_cons, List.reverse_cons]
    exact r.reverse.append (.cons h .nil)
theorem RepL.dropLast {v : List V} {d : List D} (h : RepL T xp G ι v d) : RepL T xp G ι v.dropLast d.dropLast := by
  rw [List.dropLast_eq_take, List.dropLast_eq_take, h.length]
  exact h.take _
end
def liveB (ι : Io) (st : Store) (a : Addr) : Bool := (ι.ad.zip st).any fun p => decide (p.1 = a) && p.2.live
def hidden (ι : Io) (st : Store) (a : Addr) : Bool := liveB ι st a || decide (a ∈ ι.hd)
def hide (ι : Io) (st : Store) (H : Hp) : Hp := fun a => if hidden ι st a = true then none else H a
theorem hide_sub {ι : Io} {st : Store} {H : Hp} {a : Addr} {o : HO} (h : hide ι st H a = some o) : H a = some o := by
  unfold hide at h
  split at h
  · cases h
  · exact h
def CellR (T : Txt) (xp : XT) (G : Hp) (ι : Io) (H : Hp) (a : Addr) : Cell → Prop
  | .lst ds => ∃ xs, H a = some (.lst xs) ∧ RepL T xp G ι xs ds
  | .ins c ds => ∃ dx xs, H a = some (.ins (T.ca c) dx ((T.fl c).zip xs)) ∧ xs.length ≤ (T.fl c).length ∧ RepL T xp G ι xs ds
  | .dic ks ds => ∃ xs, H a = some (.dK (ks.zip xs)) ∧ ks.length = xs.length ∧ RepL T xp G ι xs ds
  | .set ks => ∃ L, H a = some (.ext (T.so a L)) ∧ (L.map (·.2)).Perm ks ∧ ∀ p ∈ L, SqT T.K G p.1 (p.2.map kV)
  | .dicT kvs => ∃ R, H a = some (.ext (T.dto a R)) ∧ (R.map (·.1) = kvs.map (·.1) ∧ ∀ p ∈ R, SqN T.K G p.2.1 (p.1.map kV)) ∧ RepL T xp G ι (R.map (·.2.2)) (kvs.map (·.2))
  | .dead => True
structure RelSt (T : Txt) (xp : XT) (ι : Io) (st : Store) (H : Hp) : Prop where
  len : ι.ad.length = st.length
  nd : ι.ad.Nodup
  there : ∀ a ∈ ι.ad, ∃ o, H a = some o
  hdn : ∀ a ∈ ι.hd, (∃ o, H a = some o) ∧ a ∉ ι.ad
  ok : ∀ (k : Nat) (a : Addr) (c : Cell), ι.ad[k]? = some a → st[k]? = some c → CellR T xp (hide ι st H) ι H a c
structure Step (ι : Io) (st : Store) (H : Hp) (ι' : Io) (st' : Store) (H' : Hp) : Prop where
  pre : Pre ι ι'
  ex : Le (hide ι st H) (hide ι' st' H')
  hd : ∀ a ∈ ι.hd, H' a = H a
theorem Step.refl (ι : Io) (st : Store) (H : Hp) : Step ι st H ι st H := ⟨Pre.refl _, Le.refl _, fun _ _ => rfl⟩
theorem Step.trans {a b c : Io} {s t u : Store} {H1 H2 H3 : Hp} (h : Step a s H1 b t H2) (g : Step b t H2 c u H3) : Step a s H1 c u H3 := ⟨h.pre.trans g.pre, h.ex.trans g.ex, fun x hx => (g.hd x (by rw [h.pre.hd]; exact hx)).trans (h.hd x hx)⟩
inductive Res (α : Type) where
  | ok (a : α) (st : Store)
  | exc (c : Nat) (xs : List D) (st : Store)
  | bad
def Res.bind {α β : Type} (m : Res α) (k : α → Store → Res β) : Res β := match m with
  | .ok a st => k a st
  | .exc c xs st => .exc c xs st
  | .bad => .bad
@[simp] theorem bind_ok {α β : Type} (a : α) (st : Store) (k : α → Store → Res β) : (Res.ok a st).bind k = k a st := rfl
@[simp] theorem bind_exc {α β : Type} (c : Nat) (xs : List D) (st : Store) (k : α → Store → Res β) : (Res.exc c xs st).bind k = .exc c xs st := rfl
@[simp] theorem bind_bad {α β : Type} (k : α → Store → Res β) : (Res.bad : Res α).bind k = .bad := rfl
def XdR (T : Txt) (xp : XT) (ι : Io) (st : Store) (H : Hp) (dx : Option Addr) (c : Nat) (ds : List D) : Prop :=
  (dx = none ∧ ds = []) ∨ ∃ d xs, dx = some d ∧ H d = some (.xd ((T.fl c).zip xs)) ∧ hide ι st H d = H d ∧ xs.length ≤ (T.fl c).length ∧ RepL T xp (hide ι st H) ι xs ds ∧ ds ≠ []
section
variable (T : Txt) (xp : XT) (W : Value → Option Addr → Hp → Prop) (ι : Io) (st : Store) (H : Hp)
def Post {α β : Type} (R : Hp → Io → β → α → Prop) (Q : β → Hp → Prop) : Res α → Prop
  | .ok d st' => ∀ v ι' H', Step ι st H ι' st' H' → RelSt T xp ι' st' H' → R (hide ι' st' H') ι' v d → Q v H'
  | .exc c ds st' => ∀ ι' H' dx, Step ι st H ι' st' H' → RelSt T xp ι' st' H' → XdR T xp ι' st' H' dx c ds → W (.ref (T.ca c)) dx H'
  | .bad => False
end
section
variable {T : Txt} {xp : XT} {W : Value → Option Addr → Hp → Prop} {ι ι1 : Io} {st st1 : Store} {H H1 : Hp}
theorem Post.step {α β : Type} {R : Hp → Io → β → α → Prop} {Q : β → Hp → Prop} {r : Res α} (h : Post T xp W ι st H R Q r) (s : Step ι st H ι1 st1 H1) : Post T xp W ι1 st1 H1 R Q r := by
  cases r with
  | ok d st' => exact fun v ι' H' s1 => h v ι' H' (s.trans s1)
  | exc c ds st' => exact fun ι' H' dx s1 => h ι' H' dx (s.trans s1)
  | bad => exact h
theorem post_bind {α β γ δ : Type} {m : Res α} {k : α → Store → Res γ} {R : Hp → Io → β → α → Prop} {Q : β → Hp → Prop} {R2 : Hp → Io → δ → γ → Prop} {Q2 : δ → Hp → Prop} (h : Post T xp W ι st H R2 Q2 (m.bind k))
    (hk : ∀ d s1 v ι1 H1, Step ι st H ι1 s1 H1 → RelSt T xp ι1 s1 H1 → R (hide ι1 s1 H1) ι1 v d → Post T xp W ι1 s1 H1 R2 Q2 (k d s1) → Q v H1) : Post T xp W ι st H R Q m := by
  cases m with
  | ok d s1 => exact fun v ι1 H1 s r e => hk d s1 v ι1 H1 s r e (Post.step h s)
  | exc c ds s1 => exact h
  | bad => exact h
end
abbrev Rho := List (Option D)
structure EnvR (T : Txt) (xp : XT) (G : Hp) (ι : Io) (ρ : Rho) (σ : St) : Prop where
  len : ρ.length = σ.length
  at_ : ∀ (i : Nat) (d : D), ρ[i]? = some (some d) → ∃ v, σ[i]? = some (some v) ∧ Rep T xp G ι v d
theorem EnvR.mono {T : Txt} {xp : XT} {G G' : Hp} {ι ι' : Io} {ρ : Rho} {σ : St} (h : EnvR T xp G ι ρ σ) (e : Le G G') (p : Pre ι ι') : EnvR T xp G' ι' ρ σ :=
  ⟨h.len, fun i d q => let ⟨v, a, b⟩ := h.at_ i d q; ⟨v, a, b.mono e p⟩⟩
theorem EnvR.step {T : Txt} {xp : XT} {ι ι' : Io} {st st' : Store} {H H' : Hp} {ρ : Rho} {σ : St} (h : EnvR T xp (hide ι st H) ι ρ σ) (s : Step ι st H ι' st' H') : EnvR T xp (hide ι' st' H') ι' ρ σ := h.mono s.ex s.pre
theorem EnvR.set {T : Txt} {xp : XT} {G : Hp} {ι : Io} {ρ : Rho} {σ : St} (h : EnvR T xp G ι ρ σ) (i : Nat) {v : V} {d : D} (r : Rep T xp G ι v d) : EnvR T xp G ι (ρ.set i (some d)) (σ.set i (some v)) := by
  refine ⟨by simp [h.len], fun j e q => ?_⟩
  rw [List.getElem?_set] at q ⊢
  split at q
  · rename_i hij
    subst hij
    split at q
    · rename_i hl
      cases q
      exact ⟨v, by rw [if_pos rfl, if_pos (by rw [← h.len]; exact hl)], r⟩
    · cases q
  · rename_i hij
    rw [if_neg hij]
    exact h.at_ j e q
abbrev DE := Rho → Store → Res D
abbrev DA := Rho → Store → Res (List D)
abbrev DT := Rho → Store → Res Bool
section
variable (T : Txt) (xp : XT) (W : WX)
def tD (m : DE) : TE := fun σ H Q => ∃ ρ st ι, EnvR T xp (hide ι st H) ι ρ σ ∧ RelSt T xp ι st H ∧ Post T xp (fun c d H => W c d σ H) ι st H (Rep T xp) Q (m ρ st)
def tDA (m : DA) : TA := fun σ H Q => ∃ ρ st ι, EnvR T xp (hide ι st H) ι ρ σ ∧ RelSt T xp ι st H ∧ Post T xp (fun c d H => W c d σ H) ι st H (RepL T xp) Q (m ρ st)
def tDT (m : DT) : TT := fun σ H Q => ∃ ρ st ι, EnvR T xp (hide ι st H) ι ρ σ ∧ RelSt T xp ι st H ∧ Post T xp (fun c d H => W c d σ H) ι st H (fun _ _ (a b : Bool) => a = b) Q (m ρ st)
end
theorem PE.imp {X : Cx} {e : Expr} {t t' : TE} (h : PE X e t) (i : ∀ σ H Q, t' σ H Q → t σ H Q) : PE X e t' := ⟨fun pins s σ H Q I q => h.run pins s σ H Q I (i σ H Q q)⟩
theorem PA.imp {X : Cx} {e : List Expr} {t t' : TA} (h : PA X e t) (i : ∀ σ H Q, t' σ H Q → t σ H Q) : PA X e t' := ⟨fun p pins s σ H Q I q => h.run p pins s σ H Q I (i σ H Q q)⟩
theorem PT.imp {X : Cx} {e : Expr} {t t' : TT} (h : PT X e t) (i : ∀ σ H Q, t' σ H Q → t σ H Q) : PT X e t' := ⟨fun pins s σ H Q I q => h.run pins s σ H Q I (i σ H Q q)⟩
theorem PS.imp {X : Cx} {e : Stmt} {t t' : TS} (h : PS X e t) (i : ∀ D σ H, t' D σ H → t D σ H) : PS X e t' := ⟨fun pins s σ H D I q => h.run pins s σ H D I (i D σ H q)⟩
theorem PSs.imp {X : Cx} {e : List Stmt} {t t' : TS} (h : PSs X e t) (i : ∀ D σ H, t' D σ H → t D σ H) : PSs X e t' := ⟨fun pins s σ H D I q => h.run pins s σ H D I (i D σ H q)⟩
structure Ctx where
  X : Cx
  T : Txt
  xp : XT
  W : WX
  hK : X.K = T.K
abbrev PD (C : Ctx) (e : Expr) (m : DE) : Prop := PE C.X e (tD C.T C.xp C.W m)
abbrev PDA (C : Ctx) (e : List Expr) (m : DA) : Prop := PA C.X e (tDA C.T C.xp C.W m)
abbrev PDT (C : Ctx) (e : Expr) (m : DT) : Prop := PT C.X e (tDT C.T C.xp C.W m)
def dVar (i : Nat) : DE := fun ρ st => match ρ[i]? with
  | some (some d) => .ok d st
  | _ => .bad
def dC (d : D) : DE := fun _ st => .ok d st
section
variable {C : Ctx}
theorem pd_var {i : Nat} {x : Str} {pos : Pos} (hN : C.X.N[i]? = some x) (hv : Vis C.X.env.scope x) (hd : (x == ("__debug__" : Str)) = false := by decide) (hcd : (x == ("__classdict__" : Str)) = false := by decide) : PD C (.Name x pos) (dVar i) := by
  refine PE.imp (pe_var hN hv hd hcd) fun σ H Q ⟨ρ, st, ι, e, r, p⟩ => ?_
  unfold dVar at p
  split at p
  · rename_i d hd
    obtain ⟨v, hv, rv⟩ := e.at_ i d hd
    exact ⟨v, hv, p v ι H (Step.refl _ _ _) r rv⟩
  · exact p.elim
theorem pd_c {e : Expr} {v : V} {d : D} (h : PE C.X e (tC v)) (r : ∀ G ι, Rep C.T C.xp G ι v d) : PD C e (dC d) :=
  PE.imp h fun σ H Q ⟨ρ, st, ι, _, rl, p⟩ => p v ι H (Step.refl _ _ _) rl (r _ _)
theorem pd_int {i j pos} : PD C (.Constant (.int i) j pos) (dC (.int i)) := pd_c pe_int fun _ _ => .int i
theorem pd_bl {b j pos} : PD C (.Constant (.bool b) j pos) (dC (.bl b)) := pd_c pe_bl fun _ _ => .bl b
theorem pd_non {j pos} : PD C (.Constant .none j pos) (dC .non) := pd_c pe_non fun _ _ => .non
theorem pd_str {x j pos} : PD C (.Constant (.str x) j pos) (dC (.str x)) := pd_c pe_str fun _ _ => .str x
def dOp2 (f : D → D → Option D) (a b : DE) : DE := fun ρ st => (a ρ st).bind fun x s1 => (b ρ s1).bind fun y s2 => match f x y with
  | some z => .ok z s2
  | none => .bad
def OpD (C : Ctx) (r : R2) (f : D → D → Option D) : Prop := ∀ ι st H x y dx dy dz (Q : VK), RelSt C.T C.xp ι st H → Rep C.T C.xp (hide ι st H) ι x dx → Rep C.T C.xp (hide ι st H) ι y dy → f dx dy = some dz →
  (∀ v ι' H', Step ι st H ι' st H' → RelSt C.T C.xp ι' st H' → Rep C.T C.xp (hide ι' st H') ι' v dz → Q v H') → r x y H Q
theorem tOp_of {r : R2} {f : D → D → Option D} {ma mb : DE} (hr : OpD C r f) : ∀ σ H Q, tD C.T C.xp C.W (dOp2 f ma mb) σ H Q → tOp r (tD C.T C.xp C.W ma) (tD C.T C.xp C.W mb) σ H Q := fun σ H Q ⟨ρ, st, ι, e, rl, p⟩ => by
  refine ⟨ρ, st, ι, e, rl, post_bind p fun d s1 v ι1 H1 st1 rl1 rv p1 => ?_⟩
  refine ⟨ρ, s1, ι1, e.step st1, rl1, post_bind p1 fun d2 s2 v2 ι2 H2 st2 rl2 rv2 p2 => ?_⟩
  cases hf : f d d2 with
  | none =>
    rw [hf] at p2
    exact p2.elim
  | some z =>
    rw [hf] at p2
    exact hr ι2 s2 H2 v v2 d d2 z Q rl2 (rv.mono st2.ex st2.pre) rv2 hf fun v' ι' H' s' r' e' => p2 v' ι' H' s' r' e'
theorem pd_op {op : Operator} {r : R2} {f : D → D → Option D} {a b : Expr} {ma mb : DE} {pos : Pos} (ho : OpR C.X (binaryOp op) r) (hr : OpD C r f) (ha : PD C a ma) (hb : PD C b mb) : PD C (.BinOp a op b pos) (dOp2 f ma mb) :=
  PE.imp (pe_op ho ha hb) (tOp_of hr)
theorem pd_cmp {op : CmpOp} {r : R2} {f : D → D → Option D} {a b : Expr} {ma mb : DE} {pos : Pos} (ho : OpR C.X (compareOp op) r) (hr : OpD C r f) (ha : PD C a ma) (hb : PD C b mb) (hm : behindInMarks op b = false) : PD C (.Compare a [op] [b] pos) (dOp2 f ma mb) :=
  PE.imp (pe_cmpR ho ha hb hm) (tOp_of hr)
theorem OpR.or {g : Value → Value → Sem Value} {r r' : R2} (h : OpR C.X g r) (h' : OpR C.X g r') : OpR C.X g (fun x y H Q => r x y H Q ∨ r' x y H Q) := by
  intro pins s σ H x y v u Q I rx ry q
  rcases q with q | q
  · exact h pins s σ H x y v u Q I rx ry q
  · exact h' pins s σ H x y v u Q I rx ry q
end
end Den
set_option maxRecDepth 100000
set_option maxHeartbeats 4000000
namespace Den
open PySem L2
section
variable {T : Txt} {xp : XT} {ι : Io} {st : Store} {H : Hp} {p : Addr} {o : HO}
theorem live_mem {a : Addr} (h : liveB ι st a = true) : a ∈ ι.ad := by
  unfold liveB at h
  obtain ⟨q, hq, e⟩ := List.any_eq_true.mp h
  have e1 : q.1 = a := by
    have := (Bool.and_eq_true _ _ ▸ e : _ ∧ _).1
    exact of_decide_eq_true this
  rw [← e1]
  exact (List.of_mem_zip hq).1
theorem live_at {a : Addr} {k : Nat} {c : Cell} (hk : ι.ad[k]? = some a) (hs : st[k]? = some c) (hc : c.live = true) : liveB ι st a = true := by
  unfold liveB
  refine List.any_eq_true.mpr ⟨(a, c), ?_, by simp [hc]⟩
  refine List.mem_of_getElem? (i := k) ?_
  rw [List.getElem?_zip_eq_some]
  exact ⟨hk, hs⟩
theorem live_get {a : Addr} (h : liveB ι st a = true) : ∃ (k : Nat) (c : Cell), ι.ad[k]? = some a ∧ st[k]? = some c ∧ c.live = true := by
  unfold liveB at h
  obtain ⟨q, hq, e⟩ := List.any_eq_true.mp h
  obtain ⟨e1, e2⟩ : decide (q.1 = a) = true ∧ q.2.live = true := by simpa using e
  obtain ⟨k, hk⟩ := List.getElem?_of_mem hq
  rw [List.getElem?_zip_eq_some] at hk
  exact ⟨k, q.2, by rw [hk.1, of_decide_eq_true e1], hk.2, e2⟩
theorem nodup_at {a : Addr} {i j : Nat} (nd : ι.ad.Nodup) (hi : ι.ad[i]? = some a) (hj : ι.ad[j]? = some a) : i = j := by
  obtain ⟨h1, e1⟩ := List.getElem?_eq_some_iff.mp hi
  obtain ⟨h2, e2⟩ := List.getElem?_eq_some_iff.mp hj
  exact (List.getElem_inj nd).mp (e1.trans e2.symm)
theorem CellR.mono {G G' : Hp} {ι' : Io} {H' : Hp} {a : Addr} {c : Cell} (h : CellR T xp G ι H a c) (e : Le G G') (q : Pre ι ι') (hh : H' a = H a) : CellR T xp G' ι' H' a c := by
  cases c with
  | lst ds =>
    obtain ⟨xs, h1, h2⟩ := h
    exact ⟨xs, hh.trans h1, h2.mono e q⟩
  | ins c ds =>
    obtain ⟨dx, xs, h1, h2, h3⟩ := h
    exact ⟨dx, xs, hh.trans h1, h2, h3.mono e q⟩
  | dic ks ds =>
    obtain ⟨xs, h1, h2, h3⟩ := h
    exact ⟨xs, hh.trans h1, h2, h3.mono e q⟩
  | set ks =>
    obtain ⟨L, h1, h2, h3⟩ := h
    exact ⟨L, hh.trans h1, h2, fun p hp => le_t e (h3 p hp)⟩
  | dicT kvs =>
    obtain ⟨R, h1, h2, h3⟩ := h
    exact ⟨R, hh.trans h1, ⟨h2.1, fun p hp => le_n e (h2.2 p hp)⟩, h3.mono e q⟩
  | dead => trivial
theorem RelSt.ne (r : RelSt T xp ι st H) (hp : H p = none) : p ∉ ι.ad := fun h => by
  obtain ⟨o, e⟩ := r.there p h
  rw [hp] at e
  cases e
theorem RelSt.neh (r : RelSt T xp ι st H) (hp : H p = none) : p ∉ ι.hd := fun h => by
  obtain ⟨⟨o, e⟩, _⟩ := r.hdn p h
  rw [hp] at e
  cases e
theorem RelSt.nolive (r : RelSt T xp ι st H) (hp : H p = none) : hidden ι st p = false := by
  unfold hidden
  rw [Bool.or_eq_false_iff]
  exact ⟨Bool.eq_false_iff.mpr fun h => r.ne hp (live_mem h), decide_eq_false (r.neh hp)⟩
theorem hide_no {a : Addr} (h : ¬ hidden ι st a = true) : hide ι st H a = H a := if_neg h
theorem hide_at {a : Addr} {u : HO} (h : hide ι st H a = some u) : ¬ hidden ι st a = true := fun z => by
  unfold hide at h
  rw [if_pos z] at h
  cases h
theorem hide_upd (hp : H p = none) : Le (hide ι st H) (hide ι st (upd H p o)) := fun a u h => by
  have h' := hide_sub h
  have ne : a ≠ p := ne_of_none h' hp
  rw [hide_no (hide_at h), upd_ne ne]
  exact h'
theorem RelSt.new (r : RelSt T xp ι st H) (hp : H p = none) : RelSt T xp ι st (upd H p o) ∧ Step ι st H ι st (upd H p o) ∧ hide ι st (upd H p o) p = some o := by
  have hl : Le (hide ι st H) (hide ι st (upd H p o)) := hide_upd hp
  refine ⟨⟨r.len, r.nd, fun a ha => ?_, fun a ha => ?_, fun k a c hk hc => ?_⟩, ⟨Pre.refl _, hl, fun a ha => upd_ne fun e => r.neh hp (e ▸ ha)⟩, ?_⟩
  · obtain ⟨u, e⟩ := r.there a ha
    exact ⟨u, by rw [upd_ne (ne_of_none e hp)]; exact e⟩
  · obtain ⟨⟨u, e⟩, n⟩ := r.hdn a ha
    exact ⟨⟨u, by rw [upd_ne (ne_of_none e hp)]; exact e⟩, n⟩
  · obtain ⟨u, e⟩ := r.there a (List.mem_of_getElem? hk)
    exact (r.ok k a c hk hc).mono hl (Pre.refl _) (upd_ne (ne_of_none e hp))
  · rw [hide_no (by rw [r.nolive hp]; decide), upd_same]
theorem live_app {a : Addr} {c : Cell} (r : ι.ad.length = st.length) : liveB (ι.add p) (st ++ [c]) a = (liveB ι st a || (decide (p = a) && c.live)) := by
  unfold liveB Io.add
  rw [List.zip_append r, List.any_append]
  simp
theorem RelSt.newMut {c : Cell} (r : RelSt T xp ι st H) (hp : H p = none) (hc : c.live = true) (ho : ∀ ι', Pre ι ι' → CellR T xp (hide ι st H) ι' (upd H p o) p c) :
    RelSt T xp (ι.add p) (st ++ [c]) (upd H p o) ∧ Step ι st H (ι.add p) (st ++ [c]) (upd H p o) := by
  have hpre : Pre ι (ι.add p) := ⟨fun k a e => by
    unfold Io.add
    dsimp only
    rw [List.getElem?_append_left (List.getElem?_eq_some_iff.mp e).1]
    exact e, rfl⟩
  have hl : Le (hide ι st H) (hide (ι.add p) (st ++ [c]) (upd H p o)) := fun a u h => by
    have h' := hide_sub h
    have ne : a ≠ p := ne_of_none h' hp
    have hn := hide_at h
    rw [hide_no, upd_ne ne]
    · exact h'
    · intro z
      apply hn
      unfold hidden at z ⊢
      rw [live_app r.len, decide_eq_false (Ne.symm ne), Bool.false_and, Bool.or_false] at z
      exact z
  refine ⟨⟨by simp [r.len, Io.add], ?_, fun a ha => ?_, fun a ha => ?_, fun k a d hk hd => ?_⟩, ⟨hpre, hl, fun a ha => upd_ne fun e => r.neh hp (e ▸ ha)⟩⟩
  · refine List.nodup_append.mpr ⟨r.nd, by simp, fun a ha b hb e => ?_⟩
    have : b = p := by simpa using hb
    exact r.ne hp (by rw [← this, ← e]; exact ha)
  · by_cases e : a = p
    · exact ⟨o, by rw [e, upd_same]⟩
    · have ha' : a ∈ ι.ad := by
        rcases List.mem_append.mp ha with h | h
        · exact h
        · exact absurd (by simpa using h) e
      obtain ⟨u, q⟩ := r.there a ha'
      exact ⟨u, by rw [upd_ne e]; exact q⟩
  · obtain ⟨⟨u, e⟩, n⟩ := r.hdn a ha
    have ne : a ≠ p := ne_of_none e hp
    refine ⟨⟨u, by rw [upd_ne ne]; exact e⟩, fun z => ?_⟩
    rcases List.mem_append.mp z with h | h
    · exact n h
    · exact ne (by simpa using h)
  · by_cases hlt : k < ι.ad.length
    · have hk' : ι.ad[k]? = some a := by
        unfold Io.add at hk
        dsimp only at hk
        rw [List.getElem?_append_left hlt] at hk
        exact hk
      rw [List.getElem?_append_left (by rw [← r.len]; exact hlt)] at hd
      obtain ⟨u, q⟩ := r.there a (List.mem_of_getElem? hk')
      exact (r.ok k a d hk' hd).mono hl hpre (upd_ne (ne_of_none q hp))
    · unfold Io.add at hk
      dsimp only at hk
      have hk' := (List.getElem?_eq_some_iff.mp hk).1
      rw [List.length_append, List.length_singleton] at hk'
      have ek : k = ι.ad.length := by omega
      rw [ek, List.getElem?_append_right (Nat.le_refl _)] at hk
      rw [ek, r.len, List.getElem?_append_right (Nat.le_refl _)] at hd
      have ea : p = a := by simpa using hk
      have ed : c = d := by simpa using hd
      rw [← ea, ← ed]
      exact (ho _ hpre).mono hl (Pre.refl _) rfl
theorem live_set {k : Nat} {c c' : Cell} {a : Addr} (nd : ι.ad.Nodup) (hs : st[k]? = some c) (hc : c.live = c'.live) : liveB ι (st.set k c') a = liveB ι st a := by
  have key : ∀ (x y : Store) (cx cy : Cell), x[k]? = some cx → y = x.set k cy → cx.live = cy.live → liveB ι x a = true → liveB ι y a = true := by
    intro x y cx cy hx hy hl h
    obtain ⟨j, d, h1, h2, h3⟩ := live_get h
    by_cases e : j = k
    · have : d = cx := by rw [e, hx] at h2; exact (Option.some.inj h2).symm
      refine live_at (k := j) (c := cy) h1 ?_ (by rw [← hl, ← this]; exact h3)
      rw [hy, e, List.getElem?_set_self (List.getElem?_eq_some_iff.mp hx).1]
    · refine live_at (k := j) (c := d) h1 ?_ h3
      rw [hy, List.getElem?_set_ne (Ne.symm e)]
      exact h2
  have lt := (List.getElem?_eq_some_iff.mp hs).1
  rw [Bool.eq_iff_iff]
  constructor
  · refine key (st.set k c') st c' c ?_ ?_ hc.symm
    · rw [List.getElem?_set_self lt]
    · rw [List.set_set]
      obtain ⟨_, e⟩ := List.getElem?_eq_some_iff.mp hs
      rw [← e, List.set_getElem_self]
  · exact key st (st.set k c') c c' hs rfl hc
theorem RelSt.nohd (r : RelSt T xp ι st H) {a : Addr} (h : a ∈ ι.ad) : a ∉ ι.hd := fun z => (r.hdn a z).2 h
theorem RelSt.write {k : Nat} {a : Addr} {c c' : Cell} (r : RelSt T xp ι st H) (hk : ι.ad[k]? = some a) (hs : st[k]? = some c) (hc : c.live = true) (hc' : c'.live = true) (ho : CellR T xp (hide ι st H) ι (upd H a o) a c') :
    RelSt T xp ι (st.set k c') (upd H a o) ∧ Step ι st H ι (st.set k c') (upd H a o) := by
  have ha := List.mem_of_getElem? hk
  have hl : hide ι (st.set k c') (upd H a o) = hide ι st H := by
    funext b
    unfold hide hidden
    rw [live_set r.nd hs (hc.trans hc'.symm)]
    split
    · rfl
    · rename_i hn
      refine upd_ne fun e => hn ?_
      rw [e, live_at hk hs hc]
      rfl
  have lt := (List.getElem?_eq_some_iff.mp hs).1
  refine ⟨⟨by simp [r.len], r.nd, fun b hb => ?_, fun b hb => ?_, fun j b d hj hd => ?_⟩, ⟨Pre.refl _, by rw [hl]; exact Le.refl _, fun b hb => upd_ne fun e => r.nohd ha (e ▸ hb)⟩⟩
  · by_cases e : b = a
    · exact ⟨o, by rw [e, upd_same]⟩
    · obtain ⟨u, q⟩ := r.there b hb
      exact ⟨u, by rw [upd_ne e]; exact q⟩
  · obtain ⟨⟨u, q⟩, n⟩ := r.hdn b hb
    exact ⟨⟨u, by rw [upd_ne fun e => n (by rw [e]; exact ha)]; exact q⟩, n⟩
  · rw [hl]
    by_cases e : j = k
    · subst e
      rw [List.getElem?_set_self lt] at hd
      have eb : a = b := by rw [hk] at hj; exact Option.some.inj hj
      rw [← eb, ← Option.some.inj hd]
      exact ho
    · rw [List.getElem?_set_ne (Ne.symm e)] at hd
      refine (r.ok j b d hj hd).mono (Le.refl _) (Pre.refl _) (upd_ne fun z => e ?_)
      exact nodup_at r.nd (z ▸ hj) hk
theorem RelSt.freeze {k : Nat} {a : Addr} {c : Cell} (r : RelSt T xp ι st H) (hk : ι.ad[k]? = some a) (hs : st[k]? = some c) :
    RelSt T xp ι (st.set k .dead) H ∧ Step ι st H ι (st.set k .dead) H ∧ hide ι (st.set k .dead) H a = H a := by
  have lt := (List.getElem?_eq_some_iff.mp hs).1
  have nl : liveB ι (st.set k .dead) a = false := Bool.eq_false_iff.mpr fun h => by
    obtain ⟨j, d, h1, h2, h3⟩ := live_get h
    have e : j = k := nodup_at r.nd h1 hk
    rw [e, List.getElem?_set_self lt] at h2
    cases h2
    cases h3
  have hl : Le (hide ι st H) (hide ι (st.set k .dead) H) := fun b u h => by
    have hn := hide_at h
    rw [hide_no]
    · exact hide_sub h
    · intro z
      apply hn
      unfold hidden at z ⊢
      rw [Bool.or_eq_true] at z ⊢
      rcases z with z | z
      · obtain ⟨j, d, h1, h2, h3⟩ := live_get z
        by_cases e : j = k
        · rw [e, List.getElem?_set_self lt] at h2
          cases h2
          cases h3
        · rw [List.getElem?_set_ne (Ne.symm e)] at h2
          exact .inl (live_at h1 h2 h3)
      · exact .inr z
  refine ⟨⟨by simp [r.len], r.nd, r.there, r.hdn, fun j b d hj hd => ?_⟩, ⟨Pre.refl _, hl, fun _ _ => rfl⟩, ?_⟩
  · by_cases e : j = k
    · rw [e, List.getElem?_set_self lt] at hd
      cases hd
      trivial
    · rw [List.getElem?_set_ne (Ne.symm e)] at hd
      exact (r.ok j b d hj hd).mono hl (Pre.refl _) rfl
  · refine hide_no ?_
    unfold hidden
    rw [nl, Bool.false_or, decide_eq_true_eq]
    exact r.nohd (List.mem_of_getElem? hk)
theorem RelSt.freezeW {k : Nat} {a : Addr} {c : Cell} {o : HO} (r : RelSt T xp ι st H) (hk : ι.ad[k]? = some a) (hs : st[k]? = some c) (hc : c.live = true) :
    RelSt T xp ι (st.set k .dead) (upd H a o) ∧ Step ι st H ι (st.set k .dead) (upd H a o) ∧ hide ι (st.set k .dead) (upd H a o) a = some o := by
  obtain ⟨r1, s1, e1⟩ := r.freeze hk hs
  have ha : a ∈ ι.ad := List.mem_of_getElem? hk
  have same : ∀ b, b ≠ a → hide ι (st.set k .dead) (upd H a o) b = hide ι (st.set k .dead) H b := fun b hb => by
    unfold hide
    rw [upd_ne hb]
  have vis : ¬ hidden ι (st.set k .dead) a = true := by
    obtain ⟨u, hu⟩ := r.there a ha
    exact hide_at (e1.trans hu)
  have hl : Le (hide ι st H) (hide ι (st.set k .dead) (upd H a o)) := fun b u h => by
    have hb : b ≠ a := fun z => by
      have hn := hide_at h
      apply hn
      unfold hidden
      rw [z, live_at hk hs hc]
      rfl
    rw [same b hb]
    exact s1.ex b u h
  refine ⟨⟨r1.len, r1.nd, fun b hb => ?_, fun b hb => ?_, fun j b d hj hd => ?_⟩, ⟨Pre.refl _, hl, fun b hb => ?_⟩, ?_⟩
  · by_cases e : b = a
    · exact ⟨o, by rw [e, upd_same]⟩
    · obtain ⟨u, hu⟩ := r1.there b hb
      exact ⟨u, by rw [upd_ne e]; exact hu⟩
  · obtain ⟨⟨u, hu⟩, hn⟩ := r1.hdn b hb
    have e : b ≠ a := fun z => hn (z ▸ ha)
    exact ⟨⟨u, by rw [upd_ne e]; exact hu⟩, hn⟩
  · by_cases e : j = k
    · have lt := (List.getElem?_eq_some_iff.mp hs).1
      rw [e, List.getElem?_set_self lt] at hd
      cases hd
      trivial
    · have hb : b ≠ a := fun z => e (nodup_at r.nd (by rw [hj, z]) hk)
      rw [List.getElem?_set_ne (Ne.symm e)] at hd
      exact (r.ok j b d hj hd).mono hl (Pre.refl _) (upd_ne hb)
  · exact upd_ne fun z => r.nohd ha (z ▸ hb)
  · rw [hide_no vis, upd_same]
def Io.under (ι : Io) (p : Addr) : Io := ⟨ι.ad, p :: ι.hd⟩
theorem hide_under (hp : H p = none) : hide (ι.under p) st (upd H p o) = hide ι st H := by
  funext a
  unfold hide hidden
  show (if (liveB ι st a || decide (a ∈ p :: ι.hd)) = true then none else upd H p o a) = _
  by_cases e : a = p
  · subst e
    rw [if_pos (by simp), hp]
    split <;> rfl
  · rw [upd_ne e]
    simp [e]
theorem RelSt.under (r : RelSt T xp ι st H) (hp : H p = none) : RelSt T xp (ι.under p) st (upd H p o) := by
  refine ⟨r.len, r.nd, fun a ha => ?_, fun a ha => ?_, fun k a c hk hc => ?_⟩
  · obtain ⟨u, e⟩ := r.there a ha
    exact ⟨u, by rw [upd_ne (ne_of_none e hp)]; exact e⟩
  · rcases List.mem_cons.mp ha with rfl | ha
    · exact ⟨⟨o, upd_same⟩, r.ne hp⟩
    · obtain ⟨⟨u, e⟩, n⟩ := r.hdn a ha
      exact ⟨⟨u, by rw [upd_ne (ne_of_none e hp)]; exact e⟩, n⟩
  · obtain ⟨u, e⟩ := r.there a (List.mem_of_getElem? hk)
    rw [hide_under hp]
    have := r.ok k a c hk hc
    have hh : upd H p o a = H a := upd_ne (ne_of_none e hp)
    cases c with
    | lst ds =>
      obtain ⟨xs, h1, h2⟩ := this
      exact ⟨xs, hh.trans h1, RepL.re (ι := ι) (ι' := ι.under p) rfl h2⟩
    | ins c ds =>
      obtain ⟨dx, xs, h1, h2, h3⟩ := this
      exact ⟨dx, xs, hh.trans h1, h2, RepL.re (ι := ι) (ι' := ι.under p) rfl h3⟩
    | dic ks ds =>
      obtain ⟨xs, h1, h2, h3⟩ := this
      exact ⟨xs, hh.trans h1, h2, RepL.re (ι := ι) (ι' := ι.under p) rfl h3⟩
    | set ks =>
      obtain ⟨L, h1, h2, h3⟩ := this
      exact ⟨L, hh.trans h1, h2, h3⟩
    | dicT kvs =>
      obtain ⟨R, h1, h2, h3⟩ := this
      exact ⟨R, hh.trans h1, h2, RepL.re (ι := ι) (ι' := ι.under p) rfl h3⟩
    | dead => trivial
end
def dNil : DA := fun _ st => .ok [] st
def dCons (a : DE) (r : DA) : DA := fun ρ st => (a ρ st).bind fun x s1 => (r ρ s1).bind fun xs s2 => .ok (x :: xs) s2
def dTup (a : DA) : DE := fun ρ st => (a ρ st).bind fun xs s1 => if xs.length ≤ 100000 then .ok (.tup xs) s1 else .bad
def dLst (a : DA) : DE := fun ρ st => (a ρ st).bind fun xs s1 => if xs.length ≤ 100000 then .ok (.lst xs) s1 else .bad
def dNew (a : DA) : DE := fun ρ st => (a ρ st).bind fun xs s1 => if xs.length ≤ 100000 then .ok (.box s1.length) (s1 ++ [.lst xs]) else .bad
theorem line_ok {n : Nat} (h : n ≤ 100000) : n ≤ sizeLine := Nat.le_trans h (by decide)
theorem line_lt {n : Nat} (h : n < 100000) : n < sizeLine := Nat.lt_of_lt_of_le h (by decide)
section
variable {C : Ctx}
theorem pda_nil : PDA C [] dNil := PA.imp pa_nil fun σ H Q ⟨ρ, st, ι, _, rl, p⟩ => p [] ι H (Step.refl _ _ _) rl .nil
theorem pda_cons {e : Expr} {es : List Expr} {m : DE} {r : DA} (he : PD C e m) (hr : PDA C es r) (hs : starEach (e :: es) C.X.env = (false, eval e C.X.env) :: starEach es C.X.env := by rfl) : PDA C (e :: es) (dCons m r) :=
  PA.imp (pa_cons he hr hs) fun σ H Q ⟨ρ, st, ι, e, rl, p⟩ => by
    refine ⟨ρ, st, ι, e, rl, post_bind p fun d s1 v ι1 H1 st1 rl1 rv p1 => ?_⟩
    refine ⟨ρ, s1, ι1, e.step st1, rl1, post_bind p1 fun ds s2 vs ι2 H2 st2 rl2 rv2 p2 => ?_⟩
    exact p2 (v :: vs) ι2 H2 (Step.refl _ _ _) rl2 (.cons (rv.mono st2.ex st2.pre) rv2)
theorem tup_known {P : Program} {w : World} {H : Hp} {h : Heap} {xs : List V} {us : List Value} (z : xs.length ≤ sizeLine) (r : Vals xs us) : ObjOk P w H (h.push { cls := .type "tuple", data := .seq us.toArray }) h.objs.size (.frz { cls := .type "tuple", data := .seq us.toArray } (.tup xs)) :=
  ⟨Heap.get?_push_size _ rfl, z, us, r, PyProof.Rows.IsTup.new _ _⟩
def tTupN (t : TA) : TE := fun σ H Q => t σ H fun xs H1 => xs.length ≤ sizeLine ∧ ∀ p o, o.dict = none → H1 p = none → Q (.ref p) (upd H1 p (.frz o (.tup xs)))
theorem pe_tupN {X : Cx} {es : List Expr} {t : TA} {x1 pos} (h : PA X es t) : PE X (.Tuple es x1 pos) (tTupN t) := ⟨fun pins s σ H Q I hq => wpAny_Tuple_spliced (thn (h.run pos pins s σ H _ I hq) fun us s1 ⟨xs, H1, I1, r, z, q⟩ =>
  ⟨by rw [← r.length]; exact z, .ref s1.heap.objs.size, _, I1.laid (t' := s1.toks) (fun b u e => Heap.get?_push_of_some _ e) (Nat.le_refl _) (tup_known z r), rfl, q _ _ rfl (I1.hok.fresh (Nat.le_refl _))⟩)⟩
theorem pd_tup {es : List Expr} {m : DA} {x1 pos} (h : PDA C es m) : PD C (.Tuple es x1 pos) (dTup m) :=
  PE.imp (pe_tupN h) fun σ H Q ⟨ρ, st, ι, e, rl, p⟩ => by
    refine ⟨ρ, st, ι, e, rl, post_bind p fun ds s1 vs ι1 H1 st1 rl1 rv p1 => ?_⟩
    split at p1
    · rename_i hl
      refine ⟨line_ok (by rw [rv.length]; exact hl), fun a o ho ha => ?_⟩
      obtain ⟨r1, s1', h1⟩ := rl1.new (o := .frz o (.tup vs)) ha
      exact p1 _ ι1 _ s1' r1 (.tup (.inl ⟨o, h1, ho⟩) (rv.mono s1'.ex s1'.pre))
    · exact p1.elim
theorem pd_lst {es : List Expr} {m : DA} {pos} (h : PDA C es m) : PD C (.List es pos) (dLst m) :=
  PE.imp (pe_lst h) fun σ H Q ⟨ρ, st, ι, e, rl, p⟩ => by
    refine ⟨ρ, st, ι, e, rl, post_bind p fun ds s1 vs ι1 H1 st1 rl1 rv p1 => ?_⟩
    split at p1
    · rename_i hl
      refine ⟨line_ok (by rw [rv.length]; exact hl), fun a ha => ?_⟩
      obtain ⟨r1, s1', h1⟩ := rl1.new (o := .lst vs) ha
      exact p1 _ ι1 _ s1' r1 (.lst h1 (rv.mono s1'.ex s1'.pre))
    · exact p1.elim
theorem pd_new {es : List Expr} {m : DA} {pos} (h : PDA C es m) : PD C (.List es pos) (dNew m) :=
  PE.imp (pe_lst h) fun σ H Q ⟨ρ, st, ι, e, rl, p⟩ => by
    refine ⟨ρ, st, ι, e, rl, post_bind p fun ds s1 vs ι1 H1 st1 rl1 rv p1 => ?_⟩
    split at p1
    · rename_i hl
      refine ⟨line_ok (by rw [rv.length]; exact hl), fun a ha => ?_⟩
      obtain ⟨r1, s1'⟩ := rl1.newMut (o := .lst vs) (c := .lst ds) ha rfl fun ι' hp => ⟨vs, upd_same, rv.mono (Le.refl _) hp⟩
      refine p1 _ _ _ s1' r1 (.box ?_)
      rw [← rl1.len]
      exact Io.add_at _ _
    · exact p1.elim
end
end Den
set_option maxRecDepth 100000
set_option maxHeartbeats 4000000
namespace Den
open PySem PySem.Spec PyProof.Rows L2
structure RoomG (k : Nat) (A : Around) : Prop where
  room : Room k A
  gd : A.guards = some []
theorem RoomG.mono {j k : Nat} {A : Around} (r : RoomG k A) (h : j ≤ k) : RoomG j A := ⟨r.room.mono h, r.gd⟩
theorem RoomG.deeper {k : Nat} {A : Around} (r : RoomG (k + 1) A) (env : Env) : RoomG k (A.deeper env) := ⟨r.room.deeper env, r.gd⟩
theorem make_guards {A : Around} {C : Addr} {us : List Value} {kw : List (Str × Value)} : (A.under (.builtin "type.__call__" ⟨.ref C :: us, kw⟩)).guards = A.guards := by
  have h : (Code.builtin "type.__call__" ⟨.ref C :: us, kw⟩).guards = [] := by
    unfold Code.guards
    rw [if_neg]
    simp [Code.isGuard, guardIds]
  show pushGuards (Code.guards (.builtin "type.__call__" ⟨.ref C :: us, kw⟩)) A.guards = A.guards
  rw [h]
  cases A.guards <;> rfl
theorem RoomG.make {k : Nat} {A : Around} (r : RoomG (k + 1) A) (C : Addr) (us : List Value) (kw : List (Str × Value)) : RoomG k (A.under (.builtin "type.__call__" ⟨.ref C :: us, kw⟩)) := ⟨r.room.make C us kw, make_guards.trans r.gd⟩
structure FnG (P : Program) (w : World) (K : PySem.W.Frag) (mg : Str → Option Value) (base : Heap) (k : Nat) (f : Addr) (fd : FuncData) (ps : List Str) (sp : Sp) : Prop where
  len : ∀ vs H Q E, sp vs H Q E → vs.length = ps.length
  run : ∀ (A : Around) (outer : List Env) (s : Shared) (H : Hp) (args : Args) (us : List Value) (vs : List V) (Q : VK) (E : XK), RoomG k A → Env0 P w K mg base A outer s H → BindsTo s fd args (ps.zip us) →
    Vals vs us → sp vs H Q E → codeAny (model P w) A (.call (.ref f) args) (CR (L2N.CX P w) outer P w H s Q E) s
theorem FnG.mono {P : Program} {w : World} {K : PySem.W.Frag} {mg : Str → Option Value} {base : Heap} {j k : Nat} {f : Addr} {fd : FuncData} {ps : List Str} {sp : Sp} (F : FnG P w K mg base j f fd ps sp) (h : j ≤ k) : FnG P w K mg base k f fd ps sp :=
  ⟨F.len, fun A outer s H args us vs Q E hr => F.run A outer s H args us vs Q E (hr.mono h)⟩
section
variable {X : Cx} {k : Nat} {f C : Addr} {fd : FuncData} {ps : List Str} {sp : Sp} {pins : List (Addr × Obj)} {σ : L2.St} {H : Hp} {s : Shared} {Q : VK} {E : XK} {W : WX}
def Ended (X : Cx) (pins : List (Addr × Obj)) (σ : L2.St) (Q : VK) (r : Result) (s' : Shared) : Prop := match r with
  | .ok (.ret u) => EP X pins σ Q u s'
  | .ok _ => False
  | .error e => X.xe e s'
theorem ends_of {r : Result} {s' : Shared} (I : Inv X pins σ H s) (tk : L2N.Takes X W) (hW : ∀ cls d H', E cls d H' → W cls d σ H') (q : CR (L2N.CX X.prog X.w) X.stack X.prog X.w H s Q E r s') :
    Ended X pins σ Q r s' := by
  match r, q with
  | .error e, q => exact tk e s' (L2N.XE.of_call I hW q)
  | .ok (.ret u), q => exact I.after q
  | .ok .next, q => exact q
  | .ok .brk, q => exact q
  | .ok .cont, q => exact q
theorem run_fnG {us us' : List Value} {vs : List V} (F : FnG X.prog X.w X.K X.mg X.base k f fd ps sp) (hr : RoomG k X.A) (tk : L2N.Takes X W) (hW : ∀ cls d H', E cls d H' → W cls d σ H')
    (I : Inv X pins σ H s) (hb : BindsTo s fd ⟨us, []⟩ (ps.zip us')) (r : Vals vs us') (h : sp vs H Q E) : wpAny (model X.prog X.w) X.A (call (.ref f) us) (EP X pins σ Q) X.xe s := by
  have z := F.run X.A X.stack s H ⟨us, []⟩ us' vs Q E hr I.env0 hb r h
  refine wpAny_call (codeAny_mono z fun res s' q => ?_)
  have e : Ended X pins σ Q res s' := ends_of I tk hW q
  clear q
  match res, e with
  | .error e', q' => exact q'
  | .ok (.ret u), q' => exact q'
  | .ok .next, q' => exact False.elim q'
  | .ok .brk, q' => exact False.elim q'
  | .ok .cont, q' => exact False.elim q'
end
section
variable {P : Program} {w : World} {K : PySem.W.Frag} {mg : Str → Option Value} {base : Heap}
theorem fnG_of {x qual : Str} {st : Stmt} {f : Addr} {fd : FuncData} {N ps : List Str} {k : Nat} {sp : Sp} (F : Fun K x qual st f fd) (S : FnScope N ps (defScope st)) (len : ∀ vs H Q E, sp vs H Q E → vs.length = ps.length)
    (hbody : ∀ (cdv : Value) (A : Around) (outer : List Env) (s : Shared) (H : Hp) (vs : List V) (Q : VK) (E : XK), RoomG k (A.deeper (envOfC qual (defScope st) s.heap.objs.size f cdv)) → sp vs H Q E →
      ∃ t, PSs (cxOf (L2N.CX P w) P w K mg base N qual (defScope st) f cdv A outer s H E) (defBody st) t ∧ t { nx := fun _ H' => Q .non H', rt := Q } (start N vs) H) :
    FnG P w K mg base (k + 1) f fd ps sp := by
  obtain ⟨oc, od, kV, doc, pm, an, cdv, ct, osl, efd, lk, hcd⟩ := F.ex
  subst efd
  refine ⟨len, fun A outer s H args us vs Q E hr e0 hb r hsp => ?_⟩
  have hl := len _ _ _ _ hsp
  have kin : K.In s.heap := e0.mod.kin.keeps fun b o q => (e0.bs b o q).1
  have nol : s.heap.NoLimit := e0.mod.nolimit.keeps fun b o q => (e0.bs b o q).1
  refine codeAny_call_function hr.room.depth (kin _ _ lk) rfl S.co S.gen rfl (PySem.W.codeRec_of kin hcd) (hb _ _ _ _ ?_)
  refine wpAny_newFunctionEnv_cells S.kind (fun y hy => ?_) fun env he s1 x => ?_
  · obtain ⟨n, v⟩ := y
    refine (S.par n (List.of_mem_zip hy).1).elim .inl fun q => .inr ⟨q, ?_⟩
    exact PySem.W.cellsFrom_some _ _ _ (.inl q)
  · subst he
    refine ⟨nol.keeps x.toInCall.keep, codeAny_func ?_⟩
    obtain ⟨t, ht, hq⟩ := hbody cdv A outer s H vs Q E (hr.deeper _) hsp
    have I := inv_start (CX := L2N.CX P w) (E := E) S hr.room.hd e0 hl r x
    refine wpAny_mono (ht.run [] s1 (start N vs) H _ I hq) (fun fl s' hs => ?_) fun e s' hs => hs
    match fl, hs with
    | .ret u, ⟨v, σ', H', J, rv, q⟩ => exact ⟨v, H', J.os, J.bare, J.base, J.hok, rv, q⟩
    | .next, ⟨σ', H', J, q⟩ => exact ⟨V.non, H', J.os, J.bare, J.base, J.hok, rfl, q⟩
    | .brk, ⟨_, _, _, q⟩ => exact q.elim
    | .cont, ⟨_, _, _, q⟩ => exact q.elim
end
end Den
set_option maxRecDepth 100000
set_option maxHeartbeats 4000000
namespace Den
open PySem PySem.Spec L2
abbrev DF := List D → Store → Res D
def spM (T : Txt) (n : Nat) (m : DF) : Sp := fun vs H Q E => vs.length = n ∧ ∃ xp ds st ι, RepL T xp (hide ι st H) ι vs ds ∧ RelSt T xp ι st H ∧ Post T xp (fun c d H => E c d H) ι st H (Rep T xp) Q (m ds st)
def Bd (T : Txt) (fd : FuncData) (ps : List Str) (n : Nat) (ks : List Str) (gD : List D → List D → List D) : Prop := ∃ g gV, KBn T.K fd ps n ks g gV ∧
  (∀ vs zs, vs.length = n → zs.length = ks.length → (gV vs zs).length = ps.length) ∧
  ∀ xp G ι vs ds zs es, RepL T xp G ι vs ds → RepL T xp G ι zs es → RepL T xp G ι (gV vs zs) (gD ds es)
def dCall (n m : Nat) (gD : List D → List D → List D) (f : DF) (a k : DA) : DE := fun ρ st => (a ρ st).bind fun ds s1 => (k ρ s1).bind fun es s2 => if ds.length = n ∧ es.length = m then f (gD ds es) s2 else .bad
def dMakeM (c n m : Nat) (gD : List D → List D → List D) (f : DF) (a k : DA) : DE := fun ρ st => (a ρ st).bind fun ds s1 => (k ρ s1).bind fun es s2 => if ds.length = n ∧ es.length = m then
  (f (gD (.box s2.length :: ds) es) (s2 ++ [.ins c []])).bind fun r s3 => match r with
    | .non => .ok (.box s2.length) s3
    | _ => .bad
  else .bad
def frzAt (k : Nat) : Store → Res D := fun st => match st[k]? with
  | some (.ins c xs) => .ok (.ins c xs) (st.set k .dead)
  | some (.lst xs) => .ok (.lst xs) (st.set k .dead)
  | _ => .bad
def dFrz (a : DE) : DE := fun ρ st => (a ρ st).bind fun d s1 => match d with
  | .box k => frzAt k s1
  | _ => .bad
def dMake (c n m : Nat) (gD : List D → List D → List D) (f : DF) (a k : DA) : DE := dFrz (dMakeM c n m gD f a k)
section
variable {C : Ctx}
abbrev PDK (C : Ctx) (kws : List Keyword) (m : DA) : Prop := PK C.X kws (tDA C.T C.xp C.W m)
theorem PK.imp {X : Cx} {e : List Keyword} {t t' : TA} (h : PK X e t) (i : ∀ σ H Q, t' σ H Q → t σ H Q) : PK X e t' := ⟨fun p pins s σ H Q I q => h.run p pins s σ H Q I (i σ H Q q)⟩
theorem pdk_nil : PDK C [] dNil := PK.imp pk_nil fun σ H Q ⟨ρ, st, ι, _, rl, p⟩ => p [] ι H (Step.refl _ _ _) rl .nil
theorem pdk_cons {e : Expr} {es : List Keyword} {nm : Option Str} {kpos : Pos} {m : DE} {r : DA} (he : PD C e m) (hr : PDK C es r) : PDK C (⟨nm, e, kpos⟩ :: es) (dCons m r) :=
  PK.imp (pk_cons he hr) fun σ H Q ⟨ρ, st, ι, e, rl, p⟩ => by
    refine ⟨ρ, st, ι, e, rl, post_bind p fun d s1 v ι1 H1 st1 rl1 rv p1 => ?_⟩
    refine ⟨ρ, s1, ι1, e.step st1, rl1, post_bind p1 fun ds s2 vs ι2 H2 st2 rl2 rv2 p2 => ?_⟩
    exact p2 (v :: vs) ι2 H2 (Step.refl _ _ _) rl2 (.cons (rv.mono st2.ex st2.pre) rv2)
theorem args_call {pos : Pos} {pins : List (Addr × Obj)} {s : Shared} {σ : L2.St} {H : Hp} {fv : Value} {first : List Value} {e : Expr} {es : List Expr} {kws : List Keyword} {ks : List Str} {ma mk : DA} {Q : Value → Shared → Prop} (ha : PDA C (e :: es) ma) (hkw : PDK C kws mk)
    (I : Inv C.X pins σ H s) (hk : PySem.W.keepIn C.X.K fv = true) (h : tDA C.T C.xp C.W ma σ H fun vs H1 => tDA C.T C.xp C.W mk σ H1 fun zs H2 => ∀ us ws s2, Inv C.X pins σ H2 s2 → Vals vs us → Vals zs ws → wpAny (model C.X.prog C.X.w) C.X.A (call fv (first ++ us) (ks.zip ws)) Q C.X.xe s2)
    (hall : (backToKw pos (keywordEach kws C.X.env)).all (·.1.isSome) = true) (hks : (backToKw pos (keywordEach kws C.X.env)).filterMap (·.1) = ks) (he : starEach (e :: es) C.X.env = (false, eval e C.X.env) :: starEach es C.X.env)
    (hpl : ((backTo pos (starEach (e :: es) C.X.env)).any (·.1) || (backToKw pos (keywordEach kws C.X.env)).any (·.1.isNone)) = false) :
    wpAny (model C.X.prog C.X.w) C.X.A (callWith pos fv first (backTo pos (starEach (e :: es) C.X.env)) (backToKw pos (keywordEach kws C.X.env))) Q C.X.xe s := by
  refine PySem.W.callWith_KW (h₀ := C.X.base) I.ok.mod.kin hk hall (thn (ha.run pos pins s σ H _ I h) fun us s1 ⟨vs, H1, I1, r, q⟩ => ?_) hpl he
  refine thn (hkw.run pos pins s1 σ H1 _ I1 q) fun ws s2 ⟨zs, H2, I2, rz, q2⟩ => ⟨I2.kIn, ?_⟩
  rw [hks]
  exact q2 us ws s2 I2 r rz
theorem args_call0 {pos : Pos} {pins : List (Addr × Obj)} {s : Shared} {σ : L2.St} {H : Hp} {fv : Value} {first : List Value} {kws : List Keyword} {ks : List Str} {mk : DA} {Q : Value → Shared → Prop} (hkw : PDK C kws mk)
    (I : Inv C.X pins σ H s) (hk : PySem.W.keepIn C.X.K fv = true) (h : tDA C.T C.xp C.W mk σ H fun zs H2 => ∀ ws s2, Inv C.X pins σ H2 s2 → Vals zs ws → wpAny (model C.X.prog C.X.w) C.X.A (call fv (first ++ []) (ks.zip ws)) Q C.X.xe s2)
    (hall : (backToKw pos (keywordEach kws C.X.env)).all (·.1.isSome) = true) (hks : (backToKw pos (keywordEach kws C.X.env)).filterMap (·.1) = ks)
    (hpl : ((backTo pos (starEach [] C.X.env)).any (·.1) || (backToKw pos (keywordEach kws C.X.env)).any (·.1.isNone)) = false) :
    wpAny (model C.X.prog C.X.w) C.X.A (callWith pos fv first (backTo pos (starEach [] C.X.env)) (backToKw pos (keywordEach kws C.X.env))) Q C.X.xe s := by
  refine PySem.W.callWith_KW0 (h₀ := C.X.base) I.ok.mod.kin hk hall ?_ hpl
  refine thn (hkw.run pos pins s σ H _ I h) fun ws s2 ⟨zs, H2, I2, rz, q2⟩ => ⟨I2.kIn, ?_⟩
  rw [hks]
  exact q2 ws s2 I2 rz
variable {f : Addr} {fd : FuncData} {ps ks : List Str} {k n : Nat} {gD : List D → List D → List D} {m : DF} {x : Str} {p pos : Pos} {e : Expr} {es : List Expr} {kws : List Keyword} {ma mk : DA}
abbrev FnD (C : Ctx) (k : Nat) (f : Addr) (fd : FuncData) (ps : List Str) (m : DF) : Prop := FnG C.X.prog C.X.w C.X.K C.X.mg C.X.base k f fd ps (spM C.T ps.length m)
theorem call_den {pins : List (Addr × Obj)} {s : Shared} {σ : L2.St} {H : Hp} {us ws : List Value} {vs zs : List V} {ds es : List D} {st : Store} {ι : Io} {Q : VK} (F : FnD C k f fd ps m) (hr : RoomG k C.X.A) (tk : L2N.Takes C.X C.W) (hb : Bd C.T fd ps n ks gD)
    (I : Inv C.X pins σ H s) (r : Vals vs us) (rz : Vals zs ws) (l1 : vs.length = n) (l2 : zs.length = ks.length) (rd : RepL C.T C.xp (hide ι st H) ι vs ds) (re : RepL C.T C.xp (hide ι st H) ι zs es) (rl : RelSt C.T C.xp ι st H)
    (h : Post C.T C.xp (fun c d H => C.W c d σ H) ι st H (Rep C.T C.xp) Q (m (gD ds es) st)) : wpAny (model C.X.prog C.X.w) C.X.A (call (.ref f) us (ks.zip ws)) (EP C.X pins σ Q) C.X.xe s := by
  obtain ⟨g, gV, b, bl, bD⟩ := hb
  have z := F.run C.X.A C.X.stack s H ⟨us, ks.zip ws⟩ (g us ws) (gV vs zs) Q (fun c d H' => C.W c d σ H') hr I.env0 (b.to s us ws (by rw [← C.hK]; exact I.kIn) (r.length.symm.trans l1) (rz.length.symm.trans l2)) (b.rel r rz)
    ⟨bl vs zs l1 l2, C.xp, gD ds es, st, ι, bD _ _ _ _ _ _ _ rd re, rl, h⟩
  refine wpAny_call (codeAny_mono z fun res s' q => ?_)
  have e : Ended C.X pins σ Q res s' := ends_of I tk (fun _ _ _ h => h) q
  clear q
  match res, e with
  | .error e', q' => exact q'
  | .ok (.ret u), q' => exact q'
  | .ok .next, q' => exact False.elim q'
  | .ok .brk, q' => exact False.elim q'
  | .ok .cont, q' => exact False.elim q'
theorem pd_call (F : FnD C k f fd ps m) (hr : RoomG k C.X.A) (tk : L2N.Takes C.X C.W) (hb : Bd C.T fd ps n ks gD) (hg : Gl C.X x) (hm : C.X.mg x = some (.ref f)) (hk : PySem.W.keepIn C.X.K (.ref f) = true) (ha : PDA C (e :: es) ma) (hkw : PDK C kws mk)
    (hall : (backToKw pos (keywordEach kws C.X.env)).all (·.1.isSome) = true := by rfl) (hks : (backToKw pos (keywordEach kws C.X.env)).filterMap (·.1) = ks := by rfl) (hdb : (x == ("__debug__" : Str)) = false := by decide)
    (he : starEach (e :: es) C.X.env = (false, eval e C.X.env) :: starEach es C.X.env := by rfl) (hpl : ((backTo pos (starEach (e :: es) C.X.env)).any (·.1) || (backToKw pos (keywordEach kws C.X.env)).any (·.1.isNone)) = false := by rfl) :
    PD C (.Call (.Name x p) (e :: es) kws pos) (dCall n ks.length gD m ma mk) := by
  refine ⟨fun pins s σ H Q I ⟨ρ, st, ι, er, rl, h⟩ => ?_⟩
  refine wpAny_Call_Name_kw (ld_glob I hg hm ?_ hdb)
  refine args_call (ks := ks) ha hkw I hk ⟨ρ, st, ι, er, rl, post_bind h fun ds s1 vs ι1 H1 st1 rl1 rv p1 => ⟨ρ, s1, ι1, er.step st1, rl1, post_bind p1 fun es s2 zs ι2 H2 st2 rl2 rv2 p2 => ?_⟩⟩ hall hks he hpl
  intro us ws s3 I3 r rz
  split at p2
  · rename_i hl
    exact call_den F hr tk hb I3 r rz (rv.length.trans hl.1) (rv2.length.trans hl.2) (rv.mono st2.ex st2.pre) rv2 rl2 p2
  · exact p2.elim
theorem frz_den {xp : XT} {T : Txt} {W : Value → Option Addr → Hp → Prop} {ι : Io} {st : Store} {H : Hp} {i : Nat} {a : Addr} {Q : VK} (rl : RelSt T xp ι st H) (hi : ι.ad[i]? = some a) (h : Post T xp W ι st H (Rep T xp) Q (frzAt i st)) : Q (.ref a) H := by
  unfold frzAt at h
  split at h
  · rename_i c xs hs
    obtain ⟨dx, ys, h1, h2, h3⟩ := rl.ok i a _ hi hs
    obtain ⟨r, s, e⟩ := rl.freeze hi hs
    exact h _ ι H s r (.ins (e.trans h1) h2 (h3.mono s.ex s.pre))
  · rename_i xs hs
    obtain ⟨ys, h1, h3⟩ := rl.ok i a _ hi hs
    obtain ⟨r, s, e⟩ := rl.freeze hi hs
    exact h _ ι H s r (.lst (e.trans h1) (h3.mono s.ex s.pre))
  · exact h.elim
theorem pd_frz {e : Expr} {me : DE} (h : PD C e me) : PD C e (dFrz me) := PE.imp h fun σ H Q ⟨ρ, st, ι, er, rl, p⟩ => by
  refine ⟨ρ, st, ι, er, rl, post_bind p fun d s1 v ι1 H1 st1 rl1 rv p1 => ?_⟩
  cases rv with
  | box hk => exact frz_den rl1 hk p1
  | _ => exact p1.elim
theorem make_den {c : Nat} {pins : List (Addr × Obj)} {s : Shared} {σ : L2.St} {H : Hp} {us ws : List Value} {vs zs : List V} {ds es : List D} {st : Store} {ι : Io} {Q : VK} (M : Mk C.X.K (C.T.ca c) f) (F : FnD C k f fd ps m) (hr : RoomG (k + 1) C.X.A) (tk : L2N.Takes C.X C.W)
    (hb : Bd C.T fd ps (n + 1) ks gD) (I : Inv C.X pins σ H s) (r : Vals vs us) (rz : Vals zs ws) (l1 : vs.length = n) (l2 : zs.length = ks.length) (rd : RepL C.T C.xp (hide ι st H) ι vs ds) (re : RepL C.T C.xp (hide ι st H) ι zs es) (rl : RelSt C.T C.xp ι st H)
    (h : Post C.T C.xp (fun c d H => C.W c d σ H) ι st H (Rep C.T C.xp) Q ((m (gD (.box st.length :: ds) es) (st ++ [.ins c []])).bind fun r s3 => match r with
      | .non => .ok (.box st.length) s3
      | _ => .bad)) : wpAny (model C.X.prog C.X.w) C.X.A (call (.ref (C.T.ca c)) us (ks.zip ws)) (EP C.X pins σ Q) C.X.xe s := by
  obtain ⟨g, gV, b, bl, bD⟩ := hb
  have n0 : H s.heap.objs.size = none := I.hok.fresh (Nat.le_refl _)
  have n1 : H (s.heap.objs.size + 1) = none := I.hok.fresh (Nat.le_succ _)
  have ne : s.heap.objs.size + 1 ≠ s.heap.objs.size := Nat.succ_ne_self _
  obtain ⟨ra, sa, _⟩ := rl.new (o := .own (s.heap.objs.size + 1)) n0
  obtain ⟨rb, sb⟩ := ra.newMut (p := s.heap.objs.size + 1) (o := .ins (C.T.ca c) s.heap.objs.size []) (c := .ins c []) (by rw [upd_ne ne]; exact n1) rfl fun ι' _ => ⟨s.heap.objs.size, [], by rw [upd_same]; simp, Nat.zero_le _, .nil⟩
  have sab := sa.trans sb
  have I2 := Inv.made (C := C.T.ca c) I
  have r1 : Vals (V.ref (s.heap.objs.size + 1) :: vs) (Value.ref (s.heap.objs.size + 1) :: us) := .cons rfl r
  have e1 : (Value.ref (s.heap.objs.size + 1) :: us).length = n + 1 := r1.length.symm.trans (congrArg Nat.succ l1)
  have rself : Rep C.T C.xp (hide (ι.add (s.heap.objs.size + 1)) (st ++ [.ins c []]) (upd (upd H s.heap.objs.size (.own (s.heap.objs.size + 1))) (s.heap.objs.size + 1) (.ins (C.T.ca c) s.heap.objs.size []))) (ι.add (s.heap.objs.size + 1)) (.ref (s.heap.objs.size + 1)) (.box st.length) := by
    refine .box ?_
    rw [← rl.len]
    exact Io.add_at _ _
  have hp := post_bind (R := Rep C.T C.xp) (Q := fun v H2 => v = V.non ∧ Q (.ref (s.heap.objs.size + 1)) H2) (Post.step h sab) fun d s1 v ι1 H1 st1 rl1 rv p1 => by
    cases rv with
    | non =>
      refine ⟨rfl, ?_⟩
      refine p1 _ ι1 H1 (Step.refl _ _ _) rl1 (.box (st1.pre.ad _ _ ?_))
      rw [← rl.len]
      exact Io.add_at _ _
    | _ => exact p1.elim
  have z := F.run _ C.X.stack _ _ ⟨Value.ref (s.heap.objs.size + 1) :: us, ks.zip ws⟩ _ _ _ (fun c d H' => C.W c d σ H') (hr.make (C.T.ca c) us (ks.zip ws)) (I2.env0.make (C.T.ca c) us (ks.zip ws))
    (b.to _ (Value.ref (s.heap.objs.size + 1) :: us) ws (by rw [← C.hK]; exact I2.kIn) e1 (rz.length.symm.trans l2)) (b.rel r1 rz)
    ⟨bl _ _ (congrArg Nat.succ l1) l2, C.xp, _, _, _, bD _ _ _ _ _ _ _ (.cons rself (rd.mono sab.ex sab.pre)) (re.mono sab.ex sab.pre), rb, hp⟩
  refine wpAny_call (make_map (f := f) I.kIn M.makes M.init (beq_iff_eq.mp M.fn) (codeAny_mono z fun res s' q => ?_))
  have e : Ended C.X pins σ (fun v H2 => v = .non ∧ Q (.ref (s.heap.objs.size + 1)) H2) res s' := ends_of I2 tk (fun _ _ _ h => h) q
  clear q
  match res, e with
  | .error e', q' => exact q'
  | .ok (.ret u), ⟨v, H', I3, rv, ev, q3⟩ =>
    subst ev
    exact ⟨rv, ⟨V.ref (s.heap.objs.size + 1), H', I3, rfl, q3⟩⟩
  | .ok .next, q' => exact False.elim q'
  | .ok .brk, q' => exact False.elim q'
  | .ok .cont, q' => exact False.elim q'
theorem pd_makeM {c : Nat} (M : Mk C.X.K (C.T.ca c) f) (F : FnD C k f fd ps m) (hr : RoomG (k + 1) C.X.A) (tk : L2N.Takes C.X C.W) (hb : Bd C.T fd ps (n + 1) ks gD) (hg : Gl C.X x) (hm : C.X.mg x = some (.ref (C.T.ca c))) (ha : PDA C (e :: es) ma) (hkw : PDK C kws mk)
    (hall : (backToKw pos (keywordEach kws C.X.env)).all (·.1.isSome) = true := by rfl) (hks : (backToKw pos (keywordEach kws C.X.env)).filterMap (·.1) = ks := by rfl) (hdb : (x == ("__debug__" : Str)) = false := by decide)
    (he : starEach (e :: es) C.X.env = (false, eval e C.X.env) :: starEach es C.X.env := by rfl) (hpl : ((backTo pos (starEach (e :: es) C.X.env)).any (·.1) || (backToKw pos (keywordEach kws C.X.env)).any (·.1.isNone)) = false := by rfl) :
    PD C (.Call (.Name x p) (e :: es) kws pos) (dMakeM c n ks.length gD m ma mk) := by
  refine ⟨fun pins s σ H Q I ⟨ρ, st, ι, er, rl, h⟩ => ?_⟩
  refine wpAny_Call_Name_kw (ld_glob I hg hm ?_ hdb)
  refine args_call (ks := ks) ha hkw I M.kp ⟨ρ, st, ι, er, rl, post_bind h fun ds s1 vs ι1 H1 st1 rl1 rv p1 => ⟨ρ, s1, ι1, er.step st1, rl1, post_bind p1 fun es s2 zs ι2 H2 st2 rl2 rv2 p2 => ?_⟩⟩ hall hks he hpl
  intro us ws s3 I3 r rz
  split at p2
  · rename_i hl
    exact make_den M F hr tk hb I3 r rz (rv.length.trans hl.1) (rv2.length.trans hl.2) (rv.mono st2.ex st2.pre) rv2 rl2 p2
  · exact p2.elim
def mkBody (c j : Nat) (gD : List D → List D → List D) (m : DF) (es : List D) (s2 : Store) : Res D := if ([] : List D).length = 0 ∧ es.length = j then
    (m (gD (.box s2.length :: []) es) (s2 ++ [.ins c []])).bind fun r s3 => match r with
      | .non => .ok (.box s2.length) s3
      | _ => .bad else .bad
end
end Den
set_option maxRecDepth 100000
set_option maxHeartbeats 4000000
namespace Den
open PySem PySem.Spec L2
theorem lookup_zip {α : Type} {f : Str} : ∀ {ns : List Str} {xs : List α} {i : Nat}, ns.Nodup → ns[i]? = some f → (ns.zip xs).lookup f = xs[i]?
  | [], _, _, _, h => by simp at h
  | _ :: _, [], _, _, _ => by simp
  | n :: ns, x :: xs, 0, _, h => by
    simp at h
    subst h
    simp [List.lookup]
  | n :: ns, x :: xs, i + 1, nd, h => by
    have h' : ns[i]? = some f := by simpa using h
    have ne : (f == n) = false := beq_eq_false_iff_ne.mpr fun e => (List.nodup_cons.mp nd).1 (e ▸ List.mem_of_getElem? h')
    show List.lookup f ((n, x) :: ns.zip xs) = _
    simp only [List.lookup, ne]
    rw [lookup_zip (List.nodup_cons.mp nd).2 h']
    simp
theorem lookup_zip_no {α : Type} {f : Str} : ∀ {ns : List Str} {xs : List α}, f ∉ ns → (ns.zip xs).lookup f = none
  | [], _, _ => by simp
  | _ :: _, [], _ => by simp
  | n :: ns, x :: xs, h => by
    have ne : (f == n) = false := beq_eq_false_iff_ne.mpr fun e => h (e ▸ List.mem_cons_self)
    show List.lookup f ((n, x) :: ns.zip xs) = _
    simp only [List.lookup, ne]
    exact lookup_zip_no fun z => h (List.mem_cons_of_mem _ z)
theorem putF_set {f : Str} {y : V} : ∀ {ns : List Str} {xs : List V} {i : Nat}, ns.Nodup → ns[i]? = some f → i < xs.length → putF f y (ns.zip xs) = ns.zip (xs.set i y)
  | [], _, _, _, h, _ => by simp at h
  | _ :: _, [], _, _, _, h => by simp at h
  | n :: ns, x :: xs, 0, _, h, _ => by
    simp at h
    subst h
    show putF n y ((n, x) :: ns.zip xs) = (n, y) :: ns.zip xs
    unfold putF
    rw [if_pos rfl]
  | n :: ns, x :: xs, i + 1, nd, h, hl => by
    have h' : ns[i]? = some f := by simpa using h
    have ne : n ≠ f := fun e => (List.nodup_cons.mp nd).1 (e ▸ List.mem_of_getElem? h')
    show putF f y ((n, x) :: ns.zip xs) = (n, x) :: ns.zip (xs.set i y)
    unfold putF
    rw [if_neg ne, putF_set (List.nodup_cons.mp nd).2 h' (by simpa using hl)]
theorem putF_new {f : Str} {y : V} : ∀ {ns : List Str} {xs : List V}, ns.Nodup → ns[xs.length]? = some f → putF f y (ns.zip xs) = ns.zip (xs ++ [y])
  | [], _, _, h => by simp at h
  | n :: ns, [], _, h => by
    simp at h
    subst h
    simp [putF]
  | n :: ns, x :: xs, nd, h => by
    have h' : ns[xs.length]? = some f := by simpa using h
    have ne : n ≠ f := fun e => (List.nodup_cons.mp nd).1 (e ▸ List.mem_of_getElem? h')
    show putF f y ((n, x) :: ns.zip xs) = (n, x) :: ns.zip (xs ++ [y])
    unfold putF
    rw [if_neg ne, putF_new (List.nodup_cons.mp nd).2 h']
structure ClsD (T : Txt) (c : Nat) : Prop where
  cl : Cls T.K (T.ca c)
  na : ∀ f ∈ T.fl c, NoAttr T.K (T.ca c) f
  nd : (T.fl c).Nodup
  few : (T.fl c).length < 900
def fieldsOf (c : Nat) (d : D) (st : Store) : Option (List D) := match d with
  | .ins c' xs => if c' = c then some xs else none
  | .box k => match st[k]? with
    | some (.ins c' xs) => if c' = c then some xs else none
    | _ => none
  | _ => none
section
variable {T : Txt} {xp : XT} {ι : Io} {st : Store} {H : Hp} {c : Nat}
theorem inst_of {v : V} {d : D} {ds : List D} (rl : RelSt T xp ι st H) (r : Rep T xp (hide ι st H) ι v d) (h : fieldsOf c d st = some ds) :
    ∃ a dx xs, v = .ref a ∧ H a = some (.ins (T.ca c) dx ((T.fl c).zip xs)) ∧ xs.length ≤ (T.fl c).length ∧ RepL T xp (hide ι st H) ι xs ds := by
  unfold fieldsOf at h
  cases r with
  | ins h1 h2 h3 =>
    dsimp only at h
    split at h
    · rename_i e
      subst e
      cases h
      exact ⟨_, _, _, rfl, hide_sub h1, h2, h3⟩
    · cases h
  | box hk =>
    dsimp only at h
    split at h
    · rename_i c' xs hs
      split at h
      · rename_i e
        subst e
        cases h
        obtain ⟨dx, ys, h1, h2, h3⟩ := rl.ok _ _ _ hk hs
        exact ⟨_, _, _, rfl, h1, h2, h3⟩
      · cases h
    · cases h
  | _ => cases h
end
def dFld (c i : Nat) (o : DE) : DE := fun ρ st => (o ρ st).bind fun d s1 => match (fieldsOf c d s1).bind (·[i]?) with
  | some x => .ok x s1
  | none => .bad
def dMeth (c n m : Nat) (gD : List D → List D → List D) (f : DF) (o : DE) (a k : DA) : DE := fun ρ st => (o ρ st).bind fun d s0 => if (fieldsOf c d s0).isSome = true then
  (a ρ s0).bind fun ds s1 => (k ρ s1).bind fun es s2 => if ds.length = n ∧ es.length = m then f (gD (d :: ds) es) s2 else .bad
  else .bad
section
variable {C : Ctx} {c i n k : Nat} {f : Addr} {fd : FuncData} {ps ks : List Str} {gD : List D → List D → List D} {m : DF} {x : Str} {p pos apos : Pos} {e o : Expr} {es : List Expr} {kws : List Keyword} {ma mk : DA} {mo : DE}
theorem pd_fld {fn : Str} (hc : ClsD C.T c) (hi : (C.T.fl c)[i]? = some fn) (ho : PD C o mo) (hb : attributeBase o fn C.X.env (eval o C.X.env) = eval o C.X.env := by rfl) : PD C (.Attribute o fn pos) (dFld c i mo) :=
  PE.imp (pe_fld ho hb) fun σ H Q ⟨ρ, st, ι, er, rl, p⟩ => by
    refine ⟨ρ, st, ι, er, rl, post_bind p fun d s1 v ι1 H1 st1 rl1 rv p1 => ?_⟩
    cases hf : fieldsOf c d s1 with
    | none =>
      rw [hf] at p1
      exact p1.elim
    | some ds =>
      rw [hf] at p1
      cases hx : ds[i]? with
      | none =>
        simp only [Option.bind_some, hx] at p1
        exact p1.elim
      | some y =>
        simp only [Option.bind_some, hx] at p1
        obtain ⟨a, dx, xs, ev, ha, hl, rx⟩ := inst_of rl1 rv hf
        obtain ⟨u, hu, ru⟩ := rx.get hx
        refine ⟨a, C.T.ca c, dx, _, u, ev, ha, by rw [C.hK]; exact hc.cl, by rw [C.hK]; exact hc.na fn (List.mem_of_getElem? hi), ?_, p1 u ι1 H1 (Step.refl _ _ _) rl1 ru⟩
        rw [lookup_zip hc.nd hi]
        exact hu
theorem meth_first {fn : Str} {pl : Sem Bool} {A : Around} {E : Value → Shared → Prop} {pins : List (Addr × Obj)} {s : Shared} {σ : L2.St} {H : Hp} {v : V} {u : Value} {d : D} {st : Store} {ι : Io} {Q : Value × List Value → Shared → Prop} (I : Inv C.X pins σ H s) (hc : ClsD C.T c) (hm : Meth C.X.K (C.T.ca c) fn f) (hn : fn ∉ C.T.fl c)
    (rl : RelSt C.T C.xp ι st H) (rv : Rep C.T C.xp (hide ι st H) ι v d) (ru : RelV v u) (hf : (fieldsOf c d st).isSome = true) (h : ∀ a, v = .ref a → Q (.ref f, [.ref a]) s) : wpAny (model C.X.prog C.X.w) A (getMethod u fn pl) Q E s := by
  obtain ⟨ds, hds⟩ := Option.isSome_iff_exists.mp hf
  obtain ⟨a, dx, xs, ev, ha, hl, rx⟩ := inst_of rl rv hds
  subst ev
  obtain rfl : u = Value.ref a := ru
  exact getmeth_ok I ha (by rw [C.hK]; exact hc.cl) hm (lookup_zip_no hn) (h a rfl)
theorem pd_meth {fn : Str} {pl : Sem Bool} (hc : ClsD C.T c) (hm : Meth C.X.K (C.T.ca c) fn f) (hn : fn ∉ C.T.fl c) (F : FnD C k f fd ps m) (hr : RoomG k C.X.A) (tk : L2N.Takes C.X C.W) (hb : Bd C.T fd ps (n + 1) ks gD) (ho : PD C o mo) (ha : PDA C (e :: es) ma) (hkw : PDK C kws mk)
    (hall : (backToKw pos (keywordEach kws C.X.env)).all (·.1.isSome) = true := by rfl) (hks : (backToKw pos (keywordEach kws C.X.env)).filterMap (·.1) = ks := by rfl)
    (he : starEach (e :: es) C.X.env = (false, eval e C.X.env) :: starEach es C.X.env := by rfl) (hpl : ((backTo pos (starEach (e :: es) C.X.env)).any (·.1) || (backToKw pos (keywordEach kws C.X.env)).any (·.1.isNone)) = false := by rfl)
    (ht : eval (.Call (.Attribute o fn apos) (e :: es) kws pos) C.X.env = (do
      let ov ← eval o C.X.env
      standAt apos.atName
      let (f, first) ← holding [ov] (getMethod ov fn pl)
      callWith pos f first (backTo pos (starEach (e :: es) C.X.env)) (backToKw pos (keywordEach kws C.X.env))) := by rfl) :
    PD C (.Call (.Attribute o fn apos) (e :: es) kws pos) (dMeth c n ks.length gD m mo ma mk) := by
  refine ⟨fun pins s σ H Q I ⟨ρ, st, ι, er, rl, h⟩ => ?_⟩
  refine PySem.W.methodCall_KW (pl := pl) (thn (ho.run pins s σ H _ I ⟨ρ, st, ι, er, rl, post_bind (Q := fun v H1 => ∃ d s0 ι0, Rep C.T C.xp (hide ι0 s0 H1) ι0 v d ∧ RelSt C.T C.xp ι0 s0 H1 ∧ EnvR C.T C.xp (hide ι0 s0 H1) ι0 ρ σ ∧ (fieldsOf c d s0).isSome = true ∧
    Post C.T C.xp (fun c d H => C.W c d σ H) ι0 s0 H1 (Rep C.T C.xp) Q ((ma ρ s0).bind fun ds s1 => (mk ρ s1).bind fun es s2 => if ds.length = n ∧ es.length = ks.length then m (gD (d :: ds) es) s2 else .bad)) h
      fun d s0 v ι0 H0 st0 rl0 rv p0 => ?_⟩) fun u s1 ⟨v, H1, I1, ru, d, s0, ι0, rv, rl0, er0, hf, p0⟩ => ?_) ht
  · split at p0
    · rename_i hf
      exact ⟨d, s0, ι0, rv, rl0, er.step st0, hf, p0⟩
    · exact p0.elim
  · refine meth_first I1 hc hm hn rl0 rv ru hf fun a ea => ?_
    subst ea
    refine args_call (ks := ks) (first := [.ref a]) ha hkw I1 hm.kp ⟨ρ, s0, ι0, er0, rl0, post_bind p0 fun ds s1 vs ι1 H1 st1 rl1 rv1 p1 => ⟨ρ, s1, ι1, er0.step st1, rl1, post_bind p1 fun es s2 zs ι2 H2 st2 rl2 rv2 p2 => ?_⟩⟩ hall hks he hpl
    intro us ws s3 I3 r rz
    split at p2
    · rename_i hl
      exact call_den (n := n + 1) (us := .ref a :: us) (vs := .ref a :: _) F hr tk hb I3 (.cons rfl r) rz (congrArg Nat.succ (rv1.length.trans hl.1)) (rv2.length.trans hl.2) (.cons (rv.mono (st1.ex.trans st2.ex) (st1.pre.trans st2.pre)) (rv1.mono st2.ex st2.pre)) rv2 rl2 p2
    · exact p2.elim
theorem pd_meth0 {fn : Str} {pl : Sem Bool} (hc : ClsD C.T c) (hm : Meth C.X.K (C.T.ca c) fn f) (hn : fn ∉ C.T.fl c) (F : FnD C k f fd ps m) (hr : RoomG k C.X.A) (tk : L2N.Takes C.X C.W) (hb : Bd C.T fd ps 1 ks gD) (ho : PD C o mo) (hkw : PDK C kws mk)
    (hall : (backToKw pos (keywordEach kws C.X.env)).all (·.1.isSome) = true := by rfl) (hks : (backToKw pos (keywordEach kws C.X.env)).filterMap (·.1) = ks := by rfl)
    (hpl : ((backTo pos (starEach [] C.X.env)).any (·.1) || (backToKw pos (keywordEach kws C.X.env)).any (·.1.isNone)) = false := by rfl)
    (ht : eval (.Call (.Attribute o fn apos) [] kws pos) C.X.env = (do
      let ov ← eval o C.X.env
      standAt apos.atName
      let (f, first) ← holding [ov] (getMethod ov fn pl)
      callWith pos f first (backTo pos (starEach [] C.X.env)) (backToKw pos (keywordEach kws C.X.env))) := by rfl) :
    PD C (.Call (.Attribute o fn apos) [] kws pos) (dMeth c 0 ks.length gD m mo dNil mk) := by
  refine ⟨fun pins s σ H Q I ⟨ρ, st, ι, er, rl, h⟩ => ?_⟩
  refine PySem.W.methodCall_KW (pl := pl) (thn (ho.run pins s σ H _ I ⟨ρ, st, ι, er, rl, post_bind (Q := fun v H1 => ∃ d s0 ι0, Rep C.T C.xp (hide ι0 s0 H1) ι0 v d ∧ RelSt C.T C.xp ι0 s0 H1 ∧ EnvR C.T C.xp (hide ι0 s0 H1) ι0 ρ σ ∧ (fieldsOf c d s0).isSome = true ∧
    Post C.T C.xp (fun c d H => C.W c d σ H) ι0 s0 H1 (Rep C.T C.xp) Q ((mk ρ s0).bind fun es s2 => if ([] : List D).length = 0 ∧ es.length = ks.length then m (gD [d] es) s2 else .bad)) h
      fun d s0 v ι0 H0 st0 rl0 rv p0 => ?_⟩) fun u s1 ⟨v, H1, I1, ru, d, s0, ι0, rv, rl0, er0, hf, p0⟩ => ?_) ht
  · split at p0
    · rename_i hf
      exact ⟨d, s0, ι0, rv, rl0, er.step st0, hf, p0⟩
    · exact p0.elim
  · refine meth_first I1 hc hm hn rl0 rv ru hf fun a ea => ?_
    subst ea
    refine args_call0 (ks := ks) (first := [.ref a]) hkw I1 hm.kp ⟨ρ, s0, ι0, er0, rl0, post_bind p0 fun es s2 zs ι2 H2 st2 rl2 rv2 p2 => ?_⟩ hall hks hpl
    intro ws s3 I3 rz
    split at p2
    · rename_i hl
      exact call_den (n := 1) (us := [.ref a]) (vs := [.ref a]) F hr tk hb I3 (.cons rfl .nil) rz rfl (rv2.length.trans hl.2) (.cons (rv.mono st2.ex st2.pre) .nil) rv2 rl2 p2
    · exact p2.elim
end
inductive SRes where
  | nx (ρ : Rho) (st : Store)
  | ret (d : D) (st : Store)
  | brk (ρ : Rho) (st : Store)
  | cnt (ρ : Rho) (st : Store)
  | exc (c : Nat) (xs : List D) (ρ : Rho) (st : Store)
  | bad
abbrev DS := Rho → Store → SRes
def Res.into {α : Type} (m : Res α) (ρ : Rho) (k : α → Store → SRes) : SRes := match m with
  | .ok a st => k a st
  | .exc c xs st => .exc c xs ρ st
  | .bad => .bad
@[simp] theorem into_ok {α : Type} (a : α) (st : Store) (ρ : Rho) (k : α → Store → SRes) : (Res.ok a st).into ρ k = k a st := rfl
@[simp] theorem into_exc {α : Type} (c : Nat) (xs : List D) (st : Store) (ρ : Rho) (k : α → Store → SRes) : (Res.exc c xs st : Res α).into ρ k = .exc c xs ρ st := rfl
@[simp] theorem into_bad {α : Type} (ρ : Rho) (k : α → Store → SRes) : (Res.bad : Res α).into ρ k = .bad := rfl
def SRes.then (r : SRes) (k : Rho → Store → SRes) : SRes := match r with
  | .nx ρ st => k ρ st
  | r => r
@[simp] theorem then_nx (ρ : Rho) (st : Store) (k : Rho → Store → SRes) : (SRes.nx ρ st).then k = k ρ st := rfl
@[simp] theorem then_ret (d : D) (st : Store) (k : Rho → Store → SRes) : (SRes.ret d st).then k = .ret d st := rfl
@[simp] theorem then_exc (c : Nat) (xs : List D) (ρ : Rho) (st : Store) (k : Rho → Store → SRes) : (SRes.exc c xs ρ st).then k = .exc c xs ρ st := rfl
section
variable (T : Txt) (xp : XT) (W : WX) (ι : Io) (st : Store) (H : Hp) (E : Ends)
def PostS : SRes → Prop
  | .nx ρ st' => ∀ σ ι' H', Step ι st H ι' st' H' → RelSt T xp ι' st' H' → EnvR T xp (hide ι' st' H') ι' ρ σ → E.nx σ H'
  | .ret d st' => ∀ v ι' H', Step ι st H ι' st' H' → RelSt T xp ι' st' H' → Rep T xp (hide ι' st' H') ι' v d → E.rt v H'
  | .brk ρ st' => ∀ σ ι' H', Step ι st H ι' st' H' → RelSt T xp ι' st' H' → EnvR T xp (hide ι' st' H') ι' ρ σ → E.bk σ H'
  | .cnt ρ st' => ∀ σ ι' H', Step ι st H ι' st' H' → RelSt T xp ι' st' H' → EnvR T xp (hide ι' st' H') ι' ρ σ → E.ct σ H'
  | .exc c ds ρ st' => ∀ σ ι' H' dx, Step ι st H ι' st' H' → RelSt T xp ι' st' H' → EnvR T xp (hide ι' st' H') ι' ρ σ → XdR T xp ι' st' H' dx c ds → W (.ref (T.ca c)) dx σ H'
  | .bad => False
end
section
variable {T : Txt} {xp : XT} {W : WX} {ι ι1 : Io} {st st1 : Store} {H H1 : Hp} {E : Ends}
theorem PostS.step {r : SRes} (h : PostS T xp W ι st H E r) (s : Step ι st H ι1 st1 H1) : PostS T xp W ι1 st1 H1 E r := by
  cases r with
  | nx ρ st' => exact fun σ ι' H' s1 => h σ ι' H' (s.trans s1)
  | ret d st' => exact fun v ι' H' s1 => h v ι' H' (s.trans s1)
  | brk ρ st' => exact fun σ ι' H' s1 => h σ ι' H' (s.trans s1)
  | cnt ρ st' => exact fun σ ι' H' s1 => h σ ι' H' (s.trans s1)
  | exc c ds ρ st' => exact fun σ ι' H' dx s1 => h σ ι' H' dx (s.trans s1)
  | bad => exact h
theorem post_into {α β : Type} {m : Res α} {ρ : Rho} {σ : L2.St} {k : α → Store → SRes} {R : Hp → Io → β → α → Prop} {Q : β → Hp → Prop} (h : PostS T xp W ι st H E (m.into ρ k)) (er : EnvR T xp (hide ι st H) ι ρ σ)
    (hk : ∀ d s1 v ι1 H1, Step ι st H ι1 s1 H1 → RelSt T xp ι1 s1 H1 → EnvR T xp (hide ι1 s1 H1) ι1 ρ σ → R (hide ι1 s1 H1) ι1 v d → PostS T xp W ι1 s1 H1 E (k d s1) → Q v H1) : Post T xp (fun c d H => W c d σ H) ι st H R Q m := by
  cases m with
  | ok d s1 => exact fun v ι1 H1 s r e => hk d s1 v ι1 H1 s r (er.step s) e (PostS.step h s)
  | exc c ds s1 => exact fun ι1 H1 dx s r e => h σ ι1 H1 dx s r (er.step s) e
  | bad => exact h
end
def tDS (T : Txt) (xp : XT) (W : WX) (m : DS) : TS := fun D σ H => ∃ ρ st ι, EnvR T xp (hide ι st H) ι ρ σ ∧ RelSt T xp ι st H ∧ PostS T xp W ι st H D (m ρ st)
abbrev PDS (C : Ctx) (s : Stmt) (m : DS) : Prop := PS C.X s (tDS C.T C.xp C.W m)
abbrev PDSs (C : Ctx) (s : List Stmt) (m : DS) : Prop := PSs C.X s (tDS C.T C.xp C.W m)
def sNext : DS := fun ρ st => .nx ρ st
def sSeq (a b : DS) : DS := fun ρ st => (a ρ st).then b
def sSet (i : Nat) (a : DE) : DS := fun ρ st => (a ρ st).into ρ fun d s1 => .nx (ρ.set i (some d)) s1
def sRet (a : DE) : DS := fun ρ st => (a ρ st).into ρ fun d s1 => .ret d s1
def sDrop (a : DE) : DS := fun ρ st => (a ρ st).into ρ fun _ s1 => .nx ρ s1
def sIf (t : DT) (a b : DS) : DS := fun ρ st => (t ρ st).into ρ fun x s1 => match x with
  | true => a ρ s1
  | false => b ρ s1
def sRetN : DS := fun _ st => .ret .non st
section
variable {C : Ctx} {s : Stmt} {rest : List Stmt} {m mr : DS} {e : Expr} {me : DE} {pos pos' : Pos}
theorem pds_nil : PDSs C [] sNext := PSs.imp pss_nil fun D σ H ⟨ρ, st, ι, er, rl, p⟩ => p σ ι H (Step.refl _ _ _) rl er
theorem pds_cons (h : PDS C s m) (hr : PDSs C rest mr) : PDSs C (s :: rest) (sSeq m mr) := PSs.imp (pss_cons h hr) fun D σ H ⟨ρ, st, ι, er, rl, p⟩ => by
  refine ⟨ρ, st, ι, er, rl, ?_⟩
  unfold sSeq at p
  cases hm : m ρ st with
  | nx ρ1 s1 =>
    rw [hm] at p
    exact fun σ1 ι1 H1 st1 rl1 er1 => ⟨ρ1, s1, ι1, er1, rl1, PostS.step p st1⟩
  | ret d s1 =>
    rw [hm] at p
    exact p
  | brk ρ1 s1 =>
    rw [hm] at p
    exact p
  | cnt ρ1 s1 =>
    rw [hm] at p
    exact p
  | exc c ds ρ1 s1 =>
    rw [hm] at p
    exact p
  | bad =>
    rw [hm] at p
    exact p
theorem pds_one (h : PDS C s m) : PDSs C [s] m := pss_one h
theorem pds_set {i : Nat} {x : Str} (hN : C.X.N.Nodup) (hi : C.X.N[i]? = some x) (hx : Loc C.X.env.scope x) (he : PD C e me) (hs : swapsWith e (some (.Name x pos')) pos.line C.X.env = pure false := by rfl)
    (hf : C.X.fn x = true ∨ C.X.env.scope.names.lookup x = some .local := by first | exact .inl rfl | exact .inr rfl | assumption) : PDS C (.Assign [.Name x pos'] e pos) (sSet i me) :=
  PS.imp (ps_set hN hi hx he hs hf) fun D σ H ⟨ρ, st, ι, er, rl, p⟩ => by
    refine ⟨ρ, st, ι, er, rl, post_into p er fun d s1 v ι1 H1 st1 rl1 er1 rv p1 => ?_⟩
    exact p1 _ ι1 H1 (Step.refl _ _ _) rl1 (er1.set i rv)
theorem pds_ret (he : PD C e me) : PDS C (.Return (some e) pos) (sRet me) :=
  PS.imp (ps_ret he) fun D σ H ⟨ρ, st, ι, er, rl, p⟩ => ⟨ρ, st, ι, er, rl, post_into p er fun d s1 v ι1 H1 st1 rl1 er1 rv p1 => p1 v ι1 H1 (Step.refl _ _ _) rl1 rv⟩
theorem pds_drop (he : PD C e me) (hs : swapsWith e none pos.line C.X.env = pure false := by rfl) : PDS C (.Expr e pos) (sDrop me) :=
  PS.imp (ps_expr he hs) fun D σ H ⟨ρ, st, ι, er, rl, p⟩ => ⟨ρ, st, ι, er, rl, post_into p er fun d s1 v ι1 H1 st1 rl1 er1 rv p1 => p1 σ ι1 H1 (Step.refl _ _ _) rl1 er1⟩
theorem pds_if {t : DT} {a b : List Stmt} {ma mb : DS} (ht : PDT C e t) (ha : PDSs C a ma) (hb : PDSs C b mb) : PDS C (.If e a b pos) (sIf t ma mb) :=
  PS.imp (ps_if ht ha hb) fun D σ H ⟨ρ, st, ι, er, rl, p⟩ => ⟨ρ, st, ι, er, rl, post_into (R := fun _ _ (a b : Bool) => a = b) p er fun d s1 v ι1 H1 st1 rl1 er1 rv p1 => by
    have e : v = d := rv
    subst e
    cases v with
    | true => exact iteT ⟨ρ, s1, ι1, er1, rl1, p1⟩
    | false => exact iteF ⟨ρ, s1, ι1, er1, rl1, p1⟩⟩
end
def body (N n : Nat) (m : DS) : DF := fun ds st => if ds.length = n then (match m (ds.map some ++ List.replicate (N - n) none) st with
  | .nx _ st' => .ok .non st'
  | .ret d st' => .ok d st'
  | .exc c xs _ st' => .exc c xs st'
  | _ => .bad) else .bad
theorem start_env {T : Txt} {xp : XT} {G : Hp} {ι : Io} {N : List Str} {vs : List V} {ds : List D} (r : RepL T xp G ι vs ds) : EnvR T xp G ι (ds.map some ++ List.replicate (N.length - ds.length) none) (L2.start N vs) := by
  unfold L2.start
  refine ⟨by simp [r.length], fun i d h => ?_⟩
  by_cases hi : i < ds.length
  · rw [List.getElem?_append_left (by simpa using hi), List.getElem?_map] at h
    cases hd : ds[i]? with
    | none => rw [hd] at h; cases h
    | some y =>
      rw [hd] at h
      cases h
      obtain ⟨u, hu, ru⟩ := r.get hd
      exact ⟨u, by rw [List.getElem?_append_left (by simpa [r.length] using hi), List.getElem?_map, hu]; rfl, ru⟩
  · rw [List.getElem?_append_right (by simpa using hi), List.getElem?_replicate] at h
    split at h <;> cases h
theorem fnD_of {P : Program} {w : World} {mg : Str → Option Value} {base : Heap} {T : Txt} {x qual : Str} {st : Stmt} {f : Addr} {fd : FuncData} {N ps : List Str} {k : Nat} {m : DS} (F : Fun T.K x qual st f fd) (S : FnScope N ps (defScope st))
    (h : ∀ (cdv : Value) (A : Around) (outer : List Env) (s : Shared) (H : Hp) (E : XK) (xp : XT), RoomG k (A.deeper (PyProof.Rows.envOfC qual (defScope st) s.heap.objs.size f cdv)) →
      PDSs ⟨cxOf (L2N.CX P w) P w T.K mg base N qual (defScope st) f cdv A outer s H E, T, xp, fun c d _ H' => E c d H', rfl⟩ (defBody st) m) :
    FnG P w T.K mg base (k + 1) f fd ps (spM T ps.length (body N.length ps.length m)) := by
  refine fnG_of F S (fun vs H Q E h => h.1) fun cdv A outer s H vs Q E hr hsp => ?_
  obtain ⟨hl, xp, ds, st0, ι, rd, rl, hp⟩ := hsp
  refine ⟨_, h cdv A outer s H E xp hr, _, st0, ι, start_env rd, rl, ?_⟩
  have hl' : ds.length = ps.length := rd.length.symm.trans hl
  unfold body at hp
  rw [if_pos hl'] at hp
  rw [hl']
  cases hm : m (ds.map some ++ List.replicate (N.length - ps.length) none) st0 with
  | nx ρ s1 =>
    rw [hm] at hp
    exact fun σ ι1 H1 s r _ => hp .non ι1 H1 s r .non
  | ret d s1 =>
    rw [hm] at hp
    exact hp
  | exc c xs ρ s1 =>
    rw [hm] at hp
    exact fun σ ι1 H1 dx s r _ xd => hp ι1 H1 dx s r xd
  | _ =>
    rw [hm] at hp
    exact hp.elim
end Den
set_option maxRecDepth 100000
set_option maxHeartbeats 4000000
namespace Den
open PySem PySem.Spec L2
theorem hide_le (ι : Io) (st : Store) (H : Hp) : Le (hide ι st H) H := fun _ _ h => hide_sub h
section
variable {C : Ctx}
theorem OpD.or {r r' : R2} {f f' : D → D → Option D} (h : OpD C r f) (h' : OpD C r' f') : OpD C (fun x y H Q => r x y H Q ∨ r' x y H Q) (fun x y => (f x y).or (f' x y)) := fun ι st H x y dx dy dz Q rl rx ry e k => by
  dsimp only at e
  cases hf : f dx dy with
  | some z =>
    rw [hf] at e
    exact .inl (h ι st H x y dx dy dz Q rl rx ry (hf.trans e) k)
  | none =>
    rw [hf] at e
    exact .inr (h' ι st H x y dx dy dz Q rl rx ry e k)
def onI (c : Int → Int → Bool) (g : Int → Int → D) : D → D → Option D
  | .int i, .int j => if c i j = true then some (g i j) else none
  | _, _ => none
theorem onI_some {c : Int → Int → Bool} {g : Int → Int → D} {x y z : D} (h : onI c g x y = some z) : ∃ i j, x = .int i ∧ y = .int j ∧ c i j = true ∧ z = g i j := by
  cases x <;> first | (cases h; done) | skip
  cases y <;> first | (cases h; done) | skip
  rename_i i j
  dsimp only [onI] at h
  by_cases hc : c i j = true
  · rw [if_pos hc] at h
    exact ⟨i, j, rfl, rfl, hc, (Option.some.inj h).symm⟩
  · rw [if_neg hc] at h
    cases h
theorem OpD.ints {Cd : Int → Int → Prop} {c : Int → Int → Bool} {gv : Int → Int → V} {g : Int → Int → D} (hc : ∀ i j, c i j = true → Cd i j) (hg : ∀ xp G ι i j, Rep C.T xp G ι (gv i j) (g i j)) : OpD C (rI Cd gv) (onI c g) := fun ι st H x y dx dy dz Q rl rx ry e k => by
  obtain ⟨i, j, rfl, rfl, h, rfl⟩ := onI_some e
  cases rx
  cases ry
  exact ⟨i, j, rfl, rfl, hc i j h, k _ ι H (Step.refl _ _ _) rl (hg _ _ _ i j)⟩
theorem OpD.ints0 {gv : Int → Int → V} {g : Int → Int → D} (hg : ∀ xp G ι i j, Rep C.T xp G ι (gv i j) (g i j)) : OpD C (rI0 gv) (onI (fun _ _ => true) g) := fun ι st H x y dx dy dz Q rl rx ry e k => by
  obtain ⟨i, j, rfl, rfl, h, rfl⟩ := onI_some e
  cases rx
  cases ry
  exact ⟨i, j, rfl, rfl, k _ ι H (Step.refl _ _ _) rl (hg _ _ _ i j)⟩
def onS (c : Str → Str → Bool) (g : Str → Str → D) : D → D → Option D
  | .str i, .str j => if c i j = true then some (g i j) else none
  | _, _ => none
theorem onS_some {c : Str → Str → Bool} {g : Str → Str → D} {x y z : D} (h : onS c g x y = some z) : ∃ i j, x = .str i ∧ y = .str j ∧ c i j = true ∧ z = g i j := by
  cases x <;> first | (cases h; done) | skip
  cases y <;> first | (cases h; done) | skip
  rename_i i j
  dsimp only [onS] at h
  by_cases hc : c i j = true
  · rw [if_pos hc] at h
    exact ⟨i, j, rfl, rfl, hc, (Option.some.inj h).symm⟩
  · rw [if_neg hc] at h
    cases h
def fCatS : D → D → Option D := onS (fun i j => decide (i.length + j.length ≤ 1000000)) fun i j => .str (i ++ j)
theorem cat_str : OpD C (fun x y H Q => ∃ i j, x = .str i ∧ y = .str j ∧ i.length + j.length ≤ sizeLine ∧ Q (.str (i ++ j)) H) fCatS := fun ι st H x y dx dy dz Q rl rx ry e k => by
  obtain ⟨i, j, rfl, rfl, h, rfl⟩ := onS_some e
  cases rx
  cases ry
  exact ⟨i, j, rfl, rfl, Nat.le_trans (of_decide_eq_true h) (by decide), k _ ι H (Step.refl _ _ _) rl (.str _)⟩
def fCatL : D → D → Option D
  | .lst xs, .lst ys => if xs.length + ys.length ≤ 100000 then some (.lst (xs ++ ys)) else none
  | _, _ => none
theorem fCatL_some {x y z : D} (h : fCatL x y = some z) : ∃ a b, x = .lst a ∧ y = .lst b ∧ a.length + b.length ≤ 100000 ∧ z = .lst (a ++ b) := by
  cases x <;> first | (cases h; done) | skip
  cases y <;> first | (cases h; done) | skip
  rename_i a b
  dsimp only [fCatL] at h
  by_cases hc : a.length + b.length ≤ 100000
  · rw [if_pos hc] at h
    exact ⟨a, b, rfl, rfl, hc, (Option.some.inj h).symm⟩
  · rw [if_neg hc] at h
    cases h
theorem cat_lst : OpD C rCat fCatL := fun ι st H x y dx dy dz Q rl rx ry e k => by
  obtain ⟨a, b, rfl, rfl, hl, rfl⟩ := fCatL_some e
  cases rx with
  | lst h1 r1 =>
    cases ry with
    | lst h2 r2 =>
      refine ⟨_, _, _, _, rfl, rfl, hide_sub h1, hide_sub h2, line_ok (by rw [r1.length, r2.length]; exact hl), fun p hp => ?_⟩
      obtain ⟨ra, sa, ea⟩ := rl.new (o := .lst _) hp
      exact k _ ι _ sa ra (.lst ea ((r1.append r2).mono sa.ex sa.pre))
def fCatT : D → D → Option D
  | .tup xs, .tup ys => if xs.length + ys.length ≤ 100000 then some (.tup (xs ++ ys)) else none
  | _, _ => none
theorem fCatT_some {x y z : D} (h : fCatT x y = some z) : ∃ a b, x = .tup a ∧ y = .tup b ∧ a.length + b.length ≤ 100000 ∧ z = .tup (a ++ b) := by
  cases x <;> first | (cases h; done) | skip
  cases y <;> first | (cases h; done) | skip
  rename_i a b
  dsimp only [fCatT] at h
  by_cases hc : a.length + b.length ≤ 100000
  · rw [if_pos hc] at h
    exact ⟨a, b, rfl, rfl, hc, (Option.some.inj h).symm⟩
  · rw [if_neg hc] at h
    cases h
def rCatN (K : PySem.W.Frag) : R2 := fun x y H Q => ∃ (a b : Addr) (xs ys : List V), (x = .ref a ∧ y = .ref b) ∧ (SqT K H a xs ∧ SqT K H b ys) ∧ xs.length + ys.length ≤ sizeLine ∧
  (xs = [] → Q y H) ∧ (xs ≠ [] → ys = [] → Q x H) ∧ (xs ≠ [] → ys ≠ [] → ∀ p o, o.dict = none → H p = none → Q (.ref p) (upd H p (.frz o (.tup (xs ++ ys)))))
theorem op_catN {X : Cx} : OpR X (binaryOp .Add) (rCatN X.K) := by
  intro pins s σ H x y v u Q I rx ry h
  obtain ⟨a, b, xs, ys, ⟨rfl, rfl⟩, ⟨ha, hb⟩, hz, q0, q1, q2⟩ := h
  cases rx
  cases ry
  obtain ⟨us, r1, p1, _⟩ := I.tuple ha
  obtain ⟨ws, r2, p2, _⟩ := I.tuple hb
  have z1 := r1.nil_iff
  have z2 := r2.nil_iff
  by_cases hx : us = []
  · subst hx
    exact cat_tup0 p1 p2 ⟨.ref b, H, I, rfl, q0 (z1.mp rfl)⟩
  · refine HT.cat_tup p1 p2 hx (fun z => ⟨.ref a, H, I, rfl, q1 (fun e => hx (z1.mpr e)) (z2.mp z)⟩) (fun z => ?_) (by rw [← r1.length, ← r2.length]; exact hz)
    exact ⟨.ref s.heap.objs.size, _, I.laid (t' := s.toks) (fun b u e => Heap.get?_push_of_some _ e) (Nat.le_refl _) (tup_known (by rw [List.length_append]; exact hz) (r1.append r2)), rfl, q2 (fun e => hx (z1.mpr e)) (fun e => z (z2.mpr e)) _ _ rfl (I.hok.fresh (Nat.le_refl _))⟩
theorem cat_tup : OpD C (rCatN C.X.K) fCatT := fun ι st H x y dx dy dz Q rl rx ry e k => by
  obtain ⟨ds, es, rfl, rfl, hl, rfl⟩ := fCatT_some e
  cases rx with
  | @tup a xs _ h1 r1 =>
    cases ry with
    | @tup b ys _ h2 r2 =>
      rw [C.hK]
      have t1 := le_t (hide_le ι st H) h1.t
      have t2 := le_t (hide_le ι st H) h2.t
      refine ⟨a, b, xs, ys, ⟨rfl, rfl⟩, ⟨t1, t2⟩, line_ok (by rw [r1.length, r2.length]; exact hl), fun h => ?_, fun h h' => ?_, fun _ _ p o ho hp => ?_⟩
      · subst h
        cases r1
        exact k _ ι H (Step.refl _ _ _) rl (.tup h2 r2)
      · subst h'
        cases r2
        rw [List.append_nil] at k
        exact k _ ι H (Step.refl _ _ _) rl (.tup h1 r1)
      · obtain ⟨ra, sa, ea⟩ := rl.new (o := .frz o (.tup (xs ++ ys))) hp
        exact k _ ι _ sa ra (.tup (.inl ⟨o, ea, ho⟩) ((r1.append r2).mono sa.ex sa.pre))
def fAdd (x y : D) : Option D := (onI (fun _ _ => true) (fun i j => .int (i + j)) x y).or ((fCatS x y).or ((fCatL x y).or (fCatT x y)))
def dAdd : DE → DE → DE := dOp2 fAdd
theorem pd_add {a b : Expr} {ma mb : DE} {pos : Pos} (ha : PD C a ma) (hb : PD C b mb) : PD C (.BinOp a .Add b pos) (dAdd ma mb) :=
  pd_op (op_add.or (op_add_str.or (op_cat.or op_catN))) ((OpD.ints0 fun _ _ _ i j => .int _).or (cat_str.or (cat_lst.or cat_tup))) ha hb
def fSub : D → D → Option D := onI (fun _ _ => true) fun i j => .int (i - j)
def dSub : DE → DE → DE := dOp2 fSub
theorem pd_sub {a b : Expr} {ma mb : DE} {pos : Pos} (ha : PD C a ma) (hb : PD C b mb) : PD C (.BinOp a .Sub b pos) (dSub ma mb) := pd_op op_sub (OpD.ints0 fun _ _ _ i j => .int _) ha hb
def fRepL : D → D → Option D
  | .lst xs, .int k => if xs.length * k.toNat ≤ 100000 ∧ -1000000 ≤ k ∧ k ≤ 1000000 then some (.lst (List.replicate k.toNat xs).flatten) else none
  | _, _ => none
theorem RepL.rep {T : Txt} {xp : XT} {G : Hp} {ι : Io} {v : List V} {d : List D} (h : RepL T xp G ι v d) : ∀ n : Nat, RepL T xp G ι (List.replicate n v).flatten (List.replicate n d).flatten
  | 0 => .nil
  | n + 1 => by
    rw [List.replicate_succ, List.replicate_succ, List.flatten_cons, List.flatten_cons]
    exact h.append (h.rep n)
theorem fRepL_some {x y z : D} (h : fRepL x y = some z) : ∃ a k, x = .lst a ∧ y = .int k ∧ (a.length * k.toNat ≤ 100000 ∧ -1000000 ≤ k ∧ k ≤ 1000000) ∧ z = .lst (List.replicate k.toNat a).flatten := by
  cases x <;> first | (cases h; done) | skip
  cases y <;> first | (cases h; done) | skip
  rename_i a k
  dsimp only [fRepL] at h
  split at h
  · rename_i hc
    exact ⟨a, k, rfl, rfl, hc, (Option.some.inj h).symm⟩
  · cases h
theorem rep_lst : OpD C rRep fRepL := fun ι st H x y dx dy dz Q rl rx ry e k => by
  obtain ⟨ds, i, rfl, rfl, hl, rfl⟩ := fRepL_some e
  cases rx with
  | lst h1 r1 =>
    cases ry
    refine ⟨_, i, _, rfl, rfl, hide_sub h1, by omega, by omega, line_ok (by rw [r1.length]; exact hl.1), fun p hp => ?_⟩
    obtain ⟨ra, sa, ea⟩ := rl.new (o := .lst _) hp
    exact k _ ι _ sa ra (.lst ea ((r1.rep _).mono sa.ex sa.pre))
def fMul (x y : D) : Option D := (onI (fun i j => decide (i.natAbs.log2 + j.natAbs.log2 < 1000000)) (fun i j => .int (i * j)) x y).or (fRepL x y)
def dMul : DE → DE → DE := dOp2 fMul
def fDiv : D → D → Option D := onI (fun _ j => decide (0 < j ∧ j.natAbs.log2 < 9000)) fun i j => .int (i / j)
def dDiv : DE → DE → DE := dOp2 fDiv
theorem pd_div {a b : Expr} {ma mb : DE} {pos : Pos} (ha : PD C a ma) (hb : PD C b mb) : PD C (.BinOp a .FloorDiv b pos) (dDiv ma mb) := pd_op op_fdivW (OpD.ints (fun i j h => show 0 < j ∧ j.natAbs.log2 < 9000 from of_decide_eq_true h) fun _ _ _ i j => .int _) ha hb
def fMod : D → D → Option D := onI (fun _ j => decide (0 < j)) fun i j => .int (i % j)
def dMod : DE → DE → DE := dOp2 fMod
theorem pd_mod {a b : Expr} {ma mb : DE} {pos : Pos} (ha : PD C a ma) (hb : PD C b mb) : PD C (.BinOp a .Mod b pos) (dMod ma mb) := pd_op op_mod (OpD.ints (fun _ _ h => of_decide_eq_true h) fun _ _ _ i j => .int _) ha hb
def fPow : D → D → Option D := onI (fun i j => decide (0 ≤ j ∧ j ≤ 1000000 ∧ i.natAbs < 2 ^ 64)) fun i j => .int (i ^ j.toNat)
def dPow : DE → DE → DE := dOp2 fPow
theorem pd_pow {a b : Expr} {ma mb : DE} {pos : Pos} (ha : PD C a ma) (hb : PD C b mb) : PD C (.BinOp a .Pow b pos) (dPow ma mb) := pd_op op_pow (OpD.ints (fun i j h => show 0 ≤ j ∧ j ≤ 1000000 ∧ i.natAbs < 2 ^ 64 from of_decide_eq_true h) fun _ _ _ i j => .int _) ha hb
theorem str_rel {r : R2} {gv : Str → Str → V} {g : Str → Str → D} (hr : ∀ i j H (Q : VK), Q (gv i j) H → r (.str i) (.str j) H Q) (hg : ∀ xp G ι i j, Rep C.T xp G ι (gv i j) (g i j)) : OpD C r (onS (fun _ _ => true) g) := fun ι st H x y dx dy dz Q rl rx ry e k => by
  obtain ⟨i, j, rfl, rfl, h, rfl⟩ := onS_some e
  cases rx
  cases ry
  exact hr i j H Q (k _ ι H (Step.refl _ _ _) rl (hg _ _ _ i j))
def bI (p : Int → Int → Bool) : D → D → Option D := onI (fun _ _ => true) fun i j => .bl (p i j)
def bS (p : Str → Str → Bool) : D → D → Option D := onS (fun _ _ => true) fun i j => .bl (p i j)
def fLt (x y : D) : Option D := (bI (fun i j => decide (i < j)) x y).or (bS (fun i j => decide (i.cps.toList < j.cps.toList)) x y)
def fLe (x y : D) : Option D := (bI (fun i j => decide (i ≤ j)) x y).or (bS (fun i j => !decide (j.cps.toList < i.cps.toList)) x y)
def fGt (x y : D) : Option D := (bI (fun i j => decide (j < i)) x y).or (bS (fun i j => decide (j.cps.toList < i.cps.toList)) x y)
def fGe (x y : D) : Option D := (bI (fun i j => decide (j ≤ i)) x y).or (bS (fun i j => !decide (i.cps.toList < j.cps.toList)) x y)
structure CmpD (C : Ctx) (op : CmpOp) (f : D → D → Option D) : Prop where
  ex : ∃ r, OpR C.X (compareOp op) r ∧ OpD C r f
theorem cmp_lt : CmpD C .Lt fLt := ⟨_, op_lt.or op_lt_str, (OpD.ints0 fun _ _ _ i j => .bl _).or (str_rel (fun i j H Q q => ⟨i, j, rfl, rfl, q⟩) fun _ _ _ i j => .bl _)⟩
theorem cmp_le : CmpD C .LtE fLe := ⟨_, op_le.or op_le_str, (OpD.ints0 fun _ _ _ i j => .bl _).or (str_rel (fun i j H Q q => ⟨i, j, rfl, rfl, q⟩) fun _ _ _ i j => .bl _)⟩
theorem cmp_gt : CmpD C .Gt fGt := ⟨_, op_gt.or op_gt_str, (OpD.ints0 fun _ _ _ i j => .bl _).or (str_rel (fun i j H Q q => ⟨i, j, rfl, rfl, q⟩) fun _ _ _ i j => .bl _)⟩
theorem cmp_ge : CmpD C .GtE fGe := ⟨_, op_ge.or op_ge_str, (OpD.ints0 fun _ _ _ i j => .bl _).or (str_rel (fun i j H Q q => ⟨i, j, rfl, rfl, q⟩) fun _ _ _ i j => .bl _)⟩
theorem pd_cmpD {op : CmpOp} {f : D → D → Option D} {a b : Expr} {ma mb : DE} {pos : Pos} (h : CmpD C op f) (ha : PD C a ma) (hb : PD C b mb) (hm : behindInMarks op b = false) : PD C (.Compare a [op] [b] pos) (dOp2 f ma mb) := by
  obtain ⟨r, h1, h2⟩ := h.ex
  exact pd_cmp h1 h2 ha hb hm
def dChain (f g : D → D → Option D) (a b c : DE) : DE := fun ρ st => (a ρ st).bind fun x s1 => (b ρ s1).bind fun y s2 => match f x y with
  | some (.bl true) => (c ρ s2).bind fun z s3 => match g y z with
    | some w => .ok w s3
    | none => .bad
  | some (.bl false) => .ok (.bl false) s2
  | _ => .bad
theorem pd_chain {op op' : CmpOp} {f g : D → D → Option D} {a b c : Expr} {ma mb mc : DE} {pos : Pos} (h : CmpD C op f) (h' : CmpD C op' g) (ha : PD C a ma) (hb : PD C b mb) (hc : PD C c mc)
    (hm : lastMarks [op, op'] [b, c] = false := by with_unfolding_all rfl) : PD C (.Compare a [op, op'] [b, c] pos) (dChain f g ma mb mc) := by
  obtain ⟨r, h1, h2⟩ := h.ex
  obtain ⟨r', h3, h4⟩ := h'.ex
  refine PE.imp (pe_chain h1 h3 ha hb hc hm) fun σ H Q ⟨ρ, st, ι, er, rl, p⟩ => ?_
  refine ⟨ρ, st, ι, er, rl, post_bind p fun d s1 v ι1 H1 st1 rl1 rv p1 => ?_⟩
  refine ⟨ρ, s1, ι1, er.step st1, rl1, post_bind p1 fun d2 s2 v2 ι2 H2 st2 rl2 rv2 p2 => ?_⟩
  split at p2
  · rename_i hf
    refine h2 ι2 s2 H2 v v2 d d2 _ _ rl2 (rv.mono st2.ex st2.pre) rv2 hf fun w ι3 H3 st3 rl3 rw3 => ?_
    cases rw3
    refine ⟨true, rfl, iteT ?_⟩
    refine ⟨ρ, s2, ι3, (er.step (st1.trans st2)).step st3, rl3, post_bind (Post.step p2 st3) fun d3 s3 v3 ι4 H4 st4 rl4 rv4 p4 => ?_⟩
    split at p4
    · rename_i z hz
      exact h4 ι4 s3 H4 v2 v3 d2 d3 z _ rl4 (rv2.mono (st3.ex.trans st4.ex) (st3.pre.trans st4.pre)) rv4 hz fun w ι5 H5 st5 rl5 rw5 => p4 w ι5 H5 st5 rl5 rw5
    · exact p4.elim
  · rename_i hf
    refine h2 ι2 s2 H2 v v2 d d2 _ _ rl2 (rv.mono st2.ex st2.pre) rv2 hf fun w ι3 H3 st3 rl3 rw3 => ?_
    cases rw3
    exact ⟨false, rfl, iteF (p2 _ ι3 H3 st3 rl3 (.bl false))⟩
  · exact p2.elim
def truth : D → Option Bool
  | .non => some false
  | .bl b => some b
  | .int i => some (i != 0)
  | .str x => if x.length ≤ 1000000 then some ((x.length : Int) != 0) else none
  | .lst xs => some (!xs.isEmpty)
  | .ro xs => some (!xs.isEmpty)
  | .tup xs => some (!xs.isEmpty)
  | _ => none
theorem RepL.empty {T : Txt} {xp : XT} {G : Hp} {ι : Io} {v : List V} {d : List D} (h : RepL T xp G ι v d) : v.isEmpty = d.isEmpty := by cases h <;> rfl
theorem truth_v {K : PySem.W.Frag} {T : Txt} {xp : XT} {ι : Io} {st : Store} {H : Hp} {v : V} {d : D} {b : Bool} (hK : K = T.K) (r : Rep T xp (hide ι st H) ι v d) (h : truth d = some b) : TruV K v H b := by
  subst hK
  cases r with
  | non => cases h; rfl
  | bl => cases h; rfl
  | int => cases h; rfl
  | str x =>
    unfold truth at h
    dsimp only at h
    split at h
    · rename_i hl
      cases h
      exact ⟨Nat.le_trans hl (by decide), rfl⟩
    · cases h
  | lst h1 h2 =>
    cases h
    exact .inl ⟨_, SqL.of (hide_sub h1), by rw [h2.empty]⟩
  | ro h1 h2 =>
    cases h
    exact .inl ⟨_, le_l (hide_le _ _ _) h1, by rw [h2.empty]⟩
  | tup h1 h2 =>
    cases h
    exact .inr (.inl ⟨_, le_t (hide_le _ _ _) h1.t, by rw [h2.empty]⟩)
  | _ => cases h
def dAnd (a b : DE) : DE := fun ρ st => (a ρ st).bind fun x s1 => match truth x with
  | some true => b ρ s1
  | some false => .ok x s1
  | none => .bad
def dOr (a b : DE) : DE := fun ρ st => (a ρ st).bind fun x s1 => match truth x with
  | some true => .ok x s1
  | some false => b ρ s1
  | none => .bad
def dNot (a : DE) : DE := fun ρ st => (a ρ st).bind fun x s1 => match truth x with
  | some t => .ok (.bl (!t)) s1
  | none => .bad
def dTruth (a : DE) : DT := fun ρ st => (a ρ st).bind fun x s1 => match truth x with
  | some t => .ok t s1
  | none => .bad
def dIte (t : DT) (a b : DE) : DE := fun ρ st => (t ρ st).bind fun x s1 => match x with
  | true => a ρ s1
  | false => b ρ s1
section
variable {a b e : Expr} {ma mb : DE} {mt : DT} {pos : Pos} {rest : List Expr}
theorem pd_and (ha : PD C a ma) (hb : PD C (.BoolOp .And (b :: rest) pos) mb) : PD C (.BoolOp .And (a :: b :: rest) pos) (dAnd ma mb) :=
  PE.imp (pe_andT ha hb) fun σ H Q ⟨ρ, st, ι, er, rl, p⟩ => by
    refine ⟨ρ, st, ι, er, rl, post_bind p fun d s1 v ι1 H1 st1 rl1 rv p1 => ?_⟩
    split at p1
    · rename_i h
      exact ⟨true, truth_v C.hK rv h, iteT ⟨ρ, s1, ι1, er.step st1, rl1, p1⟩⟩
    · rename_i h
      exact ⟨false, truth_v C.hK rv h, iteF (p1 v ι1 H1 (Step.refl _ _ _) rl1 rv)⟩
    · exact p1.elim
theorem pd_or (ha : PD C a ma) (hb : PD C (.BoolOp .Or (b :: rest) pos) mb) : PD C (.BoolOp .Or (a :: b :: rest) pos) (dOr ma mb) :=
  PE.imp (pe_orT ha hb) fun σ H Q ⟨ρ, st, ι, er, rl, p⟩ => by
    refine ⟨ρ, st, ι, er, rl, post_bind p fun d s1 v ι1 H1 st1 rl1 rv p1 => ?_⟩
    split at p1
    · rename_i h
      exact ⟨true, truth_v C.hK rv h, iteT (p1 v ι1 H1 (Step.refl _ _ _) rl1 rv)⟩
    · rename_i h
      exact ⟨false, truth_v C.hK rv h, iteF ⟨ρ, s1, ι1, er.step st1, rl1, p1⟩⟩
    · exact p1.elim
theorem pd_last {op : BoolOp} (ha : PD C a ma) : PD C (.BoolOp op [a] pos) ma := pe_one ha
theorem pd_not (ha : PD C a ma) : PD C (.UnaryOp .Not a pos) (dNot ma) :=
  PE.imp (pe_notT ha) fun σ H Q ⟨ρ, st, ι, er, rl, p⟩ => by
    refine ⟨ρ, st, ι, er, rl, post_bind p fun d s1 v ι1 H1 st1 rl1 rv p1 => ?_⟩
    split at p1
    · rename_i t h
      exact ⟨t, truth_v C.hK rv h, p1 _ ι1 H1 (Step.refl _ _ _) rl1 (.bl _)⟩
    · exact p1.elim
end
end
end Den
set_option maxRecDepth 100000
set_option maxHeartbeats 4000000
namespace Den
open PySem PySem.Spec L2
def asB (a : DE) : DT := fun ρ st => (a ρ st).bind fun x s1 => match x with
  | .bl t => .ok t s1
  | _ => .bad
def tAndD (a b : DT) : DT := fun ρ st => (a ρ st).bind fun x s1 => match x with
  | true => b ρ s1
  | false => .ok false s1
def tOrD (a b : DT) : DT := fun ρ st => (a ρ st).bind fun x s1 => match x with
  | true => .ok true s1
  | false => b ρ s1
def tNotD (a : DT) : DT := fun ρ st => (a ρ st).bind fun x s1 => .ok (!x) s1
section
variable {C : Ctx} {a b c e : Expr} {ma mb mc : DE} {ta tb : DT} {pos : Pos} {rest : List Expr}
abbrev PDW (C : Ctx) (e : Expr) (m : DT) : Prop := PW C.X e (tDT C.T C.xp C.W m)
theorem PW.imp {X : Cx} {e : Expr} {t t' : TT} (h : PW X e t) (i : ∀ σ H Q, t' σ H Q → t σ H Q) : PW X e t' := ⟨fun w pins s σ H Q I q => h.run w pins s σ H Q I (i σ H Q q)⟩
theorem asB_of {t : TE} {m : DE} (h : ∀ σ H Q, tD C.T C.xp C.W m σ H Q → t σ H Q) : ∀ σ H Q, tDT C.T C.xp C.W (asB m) σ H Q → tTest t σ H Q := fun σ H Q ⟨ρ, st, ι, er, rl, p⟩ => by
  refine h σ H _ ⟨ρ, st, ι, er, rl, post_bind p fun d s1 v ι1 H1 st1 rl1 rv p1 => ?_⟩
  cases rv with
  | bl t => exact ⟨t, rfl, p1 t ι1 H1 (Step.refl _ _ _) rl1 rfl⟩
  | _ => exact p1.elim
theorem pdt_cmp {op : CmpOp} {f : D → D → Option D} (h : CmpD C op f) (ha : PD C a ma) (hb : PD C b mb) (hm : behindInMarks op b = false) : PDT C (.Compare a [op] [b] pos) (asB (dOp2 f ma mb)) := by
  obtain ⟨r, h1, h2⟩ := h.ex
  exact PT.imp (pt_cmpR h1 ha hb hm) (asB_of (tOp_of h2))
theorem chain_of {op op' : CmpOp} {r r' : R2} {f g : D → D → Option D} (h2 : OpD C r f) (h4 : OpD C r' g) : ∀ σ H Q, tD C.T C.xp C.W (dChain f g ma mb mc) σ H Q → tChain r r' (tD C.T C.xp C.W ma) (tD C.T C.xp C.W mb) (tD C.T C.xp C.W mc) σ H Q := fun σ H Q ⟨ρ, st, ι, er, rl, p⟩ => by
  refine ⟨ρ, st, ι, er, rl, post_bind p fun d s1 v ι1 H1 st1 rl1 rv p1 => ?_⟩
  refine ⟨ρ, s1, ι1, er.step st1, rl1, post_bind p1 fun d2 s2 v2 ι2 H2 st2 rl2 rv2 p2 => ?_⟩
  split at p2
  · rename_i hf
    refine h2 ι2 s2 H2 v v2 d d2 _ _ rl2 (rv.mono st2.ex st2.pre) rv2 hf fun w ι3 H3 st3 rl3 rw3 => ?_
    cases rw3
    refine ⟨true, rfl, iteT ?_⟩
    refine ⟨ρ, s2, ι3, (er.step (st1.trans st2)).step st3, rl3, post_bind (Post.step p2 st3) fun d3 s3 v3 ι4 H4 st4 rl4 rv4 p4 => ?_⟩
    split at p4
    · rename_i z hz
      exact h4 ι4 s3 H4 v2 v3 d2 d3 z _ rl4 (rv2.mono (st3.ex.trans st4.ex) (st3.pre.trans st4.pre)) rv4 hz fun w ι5 H5 st5 rl5 rw5 => p4 w ι5 H5 st5 rl5 rw5
    · exact p4.elim
  · rename_i hf
    refine h2 ι2 s2 H2 v v2 d d2 _ _ rl2 (rv.mono st2.ex st2.pre) rv2 hf fun w ι3 H3 st3 rl3 rw3 => ?_
    cases rw3
    exact ⟨false, rfl, iteF (p2 _ ι3 H3 st3 rl3 (.bl false))⟩
  · exact p2.elim
theorem pdt_chain {op op' : CmpOp} {f g : D → D → Option D} (h : CmpD C op f) (h' : CmpD C op' g) (ha : PD C a ma) (hb : PD C b mb) (hc : PD C c mc) (hm : lastMarks [op, op'] [b, c] = false := by with_unfolding_all rfl) :
    PDT C (.Compare a [op, op'] [b, c] pos) (asB (dChain f g ma mb mc)) := by
  obtain ⟨r, h1, h2⟩ := h.ex
  obtain ⟨r', h3, h4⟩ := h'.ex
  exact PT.imp (pt_chain h1 h3 ha hb hc hm) (asB_of (chain_of (op := op) (op' := op') h2 h4))
theorem pdt_truth (ha : PD C a ma) (he : ∀ whole, isTrue a C.X.env whole = (do let v ← whole; standAt a.pos; holding [v] (truthy v)) := by intro _; rfl) : PDT C a (dTruth ma) :=
  PT.imp (pt_truth ha he) fun σ H Q ⟨ρ, st, ι, er, rl, p⟩ => by
    refine ⟨ρ, st, ι, er, rl, post_bind p fun d s1 v ι1 H1 st1 rl1 rv p1 => ?_⟩
    split at p1
    · rename_i t h
      exact ⟨t, truth_v C.hK rv h, p1 t ι1 H1 (Step.refl _ _ _) rl1 rfl⟩
    · exact p1.elim
theorem pdt_not (ha : PDT C a ta) : PDT C (.UnaryOp .Not a pos) (tNotD ta) :=
  PT.imp (pt_not ha) fun σ H Q ⟨ρ, st, ι, er, rl, p⟩ => by
    refine ⟨ρ, st, ι, er, rl, post_bind p fun d s1 v ι1 H1 st1 rl1 rv p1 => ?_⟩
    have e : v = d := rv
    subst e
    exact p1 _ ι1 H1 (Step.refl _ _ _) rl1 rfl
theorem pdw_and1 (ha : PDT C a ta) : PDW C (.BoolOp .And [a] pos) ta := pw_and1 ha
theorem pdw_or1 (ha : PDT C a ta) : PDW C (.BoolOp .Or [a] pos) ta := pw_or1 ha
theorem pdw_and (ha : PDT C a ta) (hb : PDW C (.BoolOp .And (b :: rest) pos) tb) : PDW C (.BoolOp .And (a :: b :: rest) pos) (tAndD ta tb) :=
  PW.imp (pw_and ha hb) fun σ H Q ⟨ρ, st, ι, er, rl, p⟩ => by
    refine ⟨ρ, st, ι, er, rl, post_bind p fun d s1 v ι1 H1 st1 rl1 rv p1 => ?_⟩
    have e : v = d := rv
    subst e
    cases v with
    | true => exact iteT ⟨ρ, s1, ι1, er.step st1, rl1, p1⟩
    | false => exact iteF (p1 false ι1 H1 (Step.refl _ _ _) rl1 rfl)
theorem pdw_or (ha : PDT C a ta) (hb : PDW C (.BoolOp .Or (b :: rest) pos) tb) : PDW C (.BoolOp .Or (a :: b :: rest) pos) (tOrD ta tb) :=
  PW.imp (pw_or ha hb) fun σ H Q ⟨ρ, st, ι, er, rl, p⟩ => by
    refine ⟨ρ, st, ι, er, rl, post_bind p fun d s1 v ι1 H1 st1 rl1 rv p1 => ?_⟩
    have e : v = d := rv
    subst e
    cases v with
    | true => exact iteT (p1 true ι1 H1 (Step.refl _ _ _) rl1 rfl)
    | false => exact iteF ⟨ρ, s1, ι1, er.step st1, rl1, p1⟩
theorem pdt_w (h : PDW C e ta) : PDT C e ta := h.pt
theorem pd_ite {t : DT} (ht : PDT C c t) (ha : PD C a ma) (hb : PD C b mb) : PD C (.IfExp c a b pos) (dIte t ma mb) :=
  PE.imp (pe_ifExp ht ha hb) fun σ H Q ⟨ρ, st, ι, er, rl, p⟩ => by
    refine ⟨ρ, st, ι, er, rl, post_bind p fun d s1 v ι1 H1 st1 rl1 rv p1 => ?_⟩
    have e : v = d := rv
    subst e
    cases v with
    | true => exact iteT ⟨ρ, s1, ι1, er.step st1, rl1, p1⟩
    | false => exact iteF ⟨ρ, s1, ι1, er.step st1, rl1, p1⟩
end
mutual
def toPy : D → Option PyData
  | .non => some .none
  | .bl b => some (.bool b)
  | .int i => some (.int i)
  | .str x => some (.str x)
  | .lst xs => (toPyL xs).map .list
  | .ro xs => (toPyL xs).map .list
  | .tup xs => (toPyL xs).map .tuple
  | _ => none
def toPyL : List D → Option (List PyData)
  | [] => some []
  | x :: xs => match toPy x, toPyL xs with
    | some p, some ps => some (p :: ps)
    | _, _ => none
end
section
variable {T : Txt} {xp : XT} {G H : Hp} {ι : Io}
mutual
theorem dp_of (l : Le G H) : ∀ {v : V} {d : D} {p : PyData}, Rep T xp G ι v d → toPy d = some p → Dp T.K H v p
  | _, _, _, .non, h => by simp only [toPy] at h; cases h; exact .non
  | _, _, _, .bl b, h => by simp only [toPy] at h; cases h; exact .bl b
  | _, _, _, .int i, h => by simp only [toPy] at h; cases h; exact .int i
  | _, _, _, .str x, h => by simp only [toPy] at h; cases h; exact .str x
  | _, _, _, .lst h1 r, h => by
    simp only [toPy, Option.map_eq_some_iff] at h
    obtain ⟨ps, h2, rfl⟩ := h
    exact .lst (SqL.of (l _ _ h1)) (dp_ofL l r h2)
  | _, _, _, .ro h1 r, h => by
    simp only [toPy, Option.map_eq_some_iff] at h
    obtain ⟨ps, h2, rfl⟩ := h
    exact .lst (le_l l h1) (dp_ofL l r h2)
  | _, _, _, .tup h1 r, h => by
    simp only [toPy, Option.map_eq_some_iff] at h
    obtain ⟨ps, h2, rfl⟩ := h
    exact .tup (le_t l h1.t) (dp_ofL l r h2)
  | _, _, _, .ty _, h => by simp only [toPy] at h; cases h
  | _, _, _, .cl _, h => by simp only [toPy] at h; cases h
  | _, _, _, .fn _, h => by simp only [toPy] at h; cases h
  | _, _, _, .dic _ _ _, h => by simp only [toPy] at h; cases h
  | _, _, _, .dct _ _ _ _, h => by simp only [toPy] at h; cases h
  | _, _, _, .ins _ _ _, h => by simp only [toPy] at h; cases h
  | _, _, _, .exc _ _, h => by simp only [toPy] at h; cases h
  | _, _, _, .excd _ _ _ _ _, h => by simp only [toPy] at h; cases h
  | _, _, _, .err _ _, h => by simp only [toPy] at h; cases h
  | _, _, _, .errd _ _ _ _, h => by simp only [toPy] at h; cases h
  | _, _, _, .box _, h => by simp only [toPy] at h; cases h
theorem dp_ofL (l : Le G H) : ∀ {v : List V} {d : List D} {p : List PyData}, RepL T xp G ι v d → toPyL d = some p → DpAll T.K H v p
  | _, _, _, .nil, h => by simp only [toPyL] at h; cases h; exact .nil
  | _, _, _, .cons r rs, h => by
    simp only [toPyL] at h
    split at h
    · rename_i h1 h2
      cases h
      exact .cons (dp_of l r h1) (dp_ofL l rs h2)
    · cases h
end
end
def eqD (x y : D) : Option Bool := match toPy x, toPy y with
  | some p, some q => if SeqAt.shaped p = true ∧ SeqAt.shaped q = true then some (PyData.eqv p q) else none
  | _, _ => none
theorem eqD_some {x y : D} {b : Bool} (h : eqD x y = some b) : ∃ p q, toPy x = some p ∧ toPy y = some q ∧ SeqAt.shaped p = true ∧ SeqAt.shaped q = true ∧ b = PyData.eqv p q := by
  unfold eqD at h
  split at h
  · rename_i p q hp hq
    split at h
    · rename_i hs
      exact ⟨p, q, hp, hq, hs.1, hs.2, (Option.some.inj h).symm⟩
    · cases h
  · cases h
def strEq : D → D → Option Bool
  | .str a, .str b => some (a == b)
  | _, _ => none
theorem strEq_some {x y : D} {b : Bool} (h : strEq x y = some b) : ∃ i j, x = .str i ∧ y = .str j ∧ b = (i == j) := by
  unfold strEq at h
  split at h
  · exact ⟨_, _, rfl, rfl, (Option.some.inj h).symm⟩
  · cases h
def fEq (x y : D) : Option D := ((strEq x y).map D.bl).or ((eqD x y).map D.bl)
def fNe (x y : D) : Option D := ((strEq x y).map fun b => D.bl (!b)).or ((eqD x y).map fun b => D.bl (!b))
section
variable {C : Ctx}
theorem cmp_eq (hu : C.X.A.units + 64 < cLine) : CmpD C .Eq fEq := ⟨_, op_eq.or (op_eqD hu), OpD.or (fun ι st H x y dx dy dz Q rl rx ry e k => by
  obtain ⟨b, hb, rfl⟩ := Option.map_eq_some_iff.mp e
  obtain ⟨i, j, rfl, rfl, rfl⟩ := strEq_some hb
  cases rx
  cases ry
  refine ⟨rfl, ?_⟩
  rw [dec_str]
  exact k _ ι H (Step.refl _ _ _) rl (.bl _)) fun ι st H x y dx dy dz Q rl rx ry e k => by
  obtain ⟨b, hb, rfl⟩ := Option.map_eq_some_iff.mp e
  obtain ⟨p, q, hp, hq, s1, s2, rfl⟩ := eqD_some hb
  refine ⟨p, q, ?_, ?_, s1, s2, k _ ι H (Step.refl _ _ _) rl (.bl _)⟩
  · rw [C.hK]; exact dp_of (hide_le _ _ _) rx hp
  · rw [C.hK]; exact dp_of (hide_le _ _ _) ry hq⟩
theorem cmp_ne (hu : C.X.A.units + 64 < cLine) : CmpD C .NotEq fNe := ⟨_, op_ne.or (op_neD hu), OpD.or (fun ι st H x y dx dy dz Q rl rx ry e k => by
  obtain ⟨b, hb, rfl⟩ := Option.map_eq_some_iff.mp e
  obtain ⟨i, j, rfl, rfl, rfl⟩ := strEq_some hb
  cases rx
  cases ry
  refine ⟨rfl, ?_⟩
  rw [dec_str]
  exact k _ ι H (Step.refl _ _ _) rl (.bl _)) fun ι st H x y dx dy dz Q rl rx ry e k => by
  obtain ⟨b, hb, rfl⟩ := Option.map_eq_some_iff.mp e
  obtain ⟨p, q, hp, hq, s1, s2, rfl⟩ := eqD_some hb
  refine ⟨p, q, ?_, ?_, s1, s2, k _ ι H (Step.refl _ _ _) rl (.bl _)⟩
  · rw [C.hK]; exact dp_of (hide_le _ _ _) rx hp
  · rw [C.hK]; exact dp_of (hide_le _ _ _) ry hq⟩
def fIsN : D → D → Option D
  | .non, .non => some (.bl true)
  | .bl _, .non => some (.bl false)
  | .int _, .non => some (.bl false)
  | .str _, .non => some (.bl false)
  | .lst _, .non => some (.bl false)
  | .ro _, .non => some (.bl false)
  | .tup _, .non => some (.bl false)
  | .dic _ _, .non => some (.bl false)
  | .ins _ _, .non => some (.bl false)
  | .box _, .non => some (.bl false)
  | _, _ => none
def fNotN (x y : D) : Option D := (fIsN x y).map fun d => match d with
  | .bl b => .bl (!b)
  | d => d
theorem fIsN_some {T : Txt} {xp : XT} {G : Hp} {ι : Io} {v w : V} {x y z : D} (r : Rep T xp G ι v x) (r' : Rep T xp G ι w y) (h : fIsN x y = some z) : w = .non ∧ z = .bl (decide (v = .non)) := by
  cases r' with
  | non =>
    refine ⟨rfl, ?_⟩
    cases r <;> first | (cases h; simp; done) | (cases h; done)
  | _ => cases r <;> cases h
theorem cmp_is : CmpD C .Is fIsN := ⟨_, op_isN, fun ι st H x y dx dy dz Q rl rx ry e k => by
  obtain ⟨h1, rfl⟩ := fIsN_some rx ry e
  exact ⟨h1, k _ ι H (Step.refl _ _ _) rl (.bl _)⟩⟩
theorem cmp_isnot : CmpD C .IsNot fNotN := ⟨_, op_notN, fun ι st H x y dx dy dz Q rl rx ry e k => by
  obtain ⟨d, hd, rfl⟩ := Option.map_eq_some_iff.mp e
  obtain ⟨h1, rfl⟩ := fIsN_some rx ry hd
  exact ⟨h1, k _ ι H (Step.refl _ _ _) rl (.bl _)⟩⟩
def flatD : D → Bool
  | .non | .bl _ | .int _ | .str _ => true
  | _ => false
def flatV' : D → V
  | .bl b => .bl b
  | .int i => .int i
  | .str x => .str x
  | _ => .non
theorem flat_rep {T : Txt} {xp : XT} {G : Hp} {ι : Io} {v : V} {d : D} (r : Rep T xp G ι v d) (h : flatD d = true) : v = flatV' d ∧ flatV v = true := by
  cases r <;> first | exact ⟨rfl, rfl⟩ | (cases h; done)
theorem flat_repL {T : Txt} {xp : XT} {G : Hp} {ι : Io} : ∀ {v : List V} {d : List D}, RepL T xp G ι v d → d.all flatD = true → v = d.map flatV' ∧ v.all flatV = true
  | _, _, .nil, _ => ⟨rfl, rfl⟩
  | _, _, .cons r rs, h => by
    rw [List.all_cons, Bool.and_eq_true] at h
    obtain ⟨e1, e2⟩ := flat_rep r h.1
    obtain ⟨e3, e4⟩ := flat_repL rs h.2
    exact ⟨by rw [e1, e3]; rfl, by rw [List.all_cons, e2, e4]; rfl⟩
def seqOf : D → Option (List D)
  | .lst xs => some xs
  | .ro xs => some xs
  | .tup xs => some xs
  | _ => none
theorem seq_rep {T : Txt} {xp : XT} {G H : Hp} {ι : Io} {v : V} {d : D} {ds : List D} (l : Le G H) (r : Rep T xp G ι v d) (h : seqOf d = some ds) : ∃ a xs, v = .ref a ∧ (SqL T.K H a xs ∨ SqT T.K H a xs) ∧ RepL T xp G ι xs ds := by
  cases r with
  | lst h1 h2 => cases h; exact ⟨_, _, rfl, .inl (SqL.of (l _ _ h1)), h2⟩
  | ro h1 h2 => cases h; exact ⟨_, _, rfl, .inl (le_l l h1), h2⟩
  | tup h1 h2 => cases h; exact ⟨_, _, rfl, .inr (le_t l h1.t), h2⟩
  | _ => cases h
def inD (x y : D) : Option Bool := match seqOf y with
  | some ys => if flatD x = true ∧ ys.all flatD = true then some (inV (flatV' x) (ys.map flatV')) else none
  | none => none
theorem inD_some {x y : D} {b : Bool} (h : inD x y = some b) : ∃ ys, seqOf y = some ys ∧ flatD x = true ∧ ys.all flatD = true ∧ b = inV (flatV' x) (ys.map flatV') := by
  unfold inD at h
  split at h
  · rename_i ys hy
    split at h
    · rename_i hs
      exact ⟨ys, hy, hs.1, hs.2, (Option.some.inj h).symm⟩
    · cases h
  · cases h
theorem in_seq {neg : Bool} : OpD C (rIn C.X.K neg) (fun x y => (inD x y).map fun b => D.bl (if neg = true then !b else b)) := fun ι st H x y dx dy dz Q rl rx ry e k => by
  obtain ⟨b, hb, rfl⟩ := Option.map_eq_some_iff.mp e
  obtain ⟨ys, hy, f1, f2, rfl⟩ := inD_some hb
  obtain ⟨a, xs, rfl, hs, rs⟩ := seq_rep (hide_le ι st H) ry hy
  obtain ⟨e1, e2⟩ := flat_rep rx f1
  obtain ⟨e3, e4⟩ := flat_repL rs f2
  refine ⟨a, xs, rfl, by rw [C.hK]; exact hs, e2, e4, ?_⟩
  rw [e1, e3]
  cases neg with
  | true => exact k _ ι H (Step.refl _ _ _) rl (.bl _)
  | false => exact k _ ι H (Step.refl _ _ _) rl (.bl _)
def signIn : D → D → Option Bool
  | .str x, .str z => if x.cps.size = 1 then some (decide (x.cps.getD 0 0 ∈ z.cps.toList)) else none
  | _, _ => none
theorem one_sign {x : Str} (h : x.cps.size = 1) : x = ⟨#[x.cps.getD 0 0]⟩ := by
  obtain ⟨⟨l⟩⟩ := x
  match l, h with
  | [a], _ => rfl
theorem signIn_some {x y : D} {b : Bool} (h : signIn x y = some b) : ∃ c z, x = .str ⟨#[c]⟩ ∧ y = .str z ∧ b = decide (c ∈ z.cps.toList) := by
  cases x <;> first | (cases h; done) | skip
  cases y <;> first | (cases h; done) | skip
  rename_i x z
  dsimp only [signIn] at h
  split at h
  · rename_i hs
    exact ⟨_, z, congrArg D.str (one_sign hs), rfl, (Option.some.inj h).symm⟩
  · cases h
def fIn (x y : D) : Option D := ((inD x y).map fun b => D.bl (if false = true then !b else b)).or ((signIn x y).map D.bl)
def fNotIn (x y : D) : Option D := ((inD x y).map fun b => D.bl (if true = true then !b else b)).or ((signIn x y).map fun b => D.bl (!b))
theorem cmp_in : CmpD C .In fIn := ⟨_, op_in_seq.or op_in_sign, in_seq.or fun ι st H x y dx dy dz Q rl rx ry e k => by
  obtain ⟨b, hb, rfl⟩ := Option.map_eq_some_iff.mp e
  obtain ⟨c, z, rfl, rfl, rfl⟩ := signIn_some hb
  cases rx
  cases ry
  exact ⟨c, z, rfl, rfl, k _ ι H (Step.refl _ _ _) rl (.bl _)⟩⟩
theorem cmp_notin : CmpD C .NotIn fNotIn := ⟨_, op_notIn_seq.or op_notIn_sign, in_seq.or fun ι st H x y dx dy dz Q rl rx ry e k => by
  obtain ⟨b, hb, rfl⟩ := Option.map_eq_some_iff.mp e
  obtain ⟨c, z, rfl, rfl, rfl⟩ := signIn_some hb
  cases rx
  cases ry
  exact ⟨c, z, rfl, rfl, k _ ι H (Step.refl _ _ _) rl (.bl _)⟩⟩
end
end Den
set_option maxRecDepth 100000
set_option maxHeartbeats 4000000
namespace Den
open PySem PySem.Spec L2
def itemsOf (d : D) (st : Store) : Option (List D) := match d with
  | .lst xs => some xs
  | .ro xs => some xs
  | .tup xs => some xs
  | .box k => match st[k]? with
    | some (.lst xs) => some xs
    | _ => none
  | _ => none
theorem items_rep {T : Txt} {xp : XT} {ι : Io} {st : Store} {H : Hp} {v : V} {d : D} {ds : List D} (rl : RelSt T xp ι st H) (r : Rep T xp (hide ι st H) ι v d) (h : itemsOf d st = some ds) :
    ∃ a xs, v = .ref a ∧ (SqL T.K H a xs ∨ SqT T.K H a xs) ∧ RepL T xp (hide ι st H) ι xs ds := by
  cases r with
  | lst h1 h2 => cases h; exact ⟨_, _, rfl, .inl (SqL.of (hide_sub h1)), h2⟩
  | ro h1 h2 => cases h; exact ⟨_, _, rfl, .inl (le_l (hide_le _ _ _) h1), h2⟩
  | tup h1 h2 => cases h; exact ⟨_, _, rfl, .inr (le_t (hide_le _ _ _) h1.t), h2⟩
  | box hk =>
    unfold itemsOf at h
    dsimp only at h
    split at h
    · rename_i xs hs
      cases h
      obtain ⟨ys, h1, h2⟩ := rl.ok _ _ _ hk hs
      exact ⟨_, _, rfl, .inl (SqL.of h1), h2⟩
    · cases h
  | _ => cases h
def litemsOf (d : D) (st : Store) : Option (List D) := match d with
  | .lst xs => some xs
  | .ro xs => some xs
  | .box k => match st[k]? with
    | some (.lst xs) => some xs
    | _ => none
  | _ => none
theorem litems_rep {T : Txt} {xp : XT} {ι : Io} {st : Store} {H : Hp} {v : V} {d : D} {ds : List D} (rl : RelSt T xp ι st H) (r : Rep T xp (hide ι st H) ι v d) (h : litemsOf d st = some ds) :
    ∃ a xs, v = .ref a ∧ SqL T.K H a xs ∧ RepL T xp (hide ι st H) ι xs ds := by
  cases r with
  | lst h1 h2 => cases h; exact ⟨_, _, rfl, SqL.of (hide_sub h1), h2⟩
  | ro h1 h2 => cases h; exact ⟨_, _, rfl, le_l (hide_le _ _ _) h1, h2⟩
  | box hk =>
    unfold litemsOf at h
    dsimp only at h
    split at h
    · rename_i xs hs
      cases h
      obtain ⟨ys, h1, h2⟩ := rl.ok _ _ _ hk hs
      exact ⟨_, _, rfl, SqL.of h1, h2⟩
    · cases h
  | _ => cases h
theorem atI_rep {T : Txt} {xp : XT} {G : Hp} {ι : Io} {xs : List V} {ds : List D} {i : Int} {d : D} (r : RepL T xp G ι xs ds) (h : atI ds i = some d) : ∃ v, atI xs i = some v ∧ Rep T xp G ι v d := by
  unfold atI at h ⊢
  rw [r.length]
  cases hj : ixN ds.length i with
  | none => rw [hj] at h; cases h
  | some j =>
    rw [hj] at h
    simp only [Option.bind_some] at h ⊢
    obtain ⟨u, h1, h2⟩ := r.get h
    exact ⟨u, h1, h2⟩
def ixD (x : D) (i : D) (st : Store) : Option D := match i with
  | .int j => match x with
    | .str z => if z.length ≤ 1000000 then (atI z.cps.toList j).map fun c => D.str ⟨#[c]⟩ else none
    | x => (itemsOf x st).bind fun xs => atI xs j
  | _ => none
def dIx (a b : DE) : DE := fun ρ st => (a ρ st).bind fun x s1 => (b ρ s1).bind fun y s2 => match ixD x y s2 with
  | some z => .ok z s2
  | none => .bad
section
variable {C : Ctx} {a b e : Expr} {es : List Expr} {ma mb : DE} {pos apos : Pos}
theorem pd_ix (ha : PD C a ma) (hb : PD C b mb) (hs : PlainIx b := by intro _ _; rfl) : PD C (.Subscript a b pos) (dIx ma mb) :=
  PE.imp (pe_ix ix_seq ha hb hs) fun σ H Q ⟨ρ, st, ι, er, rl, p⟩ => by
    refine ⟨ρ, st, ι, er, rl, post_bind p fun d s1 v ι1 H1 st1 rl1 rv p1 => ?_⟩
    refine ⟨ρ, s1, ι1, er.step st1, rl1, post_bind p1 fun d2 s2 v2 ι2 H2 st2 rl2 rv2 p2 => ?_⟩
    split at p2
    · rename_i z hz
      have rv' := rv.mono st2.ex st2.pre
      have fin : ∀ w, Rep C.T C.xp (hide ι2 s2 H2) ι2 w z → Q w H2 := fun w rw => p2 w ι2 H2 (Step.refl _ _ _) rl2 rw
      unfold ixD at hz
      split at hz
      · rename_i i
        cases rv2
        split at hz
        · rename_i z'
          cases rv'
          split at hz
          · rename_i hl
            obtain ⟨c, hc, rfl⟩ := Option.map_eq_some_iff.mp hz
            exact .inr (.inr ⟨z', i, c, rfl, rfl, Nat.le_trans hl (by decide), hc, fin _ (.str _)⟩)
          · cases hz
        · obtain ⟨xs, hx, hz⟩ := Option.bind_eq_some_iff.mp hz
          obtain ⟨p, ys, rfl, hs, rs⟩ := items_rep rl2 rv' hx
          obtain ⟨w, hw, rw⟩ := atI_rep rs hz
          rcases hs with hs | hs
          · exact .inl ⟨p, ys, i, w, rfl, rfl, by rw [C.hK]; exact hs, hw, fin _ rw⟩
          · exact .inr (.inl ⟨p, ys, i, w, rfl, rfl, by rw [C.hK]; exact hs, hw, fin _ rw⟩)
      · cases hz
    · exact p2.elim
abbrev DO := Rho → Store → Res (Option Int)
def tDO (T : Txt) (xp : XT) (W : WX) (m : DO) : TO := fun σ H Q => ∃ ρ st ι, EnvR T xp (hide ι st H) ι ρ σ ∧ RelSt T xp ι st H ∧ Post T xp (fun c d H => W c d σ H) ι st H (fun _ _ (a b : Option Int) => a = b) Q (m ρ st)
abbrev PDO (C : Ctx) (e : Option Expr) (m : DO) : Prop := PO C.X e (tDO C.T C.xp C.W m)
theorem PO.imp {X : Cx} {e : Option Expr} {t t' : TO} (h : PO X e t) (i : ∀ σ H Q, t' σ H Q → t σ H Q) : PO X e t' := ⟨fun pins s σ H Q I q => h.run pins s σ H Q I (i σ H Q q)⟩
def oNone : DO := fun _ st => .ok none st
def oSome (a : DE) : DO := fun ρ st => (a ρ st).bind fun x s1 => match x with
  | .int i => .ok (some i) s1
  | _ => .bad
theorem pdo_none : PDO C none oNone := PO.imp po_none fun σ H Q ⟨ρ, st, ι, er, rl, p⟩ => p none ι H (Step.refl _ _ _) rl rfl
theorem pdo_some (h : PD C e ma) : PDO C (some e) (oSome ma) := PO.imp (po_some h) fun σ H Q ⟨ρ, st, ι, er, rl, p⟩ => by
  refine ⟨ρ, st, ι, er, rl, post_bind p fun d s1 v ι1 H1 st1 rl1 rv p1 => ?_⟩
  cases rv with
  | int i => exact ⟨i, rfl, p1 _ ι1 H1 (Step.refl _ _ _) rl1 rfl⟩
  | _ => exact p1.elim
def cutD (xs : List D) (lo hi : Option Int) : List D := (xs.drop (HT.sIx xs.length 0 lo)).take (HT.sIx xs.length xs.length hi - HT.sIx xs.length 0 lo)
theorem cut_rep {T : Txt} {xp : XT} {G : Hp} {ι : Io} {xs : List V} {ds : List D} (r : RepL T xp G ι xs ds) (lo hi : Option Int) : RepL T xp G ι (cutV xs lo hi) (cutD ds lo hi) := by
  unfold cutV cutD
  rw [r.length]
  exact (r.drop _).take _
def slD (x : D) (lo hi : Option Int) (st : Store) : Option D := match x with
  | .str z => if z.length ≤ 1000000 then some (.str (cutS z lo hi)) else none
  | .tup xs => some (.tup (cutD xs lo hi))
  | x => (litemsOf x st).map fun xs => .lst (cutD xs lo hi)
def dSl (a : DE) (l h : DO) : DE := fun ρ st => (a ρ st).bind fun x s1 => (l ρ s1).bind fun lo s2 => (h ρ s2).bind fun hi s3 => match slD x lo hi s3 with
  | some z => .ok z s3
  | none => .bad
theorem cut_whole (xs : List D) (lo hi : Option Int) (h : HT.sIx xs.length 0 lo = 0 ∧ HT.sIx xs.length xs.length hi = xs.length) : cutD xs lo hi = xs := by
  unfold cutD
  rw [h.1, h.2]
  simp
def rSlN (K : PySem.W.Frag) : V → Option Int → Option Int → Hp → VK → Prop := fun x lo hi H Q => ∃ (a : Addr) (xs : List V), x = .ref a ∧ SqT K H a xs ∧ (HT.sIx xs.length 0 lo = 0 ∧ HT.sIx xs.length xs.length hi = xs.length → Q x H) ∧
  (¬ (HT.sIx xs.length 0 lo = 0 ∧ HT.sIx xs.length xs.length hi = xs.length) → ∀ p o, o.dict = none → H p = none → Q (.ref p) (upd H p (.frz o (.tup (cutV xs lo hi)))))
theorem sl_tupN {X : Cx} : SlR X (rSlN X.K) := by
  intro pins s σ H x v vl vu lo hi sl Q I rx hs pl pu h
  obtain ⟨a, xs, rfl, hx, q1, q2⟩ := h
  cases rx
  obtain ⟨us, r, ht, hz⟩ := I.tuple hx
  have hl : us.toArray.size = xs.length := by rw [List.size_toArray]; exact r.length.symm
  refine ⟨"tuple", _, PyProof.Rows.slot_tuple_getitem.lookup, ht.typeIs, ?_⟩
  by_cases hw : HT.sIx xs.length 0 lo = 0 ∧ HT.sIx xs.length xs.length hi = xs.length
  · refine getItem_tuple_whole ht hs pl pu ?_ ⟨.ref a, H, I, rfl, q1 hw⟩
    rw [hl]
    exact hw
  · refine HT.getItem_tuple_cut ht hs pl pu ?_ ?_ ?_
    · rw [hl]
      exact hw
    · rw [hl]
      exact ⟨.ref s.heap.objs.size, _, I.laid (t' := s.toks) (fun b u e => Heap.get?_push_of_some _ e) (Nat.le_refl _) (tup_known (Nat.le_trans (cutV_length xs lo hi) hz) ((r.drop _).take _)), rfl, q2 hw _ _ rfl (I.hok.fresh (Nat.le_refl _))⟩
    · rw [hl]
      exact hz
theorem pd_slice {lo hi : Option Expr} {ml mh : DO} {p2 : Pos} (ha : PD C a ma) (hl : PDO C lo ml) (hh : PDO C hi mh) : PD C (.Subscript a (.Slice lo hi none p2) pos) (dSl ma ml mh) :=
  PE.imp (pe_slice (sl_str.or (sl_tupN.or sl_list)) ha hl hh) fun σ H Q ⟨ρ, st, ι, er, rl, p⟩ => by
    refine ⟨ρ, st, ι, er, rl, post_bind p fun d s1 v ι1 H1 st1 rl1 rv p1 => ?_⟩
    refine ⟨ρ, s1, ι1, er.step st1, rl1, post_bind p1 fun d2 s2 v2 ι2 H2 st2 rl2 rv2 p2 => ?_⟩
    refine ⟨ρ, s2, ι2, er.step (st1.trans st2), rl2, post_bind p2 fun d3 s3 v3 ι3 H3 st3 rl3 rv3 p3 => ?_⟩
    have e2 : v2 = d2 := rv2
    have e3 : v3 = d3 := rv3
    subst e2 e3
    have rv' := rv.mono (st2.ex.trans st3.ex) (st2.pre.trans st3.pre)
    split at p3
    · rename_i z hz
      unfold slD at hz
      split at hz
      · rename_i z'
        cases rv'
        split at hz
        · rename_i hl
          cases hz
          exact .inl ⟨z', rfl, Nat.le_trans hl (by decide), p3 _ ι3 H3 (Step.refl _ _ _) rl3 (.str _)⟩
        · cases hz
      · cases hz
        cases rv' with
        | @tup q ys ds h1 r1 =>
          refine .inr (.inl ⟨q, ys, rfl, by rw [C.hK]; exact le_t (hide_le _ _ _) h1.t, fun hw => ?_, fun _ pp o ho hp => ?_⟩)
          · rw [r1.length] at hw
            rw [cut_whole _ _ _ hw] at p3
            exact p3 _ ι3 H3 (Step.refl _ _ _) rl3 (.tup h1 r1)
          · obtain ⟨ra, sa, ea⟩ := rl3.new (o := .frz o (.tup (cutV ys v2 v3))) hp
            exact p3 _ ι3 _ sa ra (.tup (.inl ⟨o, ea, ho⟩) ((cut_rep r1 _ _).mono sa.ex sa.pre))
      · obtain ⟨xs, hx, rfl⟩ := Option.map_eq_some_iff.mp hz
        obtain ⟨q, ys, rfl, hl, rs⟩ := litems_rep rl3 rv' hx
        refine .inr (.inr ⟨q, ys, rfl, by rw [C.hK]; exact hl, fun pp hp => ?_⟩)
        obtain ⟨ra, sa, ea⟩ := rl3.new (o := .lst (cutV ys v2 v3)) hp
        exact p3 _ ι3 _ sa ra (.lst ea ((cut_rep rs _ _).mono sa.ex sa.pre))
    · exact p3.elim
end
end Den
set_option maxRecDepth 100000
set_option maxHeartbeats 4000000
namespace Den
open PySem PySem.Spec PyProof.Rows L2
abbrev FB := List D → Store → Option (D × Store)
def ofO (o : Option (D × Store)) : Res D := match o with
  | some (d, st) => .ok d st
  | none => .bad
def CallD (C : Ctx) (r : List V → Hp → VK → Prop) (f : FB) : Prop := ∀ ι st H xs ds d st' (Q : VK), RelSt C.T C.xp ι st H → RepL C.T C.xp (hide ι st H) ι xs ds → f ds st = some (d, st') →
  (∀ v ι' H', Step ι st H ι' st' H' → RelSt C.T C.xp ι' st' H' → Rep C.T C.xp (hide ι' st' H') ι' v d → Q v H') → r xs H Q
structure BltD (C : Ctx) (id : String) (f : FB) : Prop where
  ex : ∃ r, CallR C.X (.builtin id) r ∧ CallD C r f
structure TyD (C : Ctx) (t : String) (f : FB) : Prop where
  ex : ∃ r, CallR C.X (.type t) r ∧ CallD C r f
def orB (f g : FB) : FB := fun ds st => (f ds st).or (g ds st)
section
variable {C : Ctx}
theorem CallR.or {g : Value} {r r' : List V → Hp → VK → Prop} (h : CallR C.X g r) (h' : CallR C.X g r') : CallR C.X g (fun xs H Q => r xs H Q ∨ r' xs H Q) := by
  intro pins s σ H xs us Q I rx q
  rcases q with q | q
  · exact h pins s σ H xs us Q I rx q
  · exact h' pins s σ H xs us Q I rx q
theorem CallD.or {r r' : List V → Hp → VK → Prop} {f f' : FB} (h : CallD C r f) (h' : CallD C r' f') : CallD C (fun xs H Q => r xs H Q ∨ r' xs H Q) (orB f f') := fun ι st H xs ds d st' Q rl rx e k => by
  unfold orB at e
  cases hf : f ds st with
  | some z =>
    rw [hf] at e
    exact .inl (h ι st H xs ds d st' Q rl rx (hf.trans e) k)
  | none =>
    rw [hf] at e
    exact .inr (h' ι st H xs ds d st' Q rl rx e k)
theorem BltD.or {id : String} {f f' : FB} (h : BltD C id f) (h' : BltD C id f') : BltD C id (orB f f') := by
  obtain ⟨r, a, b⟩ := h.ex
  obtain ⟨r', a', b'⟩ := h'.ex
  exact ⟨_, a.or a', b.or b'⟩
theorem TyD.or {id : String} {f f' : FB} (h : TyD C id f) (h' : TyD C id f') : TyD C id (orB f f') := by
  obtain ⟨r, a, b⟩ := h.ex
  obtain ⟨r', a', b'⟩ := h'.ex
  exact ⟨_, a.or a', b.or b'⟩
def dCB (f : FB) (a : DA) : DE := fun ρ st => (a ρ st).bind fun ds s1 => ofO (f ds s1)
theorem cb_of {r : List V → Hp → VK → Prop} {f : FB} {ma : DA} (h : CallD C r f) : ∀ σ H Q, tD C.T C.xp C.W (dCB f ma) σ H Q → tCB r (tDA C.T C.xp C.W ma) σ H Q := fun σ H Q ⟨ρ, st, ι, er, rl, p⟩ => by
  refine ⟨ρ, st, ι, er, rl, post_bind p fun ds s1 vs ι1 H1 st1 rl1 rv p1 => ?_⟩
  cases hf : f ds s1 with
  | none =>
    rw [hf] at p1
    exact p1.elim
  | some z =>
    rw [hf] at p1
    exact h ι1 s1 H1 vs ds z.1 z.2 Q rl1 rv hf p1
variable {x : Str} {p pos : Pos} {e : Expr} {es : List Expr} {ma : DA} {f : FB}
theorem pd_blt {id : String} (h : BltD C id f) (hg : Gl C.X x) (hm : C.X.mg x = none) (hv : bootBuiltins x = some (.builtin id)) (ha : PDA C (e :: es) ma) (hn : x ≠ "__name__" := by decide) (hdb : (x == ("__debug__" : Str)) = false := by decide)
    (he : starEach (e :: es) C.X.env = (false, eval e C.X.env) :: starEach es C.X.env := by rfl) (hpl : (backTo pos (starEach es C.X.env)).any (·.1) = false := by rfl) : PD C (.Call (.Name x p) (e :: es) [] pos) (dCB f ma) := by
  obtain ⟨r, a, b⟩ := h.ex
  exact PE.imp (pe_callB a hg hm hv ha hn hdb he hpl) (cb_of b)
theorem pd_ty {id : String} (h : TyD C id f) (hg : Gl C.X x) (hm : C.X.mg x = none) (hv : bootBuiltins x = some (.type id)) (ha : PDA C (e :: es) ma) (hn : x ≠ "__name__" := by decide) (hdb : (x == ("__debug__" : Str)) = false := by decide)
    (he : starEach (e :: es) C.X.env = (false, eval e C.X.env) :: starEach es C.X.env := by rfl) (hpl : (backTo pos (starEach es C.X.env)).any (·.1) = false := by rfl) : PD C (.Call (.Name x p) (e :: es) [] pos) (dCB f ma) := by
  obtain ⟨r, a, b⟩ := h.ex
  exact PE.imp (pe_callTy a hg hm hv ha hn hdb he hpl) (cb_of b)
def one (g : D → Store → Option D) : FB := fun ds st => match ds with
  | [x] => (g x st).map fun z => (z, st)
  | _ => none
theorem one_some {g : D → Store → Option D} {ds : List D} {st st' : Store} {d : D} (h : one g ds st = some (d, st')) : ∃ x, ds = [x] ∧ g x st = some d ∧ st' = st := by
  unfold one at h
  split at h
  · rename_i x
    obtain ⟨z, h1, h2⟩ := Option.map_eq_some_iff.mp h
    cases h2
    exact ⟨x, rfl, h1, rfl⟩
  · cases h
theorem repL_one {T : Txt} {xp : XT} {G : Hp} {ι : Io} {xs : List V} {x : D} (r : RepL T xp G ι xs [x]) : ∃ v, xs = [v] ∧ Rep T xp G ι v x := by
  cases r with
  | cons r1 r2 =>
    cases r2
    exact ⟨_, rfl, r1⟩
def gLen (x : D) (st : Store) : Option D := match x with
  | .str z => if z.length ≤ 1000000 then some (.int z.length) else none
  | x => (itemsOf x st).map fun xs => .int xs.length
theorem blt_len : BltD C "len" (one gLen) := ⟨_, call_len, fun ι st H xs ds d st' Q rl rx e k => by
  obtain ⟨x, rfl, hg, rfl⟩ := one_some e
  obtain ⟨v, rfl, rv⟩ := repL_one rx
  unfold gLen at hg
  split at hg
  · rename_i z
    cases rv
    split at hg
    · rename_i hl
      cases hg
      exact ⟨_, _, rfl, ⟨Nat.le_trans hl (by decide), rfl⟩, k _ ι H (Step.refl _ _ _) rl (.int _)⟩
    · cases hg
  · obtain ⟨ys, hy, rfl⟩ := Option.map_eq_some_iff.mp hg
    obtain ⟨a, zs, rfl, hs, rs⟩ := items_rep rl rv hy
    refine ⟨.ref a, zs.length, rfl, ?_, k _ ι H (Step.refl _ _ _) rl ?_⟩
    · rw [C.hK]
      rcases hs with hs | hs
      · exact .inl ⟨zs, hs, rfl⟩
      · exact .inr ⟨zs, hs, rfl⟩
    · rw [rs.length]
      exact .int _⟩
def boolsOf : List D → Option (List Bool)
  | [] => some []
  | .bl b :: r => (boolsOf r).map (b :: ·)
  | _ :: _ => none
theorem bools_rep {T : Txt} {xp : XT} {G : Hp} {ι : Io} : ∀ {xs : List V} {ds : List D} {bs : List Bool}, RepL T xp G ι xs ds → boolsOf ds = some bs → xs = bs.map V.bl
  | _, _, _, .nil, h => by cases h; rfl
  | _, _, _, .cons r rs, h => by
    cases r with
    | bl b =>
      simp only [boolsOf, Option.map_eq_some_iff] at h
      obtain ⟨r', h1, rfl⟩ := h
      rw [bools_rep rs h1]
      rfl
    | _ => simp [boolsOf] at h
def gAll (x : D) (st : Store) : Option D := (litemsOf x st).bind fun xs => (boolsOf xs).map fun bs => .bl (bs.all id)
theorem blt_all (hc : C.X.calm = true) : BltD C "all" (one gAll) := ⟨_, cr_all hc, fun ι st H xs ds d st' Q rl rx e k => by
  obtain ⟨x, rfl, hg, rfl⟩ := one_some e
  obtain ⟨v, rfl, rv⟩ := repL_one rx
  obtain ⟨ys, hy, hg⟩ := Option.bind_eq_some_iff.mp hg
  obtain ⟨bs, hb, rfl⟩ := Option.map_eq_some_iff.mp hg
  obtain ⟨a, zs, rfl, hs, rs⟩ := litems_rep rl rv hy
  refine ⟨a, bs, rfl, ?_, k _ ι H (Step.refl _ _ _) rl (.bl _)⟩
  rw [C.hK, ← bools_rep rs hb]
  exact hs⟩
def gAny (x : D) (st : Store) : Option D := (litemsOf x st).bind fun xs => (boolsOf xs).map fun bs => .bl (bs.any id)
def two (g : Int → Int → Int) : FB := fun ds st => match ds with
  | [.int i, .int j] => some (.int (g i j), st)
  | _ => none
theorem two_some {g : Int → Int → Int} {ds : List D} {st st' : Store} {d : D} (h : two g ds st = some (d, st')) : ∃ i j, ds = [.int i, .int j] ∧ d = .int (g i j) ∧ st' = st := by
  unfold two at h
  split at h
  · cases h
    exact ⟨_, _, rfl, rfl, rfl⟩
  · cases h
theorem repL_ints {T : Txt} {xp : XT} {G : Hp} {ι : Io} {xs : List V} {i j : Int} (r : RepL T xp G ι xs [.int i, .int j]) : xs = [.int i, .int j] := by
  cases r with
  | cons r1 r2 =>
    cases r2 with
    | cons r2 r3 =>
      cases r3
      cases r1
      cases r2
      rfl
theorem blt_max2 (hc : C.X.calm = true) : BltD C "max" (two fun i j => if j > i then j else i) := ⟨_, call_max2 hc, fun ι st H xs ds d st' Q rl rx e k => by
  obtain ⟨i, j, rfl, rfl, rfl⟩ := two_some e
  exact ⟨i, j, repL_ints rx, k _ ι H (Step.refl _ _ _) rl (.int _)⟩⟩
theorem blt_min2 (hc : C.X.calm = true) : BltD C "min" (two fun i j => if j < i then j else i) := ⟨_, call_min2 hc, fun ι st H xs ds d st' Q rl rx e k => by
  obtain ⟨i, j, rfl, rfl, rfl⟩ := two_some e
  exact ⟨i, j, repL_ints rx, k _ ι H (Step.refl _ _ _) rl (.int _)⟩⟩
def gInt (x : D) (_ : Store) : Option D := match x with
  | .int i => some (.int i)
  | .bl k => some (.int (if k then 1 else 0))
  | _ => none
theorem ty_int : TyD C "int" (one gInt) := ⟨_, call_int1, fun ι st H xs ds d st' Q rl rx e k => by
  obtain ⟨x, rfl, hg, rfl⟩ := one_some e
  obtain ⟨v, rfl, rv⟩ := repL_one rx
  cases rv with
  | int i => cases hg; exact .inl ⟨i, rfl, k _ ι H (Step.refl _ _ _) rl (.int _)⟩
  | bl b => cases hg; exact .inr ⟨b, rfl, k _ ι H (Step.refl _ _ _) rl (.int _)⟩
  | _ => cases hg⟩
def gStr (x : D) (_ : Store) : Option D := match x with
  | .int i => if i.natAbs.log2 < 1920 then some (.str (toString i)) else none
  | .str z => some (.str z)
  | _ => none
theorem ty_str : TyD C "str" (one gStr) := ⟨_, CallR.or L2.call_str_int SkE.call_str_str, fun ι st H xs ds d st' Q rl rx e k => by
  obtain ⟨x, rfl, hg, rfl⟩ := one_some e
  obtain ⟨v, rfl, rv⟩ := repL_one rx
  cases rv with
  | int i =>
    unfold gStr at hg
    dsimp only at hg
    split at hg
    · rename_i hl
      cases hg
      exact .inl ⟨i, rfl, hl, k _ ι H (Step.refl _ _ _) rl (.str _)⟩
    · cases hg
  | str z => cases hg; exact .inr ⟨z, rfl, k _ ι H (Step.refl _ _ _) rl (.str _)⟩
  | _ => cases hg⟩
def gList (x : D) (st : Store) : Option D := (itemsOf x st).map D.lst
theorem ty_list : TyD C "list" (one gList) := ⟨_, call_list_of, fun ι st H xs ds d st' Q rl rx e k => by
  obtain ⟨x, rfl, hg, rfl⟩ := one_some e
  obtain ⟨v, rfl, rv⟩ := repL_one rx
  obtain ⟨ys, hy, rfl⟩ := Option.map_eq_some_iff.mp hg
  obtain ⟨a, zs, rfl, hs, rs⟩ := items_rep rl rv hy
  refine ⟨a, zs, rfl, by rw [C.hK]; exact hs, fun l hl => ?_⟩
  obtain ⟨ra, sa, ea⟩ := rl.new (o := .lst zs) hl
  exact k _ ι _ sa ra (.lst ea (rs.mono sa.ex sa.pre))⟩
def gTuple (x : D) (st : Store) : Option D := match x with
  | .tup xs => some (.tup xs)
  | x => (litemsOf x st).map D.tup
theorem call_tupleN {X : Cx} : CallR X (.type "tuple") (fun xs H Q => ∃ (a : Addr) (ys : List V), xs = [.ref a] ∧ ((SqL X.K H a ys ∧ ∀ p o, o.dict = none → H p = none → Q (.ref p) (upd H p (.frz o (.tup ys)))) ∨ (SqT X.K H a ys ∧ Q (.ref a) H))) := by
  intro pins s σ H xs us Q I r h
  obtain ⟨a, ys, rfl, h⟩ := h
  rw [Vals.ref1 r]
  rcases h with ⟨hq, q⟩ | ⟨hq, q⟩
  · obtain ⟨ws, rw', pl, hz⟩ := I.list hq
    have hl := rw'.length
    refine call_tuple_list pl.isList (fun h' kp => ?_) (by simp only [List.size_toArray] <;> omega)
    have J : Inv X pins σ H { s with heap := h' } := I.kept (t' := s.toks) kp
    exact ⟨.ref h'.objs.size, _, J.laid (t' := s.toks) (fun b u e => Heap.get?_push_of_some _ e) (Nat.le_refl _) (tup_known hz rw'), rfl, q _ _ rfl (J.hok.fresh (Nat.le_refl _))⟩
  · obtain ⟨ws, _, pl, _⟩ := I.tuple hq
    exact call_tuple_same pl ⟨.ref a, H, I, rfl, q⟩
theorem ty_tuple : TyD C "tuple" (one gTuple) := ⟨_, call_tupleN, fun ι st H xs ds d st' Q rl rx e k => by
  obtain ⟨x, rfl, hg, rfl⟩ := one_some e
  obtain ⟨v, rfl, rv⟩ := repL_one rx
  unfold gTuple at hg
  split at hg
  · cases hg
    cases rv with
    | tup h1 r1 => exact ⟨_, _, rfl, .inr ⟨by rw [C.hK]; exact le_t (hide_le _ _ _) h1.t, k _ ι H (Step.refl _ _ _) rl (.tup h1 r1)⟩⟩
  · obtain ⟨ys, hy, rfl⟩ := Option.map_eq_some_iff.mp hg
    obtain ⟨a, zs, rfl, hs, rs⟩ := litems_rep rl rv hy
    refine ⟨a, zs, rfl, .inl ⟨by rw [C.hK]; exact hs, fun l o ho hl => ?_⟩⟩
    obtain ⟨ra, sa, ea⟩ := rl.new (o := .frz o (.tup zs)) hl
    exact k _ ι _ sa ra (.tup (.inl ⟨o, ea, ho⟩) (rs.mono sa.ex sa.pre))⟩
def tyD (T : String) (d : D) (st : Store) : Bool := match d with
  | .str _ => T == "str"
  | d => T == "list" && (litemsOf d st).isSome
theorem tyD_v {K : PySem.W.Frag} {T : Txt} {xp : XT} {ι : Io} {st : Store} {H : Hp} {v : V} {d : D} {t : String} (hK : K = T.K) (rl : RelSt T xp ι st H) (r : Rep T xp (hide ι st H) ι v d) (h : tyD t d st = true) : tyV K t v H := by
  subst hK
  unfold tyD at h
  split at h
  · cases r
    exact beq_iff_eq.mp h
  · rw [Bool.and_eq_true] at h
    obtain ⟨ys, hy⟩ := Option.isSome_iff_exists.mp h.2
    obtain ⟨a, zs, rfl, hs, _⟩ := litems_rep rl r hy
    exact .inl ⟨beq_iff_eq.mp h.1, zs, hs⟩
abbrev FM := D → List D → Store → Option (D × Store)
def MethD (C : Ctx) (r : V → List V → Hp → VK → Prop) (f : FM) : Prop := ∀ ι st H x xs dx ds d st' (Q : VK), RelSt C.T C.xp ι st H → Rep C.T C.xp (hide ι st H) ι x dx → RepL C.T C.xp (hide ι st H) ι xs ds → f dx ds st = some (d, st') →
  (∀ v ι' H', Step ι st H ι' st' H' → RelSt C.T C.xp ι' st' H' → Rep C.T C.xp (hide ι' st' H') ι' v d → Q v H') → r x xs H Q
structure MtD (C : Ctx) (t : String) (name : Str) (f : FM) : Prop where
  ex : ∃ id r, PlainAttrs t ∧ Slot t name id ∧ typeOf (.builtin id) = pure (.type "method_descriptor") ∧ MtR C.X id r ∧ MethD C r f
def dBm (t : String) (f : FM) (o : DE) (a : DA) : DE := fun ρ st => (o ρ st).bind fun d s0 => if tyD t d s0 = true then (a ρ s0).bind fun ds s1 => ofO (f d ds s1) else .bad
section
variable {o : Expr} {mo : DE} {name : Str} {apos cpos : Pos} {t : String} {fm : FM}
theorem pd_bm (h : MtD C t name fm) (ho : PD C o mo) (ha : PDA C (e :: es) ma) (hbase : attributeBase o name C.X.env (eval o C.X.env) = eval o C.X.env := by rfl)
    (hfew : ((backTo cpos (starEach (e :: es) C.X.env)).all (fun x => !x.1) && (backToKw cpos (keywordEach [] C.X.env)).all (fun x => x.1.isSome)
      && decide ((e :: es).length + ([] : List Keyword).length + (if ([] : List Keyword).isEmpty then 0 else 1) < 30)) = true := by rfl)
    (hline : (apos.endLine == cpos.line) = true := by rfl) (hs : starEach (e :: es) C.X.env = (false, eval e C.X.env) :: starEach es C.X.env := by rfl) (hplain : (backTo cpos (starEach es C.X.env)).any (·.1) = false := by rfl) :
    PD C (.Call (.Attribute o name apos) (e :: es) [] cpos) (dBm t fm mo ma) := by
  obtain ⟨id, r, h1, h2, h3, h4, h5⟩ := h.ex
  refine PE.imp (pe_bm h1 h2 h3 h4 ho ha hbase hfew hline hs hplain) fun σ H Q ⟨ρ, st, ι, er, rl, p⟩ => ?_
  refine ⟨ρ, st, ι, er, rl, post_bind p fun d s1 v ι1 H1 st1 rl1 rv p1 => ?_⟩
  split at p1
  · rename_i ht
    refine ⟨tyD_v C.hK rl1 rv ht, ρ, s1, ι1, er.step st1, rl1, post_bind p1 fun ds s2 vs ι2 H2 st2 rl2 rvs p2 => ?_⟩
    cases hf : fm d ds s2 with
    | none =>
      rw [hf] at p2
      exact p2.elim
    | some z =>
      rw [hf] at p2
      exact h5 ι2 s2 H2 v vs d ds z.1 z.2 Q rl2 (rv.mono st2.ex st2.pre) rvs hf p2
  · exact p1.elim
theorem pd_bm0 (h : MtD C t name fm) (ho : PD C o mo) (hbase : attributeBase o name C.X.env (eval o C.X.env) = eval o C.X.env := by rfl) (hline : (apos.endLine == cpos.line) = true := by rfl) :
    PD C (.Call (.Attribute o name apos) [] [] cpos) (dBm t fm mo dNil) := by
  obtain ⟨id, r, h1, h2, h3, h4, h5⟩ := h.ex
  refine PE.imp (pe_bm0 h1 h2 h3 h4 ho hbase hline) fun σ H Q ⟨ρ, st, ι, er, rl, p⟩ => ?_
  refine ⟨ρ, st, ι, er, rl, post_bind p fun d s1 v ι1 H1 st1 rl1 rv p1 => ?_⟩
  split at p1
  · rename_i ht
    refine ⟨tyD_v C.hK rl1 rv ht, ?_⟩
    change Post _ _ _ _ _ _ _ _ (ofO (fm d [] s1)) at p1
    cases hf : fm d [] s1 with
    | none =>
      rw [hf] at p1
      exact p1.elim
    | some z =>
      rw [hf] at p1
      exact h5 ι1 s1 H1 v [] d [] z.1 z.2 Q rl1 rv .nil hf p1
  · exact p1.elim
end
def mApp : FM := fun d ds st => match d, ds with
  | .box k, [x] => match st[k]? with
    | some (.lst xs) => if xs.length < 100000 then some (.non, st.set k (.lst (xs ++ [x]))) else none
    | _ => none
  | _, _ => none
theorem mt_app : MtD C "list" "append" mApp := ⟨_, _, PySem.F.plainAttrs_list, PySem.F.slot_list_append, PySem.F.type_list_append, mt_append, fun ι st H x xs dx ds d st' Q rl rx rs e k => by
  unfold mApp at e
  split at e
  · rename_i i y
    split at e
    · rename_i zs hz
      split at e
      · rename_i hl
        cases e
        obtain ⟨v, rfl, rv⟩ := repL_one rs
        cases rx with
        | box hi =>
          obtain ⟨ws, hw, rw'⟩ := rl.ok _ _ _ hi hz
          refine ⟨_, ws, v, rfl, rfl, hw, line_lt (by rw [rw'.length]; exact hl), ?_⟩
          obtain ⟨r2, s2⟩ := rl.write (o := .lst (ws ++ [v])) (c' := .lst (zs ++ [y])) hi hz rfl rfl ⟨_, upd_same, rw'.append (.cons rv .nil)⟩
          exact k _ ι _ s2 r2 .non
      · cases e
    · cases e
  · cases e⟩
def mPop : FM := fun d ds st => match d, ds with
  | .box k, [] => match st[k]? with
    | some (.lst xs) => match xs[xs.length - 1]? with
      | some y => some (y, st.set k (.lst xs.dropLast))
      | none => none
    | _ => none
  | _, _ => none
theorem mt_popD : MtD C "list" "pop" mPop := ⟨_, _, PySem.F.plainAttrs_list, PySem.F.slot_list_pop, PySem.F.type_list_pop, mt_pop, fun ι st H x xs dx ds d st' Q rl rx rs e k => by
  unfold mPop at e
  split at e
  · rename_i i
    split at e
    · rename_i zs hz
      split at e
      · rename_i y hy
        cases e
        cases rs
        cases rx with
        | box hi =>
          obtain ⟨ws, hw, rw'⟩ := rl.ok _ _ _ hi hz
          obtain ⟨u, hu, ru⟩ := rw'.get hy
          refine ⟨_, ws, u, rfl, rfl, hw, by rw [rw'.length]; exact hu, ?_⟩
          obtain ⟨r2, s2⟩ := rl.write (o := .lst ws.dropLast) (c' := .lst zs.dropLast) hi hz rfl rfl ⟨_, upd_same, rw'.dropLast⟩
          exact k _ ι _ s2 r2 (ru.mono s2.ex s2.pre)
      · cases e
    · cases e
  · cases e⟩
def mRev : FM := fun d ds st => match d, ds with
  | .box k, [] => match st[k]? with
    | some (.lst xs) => some (.non, st.set k (.lst xs.reverse))
    | _ => none
  | _, _ => none
def strsOf : List D → Option (List Str)
  | [] => some []
  | .str x :: r => (strsOf r).map (x :: ·)
  | _ :: _ => none
theorem strs_rep {T : Txt} {xp : XT} {G : Hp} {ι : Io} : ∀ {xs : List V} {ds : List D} {bs : List Str}, RepL T xp G ι xs ds → strsOf ds = some bs → xs = bs.map V.str
  | _, _, _, .nil, h => by cases h; rfl
  | _, _, _, .cons r rs, h => by
    cases r with
    | str b =>
      simp only [strsOf, Option.map_eq_some_iff] at h
      obtain ⟨r', h1, rfl⟩ := h
      rw [strs_rep rs h1]
      rfl
    | _ => simp [strsOf] at h
def mJoin : FM := fun d ds st => match d, ds with
  | .str a, [x] => match (itemsOf x st).bind strsOf with
    | some ys => if (ys.map (·.length)).sum + ys.length * a.length ≤ 1000000 then some (.str (PySem.Txt.join a ys), st) else none
    | none => none
  | _, _ => none
theorem mt_joinD : MtD C "str" "join" mJoin := ⟨_, _, PySem.F.plainAttrs_str, PySem.F.slot_str_join, PySem.F.type_str_join, mt_join, fun ι st H x xs dx ds d st' Q rl rx rs e k => by
  unfold mJoin at e
  split at e
  · rename_i a y
    split at e
    · rename_i ys hy
      split at e
      · rename_i hl
        cases e
        obtain ⟨v, rfl, rv⟩ := repL_one rs
        obtain ⟨zs, hz, hy⟩ := Option.bind_eq_some_iff.mp hy
        obtain ⟨b, ws, rfl, hs, rw'⟩ := items_rep rl rv hz
        cases rx
        have ew := strs_rep rw' hy
        subst ew
        exact ⟨a, b, ys, rfl, rfl, by rw [C.hK]; exact hs, Nat.le_trans hl (by decide), k _ ι H (Step.refl _ _ _) rl (.str _)⟩
      · cases e
    · cases e
  · cases e⟩
def mSplit : FM := fun d ds st => match d, ds with
  | .str a, [.str b] => if b.length ≠ 0 ∧ a.length ≤ 1000000 then some (.lst ((PySem.Txt.split a b).map D.str), st) else none
  | _, _ => none
def rCntF (K : PySem.W.Frag) : V → List V → Hp → VK → Prop := fun x xs H Q => ∃ (p : Addr) (ys : List V) (y : V), x = .ref p ∧ xs = [y] ∧ SqL K H p ys ∧ flatV y = true ∧ ys.all flatV = true ∧ Q (.int (ys.countP (fun z => eqV z y) : Nat)) H
theorem count_eqU {x : V} : ∀ {xs : List V} {us : List Value}, Vals xs us → xs.all flatV = true → us.countP (eqU x) = xs.countP fun y => eqV y x
  | _, _, .nil, _ => rfl
  | y :: xs, u :: us, .cons r t, f => by
    rw [List.all_cons, Bool.and_eq_true] at f
    rw [List.countP_cons, List.countP_cons, eqU_of r f.1, count_eqU t f.2]
theorem mt_cntF {X : Cx} : MtR X "list.count" (rCntF X.K) := by
  intro pins s σ H x xs v us Q I rx rxs h
  obtain ⟨p, ys, y, rfl, rfl, hs, fy, fys, q⟩ := h
  cases rx
  obtain ⟨u, rfl, ru⟩ := rxs.one
  obtain ⟨its, rv, ⟨⟨cls, dd, data, sl⟩, n, ho, hc, hdn, hd⟩, hlen⟩ := I.list hs
  simp only at hc hd
  subst hc hd
  have ec : its.toArray.toList.countP (eqU y) = ys.countP fun z => eqV z y := by
    rw [List.toList_toArray]
    exact count_eqU rv fys
  refine call_meets PySem.F.slot_list_count ⟨_, ho, rfl⟩ PySem.F.entry_list_count (PySem.F.args_list_count_2 _ _) (SeqAt.list_countAt p its.toArray n dd sl u (eqU y)) ⟨ho, fun z hz => mem_eqAt ru fy rv fys z (by simpa using hz), ?_⟩
  refine ⟨.int _, H, I.tok _, ⟨s.toks, ?_⟩, q⟩
  rw [ec]
def mCount : FM := fun d ds st => match ds with
  | [x] => match litemsOf d st with
    | some ys => if flatD x = true ∧ ys.all flatD = true then some (.int (((ys.map flatV').countP fun z => eqV z (flatV' x)) : Nat), st) else none
    | none => none
  | _ => none
theorem mt_countD : MtD C "list" "count" mCount := ⟨_, _, PySem.F.plainAttrs_list, PySem.F.slot_list_count, PySem.F.type_list_count, mt_cntF, fun ι st H x xs dx ds d st' Q rl rx rs e k => by
  unfold mCount at e
  split at e
  · rename_i y
    split at e
    · rename_i ys hy
      split at e
      · rename_i hf
        cases e
        obtain ⟨v, rfl, rv⟩ := repL_one rs
        obtain ⟨a, zs, rfl, hs, rw'⟩ := litems_rep rl rx hy
        obtain ⟨e1, e2⟩ := flat_rep rv hf.1
        obtain ⟨e3, e4⟩ := flat_repL rw' hf.2
        refine ⟨a, zs, v, rfl, rfl, by rw [C.hK]; exact hs, e2, e4, ?_⟩
        rw [e1, e3]
        exact k _ ι H (Step.refl _ _ _) rl (.int _)
      · cases e
    · cases e
  · cases e⟩
def idxOf (p : V → Bool) : List V → Nat → Option Nat
  | [], _ => none
  | y :: ys, i => if p y = true then some i else idxOf p ys (i + 1)
theorem idxOf_some {p : V → Bool} : ∀ {ys : List V} {i j : Nat}, idxOf p ys i = some j → i ≤ j ∧ (∃ z, ys[j - i]? = some z ∧ p z = true) ∧ ∀ m z, m < j - i → ys[m]? = some z → p z = false
  | [], _, _, h => by cases h
  | y :: ys, i, j, h => by
    unfold idxOf at h
    split at h
    · rename_i hp
      cases h
      refine ⟨Nat.le_refl _, ⟨y, by simp, hp⟩, fun m z hm => by omega⟩
    · rename_i hp
      obtain ⟨h1, ⟨z, h2, h3⟩, h4⟩ := idxOf_some h
      refine ⟨by omega, ⟨z, ?_, h3⟩, fun m w hm hw => ?_⟩
      · have e : j - i = (j - (i + 1)) + 1 := by omega
        rw [e, List.getElem?_cons_succ]
        exact h2
      · cases m with
        | zero =>
          have e : y = w := by simpa using hw
          rw [← e]
          exact Bool.eq_false_iff.mpr hp
        | succ m => exact h4 m w (by omega) (by simpa using hw)
def mIndex : FM := fun d ds st => match ds with
  | [x] => match litemsOf d st with
    | some ys => if flatD x = true ∧ ys.all flatD = true then (idxOf (fun z => eqV z (flatV' x)) (ys.map flatV') 0).map fun j => (.int (j : Nat), st) else none
    | none => none
  | _ => none
theorem mt_indexD' : MtD C "list" "index" mIndex := ⟨_, _, PySem.F.plainAttrs_list, PySem.F.slot_list_index, PySem.F.type_list_index, mt_index, fun ι st H x xs dx ds d st' Q rl rx rs e k => by
  unfold mIndex at e
  split at e
  · rename_i y
    split at e
    · rename_i ys hy
      split at e
      · rename_i hf
        obtain ⟨j, hj, e'⟩ := Option.map_eq_some_iff.mp e
        cases e'
        obtain ⟨v, rfl, rv⟩ := repL_one rs
        obtain ⟨a, zs, rfl, hs, rw'⟩ := litems_rep rl rx hy
        obtain ⟨e1, e2⟩ := flat_rep rv hf.1
        obtain ⟨e3, e4⟩ := flat_repL rw' hf.2
        obtain ⟨_, ⟨z, h2, h3⟩, h4⟩ := idxOf_some hj
        rw [← e3] at h2 h4
        rw [← e1] at h3 h4
        rw [Nat.sub_zero] at h2 h4
        exact ⟨a, zs, v, j, z, rfl, rfl, by rw [C.hK]; exact hs, e2, e4, h2, h3, h4, k _ ι H (Step.refl _ _ _) rl (.int _)⟩
      · cases e
    · cases e
  · cases e⟩
def sSetIx (o i a : DE) : DS := fun ρ st => (a ρ st).into ρ fun x s1 => (o ρ s1).into ρ fun d s2 => (i ρ s2).into ρ fun y s3 => match d, y with
  | .box k, .int j => match s3[k]? with
    | some (.lst xs) => match ixN xs.length j with
      | some n => .nx ρ (s3.set k (.lst (xs.set n x)))
      | none => .bad
    | _ => .bad
  | _, _ => .bad
end
end Den
set_option maxRecDepth 100000
set_option maxHeartbeats 4000000
namespace Den
open PySem PySem.Spec PyProof.Rows L2
abbrev GD := D → Rho → Option Rho
def g1 (i : Nat) : GD := fun d ρ => some (ρ.set i (some d))
def gsD : List Nat → List D → Rho → Option Rho
  | [], [], ρ => some ρ
  | i :: is, d :: ds, ρ => gsD is ds (ρ.set i (some d))
  | _, _, _ => none
def gT (is : List Nat) : GD := fun d ρ => match d with
  | .tup ds => gsD is ds ρ
  | _ => none
structure TgD (T : Txt) (K : PySem.W.Frag) (g : TG) (gd : GD) (is : List Nat) : Prop where
  ok : ∀ xp ι st H x d ρ ρ' σ Q, EnvR T xp (hide ι st H) ι ρ σ → Rep T xp (hide ι st H) ι x d → gd d ρ = some ρ' → (∀ σ', EnvR T xp (hide ι st H) ι ρ' σ' → (∀ vs : List Nat, (∀ i ∈ is, i ∈ vs) → wipe σ' vs = wipe σ vs) → Q σ' H) → g x σ H Q
theorem wipe_set {σ : L2.St} {i : Nat} {x : Option V} : ∀ {vs : List Nat}, i ∈ vs → wipe (σ.set i x) vs = wipe σ vs
  | [], h => by cases h
  | v :: vs, h => by
    unfold wipe
    by_cases e : i ∈ vs
    · rw [wipe_set e]
    · have ev : i = v := (List.mem_cons.mp h).elim id fun z => absurd z e
      subst ev
      have key : ∀ {ws : List Nat}, i ∉ ws → (wipe (σ.set i x) ws).set i none = (wipe σ ws).set i none := by
        intro ws
        induction ws with
        | nil => intro _; simp [wipe]
        | cons w ws ih =>
          intro hw
          have h1 : i ≠ w := fun z => hw (z ▸ List.mem_cons_self)
          have h2 := ih fun z => hw (List.mem_cons_of_mem _ z)
          show ((wipe (σ.set i x) ws).set w none).set i none = ((wipe σ ws).set w none).set i none
          rw [List.set_comm _ _ (Ne.symm h1), List.set_comm _ _ (Ne.symm h1), h2]
      exact key e
section
variable {T : Txt} {K : PySem.W.Frag}
theorem tg_one (i : Nat) : TgD T K (gName i) (g1 i) [i] := ⟨fun xp ι st H x d ρ ρ' σ Q er rx e k => by
  cases e
  exact k _ (er.set i rx) fun vs hv => wipe_set (hv i List.mem_cons_self)⟩
def gNames : List Nat → TGs
  | [] => gNil
  | i :: is => gCons (gName i) (gNames is)
theorem tg_names {xp : XT} {ι : Io} {G H : Hp} {Q : L2.St → Hp → Prop} : ∀ {is : List Nat} {xs : List V} {ds : List D} {ρ ρ' : Rho} {σ : L2.St}, EnvR T xp G ι ρ σ → RepL T xp G ι xs ds → gsD is ds ρ = some ρ' →
    (∀ σ', EnvR T xp G ι ρ' σ' → (∀ vs : List Nat, (∀ i ∈ is, i ∈ vs) → wipe σ' vs = wipe σ vs) → Q σ' H) → gNames is xs σ H Q
  | [], xs, ds, ρ, ρ', σ, er, rx, e, k => by
    cases rx with
    | nil =>
      cases e
      exact ⟨rfl, k σ er fun _ _ => rfl⟩
    | cons _ _ => cases e
  | i :: is, xs, ds, ρ, ρ', σ, er, rx, e, k => by
    cases rx with
    | nil => cases e
    | cons r rs =>
      refine ⟨_, _, rfl, tg_names (is := is) (er.set i r) rs e fun σ' er' hw => k σ' er' fun vs hv => ?_⟩
      rw [hw vs fun j hj => hv j (List.mem_cons_of_mem _ hj)]
      exact wipe_set (hv i List.mem_cons_self)
theorem gsD_len : ∀ {is : List Nat} {ds : List D} {ρ ρ' : Rho}, gsD is ds ρ = some ρ' → ds.length = is.length
  | [], [], _, _, _ => rfl
  | _ :: is, _ :: ds, _, _, e => congrArg Nat.succ (gsD_len (is := is) (ds := ds) e)
  | [], _ :: _, _, _, e => by cases e
  | _ :: _, [], _, _, e => by cases e
theorem tg_tupT {xp : XT} {ι : Io} {st : Store} {H : Hp} {a : Addr} {xs : List V} {ds : List D} {is : List Nat} {n : Nat} {ρ ρ' : Rho} {σ : L2.St} {Q : L2.St → Hp → Prop} (hn : n = is.length) (er : EnvR T xp (hide ι st H) ι ρ σ) (h1 : SqT T.K H a xs) (r1 : RepL T xp (hide ι st H) ι xs ds) (e : gsD is ds ρ = some ρ')
    (k : ∀ σ', EnvR T xp (hide ι st H) ι ρ' σ' → (∀ vs, (∀ i ∈ is, i ∈ vs) → wipe σ' vs = wipe σ vs) → Q σ' H) : gTup T.K n (gNames is) (.ref a) σ H Q := by
  subst hn
  exact ⟨_, _, rfl, h1, r1.length.trans (gsD_len e), tg_names er r1 e k⟩
theorem tg_tup (hK : K = T.K) (is : List Nat) {n : Nat} (hn : n = is.length) : TgD T K (gTup K n (gNames is)) (gT is) is := ⟨fun xp ι st H x d ρ ρ' σ Q er rx e k => by
  subst hn hK
  cases rx with
  | tup h1 r1 => exact ⟨_, _, rfl, le_t (hide_le _ _ _) h1.t, r1.length.trans (gsD_len e), tg_names er r1 e k⟩
  | _ => cases e⟩
end
def sAsg (g : GD) (a : DE) : DS := fun ρ st => (a ρ st).into ρ fun d s1 => match g d ρ with
  | some ρ' => .nx ρ' s1
  | none => .bad
def sPar (i j : Nat) (a : DA) : DS := fun ρ st => (a ρ st).into ρ fun ds s1 => match ds with
  | [x, y] => .nx ((ρ.set i (some x)).set j (some y)) s1
  | _ => .bad
def sSetF (c i : Nat) (o a : DE) : DS := fun ρ st => (a ρ st).into ρ fun x s1 => (o ρ s1).into ρ fun d s2 => match d with
  | .box k => match s2[k]? with
    | some (.ins c' xs) => if c' = c then (if i < xs.length then .nx ρ (s2.set k (.ins c (xs.set i x))) else if i = xs.length then .nx ρ (s2.set k (.ins c (xs ++ [x]))) else .bad) else .bad
    | _ => .bad
  | _ => .bad
section
variable {C : Ctx} {e o ix tg : Expr} {me mo mi : DE} {pos pos' : Pos} {g : TG} {gd : GD} {is : List Nat}
theorem pds_asg (hg : PG C.X tg g) (hd : TgD C.T C.X.K g gd is) (he : PD C e me) (hs : swapsWithSole [tg] e pos.line C.X.env = pure false := by rfl) (hw : swappedStores [tg] e C.X.env = pure none := by rfl)
    (h1 : (assignEach [tg] C.X.env).map (·.2) = [assign tg C.X.env] := by rfl) : PDS C (.Assign [tg] e pos) (sAsg gd me) :=
  PS.imp (ps_asg he hg hs hw h1) fun D σ H ⟨ρ, st, ι, er, rl, p⟩ => by
    refine ⟨ρ, st, ι, er, rl, post_into p er fun d s1 v ι1 H1 st1 rl1 er1 rv p1 => ?_⟩
    split at p1
    · rename_i ρ' hr
      exact hd.ok _ _ _ _ _ _ _ _ _ _ er1 rv hr fun σ' er' _ => p1 σ' ι1 H1 (Step.refl _ _ _) rl1 er'
    · exact p1.elim
theorem pds_setIx (he : PD C e me) (ho : PD C o mo) (hi : PD C ix mi) (hg : ∀ t t', PE C.X o t → PE C.X ix t' → PG C.X (.Subscript o ix pos') (gSub t t' rSetL)) (hs : swapsWithSole [.Subscript o ix pos'] e pos.line C.X.env = pure false := by rfl)
    (hw : swappedStores [.Subscript o ix pos'] e C.X.env = pure none := by rfl) (h1 : (assignEach [.Subscript o ix pos'] C.X.env).map (·.2) = [assign (.Subscript o ix pos') C.X.env] := by rfl) : PDS C (.Assign [.Subscript o ix pos'] e pos) (sSetIx mo mi me) :=
  PS.imp (ps_asg he (hg _ _ ho hi) hs hw h1) fun D σ H ⟨ρ, st, ι, er, rl, p⟩ => by
    refine ⟨ρ, st, ι, er, rl, post_into p er fun d s1 v ι1 H1 st1 rl1 er1 rv p1 => ?_⟩
    refine ⟨ρ, s1, ι1, er1, rl1, post_into p1 er1 fun d2 s2 v2 ι2 H2 st2 rl2 er2 rv2 p2 => ?_⟩
    refine ⟨ρ, s2, ι2, er2, rl2, post_into p2 er2 fun d3 s3 v3 ι3 H3 st3 rl3 er3 rv3 p3 => ?_⟩
    split at p3
    · rename_i k j
      split at p3
      · rename_i xs hx
        split at p3
        · rename_i n hn
          cases rv3
          have rv' := rv.mono (st2.ex.trans st3.ex) (st2.pre.trans st3.pre)
          cases rv2.mono st3.ex st3.pre with
          | box hk =>
            obtain ⟨ws, hw, rw'⟩ := rl3.ok _ _ _ hk hx
            refine ⟨_, ws, j, n, rfl, rfl, hw, by rw [rw'.length]; exact hn, ?_⟩
            obtain ⟨r2, s2'⟩ := rl3.write (o := .lst (ws.set n v)) (c' := .lst (xs.set n d)) hk hx rfl rfl ⟨_, upd_same, rw'.set n rv'⟩
            exact p3 σ ι3 _ s2' r2 (er3.step s2')
        · exact p3.elim
      · exact p3.elim
    · exact p3.elim
theorem pds_par {x y : Str} {a b : Expr} {ma : DA} {i j : Nat} {px py pz pt : Pos} {kt k2 pt2} (hc : C.X.calm = true) (hN : C.X.N.Nodup) (hi : C.X.N[i]? = some x) (hj : C.X.N[j]? = some y) (hij : i ≠ j) (hx : C.X.env.scope.names.lookup x = some .local) (hy : C.X.env.scope.names.lookup y = some .local) (ha : PDA C [a, b] ma)
    (hw : swappedStores [.Tuple [.Name x px, .Name y py] kt pt] (.Tuple [a, b] k2 pt2) C.X.env = pure (some [x, y])) (hs : swapsWithSole [.Tuple [.Name x px, .Name y py] kt pt] (.Tuple [a, b] k2 pt2) pos.line C.X.env = pure false := by rfl) :
    PDS C (.Assign [.Tuple [.Name x px, .Name y py] kt pt] (.Tuple [a, b] k2 pt2) pos) (sPar i j ma) :=
  PS.imp (ps_par hc hN hi hj hij hx hy ha hw hs) fun D σ H ⟨ρ, st, ι, er, rl, p⟩ => by
    refine ⟨ρ, st, ι, er, rl, post_into p er fun ds s1 vs ι1 H1 st1 rl1 er1 rv p1 => ?_⟩
    split at p1
    · rename_i x y
      cases rv with
      | cons r1 r2 =>
        cases r2 with
        | cons r2 r3 =>
          cases r3
          exact ⟨_, _, rfl, p1 _ ι1 H1 (Step.refl _ _ _) rl1 ((er1.set i r1).set j r2)⟩
    · exact p1.elim
theorem pds_setF {c i : Nat} {fn : Str} (hc : ClsD C.T c) (hi : (C.T.fl c)[i]? = some fn) (ho : PD C o mo) (he : PD C e me) (hs : swapsWith e (some (.Attribute o fn pos')) pos.line C.X.env = pure false := by rfl) :
    PDS C (.Assign [.Attribute o fn pos'] e pos) (sSetF c i mo me) :=
  PS.imp (ps_fld ho he hs) fun D σ H ⟨ρ, st, ι, er, rl, p⟩ => by
    refine ⟨ρ, st, ι, er, rl, post_into p er fun d s1 v ι1 H1 st1 rl1 er1 rv p1 => ?_⟩
    refine ⟨ρ, s1, ι1, er1, rl1, post_into p1 er1 fun d2 s2 v2 ι2 H2 st2 rl2 er2 rv2 p2 => ?_⟩
    split at p2
    · rename_i k
      split at p2
      · rename_i c' xs hx
        split at p2
        · rename_i ec
          subst ec
          have rv' := rv.mono st2.ex st2.pre
          cases rv2 with
          | box hk =>
            obtain ⟨dx, ws, hw, hl, rw'⟩ := rl2.ok _ _ _ hk hx
            have few : ((C.T.fl c').zip ws).length < 1000 := by
              rw [List.length_zip]
              have := hc.few
              omega
            refine ⟨_, _, dx, _, rfl, hw, by rw [C.hK]; exact hc.cl, by rw [C.hK]; exact hc.na fn (List.mem_of_getElem? hi), few, ?_⟩
            split at p2
            · rename_i hlt
              rw [putF_set hc.nd hi (by rw [rw'.length]; exact hlt)]
              obtain ⟨r2, s2'⟩ := rl2.write (o := .ins (C.T.ca c') dx ((C.T.fl c').zip (ws.set i v))) (c' := .ins c' (xs.set i d)) hk hx rfl rfl ⟨dx, _, upd_same, by simpa using hl, rw'.set i rv'⟩
              exact p2 σ ι2 _ s2' r2 (er2.step s2')
            · split at p2
              · rename_i hge heq
                have hi' : (C.T.fl c')[ws.length]? = some fn := by rw [rw'.length, ← heq]; exact hi
                rw [putF_new hc.nd hi']
                obtain ⟨r2, s2'⟩ := rl2.write (o := .ins (C.T.ca c') dx ((C.T.fl c').zip (ws ++ [v]))) (c' := .ins c' (xs ++ [d])) hk hx rfl rfl
                  ⟨dx, _, upd_same, by have := (List.getElem?_eq_some_iff.mp hi').1; simp; omega, rw'.append (.cons rv' .nil)⟩
                exact p2 σ ι2 _ s2' r2 (er2.step s2')
              · exact p2.elim
        · exact p2.elim
      · exact p2.elim
    · exact p2.elim
end
def forL (g : GD) (b : DS) : List D → DS
  | [] => fun ρ st => .nx ρ st
  | x :: xs => fun ρ st => match g x ρ with
    | none => .bad
    | some ρ' => match b ρ' st with
      | .nx ρ1 s1 => forL g b xs ρ1 s1
      | .cnt ρ1 s1 => forL g b xs ρ1 s1
      | .brk ρ1 s1 => .nx ρ1 s1
      | .ret d s1 => .ret d s1
      | .exc c ds ρ1 s1 => .exc c ds ρ1 s1
      | .bad => .bad
def sForL (it : DE) (g : GD) (b : DS) : DS := fun ρ st => (it ρ st).into ρ fun d s1 => match d with
  | .lst xs => forL g b xs ρ s1
  | .ro xs => forL g b xs ρ s1
  | _ => .bad
def sForT (it : DE) (g : GD) (b : DS) : DS := fun ρ st => (it ρ st).into ρ fun d s1 => match d with
  | .tup xs => forL g b xs ρ s1
  | _ => .bad
def rangeD (lo : Int) (n : Nat) : List D := (List.range n).map fun (i : Nat) => D.int (lo + i)
def big62 (i : Int) : Prop := -(2 ^ 62) ≤ i ∧ i < 2 ^ 62
instance (i : Int) : Decidable (big62 i) := inferInstanceAs (Decidable (_ ∧ _))
def sForR1 (a : DA) (g : GD) (b : DS) : DS := fun ρ st => (a ρ st).into ρ fun ds s1 => match ds with
  | [.int j] => if big62 j then forL g b (rangeD 0 j.toNat) ρ s1 else .bad
  | _ => .bad
def sForR2 (a : DA) (g : GD) (b : DS) : DS := fun ρ st => (a ρ st).into ρ fun ds s1 => match ds with
  | [.int i, .int j] => if big62 i ∧ big62 j then forL g b (rangeD i (j - i).toNat) ρ s1 else .bad
  | _ => .bad
section
variable {C : Ctx} {iter tg e : Expr} {bd : List Stmt} {mi : DE} {ma : DA} {g : TG} {gd : GD} {is : List Nat} {mb : DS} {pos pos' : Pos}
theorem turn_ofA {T : Txt} {xp : XT} {W : WX} {ι : Io} {st : Store} {H : Hp} {E : Ends} {x : V} {d : D} {ds : List D} {ρ : Rho} {σ : L2.St} {N : L2.St → Hp → Prop} (hd : ∀ ρ' Q, gd d ρ = some ρ' → (∀ σ', EnvR T xp (hide ι st H) ι ρ' σ' → Q σ' H) → g x σ H Q) (rl : RelSt T xp ι st H)
    (p : PostS T xp W ι st H E (forL gd mb (d :: ds) ρ st)) (hN : ∀ ρ' s' σ' ι' H', Step ι st H ι' s' H' → RelSt T xp ι' s' H' → EnvR T xp (hide ι' s' H') ι' ρ' σ' → PostS T xp W ι' s' H' E (forL gd mb ds ρ' s') → N σ' H') :
    g x σ H fun σ2 H2 => tDS T xp W mb { E with nx := N, ct := N, bk := E.nx } σ2 H2 := by
  unfold forL at p
  cases hg : gd d ρ with
  | none =>
    rw [hg] at p
    exact p.elim
  | some ρ' =>
    rw [hg] at p
    refine hd _ _ hg fun σ' er' => ⟨ρ', st, ι, er', rl, ?_⟩
    cases hb : mb ρ' st with
    | nx ρ1 s1 =>
      simp only [hb] at p
      exact fun σ1 ι1 H1 st1 rl1 er1 => hN ρ1 s1 σ1 ι1 H1 st1 rl1 er1 (PostS.step p st1)
    | cnt ρ1 s1 =>
      simp only [hb] at p
      exact fun σ1 ι1 H1 st1 rl1 er1 => hN ρ1 s1 σ1 ι1 H1 st1 rl1 er1 (PostS.step p st1)
    | brk ρ1 s1 =>
      simp only [hb] at p
      exact p
    | ret y s1 =>
      simp only [hb] at p
      exact p
    | exc c es ρ1 s1 =>
      simp only [hb] at p
      exact p
    | bad =>
      simp only [hb] at p
      exact p
theorem turn_of {T : Txt} {K : PySem.W.Frag} {xp : XT} {W : WX} {ι0 ι : Io} {s0 st : Store} {H0 H : Hp} {E : Ends} {x : V} {d : D} {ds : List D} {ρ : Rho} {σ : L2.St} {N : L2.St → Hp → Prop} (hd : TgD T K g gd is) (er : EnvR T xp (hide ι st H) ι ρ σ) (rl : RelSt T xp ι st H) (rx : Rep T xp (hide ι st H) ι x d)
    (p : PostS T xp W ι st H E (forL gd mb (d :: ds) ρ st)) (hN : ∀ ρ' s' σ' ι' H', Step ι st H ι' s' H' → RelSt T xp ι' s' H' → EnvR T xp (hide ι' s' H') ι' ρ' σ' → PostS T xp W ι' s' H' E (forL gd mb ds ρ' s') → N σ' H') :
    g x σ H fun σ2 H2 => tDS T xp W mb { E with nx := N, ct := N, bk := E.nx } σ2 H2 :=
  turn_ofA (fun ρ' Q hg h => hd.ok _ _ _ _ _ _ _ _ _ _ er rx hg fun σ' er' _ => h σ' er') rl p hN
def Left (T : Txt) (xp : XT) (W : WX) (E : Ends) (gd : GD) (mb : DS) (ds : List D) (G0 : Hp) (ι0 : Io) (i : Nat) (σ : L2.St) (H : Hp) : Prop := ∃ ρ st ι, Le G0 (hide ι st H) ∧ Pre ι0 ι ∧ RelSt T xp ι st H ∧ EnvR T xp (hide ι st H) ι ρ σ ∧ PostS T xp W ι st H E (forL gd mb (ds.drop i) ρ st)
theorem drop_at {α : Type} {ds : List α} {i : Nat} {d : α} (h : ds[i]? = some d) : ds.drop i = d :: ds.drop (i + 1) := by
  obtain ⟨h1, h2⟩ := List.getElem?_eq_some_iff.mp h
  rw [List.drop_eq_getElem_cons h1, h2]
theorem left_turn {T : Txt} {K : PySem.W.Frag} {xp : XT} {W : WX} {E : Ends} {ds : List D} {G0 : Hp} {ι0 : Io} {i : Nat} {σ : L2.St} {H : Hp} {x : V} {d : D} (hd : TgD T K g gd is) (hx : ds[i]? = some d) (hr : ∀ ι st, Le G0 (hide ι st H) → Pre ι0 ι → Rep T xp (hide ι st H) ι x d) (h : Left T xp W E gd mb ds G0 ι0 i σ H) :
    g x σ H fun σ2 H2 => tDS T xp W mb { E with nx := Left T xp W E gd mb ds G0 ι0 (i + 1), ct := Left T xp W E gd mb ds G0 ι0 (i + 1), bk := E.nx } σ2 H2 := by
  obtain ⟨ρ, st, ι, hl, hp, rl, er, p⟩ := h
  rw [drop_at hx] at p
  exact turn_of (ι0 := ι) (s0 := st) (H0 := H) hd er rl (hr ι st hl hp) p fun ρ' s' σ' ι' H' s rl' er' p' => ⟨ρ', s', ι', hl.trans s.ex, hp.trans s.pre, rl', er', p'⟩
theorem left_end {T : Txt} {xp : XT} {W : WX} {E : Ends} {ds : List D} {G0 : Hp} {ι0 : Io} {i : Nat} {σ : L2.St} {H : Hp} (hi : ds.length ≤ i) (h : Left T xp W E gd mb ds G0 ι0 i σ H) : E.nx σ H := by
  obtain ⟨ρ, st, ι, hl, hp, rl, er, p⟩ := h
  rw [List.drop_eq_nil_of_le hi] at p
  exact p σ ι H (Step.refl _ _ _) rl er
theorem list_loop {T : Txt} {xp : XT} {W : WX} {D : Ends} {ι1 : Io} {s1 : Store} {H1 : Hp} {σ : L2.St} {ρ : Rho} {a : Addr} {xs : List V} {ds : List Den.D} (hd : TgD T T.K g gd is) (h1 : SqL T.K (hide ι1 s1 H1) a xs) (rs : RepL T xp (hide ι1 s1 H1) ι1 xs ds) (rl1 : RelSt T xp ι1 s1 H1)
    (er1 : EnvR T xp (hide ι1 s1 H1) ι1 ρ σ) (q : PostS T xp W ι1 s1 H1 D (forL gd mb ds ρ s1)) :
    ∃ W' : Nat → Nat → L2.St → Hp → Prop, (∃ m, W' 0 m σ H1) ∧ ∀ i m σ H, W' i m σ H → ((Itl T.K a).stop i H ∧ D.nx σ H) ∨ ((Itl T.K a).go i H ∧ ∃ N : L2.St → Hp → Prop, (∀ σ' H', N σ' H' → ∃ m', m' < m ∧ W' (i + 1) m' σ' H') ∧
      ∀ x H', (Itl T.K a).yld i H x H' → g x σ H' fun σ2 H2 => tDS T xp W mb { D with nx := N, ct := N, bk := D.nx } σ2 H2) :=
  for_list (K := T.K) (a := a) (xs := xs) (Left T xp W D gd mb ds (hide ι1 s1 H1) ι1) ⟨ρ, s1, ι1, Le.refl _, Pre.refl _, rl1, er1, q⟩
    (fun i σ' H' _ ⟨_, st', ι', hl, _, _⟩ => le_l (hide_le _ _ _) (le_l hl h1)) (fun i x σ' H' hx hL => by
      obtain ⟨y, hy, ry⟩ := rs.getV hx
      exact left_turn hd hy (fun ι' st' hl hp' => ry.mono hl hp') hL) (fun σ' H' hL => left_end (by rw [rs.length]; exact Nat.le_refl _) hL)
theorem pds_forL (hp : PassesOwn (model C.X.prog C.X.w) C.X.A C.X.env C.X.xe) (hc : C.X.calm = true) (hi : PD C iter mi) (hg : PG C.X tg g) (hd : TgD C.T C.T.K g gd is) (hb : PDSs C bd mb) (hs : ∀ x, foldedSetIterable iter C.X.env x = pure x := by intro _; rfl) :
    PDS C (.For tg iter bd [] pos) (sForL mi gd mb) :=
  PS.imp (ps_for hp hc (pi_list hi) hg hb hs) fun D σ H ⟨ρ, st, ι, er, rl, p⟩ => by
    refine ⟨ρ, st, ι, er, rl, post_into p er fun d s1 v ι1 H1 st1 rl1 er1 rv p1 => ?_⟩
    rw [C.hK]
    cases rv with
    | lst h1 r1 => exact ⟨_, rfl, ⟨_, SqL.of (hide_sub h1)⟩, list_loop hd (SqL.of h1) r1 rl1 er1 p1⟩
    | ro h1 r1 => exact ⟨_, rfl, ⟨_, le_l (hide_le _ _ _) h1⟩, list_loop hd h1 r1 rl1 er1 p1⟩
    | _ => exact p1.elim
theorem range_at {lo : Int} {n i : Nat} (h : i < n) : (rangeD lo n)[i]? = some (.int (lo + i)) := by
  unfold rangeD
  rw [List.getElem?_map, List.getElem?_range h]
  rfl
theorem range_len (lo : Int) (n : Nat) : (rangeD lo n).length = n := by
  unfold rangeD
  simp
theorem range_loop {T : Txt} {xp : XT} {W : WX} {D : Ends} {ι1 : Io} {s1 : Store} {H1 : Hp} {σ : L2.St} {ρ : Rho} {lo : Int} {n : Nat} (hd : TgD T T.K g gd is) (rl1 : RelSt T xp ι1 s1 H1) (er1 : EnvR T xp (hide ι1 s1 H1) ι1 ρ σ) (q : PostS T xp W ι1 s1 H1 D (forL gd mb (rangeD lo n) ρ s1)) :
    ∃ W' : Nat → Nat → L2.St → Hp → Prop, (∃ m, W' 0 m σ H1) ∧ ∀ i m σ H, W' i m σ H → ((Itr lo n).stop i H ∧ D.nx σ H) ∨ ((Itr lo n).go i H ∧ ∃ N : L2.St → Hp → Prop, (∀ σ' H', N σ' H' → ∃ m', m' < m ∧ W' (i + 1) m' σ' H') ∧
      ∀ x H', (Itr lo n).yld i H x H' → g x σ H' fun σ2 H2 => tDS T xp W mb { D with nx := N, ct := N, bk := D.nx } σ2 H2) :=
  for_range (lo := lo) (n := n) (Left T xp W D gd mb (rangeD lo n) (hide ι1 s1 H1) ι1) ⟨ρ, s1, ι1, Le.refl _, Pre.refl _, rl1, er1, q⟩
    (fun i σ' H' hi hL => left_turn hd (range_at hi) (fun _ _ _ _ => .int _) hL) (fun σ' H' hL => left_end (by rw [range_len]; exact Nat.le_refl _) hL)
theorem pds_forR1 {a : Expr} {p : Pos} (hp : PassesOwn (model C.X.prog C.X.w) C.X.A C.X.env C.X.xe) (hc : C.X.calm = true) (hgl : Gl C.X "range") (hm : C.X.mg "range" = none) (ha : PDA C [a] ma) (hg : PG C.X tg g) (hd : TgD C.T C.T.K g gd is) (hb : PDSs C bd mb)
    (hst : starEach [a] C.X.env = [(false, eval a C.X.env)] := by rfl) (hs : ∀ x, foldedSetIterable (.Call (.Name "range" p) [a] [] pos') C.X.env x = pure x := by intro _; rfl) : PDS C (.For tg (.Call (.Name "range" p) [a] [] pos') bd [] pos) (sForR1 ma gd mb) :=
  PS.imp (ps_for hp hc (pi_range1 hgl hm ha hst) hg hb hs) fun D σ H ⟨ρ, st, ι, er, rl, p⟩ => by
    refine ⟨ρ, st, ι, er, rl, post_into p er fun ds s1 vs ι1 H1 st1 rl1 er1 rv p1 => ?_⟩
    split at p1
    · rename_i j
      split at p1
      · rename_i hj
        obtain ⟨v, rfl, r1⟩ := repL_one rv
        cases r1
        exact ⟨j, rfl, hj.1, hj.2, range_loop hd rl1 er1 p1⟩
      · exact p1.elim
    · exact p1.elim
end
end Den
set_option maxRecDepth 100000
set_option maxHeartbeats 4000000
namespace Den
open PySem PySem.Spec PyProof.Rows L2
def noX {α : Type} (r : Res α) : Res α := match r with
  | .ok a st => .ok a st
  | _ => .bad
def lcL (g : GD) (t : DT) (e : DE) (ρ : Rho) : List D → Store → Res (List D)
  | [], st => .ok [] st
  | x :: xs, st => match g x ρ with
    | none => .bad
    | some ρ' => (noX (t ρ' st)).bind fun b s1 => match b with
      | true => (noX (e ρ' s1)).bind fun y s2 => (lcL g t e ρ xs s2).bind fun ys s3 => .ok (y :: ys) s3
      | false => lcL g t e ρ xs s1
def wipeD (ρ : Rho) : List Nat → Rho
  | [] => ρ
  | v :: vs => (wipeD ρ vs).set v none
def lcEnd (m : Res (List D)) : Res D := m.bind fun ys s1 => if ys.length ≤ 100000 then .ok (.lst ys) s1 else .bad
def dLcL (it : DE) (g : GD) (t : DT) (e : DE) (vs : List Nat) : DE := fun ρ st => (it ρ st).bind fun d s1 => match d with
  | .lst xs => if xs.length ≤ 100000 then lcEnd (lcL g t e (wipeD ρ vs) xs s1) else .bad
  | .ro xs => if xs.length ≤ 100000 then lcEnd (lcL g t e (wipeD ρ vs) xs s1) else .bad
  | _ => .bad
def dLcT (it : DE) (g : GD) (t : DT) (e : DE) (vs : List Nat) : DE := fun ρ st => (it ρ st).bind fun d s1 => match d with
  | .tup xs => if xs.length ≤ 100000 then lcEnd (lcL g t e (wipeD ρ vs) xs s1) else .bad
  | _ => .bad
def dLcR1 (a : DA) (g : GD) (t : DT) (e : DE) (vs : List Nat) : DE := fun ρ st => (a ρ st).bind fun ds s1 => match ds with
  | [.int j] => if big62 j ∧ j ≤ 100000 then lcEnd (lcL g t e (wipeD ρ vs) (rangeD 0 j.toNat) s1) else .bad
  | _ => .bad
def dLcR2 (a : DA) (g : GD) (t : DT) (e : DE) (vs : List Nat) : DE := fun ρ st => (a ρ st).bind fun ds s1 => match ds with
  | [.int i, .int j] => if big62 i ∧ big62 j ∧ j - i ≤ 100000 then lcEnd (lcL g t e (wipeD ρ vs) (rangeD i (j - i).toNat) s1) else .bad
  | _ => .bad
def tYesD : DT := fun _ st => .ok true st
theorem EnvR.wipe {T : Txt} {xp : XT} {G : Hp} {ι : Io} {ρ : Rho} {σ : L2.St} (h : EnvR T xp G ι ρ σ) : ∀ vs : List Nat, EnvR T xp G ι (wipeD ρ vs) (L2.wipe σ vs)
  | [] => h
  | v :: vs => by
    have ih := EnvR.wipe h vs
    unfold wipeD L2.wipe
    refine ⟨by simp [ih.len], fun i d q => ?_⟩
    by_cases e : v = i
    · subst e
      by_cases hv : v < (wipeD ρ vs).length
      · rw [List.getElem?_set_self hv] at q
        cases q
      · rw [List.getElem?_eq_none (by simpa using hv)] at q
        cases q
    · rw [List.getElem?_set_ne e] at q ⊢
      exact ih.at_ i d q
def LeftC (T : Txt) (xp : XT) (W : Value → Option Addr → Hp → Prop) (Q : VK) (g : GD) (t : DT) (e : DE) (ρ : Rho) (ds : List D) (ι1 : Io) (s1 : Store) (H1 : Hp) (p : Addr) (i : Nat) (H : Hp) : Prop :=
  ∃ st ι acc ys, Step (ι1.under p) s1 (upd H1 p (.lst [])) ι st (upd H p (.lst [])) ∧ RelSt T xp ι st H ∧ H p = some (.lst acc) ∧ RepL T xp (hide ι st H) ι acc ys ∧ ys.length ≤ i ∧
    Post T xp W ι1 s1 H1 (Rep T xp) Q (lcEnd ((lcL g t e ρ (ds.drop i) st).bind fun zs s2 => .ok (ys ++ zs) s2))
theorem Io.under_hd {ι ι' : Io} {p : Addr} (h : Pre (ι.under p) ι') : p ∈ ι'.hd := by
  rw [h.hd]
  exact List.mem_cons_self
theorem hide_hd {ι : Io} {st : Store} {H : Hp} {p : Addr} (h : p ∈ ι.hd) (o : HO) : hide ι st (upd H p o) = hide ι st H := by
  funext a
  unfold hide hidden
  by_cases e : a = p
  · subst e
    rw [if_pos (by simp [h]), if_pos (by simp [h])]
  · rw [upd_ne e]
theorem RelSt.hdw {T : Txt} {xp : XT} {ι : Io} {st : Store} {H : Hp} {p : Addr} (r : RelSt T xp ι st H) (h : p ∈ ι.hd) (o : HO) : RelSt T xp ι st (upd H p o) := by
  have n := (r.hdn p h).2
  refine ⟨r.len, r.nd, fun a ha => ?_, fun a ha => ?_, fun k a c hk hc => ?_⟩
  · obtain ⟨u, e⟩ := r.there a ha
    exact ⟨u, by rw [upd_ne fun z => n (by rw [← z]; exact ha)]; exact e⟩
  · by_cases e : a = p
    · exact ⟨⟨o, by rw [e, upd_same]⟩, (r.hdn a ha).2⟩
    · obtain ⟨⟨u, q⟩, m⟩ := r.hdn a ha
      exact ⟨⟨u, by rw [upd_ne e]; exact q⟩, m⟩
  · rw [hide_hd h]
    exact (r.ok k a c hk hc).mono (Le.refl _) (Pre.refl _) (upd_ne fun z => n (by rw [← z]; exact List.mem_of_getElem? hk))
theorem undone {T : Txt} {xp : XT} {ι1 ι : Io} {s1 st : Store} {H1 H : Hp} {p : Addr} {acc : List V} {ys : List D} (r1 : RelSt T xp ι1 s1 H1) (hp : H1 p = none) (s : Step (ι1.under p) s1 (upd H1 p (.lst [])) ι st (upd H p (.lst []))) (r : RelSt T xp ι st H) (hH : H p = some (.lst acc))
    (ra : RepL T xp (hide ι st H) ι acc ys) : RelSt T xp ⟨ι.ad, ι1.hd⟩ st H ∧ Step ι1 s1 H1 ⟨ι.ad, ι1.hd⟩ st H ∧ Rep T xp (hide ⟨ι.ad, ι1.hd⟩ st H) ⟨ι.ad, ι1.hd⟩ (.ref p) (.lst ys) := by
  have hm := Io.under_hd s.pre
  have hhd : ι.hd = p :: ι1.hd := s.pre.hd
  have nad := (r.hdn p hm).2
  have n1 : p ∉ ι1.hd := r1.neh hp
  have hl : Le (hide ι st H) (hide ⟨ι.ad, ι1.hd⟩ st H) := fun a u h => by
    have hn := hide_at h
    rw [hide_no]
    · exact hide_sub h
    · intro z
      apply hn
      unfold hidden at z ⊢
      rw [Bool.or_eq_true] at z ⊢
      rcases z with z | z
      · exact .inl z
      · refine .inr ?_
        rw [hhd]
        simp only [decide_eq_true_eq] at z ⊢
        exact List.mem_cons_of_mem _ z
  have hpv : hide ⟨ι.ad, ι1.hd⟩ st H p = some (.lst acc) := by
    rw [hide_no]
    · exact hH
    · unfold hidden
      rw [Bool.or_eq_true]
      rintro (z | z)
      · exact nad (live_mem (ι := ι) z)
      · exact n1 (of_decide_eq_true z)
  have hx := s.ex
  rw [hide_under hp, hide_hd hm] at hx
  refine ⟨⟨r.len, r.nd, r.there, fun a ha => r.hdn a (by rw [hhd]; exact List.mem_cons_of_mem _ ha), fun k a c hk hc => ?_⟩, ⟨⟨s.pre.ad, rfl⟩, hx.trans hl, fun a ha => ?_⟩, .lst hpv ?_⟩
  · have q := r.ok k a c hk hc
    cases c with
    | lst ds =>
      obtain ⟨xs, h1, h2⟩ := q
      exact ⟨xs, h1, RepL.monoA (ι := ι) (ι' := ⟨ι.ad, ι1.hd⟩) hl (fun _ _ e => e) h2⟩
    | ins c ds =>
      obtain ⟨dx, xs, h1, h2, h3⟩ := q
      exact ⟨dx, xs, h1, h2, RepL.monoA (ι := ι) (ι' := ⟨ι.ad, ι1.hd⟩) hl (fun _ _ e => e) h3⟩
    | dic ks ds =>
      obtain ⟨xs, h1, h2, h3⟩ := q
      exact ⟨xs, h1, h2, RepL.monoA (ι := ι) (ι' := ⟨ι.ad, ι1.hd⟩) hl (fun _ _ e => e) h3⟩
    | set ks =>
      obtain ⟨L, h1, h2, h3⟩ := q
      exact ⟨L, h1, h2, fun p hp => le_t hl (h3 p hp)⟩
    | dicT kvs =>
      obtain ⟨R, h1, h2, h3⟩ := q
      exact ⟨R, h1, ⟨h2.1, fun p hp => le_n hl (h2.2 p hp)⟩, RepL.monoA (ι := ι) (ι' := ⟨ι.ad, ι1.hd⟩) hl (fun _ _ e => e) h3⟩
    | dead => trivial
  · have ne : a ≠ p := fun e => n1 (e ▸ ha)
    have q := s.hd a (List.mem_cons_of_mem _ ha)
    rw [upd_ne ne, upd_ne ne] at q
    exact q
  · exact RepL.monoA (ι := ι) (ι' := ⟨ι.ad, ι1.hd⟩) hl (fun _ _ e => e) ra
section
variable {C : Ctx} {g : TG} {gd : GD} {is : List Nat} {t : DT} {e : DE} {vs : List Nat}
theorem leftC_turn {W : Value → Option Addr → Hp → Prop} {Q : VK} {ds : List D} {ι1 : Io} {s1 : Store} {H1 : Hp} {p : Addr} {i : Nat} {H : Hp} {x : V} {d : D} {ρ : Rho} {σ : L2.St} (hd : TgD C.T C.T.K g gd is) (hv : ∀ j ∈ is, j ∈ vs) (hz : i < 100000) (er : EnvR C.T C.xp (hide ι1 s1 H1) ι1 ρ σ) (hp : H1 p = none)
    (hx : ds[i]? = some d) (hr : Rep C.T C.xp (hide ι1 s1 H1) ι1 x d) (h : LeftC C.T C.xp W Q gd t e (wipeD ρ vs) ds ι1 s1 H1 p i H) :
    g x (wipe σ vs) H fun σ2 H2 => wipe σ2 vs = wipe σ vs ∧ tDT C.T C.xp (fun _ _ _ _ => False) t σ2 H2 fun b H3 => if b = true then tD C.T C.xp (fun _ _ _ _ => False) e σ2 H3 fun y H4 => ∃ acc, H4 p = some (.lst acc) ∧ acc.length < sizeLine ∧
      LeftC C.T C.xp W Q gd t e (wipeD ρ vs) ds ι1 s1 H1 p (i + 1) (upd H4 p (.lst (acc ++ [y]))) else LeftC C.T C.xp W Q gd t e (wipeD ρ vs) ds ι1 s1 H1 p (i + 1) H3 := by
  obtain ⟨st, ι, acc, ys, s, rl, hH, ra, hly, q⟩ := h
  rw [drop_at hx] at q
  unfold lcL at q
  have hm := Io.under_hd s.pre
  have hx1 := s.ex
  rw [hide_under hp, hide_hd hm] at hx1
  have padA : ∀ (k : Nat) (a : Addr), ι1.ad[k]? = some a → ι.ad[k]? = some a := s.pre.ad
  have er' : EnvR C.T C.xp (hide ι st H) ι (wipeD ρ vs) (wipe σ vs) := by
    have w := er.wipe vs
    exact ⟨w.len, fun j y hy => let ⟨v, a, b⟩ := w.at_ j y hy; ⟨v, a, b.monoA hx1 padA⟩⟩
  cases hg : gd d (wipeD ρ vs) with
  | none =>
    rw [hg] at q
    exact q.elim
  | some ρ' =>
    rw [hg] at q
    refine hd.ok _ _ _ _ _ _ _ _ _ _ er' (hr.monoA hx1 padA) hg fun σ' er2 hw => ⟨?_, ρ', st, ι, er2, rl, ?_⟩
    · rw [hw vs hv]
      have idem : ∀ (ws : List Nat) (τ : L2.St), (∀ w ∈ ws, w ∈ vs) → wipe (wipe τ ws) vs = wipe τ vs := by
        intro ws
        induction ws with
        | nil => intro τ _; rfl
        | cons w ws ih =>
          intro τ hws
          show wipe ((wipe τ ws).set w none) vs = wipe τ vs
          rw [wipe_set (hws w List.mem_cons_self), ih τ fun z hz => hws z (List.mem_cons_of_mem _ hz)]
      exact idem vs σ fun _ z => z
    · cases ht : t ρ' st with
      | bad => simp only [ht, noX] at q; exact q.elim
      | exc c es s2 => simp only [ht, noX] at q; exact q.elim
      | ok b s2 =>
        simp only [ht, noX, bind_ok] at q
        intro b' ι2 H2 st2 rl2 eb
        have eb' : b' = b := eb
        subst eb'
        have hm2 : p ∈ ι2.hd := by rw [st2.pre.hd]; exact hm
        have hp2 : H2 p = some (.lst acc) := (st2.hd p hm).trans hH
        have ra2 := ra.mono st2.ex st2.pre
        have sU : ∀ {ιa ιb : Io} {sa sb : Store} {Ha Hb : Hp}, p ∈ ιa.hd → Step ιa sa Ha ιb sb Hb → Step ιa sa (upd Ha p (.lst [])) ιb sb (upd Hb p (.lst [])) := by
          intro ιa ιb sa sb Ha Hb ha z
          have hb : p ∈ ιb.hd := by rw [z.pre.hd]; exact ha
          refine ⟨z.pre, by rw [hide_hd ha, hide_hd hb]; exact z.ex, fun a h => ?_⟩
          by_cases ea : a = p
          · rw [ea, upd_same, upd_same]
          · rw [upd_ne ea, upd_ne ea]
            exact z.hd a h
        cases b' with
        | false => exact iteF ⟨s2, ι2, acc, ys, s.trans (sU hm st2), rl2, hp2, ra2, Nat.le_succ_of_le hly, q⟩
        | true =>
          refine iteT ⟨ρ', s2, ι2, er2.step st2, rl2, ?_⟩
          cases he : e ρ' s2 with
          | bad => simp only [he, noX] at q; exact q.elim
          | exc c es s3 => simp only [he, noX] at q; exact q.elim
          | ok y s3 =>
            simp only [he, noX, bind_ok] at q
            intro v ι3 H3 st3 rl3 rv
            have hm3 : p ∈ ι3.hd := by rw [st3.pre.hd]; exact hm2
            have hp3 : H3 p = some (.lst acc) := (st3.hd p hm2).trans hp2
            have ra3 := ra2.mono st3.ex st3.pre
            refine ⟨acc, hp3, line_lt (by rw [ra3.length]; omega), s3, ι3, acc ++ [v], ys ++ [y], ?_, rl3.hdw hm3 _, upd_same, ?_, by rw [List.length_append]; exact Nat.succ_le_succ hly, ?_⟩
            · rw [upd_upd]
              exact (s.trans (sU hm st2)).trans (sU hm2 st3)
            · rw [hide_hd hm3]
              exact ra3.append (.cons rv .nil)
            · cases hL : lcL gd t e (wipeD ρ vs) (ds.drop (i + 1)) s3 with
              | ok zs s4 =>
                simp only [hL, bind_ok] at q ⊢
                rw [List.append_assoc]
                exact q
              | exc c es s4 => simp only [hL, bind_exc] at q ⊢; exact q
              | bad => simp only [hL, bind_bad] at q ⊢; exact q
theorem leftC_start {W : Value → Option Addr → Hp → Prop} {Q : VK} {ds : List D} {ι1 : Io} {s1 : Store} {H1 : Hp} {p : Addr} {ρ : Rho} (rl : RelSt C.T C.xp ι1 s1 H1) (hp : H1 p = none) (q : Post C.T C.xp W ι1 s1 H1 (Rep C.T C.xp) Q (lcEnd (lcL gd t e ρ ds s1))) :
    LeftC C.T C.xp W Q gd t e ρ ds ι1 s1 H1 p 0 (upd H1 p (.lst [])) := by
  refine ⟨s1, ι1.under p, [], [], ?_, rl.under hp, upd_same, .nil, Nat.le_refl _, ?_⟩
  · rw [upd_upd]
    exact Step.refl _ _ _
  · show Post _ _ _ _ _ _ _ _ (lcEnd ((lcL gd t e ρ ds s1).bind fun zs s2 => .ok zs s2))
    cases hL : lcL gd t e ρ ds s1 with
    | ok zs s4 => rw [hL] at q; exact q
    | exc c es s4 => rw [hL] at q; exact q
    | bad => rw [hL] at q; exact q
theorem leftC_end {W : Value → Option Addr → Hp → Prop} {Q : VK} {ds : List D} {ι1 : Io} {s1 : Store} {H1 : Hp} {p : Addr} {ρ : Rho} {i : Nat} {H : Hp} (rl : RelSt C.T C.xp ι1 s1 H1) (hp : H1 p = none) (hi : ds.length ≤ i) (h : LeftC C.T C.xp W Q gd t e ρ ds ι1 s1 H1 p i H) : Q (.ref p) H := by
  obtain ⟨st, ι, acc, ys, s, r, hH, ra, hly, q⟩ := h
  rw [List.drop_eq_nil_of_le hi] at q
  unfold lcL at q
  simp only [bind_ok, List.append_nil] at q
  unfold lcEnd at q
  simp only [bind_ok] at q
  split at q
  · obtain ⟨r', s', rr⟩ := undone rl hp s r hH ra
    exact q _ _ _ s' r' rr
  · exact q.elim
end
end Den
set_option maxRecDepth 100000
set_option maxHeartbeats 4000000
namespace Den
open PySem PySem.Spec PyProof.Rows L2
abbrev Ctx.blk (C : Ctx) (s : Shared) (H : Hp) (scope : Scope) (c : Addr) (cl : List (Str × Addr)) (fp : List Addr) : Ctx := ⟨C.X.blk s H scope (compEnvC scope cl c C.X.env) fp, C.T, C.xp, fun _ _ _ _ => False, C.hK⟩
abbrev PDTs (C : Ctx) (ifs : List Expr) (t : DT) : Prop := PTs C.X ifs (tDT C.T C.xp C.W t)
section
variable {C : Ctx} {g : TG} {gd : GD} {is : List Nat} {t : DT} {e : DE} {elt tg iter : Expr} {ifs : List Expr} {scope : Scope} {own : List (Str × Nat)} {pos : Pos} {mi : DE} {ma : DA}
theorem pdts_nil : PDTs C [] tYesD := by
  refine ⟨fun pins s σ H Q I ⟨ρ, st, ι, er, rl, p⟩ => pts_nil.run pins s σ H Q I ?_⟩
  exact p true ι H (Step.refl _ _ _) rl rfl
theorem pdts_one {c : Expr} (h : PDT C c t) : PDTs C [c] t := pts_one h
theorem leftC_sq {W : Value → Option Addr → Hp → Prop} {Q : VK} {ds : List D} {ι1 : Io} {s1 : Store} {H1 : Hp} {p : Addr} {i : Nat} {H : Hp} {ρ : Rho} (hp : H1 p = none) (h : LeftC C.T C.xp W Q gd t e ρ ds ι1 s1 H1 p i H) : Le (hide ι1 s1 H1) H := by
  obtain ⟨st, ι, acc, ys, s, rl, hH, ra, hly, q⟩ := h
  have hm := Io.under_hd s.pre
  have hx1 := s.ex
  rw [hide_under hp, hide_hd hm] at hx1
  exact hx1.trans (hide_le _ _ _)
theorem pd_lcL (hc : C.X.calm = true) (hN : C.X.N.Nodup) (hi : PD C iter mi) (ok : BlkOk C.X.N C.X.env.scope scope own) (hg : ∀ s H c cl fp, PG (C.blk s H scope c cl fp).X tg g) (hd : TgD C.T C.T.K g gd is) (hv : ∀ j ∈ is, j ∈ own.map (·.2))
    (ht : ∀ s H c cl fp, PDTs (C.blk s H scope c cl fp) ifs t) (he : ∀ s H c cl fp, PD (C.blk s H scope c cl fp) elt e) (hs : ∀ x, foldedSetIterable iter C.X.env x = pure x := by intro _; rfl) :
    PD C (.ListComp elt [⟨tg, iter, ifs, 0⟩] scope pos) (dLcL mi gd t e (own.map (·.2))) :=
  PE.imp (pe_lc hc hN (pi_list hi) ok hg ht he hs) fun σ H Q ⟨ρ, st, ι, er, rl, p⟩ => by
    refine ⟨ρ, st, ι, er, rl, post_bind p fun d s1 v ι1 H1 st1 rl1 rv p1 => ?_⟩
    rw [C.hK]
    have er1 := er.step st1
    have key : ∀ a xs ds, SqL C.T.K (hide ι1 s1 H1) a xs → RepL C.T C.xp (hide ι1 s1 H1) ι1 xs ds → ds.length ≤ 100000 → Post C.T C.xp (fun c d H => C.W c d σ H) ι1 s1 H1 (Rep C.T C.xp) Q (lcEnd (lcL gd t e (wipeD ρ (own.map (·.2))) ds s1)) →
        ∀ D, H1 D = none → ∃ W' : Nat → Nat → Hp → Prop, (∃ m, W' 0 m (upd H1 D (.lst []))) ∧ ∀ i m H, W' i m H → ((Itl C.T.K a).stop i H ∧ Q (.ref D) H) ∨ ((Itl C.T.K a).go i H ∧ ∃ Nx : Hp → Prop, (∀ H', Nx H' → ∃ m', m' < m ∧ W' (i + 1) m' H') ∧
          ∀ x H', (Itl C.T.K a).yld i H x H' → g x (L2.wipe σ (own.map (·.2))) H' fun σ2 H2 => L2.wipe σ2 (own.map (·.2)) = L2.wipe σ (own.map (·.2)) ∧ tDT C.T C.xp (fun _ _ _ _ => False) t σ2 H2 fun b H3 =>
            if b = true then tD C.T C.xp (fun _ _ _ _ => False) e σ2 H3 fun y H4 => ∃ acc, H4 D = some (.lst acc) ∧ acc.length < sizeLine ∧ Nx (upd H4 D (.lst (acc ++ [y]))) else Nx H3) := by
      intro a xs ds hsq rs hl q D hD
      refine lc_list (K := C.T.K) (a := a) (xs := xs) (LeftC C.T C.xp (fun c d H => C.W c d σ H) Q gd t e (wipeD ρ (own.map (·.2))) ds ι1 s1 H1 D) (leftC_start rl1 hD q) (fun i H' _ hL => le_l (leftC_sq hD hL) hsq) (fun i x H' hx hL => ?_) fun H' hL => leftC_end rl1 hD (by rw [rs.length]; exact Nat.le_refl _) hL
      obtain ⟨y, hy, ry⟩ := rs.getV hx
      have hlt : i < ds.length := (List.getElem?_eq_some_iff.mp hy).1
      exact leftC_turn hd hv (by omega) er1 hD hy ry hL
    cases rv with
    | lst h1 r1 =>
      dsimp only at p1
      split at p1
      · rename_i hl
        exact ⟨_, rfl, ⟨_, SqL.of (hide_sub h1)⟩, key _ _ _ (SqL.of h1) r1 hl p1⟩
      · exact p1.elim
    | ro h1 r1 =>
      dsimp only at p1
      split at p1
      · rename_i hl
        exact ⟨_, rfl, ⟨_, le_l (hide_le _ _ _) h1⟩, key _ _ _ h1 r1 hl p1⟩
      · exact p1.elim
    | _ => exact p1.elim
theorem lc_rangeD {Q : VK} {ι1 : Io} {s1 : Store} {H1 : Hp} {ρ : Rho} {σ : L2.St} {lo : Int} {n : Nat} (hd : TgD C.T C.T.K g gd is) (hv : ∀ j ∈ is, j ∈ own.map (·.2)) (er1 : EnvR C.T C.xp (hide ι1 s1 H1) ι1 ρ σ) (rl1 : RelSt C.T C.xp ι1 s1 H1) (hl : n ≤ 100000)
    (q : Post C.T C.xp (fun c d H => C.W c d σ H) ι1 s1 H1 (Rep C.T C.xp) Q (lcEnd (lcL gd t e (wipeD ρ (own.map (·.2))) (rangeD lo n) s1))) :
    ∀ D, H1 D = none → ∃ W' : Nat → Nat → Hp → Prop, (∃ m, W' 0 m (upd H1 D (.lst []))) ∧ ∀ i m H, W' i m H → ((Itr lo n).stop i H ∧ Q (.ref D) H) ∨ ((Itr lo n).go i H ∧ ∃ Nx : Hp → Prop, (∀ H', Nx H' → ∃ m', m' < m ∧ W' (i + 1) m' H') ∧
      ∀ x H', (Itr lo n).yld i H x H' → g x (L2.wipe σ (own.map (·.2))) H' fun σ2 H2 => L2.wipe σ2 (own.map (·.2)) = L2.wipe σ (own.map (·.2)) ∧ tDT C.T C.xp (fun _ _ _ _ => False) t σ2 H2 fun b H3 =>
        if b = true then tD C.T C.xp (fun _ _ _ _ => False) e σ2 H3 fun y H4 => ∃ acc, H4 D = some (.lst acc) ∧ acc.length < sizeLine ∧ Nx (upd H4 D (.lst (acc ++ [y]))) else Nx H3) := by
  intro D hD
  exact lc_range (lo := lo) (n := n) (LeftC C.T C.xp (fun c d H => C.W c d σ H) Q gd t e (wipeD ρ (own.map (·.2))) (rangeD lo n) ι1 s1 H1 D) (leftC_start rl1 hD q) (fun i H' hi hL => leftC_turn hd hv (by omega) er1 hD (range_at hi) (.int _) hL)
    fun H' hL => leftC_end rl1 hD (by rw [range_len]; exact Nat.le_refl _) hL
theorem pd_lcR1 {a : Expr} {p pos' : Pos} (hc : C.X.calm = true) (hN : C.X.N.Nodup) (hgl : Gl C.X "range") (hm : C.X.mg "range" = none) (ha : PDA C [a] ma) (ok : BlkOk C.X.N C.X.env.scope scope own) (hg : ∀ s H c cl fp, PG (C.blk s H scope c cl fp).X tg g) (hd : TgD C.T C.T.K g gd is)
    (hv : ∀ j ∈ is, j ∈ own.map (·.2)) (ht : ∀ s H c cl fp, PDTs (C.blk s H scope c cl fp) ifs t) (he : ∀ s H c cl fp, PD (C.blk s H scope c cl fp) elt e) (hst : starEach [a] C.X.env = [(false, eval a C.X.env)] := by rfl)
    (hs : ∀ x, foldedSetIterable (.Call (.Name "range" p) [a] [] pos') C.X.env x = pure x := by intro _; rfl) : PD C (.ListComp elt [⟨tg, .Call (.Name "range" p) [a] [] pos', ifs, 0⟩] scope pos) (dLcR1 ma gd t e (own.map (·.2))) :=
  PE.imp (pe_lc hc hN (pi_range1 hgl hm ha hst) ok hg ht he hs) fun σ H Q ⟨ρ, st, ι, er, rl, p⟩ => by
    refine ⟨ρ, st, ι, er, rl, post_bind p fun ds s1 vs ι1 H1 st1 rl1 rv p1 => ?_⟩
    split at p1
    · rename_i j
      split at p1
      · rename_i hj
        obtain ⟨v, rfl, r1⟩ := repL_one rv
        cases r1
        exact ⟨j, rfl, hj.1.1, hj.1.2, lc_rangeD hd hv (er.step st1) rl1 (by omega) p1⟩
      · exact p1.elim
    · exact p1.elim
theorem pd_lcR2 {a b : Expr} {p pos' : Pos} (hc : C.X.calm = true) (hN : C.X.N.Nodup) (hgl : Gl C.X "range") (hm : C.X.mg "range" = none) (ha : PDA C [a, b] ma) (ok : BlkOk C.X.N C.X.env.scope scope own) (hg : ∀ s H c cl fp, PG (C.blk s H scope c cl fp).X tg g) (hd : TgD C.T C.T.K g gd is)
    (hv : ∀ j ∈ is, j ∈ own.map (·.2)) (ht : ∀ s H c cl fp, PDTs (C.blk s H scope c cl fp) ifs t) (he : ∀ s H c cl fp, PD (C.blk s H scope c cl fp) elt e) (hst : starEach [a, b] C.X.env = [(false, eval a C.X.env), (false, eval b C.X.env)] := by rfl) (hst2 : starEach [b] C.X.env = [(false, eval b C.X.env)] := by rfl)
    (hs : ∀ x, foldedSetIterable (.Call (.Name "range" p) [a, b] [] pos') C.X.env x = pure x := by intro _; rfl) : PD C (.ListComp elt [⟨tg, .Call (.Name "range" p) [a, b] [] pos', ifs, 0⟩] scope pos) (dLcR2 ma gd t e (own.map (·.2))) :=
  PE.imp (pe_lc hc hN (pi_range2 hgl hm ha hst hst2) ok hg ht he hs) fun σ H Q ⟨ρ, st, ι, er, rl, p⟩ => by
    refine ⟨ρ, st, ι, er, rl, post_bind p fun ds s1 vs ι1 H1 st1 rl1 rv p1 => ?_⟩
    split at p1
    · rename_i i j
      split at p1
      · rename_i hj
        have ev := repL_ints rv
        subst ev
        exact ⟨i, j, rfl, ⟨hj.1.1, hj.1.2, hj.2.1.1, hj.2.1.2⟩, lc_rangeD hd hv (er.step st1) rl1 (by omega) p1⟩
      · exact p1.elim
    · exact p1.elim
end
end Den
set_option maxRecDepth 100000
set_option maxHeartbeats 4000000
namespace Den
open PySem PySem.Spec PyProof.Rows L2
def tagV (T : Txt) : Tag → Value
  | .ty n => .type n
  | .ow c => .ref (T.ca c)
def IsT (T : Txt) (isT : Tag → Tag → Option Bool) : Prop := ∀ t c b, isT t c = some b → PySem.W.kitOne T.K (tagV T t) (tagV T c) = some b
structure ClsI (T : Txt) (c : Nat) : Prop where
  d : ClsD T c
  ha : PySem.W.findIn T.K (.ref (T.ca c)) "__class__" = some (some (.builtin "object.__class__"))
  hn : PySem.W.specialIn T.K (.builtin "object.__class__") "__get__" = some (some (.builtin "getset_descriptor.__get__"))
  ht : PySem.W.takesIn T.K (.builtin "object.__class__") = some true
  hm : PySem.W.mroIn T.K (T.ca c) (.type "object") = some true
def tagD (own : List Nat) (d : D) (st : Store) : Option Tag := match d with
  | .non => some (.ty "NoneType")
  | .bl _ => some (.ty "bool")
  | .int _ => some (.ty "int")
  | .str _ => some (.ty "str")
  | .lst _ => some (.ty "list")
  | .tup _ => some (.ty "tuple")
  | .dic _ _ => some (.ty "dict")
  | .ins c _ => if own.contains c = true then some (.ow c) else none
  | .box k => match st[k]? with
    | some (.lst _) => some (.ty "list")
    | some (.dic _ _) => some (.ty "dict")
    | some (.ins c _) => if own.contains c = true then some (.ow c) else none
    | _ => none
  | _ => none
def clsA : D → Option Tag
  | .ty n => some (.ty n)
  | .cl i => some (.ow i)
  | _ => none
theorem clsA_rep {T : Txt} {xp : XT} {G : Hp} {ι : Io} {v : V} {d : D} {t : Tag} (r : Rep T xp G ι v d) (h : clsA d = some t) : ClsV v (tagV T t) := by
  cases r with
  | ty n => cases h; exact .ty n
  | cl i => cases h; exact .own _
  | _ => cases h
theorem tup_k {T : Txt} {H : Hp} {a : Addr} {xs : List V} (h : SqT T.K H a xs) : TyX T.K H (.ref a) (.type "tuple") := by
  rcases h with (h | ⟨o, h⟩) | ⟨o, its, n, hk, hc, _⟩
  · exact .base (.tup h)
  · exact .fTuple h
  · exact .kTuple hk hc
theorem tagD_rep {T : Txt} {xp : XT} {own : List Nat} {ι : Io} {st : Store} {H : Hp} {v : V} {d : D} {t : Tag} (ho : ∀ c ∈ own, ClsI T c) (rl : RelSt T xp ι st H) (r : Rep T xp (hide ι st H) ι v d) (h : tagD own d st = some t) : TyX T.K H v (tagV T t) := by
  cases r with
  | non => cases h; exact .base .non
  | bl b => cases h; exact .base (.bl b)
  | int i => cases h; exact .base (.int i)
  | str x => cases h; exact .base (.str x)
  | lst h1 h2 => cases h; exact .base (.lst (hide_sub h1))
  | tup h1 h2 => cases h; exact tup_k (le_t (hide_le _ _ _) h1.t)
  | dic h1 h2 h3 => cases h; exact .fDict (hide_sub h1)
  | ins h1 h2 h3 =>
    unfold tagD at h
    dsimp only at h
    split at h
    · rename_i hc
      cases h
      have c := ho _ (by simpa using hc)
      exact .base (.ins (hide_sub h1) c.d.cl c.ha c.hn c.ht c.hm)
    · cases h
  | box hk =>
    unfold tagD at h
    dsimp only at h
    split at h
    · rename_i xs hs
      cases h
      obtain ⟨ys, h1, h2⟩ := rl.ok _ _ _ hk hs
      exact .base (.lst h1)
    · rename_i ks xs hs
      cases h
      obtain ⟨ys, h1, h2, h3⟩ := rl.ok _ _ _ hk hs
      exact .base (.dK h1)
    · rename_i c xs hs
      split at h
      · rename_i hc
        cases h
        have c := ho _ (by simpa using hc)
        obtain ⟨dx, ys, h1, h2, h3⟩ := rl.ok _ _ _ hk hs
        exact .base (.ins h1 c.d.cl c.ha c.hn c.ht c.hm)
      · cases h
    · cases h
  | _ => cases h
def bIsi (own : List Nat) (isT : Tag → Tag → Option Bool) : FB := fun ds st => match ds with
  | [x, c] => match tagD own x st, clsA c with
    | some t, some u => (isT t u).map fun b => (.bl b, st)
    | _, _ => none
  | _ => none
section
variable {C : Ctx}
theorem repL_two {T : Txt} {xp : XT} {G : Hp} {ι : Io} {xs : List V} {x y : D} (r : RepL T xp G ι xs [x, y]) : ∃ v w, xs = [v, w] ∧ Rep T xp G ι v x ∧ Rep T xp G ι w y := by
  cases r with
  | cons r1 r2 =>
    obtain ⟨w, rfl, r3⟩ := repL_one r2
    exact ⟨_, w, rfl, r1, r3⟩
theorem blt_isi {own : List Nat} {isT : Tag → Tag → Option Bool} (ho : ∀ c ∈ own, ClsI C.T c) (hi : IsT C.T isT) : BltD C "isinstance" (bIsi own isT) := ⟨_, call_isi, fun ι st H xs ds d st' Q rl rx e k => by
  unfold bIsi at e
  split at e
  · rename_i x c
    split at e
    · rename_i t u h1 h2
      obtain ⟨b, hb, e'⟩ := Option.map_eq_some_iff.mp e
      cases e'
      obtain ⟨v, w, rfl, rv, rw'⟩ := repL_two rx
      refine ⟨v, w, tagV C.T t, tagV C.T u, b, rfl, clsA_rep rw' h2, ?_, ?_, k _ ι H (Step.refl _ _ _) rl (.bl b)⟩
      · rw [C.hK]; exact tagD_rep ho rl rv h1
      · rw [C.hK]; exact hi t u b hb
    · cases e
  · cases e⟩
end
def keyD : Key → PyData
  | .inl i => .int i
  | .inr x => .str x
mutual
def toPyR : D → Option PyData
  | .non => some .none
  | .bl b => some (.bool b)
  | .int i => some (.int i)
  | .str x => some (.str x)
  | .lst xs => (toPyRL xs).map .list
  | .ro xs => (toPyRL xs).map .list
  | .tup xs => (toPyRL xs).map .tuple
  | .dic ks xs => if ks.length = xs.length then (toPyRL xs).map fun ps => .dict ((ks.map keyD).zip ps) else none
  | _ => none
def toPyRL : List D → Option (List PyData)
  | [] => some []
  | x :: xs => match toPyR x, toPyRL xs with
    | some p, some ps => some (p :: ps)
    | _, _ => none
end
def NoSys (H : Hp) (as : List Addr) : Prop := sysModules ∉ as
theorem toPyRL_len : ∀ {xs : List D} {ps : List PyData}, toPyRL xs = some ps → ps.length = xs.length
  | [], _, h => by simp only [toPyRL] at h; cases h; rfl
  | x :: xs, ps, h => by
    simp only [toPyRL] at h
    split at h
    · rename_i h1 h2
      cases h
      exact congrArg Nat.succ (toPyRL_len h2)
    · cases h
theorem reads_key {h : Heap} {k : Key} {u : Value} (e : keyIs k u = true) : Reads h u (keyD k) [] := by
  rcases keyIs_shape e with ⟨i, t, rfl, rfl⟩ | ⟨x, t, rfl, rfl⟩
  · exact .int i t
  · exact .str x t
theorem dict_parts {P : Program} {w : World} {h : Heap} : ∀ {ks : List Key} {xs : List V} {vs : List (Key × Value)} {es : List DictEntry}, ks.length = xs.length → KV (ks.zip xs) vs → Pairs (mixKind P w) es vs →
    Vals xs (es.map (·.val)) ∧ ReadsAll h (es.map (·.key)) (ks.map keyD) []
  | [], [], _, _, _, kv, p => by
    cases kv
    cases p
    exact ⟨.nil, .nil⟩
  | [], _ :: _, _, _, hl, _, _ => by cases hl
  | _ :: _, [], _, _, hl, _, _ => by cases hl
  | k :: ks, x :: xs, vs, es, hl, kv, p => by
    have kv' : Paired (fun (p : Key × V) (q : Key × Value) => p.1 = q.1 ∧ RelV p.2 q.2) ((k, x) :: ks.zip xs) vs := kv
    cases kv' with
    | cons r rs =>
      cases p with
      | @cons e kvx es kvs h1 h2 hp =>
        obtain ⟨a, b⟩ := dict_parts (h := h) (by simpa using hl) rs hp
        obtain ⟨e1, e2⟩ := r
        have e1' : k = _ := e1
        refine ⟨.cons (by show L2.RelV x e.val; rw [h2]; exact e2) a, ?_⟩
        have key : keyIs k e.key = true := by rw [e1']; exact h1
        exact .cons (as := []) (bs := []) (reads_key key) b
section
variable {C : Ctx} {pins : List (Addr × Obj)} {σ : L2.St} {H : Hp} {s : Shared} {ι : Io} {st : Store}
def Kn (P : Program) (w : World) (h : Heap) (u : Value) (p : PyData) : Prop := (∃ as, Reads h u p as) ∧ ∃ bs, ReadAtMost h p.depth bs ∧ ReprK P w bs h p.depth u p.shown
def KnL (P : Program) (w : World) (h : Heap) (us : List Value) (ps : List PyData) : Prop := (∃ as, ReadsAll h us ps as) ∧ ∃ bs, ReadAtMost h (PyData.depthAll ps) bs ∧ ReprAllK P w bs h (PyData.depthAll ps) us (PyData.shownAll ps)
section
variable {P : Program} {w : World} {h : Heap}
theorem kn_flat {u : Value} {p : PyData} (r : Reads h u p []) (hd : p.hasDict = false) (hs : p.showable = true) (hz : p.shown.length ≤ sizeLine) : Kn P w h u p :=
  ⟨⟨_, r⟩, ReprK.of_reads r hs (fun e => by rw [hd] at e; cases e) hz⟩
theorem knL_nil : KnL P w h [] [] := ⟨⟨_, .nil⟩, [], fun _ z => (nomatch z), by simp only [PyData.shownAll]; exact .nil⟩
theorem knL_cons {u : Value} {us : List Value} {p : PyData} {ps : List PyData} (k : Kn P w h u p) (ks : KnL P w h us ps) : KnL P w h (u :: us) (p :: ps) := by
  obtain ⟨⟨a1, r1⟩, b1, m1, k1⟩ := k
  obtain ⟨⟨a2, r2⟩, b2, m2, k2⟩ := ks
  have d1 : p.depth ≤ PyData.depthAll (p :: ps) := by simp only [PyData.depthAll]; omega
  have d2 : PyData.depthAll ps ≤ PyData.depthAll (p :: ps) := by simp only [PyData.depthAll]; omega
  refine ⟨⟨_, .cons r1 r2⟩, b1 ++ b2, (m1.mono d1).append (m2.mono d2), ?_⟩
  simp only [PyData.shownAll]
  exact .cons ((k1.more fun _ z => List.mem_append_left _ z).level_le d1) (k2.more_le (fun _ z => List.mem_append_right _ z) d2)
theorem kn_list {a : Addr} {o : Obj} {n : Nat} {us : List Value} {ps : List PyData} (ho : h.get? a = some o) (hc : o.cls = .type "list") (hd : o.data = .seq us.toArray n) (k : KnL P w h us ps) : Kn P w h (.ref a) (.list ps) := by
  obtain ⟨⟨as, q⟩, bs, hb, kk⟩ := k
  have r : Reads h (.ref a) (.list ps) _ := .list ho hc hd q
  have out := not_mem_of_deeper r (by simp only [PyData.depth]; omega) hb
  refine ⟨⟨_, r⟩, a :: bs, ReadAtMost.cons r (by simp only [PyData.depth]; omega) hb, ?_⟩
  simp only [PyData.depth, PyData.shown]
  cases us with
  | nil =>
    generalize PyData.shownAll ps = ts at kk
    cases kk
    rw [listText_nil]
    exact ReprK.listEmpty ho hc hd
  | cons y ys => exact ReprK.list ho hc hd out (by simpa using kk.length_eq) fun i z e => kk.item i z (by simpa using e)
theorem kn_tuple {a : Addr} {o : Obj} {n : Nat} {us : List Value} {ps : List PyData} (ho : h.get? a = some o) (hc : o.cls = .type "tuple") (hd : o.data = .seq us.toArray n) (k : KnL P w h us ps) : Kn P w h (.ref a) (.tuple ps) := by
  obtain ⟨⟨as, q⟩, bs, hb, kk⟩ := k
  have r : Reads h (.ref a) (.tuple ps) _ := .tuple ho hc hd q
  have out := not_mem_of_deeper r (by simp only [PyData.depth]; omega) hb
  refine ⟨⟨_, r⟩, a :: bs, ReadAtMost.cons r (by simp only [PyData.depth]; omega) hb, ?_⟩
  simp only [PyData.depth, PyData.shown]
  exact ReprK.tuple ho hc hd out kk
theorem keys_low : ∀ ks : List Key, PyData.hasDictAll (ks.map keyD) = false ∧ PyData.showableAll (ks.map keyD) = PyData.showableAll (ks.map keyD)
  | [] => ⟨rfl, rfl⟩
  | k :: ks => by
    refine ⟨?_, rfl⟩
    have := (keys_low ks).1
    cases k <;> simp only [List.map_cons, PyData.hasDictAll, keyD, PyData.hasDict, this, Bool.or_self]
theorem kn_dict {a : Addr} {o : Obj} {n : Nat} {es : Array DictEntry} {ks : List Key} {ps : List PyData} (ho : h.get? a = some o) (hc : o.cls = .type "dict") (hd : o.data = .dict es n) (na : (a == sysModules) = false) (hl : ks.length = ps.length)
    (hk : ReadsAll h (es.toList.map (·.key)) (ks.map keyD) []) (k : KnL P w h (es.toList.map (·.val)) ps) (hs : PyData.showableAll (ks.map keyD) = true) (hz : ∀ t ∈ PyData.shownAll (ks.map keyD), t.length ≤ sizeLine) : Kn P w h (.ref a) (.dict ((ks.map keyD).zip ps)) := by
  obtain ⟨⟨as, q⟩, bs, hb, kk⟩ := k
  obtain ⟨cs, hb2, k2⟩ := ReprAllK.of_readsAll (prog := P) (w := w) hk hs (fun e => by rw [(keys_low ks).1] at e; cases e) hz
  have lp : (ks.map keyD).length = ps.length := by rw [List.length_map]; exact hl
  have f1 : ((ks.map keyD).zip ps).map (·.1) = ks.map keyD := List.map_fst_zip (Nat.le_of_eq lp)
  have f2 : ((ks.map keyD).zip ps).map (·.2) = ps := List.map_snd_zip (Nat.le_of_eq lp.symm)
  have r : Reads h (.ref a) (.dict ((ks.map keyD).zip ps)) _ := .dict ho hc hd (by rw [f1]; exact hk) (by rw [f2]; exact q)
  have dk := PyData.depthAll_keys_le ((ks.map keyD).zip ps)
  have dv := PyData.depthAll_vals_le ((ks.map keyD).zip ps)
  rw [f1] at dk
  rw [f2] at dv
  have both : ReadAtMost h (PyData.depthKv ((ks.map keyD).zip ps)) (cs ++ bs) := (hb2.mono dk).append (hb.mono dv)
  have out := not_mem_of_deeper r (by simp only [PyData.depth]; omega) both
  refine ⟨⟨_, r⟩, a :: (cs ++ bs), ReadAtMost.cons r (by simp only [PyData.depth]; omega) both, ?_⟩
  simp only [PyData.depth, PyData.shown, PyData.shownKv_eq, f1, f2]
  exact ReprK.dict ho hc hd na out (ReprEntriesK.of_two _ _ _ (k2.more_le (fun _ z => List.mem_append_left _ z) dk) (kk.more_le (fun _ z => List.mem_append_right _ z) dv))
end
def shortD (p : PyData) : Prop := p.showable = true ∧ p.shown.length ≤ sizeLine
def shortL (ps : List PyData) : Prop := PyData.showableAll ps = true ∧ ∀ t ∈ PyData.shownAll ps, t.length ≤ sizeLine
theorem shortL_cons {p : PyData} {ps : List PyData} (h : shortL (p :: ps)) : shortD p ∧ shortL ps := by
  obtain ⟨h1, h2⟩ := h
  simp only [PyData.showableAll, Bool.and_eq_true] at h1
  simp only [PyData.shownAll, List.mem_cons] at h2
  exact ⟨⟨h1.1, h2 _ (.inl rfl)⟩, h1.2, fun t ht => h2 t (.inr ht)⟩
theorem short_list {ps : List PyData} (h : shortD (.list ps)) : shortL ps := by
  obtain ⟨h1, h2⟩ := h
  simp only [PyData.showable] at h1
  simp only [PyData.shown] at h2
  exact ⟨h1, fun t ht => Nat.le_trans (listText_mem_le ht) h2⟩
theorem short_tuple {ps : List PyData} (h : shortD (.tuple ps)) : shortL ps := by
  obtain ⟨h1, h2⟩ := h
  simp only [PyData.showable] at h1
  simp only [PyData.shown] at h2
  exact ⟨h1, fun t ht => Nat.le_trans (tupleText_mem_le ht) h2⟩
theorem short_dict {kvs : List (PyData × PyData)} (h : shortD (.dict kvs)) : shortL (kvs.map (·.1)) ∧ shortL (kvs.map (·.2)) := by
  obtain ⟨h1, h2⟩ := h
  simp only [PyData.showable] at h1
  simp only [PyData.shown] at h2
  obtain ⟨s1, s2⟩ := PyData.showableKv_split kvs h1
  refine ⟨⟨s1, fun t ht => ?_⟩, s2, fun t ht => ?_⟩
  · obtain ⟨p, hp, hl⟩ := PyData.shownKv_key_le kvs t ht
    exact Nat.le_trans hl (Nat.le_trans (dictText_mem_le hp) h2)
  · obtain ⟨p, hp, hl⟩ := PyData.shownKv_val_le kvs t ht
    exact Nat.le_trans hl (Nat.le_trans (dictText_mem_le hp) h2)
mutual
theorem kn_of (I : Inv C.X pins σ H s) (l : Le (hide ι st H) H) : ∀ {v : V} {d : D} {p : PyData} {u : Value}, Rep C.T C.xp (hide ι st H) ι v d → toPyR d = some p → RelV v u → shortD p → Kn C.X.prog C.X.w s.heap u p
  | _, _, _, _, .non, h, r, hs => by simp only [toPyR] at h; cases h; cases r; exact kn_flat .none rfl hs.1 hs.2
  | _, _, _, _, .bl b, h, r, hs => by simp only [toPyR] at h; cases h; cases r; exact kn_flat (.bool b) rfl hs.1 hs.2
  | _, _, _, _, .int i, h, r, hs => by simp only [toPyR] at h; cases h; obtain ⟨t, rfl⟩ := r; exact kn_flat (.int i t) rfl hs.1 hs.2
  | _, _, _, _, .str x, h, r, hs => by simp only [toPyR] at h; cases h; obtain ⟨t, rfl⟩ := r; exact kn_flat (.str x t) rfl hs.1 hs.2
  | _, _, _, _, .lst h1 rr, h, r, hs => by
    simp only [toPyR, Option.map_eq_some_iff] at h
    obtain ⟨ps, h2, rfl⟩ := h
    cases r
    obtain ⟨its, rv, ⟨o, n, ho, hc, _, hd⟩, _⟩ := I.list (SqL.of (l _ _ h1))
    exact kn_list ho hc hd (kn_ofL I l rr h2 rv (short_list hs))
  | _, _, _, _, .ro h1 rr, h, r, hs => by
    simp only [toPyR, Option.map_eq_some_iff] at h
    obtain ⟨ps, h2, rfl⟩ := h
    cases r
    obtain ⟨its, rv, ⟨o, n, ho, hc, _, hd⟩, _⟩ := I.list (C.hK ▸ le_l l h1)
    exact kn_list ho hc hd (kn_ofL I l rr h2 rv (short_list hs))
  | _, _, _, _, .tup h1 rr, h, r, hs => by
    simp only [toPyR, Option.map_eq_some_iff] at h
    obtain ⟨ps, h2, rfl⟩ := h
    cases r
    obtain ⟨its, rv, ⟨o, ho, hc, n, hd⟩, _⟩ := I.tuple (C.hK ▸ le_t l h1.t)
    exact kn_tuple ho hc hd (kn_ofL I l rr h2 rv (short_tuple hs))
  | _, _, _, _, .dic h1 hl rr, h, r, hs => by
    rename_i ks xs ds
    simp only [toPyR] at h
    split at h
    · obtain ⟨ps, h2, rfl⟩ := Option.map_eq_some_iff.mp h
      cases r
      obtain ⟨_, _, hns, vs, kv, o, es, ep, ho, ex, hd, hk, hp, _⟩ := I.hok _ _ (l _ _ h1)
      obtain ⟨hv, hkeys⟩ := dict_parts (h := s.heap) hl kv hp
      have lp : ks.length = ps.length := by
        rw [toPyRL_len h2, ← rr.length]
        exact hl
      have lq : (ks.map keyD).length = ps.length := by rw [List.length_map]; exact lp
      obtain ⟨s1, s2⟩ := short_dict hs
      rw [List.map_fst_zip (Nat.le_of_eq lq)] at s1
      rw [List.map_snd_zip (Nat.le_of_eq lq.symm)] at s2
      exact kn_dict ho ex.1 hd hns lp hkeys (kn_ofL I l rr h2 hv s2) s1.1 s1.2
    · cases h
  | _, _, _, _, .ty _, h, _, _ => by simp only [toPyR] at h; cases h
  | _, _, _, _, .cl _, h, _, _ => by simp only [toPyR] at h; cases h
  | _, _, _, _, .fn _, h, _, _ => by simp only [toPyR] at h; cases h
  | _, _, _, _, .ins _ _ _, h, _, _ => by simp only [toPyR] at h; cases h
  | _, _, _, _, .exc _ _, h, _, _ => by simp only [toPyR] at h; cases h
  | _, _, _, _, .excd _ _ _ _ _, h, _, _ => by simp only [toPyR] at h; cases h
  | _, _, _, _, .dct _ _ _ _, h, _, _ => by simp only [toPyR] at h; cases h
  | _, _, _, _, .err _ _, h, _, _ => by simp only [toPyR] at h; cases h
  | _, _, _, _, .errd _ _ _ _, h, _, _ => by simp only [toPyR] at h; cases h
  | _, _, _, _, .box _, h, _, _ => by simp only [toPyR] at h; cases h
theorem kn_ofL (I : Inv C.X pins σ H s) (l : Le (hide ι st H) H) : ∀ {v : List V} {d : List D} {ps : List PyData} {us : List Value}, RepL C.T C.xp (hide ι st H) ι v d → toPyRL d = some ps → Vals v us → shortL ps → KnL C.X.prog C.X.w s.heap us ps
  | _, _, _, _, .nil, h, r, _ => by simp only [toPyRL] at h; cases h; cases r; exact knL_nil
  | _, _, _, _, .cons r1 rs, h, r, hs => by
    simp only [toPyRL] at h
    split at h
    · rename_i h1 h2
      cases h
      cases r with
      | cons q1 q2 =>
        obtain ⟨s1, s2⟩ := shortL_cons hs
        exact knL_cons (kn_of I l r1 h1 q1 s1) (kn_ofL I l rs h2 q2 s2)
    · cases h
end
end
section
variable {P : Program} {w : World} {A : Around} {E : Value → Shared → Prop} {s : Shared} {Q : Value → Shared → Prop} {a : Addr} {o : Obj} {n : Nat} {us : List Value} {ps : List PyData}
theorem top_list (ho : s.heap.get? a = some o) (hc : o.cls = .type "list") (hd : o.data = .seq us.toArray n) (k : KnL P w s.heap us ps) (hg : A.guards = some []) (hu : A.units + ((PyData.list ps).depth + 1) < cLine) (hz : (PyData.list ps).shown.length ≤ sizeLine)
    (hQ : ∀ h' u tk, (∀ b o, s.heap.get? b = some o → h'.get? b = some o) → Q (.str (PyData.list ps).shown u) { s with heap := h', toks := tk }) : wpAny (model P w) A (call (.builtin "repr") [.ref a]) Q E s := by
  obtain ⟨⟨as, q⟩, bs, hb, kk⟩ := k
  have r : Reads s.heap (.ref a) (.list ps) _ := .list ho hc hd q
  have out := not_mem_of_deeper r (by simp only [PyData.depth]; omega) hb
  simp only [PyData.depth] at hu
  simp only [PyData.shown] at hz hQ
  refine call_repr_slot (by omega) ⟨o, ho, hc⟩ F.slot_list_repr.toG ?_
  cases us with
  | nil =>
    generalize PyData.shownAll ps = ts at kk hQ
    cases kk
    rw [listText_nil] at hQ
    exact call_list_repr_empty ⟨o, ho, hc⟩ ho hd ⟨_, _, rfl, hQ s.heap _ _ fun _ _ e => e⟩
  | cons y ys => exact call_list_reprK ho hc hd out (by simpa using kk.length_eq) (fun i z e => kk.item i z (by simpa using e)) hg (fun b _ => Clear.nil b) (by show A.units + 1 + _ < cLine; omega) (fun _ _ e => e) (fun h' u tk hk => ⟨_, _, rfl, hQ h' u tk hk⟩) hz
theorem top_tuple (ho : s.heap.get? a = some o) (hc : o.cls = .type "tuple") (hd : o.data = .seq us.toArray n) (k : KnL P w s.heap us ps) (hg : A.guards = some []) (hu : A.units + ((PyData.tuple ps).depth + 1) < cLine) (hz : (PyData.tuple ps).shown.length ≤ sizeLine)
    (hQ : ∀ h' u tk, (∀ b o, s.heap.get? b = some o → h'.get? b = some o) → Q (.str (PyData.tuple ps).shown u) { s with heap := h', toks := tk }) : wpAny (model P w) A (call (.builtin "repr") [.ref a]) Q E s := by
  obtain ⟨⟨as, q⟩, bs, hb, kk⟩ := k
  have r : Reads s.heap (.ref a) (.tuple ps) _ := .tuple ho hc hd q
  have out := not_mem_of_deeper r (by simp only [PyData.depth]; omega) hb
  simp only [PyData.depth] at hu
  simp only [PyData.shown] at hz hQ
  exact call_repr_slot (by omega) ⟨o, ho, hc⟩ F.slot_tuple_repr (call_tuple_reprK ho hc hd out kk hg (fun b _ => Clear.nil b) (by show A.units + 1 + _ < cLine; omega) (fun _ _ e => e) (fun h' u tk hk => ⟨_, _, rfl, hQ h' u tk hk⟩) hz)
end
def isDic : D → Bool
  | .dic _ _ => true
  | _ => false
def gRepr (x : D) (_ : Store) : Option D := if isDic x = true then none else match toPyR x with
  | some p => if p.showable = true ∧ p.depth ≤ 60 ∧ p.shown.length ≤ 1000000 then some (.str p.shown) else none
  | none => none
def rRepr (C : Ctx) : List V → Hp → VK → Prop := fun xs H Q => ∃ ι st v x p, xs = [v] ∧ RelSt C.T C.xp ι st H ∧ Rep C.T C.xp (hide ι st H) ι v x ∧ toPyR x = some p ∧ isDic x = false ∧ p.showable = true ∧ p.depth ≤ 60 ∧ p.shown.length ≤ 1000000 ∧ Q (.str p.shown) H
theorem call_reprD {C : Ctx} (hg : C.X.A.guards = some []) (hu : C.X.A.units + 64 < cLine) : CallR C.X (.builtin "repr") (rRepr C) := by
  intro pins s σ H xs us Q I r h
  obtain ⟨ι, st, v, x, p, rfl, rl, rv, hp, h0, h1, h2, h3, q⟩ := h
  obtain ⟨u, rfl, ru⟩ := vals1 r
  have hsz : p.shown.length ≤ sizeLine := Nat.le_trans h3 (by decide)
  have sd : shortD p := ⟨h1, hsz⟩
  have fin : ∀ h' (u : Tok) tk, (∀ b o, s.heap.get? b = some o → h'.get? b = some o) → EP C.X pins σ Q (.str p.shown u) { s with heap := h', toks := tk } := fun h' u tk hk => ⟨.str _, H, I.kept (t' := tk) hk, ⟨_, rfl⟩, q⟩
  cases rv with
  | non =>
    cases ru
    simp only [toPyR] at hp
    cases hp
    exact PySem.P.repr_of_none ⟨.str _, H, I.tok _, ⟨_, rfl⟩, q⟩
  | bl b =>
    cases ru
    simp only [toPyR] at hp
    cases hp
    exact PySem.P.repr_of_bool ⟨.str _, H, I.tok _, ⟨_, rfl⟩, q⟩
  | int i =>
    obtain ⟨t, rfl⟩ := ru
    simp only [toPyR] at hp
    cases hp
    exact PySem.P.repr_of_int (by simpa [PyData.showable] using h1) ⟨.str _, H, I.tok _, ⟨_, rfl⟩, q⟩
  | str z =>
    obtain ⟨t, rfl⟩ := ru
    simp only [toPyR] at hp
    cases hp
    exact PySem.P.repr_of_str ⟨.str _, H, I.tok _, ⟨_, rfl⟩, q⟩ hsz
  | lst g1 rr =>
    cases ru
    simp only [toPyR, Option.map_eq_some_iff] at hp
    obtain ⟨ps, e2, rfl⟩ := hp
    obtain ⟨its, ri, ⟨o, n, ho, hc, _, hd⟩, _⟩ := I.list (SqL.of (hide_le _ _ _ _ _ g1))
    exact top_list ho hc hd (kn_ofL I (hide_le _ _ _) rr e2 ri (short_list sd)) hg (by omega) hsz fin
  | ro g1 rr =>
    cases ru
    simp only [toPyR, Option.map_eq_some_iff] at hp
    obtain ⟨ps, e2, rfl⟩ := hp
    obtain ⟨its, ri, ⟨o, n, ho, hc, _, hd⟩, _⟩ := I.list (C.hK ▸ le_l (hide_le _ _ _) g1)
    exact top_list ho hc hd (kn_ofL I (hide_le _ _ _) rr e2 ri (short_list sd)) hg (by omega) hsz fin
  | tup g1 rr =>
    cases ru
    simp only [toPyR, Option.map_eq_some_iff] at hp
    obtain ⟨ps, e2, rfl⟩ := hp
    obtain ⟨its, ri, ⟨o, ho, hc, n, hd⟩, _⟩ := I.tuple (C.hK ▸ le_t (hide_le _ _ _) g1.t)
    exact top_tuple ho hc hd (kn_ofL I (hide_le _ _ _) rr e2 ri (short_tuple sd)) hg (by omega) hsz fin
  | dic _ _ _ => cases h0
  | _ => exact absurd hp (by simp [toPyR])
theorem blt_repr {C : Ctx} (hg : C.X.A.guards = some []) (hu : C.X.A.units + 64 < cLine) : BltD C "repr" (one gRepr) := ⟨_, call_reprD hg hu, fun ι st H xs ds d st' Q rl rx e k => by
  obtain ⟨x, rfl, hgr, rfl⟩ := one_some e
  obtain ⟨v, rfl, rv⟩ := repL_one rx
  unfold gRepr at hgr
  split at hgr
  · cases hgr
  · rename_i h0
    split at hgr
    · rename_i p hp
      split at hgr
      · rename_i hc
        cases hgr
        exact ⟨ι, _, v, x, p, rfl, rl, rv, hp, by simpa using h0, hc.1, hc.2.1, hc.2.2, k _ ι H (Step.refl _ _ _) rl (.str _)⟩
      · cases hgr
    · cases hgr⟩
end Den
set_option maxRecDepth 100000
set_option maxHeartbeats 4000000
namespace Den
open PySem PySem.Spec PyProof.Rows L2
structure ExcK (T : Txt) (c : Nat) : Prop where
  q : PySem.W.excIn T.K (T.ca c) [.type "ValueError", .type "Exception", .type "BaseException", .type "object"] "ValueError.__new__" = true
  kp : PySem.W.keepIn T.K (.ref (T.ca c)) = true
  r1 : PySem.W.subIn T.K (.ref (T.ca c)) (.type "BaseException") = some true
  r2 : PySem.W.typeIn T.K (.ref (T.ca c)) = some (.type "type")
theorem pmk_none {X : Cx} {C : Addr} {bmB : List Value} {B newId initId : String} {x : Str} {p pos : Pos} (F : ExcBaseFacts B newId initId bmB) (q : PySem.W.excIn X.K C bmB newId = true) (gC : X.mg x = some (.ref C)) (kC : PySem.W.keepIn X.K (.ref C) = true) (r : Raises X (.ref C)) (hg : Gl X x)
    (hdb : (x == ("__debug__" : Str)) = false := by decide) : L2N.PMk X (.Call (.Name x p) [] [] pos) (fun _ H Q => Q (.ref C) none H) := by
  intro pins s σ H Q I h
  refine wpAny_Call_Name_kw (ld_glob I hg gC ?_ hdb)
  refine PySem.W.callWith_K0 I.kIn kC ?_
  obtain ⟨bm, N, nm, qn, bs, hdct, sn, sub, ab, col, dd, k0, k1, k2, k3, k5, mN, hC, hN, hni, tt⟩ := exc_obj I.kIn q
  refine wpAny_call_exc_subT F tt hC hN hni (fun h' e hm => ?_) (Nat.zero_le _)
  exact L2N.mk_of I hm r h (I.hok.gone hm.new)
def sRaise (c : Nat) : DS := fun ρ st => .exc c [] ρ st
theorem pds_raise {C : Ctx} {c : Nat} {x : Str} {p pos pos' : Pos} (hc : C.X.calm = true) (tk : L2N.Takes C.X C.W) (hk : ExcK C.T c) (hm : C.X.mg x = some (.ref (C.T.ca c))) (hg : Gl C.X x) (hdb : (x == ("__debug__" : Str)) = false := by decide) :
    PDS C (.Raise (some (.Call (.Name x p) [] [] pos)) none pos') (sRaise c) := by
  have q := hk.q
  have kp := hk.kp
  have r1 := hk.r1
  have r2 := hk.r2
  rw [← C.hK] at q kp r1 r2
  refine PS.imp (L2N.ps_raise hc tk (pmk_none PySem.F.excBase_ValueError q hm kp (raises_own r1 r2) hg hdb)) fun D σ H ⟨ρ, st, ι, er, rl, pp⟩ => ?_
  exact pp σ ι H none (Step.refl _ _ _) rl er (.inl ⟨rfl, rfl⟩)
mutual
def noE : D → Bool
  | .exc _ _ => false
  | .lst xs => noEL xs
  | .ro xs => noEL xs
  | .tup xs => noEL xs
  | .dic _ xs => noEL xs
  | .dct _ xs => noEL xs
  | .ins _ xs => noEL xs
  | .err _ xs => noEL xs
  | _ => true
def noEL : List D → Bool
  | [] => true
  | x :: xs => noE x && noEL xs
end
def noEC : Cell → Bool
  | .lst xs => noEL xs
  | .ins _ xs => noEL xs
  | .dic _ xs => noEL xs
  | .set _ => true
  | .dicT kvs => noEL (kvs.map (·.2))
  | .dead => true
def noES (st : Store) : Bool := st.all noEC
def noEO : Option D → Bool
  | some d => noE d
  | none => true
def noER (ρ : Rho) : Bool := ρ.all noEO
section
variable {T : Txt} {xp xp' : XT} {G : Hp} {ι : Io}
mutual
theorem Rep.noE : ∀ {v : V} {d : D}, Rep T xp G ι v d → noE d = true → Rep T xp' G ι v d
  | _, _, .non, _ => .non
  | _, _, .bl b, _ => .bl b
  | _, _, .int i, _ => .int i
  | _, _, .str x, _ => .str x
  | _, _, .ty n, _ => .ty n
  | _, _, .cl i, _ => .cl i
  | _, _, .fn i, _ => .fn i
  | _, _, .lst h r, e => .lst h (RepL.noE r (by simpa [Den.noE] using e))
  | _, _, .ro h r, e => .ro h (RepL.noE r (by simpa [Den.noE] using e))
  | _, _, .tup h r, e => .tup h (RepL.noE r (by simpa [Den.noE] using e))
  | _, _, .dic h l r, e => .dic h l (RepL.noE r (by simpa [Den.noE] using e))
  | _, _, .dct h k t r, e => .dct h k t (RepL.noE r (by simpa [Den.noE] using e))
  | _, _, .ins h l r, e => .ins h l (RepL.noE r (by simpa [Den.noE] using e))
  | _, _, .exc _ _, e => by simp [Den.noE] at e
  | _, _, .excd _ _ _ _ _, e => by simp [Den.noE] at e
  | _, _, .err h l, _ => .err h l
  | _, _, .errd h g k r, e => .errd h g k (RepL.noE r (by simpa [Den.noE] using e))
  | _, _, .box h, _ => .box h
theorem RepL.noE : ∀ {v : List V} {d : List D}, RepL T xp G ι v d → noEL d = true → RepL T xp' G ι v d
  | _, _, .nil, _ => .nil
  | _, _, .cons r rs, e => by
    simp only [Den.noEL, Bool.and_eq_true] at e
    exact .cons (Rep.noE r e.1) (RepL.noE rs e.2)
end
mutual
theorem Rep.more (hx : ∀ q ∈ xp, q ∈ xp') : ∀ {v : V} {d : D}, Rep T xp G ι v d → Rep T xp' G ι v d
  | _, _, .non => .non
  | _, _, .bl b => .bl b
  | _, _, .int i => .int i
  | _, _, .str x => .str x
  | _, _, .ty n => .ty n
  | _, _, .cl i => .cl i
  | _, _, .fn i => .fn i
  | _, _, .lst h r => .lst h (RepL.more hx r)
  | _, _, .ro h r => .ro h (RepL.more hx r)
  | _, _, .tup h r => .tup h (RepL.more hx r)
  | _, _, .dic h l r => .dic h l (RepL.more hx r)
  | _, _, .dct h k t r => .dct h k t (RepL.more hx r)
  | _, _, .ins h l r => .ins h l (RepL.more hx r)
  | _, _, .exc h l => .exc (hx _ h) l
  | _, _, .excd h g l r n => .excd (hx _ h) g l (RepL.more hx r) n
  | _, _, .err h l => .err h l
  | _, _, .errd h g k r => .errd h g k (RepL.more hx r)
  | _, _, .box h => .box h
theorem RepL.more (hx : ∀ q ∈ xp, q ∈ xp') : ∀ {v : List V} {d : List D}, RepL T xp G ι v d → RepL T xp' G ι v d
  | _, _, .nil => .nil
  | _, _, .cons r rs => .cons (Rep.more hx r) (RepL.more hx rs)
end
theorem RelSt.more (hx : ∀ q ∈ xp, q ∈ xp') {st : Store} {H : Hp} (r : RelSt T xp ι st H) : RelSt T xp' ι st H := by
  refine ⟨r.len, r.nd, r.there, r.hdn, fun k a c hk hc => ?_⟩
  have q := r.ok k a c hk hc
  cases c with
  | lst ds =>
    obtain ⟨xs, h1, h2⟩ := q
    exact ⟨xs, h1, h2.more hx⟩
  | ins c ds =>
    obtain ⟨dx, xs, h1, h2, h3⟩ := q
    exact ⟨dx, xs, h1, h2, h3.more hx⟩
  | dic ks ds =>
    obtain ⟨xs, h1, h2, h3⟩ := q
    exact ⟨xs, h1, h2, h3.more hx⟩
  | set ks =>
    obtain ⟨L, h1, h2, h3⟩ := q
    exact ⟨L, h1, h2, h3⟩
  | dicT kvs =>
    obtain ⟨R, h1, h2, h3⟩ := q
    exact ⟨R, h1, h2, h3.more hx⟩
  | dead => trivial
theorem RelSt.noE {st : Store} {H : Hp} (r : RelSt T xp ι st H) (h : noES st = true) : RelSt T xp' ι st H := by
  refine ⟨r.len, r.nd, r.there, r.hdn, fun k a c hk hc => ?_⟩
  have q := r.ok k a c hk hc
  have e := List.all_eq_true.mp h c (List.mem_of_getElem? hc)
  cases c with
  | lst ds =>
    obtain ⟨xs, h1, h2⟩ := q
    exact ⟨xs, h1, h2.noE e⟩
  | ins c ds =>
    obtain ⟨dx, xs, h1, h2, h3⟩ := q
    exact ⟨dx, xs, h1, h2, h3.noE e⟩
  | dic ks ds =>
    obtain ⟨xs, h1, h2, h3⟩ := q
    exact ⟨xs, h1, h2, h3.noE e⟩
  | set ks =>
    obtain ⟨L, h1, h2, h3⟩ := q
    exact ⟨L, h1, h2, h3⟩
  | dicT kvs =>
    obtain ⟨R, h1, h2, h3⟩ := q
    exact ⟨R, h1, h2, h3.noE e⟩
  | dead => trivial
theorem EnvR.more (hx : ∀ q ∈ xp, q ∈ xp') {ρ : Rho} {σ : L2.St} (h : EnvR T xp G ι ρ σ) : EnvR T xp' G ι ρ σ := ⟨h.len, fun i d q => let ⟨v, a, b⟩ := h.at_ i d q; ⟨v, a, b.more hx⟩⟩
theorem EnvR.noE {ρ : Rho} {σ : L2.St} (h : EnvR T xp G ι ρ σ) (e : noER ρ = true) : EnvR T xp' G ι ρ σ := ⟨h.len, fun i d q => let ⟨v, a, b⟩ := h.at_ i d q; ⟨v, a, b.noE (List.all_eq_true.mp e _ (List.mem_of_getElem? q))⟩⟩
theorem EnvR.unset {ρ : Rho} {σ : L2.St} (h : EnvR T xp G ι ρ σ) (i : Nat) : EnvR T xp G ι (ρ.set i none) (σ.set i none) := by
  refine ⟨by simp [h.len], fun j d q => ?_⟩
  by_cases e : i = j
  · subst e
    by_cases hv : i < ρ.length
    · rw [List.getElem?_set_self hv] at q
      cases q
    · rw [List.getElem?_eq_none (by simpa using hv)] at q
      cases q
  · rw [List.getElem?_set_ne e] at q ⊢
    exact h.at_ j d q
end
def sTryAs (cth : Nat → Option Bool) (i : Nat) (b h : DS) : DS := fun ρ st => match b ρ st with
  | .exc c xs ρ1 s1 => match cth c with
    | some true => match h (ρ1.set i (some (.exc c xs))) s1 with
      | .ret d s2 => if noE d = true ∧ noES s2 = true then .ret d s2 else .bad
      | .nx ρ2 s2 => if noER (ρ2.set i none) = true ∧ noES s2 = true then .nx (ρ2.set i none) s2 else .bad
      | _ => .bad
    | some false => .exc c xs ρ1 s1
    | none => .bad
  | r => r
abbrev Ctx.try (C : Ctx) (W : WX) (pn : List (Addr × Obj)) (xe : Value → Shared → Prop) : Ctx := ⟨C.X.tr pn xe, C.T, C.xp, W, C.hK⟩
abbrev Ctx.suite (C : Ctx) (a : Addr) (c : Nat) (d : Option Addr) (pn : List (Addr × Obj)) : Ctx := ⟨C.X.suite a pn, C.T, (a, c, d) :: C.xp, fun _ _ _ _ => False, C.hK⟩
section
variable {C : Ctx} {x n : Str} {cv : Value} {i : Nat} {bd suite : List Stmt} {b₀ : Stmt} {np pos pos' : Pos} {mb mh : DS} {cth : Nat → Option Bool}
end
open L2H in
structure FnHG (P : Program) (w : World) (K : PySem.W.Frag) (mg : Str → Option Value) (base : Heap) (k : Nat) (f : Addr) (fd : FuncData) (ps : List Str) (sp : Addr × Obj → Sp) : Prop where
  len : ∀ p vs H Q E, sp p vs H Q E → vs.length = ps.length
  run : ∀ (A : Around) (outer : List Env) (s : Shared) (H : Hp) (args : Args) (us : List Value) (vs : List V) (Q : VK) (E : XK) (p : Addr × Obj), RoomH k A → Hot1 A p → PinOk outer H s p → Env0 P w K mg base A outer s H →
    BindsTo s fd args (ps.zip us) → Vals vs us → sp p vs H Q E → codeAny (model P w) A (.call (.ref f) args) (CR (L2N.CX P w) outer P w H s Q E) s
def spH (T : Txt) (n : Nat) (m : DF) (p : Addr × Obj) : Sp := fun vs H Q E => vs.length = n ∧ ∃ c d, L2N.Zn (.ref (T.ca c)) d p.2 ∧ (∃ vs, p.2.data = .fields vs) ∧ ∃ ds st ι, RepL T [(p.1, c, d)] (hide ι st H) ι vs ds ∧ RelSt T [(p.1, c, d)] ι st H ∧
  Post T [(p.1, c, d)] (fun c d H => E c d H) ι st H (Rep T [(p.1, c, d)]) Q (m ds st)
section
open L2H
variable {P : Program} {w : World} {mg : Str → Option Value} {base : Heap} {T : Txt}
theorem fnH_of {x qual : Str} {st : Stmt} {f : Addr} {fd : FuncData} {N ps : List Str} {k : Nat} {m : DS} (F : Fun T.K x qual st f fd) (S : FnScope N ps (defScope st))
    (h : ∀ (cdv : Value) (A : Around) (outer : List Env) (s : Shared) (H : Hp) (E : XK) (p : Addr × Obj) (c : Nat) (d : Option Addr), L2N.Zn (.ref (T.ca c)) d p.2 → (∃ vs, p.2.data = .fields vs) → Hot1 A p → RoomH k (A.deeper (PyProof.Rows.envOfC qual (defScope st) s.heap.objs.size f cdv)) →
      PDSs ⟨cxH (L2N.CX P w) P w T.K mg base N qual (defScope st) f cdv A outer s H E p, T, [(p.1, c, d)], fun c d _ H' => E c d H', rfl⟩ (defBody st) m) :
    FnHG P w T.K mg base (k + 1) f fd ps (spH T ps.length (body N.length ps.length m)) := by
  obtain ⟨oc, od, kV, doc, pm, an, cdv, ct, osl, efd, lk, hcd⟩ := F.ex
  subst efd
  refine ⟨fun p vs H Q E h => h.1, fun A outer s H args us vs Q E p hr hot hpin e0 hb r hsp => ?_⟩
  have hl : vs.length = ps.length := hsp.1
  have kin : T.K.In s.heap := e0.mod.kin.keeps fun b o q => (e0.bs b o q).1
  have nol : s.heap.NoLimit := e0.mod.nolimit.keeps fun b o q => (e0.bs b o q).1
  refine codeAny_call_function hr.depth (kin _ _ lk) rfl S.co S.gen rfl (PySem.W.codeRec_of kin hcd) (hb _ _ _ _ ?_)
  refine wpAny_newFunctionEnv_cells S.kind (fun y hy => ?_) fun env he s1 xx => ?_
  · obtain ⟨n, v⟩ := y
    refine (S.par n (List.of_mem_zip hy).1).elim .inl fun q => .inr ⟨q, ?_⟩
    exact PySem.W.cellsFrom_some _ _ _ (.inl q)
  · subst he
    refine ⟨nol.keeps xx.toInCall.keep, codeAny_func ?_⟩
    obtain ⟨_, c, d, hz, hd, ds, st0, ι, rd, rl, hp⟩ := hsp
    have ht := h cdv A outer s H E p c d hz hd hot (hr.deeper _)
    have I := inv_startH (CX := L2N.CX P w) (E := E) S hpin e0 hl r xx
    have hl' : ds.length = ps.length := rd.length.symm.trans hl
    unfold body at hp
    rw [if_pos hl'] at hp
    have hq : tDS T [(p.1, c, d)] (fun c d _ H' => E c d H') m { nx := fun _ H' => Q .non H', rt := Q } (L2.start N vs) H := by
      refine ⟨_, st0, ι, start_env rd, rl, ?_⟩
      rw [hl']
      cases hm : m (ds.map some ++ List.replicate (N.length - ps.length) none) st0 with
      | nx ρ s1 =>
        rw [hm] at hp
        exact fun σ ι1 H1 s r _ => hp .non ι1 H1 s r .non
      | ret d s1 =>
        rw [hm] at hp
        exact hp
      | exc c xs ρ s1 =>
        rw [hm] at hp
        exact fun σ ι1 H1 dx s r _ xd => hp ι1 H1 dx s r xd
      | _ =>
        rw [hm] at hp
        exact hp.elim
    refine wpAny_mono (ht.run [] s1 (L2.start N vs) H _ I hq) (fun fl s' hs => ?_) fun e s' hs => hs
    match fl, hs with
    | .ret u, ⟨v, σ', H', J, rv, q⟩ => exact ⟨v, H', J.os, J.bare, J.base, J.hok, rv, q⟩
    | .next, ⟨σ', H', J, q⟩ => exact ⟨V.non, H', J.os, J.bare, J.base, J.hok, rfl, q⟩
    | .brk, ⟨_, _, _, q⟩ => exact q.elim
    | .cont, ⟨_, _, _, q⟩ => exact q.elim
end
section
open L2H
variable {C : Ctx} {f : Addr} {fd : FuncData} {ps : List Str} {k : Nat} {m : DF} {x : Str} {q pos : Pos} {e : Expr} {es : List Expr} {ma : DA} {a : Addr} {oe : Obj} {c : Nat} {d : Option Addr} {pn : List (Addr × Obj)}
theorem pd_callH (hx : C.xp = []) (hz : L2N.Zn (.ref (C.T.ca c)) d oe) (hd : ∃ vs, oe.data = .fields vs) (F : FnHG C.X.prog C.X.w C.X.K C.X.mg C.X.base k f fd ps (spH C.T ps.length m)) (hr : RoomH k (C.X.A.mark (some (.ref a)))) (hg : Gl C.X x) (hm : C.X.mg x = some (.ref f)) (hk : PySem.W.keepIn C.X.K (.ref f) = true)
    (hb : Binds C.X.K fd ps []) (ha : PDA (C.suite a c d ((a, oe) :: pn)) (e :: es) ma) (hdb : (x == ("__debug__" : Str)) = false := by decide) (he : starEach (e :: es) C.X.env = (false, eval e C.X.env) :: starEach es C.X.env := by rfl) (hpl : (backTo pos (starEach es C.X.env)).any (·.1) = false := by rfl) :
    PD (C.suite a c d ((a, oe) :: pn)) (.Call (.Name x q) (e :: es) [] pos) (fun ρ st => (ma ρ st).bind fun ds s1 => if ds.length = ps.length then m ds s1 else .bad) := by
  refine ⟨fun pins s σ H Q I ⟨ρ, st, ι, er, rl, p⟩ => ?_⟩
  refine wpAny_Call_Name_kw (ld_glob I hg hm ?_ hdb)
  refine PySem.W.callWith_K (h₀ := C.X.base) I.ok.mod.kin hk (thn (ha.run pos pins s σ H _ I ⟨ρ, st, ι, er, rl, post_bind (Q := fun vs H1 => ∃ ds s1 ι1, RepL C.T ((a, c, d) :: C.xp) (hide ι1 s1 H1) ι1 vs ds ∧ RelSt C.T ((a, c, d) :: C.xp) ι1 s1 H1 ∧
    Post C.T ((a, c, d) :: C.xp) (fun _ _ _ => False) ι1 s1 H1 (Rep C.T ((a, c, d) :: C.xp)) Q (if ds.length = ps.length then m ds s1 else .bad)) p fun ds s1 vs ι1 H1 st1 rl1 rv p1 => ⟨ds, s1, ι1, rv, rl1, p1⟩⟩) fun us s1 ⟨vs, H1, I1, r, ds, s2, ι1, rv, rl1, p1⟩ => ⟨I1.kIn, ?_⟩) he hpl
  split at p1
  · rename_i hl
    rw [hx] at rv rl1 p1
    have hl2 : us.length = ps.length := by rw [← r.length, rv.length]; exact hl
    have b := hb s1 us I1.kIn (by rw [List.append_nil]; exact hl2)
    rw [List.append_nil] at b
    obtain ⟨vs0, hvs⟩ := hd
    have P1 := I1.pin (a, oe) (List.mem_append_left _ List.mem_cons_self)
    have hpin : PinOk C.X.stack H1 s1 (a, oe) := ⟨P1.1, P1.2.1, fun hm => (List.mem_cons.mp (I1.stkSub a hm)).elim P1.2.2.1 P1.2.2.2.1, P1.2.2.2.2⟩
    have z := F.run (C.X.A.mark (some (.ref a))) C.X.stack s1 H1 ⟨us, []⟩ us vs Q (fun _ _ _ => False) (a, oe) hr ⟨rfl, vs0, hvs, hz.2.2 _ hvs⟩ hpin I1.env0 b r ⟨rv.length.trans hl, c, d, hz, ⟨vs0, hvs⟩, ds, s2, ι1, rv, rl1, p1⟩
    refine wpAny_call (codeAny_mono z fun res s' q' => ?_)
    match res, q' with
    | .error e', q2 =>
      obtain ⟨_, _, _, _, _, _, _, _, _, _, _, _, ff⟩ := q2
      exact ff.elim
    | .ok (.ret u), q2 => exact I1.after q2
    | .ok .next, q2 => exact False.elim q2
    | .ok .brk, q2 => exact False.elim q2
    | .ok .cont, q2 => exact False.elim q2
  · exact p1.elim
end
end Den
set_option maxRecDepth 100000
set_option maxHeartbeats 4000000
namespace Den
open PySem PySem.Spec PyProof.Rows L2
def Held (C : Ctx) : Prop := ∀ q ∈ C.xp, ∃ oe, (q.1, oe) ∈ C.X.pn ∧ Zc (.ref (C.T.ca q.2.1)) q.2.2 oe ∧ ∃ vs, oe.data = .fields vs
def rIsH (C : Ctx) : List V → Hp → VK → Prop := fun xs H Q => ∃ (a : Addr) (c : Nat) (k : V) (cv : Value) (b : Bool), (a, c, none) ∈ C.xp ∧ ExcC C.T.K (C.T.ca c) ∧ xs = [.ref a, k] ∧ ClsV k cv ∧ PySem.W.kitOne C.T.K (.ref (C.T.ca c)) cv = some b ∧ Q (.bl b) H
def isAny (isT : Tag → Tag → Option Bool) (t : Tag) : List Tag → Option Bool
  | [] => some false
  | c :: r => match isT t c with
    | some true => some true
    | some false => isAny isT t r
    | none => none
def clsL : List D → Option (List Tag)
  | [] => some []
  | x :: xs => match clsA x, clsL xs with
    | some t, some ts => some (t :: ts)
    | _, _ => none
def bIsH (es : List Nat) (isT : Tag → Tag → Option Bool) : FB := fun ds st => match ds with
  | [.exc c [], k] => if c ∈ es then (match clsA k with
    | some u => (isT (.ow c) u).map fun b => (.bl b, st)
    | none => none) else none
  | _ => none
def bIsHT (es : List Nat) (isT : Tag → Tag → Option Bool) : FB := fun ds st => match ds with
  | [.exc c [], .tup ks] => if c ∈ es then (match clsL ks with
    | some us => (isAny isT (.ow c) us).map fun b => (.bl b, st)
    | none => none) else none
  | _ => none
def bIsiT (own : List Nat) (isT : Tag → Tag → Option Bool) : FB := fun ds st => match ds with
  | [x, .tup ks] => match tagD own x st, clsL ks with
    | some t, some us => (isAny isT t us).map fun b => (.bl b, st)
    | _, _ => none
  | _ => none
section
variable {C : Ctx} {isT : Tag → Tag → Option Bool}
end
end Den
set_option maxRecDepth 100000
set_option maxHeartbeats 4000000
namespace Den
open PySem PySem.Spec PyProof.Rows L2
section
variable {C : Ctx}
def rMulS : R2 := fun x y H Q => ∃ (z : Str) (k : Int), x = .str z ∧ y = .int k ∧ 0 ≤ k ∧ k ≤ 1000 ∧ z.length ≤ 1000 ∧ Q (.str (Txt.mul z k)) H
theorem op_mulS : OpR C.X (binaryOp .Mult) rMulS := by
  intro pins s σ H x y v u Q I rx ry h
  obtain ⟨z, k, rfl, rfl, h1, h2, h3, q⟩ := h
  obtain ⟨t, rfl⟩ := rx
  obtain ⟨t2, rfl⟩ := ry
  have hz : (z.length : Int) ≤ 1000 := by exact_mod_cast h3
  have hm : (z.length : Int) * k ≤ 1000 * 1000 := Int.mul_le_mul hz h2 h1 (by decide)
  refine PySem.SB.mul ⟨?_, fun hn _ => ?_, fun hn _ => ?_⟩ fun t' j => ⟨.str (Txt.mul z k), H, I.tok _, ⟨_, rfl⟩, q⟩
  · rw [decide_eq_false (by omega), decide_eq_false (by omega)]; rfl
  · have : (z.length : Int) ≤ (2 ^ 63 - 1) / k := Int.le_ediv_of_mul_le (by omega) (Int.le_trans hm (by decide))
    omega
  · have hk : k.toNat ≤ 1000 := by omega
    have : z.length * k.toNat ≤ 1000 * 1000 := Nat.mul_le_mul h3 hk
    exact decide_eq_false (by rw [sizeLine_eq]; omega)
def fMulS : D → D → Option D
  | .str z, .int k => if 0 ≤ k ∧ k ≤ 1000 ∧ z.length ≤ 1000 then some (.str (Txt.mul z k)) else none
  | _, _ => none
def dMulS : DE → DE → DE := dOp2 fMulS
theorem mul_strD : OpD C rMulS fMulS := fun ι st H x y dx dy dz Q rl rx ry e k => by
  unfold fMulS at e
  split at e
  · split at e
    · rename_i h
      cases rx
      cases ry
      cases e
      exact ⟨_, _, rfl, rfl, h.1, h.2.1, h.2.2, k _ ι H (Step.refl _ _ _) rl (.str _)⟩
    · cases e
  · cases e
theorem pe_lock {X : Cx} {e : Expr} {te : TE} (he : PE X e te) : PE X e (fun σ H Q => te σ H fun x H1 => ∃ a u, x = .ref a ∧ H1 a = some u ∧ Mut (some u) ∧ ∀ od, Q x (upd H1 a (.frz od u))) :=
  ⟨fun pins s σ H Q I h => wpAny_mono (he.run pins s σ H _ I h) (fun u s1 ⟨v, H1, I1, r1, a, w, ev, ha, mu, q⟩ => let ⟨od, J⟩ := I1.lock ha mu; ⟨v, _, J, r1, q od⟩) fun _ _ x => x⟩
theorem upd_two {H : Hp} {q : Addr} {u w : HO} : upd (upd H q u) q w = upd H q w := by
  funext b
  by_cases hb : b = q
  · rw [hb, upd_same, upd_same]
  · rw [upd_ne hb, upd_ne hb, upd_ne hb]
def rIsHS (C : Ctx) : List V → Hp → VK → Prop := fun xs H Q => ∃ (a : Addr) (c : Nat) (tp : Addr) (cs : List V) (us : List Value) (b : Bool), (a, c, none) ∈ C.xp ∧ ExcC C.T.K (C.T.ca c) ∧ xs = [.ref a, .ref tp] ∧ SqT C.T.K H tp cs ∧ Paired ClsV cs us ∧ PySem.W.kitAny C.T.K (.ref (C.T.ca c)) us = some b ∧ Q (.bl b) H
variable {isT : Tag → Tag → Option Bool}
theorem lc_str {z : Str} {g : TG} {tt : TT} {te : TE} {vs : List Nat} {σ : L2.St} {H1 : Hp} {D : Addr} {Qd : Hp → Prop} (Pv : Nat → Hp → Prop) (h0 : Pv 0 (upd H1 D (.lst [])))
    (hs : ∀ i c H, z.cps[i]? = some c → Pv i H → g (.str ⟨#[c]⟩) (wipe σ vs) H fun σ2 H2 => wipe σ2 vs = wipe σ vs ∧ tt σ2 H2 fun b H3 =>
      if b = true then te σ2 H3 fun y H4 => ∃ acc, H4 D = some (.lst acc) ∧ acc.length < sizeLine ∧ Pv (i + 1) (upd H4 D (.lst (acc ++ [y]))) else Pv (i + 1) H3) (hd : ∀ H, Pv z.cps.size H → Qd H) :
    ∃ W : Nat → Nat → Hp → Prop, (∃ m, W 0 m (upd H1 D (.lst []))) ∧ ∀ i m H, W i m H →
      ((Its z).stop i H ∧ Qd H) ∨ ((Its z).go i H ∧ ∃ Nx : Hp → Prop, (∀ H', Nx H' → ∃ m', m' < m ∧ W (i + 1) m' H') ∧ ∀ x H', (Its z).yld i H x H' → g x (wipe σ vs) H' fun σ2 H2 => wipe σ2 vs = wipe σ vs ∧ tt σ2 H2 fun b H3 =>
        if b = true then te σ2 H3 fun y H4 => ∃ acc, H4 D = some (.lst acc) ∧ acc.length < sizeLine ∧ Nx (upd H4 D (.lst (acc ++ [y]))) else Nx H3) := by
  refine ⟨fun i m H => m = z.cps.size - i ∧ i ≤ z.cps.size ∧ Pv i H, ⟨_, rfl, Nat.zero_le _, h0⟩, ?_⟩
  intro i m H hW
  obtain ⟨hm, hi, p⟩ := hW
  by_cases hlt : i < z.cps.size
  · refine .inr ⟨hlt, Pv (i + 1), fun H' p' => ⟨z.cps.size - (i + 1), by omega, rfl, hlt, p'⟩, fun x H' y => ?_⟩
    obtain ⟨e, c, hc, ev⟩ := y
    subst e ev
    exact hs i c _ hc p
  · have e : i = z.cps.size := by omega
    subst e
    exact .inl ⟨Nat.le_refl _, hd H p⟩
def signsD (z : Str) : List D := z.cps.toList.map fun c => D.str ⟨#[c]⟩
def dLcS (it : DE) (g : GD) (t : DT) (e : DE) (vs : List Nat) : DE := fun ρ st => (it ρ st).bind fun d s1 => match d with
  | .str z => if z.cps.size ≤ 100000 then lcEnd (lcL g t e (wipeD ρ vs) (signsD z) s1) else .bad
  | _ => .bad
variable {g : TG} {gd : GD} {is : List Nat} {t : DT} {e : DE} {elt tg iter : Expr} {ifs : List Expr} {scope : Scope} {own : List (Str × Nat)} {pos : Pos} {mi : DE}
theorem pd_lcS (hc : C.X.calm = true) (hN : C.X.N.Nodup) (hi : PD C iter mi) (ok : BlkOk C.X.N C.X.env.scope scope own) (hg : ∀ s H c cl fp, PG (C.blk s H scope c cl fp).X tg g) (hd : TgD C.T C.T.K g gd is) (hv : ∀ j ∈ is, j ∈ own.map (·.2))
    (ht : ∀ s H c cl fp, PDTs (C.blk s H scope c cl fp) ifs t) (he : ∀ s H c cl fp, PD (C.blk s H scope c cl fp) elt e) (hs : ∀ x, foldedSetIterable iter C.X.env x = pure x := by intro _; rfl) :
    PD C (.ListComp elt [⟨tg, iter, ifs, 0⟩] scope pos) (dLcS mi gd t e (own.map (·.2))) :=
  PE.imp (pe_lc hc hN (pi_str hi) ok hg ht he hs) fun σ H Q ⟨ρ, st, ι, er, rl, p⟩ => by
    refine ⟨ρ, st, ι, er, rl, post_bind p fun d s1 v ι1 H1 st1 rl1 rv p1 => ?_⟩
    have er1 := er.step st1
    cases rv with
    | str z =>
      dsimp only at p1
      split at p1
      · rename_i hl
        refine ⟨z, rfl, fun D hD => ?_⟩
        have hln : (signsD z).length = z.cps.size := by unfold signsD; simp
        refine lc_str (z := z) (LeftC C.T C.xp (fun c d H => C.W c d σ H) Q gd t e (wipeD ρ (own.map (·.2))) (signsD z) ι1 s1 H1 D) (leftC_start rl1 hD p1) (fun i x H' hx hL => ?_) fun H' hL => leftC_end rl1 hD (by rw [hln]; exact Nat.le_refl _) hL
        have hlt : i < z.cps.size := (Array.getElem?_eq_some_iff.mp hx).1
        have hy : (signsD z)[i]? = some (Den.D.str ⟨#[x]⟩) := by
          unfold signsD
          rw [List.getElem?_map, Array.getElem?_toList, hx]
          rfl
        exact leftC_turn hd hv (by omega) er1 hD hy (.str _) hL
      · exact p1.elim
    | _ => exact p1.elim
end
end Den
set_option maxRecDepth 100000
set_option maxHeartbeats 4000000
namespace Den
open PySem PySem.Spec PyProof.Rows L2
def scrH (K : PySem.W.Frag) (a : Addr) (o : Obj) (xs : List V) : Hp := fun b => if b = a ∧ K.lookup a = none then some (.frz o (.lst xs)) else none
section
variable {K : PySem.W.Frag} {a b : Addr} {o : Obj} {xs : List V} {u : HO}
theorem scrH_some (h : scrH K a o xs b = some u) : b = a ∧ K.lookup a = none ∧ u = .frz o (.lst xs) := by
  unfold scrH at h
  split at h
  · rename_i e
    exact ⟨e.1, e.2, (Option.some.inj h).symm⟩
  · cases h
theorem scrH_at (h : K.lookup a = none) : scrH K a o xs a = some (.frz o (.lst xs)) := if_pos ⟨rfl, h⟩
end
section
variable {P : Program} {w : World} {T : Txt} {mg : Str → Option Value} {k : Nat} {fa a : Addr} {fd : FuncData} {x : Str} {m : DF} {s : Shared} {vs : List Value} {ns : List Int}
theorem repL_numbers {xp : XT} {G : Hp} {ι : Io} : ∀ ns : List Int, RepL T xp G ι (ns.map V.int) (ns.map D.int)
  | [] => .nil
  | n :: ns => .cons (.int n) (repL_numbers ns)
theorem hide_nil (H : Hp) : hide ⟨[], []⟩ [] H = H := by
  funext b
  unfold hide
  rw [if_neg]
  simp [hidden, liveB]
theorem asked {H : Hp} (hS : SqL T.K H a (ns.map V.int)) (hm : ∃ st, m [.ro (ns.map D.int)] [] = .ok (.bl true) st) : spM T 1 m [.ref a] H (fun v _ => v = .bl true) fun _ _ _ => False := by
  obtain ⟨st, e⟩ := hm
  refine ⟨rfl, [], [.ro (ns.map D.int)], [], ⟨[], []⟩, .cons (.ro (by rw [hide_nil]; exact hS) (repL_numbers ns)) .nil, ⟨rfl, List.nodup_nil, fun _ h => (nomatch h), fun _ h => (nomatch h), fun k a c h => by simp at h⟩, ?_⟩
  rw [e]
  intro v ι' H' _ _ r
  cases r
  rfl
variable {mb : Str → Option Value}
theorem law_den (KX : T.K.In s.heap) (hns : s.heap.Ns mainGlobals mg) (hb : s.heap.Ns builtinsNs mb) (hbb : ∀ y : Str, y ≠ "__name__" → mb y = bootBuiltins y) (hlim : s.heap.NoLimit) (hg : s.gens = #[])
    (ha : s.heap.get? a = some { cls := .type "list", data := .seq vs.toArray }) (hi : IntsAre vs ns) (hl : ns.length ≤ sizeLine) (hr : RoomG k callerA) (hbind : ∀ (s : Shared) (u : Value), BindsTo s fd ⟨[u], []⟩ [(x, u)])
    (F : ∀ base : Heap, T.K.In base → base.Ns mainGlobals mg → FnG P w T.K mg base k fa fd [x] (spM T 1 m)) (hm : ∃ st, m [.ro (ns.map D.int)] [] = .ok (.bl true) st) :
    codeAny (model P w) callerA (.call (.ref fa) ⟨[.ref a], []⟩) (fun r s' => r = .ok (.ret (.bool true)) ∧ OldK s.heap s'.heap ∧ s'.os = s.os ∧ AllBare s'.gens) s := by
  -- H: what is told of the heap; B: the rest of it
  generalize hH : scrH T.K a { cls := .type "list", data := .seq vs.toArray } (ns.map V.int) = H
  have only : ∀ {c : Addr} {u : HO}, H c = some u → c = a ∧ T.K.lookup a = none ∧ u = .frz { cls := .type "list", data := .seq vs.toArray } (.lst (ns.map V.int)) := fun {c u} q => scrH_some (by rw [hH]; exact q)
  have stays : ∀ {c : Addr} {oc : Obj}, s.heap.get? c = some oc → (c ≠ a ∨ T.K.lookup a ≠ none) → (hidT s.heap H).get? c = some oc := fun {c oc} q n => hidT_get q (by
    cases e : H c with
    | none => rfl
    | some u => exact absurd (only e).1 (n.elim id fun z => absurd (only e).2.1 z))
  have names : ∀ {c : Addr} {mm : Str → Option Value}, s.heap.Ns c mm → (hidT s.heap H).Ns c mm := fun {c mm} h => by
    obtain ⟨oc, es, n, e1, e2, e3⟩ := h
    refine ⟨oc, es, n, stays e1 (.inl fun z => ?_), e2, e3⟩
    rw [z, ha] at e1
    rw [← Option.some.inj e1] at e2
    exact Data.noConfusion e2
  have inB : T.K.In (hidT s.heap H) := fun c oc q => stays (KX c oc q) (by
    by_cases z : c = a
    · right
      rw [← z, q]
      intro y
      cases y
    · exact .inl z)
  have told : HOk P w H s.heap := fun c u q => by
    obtain ⟨e1, _, e3⟩ := only q
    subst e1 e3
    exact ⟨ha, by rw [List.length_map]; exact hl, vs, _, vals_ints hi, ha⟩
  have isL : SqL T.K H a (ns.map V.int) := by
    cases q : T.K.lookup a with
    | none =>
      refine .inl (.inr ⟨{ cls := .type "list", data := .seq vs.toArray }, ?_⟩)
      rw [← hH]
      exact scrH_at q
    | some oa =>
      have e := KX a oa q
      rw [ha] at e
      cases e
      exact .inr ⟨_, vs.toArray, _, q, rfl, rfl, rfl, by rw [List.size_toArray, hi.length]; exact hl, by simpa using vals_ints hi⟩
  have around : Env0 P w T.K mg (hidT s.heap H) callerA [] s H := by
    refine ⟨rfl, ⟨inB, names hns, ⟨mb, names hb, hbb⟩, ?_⟩, fun c oc q => of_hidT q, Nat.le_of_eq (hidT_size _ _), trivial, fun c q => ?_, told, .of_eq hg⟩
    · obtain ⟨ml, h1, h2⟩ := hlim
      exact ⟨ml, names h1, h2⟩
    · exact absurd (show c ∈ ([] : List Addr) from q) List.not_mem_nil
  have z := (F _ inB (names hns)).run callerA [] s H ⟨[.ref a], []⟩ [.ref a] [.ref a] _ _ hr around (hbind s (.ref a)) (.cons rfl .nil) (asked isL hm)
  refine codeAny_mono z fun r s' q => ?_
  match r, q with
  | .error e, q =>
    obtain ⟨_, _, _, _, _, _, _, _, _, _, _, _, hf⟩ := q
    exact False.elim hf
  | .ok (.ret u), q =>
    obtain ⟨v, H2, eos, eb, un, ok2, rv, hv⟩ := q
    have hv' : v = .bl true := hv
    subst hv'
    have hu : u = Value.bool true := rv
    refine ⟨by rw [hu], OldK.of_keep fun c oc qc => ?_, eos, eb⟩
    cases hc : H c with
    | none => exact un.keep c oc qc hc (fun y => absurd (show c ∈ ([] : List Addr) from y) List.not_mem_nil) (by simp)
    | some u =>
      obtain ⟨_, _, e3⟩ := only hc
      subst e3
      have w1 := (told c _ hc).1
      have w2 := (ok2 c _ (un.frzs c _ _ hc)).1
      rw [qc] at w1
      rw [w2, w1]
  | .ok .next, q => exact False.elim q
  | .ok .brk, q => exact False.elim q
  | .ok .cont, q => exact False.elim q
end
end Den
set_option maxRecDepth 100000
set_option maxHeartbeats 4000000
namespace Den
open PySem PySem.Spec PyProof.Rows L2
section
variable {C : Ctx}
def dNeg (a : DE) : DE := fun ρ st => (a ρ st).bind fun x s1 => match x with
  | .int i => .ok (.int (-i)) s1
  | _ => .bad
theorem pd_neg {a : Expr} {ma : DE} {pos : Pos} (ha : PD C a ma) : PD C (.UnaryOp .USub a pos) (dNeg ma) :=
  PE.imp (pe_un un_neg ha) fun σ H Q ⟨ρ, st, ι, er, rl, p⟩ => by
    refine ⟨ρ, st, ι, er, rl, post_bind p fun d s1 v ι1 H1 st1 rl1 rv p1 => ?_⟩
    cases rv with
    | int i => exact ⟨i, rfl, p1 _ ι1 H1 (Step.refl _ _ _) rl1 (.int _)⟩
    | _ => exact p1.elim
structure GlD (T : Txt) (v : V) (d : D) : Prop where
  r : ∀ xp G ι, Rep T xp G ι v d
theorem pd_gl {x : Str} {v : V} {u : Value} {d : D} {pos : Pos} (h : GlD C.T v d) (hr : RelV v u) (hm : C.X.mg x = some u) (hg : Gl C.X x) (hd : (x == ("__debug__" : Str)) = false := by decide) : PD C (.Name x pos) (dC d) :=
  pd_c (pe_glob hg hm hr hd) fun G ι => h.r _ G ι
theorem pd_cl {x : Str} {c : Nat} {pos : Pos} (hm : C.X.mg x = some (.ref (C.T.ca c))) (hg : Gl C.X x) (hd : (x == ("__debug__" : Str)) = false := by decide) : PD C (.Name x pos) (dC (.cl c)) :=
  pd_c (v := .ref (C.T.ca c)) (pe_glob hg hm rfl hd) fun G ι => .cl c
theorem pd_bt {x : Str} {n : String} {pos : Pos} (hv : bootBuiltins x = some (.type n)) (hm : C.X.mg x = none) (hg : Gl C.X x) (hn : x ≠ "__name__" := by decide) (hd : (x == ("__debug__" : Str)) = false := by decide) : PD C (.Name x pos) (dC (.ty n)) :=
  pd_c (v := .ty n) (pe_bltn hg hm hv rfl hn hd) fun G ι => .ty n
def fMulA (x y : D) : Option D := (fMul x y).or (fMulS x y)
def dMulA : DE → DE → DE := dOp2 fMulA
theorem pd_mulA {a b : Expr} {ma mb : DE} {pos : Pos} (ha : PD C a ma) (hb : PD C b mb) : PD C (.BinOp a .Mult b pos) (dMulA ma mb) :=
  pd_op ((op_mulW.or op_rep).or op_mulS) (((OpD.ints (fun i j h => show i.natAbs.log2 + j.natAbs.log2 < 1000000 from of_decide_eq_true h) fun _ _ _ i j => .int _).or rep_lst).or mul_strD) ha hb
end
section
variable {P : Program} {w : World} {K : PySem.W.Frag} {mg : Str → Option Value} {base : Heap} {N : List Str} {qual : Str} {sc : Scope} {f : Addr} {cdv : Value} {A : Around} {outer : List Env} {s : Shared} {H : Hp} {E : XK}
theorem takes_def : L2N.Takes (cxOf (L2N.CX P w) P w K mg base N qual sc f cdv A outer s H E) (fun c d _ H' => E c d H') := L2N.takes_of rfl rfl rfl rfl
theorem passes_def : PassesOwn (model P w) (cxOf (L2N.CX P w) P w K mg base N qual sc f cdv A outer s H E).A (cxOf (L2N.CX P w) P w K mg base N qual sc f cdv A outer s H E).env (cxOf (L2N.CX P w) P w K mg base N qual sc f cdv A outer s H E).xe := L2.passes_of rfl
theorem takes_no {X : Cx} : L2N.Takes X (fun _ _ _ _ => False) := fun u s' x => by
  obtain ⟨_, _, _, _, _, _, _, _, _, _, _, _, _, _, _, _, h⟩ := x
  exact False.elim h
end
structure Fit (C : Ctx) (k : Nat) : Prop where
  calm : C.X.calm = true
  room : RoomG k C.X.A
  tk : L2N.Takes C.X C.W
theorem Fit.mono {C : Ctx} {j k : Nat} (h : Fit C k) (hj : j ≤ k) : Fit C j := ⟨h.calm, h.room.mono hj, h.tk⟩
theorem Fit.blk {C : Ctx} {k : Nat} (h : Fit C k) (s : Shared) (H : Hp) (scope : Scope) (c : Addr) (cl : List (Str × Addr)) (fp : List Addr) : Fit (C.blk s H scope c cl fp) k := ⟨h.calm, h.room, takes_no⟩
theorem Fit.u {C : Ctx} {k : Nat} (h : Fit C k) : C.X.A.units + 64 < cLine := by have := h.room.room.un; omega
section
variable {P : Program} {w : World} {K : PySem.W.Frag} {mg : Str → Option Value} {base : Heap}
theorem fnG_ofD {x qual : Str} {params : Arguments} {body : List Stmt} {scope : Scope} {dvs : List V} {kws : List (Str × V)} {f : Addr} {fd : FuncData} {N ps : List Str} {k : Nat} {sp : Sp} (F : FunD K x qual params body scope dvs kws f fd) (S : FnScope N ps scope) (len : ∀ vs H Q E, sp vs H Q E → vs.length = ps.length)
    (hbody : ∀ (cdv : Value) (A : Around) (outer : List Env) (s : Shared) (H : Hp) (vs : List V) (Q : VK) (E : XK), RoomG k (A.deeper (envOfC qual scope s.heap.objs.size f cdv)) → sp vs H Q E →
      ∃ t, PSs (cxOf (L2N.CX P w) P w K mg base N qual scope f cdv A outer s H E) body t ∧ t { nx := fun _ H' => Q .non H', rt := Q } (start N vs) H) :
    FnG P w K mg base (k + 1) f fd ps sp := by
  obtain ⟨oc, od, dV, kV, doc, pm, an, cdv, ct, osl, efd, lk, hcd, _, _⟩ := F.ex
  subst efd
  refine ⟨len, fun A outer s H args us vs Q E hr e0 hb r hsp => ?_⟩
  have hl := len _ _ _ _ hsp
  have kin : K.In s.heap := e0.mod.kin.keeps fun b o q => (e0.bs b o q).1
  have nol : s.heap.NoLimit := e0.mod.nolimit.keeps fun b o q => (e0.bs b o q).1
  refine codeAny_call_function hr.room.depth (kin _ _ lk) rfl S.co S.gen rfl (PySem.W.codeRec_of kin hcd) (hb _ _ _ _ ?_)
  refine wpAny_newFunctionEnv_cells S.kind (fun y hy => ?_) fun env he s1 x => ?_
  · obtain ⟨n, v⟩ := y
    refine (S.par n (List.of_mem_zip hy).1).elim .inl fun q => .inr ⟨q, ?_⟩
    exact PySem.W.cellsFrom_some _ _ _ (.inl q)
  · subst he
    refine ⟨nol.keeps x.toInCall.keep, codeAny_func ?_⟩
    obtain ⟨t, ht, hq⟩ := hbody cdv A outer s H vs Q E (hr.deeper _) hsp
    have I := inv_start (CX := L2N.CX P w) (E := E) S hr.room.hd e0 hl r x
    refine wpAny_mono (ht.run [] s1 (start N vs) H _ I hq) (fun fl s' hs => ?_) fun e s' hs => hs
    match fl, hs with
    | .ret u, ⟨v, σ', H', J, rv, q⟩ => exact ⟨v, H', J.os, J.bare, J.base, J.hok, rv, q⟩
    | .next, ⟨σ', H', J, q⟩ => exact ⟨V.non, H', J.os, J.bare, J.base, J.hok, rfl, q⟩
    | .brk, ⟨_, _, _, q⟩ => exact q.elim
    | .cont, ⟨_, _, _, q⟩ => exact q.elim
end
theorem fnD_ofD {P : Program} {w : World} {mg : Str → Option Value} {base : Heap} {T : Txt} {x qual : Str} {params : Arguments} {bd : List Stmt} {scope : Scope} {dvs : List V} {kws : List (Str × V)} {f : Addr} {fd : FuncData} {N ps : List Str} {k : Nat} {m : DS} (F : FunD T.K x qual params bd scope dvs kws f fd) (S : FnScope N ps scope)
    (h : ∀ (cdv : Value) (A : Around) (outer : List Env) (s : Shared) (H : Hp) (E : XK) (xp : XT), RoomG k (A.deeper (PyProof.Rows.envOfC qual scope s.heap.objs.size f cdv)) →
      PDSs ⟨cxOf (L2N.CX P w) P w T.K mg base N qual scope f cdv A outer s H E, T, xp, fun c d _ H' => E c d H', rfl⟩ bd m) :
    FnG P w T.K mg base (k + 1) f fd ps (spM T ps.length (body N.length ps.length m)) := by
  refine fnG_ofD F S (fun vs H Q E h => h.1) fun cdv A outer s H vs Q E hr hsp => ?_
  obtain ⟨hl, xp, ds, st0, ι, rd, rl, hp⟩ := hsp
  refine ⟨_, h cdv A outer s H E xp hr, _, st0, ι, start_env rd, rl, ?_⟩
  have hl' : ds.length = ps.length := rd.length.symm.trans hl
  unfold body at hp
  rw [if_pos hl'] at hp
  rw [hl']
  cases hm : m (ds.map some ++ List.replicate (N.length - ps.length) none) st0 with
  | nx ρ s1 =>
    rw [hm] at hp
    exact fun σ ι1 H1 s r _ => hp .non ι1 H1 s r .non
  | ret d s1 =>
    rw [hm] at hp
    exact hp
  | exc c xs ρ s1 =>
    rw [hm] at hp
    exact fun σ ι1 H1 dx s r _ xd => hp ι1 H1 dx s r xd
  | _ =>
    rw [hm] at hp
    exact hp.elim
section
variable {T : Txt} {fd : FuncData} {ps ks : List Str} {n : Nat}
theorem bd_all (b : Binds T.K fd ps []) (hn : n = ps.length) : Bd T fd ps n [] (fun ds _ => ds) := by
  subst hn
  refine ⟨fun us _ => us, fun vs _ => vs, ⟨fun s us ws X l1 l2 => ?_, fun r _ => r⟩, fun vs zs l _ => l, fun xp G ι vs ds zs es r _ => r⟩
  have := b s us X (by rw [List.append_nil]; exact l1)
  rw [List.append_nil] at this
  exact this
theorem bd_dfl {x qual : Str} {params : Arguments} {bd : List Stmt} {scope : Scope} {dvs : List V} {dds : List D} {f : Addr} (g : {α : Type} → List α → List α → List α → List α) (F : FunD T.K x qual params bd scope dvs [] f fd) (hd : dvs ≠ [])
    (hdd : ∀ xp G ι, RepL T xp G ι dvs dds)
    (hrel : ∀ {vs ds zs : List V} {us its ws : List Value}, Vals vs us → Vals ds its → Vals zs ws → Vals (g vs ds zs) (g us its ws))
    (hrep : ∀ xp G ι {vs ds zs : List V} {us its ws : List D}, RepL T xp G ι vs us → RepL T xp G ι ds its → RepL T xp G ι zs ws → RepL T xp G ι (g vs ds zs) (g us its ws))
    (hlen : ∀ vs zs : List V, vs.length = n → zs.length = ks.length → (g vs dvs zs).length = ps.length)
    (h : ∀ (D : Addr) (kV doc pm : Value) (an : Option Addr) (cdv ct : Value) (us its ws : List Value), us.length = n → its.length = dvs.length → ws.length = ks.length →
      ∃ k, bindArgs (PySem.W.fnOf x qual params bd scope (.ref D) kV doc pm an cdv ct) ⟨us, ks.zip ws⟩ = seqItems? (.ref D) >>= k ∧ k (some its.toArray) = pure (ps.zip (g us its ws))) : Bd T fd ps n ks (fun ds es => g ds dds es) := by
  obtain ⟨oc, od, dV, kV, doc, pm, an, cdv, ct, osl, rfl, lk, hcd, hD, hK⟩ := F.ex
  rcases hD with ⟨e, _⟩ | ⟨_, D, o, its, m, rfl, lT, oT, rT⟩
  · exact absurd e hd
  · refine ⟨fun us ws => g us its ws, fun vs zs => g vs dvs zs, ⟨fun s us ws X l1 l2 => ?_, fun r1 r2 => hrel r1 rT r2⟩, hlen, fun xp G ι vs ds zs es r1 r2 => hrep xp G ι r1 (hdd xp G ι) r2⟩
    obtain ⟨k, e1, e2⟩ := h D kV doc pm an cdv ct us its ws l1 rT.length.symm l2
    refine BindsTo.of_looks fun M => ?_
    rw [e1]
    exact looks_items X lT oT (.of_pure e2)
end
end Den
set_option maxRecDepth 100000
set_option maxHeartbeats 4000000
namespace Den
open PySem PySem.Spec PyProof.Rows L2
structure Def (P : Program) (w : World) (T : Txt) (mg : Str → Option Value) (base : Heap) (k i : Nat) (x : Str) (ps : List Str) (m : DF) : Prop where
  ex : ∃ fd, FnG P w T.K mg base k (T.fa i) fd ps (spM T ps.length m) ∧ Binds T.K fd ps []
  g : mg x = some (.ref (T.fa i))
  kp : PySem.W.keepIn T.K (.ref (T.fa i)) = true
theorem Def.mono {P : Program} {w : World} {T : Txt} {mg : Str → Option Value} {base : Heap} {j k i : Nat} {x : Str} {ps : List Str} {m : DF} (d : Def P w T mg base j i x ps m) (h : j ≤ k) : Def P w T mg base k i x ps m :=
  ⟨let ⟨fd, a, b⟩ := d.ex; ⟨fd, a.mono h, b⟩, d.g, d.kp⟩
def dCallA (n : Nat) (f : DF) (a : DA) : DE := fun ρ st => (a ρ st).bind fun ds s1 => if ds.length = n then f ds s1 else .bad
section
variable {C : Ctx} {k i : Nat} {x : Str} {ps : List Str} {m : DF} {p pos : Pos} {e : Expr} {es : List Expr} {ma : DA}
theorem pd_callA (d : Def C.X.prog C.X.w C.T C.X.mg C.X.base k i x ps m) (ft : Fit C k) (hg : Gl C.X x) (ha : PDA C (e :: es) ma) (hdb : (x == ("__debug__" : Str)) = false := by decide) (he : starEach (e :: es) C.X.env = (false, eval e C.X.env) :: starEach es C.X.env := by rfl)
    (hpl : ((backTo pos (starEach (e :: es) C.X.env)).any (·.1) || (backToKw pos (keywordEach [] C.X.env)).any (·.1.isNone)) = false := by rfl) : PD C (.Call (.Name x p) (e :: es) [] pos) (dCallA ps.length m ma) := by
  obtain ⟨fd, F, b⟩ := d.ex
  have F' : FnD C k (C.T.fa i) fd ps m := by rw [FnD, C.hK]; exact F
  have h := pd_call (pos := pos) (p := p) (ks := []) (n := ps.length) F' ft.room ft.tk (bd_all b rfl) hg d.g (by rw [C.hK]; exact d.kp) ha pdk_nil rfl rfl hdb he hpl
  refine PE.imp h fun σ H Q ⟨ρ, st, ι, er, rl, q⟩ => ⟨ρ, st, ι, er, rl, ?_⟩
  have ee : dCall ps.length ([] : List Str).length (fun ds _ => ds) m ma dNil ρ st = dCallA ps.length m ma ρ st := by
    unfold dCall dCallA dNil
    congr 1
    funext ds s1
    simp
  rw [ee]
  exact q
end
end Den
namespace Den
open PySem PySem.Spec PyProof.Rows L2
structure Lk (T : Txt) (i : Nat) (x qual : Str) (st : Stmt) : Prop where
  ex : ∃ fd, Fun T.K x qual st (T.fa i) fd
theorem defD_of {P : Program} {w : World} {mg : Str → Option Value} {base : Heap} {T : Txt} {x qual : Str} {st : Stmt} {N ps : List Str} {k i : Nat} {m : DS} (l : Lk T i x qual st) (hg : mg x = some (.ref (T.fa i))) (S : FnScope N ps (defScope st))
    (hb : ∀ (kV doc pm : Value) (an : Option Addr) (cdv ct : Value) (us : List Value), us.length = ps.length → bindArgs (PySem.W.fnOf x qual (defArgs st) (defBody st) (defScope st) .none kV doc pm an cdv ct) ⟨us, []⟩ = pure (ps.zip us))
    (h : ∀ (cdv : Value) (A : Around) (outer : List Env) (s : Shared) (H : Hp) (E : XK) (xp : XT), Fit ⟨cxOf (L2N.CX P w) P w T.K mg base N qual (defScope st) (T.fa i) cdv A outer s H E, T, xp, fun c d _ H' => E c d H', rfl⟩ k →
      PassesOwn (model P w) (cxOf (L2N.CX P w) P w T.K mg base N qual (defScope st) (T.fa i) cdv A outer s H E).A (cxOf (L2N.CX P w) P w T.K mg base N qual (defScope st) (T.fa i) cdv A outer s H E).env (cxOf (L2N.CX P w) P w T.K mg base N qual (defScope st) (T.fa i) cdv A outer s H E).xe →
      PDSs ⟨cxOf (L2N.CX P w) P w T.K mg base N qual (defScope st) (T.fa i) cdv A outer s H E, T, xp, fun c d _ H' => E c d H', rfl⟩ (defBody st) m) :
    Def P w T mg base (k + 1) i x ps (body N.length ps.length m) := by
  obtain ⟨fd, F⟩ := l.ex
  exact ⟨⟨fd, fnD_of F S fun cdv A outer s H E xp hr => h cdv A outer s H E xp ⟨rfl, hr, takes_def⟩ passes_def, F.binds hb⟩, hg, F.kp⟩
def isTab (tab : List (Tag × Tag × Bool)) : Tag → Tag → Option Bool := fun t c => (tab.find? fun q => decide (q.1 = t) && decide (q.2.1 = c)).map (·.2.2)
theorem isTab_ok {T : Txt} {tab : List (Tag × Tag × Bool)} (h : ∀ q ∈ tab, PySem.W.kitOne T.K (tagV T q.1) (tagV T q.2.1) = some q.2.2) : IsT T (isTab tab) := fun t c b e => by
  obtain ⟨q, hq, rfl⟩ := Option.map_eq_some_iff.mp e
  have h1 := List.find?_some hq
  have h2 := List.mem_of_find?_eq_some hq
  obtain ⟨e1, e2⟩ := (Bool.and_eq_true _ _).mp h1
  rw [← of_decide_eq_true e1, ← of_decide_eq_true e2]
  exact h q h2
theorem pd_glE {C : Ctx} {x : Str} {d : D} {pos : Pos} (h : ∃ (v : V) (u : Value), GlD C.T v d ∧ RelV v u ∧ C.X.mg x = some u) (hg : Gl C.X x) (hd : (x == ("__debug__" : Str)) = false := by decide) : PD C (.Name x pos) (dC d) := by
  obtain ⟨v, u, h1, h2, h3⟩ := h
  exact pd_gl h1 h2 h3 hg hd
end Den
set_option maxRecDepth 100000
set_option maxHeartbeats 4000000
namespace Den
open PySem PySem.Spec PyProof.Rows L2
theorem Fit.try {C : Ctx} {k : Nat} (h : Fit C k) {W : WX} {pn : List (Addr × Obj)} {xe : Value → Shared → Prop} (tk : L2N.Takes (C.X.tr pn xe) W) : Fit (C.try W pn xe) k := ⟨h.calm, h.room, tk⟩
theorem no_mem {α : Type} {xp : List α} : ∀ q ∈ ([] : List α), q ∈ xp := fun q h => by cases h
theorem Post.few {α β : Type} {T : Txt} {xp : XT} {W : Value → Option Addr → Hp → Prop} {ι : Io} {st : Store} {H : Hp} {R : XT → Hp → Io → β → α → Prop} {Q : β → Hp → Prop} (hR : ∀ G ι v d, R [] G ι v d → R xp G ι v d) : ∀ {r : Res α}, Post T xp W ι st H (R xp) Q r → Post T [] W ι st H (R []) Q r
  | .ok d st', h => fun v ι' H' s r x => h v ι' H' s (r.more no_mem) (hR _ _ _ _ x)
  | .exc c ds st', h => fun ι' H' dx s r x => h ι' H' dx s (r.more no_mem) (by
      rcases x with x | ⟨d, xs, h1, h2, h3, h4, h5, h6⟩
      · exact .inl x
      · exact .inr ⟨d, xs, h1, h2, h3, h4, h5.more no_mem, h6⟩)
  | .bad, h => h
def bodyE (N n : Nat) (m : DS) : DF := fun ds st => if noEL ds = true ∧ noES st = true then body N n m ds st else .bad
section
variable {P : Program} {w : World} {mg : Str → Option Value} {base : Heap} {T : Txt}
theorem spM_few {n : Nat} {N : Nat} {m : DS} {vs : List V} {H : Hp} {Q : VK} {E : XK} (h : spM T n (bodyE N n m) vs H Q E) : vs.length = n ∧ ∃ ds st ι, RepL T [] (hide ι st H) ι vs ds ∧ RelSt T [] ι st H ∧ Post T [] (fun c d H => E c d H) ι st H (Rep T []) Q (body N n m ds st) := by
  obtain ⟨hl, xp, ds, st, ι, rd, rl, hp⟩ := h
  unfold bodyE at hp
  split at hp
  · rename_i hn
    exact ⟨hl, ds, st, ι, rd.noE hn.1, rl.noE hn.2, Post.few (R := fun xp => Rep T xp) (fun _ _ _ _ x => x.more no_mem) hp⟩
  · exact hp.elim
theorem defD_of0 {x qual : Str} {st : Stmt} {N ps : List Str} {k i : Nat} {m : DS} (l : Lk T i x qual st) (hg : mg x = some (.ref (T.fa i))) (S : FnScope N ps (defScope st))
    (hb : ∀ (kV doc pm : Value) (an : Option Addr) (cdv ct : Value) (us : List Value), us.length = ps.length → bindArgs (PySem.W.fnOf x qual (defArgs st) (defBody st) (defScope st) .none kV doc pm an cdv ct) ⟨us, []⟩ = pure (ps.zip us))
    (h : ∀ (cdv : Value) (A : Around) (outer : List Env) (s : Shared) (H : Hp) (E : XK), Fit ⟨cxOf (L2N.CX P w) P w T.K mg base N qual (defScope st) (T.fa i) cdv A outer s H E, T, [], fun c d _ H' => E c d H', rfl⟩ k →
      PassesOwn (model P w) (cxOf (L2N.CX P w) P w T.K mg base N qual (defScope st) (T.fa i) cdv A outer s H E).A (cxOf (L2N.CX P w) P w T.K mg base N qual (defScope st) (T.fa i) cdv A outer s H E).env (cxOf (L2N.CX P w) P w T.K mg base N qual (defScope st) (T.fa i) cdv A outer s H E).xe →
      PDSs ⟨cxOf (L2N.CX P w) P w T.K mg base N qual (defScope st) (T.fa i) cdv A outer s H E, T, [], fun c d _ H' => E c d H', rfl⟩ (defBody st) m) :
    Def P w T mg base (k + 1) i x ps (bodyE N.length ps.length m) := by
  obtain ⟨fd, F⟩ := l.ex
  refine ⟨⟨fd, fnG_of F S (fun vs H Q E h => h.1) fun cdv A outer s H vs Q E hr hsp => ?_, F.binds hb⟩, hg, F.kp⟩
  obtain ⟨hl, ds, st0, ι, rd, rl, hp⟩ := spM_few hsp
  refine ⟨_, h cdv A outer s H E ⟨rfl, hr, takes_def⟩ passes_def, _, st0, ι, start_env rd, rl, ?_⟩
  have hl' : ds.length = ps.length := rd.length.symm.trans hl
  unfold body at hp
  rw [if_pos hl'] at hp
  rw [hl']
  cases hm : m (ds.map some ++ List.replicate (N.length - ps.length) none) st0 with
  | nx ρ s1 =>
    rw [hm] at hp
    exact fun σ ι1 H1 s r _ => hp .non ι1 H1 s r .non
  | ret d s1 =>
    rw [hm] at hp
    exact hp
  | exc c xs ρ s1 =>
    rw [hm] at hp
    exact fun σ ι1 H1 dx s r _ xd => hp ι1 H1 dx s r xd
  | _ =>
    rw [hm] at hp
    exact hp.elim
theorem fnD_ofF {x qual : Str} {params : Arguments} {bd : List Stmt} {scope : Scope} {dvs : List V} {kws : List (Str × V)} {f : Addr} {fd : FuncData} {N ps : List Str} {k : Nat} {m : DS} (F : FunD T.K x qual params bd scope dvs kws f fd) (S : FnScope N ps scope)
    (h : ∀ (cdv : Value) (A : Around) (outer : List Env) (s : Shared) (H : Hp) (E : XK) (xp : XT), Fit ⟨cxOf (L2N.CX P w) P w T.K mg base N qual scope f cdv A outer s H E, T, xp, fun c d _ H' => E c d H', rfl⟩ k →
      PDSs ⟨cxOf (L2N.CX P w) P w T.K mg base N qual scope f cdv A outer s H E, T, xp, fun c d _ H' => E c d H', rfl⟩ bd m) :
    FnG P w T.K mg base (k + 1) f fd ps (spM T ps.length (body N.length ps.length m)) :=
  fnD_ofD F S fun cdv A outer s H E xp hr => h cdv A outer s H E xp ⟨rfl, hr, takes_def⟩
structure DefH (P : Program) (w : World) (T : Txt) (mg : Str → Option Value) (base : Heap) (k i : Nat) (x : Str) (ps : List Str) (m : DF) : Prop where
  ex : ∃ fd, FnHG P w T.K mg base k (T.fa i) fd ps (spH T ps.length m) ∧ Binds T.K fd ps []
  g : mg x = some (.ref (T.fa i))
  kp : PySem.W.keepIn T.K (.ref (T.fa i)) = true
open L2H in
theorem defH_of {x qual : Str} {st : Stmt} {N ps : List Str} {k i : Nat} {m : DS} (l : Lk T i x qual st) (hg : mg x = some (.ref (T.fa i))) (S : FnScope N ps (defScope st))
    (hb : ∀ (kV doc pm : Value) (an : Option Addr) (cdv ct : Value) (us : List Value), us.length = ps.length → bindArgs (PySem.W.fnOf x qual (defArgs st) (defBody st) (defScope st) .none kV doc pm an cdv ct) ⟨us, []⟩ = pure (ps.zip us))
    (h : ∀ (cdv : Value) (A : Around) (outer : List Env) (s : Shared) (H : Hp) (E : XK) (p : Addr × Obj) (c : Nat) (d : Option Addr), Held ⟨cxH (L2N.CX P w) P w T.K mg base N qual (defScope st) (T.fa i) cdv A outer s H E p, T, [(p.1, c, d)], fun c d _ H' => E c d H', rfl⟩ →
      (cxH (L2N.CX P w) P w T.K mg base N qual (defScope st) (T.fa i) cdv A outer s H E p).A.units + 64 < cLine →
      PDSs ⟨cxH (L2N.CX P w) P w T.K mg base N qual (defScope st) (T.fa i) cdv A outer s H E p, T, [(p.1, c, d)], fun c d _ H' => E c d H', rfl⟩ (defBody st) m) :
    DefH P w T mg base (k + 1) i x ps (body N.length ps.length m) := by
  obtain ⟨fd, F⟩ := l.ex
  refine ⟨⟨fd, fnH_of F S fun cdv A outer s H E p c d hz hd hot hr => h cdv A outer s H E p c d ?_ ?_, F.binds hb⟩, hg, F.kp⟩
  · intro q hq
    rw [List.mem_singleton] at hq
    subst hq
    exact ⟨p.2, List.mem_singleton.mpr rfl, hz.zc, hd⟩
  · have := hr.un
    show (A.deeper _).units + 64 < cLine
    omega
end
section
variable {C : Ctx} {ps : List Str} {k i : Nat} {m : DF} {x : Str} {q pos : Pos} {e : Expr} {es : List Expr} {ma : DA} {a : Addr} {oe : Obj} {c : Nat} {d : Option Addr} {pn : List (Addr × Obj)}
theorem pd_callHA (dh : DefH C.X.prog C.X.w C.T C.X.mg C.X.base k i x ps m) (hx : C.xp = []) (hz : L2N.Zn (.ref (C.T.ca c)) d oe) (hd : ∃ vs, oe.data = .fields vs) (hr : RoomG k C.X.A) (hg : Gl C.X x) (ha : PDA (C.suite a c d ((a, oe) :: pn)) (e :: es) ma)
    (hdb : (x == ("__debug__" : Str)) = false := by decide) (he : starEach (e :: es) C.X.env = (false, eval e C.X.env) :: starEach es C.X.env := by rfl) (hpl : (backTo pos (starEach es C.X.env)).any (·.1) = false := by rfl) :
    PD (C.suite a c d ((a, oe) :: pn)) (.Call (.Name x q) (e :: es) [] pos) (dCallA ps.length m ma) := by
  obtain ⟨fd, F, b⟩ := dh.ex
  have F' : FnHG C.X.prog C.X.w C.X.K C.X.mg C.X.base k (C.T.fa i) fd ps (spH C.T ps.length m) := by rw [C.hK]; exact F
  have rm : L2H.RoomH k (C.X.A.mark (some (.ref a))) := ⟨hr.room.dp, hr.room.un⟩
  exact pd_callH hx hz hd F' rm hg dh.g (by rw [C.hK]; exact dh.kp) (by rw [C.hK]; exact b) ha hdb he hpl
end
end Den
set_option maxRecDepth 100000
set_option maxHeartbeats 1000000
namespace Den
open PySem PySem.Spec PyProof.Rows L2
def outB : SRes → Res D
  | .nx _ st' => .ok .non st'
  | .ret d st' => .ok d st'
  | .exc c xs _ st' => .exc c xs st'
  | _ => .bad
@[simp] theorem outB_nx {ρ : Rho} {st : Store} : outB (.nx ρ st) = .ok .non st := rfl
@[simp] theorem outB_ret {d : D} {st : Store} : outB (.ret d st) = .ok d st := rfl
@[simp] theorem outB_exc {c : Nat} {xs : List D} {ρ : Rho} {st : Store} : outB (.exc c xs ρ st) = .exc c xs st := rfl
theorem body_eq {N n : Nat} {m : DS} {ds : List D} {st : Store} (h : ds.length = n) : body N n m ds st = outB (m (ds.map some ++ List.replicate (N - n) none) st) := by
  unfold body
  rw [if_pos h]
  rfl
theorem run {N n : Nat} {m : DS} {ds : List D} {st : Store} {r : SRes} {w : Res D} (hl : ds.length = n) (h : m (ds.map some ++ List.replicate (N - n) none) st = r) (ho : outB r = w) : body N n m ds st = w := by
  rw [body_eq hl, h, ho]
section
variable {a b c : DE} {t u : DT} {ρ : Rho} {st s1 s2 s3 : Store} {x y z : D} {bb cc : Bool}
theorem ev_cons {r : DA} {xs : List D} (h : a ρ st = .ok x s1) (g : r ρ s1 = .ok xs s2) : dCons a r ρ st = .ok (x :: xs) s2 := by
  unfold dCons; rw [h, bind_ok, g, bind_ok]
theorem ev_call {n : Nat} {f : DF} {r : DA} {xs : List D} {w : Res D} (h : r ρ st = .ok xs s1) (hl : xs.length = n) (hf : f xs s1 = w) : dCallA n f r ρ st = w := by
  unfold dCallA; rw [h, bind_ok, if_pos hl, hf]
theorem ev_not (h : t ρ st = .ok bb s1) : tNotD t ρ st = .ok (!bb) s1 := by unfold tNotD; rw [h]; rfl
theorem ev_truth {w : Bool} (h : a ρ st = .ok x s1) (hx : truth x = some w) : dTruth a ρ st = .ok w s1 := by
  unfold dTruth; rw [h, bind_ok, hx]
theorem ev_op {f : D → D → Option D} (h : a ρ st = .ok x s1) (g : b ρ s1 = .ok y s2) (hf : f x y = some z) : dOp2 f a b ρ st = .ok z s2 := by
  unfold dOp2; rw [h, bind_ok, g, bind_ok, hf]
theorem ev_asB (h : a ρ st = .ok (.bl bb) s1) : asB a ρ st = .ok bb s1 := by unfold asB; rw [h]; rfl
theorem ev_orT (h : t ρ st = .ok true s1) : tOrD t u ρ st = .ok true s1 := by unfold tOrD; rw [h]; rfl
theorem ev_orF {w : Res Bool} (h : t ρ st = .ok false s1) (g : u ρ s1 = w) : tOrD t u ρ st = w := by unfold tOrD; rw [h]; exact g
theorem ev_andF (h : t ρ st = .ok false s1) : tAndD t u ρ st = .ok false s1 := by unfold tAndD; rw [h]; rfl
theorem ev_andT {w : Res Bool} (h : t ρ st = .ok true s1) (g : u ρ s1 = w) : tAndD t u ρ st = w := by unfold tAndD; rw [h]; exact g
theorem ev_or (h : t ρ st = .ok bb st) (g : bb = false → u ρ st = .ok cc st) : tOrD t u ρ st = .ok (bb || cc) st := by
  cases bb with
  | true => rw [ev_orT h]; rfl
  | false => rw [ev_orF h (g rfl)]; simp
theorem ev_and (h : t ρ st = .ok bb st) (g : bb = true → u ρ st = .ok cc st) : tAndD t u ρ st = .ok (bb && cc) st := by
  cases bb with
  | false => rw [ev_andF h]; rfl
  | true => rw [ev_andT h (g rfl)]; simp
theorem ev_tup {r : DA} {xs : List D} (h : r ρ st = .ok xs s1) (hl : xs.length ≤ 100000) : dTup r ρ st = .ok (.tup xs) s1 := by
  unfold dTup; rw [h, bind_ok, if_pos hl]
theorem ev_lst {r : DA} {xs : List D} (h : r ρ st = .ok xs s1) (hl : xs.length ≤ 100000) : dLst r ρ st = .ok (.lst xs) s1 := by
  unfold dLst; rw [h, bind_ok, if_pos hl]
theorem ev_new {r : DA} {xs : List D} (h : r ρ st = .ok xs s1) (hl : xs.length ≤ 100000) : dNew r ρ st = .ok (.box s1.length) (s1 ++ [.lst xs]) := by
  unfold dNew; rw [h, bind_ok, if_pos hl]
theorem ev_ix (h : a ρ st = .ok x s1) (g : b ρ s1 = .ok y s2) (hz : ixD x y s2 = some z) : dIx a b ρ st = .ok z s2 := by
  unfold dIx; rw [h, bind_ok, g, bind_ok, hz]
theorem ev_cb1 {g : D → Store → Option D} {r : DA} (h : r ρ st = .ok [x] s1) (hg : g x s1 = some y) : dCB (one g) r ρ st = .ok y s1 := by
  unfold dCB one; rw [h, bind_ok]; dsimp only; rw [hg]; rfl
theorem ev_ite {w : Res D} (h : t ρ st = .ok bb s1) (g : (if bb = true then a else b) ρ s1 = w) : dIte t a b ρ st = w := by
  unfold dIte; rw [h, bind_ok]; cases bb <;> exact g
theorem ex_ret (h : a ρ st = .ok x s1) : sRet a ρ st = .ret x s1 := by unfold sRet; rw [h]; rfl
theorem ex_set {i : Nat} (h : a ρ st = .ok x s1) : sSet i a ρ st = .nx (ρ.set i (some x)) s1 := by unfold sSet; rw [h]; rfl
theorem ex_seq {p q : DS} {ρ1 : Rho} {w : SRes} (h : p ρ st = .nx ρ1 s1) (g : q ρ1 s1 = w) : sSeq p q ρ st = w := by unfold sSeq; rw [h, then_nx]; exact g
theorem ex_seqR {p q : DS} (h : p ρ st = .ret x s1) : sSeq p q ρ st = .ret x s1 := by unfold sSeq; rw [h, then_ret]
theorem ex_par {i j : Nat} {r : DA} (h : r ρ st = .ok [x, y] s1) : sPar i j r ρ st = .nx ((ρ.set i (some x)).set j (some y)) s1 := by unfold sPar; rw [h]; rfl
end
theorem forL_inv {g : GD} {b : DS} {I : Rho → Store → Prop} : ∀ {ds : List D} {ρ : Rho} {st : Store}, (∀ d ∈ ds, ∀ ρ st, I ρ st → ∃ ρ1, g d ρ = some ρ1 ∧ ∃ ρ2 s2, b ρ1 st = .nx ρ2 s2 ∧ I ρ2 s2) → I ρ st → ∃ ρ' st', forL g b ds ρ st = .nx ρ' st' ∧ I ρ' st'
  | [], ρ, st, _, h => ⟨ρ, st, rfl, h⟩
  | d :: ds, ρ, st, hb, h => by
    obtain ⟨ρ1, e1, ρ2, s2, e2, h2⟩ := hb d List.mem_cons_self ρ st h
    obtain ⟨ρ3, s3, e3, h3⟩ := forL_inv (ds := ds) (fun d hd => hb d (List.mem_cons_of_mem _ hd)) h2
    refine ⟨ρ3, s3, ?_, h3⟩
    unfold forL
    rw [e1]
    dsimp only
    rw [e2]
    exact e3
theorem forL_upto {g : GD} {b : DS} {I : List D → List D → Rho → Store → Prop} : ∀ {ds pre : List D} {ρ : Rho} {st : Store}, (∀ pre d r ρ st, I pre (d :: r) ρ st → ∃ ρ1, g d ρ = some ρ1 ∧ ∃ ρ2 s2, b ρ1 st = .nx ρ2 s2 ∧ I (pre ++ [d]) r ρ2 s2) → I pre ds ρ st → ∃ ρ' st', forL g b ds ρ st = .nx ρ' st' ∧ I (pre ++ ds) [] ρ' st'
  | [], pre, ρ, st, _, h => ⟨ρ, st, rfl, by rw [List.append_nil]; exact h⟩
  | d :: ds, pre, ρ, st, hb, h => by
    obtain ⟨ρ1, e1, ρ2, s2, e2, h2⟩ := hb pre d ds ρ st h
    obtain ⟨ρ3, s3, e3, h3⟩ := forL_upto (ds := ds) (pre := pre ++ [d]) hb h2
    refine ⟨ρ3, s3, ?_, by rw [List.append_assoc] at h3; exact h3⟩
    unfold forL
    rw [e1]
    dsimp only
    rw [e2]
    exact e3
theorem ex_forL {it : DE} {g : GD} {b : DS} {ρ : Rho} {st s1 : Store} {xs : List D} {w : SRes} (h : it ρ st = .ok (.lst xs) s1) (hw : forL g b xs ρ s1 = w) : sForL it g b ρ st = w := by unfold sForL; rw [h]; exact hw
theorem ex_forR1 {r : DA} {g : GD} {b : DS} {ρ : Rho} {st s1 : Store} {j : Int} {w : SRes} (h : r ρ st = .ok [.int j] s1) (hj : big62 j) (hw : forL g b (rangeD 0 j.toNat) ρ s1 = w) : sForR1 r g b ρ st = w := by unfold sForR1; rw [h, into_ok]; dsimp only; rw [if_pos hj]; exact hw
theorem mem_range {lo : Int} {n : Nat} {d : D} (h : d ∈ rangeD lo n) : ∃ i : Nat, i < n ∧ d = .int (lo + i) := by
  unfold rangeD at h
  obtain ⟨i, hi, rfl⟩ := List.mem_map.mp h
  exact ⟨i, List.mem_range.mp hi, rfl⟩
section
variable {it : DE} {r a : DA} {g : GD} {t : DT} {e o : DE} {vs : List Nat} {ρ : Rho} {st s1 s2 st' : Store} {xs ys ds : List D} {j : Int} {z : Str} {x y : D}
end
def Pot (k : Nat) (st : Store) : Prop := ∃ p, st[k]? = some (.lst [.int p])
structure Chg (k : Nat) (st st' : Store) : Prop where
  lt : k < st.length
  ex : ∃ p, st' = st.set k (.lst [.int p])
theorem Pot.lt {k : Nat} {st : Store} (h : Pot k st) : k < st.length := by
  obtain ⟨p, e⟩ := h
  exact (List.getElem?_eq_some_iff.mp e).1
theorem Pot.chg {k : Nat} {st : Store} (h : Pot k st) : Chg k st st := by
  refine ⟨h.lt, ?_⟩
  obtain ⟨p, e⟩ := h
  obtain ⟨lt, v⟩ := List.getElem?_eq_some_iff.mp e
  exact ⟨p, by rw [← v, List.set_getElem_self]⟩
theorem Chg.pot {k : Nat} {st st' : Store} (h : Chg k st st') : Pot k st' := by
  obtain ⟨lt, p, rfl⟩ := h
  exact ⟨p, by rw [List.getElem?_set_self lt]⟩
theorem Chg.len {k : Nat} {st st' : Store} (h : Chg k st st') : st'.length = st.length := by
  obtain ⟨lt, p, rfl⟩ := h
  rw [List.length_set]
theorem Chg.trans {k : Nat} {a b c : Store} (h : Chg k a b) (g : Chg k b c) : Chg k a c := by
  obtain ⟨lt, p, rfl⟩ := h
  obtain ⟨lt2, q, rfl⟩ := g
  exact ⟨lt, q, by rw [List.set_set]⟩
theorem Chg.other {k j : Nat} {st st' : Store} (h : Chg k st st') (n : j ≠ k) : st'[j]? = st[j]? := by
  obtain ⟨lt, p, rfl⟩ := h
  rw [List.getElem?_set_ne (Ne.symm n)]
theorem noES_set {st : Store} {k : Nat} {c : Cell} (h : noES st = true) (hc : noEC c = true) : noES (st.set k c) = true := by
  unfold noES at h ⊢
  rw [List.all_eq_true] at h ⊢
  intro x hx
  rcases List.mem_or_eq_of_mem_set hx with hx | rfl
  · exact h x hx
  · exact hc
theorem noES_app {st : Store} {c : Cell} (h : noES st = true) (hc : noEC c = true) : noES (st ++ [c]) = true := by
  unfold noES at h ⊢
  rw [List.all_append, h]
  simp [hc]
theorem Chg.noE {k : Nat} {st st' : Store} (h : Chg k st st') (n : noES st = true) : noES st' = true := by
  obtain ⟨lt, p, rfl⟩ := h
  exact noES_set n rfl
theorem atI_mem {α : Type} {xs : List α} {i : Int} (h0 : 0 ≤ i) (h1 : i < xs.length) : ∃ x ∈ xs, atI xs i = some x := by
  have hn : i.toNat < xs.length := by omega
  refine ⟨xs[i.toNat], List.getElem_mem _, ?_⟩
  unfold atI ixN
  rw [if_pos h0, if_pos h1]
  simp [List.getElem?_eq_getElem hn]
theorem ix_mem {xs : List D} {i : Int} {st : Store} (h0 : 0 ≤ i) (h1 : i < xs.length) : ∃ x ∈ xs, ixD (.lst xs) (.int i) st = some x := by
  obtain ⟨x, hx, e⟩ := atI_mem h0 h1
  exact ⟨x, hx, e⟩
end Den
set_option maxRecDepth 100000
set_option maxHeartbeats 1000000
namespace K11
open PySem PySem.Spec PyProof.Rows L2 Den Cel Ste
def isTE : Tag → Tag → Option Bool := isTab errTab
structure Facts (T : Txt) (mg : Str → Option Value) : Prop where
  isT : IsT T isT
  isTE : IsT T isTE
  own : ∀ c ∈ ([0, 1] : List Nat), ClsI T c
  held : ∀ c ∈ heldC, ExcC T.K (T.ca c)
  i_Bottle : ClsD T 0
  f_Bottle : T.fl 0 = [("maker" : Str), "year", "size"]
  i_Cellar : ClsD T 1
  f_Cellar : T.fl 1 = [("_rooms" : Str), "_hold", "_bottles", "_shelves", "_fates", "_sets", "_past"]
  nf_Bottle : ∀ t, nfB t = true → PySem.W.notFirst T.K (T.ca 0) (tagV T t) = true
  ne_Bottle : PySem.W.findIn T.K (.ref (T.ca 0)) "__ne__" = some (some (.builtin "object.__ne__"))
  ob_Bottle : PySem.W.mroIn T.K (T.ca 0) (.type "object") = some true
  f_TooMany : T.fl 17 = [("many" : Str), "most"]
  r_TooMany : ErrF T 17
  b1_TooMany : PySem.W.subIn T.K (.ref (T.ca 17)) (.type "BaseException") = some true
  b2_TooMany : PySem.W.typeIn T.K (.ref (T.ca 17)) = some (.type "type")
  i_TooMany : ErrK T.K (T.ca 17) veB "ValueError.__new__"
  n_TooMany : ∀ f ∈ (["many", "most"] : List Str), PySem.W.findIn T.K (.ref (T.ca 17)) f = some none
  f_Full : T.fl 21 = [("room" : Str), "shelf"]
  r_Full : ErrF T 21
  b1_Full : PySem.W.subIn T.K (.ref (T.ca 21)) (.type "BaseException") = some true
  b2_Full : PySem.W.typeIn T.K (.ref (T.ca 21)) = some (.type "type")
  i_Full : ErrK T.K (T.ca 21) leB "LookupError.__new__"
  n_Full : ∀ f ∈ (["room", "shelf"] : List Str), PySem.W.findIn T.K (.ref (T.ca 21)) f = some none
  f_Gone : T.fl 22 = [("number" : Str), "fate"]
  r_Gone : ErrF T 22
  b1_Gone : PySem.W.subIn T.K (.ref (T.ca 22)) (.type "BaseException") = some true
  b2_Gone : PySem.W.typeIn T.K (.ref (T.ca 22)) = some (.type "type")
  i_Gone : ErrK T.K (T.ca 22) leB "LookupError.__new__"
  n_Gone : ∀ f ∈ (["number", "fate"] : List Str), PySem.W.findIn T.K (.ref (T.ca 22)) f = some none
  f_Kept : T.fl 23 = [("number" : Str), "others"]
  r_Kept : ErrF T 23
  b1_Kept : PySem.W.subIn T.K (.ref (T.ca 23)) (.type "BaseException") = some true
  b2_Kept : PySem.W.typeIn T.K (.ref (T.ca 23)) = some (.type "type")
  i_Kept : ErrK T.K (T.ca 23) leB "LookupError.__new__"
  n_Kept : ∀ f ∈ (["number", "others"] : List Str), PySem.W.findIn T.K (.ref (T.ca 23)) f = some none
  g_SIZES : ∃ (v : V) (u : Value), GlD T v (.tup [.int 37, .int 75, .int 150]) ∧ RelV v u ∧ mg "SIZES" = some u
  g_USUAL_SIZE : ∃ (v : V) (u : Value), GlD T v (.int 75) ∧ RelV v u ∧ mg "USUAL_SIZE" = some u
  g_MONTHS : ∃ (v : V) (u : Value), GlD T v (.int 1000) ∧ RelV v u ∧ mg "MONTHS" = some u
  g_MOST_BOTTLES : ∃ (v : V) (u : Value), GlD T v (.int 40) ∧ RelV v u ∧ mg "MOST_BOTTLES" = some u
  e_NoMaker : ExcK T 2
  e_NoYear : ExcK T 3
  e_NoSize : ExcK T 4
  e_NoBottle : ExcK T 5
  e_NoRooms : ExcK T 7
  e_NoHold : ExcK T 8
  e_NoPlace : ExcK T 16
  e_NoNumber : ExcK T 15
  e_NoMonth : ExcK T 9
  e_NoWho : ExcK T 10
  e_NoSet : ExcK T 11
  e_NoDeed : ExcK T 12
  k_CellarError_HereError : ∀ c b, cth_CellarError_HereError c = some b → PySem.W.exmAny T.K (.ref (T.ca c)) [.ref (T.ca 19), .ref (T.ca 20)] = some b
  b_int : mg "int" = none
  b_bool : mg "bool" = none
  b_str : mg "str" = none
  b_list : mg "list" = none
  b_tuple : mg "tuple" = none
  b_isinstance : mg "isinstance" = none
  b_len : mg "len" = none
  b_all : mg "all" = none
  b_any : mg "any" = none
  b_max : mg "max" = none
  b_min : mg "min" = none
  b_range : mg "range" = none
  b_repr : mg "repr" = none
  b_sorted : mg "sorted" = none
  b_enumerate : mg "enumerate" = none
  b_dict : mg "dict" = none
  b_ValueError : mg "ValueError" = none
  b_LookupError : mg "LookupError" = none
  c_Bottle : mg "Bottle" = some (.ref (T.ca 0))
  c_Cellar : mg "Cellar" = some (.ref (T.ca 1))
  c_NoMaker : mg "NoMaker" = some (.ref (T.ca 2))
  c_NoYear : mg "NoYear" = some (.ref (T.ca 3))
  c_NoSize : mg "NoSize" = some (.ref (T.ca 4))
  c_NoBottle : mg "NoBottle" = some (.ref (T.ca 5))
  c_NoBottles : mg "NoBottles" = some (.ref (T.ca 6))
  c_NoRooms : mg "NoRooms" = some (.ref (T.ca 7))
  c_NoHold : mg "NoHold" = some (.ref (T.ca 8))
  c_NoMonth : mg "NoMonth" = some (.ref (T.ca 9))
  c_NoWho : mg "NoWho" = some (.ref (T.ca 10))
  c_NoSet : mg "NoSet" = some (.ref (T.ca 11))
  c_NoDeed : mg "NoDeed" = some (.ref (T.ca 12))
  c_NoWishes : mg "NoWishes" = some (.ref (T.ca 13))
  c_NoLine : mg "NoLine" = some (.ref (T.ca 14))
  c_NoNumber : mg "NoNumber" = some (.ref (T.ca 15))
  c_NoPlace : mg "NoPlace" = some (.ref (T.ca 16))
  c_TooMany : mg "TooMany" = some (.ref (T.ca 17))
  c_NoText : mg "NoText" = some (.ref (T.ca 18))
  c_CellarError : mg "CellarError" = some (.ref (T.ca 19))
  c_HereError : mg "HereError" = some (.ref (T.ca 20))
  c_Full : mg "Full" = some (.ref (T.ca 21))
  c_Gone : mg "Gone" = some (.ref (T.ca 22))
  c_Kept : mg "Kept" = some (.ref (T.ca 23))
theorem sc_TooMany : FnScope ["self", "many", "most"] ["self", "many", "most"] (defScope st_TooMany) := ⟨rfl, rfl, rfl, by decide +kernel, rfl, by decide +kernel, by decide +kernel⟩
abbrev ways_TooMany : List (Nat × List Str × List D × ((α : Type) → List α → List α → List α → List α)) := [(2, [], [], ge_TooMany_2)]
theorem sc_Full : FnScope ["self", "room", "shelf"] ["self", "room", "shelf"] (defScope st_Full) := ⟨rfl, rfl, rfl, by decide +kernel, rfl, by decide +kernel, by decide +kernel⟩
abbrev ways_Full : List (Nat × List Str × List D × ((α : Type) → List α → List α → List α → List α)) := [(2, [], [], ge_Full_2)]
theorem sc_Gone : FnScope ["self", "number", "fate"] ["self", "number", "fate"] (defScope st_Gone) := ⟨rfl, rfl, rfl, by decide +kernel, rfl, by decide +kernel, by decide +kernel⟩
abbrev ways_Gone : List (Nat × List Str × List D × ((α : Type) → List α → List α → List α → List α)) := [(2, [], [], ge_Gone_2)]
theorem sc_Kept : FnScope ["self", "number", "others"] ["self", "number", "others"] (defScope st_Kept) := ⟨rfl, rfl, rfl, by decide +kernel, rfl, by decide +kernel, by decide +kernel⟩
abbrev ways_Kept : List (Nat × List Str × List D × ((α : Type) → List α → List α → List α → List α)) := [(2, [], [], ge_Kept_2)]
theorem sc_is_whole : FnScope ["thing"] ["thing"] (defScope st_is_whole) := ⟨rfl, rfl, rfl, by decide +kernel, rfl, by decide +kernel, by decide +kernel⟩
theorem sc_is_within : FnScope ["thing", "least", "most"] ["thing", "least", "most"] (defScope st_is_within) := ⟨rfl, rfl, rfl, by decide +kernel, rfl, by decide +kernel, by decide +kernel⟩
theorem sc_is_month : FnScope ["thing"] ["thing"] (defScope st_is_month) := ⟨rfl, rfl, rfl, by decide +kernel, rfl, by decide +kernel, by decide +kernel⟩
theorem sc_is_year : FnScope ["thing"] ["thing"] (defScope st_is_year) := ⟨rfl, rfl, rfl, by decide +kernel, rfl, by decide +kernel, by decide +kernel⟩
theorem sc_is_word : FnScope ["thing", "least", "most", "sign"] ["thing", "least", "most"] (defScope st_is_word) := ⟨rfl, rfl, rfl, by decide +kernel, rfl, by decide +kernel, by decide +kernel⟩
theorem sc_is_maker : FnScope ["thing"] ["thing"] (defScope st_is_maker) := ⟨rfl, rfl, rfl, by decide +kernel, rfl, by decide +kernel, by decide +kernel⟩
theorem sc_is_rising : FnScope ["thing", "least", "most", "number", "at"] ["thing", "least", "most"] (defScope st_is_rising) := ⟨rfl, rfl, rfl, by decide +kernel, rfl, by decide +kernel, by decide +kernel⟩
theorem sc_is_size : FnScope ["thing"] ["thing"] (defScope st_is_size) := ⟨rfl, rfl, rfl, by decide +kernel, rfl, by decide +kernel, by decide +kernel⟩
theorem sc_Bottle : FnScope ["self", "maker", "year", "size"] ["self", "maker", "year", "size"] (defScope st_Bottle) := ⟨rfl, rfl, rfl, by decide +kernel, rfl, by decide +kernel, by decide +kernel⟩
def gB_Bottle_2_size {α : Type} (us ds ws : List α) : List α := us ++ (ws.drop 0).take 1
def gd_Bottle_2_size : List D → List D → List D := fun ds es => gB_Bottle_2_size ds [.int 75] es
structure Mk_Bottle (P : Program) (w : World) (T : Txt) (mg : Str → Option Value) (base : Heap) : Prop where
  ex : ∃ fd, Mk T.K (T.ca 0) (T.fa 8) ∧ FnG P w T.K mg base 4 (T.fa 8) fd ["self", "maker", "year", "size"] (spM T 4 f_Bottle) ∧ Bd T fd ["self", "maker", "year", "size"] 3 ["size"] gd_Bottle_2_size
theorem sc_Bottle___eq__ : FnScope ["self", "other"] ["self", "other"] (defScope st_Bottle___eq__) := ⟨rfl, rfl, rfl, by decide +kernel, rfl, by decide +kernel, by decide +kernel⟩
theorem sc__are_rooms : FnScope ["thing", "shelves"] ["thing"] (defScope st__are_rooms) := ⟨rfl, rfl, rfl, by decide +kernel, rfl, by decide +kernel, by decide +kernel⟩
theorem sc__check_when_and_who : FnScope ["month", "who"] ["month", "who"] (defScope st__check_when_and_who) := ⟨rfl, rfl, rfl, by decide +kernel, rfl, by decide +kernel, by decide +kernel⟩
theorem sc__put : FnScope ["told", "numbers", "worth", "number"] ["told", "numbers", "worth"] (defScope st__put) := ⟨rfl, rfl, rfl, by decide +kernel, rfl, by decide +kernel, by decide +kernel⟩
theorem sc__cleared : FnScope ["shelves", "numbers", "rows", "row", "number"] ["shelves", "numbers"] (defScope st__cleared) := ⟨rfl, rfl, rfl, by decide +kernel, rfl, by decide +kernel, by decide +kernel⟩
theorem sc__laid : FnScope ["shelves", "number", "room", "shelf", "rows"] ["shelves", "number", "room", "shelf"] (defScope st__laid) := ⟨rfl, rfl, rfl, by decide +kernel, rfl, by decide +kernel, by decide +kernel⟩
theorem sc__row_text : FnScope ["room", "shelf", "row", "number"] ["room", "shelf", "row"] (defScope st__row_text) := ⟨rfl, rfl, rfl, by decide +kernel, rfl, by decide +kernel, by decide +kernel⟩
theorem sc_Cellar : FnScope ["self", "rooms", "hold", "many"] ["self", "rooms", "hold"] (defScope st_Cellar) := ⟨rfl, rfl, rfl, by decide +kernel, rfl, by decide +kernel, by decide +kernel⟩
def gB_Cellar_1 {α : Type} (us ds ws : List α) : List α := us ++ ds
def gd_Cellar_1 : List D → List D → List D := fun ds es => gB_Cellar_1 ds [.int 6] es
def gB_Cellar_1_hold {α : Type} (us ds ws : List α) : List α := us ++ (ws.drop 0).take 1
def gd_Cellar_1_hold : List D → List D → List D := fun ds es => gB_Cellar_1_hold ds [.int 6] es
structure Mk_Cellar (P : Program) (w : World) (T : Txt) (mg : Str → Option Value) (base : Heap) : Prop where
  ex : ∃ fd, Mk T.K (T.ca 1) (T.fa 16) ∧ FnG P w T.K mg base 4 (T.fa 16) fd ["self", "rooms", "hold"] (spM T 3 f_Cellar) ∧ Bd T fd ["self", "rooms", "hold"] 2 [] gd_Cellar_1 ∧ Bd T fd ["self", "rooms", "hold"] 2 ["hold"] gd_Cellar_1_hold
theorem sc_Cellar___str__ : FnScope ["self", "room", "shelf"] ["self"] (defScope st_Cellar___str__) := ⟨rfl, rfl, rfl, by decide +kernel, rfl, by decide +kernel, by decide +kernel⟩
theorem sc_Cellar_lying : FnScope ["self", "number"] ["self"] (defScope st_Cellar_lying) := ⟨rfl, rfl, rfl, by decide +kernel, rfl, by decide +kernel, by decide +kernel⟩
abbrev ways_Cellar_lying : List (Nat × List Str × (List D → List D → List D)) := [(1, [], gd_Cellar_lying_0)]
theorem sc_Cellar___len__ : FnScope ["self"] ["self"] (defScope st_Cellar___len__) := ⟨rfl, rfl, rfl, by decide +kernel, rfl, by decide +kernel, by decide +kernel⟩
theorem sc_Cellar__now : FnScope ["self"] ["self"] (defScope st_Cellar__now) := ⟨rfl, rfl, rfl, by decide +kernel, rfl, by decide +kernel, by decide +kernel⟩
abbrev ways_Cellar__now : List (Nat × List Str × (List D → List D → List D)) := [(1, [], gd_Cellar__now_0)]
theorem sc_Cellar__keep : FnScope ["self"] ["self"] (defScope st_Cellar__keep) := ⟨rfl, rfl, rfl, by decide +kernel, rfl, by decide +kernel, by decide +kernel⟩
abbrev ways_Cellar__keep : List (Nat × List Str × (List D → List D → List D)) := [(1, [], gd_Cellar__keep_0)]
theorem sc_Cellar__like : FnScope ["self", "bottle", "number"] ["self", "bottle"] (defScope st_Cellar__like) := ⟨rfl, rfl, rfl, by decide +kernel, rfl, by decide +kernel, by decide +kernel⟩
abbrev ways_Cellar__like : List (Nat × List Str × (List D → List D → List D)) := [(2, [], gd_Cellar__like_1)]
theorem sc_Cellar__check_place : FnScope ["self", "room", "shelf"] ["self", "room", "shelf"] (defScope st_Cellar__check_place) := ⟨rfl, rfl, rfl, by decide +kernel, rfl, by decide +kernel, by decide +kernel⟩
abbrev ways_Cellar__check_place : List (Nat × List Str × (List D → List D → List D)) := [(3, [], gd_Cellar__check_place_2)]
theorem sc_Cellar__check_number : FnScope ["self", "number"] ["self", "number"] (defScope st_Cellar__check_number) := ⟨rfl, rfl, rfl, by decide +kernel, rfl, by decide +kernel, by decide +kernel⟩
abbrev ways_Cellar__check_number : List (Nat × List Str × (List D → List D → List D)) := [(2, [], gd_Cellar__check_number_1)]
theorem sc_Cellar__check_lies : FnScope ["self", "number"] ["self", "number"] (defScope st_Cellar__check_lies) := ⟨rfl, rfl, rfl, by decide +kernel, rfl, by decide +kernel, by decide +kernel⟩
abbrev ways_Cellar__check_lies : List (Nat × List Str × (List D → List D → List D)) := [(2, [], gd_Cellar__check_lies_1)]
theorem sc_Cellar__others_of : FnScope ["self", "number", "other"] ["self", "number"] (defScope st_Cellar__others_of) := ⟨rfl, rfl, rfl, by decide +kernel, rfl, by decide +kernel, by decide +kernel⟩
abbrev ways_Cellar__others_of : List (Nat × List Str × (List D → List D → List D)) := [(2, [], gd_Cellar__others_of_1)]
theorem sc_Cellar__check_free : FnScope ["self", "number"] ["self", "number"] (defScope st_Cellar__check_free) := ⟨rfl, rfl, rfl, by decide +kernel, rfl, by decide +kernel, by decide +kernel⟩
abbrev ways_Cellar__check_free : List (Nat × List Str × (List D → List D → List D)) := [(2, [], gd_Cellar__check_free_1)]
theorem sc_Cellar__bound_with : FnScope ["self", "number"] ["self", "number"] (defScope st_Cellar__bound_with) := ⟨rfl, rfl, rfl, by decide +kernel, rfl, by decide +kernel, by decide +kernel⟩
abbrev ways_Cellar__bound_with : List (Nat × List Str × (List D → List D → List D)) := [(2, [], gd_Cellar__bound_with_1)]
theorem sc_Cellar__leave : FnScope ["self", "numbers", "fate"] ["self", "numbers", "fate"] (defScope st_Cellar__leave) := ⟨rfl, rfl, rfl, by decide +kernel, rfl, by decide +kernel, by decide +kernel⟩
abbrev ways_Cellar__leave : List (Nat × List Str × (List D → List D → List D)) := [(3, [], gd_Cellar__leave_2)]
theorem sc_Cellar__leave_alone : FnScope ["self", "number", "how", "month", "who"] ["self", "number", "how", "month", "who"] (defScope st_Cellar__leave_alone) := ⟨rfl, rfl, rfl, by decide +kernel, rfl, by decide +kernel, by decide +kernel⟩
abbrev ways_Cellar__leave_alone : List (Nat × List Str × (List D → List D → List D)) := [(5, [], gd_Cellar__leave_alone_4)]
theorem sc_Cellar_lay : FnScope ["self", "bottle", "room", "shelf", "number"] ["self", "bottle", "room", "shelf"] (defScope st_Cellar_lay) := ⟨rfl, rfl, rfl, by decide +kernel, rfl, by decide +kernel, by decide +kernel⟩
def gg_Cellar_lay_1_shelf_room {α : Type} (us ds ws : List α) : List α := us ++ ((ws.drop 1).take 1 ++ (ws.drop 0).take 1)
def gd_Cellar_lay_1_shelf_room : List D → List D → List D := fun ds es => gg_Cellar_lay_1_shelf_room ds [.int 0, .int 0] es
abbrev ways_Cellar_lay : List (Nat × List Str × (List D → List D → List D)) := [(2, ["shelf", "room"], gd_Cellar_lay_1_shelf_room)]
theorem sc_Cellar_move : FnScope ["self", "number", "room", "shelf", "cleared"] ["self", "number", "room", "shelf"] (defScope st_Cellar_move) := ⟨rfl, rfl, rfl, by decide +kernel, rfl, by decide +kernel, by decide +kernel⟩
def gg_Cellar_move_1_room_shelf {α : Type} (us ds ws : List α) : List α := us ++ ((ws.drop 0).take 1 ++ (ws.drop 1).take 1)
def gd_Cellar_move_1_room_shelf : List D → List D → List D := fun ds es => gg_Cellar_move_1_room_shelf ds [.int 0, .int 0] es
def gg_Cellar_move_3 {α : Type} (us ds ws : List α) : List α := us
def gd_Cellar_move_3 : List D → List D → List D := fun ds es => gg_Cellar_move_3 ds [.int 0, .int 0] es
abbrev ways_Cellar_move : List (Nat × List Str × (List D → List D → List D)) := [(2, ["room", "shelf"], gd_Cellar_move_1_room_shelf), (4, [], gd_Cellar_move_3)]
theorem sc_Cellar_drink : FnScope ["self", "number", "month", "who"] ["self", "number", "month", "who"] (defScope st_Cellar_drink) := ⟨rfl, rfl, rfl, by decide +kernel, rfl, by decide +kernel, by decide +kernel⟩
def gg_Cellar_drink_2_who {α : Type} (us ds ws : List α) : List α := us ++ (ws.drop 0).take 1
def gd_Cellar_drink_2_who : List D → List D → List D := fun ds es => gg_Cellar_drink_2_who ds [.str ""] es
def gg_Cellar_drink_2 {α : Type} (us ds ws : List α) : List α := us ++ (ds.drop 0).take 1
def gd_Cellar_drink_2 : List D → List D → List D := fun ds es => gg_Cellar_drink_2 ds [.str ""] es
abbrev ways_Cellar_drink : List (Nat × List Str × (List D → List D → List D)) := [(3, ["who"], gd_Cellar_drink_2_who), (3, [], gd_Cellar_drink_2)]
theorem sc_Cellar_give : FnScope ["self", "number", "month", "who"] ["self", "number", "month", "who"] (defScope st_Cellar_give) := ⟨rfl, rfl, rfl, by decide +kernel, rfl, by decide +kernel, by decide +kernel⟩
def gg_Cellar_give_3 {α : Type} (us ds ws : List α) : List α := us
def gd_Cellar_give_3 : List D → List D → List D := fun ds es => gg_Cellar_give_3 ds [.str ""] es
abbrev ways_Cellar_give : List (Nat × List Str × (List D → List D → List D)) := [(4, [], gd_Cellar_give_3)]
theorem sc_Cellar_smash : FnScope ["self", "number", "month", "others"] ["self", "number", "month"] (defScope st_Cellar_smash) := ⟨rfl, rfl, rfl, by decide +kernel, rfl, by decide +kernel, by decide +kernel⟩
def gg_Cellar_smash_1_month {α : Type} (us ds ws : List α) : List α := us ++ (ws.drop 0).take 1
def gd_Cellar_smash_1_month : List D → List D → List D := fun ds es => gg_Cellar_smash_1_month ds [] es
abbrev ways_Cellar_smash : List (Nat × List Str × (List D → List D → List D)) := [(2, ["month"], gd_Cellar_smash_1_month)]
theorem sc_Cellar_bind : FnScope ["self", "numbers", "number"] ["self", "numbers"] (defScope st_Cellar_bind) := ⟨rfl, rfl, rfl, by decide +kernel, rfl, by decide +kernel, by decide +kernel⟩
def gg_Cellar_bind_1 {α : Type} (us ds ws : List α) : List α := us
def gd_Cellar_bind_1 : List D → List D → List D := fun ds es => gg_Cellar_bind_1 ds [] es
abbrev ways_Cellar_bind : List (Nat × List Str × (List D → List D → List D)) := [(2, [], gd_Cellar_bind_1)]
theorem sc_Cellar_drink_set : FnScope ["self", "number", "month", "who", "bound"] ["self", "number", "month", "who"] (defScope st_Cellar_drink_set) := ⟨rfl, rfl, rfl, by decide +kernel, rfl, by decide +kernel, by decide +kernel⟩
def gg_Cellar_drink_set_0_number_month_who {α : Type} (us ds ws : List α) : List α := us ++ ((ws.drop 0).take 1 ++ ((ws.drop 1).take 1 ++ (ws.drop 2).take 1))
def gd_Cellar_drink_set_0_number_month_who : List D → List D → List D := fun ds es => gg_Cellar_drink_set_0_number_month_who ds [.str ""] es
def gg_Cellar_drink_set_2 {α : Type} (us ds ws : List α) : List α := us ++ (ds.drop 0).take 1
def gd_Cellar_drink_set_2 : List D → List D → List D := fun ds es => gg_Cellar_drink_set_2 ds [.str ""] es
abbrev ways_Cellar_drink_set : List (Nat × List Str × (List D → List D → List D)) := [(1, ["number", "month", "who"], gd_Cellar_drink_set_0_number_month_who), (3, [], gd_Cellar_drink_set_2)]
theorem sc_Cellar_loosen : FnScope ["self", "number", "bound"] ["self", "number"] (defScope st_Cellar_loosen) := ⟨rfl, rfl, rfl, by decide +kernel, rfl, by decide +kernel, by decide +kernel⟩
def gg_Cellar_loosen_1 {α : Type} (us ds ws : List α) : List α := us
def gd_Cellar_loosen_1 : List D → List D → List D := fun ds es => gg_Cellar_loosen_1 ds [] es
abbrev ways_Cellar_loosen : List (Nat × List Str × (List D → List D → List D)) := [(2, [], gd_Cellar_loosen_1)]
theorem sc_Cellar_undo : FnScope ["self"] ["self"] (defScope st_Cellar_undo) := ⟨rfl, rfl, rfl, by decide +kernel, rfl, by decide +kernel, by decide +kernel⟩
def gg_Cellar_undo_0 {α : Type} (us ds ws : List α) : List α := us
def gd_Cellar_undo_0 : List D → List D → List D := fun ds es => gg_Cellar_undo_0 ds [] es
abbrev ways_Cellar_undo : List (Nat × List Str × (List D → List D → List D)) := [(1, [], gd_Cellar_undo_0)]
theorem sc_Cellar_bottle : FnScope ["self", "number"] ["self", "number"] (defScope st_Cellar_bottle) := ⟨rfl, rfl, rfl, by decide +kernel, rfl, by decide +kernel, by decide +kernel⟩
def gg_Cellar_bottle_1 {α : Type} (us ds ws : List α) : List α := us
def gd_Cellar_bottle_1 : List D → List D → List D := fun ds es => gg_Cellar_bottle_1 ds [] es
abbrev ways_Cellar_bottle : List (Nat × List Str × (List D → List D → List D)) := [(2, [], gd_Cellar_bottle_1)]
theorem sc_Cellar_place : FnScope ["self", "number", "room", "shelf"] ["self", "number"] (defScope st_Cellar_place) := ⟨rfl, rfl, rfl, by decide +kernel, rfl, by decide +kernel, by decide +kernel⟩
def gg_Cellar_place_1 {α : Type} (us ds ws : List α) : List α := us
def gd_Cellar_place_1 : List D → List D → List D := fun ds es => gg_Cellar_place_1 ds [] es
abbrev ways_Cellar_place : List (Nat × List Str × (List D → List D → List D)) := [(2, [], gd_Cellar_place_1)]
theorem sc_Cellar_became : FnScope ["self", "number"] ["self", "number"] (defScope st_Cellar_became) := ⟨rfl, rfl, rfl, by decide +kernel, rfl, by decide +kernel, by decide +kernel⟩
def gg_Cellar_became_1 {α : Type} (us ds ws : List α) : List α := us
def gd_Cellar_became_1 : List D → List D → List D := fun ds es => gg_Cellar_became_1 ds [] es
abbrev ways_Cellar_became : List (Nat × List Str × (List D → List D → List D)) := [(2, [], gd_Cellar_became_1)]
theorem sc_Cellar_row : FnScope ["self", "room", "shelf"] ["self", "room", "shelf"] (defScope st_Cellar_row) := ⟨rfl, rfl, rfl, by decide +kernel, rfl, by decide +kernel, by decide +kernel⟩
def gg_Cellar_row_1_shelf {α : Type} (us ds ws : List α) : List α := us ++ (ws.drop 0).take 1
def gd_Cellar_row_1_shelf : List D → List D → List D := fun ds es => gg_Cellar_row_1_shelf ds [.int 0, .int 0] es
abbrev ways_Cellar_row : List (Nat × List Str × (List D → List D → List D)) := [(2, ["shelf"], gd_Cellar_row_1_shelf)]
abbrev m_Cellar_row : DS := Ste.m_Cellar_row
abbrev f_Cellar_row : DF := Ste.f_Cellar_row
theorem sc_Cellar_counts : FnScope ["self", "shelves", "row"] ["self"] (defScope st_Cellar_counts) := ⟨rfl, rfl, rfl, by decide +kernel, rfl, by decide +kernel, by decide +kernel⟩
def gg_Cellar_counts_0 {α : Type} (us ds ws : List α) : List α := us
def gd_Cellar_counts_0 : List D → List D → List D := fun ds es => gg_Cellar_counts_0 ds [] es
abbrev ways_Cellar_counts : List (Nat × List Str × (List D → List D → List D)) := [(1, [], gd_Cellar_counts_0)]
theorem sc_Cellar_twins : FnScope ["self", "number", "other"] ["self", "number"] (defScope st_Cellar_twins) := ⟨rfl, rfl, rfl, by decide +kernel, rfl, by decide +kernel, by decide +kernel⟩
def gg_Cellar_twins_1 {α : Type} (us ds ws : List α) : List α := us
def gd_Cellar_twins_1 : List D → List D → List D := fun ds es => gg_Cellar_twins_1 ds [] es
abbrev ways_Cellar_twins : List (Nat × List Str × (List D → List D → List D)) := [(2, [], gd_Cellar_twins_1)]
abbrev m_Cellar_twins : DS := Ste.m_Cellar_twins
abbrev f_Cellar_twins : DF := Ste.f_Cellar_twins
theorem sc_Cellar_set_of : FnScope ["self", "number"] ["self", "number"] (defScope st_Cellar_set_of) := ⟨rfl, rfl, rfl, by decide +kernel, rfl, by decide +kernel, by decide +kernel⟩
def gg_Cellar_set_of_1 {α : Type} (us ds ws : List α) : List α := us
def gd_Cellar_set_of_1 : List D → List D → List D := fun ds es => gg_Cellar_set_of_1 ds [] es
abbrev ways_Cellar_set_of : List (Nat × List Str × (List D → List D → List D)) := [(2, [], gd_Cellar_set_of_1)]
theorem sc__law_cell_at : FnScope ["_law_script", "_law_k"] ["_law_script", "_law_k"] (defScope st__law_cell_at) := ⟨rfl, rfl, rfl, by decide +kernel, rfl, by decide +kernel, by decide +kernel⟩
theorem sc__law_pot : FnScope ["_law_cell", "_law_token", "_law_j", "_law_more_here"] ["_law_cell"] (defScope st__law_pot) := ⟨rfl, rfl, rfl, by decide +kernel, rfl, by decide +kernel, by decide +kernel⟩
theorem sc__law_take : FnScope ["_law_pot_here", "_law_far", "_law_found"] ["_law_pot_here", "_law_far"] (defScope st__law_take) := ⟨rfl, rfl, rfl, by decide +kernel, rfl, by decide +kernel, by decide +kernel⟩
theorem sc__law_whole : FnScope ["_law_thing"] ["_law_thing"] (defScope st__law_whole) := ⟨rfl, rfl, rfl, by decide +kernel, rfl, by decide +kernel, by decide +kernel⟩
theorem sc__law_within : FnScope ["_law_thing", "_law_low", "_law_high"] ["_law_thing", "_law_low", "_law_high"] (defScope st__law_within) := ⟨rfl, rfl, rfl, by decide +kernel, rfl, by decide +kernel, by decide +kernel⟩
theorem sc__law_mixed : FnScope ["_law_pot_here", "_law_some", "_law_left", "_law_one"] ["_law_pot_here", "_law_some"] (defScope st__law_mixed) := ⟨rfl, rfl, rfl, by decide +kernel, rfl, by decide +kernel, by decide +kernel⟩
def m__law_mixed : DS :=
    (sSeq (sSet 2 (dCB gListN (dCons (dVar 1) dNil)))
    (sRet (dLcL (dVar 1) (g1 3) tYesD (dBm "list" mPopAt (dVar 2) (dCons (dCallA 2 f__law_take (dCons (dVar 0) (dCons (dCB (orB (one gLen) (one gLenK)) (dCons (dVar 2) dNil)) dNil))) dNil)) [3])))
def f__law_mixed : DF := body 4 2 m__law_mixed
theorem sc__law_kinds : FnScope ["_law_pot_here", "_law_makers", "_law_found", "_law_turn", "_law_year"] ["_law_pot_here"] (defScope st__law_kinds) := ⟨rfl, rfl, rfl, by decide +kernel, rfl, by decide +kernel, by decide +kernel⟩
def m__law_kinds : DS :=
    (sSeq (sSet 1 (dSl (dCallA 2 f__law_mixed (dCons (dVar 0) (dCons (dLst (dCons (dC (.str "a")) (dCons (dC (.str "bo")) (dCons (dC (.str "cy")) (dCons (dC (.str "zzzzzzzz")) (dCons (dC (.str "m")) dNil)))))) dNil))) oNone (oSome (dAdd (dC (.int 1)) (dCallA 2 f__law_take (dCons (dVar 0) (dCons (dC (.int 3)) dNil)))))))
    (sSeq (sSet 2 (dNew dNil))
    (sSeq (sForR1 (dCons (dAdd (dC (.int 1)) (dCallA 2 f__law_take (dCons (dVar 0) (dCons (dC (.int 6)) dNil)))) dNil) (g1 3)
    (sSeq (sSet 4 (dIx (dLst (dCons (dC (.int 1900)) (dCons (dC (.int 2100)) (dCons (dAdd (dC (.int 1950)) (dCallA 2 f__law_take (dCons (dVar 0) (dCons (dC (.int 4)) dNil)))) (dCons (dAdd (dC (.int 1900)) (dCallA 2 f__law_take (dCons (dVar 0) (dCons (dC (.int 201)) dNil)))) dNil))))) (dCallA 2 f__law_take (dCons (dVar 0) (dCons (dC (.int 4)) dNil)))))
    (sDrop (dBm "list" mApp (dVar 2) (dCons (dTup (dCons (dIx (dVar 1) (dCallA 2 f__law_take (dCons (dVar 0) (dCons (dCB (orB (one gLen) (one gLenK)) (dCons (dVar 1) dNil)) dNil)))) (dCons (dVar 4) (dCons (dIx (dLst (dCons (dC (.int 75)) (dCons (dC (.int 37)) (dCons (dC (.int 150)) (dCons (dC (.int 75)) dNil))))) (dCallA 2 f__law_take (dCons (dVar 0) (dCons (dC (.int 4)) dNil)))) dNil)))) dNil)))))
    (sFrzV 2 (sRet (dVar 2))))))
def f__law_kinds : DF := body 5 1 m__law_kinds
theorem sc__law_rooms : FnScope ["_law_pot_here", "_law_chamber"] ["_law_pot_here"] (defScope st__law_rooms) := ⟨rfl, rfl, rfl, by decide +kernel, rfl, by decide +kernel, by decide +kernel⟩
def m__law_rooms : DS :=
    (sRet (dCB (one gTuple) (dCons (dLcR1 (dCons (dAdd (dC (.int 1)) (dCallA 2 f__law_take (dCons (dVar 0) (dCons (dC (.int 4)) dNil)))) dNil) (g1 1) tYesD (dAdd (dC (.int 1)) (dCallA 2 f__law_take (dCons (dVar 0) (dCons (dC (.int 4)) dNil)))) [1]) dNil)))
def f__law_rooms : DF := body 2 1 m__law_rooms
theorem sc__law_begun : FnScope ["_law_rooms_here", "_law_top", "_law_rows", "_law_chamber", "_law_many", "_law_board"] ["_law_rooms_here", "_law_top"] (defScope st__law_begun) := ⟨rfl, rfl, rfl, by decide +kernel, rfl, by decide +kernel, by decide +kernel⟩
theorem sc__law_more : FnScope ["_law_state", "_law_changes", "_law_later"] ["_law_state", "_law_changes"] (defScope st__law_more) := ⟨rfl, rfl, rfl, by decide +kernel, rfl, by decide +kernel, by decide +kernel⟩
theorem sc__law_is_who : FnScope ["_law_thing", "_law_sign"] ["_law_thing"] (defScope st__law_is_who) := ⟨rfl, rfl, rfl, by decide +kernel, rfl, by decide +kernel, by decide +kernel⟩
theorem sc__law_there : FnScope ["_law_state", "_law_token", "_law_end"] ["_law_state", "_law_token"] (defScope st__law_there) := ⟨rfl, rfl, rfl, by decide +kernel, rfl, by decide +kernel, by decide +kernel⟩
theorem sc__law_place : FnScope ["_law_state", "_law_chamber", "_law_board", "_law_good"] ["_law_state", "_law_chamber", "_law_board"] (defScope st__law_place) := ⟨rfl, rfl, rfl, by decide +kernel, rfl, by decide +kernel, by decide +kernel⟩
theorem sc__law_when : FnScope ["_law_moon", "_law_guest"] ["_law_moon", "_law_guest"] (defScope st__law_when) := ⟨rfl, rfl, rfl, by decide +kernel, rfl, by decide +kernel, by decide +kernel⟩
theorem sc__law_set : FnScope ["_law_state", "_law_token", "_law_some", "_law_one"] ["_law_state", "_law_token"] (defScope st__law_set) := ⟨rfl, rfl, rfl, by decide +kernel, rfl, by decide +kernel, by decide +kernel⟩
theorem sc__law_kept : FnScope ["_law_state", "_law_token", "_law_some", "_law_one"] ["_law_state", "_law_token"] (defScope st__law_kept) := ⟨rfl, rfl, rfl, by decide +kernel, rfl, by decide +kernel, by decide +kernel⟩
theorem sc__law_rows_less : FnScope ["_law_state", "_law_numbers", "_law_found", "_law_place_here", "_law_row", "_law_one"] ["_law_state", "_law_numbers"] (defScope st__law_rows_less) := ⟨rfl, rfl, rfl, by decide +kernel, rfl, by decide +kernel, by decide +kernel⟩
theorem sc__law_gone : FnScope ["_law_state", "_law_numbers", "_law_end", "_law_sets", "_law_ends", "_law_k", "_law_one"] ["_law_state", "_law_numbers", "_law_end", "_law_sets"] (defScope st__law_gone) := ⟨rfl, rfl, rfl, by decide +kernel, rfl, by decide +kernel, by decide +kernel⟩
theorem sc__law_laid : FnScope ["_law_state", "_law_deed_here", "_law_word_here", "_law_kind", "_law_chamber", "_law_board", "_law_bad", "_law_row", "_law_token", "_law_rows"] ["_law_state", "_law_deed_here"] (defScope st__law_laid) := ⟨rfl, rfl, rfl, by decide +kernel, rfl, by decide +kernel, by decide +kernel⟩
theorem sc__law_moved : FnScope ["_law_state", "_law_deed_here", "_law_word_here", "_law_token", "_law_chamber", "_law_board", "_law_bad", "_law_rows"] ["_law_state", "_law_deed_here"] (defScope st__law_moved) := ⟨rfl, rfl, rfl, by decide +kernel, rfl, by decide +kernel, by decide +kernel⟩
theorem sc__law_bound : FnScope ["_law_state", "_law_numbers", "_law_bads", "_law_one", "_law_k", "_law_bad"] ["_law_state", "_law_numbers"] (defScope st__law_bound) := ⟨rfl, rfl, rfl, by decide +kernel, rfl, by decide +kernel, by decide +kernel⟩
theorem sc__law_done : FnScope ["_law_state", "_law_deed_here", "_law_word_here", "_law_token", "_law_some", "_law_bad", "_law_less", "_law_rest", "_law_one"] ["_law_state", "_law_deed_here"] (defScope st__law_done) := ⟨rfl, rfl, rfl, by decide +kernel, rfl, by decide +kernel, by decide +kernel⟩
theorem sc__law_behind : FnScope ["_law_past", "_law_deed_here"] ["_law_past", "_law_deed_here"] (defScope st__law_behind) := ⟨rfl, rfl, rfl, by decide +kernel, rfl, by decide +kernel, by decide +kernel⟩
theorem sc__law_word : FnScope ["_law_e", "_law_some", "_law_good", "_law_words"] ["_law_e"] (defScope st__law_word) := ⟨rfl, rfl, rfl, by decide +kernel, rfl, by decide +kernel, by decide +kernel⟩
def m__law_word : DS :=
    (sSeq (sSet 1 (dLst (dCons (dCB (bIsHA heldC isTE) (dCons (dVar 0) (dCons (dC (.cl 2)) dNil))) (dCons (dCB (bIsHA heldC isTE) (dCons (dVar 0) (dCons (dC (.cl 3)) dNil))) (dCons (dCB (bIsHA heldC isTE) (dCons (dVar 0) (dCons (dC (.cl 4)) dNil))) (dCons (dCB (bIsHA heldC isTE) (dCons (dVar 0) (dCons (dC (.cl 5)) dNil))) dNil))))))
    (sSeq (sSet 1 (dAdd (dVar 1) (dLst (dCons (dCB (bIsHA heldC isTE) (dCons (dVar 0) (dCons (dC (.cl 6)) dNil))) (dCons (dCB (bIsHA heldC isTE) (dCons (dVar 0) (dCons (dC (.cl 7)) dNil))) (dCons (dCB (bIsHA heldC isTE) (dCons (dVar 0) (dCons (dC (.cl 8)) dNil))) (dCons (dCB (bIsHA heldC isTE) (dCons (dVar 0) (dCons (dC (.cl 9)) dNil))) dNil)))))))
    (sSeq (sSet 1 (dAdd (dVar 1) (dLst (dCons (dCB (bIsHA heldC isTE) (dCons (dVar 0) (dCons (dC (.cl 10)) dNil))) (dCons (dCB (bIsHA heldC isTE) (dCons (dVar 0) (dCons (dC (.cl 11)) dNil))) (dCons (dCB (bIsHA heldC isTE) (dCons (dVar 0) (dCons (dC (.cl 12)) dNil))) (dCons (dCB (bIsHA heldC isTE) (dCons (dVar 0) (dCons (dC (.cl 13)) dNil))) dNil)))))))
    (sSeq (sSet 1 (dAdd (dVar 1) (dLst (dCons (dCB (bIsHA heldC isTE) (dCons (dVar 0) (dCons (dC (.cl 14)) dNil))) (dCons (dCB (bIsHA heldC isTE) (dCons (dVar 0) (dCons (dC (.cl 15)) dNil))) (dCons (dCB (bIsHA heldC isTE) (dCons (dVar 0) (dCons (dC (.cl 16)) dNil))) (dCons (dCB (bIsHA heldC isTE) (dCons (dVar 0) (dCons (dC (.cl 17)) dNil))) dNil)))))))
    (sSeq (sSet 1 (dAdd (dVar 1) (dLst (dCons (dCB (bIsHA heldC isTE) (dCons (dVar 0) (dCons (dC (.cl 18)) dNil))) (dCons (dCB (bIsHA heldC isTE) (dCons (dVar 0) (dCons (dC (.cl 21)) dNil))) (dCons (dCB (bIsHA heldC isTE) (dCons (dVar 0) (dCons (dC (.cl 22)) dNil))) (dCons (dCB (bIsHA heldC isTE) (dCons (dVar 0) (dCons (dC (.cl 23)) dNil))) dNil)))))))
    (sSeq (sSet 2 (dIte (dTruth (dCB (bIsHA heldC isTE) (dCons (dVar 0) (dCons (dC (.cl 19)) dNil)))) (dCB (bIsHA heldC isTE) (dCons (dVar 0) (dCons (dC (.ty "ValueError")) dNil))) (dCB (bIsHA heldC isTE) (dCons (dVar 0) (dCons (dC (.ty "LookupError")) dNil)))))
    (sSeq (sIf (tOrD (asB (dOp2 fNe (dBm "list" mCount (dVar 1) (dCons (dC (.bl true)) dNil)) (dC (.int 1)))) (tOrD (asB (dOp2 fEq (dCB (bIsHA heldC isTE) (dCons (dVar 0) (dCons (dC (.cl 19)) dNil))) (dCB (bIsHA heldC isTE) (dCons (dVar 0) (dCons (dC (.cl 20)) dNil))))) (tNotD (dTruth (dVar 2))))) (sRet (dTup (dCons (dC (.str "other")) dNil))) sNext)
    (sSeq (sIf (dTruth (dCB (bIsHA heldC isTE) (dCons (dVar 0) (dCons (dC (.cl 17)) dNil)))) (sRet (dTup (dCons (dC (.str "many")) (dCons (dFldX 17 0 (dVar 0)) (dCons (dFldX 17 1 (dVar 0)) dNil))))) sNext)
    (sSeq (sIf (dTruth (dCB (bIsHA heldC isTE) (dCons (dVar 0) (dCons (dC (.cl 18)) dNil)))) (sRet (dTup (dCons (dC (.str "text")) (dCons dBad dNil)))) sNext)
    (sSeq (sIf (dTruth (dCB (bIsHA heldC isTE) (dCons (dVar 0) (dCons (dC (.cl 21)) dNil)))) (sRet (dTup (dCons (dC (.str "full")) (dCons (dFldX 21 0 (dVar 0)) (dCons (dFldX 21 1 (dVar 0)) dNil))))) sNext)
    (sSeq (sIf (dTruth (dCB (bIsHA heldC isTE) (dCons (dVar 0) (dCons (dC (.cl 22)) dNil)))) (sRet (dTup (dCons (dC (.str "gone")) (dCons (dFldX 22 0 (dVar 0)) (dCons (dFldX 22 1 (dVar 0)) dNil))))) sNext)
    (sSeq (sIf (dTruth (dCB (bIsHA heldC isTE) (dCons (dVar 0) (dCons (dC (.cl 23)) dNil)))) (sRet (dTup (dCons (dC (.str "kept")) (dCons (dFldX 23 0 (dVar 0)) (dCons (dFldX 23 1 (dVar 0)) dNil))))) sNext)
    (sSeq (sSet 3 (dLst (dCons (dC (.str "maker")) (dCons (dC (.str "year")) (dCons (dC (.str "size")) (dCons (dC (.str "bottle")) (dCons (dC (.str "bottles")) (dCons (dC (.str "rooms")) (dCons (dC (.str "hold")) (dCons (dC (.str "month")) (dCons (dC (.str "who")) (dCons (dC (.str "set")) (dCons (dC (.str "deed")) (dCons (dC (.str "wishes")) dNil))))))))))))))
    (sRet (dTup (dCons (dIx (dAdd (dVar 3) (dLst (dCons (dC (.str "line")) (dCons (dC (.str "number")) (dCons (dC (.str "place")) dNil))))) (dBm "list" mIndex (dVar 1) (dCons (dC (.bl true)) dNil))) dNil))))))))))))))))
def f__law_word : DF := body 4 1 m__law_word
theorem sc__law_call : FnScope ["_law_cellar", "_law_deed_here", "_law_word_here"] ["_law_cellar", "_law_deed_here"] (defScope st__law_call) := ⟨rfl, rfl, rfl, by decide +kernel, rfl, by decide +kernel, by decide +kernel⟩
def m__law_call : DS :=
    (sSeq (sSet 2 (dIx (dVar 1) (dC (.int 0))))
    (sSeq (sIf (asB (dOp2 fEq (dVar 2) (dC (.str "undo")))) (sRet (dMeth 1 0 0 gd_Cellar_undo_0 f_Cellar_undo (dVar 0) dNil dNil)) sNext)
    (sSeq (sIf (asB (dOp2 fIn (dVar 2) (dTup (dCons (dC (.str "bind")) (dCons (dC (.str "loosen")) dNil))))) (sRet (dIte (asB (dOp2 fEq (dVar 2) (dC (.str "bind")))) (dMeth 1 1 0 gd_Cellar_bind_1 f_Cellar_bind (dVar 0) (dCons (dIx (dVar 1) (dC (.int 1))) dNil) dNil) (dMeth 1 1 0 gd_Cellar_loosen_1 f_Cellar_loosen (dVar 0) (dCons (dIx (dVar 1) (dC (.int 1))) dNil) dNil))) sNext)
    (sSeq (sIf (asB (dOp2 fEq (dVar 2) (dC (.str "smash")))) (sRet (dMeth 1 1 1 gd_Cellar_smash_1_month f_Cellar_smash (dVar 0) (dCons (dIx (dVar 1) (dC (.int 1))) dNil) (dCons (dIx (dVar 1) (dC (.int 2))) dNil))) sNext)
    (sSeq (sIf (asB (dOp2 fEq (dVar 2) (dC (.str "move")))) (sSeq (sIf (asB (dOp2 fGt (dIx (dVar 1) (dC (.int 3))) (dC (.int 0)))) (sRet (dMeth 1 3 0 gd_Cellar_move_3 f_Cellar_move (dVar 0) (dCons (dIx (dVar 1) (dC (.int 1))) (dCons (dIx (dVar 1) (dC (.int 2))) (dCons (dIx (dVar 1) (dC (.int 3))) dNil))) dNil)) sNext)
    (sRet (dMeth 1 1 2 gd_Cellar_move_1_room_shelf f_Cellar_move (dVar 0) (dCons (dIx (dVar 1) (dC (.int 1))) dNil) (dCons (dIx (dVar 1) (dC (.int 2))) (dCons (dIx (dVar 1) (dC (.int 3))) dNil))))) sNext)
    (sSeq (sIf (asB (dOp2 fEq (dVar 2) (dC (.str "drink")))) (sRet (dIte (asB (dOp2 fNe (dIx (dVar 1) (dC (.int 3))) (dC (.str "")))) (dMeth 1 2 1 gd_Cellar_drink_2_who f_Cellar_drink (dVar 0) (dCons (dIx (dVar 1) (dC (.int 1))) (dCons (dIx (dVar 1) (dC (.int 2))) dNil)) (dCons (dIx (dVar 1) (dC (.int 3))) dNil)) (dMeth 1 2 0 gd_Cellar_drink_2 f_Cellar_drink (dVar 0) (dCons (dIx (dVar 1) (dC (.int 1))) (dCons (dIx (dVar 1) (dC (.int 2))) dNil)) dNil))) sNext)
    (sSeq (sIf (asB (dOp2 fEq (dVar 2) (dC (.str "give")))) (sRet (dMeth 1 3 0 gd_Cellar_give_3 f_Cellar_give (dVar 0) (dCons (dIx (dVar 1) (dC (.int 1))) (dCons (dIx (dVar 1) (dC (.int 2))) (dCons (dIx (dVar 1) (dC (.int 3))) dNil))) dNil)) sNext)
    (sSeq (sIf (asB (dOp2 fEq (dIx (dVar 1) (dC (.int 3))) (dC (.str "")))) (sRet (dMeth 1 2 0 gd_Cellar_drink_set_2 f_Cellar_drink_set (dVar 0) (dCons (dIx (dVar 1) (dC (.int 1))) (dCons (dIx (dVar 1) (dC (.int 2))) dNil)) dNil)) sNext)
    (sRet (dMeth 1 0 3 gd_Cellar_drink_set_0_number_month_who f_Cellar_drink_set (dVar 0) dNil (dCons (dIx (dVar 1) (dC (.int 1))) (dCons (dIx (dVar 1) (dC (.int 2))) (dCons (dIx (dVar 1) (dC (.int 3))) dNil)))))))))))))
def f__law_call : DF := body 3 2 m__law_call
theorem sc__law_met : FnScope ["_law_cellar", "_law_deed_here", "_law_thing", "_law_e"] ["_law_cellar", "_law_deed_here"] (defScope st__law_met) := ⟨rfl, rfl, rfl, by decide +kernel, rfl, by decide +kernel, by decide +kernel⟩
def m__law_met : DS :=
    (sTryC [(cth_CellarError_HereError, some 3, (sRet (dCallA 1 f__law_word (dCons (dVar 3) dNil))))] (sSeq (sIf (asB (dOp2 fEq (dIx (dVar 1) (dC (.int 0))) (dC (.str "lay")))) (sSeq (sSet 2 (dIte (dTruth (dCB (bIsi [0, 1] isT) (dCons (dIx (dVar 1) (dC (.int 1))) (dCons (dC (.ty "tuple")) dNil)))) (dMake 0 2 1 gd_Bottle_2_size f_Bottle (dCons (dIx (dIx (dVar 1) (dC (.int 1))) (dC (.int 0))) (dCons (dIx (dIx (dVar 1) (dC (.int 1))) (dC (.int 1))) dNil)) (dCons (dIx (dIx (dVar 1) (dC (.int 1))) (dC (.int 2))) dNil)) (dIx (dVar 1) (dC (.int 1)))))
    (sRet (dMeth 1 1 2 gd_Cellar_lay_1_shelf_room f_Cellar_lay (dVar 0) (dCons (dVar 2) dNil) (dCons (dIx (dVar 1) (dC (.int 3))) (dCons (dIx (dVar 1) (dC (.int 2))) dNil))))) sNext)
    (sRet (dCallA 2 f__law_call (dCons (dVar 0) (dCons (dVar 1) dNil))))))
def f__law_met : DF := bodyE 4 2 m__law_met
theorem sc__law_deed : FnScope ["_law_pot_here", "_law_state", "_law_kinds_here", "_law_many", "_law_way", "_law_rooms_here", "_law_chamber", "_law_board", "_law_token", "_law_moon", "_law_guest", "_law_some"] ["_law_pot_here", "_law_state", "_law_kinds_here"] (defScope st__law_deed) := ⟨rfl, rfl, rfl, by decide +kernel, rfl, by decide +kernel, by decide +kernel⟩
def m__law_deed : DS :=
    (sSeq (sPar 3 4 (dCons (dCB (orB (one gLen) (one gLenK)) (dCons (dIxK (dVar 1) (dC (.str "stock"))) dNil)) (dCons (dCallA 2 f__law_take (dCons (dVar 0) (dCons (dC (.int 16)) dNil))) dNil)))
    (sSeq (sSet 5 (dIxK (dVar 1) (dC (.str "rooms"))))
    (sSeq (sSet 6 (dCallA 2 f__law_take (dCons (dVar 0) (dCons (dAdd (dCB (orB (one gLen) (one gLenK)) (dCons (dVar 5) dNil)) (dCB (one gInt) (dCons (dOp2 fEq (dCallA 2 f__law_take (dCons (dVar 0) (dCons (dC (.int 12)) dNil))) (dC (.int 0))) dNil))) dNil))))
    (sSeq (sSet 7 (dCallA 2 f__law_take (dCons (dVar 0) (dCons (dAdd (dIx (dAdd (dVar 5) (dTup (dCons (dC (.int 4)) dNil))) (dVar 6)) (dCB (one gInt) (dCons (dOp2 fEq (dCallA 2 f__law_take (dCons (dVar 0) (dCons (dC (.int 12)) dNil))) (dC (.int 0))) dNil))) dNil))))
    (sSeq (sSet 8 (dCallA 2 f__law_take (dCons (dVar 0) (dCons (dAdd (dVar 3) (dCB (one gInt) (dCons (dOr (dOp2 fEq (dVar 3) (dC (.int 0))) (dOp2 fEq (dCallA 2 f__law_take (dCons (dVar 0) (dCons (dC (.int 9)) dNil))) (dC (.int 0)))) dNil))) dNil))))
    (sSeq (sSet 9 (dIx (dLst (dCons (dCallA 2 f__law_take (dCons (dVar 0) (dCons (dC (.int 12)) dNil))) (dCons (dC (.int 999)) (dCons (dC (.int 1000)) (dCons (dNeg (dC (.int 1))) (dCons (dC (.bl true)) dNil)))))) (dMulA (dDiv (dCallA 2 f__law_take (dCons (dVar 0) (dCons (dC (.int 40)) dNil))) (dC (.int 8))) (dCB (one gInt) (dCons (dOp2 fEq (dCallA 2 f__law_take (dCons (dVar 0) (dCons (dC (.int 5)) dNil))) (dC (.int 0))) dNil)))))
    (sSeq (sSet 10 (dIx (dLst (dCons (dC (.str "")) (dCons (dC (.str "ann")) (dCons (dC (.str "bobbobbo")) (dCons (dC (.str "zoe")) (dCons (dC (.str "lmpqrstu")) (dCons (dC (.str "vwxyz")) dNil))))))) (dCallA 2 f__law_take (dCons (dVar 0) (dCons (dC (.int 6)) dNil)))))
    (sSeq (sIf (asB (dOp2 fEq (dCallA 2 f__law_take (dCons (dVar 0) (dCons (dC (.int 20)) dNil))) (dC (.int 0)))) (sSet 10 (dIx (dLst (dCons (dC (.str "A")) (dCons (dC (.str "bobbobbob")) (dCons (dC .non) (dCons (dC (.str "a b")) dNil))))) (dCallA 2 f__law_take (dCons (dVar 0) (dCons (dC (.int 4)) dNil))))) sNext)
    (sSeq (sIf (asB (dOp2 fLt (dVar 4) (dC (.int 6)))) (sRet (dTup (dCons (dC (.str "lay")) (dCons (dIx (dVar 2) (dCallA 2 f__law_take (dCons (dVar 0) (dCons (dCB (orB (one gLen) (one gLenK)) (dCons (dVar 2) dNil)) dNil)))) (dCons (dVar 6) (dCons (dVar 7) dNil)))))) sNext)
    (sSeq (sIf (asB (dOp2 fLt (dVar 4) (dC (.int 9)))) (sRet (dTup (dCons (dC (.str "move")) (dCons (dVar 8) (dCons (dVar 6) (dCons (dVar 7) dNil)))))) sNext)
    (sSeq (sIf (asB (dOp2 fLt (dVar 4) (dC (.int 11)))) (sRet (dTup (dCons (dIx (dLst (dCons (dC (.str "drink")) (dCons (dC (.str "give")) dNil))) (dSub (dVar 4) (dC (.int 9)))) (dCons (dVar 8) (dCons (dVar 9) (dCons (dVar 10) dNil)))))) sNext)
    (sSeq (sIf (asB (dOp2 fEq (dVar 4) (dC (.int 11)))) (sRet (dTup (dCons (dC (.str "smash")) (dCons (dVar 8) (dCons (dVar 9) dNil))))) sNext)
    (sSeq (sIf (tAndD (asB (dOp2 fEq (dVar 4) (dC (.int 12)))) (asB (dOp2 fGt (dVar 3) (dC (.int 1))))) (sSeq (sSet 11 (dCB (one gSort) (dCons (dSl (dCallA 2 f__law_mixed (dCons (dVar 0) (dCons (dLstRg (dAdd (dVar 3) (dCB (one gInt) (dCons (dOp2 fEq (dCallA 2 f__law_take (dCons (dVar 0) (dCons (dC (.int 6)) dNil))) (dC (.int 0))) dNil)))) dNil))) oNone (oSome (dAdd (dC (.int 2)) (dCallA 2 f__law_take (dCons (dVar 0) (dCons (dC (.int 5)) dNil)))))) dNil)))
    (sRet (dTup (dCons (dC (.str "bind")) (dCons (dCB (one gTuple) (dCons (dVar 11) dNil)) dNil))))) sNext)
    (sSeq (sIf (asB (dOp2 fEq (dVar 4) (dC (.int 13)))) (sRet (dTup (dCons (dC (.str "drink_set")) (dCons (dVar 8) (dCons (dVar 9) (dCons (dVar 10) dNil)))))) sNext)
    (sRet (dIte (asB (dOp2 fEq (dVar 4) (dC (.int 14)))) (dTup (dCons (dC (.str "loosen")) (dCons (dVar 8) dNil))) (dTup (dCons (dC (.str "undo")) dNil))))))))))))))))))
def f__law_deed : DF := body 12 3 m__law_deed
theorem sc__law_step : FnScope ["_law_cellar", "_law_past", "_law_deed_here", "_law_due", "_law_kept_here", "_law_found", "_law_told"] ["_law_cellar", "_law_past", "_law_deed_here"] (defScope st__law_step) := ⟨rfl, rfl, rfl, by decide +kernel, rfl, by decide +kernel, by decide +kernel⟩
def m__law_step : DS :=
    (sSeq (sPar 3 4 (dCons (dCallA 2 f__law_behind (dCons (dVar 1) (dCons (dVar 2) dNil))) (dCons (dCB (orB (one gRepr) (one gReprK)) (dCons (dVar 2) dNil)) dNil)))
    (sSeq (sSet 5 (dCallA 2 f__law_met (dCons (dVar 0) (dCons (dVar 2) dNil))))
    (sSeq (sIf (dTruth (dCB (bIsi [0, 1] isT) (dCons (dVar 3) (dCons (dC (.ty "tuple")) dNil)))) (sRet (dAnd (dOp2 fEq (dCB (orB (one gRepr) (one gReprK)) (dCons (dVar 5) dNil)) (dCB (orB (one gRepr) (one gReprK)) (dCons (dVar 3) dNil))) (dOp2 fEq (dCB (orB (one gRepr) (one gReprK)) (dCons (dVar 2) dNil)) (dVar 4)))) sNext)
    (sSeq (sSet 6 (dIte (asB (dOp2 fEq (dIx (dVar 2) (dC (.int 0))) (dC (.str "lay")))) (dCB (orB (one gLen) (one gLenK)) (dCons (dIxK (dIx (dVar 1) (dNeg (dC (.int 1)))) (dC (.str "stock"))) dNil)) (dC .non)))
    (sSeq (sIf (asB (dOp2 fEq (dIx (dVar 2) (dC (.int 0))) (dC (.str "undo")))) (sDrop (dBm "list" mPop (dVar 1) dNil)) (sDrop (dBm "list" mApp (dVar 1) (dCons (dVar 3) dNil))))
    (sRet (dAnd (dOp2 fEq (dCB (orB (one gRepr) (one gReprK)) (dCons (dVar 5) dNil)) (dCB (orB (one gRepr) (one gReprK)) (dCons (dVar 6) dNil))) (dOp2 fEq (dCB (orB (one gRepr) (one gReprK)) (dCons (dVar 2) dNil)) (dVar 4)))))))))
def f__law_step : DF := body 7 3 m__law_step
theorem sc__law_here : FnScope ["_law_state", "_law_k", "_law_end"] ["_law_state"] (defScope st__law_here) := ⟨rfl, rfl, rfl, by decide +kernel, rfl, by decide +kernel, by decide +kernel⟩
theorem sc__law_text : FnScope ["_law_state", "_law_rows", "_law_place_here", "_law_row", "_law_one"] ["_law_state"] (defScope st__law_text) := ⟨rfl, rfl, rfl, by decide +kernel, rfl, by decide +kernel, by decide +kernel⟩
theorem sc__law_shown : FnScope ["_law_state", "_law_rows", "_law_found", "_law_token", "_law_spots", "_law_kind", "_law_at", "_law_many", "_law_k", "_law_place_here", "_law_one"] ["_law_state"] (defScope st__law_shown) := ⟨rfl, rfl, rfl, by decide +kernel, rfl, by decide +kernel, by decide +kernel⟩
def m__law_shown : DS :=
    (sSeq (sAsg (gT [1, 2]) (dTup (dCons (dIxK (dVar 0) (dC (.str "rows"))) (dCons (dNew (dCons (dCB (orB (one gLen) (one gLenK)) (dCons (dCallA 1 f__law_here (dCons (dVar 0) dNil)) dNil)) (dCons (dCallA 1 f__law_text (dCons (dVar 0) dNil)) (dCons (dIxK (dVar 0) (dC (.str "ends"))) (dCons (dIxK (dVar 0) (dC (.str "stock"))) dNil))))) dNil))))
    (sSeq (sDrop (dBm "list" mApp (dVar 2) (dCons (dCB (one gTuple) (dCons (dLc (iEnumT (dIxK (dVar 0) (dC (.str "rooms")))) (gT [6, 7]) tYesD (dCB (one gTuple) (dCons (dLcR1 (dCons (dVar 7) dNil) (g1 8) tYesD (dCB (orB (one gLen) (one gLenK)) (dCons (dIxT (dVar 1) (dTup (dCons (dVar 6) (dCons (dVar 8) dNil)))) dNil)) [8]) dNil)) [6, 7]) dNil)) dNil)))
    (sSeq (sSet 2 (dOpS gCatN (dVar 2) (dLcL (dCB (one gSortT) (dCons (dVar 1) dNil)) (g1 9) tYesD (dCB (one gList) (dCons (dIxT (dVar 1) (dVar 9)) dNil)) [9])))
    (sSeq (sForR1 (dCons (dCB (orB (one gLen) (one gLenK)) (dCons (dIxK (dVar 0) (dC (.str "stock"))) dNil)) dNil) (g1 3)
    (sSeq (sSet 4 (dLcL (dCB (one gSortT) (dCons (dIxK (dVar 0) (dC (.str "rows"))) dNil)) (g1 9) (asB (dOp2 fIn (dVar 3) (dIxT (dIxK (dVar 0) (dC (.str "rows"))) (dVar 9)))) (dVar 9) [9]))
    (sDrop (dBm "list" mApp (dVar 2) (dCons (dIx (dAdd (dVar 4) (dLst (dCons (dC .non) dNil))) (dC (.int 0))) dNil)))))
    (sSeq (sForL (dCallA 1 f__law_here (dCons (dVar 0) dNil)) (g1 3)
    (sSeq (sSet 5 (dIx (dIxK (dVar 0) (dC (.str "stock"))) (dVar 3)))
    (sSeq (sDrop (dBm "list" mApp (dVar 2) (dCons (dLcL (dCallA 1 f__law_here (dCons (dVar 0) dNil)) (g1 10) (tAndD (asB (dOp2 fNe (dVar 10) (dVar 3))) (asB (dOp2 fEq (dIx (dIxK (dVar 0) (dC (.str "stock"))) (dVar 10)) (dVar 5)))) (dVar 10) [10]) dNil)))
    (sDrop (dBm "list" mApp (dVar 2) (dCons (dCallA 2 f__law_set (dCons (dVar 0) (dCons (dVar 3) dNil))) dNil))))))
    (sRet (dCB gReprX (dCons (dVar 2) dNil))))))))
def f__law_shown : DF := body 11 1 m__law_shown
theorem sc__law_says : FnScope ["_law_cellar", "_law_state", "_law_many", "_law_lists", "_law_found", "_law_bottles", "_law_chamber", "_law_board", "_law_token", "_law_row", "_law_one"] ["_law_cellar", "_law_state"] (defScope st__law_says) := ⟨rfl, rfl, rfl, by decide +kernel, rfl, by decide +kernel, by decide +kernel⟩
def m__law_says : DS :=
    (sSeq (sPar 2 3 (dCons (dCB (orB (one gLen) (one gLenK)) (dCons (dIxK (dVar 1) (dC (.str "stock"))) dNil)) (dCons (dNew dNil) dNil)))
    (sSeq (sSet 4 (dLst (dCons (dCB (gOwnL 1 f_Cellar___len__) (dCons (dVar 0) dNil)) (dCons (dCB (gOwnT 1 f_Cellar___str__) (dCons (dVar 0) dNil)) (dCons (dCB (one gTuple) (dCons (dLcR1 (dCons (dVar 2) dNil) (g1 8) tYesD (dMeth 1 1 0 gd_Cellar_became_1 f_Cellar_became (dVar 0) (dCons (dVar 8) dNil) dNil) [8]) dNil)) dNil)))))
    (sSeq (sSet 5 (dLc (iR1 (dCons (dVar 2) dNil)) (g1 8) tYesD (dMeth 1 1 0 gd_Cellar_bottle_1 f_Cellar_bottle (dVar 0) (dCons (dVar 8) dNil) dNil) [8]))
    (sSeq (sSet 4 (dOpS gCatN (dVar 4) (dLst (dCons (dCB (one gTuple) (dCons (dLcL (dVar 5) (g1 10) tYesD (dTup (dCons (dFld 0 0 (dVar 10)) (dCons (dFld 0 1 (dVar 10)) (dCons (dFld 0 2 (dVar 10)) dNil)))) [10]) dNil)) (dCons (dMeth 1 0 0 gd_Cellar_counts_0 f_Cellar_counts (dVar 0) dNil dNil) dNil)))))
    (sSeq (sForL (dCB (one gSortT) (dCons (dIxK (dVar 1) (dC (.str "rows"))) dNil)) (gT [6, 7])
    (sSeq (sDrop (dBm "list" mApp (dVar 3) (dCons (dMeth 1 1 1 gd_Cellar_row_1_shelf f_Cellar_row (dVar 0) (dCons (dVar 6) dNil) (dCons (dVar 7) dNil)) dNil)))
    (sDrop (dBm "list" mApp (dVar 4) (dCons (dCB (one gList) (dCons (dIx (dVar 3) (dNeg (dC (.int 1)))) dNil)) dNil)))))
    (sSeq (sSet 4 (dOpS gCatX (dVar 4) (dLcR1 (dCons (dVar 2) dNil) (g1 8) tYesD (dMeth 1 1 0 gd_Cellar_place_1 f_Cellar_place (dVar 0) (dCons (dVar 8) dNil) dNil) [8])))
    (sSeq (sForL (dCallA 1 f__law_here (dCons (dVar 1) dNil)) (g1 8)
    (sSeq (sDrop (dBm "list" mApp (dVar 3) (dCons (dMeth 1 1 0 gd_Cellar_twins_1 f_Cellar_twins (dVar 0) (dCons (dVar 8) dNil) dNil) dNil)))
    (sSet 4 (dOpS gCatX (dVar 4) (dLst (dCons (dCB (one gList) (dCons (dIx (dVar 3) (dNeg (dC (.int 1)))) dNil)) (dCons (dMeth 1 1 0 gd_Cellar_set_of_1 f_Cellar_set_of (dVar 0) (dCons (dVar 8) dNil) dNil) dNil)))))))
    (sFrzV 3 (sSeq (sForS (iSeq (dVar 3)) (g1 9)
    (sDrop (dBm "list" mApp (dVar 9) (dCons (dC (.int 99)) dNil))))
    (sRet (dCB (orB (one gRepr) (one gReprK)) (dCons (dVar 4) dNil))))))))))))
def f__law_says : DF := body 11 2 m__law_says
theorem sc_law : FnScope ["_law_script", "_law_k", "_law_pot_here", "_law_kinds_here", "_law_rooms_here", "_law_top", "_law_cellar", "_law_past", "_law_many", "_law_ahead", "_law_one", "_law_turn", "_law_due"] ["_law_script"] (defScope st_law) := ⟨rfl, rfl, rfl, by decide +kernel, rfl, by decide +kernel, by decide +kernel⟩
def m_law : DS :=
    (sSeq (sForR1 (dCons (dCB (orB (two fun i j => if j > i then j else i) (one (gBest PySem.W.maxD))) (dCons (dC (.int 1)) (dCons (dCB (orB (two fun i j => if j < i then j else i) (one (gBest PySem.W.minD))) (dCons (dCB (orB (one gLen) (one gLenK)) (dCons (dVar 0) dNil)) (dCons (dC (.int 2)) dNil))) dNil))) dNil) (g1 1)
    (sSeq (sSet 2 (dCallA 1 f__law_pot (dCons (dCallA 2 f__law_cell_at (dCons (dVar 0) (dCons (dVar 1) dNil))) dNil)))
    (sSeq (sPar 3 4 (dCons (dCallA 1 f__law_kinds (dCons (dVar 2) dNil)) (dCons (dCallA 1 f__law_rooms (dCons (dVar 2) dNil)) dNil)))
    (sSeq (sSet 5 (dAdd (dC (.int 1)) (dCallA 2 f__law_take (dCons (dVar 2) (dCons (dIx (dLst (dCons (dC (.int 2)) (dCons (dC (.int 9)) dNil))) (dCallA 2 f__law_take (dCons (dVar 2) (dCons (dC (.int 2)) dNil)))) dNil)))))
    (sSeq (sSet 6 (dIte (asB (dOp2 fEq (dVar 5) (dC (.int 6)))) (dMakeM 1 1 0 gd_Cellar_1 f_Cellar (dCons (dVar 4) dNil) dNil) (dMakeM 1 1 1 gd_Cellar_1_hold f_Cellar (dCons (dVar 4) dNil) (dCons (dVar 5) dNil))))
    (sSeq (sPar 7 8 (dCons (dNew (dCons (dCallA 2 f__law_begun (dCons (dVar 4) (dCons (dVar 5) dNil))) dNil)) (dCons (dAdd (dC (.int 10)) (dCallA 2 f__law_take (dCons (dVar 2) (dCons (dC (.int 21)) dNil)))) dNil)))
    (sSeq (sSet 9 (dLst (dCons (dTup (dCons (dC (.str "lay")) (dCons (dIx (dVar 3) (dC (.int 0))) (dCons (dC (.int 0)) (dCons (dC (.int 0)) dNil))))) (dCons (dTup (dCons (dC (.str "lay")) (dCons (dTup (dCons (dC (.str "q")) (dCons (dC (.int 1990)) (dCons (dC (.int 37)) dNil)))) (dCons (dC (.int 0)) (dCons (dC (.int 0)) dNil))))) (dCons (dTup (dCons (dC (.str "bind")) (dCons (dTup (dCons (dC (.int 0)) (dCons (dC (.int 1)) dNil))) dNil))) (dCons (dTup (dCons (dC (.str "drink_set")) (dCons (dC (.int 1)) (dCons (dC (.int 5)) (dCons (dC (.str "")) dNil))))) dNil))))))
    (sSeq (sForL (dIte (asB (dOp2 fEq (dCallA 2 f__law_take (dCons (dVar 2) (dCons (dC (.int 2)) dNil))) (dC (.int 0)))) (dVar 9) (dLst dNil)) (g1 10)
    (sIf (tNotD (dTruth (dCallA 3 f__law_step (dCons (dVar 6) (dCons (dVar 7) (dCons (dVar 10) dNil)))))) (sRet (dC (.bl false))) sNext))
    (sForR1 (dCons (dVar 8) dNil) (g1 11)
    (sSeq (sIf (tNotD (dTruth (dCallA 3 f__law_step (dCons (dVar 6) (dCons (dVar 7) (dCons (dCallA 3 f__law_deed (dCons (dVar 2) (dCons (dIx (dVar 7) (dNeg (dC (.int 1)))) (dCons (dVar 3) dNil)))) dNil)))))) (sRet (dC (.bl false))) sNext)
    (sIf (tOrD (asB (dOp2 fEq (dMod (dVar 11) (dC (.int 3))) (dC (.int 0)))) (asB (dOp2 fEq (dVar 11) (dSub (dVar 8) (dC (.int 1)))))) (sSeq (sSet 12 (dCallA 1 f__law_shown (dCons (dIx (dVar 7) (dNeg (dC (.int 1)))) dNil)))
    (sIf (tOrD (asB (dOp2 fNe (dCallA 2 f__law_says (dCons (dVar 6) (dCons (dIx (dVar 7) (dNeg (dC (.int 1)))) dNil))) (dVar 12))) (asB (dOp2 fNe (dCallA 2 f__law_says (dCons (dVar 6) (dCons (dIx (dVar 7) (dNeg (dC (.int 1)))) dNil))) (dVar 12)))) (sRet (dC (.bl false))) sNext)) sNext)))))))))))
    (sRet (dC (.bl true))))
def f_law : DF := body 13 1 m_law
end K11
set_option maxRecDepth 100000
set_option maxHeartbeats 4000000
namespace Den
open PySem PySem.Spec PyProof.Rows L2
section
variable {α : Type}
def valZ (ks : List Key) (xs : List α) (k : Key) : Option α := ((ks.zip xs).find? fun q => decide (q.1 = k)).map (·.2)
def putZ (ks : List Key) (xs : List α) (k : Key) (x : α) : List Key × List α :=
  if (ks.any fun a => decide (a = k)) = true then (ks, (ks.zip xs).map fun q => if q.1 = k then x else q.2) else (ks ++ [k], xs ++ [x])
end
section
variable {T : Txt} {xp : XT} {G : Hp} {ι : Io}
theorem RepL.zipmap (k : Key) {v : V} {d : D} (r : Rep T xp G ι v d) : ∀ {ks : List Key} {vs : List V} {ds : List D}, RepL T xp G ι vs ds → RepL T xp G ι ((ks.zip vs).map fun q => if q.1 = k then v else q.2) ((ks.zip ds).map fun q => if q.1 = k then d else q.2)
  | [], _, _, _ => .nil
  | _ :: _, [], [], .nil => .nil
  | a :: ks, _, _, .cons r1 rs => by
    simp only [List.zip_cons_cons, List.map_cons]
    refine .cons ?_ (RepL.zipmap k r rs)
    split
    · exact r
    · exact r1
theorem RepL.putZ {ks : List Key} {vs : List V} {ds : List D} (k : Key) {v : V} {d : D} (rs : RepL T xp G ι vs ds) (r : Rep T xp G ι v d) : (Den.putZ ks vs k v).1 = (Den.putZ ks ds k d).1 ∧ RepL T xp G ι (Den.putZ ks vs k v).2 (Den.putZ ks ds k d).2 := by
  unfold Den.putZ
  split
  · exact ⟨rfl, RepL.zipmap k r rs⟩
  · exact ⟨rfl, rs.append (.cons r .nil)⟩
theorem RepL.valZ (k : Key) : ∀ {ks : List Key} {vs : List V} {ds : List D} {d : D}, RepL T xp G ι vs ds → Den.valZ ks ds k = some d → ∃ v, valV (ks.zip vs) k = some v ∧ Rep T xp G ι v d
  | [], _, _, _, _, h => by simp [Den.valZ] at h
  | _ :: _, [], [], _, .nil, h => by simp [Den.valZ] at h
  | a :: ks, v :: _, _, _, .cons r1 rs, h => by
    by_cases e : a = k
    · unfold Den.valZ at h
      rw [List.zip_cons_cons, List.find?_cons_of_pos (by simpa using e)] at h
      cases h
      exact ⟨v, by unfold valV; rw [List.zip_cons_cons, List.find?_cons_of_pos (by simpa using e)]; rfl, r1⟩
    · unfold Den.valZ at h
      rw [List.zip_cons_cons, List.find?_cons_of_neg (by simpa using e)] at h
      obtain ⟨w, hw, rw'⟩ := RepL.valZ k rs h
      exact ⟨w, by unfold valV at hw ⊢; rw [List.zip_cons_cons, List.find?_cons_of_neg (by simpa using e)]; exact hw, rw'⟩
end
def keyOf : D → Option Key
  | .int i => some (.inl i)
  | .str x => some (.inr x)
  | _ => none
theorem key_rep {T : Txt} {xp : XT} {G : Hp} {ι : Io} {v : V} {d : D} {k : Key} (r : Rep T xp G ι v d) (h : keyOf d = some k) : v = kV k := by
  cases r with
  | int i => cases h; rfl
  | str x => cases h; rfl
  | _ => cases h
section
variable {C : Ctx} {a b e : Expr} {ma mb me : DE} {pos pos' : Pos}
def dNewD : DE := fun _ st => .ok (.box st.length) (st ++ [.dic [] []])
def dFrzD (a : DE) : DE := fun ρ st => (a ρ st).bind fun d s1 => match d with
  | .box k => match s1[k]? with
    | some (.dic ks xs) => .ok (.dic ks xs) (s1.set k .dead)
    | _ => .bad
  | _ => .bad
theorem pd_frzD (h : PD C e me) : PD C e (dFrzD me) := PE.imp (pe_lock h) fun σ H Q ⟨ρ, st, ι, er, rl, p⟩ => by
  refine ⟨ρ, st, ι, er, rl, post_bind p fun d s1 v ι1 H1 st1 rl1 rv p1 => ?_⟩
  cases rv with
  | @box k a hk =>
    dsimp only at p1
    split at p1
    · rename_i ks xs hs
      obtain ⟨ys, h1, h2, h3⟩ := rl1.ok _ _ _ hk hs
      refine ⟨a, _, rfl, h1, trivial, fun od => ?_⟩
      obtain ⟨r, s, e⟩ := rl1.freezeW (o := .frz od (.dK (ks.zip ys))) hk hs rfl
      exact p1 _ ι1 _ s r (.dic e h2 (h3.mono s.ex s.pre))
    · exact p1.elim
  | _ => exact p1.elim
def sSetK (o i a : DE) : DS := fun ρ st => (a ρ st).into ρ fun x s1 => (o ρ s1).into ρ fun d s2 => (i ρ s2).into ρ fun y s3 => match d, keyOf y with
  | .box k, some kk => match s3[k]? with
    | some (.dic ks xs) => if ks.length < 100000 then .nx ρ (s3.set k (.dic (putZ ks xs kk x).1 (putZ ks xs kk x).2)) else .bad
    | _ => .bad
  | _, _ => .bad
theorem PE.or {X : Cx} {e : Expr} {t t' : TE} (h : PE X e t) (h' : PE X e t') : PE X e (fun σ H Q => t σ H Q ∨ t' σ H Q) := ⟨fun pins s σ H Q I q => q.elim (h.run pins s σ H Q I) (h'.run pins s σ H Q I)⟩
def dIxK (a b : DE) : DE := fun ρ st => (a ρ st).bind fun x s1 => (b ρ s1).bind fun y s2 => match x, keyOf y with
  | .dic ks xs, some k => match valZ ks xs k with
    | some z => .ok z s2
    | none => .bad
  | _, _ => .bad
theorem pd_ixK (hu : C.X.A.units + 64 < cLine) (ha : PD C a ma) (hb : PD C b mb) (hs : NoSl b := by intro _ _; rfl) : PD C (.Subscript a b pos) (dIxK ma mb) :=
  PE.imp (pe_dget (by omega) ha hb hs) fun σ H Q ⟨ρ, st, ι, er, rl, p⟩ => by
    refine ⟨ρ, st, ι, er, rl, post_bind p fun d s1 v ι1 H1 st1 rl1 rv p1 => ?_⟩
    refine ⟨ρ, s1, ι1, er.step st1, rl1, post_bind p1 fun d2 s2 v2 ι2 H2 st2 rl2 rv2 p2 => ?_⟩
    split at p2
    · rename_i ks xs k hk
      split at p2
      · rename_i z hz
        have ek := key_rep rv2 hk
        subst ek
        cases rv.mono st2.ex st2.pre with
        | dic h1 h2 h3 =>
          obtain ⟨w, hw, rw'⟩ := RepL.valZ k h3 hz
          exact ⟨_, w, rfl, .inl ⟨_, k, .inr ⟨_, hide_sub h1⟩, rfl, hw.symm⟩, p2 w ι2 H2 (Step.refl _ _ _) rl2 rw'⟩
      · exact p2.elim
    · exact p2.elim
def rLenK : List V → Hp → VK → Prop := fun xs H Q => ∃ a kvs, xs = [.ref a] ∧ Rd H a (.dK kvs) ∧ Q (.int kvs.length) H
theorem call_lenK {X : Cx} : CallR X (.builtin "len") rLenK := by
  intro pins s σ H xs us Q I r h
  obtain ⟨a, kvs, rfl, hd, q⟩ := h
  obtain rfl := Vals.ref1 r
  exact d_len I hd fun t s' I' => ⟨.int _, H, I', ⟨t, rfl⟩, q⟩
def gLenK (x : D) (_ : Store) : Option D := match x with
  | .dic ks xs => if ks.length = xs.length then some (.int ks.length) else none
  | _ => none
theorem blt_lenK : BltD C "len" (one gLenK) := ⟨_, call_lenK, fun ι st H xs ds d st' Q rl rx e k => by
  obtain ⟨x, rfl, hg, rfl⟩ := one_some e
  obtain ⟨v, rfl, rv⟩ := repL_one rx
  unfold gLenK at hg
  split at hg
  · split at hg
    · rename_i hl
      cases hg
      cases rv with
      | dic h1 h2 h3 =>
        refine ⟨_, _, rfl, .inr ⟨_, hide_sub h1⟩, ?_⟩
        have : ∀ (ks : List Key) (ys : List V), ks.length = ys.length → (ks.zip ys).length = ks.length := fun ks ys e => by rw [List.length_zip, e]; exact Nat.min_self _
        rw [this _ _ h2]
        exact k _ ι H (Step.refl _ _ _) rl (.int _)
    · cases hg
  · cases hg⟩
end
end Den
set_option maxRecDepth 100000
set_option maxHeartbeats 4000000
namespace Den
open PySem PySem.Spec PyProof.Rows L2
abbrev DIt := Rho → Store → Res (List D)
def Src (T : Txt) (xp : XT) (G0 : Hp) (ι0 : Io) (J : It) (ds : List D) : Prop := ∃ Gd : Hp → Prop, Walk J ds.length Gd (fun i H x H' => H' = H ∧ ∃ d, ds[i]? = some d ∧ Rep T xp G0 ι0 x d) ∧ ∀ H', Le G0 H' → Gd H'
def tDI (T : Txt) (xp : XT) (W : WX) (m : DIt) : TI := fun σ H R => ∃ ρ st ι, EnvR T xp (hide ι st H) ι ρ σ ∧ RelSt T xp ι st H ∧ Post T xp (fun c d H => W c d σ H) ι st H (fun G ι J ds => Src T xp G ι J ds) R (m ρ st)
abbrev PDI (C : Ctx) (tg e : Expr) (m : DIt) : Prop := PI C.X tg e (tDI C.T C.xp C.W m)
theorem PI.imp {X : Cx} {tg e : Expr} {t t' : TI} (h : PI X tg e t) (i : ∀ σ H R, t' σ H R → t σ H R) : PI X tg e t' := ⟨fun pins s σ H R I q => h.run pins s σ H R I (i σ H R q)⟩
section
variable {T : Txt} {xp : XT} {G : Hp} {ι : Io}
theorem src_list {K : PySem.W.Frag} {a : Addr} {xs : List V} {ds : List D} (h : SqL K G a xs) (r : RepL T xp G ι xs ds) : Src T xp G ι (Itl K a) ds := by
  refine ⟨fun H => SqL K H a xs, ?_, fun H' e => le_l e h⟩
  rw [← r.length]
  exact walk_list.mono (fun _ q => q) fun i H x H' _ _ y => ⟨y.1, r.getV y.2⟩
theorem src_tup {K : PySem.W.Frag} {a : Addr} {xs : List V} {ds : List D} (h : SqT K G a xs) (r : RepL T xp G ι xs ds) : Src T xp G ι (Itt K a) ds := by
  refine ⟨fun H => SqT K H a xs, ?_, fun H' e => le_t e h⟩
  rw [← r.length]
  exact walk_tup.mono (fun _ q => q) fun i H x H' _ _ y => ⟨y.1, r.getV y.2⟩
theorem src_range {lo : Int} {n : Nat} : Src T xp G ι (Itr lo n) (rangeD lo n) := by
  refine ⟨fun _ => True, ?_, fun _ _ => trivial⟩
  rw [range_len]
  exact walk_range.mono (fun _ q => q) fun i H x H' hi _ y => ⟨y.1, _, range_at hi, by rw [y.2]; exact .int _⟩
def keyD' : Key → D
  | .inl i => .int i
  | .inr x => .str x
end
section
variable {C : Ctx} {e tg iter : Expr} {me : DE} {mi : DIt} {ma : DA} {pos apos cpos : Pos}
def iSeq (a : DE) : DIt := fun ρ st => (a ρ st).bind fun d s1 => match d with
  | .lst xs => .ok xs s1
  | .ro xs => .ok xs s1
  | _ => .bad
def iTupD (a : DE) : DIt := fun ρ st => (a ρ st).bind fun d s1 => match d with
  | .tup xs => .ok xs s1
  | _ => .bad
def iKeysD (a : DE) : DIt := fun ρ st => (a ρ st).bind fun d s1 => match d with
  | .dic ks _ => .ok (ks.map keyD') s1
  | _ => .bad
def iValsD (a : DE) : DIt := fun ρ st => (a ρ st).bind fun d s1 => match d with
  | .dic _ xs => .ok xs s1
  | _ => .bad
def iStrD (a : DE) : DIt := fun ρ st => (a ρ st).bind fun d s1 => match d with
  | .str z => .ok (signsD z) s1
  | _ => .bad
def iR1 (a : DA) : DIt := fun ρ st => (a ρ st).bind fun ds s1 => match ds with
  | [.int j] => if big62 j then .ok (rangeD 0 j.toNat) s1 else .bad
  | _ => .bad
def iR2 (a : DA) : DIt := fun ρ st => (a ρ st).bind fun ds s1 => match ds with
  | [.int i, .int j] => if big62 i ∧ big62 j then .ok (rangeD i (j - i).toNat) s1 else .bad
  | _ => .bad
theorem pdi_seq (h : PD C e me) : PDI C tg e (iSeq me) := PI.imp (pi_list h) fun σ H R ⟨ρ, st, ι, er, rl, p⟩ => by
  refine ⟨ρ, st, ι, er, rl, post_bind p fun d s1 v ι1 H1 st1 rl1 rv p1 => ?_⟩
  rw [C.hK]
  cases rv with
  | lst h1 r1 => exact ⟨_, rfl, ⟨_, SqL.of (hide_sub h1)⟩, p1 _ ι1 H1 (Step.refl _ _ _) rl1 (src_list (SqL.of h1) r1)⟩
  | ro h1 r1 => exact ⟨_, rfl, ⟨_, le_l (hide_le _ _ _) h1⟩, p1 _ ι1 H1 (Step.refl _ _ _) rl1 (src_list h1 r1)⟩
  | _ => exact p1.elim
theorem pdi_tup (h : PD C e me) : PDI C tg e (iTupD me) := PI.imp (pi_tup h) fun σ H R ⟨ρ, st, ι, er, rl, p⟩ => by
  refine ⟨ρ, st, ι, er, rl, post_bind p fun d s1 v ι1 H1 st1 rl1 rv p1 => ?_⟩
  rw [C.hK]
  cases rv with
  | tup h1 r1 => exact ⟨_, rfl, ⟨_, le_t (hide_le _ _ _) h1.t⟩, p1 _ ι1 H1 (Step.refl _ _ _) rl1 (src_tup h1.t r1)⟩
  | _ => exact p1.elim
theorem pdi_R1 {a : Expr} {p : Pos} (hg : Gl C.X "range") (hm : C.X.mg "range" = none) (ha : PDA C [a] ma) (hs : starEach [a] C.X.env = [(false, eval a C.X.env)] := by rfl) : PDI C tg (.Call (.Name "range" p) [a] [] pos) (iR1 ma) :=
  PI.imp (pi_range1 hg hm ha hs) fun σ H R ⟨ρ, st, ι, er, rl, p⟩ => by
  refine ⟨ρ, st, ι, er, rl, post_bind p fun ds s1 vs ι1 H1 st1 rl1 rv p1 => ?_⟩
  split at p1
  · rename_i j
    split at p1
    · rename_i hj
      obtain ⟨v, rfl, r1⟩ := repL_one rv
      cases r1
      exact ⟨j, rfl, hj.1, hj.2, p1 _ ι1 H1 (Step.refl _ _ _) rl1 src_range⟩
    · exact p1.elim
  · exact p1.elim
variable {g : TG} {gd : GD} {is : List Nat} {mb : DS} {bd : List Stmt} {t : DT} {de : DE} {elt : Expr} {ifs : List Expr} {scope : Scope} {own : List (Str × Nat)}
def sForS (mi : DIt) (g : GD) (b : DS) : DS := fun ρ st => (mi ρ st).into ρ fun ds s1 => forL g b ds ρ s1
theorem pds_forS (hp : PassesOwn (model C.X.prog C.X.w) C.X.A C.X.env C.X.xe) (hc : C.X.calm = true) (hi : PDI C tg iter mi) (hg : PG C.X tg g) (hd : TgD C.T C.T.K g gd is) (hb : PDSs C bd mb) (hs : ∀ x, foldedSetIterable iter C.X.env x = pure x := by intro _; rfl) :
    PDS C (.For tg iter bd [] pos) (sForS mi gd mb) :=
  PS.imp (ps_for hp hc hi hg hb hs) fun D σ H ⟨ρ, st, ι, er, rl, p⟩ => by
    refine ⟨ρ, st, ι, er, rl, post_into p er fun ds s1 J ι1 H1 st1 rl1 er1 ⟨Gd, wk, hG⟩ p1 => ?_⟩
    exact for_it wk (Left C.T C.xp C.W D gd mb ds (hide ι1 s1 H1) ι1) ⟨ρ, s1, ι1, Le.refl _, Pre.refl _, rl1, er1, p1⟩
      (fun i σ' H' _ ⟨_, st', ι', hl, _, _⟩ => hG _ (hl.trans (hide_le _ _ _)))
      (fun i x σ' H' H'' hi hL ⟨eH, d, hd', rd⟩ => by
        subst eH
        exact left_turn hd hd' (fun ι' st' hl hp' => rd.mono hl hp') hL)
      (fun σ' H' hL => left_end (Nat.le_refl _) hL)
def dLc (mi : DIt) (g : GD) (t : DT) (e : DE) (vs : List Nat) : DE := fun ρ st => (mi ρ st).bind fun ds s1 => if ds.length ≤ 100000 then lcEnd (lcL g t e (wipeD ρ vs) ds s1) else .bad
theorem pd_lc (hc : C.X.calm = true) (hN : C.X.N.Nodup) (hi : PDI C tg iter mi) (ok : BlkOk C.X.N C.X.env.scope scope own) (hg : ∀ s H c cl fp, PG (C.blk s H scope c cl fp).X tg g) (hd : TgD C.T C.T.K g gd is) (hv : ∀ j ∈ is, j ∈ own.map (·.2))
    (ht : ∀ s H c cl fp, PDTs (C.blk s H scope c cl fp) ifs t) (he : ∀ s H c cl fp, PD (C.blk s H scope c cl fp) elt de) (hs : ∀ x, foldedSetIterable iter C.X.env x = pure x := by intro _; rfl) :
    PD C (.ListComp elt [⟨tg, iter, ifs, 0⟩] scope pos) (dLc mi gd t de (own.map (·.2))) :=
  PE.imp (pe_lc hc hN hi ok hg ht he hs) fun σ H Q ⟨ρ, st, ι, er, rl, p⟩ => by
    refine ⟨ρ, st, ι, er, rl, post_bind p fun ds s1 J ι1 H1 st1 rl1 ⟨Gd, wk, hG⟩ p1 => ?_⟩
    have er1 := er.step st1
    intro D hD
    split at p1
    · rename_i hl
      exact lc_it wk (LeftC C.T C.xp (fun c d H => C.W c d σ H) Q gd t de (wipeD ρ (own.map (·.2))) ds ι1 s1 H1 D) (leftC_start rl1 hD p1) (fun i H' _ hL => hG _ (leftC_sq hD hL))
        (fun i x H' H'' hi hL ⟨eH, d, hd', rd⟩ => by
          subst eH
          exact leftC_turn hd hv (by omega) er1 hD hd' rd hL)
        (fun H' hL => leftC_end rl1 hD (Nat.le_refl _) hL)
    · exact p1.elim
end
end Den
set_option maxRecDepth 100000
set_option maxHeartbeats 4000000
namespace Den
open PySem PySem.Spec PyProof.Rows L2
theorem noX_bind {α β : Type} {m : Res α} {k : α → Store → Res β} (hk : ∀ a s c xs s', k a s ≠ .exc c xs s') : ∀ c xs s, (noX m).bind k ≠ .exc c xs s := by
  intro c xs s h
  cases m with
  | ok a s1 => exact hk a s1 c xs s h
  | exc c' xs' s' => cases h
  | bad => cases h
theorem bind_no {α β : Type} {m : Res α} {k : α → Store → Res β} (hm : ∀ c xs s, m ≠ .exc c xs s) (hk : ∀ a s c xs s', k a s ≠ .exc c xs s') : ∀ c xs s, m.bind k ≠ .exc c xs s := by
  intro c xs s h
  cases hq : m with
  | ok a s1 => rw [hq] at h; exact hk a s1 c xs s h
  | exc c' xs' s' => exact hm _ _ _ hq
  | bad => rw [hq] at h; cases h
theorem lcL_no {g : GD} {t : DT} {e : DE} {ρ : Rho} : ∀ {ds : List D} {st : Store} (c : Nat) (xs : List D) (s : Store), lcL g t e ρ ds st ≠ .exc c xs s
  | [], st, c, xs, s, h => by cases h
  | d :: ds, st, c, xs, s, h => by
    unfold lcL at h
    cases hg : g d ρ with
    | none => rw [hg] at h; cases h
    | some ρ' =>
      rw [hg] at h
      refine noX_bind (fun b s1 c xs s' h => ?_) c xs s h
      cases b with
      | false => exact lcL_no c xs s' h
      | true => exact noX_bind (fun y s2 => bind_no (fun _ _ _ => lcL_no _ _ _) fun ys s3 c xs s' h => by cases h) c xs s' h
def lc2L (g : GD) (t : DT) (mi : DIt) (g1 : GD) (t1 : DT) (e : DE) (vs1 : List Nat) (ρ : Rho) : List D → Store → Res (List D)
  | [], st => .ok [] st
  | x :: xs, st => match g x ρ with
    | none => .bad
    | some ρ' => (noX (t ρ' st)).bind fun b s1 => match b with
      | true => (noX (mi ρ' s1)).bind fun ds s2 => (lcL g1 t1 e (wipeD ρ' vs1) ds s2).bind fun ys s3 => (lc2L g t mi g1 t1 e vs1 ρ xs s3).bind fun zs s4 => .ok (ys ++ zs) s4
      | false => lc2L g t mi g1 t1 e vs1 ρ xs s1
theorem lc2L_no {g : GD} {t : DT} {mi : DIt} {g1 : GD} {t1 : DT} {e : DE} {vs1 : List Nat} {ρ : Rho} : ∀ {ds : List D} {st : Store} (c : Nat) (xs : List D) (s : Store), lc2L g t mi g1 t1 e vs1 ρ ds st ≠ .exc c xs s
  | [], st, c, xs, s, h => by cases h
  | d :: ds, st, c, xs, s, h => by
    unfold lc2L at h
    cases hg : g d ρ with
    | none => rw [hg] at h; cases h
    | some ρ' =>
      rw [hg] at h
      refine noX_bind (fun b s1 c xs s' h => ?_) c xs s h
      cases b with
      | false => exact lc2L_no c xs s' h
      | true => exact noX_bind (fun ds' s2 => bind_no (fun _ _ _ => lcL_no _ _ _) fun ys s3 => bind_no (fun _ _ _ => lc2L_no _ _ _) fun zs s4 c xs s' h => by cases h) c xs s' h
section
variable {C : Ctx} {p : Addr} {ι1 ι : Io} {s1 st : Store} {H1 H : Hp} {W : Value → Option Addr → Hp → Prop} {Q : VK}
structure Way (C : Ctx) (W : Value → Option Addr → Hp → Prop) (Q : VK) (ι1 : Io) (s1 : Store) (H1 : Hp) (p : Addr) (rem : Res (List D)) (acc : List V) (ys : List D) (ι : Io) (st : Store) (H : Hp) : Prop where
  s : Step (ι1.under p) s1 (upd H1 p (.lst [])) ι st (upd H p (.lst []))
  rl : RelSt C.T C.xp ι st H
  hp : H p = some (.lst acc)
  ra : RepL C.T C.xp (hide ι st H) ι acc ys
  q : Post C.T C.xp W ι1 s1 H1 (Rep C.T C.xp) Q (lcEnd (rem.bind fun zs s2 => .ok (ys ++ zs) s2))
theorem Way.hd {rem : Res (List D)} {acc : List V} {ys : List D} (w : Way C W Q ι1 s1 H1 p rem acc ys ι st H) : p ∈ ι.hd := Io.under_hd w.s.pre
theorem under_step {ιa ιb : Io} {sa sb : Store} {Ha Hb : Hp} (ha : p ∈ ιa.hd) (z : Step ιa sa Ha ιb sb Hb) : Step ιa sa (upd Ha p (.lst [])) ιb sb (upd Hb p (.lst [])) := by
  have hb : p ∈ ιb.hd := by rw [z.pre.hd]; exact ha
  refine ⟨z.pre, by rw [hide_hd ha, hide_hd hb]; exact z.ex, fun a h => ?_⟩
  by_cases ea : a = p
  · rw [ea, upd_same, upd_same]
  · rw [upd_ne ea, upd_ne ea]
    exact z.hd a h
theorem Way.step {rem : Res (List D)} {acc : List V} {ys : List D} (w : Way C W Q ι1 s1 H1 p rem acc ys ι st H) {ι' : Io} {st' : Store} {H' : Hp} (z : Step ι st H ι' st' H') (rl : RelSt C.T C.xp ι' st' H') : Way C W Q ι1 s1 H1 p rem acc ys ι' st' H' :=
  ⟨w.s.trans (under_step w.hd z), rl, (z.hd p w.hd).trans w.hp, w.ra.mono z.ex z.pre, w.q⟩
theorem Way.rem {r r' : Res (List D)} {acc : List V} {ys : List D} (w : Way C W Q ι1 s1 H1 p r acc ys ι st H) (e : r = r') : Way C W Q ι1 s1 H1 p r' acc ys ι st H := e ▸ w
theorem Way.room {y : D} {m : Res (List D)} {acc : List V} {ys : List D} (hm : ∀ c xs s, m ≠ .exc c xs s) (w : Way C W Q ι1 s1 H1 p (m.bind fun zs s => .ok (y :: zs) s) acc ys ι st H) : acc.length < sizeLine := by
  have q := w.q
  cases h : m with
  | ok zs s =>
    rw [h] at q
    simp only [bind_ok] at q
    unfold lcEnd at q
    simp only [bind_ok] at q
    split at q
    · rename_i hl
      rw [w.ra.length]
      refine line_lt ?_
      rw [List.length_append, List.length_cons] at hl
      omega
    · exact q.elim
  | exc c xs s => exact absurd h (hm c xs s)
  | bad =>
    rw [h] at q
    exact q.elim
theorem Way.put {y : D} {v : V} {m : Res (List D)} {acc : List V} {ys : List D} (w : Way C W Q ι1 s1 H1 p (m.bind fun zs s => .ok (y :: zs) s) acc ys ι st H) (rv : Rep C.T C.xp (hide ι st H) ι v y) : Way C W Q ι1 s1 H1 p m (acc ++ [v]) (ys ++ [y]) ι st (upd H p (.lst (acc ++ [v]))) := by
  have hm := w.hd
  refine ⟨?_, w.rl.hdw hm _, upd_same, ?_, ?_⟩
  · rw [upd_upd]; exact w.s
  · rw [hide_hd hm]; exact w.ra.append (.cons rv .nil)
  · have q := w.q
    cases h : m with
    | ok zs s => rw [h] at q; simp only [bind_ok] at q ⊢; rw [List.append_assoc]; exact q
    | exc c xs s => rw [h] at q; simp only [bind_exc] at q ⊢; exact q
    | bad => rw [h] at q; exact q.elim
theorem Way.ends {acc : List V} {ys : List D} (rl : RelSt C.T C.xp ι1 s1 H1) (hn : H1 p = none) (w : Way C W Q ι1 s1 H1 p (.ok [] st) acc ys ι st H) : Q (.ref p) H := by
  have q := w.q
  simp only [bind_ok, List.append_nil] at q
  unfold lcEnd at q
  simp only [bind_ok] at q
  split at q
  · obtain ⟨r', s', rr⟩ := undone rl hn w.s w.rl w.hp w.ra
    exact q _ _ _ s' r' rr
  · exact q.elim
theorem loop_of {J : It} {n : Nat} {Gd : Hp → Prop} {Y : Nat → Hp → V → Hp → Prop} (wk : Walk J n Gd Y) {P : Nat → Hp → Prop} {E : Hp → Prop} {B : V → Hp → (Hp → Prop) → Prop} {H0 : Hp} (h0 : P 0 H0) (hG : ∀ i H, P i H → Gd H)
    (hs : ∀ i x Ha Hb, i < n → P i Ha → Y i Ha x Hb → B x Hb (P (i + 1))) (he : ∀ H, P n H → E H) :
    ∃ Wd : Nat → Nat → Hp → Prop, (∃ m, Wd 0 m H0) ∧ ∀ i m H, Wd i m H → (J.stop i H ∧ E H) ∨ (J.go i H ∧ ∃ Nx : Hp → Prop, (∀ H', Nx H' → ∃ m', m' < m ∧ Wd (i + 1) m' H') ∧ ∀ x H', J.yld i H x H' → B x H' Nx) := by
  let Wd : Nat → Nat → Hp → Prop := fun i m H => i + m = n ∧ P i H
  refine ⟨Wd, ⟨n, Nat.zero_add n, h0⟩, fun i m H w => ?_⟩
  obtain ⟨hm, hp⟩ := w
  cases m with
  | zero =>
    have e : i = n := hm
    rw [e] at hp ⊢
    exact Or.inl ⟨wk.stops _ (hG _ _ hp), he _ hp⟩
  | succ m =>
    have lt : i < n := by omega
    exact Or.inr ⟨wk.goes _ _ lt (hG _ _ hp), P (i + 1), fun H' hq => ⟨m, Nat.lt_succ_self m, by show i + 1 + m = n; omega, hq⟩, fun x H' hy => hs _ _ _ _ lt hp (wk.yields _ _ _ _ lt (hG _ _ hp) hy)⟩
theorem bind_put {y : D} {m : Res (List D)} {k : Store → Res (List D)} : ((m.bind fun ys s => .ok (y :: ys) s).bind fun ys s => (k s).bind fun zs s' => .ok (ys ++ zs) s') = (m.bind fun ys s => (k s).bind fun zs s' => .ok (ys ++ zs) s').bind fun zs s => .ok (y :: zs) s := by
  cases m with
  | ok ys s =>
    simp only [bind_ok]
    cases k s <;> rfl
  | _ => rfl
structure Since (C : Ctx) (ιo : Io) (so : Store) (Ho : Hp) (ι : Io) (st : Store) (H : Hp) : Prop where
  le : Le (hide ιo so Ho) (hide ι st H)
  ad : ∀ (k : Nat) (a : Addr), ιo.ad[k]? = some a → ι.ad[k]? = some a
theorem Since.step {ιo ι' : Io} {so st' : Store} {Ho H' : Hp} (b : Since C ιo so Ho ι st H) (z : Step ι st H ι' st' H') : Since C ιo so Ho ι' st' H' := ⟨b.le.trans z.ex, fun k a e => z.pre.ad k a (b.ad k a e)⟩
variable {g1 : TG} {gd1 : GD} {is1 : List Nat} {t1 : DT} {e : DE} {vs1 : List Nat} {ds1 : List D} {ρ' : Rho} {σ2 : L2.St}
def Inner (C : Ctx) (W : Value → Option Addr → Hp → Prop) (Q : VK) (ι1 : Io) (s1 : Store) (H1 : Hp) (p : Addr) (gd1 : GD) (t1 : DT) (e : DE) (ρ : Rho) (ds1 : List D) (k : Store → Res (List D)) (ιo : Io) (so : Store) (Ho : Hp) (j : Nat) (H : Hp) : Prop :=
  ∃ ι st acc ys, Way C W Q ι1 s1 H1 p ((lcL gd1 t1 e ρ (ds1.drop j) st).bind fun ys s => (k s).bind fun zs s' => .ok (ys ++ zs) s') acc ys ι st H ∧ Since C ιo so Ho ι st H
theorem inner_turn {k : Store → Res (List D)} {ιo : Io} {so : Store} {Ho : Hp} {j : Nat} {d : D} {x : V} (hd1 : TgD C.T C.T.K g1 gd1 is1) (hv1 : ∀ i ∈ is1, i ∈ vs1) (hk : ∀ s c xs s', k s ≠ .exc c xs s') (er : EnvR C.T C.xp (hide ιo so Ho) ιo ρ' σ2) (hx : ds1[j]? = some d) (hr : Rep C.T C.xp (hide ιo so Ho) ιo x d)
    (h : Inner C W Q ι1 s1 H1 p gd1 t1 e (wipeD ρ' vs1) ds1 k ιo so Ho j H) :
    g1 x (wipe σ2 vs1) H fun σ3 H5 => wipe σ3 vs1 = wipe σ2 vs1 ∧ tDT C.T C.xp (fun _ _ _ _ => False) t1 σ3 H5 fun b H6 =>
      if b = true then tD C.T C.xp (fun _ _ _ _ => False) e σ3 H6 fun y H7 => ∃ acc, H7 p = some (.lst acc) ∧ acc.length < sizeLine ∧ Inner C W Q ι1 s1 H1 p gd1 t1 e (wipeD ρ' vs1) ds1 k ιo so Ho (j + 1) (upd H7 p (.lst (acc ++ [y])))
        else Inner C W Q ι1 s1 H1 p gd1 t1 e (wipeD ρ' vs1) ds1 k ιo so Ho (j + 1) H6 := by
  obtain ⟨ι, st, acc, ys, w, b⟩ := h
  rw [drop_at hx] at w
  unfold lcL at w
  have erw := er.wipe vs1
  have er' : EnvR C.T C.xp (hide ι st H) ι (wipeD ρ' vs1) (wipe σ2 vs1) := ⟨erw.len, fun i y hy => let ⟨v, q1, q2⟩ := erw.at_ i y hy; ⟨v, q1, q2.monoA b.le b.ad⟩⟩
  cases hg : gd1 d (wipeD ρ' vs1) with
  | none => rw [hg] at w; exact w.q.elim
  | some ρ3 =>
    rw [hg] at w
    dsimp only at w
    refine hd1.ok _ _ _ _ _ _ _ _ _ _ er' (hr.monoA b.le b.ad) hg fun σ3 er3 hw => ⟨?_, ρ3, st, ι, er3, w.rl, ?_⟩
    · rw [hw vs1 hv1]
      have again : ∀ (ws : List Nat) (τ : L2.St), (∀ i ∈ ws, i ∈ vs1) → wipe (wipe τ ws) vs1 = wipe τ vs1 := by
        intro ws
        induction ws with
        | nil => exact fun τ _ => rfl
        | cons i ws ih =>
          intro τ hi
          show wipe ((wipe τ ws).set i none) vs1 = _
          rw [wipe_set (hi i List.mem_cons_self)]
          exact ih τ fun z hz => hi z (List.mem_cons_of_mem _ hz)
      exact again vs1 σ2 fun _ z => z
    · cases ht : t1 ρ3 st with
      | bad => rw [ht] at w; exact w.q.elim
      | exc c es s2 => rw [ht] at w; exact w.q.elim
      | ok bb s2 =>
        rw [ht] at w
        simp only [noX, bind_ok] at w
        intro b' ι2 H2 st2 rl2 eb
        have eb' : b' = bb := eb
        subst eb'
        have w2 := w.step st2 rl2
        have b2 := b.step st2
        cases b' with
        | false => exact iteF ⟨ι2, s2, acc, ys, w2, b2⟩
        | true =>
          refine iteT ⟨ρ3, s2, ι2, er3.step st2, rl2, ?_⟩
          cases he : e ρ3 s2 with
          | bad => rw [he] at w2; exact w2.q.elim
          | exc c es s3 => rw [he] at w2; exact w2.q.elim
          | ok y s3 =>
            rw [he] at w2
            simp only [noX, bind_ok] at w2
            rw [bind_put] at w2
            intro v ι3 H3 st3 rl3 rv
            have w3 := w2.step st3 rl3
            have no : ∀ c xs s, ((lcL gd1 t1 e (wipeD ρ' vs1) (ds1.drop (j + 1)) s3).bind fun ys s => (k s).bind fun zs s' => .ok (ys ++ zs) s') ≠ .exc c xs s :=
              bind_no (fun _ _ _ => lcL_no _ _ _) fun ys s => bind_no (hk s) fun _ _ _ _ _ h => by cases h
            refine ⟨acc, w3.hp, w3.room no, ι3, s3, acc ++ [v], ys ++ [y], w3.put rv, ?_⟩
            have b3 := b2.step st3
            exact ⟨by rw [hide_hd w3.hd]; exact b3.le, b3.ad⟩
theorem inner_end {k : Store → Res (List D)} {ιo : Io} {so : Store} {Ho : Hp} {j : Nat} (hj : ds1.length ≤ j) (h : Inner C W Q ι1 s1 H1 p gd1 t1 e (wipeD ρ' vs1) ds1 k ιo so Ho j H) : ∃ ι st acc ys, Way C W Q ι1 s1 H1 p (k st) acc ys ι st H := by
  obtain ⟨ι, st, acc, ys, w, b⟩ := h
  refine ⟨ι, st, acc, ys, w.rem ?_⟩
  rw [List.drop_eq_nil_of_le hj]
  show (Res.ok ([] : List D) st).bind _ = _
  simp only [bind_ok, List.nil_append]
  cases k st <;> rfl
end
section
variable {C : Ctx} {tg iter tg1 iter1 elt : Expr} {ifs ifs1 : List Expr} {scope : Scope} {own : List (Str × Nat)} {pos : Pos} {mi mi1 : DIt} {g g1 : TG} {gd gd1 : GD} {is is1 vs1 : List Nat} {t t1 : DT} {e : DE}
def dLc2 (mi : DIt) (g : GD) (t : DT) (mi1 : DIt) (g1 : GD) (t1 : DT) (e : DE) (vs vs1 : List Nat) : DE := fun ρ st => (mi ρ st).bind fun ds s1 => lcEnd (lc2L g t mi1 g1 t1 e vs1 (wipeD ρ vs) ds s1)
theorem pd_lc2 (hc : C.X.calm = true) (hN : C.X.N.Nodup) (hi : PDI C tg iter mi) (ok : BlkOk C.X.N C.X.env.scope scope own) (hvo : ∀ i ∈ vs1, i ∈ own.map (·.2)) (hg : ∀ s H c cl fp, PG (C.blk s H scope c cl fp).X tg g) (hd : TgD C.T C.T.K g gd is) (hv : ∀ j ∈ is, j ∈ own.map (·.2))
    (ht : ∀ s H c cl fp, PDTs (C.blk s H scope c cl fp) ifs t) (hi1 : ∀ s H c cl fp, PDI (C.blk s H scope c cl fp) tg1 iter1 mi1) (hg1 : ∀ s H c cl fp, PG (C.blk s H scope c cl fp).X tg1 g1) (hd1 : TgD C.T C.T.K g1 gd1 is1) (hv1 : ∀ j ∈ is1, j ∈ vs1)
    (ht1 : ∀ s H c cl fp, PDTs (C.blk s H scope c cl fp) ifs1 t1) (he : ∀ s H c cl fp, PD (C.blk s H scope c cl fp) elt e) (hs : ∀ x, foldedSetIterable iter C.X.env x = pure x := by intro _; rfl) (hs1 : ∀ env x, foldedSetIterable iter1 env x = pure x := by intro _ _; rfl) :
    PD C (.ListComp elt [⟨tg, iter, ifs, 0⟩, ⟨tg1, iter1, ifs1, 0⟩] scope pos) (dLc2 mi gd t mi1 gd1 t1 e (own.map (·.2)) vs1) :=
  PE.imp (pe_lc2 (wi1 := tDI C.T C.xp (fun _ _ _ _ => False) mi1) (tt := tDT C.T C.xp (fun _ _ _ _ => False) t) (tt1 := tDT C.T C.xp (fun _ _ _ _ => False) t1) (te := tD C.T C.xp (fun _ _ _ _ => False) e) hc hN hi ok hvo hg ht hi1 hg1 ht1 he hs hs1) fun σ H Q ⟨ρ, st, ι, er, rl, q⟩ => by
    refine ⟨ρ, st, ι, er, rl, post_bind q fun ds s1 J ι1 H1 st1 rl1 ⟨Gd, wk, hG⟩ q1 => ?_⟩
    have er1 := er.step st1
    intro p hp
    refine loop_of wk (P := fun i H => ∃ ι st acc ys, Way C (fun c d H => C.W c d σ H) Q ι1 s1 H1 p (lc2L gd t mi1 gd1 t1 e vs1 (wipeD ρ (own.map (·.2))) (ds.drop i) st) acc ys ι st H) ⟨ι1.under p, s1, [], [], ?_⟩ (fun i H ⟨ι, st, acc, ys, w⟩ => ?_) (fun i x Ha Hb hlt ⟨ι, st, acc, ys, w⟩ ⟨eH, d, hx, hr⟩ => ?_) (fun H ⟨ι, st, acc, ys, w⟩ => ?_)
    · refine ⟨by rw [upd_upd]; exact Step.refl _ _ _, rl1.under hp, upd_same, .nil, ?_⟩
      have eb : ∀ m : Res (List D), (m.bind fun zs s2 => .ok (([] : List D) ++ zs) s2) = m := fun m => by cases m <;> rfl
      rw [eb]
      exact q1
    · have hx1 := w.s.ex
      rw [hide_under hp, hide_hd w.hd] at hx1
      exact hG _ (hx1.trans (hide_le _ _ _))
    · subst eH
      have hx1 := w.s.ex
      rw [hide_under hp, hide_hd w.hd] at hx1
      have pad : ∀ (k : Nat) (a : Addr), ι1.ad[k]? = some a → ι.ad[k]? = some a := w.s.pre.ad
      rw [drop_at hx] at w
      unfold lc2L at w
      have erw := er1.wipe (own.map (·.2))
      have er' : EnvR C.T C.xp (hide ι st Hb) ι (wipeD ρ (own.map (·.2))) (wipe σ (own.map (·.2))) := ⟨erw.len, fun i y hy => let ⟨v, z1, z2⟩ := erw.at_ i y hy; ⟨v, z1, z2.monoA hx1 pad⟩⟩
      cases hgd : gd d (wipeD ρ (own.map (·.2))) with
      | none => rw [hgd] at w; exact w.q.elim
      | some ρ' =>
        rw [hgd] at w
        dsimp only at w
        refine hd.ok _ _ _ _ _ _ _ _ _ _ er' (hr.monoA hx1 pad) hgd fun σ2 er2 hw => ⟨?_, ρ', st, ι, er2, w.rl, ?_⟩
        · rw [hw _ hv]
          have again : ∀ (ws : List Nat) (τ : L2.St), (∀ i ∈ ws, i ∈ own.map (·.2)) → wipe (wipe τ ws) (own.map (·.2)) = wipe τ (own.map (·.2)) := by
            intro ws
            induction ws with
            | nil => exact fun τ _ => rfl
            | cons i ws ih =>
              intro τ hi
              show wipe ((wipe τ ws).set i none) (own.map (·.2)) = _
              rw [wipe_set (hi i List.mem_cons_self)]
              exact ih τ fun z hz => hi z (List.mem_cons_of_mem _ hz)
          exact again _ σ fun _ z => z
        · cases htt : t ρ' st with
          | bad => rw [htt] at w; exact w.q.elim
          | exc c es s2 => rw [htt] at w; exact w.q.elim
          | ok bb s2 =>
            rw [htt] at w
            simp only [noX, bind_ok] at w
            intro b' ι2 H2 st2 rl2 eb
            have eb' : b' = bb := eb
            subst eb'
            have w2 := w.step st2 rl2
            cases b' with
            | false => exact iteF ⟨ι2, s2, acc, ys, w2⟩
            | true =>
              refine iteT ⟨ρ', s2, ι2, er2.step st2, rl2, ?_⟩
              cases hm : mi1 ρ' s2 with
              | bad => rw [hm] at w2; exact w2.q.elim
              | exc c es s3 => rw [hm] at w2; exact w2.q.elim
              | ok ds1 s3 =>
                rw [hm] at w2
                simp only [noX, bind_ok] at w2
                intro J1 ι3 H3 st3 rl3 ⟨Gd1, wk1, hG1⟩
                have w3 := w2.step st3 rl3
                have er3 := (er2.step st2).step st3
                refine loop_of wk1 (P := Inner C (fun c d H => C.W c d σ H) Q ι1 s1 H1 p gd1 t1 e (wipeD ρ' vs1) ds1 (fun s => lc2L gd t mi1 gd1 t1 e vs1 (wipeD ρ (own.map (·.2))) (ds.drop (i + 1)) s) ι3 s3 H3) ⟨ι3, s3, acc, ys, w3, Le.refl _, fun _ _ z => z⟩
                  (fun j H' ⟨_, _, _, _, _, b⟩ => hG1 _ (b.le.trans (hide_le _ _ _))) (fun j x Hc Hd hj hI ⟨eH2, d1, hx2, hr2⟩ => ?_) (fun H' hI => ?_)
                · subst eH2
                  exact inner_turn hd1 hv1 (fun s => lc2L_no) er3 hx2 hr2 hI
                · exact inner_end (Nat.le_refl _) hI
    · rw [List.drop_eq_nil_of_le (Nat.le_refl _)] at w
      exact w.ends rl1 hp
end
end Den
set_option maxRecDepth 100000
set_option maxHeartbeats 4000000
namespace Den
open PySem PySem.Spec PyProof.Rows L2
mutual
def ofPy : PyData → D
  | .none => .non
  | .bool b => .bl b
  | .int i => .int i
  | .str x => .str x
  | .list xs => .lst (ofPyL xs)
  | .tuple xs => .tup (ofPyL xs)
  | .dict _ => .non
def ofPyL : List PyData → List D
  | [] => []
  | x :: xs => ofPy x :: ofPyL xs
end
mutual
/-- numbers, texts, tuples and lists of such, none that may change -/
def pureD : D → Bool
  | .non | .bl _ | .int _ | .str _ => true
  | .tup xs => pureL xs
  | .lst xs => pureL xs
  | _ => false
def pureL : List D → Bool
  | [] => true
  | x :: xs => pureD x && pureL xs
end
mutual
theorem pure_py : ∀ {d : D}, pureD d = true → ∃ p, toPy d = some p ∧ ofPy p = d
  | .non, _ => ⟨_, rfl, rfl⟩
  | .bl _, _ => ⟨_, rfl, rfl⟩
  | .int _, _ => ⟨_, rfl, rfl⟩
  | .str _, _ => ⟨_, rfl, rfl⟩
  | .tup xs, h => by
    obtain ⟨ps, e1, e2⟩ := pure_pyL (ds := xs) (by simpa only [pureD] using h)
    exact ⟨.tuple ps, by simp only [toPy, e1, Option.map_some], by simp only [ofPy, e2]⟩
  | .lst xs, h => by
    obtain ⟨ps, e1, e2⟩ := pure_pyL (ds := xs) (by simpa only [pureD] using h)
    exact ⟨.list ps, by simp only [toPy, e1, Option.map_some], by simp only [ofPy, e2]⟩
  | .ro _, h => by simp [pureD] at h
  | .dic _ _, h => by simp [pureD] at h
  | .ins _ _, h => by simp [pureD] at h
  | .exc _ _, h => by simp [pureD] at h
  | .err _ _, h => by simp [pureD] at h
  | .ty _, h => by simp [pureD] at h
  | .cl _, h => by simp [pureD] at h
  | .fn _, h => by simp [pureD] at h
  | .box _, h => by simp [pureD] at h
theorem pure_pyL : ∀ {ds : List D}, pureL ds = true → ∃ ps, toPyL ds = some ps ∧ ofPyL ps = ds
  | [], _ => ⟨[], rfl, rfl⟩
  | d :: ds, h => by
    simp only [pureL, Bool.and_eq_true] at h
    obtain ⟨p, e1, e2⟩ := pure_py h.1
    obtain ⟨ps, e3, e4⟩ := pure_pyL h.2
    exact ⟨p :: ps, by simp only [toPyL, e1, e3], by simp only [ofPyL, e2, e4]⟩
end
theorem ofPyL_at : ∀ {ps : List PyData} {i : Nat} {p : PyData}, ps[i]? = some p → (ofPyL ps)[i]? = some (ofPy p)
  | [], _, _, h => by simp at h
  | q :: ps, 0, p, h => by simp at h; subst h; simp [ofPyL]
  | q :: ps, i + 1, p, h => by
    have := ofPyL_at (ps := ps) (i := i) (p := p) (by simpa using h)
    simpa [ofPyL] using this
def alikeC (ps : List PyData) : Bool := (ps.all fun x => ps.all fun y => PySem.W.alike x y) && ps.all fun x => match x with
  | .none => false
  | _ => true
theorem alikeQ {ps : List PyData} (h : alikeC ps = true) : PySem.W.AlikeAll ps := by
  unfold alikeC at h
  rw [Bool.and_eq_true] at h
  refine ⟨fun x hx y hy => List.all_eq_true.mp (List.all_eq_true.mp h.1 x hx) y hy, fun x hx e => ?_⟩
  have := List.all_eq_true.mp h.2 x hx
  rw [e] at this
  cases this
def rBest (K : PySem.W.Frag) (b : PyData → List PyData → PyData) : List V → Hp → VK → Prop := fun vs H Q => ∃ (a : Addr) (xs : List V) (p : PyData) (ps : List PyData), vs = [.ref a] ∧ SqL K H a xs ∧ DpAll K H xs (p :: ps) ∧ PySem.W.AlikeAll (p :: ps) ∧ PyData.depthAll (p :: ps) ≤ 60 ∧
  ∀ (i : Nat) (v : V), xs[i]? = some v → (p :: ps)[i]? = some (b p ps) → Q v H
section
variable {X : Cx}
theorem best_at {pins : List (Addr × Obj)} {σ : L2.St} {H : Hp} {s : Shared} {a : Addr} {xs : List V} {ps : List PyData} {its : List Value} {q : PyData} (I : Inv X pins σ H s) (hd : DpAll X.K H xs ps) (rv : Vals xs its) {i : Nat} {u : Value} {h' : Heap} {bs : List Addr} (hu : its[i]? = some u) (hr : Reads h' u q bs) (hk : ∀ b o, s.heap.get? b = some o → h'.get? b = some o) :
    ∃ v, xs[i]? = some v ∧ RelV v u ∧ ps[i]? = some q := by
  have go : ∀ {xs : List V} {ps : List PyData} {its : List Value} {i : Nat}, DpAll X.K H xs ps → Vals xs its → its[i]? = some u → ∃ v p, xs[i]? = some v ∧ RelV v u ∧ ps[i]? = some p ∧ Dp X.K H v p := by
    intro xs
    induction xs with
    | nil => intro ps its i hd rv hu; cases rv; simp at hu
    | cons x xs ih =>
      intro ps its i hd rv hu
      cases hd with
      | cons d1 ds =>
        cases rv with
        | cons r1 rs =>
          cases i with
          | zero => simp at hu; subst hu; exact ⟨x, _, by simp, r1, by simp, d1⟩
          | succ i =>
            obtain ⟨v, p, e1, e2, e3, e4⟩ := ih ds rs (by simpa using hu)
            exact ⟨v, p, by simpa using e1, e2, by simpa using e3, e4⟩
  obtain ⟨v, p, e1, e2, e3, e4⟩ := go hd rv hu
  obtain ⟨as, r2⟩ := Dp.reads I p v u e4 e2
  have e := (PySem.Reads.unique (Reads.keeps hk r2) q bs hr).1
  exact ⟨v, e1, e2, by rw [e3, e]⟩
theorem cr_minL (hc : X.calm = true) (hu : X.A.units + 64 < cLine) : CallR X (.builtin "min") (rBest X.K PySem.W.minD) := by
  intro pins s σ H xs us Q I r h
  obtain ⟨a, zs, p, ps, rfl, hq, hd, ha, hz, q⟩ := h
  rw [Vals.ref1 r]
  obtain ⟨its, rv, pl, _⟩ := I.list hq
  obtain ⟨as, hr⟩ := Dp.readsAll I _ _ _ hd rv
  refine PySem.W.min_list_data (vs := its.toArray) (I.ok.hd hc) pl.isList (by simpa using hr) ha (by omega) fun i u h' tk bs hi hb hk => ?_
  obtain ⟨v, e1, e2, e3⟩ := best_at (a := a) I hd rv (by simpa using hi) hb hk
  exact ⟨v, H, I.kept (t' := tk) hk, e2, q i v e1 e3⟩
theorem cr_maxL (hc : X.calm = true) (hu : X.A.units + 64 < cLine) : CallR X (.builtin "max") (rBest X.K PySem.W.maxD) := by
  intro pins s σ H xs us Q I r h
  obtain ⟨a, zs, p, ps, rfl, hq, hd, ha, hz, q⟩ := h
  rw [Vals.ref1 r]
  obtain ⟨its, rv, pl, _⟩ := I.list hq
  obtain ⟨as, hr⟩ := Dp.readsAll I _ _ _ hd rv
  refine PySem.W.max_list_data (vs := its.toArray) (I.ok.hd hc) pl.isList (by simpa using hr) ha (by omega) fun i u h' tk bs hi hb hk => ?_
  obtain ⟨v, e1, e2, e3⟩ := best_at (a := a) I hd rv (by simpa using hi) hb hk
  exact ⟨v, H, I.kept (t' := tk) hk, e2, q i v e1 e3⟩
end
def gBest (b : PyData → List PyData → PyData) (x : D) (st : Store) : Option D := (litemsOf x st).bind fun ds => if pureL ds = true then (match toPyL ds with
  | some (p :: ps) => if alikeC (p :: ps) = true ∧ PyData.depthAll (p :: ps) ≤ 60 then some (ofPy (b p ps)) else none
  | _ => none) else none
section
variable {C : Ctx}
theorem best_den {b : PyData → List PyData → PyData} : CallD C (rBest C.X.K b) (one (gBest b)) := fun ι st H xs ds d st' Q rl rx e k => by
  obtain ⟨x, rfl, hg, rfl⟩ := one_some e
  obtain ⟨v, rfl, rv⟩ := repL_one rx
  obtain ⟨ys, hy, hg⟩ := Option.bind_eq_some_iff.mp hg
  split at hg
  · rename_i hp
    split at hg
    · rename_i p ps hq
      split at hg
      · rename_i hc
        cases hg
        obtain ⟨a, zs, rfl, hs, rs⟩ := litems_rep rl rv hy
        obtain ⟨qs, e1, e2⟩ := pure_pyL hp
        rw [hq] at e1
        cases e1
        refine ⟨a, zs, p, ps, rfl, by rw [C.hK]; exact hs, by rw [C.hK]; exact dp_ofL (hide_le _ _ _) rs hq, alikeQ hc.1, hc.2, fun i v hv hi => ?_⟩
        obtain ⟨y, hy2, ry⟩ := rs.getV hv
        have := ofPyL_at hi
        rw [e2, hy2] at this
        cases this
        exact k v ι H (Step.refl _ _ _) rl ry
      · cases hg
    · cases hg
  · cases hg
theorem blt_minD (hc : C.X.calm = true) (hu : C.X.A.units + 64 < cLine) : BltD C "min" (one (gBest PySem.W.minD)) := ⟨_, cr_minL hc hu, best_den⟩
theorem blt_PySem.W.maxD (hc : C.X.calm = true) (hu : C.X.A.units + 64 < cLine) : BltD C "max" (one (gBest PySem.W.maxD)) := ⟨_, cr_maxL hc hu, best_den⟩
theorem blt_minA (hc : C.X.calm = true) (hu : C.X.A.units + 64 < cLine) : BltD C "min" (orB (two fun i j => if j < i then j else i) (one (gBest PySem.W.minD))) := BltD.or (blt_min2 hc) (blt_minD hc hu)
theorem blt_maxA (hc : C.X.calm = true) (hu : C.X.A.units + 64 < cLine) : BltD C "max" (orB (two fun i j => if j > i then j else i) (one (gBest PySem.W.maxD))) := BltD.or (blt_max2 hc) (blt_PySem.W.maxD hc hu)
end
end Den
set_option maxRecDepth 100000
set_option maxHeartbeats 4000000
namespace Den
open PySem PySem.Spec PyProof.Rows L2
abbrev eSet (w : World) : Obj := { cls := .type "set", dict := none, data := .set #[] 0 (.fresh 0 0 (!w.params.followText "set-order")) }
theorem eSet_at {w : World} {h : Heap} {S : Addr} {ns : List Int} (e : h.get? S = some (eSet w)) : ∃ c, c ≤ 0 ∧ SetR w h S (fun j => decide (j ∈ ns.take 0)) c := ⟨0, Nat.le_refl 0, setR_new_at e⟩
theorem ints_val {vs : Array Value} {ns : List Int} (hi : IntsAre vs.toList ns) (i : Nat) (v : Value) (hv : vs[i]? = some v) : ∃ k t, ns[i]? = some k ∧ v = .int k t := by
  have hl : vs.size = ns.length := (Array.length_toList (xs := vs)).symm.trans hi.length
  have lt : i < ns.length := hl ▸ (Array.getElem?_eq_some_iff.mp hv).1
  obtain ⟨t, e⟩ := hi.int_at i v ((Array.getElem?_toList).trans hv)
  refine ⟨ns[i], t, List.getElem?_eq_getElem lt, e.trans ?_⟩
  simp [List.getD_eq_getElem?_getD, List.getElem?_eq_getElem lt]
section
variable {P : Program} {w : World} {A : Around} {E : Value → Shared → Prop} {s : Shared}
theorem fill_of {S b : Addr} {vs : Array Value} {ns : List Int} {R : Result → Shared → Prop} (hh : A.handled = none) (eS : s.heap.get? S = some (eSet w)) (hL : s.heap.IsList b vs) (hi : IntsAre vs.toList ns) (few : ns.length + 1 < scanBound)
    (k : ∀ (h' : Heap) (tk c : Nat), SetR w h' S (fun j => decide (j ∈ ns)) c → c ≤ ns.length → (∀ x o, x ≠ S → s.heap.get? x = some o → h'.get? x = some o) → R (.ok (.ret .none)) { s with heap := h', toks := tk }) :
    codeAny (model P w) A (.call (.builtin "set.__init__") ⟨[.ref S, .ref b], []⟩) R s := by
  have tS : s.TypeIs (.ref S) "set" := ⟨_, eS, rfl⟩
  have size : vs.size = ns.length := (Array.length_toList (xs := vs)).symm.trans hi.length
  refine codeAny_call_builtin F.called_set.init.plain F.entry_set_init (check_set_init_1 tS ?_)
  have neS : b ≠ S := fun e => by
    obtain ⟨o, ho, hc, _⟩ := hL
    rw [e, eS] at ho
    cases ho
    injection hc with z
    exact absurd z (by decide)
  obtain ⟨⟨oc, od, ot, os⟩, ho, hc, nl, hd⟩ := hL
  cases hc
  cases hd
  have isL : s.heap.IsList b vs := ⟨_, ho, rfl, nl, rfl⟩
  have no1 := F.sub_list_set
  have no2 := F.sub_list_frozenset
  have no3 : (Value.type "list" == Value.type "dict") = false := by decide
  unfold Builtin.«set.__init__»
  unfold noKeywords
  unfold Builtin.Frozenset.updateFrom
  generalize it : pyIter = walk
  wp_walk
  subst it
  refine wpAny_pyIter_list isL (wpAny_bind (wpAny_runValue ?_))
  have old : S < s.heap.objs.size := Heap.lt_size eS
  have oldB : b < s.heap.objs.size := Heap.lt_size ho
  refine set_update_ints ((Walks.list (A := A.in1.in1) (by simp [hh]) s.heap.objs.size b (Nat.ne_of_lt oldB) vs).toS) S (fun z => ?_) ns size few (ints_val hi) (vs.size - 0) 0 _ rfl (Nat.zero_le _)
    ⟨⟨_, Heap.get?_push_size _ rfl, rfl, rfl⟩, isL.push _⟩ (eSet_at (Heap.get?_push_of_some _ eS)) fun ⟨h', g', d', t', o'⟩ c mv le new => ?_
  · rcases List.mem_cons.mp z with z | z
    · exact absurd z (Nat.ne_of_lt old)
    · exact neS (List.mem_singleton.mp z).symm
  · have q1 : g' = s.gens := mv.gens
    have q2 : d' = s.drawn := mv.drawn
    have q3 : o' = s.os := mv.os
    cases q1
    cases q2
    cases q3
    refine wpAny_pure ?_
    refine wpAny_pure ?_
    refine k h' t' c new (size ▸ le) fun x o nx e => mv.heap x o (fun z => ?_) (Heap.get?_push_of_some _ e)
    rcases List.mem_cons.mp z with z | z
    · exact nx z
    · exact absurd (List.mem_singleton.mp z) (Nat.ne_of_lt (Heap.lt_size e))
theorem set_of {b : Addr} {vs : Array Value} {ns : List Int} {Q : Value → Shared → Prop} (hh : A.handled = none) (hL : s.heap.IsList b vs) (hi : IntsAre vs.toList ns) (few : ns.length + 1 < scanBound)
    (k : ∀ (h' : Heap) (tk c : Nat), SetR w h' s.heap.objs.size (fun j => decide (j ∈ ns)) c → c ≤ ns.length → (∀ x o, s.heap.get? x = some o → h'.get? x = some o) → Q (.ref s.heap.objs.size) { s with heap := h', toks := tk }) :
    wpAny (model P w) A (call (.type "set") [.ref b]) Q E s := by
  have ⟨m0, m1, mro⟩ := F.called_set.mro
  have made := F.called_set.made
  have sub := F.called_set.sub
  have nt := F.called_set.notType
  have cc := F.called_set.canCreate
  have ct := F.typeCall_set_1 (.ref b)
  refine wpAny_call (codeAny_of_tree (wpAny_pure ⟨Code.quiet_builtin _ (by decide +kernel), codeAny_builtin F.entry_type_call ?_⟩))
  rw [Around.under_plain (weight_type_call_type _ _ _) rfl]
  repeat (any_goals (first | assumption | wp_step))
  refine codeAny_mono (code_set_led1 (.ref b) (E := E) (Q₁ := fun v z => v = .ref s.heap.objs.size ∧ z = { s with heap := s.heap.push (eSet w) }) ⟨rfl, rfl⟩) fun r z hr => ?_
  match r, hr with
  | .error e, hr => exact hr
  | .ok (.ret v), hr =>
    cases hr.1
    cases hr.2
    have eS : (s.heap.push (eSet w)).get? s.heap.objs.size = some (eSet w) := Heap.get?_push_size _ rfl
    have tS : Shared.TypeIs { s with heap := s.heap.push (eSet w) } (.ref s.heap.objs.size) "set" := ⟨_, eS, rfl⟩
    have lk := F.called_set.init.lookup
    have bd := F.called_set.init.bind (.ref s.heap.objs.size)
    repeat (any_goals (first | assumption | wp_step))
    refine codeAny_mono (fill_of (R := wants (fun v z => v = .none ∧ Q (.ref s.heap.objs.size) z) E) (by simp [hh]) eS (hL.push _) hi few fun h' tk c new le kp => ⟨rfl, k h' tk c new le fun x o e => kp x o (Nat.ne_of_lt (Heap.lt_size e)) (Heap.get?_push_of_some _ e)⟩) fun r z hr => ?_
    match r, hr with
    | .error e, hr => exact hr
    | .ok (.ret v), hr =>
      obtain ⟨rfl, q⟩ := hr
      repeat (any_goals (first | assumption | wp_step))
end
def insU (k : Int) : List Int → List Int
  | [] => [k]
  | x :: r => if k < x then k :: x :: r else if k = x then x :: r else x :: insU k r
def sortU : List Int → List Int
  | [] => []
  | k :: r => insU k (sortU r)
def rSetL (K : PySem.W.Frag) (w : World) : List V → Hp → VK → Prop := fun vs H Q => ∃ (b : Addr) (ns : List Int), vs = [.ref b] ∧ SqL K H b (ns.map V.int) ∧ ns.length ≤ 1000 ∧
  ∀ (p : Addr) (c : Nat), c ≤ ns.length → H p = none → Q (.ref p) (upd H p (SetO w p (fun j => decide (j ∈ ns)) c))
def intsOfD : List D → Option (List Int)
  | [] => some []
  | .int k :: r => (intsOfD r).map (k :: ·)
  | _ :: _ => none
def gSortSet (x : D) (st : Store) : Option (List Int) := (litemsOf x st).bind fun ds => (intsOfD ds).bind fun ks => if ks.length < 64 then some (sortU ks) else none
def dSortSet (m : DE) : DE := fun ρ st => (m ρ st).bind fun x s1 => match gSortSet x s1 with
  | some ks => .ok (.lst (ks.map D.int)) s1
  | none => .bad
section
variable {C : Ctx} {e : Expr} {m : DE} {x y : Str} {p q pos pos2 : Pos}
end
end Den
set_option maxRecDepth 100000
set_option maxHeartbeats 4000000
namespace Den
open PySem PySem.Spec PyProof.Rows L2
section
variable {C : Ctx}
def dBad : DE := fun _ _ => .bad
theorem pd_bad {e : Expr} : PD C e dBad := ⟨fun _ _ _ _ _ _ ⟨_, _, _, _, _, p⟩ => p.elim⟩
def sBad : DS := fun _ _ => .bad
def dFrzA (a : DE) : DE := fun ρ st => (a ρ st).bind fun d s1 => match d with
  | .box k => frzAt k s1
  | .lst xs => .ok (.lst xs) s1
  | _ => .bad
end
structure DefK (P : Program) (w : World) (T : Txt) (mg : Str → Option Value) (base : Heap) (k i : Nat) (x : Str) (ps : List Str) (m : DF) (ways : List (Nat × List Str × (List D → List D → List D))) : Prop where
  ex : ∃ fd, FnG P w T.K mg base k (T.fa i) fd ps (spM T ps.length m) ∧ ∀ z ∈ ways, Bd T fd ps z.1 z.2.1 z.2.2
  g : mg x = some (.ref (T.fa i))
  kp : PySem.W.keepIn T.K (.ref (T.fa i)) = true
section
variable {C : Ctx} {k i n : Nat} {x : Str} {ps ks : List Str} {m : DF} {p pos : Pos} {e : Expr} {es : List Expr} {kws : List Keyword} {ma mk : DA} {ways : List (Nat × List Str × (List D → List D → List D))} {gD : List D → List D → List D}
end
section
variable {P : Program} {w : World} {mg : Str → Option Value} {base : Heap} {T : Txt}
structure LkD (T : Txt) (i : Nat) (x qual : Str) (st : Stmt) (dvs : List V) : Prop where
  ex : ∃ fd, FunD T.K x qual (defArgs st) (defBody st) (defScope st) dvs [] (T.fa i) fd
def noF : DF := fun _ _ => .bad
end
section
variable {P : Program} {w : World} {A : Around} {E : Value → Shared → Prop} {s : Shared} {Q : Value → Shared → Prop}
theorem top_dict {a : Addr} {o : Obj} {n : Nat} {es : Array DictEntry} {ks : List Key} {ps : List PyData} (ho : s.heap.get? a = some o) (hc : o.cls = .type "dict") (hd : o.data = .dict es n) (na : (a == sysModules) = false) (hl : ks.length = ps.length)
    (hk : ReadsAll s.heap (es.toList.map (·.key)) (ks.map keyD) []) (k : KnL P w s.heap (es.toList.map (·.val)) ps) (hs : PyData.showableAll (ks.map keyD) = true) (hy : ∀ t ∈ PyData.shownAll (ks.map keyD), t.length ≤ sizeLine)
    (hg : A.guards = some []) (hu : A.units + ((PyData.dict ((ks.map keyD).zip ps)).depth + 1) < cLine) (hz : (PyData.dict ((ks.map keyD).zip ps)).shown.length ≤ sizeLine)
    (hQ : ∀ h' u tk, (∀ b o, s.heap.get? b = some o → h'.get? b = some o) → Q (.str (PyData.dict ((ks.map keyD).zip ps)).shown u) { s with heap := h', toks := tk }) : wpAny (model P w) A (call (.builtin "repr") [.ref a]) Q E s := by
  obtain ⟨⟨as, q⟩, bs, hb, kk⟩ := k
  obtain ⟨cs, hb2, k2⟩ := ReprAllK.of_readsAll (prog := P) (w := w) hk hs (fun e => by rw [(keys_low ks).1] at e; cases e) hy
  have lp : (ks.map keyD).length = ps.length := (List.length_map ..).trans hl
  have f1 : ((ks.map keyD).zip ps).map (·.1) = ks.map keyD := List.map_fst_zip (Nat.le_of_eq lp)
  have f2 : ((ks.map keyD).zip ps).map (·.2) = ps := List.map_snd_zip (Nat.le_of_eq lp.symm)
  have r : Reads s.heap (.ref a) (.dict ((ks.map keyD).zip ps)) _ := .dict ho hc hd (f1.symm ▸ hk) (f2.symm ▸ q)
  have dk := PyData.depthAll_keys_le ((ks.map keyD).zip ps)
  have dv := PyData.depthAll_vals_le ((ks.map keyD).zip ps)
  rw [f1] at dk
  rw [f2] at dv
  have out := not_mem_of_deeper r (by simp only [PyData.depth]; omega) ((hb2.mono dk).append (hb.mono dv))
  have ent := ReprEntriesK.of_two _ _ _ (k2.more_le (fun _ z => List.mem_append_left bs z) dk) (kk.more_le (fun _ z => List.mem_append_right cs z) dv)
  simp only [PyData.depth] at hu
  simp only [PyData.shown, PyData.shownKv_eq, f1, f2] at hz hQ
  exact call_repr_slot (by omega) ⟨o, ho, hc⟩ F.slot_dict_repr (call_dict_reprK ho hc hd na out ent hg (fun b _ => Clear.nil b) (by show A.units + 1 + _ < cLine; omega) (fun _ _ e => e) (fun h' u tk hk => ⟨_, _, rfl, hQ h' u tk hk⟩) hz)
end
def gReprK (x : D) (_ : Store) : Option D := if isDic x = true then (match toPyR x with
  | some p => if p.showable = true ∧ p.depth ≤ 60 ∧ p.shown.length ≤ 1000000 then some (.str p.shown) else none
  | none => none) else none
def rReprK (C : Ctx) : List V → Hp → VK → Prop := fun xs H Q => ∃ ι st v x p, xs = [v] ∧ RelSt C.T C.xp ι st H ∧ Rep C.T C.xp (hide ι st H) ι v x ∧ toPyR x = some p ∧ isDic x = true ∧ p.showable = true ∧ p.depth ≤ 60 ∧ p.shown.length ≤ 1000000 ∧ Q (.str p.shown) H
theorem call_reprK {C : Ctx} (hg : C.X.A.guards = some []) (hu : C.X.A.units + 64 < cLine) : CallR C.X (.builtin "repr") (rReprK C) := by
  intro pins s σ H xs us Q I r h
  obtain ⟨ι, st, v, x, p, rfl, rl, rv, hp, h0, h1, h2, h3, q⟩ := h
  obtain ⟨u, rfl, ru⟩ := vals1 r
  have sd : shortD p := ⟨h1, Nat.le_trans h3 (by decide)⟩
  cases rv with
  | dic g1 hl rr =>
    rename_i ks xs ds
    cases ru
    simp only [toPyR] at hp
    split at hp
    · obtain ⟨ps, e2, rfl⟩ := Option.map_eq_some_iff.mp hp
      obtain ⟨_, _, hns, vs, kv, o, es, ep, ho, ex, hd, hk, hp2, _⟩ := I.hok _ _ (hide_le _ _ _ _ _ g1)
      obtain ⟨hv, hkeys⟩ := dict_parts (h := s.heap) hl kv hp2
      have lp : ks.length = ps.length := by
        rw [toPyRL_len e2, ← rr.length]
        exact hl
      have lq : (ks.map keyD).length = ps.length := by rw [List.length_map]; exact lp
      obtain ⟨s1, s2⟩ := short_dict sd
      rw [List.map_fst_zip (Nat.le_of_eq lq)] at s1
      rw [List.map_snd_zip (Nat.le_of_eq lq.symm)] at s2
      exact top_dict ho ex.1 hd hns lp hkeys (kn_ofL I (hide_le _ _ _) rr e2 hv s2) s1.1 s1.2 hg (by omega) sd.2 fun h' u tk hk => ⟨.str _, H, I.kept (t' := tk) hk, ⟨_, rfl⟩, q⟩
    · cases hp
  | _ => cases h0
theorem blt_reprK {C : Ctx} (hg : C.X.A.guards = some []) (hu : C.X.A.units + 64 < cLine) : BltD C "repr" (one gReprK) := ⟨_, call_reprK hg hu, fun ι st H xs ds d st' Q rl rx e k => by
  obtain ⟨x, rfl, hgr, rfl⟩ := one_some e
  obtain ⟨v, rfl, rv⟩ := repL_one rx
  unfold gReprK at hgr
  split at hgr
  · rename_i h0
    split at hgr
    · rename_i p hp
      split at hgr
      · rename_i hc
        cases hgr
        exact ⟨ι, _, v, x, p, rfl, rl, rv, hp, h0, hc.1, hc.2.1, hc.2.2, k _ ι H (Step.refl _ _ _) rl (.str _)⟩
      · cases hgr
    · cases hgr
  · cases hgr⟩
theorem blt_reprA {C : Ctx} (hg : C.X.A.guards = some []) (hu : C.X.A.units + 64 < cLine) : BltD C "repr" (orB (one gRepr) (one gReprK)) := BltD.or (blt_repr hg hu) (blt_reprK hg hu)
end Den
set_option maxRecDepth 100000
set_option maxHeartbeats 4000000
namespace Den
open PySem PySem.Spec
section
open PySem.Builtin PySem.Builtin.ObjectAttr
variable {M : Model} {prog : Program} {w : World} {A : Around} {E : Value → Shared → Prop} {R : Result → Shared → Prop} {hp : Heap} {gs : Array GenState} {dr : Drawn} {tk : Nat} {os : OsState}
variable {nm qn : Str} {C N fI : Addr} {bs bm bmB sub us : List Value} {hdct ab : Bool} {sn : List Str} {col : Option Bool} {dd : Option Addr} {k0 k1 k2 k3 k5 : Option Value} {B nid iid : String} {kw : List (Str × Value)}
abbrev kin (bm bmB : List Value) : Prop := ∀ Y : String, bm.contains (.type Y) = bmB.contains (.type Y)
theorem new_check (FB : ExcBaseFacts B nid iid bmB) (hT : kin bm bmB) {Q : Unit → Shared → Prop} (hc : hp.get? C = some (excClassObj nm qn C N bs bm hdct sn sub ab col dd k0 k1 k2 k3 k5 nid)) (q : Q () ⟨hp, gs, dr, tk, os⟩) :
    wpAny M A (checkBuiltinCall nid ⟨.ref C :: us, kw⟩) Q E ⟨hp, gs, dr, tk, os⟩ := by
  have c1 : (Value.ref C :: bm).contains (.type B) = true := by rw [List.contains_cons, hT, FB.hasB, Bool.or_true]
  have c2 := FB.noStar
  simp only [checkBuiltinCall, FB.newKind, FB.newSplit, FB.newRow]
  repeat (first
    | refine wpAny_loadPart_at hc ?_
    | (refine wpAny_isSubtype_exc hc ?_; rw [c1])
    | refine wpAny_staticBase_exc hc ?_
    | refine wpAny_madeBy_exc hc ?_
    | simp only [bne_self_eq_false, Bool.false_eq_true, if_false]
    | wp_step)
  exact q
theorem new_made (FB : ExcBaseFacts B nid iid bmB) (hT : kin bm bmB) (hc : hp.get? C = some (excClassObj nm qn C N bs bm hdct sn sub ab col dd k0 k1 k2 k3 k5 nid)) (hz : us.length ≤ sizeLine)
    (q : R (.ok (.ret (.ref (hp.objs.size + 1)))) ⟨(hp.push (PySem.W.kdv_tup us)).push (HandSPX.excO C hp.objs.size), gs, dr, tk, os⟩) : codeAny (model prog w) A (.builtin nid ⟨.ref C :: us, kw⟩) R ⟨hp, gs, dr, tk, os⟩ := by
  have e0 := FB.ends
  have c1 : (Value.ref C :: bm).contains (.type B) = true := by rw [List.contains_cons, hT, FB.hasB, Bool.or_true]
  have c2 : (Value.ref C :: bm).contains (.type "AttributeError") = false := by rw [List.contains_cons, hT, FB.noAttr]; rfl
  have c3 : (Value.ref C :: bm).contains (.type "NameError") = false := by rw [List.contains_cons, hT, FB.noName]; rfl
  refine codeAny_builtinAt FB.entry ?_
  unfold Builtin.«BaseException.__new__»
  refine wpAt_bind ?_
  show wpAt _ _ _ (stack >>= _) _ _ _
  refine wpAt_bind (wpAt_stack fun p0 b0 => wpAt_of_wpAny ?_)
  wp_walk
  refine wpAt_of_wpAny ?_
  rw [FB.owner]
  repeat (first
    | with_reducible refine wpAny_madeHere_exc FB.canon hc ?_
    | with_reducible refine wpAny_loadPart_at hc ?_
    | (with_reducible refine wpAny_isSubtype_exc hc ?_; first | rw [c1] | rw [c2] | rw [c3])
    | wp_step)
  show R _ _
  rw [Heap.size_push]
  exact q
theorem type_called (FB : ExcBaseFacts B nid iid bmB) (hT : kin bm bmB) {Q : Fin → Shared → Prop} (hc : hp.get? C = some (excClassObj nm qn C N bs bm hdct sn sub ab col dd k0 k1 k2 k3 k5 nid))
    (hi : PySem.W.Looks (model prog w) hp (typeLookup (.ref C) "__init__") (some (.ref fI))) (hb : ∀ self, PySem.W.Looks (model prog w) hp (bindSpecial (.ref fI) self) (.ref fI, [self])) (hz : us.length ≤ sizeLine)
    (q : codeAny (model prog w) A (.call (.ref fI) ⟨.ref (hp.objs.size + 1) :: us, kw⟩)
      (fun r s' => match r with
        | .ok (.ret v) => v = .none ∧ Q (.done (.ret (.ref (hp.objs.size + 1)))) s'
        | .ok _ => False
        | .error e => E e s') ⟨(hp.push (PySem.W.kdv_tup us)).push (HandSPX.excO C hp.objs.size), gs, dr, tk, os⟩) :
    wpAny (model prog w) A (Builtin.«type.__call__» ⟨.ref C :: us, kw⟩) Q E ⟨hp, gs, dr, tk, os⟩ := by
  repeat (first
    | with_reducible refine wpAny_loadPart_at hc ?_
    | with_reducible refine wpAny_madeBy_exc hc ?_
    | wp_step)
  refine codeAny_call_builtin_code (Code.quiet_builtin _ FB.quiet) (new_check FB hT hc ?_)
  refine new_made FB hT hc hz ?_
  show wpAny _ _ _ _ _ _
  have k : ∀ (b : Addr) (o : Obj), hp.get? b = some o → ((hp.push (PySem.W.kdv_tup us)).push (HandSPX.excO C hp.objs.size)).get? b = some o := fun b o e => Heap.get?_push_of_some _ (Heap.get?_push_of_some _ e)
  have hc1 := k _ _ hc
  have hg : ((hp.push (PySem.W.kdv_tup us)).push (HandSPX.excO C hp.objs.size)).get? (hp.objs.size + 1) = some (HandSPX.excO C hp.objs.size) := by heap_get
  have cc : (Value.ref C :: bm).contains (.ref C) = true := by simp
  have i1 := hi.keeps k
  have b1 := (hb (.ref (hp.objs.size + 1))).keeps k
  unfold isInstance
  repeat (first
    | with_reducible refine wpAny_loadPart_at hg ?_
    | (with_reducible refine wpAny_isSubtype_exc hc1 ?_; rw [cc])
    | wp_step)
  show wpAny _ _ (typeLookup (.ref C) _) _ _ _
  refine i1.at ?_
  refine wpAny_holding (wpAny_bind (b1.at ?_))
  refine wpAny_bind (wpAny_call (codeAny_mono q fun r s' z => ?_))
  rcases r with e | (v | _ | _ | _) <;> first
    | exact z
    | exact z.elim
    | skip
  obtain ⟨rfl, z⟩ := z
  first
    | exact wpAny_pure (wpAny_pure z)
    | (wp_walk; exact z)
theorem class_called (FB : ExcBaseFacts B nid iid bmB) (hT : kin bm bmB) (hc : hp.get? C = some (excClassObj nm qn C N bs bm hdct sn sub ab col dd k0 k1 k2 k3 k5 nid))
    (hi : PySem.W.Looks (model prog w) hp (typeLookup (.ref C) "__init__") (some (.ref fI))) (hb : ∀ self, PySem.W.Looks (model prog w) hp (bindSpecial (.ref fI) self) (.ref fI, [self])) (hz : us.length ≤ sizeLine)
    (q : codeAny (model prog w) (A.under (.builtin "type.__call__" ⟨.ref C :: us, kw⟩)) (.call (.ref fI) ⟨.ref (hp.objs.size + 1) :: us, kw⟩) (PySem.W.InitBack (hp.objs.size + 1) R)
      ⟨(hp.push (PySem.W.kdv_tup us)).push (HandSPX.excO C hp.objs.size), gs, dr, tk, os⟩) : codeAny (model prog w) A (.call (.ref C) ⟨us, kw⟩) R ⟨hp, gs, dr, tk, os⟩ := by
  have t1 := tc_lookup
  have t2 := tc_bind (.ref C)
  have hty : (⟨hp, gs, dr, tk, os⟩ : Shared).TypeIs (.ref C) "type" := ⟨_, hc, rfl⟩
  refine codeAny_of_tree ?_
  show wpAny _ _ (callAny (.ref C) _) _ _ _
  repeat (any_goals (first
    | assumption
    | with_reducible refine wpAny_loadPart_at hc ?_
    | wp_step))
  refine ⟨rfl, ?_⟩
  have ty : PySem.W.Looks (model prog w) hp (isInstance (.ref C) (.type "type")) true := by
    have a1 : PySem.W.Looks (model prog w) hp (typeOf (.ref C)) (.type "type") := (PySem.W.Looks.ld hc).andThen .now
    exact a1.andThen (PySem.W.Looks.of_pure tc_sub)
  refine codeAny_call_builtin_at (Code.quiet_builtin _ (by decide +kernel)) entry_typeCall (PySem.W.check_slot tc_kind tc_split ty (PySem.W.tc_args _ _ _) (type_called FB hT hc hi hb hz ?_))
  refine codeAny_mono q fun r s' z => ?_
  rcases r with e | (v | _ | _ | _) <;> exact z
end
end Den
set_option maxRecDepth 100000
set_option maxHeartbeats 4000000
namespace Den
open PySem PySem.Spec PyProof.Rows L2
structure ErrK (K : PySem.W.Frag) (C : Addr) (bmB : List Value) (nid : String) : Prop where
  q : PySem.W.excInitIn K C bmB nid = true
  ov : PySem.W.excOver K C bmB = true
  hd : PySem.W.hasDictIn K C = true
  sa : PySem.W.findIn K (.ref C) "__setattr__" = some (some (.builtin "object.__setattr__"))
  kp : PySem.W.keepIn K (.ref C) = true
section
open PySem.Builtin PySem.Builtin.ObjectAttr
variable {prog : Program} {w : World} {A : Around} {R : Result → Shared → Prop} {hp : Heap} {gs : Array GenState} {dr : Drawn} {tk : Nat} {os : OsState} {K : PySem.W.Frag} {C x dx : Addr} {bmB : List Value} {nid B : String} {f : Str} {t0 : Tok} {u : Value} {fv : Array Value}
theorem taker_no (no : PySem.W.findIn K (.ref C) f = some none) : PySem.W.takerIn K C f = some none := by
  unfold PySem.W.takerIn
  rw [no]
  rfl
theorem osa_first (SF : StoreFacts B bmB "object.__setattr__" "object") (T : ErrK K C bmB nid) (no : PySem.W.findIn K (.ref C) f = some none) (kin : K.In hp) (hx : hp.get? x = some { cls := .ref C, data := .fields fv })
    (q : ∀ h2 t2 d, (∀ (b : Addr) (o : Obj), b ≠ x → hp.get? b = some o → h2.get? b = some o) → hp.objs.size ≤ d → d ≠ x → h2.get? x = some { cls := .ref C, dict := some d, data := .fields fv } → h2.Ns1 d (fun y => if y = f then some u else none) →
      R (.ok (.ret .none)) ⟨h2, gs, dr, t2, os⟩) : codeAny (model prog w) A (.call (.builtin "object.__setattr__") ⟨[.ref x, .str f t0, u], []⟩) R ⟨hp, gs, dr, tk, os⟩ := by
  have nx : x ≠ hp.objs.size := Nat.ne_of_lt (Heap.lt_size hx)
  refine PySem.W.osa_openX (s := ⟨hp, gs, dr, tk, os⟩) (ox := { cls := .ref C, data := .fields fv }) (od := none) SF kin ⟨hx, rfl, rfl, trivial⟩ T.ov (taker_no no) fun b => ?_
  obtain ⟨cd, hcd, hd'⟩ := PySem.W.any_some T.hd
  have lc : PySem.W.Looks (model prog w) hp (classData C) cd := PySem.W.looks_clsIn kin hcd
  obtain ⟨n0, bs, mro, ns, qn, hd, sn, sb, ab, col, del⟩ := cd
  dsimp only at hd'
  subst hd'
  dsimp only
  unfold storeInOwnDict ownDictForStores
  repeat (first
    | with_reducible refine HandSPX.store_in_new ?_ ?_
    | with_reducible refine wpAny_loadPart_at hx ?_
    | with_reducible refine lc.at ?_
    | wp_step)
  · exact ⟨_, #[], _, (Heap.get?_update_ne _ _ _ _ nx.symm).trans (Heap.get?_push_at rfl rfl), rfl, fun e he => absurd he (by simp), fun _ => rfl⟩
  · intro h2 t2 n2 sm
    have hx1 : (hp.push { cls := .type "dict", data := .dict #[] }).get? x = some { cls := .ref C, data := .fields fv } := Heap.get?_push_of_some _ hx
    refine q h2 t2 hp.objs.size (fun b o nb ho => ?_) (Nat.le_refl _) nx.symm ?_ n2
    · exact (sm.2 b (Nat.ne_of_lt (Heap.lt_size ho))).trans ((Heap.get?_update_ne _ _ _ _ nb).trans (Heap.get?_push_of_some _ ho))
    · exact (sm.2 x nx).trans (Heap.get?_update_self _ hx1 rfl)
theorem osa_next {m0 : Str → Option Value} {nl : List Str} (SF : StoreFacts B bmB "object.__setattr__" "object") (T : ErrK K C bmB nid) (no : PySem.W.findIn K (.ref C) f = some none) (kin : K.In hp) (hx : hp.get? x = some { cls := .ref C, dict := some dx, data := .fields fv })
    (hn : hp.Ns1 dx m0) (hw : Within m0 nl) (hz : nl.length ≤ 1000)
    (q : ∀ h2 t2, (∀ (b : Addr) (o : Obj), b ≠ dx → hp.get? b = some o → h2.get? b = some o) → h2.Ns1 dx (fun y => if y = f then some u else m0 y) → R (.ok (.ret .none)) ⟨h2, gs, dr, t2, os⟩) :
    codeAny (model prog w) A (.call (.builtin "object.__setattr__") ⟨[.ref x, .str f t0, u], []⟩) R ⟨hp, gs, dr, tk, os⟩ := by
  obtain ⟨oD, _, _, hoD, _, _⟩ := hn.count hw
  refine PySem.W.osa_openX (s := ⟨hp, gs, dr, tk, os⟩) (ox := { cls := .ref C, dict := some dx, data := .fields fv }) (od := some oD) SF kin ⟨hx, rfl, rfl, hoD⟩ T.ov (taker_no no) fun b => ?_
  obtain ⟨cd, hcd, hd'⟩ := PySem.W.any_some T.hd
  have lc : PySem.W.Looks (model prog w) hp (classData C) cd := PySem.W.looks_clsIn kin hcd
  obtain ⟨n0, bs, mro, ns, qn, hd, sn, sb, ab, col, del⟩ := cd
  dsimp only at hd'
  subst hd'
  dsimp only
  unfold storeInOwnDict ownDictForStores
  repeat (first
    | with_reducible refine PySem.OEX.store_in_old hn hw hz ?_
    | with_reducible refine wpAny_loadPart_at hx ?_
    | with_reducible refine lc.at ?_
    | wp_step)
  intro h2 t2 n2 sm
  exact q h2 t2 (fun b o nb ho => (sm.2 b nb).trans ho) n2
end
section
variable {X : Cx} {pins : List (Addr × Obj)} {σ : L2.St} {H : Hp} {s : Shared} {a C dx : Addr} {f : Str} {y : V} {u : Value} {fs : List (Str × V)} {Q : Unit → Shared → Prop} {E : Value → Shared → Prop} {A : Around} {bmB : List Value} {nid B : String}
theorem put_first (SF : StoreFacts B bmB "object.__setattr__" "object") (T : ErrK X.K C bmB nid) (I : Inv X pins σ H s) (e : H a = some (exo a C none)) (no : PySem.W.findIn X.K (.ref C) f = some none) (ry : RelV y u)
    (h : ∀ d s2, H d = none → d ≠ a → Inv X pins σ (upd (upd H d (exd d [(f, y)])) a (exo a C (some d))) s2 → Q () s2) : wpAny (model X.prog X.w) A (setAttr (.ref a) f u) Q E s := by
  obtain ⟨t1, ho⟩ := exo_at I.hok e
  obtain ⟨hp, g, d, t, os⟩ := s
  refine PySem.W.set_plain I.kIn (ox := HandSPX.excO C t1) (od := none) ⟨ho, rfl, rfl, trivial⟩ T.sa ?_
  refine osa_first SF T no I.kIn ho fun h2 t2 d2 kp dn dne hx hn => ?_
  have hd0 : H d2 = none := I.hok.fresh dn
  have old : ∀ {b : Addr} {o : Obj}, hp.get? b = some o → b ≠ d2 := fun {b o} z => Nat.ne_of_lt (Nat.lt_of_lt_of_le (Heap.lt_size z) dn)
  have off : ∀ {b : Addr}, H b = none → b ≠ a := fun {b} n z => by
    rw [z, e] at n
    cases n
  have look : ∀ {b : Addr} {o : HO}, H b = some o → b ≠ a → upd (upd H d2 (exd d2 [(f, y)])) a (exo a C (some d2)) b = some o := fun {b o} z nb => by
    rw [upd_ne nb, upd_ne (ne_of_none z hd0)]
    exact z
  have un : Un X.fs [] H (upd (upd H d2 (exd d2 [(f, y)])) a (exo a C (some d2))) hp h2 := {
    keep := fun b o z n _ _ => kp b o (off n) z
    slot := fun b o z n _ _ => ⟨o.slots, kp b o (off n) z⟩
    free := fun b o z n _ => by
      rw [upd_ne (off n), upd_ne (old z)]
      exact n
    there := fun b o z _ => by
      by_cases hb : b = a
      · subst hb
        exact ⟨_, hx⟩
      · exact ⟨o, kp b o hb z⟩
    tups := fun b xs z => look z (at_ne e z exo_tup)
    frzs := fun b o v z => look z (at_ne e z exo_frz)
    tbls := fun b ps z => ⟨#[], by
      rw [look z (at_ne e z exo_tbl)]
      simp⟩ }
  refine h d2 _ hd0 dne (I.un (t' := t2) un fun b o z => ?_)
  by_cases hb : b = a
  · subst hb
    rw [upd_same] at z
    cases z
    exact exo_ok hx
  · rw [upd_ne hb] at z
    by_cases hd : b = d2
    · subst hd
      rw [upd_same] at z
      cases z
      exact exd_ok hn (relO_put (fs := []) ry fun g => True.intro)
    · rw [upd_ne hd] at z
      refine (I.hok b o z).stay (fun c v hc k => kp c v ?_ k) (fun c hc => look hc (at_ne e hc exo_own)) fun c xs hc => look hc (at_ne e hc exo_tup)
      rcases hc with hc | hc
      · rw [hc]
        exact hb
      · exact at_ne e hc exo_own
theorem put_next (SF : StoreFacts B bmB "object.__setattr__" "object") (T : ErrK X.K C bmB nid) (I : Inv X pins σ H s) (e : H a = some (exo a C (some dx))) (ed : H dx = some (exd dx fs)) (few : fs.length ≤ 900) (no : PySem.W.findIn X.K (.ref C) f = some none) (ry : RelV y u)
    (h : ∀ s2, Inv X pins σ (upd H dx (exd dx ((f, y) :: fs))) s2 → Q () s2) : wpAny (model X.prog X.w) A (setAttr (.ref a) f u) Q E s := by
  obtain ⟨t1, ho⟩ := exo_at I.hok e
  obtain ⟨mA, hn, rel⟩ := exd_at I.hok ed
  have hw := within_of rel
  obtain ⟨hp, g, d, t, os⟩ := s
  obtain ⟨oD, _, _, hoD, _, _⟩ := hn.count hw
  refine PySem.W.set_plain I.kIn (ox := { cls := .ref C, dict := some dx, data := .fields #[.ref t1, .none, .none, .none, .bool false, .none] }) (od := some oD) ⟨ho, rfl, rfl, hoD⟩ T.sa ?_
  refine osa_next SF T no I.kIn ho hn hw (by rw [List.length_map]; omega) fun h2 t2 kp n2 => ?_
  have there : ∃ o, h2.get? dx = some o := by
    obtain ⟨o, _, _, e', _⟩ := n2
    exact ⟨o, e'⟩
  refine h _ (I.write (t' := t2) (x := dx) (e := dx) (o := exd dx ((f, y) :: fs)) ?_ (.inl rfl) kp there (exd_ok n2 (relO_put ry rel)))
  rw [ed]
  exact True.intro
end
def PutC (K : PySem.W.Frag) (C : Addr) (f : Str) : Prop := ∃ B bmB nid, StoreFacts B bmB "object.__setattr__" "object" ∧ ErrK K C bmB nid ∧ PySem.W.findIn K (.ref C) f = some none
def tPut (K : PySem.W.Frag) (f : Str) (to te : TE) : TS := fun D σ H => te σ H fun y H1 => to σ H1 fun x H2 => ∃ a C : Addr, x = .ref a ∧ PutC K C f ∧
  ((H2 a = some (exo a C none) ∧ ∀ d, H2 d = none → d ≠ a → D.nx σ (upd (upd H2 d (exd d [(f, y)])) a (exo a C (some d)))) ∨
    ∃ (d : Addr) (fs : List (Str × V)), H2 a = some (exo a C (some d)) ∧ H2 d = some (exd d fs) ∧ fs.length ≤ 900 ∧ D.nx σ (upd H2 d (exd d ((f, y) :: fs))))
theorem ps_put {X : Cx} {o e : Expr} {to te : TE} {f : Str} {p' pos : Pos} (ho : PE X o to) (he : PE X e te) (hs : swapsWith e (some (.Attribute o f p')) pos.line X.env = pure false := by rfl) : PS X (.Assign [.Attribute o f p'] e pos) (tPut X.K f to te) := by
  refine ⟨fun pins s σ H D I h => ?_⟩
  refine plainObj_wpAny_Assign_Attribute (thn (he.run pins s σ H _ I h) fun v s1 ⟨y, H1, I1, r1, q1⟩ => thn (ho.run pins s1 σ H1 _ I1 q1) fun u s2 ⟨x, H2, I2, r2, a, C, ex, hp, q⟩ => ?_) hs
  subst ex
  obtain rfl : u = Value.ref a := r2
  obtain ⟨B, bmB, nid, SF, T, no⟩ := hp
  rcases q with ⟨ea, q⟩ | ⟨d, fs, ea, ed, few, q⟩
  · exact put_first SF T I2 ea no r1 fun d s' n ne J => ⟨σ, _, J, q d n ne⟩
  · exact put_next SF T I2 ea ed few no r1 fun s' J => ⟨σ, _, J, q⟩
def tFill (σ0 : L2.St) (a C : Addr) (l : List (Str × V)) : TS := fun D σ H => σ = σ0 ∧
  ((H a = some (exo a C none) ∧ l ≠ [] ∧ l.length ≤ 900 ∧ ∀ d, H d = none → d ≠ a → D.nx σ0 (upd (upd H a (exo a C (some d))) d (exd d l.reverse))) ∨
    ∃ (d : Addr) (fs : List (Str × V)), d ≠ a ∧ H a = some (exo a C (some d)) ∧ H d = some (exd d fs) ∧ fs.length + l.length ≤ 900 ∧ D.nx σ0 (upd H d (exd d (l.reverse ++ fs))))
theorem upd_at {H : Hp} {d : Addr} {o : HO} (h : H d = some o) : upd H d o = H := by
  funext b
  by_cases e : b = d
  · rw [e, upd_same, h]
  · rw [upd_ne e]
theorem upd_swap {H : Hp} {a b : Addr} {o u : HO} (n : a ≠ b) : upd (upd H a o) b u = upd (upd H b u) a o := by
  funext c
  by_cases e : c = b
  · subst e
    rw [upd_same, upd_ne (Ne.symm n), upd_same]
  · rw [upd_ne e]
    by_cases e2 : c = a
    · subst e2
      rw [upd_same, upd_same]
    · rw [upd_ne e2, upd_ne e2, upd_ne e]
section
variable {X : Cx} {σ0 : L2.St} {a C : Addr} {l : List (Str × V)}
theorem pss_fill0 : PSs X [] (tFill σ0 a C []) := PSs.imp pss_nil fun D σ H ⟨e, q⟩ => by
  subst e
  rcases q with ⟨_, n, _, _⟩ | ⟨d, fs, _, ea, ed, _, q⟩
  · exact absurd rfl n
  · rw [show ([] : List (Str × V)).reverse ++ fs = fs from rfl, upd_at ed] at q
    exact q
theorem pss_fill {f x z : Str} {y : V} {i : Nat} {rest : List Stmt} {p1 p2 p3 pos : Pos} (hp : PutC X.K C f) (hs : X.N[0]? = some z) (hv : Vis X.env.scope z) (hx : X.N[i]? = some x) (hw : Vis X.env.scope x) (h0 : σ0[0]? = some (some (.ref a))) (hi : σ0[i]? = some (some y)) (hr : PSs X rest (tFill σ0 a C l))
    (hd : (z == ("__debug__" : Str)) = false := by decide) (hcd : (z == ("__classdict__" : Str)) = false := by decide) (hd' : (x == ("__debug__" : Str)) = false := by decide) (hcd' : (x == ("__classdict__" : Str)) = false := by decide)
    (hsw : swapsWith (.Name x p2) (some (.Attribute (.Name z p1) f p3)) pos.line X.env = pure false := by rfl) :
    PSs X (.Assign [.Attribute (.Name z p1) f p3] (.Name x p2) pos :: rest) (tFill σ0 a C ((f, y) :: l)) := by
  refine PSs.imp (pss_cons (ps_put (pe_var hs hv hd hcd) (pe_var hx hw hd' hcd') hsw) hr) fun D σ H ⟨e, q⟩ => ?_
  subst e
  refine ⟨y, hi, .ref a, h0, a, C, rfl, hp, ?_⟩
  rcases q with ⟨ea, _, few, q⟩ | ⟨d, fs, nd, ea, ed, few, q⟩
  · refine .inl ⟨ea, fun d hd n => ⟨rfl, .inr ⟨d, [(f, y)], n, upd_same, (upd_ne n).trans upd_same, ?_, ?_⟩⟩⟩
    · simp only [List.length_cons, List.length_nil] at few ⊢
      omega
    · have := q d hd n
      rw [List.reverse_cons] at this
      rw [upd_swap n, upd_two]
      exact this
  · refine .inr ⟨d, fs, ea, ed, by simp only [List.length_cons] at few; omega, rfl, .inr ⟨d, (f, y) :: fs, nd, (upd_ne (Ne.symm nd)).trans ea, upd_same, by simp only [List.length_cons] at few ⊢; omega, ?_⟩⟩
    rw [List.reverse_cons, List.append_assoc] at q
    rw [upd_two]
    exact q
end
end Den
set_option maxRecDepth 100000
set_option maxHeartbeats 4000000
namespace Den
open PySem PySem.Spec PyProof.Rows L2
def spErr (T : Txt) (c : Nat) : Sp := fun vs H Q _ => ∃ (a : Addr) (ws : List V), vs = .ref a :: ws ∧ ws.length = (T.fl c).length ∧ H a = some (exo a (T.ca c) none) ∧ ∀ d, H d = none → d ≠ a → Q .non (upd (upd H a (exo a (T.ca c) (some d))) d (exd d ((T.fl c).zip ws).reverse))
theorem init_fill {P : Program} {w : World} {mg : Str → Option Value} {base : Heap} {T : Txt} {qual : Str} {params : Arguments} {bd : List Stmt} {scope : Scope} {dvs : List V} {f : Addr} {fd : FuncData} {N ps : List Str} {k c : Nat} (F : FunD T.K "__init__" qual params bd scope dvs [] f fd) (S : FnScope N ps scope)
    (hl : ps.length = (T.fl c).length + 1) (hne : T.fl c ≠ []) (few : (T.fl c).length ≤ 900)
    (h : ∀ (cdv : Value) (A : Around) (outer : List Env) (s : Shared) (H : Hp) (E : XK) (a : Addr) (ws : List V), ws.length = (T.fl c).length →
      PSs (cxOf (L2N.CX P w) P w T.K mg base N qual scope f cdv A outer s H E) bd (tFill (L2.start N (.ref a :: ws)) a (T.ca c) ((T.fl c).zip ws))) : FnG P w T.K mg base (k + 1) f fd ps (spErr T c) := by
  refine fnG_ofD F S (fun vs H Q E ⟨a, ws, e, l, _⟩ => ?_) fun cdv A outer s H vs Q E _ ⟨a, ws, e, l, ea, q⟩ => ?_
  · rw [e, hl, ← l]
    rfl
  · subst e
    refine ⟨_, h cdv A outer s H E a ws l, rfl, .inl ⟨ea, ?_, ?_, q⟩⟩
    · intro z
      have z2 := congrArg List.length z
      rw [List.length_zip, l, Nat.min_self] at z2
      exact hne (List.eq_nil_of_length_eq_zero z2)
    · rw [List.length_zip, l, Nat.min_self]
      exact few
structure BdE (T : Txt) (fd : FuncData) (ps : List Str) (n : Nat) (ks : List Str) (dds : List D) (g : (α : Type) → List α → List α → List α → List α) : Prop where
  ex : ∃ (dvs : List V) (its : List Value), Vals dvs its ∧ (∀ xp G ι, RepL T xp G ι dvs dds) ∧ (∀ vs zs, vs.length = n → zs.length = ks.length → (g V vs dvs zs).length + 1 = ps.length) ∧
    ∀ (s : Shared) (self : Value) (us ws : List Value), T.K.In s.heap → us.length = n → ws.length = ks.length → BindsTo s fd ⟨self :: us, ks.zip ws⟩ (ps.zip (self :: g Value us its ws))
  rel : ∀ {vs ds zs : List V} {us its ws : List Value}, Vals vs us → Vals ds its → Vals zs ws → Vals (g V vs ds zs) (g Value us its ws)
  rep : ∀ xp G ι {vs ds zs : List V} {us its ws : List D}, RepL T xp G ι vs us → RepL T xp G ι ds its → RepL T xp G ι zs ws → RepL T xp G ι (g V vs ds zs) (g D us its ws)
section
variable {T : Txt} {fd : FuncData} {ps ks : List Str} {n : Nat} {x qual : Str} {params : Arguments} {bd : List Stmt} {scope : Scope} {f : Addr}
theorem bdE_no (g : (α : Type) → List α → List α → List α → List α) (F : FunD T.K x qual params bd scope [] [] f fd)
    (hrel : ∀ {vs ds zs : List V} {us its ws : List Value}, Vals vs us → Vals ds its → Vals zs ws → Vals (g V vs ds zs) (g Value us its ws))
    (hrep : ∀ xp G ι {vs ds zs : List V} {us its ws : List D}, RepL T xp G ι vs us → RepL T xp G ι ds its → RepL T xp G ι zs ws → RepL T xp G ι (g V vs ds zs) (g D us its ws))
    (hlen : ∀ vs zs : List V, vs.length = n → zs.length = ks.length → (g V vs [] zs).length + 1 = ps.length)
    (h : ∀ (kV doc pm : Value) (an : Option Addr) (cdv ct self : Value) (us ws : List Value), us.length = n → ws.length = ks.length →
      bindArgs (PySem.W.fnOf x qual params bd scope .none kV doc pm an cdv ct) ⟨self :: us, ks.zip ws⟩ = pure (ps.zip (self :: g Value us [] ws))) : BdE T fd ps n ks [] g := by
  obtain ⟨oc, od, dV, kV, doc, pm, an, cdv, ct, osl, rfl, lk, hcd, hD, hK⟩ := F.ex
  rcases hD with ⟨_, rfl⟩ | ⟨e, _⟩
  · exact ⟨⟨[], [], .nil, fun _ _ _ => .nil, hlen, fun s self us ws X l1 l2 => BindsTo.of_looks fun M => PySem.W.Looks.of_pure (h kV doc pm an cdv ct self us ws l1 l2)⟩, hrel, hrep⟩
  · exact absurd rfl e
end
structure MkE (P : Program) (w : World) (T : Txt) (mg : Str → Option Value) (base : Heap) (c : Nat) (x : Str) (ps : List Str) (ways : List (Nat × List Str × List D × ((α : Type) → List α → List α → List α → List α))) : Prop where
  ex : ∃ (f : Addr) (fd : FuncData) (B nid iid : String) (bmB : List Value), ExcBaseFacts B nid iid bmB ∧ ErrK T.K (T.ca c) bmB nid ∧ PySem.W.findIn T.K (.ref (T.ca c)) "__init__" = some (some (.ref f)) ∧ PySem.W.typeIn T.K (.ref f) = some (.type "function") ∧
    FnG P w T.K mg base 1 f fd ps (spErr T c) ∧ ∀ z ∈ ways, BdE T fd ps z.1 z.2.1 z.2.2.1 z.2.2.2
  few : (T.fl c).length ≤ 900
  nd : (T.fl c).Nodup
  len : ps.length = (T.fl c).length + 1
  g : mg x = some (.ref (T.ca c))
def dErr (c n m : Nat) (dds : List D) (g : (α : Type) → List α → List α → List α → List α) (a k : DA) : DE := fun ρ st => (a ρ st).bind fun ds s1 => (k ρ s1).bind fun es s2 => if ds.length = n ∧ es.length = m then .ok (.err c (g D ds dds es)) s2 else .bad
theorem lookup_rev_no {f : Str} : ∀ {ns : List Str} {xs : List V}, f ∉ ns → (ns.zip xs).reverse.lookup f = none
  | [], _, _ => rfl
  | _ :: _, [], _ => rfl
  | n :: ns, x :: xs, h => by
    rw [List.zip_cons_cons, List.reverse_cons, List.lookup_append, lookup_rev_no fun z => h (List.mem_cons_of_mem _ z)]
    have ne : (f == n) = false := beq_eq_false_iff_ne.mpr fun z => h (z ▸ List.mem_cons_self)
    simp [List.lookup, ne]
theorem lookup_rev {f : Str} : ∀ {ns : List Str} {xs : List V} {i : Nat}, ns.Nodup → ns.length = xs.length → ns[i]? = some f → (ns.zip xs).reverse.lookup f = xs[i]?
  | [], _, _, _, _, h => by simp at h
  | _ :: _, [], _, _, hl, _ => by simp at hl
  | n :: ns, x :: xs, 0, nd, hl, h => by
    obtain rfl : n = f := by simpa using h
    rw [List.zip_cons_cons, List.reverse_cons, List.lookup_append, lookup_rev_no (List.nodup_cons.mp nd).1]
    simp [List.lookup]
  | n :: ns, x :: xs, i + 1, nd, hl, h => by
    have h' : ns[i]? = some f := by simpa using h
    have ne : (f == n) = false := beq_eq_false_iff_ne.mpr fun z => (List.nodup_cons.mp nd).1 (z ▸ List.mem_of_getElem? h')
    rw [List.zip_cons_cons, List.reverse_cons, List.lookup_append, lookup_rev (i := i) (List.nodup_cons.mp nd).2 (by simpa using hl) h']
    have e2 : List.lookup f [(n, x)] = none := by simp [List.lookup, ne]
    rw [e2, Option.or_none]
    simp
section
variable {C : Ctx} {c n k : Nat} {ps ks : List Str} {dds : List D} {g : (α : Type) → List α → List α → List α → List α} {x : Str} {p pos : Pos} {e : Expr} {es : List Expr} {kws : List Keyword} {ma mk : DA} {ways : List (Nat × List Str × List D × ((α : Type) → List α → List α → List α → List α))}
end
end Den
set_option maxRecDepth 100000
set_option maxHeartbeats 4000000
namespace Den
open PySem PySem.Spec PyProof.Rows L2
section
variable {C : Ctx} {c i : Nat} {x : Str} {p pos : Pos} {B newId initId : String} {bmB : List Value}
end
structure ErrF (T : Txt) (c : Nat) : Prop where
  xf : XfC T.K (T.ca c)
  no : ∀ f ∈ T.fl c, PySem.W.findIn T.K (.ref (T.ca c)) f = some none
def dFldE (c i : Nat) (o : DE) : DE := fun ρ st => (o ρ st).bind fun d s1 => match d with
  | .err c' xs => if c' = c then (match xs[i]? with
    | some x => .ok x s1
    | none => .bad) else .bad
  | _ => .bad
section
variable {C : Ctx} {c i : Nat} {o : Expr} {mo : DE} {pos : Pos}
end
def ErrAt (H : Hp) (a C : Addr) : Prop := ∃ d, H a = some (exo a C d) ∧ ∀ dd, d = some dd → ∃ fs, H dd = some (exd dd fs)
theorem exc_cls {K : PySem.W.Frag} {D : Addr} (cc : ExcC K D) : (PySem.W.clsIn K D).isSome = true := by
  obtain ⟨cd, hcd, _⟩ := PySem.W.any_some cc.hd
  rw [hcd]
  rfl
def rIsV (C : Ctx) : List V → Hp → VK → Prop := fun xs H Q => ∃ (a : Addr) (c : Nat), ErrAt H a (C.T.ca c) ∧ ExcC C.T.K (C.T.ca c) ∧
  ((∃ (k : V) (cv : Value) (b : Bool), xs = [.ref a, k] ∧ ClsV k cv ∧ PySem.W.kitOne C.T.K (.ref (C.T.ca c)) cv = some b ∧ Q (.bl b) H) ∨
    ∃ (tp : Addr) (cs : List V) (us : List Value) (b : Bool), xs = [.ref a, .ref tp] ∧ SqT C.T.K H tp cs ∧ Paired ClsV cs us ∧ PySem.W.kitAny C.T.K (.ref (C.T.ca c)) us = some b ∧ Q (.bl b) H)
def bIsV (es : List Nat) (isT : Tag → Tag → Option Bool) : FB := fun ds st => match ds with
  | [.err c _, .tup ks] => if c ∈ es then (match clsL ks with
    | some us => (isAny isT (.ow c) us).map fun b => (.bl b, st)
    | none => none) else none
  | [.err c _, k] => if c ∈ es then (match clsA k with
    | some u => (isT (.ow c) u).map fun b => (.bl b, st)
    | none => none) else none
  | _ => none
section
variable {C : Ctx} {isT : Tag → Tag → Option Bool}
end
end Den
set_option maxRecDepth 100000
set_option maxHeartbeats 4000000
namespace Den
open PySem PySem.Spec PyProof.Rows L2
open L2N (Zn)
abbrev Suite := Addr → Value → Option Addr → TS
def offE (o : Option Nat) (D : Ends) : Ends := match o with
  | none => D
  | some i => { nx := fun σ H => D.nx (σ.set i none) H, rt := D.rt, bk := fun σ H => D.bk (σ.set i none) H, ct := fun σ H => D.ct (σ.set i none) H }
def onS1 (o : Option Nat) (a : Addr) (σ : L2.St) : L2.St := match o with
  | none => σ
  | some i => σ.set i (some (.ref a))
def wCl (K : PySem.W.Frag) (Wo : WX) (D : Ends) : List (Value × Option Nat × Suite) → WX
  | [] => Wo
  | (cv, o, ts) :: r => fun cls d σ H => ∃ b, PySem.W.exmOne K cls cv = some b ∧ (b = true → ∀ a, H a = none → ts a cls d (offE o D) (onS1 o a σ) H) ∧ (b = false → wCl K Wo D r cls d σ H)
def AsN (X : Cx) : Option Str → Option Nat → Prop
  | none, none => True
  | some n, some i => X.N[i]? = some n ∧ X.env.kindOf n = some .local
  | _, _ => False
inductive Clauses (X : Cx) : List ExceptHandler → List (Value × Option Nat × Suite) → Prop
  | nil : Clauses X [] []
  | cons {x : Str} {cv : Value} {nm : Option Str} {o : Option Nat} {ts : Suite} {b0 : Stmt} {su : List Stmt} {np pp : Pos} {hds : List ExceptHandler} {l : List (Value × Option Nat × Suite)} (hc : Names X x cv) (ho : AsN X nm o)
      (hs : ∀ (a : Addr) (oe : Obj) (cls : Value) (d : Option Addr) (pn : List (Addr × Obj)), Zn cls d oe → (∃ vs, oe.data = .fields vs) → PSs (X.suite a ((a, oe) :: pn)) (b0 :: su) (ts a cls d)) (r : Clauses X hds l) :
      Clauses X (.ExceptHandler (some (.Name x np)) nm (b0 :: su) pp :: hds) ((cv, o, ts) :: l)
section
variable {X : Cx} {body : List Stmt} {h0 : ExceptHandler} {hds : List ExceptHandler} {l : List (Value × Option Nat × Suite)} {pos : Pos} {tb : WX → TS} {Wo : WX}
end
end Den
set_option maxRecDepth 100000
set_option maxHeartbeats 4000000
namespace Den
open PySem PySem.Spec PyProof.Rows L2
abbrev Clause := (Nat → Option Bool) × Option Nat × DS
def offD (o : Option Nat) (ρ : Rho) : Rho := match o with
  | none => ρ
  | some i => ρ.set i none
def onD (o : Option Nat) (c : Nat) (xs : List D) (ρ : Rho) : Rho := match o with
  | none => ρ
  | some i => ρ.set i (some (.exc c xs))
def caught (o : Option Nat) (h : DS) (c : Nat) (xs : List D) : DS := fun ρ st => match h (onD o c xs ρ) st with
  | .ret d s2 => if noE d = true ∧ noES s2 = true then .ret d s2 else .bad
  | .nx ρ2 s2 => if noER (offD o ρ2) = true ∧ noES s2 = true then .nx (offD o ρ2) s2 else .bad
  | _ => .bad
def sCatch : List Clause → Nat → List D → DS
  | [], c, xs, ρ, st => .exc c xs ρ st
  | (cth, o, h) :: r, c, xs, ρ, st => match cth c with
    | some true => caught o h c xs ρ st
    | some false => sCatch r c xs ρ st
    | none => .bad
def sTryC (cs : List Clause) (b : DS) : DS := fun ρ st => match b ρ st with
  | .exc c xs ρ1 s1 => sCatch cs c xs ρ1 s1
  | r => r
inductive ClausesD (C : Ctx) : List ExceptHandler → List Clause → List (Value × Option Nat × Suite) → Prop
  | nil : ClausesD C [] [] []
  | cons {x : Str} {cv : Value} {nm : Option Str} {o : Option Nat} {cth : Nat → Option Bool} {mh : DS} {b0 : Stmt} {su : List Stmt} {np pp : Pos} {hds : List ExceptHandler} {cs : List Clause} {l : List (Value × Option Nat × Suite)} (hc : Names C.X x cv) (ho : AsN C.X nm o)
      (hk : ∀ c b, cth c = some b → PySem.W.exmOne C.T.K (.ref (C.T.ca c)) cv = some b)
      (hs : ∀ (a : Addr) (oe : Obj) (c : Nat) (d : Option Addr) (pn : List (Addr × Obj)), L2N.Zn (.ref (C.T.ca c)) d oe → (∃ vs, oe.data = .fields vs) → PDSs (C.suite a c d ((a, oe) :: pn)) (b0 :: su) mh) (r : ClausesD C hds cs l) :
      ClausesD C (.ExceptHandler (some (.Name x np)) nm (b0 :: su) pp :: hds) ((cth, o, mh) :: cs) ((cv, o, fun a cls d E σ H => ∃ c, cls = .ref (C.T.ca c) ∧ tDS C.T ((a, c, d) :: C.xp) (fun _ _ _ _ => False) mh E σ H) :: l)
section
variable {C : Ctx} {bd : List Stmt} {h0 : ExceptHandler} {hds : List ExceptHandler} {cs : List Clause} {l : List (Value × Option Nat × Suite)} {pos : Pos} {mb : DS}
theorem ClausesD.to {hs : List ExceptHandler} (k : ClausesD C hs cs l) : Clauses C.X hs l := by
  induction k with
  | nil => exact .nil
  | cons hc ho hk hs r ih =>
    exact .cons hc ho (fun a oe cls d pn hz hd => ⟨fun pins s σ H D I ⟨c, ec, hw⟩ => by
      subst ec
      exact (hs a oe c d pn hz hd).run pins s σ H D I hw⟩) ih
theorem EnvR.off {T : Txt} {xp : XT} {G : Hp} {ι : Io} {ρ : Rho} {σ : L2.St} (o : Option Nat) (h : EnvR T xp G ι ρ σ) : EnvR T xp G ι (offD o ρ) (match o with
  | none => σ
  | some i => σ.set i none) := by
  cases o with
  | none => exact h
  | some i => exact h.unset i
end
end Den
set_option maxRecDepth 100000
set_option maxHeartbeats 4000000
namespace Den
open PySem PySem.Spec PyProof.Rows L2
def sPar3 (i j l : Nat) (a : DA) : DS := fun ρ st => (a ρ st).into ρ fun ds s1 => match ds with
  | [x, y, z] => .nx (((ρ.set i (some x)).set j (some y)).set l (some z)) s1
  | _ => .bad
section
variable {C : Ctx}
end
end Den
set_option maxRecDepth 100000
set_option maxHeartbeats 4000000
namespace Den
open PySem PySem.Spec PyProof.Rows L2
section
variable {C : Ctx} {elt tg iter : Expr} {ifs : List Expr} {scope : Scope} {own : List (Str × Nat)} {mi e : DE} {t : DT} {g : TG} {gd : GD} {is vs : List Nat} {pos spos py : Pos} {x y : Str} {p : Pos} {i k n : Nat} {m : DF}
theorem lcL_imp (hd : TgD C.T C.T.K g gd is) (hv : ∀ j ∈ is, j ∈ vs) {σ : L2.St} {H : Hp} {Q : VK} (h : tD C.T C.xp C.W (dLcL mi gd t e vs) σ H Q) :
    tLc (iList C.X.K (tD C.T C.xp C.W mi)) g (tDT C.T C.xp (fun _ _ _ _ => False) t) (tD C.T C.xp (fun _ _ _ _ => False) e) vs σ H Q := by
  obtain ⟨ρ, st, ι, er, rl, q⟩ := h
  refine ⟨ρ, st, ι, er, rl, post_bind q fun d s1 v ι1 H1 st1 rl1 rv p1 => ?_⟩
  have er1 := er.step st1
  rw [C.hK]
  have turns : ∀ a xs ds, SqL C.T.K (hide ι1 s1 H1) a xs → RepL C.T C.xp (hide ι1 s1 H1) ι1 xs ds → ds.length ≤ 100000 → Post C.T C.xp (fun c d H => C.W c d σ H) ι1 s1 H1 (Rep C.T C.xp) Q (lcEnd (lcL gd t e (wipeD ρ vs) ds s1)) →
      ∀ L, H1 L = none → ∃ W' : Nat → Nat → Hp → Prop, (∃ m, W' 0 m (upd H1 L (.lst []))) ∧ ∀ i m H, W' i m H → ((Itl C.T.K a).stop i H ∧ Q (.ref L) H) ∨ ((Itl C.T.K a).go i H ∧ ∃ Nx : Hp → Prop, (∀ H', Nx H' → ∃ m', m' < m ∧ W' (i + 1) m' H') ∧
        ∀ x H', (Itl C.T.K a).yld i H x H' → g x (L2.wipe σ vs) H' fun σ2 H2 => L2.wipe σ2 vs = L2.wipe σ vs ∧ tDT C.T C.xp (fun _ _ _ _ => False) t σ2 H2 fun b H3 =>
          if b = true then tD C.T C.xp (fun _ _ _ _ => False) e σ2 H3 fun y H4 => ∃ acc, H4 L = some (.lst acc) ∧ acc.length < sizeLine ∧ Nx (upd H4 L (.lst (acc ++ [y]))) else Nx H3) := by
    intro a xs ds sq rs hl q L hL
    refine lc_list (K := C.T.K) (a := a) (xs := xs) (LeftC C.T C.xp (fun c d H => C.W c d σ H) Q gd t e (wipeD ρ vs) ds ι1 s1 H1 L) (leftC_start rl1 hL q) (fun i H' _ w => le_l (leftC_sq hL w) sq) (fun i x H' hx w => ?_) fun H' w => leftC_end rl1 hL (by rw [rs.length]; exact Nat.le_refl _) w
    obtain ⟨z, hz, rz⟩ := rs.getV hx
    have lt : i < ds.length := (List.getElem?_eq_some_iff.mp hz).1
    exact leftC_turn hd hv (by omega) er1 hL hz rz w
  cases rv with
  | lst h1 r1 =>
    dsimp only at p1
    split at p1
    · rename_i hl
      exact ⟨_, rfl, ⟨_, SqL.of (hide_sub h1)⟩, turns _ _ _ (SqL.of h1) r1 hl p1⟩
    · exact p1.elim
  | ro h1 r1 =>
    dsimp only at p1
    split at p1
    · rename_i hl
      exact ⟨_, rfl, ⟨_, le_l (hide_le _ _ _) h1⟩, turns _ _ _ h1 r1 hl p1⟩
    · exact p1.elim
  | _ => exact p1.elim
theorem pds_setLcL (hc : C.X.calm = true) (hN : C.X.N.Nodup) (hy : C.X.N[i]? = some y) (hyl : C.X.env.scope.names.lookup y = some .local) (hi : PD C iter mi) (ok : BlkOk C.X.N C.X.env.scope scope own) (hg : ∀ s H c cl fp, PG (C.blk s H scope c cl fp).X tg g) (hd : TgD C.T C.T.K g gd is) (hv : ∀ j ∈ is, j ∈ own.map (·.2))
    (ht : ∀ s H c cl fp, PDTs (C.blk s H scope c cl fp) ifs t) (he : ∀ s H c cl fp, PD (C.blk s H scope c cl fp) elt e) (hs : ∀ x, foldedSetIterable iter C.X.env x = pure x := by intro _; rfl)
    (hsw : swapsWith (.ListComp elt [⟨tg, iter, ifs, 0⟩] scope pos) (some (.Name y py)) spos.line C.X.env = pure true := by first | rfl | exact sw_true rfl rfl rfl rfl) :
    PDS C (.Assign [.Name y py] (.ListComp elt [⟨tg, iter, ifs, 0⟩] scope pos) spos) (sSet i (dLcL mi gd t e (own.map (·.2)))) :=
  PS.imp (ps_setLc hc hN hy hyl hsw (pi_list hi) ok hg ht he hs) fun D σ H ⟨ρ, st, ι, er, rl, q⟩ =>
    lcL_imp hd hv ⟨ρ, st, ι, er, rl, post_into q er fun d s1 v ι1 H1 st1 rl1 er1 rv p1 => p1 _ ι1 H1 (Step.refl _ _ _) rl1 (er1.set i rv)⟩
end
end Den
set_option maxRecDepth 100000
set_option maxHeartbeats 4000000
namespace Den
open PySem PySem.Spec PyProof.Rows L2
theorem Fit.u1 {C : Ctx} {k : Nat} (h : Fit C k) : C.X.A.units + 1 < cLine := by have := h.u; omega
section
variable {C : Ctx} {tg iter tg1 iter1 elt : Expr} {ifs ifs1 : List Expr} {scope : Scope} {own : List (Str × Nat)} {pos spos py : Pos} {mi mi1 : DIt} {g g1 : TG} {gd gd1 : GD} {is is1 vs1 : List Nat} {t t1 : DT} {e de : DE} {i : Nat} {y : Str}
theorem lc_imp {vs : List Nat} {σ : L2.St} {H : Hp} {Q : VK} (hd : TgD C.T C.T.K g gd is) (hv : ∀ j ∈ is, j ∈ vs) (h : tD C.T C.xp C.W (dLc mi gd t de vs) σ H Q) :
    tLc (tDI C.T C.xp C.W mi) g (tDT C.T C.xp (fun _ _ _ _ => False) t) (tD C.T C.xp (fun _ _ _ _ => False) de) vs σ H Q := by
    obtain ⟨ρ, st, ι, er, rl, p⟩ := h
    refine ⟨ρ, st, ι, er, rl, post_bind p fun ds s1 J ι1 H1 st1 rl1 ⟨Gd, wk, hG⟩ p1 => ?_⟩
    have er1 := er.step st1
    intro D hD
    split at p1
    · rename_i hl
      exact lc_it wk (LeftC C.T C.xp (fun c d H => C.W c d σ H) Q gd t de (wipeD ρ vs) ds ι1 s1 H1 D) (leftC_start rl1 hD p1) (fun i H' _ hL => hG _ (leftC_sq hD hL))
        (fun i x H' H'' hi hL ⟨eH, d, hd', rd⟩ => by
          subst eH
          exact leftC_turn hd hv (by omega) er1 hD hd' rd hL)
        (fun H' hL => leftC_end rl1 hD (Nat.le_refl _) hL)
    · exact p1.elim
theorem pds_setLc (hc : C.X.calm = true) (hN : C.X.N.Nodup) (hy : C.X.N[i]? = some y) (hyl : C.X.env.scope.names.lookup y = some .local) (hi : PDI C tg iter mi) (ok : BlkOk C.X.N C.X.env.scope scope own) (hg : ∀ s H c cl fp, PG (C.blk s H scope c cl fp).X tg g) (hd : TgD C.T C.T.K g gd is) (hv : ∀ j ∈ is, j ∈ own.map (·.2))
    (ht : ∀ s H c cl fp, PDTs (C.blk s H scope c cl fp) ifs t) (he : ∀ s H c cl fp, PD (C.blk s H scope c cl fp) elt de) (hs : ∀ x, foldedSetIterable iter C.X.env x = pure x := by intro _; rfl)
    (hsw : swapsWith (.ListComp elt [⟨tg, iter, ifs, 0⟩] scope pos) (some (.Name y py)) spos.line C.X.env = pure true := by first | rfl | exact sw_true rfl rfl rfl rfl) :
    PDS C (.Assign [.Name y py] (.ListComp elt [⟨tg, iter, ifs, 0⟩] scope pos) spos) (sSet i (dLc mi gd t de (own.map (·.2)))) :=
  PS.imp (ps_setLc hc hN hy hyl hsw hi ok hg ht he hs) fun D σ H ⟨ρ, st, ι, er, rl, q⟩ =>
    lc_imp hd hv ⟨ρ, st, ι, er, rl, post_into q er fun d s1 v ι1 H1 st1 rl1 er1 rv p1 => p1 _ ι1 H1 (Step.refl _ _ _) rl1 (er1.set i rv)⟩
end
end Den
set_option maxRecDepth 100000
set_option maxHeartbeats 4000000
namespace Den
open PySem PySem.Spec PyProof.Rows L2
abbrev F2 := D → D → Store → Option (D × Store)
def dOpS (g : F2) (a b : DE) : DE := fun ρ st => (a ρ st).bind fun d s1 => (b ρ s1).bind fun e s2 => match g d e s2 with
  | some (z, s3) => .ok z s3
  | none => .bad
def OpSD (C : Ctx) (r : R2) (g : F2) : Prop := ∀ ι st H x y dx dy dz st1 (Q : VK), RelSt C.T C.xp ι st H → Rep C.T C.xp (hide ι st H) ι x dx → Rep C.T C.xp (hide ι st H) ι y dy → g dx dy st = some (dz, st1) →
  (∀ v ι' H', Step ι st H ι' st1 H' → RelSt C.T C.xp ι' st1 H' → Rep C.T C.xp (hide ι' st1 H') ι' v dz → Q v H') → r x y H Q
def still (f : D → D → Option D) : F2 := fun x y st => (f x y).map fun z => (z, st)
def orS (g g' : F2) : F2 := fun x y st => (g x y st).or (g' x y st)
section
variable {C : Ctx}
theorem OpSD.of {r : R2} {f : D → D → Option D} (h : OpD C r f) : OpSD C r (still f) := fun ι st H x y dx dy dz st1 Q rl rx ry e k => by
  obtain ⟨z, hz, e2⟩ := Option.map_eq_some_iff.mp e
  cases e2
  exact h ι st H x y dx dy _ Q rl rx ry hz k
theorem OpSD.or {r r' : R2} {g g' : F2} (h : OpSD C r g) (h' : OpSD C r' g') : OpSD C (fun x y H Q => r x y H Q ∨ r' x y H Q) (orS g g') := fun ι st H x y dx dy dz st1 Q rl rx ry e k => by
  unfold orS at e
  cases hg : g dx dy st with
  | some z =>
    rw [hg] at e
    exact .inl (h ι st H x y dx dy dz st1 Q rl rx ry (hg.trans e) k)
  | none =>
    rw [hg] at e
    exact .inr (h' ι st H x y dx dy dz st1 Q rl rx ry e k)
theorem tOpS_of {r : R2} {g : F2} {ma mb : DE} (hr : OpSD C r g) : ∀ σ H Q, tD C.T C.xp C.W (dOpS g ma mb) σ H Q → tOp r (tD C.T C.xp C.W ma) (tD C.T C.xp C.W mb) σ H Q := fun σ H Q ⟨ρ, st, ι, e, rl, p⟩ => by
  refine ⟨ρ, st, ι, e, rl, post_bind p fun d s1 v ι1 H1 st1 rl1 rv p1 => ?_⟩
  refine ⟨ρ, s1, ι1, e.step st1, rl1, post_bind p1 fun d2 s2 v2 ι2 H2 st2 rl2 rv2 p2 => ?_⟩
  cases hg : g d d2 s2 with
  | none =>
    rw [hg] at p2
    exact p2.elim
  | some z =>
    obtain ⟨z, s3⟩ := z
    rw [hg] at p2
    exact hr ι2 s2 H2 v v2 d d2 z s3 Q rl2 (rv.mono st2.ex st2.pre) rv2 hg fun v' ι' H' s' r' e' => p2 v' ι' H' s' r' e'
theorem pd_cmpS {op : CmpOp} {r : R2} {g : F2} {a b : Expr} {ma mb : DE} {pos : Pos} (ho : OpR C.X (compareOp op) r) (hr : OpSD C r g) (ha : PD C a ma) (hb : PD C b mb) (hm : behindInMarks op b = false) : PD C (.Compare a [op] [b] pos) (dOpS g ma mb) :=
  PE.imp (pe_cmpR ho ha hb hm) (tOpS_of hr)
end
structure OwnE (T : Txt) (c : Nat) (f : Addr) (nf : Tag → Bool) : Prop where
  eq : PySem.W.findIn T.K (.ref (T.ca c)) "__eq__" = some (some (.ref f))
  fn : PySem.W.isFn T.K (.ref f) = true
  nf : ∀ t, nf t = true → PySem.W.notFirst T.K (T.ca c) (tagV T t) = true
def gOwnE (c : Nat) (own : List Nat) (nf : Tag → Bool) (m : DF) : F2 := fun x y st => if (fieldsOf c x st).isSome = true ∧ ((tagD own y st).map nf).getD false = true then (match m [x, y] st with
  | .ok (.bl b) s1 => some (.bl b, s1)
  | _ => none) else none
section
variable {C : Ctx} {c k : Nat} {own : List Nat} {nf : Tag → Bool} {f : Addr} {fd : FuncData} {ps : List Str} {m : DF}
def rOwnE (C : Ctx) (c : Nat) (own : List Nat) (nf : Tag → Bool) (m : DF) : R2 := fun x y H Q => ∃ ι st dx dy t b s1, RelSt C.T C.xp ι st H ∧ Rep C.T C.xp (hide ι st H) ι x dx ∧ Rep C.T C.xp (hide ι st H) ι y dy ∧ (fieldsOf c dx st).isSome = true ∧ tagD own dy st = some t ∧ nf t = true ∧
  m [dx, dy] st = .ok (.bl b) s1 ∧ ∀ ι' H', Step ι st H ι' s1 H' → RelSt C.T C.xp ι' s1 H' → Q (.bl b) H'
theorem osd_ownE : OpSD C (rOwnE C c own nf m) (gOwnE c own nf m) := fun ι st H x y dx dy dz st1 Q rl rx ry e q => by
  unfold gOwnE at e
  split at e
  · rename_i hc
    obtain ⟨h1, h2⟩ := hc
    cases ht : tagD own dy st with
    | none =>
      rw [ht] at h2
      cases h2
    | some t =>
      rw [ht] at h2
      split at e
      · rename_i b s1 hm
        cases e
        exact ⟨ι, st, dx, dy, t, b, _, rl, rx, ry, h1, ht, h2, hm, fun ι' H' s r => q _ ι' H' s r (.bl b)⟩
      · cases e
  · cases e
theorem op_ownE (ho : ∀ c ∈ own, ClsI C.T c) (oe : OwnE C.T c f nf) (F : FnD C k f fd ps m) (hb : Binds C.T.K fd ps []) (hr : RoomG k C.X.A) (tk : L2N.Takes C.X C.W) (hp : ps.length = 2) : OpR C.X (compareOp .Eq) (rOwnE C c own nf m) := by
  intro pins s σ H x y v u Q I rx ry q
  obtain ⟨ι, st, dx, dy, t, b, s1, rl, rdx, rdy, h1, ht, hn, hm, q⟩ := q
  obtain ⟨ds, hds⟩ := Option.isSome_iff_exists.mp h1
  obtain ⟨a, da, xs, ev, ha, hl, rxs⟩ := inst_of rl rdx hds
  subst ev
  obtain rfl : v = Value.ref a := rx
  obtain ⟨mA, J, _⟩ := ins_get I.hok ha
  obtain ⟨od, J, _⟩ := J.look
  obtain ⟨m', hF⟩ := I.fr
  obtain ⟨P, Z, hP, _⟩ := kit_of I ry (by rw [C.hK]; exact tagD_rep ho rl rdy ht)
  show wpAny (model C.X.prog C.X.w) C.X.A (richCompare .Eq (.ref a) u) (EP C.X pins σ Q) C.X.xe s
  refine PySem.W.cmp_K (op := .Eq) (tb := tagV C.T t) hr.room.units0 hF I.ok.mod.kin J (Z.ty _ _ I.kIn hP) (by rw [C.hK]; exact oe.nf t hn) (by rw [C.hK]; exact oe.eq) (by rw [C.hK]; exact oe.fn) ?_
  have sp : spM C.T ps.length m [.ref a, y] H (fun w H' => w = .bl b ∧ Q w H') (fun c d H' => C.W c d σ H') := by
    refine ⟨hp.symm, C.xp, [dx, dy], st, ι, .cons rdx (.cons rdy .nil), rl, ?_⟩
    rw [hm]
    intro w ι' H' s' r' e'
    cases e'
    exact ⟨rfl, q ι' H' s' r'⟩
  have bb := hb s [Value.ref a, u] (by rw [← C.hK]; exact I.kIn) hp.symm
  rw [List.append_nil] at bb
  have z := run_fnG (vs := [.ref a, y]) F hr tk (fun _ _ _ h => h) I bb (.cons rfl (.cons ry .nil)) sp
  refine wpAny_mono z (fun w s' e => ?_) fun _ _ e => e
  obtain ⟨v', H', I', rv, ev, q'⟩ := e
  subst ev
  cases rv
  exact ⟨.bl b, H', I', rfl, q'⟩
end
end Den
set_option maxRecDepth 100000
set_option maxHeartbeats 4000000
namespace Den
open PySem PySem.Spec PyProof.Rows L2
section
variable {prog : Program} {w : World} {A : Around} {E : Value → Shared → Prop} {s : Shared} {K : PySem.W.Frag} {x cl f : Addr} {ox : Obj} {od : Option Obj} {b tb : Value}
end
end Den
set_option maxRecDepth 100000
set_option maxHeartbeats 4000000
namespace Den
open PySem PySem.Spec PyProof.Rows L2
section
variable {X : Cx} {k : Nat} {f : Addr} {fd : FuncData} {ps : List Str} {sp : Sp} {pins : List (Addr × Obj)} {σ : L2.St} {H : Hp} {s : Shared} {Q : VK} {E : XK} {W : WX}
theorem run_in1 {us us' : List Value} {vs : List V} (F : FnG X.prog X.w X.K X.mg X.base k f fd ps sp) (hr : RoomG (k + 1) X.A) (tk : L2N.Takes X W) (hW : ∀ cls d H', E cls d H' → W cls d σ H')
    (I : Inv X pins σ H s) (hb : BindsTo s fd ⟨us, []⟩ (ps.zip us')) (r : Vals vs us') (h : sp vs H Q E) : wpAny (model X.prog X.w) X.A.in1 (call (.ref f) us) (EP X pins σ Q) X.xe s := by
  have e := I.env0
  have e1 : Env0 X.prog X.w X.K X.mg X.base X.A.in1 X.stack s H := ⟨e.frames, e.mod, e.bs, e.bsz, e.funs, e.frf, e.hok, e.bare⟩
  have z := F.run X.A.in1 X.stack s H ⟨us, []⟩ us' vs Q E ⟨hr.room.in1, hr.gd⟩ e1 hb r h
  refine wpAny_call (codeAny_mono z fun res s' q => ?_)
  have g : Ended X pins σ Q res s' := ends_of I tk hW q
  clear q
  match res, g with
  | .error e', q' => exact q'
  | .ok (.ret u), q' => exact q'
  | .ok .next, q' => exact False.elim q'
  | .ok .brk, q' => exact False.elim q'
  | .ok .cont, q' => exact False.elim q'
end
structure OwnN (T : Txt) (c : Nat) (f : Addr) (nf : Tag → Bool) : Prop where
  e : OwnE T c f nf
  ne : PySem.W.findIn T.K (.ref (T.ca c)) "__ne__" = some (some (.builtin "object.__ne__"))
  ob : PySem.W.mroIn T.K (T.ca c) (.type "object") = some true
def gOwnNe (c : Nat) (own : List Nat) (nf : Tag → Bool) (m : DF) : F2 := fun x y st => match gOwnE c own nf m x y st with
  | some (.bl b, s1) => some (.bl (!b), s1)
  | _ => none
section
variable {C : Ctx} {c k : Nat} {own : List Nat} {nf : Tag → Bool} {f : Addr} {fd : FuncData} {ps : List Str} {m : DF}
def rOwnNe (C : Ctx) (c : Nat) (own : List Nat) (nf : Tag → Bool) (m : DF) : R2 := fun x y H Q => ∃ ι st dx dy t b s1, RelSt C.T C.xp ι st H ∧ Rep C.T C.xp (hide ι st H) ι x dx ∧ Rep C.T C.xp (hide ι st H) ι y dy ∧ (fieldsOf c dx st).isSome = true ∧ tagD own dy st = some t ∧ nf t = true ∧
  m [dx, dy] st = .ok (.bl b) s1 ∧ ∀ ι' H', Step ι st H ι' s1 H' → RelSt C.T C.xp ι' s1 H' → Q (.bl (!b)) H'
end
end Den
set_option maxRecDepth 100000
set_option maxHeartbeats 4000000
namespace Den
open PySem PySem.Spec PyProof.Rows L2
section
variable {X : Cx} {k : Nat} {f : Addr} {fd : FuncData} {ps : List Str} {sp : Sp} {pins : List (Addr × Obj)} {σ : L2.St} {H : Hp} {s : Shared} {Q : VK} {E : XK} {W : WX}
theorem run_in2 {us us' : List Value} {vs : List V} (F : FnG X.prog X.w X.K X.mg X.base k f fd ps sp) (hr : RoomG (k + 2) X.A) (tk : L2N.Takes X W) (hW : ∀ cls d H', E cls d H' → W cls d σ H')
    (I : Inv X pins σ H s) (hb : BindsTo s fd ⟨us, []⟩ (ps.zip us')) (r : Vals vs us') (h : sp vs H Q E) : wpAny (model X.prog X.w) X.A.in1.in1 (call (.ref f) us) (EP X pins σ Q) X.xe s := by
  have e := I.env0
  have e1 : Env0 X.prog X.w X.K X.mg X.base X.A.in1.in1 X.stack s H := ⟨e.frames, e.mod, e.bs, e.bsz, e.funs, e.frf, e.hok, e.bare⟩
  have z := F.run X.A.in1.in1 X.stack s H ⟨us, []⟩ us' vs Q E ⟨hr.room.in1.in1, hr.gd⟩ e1 hb r h
  refine wpAny_call (codeAny_mono z fun res s' q => ?_)
  have g : Ended X pins σ Q res s' := ends_of I tk hW q
  clear q
  match res, g with
  | .error e', q' => exact q'
  | .ok (.ret u), q' => exact q'
  | .ok .next, q' => exact False.elim q'
  | .ok .brk, q' => exact False.elim q'
  | .ok .cont, q' => exact False.elim q'
end
structure OwnF (T : Txt) (c : Nat) (nm : Str) (f : Addr) : Prop where
  at_ : PySem.W.findIn T.K (.ref (T.ca c)) nm = some (some (.ref f))
  fn : PySem.W.isFn T.K (.ref f) = true
def gOwnT (c : Nat) (m : DF) : FB := fun ds st => match ds with
  | [x] => if (fieldsOf c x st).isSome = true then (match m [x] st with
    | .ok (.str z) s1 => some (.str z, s1)
    | _ => none) else none
  | _ => none
def gOwnL (c : Nat) (m : DF) : FB := fun ds st => match ds with
  | [x] => if (fieldsOf c x st).isSome = true then (match m [x] st with
    | .ok (.int n) s1 => if 0 ≤ n ∧ n < 2 ^ 63 then some (.int n, s1) else none
    | _ => none) else none
  | _ => none
section
variable {C : Ctx} {c k : Nat} {f : Addr} {fd : FuncData} {ps : List Str} {m : DF}
theorem inst_look {pins : List (Addr × Obj)} {s : Shared} {σ : L2.St} {H : Hp} {v : V} {u : Value} {d : D} {st : Store} {ι : Io} (I : Inv C.X pins σ H s) (rl : RelSt C.T C.xp ι st H) (rd : Rep C.T C.xp (hide ι st H) ι v d) (ru : RelV v u) (h : (fieldsOf c d st).isSome = true) :
    ∃ a ox od, v = .ref a ∧ u = .ref a ∧ PySem.W.InstAt s.heap a ox (C.T.ca c) od := by
  obtain ⟨ds, hds⟩ := Option.isSome_iff_exists.mp h
  obtain ⟨a, da, xs, ev, ha, _, _⟩ := inst_of rl rd hds
  subst ev
  obtain ⟨mA, J, _⟩ := ins_get I.hok ha
  obtain ⟨od, J, _⟩ := J.look
  exact ⟨a, _, _, rfl, ru, J⟩
def rOwn1 (C : Ctx) (c : Nat) (m : DF) (P : D → Bool) : List V → Hp → VK → Prop := fun xs H Q => ∃ x ι st d z s1, xs = [x] ∧ RelSt C.T C.xp ι st H ∧ Rep C.T C.xp (hide ι st H) ι x d ∧ (fieldsOf c d st).isSome = true ∧ m [d] st = .ok z s1 ∧ P z = true ∧
  ∀ v ι' H', Step ι st H ι' s1 H' → RelSt C.T C.xp ι' s1 H' → Rep C.T C.xp (hide ι' s1 H') ι' v z → Q v H'
def isStrD : D → Bool
  | .str _ => true
  | _ => false
def isLenD : D → Bool
  | .int n => decide (0 ≤ n) && decide (n < 2 ^ 63)
  | _ => false
theorem sp_own1 {x : V} {H : Hp} {Q : VK} {σ : L2.St} {ι : Io} {st s1 : Store} {d z : D} {W : WX} (hp : ps.length = 1) (rl : RelSt C.T C.xp ι st H) (rd : Rep C.T C.xp (hide ι st H) ι x d) (hm : m [d] st = .ok z s1)
    (q : ∀ v ι' H', Step ι st H ι' s1 H' → RelSt C.T C.xp ι' s1 H' → Rep C.T C.xp (hide ι' s1 H') ι' v z → Q v H') : spM C.T ps.length m [x] H (fun v H' => Q v H' ∧ ∃ ι' , Rep C.T C.xp (hide ι' s1 H') ι' v z) (fun c d H' => C.W c d σ H') := by
  refine ⟨hp.symm, C.xp, [d], st, ι, .cons rd .nil, rl, ?_⟩
  rw [hm]
  intro v ι' H' s' r' e'
  exact ⟨q v ι' H' s' r' e', ι', e'⟩
theorem call_ownS (oe : OwnF C.T c "__str__" f) (F : FnD C k f fd ps m) (hb : Binds C.T.K fd ps []) (hr : RoomG (k + 2) C.X.A) (tk : L2N.Takes C.X C.W) (hp : ps.length = 1) : CallR C.X (.type "str") (rOwn1 C c m isStrD) := by
  intro pins s σ H xs us Q I r h
  obtain ⟨x, ι, st, d, z, s1, rfl, rl, rd, hi, hm, hP, q⟩ := h
  obtain ⟨u, rfl, ru⟩ := vals1 r
  obtain ⟨a, ox, od, rfl, rfl, J⟩ := inst_look I rl rd ru hi
  have bb := hb s [Value.ref a] (by rw [← C.hK]; exact I.kIn) hp.symm
  rw [List.append_nil] at bb
  have run := run_in2 (vs := [.ref a]) F hr tk (fun _ _ _ h => h) I bb (.cons rfl .nil) (sp_own1 (σ := σ) (W := C.W) hp rl rd hm q)
  refine PySem.W.kso_call (f := f) hr.room.in1.in1.units0 I.kIn J (by rw [C.hK]; exact oe.at_) (by rw [C.hK]; exact oe.fn) ?_
  refine wpAny_mono run (fun w s' e => ?_) fun _ _ e => e
  obtain ⟨v', H', I', rv, q', ι', rz⟩ := e
  cases z <;> first | (cases hP; done) | skip
  cases rz
  obtain ⟨t, rfl⟩ := rv
  exact ⟨.str _, H', I', ⟨t, rfl⟩, q'⟩
theorem call_ownL (oe : OwnF C.T c "__len__" f) (F : FnD C k f fd ps m) (hb : Binds C.T.K fd ps []) (hr : RoomG (k + 1) C.X.A) (tk : L2N.Takes C.X C.W) (hp : ps.length = 1) : CallR C.X (.builtin "len") (rOwn1 C c m isLenD) := by
  intro pins s σ H xs us Q I r h
  obtain ⟨x, ι, st, d, z, s1, rfl, rl, rd, hi, hm, hP, q⟩ := h
  obtain ⟨u, rfl, ru⟩ := vals1 r
  obtain ⟨a, ox, od, rfl, rfl, J⟩ := inst_look I rl rd ru hi
  obtain ⟨m', hF⟩ := I.fr
  have bb := hb s [Value.ref a] (by rw [← C.hK]; exact I.kIn) hp.symm
  rw [List.append_nil] at bb
  have run := run_in1 (vs := [.ref a]) F hr tk (fun _ _ _ h => h) I bb (.cons rfl .nil) (sp_own1 (σ := σ) (W := C.W) hp rl rd hm q)
  refine PySem.W.len_K (f := f) hF I.ok.mod.kin J (by rw [C.hK]; exact oe.at_) (by rw [C.hK]; exact oe.fn) ?_
  refine wpAny_mono run (fun w s' e => ?_) fun _ _ e => e
  obtain ⟨v', H', I', rv, q', ι', rz⟩ := e
  cases z <;> first | (cases hP; done) | skip
  rename_i n
  cases rz
  obtain ⟨t, rfl⟩ := rv
  have hP' := (Bool.and_eq_true _ _).mp hP
  exact ⟨⟨of_decide_eq_true hP'.1, of_decide_eq_true hP'.2⟩, ⟨.int n, H', I'.tok _, ⟨_, rfl⟩, q'⟩⟩
theorem cd_ownT : CallD C (rOwn1 C c m isStrD) (gOwnT c m) := fun ι st H xs ds d st' Q rl rx e q => by
  unfold gOwnT at e
  split at e
  · rename_i x
    split at e
    · rename_i hi
      split at e
      · rename_i z s1 hm
        cases e
        obtain ⟨v, rfl, rv⟩ := repL_one rx
        exact ⟨v, ι, st, x, _, _, rfl, rl, rv, hi, hm, rfl, q⟩
      · cases e
    · cases e
  · cases e
theorem cd_ownL : CallD C (rOwn1 C c m isLenD) (gOwnL c m) := fun ι st H xs ds d st' Q rl rx e q => by
  unfold gOwnL at e
  split at e
  · rename_i x
    split at e
    · rename_i hi
      split at e
      · rename_i n s1 hm
        split at e
        · rename_i hn
          cases e
          obtain ⟨v, rfl, rv⟩ := repL_one rx
          exact ⟨v, ι, st, x, _, _, rfl, rl, rv, hi, hm, (by unfold isLenD; dsimp only; rw [decide_eq_true hn.1, decide_eq_true hn.2]; rfl), q⟩
        · cases e
      · cases e
    · cases e
  · cases e
theorem ty_ownS (oe : OwnF C.T c "__str__" f) (F : FnD C k f fd ps m) (hb : Binds C.T.K fd ps []) (hr : RoomG (k + 2) C.X.A) (tk : L2N.Takes C.X C.W) (hp : ps.length = 1) : TyD C "str" (gOwnT c m) := ⟨_, call_ownS oe F hb hr tk hp, cd_ownT⟩
theorem blt_ownL (oe : OwnF C.T c "__len__" f) (F : FnD C k f fd ps m) (hb : Binds C.T.K fd ps []) (hr : RoomG (k + 1) C.X.A) (tk : L2N.Takes C.X C.W) (hp : ps.length = 1) : BltD C "len" (gOwnL c m) := ⟨_, call_ownL oe F hb hr tk hp, cd_ownL⟩
end
end Den
set_option maxRecDepth 100000
set_option maxHeartbeats 4000000
namespace Den
open PySem PySem.Spec PyProof.Rows L2
def dFmt (a : DE) : DE := fun ρ st => (a ρ st).bind fun d s1 => match d with
  | .str y => if y.length ≤ 1000000 then .ok (.str y) s1 else .bad
  | .int i => if i.natAbs.log2 < 1920 then .ok (.str (toString i)) s1 else .bad
  | _ => .bad
def dFmtR (a : DE) : DE := fun ρ st => (a ρ st).bind fun d s1 => match d with
  | .str y => if (reprText y).length ≤ 1000000 then .ok (.str (reprText y)) s1 else .bad
  | .int i => if i.natAbs.log2 < 1920 then .ok (.str (toString i)) s1 else .bad
  | _ => .bad
def dJs : List DE → Str → DE
  | [], acc => fun _ st => .ok (.str acc) st
  | a :: r, acc => fun ρ st => (a ρ st).bind fun d s1 => match d with
    | .str y => if (acc ++ y).length ≤ 1000000 then dJs r (acc ++ y) ρ s1 else .bad
    | _ => .bad
section
variable {C : Ctx} {e : Expr} {ma : DE} {pos : Pos}
theorem pd_fmt (h : PD C e ma) : PD C (.FormattedValue e (-1) none pos) (dFmt ma) := PE.imp (pe_fmt h) fun σ H Q ⟨ρ, st, ι, er, rl, p⟩ => by
  refine ⟨ρ, st, ι, er, rl, post_bind p fun d s1 v ι1 H1 st1 rl1 rv p1 => ?_⟩
  cases rv with
  | str y =>
    dsimp only at p1
    split at p1
    · rename_i hl
      exact .inl ⟨y, rfl, Nat.le_trans hl (by decide), p1 _ ι1 H1 (Step.refl _ _ _) rl1 (.str _)⟩
    · exact p1.elim
  | int i =>
    dsimp only at p1
    split at p1
    · rename_i hl
      exact .inr ⟨i, rfl, hl, p1 _ ι1 H1 (Step.refl _ _ _) rl1 (.str _)⟩
    · exact p1.elim
  | _ => exact p1.elim
inductive PJD (C : Ctx) : List Expr → List DE → Prop where
  | nil : PJD C [] []
  | cons {e : Expr} {m : DE} {es : List Expr} {ms : List DE} (h : PD C e m) (r : PJD C es ms) : PJD C (e :: es) (m :: ms)
theorem PJD.to {es : List Expr} {ms : List DE} (h : PJD C es ms) : PJ C.X es (ms.map fun m => tD C.T C.xp C.W m) := by
  induction h with
  | nil => exact .nil
  | cons h _ ih => exact .cons h ih
theorem js_of {Q : VK} {σ : L2.St} : ∀ {ms : List DE} {acc : Str} {H : Hp}, tD C.T C.xp C.W (dJs ms acc) σ H Q → tJs (ms.map fun m => tD C.T C.xp C.W m) acc σ H fun out H1 => Q (.str out) H1
  | [], acc, H, ⟨ρ, st, ι, er, rl, p⟩ => p _ ι H (Step.refl _ _ _) rl (.str _)
  | m :: ms, acc, H, ⟨ρ, st, ι, er, rl, p⟩ => by
    refine ⟨ρ, st, ι, er, rl, post_bind p fun d s1 v ι1 H1 st1 rl1 rv p1 => ?_⟩
    cases rv with
    | str y =>
      dsimp only at p1
      split at p1
      · rename_i hl
        exact ⟨y, rfl, Nat.le_trans hl (by decide), js_of ⟨ρ, s1, ι1, er.step st1, rl1, p1⟩⟩
      · exact p1.elim
    | _ => exact p1.elim
theorem pd_joined {v1 v2 : Expr} {rest : List Expr} {ms : List DE} (h : PJD C (v1 :: v2 :: rest) ms) : PD C (.JoinedStr (v1 :: v2 :: rest) pos) (dJs ms Str.empty) := PE.imp (pe_joined h.to) fun σ H Q t => js_of t
end
end Den
set_option maxRecDepth 100000
set_option maxHeartbeats 2000000
namespace PySem
open StrLaws MeetsSeq SeqAt
section
variable {prog : Program} {w : World} {A : Around} {R : Result → Shared → Prop}
def Asks (prog : Program) (w : World) (A : Around) (E : Value → Shared → Prop) (l : Addr) (x : Value) (N : Nat) (e : Nat → Bool) (I : Nat → Shared → Prop) : Prop :=
  ∀ i s, I i s → ∃ (its : Array Value) (n : Nat) (dd : Option Addr) (sl : Array (Option Value)), s.heap.get? l = some { cls := .type "list", dict := dd, data := .seq its n, slots := sl } ∧ its.size = N ∧
    ∀ h : i < its.size, wpAny (model prog w) A.in1 (eqBool its[i] x) (fun r s' => r = e i ∧ I (i + 1) s') E s
def hits (e : Nat → Bool) : Nat → Nat
  | 0 => 0
  | i + 1 => hits e i + (if e i = true then 1 else 0)
end
end PySem
set_option maxRecDepth 100000
set_option maxHeartbeats 4000000
namespace Den
open PySem PySem.Spec PyProof.Rows L2
structure OwnQ (C : Ctx) (c k : Nat) (fa : Addr) (okF : List D → Bool) (f : List D → List D → Bool) (m : DF) : Prop where
  ex : ∃ fd ps, FnD C k fa fd ps m ∧ Binds C.T.K fd ps [] ∧ ps.length = 2
  eq : PySem.W.findIn C.T.K (.ref (C.T.ca c)) "__eq__" = some (some (.ref fa))
  fn : PySem.W.isFn C.T.K (.ref fa) = true
  hr : RoomG (k + 1) C.X.A
  tk : L2N.Takes C.X C.W
  hm : ∀ xs ys st, okF xs = true → okF ys = true → m [.ins c xs, .ins c ys] st = .ok (.bl (f xs ys)) st
  det : ∀ (xp : XT) (G : Hp) (ι : Io) (vs : List V) (xs ys : List D), RepL C.T xp G ι vs xs → RepL C.T xp G ι vs ys → okF xs = true → okF ys = true → f xs ys = true
section
variable {C : Ctx} {c k : Nat} {fa : Addr} {okF : List D → Bool} {f : List D → List D → Bool} {m : DF} {pins : List (Addr × Obj)} {σ : L2.St}
def Going (C : Ctx) (pins : List (Addr × Obj)) (σ : L2.St) (ι : Io) (st : Store) (H : Hp) (s' : Shared) : Prop := ∃ H' ι', Inv C.X pins σ H' s' ∧ RelSt C.T C.xp ι' st H' ∧ Step ι st H ι' st H'
def fieldsI : D → List D
  | .ins _ xs => xs
  | _ => []
def isOk (c : Nat) (okF : List D → Bool) : D → Bool
  | .ins c' xs => c' == c && okF xs
  | _ => false
def hitsE (f : List D → List D → Bool) (zs : List D) (ys : List D) (i : Nat) : Bool := match zs[i]? with
  | some z => f (fieldsI z) ys
  | none => false
end
end Den
set_option maxRecDepth 100000
set_option maxHeartbeats 4000000
namespace Den
open PySem PySem.Spec PyProof.Rows L2
section
variable {C : Ctx} {c k : Nat} {fa : Addr} {okF : List D → Bool} {f : List D → List D → Bool} {m : DF}
structure RowO (C : Ctx) (c : Nat) (okF : List D → Bool) (ι : Io) (st : Store) (H : Hp) (l x : V) (zs ys : List D) : Prop where
  rl : RelSt C.T C.xp ι st H
  rr : Rep C.T C.xp (hide ι st H) ι l (.lst zs)
  rx : Rep C.T C.xp (hide ι st H) ι x (.ins c ys)
  hz : zs.all (isOk c okF) = true
  hy : okF ys = true
def fInO (c : Nat) (okF : List D → Bool) (f : List D → List D → Bool) (x y : D) : Option D := match x, y with
  | .ins c' ys, .lst zs => if c' = c ∧ okF ys = true ∧ zs.all (isOk c okF) = true then some (.bl (zs.any fun z => f (fieldsI z) ys)) else none
  | _, _ => none
def rInO (C : Ctx) (c : Nat) (okF : List D → Bool) (f : List D → List D → Bool) (g : Bool → Bool) : R2 := fun x y H Q => ∃ ι st zs ys, RowO C c okF ι st H y x zs ys ∧ ∀ H' ι', Step ι st H ι' st H' → RelSt C.T C.xp ι' st H' → Q (.bl (g (zs.any fun z => f (fieldsI z) ys))) H'
def mCountO (c : Nat) (okF : List D → Bool) (f : List D → List D → Bool) : FM := fun d ds st => match d, ds with
  | .lst zs, [.ins c' ys] => if c' = c ∧ okF ys = true ∧ zs.all (isOk c okF) = true then some (.int ((zs.countP fun z => f (fieldsI z) ys) : Nat), st) else none
  | _, _ => none
def rCntO (C : Ctx) (c : Nat) (okF : List D → Bool) (f : List D → List D → Bool) : V → List V → Hp → VK → Prop := fun l xs H Q => ∃ x ι st zs ys, xs = [x] ∧ RowO C c okF ι st H l x zs ys ∧ ∀ H' ι', Step ι st H ι' st H' → RelSt C.T C.xp ι' st H' → Q (.int ((zs.countP fun z => f (fieldsI z) ys) : Nat)) H'
def mIndexO (c : Nat) (okF : List D → Bool) (f : List D → List D → Bool) : FM := fun d ds st => match d, ds with
  | .lst zs, [.ins c' ys] => if c' = c ∧ okF ys = true ∧ zs.all (isOk c okF) = true ∧ zs.length ≤ 100000 then (zs.findIdx? fun z => f (fieldsI z) ys).map fun j => (.int (j : Nat), st) else none
  | _, _ => none
def rIdxO (C : Ctx) (c : Nat) (okF : List D → Bool) (f : List D → List D → Bool) : V → List V → Hp → VK → Prop := fun l xs H Q => ∃ x ι st zs ys j, xs = [x] ∧ RowO C c okF ι st H l x zs ys ∧ zs.length ≤ 100000 ∧ (zs.findIdx? fun z => f (fieldsI z) ys) = some j ∧ ∀ H' ι', Step ι st H ι' st H' → RelSt C.T C.xp ι' st H' → Q (.int (j : Nat)) H'
end
end Den
set_option maxRecDepth 100000
set_option maxHeartbeats 1000000
namespace PySem
open StrLaws MeetsSeq SeqAt
section
variable {prog : Program} {w : World} {A : Around} {E : Value → Shared → Prop} {s : Shared} {a dx cl : Addr}
end
end PySem
namespace Den
open PySem PySem.Spec PyProof.Rows L2
inductive PlainT (K : PySem.W.Frag) (H : Hp) : V → String → Prop where
  | non : PlainT K H .non "NoneType"
  | bl (b : Bool) : PlainT K H (.bl b) "bool"
  | int (i : Int) : PlainT K H (.int i) "int"
  | str (z : Str) : PlainT K H (.str z) "str"
  | tup {p : Addr} {xs : List V} (h : SqT K H p xs) : PlainT K H (.ref p) "tuple"
  | lst {p : Addr} {xs : List V} (h : SqL K H p xs) : PlainT K H (.ref p) "list"
  | dic {p : Addr} {o : Obj} {kvs : List (Key × V)} (h : H p = some (.frz o (.dK kvs))) : PlainT K H (.ref p) "dict"
section
variable {X : Cx} {pins : List (Addr × Obj)} {σ : L2.St} {H : Hp} {s : Shared}
end
end Den
set_option maxRecDepth 100000
set_option maxHeartbeats 4000000
namespace Den
open PySem PySem.Spec PyProof.Rows L2
section
variable {prog : Program} {w : World} {A : Around} {E : Value → Shared → Prop} {s : Shared} {K : PySem.W.Frag} {a cl f : Addr} {ox : Obj} {od : Option Obj} {u : Value} {T : String}
end
def plainTy : D → Option String
  | .non => some "NoneType"
  | .bl _ => some "bool"
  | .int _ => some "int"
  | .str _ => some "str"
  | .tup _ => some "tuple"
  | .lst _ => some "list"
  | .dic _ _ => some "dict"
  | _ => none
structure OwnB (T : Txt) (c : Nat) (f : Addr) : Prop where
  eq : PySem.W.findIn T.K (.ref (T.ca c)) "__eq__" = some (some (.ref f))
  fn : PySem.W.isFn T.K (.ref f) = true
  sub : ∀ t ∈ ["NoneType", "bool", "int", "str", "tuple", "list", "dict"], PySem.W.subIn T.K (.ref (T.ca c)) (.type t) = some false
def gBackE (c : Nat) (m : DF) : F2 := fun x y st => if (plainTy x).isSome = true ∧ (fieldsOf c y st).isSome = true then (match m [y, x] st with
  | .ok (.bl b) s1 => some (.bl b, s1)
  | _ => none) else none
section
variable {C : Ctx} {c k : Nat} {f : Addr} {fd : FuncData} {ps : List Str} {m : DF}
def rBackE (C : Ctx) (c : Nat) (m : DF) : R2 := fun x y H Q => ∃ ι st dx dy t b s1, RelSt C.T C.xp ι st H ∧ Rep C.T C.xp (hide ι st H) ι x dx ∧ Rep C.T C.xp (hide ι st H) ι y dy ∧ plainTy dx = some t ∧ (fieldsOf c dy st).isSome = true ∧
  m [dy, dx] st = .ok (.bl b) s1 ∧ ∀ ι' H', Step ι st H ι' s1 H' → RelSt C.T C.xp ι' s1 H' → Q (.bl b) H'
end
end Den
set_option maxRecDepth 100000
set_option maxHeartbeats 4000000
namespace Den
open PySem PySem.Spec PyProof.Rows L2
def noneP : PyData → Bool
  | .none => true
  | _ => false
def fLtA (x y : D) : Option D := match toPy x, toPy y with
  | some p, some q => if PySem.W.alike p q = true ∧ noneP p = false ∧ p.depth ≤ 60 then some (.bl (PySem.W.dataLt p q)) else none
  | _, _ => none
def rLtA (K : PySem.W.Frag) : R2 := fun x y H Q => ∃ p q, Dp K H x p ∧ Dp K H y q ∧ PySem.W.alike p q = true ∧ noneP p = false ∧ p.depth ≤ 60 ∧ Q (.bl (PySem.W.dataLt p q)) H
section
variable {C : Ctx}
end
structure RowD (K : PySem.W.Frag) (H : Hp) (l x : V) (ps : List PyData) (p : PyData) : Prop where
  ex : ∃ a zs, l = .ref a ∧ SqL K H a zs ∧ DpAll K H zs ps
  rx : Dp K H x p
  pl : PyData.plainAll ps = true
  px : p.plain = true
  dp : p.depth ≤ 60
def dataRow (d x : D) (st : Store) : Option (List PyData × PyData) := match litemsOf d st with
  | some ds => match toPyL ds, toPy x with
    | some ps, some p => if PyData.plainAll ps = true ∧ p.plain = true ∧ p.depth ≤ 60 ∧ ps.length ≤ 100000 then some (ps, p) else none
    | _, _ => none
  | none => none
section
variable {X : Cx} {pins : List (Addr × Obj)} {σ : L2.St} {H : Hp} {s : Shared} {l x : V} {u v : Value} {ps : List PyData} {p : PyData}
def rInA (K : PySem.W.Frag) (g : Bool → Bool) : R2 := fun x y H Q => ∃ ps p, RowD K H y x ps p ∧ Q (.bl (g (ps.any fun z => PyData.eqv z p))) H
def rCntA (K : PySem.W.Frag) : V → List V → Hp → VK → Prop := fun l xs H Q => ∃ x ps p, xs = [x] ∧ RowD K H l x ps p ∧ Q (.int ((ps.countP fun z => PyData.eqv z p) : Nat)) H
def rIdxA (K : PySem.W.Frag) : V → List V → Hp → VK → Prop := fun l xs H Q => ∃ x ps p j, xs = [x] ∧ RowD K H l x ps p ∧ ps.length ≤ 100000 ∧ PySem.SeqAt.dataPlace ps p = some j ∧ Q (.int (j : Nat)) H
end
def fInS (g : Bool → Bool) : F2 := fun x y st => (dataRow y x st).map fun r => (.bl (g (r.1.any fun z => PyData.eqv z r.2)), st)
def mCountA : FM := fun d ds st => match ds with
  | [x] => (dataRow d x st).map fun r => (.int ((r.1.countP fun z => PyData.eqv z r.2) : Nat), st)
  | _ => none
def mIndexA : FM := fun d ds st => match ds with
  | [x] => (dataRow d x st).bind fun r => (PySem.SeqAt.dataPlace r.1 r.2).map fun j => (.int (j : Nat), st)
  | _ => none
section
variable {C : Ctx}
end
end Den
set_option maxRecDepth 100000
set_option maxHeartbeats 4000000
namespace Den
open PySem PySem.Spec PyProof.Rows L2
def SrcN (T : Txt) (xp : XT) (G0 : Hp) (ι0 : Io) (J : It) (ds : List D) : Prop := ∃ Gd : Hp → Prop, Walk J ds.length Gd (fun i H x H' => ∃ p v w dv dw, x = .ref p ∧ H p = none ∧ H' = upd H p (.tup [v, w]) ∧ ds[i]? = some (.tup [dv, dw]) ∧ Rep T xp G0 ι0 v dv ∧ Rep T xp G0 ι0 w dw) ∧ ∀ H', Le G0 H' → Gd H'
def tDIN (T : Txt) (xp : XT) (W : WX) (m : DIt) : TI := fun σ H R => ∃ ρ st ι, EnvR T xp (hide ι st H) ι ρ σ ∧ RelSt T xp ι st H ∧ Post T xp (fun c d H => W c d σ H) ι st H (fun G ι J ds => SrcN T xp G ι J ds) R (m ρ st)
abbrev PDIN (C : Ctx) (tg e : Expr) (m : DIt) : Prop := PI C.X tg e (tDIN C.T C.xp C.W m)
def iZipD (m : DA) : DIt := fun ρ st => (m ρ st).bind fun ds s1 => match ds with
  | [.lst xs, .lst ys] => .ok (List.zipWith (fun a b => D.tup [a, b]) xs ys) s1
  | _ => .bad
section
variable {C : Ctx} {tg iter e e2 : Expr} {mi : DIt} {ma : DA} {pos p tpos : Pos} {elts : List Expr} {kk : Nat} {g : TG} {gd : GD} {is : List Nat} {mb : DS} {bd : List Stmt}
def sForN (mi : DIt) (g : GD) (b : DS) : DS := fun ρ st => (mi ρ st).into ρ fun ds s1 => forL g b ds ρ s1
theorem pds_forN {n : Nat} (hp : PassesOwn (model C.X.prog C.X.w) C.X.A C.X.env C.X.xe) (hc : C.X.calm = true) (hi : PDIN C tg iter mi) (hg : PG C.X tg (gTup C.T.K n (gNames is))) (hd : TgD C.T C.T.K (gTup C.T.K n (gNames is)) (gT is) is) (hb : PDSs C bd mb) (hs : ∀ x, foldedSetIterable iter C.X.env x = pure x := by intro _; rfl) (hnl : n = is.length := by rfl) :
    PDS C (.For tg iter bd [] pos) (sForN mi (gT is) mb) :=
  PS.imp (ps_for hp hc hi hg hb hs) fun D σ H ⟨ρ, st, ι, er, rl, p⟩ => by
    refine ⟨ρ, st, ι, er, rl, post_into p er fun ds s1 J ι1 H1 st1 rl1 er1 ⟨Gd, wk, hG⟩ p1 => ?_⟩
    exact for_it wk (Left C.T C.xp C.W D (gT is) mb ds (hide ι1 s1 H1) ι1) ⟨ρ, s1, ι1, Le.refl _, Pre.refl _, rl1, er1, p1⟩
      (fun i σ' H' _ ⟨_, st', ι', hl, _, _⟩ => hG _ (hl.trans (hide_le _ _ _)))
      (fun i x σ' H' H'' hi hL ⟨t, v, w, dv, dw, ex, hn, eH, hd', rv, rw'⟩ => by
        subst ex eH
        obtain ⟨ρ', st', ι', hl, hp', rl', er', q⟩ := hL
        rw [drop_at hd'] at q
        obtain ⟨r2, s2, e2⟩ := rl'.new (o := .tup [v, w]) hn
        have rp : RepL C.T C.xp (hide ι' st' (upd H' t (.tup [v, w]))) ι' [v, w] [dv, dw] := .cons (rv.mono (hl.trans s2.ex) (hp'.trans s2.pre)) (.cons (rw'.mono (hl.trans s2.ex) (hp'.trans s2.pre)) .nil)
        exact turn_ofA (d := .tup [dv, dw]) (fun ρ3 Q3 hg3 h3 => tg_tupT hnl (er'.step s2) (.inl (.inl upd_same)) rp hg3 fun σ3 e3 _ => h3 σ3 e3) r2 (q.step s2)
          fun ρ2 s' σ2 ι2 H2 s r e p' => ⟨ρ2, s', ι2, (hl.trans s2.ex).trans s.ex, (hp'.trans s2.pre).trans s.pre, r, e, p'⟩)
      (fun σ' H' hL => left_end (Nat.le_refl _) hL)
end
end Den
set_option maxRecDepth 100000
set_option maxHeartbeats 4000000
namespace Den
open PySem PySem.Spec PyProof.Rows L2
def sFrzV (i : Nat) (m : DS) : DS := fun ρ st => match ρ[i]? with
  | some (some (.box k)) => (match st[k]? with
    | some (.lst xs) => m (ρ.set i (some (.lst xs))) (st.set k .dead)
    | _ => .bad)
  | some (some (.lst _)) => m ρ st
  | _ => .bad
theorem pds_frzV {C : Ctx} {ss : List Stmt} {m : DS} (i : Nat) (h : PDSs C ss m) : PDSs C ss (sFrzV i m) := PSs.imp h fun D σ H ⟨ρ, st, ι, er, rl, p⟩ => by
  unfold sFrzV at p
  split at p
  · rename_i k hk
    split at p
    · rename_i xs hs
      obtain ⟨v, hv, rv⟩ := er.at_ i _ hk
      cases rv with
      | @box _ a ha =>
        obtain ⟨ys, h1, h3⟩ := rl.ok k a _ ha hs
        obtain ⟨r, s, e⟩ := rl.freeze ha hs
        have er2 := (er.step s).set i (v := .ref a) (d := .lst xs) (.lst (e.trans h1) (h3.mono s.ex s.pre))
        have es : σ.set i (some (V.ref a)) = σ := by
          obtain ⟨li, e2⟩ := List.getElem?_eq_some_iff.mp hv
          rw [← e2, List.set_getElem_self]
        rw [es] at er2
        exact ⟨_, _, ι, er2, r, p.step s⟩
    · exact p.elim
  · exact ⟨ρ, st, ι, er, rl, p⟩
  · exact p.elim
end Den
set_option maxRecDepth 100000
set_option maxHeartbeats 4000000
namespace Den
open PySem PySem.Spec PyProof.Rows L2
structure DefO (P : Program) (w : World) (T : Txt) (mg : Str → Option Value) (base : Heap) (k c i : Nat) (nm : Str) (n : Nat) (m : DF) : Prop where
  ex : ∃ fd ps, FnG P w T.K mg base k (T.fa i) fd ps (spM T ps.length m) ∧ Binds T.K fd ps [] ∧ ps.length = n
  me : Meth T.K (T.ca c) nm (T.fa i)
theorem DefO.mono {P : Program} {w : World} {T : Txt} {mg : Str → Option Value} {base : Heap} {j k c i n : Nat} {nm : Str} {m : DF} (d : DefO P w T mg base j c i nm n m) (h : j ≤ k) : DefO P w T mg base k c i nm n m :=
  ⟨let ⟨fd, ps, a, b, e⟩ := d.ex; ⟨fd, ps, a.mono h, b, e⟩, d.me⟩
theorem defO_of {P : Program} {w : World} {mg : Str → Option Value} {base : Heap} {T : Txt} {x qual : Str} {st : Stmt} {N ps : List Str} {k c i : Nat} {nm : Str} {m : DS} (l : Lk T i x qual st) (me : Meth T.K (T.ca c) nm (T.fa i)) (S : FnScope N ps (defScope st))
    (hb : ∀ (kV doc pm : Value) (an : Option Addr) (cdv ct : Value) (us : List Value), us.length = ps.length → bindArgs (PySem.W.fnOf x qual (defArgs st) (defBody st) (defScope st) .none kV doc pm an cdv ct) ⟨us, []⟩ = pure (ps.zip us))
    (h : ∀ (cdv : Value) (A : Around) (outer : List Env) (s : Shared) (H : Hp) (E : XK) (xp : XT), Fit ⟨cxOf (L2N.CX P w) P w T.K mg base N qual (defScope st) (T.fa i) cdv A outer s H E, T, xp, fun c d _ H' => E c d H', rfl⟩ k →
      PassesOwn (model P w) (cxOf (L2N.CX P w) P w T.K mg base N qual (defScope st) (T.fa i) cdv A outer s H E).A (cxOf (L2N.CX P w) P w T.K mg base N qual (defScope st) (T.fa i) cdv A outer s H E).env (cxOf (L2N.CX P w) P w T.K mg base N qual (defScope st) (T.fa i) cdv A outer s H E).xe →
      PDSs ⟨cxOf (L2N.CX P w) P w T.K mg base N qual (defScope st) (T.fa i) cdv A outer s H E, T, xp, fun c d _ H' => E c d H', rfl⟩ (defBody st) m) :
    DefO P w T mg base (k + 1) c i nm ps.length (body N.length ps.length m) := by
  obtain ⟨fd, F⟩ := l.ex
  exact ⟨⟨fd, ps, fnD_of F S fun cdv A outer s H E xp hr => h cdv A outer s H E xp ⟨rfl, hr, takes_def⟩ passes_def, F.binds hb, rfl⟩, me⟩
section
variable {C : Ctx} {k c i n : Nat} {nm : Str} {m : DF} {own : List Nat} {nf : Tag → Bool} {a b e o : Expr} {es : List Expr} {ma mb mo : DE} {mr : DA} {pos apos p : Pos}
abbrev DefC (C : Ctx) (k c i : Nat) (nm : Str) (n : Nat) (m : DF) : Prop := DefO C.X.prog C.X.w C.T C.X.mg C.X.base k c i nm n m
theorem DefC.to (d : DefC C k c i nm n m) : ∃ fd ps, FnD C k (C.T.fa i) fd ps m ∧ Binds C.T.K fd ps [] ∧ ps.length = n := by
  obtain ⟨fd, ps, F, b, e⟩ := d.ex
  exact ⟨fd, ps, by rw [FnD, C.hK]; exact F, b, e⟩
theorem opE_own (ho : ∀ c ∈ own, ClsI C.T c) (hn : ∀ t, nf t = true → PySem.W.notFirst C.T.K (C.T.ca c) (tagV C.T t) = true) (d : DefC C k c i "__eq__" 2 m) (ft : Fit C k) : OpR C.X (compareOp .Eq) (rOwnE C c own nf m) := by
  obtain ⟨fd, ps, F, hb, hp⟩ := d.to
  exact op_ownE ho ⟨d.me.at_, d.me.fn, hn⟩ F hb ft.room ft.tk hp
theorem tyS_own (d : DefC C k c i "__str__" 1 m) (ft : Fit C (k + 2)) : TyD C "str" (gOwnT c m) := by
  obtain ⟨fd, ps, F, hb, hp⟩ := d.to
  exact ty_ownS ⟨d.me.at_, d.me.fn⟩ F hb ft.room ft.tk hp
theorem bltL_own (d : DefC C k c i "__len__" 1 m) (ft : Fit C (k + 1)) : BltD C "len" (gOwnL c m) := by
  obtain ⟨fd, ps, F, hb, hp⟩ := d.to
  exact blt_ownL ⟨d.me.at_, d.me.fn⟩ F hb ft.room ft.tk hp
theorem pdt_cmpS {op : CmpOp} {r : R2} {g : F2} (h1 : OpR C.X (compareOp op) r) (h2 : OpSD C r g) (ha : PD C a ma) (hb : PD C b mb) (hm : behindInMarks op b = false) : PDT C (.Compare a [op] [b] pos) (asB (dOpS g ma mb)) :=
  PT.imp (pt_cmpR h1 ha hb hm) (asB_of (tOpS_of h2))
def dMethA (c n : Nat) (m : DF) (o : DE) (a : DA) : DE := dMeth c n 0 (fun us _ => us) m o a dNil
end
end Den
set_option maxRecDepth 100000
set_option maxHeartbeats 4000000
namespace Den
open PySem PySem.Spec PyProof.Rows L2
def lcEndN (m : Res (List D)) : Res D := m.bind fun ys s1 => if ys.length ≤ 100000 then .ok (.box s1.length) (s1 ++ [.lst ys]) else .bad
def LeftN (T : Txt) (xp : XT) (W : Value → Option Addr → Hp → Prop) (Q : VK) (g : GD) (t : DT) (e : DE) (ρ : Rho) (ds : List D) (ι1 : Io) (s1 : Store) (H1 : Hp) (p : Addr) (i : Nat) (H : Hp) : Prop :=
  ∃ st ι acc ys, Step (ι1.under p) s1 (upd H1 p (.lst [])) ι st (upd H p (.lst [])) ∧ RelSt T xp ι st H ∧ H p = some (.lst acc) ∧ RepL T xp (hide ι st H) ι acc ys ∧ ys.length ≤ i ∧
    Post T xp W ι1 s1 H1 (Rep T xp) Q (lcEndN ((lcL g t e ρ (ds.drop i) st).bind fun zs s2 => .ok (ys ++ zs) s2))
section
variable {C : Ctx} {g : TG} {gd : GD} {is : List Nat} {t : DT} {e : DE} {vs : List Nat}
end
def dLcN (mi : DIt) (g : GD) (t : DT) (e : DE) (vs : List Nat) : DE := fun ρ st => (mi ρ st).bind fun ds s1 => if ds.length ≤ 100000 then lcEndN (lcL g t e (wipeD ρ vs) ds s1) else .bad
section
variable {C : Ctx} {tg iter tg1 iter1 elt : Expr} {ifs ifs1 : List Expr} {scope : Scope} {own : List (Str × Nat)} {pos spos py : Pos} {mi mi1 : DIt} {g g1 : TG} {gd gd1 : GD} {is is1 vs1 : List Nat} {t t1 : DT} {e de : DE} {i : Nat} {y : Str}
end
def gListN : FB := fun ds st => match ds with
  | [x] => (itemsOf x st).map fun xs => (.box st.length, st ++ [.lst xs])
  | _ => none
end Den
set_option maxRecDepth 100000
set_option maxHeartbeats 4000000
namespace Den
open PySem PySem.Spec PyProof.Rows L2
def sRaiseE (c n m : Nat) (dds : List D) (g : (α : Type) → List α → List α → List α → List α) (a k : DA) : DS := fun ρ st => (a ρ st).into ρ fun ds s1 => (k ρ s1).into ρ fun es s2 =>
  if ds.length = n ∧ es.length = m then .exc c (g D ds dds es) ρ s2 else .bad
theorem lookup_turned {f : Str} {ns : List Str} {xs : List V} (nd : ns.Nodup) (hl : ns.length = xs.length) : (ns.zip xs).reverse.lookup f = (ns.zip xs).lookup f := by
  by_cases h : f ∈ ns
  · obtain ⟨i, hi⟩ := List.getElem?_of_mem h
    rw [lookup_rev nd hl hi, lookup_zip nd hi]
  · rw [lookup_rev_no h, lookup_zip_no h]
theorem exd_same {d : Addr} {fs fs' : List (Str × V)} (h : ∀ f : Str, fs.lookup f = fs'.lookup f) : exd d fs = exd d fs' := by
  have e : (fun f : Str => fs.lookup f) = fun f : Str => fs'.lookup f := funext h
  have q : ∀ (g g' : Str → Option V), g = g' → (HO.ext fun hh => ∃ mA, hh.Ns1 d mA ∧ ∀ f, RelO (g f) (mA f)) = HO.ext fun hh => ∃ mA, hh.Ns1 d mA ∧ ∀ f, RelO (g' f) (mA f) := fun g g' e => by rw [e]
  exact q _ _ e
section
variable {C : Ctx} {c n : Nat} {ps ks : List Str} {dds : List D} {g : (α : Type) → List α → List α → List α → List α} {x : Str} {p pos pos' : Pos} {e : Expr} {es : List Expr} {kws : List Keyword} {ma mk : DA} {ways : List (Nat × List Str × List D × ((α : Type) → List α → List α → List α → List α))}
theorem err_fly {pins : List (Addr × Obj)} {s : Shared} {σ : L2.St} {H : Hp} {us ws : List Value} {vs zs : List V} {ds ess : List D} {st : Store} {ι : Io} {Q : XK} (M : MkE C.X.prog C.X.w C.T C.X.mg C.X.base c x ps ways) (hw : (n, ks, dds, g) ∈ ways) (hr : RoomG 2 C.X.A) (tk : L2N.Takes C.X C.W)
    (I : Inv C.X pins σ H s) (r : Vals vs us) (rz : Vals zs ws) (l1 : vs.length = n) (l2 : zs.length = ks.length) (rd : RepL C.T C.xp (hide ι st H) ι vs ds) (re : RepL C.T C.xp (hide ι st H) ι zs ess) (rl : RelSt C.T C.xp ι st H) (few : us.length ≤ sizeLine) (hne : C.T.fl c ≠ []) (r1 : PySem.W.subIn C.T.K (.ref (C.T.ca c)) (.type "BaseException") = some true) (r2 : PySem.W.typeIn C.T.K (.ref (C.T.ca c)) = some (.type "type"))
    (h : ∀ H' dx, Step ι st H ι st H' → RelSt C.T C.xp ι st H' → XdR C.T C.xp ι st H' dx c (g D ds dds ess) → Q (.ref (C.T.ca c)) dx H') : wpAny (model C.X.prog C.X.w) C.X.A (call (.ref (C.T.ca c)) us (ks.zip ws)) (L2N.MkP C.X pins σ Q) C.X.xe s := by
  obtain ⟨f, fd, B, nid, iid, bmB, FB, K0, fi, tf, F, hb⟩ := M.ex
  obtain ⟨⟨dvs, its, rdv, rdd, hlen, hbind⟩, hrel, hrep⟩ := hb _ hw
  dsimp only at hlen hbind hrel hrep
  have kin0 : C.T.K.In s.heap := by rw [← C.hK]; exact I.kIn
  obtain ⟨nm, N, qn, bs, bm, hdct, sn, sub, ab, col, dd, k0, k1, k2, k3, k5, hc, hT⟩ := PySem.W.excInit_of kin0 K0.q
  obtain ⟨hp, gs, dr, t0, os⟩ := s
  have sz : hp.objs.size ≤ hp.objs.size + 1 := Nat.le_succ _
  have na : H (hp.objs.size + 1) = none := I.hok.fresh sz
  have kp : ∀ (b : Addr) (o : Obj), hp.get? b = some o → ((hp.push (PySem.W.kdv_tup us)).push (HandSPX.excO (C.T.ca c) hp.objs.size)).get? b = some o := fun b o z => Heap.get?_push_of_some _ (Heap.get?_push_of_some _ z)
  have hg : ((hp.push (PySem.W.kdv_tup us)).push (HandSPX.excO (C.T.ca c) hp.objs.size)).get? (hp.objs.size + 1) = some (HandSPX.excO (C.T.ca c) hp.objs.size) := by heap_get
  have I2 : Inv C.X pins σ (upd H (hp.objs.size + 1) (exo (hp.objs.size + 1) (C.T.ca c) none)) ⟨(hp.push (PySem.W.kdv_tup us)).push (HandSPX.excO (C.T.ca c) hp.objs.size), gs, dr, t0, os⟩ :=
    I.laid (t' := t0) (a := hp.objs.size + 1) (o := exo (hp.objs.size + 1) (C.T.ca c) none) (h' := (hp.push (PySem.W.kdv_tup us)).push (HandSPX.excO (C.T.ca c) hp.objs.size)) kp sz (exo_ok hg)
  have lw : (g V vs dvs zs).length = (C.T.fl c).length := by
    have := hlen vs zs l1 l2
    rw [M.len] at this
    omega
  have z := F.run _ C.X.stack _ _ ⟨Value.ref (hp.objs.size + 1) :: us, ks.zip ws⟩ (Value.ref (hp.objs.size + 1) :: g Value us its ws) (V.ref (hp.objs.size + 1) :: g V vs dvs zs)
    (fun v H2 => v = V.non ∧ ∃ d : Addr, H d = none ∧ d ≠ hp.objs.size + 1 ∧ H2 = upd (upd (upd H (hp.objs.size + 1) (exo (hp.objs.size + 1) (C.T.ca c) none)) (hp.objs.size + 1) (exo (hp.objs.size + 1) (C.T.ca c) (some d))) d (exd d ((C.T.fl c).zip (g V vs dvs zs)).reverse)) (fun c d H' => C.W c d σ H')
    (RoomG.make (k := 1) hr (C.T.ca c) us (ks.zip ws)) (C.hK ▸ I2.env0.make (C.T.ca c) us (ks.zip ws)) (hbind _ _ us ws (by rw [← C.hK]; exact I2.kIn) (r.length.symm.trans l1) (rz.length.symm.trans l2)) (.cons rfl (hrel r rdv rz))
    ⟨_, _, rfl, lw, upd_same, fun d hd nd => ⟨rfl, d, by rw [upd_ne nd] at hd; exact hd, nd, rfl⟩⟩
  refine wpAny_call (class_called (kw := ks.zip ws) FB hT hc (PySem.W.looks_findIn kin0 fi) (fun self => PySem.W.bind_fn kin0 self tf) few (codeAny_mono z fun res s' q => ?_))
  match res, q with
  | .error e', q' => exact ends_of I2 tk (fun _ _ _ h => h) q'
  | .ok (.ret u), q' =>
    obtain ⟨v, H2, os2, bare2, un2, hok2, rv, ev, d, hd, nd, eH⟩ := q'
    subst ev
    rw [upd_upd, exd_same (fun f => lookup_turned M.nd lw.symm)] at eH
    subst eH
    obtain ⟨h2, g2, d2, t2, os'⟩ := s'
    obtain ⟨tz, G, J, kG, ge, hoe, na2⟩ := mk_end0 (d2 := d2) (t2 := t2) I sz kp un2 hok2 os2 bare2 (by rw [upd_ne (Ne.symm nd), upd_same]) (upd_same) hd
    have eH : upd (del (upd (upd H (hp.objs.size + 1) (exo (hp.objs.size + 1) (C.T.ca c) (some d))) d (exd d ((C.T.fl c).zip (g V vs dvs zs)))) (hp.objs.size + 1)) d (.xd ((C.T.fl c).zip (g V vs dvs zs))) = upd H d (.xd ((C.T.fl c).zip (g V vs dvs zs))) := by
      funext b
      by_cases e1 : b = d
      · rw [e1, upd_same, upd_same]
      · rw [upd_ne e1, upd_ne e1]
        by_cases e2 : b = hp.objs.size + 1
        · rw [e2, del_same, na]
        · rw [del_ne e2, upd_ne e1, upd_ne e2]
    rw [eH] at J na2
    obtain ⟨rb, sb, eb⟩ := rl.new (p := d) (o := .xd ((C.T.fl c).zip (g V vs dvs zs))) hd
    refine ⟨rv, ⟨_, _, _, ⟨G, g2, d2, t2, os'⟩, _, .ref (C.T.ca c), some d, rfl, J, kG, ge, hoe, ⟨rfl, rfl, fun vs e => by cases e; rfl⟩, rfl, rfl, na2, rfl, bare2, raises_own (by rw [C.hK]; exact r1) (by rw [C.hK]; exact r2), ?_⟩⟩
    refine h _ _ sb rb (.inr ⟨d, g V vs dvs zs, rfl, upd_same, eb.trans upd_same.symm, by rw [lw]; exact Nat.le_refl _, (hrep _ _ _ rd (rdd _ _ _) re).mono sb.ex sb.pre, fun z => ?_⟩)
    have lz := (hrep C.xp (hide ι st H) ι rd (rdd _ _ _) re).length
    rw [z, lw] at lz
    exact hne (List.eq_nil_of_length_eq_zero lz)
  | .ok .next, q' => exact False.elim q'
  | .ok .brk, q' => exact False.elim q'
  | .ok .cont, q' => exact False.elim q'
theorem pds_raiseE (M : MkE C.X.prog C.X.w C.T C.X.mg C.X.base c x ps ways) (hw : (n, ks, dds, g) ∈ ways) (ft : Fit C 2) (hc : C.X.calm = true) (hne : C.T.fl c ≠ []) (r1 : PySem.W.subIn C.T.K (.ref (C.T.ca c)) (.type "BaseException") = some true) (r2 : PySem.W.typeIn C.T.K (.ref (C.T.ca c)) = some (.type "type")) (hg : Gl C.X x) (ha : PDA C (e :: es) ma) (hkw : PDK C kws mk) (hn : n ≤ 1000)
    (hall : (backToKw pos (keywordEach kws C.X.env)).all (·.1.isSome) = true := by rfl) (hks : (backToKw pos (keywordEach kws C.X.env)).filterMap (·.1) = ks := by rfl) (hdb : (x == ("__debug__" : Str)) = false := by decide)
    (he : starEach (e :: es) C.X.env = (false, eval e C.X.env) :: starEach es C.X.env := by rfl) (hpl : ((backTo pos (starEach (e :: es) C.X.env)).any (·.1) || (backToKw pos (keywordEach kws C.X.env)).any (·.1.isNone)) = false := by rfl) :
    PDS C (.Raise (some (.Call (.Name x p) (e :: es) kws pos)) none pos') (sRaiseE c n ks.length dds g ma mk) := by
  have kc : PySem.W.keepIn C.X.K (.ref (C.T.ca c)) = true := by
    obtain ⟨f, fd, B, nid, iid, bmB, FB, K0, _⟩ := M.ex
    rw [C.hK]
    exact K0.kp
  have pm : L2N.PMk C.X (.Call (.Name x p) (e :: es) kws pos) (fun σ H Q => (∀ cls d H', C.W cls d σ H' → C.W cls d σ H') ∧ tDA C.T C.xp C.W ma σ H fun vs H1 => tDA C.T C.xp C.W mk σ H1 fun zs H2 => ∃ ds ess st ι, vs.length = n ∧ zs.length = ks.length ∧
      RepL C.T C.xp (hide ι st H2) ι vs ds ∧ RepL C.T C.xp (hide ι st H2) ι zs ess ∧ RelSt C.T C.xp ι st H2 ∧ ∀ H' dx, Step ι st H2 ι st H' → RelSt C.T C.xp ι st H' → XdR C.T C.xp ι st H' dx c (g D ds dds ess) → Q (.ref (C.T.ca c)) dx H') := by
    intro pins s σ H Q I ⟨_, h⟩
    refine wpAny_Call_Name_kw (ld_glob I hg M.g ?_ hdb)
    refine args_call (first := []) (Q := L2N.MkP C.X pins σ Q) (ks := ks) ha hkw I kc (h.imp (fun ρ h => h.imp fun st h => h.imp fun ι h => ?_)) hall hks he hpl
    obtain ⟨er, rl, hp⟩ := h
    refine ⟨er, rl, ?_⟩
    cases hm : ma ρ st with
    | bad => rw [hm] at hp; exact hp.elim
    | exc c2 xs s1 => rw [hm] at hp; exact hp
    | ok d s1 =>
      rw [hm] at hp
      intro v ι1 H1 st1 rl1 rv
      obtain ⟨ρ2, s2, ι2, er2, rl2, h2⟩ := hp v ι1 H1 st1 rl1 rv
      refine ⟨ρ2, s2, ι2, er2, rl2, ?_⟩
      cases hk : mk ρ2 s2 with
      | bad => rw [hk] at h2; exact h2.elim
      | exc c2 xs s1 => rw [hk] at h2; exact h2
      | ok d2 s3 =>
        rw [hk] at h2
        intro v2 ι3 H3 st3 rl3 rv3
        obtain ⟨ds, ess, st, ι, l1, l2, ra, rb, rc, q⟩ := h2 v2 ι3 H3 st3 rl3 rv3
        intro us ws s4 I4 rr rz
        exact err_fly M hw ft.room ft.tk I4 rr rz l1 l2 ra rb rc (by
          show us.length ≤ sizeLine
          rw [← rr.length, l1]
          exact Nat.le_trans hn (by decide)) hne r1 r2 q
  refine PS.imp (L2N.ps_raise hc ft.tk pm) fun D σ H ⟨ρ, st, ι, er, rl, pp⟩ => ⟨fun _ _ _ h => h, ρ, st, ι, er, rl, post_into pp er fun ds s1 vs ι1 H1 st1 rl1 er1 rv p1 => ⟨ρ, s1, ι1, er1, rl1, post_into p1 er1 fun ess s2 zs ι2 H2 st2 rl2 er2 rz p2 => ?_⟩⟩
  split at p2
  · rename_i hl
    exact ⟨ds, ess, s2, ι2, rv.length.trans hl.1, rz.length.trans hl.2, rv.mono st2.ex st2.pre, rz, rl2, fun H' dx s' r' xd => p2 σ ι2 H' dx s' r' (er2.step s') xd⟩
  · exact p2.elim
end
def rIsHA (C : Ctx) : List V → Hp → VK → Prop := fun xs H Q => ∃ (a : Addr) (c : Nat) (d : Option Addr) (k : V) (cv : Value) (b : Bool), (a, c, d) ∈ C.xp ∧ (∀ dd, d = some dd → ∃ fs, H dd = some (.xd fs)) ∧ ExcC C.T.K (C.T.ca c) ∧ xs = [.ref a, k] ∧ ClsV k cv ∧ PySem.W.kitOne C.T.K (.ref (C.T.ca c)) cv = some b ∧ Q (.bl b) H
theorem inst_heldA {C : Ctx} (hh : Held C) {pins : List (Addr × Obj)} {σ : L2.St} {H : Hp} {s : Shared} (I : Inv C.X pins σ H s) {a : Addr} {c : Nat} {d : Option Addr} (h : (a, c, d) ∈ C.xp) (hd : ∀ dd, d = some dd → ∃ fs, H dd = some (.xd fs)) : ∃ oe od, PySem.W.InstAt s.heap a oe (C.T.ca c) od := by
  obtain ⟨oe, hp, hz, vs, hv⟩ := hh _ h
  obtain ⟨hget, _⟩ := I.pin (a, oe) (List.mem_append.mpr (.inl hp))
  obtain ⟨oc, od, oda, osl⟩ := oe
  obtain ⟨h1, h2⟩ := hz
  dsimp only at h1 h2 hv
  subst h1 h2 hv
  cases od with
  | none => exact ⟨_, none, hget, rfl, rfl, trivial⟩
  | some dd =>
    obtain ⟨fs, hx⟩ := hd dd rfl
    have hk : ObjOk C.X.prog C.X.w H s.heap dd (.xd fs) := I.hok dd _ hx
    obtain ⟨mA, hns, _⟩ := hk
    obtain ⟨od, ho, _⟩ := lookIn_ns hns
    exact ⟨_, some od, hget, rfl, rfl, ho⟩
theorem call_isHA {C : Ctx} (hh : Held C) : CallR C.X (.builtin "isinstance") (rIsHA C) := by
  intro pins s σ H xs us Q I r h
  obtain ⟨a, c, d, k, cv, b, hx, hd, cc, rfl, hk, e, q⟩ := h
  obtain ⟨u1, u2, rfl, r1, r2⟩ := vals2 r
  cases r1
  have ec := hk.eq r2
  subst ec
  obtain ⟨oe, od, J⟩ := inst_heldA hh I hx hd
  have kin : C.T.K.In s.heap := by rw [← C.hK]; exact I.kIn
  exact PySem.W.kia_one (PySem.W.kitx_exc (exc_cls cc) cc.hg cc.hk cc.hs cc.ha cc.hn cc.ht cc.hm) kin J e (fun z => nomatch z) fun tk => ⟨.bl b, H, I.kept (t' := tk) fun _ _ z => z, rfl, q⟩
def bIsHA (es : List Nat) (isT : Tag → Tag → Option Bool) : FB := fun ds st => match ds with
  | [.exc c _, k] => if c ∈ es then (match clsA k with
    | some u => (isT (.ow c) u).map fun b => (.bl b, st)
    | none => none) else none
  | _ => none
section
variable {C : Ctx} {isT : Tag → Tag → Option Bool}
theorem held_ofA {H : Hp} {st : Store} {ι : Io} {v : V} {c : Nat} {ds : List D} (r : Rep C.T C.xp (hide ι st H) ι v (.exc c ds)) : ∃ a d, v = .ref a ∧ (a, c, d) ∈ C.xp ∧ ∀ dd, d = some dd → ∃ fs, H dd = some (.xd fs) := by
  cases r with
  | exc h _ => exact ⟨_, none, rfl, h, fun _ z => by cases z⟩
  | excd h g _ _ _ => exact ⟨_, _, rfl, h, fun dd z => by cases z; exact ⟨_, hide_sub g⟩⟩
theorem blt_isHA {es : List Nat} (hh : Held C) (hc : ∀ c ∈ es, ExcC C.T.K (C.T.ca c)) (hi : IsT C.T isT) : BltD C "isinstance" (bIsHA es isT) := ⟨_, call_isHA hh, fun ι st H xs ds d st' Q rl rx e k => by
  unfold bIsHA at e
  split at e
  · rename_i c zs kk
    split at e
    · rename_i hm
      split at e
      · rename_i u h2
        obtain ⟨b, hb, e'⟩ := Option.map_eq_some_iff.mp e
        cases e'
        obtain ⟨v, w, rfl, rv, rw'⟩ := repL_two rx
        obtain ⟨a, dd, rfl, hx, hd⟩ := held_ofA rv
        exact ⟨a, c, dd, w, _, b, hx, hd, hc c hm, rfl, clsA_rep rw' h2, hi _ _ _ hb, k _ ι H (Step.refl _ _ _) rl (.bl b)⟩
      · cases e
    · cases e
  · cases e⟩
end
def dFldX (c i : Nat) (o : DE) : DE := fun ρ st => (o ρ st).bind fun d s1 => match d with
  | .exc c' xs => if c' = c then (match xs[i]? with
    | some x => .ok x s1
    | none => .bad) else .bad
  | _ => .bad
section
variable {C : Ctx} {c i : Nat} {o : Expr} {mo : DE} {pos : Pos}
theorem pd_fldX {fn : Str} (hh : Held C) (hc : ErrF C.T c) (nd : (C.T.fl c).Nodup) (hi : (C.T.fl c)[i]? = some fn) (ho : PD C o mo) (hb : attributeBase o fn C.X.env (eval o C.X.env) = eval o C.X.env := by rfl) : PD C (.Attribute o fn pos) (dFldX c i mo) := by
  refine ⟨fun pins s σ H Q I ⟨ρ, st, ι, er, rl, h⟩ => ?_⟩
  refine attr_of hb (thn (ho.run pins s σ H _ I ⟨ρ, st, ι, er, rl, post_bind (Q := fun v H1 => ∃ (a d : Addr) (fs : List (Str × V)) (y : V), v = .ref a ∧ (a, c, some d) ∈ C.xp ∧ H1 d = some (.xd fs) ∧ fs.lookup fn = some y ∧ Q y H1) h fun d s1 v ι1 H1 st1 rl1 rv p1 => ?_⟩) fun u s1 hu => ?_)
  · cases rv with
    | exc h1 e =>
      subst e
      simp at p1
      exact p1.elim
    | excd h1 h2 h3 h4 h5 =>
      rename_i a d c' xs ds
      dsimp only at p1
      split at p1
      · rename_i ec
        subst ec
        cases hx : ds[i]? with
        | none =>
          rw [hx] at p1
          exact p1.elim
        | some y =>
          rw [hx] at p1
          obtain ⟨u, hu, ru⟩ := h4.get hx
          exact ⟨_, _, _, u, rfl, h1, hide_sub h2, (lookup_zip nd hi).trans hu, p1 u ι1 H1 (Step.refl _ _ _) rl1 ru⟩
      · exact p1.elim
    | _ => exact p1.elim
  · obtain ⟨v, H1, I1, rv, a, d, fs, y, rfl, ha, hd, hl, q⟩ := hu
    obtain rfl : u = Value.ref a := rv
    obtain ⟨oe, hp, hz, vs, hv⟩ := hh _ ha
    obtain ⟨hget, _⟩ := I1.pin (a, oe) (List.mem_append.mpr (.inl hp))
    obtain ⟨oc, od0, oda, osl⟩ := oe
    obtain ⟨z1, z2⟩ := hz
    dsimp only at z1 z2 hv
    subst z1 z2 hv
    have hk : ObjOk C.X.prog C.X.w H1 s1.heap d (.xd fs) := I1.hok d _ hd
    obtain ⟨mA, hns, rel⟩ := hk
    obtain ⟨od, hod, hlk⟩ := lookIn_ns hns
    obtain ⟨z, hz, rz⟩ := RelO.some_of (v := y) (o := mA fn) (by rw [← hl]; exact rel fn)
    have kin : C.T.K.In s1.heap := by rw [← C.hK]; exact I1.kIn
    have J : PySem.W.InstAt s1.heap a _ (C.T.ca c) (some od) := ⟨hget, rfl, rfl, hod⟩
    exact HandSPX.exc_get kin J hc.xf.ga hc.xf.gg hc.xf.exC (PySem.W.findObj_own hc.xf.hdC (hc.no fn (List.mem_of_getElem? hi)) rfl (by rw [hlk, hz])) (handed_of rz) ⟨y, H1, I1.tok _, rz, q⟩
end
end Den
set_option maxRecDepth 100000
set_option maxHeartbeats 4000000
namespace Den
open PySem PySem.Spec PyProof.Rows L2
section
variable {C : Ctx}
theorem ty_listN : TyD C "list" gListN := ⟨_, call_list_of, fun ι st H xs ds d st' Q rl rx e k => by
  unfold gListN at e
  split at e
  · rename_i x
    obtain ⟨ys, hy, e'⟩ := Option.map_eq_some_iff.mp e
    cases e'
    obtain ⟨v, rfl, rv⟩ := repL_one rx
    obtain ⟨a, zs, rfl, hs, rs⟩ := items_rep rl rv hy
    refine ⟨a, zs, rfl, by rw [C.hK]; exact hs, fun l hl => ?_⟩
    obtain ⟨ra, sa⟩ := rl.newMut (o := .lst zs) (c := .lst ys) hl rfl fun ι' q => ⟨zs, upd_same, rs.mono (Le.refl _) q⟩
    exact k _ _ _ sa ra (.box (by rw [← rl.len]; exact ι.add_at l))
  · cases e⟩
def gIntS (x : D) (_ : Store) : Option D := match x with
  | .str z => if z.length ≤ 640 then (PySem.intText? z).map D.int else none
  | _ => none
def mStrip : FM := fun d ds st => match d, ds with
  | .str a, [.str b] => if a.length ≤ 1000000 then some (.str (Txt.stripChars a b), st) else none
  | _, _ => none
theorem RepL.erase {T : Txt} {xp : XT} {G : Hp} {ι : Io} : ∀ {v : List V} {d : List D} (n : Nat), RepL T xp G ι v d → RepL T xp G ι (v.eraseIdx n) (d.eraseIdx n)
  | _, _, _, .nil => .nil
  | _, _, 0, .cons _ r => r
  | _, _, n + 1, .cons h r => .cons h (r.erase n)
def mPopAt : FM := fun d ds st => match d, ds with
  | .box k, [.int i] => match st[k]? with
    | some (.lst xs) => if -(2 ^ 63) ≤ i ∧ i < 2 ^ 63 then (match (seqIndex? i xs.length).bind fun j => xs[j]?.map fun y => (j, y) with
      | some (j, y) => some (y, st.set k (.lst (xs.eraseIdx j)))
      | none => none) else none
    | _ => none
  | _, _ => none
theorem mt_popAtD : MtD C "list" "pop" mPopAt := ⟨_, _, PySem.F.plainAttrs_list, PySem.F.slot_list_pop, PySem.F.type_list_pop, mt_popAt, fun ι st H x xs dx ds d st' Q rl rx rs e k => by
  unfold mPopAt at e
  split at e
  · rename_i bk i
    split at e
    · rename_i zs hz
      split at e
      · rename_i hi
        split at e
        · rename_i j y hj
          cases e
          obtain ⟨j', hj1, hj2⟩ := Option.bind_eq_some_iff.mp hj
          obtain ⟨y', hy, hj3⟩ := Option.map_eq_some_iff.mp hj2
          cases hj3
          obtain ⟨v, rfl, rv⟩ := repL_one rs
          cases rv
          cases rx with
          | box hk =>
            obtain ⟨ws, hw, rw'⟩ := rl.ok _ _ _ hk hz
            obtain ⟨u, hu, ru⟩ := rw'.get hy
            refine ⟨_, ws, i, j, u, rfl, rfl, hw, hi.1, hi.2, by rw [rw'.length]; exact hj1, hu, ?_⟩
            obtain ⟨r2, s2⟩ := rl.write (o := .lst (ws.eraseIdx j)) (c' := .lst (zs.eraseIdx j)) hk hz rfl rfl ⟨_, upd_same, rw'.erase j⟩
            exact k _ ι _ s2 r2 (ru.mono s2.ex s2.pre)
        · cases e
      · cases e
    · cases e
  · cases e⟩
def mInsert : FM := fun d ds st => match d, ds with
  | .box k, [.int i, y] => match st[k]? with
    | some (.lst xs) => if xs.length < 100000 ∧ 0 ≤ i ∧ i < 2 ^ 63 then some (.non, st.set k (.lst (xs.take i.toNat ++ [y] ++ xs.drop i.toNat))) else none
    | _ => none
  | _, _ => none
def dRevL (a : DE) : DE := fun ρ st => (a ρ st).bind fun d s1 => match litemsOf d s1 with
  | some xs => .ok (.lst xs.reverse) s1
  | none => .bad
end
end Den
set_option maxRecDepth 100000
set_option maxHeartbeats 4000000
namespace Den
open PySem PySem.Spec PyProof.Rows L2
def ItC (K : PySem.W.Frag) (n : Int) (a : Addr) : It :=
  ⟨fun i H => ∃ (xs : List V) (x : V), SqL K H a xs ∧ xs[i]? = some x, fun i H v H' => ∃ t x, v = .ref t ∧ H t = none ∧ H' = upd H t (.tup [.int (n + (i : Nat)), x]) ∧ ∀ xs, SqL K H a xs → xs[i]? = some x, fun i H => ∃ xs : List V, SqL K H a xs ∧ xs.length = i⟩
def numbered (n : Int) : List D → List D
  | [] => []
  | x :: xs => .tup [.int n, x] :: numbered (n + 1) xs
def iEnumD (n : Int) (a : DE) : DIt := fun ρ st => (a ρ st).bind fun d s1 => match d with
  | .lst xs => .ok (numbered n xs) s1
  | .ro xs => .ok (numbered n xs) s1
  | _ => .bad
section
variable {C : Ctx} {tg e : Expr} {ma : DE} {pos p tpos cp kp : Pos} {elts : List Expr} {kk j : Nat} {n : Int}
end
end Den
set_option maxRecDepth 100000
set_option maxHeartbeats 4000000
namespace Den
open PySem PySem.Spec PyProof.Rows L2
def gStar (K : PySem.W.Frag) (i j : Nat) : TG := fun v σ H Q => ∃ a x xs, v = .ref a ∧ SqL K H a (x :: xs) ∧ xs.length ≤ 16000 ∧ ∀ p, H p = none → Q ((σ.set i (some x)).set j (some (.ref p))) (upd H p (.lst xs))
def gS (i j : Nat) : GD := fun d ρ => match d with
  | .lst (x :: xs) => if xs.length ≤ 16000 then some ((ρ.set i (some x)).set j (some (.lst xs))) else none
  | _ => none
def sStar (i j : Nat) (a : DE) : DS := fun ρ st => (a ρ st).into ρ fun d s1 => match gS i j d ρ with
  | some ρ' => .nx ρ' s1
  | none => .bad
end Den
set_option maxRecDepth 100000
set_option maxHeartbeats 4000000
namespace PySem
open StrLaws SeqAt MeetsSeq MeetsSeq2 MeetsSeq3 SeqRoads2
section
variable {prog : Program} {w : World} {A : Around} {R : Result → Shared → Prop}
def Twos (prog : Program) (w : World) (A : Around) (E : Value → Shared → Prop) (l b : Addr) (N : Nat) (e : Nat → Bool) (I : Shared → Prop) : Prop :=
  ∀ s, I s → ∃ (xs ys : Array Value) (n m : Nat) (dx dy : Option Addr) (sx sy : Array (Option Value)), s.heap.get? l = some { cls := .type "list", dict := dx, data := .seq xs n, slots := sx } ∧ s.heap.get? b = some { cls := .type "list", dict := dy, data := .seq ys m, slots := sy } ∧ xs.size = N ∧ ys.size = N ∧
    ∀ (i : Nat) (h : i < xs.size) (g : i < ys.size), wpAny (model prog w) A.in1 (eqBool xs[i] ys[i]) (fun r s' => r = e i ∧ I s') E s
def allE (e : Nat → Bool) : Nat → Bool
  | 0 => true
  | i + 1 => allE e i && e i
end
end PySem
set_option maxRecDepth 100000
set_option maxHeartbeats 4000000
namespace Den
open PySem PySem.Spec PyProof.Rows L2
section
variable {C : Ctx} {c k : Nat} {fa : Addr} {okF : List D → Bool} {f : List D → List D → Bool} {m : DF}
def pairE (f : List D → List D → Bool) (xs ys : List D) (i : Nat) : Bool := match xs[i]?, ys[i]? with
  | some x, some y => f (fieldsI x) (fieldsI y)
  | _, _ => false
def likeD (f : List D → List D → Bool) (xs ys : List D) : Bool := xs.length == ys.length && allE (pairE f xs ys) xs.length
def gEqL (c : Nat) (okF : List D → Bool) (f : List D → List D → Bool) (g : Bool → Bool) : F2 := fun x y st => match litemsOf x st, litemsOf y st with
  | some xs, some ys => if xs.all (isOk c okF) = true ∧ ys.all (isOk c okF) = true then some (.bl (g (likeD f xs ys)), st) else none
  | _, _ => none
structure TwoL (C : Ctx) (c : Nat) (okF : List D → Bool) (ι : Io) (st : Store) (H : Hp) (x y : V) (dx dy : D) (xs ys : List D) : Prop where
  rl : RelSt C.T C.xp ι st H
  rx : Rep C.T C.xp (hide ι st H) ι x dx
  ry : Rep C.T C.xp (hide ι st H) ι y dy
  ex : litemsOf dx st = some xs
  ey : litemsOf dy st = some ys
  hx : xs.all (isOk c okF) = true
  hy : ys.all (isOk c okF) = true
def rEqL (C : Ctx) (c : Nat) (okF : List D → Bool) (f : List D → List D → Bool) (g : Bool → Bool) : R2 := fun x y H Q => ∃ ι st dx dy xs ys, TwoL C c okF ι st H x y dx dy xs ys ∧ ∀ H' ι', Step ι st H ι' st H' → RelSt C.T C.xp ι' st H' → Q (.bl (g (likeD f xs ys))) H'
end
end Den
set_option maxRecDepth 100000
set_option maxHeartbeats 4000000
namespace Den
open PySem PySem.Spec PyProof.Rows L2
section
variable {C : Ctx}
def mSplitN : FM := fun d ds st => match d, ds with
  | .str a, [.str b] => if b.length ≠ 0 ∧ a.length ≤ 1000000 then some (.box st.length, st ++ [.lst ((PySem.Txt.split a b).map D.str)]) else none
  | _, _ => none
end
end Den
set_option maxRecDepth 100000
set_option maxHeartbeats 4000000
namespace Den
open PySem PySem.Spec PyProof.Rows L2
abbrev FnX (P : Program) (w : World) (K : PySem.W.Frag) (mg : Str → Option Value) (base : Heap) (k : Nat) (f : Addr) (fd : FuncData) (ps : List Str) (sp : Sp) : Prop := FnOk P w K mg base (L2N.CX P w) k f fd ps sp
section
variable {P : Program} {w : World} {K : PySem.W.Frag} {mg : Str → Option Value} {base : Heap}
end
structure DefR (P : Program) (w : World) (T : Txt) (mg : Str → Option Value) (base : Heap) (k c i : Nat) (m : DF) : Prop where
  ex : ∃ fd ps, FnX P w T.K mg base k (T.fa i) fd ps (spM T ps.length m) ∧ Binds T.K fd ps [] ∧ ps.length = 1
  at_ : PySem.W.findIn T.K (.ref (T.ca c)) "__repr__" = some (some (.ref (T.fa i)))
  fn : PySem.W.isFn T.K (.ref (T.fa i)) = true
section
variable {prog : Program} {w : World} {A : Around} {E : Value → Shared → Prop} {s : Shared} {K : PySem.W.Frag} {x C f : Addr} {ox : Obj} {od : Option Obj}
end
section
variable {C : Ctx} {c k i : Nat} {m : DF}
end
end Den
set_option maxRecDepth 100000
set_option maxHeartbeats 4000000
namespace PySem
open PySem.Builtin PySem.Builtin.List StrLaws
section
variable {prog : Program} {w : World} {A : Around} {R : Result → Shared → Prop}
def Turn (prog : Program) (w : World) (A : Around) (R : Result → Shared → Prop) (a P : Addr) (N off : Nat) (ts : List Str) (I M : Nat → Shared → Prop) : Prop :=
  ∀ i s, I i s → ∃ (its : Array Value) (n : Nat) (dd : Option Addr) (sl : Array (Option Value)) (done : List (Str × Tok)) (m : Nat), s.heap.get? a = some { cls := .type "list", dict := dd, data := .seq its n, slots := sl } ∧ its.size = N ∧
    s.heap.get? P = some { cls := .type "list", data := .seq (strValues done).toArray m } ∧ done.map (·.1) = ts.take i ∧
    ∀ (h : i < its.size) (h' : i < ts.length) (args : List Value), wpAny (model prog w) (A.under (.builtin "list.__repr__.loop" ⟨.ref a :: args, []⟩)) (pyReprUnder (off + piled (ts.take i) + 1) its[i]) (fun t s' => t = ts[i] ∧ M i s') (fun e s' => R (.error e) s') s
def Puts (P : Addr) (ts : List Str) (I M : Nat → Shared → Prop) : Prop :=
  ∀ i s, M i s → ∀ h : i < ts.length, ∃ (xs : Array Value) (m : Nat), s.heap.get? P = some { cls := .type "list", data := .seq xs m } ∧ xs.size ≤ sizeLine ∧ ∀ tk t' : Tok, I (i + 1) { s with heap := s.heap.update P (Obj.mapSeq (·.push (.str ts[i] tk))), toks := t' }
end
end PySem
set_option maxRecDepth 100000
set_option maxHeartbeats 4000000
namespace Den
open PySem PySem.Spec PyProof.Rows L2
def Readable (h : Heap) (b : Addr) : Prop := ∃ q as, Reads h (.ref b) q as
def leafT (c : Nat) (r : List D → Option Str) : D → Option Str
  | .ins c' xs => if c' = c then r xs else none
  | x => match toPyR x with
    | some p => if p.showable = true ∧ p.depth ≤ 50 then some p.shown else none
    | none => none
def leafs (c : Nat) (r : List D → Option Str) : List D → Option (List Str)
  | [] => some []
  | x :: xs => match leafT c r x, leafs c r xs with
    | some t, some ts => some (t :: ts)
    | _, _ => none
structure OwnR (C : Ctx) (c k : Nat) (r : List D → Option Str) : Prop where
  ex : ∃ (i : Nat) (m : DF), DefR C.X.prog C.X.w C.T C.X.mg C.X.base k c i m ∧ ∀ xs z st, r xs = some z → m [.ins c xs] st = .ok (.str z) st
  tk : L2N.Takes C.X C.W
section
variable {C : Ctx} {c k : Nat} {r : List D → Option Str} {pins : List (Addr × Obj)} {σ : L2.St}
def Bad (C : Ctx) (ι : Io) (st : Store) (H : Hp) (a : Addr) : Prop := ∀ (pins : List (Addr × Obj)) (σ : L2.St) (s' : Shared) (ι' : Io) (st' : Store) (H' : Hp), Inv C.X pins σ H' s' → Le (hide ι st H) (hide ι' st' H') → ¬ Readable s'.heap a
theorem Bad.le {ι ι' : Io} {st st' : Store} {H H' : Hp} {a : Addr} (b : Bad C ι st H a) (s : Le (hide ι st H) (hide ι' st' H')) : Bad C ι' st' H' a := fun pins σ s' ι2 st2 H2 I q => b pins σ s' ι2 st2 H2 I (s.trans q)
end
end Den
set_option maxRecDepth 100000
set_option maxHeartbeats 4000000
namespace Den
open PySem PySem.Spec PyProof.Rows L2
section
variable {C : Ctx} {c k : Nat} {r : List D → Option Str} {pins : List (Addr × Obj)} {σ : L2.St}
def OnWay (C : Ctx) (pins : List (Addr × Obj)) (σ : L2.St) (ι : Io) (st : Store) (H : Hp) (P : Addr) (ts : List Str) (s' : Shared) : Prop :=
  ∃ ι2 H2, Inv C.X pins σ H2 s' ∧ RelSt C.T C.xp ι2 st H2 ∧ Step (ι.under P) st (upd H P (.lst [])) ι2 st (upd H2 P (.lst [])) ∧ H2 P = some (.lst (ts.map V.str))
def deepL (d : D) : Bool := match d with
  | .lst _ => (toPyR d).isNone
  | .tup _ => (toPyR d).isNone
  | _ => false
def Shows (C : Ctx) (n : Nat) (st : Store) (d : D) (t : Str) : Prop := ∀ (A : Around) (g : List Code) (G : List Addr) (b : Nat) (pins : List (Addr × Obj)) (σ : L2.St) (s : Shared) (H : Hp) (ι : Io) (v : V) (u : Value), b + t.length ≤ sizeLine → Sub C.X n A → A.guards = some g → (∀ x, x ∉ G → Clear g x) → (∀ x ∈ G, Bad C ι st H x) →
  (deepL d = true → ∀ x ∈ G, v ≠ .ref x) → Inv C.X pins σ H s → RelSt C.T C.xp ι st H → Rep C.T C.xp (hide ι st H) ι v d → RelV v u → wpAny (model C.X.prog C.X.w) A (pyReprUnder b u) (fun t' s' => t' = t ∧ Going C pins σ ι st H s') C.X.xe s
theorem Shows.mono {n m : Nat} {st : Store} {d : D} {t : Str} (h : Shows C n st d t) (l : n ≤ m) : Shows C m st d t := fun A g G b pins σ s H ι v u q1 q2 => h A g G b pins σ s H ι v u q1 (q2.mono l)
end
end Den
set_option maxRecDepth 100000
set_option maxHeartbeats 4000000
namespace Den
open PySem PySem.Spec PyProof.Rows L2
section
variable {C : Ctx} {c k : Nat} {r : List D → Option Str} {pins : List (Addr × Obj)} {σ : L2.St}
theorem tup_depth {A : Around} {args : Args} : (A.under (.builtin "tuple.__repr__" args)).depth ≤ A.depth + 1 := by
  first | exact Nat.le_refl _ | exact Nat.le_succ _ | simp [Around.under, Code.weight, Code.isCreation, Code.isGuard, Code.isCaller, Code.frames, Code.isFrame, guardIds]
theorem tup_hd {A : Around} {args : Args} : (A.under (.builtin "tuple.__repr__" args)).handled = A.handled := by
  first | rfl | simp [Around.under]
theorem tup_frames {A : Around} {args : Args} : (A.under (.builtin "tuple.__repr__" args)).frames = A.frames := by
  first | rfl | simp [Around.under, Code.frames, Code.isFrame]
theorem Sub.tup {X : Cx} {n : Nat} {A : Around} (s : Sub X (n + 1) A) (args : Args) : Sub X n (A.under (.builtin "tuple.__repr__" args)) := by
  have h1 := tup_depth (A := A) (args := args)
  have h2 := units_under_tuple_repr A args
  have r := s.room
  exact ⟨⟨tup_hd.trans r.hd, by have := r.dp; omega, by have := r.un; omega⟩, tup_frames.trans s.fr⟩
end
end Den
set_option maxRecDepth 100000
set_option maxHeartbeats 4000000
namespace Den
open PySem PySem.Spec PyProof.Rows L2
section
variable {C : Ctx} {c k : Nat} {r : List D → Option Str} {pins : List (Addr × Obj)} {σ : L2.St}
theorem dic_depth {A : Around} {args : Args} : (A.under (.builtin "dict.__repr__" args)).depth ≤ A.depth + 1 := by
  first | exact Nat.le_refl _ | exact Nat.le_succ _ | simp [Around.under, Code.weight, Code.isCreation, Code.isGuard, Code.isCaller, Code.frames, Code.isFrame, guardIds]
theorem dic_hd {A : Around} {args : Args} : (A.under (.builtin "dict.__repr__" args)).handled = A.handled := by
  first | rfl | simp [Around.under]
theorem dic_frames {A : Around} {args : Args} : (A.under (.builtin "dict.__repr__" args)).frames = A.frames := by
  first | rfl | simp [Around.under, Code.frames, Code.isFrame]
theorem Sub.dic {X : Cx} {n : Nat} {A : Around} (s : Sub X (n + 1) A) (args : Args) : Sub X n (A.under (.builtin "dict.__repr__" args)) := by
  have h1 := dic_depth (A := A) (args := args)
  have h2 := units_under_dict_repr A args
  have r := s.room
  exact ⟨⟨dic_hd.trans r.hd, by have := r.dp; omega, by have := r.un; omega⟩, dic_frames.trans s.fr⟩
def keyT (q : Key) : Str := (keyD q).shown
end
end Den
set_option maxRecDepth 100000
set_option maxHeartbeats 4000000
namespace Den
open PySem PySem.Spec PyProof.Rows L2
def isIns (c : Nat) : D → Bool
  | .ins c' _ => c' == c
  | _ => false
def topT (c : Nat) (r : List D → Option Str) : D → Option Str
  | .ins c' xs => if c' = c then r xs else none
  | .tup ds => if ds.any (isIns c) = true then (leafs c r ds).map tupleText else none
  | .dic [q] [.lst es] => if es.any (isIns c) = true ∧ (keyD q).showable = true then (leafs c r es).map fun ts => dictText [keyT q ++ ": " ++ listText ts] else none
  | .lst ds => if ds.any (isIns c) = true then (leafs c r ds).map listText else (match ds with
    | [.lst es] => if es.any (isIns c) = true then (leafs c r es).map fun ts => listText [listText ts] else none
    | _ => none)
  | _ => none
def gReprI (c : Nat) (r : List D → Option Str) (x : D) (_ : Store) : Option D := match topT c r x with
  | some t => if t.length ≤ 1000000 then some (.str t) else none
  | none => none
section
variable {C : Ctx} {c k : Nat} {r : List D → Option Str}
def rReprI (C : Ctx) (c : Nat) (r : List D → Option Str) : List V → Hp → VK → Prop := fun xs H Q => ∃ ι st v x t, xs = [v] ∧ RelSt C.T C.xp ι st H ∧ Rep C.T C.xp (hide ι st H) ι v x ∧ topT c r x = some t ∧ t.length ≤ 1000000 ∧ ∀ H' ι', Step ι st H ι' st H' → RelSt C.T C.xp ι' st H' → Q (.str t) H'
end
end Den
set_option maxRecDepth 100000
set_option maxHeartbeats 4000000
namespace Den
open PySem PySem.Spec PyProof.Rows L2
section
variable {C : Ctx}
def dDicV (i : Int) (j : Nat) : DE := fun ρ st => (dVar j ρ st).bind fun d s => .ok (.dic [.inl i] [d]) s
def gNeFar : F2 := fun x y st => match litemsOf x st, litemsOf y st with
  | some xs, some ys => if xs.length = ys.length then none else some (.bl true, st)
  | _, _ => none
structure FarL (C : Ctx) (ι : Io) (st : Store) (H : Hp) (x y : V) (dx dy : D) (xs ys : List D) : Prop where
  rl : RelSt C.T C.xp ι st H
  rx : Rep C.T C.xp (hide ι st H) ι x dx
  ry : Rep C.T C.xp (hide ι st H) ι y dy
  ex : litemsOf dx st = some xs
  ey : litemsOf dy st = some ys
  ne : xs.length ≠ ys.length
def rNeFar (C : Ctx) : R2 := fun x y H Q => ∃ ι st dx dy xs ys, FarL C ι st H x y dx dy xs ys ∧ ∀ H' ι', Step ι st H ι' st H' → RelSt C.T C.xp ι' st H' → Q (.bl true) H'
def rAny (C : Ctx) (op : CmpOp) : R2 := fun x y H Q => ∃ r, OpR C.X (compareOp op) r ∧ r x y H Q
theorem CmpD.any {op : CmpOp} {f : D → D → Option D} (h : CmpD C op f) : OpSD C (rAny C op) (still f) := by
  obtain ⟨r, h1, h2⟩ := h.ex
  exact fun ι st H x y dx dy dz st1 Q rl rx ry e k => ⟨r, h1, OpSD.of h2 ι st H x y dx dy dz st1 Q rl rx ry e k⟩
def gNeF : F2 := orS gNeFar (still fNe)
def rNeF (C : Ctx) : R2 := fun x y H Q => rNeFar C x y H Q ∨ rAny C .NotEq x y H Q
end
end Den
namespace Den
open PySem PySem.Spec PyProof.Rows L2
section
variable {C : Ctx} {c : Nat} {ps ks : List Str} {dds : List D} {g : (α : Type) → List α → List α → List α → List α} {x : Str} {p pos pos' : Pos} {kws : List Keyword} {mk : DA} {ways : List (Nat × List Str × List D × ((α : Type) → List α → List α → List α → List α))}
end
end Den
set_option maxRecDepth 100000
set_option maxHeartbeats 4000000
namespace Den
open PySem PySem.Spec PyProof.Rows L2
section
variable {P : Program} {w : World}
def mHash (P : Program) (w : World) (ks : List Key) : Int := tupleKeyHash (mixKind P w) ks
def MTup (P : Program) (w : World) (g : Heap) (ks : List Key) (b : Addr) : Prop := IsTupleKey (mixKind P w) g ks b
abbrev MRow := Addr × List Key
def mRows (P : Program) (w : World) (L : List MRow) : List (Int × Value) := L.map fun q => (mHash P w q.2, Value.ref q.1)
abbrev mHs (P : Program) (w : World) (L : List MRow) : List Int := L.map fun q => mHash P w q.2
structure MSet (P : Program) (w : World) (g : Heap) (S : Addr) (L : List MRow) (rows : Array (Int × Value)) (tb : SetTable) : Prop where
  obj : ∃ ob ep, g.get? S = some ob ∧ ob.ExactSet ∧ ob.data = .set rows ep tb
  rws : rows.toList = mRows P w L
  tbl : TabOk tb (mHs P w L)
  uni : (L.map (·.2)).Nodup
  roomy : L.length * 5 < tb.mask * 3
  few : L.length < 64
def mset (P : Program) (w : World) (S : Addr) (L : List MRow) (g : Heap) : Prop := ∃ rows tb, MSet P w g S L rows tb
variable {g : Heap} {S : Addr} {L : List MRow} {rows : Array (Int × Value)} {tb : SetTable}
abbrev mStart (tb : SetTable) (h : Int) : SetTable.Probe := runAt tb.mask (SetTable.bits h % (tb.mask + 1)) (SetTable.bits h)
variable {A : Around} {E : Value → Shared → Prop} {s : Shared}
end
end Den
set_option maxRecDepth 100000
set_option maxHeartbeats 4000000
namespace Den
open PySem PySem.Spec PyProof.Rows L2
section
variable {P : Program} {w : World} {A : Around} {E : Value → Shared → Prop} {s : Shared} {S : Addr} {L : List MRow} {rows : Array (Int × Value)} {tb : SetTable}
end
end Den
set_option maxRecDepth 100000
set_option maxHeartbeats 4000000
namespace Den
open PySem PySem.Spec PyProof.Rows L2
def keyP : D → Option Key
  | .int i => some (.inl i)
  | .str x => some (.inr x)
  | _ => none
def keysP : List D → Option (List Key)
  | [] => some []
  | d :: ds => match keyP d, keysP ds with
    | some k, some ks => some (k :: ks)
    | _, _ => none
theorem keyP_rep {T : Txt} {xp : XT} {G : Hp} {ι : Io} {v : V} {d : D} {k : Key} (r : Rep T xp G ι v d) (h : keyP d = some k) : v = kV k := by
  cases r <;> simp only [keyP] at h <;> cases h <;> rfl
theorem keysP_rep {T : Txt} {xp : XT} {G : Hp} {ι : Io} : ∀ {vs : List V} {ds : List D} {ks : List Key}, RepL T xp G ι vs ds → keysP ds = some ks → vs = ks.map kV
  | _, _, _, .nil, h => by cases h; rfl
  | _, _, _, .cons r rs, h => by
    simp only [keysP] at h
    split at h
    · rename_i k ks e1 e2
      cases h
      rw [keyP_rep r e1, keysP_rep rs e2]
      rfl
    · cases h
def inKs (k : List Key) (ks : List (List Key)) : Bool := ks.any fun j => decide (j = k)
def setAt (d : D) (st : Store) : Option (List (List Key)) := match d with
  | .box i => match st[i]? with
    | some (.set ks) => some ks
    | _ => none
  | _ => none
def tupK (d : D) : Option (List Key) := match d with
  | .tup ds => keysP ds
  | _ => none
section
variable {X : Cx}
def rSet0T (P : Program) (w : World) : List V → Hp → VK → Prop := fun xs H Q => xs = [] ∧ ∀ p, H p = none → Q (.ref p) (upd H p (.ext (mset P w p [])))
def rInT (K : PySem.W.Frag) (P : Program) (w : World) (neg : Bool) : R2 := fun x y H Q => ∃ (b a : Addr) (k : List Key) (L : List MRow), x = .ref b ∧ y = .ref a ∧ SqT K H b (k.map kV) ∧ H a = some (.ext (mset P w a L)) ∧ (∀ q ∈ L, SqT K H q.1 (q.2.map kV)) ∧
  ∀ b : Bool, (b = true ↔ k ∈ L.map (·.2)) → Q (.bl (if neg then !b else b)) H
def rAddT (K : PySem.W.Frag) (P : Program) (w : World) : V → List V → Hp → VK → Prop := fun x xs H Q => ∃ (a b : Addr) (k : List Key) (L : List MRow), x = .ref a ∧ xs = [.ref b] ∧ SqT K H b (k.map kV) ∧ H a = some (.ext (mset P w a L)) ∧ (∀ q ∈ L, SqT K H q.1 (q.2.map kV)) ∧ L.length + 1 < 64 ∧
  ∀ L', (k ∈ L.map (·.2) → L' = L) → (k ∉ L.map (·.2) → L'.Perm ((b, k) :: L)) → Q .non (upd H a (.ext (mset P w a L')))
def tSAddT (K : PySem.W.Frag) (P : Program) (w : World) (to : TE) (t : TA) : TE := fun σ H Q => to σ H fun x H1 => (∃ a L, x = V.ref a ∧ H1 a = some (.ext (mset P w a L))) ∧ t σ H1 fun xs H2 => rAddT K P w x xs H2 Q
variable {o e : Expr} {es : List Expr} {to : TE} {t : TA} {apos cpos : Pos}
end
section
variable {C : Ctx}
def dSet0 : DE := fun _ st => .ok (.box st.length) (st ++ [.set []])
theorem tupK_rep {T : Txt} {xp : XT} {G : Hp} {ι : Io} {v : V} {d : D} {k : List Key} (r : Rep T xp G ι v d) (h : tupK d = some k) : ∃ b, v = .ref b ∧ SqN T.K G b (k.map kV) := by
  unfold tupK at h
  split at h
  · cases r with
    | tup h1 r1 => exact ⟨_, rfl, by rw [← keysP_rep r1 h]; exact h1⟩
  · cases h
def fInT (neg : Bool) : F2 := fun x y st => match tupK x, setAt y st with
  | some k, some ks => some (.bl (if neg then !inKs k ks else inKs k ks), st)
  | _, _ => none
def mSAdd : FM := fun d ds st => match d, ds with
  | .box i, [x] => match st[i]?, tupK x with
    | some (.set ks), some k => if ks.length + 1 < 64 then some (.non, st.set i (.set (if inKs k ks = true then ks else k :: ks))) else none
    | _, _ => none
  | _, _ => none
def dSAdd (o : DE) (a : DA) : DE := fun ρ st => (o ρ st).bind fun d s0 => if (setAt d s0).isSome = true then (a ρ s0).bind fun ds s1 => ofO (mSAdd d ds s1) else .bad
variable {o e : Expr} {es : List Expr} {mo : DE} {ma : DA} {apos cpos : Pos}
end
end Den
set_option maxRecDepth 100000
set_option maxHeartbeats 4000000
namespace Den
open PySem PySem.Spec PyProof.Rows L2
open PySem.W (KeyedOut AllAlike Sortable KeepsBut)
section
variable {X : Cx} {pins : List (Addr × Obj)} {σ : L2.St} {H : Hp} {s : Shared}
end
end Den
set_option maxRecDepth 100000
set_option maxHeartbeats 4000000
namespace Den
open PySem PySem.Spec PyProof.Rows L2
open PySem.W (KeyedOut AllAlike Sortable)
def keysBy (m : DF) : List D → Store → Res (List D)
  | [], st => .ok [] st
  | d :: ds, st => (m [d] st).bind fun k s1 => (keysBy m ds s1).bind fun ks s2 => .ok (k :: ks) s2
def isTup1 : PyData → Bool
  | .tuple (_ :: _) => true
  | _ => false
def noTup : PyData → Bool
  | .none => false
  | .tuple _ => false
  | _ => true
def keysOk (ps : List PyData) : Bool := (ps.all fun x => ps.all fun y => PySem.W.alike x y) && ((ps.all isTup1 || ps.all noTup) && ps.all fun x => decide (x.depth ≤ 60))
theorem keysOk_is {ps : List PyData} (h : keysOk ps = true) : AllAlike ps ∧ Sortable ps ∧ ∀ d ∈ ps, d.depth ≤ 60 := by
  simp only [keysOk, Bool.and_eq_true, Bool.or_eq_true, List.all_eq_true] at h
  refine ⟨fun x hx y hy => h.1 x hx y hy, h.2.1.imp (fun q d hd => ?_) (fun q d hd => ?_), fun d hd => of_decide_eq_true (h.2.2 d hd)⟩
  · have := q d hd
    cases d <;> first | (cases this; done) | skip
    rename_i xs
    cases xs with
    | nil => cases this
    | cons x r => exact ⟨x, r, rfl⟩
  · have := q d hd
    cases d <;> first | (cases this; done) | exact ⟨(fun z => nomatch z), fun xs z => nomatch z⟩
def sortedBy (ds : List D) (ps : List PyData) : List D := ((ds.zip ps).mergeSort (PySem.W.dataLe false fun q : D × PyData => q.2)).map (·.1)
theorem each_trip : ∀ {xs : List V} {ds : List D} {ps : List PyData} {its : List Value}, Vals xs its → xs.length = ds.length → ps.length = ds.length → PySem.W.EachIs (fun (v : Value) (b : (V × D) × PyData) => RelV b.1.1 v) its ((xs.zip ds).zip ps) := by
  intro xs
  induction xs with
  | nil => intro ds ps its r h1 h2; cases r; exact .nil
  | cons x xs ih =>
    intro ds ps its r h1 h2
    cases r with
    | cons r1 rs =>
      cases ds with
      | nil => cases h1
      | cons d ds =>
        cases ps with
        | nil => cases h2
        | cons p ps => exact .cons r1 (ih rs (by simpa using h1) (by simpa using h2))
theorem trip_snd {xs : List V} {ds : List D} {ps : List PyData} (lx : xs.length = ds.length) (hl : ps.length = ds.length) : ((xs.zip ds).zip ps).map (fun b : (V × D) × PyData => b.2) = ps :=
  List.map_snd_zip (by rw [List.length_zip, lx, Nat.min_self, hl]; exact Nat.le_refl _)
theorem trip_out {T : Txt} {xp : XT} {G : Hp} {ι : Io} {xs : List V} {ds : List D} {ps : List PyData} {out : List Value} (rd : RepL T xp G ι xs ds) (hl : ps.length = ds.length)
    (eo : PySem.W.EachIs (fun (v : Value) (b : (V × D) × PyData) => RelV b.1.1 v) out (((xs.zip ds).zip ps).mergeSort (PySem.W.dataLe false fun b : (V × D) × PyData => b.2))) :
    ∃ outV, Vals outV out ∧ RepL T xp G ι outV (sortedBy ds ps) := by
  have lx : xs.length = ds.length := rd.length
  have reps : ∀ {xs : List V} {ds : List D}, RepL T xp G ι xs ds → ∀ q ∈ xs.zip ds, Rep T xp G ι q.1 q.2 := by
    intro xs
    induction xs with
    | nil => intro ds r q hq; cases hq
    | cons x xs ih =>
      intro ds r q hq
      cases r with
      | cons r1 rs =>
        rw [List.zip_cons_cons] at hq
        rcases List.mem_cons.mp hq with rfl | hq
        · exact r1
        · exact ih rs q hq
  refine ⟨(((xs.zip ds).zip ps).mergeSort (PySem.W.dataLe false fun b : (V × D) × PyData => b.2)).map (·.1.1), ?_, ?_⟩
  · have go : ∀ {bs : List ((V × D) × PyData)} {out : List Value}, PySem.W.EachIs (fun (v : Value) (b : (V × D) × PyData) => RelV b.1.1 v) out bs → Vals (bs.map (·.1.1)) out := by
      intro bs out h
      induction h with
      | nil => exact .nil
      | cons h1 _ ih => exact .cons h1 ih
    exact go eo
  · have e : sortedBy ds ps = (((xs.zip ds).zip ps).mergeSort (PySem.W.dataLe false fun b : (V × D) × PyData => b.2)).map (·.1.2) := by
      have e1 : ((xs.zip ds).zip ps).map (fun b : (V × D) × PyData => (b.1.2, b.2)) = ds.zip ps := by
        have : ∀ {xs : List V} {ds : List D} {ps : List PyData}, xs.length = ds.length → ((xs.zip ds).zip ps).map (fun b : (V × D) × PyData => (b.1.2, b.2)) = ds.zip ps := by
          intro xs
          induction xs with
          | nil => intro ds ps h; cases ds with
                   | nil => rfl
                   | cons _ _ => cases h
          | cons x xs ih =>
            intro ds ps h
            cases ds with
            | nil => cases h
            | cons d ds =>
              cases ps with
              | nil => rfl
              | cons p ps =>
                show (d, p) :: _ = (d, p) :: _
                exact congrArg ((d, p) :: ·) (ih (by simpa using h))
        exact this lx
      have e2 := List.map_mergeSort (r := PySem.W.dataLe false fun b : (V × D) × PyData => b.2) (s := PySem.W.dataLe false fun q : D × PyData => q.2) (f := fun b : (V × D) × PyData => (b.1.2, b.2)) (l := (xs.zip ds).zip ps) (fun a _ b _ => rfl)
      unfold sortedBy
      rw [← e1, ← e2, List.map_map]
      rfl
    rw [e]
    have go : ∀ (bs : List ((V × D) × PyData)), (∀ b ∈ bs, Rep T xp G ι b.1.1 b.1.2) → RepL T xp G ι (bs.map (·.1.1)) (bs.map (·.1.2)) := by
      intro bs
      induction bs with
      | nil => intro _; exact .nil
      | cons b bs ih => exact fun h => .cons (h b List.mem_cons_self) (ih fun c hc => h c (List.mem_cons_of_mem _ hc))
    exact go _ fun b hb => reps rd b.1 (List.of_mem_zip (List.mem_mergeSort.mp hb)).1
section
variable {C : Ctx} {k : Nat} {f : Addr} {fd : FuncData} {ps : List Str} {m : DF}
def rSortK (C : Ctx) (f : Addr) (m : DF) : List V → List V → Hp → VK → Prop := fun vs zs H Q => ∃ (l : Addr) (xs : List V) (ι : Io) (st st2 : Store) (ds ks : List D) (kz : List PyData), vs = [.ref l] ∧ zs = [.ref f] ∧ SqL C.X.K H l xs ∧ RelSt C.T C.xp ι st H ∧ RepL C.T C.xp (hide ι st H) ι xs ds ∧
  keysBy m ds st = .ok ks st2 ∧ toPyL ks = some kz ∧ keysOk kz = true ∧
  ∀ ι' H' p outV, Step ι st H ι' st2 H' → RelSt C.T C.xp ι' st2 H' → H' p = none → RepL C.T C.xp (hide ι' st2 H') ι' outV (sortedBy ds kz) → Q (.ref p) (upd H' p (.lst outV))
theorem toPyL_len : ∀ {ds : List D} {ps : List PyData}, toPyL ds = some ps → ps.length = ds.length
  | [], _, h => by simp only [toPyL] at h; cases h; rfl
  | d :: ds, _, h => by
    simp only [toPyL] at h
    split at h
    · rename_i p ps e1 e2
      cases h
      rw [List.length_cons, List.length_cons, toPyL_len e2]
    · cases h
def dSortKN (m : DF) (a : DA) : DE := fun ρ st => (a ρ st).bind fun xs s1 => match xs with
  | [d] => match litemsOf d s1 with
    | some ds => match keysBy m ds s1 with
      | .ok ks s2 => match toPyL ks with
        | some kz => if keysOk kz = true then .ok (.box s2.length) (s2 ++ [.lst (sortedBy ds kz)]) else .bad
        | none => .bad
      | _ => .bad
    | none => .bad
  | _ => .bad
def rSortD (C : Ctx) : List V → Hp → VK → Prop := fun vs H Q => ∃ (l : Addr) (xs : List V) (ι : Io) (st : Store) (ds : List D) (kz : List PyData), vs = [.ref l] ∧ SqL C.X.K H l xs ∧ RelSt C.T C.xp ι st H ∧ RepL C.T C.xp (hide ι st H) ι xs ds ∧ toPyL ds = some kz ∧ keysOk kz = true ∧
  ∀ p outV, H p = none → RepL C.T C.xp (hide ι st H) ι outV (sortedBy ds kz) → Q (.ref p) (upd H p (.lst outV))
theorem cr_sortD (hu : C.X.A.units + 64 < cLine) : CallR C.X (.builtin "sorted") (rSortD C) := by
  intro pins s σ H vs us Q I r h
  obtain ⟨l, xs, ι, st, ds, kz, rfl, hq, rl, rd, hpy, hok, q⟩ := h
  rw [Vals.ref1 r]
  obtain ⟨its, rv, pl, hL⟩ := I.list hq
  obtain ⟨k1, k2, k3⟩ := keysOk_is hok
  have lz := toPyL_len hpy
  have lx : xs.length = ds.length := rd.length
  have li : xs.length = its.length := rv.length
  have dp : DpAll C.X.K H xs kz := by rw [C.hK]; exact dp_ofL (hide_le _ _ _) rd hpy
  have e2 := trip_snd lx lz
  have er : PySem.W.EachIs (fun (v : Value) (b : (V × D) × PyData) => ∃ as, Reads s.heap v b.2 as) its ((xs.zip ds).zip kz) := by
    obtain ⟨as, hr⟩ := Dp.readsAll I _ _ _ dp rv
    have := PySem.W.readsAll_each (h := s.heap) (fun b : (V × D) × PyData => b.2) (vs := its) (bs := (xs.zip ds).zip kz) (as := as) (by rw [e2]; exact hr)
    exact this
  have lb : ((xs.zip ds).zip kz).length = ds.length := by rw [List.length_zip, List.length_zip, lx, Nat.min_self, lz, Nat.min_self]
  refine PySem.W.sorted_data (enc := fun b : (V × D) × PyData => b.2) pl.isList (each_trip rv lx lz) er (by rw [e2]; exact k1) (by rw [e2]; exact k2) (by omega) (fun b hb => ?_) fun out ol eo => ?_
  · have := k3 b.2 (List.of_mem_zip hb).2
    omega
  · obtain ⟨outV, ov, ro⟩ := trip_out rd lz eo
    obtain ⟨e, he⟩ := sortedAll_at s.heap its (List.toArray out)
    exact ⟨.ref _, upd H (s.heap.objs.size + 1) (.lst outV), I.laid (t' := s.toks) (fun b u hb => sortedAll_old hb) (Nat.le_succ _) ⟨by rw [ov.length, ol, lb]; omega, out, e, ov, he⟩, rfl, q _ outV (I.hok.fresh (Nat.le_succ _)) ro⟩
def gSort (x : D) (st : Store) : Option D := match litemsOf x st with
  | some ds => match toPyL ds with
    | some kz => if keysOk kz = true then some (.lst (sortedBy ds kz)) else none
    | none => none
  | none => none
theorem blt_sortD (hu : C.X.A.units + 64 < cLine) : BltD C "sorted" (one gSort) := ⟨_, cr_sortD hu, fun ι st H xs ds d st' Q rl rx e k => by
  obtain ⟨x, rfl, hg, rfl⟩ := one_some e
  obtain ⟨v, rfl, rv⟩ := repL_one rx
  unfold gSort at hg
  split at hg
  · rename_i zs hzs
    split at hg
    · rename_i kz hz
      split at hg
      · rename_i hok
        cases hg
        obtain ⟨a, ys, rfl, hs, rs⟩ := litems_rep rl rv hzs
        refine ⟨a, ys, ι, _, zs, kz, rfl, by rw [C.hK]; exact hs, rl, rs, hz, hok, fun p outV hp ro => ?_⟩
        obtain ⟨ra, sa, ea⟩ := rl.new (o := .lst outV) hp
        exact k _ ι _ sa ra (.lst ea (ro.mono sa.ex sa.pre))
      · cases hg
    · cases hg
  · cases hg⟩
end
end Den
set_option maxRecDepth 100000
set_option maxHeartbeats 4000000
namespace Den
open PySem PySem.Spec PyProof.Rows L2
def twoF (i : Nat) (m : DF) (j : Nat) (m' : DF) : Nat → Option DF := fun l => if l = i then some m else if l = j then some m' else none
def dCallF (n : Nat) (fs : Nat → Option DF) (mf : DE) (ma : DA) : DE := fun ρ st => (mf ρ st).bind fun d s0 => match d with
  | .fn i => match fs i with
    | some m => (ma ρ s0).bind fun ds s1 => if ds.length = n then m ds s1 else .bad
    | none => .bad
  | _ => .bad
section
variable {C : Ctx} {k n : Nat} {fs : Nat → Option DF} {fe e : Expr} {es : List Expr} {mf : DE} {ma : DA} {pos : Pos}
end
end Den
set_option maxRecDepth 100000
set_option maxHeartbeats 4000000
namespace Den
open PySem PySem.Spec PyProof.Rows L2
def cellAt (st : Store) (k n i : Nat) : Option D := match st[k]? with
  | some (.lst zs) => if zs.length = n then zs[i]? else none
  | _ => none
def cellLen (st : Store) (k n : Nat) : Bool := match st[k]? with
  | some (.lst zs) => zs.length == n
  | _ => false
def lcB (g : GD) (t : DT) (e : DE) (ρ : Rho) (k n : Nat) : Nat → Nat → Store → Res (List D)
  | 0, _, st => if cellLen st k n = true then .ok [] st else .bad
  | m + 1, i, st => match cellAt st k n i with
    | none => .bad
    | some x => match g x ρ with
      | none => .bad
      | some ρ' => (noX (t ρ' st)).bind fun b s1 => match b with
        | true => (noX (e ρ' s1)).bind fun y s2 => (lcB g t e ρ k n m (i + 1) s2).bind fun ys s3 => .ok (y :: ys) s3
        | false => lcB g t e ρ k n m (i + 1) s1
def dLcB (a : DE) (g : GD) (t : DT) (e : DE) (vs : List Nat) : DE := fun ρ st => (a ρ st).bind fun d s1 => match d with
  | .box k => match s1[k]? with
    | some (.lst zs) => if zs.length ≤ 100000 then lcEnd (lcB g t e (wipeD ρ vs) k zs.length zs.length 0 s1) else .bad
    | _ => .bad
  | _ => .bad
def LeftB (T : Txt) (xp : XT) (W : Value → Option Addr → Hp → Prop) (Q : VK) (g : GD) (t : DT) (e : DE) (ρ : Rho) (k n : Nat) (a : Addr) (ι1 : Io) (s1 : Store) (H1 : Hp) (p : Addr) (i : Nat) (H : Hp) : Prop :=
  ∃ st ι acc ys, Step (ι1.under p) s1 (upd H1 p (.lst [])) ι st (upd H p (.lst [])) ∧ RelSt T xp ι st H ∧ H p = some (.lst acc) ∧ RepL T xp (hide ι st H) ι acc ys ∧ ys.length ≤ i ∧ ι.ad[k]? = some a ∧
    Post T xp W ι1 s1 H1 (Rep T xp) Q (lcEnd ((lcB g t e ρ k n (n - i) i st).bind fun zs s2 => .ok (ys ++ zs) s2))
section
variable {C : Ctx} {g : TG} {gd : GD} {is : List Nat} {t : DT} {e : DE} {vs : List Nat} {W : Value → Option Addr → Hp → Prop} {Q : VK} {ι1 : Io} {s1 : Store} {H1 : Hp} {p a : Addr} {i k n : Nat} {H : Hp} {ρ : Rho}
variable {tg iter elt : Expr} {ifs : List Expr} {scope : Scope} {own : List (Str × Nat)} {pos : Pos} {me : DE} {de : DE}
end
end Den
namespace Den
open PySem PySem.Spec PyProof.Rows L2
def openD (d : D) (st : Store) : D := match d with
  | .box k => match st[k]? with
    | some (.lst xs) => .lst xs
    | _ => d
  | d => d
def gEqB (neg : Bool) : F2 := fun x y st => (eqD (openD x st) (openD y st)).map fun b => (.bl (if neg then !b else b), st)
section
variable {C : Ctx}
end
end Den
namespace Den
open PySem PySem.Spec PyProof.Rows L2
section
variable {X : Cx} {a b : Expr} {rest : List Expr} {ta tb : TE} {pos : Pos}
def TruK (K : PySem.W.Frag) (x : V) (H : Hp) (k : Bool) : Prop := TruV K x H k ∨ ∃ p kvs, x = .ref p ∧ Rd H p (.dK kvs) ∧ k = !kvs.isEmpty
def tOrK (K : PySem.W.Frag) (ta tb : TE) : TE := fun σ H Q => ta σ H fun x H1 => ∃ k, TruK K x H1 k ∧ if k = true then Q x H1 else tb σ H1 Q
end
def truthK : D → Option Bool
  | .dic ks _ => some (!ks.isEmpty)
  | d => truth d
def dOrK (a b : DE) : DE := fun ρ st => (a ρ st).bind fun x s1 => match truthK x with
  | some true => .ok x s1
  | some false => b ρ s1
  | none => .bad
section
variable {C : Ctx} {a b : Expr} {rest : List Expr} {ma mb : DE} {pos : Pos}
end
end Den
set_option maxRecDepth 100000
set_option maxHeartbeats 4000000
namespace Den
open PySem PySem.Spec PyProof.Rows L2
structure DefM (P : Program) (w : World) (T : Txt) (mg : Str → Option Value) (base : Heap) (k c i : Nat) (nm : Str) (m : DF) (ways : List (Nat × List Str × (List D → List D → List D))) : Prop where
  ex : ∃ fd ps, FnG P w T.K mg base k (T.fa i) fd ps (spM T ps.length m) ∧ ∀ z ∈ ways, Bd T fd ps z.1 z.2.1 z.2.2
  me : Meth T.K (T.ca c) nm (T.fa i)
section
variable {P : Program} {w : World} {mg : Str → Option Value} {base : Heap} {T : Txt}
theorem DefM.mono {j k c i : Nat} {nm : Str} {m : DF} {ways : List (Nat × List Str × (List D → List D → List D))} (d : DefM P w T mg base j c i nm m ways) (h : j ≤ k) : DefM P w T mg base k c i nm m ways :=
  ⟨let ⟨fd, ps, a, b⟩ := d.ex; ⟨fd, ps, a.mono h, b⟩, d.me⟩
theorem defM_of {x qual : Str} {st : Stmt} {N ps : List Str} {k c i : Nat} {nm : Str} {m : DS} {dvs : List V} {ways : List (Nat × List Str × (List D → List D → List D))} (l : LkD T i x qual st dvs) (me : Meth T.K (T.ca c) nm (T.fa i)) (S : FnScope N ps (defScope st))
    (hb : ∀ fd, FunD T.K x qual (defArgs st) (defBody st) (defScope st) dvs [] (T.fa i) fd → ∀ z ∈ ways, Bd T fd ps z.1 z.2.1 z.2.2)
    (h : ∀ (cdv : Value) (A : Around) (outer : List Env) (s : Shared) (H : Hp) (E : XK) (xp : XT), Fit ⟨cxOf (L2N.CX P w) P w T.K mg base N qual (defScope st) (T.fa i) cdv A outer s H E, T, xp, fun c d _ H' => E c d H', rfl⟩ k →
      PassesOwn (model P w) (cxOf (L2N.CX P w) P w T.K mg base N qual (defScope st) (T.fa i) cdv A outer s H E).A (cxOf (L2N.CX P w) P w T.K mg base N qual (defScope st) (T.fa i) cdv A outer s H E).env (cxOf (L2N.CX P w) P w T.K mg base N qual (defScope st) (T.fa i) cdv A outer s H E).xe →
      PDSs ⟨cxOf (L2N.CX P w) P w T.K mg base N qual (defScope st) (T.fa i) cdv A outer s H E, T, xp, fun c d _ H' => E c d H', rfl⟩ (defBody st) m) :
    DefM P w T mg base (k + 1) c i nm (body N.length ps.length m) ways := by
  obtain ⟨fd, F⟩ := l.ex
  exact ⟨⟨fd, ps, fnD_ofD F S fun cdv A outer s H E xp hr => h cdv A outer s H E xp ⟨rfl, hr, takes_def⟩ passes_def, hb fd F⟩, me⟩
end
section
variable {C : Ctx} {k c i n : Nat} {nm : Str} {m : DF} {e o : Expr} {es : List Expr} {kws : List Keyword} {ks : List Str} {mo : DE} {mr mk : DA} {pos apos : Pos} {ways : List (Nat × List Str × (List D → List D → List D))} {gD : List D → List D → List D}
theorem pd_methM {pl : Sem Bool} (hc : ClsD C.T c) (hn : nm ∉ C.T.fl c) (d : DefM C.X.prog C.X.w C.T C.X.mg C.X.base k c i nm m ways) (hw : (n + 1, ks, gD) ∈ ways) (ft : Fit C k) (ho : PD C o mo) (ha : PDA C (e :: es) mr) (hkw : PDK C kws mk)
    (hall : (backToKw pos (keywordEach kws C.X.env)).all (·.1.isSome) = true := by rfl) (hks : (backToKw pos (keywordEach kws C.X.env)).filterMap (·.1) = ks := by rfl)
    (he : starEach (e :: es) C.X.env = (false, eval e C.X.env) :: starEach es C.X.env := by rfl) (hpl : ((backTo pos (starEach (e :: es) C.X.env)).any (·.1) || (backToKw pos (keywordEach kws C.X.env)).any (·.1.isNone)) = false := by rfl)
    (ht : eval (.Call (.Attribute o nm apos) (e :: es) kws pos) C.X.env = (do
      let ov ← eval o C.X.env
      standAt apos.atName
      let (f, first) ← holding [ov] (getMethod ov nm pl)
      callWith pos f first (backTo pos (starEach (e :: es) C.X.env)) (backToKw pos (keywordEach kws C.X.env))) := by rfl) :
    PD C (.Call (.Attribute o nm apos) (e :: es) kws pos) (dMeth c n ks.length gD m mo mr mk) := by
  obtain ⟨fd, ps, F, b⟩ := d.ex
  have F' : FnD C k (C.T.fa i) fd ps m := by rw [FnD, C.hK]; exact F
  exact pd_meth hc (by rw [C.hK]; exact d.me) hn F' ft.room ft.tk (b _ hw) ho ha hkw hall hks he hpl ht
theorem pd_methM0 {pl : Sem Bool} (hc : ClsD C.T c) (hn : nm ∉ C.T.fl c) (d : DefM C.X.prog C.X.w C.T C.X.mg C.X.base k c i nm m ways) (hw : (1, ks, gD) ∈ ways) (ft : Fit C k) (ho : PD C o mo) (hkw : PDK C kws mk)
    (hall : (backToKw pos (keywordEach kws C.X.env)).all (·.1.isSome) = true := by rfl) (hks : (backToKw pos (keywordEach kws C.X.env)).filterMap (·.1) = ks := by rfl)
    (hpl : ((backTo pos (starEach [] C.X.env)).any (·.1) || (backToKw pos (keywordEach kws C.X.env)).any (·.1.isNone)) = false := by rfl)
    (ht : eval (.Call (.Attribute o nm apos) [] kws pos) C.X.env = (do
      let ov ← eval o C.X.env
      standAt apos.atName
      let (f, first) ← holding [ov] (getMethod ov nm pl)
      callWith pos f first (backTo pos (starEach [] C.X.env)) (backToKw pos (keywordEach kws C.X.env))) := by rfl) :
    PD C (.Call (.Attribute o nm apos) [] kws pos) (dMeth c 0 ks.length gD m mo dNil mk) := by
  obtain ⟨fd, ps, F, b⟩ := d.ex
  have F' : FnD C k (C.T.fa i) fd ps m := by rw [FnD, C.hK]; exact F
  exact pd_meth0 hc (by rw [C.hK]; exact d.me) hn F' ft.room ft.tk (b _ hw) ho hkw hall hks hpl ht
end
def dStar (a : DE) (r : DA) : DA := fun ρ st => (a ρ st).bind fun x s1 => match x with
  | .tup xs => (r ρ s1).bind fun ys s2 => .ok (xs ++ ys) s2
  | .lst xs => (r ρ s1).bind fun ys s2 => .ok (xs ++ ys) s2
  | .ro xs => (r ρ s1).bind fun ys s2 => .ok (xs ++ ys) s2
  | _ => .bad
section
variable {C : Ctx} {e : Expr} {es : List Expr} {m : DE} {r : DA} {p : Pos}
theorem pda_star (he : PD C e m) (hr : PDA C es r) (hs : starEach (.Starred e p :: es) C.X.env = (true, eval e C.X.env) :: starEach es C.X.env := by rfl) : PDA C (.Starred e p :: es) (dStar m r) :=
  PA.imp (StX.pa_star he hr hs) fun σ H Q ⟨ρ, st, ι, er, rl, q⟩ => by
    refine ⟨ρ, st, ι, er, rl, post_bind q fun d s1 v ι1 H1 st1 rl1 rv q1 => ?_⟩
    have fin : ∀ {xs : List V} {ds : List D}, RepL C.T C.xp (hide ι1 s1 H1) ι1 xs ds → Post C.T C.xp (fun c d H => C.W c d σ H) ι1 s1 H1 (RepL C.T C.xp) Q ((r ρ s1).bind fun ys s2 => .ok (ds ++ ys) s2) →
        tDA C.T C.xp C.W r σ H1 fun ys H2 => Q (xs ++ ys) H2 := fun {xs ds} rx q1 =>
      ⟨ρ, s1, ι1, er.step st1, rl1, post_bind q1 fun ys s2 vs ι2 H2 st2 rl2 rv2 q2 => q2 _ ι2 H2 (Step.refl _ _ _) rl2 ((rx.mono st2.ex st2.pre).append rv2)⟩
    cases rv with
    | tup h1 r1 => exact ⟨_, _, rfl, .inl (by rw [C.hK]; exact le_t (hide_le _ _ _) h1.t), fin r1 q1⟩
    | lst h1 r1 => exact ⟨_, _, rfl, .inr (SqL.of (hide_sub h1)), fin r1 q1⟩
    | ro h1 r1 => exact ⟨_, _, rfl, .inr (by rw [C.hK]; exact le_l (hide_le _ _ _) h1), fin r1 q1⟩
    | _ => exact q1.elim
end
end Den
set_option maxRecDepth 100000
set_option maxHeartbeats 4000000
namespace Den
open PySem PySem.Spec PyProof.Rows L2
section
variable {K : PySem.W.Frag} {x qual : Str} {st : Stmt} {f : Addr} {fd : FuncData}
theorem fun_ofD (F : FunD K x qual (defArgs st) (defBody st) (defScope st) [] [] f fd) : Fun K x qual st f fd := by
  obtain ⟨oc, od, dV, kV, doc, pm, an, cdv, ct, osl, h1, h2, h3, h4, h5⟩ := F.ex
  rcases h4 with ⟨_, e⟩ | ⟨z, _⟩
  · subst e
    exact ⟨⟨oc, od, kV, doc, pm, an, cdv, ct, osl, h1, h2, h3⟩, F.kp⟩
  · exact absurd rfl z
theorem binds_ofD {ps : List Str} (F : FunD K x qual (defArgs st) (defBody st) (defScope st) [] [] f fd)
    (h : ∀ (kV doc pm : Value) (an : Option Addr) (cdv ct : Value) (us : List Value), us.length = ps.length → bindArgs (PySem.W.fnOf x qual (defArgs st) (defBody st) (defScope st) .none kV doc pm an cdv ct) ⟨us, []⟩ = pure (ps.zip us)) (s : Shared) (us : List Value) (hl : us.length = ps.length) : BindsTo s fd ⟨us, []⟩ (ps.zip us) := F.bindsA h s us hl
end
theorem walk_denE {l : PySem.W.OpenLaw} {n k : Nat} {q : Program} {loose : List Str} {XP : (Str → Option Value) → Heap → Prop} {YP : World → Heap → Prop} {d : DefRec} {x : Str}
    (hn : l.most = some n) (hn2 : n ≤ sizeLine) (hdf : d.params.defaults = []) (hr : RoomG k callerA)
    (F : ∀ (w : World) (mg : Str → Option Value) (fa : Addr) (h : Heap), YP w h → h.Ns mainGlobals mg → mg d.name = some (.ref fa) →
      ∃ (T : Txt) (fd : FuncData) (m : DF), T.K.In h ∧ (∀ (s : Shared) (u : Value), BindsTo s fd ⟨[u], []⟩ [(x, u)]) ∧ (∀ ns : List Int, ns.length ≤ n → ∃ st, m [.ro (ns.map D.int)] [] = .ok (.bl true) st) ∧
        ∀ base : Heap, T.K.In base → base.Ns mainGlobals mg → FnG l.prog w T.K mg base k fa fd [x] (spM T 1 m)) :
    PySem.W.WalkO q loose XP YP l.row.toRowW d [] (fun f vs => PySem.call f vs) := by
  refine Att.attach_call hn hdf fun w t0 t1 mg mb at_ ob pm cd doc a vs ns G Y _ _ _ here script nums few bare => ?_
  obtain ⟨T, fd, m, KX, hb, hm, hF⟩ := F w mg at_ _ Y G.T.g here
  exact law_den KX G.T.g G.T.b G.T.builtins G.T.nolimit bare script nums (Nat.le_trans few hn2) hr hb hF (hm ns few)
end Den
set_option maxRecDepth 100000
set_option maxHeartbeats 1000000
namespace Den
open PySem PySem.Spec PyProof.Rows L2
end Den
set_option maxRecDepth 100000
set_option maxHeartbeats 4000000
namespace Den
open PySem PySem.Spec PyProof.Rows L2
open L2N (Zn)
theorem flies_on {B g g' : Heap} {l : List Env} {a : Addr} {Z : Obj → Prop} (k : ∀ b o, g.get? b = some o → g'.get? b = some o) (f : HandSPX.FlyingZ B l a Z g) : HandSPX.FlyingZ B l a Z g' := by
  obtain ⟨f1, f2, f3, oe, vs, T, oT, ts, t1, t2, t3, t4, t5, t6, t7, t8, t9⟩ := f
  exact ⟨fun b o z => k b o (f1 b o z), f2, f3.of_keeps fun b o z _ => ⟨o, k b o z, rfl⟩, oe, vs, T, oT, ts, k _ _ t1, t2, t3, t4, t5, t6, k _ _ t7, t8, t9⟩
def wTwo (K : PySem.W.Frag) (cs : List Value) (i : Nat) (ts : Suite) (Wo : WX) (D : Ends) : WX := fun cls d σ H => ∃ b, PySem.W.exmAny K cls cs = some b ∧
  (b = true → ∀ a, H a = none → ts a cls d (offE (some i) D) (σ.set i (some (.ref a))) H) ∧ (b = false → Wo cls d σ H)
section
variable {X : Cx} {body su : List Stmt} {b0 : Stmt} {x1 x2 nm : Str} {c1 c2 : Value} {i kk : Nat} {p1 p2 tp pp pos : Pos} {ts : Suite} {tb : WX → TS} {Wo : WX}
theorem ps_tryTwo (hs : X.stack = X.env :: X.outer) (hf : X.env.frame = some X.env.locals) (hN : X.N.Nodup) (hi : X.N[i]? = some nm) (hln : X.env.kindOf nm = some .local) (n1 : Names X x1 c1) (n2 : Names X x2 c2) (tk : L2N.Takes X Wo)
    (hb : ∀ (W : WX) (pn : List (Addr × Obj)) (xe : Value → Shared → Prop), L2N.Takes (X.tr pn xe) W → PassesOwn (model X.prog X.w) X.A X.env xe → PSs (X.tr pn xe) body (tb W))
    (hsu : ∀ (a : Addr) (oe : Obj) (cls : Value) (d : Option Addr) (pn : List (Addr × Obj)), Zn cls d oe → (∃ vs, oe.data = .fields vs) → PSs (X.suite a ((a, oe) :: pn)) (b0 :: su) (ts a cls d)) :
    PS X (.Try body [.ExceptHandler (some (.Tuple [.Name x1 p1, .Name x2 p2] kk tp)) (some nm) (b0 :: su) pp] [] [] pos) (fun D σ H => tb (wTwo X.K [c1, c2] i ts Wo D) D σ H) := by
  refine ⟨fun pins s σ H D I h => ?_⟩
  have xok := I.ok
  have frm : X.A.frames = some (X.env :: X.outer) := by rw [xok.frames, hs]
  refine wpAny_Try_except ?_
  generalize hhd : ExceptHandler.ExceptHandler (some (.Tuple [.Name x1 p1, .Name x2 p2] kk tp)) (some nm) (b0 :: su) pp = hd
  have bodyRun := hb (wTwo X.K [c1, c2] i ts Wo D) (X.pn ++ pins) (fun e t1 => wpAny (model X.prog X.w) X.A (noteFrame e X.env) (fun _ t2 => wpAny (model X.prog X.w) X.A (setFlight e none) (fun _ t3 => wpAny (model X.prog X.w) X.A (handleBy e X.env [hd]) (SP X pins D) X.xe t3) X.xe t2) X.xe t1)
  refine wpAny_mono ((bodyRun (fun u s2 xx => ?_) PassesOwn.looking).run [] s σ H D (I.toTry _) h) (fun fl s1 out => ?_) fun _ _ z => z
  · obtain ⟨a, B, sB, pB, σB, HB, cls, d, rfl, JB, nb, up, sky, na, os, ag, wx⟩ := xx
    have J0 : Inv X pins σB HB sB := JB.ofTry xok
    have sk : Sky B (X.env :: X.outer) a (Zn cls d) X.env.locals s2.heap := by rw [← hs]; exact sky
    show wpAny (model X.prog X.w) X.A (noteFrame (.ref a) X.env) _ _ _
    refine L2N.Sky.land Zn.steady frm hf sk fun g3 fl3 up3 => ?_
    have J3 : Inv X pins σB HB { s2 with heap := g3 } := J0.landed nb fl3.1 (up.trans up3) os ag
    obtain ⟨o3, vs3, at3, z3, dt3⟩ := fl3.there
    have nfr : a ∉ frs (X.env :: X.outer) := fun hm => by
      obtain ⟨_, o', e', nf⟩ := fl3.2.2.1.mem hm
      rw [at3] at e'
      cases e'
      exact nf _ dt3
    have nl : a ≠ X.env.locals := fun z => nfr (List.mem_filterMap.mpr ⟨X.env, List.mem_cons_self, by rw [hf, z]⟩)
    have nfs : a ∉ X.fs := fun hm => by
      obtain ⟨ev, hev, q⟩ := List.mem_filterMap.mp hm
      exact nfr (List.mem_filterMap.mpr ⟨ev, List.mem_cons_of_mem _ hev, q⟩)
    have S3 := J3.suite at3 dt3 na nl nfs
    obtain ⟨b, eb, yes, no⟩ := wx
    subst hhd
    refine wpAny_handleBy_cons (codeAny_handlers_test ?_) (by intro q; cases q)
    have asked : ∀ {x : Str} {cv : Value} {np : Pos} {Q : Value → Shared → Prop} {E : Value → Shared → Prop}, Names X x cv → Q cv { s2 with heap := g3 } → wpAny (model X.prog X.w) (X.A.mark (some (.ref a))) (eval (.Name x np) X.env) Q E { s2 with heap := g3 } := fun {x cv np Q E} hc q => by
      obtain ⟨hg, hdb, hm | ⟨hm, hv, hn⟩⟩ := hc
      · exact ld_glob (X := X.suite a ((a, o3) :: (X.pn ++ pins))) S3 hg hm q hdb
      · exact ld_blt (X := X.suite a ((a, o3) :: (X.pn ++ pins))) S3 hg hm hv q hn hdb
    refine wpAny_Tuple (wpAny_items_cons (asked n1 (wpAny_items_cons (asked n2 (wpAny_items_nil ⟨by size_fits, ?_⟩)))))
    have kp : ∀ q o, g3.get? q = some o → (g3.push { cls := .type "tuple", data := .seq [c1, c2].toArray }).get? q = some o := fun _ _ z => Heap.get?_push_of_some _ z
    have atT : (g3.push { cls := .type "tuple", data := .seq [c1, c2].toArray }).get? g3.objs.size = some { cls := .type "tuple", data := .seq [c1, c2].toArray } := Heap.get?_push_size g3 rfl
    show wpAny (model X.prog X.w) _ (excMatches (.ref a) (.ref g3.objs.size)) _ _ { s2 with heap := g3.push { cls := .type "tuple", data := .seq [c1, c2].toArray } }
    generalize g3.push { cls := .type "tuple", data := .seq [c1, c2].toArray } = g5 at kp atT ⊢
    have fl5 := flies_on kp fl3
    have up5 : s2.heap.UpToSlots g5 := up3.trans (Heap.UpToSlots.of_keeps kp)
    have J5 : Inv X pins σB HB { s2 with heap := g5 } := J0.landed nb fl5.1 (up.trans up5) os ag
    have lt : PySem.W.Looks (model X.prog X.w) g5 (typeOf (.ref a)) cls := fun A Q E s k q => wpAny_typeOf_ref (k _ _ (kp _ _ at3)) (by rw [z3.1]; exact q)
    refine (PySem.W.exm_tup2 (M := model X.prog X.w) J5.kIn lt atT eb).here ?_
    cases b with
    | false =>
      show wpAny _ X.A (handleBy (.ref a) X.env []) _ _ _
      refine wpAny_handleBy_nil ?_
      obtain ⟨_, _, _, oe, vs, T, oT, tT, hoe, _, hdt, hv1, _⟩ := id fl5
      unfold PySem.passOn
      refine wpAny_bind (wpAny_field hoe hdt hv1 ?_)
      rw [if_neg (show ¬ ((Value.ref T == Value.none) = true) from by simp)]
      have on : wpAny (model X.prog X.w) X.A (setFlight (.ref a) X.env.frame) (fun _ t4 => wpAny (model X.prog X.w) X.A (throw (.ref a) : Sem Flow) (SP X pins D) X.xe t4) X.xe { s2 with heap := g5 } := by
        rw [hf]
        refine HandSPX.setFlight_upZ fl5 fun g4 st4 up4 => wpAny_throw (tk _ _ ?_)
        exact ⟨a, B, sB, pins, σB, HB, cls, d, rfl, J0, nb, (up.trans up5).trans up4, .inr (.inr (by rw [hs]; exact st4)), na, os, ag, no rfl⟩
      first
        | exact wpAny_bind (wpAny_pure (wpAny_bind on))
        | exact wpAny_bind on
    | true =>
      have y := yes rfl a na
      refine codeAny_handlers_suite_as ?_
      refine HandSPX.lands_againZ fl5 fun g4 fl4 up4 => ?_
      have J4 : Inv X pins σB HB { s2 with heap := g4 } := J0.landed nb fl4.1 ((up.trans up5).trans up4) os ag
      obtain ⟨o4, vs4, at4, z4, dt4⟩ := fl4.there
      have S4 := J4.suite at4 dt4 na nl nfs
      refine store_ok (X := X.suite a ((a, o4) :: (X.pn ++ pins))) (v := .ref a) S4 hN hi (.inl hln) rfl (fun s5 S5 => ?_) (.inr hln)
      refine wpAny_mono ((hsu a o4 cls d (X.pn ++ pins) z4 ⟨_, dt4⟩).run [] s5 _ HB _ S5 y) (fun fl t6 out => ?_) fun _ _ z => z.elim
      have off : ∀ {σ6 : L2.St} {H6 : Hp} {Q : Shared → Prop}, Inv (X.suite a ((a, o4) :: (X.pn ++ pins))) [] σ6 H6 t6 → (∀ s7, Inv X pins (σ6.set i none) H6 s7 → Q s7) →
          wpAny (model X.prog X.w) X.A (do bindName X.env nm .none; unbindBehindTheSuite X.env nm pp) (fun _ s7 => Q s7) X.xe t6 := fun {σ6 H6 Q} S6 hq => gone_ok (S6.unsuite xok) hN hi hln hq
      match fl, out with
      | .next, ⟨σ6, H6, S6, q6⟩ => exact off S6 fun s7 J7 => ⟨_, _, J7, q6⟩
      | .brk, ⟨σ6, H6, S6, q6⟩ => exact off S6 fun s7 J7 => ⟨_, _, J7, q6⟩
      | .cont, ⟨σ6, H6, S6, q6⟩ => exact off S6 fun s7 J7 => ⟨_, _, J7, q6⟩
      | .ret u, ⟨v6, σ6, H6, S6, r6, q6⟩ => exact off S6 fun s7 J7 => ⟨_, _, _, J7, r6, q6⟩
  · match fl, out with
    | .next, ⟨σ', H', J', q⟩ => exact wpAny_execs_nil ⟨σ', H', J'.ofTry xok, q⟩
    | .brk, ⟨σ', H', J', q⟩ => exact ⟨σ', H', J'.ofTry xok, q⟩
    | .cont, ⟨σ', H', J', q⟩ => exact ⟨σ', H', J'.ofTry xok, q⟩
    | .ret u, ⟨v, σ', H', J', r, q⟩ => exact ⟨v, σ', H', J'.ofTry xok, r, q⟩
end
section
variable {C : Ctx} {x1 x2 n : Str} {c1 c2 : Value} {i kk : Nat} {bd suite : List Stmt} {b₀ : Stmt} {p1 p2 tp pp pos : Pos} {mb mh : DS} {cth : Nat → Option Bool}
theorem pds_tryTwo (hs : C.X.stack = C.X.env :: C.X.outer) (hf : C.X.env.frame = some C.X.env.locals) (hN : C.X.N.Nodup) (hi : C.X.N[i]? = some n) (hln : C.X.env.kindOf n = some .local) (n1 : Names C.X x1 c1) (n2 : Names C.X x2 c2) (tk : L2N.Takes C.X C.W)
    (hcatch : ∀ c b, cth c = some b → PySem.W.exmAny C.T.K (.ref (C.T.ca c)) [c1, c2] = some b)
    (hb : ∀ (W : WX) (pn : List (Addr × Obj)) (xe : Value → Shared → Prop), L2N.Takes (C.X.tr pn xe) W → PassesOwn (model C.X.prog C.X.w) C.X.A C.X.env xe → PDSs (C.try W pn xe) bd mb)
    (hsu : ∀ (a : Addr) (oe : Obj) (c : Nat) (d : Option Addr) (pn : List (Addr × Obj)), L2N.Zn (.ref (C.T.ca c)) d oe → (∃ vs, oe.data = .fields vs) → PDSs (C.suite a c d ((a, oe) :: pn)) (b₀ :: suite) mh) :
    PDS C (.Try bd [.ExceptHandler (some (.Tuple [.Name x1 p1, .Name x2 p2] kk tp)) (some n) (b₀ :: suite) pp] [] [] pos) (sTryC [(cth, some i, mh)] mb) := by
  have h0 := ps_tryTwo (p1 := p1) (p2 := p2) (tp := tp) (kk := kk) (pos := pos) (pp := pp) (body := bd) (b0 := b₀) (su := suite) (tb := fun W => tDS C.T C.xp W mb) (ts := fun a cls d E σ H => ∃ c, cls = .ref (C.T.ca c) ∧ tDS C.T ((a, c, d) :: C.xp) (fun _ _ _ _ => False) mh E σ H) hs hf hN hi hln n1 n2 tk (fun W pn xe t p => hb W pn xe t p)
    (fun a oe cls d pn hz hd => ⟨fun pins s σ H D I ⟨c, ec, hw⟩ => by
      subst ec
      exact (hsu a oe c d pn hz hd).run pins s σ H D I hw⟩)
  refine PS.imp h0 fun E σ H ⟨ρ, st, ι, er, rl, p⟩ => ⟨ρ, st, ι, er, rl, ?_⟩
  unfold sTryC at p
  cases hm : mb ρ st with
  | exc c xs ρ1 s1 =>
    rw [hm] at p
    intro σ1 ι1 H1 dx st1 rl1 er1 xd
    dsimp only at p
    unfold sCatch at p
    cases hcc : cth c with
    | none =>
      rw [hcc] at p
      exact p.elim
    | some b =>
      rw [hcc] at p
      refine ⟨b, by rw [C.hK]; exact hcatch c b hcc, fun hbt a ha => ?_, fun hbf => ?_⟩
      · subst hbt
        dsimp only at p
        unfold caught at p
        have sub : ∀ q ∈ C.xp, q ∈ (a, c, dx) :: C.xp := fun q hq => List.mem_cons_of_mem _ hq
        have re : Rep C.T ((a, c, dx) :: C.xp) (hide ι1 s1 H1) ι1 (.ref a) (.exc c xs) := by
          rcases xd with ⟨rfl, rfl⟩ | ⟨d, ys, rfl, h1, h2, h3, h4, h5⟩
          · exact .exc List.mem_cons_self rfl
          · exact .excd List.mem_cons_self (h2.trans h1) h3 (h4.more sub) h5
        refine ⟨c, rfl, onD (some i) c xs ρ1, s1, ι1, (er1.more sub).set i re, rl1.more sub, ?_⟩
        cases hh : mh (onD (some i) c xs ρ1) s1 with
        | ret d s2 =>
          rw [hh] at p
          dsimp only at p
          split at p
          · rename_i hn
            exact fun v ι2 H2 st2 rl2 rv => p v ι2 H2 (st1.trans st2) (rl2.noE hn.2) (rv.noE hn.1)
          · exact p.elim
        | nx ρ2 s2 =>
          rw [hh] at p
          dsimp only at p
          split at p
          · rename_i hn
            exact fun σ2 ι2 H2 st2 rl2 er3 => p (σ2.set i none) ι2 H2 (st1.trans st2) (rl2.noE hn.2) ((er3.unset i).noE hn.1)
          · exact p.elim
        | _ =>
          rw [hh] at p
          exact p.elim
      · subst hbf
        exact p σ1 ι1 H1 dx st1 rl1 er1 xd
  | nx ρ1 s1 => rw [hm] at p; exact p
  | ret d s1 => rw [hm] at p; exact p
  | brk ρ1 s1 => rw [hm] at p; exact p
  | cnt ρ1 s1 => rw [hm] at p; exact p
  | bad => rw [hm] at p; exact p
end
end Den
set_option maxRecDepth 100000
set_option maxHeartbeats 4000000
namespace Den
open PySem PySem.Spec PyProof.Rows L2
theorem once_meets (l : Addr) (items : Array Value) (n : Nat) (dd : Option Addr) (sl : Array (Option Value)) (x : Int) (u : Tok) (c0 : (decide (x < -(2 ^ 63)) || decide (x ≥ 2 ^ 63)) = false) (c1 : (items.isEmpty || x == 1) = true) :
    Meets (Builtin.«tuple.__mul__» ⟨[.ref l, .int x u], []⟩) (fun _ R s => s.heap.get? l = some { cls := .type "tuple", dict := dd, data := .seq items n, slots := sl } ∧ R (.ok (.ret (Value.ref l))) s) :=
  .of_wp fun prog w A R s h => by
    obtain ⟨hp, g, d, tk, os⟩ := s
    obtain ⟨hl, h⟩ := h
    have f1 := AutoSeq1.idx_int
    wp_walk using wpAny_loadPart' hl
    repeat (first
      | (refine wpAny_ite_false (decide_eq_false (by rw [c0]; exact Bool.false_ne_true)) ?_; wp_walk using wpAny_loadPart' hl)
      | (refine wpAny_ite_true (decide_eq_true c1) ?_; wp_walk using wpAny_loadPart' hl))
    exact ⟨_, rfl, h⟩
def rOnceT (K : PySem.W.Frag) : R2 := fun x y H Q => ∃ l xs, x = .ref l ∧ y = .int 1 ∧ SqT K H l xs ∧ Q (.ref l) H
theorem op_onceT {X : Cx} : OpR X (binaryOp .Mult) (rOnceT X.K) := by
  intro pins s σ H x y v u Q I rx ry h
  obtain ⟨l, xs, rfl, rfl, hT, q⟩ := h
  cases rx
  obtain ⟨t, rfl⟩ := ry
  obtain ⟨its, r, ⟨⟨cls, dd, data, sl⟩, ho, hc, n, hd⟩, hs⟩ := I.tuple hT
  dsimp only at hc hd
  subst hc hd
  have c0 : (decide ((1 : Int) < -(2 ^ 63)) || decide ((1 : Int) ≥ 2 ^ 63)) = false := by decide
  have c1 : (its.toArray.isEmpty || (1 : Int) == 1) = true := by simp
  have on := once_meets l its.toArray n dd sl 1 t c0 c1
  refine wpAny_binaryOp_repeat_ref (T := "tuple") (U := "int") (by decide) ⟨_, ho, rfl⟩ (fun s' => typeIs_int s' 1 t) noFill_tuple_mul F.fills_int_mul F.slot_int_rmul repeat_tuple F.slot_int_index.lookup
    (call_meets F.slot_int_rmul (typeIs_int s 1 t) F.entry_int_rmul (F.args_int_rmul_2 _ _) (int_rmul_tuple 1 t l its.toArray n dd sl) ⟨ho, rfl, ⟨_, ho, rfl⟩, call_meets F.slot_tuple_mul ⟨_, ho, rfl⟩ F.entry_tuple_mul (F.args_tuple_mul_2 _ _) on ⟨ho, ?_⟩⟩)
  exact ⟨.ref l, H, I, rfl, q⟩
def rRepN (K : PySem.W.Frag) : R2 := fun x y H Q => ∃ (a : Addr) (k : Int) (xs : List V), (x = .ref a ∧ y = .int k) ∧ SqT K H a xs ∧ xs ≠ [] ∧ (2 ≤ k ∧ k ≤ 1000 ∧ xs.length ≤ 1000) ∧ ∀ p o, o.dict = none → H p = none → Q (.ref p) (upd H p (.frz o (.tup (List.replicate k.toNat xs).flatten)))
theorem op_repN {X : Cx} : OpR X (binaryOp .Mult) (rRepN X.K) := by
  intro pins s σ H x y v u Q I rx ry h
  obtain ⟨a, k, xs, ⟨rfl, rfl⟩, hT, hne, ⟨h1, h2, hz⟩, q⟩ := h
  cases rx
  obtain ⟨t, rfl⟩ := ry
  obtain ⟨us, r, ⟨⟨cl, dd, dt, sl⟩, ho, hc, n, hd⟩, _⟩ := I.tuple hT
  simp only at hc hd
  subst hc hd
  have hl : us.length = xs.length := r.length.symm
  have ne : us ≠ [] := fun e => hne (List.eq_nil_of_length_eq_zero (by rw [← hl, e]; rfl))
  have em : us.toArray.isEmpty = false := by
    cases us with
    | nil => exact absurd rfl ne
    | cons _ _ => rfl
  have sz : us.toArray.size = xs.length := by rw [List.size_toArray, hl]
  have mu : ((xs.length : Nat) : Int) * k ≤ 1000 * k := Int.mul_le_mul_of_nonneg_right (by omega) (by omega)
  have le : (List.replicate k.toNat us).flatten.length ≤ 1000000 := by
    rw [PyProof.Rows.lm_len_rep_flat, hl]
    exact Nat.mul_le_mul (show k.toNat ≤ 1000 by omega) hz
  have d0 : (decide (k < -(2 ^ 63)) || decide (k ≥ 2 ^ 63)) = false := by simp; omega
  have d1 : (us.toArray.isEmpty || k == 1) = false := by rw [em]; simp; omega
  have d2 : (decide (k ≤ 0) || us.toArray.isEmpty) = false := by rw [em]; simp; omega
  have d4 : Builtin.Tuple.tupleTooMany (((us.toArray.size : Nat) : Int) * k) = false := by
    unfold Builtin.Tuple.tupleTooMany
    rw [sizeLine_eq, sz]
    exact decide_eq_false (by omega)
  refine wpAny_binaryOp_repeat_ref (T := "tuple") (U := "int") (by decide) ⟨_, ho, rfl⟩ (fun s2 => typeIs_int s2 k t) noFill_tuple_mul F.fills_int_mul F.slot_int_rmul repeat_tuple F.slot_int_index.lookup
    (call_meets F.slot_int_rmul (typeIs_int s k t) F.entry_int_rmul (F.args_int_rmul_2 _ _) (int_rmul_tuple k t a us.toArray n dd sl) ⟨ho, rfl, ⟨_, ho, rfl⟩, call_meets F.slot_tuple_mul ⟨_, ho, rfl⟩ F.entry_tuple_mul (F.args_tuple_mul_2 _ _)
      (tuple_mulW a us.toArray n dd sl k t d0 d1 d2 (by rw [sz]; omega) d4 (by rw [size_rep, List.size_toArray, sizeLine_eq]; omega)) ⟨ho, ?_⟩⟩)
  rw [size_rep]
  refine ⟨.ref s.heap.objs.size, _, I.laid (t' := s.toks) (fun b u e => Heap.get?_push_of_some _ e) (Nat.le_refl _) (tup_known ?_ (r.rep k.toNat)), rfl, q _ _ rfl (I.hok.fresh (Nat.le_refl _))⟩
  rw [PyProof.Rows.lm_len_rep_flat, ← hl, sizeLine_eq]
  rw [PyProof.Rows.lm_len_rep_flat] at le
  omega
def fRepT : D → D → Option D
  | .tup xs, .int k => if k = 1 then some (.tup xs) else if xs ≠ [] ∧ 2 ≤ k ∧ k ≤ 1000 ∧ xs.length ≤ 1000 then some (.tup (List.replicate k.toNat xs).flatten) else none
  | _, _ => none
section
variable {C : Ctx}
theorem rep_tup : OpD C (fun x y H Q => rOnceT C.X.K x y H Q ∨ rRepN C.X.K x y H Q) fRepT := fun ι st H x y dx dy dz Q rl rx ry e k => by
  unfold fRepT at e
  split at e
  · rename_i xs i
    cases ry
    cases rx with
    | tup h1 r1 =>
      have hT := le_t (hide_le _ _ _) h1.t
      rw [← C.hK] at hT
      split at e
      · rename_i h1k
        cases e
        subst h1k
        exact .inl ⟨_, _, rfl, rfl, hT, k _ ι H (Step.refl _ _ _) rl (.tup h1 r1)⟩
      · split at e
        · rename_i hc
          cases e
          refine .inr ⟨_, i, _, ⟨rfl, rfl⟩, hT, ?_, ⟨hc.2.1, hc.2.2.1, by rw [r1.length]; exact hc.2.2.2⟩, fun p o ho hp => ?_⟩
          · intro z
            have := r1.length
            rw [z] at this
            exact hc.1 (List.eq_nil_of_length_eq_zero this.symm)
          · obtain ⟨ra, sa, ea⟩ := rl.new (o := .frz o (.tup _)) hp
            exact k _ ι _ sa ra (.tup (.inl ⟨o, ea, ho⟩) ((r1.rep _).mono sa.ex sa.pre))
        · cases e
  · cases e
def dMulT : DE → DE → DE := dOp2 fRepT
theorem pd_mulT {a b : Expr} {ma mb : DE} {pos : Pos} (ha : PD C a ma) (hb : PD C b mb) : PD C (.BinOp a .Mult b pos) (dMulT ma mb) := pd_op (op_onceT.or op_repN) rep_tup ha hb
end
end Den
set_option maxRecDepth 100000
set_option maxHeartbeats 4000000
namespace Den
open PySem PySem.Spec PyProof.Rows L2
def dFmtRT (a : DE) : DE := fun ρ st => (a ρ st).bind fun d s1 => match d with
  | .tup xs => (match toPyR (.tup xs) with
    | some p => if p.showable = true ∧ p.depth ≤ 60 ∧ p.shown.length ≤ 1000000 then .ok (.str p.shown) s1 else .bad
    | none => .bad)
  | _ => .bad
section
variable {C : Ctx} {e : Expr} {ma : DE} {pos : Pos}
end
end Den
set_option maxRecDepth 100000
set_option maxHeartbeats 4000000
namespace Den
open PySem PySem.Spec PyProof.Rows L2
section
variable {C : Ctx}
def gNeDS : F2 := fun x y st => match x, y with
  | .dic _ _, .str _ => some (.bl true, st)
  | _, _ => none
def rNeDS (C : Ctx) : R2 := fun x y H Q => ∃ (a : Addr) (o : Obj) (kvs : List (Key × V)) (z : Str), x = .ref a ∧ y = .str z ∧ H a = some (.frz o (.dK kvs)) ∧ Q (.bl true) H
end
end Den
set_option maxRecDepth 100000
set_option maxHeartbeats 4000000
namespace Den
open PySem PySem.Spec PyProof.Rows L2
section
variable {T : Txt} {fd : FuncData} {ps ks : List Str} {n : Nat}
theorem bd_nod {x qual : Str} {params : Arguments} {bd : List Stmt} {scope : Scope} {f : Addr} (g : {α : Type} → List α → List α → List α) (F : FunD T.K x qual params bd scope [] [] f fd)
    (hrel : ∀ {vs zs : List V} {us ws : List Value}, Vals vs us → Vals zs ws → Vals (g vs zs) (g us ws))
    (hrep : ∀ xp G ι {vs zs : List V} {us ws : List D}, RepL T xp G ι vs us → RepL T xp G ι zs ws → RepL T xp G ι (g vs zs) (g us ws))
    (hlen : ∀ vs zs : List V, vs.length = n → zs.length = ks.length → (g vs zs).length = ps.length)
    (h : ∀ (kV doc pm : Value) (an : Option Addr) (cdv ct : Value) (us ws : List Value), us.length = n → ws.length = ks.length →
      bindArgs (PySem.W.fnOf x qual params bd scope .none kV doc pm an cdv ct) ⟨us, ks.zip ws⟩ = pure (ps.zip (g us ws))) : Bd T fd ps n ks (fun ds es => g ds es) := by
  obtain ⟨oc, od, dV, kV, doc, pm, an, cdv, ct, osl, rfl, lk, hcd, hD, hK⟩ := F.ex
  rcases hD with ⟨_, e⟩ | ⟨e, _⟩
  · subst e
    refine ⟨fun us ws => g us ws, fun vs zs => g vs zs, ⟨fun s us ws X l1 l2 => ?_, fun r1 r2 => hrel r1 r2⟩, hlen, fun xp G ι vs ds zs es r1 r2 => hrep xp G ι r1 r2⟩
    exact BindsTo.of_eq (h kV doc pm an cdv ct us ws l1 l2)
  · exact absurd rfl e
end
end Den
set_option maxRecDepth 100000
set_option maxHeartbeats 4000000
namespace Den
open PySem PySem.Spec PyProof.Rows L2 PySem.Froz
structure TxR (P : Program) (w : World) (D : SD) (l : List Str) : Prop where
  ok : TxOk P w D l
  ris : Ris D.2.2.place.toList
  led : w.params.followText "set-order" = true ∨ D.2.2.led = true
  nd : l.Nodup
section
variable {P : Program} {w : World} {A : Around} {E : Value → Shared → Prop} {s : Shared}
theorem TxR.nil : TxR P w (#[], 0, .fresh 0 0 (!w.params.followText "set-order")) [] := by
  refine ⟨TxOk.nil (by rfl), List.Pairwise.nil, ?_, List.nodup_nil⟩
  show _ ∨ (!w.params.followText "set-order") = true
  cases w.params.followText "set-order"
  · exact .inr rfl
  · exact .inl rfl
def withS (k : Str) (l : List Str) : List Str := if k ∈ l then l else k :: l
def TxAt (P : Program) (w : World) (h : Heap) (a : Addr) (l : List Str) : Prop := ∃ D, h.get? a = some (sObj "set" D) ∧ TxR P w D l
theorem TxAt.keep {h h' : Heap} {a : Addr} {l : List Str} (R : TxAt P w h a l) (k : ∀ o, h.get? a = some o → h'.get? a = some o) : TxAt P w h' a l := by
  obtain ⟨D, ho, r⟩ := R
  exact ⟨D, k _ ho, r⟩
end
end Den
set_option maxRecDepth 100000
set_option maxHeartbeats 4000000
namespace Den
open PySem PySem.Spec PyProof.Rows L2 PySem.Froz
section
variable {P : Program} {w : World} {A : Around} {E : Value → Shared → Prop} {s : Shared}
end
end Den
set_option maxRecDepth 100000
set_option maxHeartbeats 4000000
namespace Den
open PySem PySem.Spec PyProof.Rows L2 PySem.Froz
section
variable {P : Program} {w : World} {A : Around} {E : Value → Shared → Prop} {s : Shared}
end
def TxO (P : Program) (w : World) (a : Addr) (l : List Str) : HO := .ext fun h => TxAt P w h a l
def rSetX (K : PySem.W.Frag) (P : Program) (w : World) : List V → Hp → VK → Prop := fun vs H Q => ∃ (b : Addr) (ns : List Str), vs = [.ref b] ∧ SqL K H b (ns.map V.str) ∧ ns.length ≤ 1000 ∧
  ∀ (p : Addr) (l : List Str), (∀ k, k ∈ l ↔ k ∈ ns) → l.Nodup → l.length ≤ ns.length → H p = none → Q (.ref p) (upd H p (TxO P w p l))
def rSortedX (P : Program) (w : World) : List V → Hp → VK → Prop := fun vs H Q => ∃ (a : Addr) (l : List Str), vs = [V.ref a] ∧ H a = some (TxO P w a l) ∧ l.length < 64 ∧
  ∀ (ys : List Str) (p : Addr), ys.Perm l → sortedS ys = true → H p = none → Q (.ref p) (upd H p (.lst (ys.map V.str)))
end Den
set_option maxRecDepth 100000
set_option maxHeartbeats 4000000
namespace Den
open PySem PySem.Spec PyProof.Rows L2 PySem.Froz
def ltX (a b : Str) : Prop := a.cps.toList < b.cps.toList
instance (a b : Str) : Decidable (ltX a b) := inferInstanceAs (Decidable (a.cps.toList < b.cps.toList))
theorem ltX_irr (a : Str) : ¬ ltX a a := List.lt_irrefl a.cps.toList
theorem ltX_trans {a b c : Str} (h : ltX a b) (g : ltX b c) : ltX a c := List.lt_trans h g
theorem ltX_tri {a b : Str} (h : ¬ ltX a b) (g : ¬ ltX b a) : a = b := by
  have e : a.cps.toList = b.cps.toList := List.le_antisymm (List.not_lt.mp g) (List.not_lt.mp h)
  cases a
  cases b
  exact congrArg Str.mk (Array.toList_inj.mp e)
def insX (k : Str) : List Str → List Str
  | [] => [k]
  | x :: r => if ltX k x then k :: x :: r else if k = x then x :: r else x :: insX k r
def sortX : List Str → List Str
  | [] => []
  | k :: r => insX k (sortX r)
theorem insX_mem (k j : Str) : ∀ l : List Str, j ∈ insX k l ↔ j = k ∨ j ∈ l
  | [] => by simp [insX]
  | x :: r => by
    unfold insX
    split
    · simp
    · split
      · rename_i h
        subst h
        simp
      · simp only [List.mem_cons, insX_mem k j r]
        constructor
        · rintro (h | h | h)
          · exact .inr (.inl h)
          · exact .inl h
          · exact .inr (.inr h)
        · rintro (h | h | h)
          · exact .inr (.inl h)
          · exact .inl h
          · exact .inr (.inr h)
theorem sortX_mem (j : Str) : ∀ l : List Str, j ∈ sortX l ↔ j ∈ l
  | [] => by simp [sortX]
  | k :: r => by rw [sortX, insX_mem, sortX_mem j r, List.mem_cons]
theorem insX_up (k : Str) : ∀ l : List Str, l.Pairwise ltX → (insX k l).Pairwise ltX
  | [], _ => by simp [insX]
  | x :: r, h => by
    obtain ⟨a, b⟩ := List.pairwise_cons.mp h
    unfold insX
    split
    · rename_i c
      refine List.pairwise_cons.mpr ⟨fun y hy => ?_, h⟩
      rcases List.mem_cons.mp hy with rfl | hy
      · exact c
      · exact ltX_trans c (a y hy)
    · split
      · exact h
      · rename_i c d
        refine List.pairwise_cons.mpr ⟨fun y hy => ?_, insX_up k r b⟩
        rcases (insX_mem k y r).mp hy with rfl | hy
        · exact Decidable.byContradiction fun z => d (ltX_tri c z)
        · exact a y hy
theorem sortX_up : ∀ l : List Str, (sortX l).Pairwise ltX
  | [] => List.Pairwise.nil
  | k :: r => insX_up k _ (sortX_up r)
theorem upX_one : ∀ {l m : List Str}, l.Pairwise ltX → m.Pairwise ltX → (∀ k, k ∈ l ↔ k ∈ m) → l = m
  | [], [], _, _, _ => rfl
  | [], y :: m, _, _, h => absurd ((h y).2 List.mem_cons_self) (by simp)
  | x :: l, [], _, _, h => absurd ((h x).1 List.mem_cons_self) (by simp)
  | x :: l, y :: m, hl, hm, h => by
    obtain ⟨a1, a2⟩ := List.pairwise_cons.mp hl
    obtain ⟨b1, b2⟩ := List.pairwise_cons.mp hm
    have e : x = y := by
      rcases List.mem_cons.mp ((h x).1 List.mem_cons_self) with e | e
      · exact e
      · rcases List.mem_cons.mp ((h y).2 List.mem_cons_self) with f | f
        · exact f.symm
        · exact absurd (ltX_trans (a1 y f) (b1 x e)) (ltX_irr x)
    subst e
    rw [upX_one a2 b2 fun k => ?_]
    constructor
    · intro hk
      rcases List.mem_cons.mp ((h k).1 (List.mem_cons_of_mem _ hk)) with e | e
      · exact absurd (e ▸ a1 k hk) (ltX_irr x)
      · exact e
    · intro hk
      rcases List.mem_cons.mp ((h k).2 (List.mem_cons_of_mem _ hk)) with e | e
      · exact absurd (e ▸ b1 k hk) (ltX_irr x)
      · exact e
theorem rising_up : ∀ (l : List Str) (p : Str), risingS p l = true → (p :: l).Nodup → (p :: l).Pairwise ltX
  | [], p, _, _ => List.pairwise_singleton _ _
  | x :: r, p, h, nd => by
    obtain ⟨n1, n2⟩ := List.nodup_cons.mp nd
    have h' : (!ltCps x.cps.toList p.cps.toList && risingS x r) = true := h
    rw [Bool.and_eq_true, Bool.not_eq_true', ltCps_eq, decide_eq_false_iff_not] at h'
    have up := rising_up r x h'.2 n2
    have px : ltX p x := Decidable.byContradiction fun z => n1 (ltX_tri z h'.1 ▸ List.mem_cons_self)
    refine List.pairwise_cons.mpr ⟨fun y hy => ?_, up⟩
    rcases List.mem_cons.mp hy with rfl | hy
    · exact px
    · exact ltX_trans px ((List.pairwise_cons.mp up).1 y hy)
theorem sortedS_up {ys : List Str} (h : sortedS ys = true) (nd : ys.Nodup) : ys.Pairwise ltX := by
  cases ys with
  | nil => exact List.Pairwise.nil
  | cons x r => exact rising_up r x h nd
def strsOfD : List D → Option (List Str)
  | [] => some []
  | .str k :: r => (strsOfD r).map (k :: ·)
  | _ :: _ => none
theorem repL_ofStrs {T : Txt} {xp : XT} {G : Hp} {ι : Io} : ∀ ks : List Str, RepL T xp G ι (ks.map V.str) (ks.map D.str)
  | [] => .nil
  | k :: r => .cons (.str k) (repL_ofStrs r)
def gSortSetX (x : D) (st : Store) : Option (List Str) := (litemsOf x st).bind fun ds => (strsOfD ds).bind fun ks => if ks.length < 64 then some (sortX ks) else none
def dSortSetX (m : DE) : DE := fun ρ st => (m ρ st).bind fun x s1 => match gSortSetX x s1 with
  | some ks => .ok (.lst (ks.map D.str)) s1
  | none => .bad
section
variable {C : Ctx} {e : Expr} {m : DE} {x y : Str} {p q pos pos2 : Pos}
end
end Den
set_option maxRecDepth 100000
set_option maxHeartbeats 4000000
namespace Den
open PySem PySem.Spec PyProof.Rows L2
def gSum (x : D) (st : Store) : Option D := (litemsOf x st).bind fun xs => (intsOfD xs).map fun ns => .int ns.sum
end Den
set_option maxRecDepth 100000
set_option maxHeartbeats 4000000
namespace Den
open PySem PySem.Spec PyProof.Rows L2
section
variable {C : Ctx} {a b : Expr} {ma mb : DE} {pos : Pos}
def fShl : D → D → Option D := onI (fun i j => decide (0 ≤ j ∧ j ≤ 1000000 ∧ i.natAbs < 2 ^ 64)) fun i j => .int (i * 2 ^ j.toNat)
def dShl : DE → DE → DE := dOp2 fShl
def fShr : D → D → Option D := onI (fun _ j => decide (0 ≤ j)) fun i j => .int (i / 2 ^ j.toNat)
def dShr : DE → DE → DE := dOp2 fShr
def fBAnd : D → D → Option D := onI (fun _ _ => true) fun i j => .int (Builtin.bitAnd i j)
def dBAnd : DE → DE → DE := dOp2 fBAnd
def fBOr : D → D → Option D := onI (fun _ _ => true) fun i j => .int (Builtin.bitOr i j)
def dBOr : DE → DE → DE := dOp2 fBOr
end
theorem SqN.is {X : Cx} {pins : List (Addr × Obj)} {σ : L2.St} {H : Hp} {s : Shared} {a : Addr} {xs : List V} (I : Inv X pins σ H s) (h : SqN X.K H a xs) : s.TypeIs (.ref a) "tuple" ∧ ∃ ob, s.heap.get? a = some ob ∧ ob.dict = none := by
  rcases h with ⟨o, h, hd⟩ | ⟨o, its, n, hk, ⟨hc, hd⟩, _⟩
  · obtain ⟨e, _, _, _, o', e', c', _⟩ := I.hok a _ h
    cases e.symm.trans e'
    exact ⟨⟨o, e, c'⟩, o, e, hd⟩
  · exact ⟨⟨o, I.kIn a o hk, hc⟩, o, I.kIn a o hk, hd⟩
def TyG (X : Cx) (T : String) (Ty : V → Hp → Prop) : Prop := ∀ {pins : List (Addr × Obj)} {σ : L2.St} {H : Hp} {s : Shared} {x : V} {v : Value}, Inv X pins σ H s → RelV x v → Ty x H → s.TypeIs v T ∧ ∀ a, v = .ref a → ∃ ob, s.heap.get? a = some ob ∧ ob.dict = none
def tBMG (Ty : V → Hp → Prop) (r : V → List V → Hp → VK → Prop) (to : TE) (t : TA) : TE := fun σ H Q => to σ H fun x H1 => Ty x H1 ∧ t σ H1 fun vs H2 => r x vs H2 Q
structure MtG (C : Ctx) (tyB : D → Store → Bool) (name : Str) (f : FM) : Prop where
  ex : ∃ T id r Ty, PlainAttrs T ∧ Slot T name id ∧ typeOf (.builtin id) = pure (.type "method_descriptor") ∧ TyG C.X T Ty ∧ MtR C.X id r ∧
    (∀ ι st H v d, RelSt C.T C.xp ι st H → Rep C.T C.xp (hide ι st H) ι v d → tyB d st = true → Ty v H) ∧ MethD C r f
def dBmG (tyB : D → Store → Bool) (f : FM) (o : DE) (a : DA) : DE := fun ρ st => (o ρ st).bind fun d s0 => if tyB d s0 = true then (a ρ s0).bind fun ds s1 => ofO (f d ds s1) else .bad
section
variable {C : Ctx} {o e : Expr} {es : List Expr} {mo : DE} {ma : DA} {name : Str} {apos cpos : Pos} {fm : FM} {tyB : D → Store → Bool}
end
def tyN (d : D) (_ : Store) : Bool := match d with
  | .tup _ => true
  | _ => false
def idxS (z : Str) : List Str → Option Nat
  | [] => none
  | y :: r => if y = z then some 0 else (idxS z r).map (· + 1)
def mIdxT : FM := fun d ds st => match d, ds with
  | .tup ys, [.str z] => (strsOfD ys).bind fun l => (idxS z l).map fun j => (.int (j : Nat), st)
  | _, _ => none
def mExt : FM := fun d ds st => match d, ds with
  | .box k, [.lst ys] => match st[k]? with
    | some (.lst xs) => if xs.length + ys.length ≤ 100000 then some (.non, st.set k (.lst (xs ++ ys))) else none
    | _ => none
  | _, _ => none
end Den
set_option maxRecDepth 100000
set_option maxHeartbeats 4000000
namespace Den
open PySem PySem.Spec PyProof.Rows L2
section
variable {α : Type}
def getT (kvs : List (List Key × α)) (k : List Key) : Option α := (kvs.find? fun p => decide (p.1 = k)).map (·.2)
def putT (kvs : List (List Key × α)) (k : List Key) (d : α) : List (List Key × α) := if (kvs.any fun p => decide (p.1 = k)) = true then kvs.map fun p => if p.1 = k then (p.1, d) else p else kvs ++ [(k, d)]
end
abbrev RowT := List Key × Addr × V
abbrev RowV := List Key × Addr × Value
def RR (p : RowT) (q : RowV) : Prop := p.1 = q.1 ∧ p.2.1 = q.2.1 ∧ RelV p.2.2 q.2.2
def mdict (P : Program) (w : World) (a : Addr) (R : List RowT) (h : Heap) : Prop := ((a == sysModules) = false ∧ R.length ≤ 100000 ∧ (R.map (·.1)).Nodup) ∧
  ∃ qs : List RowV, Paired RR R qs ∧ ∃ o es ep, h.get? a = some o ∧ o.ExactDict ∧ o.data = .dict es ep ∧ es.toList = qs.map (entryOfKey (tupleKind (mixKind P w)))
section
variable {P : Program} {w : World} {H : Hp} {h : Heap} {a : Addr} {R : List RowT}
theorem mdict_ok (D : mdict P w a R h) : ObjOk P w H h a (.ext (mdict P w a R)) := by
  refine ⟨D, ?_, ?_⟩
  · obtain ⟨_, qs, _, o, _, _, e, _⟩ := D
    exact ⟨o, e⟩
  · rintro h1 h2 ⟨z, qs, r, o, es, ep, e, c⟩ k
    exact ⟨z, qs, r, o, es, ep, k o e, c⟩
theorem rr_keys : ∀ {R : List RowT} {qs : List RowV}, Paired RR R qs → R.map (·.1) = qs.map (·.1)
  | _, _, .nil => rfl
  | _, _, .cons h t => by rw [List.map_cons, List.map_cons, h.1, rr_keys t]
theorem rr_all {G : List Key → Addr → Prop} : ∀ {R : List RowT} {qs : List RowV}, Paired RR R qs → (∀ p ∈ R, G p.1 p.2.1) → ∀ q ∈ qs, G q.1 q.2.1
  | _, _, .nil, _, q, hq => nomatch hq
  | _, _, .cons h t, g, q, hq => by
    rcases List.mem_cons.mp hq with rfl | hq
    · rw [← h.1, ← h.2.1]
      exact g _ List.mem_cons_self
    · exact rr_all t (fun p hp => g p (List.mem_cons_of_mem _ hp)) q hq
def vR (R : List RowT) : List (List Key × V) := R.map fun p => (p.1, p.2.2)
def uR (qs : List RowV) : List (List Key × Value) := qs.map fun p => (p.1, p.2.2)
def putR (R : List RowT) (k : List Key) (b : Addr) (v : V) : List RowT := if (R.any fun p => decide (p.1 = k)) = true then R.map fun p => if p.1 = k then (p.1, p.2.1, v) else p else R ++ [(k, b, v)]
theorem rr_any : ∀ {R : List RowT} {qs : List RowV} (k : List Key), Paired RR R qs → (R.any fun p => decide (p.1 = k)) = (atKey qs k).isSome
  | _, _, k, .nil => rfl
  | p :: R, q :: qs, k, .cons h t => by
    rw [List.any_cons, rr_any k t]
    unfold atKey
    rw [List.find?_cons]
    by_cases e : p.1 = k
    · simp [e, h.1.symm.trans e]
    · simp [e, show ¬ q.1 = k from fun z => e (h.1.trans z)]
theorem rr_map (k : List Key) {v : V} {u : Value} (r : RelV v u) : ∀ {R : List RowT} {qs : List RowV}, Paired RR R qs → Paired RR (R.map fun p => if p.1 = k then (p.1, p.2.1, v) else p) (qs.map (putAt k u))
  | _, _, .nil => .nil
  | p :: R, q :: qs, .cons h t => by
    refine .cons ?_ (rr_map k r t)
    unfold putAt
    show RR (if p.1 = k then (p.1, p.2.1, v) else p) _
    by_cases e : p.1 = k
    · rw [if_pos e, if_pos (h.1.symm.trans e)]
      exact ⟨h.1, h.2.1, r⟩
    · rw [if_neg e, if_neg fun z => e (h.1.trans z)]
      exact h
theorem rr_put {R : List RowT} {qs : List RowV} (k : List Key) (b : Addr) {v : V} {u : Value} (h : Paired RR R qs) (r : RelV v u) : Paired RR (putR R k b v) (storedH qs k b u) := by
  unfold putR storedH
  rw [rr_any k h]
  split
  · exact rr_map k r h
  · exact Paired.snoc h ⟨rfl, rfl, r⟩
theorem putR_len (R : List RowT) (k : List Key) (b : Addr) (v : V) : (putR R k b v).length ≤ R.length + 1 := by
  unfold putR
  split
  · rw [List.length_map]; omega
  · rw [List.length_append]; exact Nat.le_refl _
theorem putR_keep {G : List Key → Addr → Prop} {R : List RowT} {k : List Key} {b : Addr} {v : V} (h : ∀ p ∈ R, G p.1 p.2.1) (hb : G k b) : ∀ p ∈ putR R k b v, G p.1 p.2.1 := by
  unfold putR
  split
  · intro p hp
    obtain ⟨q, hq, e⟩ := List.mem_map.mp hp
    by_cases z : q.1 = k
    · rw [if_pos z] at e
      rw [← e]
      exact h q hq
    · rw [if_neg z] at e
      rw [← e]
      exact h q hq
  · intro p hp
    rcases List.mem_append.mp hp with z | z
    · exact h p z
    · rw [List.mem_singleton.mp z]
      exact hb
end
section
variable {X : Cx} {pins : List (Addr × Obj)} {σ : L2.St} {H : Hp} {s : Shared} {a b : Addr} {R : List RowT} {k : List Key} {A : Around} {E : Value → Shared → Prop}
theorem key_T (I : Inv X pins σ H s) (h : SqT X.K H b (k.map kV)) : (tupleKind (mixKind X.prog X.w)).is s.heap k b := by
  obtain ⟨us, r, ⟨o, e, c, n, d⟩, _⟩ := I.tuple h
  exact ⟨o, us.toArray, n, e, c, d, by simpa using items_are r⟩
abbrev RowsOk (K : PySem.W.Frag) (H : Hp) (R : List RowT) : Prop := ∀ p ∈ R, SqT K H p.2.1 (p.1.map kV)
theorem mdict_at (I : Inv X pins σ H s) (ha : H a = some (.ext (mdict X.prog X.w a R))) (hr : RowsOk X.K H R) : ((a == sysModules) = false ∧ R.length ≤ 100000) ∧ ∃ qs, Paired RR R qs ∧ s.heap.DictOfH (tupleKind (mixKind X.prog X.w)) a qs := by
  obtain ⟨⟨z1, z2, z3⟩, qs, r, o, es, ep, e1, e2, e3, e4⟩ := (I.hok a _ ha).1
  exact ⟨⟨z1, z2⟩, qs, r, o, es, ep, e1, e2, e3, e4, rr_all r (fun p hp => key_T I (hr p hp)), by rw [← rr_keys r]; exact z3⟩
def rGetT (K : PySem.W.Frag) (P : Program) (w : World) : V → List V → Hp → VK → Prop := fun x xs H Q => ∃ (a b : Addr) (k : List Key) (R : List RowT) (z : V), (x = .ref a ∧ xs = [.ref b, z]) ∧ (H a = some (.ext (mdict P w a R)) ∧ RowsOk K H R) ∧ SqT K H b (k.map kV) ∧ Q ((getT (vR R) k).getD z) H
def rSetT (K : PySem.W.Frag) (P : Program) (w : World) : TSet := fun o i v H Q => ∃ (a b : Addr) (k : List Key) (R : List RowT), (o = .ref a ∧ i = .ref b) ∧ (H a = some (.ext (mdict P w a R)) ∧ RowsOk K H R) ∧ SqT K H b (k.map kV) ∧ R.length < 100000 ∧ Q (upd H a (.ext (mdict P w a (putR R k b v))))
theorem set_dictT (hu : X.A.units + 1 < cLine) : PSet X (rSetT X.K X.prog X.w) := by
  intro pins s σ H o i v ov iv u Q I ro ri rv h
  obtain ⟨a, b, k, R, ⟨rfl, rfl⟩, ⟨ha, hr⟩, hb, hl, q⟩ := h
  cases (show ov = Value.ref a from ro)
  cases (show iv = Value.ref b from ri)
  obtain ⟨⟨z1, z2⟩, qs, r, dd⟩ := mdict_at I ha hr
  refine wpAny_setItem_heap (hsz := by rw [← Paired.length r]; exact line_ok z2) (tupleKind_room_in1 hu) (key_T I hb) dd fun h' dd' sb => ⟨_, ?_, q⟩
  obtain ⟨o', es, ep, e1, e2, e3, e4, _, e5⟩ := dd'
  have r' := rr_put k b r rv
  exact I.write (x := a) (e := a) (by rw [ha]; trivial) (.inl rfl) (fun c z hc hz => (sb.2 c hc).trans hz) ⟨o', e1⟩ (mdict_ok ⟨⟨z1, Nat.le_trans (putR_len R k b v) hl, by rw [rr_keys r']; exact e5⟩, _, r', o', es, ep, e1, e2, e3, e4⟩)
end
section
variable {C : Ctx} {a b e : Expr} {ma mb me : DE} {pos pos' : Pos}
def dNewT : DE := fun _ st => .ok (.box st.length) (st ++ [.dicT []])
def tDNewX (P : Program) (w : World) : TE := fun _ H Q => ∀ p, H p = none → Q (.ref p) (upd H p (.ext (mdict P w p [])))
theorem pe_dnewX {X : Cx} : PE X (.Dict [] [] pos) (tDNewX X.prog X.w) := ⟨fun pins s σ H Q I h =>
  wpAny_Dict_empty ⟨.ref s.heap.objs.size, _, I.laid (t' := s.toks) (fun b u e => Heap.get?_push_of_some _ e) (Nat.le_refl _) (mdict_ok (R := []) ⟨⟨beq_eq_false_iff_ne.mpr (Ne.symm (Nat.ne_of_lt I.big)), Nat.zero_le _, List.nodup_nil⟩, [], .nil, _, #[], 0, Heap.get?_push_size _ rfl, ⟨rfl, rfl, rfl⟩, rfl, rfl⟩), rfl, h _ (I.hok.fresh (Nat.le_refl _))⟩⟩
theorem pd_newT (hdo : C.T.dto = mdict C.X.prog C.X.w) : PD C (.Dict [] [] pos) dNewT :=
  PE.imp pe_dnewX fun σ H Q ⟨ρ, st, ι, er, rl, p⟩ q hq => by
    obtain ⟨r1, s1⟩ := rl.newMut (o := .ext (mdict C.X.prog C.X.w q [])) (c := .dicT []) hq rfl fun ι' hp => ⟨[], by rw [hdo]; exact upd_same, ⟨rfl, fun p hp => nomatch hp⟩, .nil⟩
    exact p _ _ _ s1 r1 (.box (by rw [← rl.len]; exact Io.add_at ι q))
def dicTAt (d : D) (st : Store) : Option (List (List Key × D)) := match d with
  | .box i => match st[i]? with
    | some (.dicT kvs) => some kvs
    | _ => none
  | _ => none
theorem dicT_rep {ι : Io} {st : Store} {H : Hp} {v : V} {d : D} {kvs : List (List Key × D)} (hdo : C.T.dto = mdict C.X.prog C.X.w) (rl : RelSt C.T C.xp ι st H) (r : Rep C.T C.xp (hide ι st H) ι v d) (h : dicTAt d st = some kvs) :
    ∃ i a R, d = .box i ∧ v = .ref a ∧ ι.ad[i]? = some a ∧ st[i]? = some (.dicT kvs) ∧ H a = some (.ext (mdict C.X.prog C.X.w a R)) ∧ (R.map (·.1) = kvs.map (·.1) ∧ ∀ p ∈ R, SqN C.T.K (hide ι st H) p.2.1 (p.1.map kV)) ∧ RepL C.T C.xp (hide ι st H) ι (R.map (·.2.2)) (kvs.map (·.2)) := by
  unfold dicTAt at h
  split at h
  · rename_i i
    split at h
    · rename_i k hk
      cases h
      cases r with
      | box hb =>
        obtain ⟨R, h1, h2, h3⟩ := rl.ok _ _ _ hb hk
        exact ⟨i, _, R, rfl, rfl, hb, hk, by rw [← hdo]; exact h1, h2, h3⟩
    · cases h
  · cases h
section
variable {T : Txt} {xp : XT} {G : Hp} {ι : Io}
theorem rep_any (k : List Key) : ∀ {R : List RowT} {kvs : List (List Key × D)}, R.map (·.1) = kvs.map (·.1) → (R.any fun p => decide (p.1 = k)) = kvs.any fun p => decide (p.1 = k)
  | [], [], _ => rfl
  | p :: R, q :: kvs, h => by
    rw [List.map_cons, List.map_cons] at h
    injection h with h1 h2
    rw [List.any_cons, List.any_cons, h1, rep_any k h2]
  | [], _ :: _, h => by simp at h
  | _ :: _, [], h => by simp at h
theorem rep_map (k : List Key) {v : V} {d : D} (rv : Rep T xp G ι v d) : ∀ {R : List RowT} {kvs : List (List Key × D)}, R.map (·.1) = kvs.map (·.1) → RepL T xp G ι (R.map (·.2.2)) (kvs.map (·.2)) →
    ((R.map fun p => if p.1 = k then (p.1, p.2.1, v) else p).map (·.1) = (kvs.map fun p => if p.1 = k then (p.1, d) else p).map (·.1)) ∧ RepL T xp G ι ((R.map fun p => if p.1 = k then (p.1, p.2.1, v) else p).map (·.2.2)) ((kvs.map fun p => if p.1 = k then (p.1, d) else p).map (·.2))
  | [], [], _, _ => ⟨rfl, .nil⟩
  | p :: R, q :: kvs, h, r => by
    rw [List.map_cons, List.map_cons] at h r
    injection h with h1 h2
    cases r with
    | cons r1 rs =>
      obtain ⟨g1, g2⟩ := rep_map k rv h2 rs
      rw [List.map_cons, List.map_cons, List.map_cons, List.map_cons, List.map_cons, List.map_cons, g1]
      by_cases e : p.1 = k
      · rw [if_pos e, if_pos (h1.symm.trans e)]
        exact ⟨by rw [h1], .cons rv g2⟩
      · rw [if_neg e, if_neg fun z => e (h1.trans z)]
        exact ⟨by rw [h1], .cons r1 g2⟩
  | [], _ :: _, h, _ => by simp at h
  | _ :: _, [], h, _ => by simp at h
theorem rep_put (k : List Key) (b : Addr) {v : V} {d : D} (rv : Rep T xp G ι v d) {R : List RowT} {kvs : List (List Key × D)} (h : R.map (·.1) = kvs.map (·.1)) (r : RepL T xp G ι (R.map (·.2.2)) (kvs.map (·.2))) :
    ((putR R k b v).map (·.1) = (putT kvs k d).map (·.1)) ∧ RepL T xp G ι ((putR R k b v).map (·.2.2)) ((putT kvs k d).map (·.2)) := by
  unfold putR putT
  rw [rep_any k h]
  split
  · exact rep_map k rv h r
  · rw [List.map_append, List.map_append, List.map_append, List.map_append, h]
    exact ⟨rfl, r.append (.cons rv .nil)⟩
end
def tyT (d : D) (st : Store) : Bool := (dicTAt d st).isSome
def mGetT : FM := fun d ds st => match ds with
  | [y, z] => (dicTAt d st).bind fun kvs => (tupK y).map fun k => ((getT kvs k).getD z, st)
  | _ => none
def sSetT (o i a : DE) : DS := fun ρ st => (a ρ st).into ρ fun x s1 => (o ρ s1).into ρ fun d s2 => (i ρ s2).into ρ fun y s3 => match d, dicTAt d s3, tupK y with
  | .box j, some kvs, some k => if kvs.length < 100000 then .nx ρ (s3.set j (.dicT (putT kvs k x))) else .bad
  | _, _, _ => .bad
theorem pds_setT {o ix : Expr} {mo mi : DE} (hdo : C.T.dto = mdict C.X.prog C.X.w) (he : PD C e me) (ho : PD C o mo) (hi : PD C ix mi) (hg : ∀ t t', PE C.X o t → PE C.X ix t' → PG C.X (.Subscript o ix pos') (gSub t t' (rSetT C.X.K C.X.prog C.X.w))) (hs : swapsWithSole [.Subscript o ix pos'] e pos.line C.X.env = pure false := by rfl)
    (hw : swappedStores [.Subscript o ix pos'] e C.X.env = pure none := by rfl) (h1 : (assignEach [.Subscript o ix pos'] C.X.env).map (·.2) = [assign (.Subscript o ix pos') C.X.env] := by rfl) : PDS C (.Assign [.Subscript o ix pos'] e pos) (sSetT mo mi me) :=
  PS.imp (ps_asg he (hg _ _ ho hi) hs hw h1) fun D σ H ⟨ρ, st, ι, er, rl, p⟩ => by
    refine ⟨ρ, st, ι, er, rl, post_into p er fun d s1 v ι1 H1 st1 rl1 er1 rv p1 => ?_⟩
    refine ⟨ρ, s1, ι1, er1, rl1, post_into p1 er1 fun d2 s2 v2 ι2 H2 st2 rl2 er2 rv2 p2 => ?_⟩
    refine ⟨ρ, s2, ι2, er2, rl2, post_into p2 er2 fun d3 s3 v3 ι3 H3 st3 rl3 er3 rv3 p3 => ?_⟩
    split at p3
    · rename_i j kvs kk hkk hk
      split at p3
      · rename_i hl
        have rv' := rv.mono (st2.ex.trans st3.ex) (st2.pre.trans st3.pre)
        obtain ⟨i, a, R, ej, ev, hi', hst, ha, ⟨hR1, hR2⟩, hR3⟩ := dicT_rep hdo rl3 (rv2.mono st3.ex st3.pre) hk
        cases ej
        subst ev
        obtain ⟨b, rfl, hb⟩ := tupK_rep rv3 hkk
        have hlR : R.length < 100000 := by
          have := congrArg List.length hR1
          rw [List.length_map, List.length_map] at this
          omega
        refine ⟨a, b, kk, R, ⟨rfl, rfl⟩, ⟨ha, fun p hp => by rw [C.hK]; exact le_t (hide_le _ _ _) (hR2 p hp).t⟩, by rw [C.hK]; exact le_t (hide_le _ _ _) hb.t, hlR, ?_⟩
        obtain ⟨q1, q2⟩ := rep_put kk b rv' hR1 hR3
        obtain ⟨r2, s2'⟩ := rl3.write (o := .ext (mdict C.X.prog C.X.w a (putR R kk b v))) (c' := .dicT (putT kvs kk d)) hi' hst rfl rfl ⟨_, by rw [hdo]; exact upd_same, ⟨q1, putR_keep (G := fun k b => SqN C.T.K (hide ι3 s3 H3) b (k.map kV)) hR2 hb⟩, q2⟩
        exact p3 σ ι3 _ s2' r2 (er3.step s2')
      · exact p3.elim
    · exact p3.elim
end
end Den
set_option maxRecDepth 100000
set_option maxHeartbeats 4000000
namespace Den
open PySem PySem.Spec PyProof.Rows L2 PySem.Froz
section
variable {P : Program} {w : World} {A : Around} {E : Value → Shared → Prop} {s : Shared}
end
def rSetXT (K : PySem.W.Frag) (P : Program) (w : World) : List V → Hp → VK → Prop := fun vs H Q => ∃ (b : Addr) (ns : List Str), vs = [.ref b] ∧ SqT K H b (ns.map V.str) ∧ ns.length ≤ 1000 ∧
  ∀ (p : Addr) (l : List Str), (∀ k, k ∈ l ↔ k ∈ ns) → l.Nodup → l.length ≤ ns.length → H p = none → Q (.ref p) (upd H p (TxO P w p l))
def rLenX (P : Program) (w : World) : List V → Hp → VK → Prop := fun vs H Q => ∃ (a : Addr) (l : List Str), vs = [V.ref a] ∧ H a = some (TxO P w a l) ∧ l.length < 64 ∧ Q (.int l.length) H
def gLenSetX (x : D) : Option Int := match x with
  | .tup ds => (strsOfD ds).bind fun ks => if ks.length < 64 then some (sortX ks).length else none
  | _ => none
def dLenSetX (m : DE) : DE := fun ρ st => (m ρ st).bind fun x s1 => match gLenSetX x with
  | some n => .ok (.int n) s1
  | none => .bad
section
variable {C : Ctx} {e : Expr} {m : DE} {p q pos pos2 : Pos}
end
end Den
set_option maxRecDepth 100000
set_option maxHeartbeats 4000000
namespace Den
open PySem PySem.Spec PyProof.Rows L2
abbrev Sc2 (elt t0 i0 t1 i1 : Expr) (scope : Scope) (pos : Pos) : Expr := .SetComp elt [⟨t0, i0, [], 0⟩, ⟨t1, i1, [], 0⟩] scope pos
section
variable {P : Program} {w : World} {A : Around} {R : Result → Shared → Prop} {s : Shared} {elt t0 i0 t1 i1 : Expr} {scope : Scope} {pos : Pos} {it acc : Value} {env : Env}
abbrev NB (P : Program) (w : World) (A : Around) (env : Env) (R : Result → Shared → Prop) : Value → Shared → Prop := notedBy (model P w) A env fun e z => R (.error e) z
end
section
variable {X : Cx}
def tSc2 (P : Program) (w : World) (wi : TI) (g : TG) (wi1 : TI) (g1 : TG) (te : TE) (vs vs1 : List Nat) : TE := fun σ H Q => wi σ H fun J H1 => ∀ D, H1 D = none → ∃ W : Nat → Nat → Hp → Prop, (∃ m, W 0 m (upd H1 D (TxO P w D []))) ∧ ∀ i m H, W i m H →
  (J.stop i H ∧ Q (.ref D) H) ∨ (J.go i H ∧ ∃ Nx : Hp → Prop, (∀ H', Nx H' → ∃ m', m' < m ∧ W (i + 1) m' H') ∧ ∀ x H', J.yld i H x H' → g x (wipe σ vs) H' fun σ2 H2 => wipe σ2 vs = wipe σ vs ∧
    wi1 σ2 H2 fun J1 H4 => ∃ W1 : Nat → Nat → Hp → Prop, (∃ m, W1 0 m H4) ∧ ∀ j k H, W1 j k H →
      (J1.stop j H ∧ Nx H) ∨ (J1.go j H ∧ ∃ Nx1 : Hp → Prop, (∀ H', Nx1 H' → ∃ k', k' < k ∧ W1 (j + 1) k' H') ∧ ∀ x H', J1.yld j H x H' → g1 x (wipe σ2 vs1) H' fun σ3 H5 => wipe σ3 vs1 = wipe σ2 vs1 ∧
        te σ3 H5 fun y H7 => ∃ z l, y = .str z ∧ H7 D = some (TxO P w D l) ∧ l.length + 1 < scanBound ∧ Nx1 (upd H7 D (TxO P w D (withS z l)))))
end
end Den
set_option maxRecDepth 100000
set_option maxHeartbeats 4000000
namespace Den
open PySem PySem.Spec PyProof.Rows L2
theorem CellR.mono2 {T : Txt} {xp : XT} {G G' : Hp} {ι ι' : Io} {H : Hp} {a : Addr} {c : Cell} (hl : Le G G') (h : CellR T xp G ι H a c) (hi : ∀ (k : Nat) (a : Addr), ι.ad[k]? = some a → ι'.ad[k]? = some a := by exact fun _ _ e => e) : CellR T xp G' ι' H a c := by
  cases c with
  | lst ds => exact let ⟨xs, h1, h2⟩ := h; ⟨xs, h1, RepL.monoA hl hi h2⟩
  | ins c ds => exact let ⟨dx, xs, h1, h2, h3⟩ := h; ⟨dx, xs, h1, h2, RepL.monoA hl hi h3⟩
  | dic ks ds => exact let ⟨xs, h1, h2, h3⟩ := h; ⟨xs, h1, h2, RepL.monoA hl hi h3⟩
  | set ks => exact let ⟨L, h1, h2, h3⟩ := h; ⟨L, h1, h2, fun p hp => le_t hl (h3 p hp)⟩
  | dicT kvs => exact let ⟨R, h1, h2, h3⟩ := h; ⟨R, h1, ⟨h2.1, fun p hp => le_n hl (h2.2 p hp)⟩, RepL.monoA hl hi h3⟩
  | dead => trivial
theorem undoneO {T : Txt} {xp : XT} {ι1 ι : Io} {s1 st : Store} {H1 H : Hp} {p : Addr} (r1 : RelSt T xp ι1 s1 H1) (hp : H1 p = none) (s : Step (ι1.under p) s1 (upd H1 p (.lst [])) ι st (upd H p (.lst []))) (r : RelSt T xp ι st H) : RelSt T xp ⟨ι.ad, ι1.hd⟩ st H ∧ Step ι1 s1 H1 ⟨ι.ad, ι1.hd⟩ st H := by
  have hm := Io.under_hd s.pre
  have hhd : ι.hd = p :: ι1.hd := s.pre.hd
  have n1 : p ∉ ι1.hd := r1.neh hp
  have hl : Le (hide ι st H) (hide ⟨ι.ad, ι1.hd⟩ st H) := fun a u h => by
    have hn := hide_at h
    rw [hide_no]
    · exact hide_sub h
    · intro z
      apply hn
      unfold hidden at z ⊢
      rw [Bool.or_eq_true] at z ⊢
      exact z.imp id fun z => by
        rw [hhd]
        simp only [decide_eq_true_eq] at z ⊢
        exact List.mem_cons_of_mem _ z
  have hx := s.ex
  rw [hide_under hp, hide_hd hm] at hx
  refine ⟨⟨r.len, r.nd, r.there, fun a ha => r.hdn a (by rw [hhd]; exact List.mem_cons_of_mem _ ha), fun k a c hk hc => CellR.mono2 hl (r.ok k a c hk hc)⟩, ⟨⟨s.pre.ad, rfl⟩, hx.trans hl, fun a ha => ?_⟩⟩
  have ne : a ≠ p := fun e => n1 (e ▸ ha)
  have q := s.hd a (List.mem_cons_of_mem _ ha)
  rw [upd_ne ne, upd_ne ne] at q
  exact q
def sortFin (ys : List D) (st : Store) : Res D := match strsOfD ys with
  | some ks => if ks.length < 64 then .ok (.lst ((sortX ks).map D.str)) st else .bad
  | none => .bad
def dSortC2 (mi : DIt) (g : GD) (mi1 : DIt) (g1 : GD) (e : DE) (vs vs1 : List Nat) : DE := fun ρ st => (mi ρ st).bind fun ds s1 => (lc2L g tYesD mi1 g1 tYesD e vs1 (wipeD ρ vs) ds s1).bind sortFin
theorem strsD_of : ∀ ks : List Str, strsOfD (ks.map D.str) = some ks
  | [] => rfl
  | k :: r => by show (strsOfD (r.map D.str)).map _ = _; rw [strsD_of r]; rfl
section
variable {C : Ctx} {p : Addr} {ι1 ι : Io} {s1 st : Store} {H1 H : Hp} {W : Value → Option Addr → Hp → Prop} {Q : VK}
structure WayX (C : Ctx) (W : Value → Option Addr → Hp → Prop) (Q : VK) (ι1 : Io) (s1 : Store) (H1 : Hp) (p : Addr) (rem : Res (List D)) (ys : List Str) (ι : Io) (st : Store) (H : Hp) : Prop where
  s : Step (ι1.under p) s1 (upd H1 p (.lst [])) ι st (upd H p (.lst []))
  rl : RelSt C.T C.xp ι st H
  hp : ∃ l, H p = some (TxO C.X.prog C.X.w p l) ∧ (∀ k, k ∈ l ↔ k ∈ ys) ∧ l.Nodup ∧ l.length ≤ ys.length
  q : Post C.T C.xp W ι1 s1 H1 (Rep C.T C.xp) Q (rem.bind fun zs s2 => sortFin (ys.map D.str ++ zs) s2)
theorem WayX.hd {rem : Res (List D)} {ys : List Str} (w : WayX C W Q ι1 s1 H1 p rem ys ι st H) : p ∈ ι.hd := Io.under_hd w.s.pre
theorem WayX.step {rem : Res (List D)} {ys : List Str} (w : WayX C W Q ι1 s1 H1 p rem ys ι st H) {ι' : Io} {st' : Store} {H' : Hp} (z : Step ι st H ι' st' H') (rl : RelSt C.T C.xp ι' st' H') : WayX C W Q ι1 s1 H1 p rem ys ι' st' H' :=
  ⟨w.s.trans (under_step w.hd z), rl, let ⟨l, h⟩ := w.hp; ⟨l, (z.hd p w.hd).trans h.1, h.2⟩, w.q⟩
theorem WayX.ends {ys : List Str} (rl : RelSt C.T C.xp ι1 s1 H1) (hn : H1 p = none) (w : WayX C W Q ι1 s1 H1 p (.ok [] st) ys ι st H) : rSortedX C.X.prog C.X.w [.ref p] H Q := by
  have q := w.q
  simp only [bind_ok, List.append_nil] at q
  unfold sortFin at q
  rw [strsD_of] at q
  dsimp only at q
  split at q
  · rename_i few
    obtain ⟨l, h1, mem, nd, le⟩ := w.hp
    obtain ⟨r', s'⟩ := undoneO rl hn w.s w.rl
    refine ⟨p, l, rfl, h1, by omega, fun zs p3 pm so np3 => ?_⟩
    have ⟨rl3, st3, at3⟩ := r'.new (o := .lst (zs.map V.str)) np3
    have eq : zs = sortX ys := upX_one (sortedS_up so (pm.nodup_iff.mpr nd)) (sortX_up ys) fun k => by rw [pm.mem_iff, mem, sortX_mem]
    subst eq
    exact q _ _ _ (s'.trans st3) rl3 (.lst at3 (repL_ofStrs _))
  · exact q.elim
variable {g1 : TG} {gd1 : GD} {is1 : List Nat} {e : DE} {vs1 : List Nat} {ds1 : List D} {ρ' : Rho} {σ2 : L2.St}
def InnerX (C : Ctx) (W : Value → Option Addr → Hp → Prop) (Q : VK) (ι1 : Io) (s1 : Store) (H1 : Hp) (p : Addr) (gd1 : GD) (e : DE) (ρ : Rho) (ds1 : List D) (k : Store → Res (List D)) (ιo : Io) (so : Store) (Ho : Hp) (j : Nat) (H : Hp) : Prop :=
  ∃ ι st ys, WayX C W Q ι1 s1 H1 p ((lcL gd1 tYesD e ρ (ds1.drop j) st).bind fun ys s => (k s).bind fun zs s' => .ok (ys ++ zs) s') ys ι st H ∧ Since C ιo so Ho ι st H
end
section
variable {C : Ctx} {tg iter tg1 iter1 elt : Expr} {scope : Scope} {own : List (Str × Nat)} {pos pos2 : Pos} {q0 : Pos} {mi mi1 : DIt} {g g1 : TG} {gd gd1 : GD} {is is1 vs1 : List Nat} {e : DE}
end
end Den
set_option maxRecDepth 100000
set_option maxHeartbeats 4000000
namespace Den
open PySem PySem.Spec PyProof.Rows L2
section
variable {prog : Program} {w : World} {A : Around} {E : Value → Shared → Prop} {s : Shared}
end
def tRevT (K : PySem.W.Frag) (te : TE) : TE := fun σ H Q => te σ H fun x H1 => ∃ (a : Addr) (xs : List V), x = .ref a ∧ SqT K H1 a xs ∧ ∀ p o, o.dict = none → H1 p = none → Q (.ref p) (upd H1 p (.frz o (.tup xs.reverse)))
section
variable {C : Ctx}
def dRevT (a : DE) : DE := fun ρ st => (a ρ st).bind fun d s1 => match d with
  | .tup xs => .ok (.tup xs.reverse) s1
  | _ => .bad
end
end Den
set_option maxRecDepth 100000
set_option maxHeartbeats 4000000
namespace Den
open PySem PySem.Spec PyProof.Rows L2 PySem.Froz
def insM (k : Str) : List Str → List Str
  | [] => [k]
  | x :: r => if ltX x k then x :: insM k r else k :: x :: r
def sortM : List Str → List Str
  | [] => []
  | k :: r => insM k (sortM r)
abbrev leX (a b : Str) : Prop := ¬ ltX b a
section
variable {P : Program} {w : World} {A : Around} {E : Value → Shared → Prop} {s : Shared}
end
def rSortTX (K : PySem.W.Frag) : List V → Hp → VK → Prop := fun vs H Q => ∃ (a : Addr) (zs : List Str), vs = [V.ref a] ∧ SqT K H a (zs.map V.str) ∧ zs.length < 64 ∧ ∀ (ys : List Str) (p : Addr), ys.Perm zs → sortedS ys = true → H p = none → Q (.ref p) (upd H p (.lst (ys.map V.str)))
def textsOf (x : D) (st : Store) : Option (List Str) := match x with
  | .tup ds => strsOfD ds
  | x => (litemsOf x st).bind strsOfD
def gSortM (x : D) (st : Store) : Option D := (textsOf x st).bind fun ks => if ks.length < 64 then some (.lst ((sortM ks).map D.str)) else none
end Den
set_option maxRecDepth 100000
set_option maxHeartbeats 4000000
namespace Den
open PySem PySem.Spec PyProof.Rows L2
section
variable {C : Ctx} {g : TG} {gd : GD} {is : List Nat} {t : DT} {e : DE} {vs : List Nat}
theorem leftC_turnA {W : Value → Option Addr → Hp → Prop} {Q : VK} {ds : List D} {ι1 : Io} {s1 : Store} {H1 : Hp} {p : Addr} {i : Nat} {H : Hp} {x : V} {d : D} {ρ : Rho} {σ : L2.St} (hd : ∀ ι st ρ' ρ2 σ1 (Q2 : L2.St → Hp → Prop), Le (hide ι1 s1 H1) (hide ι st H) → (∀ (k : Nat) (a : Addr), ι1.ad[k]? = some a → ι.ad[k]? = some a) → EnvR C.T C.xp (hide ι st H) ι ρ' σ1 → gd d ρ' = some ρ2 → (∀ σ', EnvR C.T C.xp (hide ι st H) ι ρ2 σ' → (∀ vs : List Nat, (∀ i ∈ is, i ∈ vs) → wipe σ' vs = wipe σ1 vs) → Q2 σ' H) → g x σ1 H Q2) (hv : ∀ j ∈ is, j ∈ vs) (hz : i < 100000) (er : EnvR C.T C.xp (hide ι1 s1 H1) ι1 ρ σ) (hp : H1 p = none)
    (hx : ds[i]? = some d) (h : LeftC C.T C.xp W Q gd t e (wipeD ρ vs) ds ι1 s1 H1 p i H) :
    g x (wipe σ vs) H fun σ2 H2 => wipe σ2 vs = wipe σ vs ∧ tDT C.T C.xp (fun _ _ _ _ => False) t σ2 H2 fun b H3 => if b = true then tD C.T C.xp (fun _ _ _ _ => False) e σ2 H3 fun y H4 => ∃ acc, H4 p = some (.lst acc) ∧ acc.length < sizeLine ∧
      LeftC C.T C.xp W Q gd t e (wipeD ρ vs) ds ι1 s1 H1 p (i + 1) (upd H4 p (.lst (acc ++ [y]))) else LeftC C.T C.xp W Q gd t e (wipeD ρ vs) ds ι1 s1 H1 p (i + 1) H3 := by
  obtain ⟨st, ι, acc, ys, s, rl, hH, ra, hly, q⟩ := h
  rw [drop_at hx] at q
  unfold lcL at q
  have hm := Io.under_hd s.pre
  have hx1 := s.ex
  rw [hide_under hp, hide_hd hm] at hx1
  have padA : ∀ (k : Nat) (a : Addr), ι1.ad[k]? = some a → ι.ad[k]? = some a := s.pre.ad
  have er' : EnvR C.T C.xp (hide ι st H) ι (wipeD ρ vs) (wipe σ vs) := by
    have w := er.wipe vs
    exact ⟨w.len, fun j y hy => let ⟨v, a, b⟩ := w.at_ j y hy; ⟨v, a, b.monoA hx1 padA⟩⟩
  cases hg : gd d (wipeD ρ vs) with
  | none =>
    rw [hg] at q
    exact q.elim
  | some ρ' =>
    rw [hg] at q
    refine hd ι st _ _ _ _ hx1 padA er' hg fun σ' er2 hw => ⟨?_, ρ', st, ι, er2, rl, ?_⟩
    · rw [hw vs hv]
      have idem : ∀ (ws : List Nat) (τ : L2.St), (∀ w ∈ ws, w ∈ vs) → wipe (wipe τ ws) vs = wipe τ vs := by
        intro ws
        induction ws with
        | nil => intro τ _; rfl
        | cons w ws ih =>
          intro τ hws
          show wipe ((wipe τ ws).set w none) vs = wipe τ vs
          rw [wipe_set (hws w List.mem_cons_self), ih τ fun z hz => hws z (List.mem_cons_of_mem _ hz)]
      exact idem vs σ fun _ z => z
    · cases ht : t ρ' st with
      | bad => simp only [ht, noX] at q; exact q.elim
      | exc c es s2 => simp only [ht, noX] at q; exact q.elim
      | ok b s2 =>
        simp only [ht, noX, bind_ok] at q
        intro b' ι2 H2 st2 rl2 eb
        have eb' : b' = b := eb
        subst eb'
        have hm2 : p ∈ ι2.hd := by rw [st2.pre.hd]; exact hm
        have hp2 : H2 p = some (.lst acc) := (st2.hd p hm).trans hH
        have ra2 := ra.mono st2.ex st2.pre
        have sU : ∀ {ιa ιb : Io} {sa sb : Store} {Ha Hb : Hp}, p ∈ ιa.hd → Step ιa sa Ha ιb sb Hb → Step ιa sa (upd Ha p (.lst [])) ιb sb (upd Hb p (.lst [])) := by
          intro ιa ιb sa sb Ha Hb ha z
          have hb : p ∈ ιb.hd := by rw [z.pre.hd]; exact ha
          refine ⟨z.pre, by rw [hide_hd ha, hide_hd hb]; exact z.ex, fun a h => ?_⟩
          by_cases ea : a = p
          · rw [ea, upd_same, upd_same]
          · rw [upd_ne ea, upd_ne ea]
            exact z.hd a h
        cases b' with
        | false => exact iteF ⟨s2, ι2, acc, ys, s.trans (sU hm st2), rl2, hp2, ra2, Nat.le_succ_of_le hly, q⟩
        | true =>
          refine iteT ⟨ρ', s2, ι2, er2.step st2, rl2, ?_⟩
          cases he : e ρ' s2 with
          | bad => simp only [he, noX] at q; exact q.elim
          | exc c es s3 => simp only [he, noX] at q; exact q.elim
          | ok y s3 =>
            simp only [he, noX, bind_ok] at q
            intro v ι3 H3 st3 rl3 rv
            have hm3 : p ∈ ι3.hd := by rw [st3.pre.hd]; exact hm2
            have hp3 : H3 p = some (.lst acc) := (st3.hd p hm2).trans hp2
            have ra3 := ra2.mono st3.ex st3.pre
            refine ⟨acc, hp3, line_lt (by rw [ra3.length]; omega), s3, ι3, acc ++ [v], ys ++ [y], ?_, rl3.hdw hm3 _, upd_same, ?_, by rw [List.length_append]; exact Nat.succ_le_succ hly, ?_⟩
            · rw [upd_upd]
              exact (s.trans (sU hm st2)).trans (sU hm2 st3)
            · rw [hide_hd hm3]
              exact ra3.append (.cons rv .nil)
            · cases hL : lcL gd t e (wipeD ρ vs) (ds.drop (i + 1)) s3 with
              | ok zs s4 =>
                simp only [hL, bind_ok] at q ⊢
                rw [List.append_assoc]
                exact q
              | exc c es s4 => simp only [hL, bind_exc] at q ⊢; exact q
              | bad => simp only [hL, bind_bad] at q ⊢; exact q
theorem leftC_new {W : Value → Option Addr → Hp → Prop} {Q : VK} {ds : List D} {ι1 : Io} {s1 : Store} {H1 : Hp} {p q : Addr} {i : Nat} {H : Hp} {ρ : Rho} {o : HO} (hq : H q = none) (h : LeftC C.T C.xp W Q gd t e ρ ds ι1 s1 H1 p i H) : LeftC C.T C.xp W Q gd t e ρ ds ι1 s1 H1 p i (upd H q o) := by
  obtain ⟨st, ι, acc, ys, s, rl, hH, ra, hly, pq⟩ := h
  have hm := Io.under_hd s.pre
  obtain ⟨r2, s2, _⟩ := rl.new (o := o) hq
  exact ⟨st, ι, acc, ys, s.trans (under_step hm s2), r2, (s2.hd p hm).trans hH, ra.mono s2.ex s2.pre, hly, pq⟩
end
section
variable {C : Ctx} {tg iter elt : Expr} {ifs : List Expr} {scope : Scope} {own : List (Str × Nat)} {pos spos py : Pos} {mi : DIt} {is : List Nat} {t : DT} {de : DE} {i n : Nat} {y : Str}
theorem lcP_imp {vs : List Nat} {σ : L2.St} {H : Hp} {Q : VK} (hn : n = is.length) (hv : ∀ j ∈ is, j ∈ vs) (h : tD C.T C.xp C.W (dLc mi (gT is) t de vs) σ H Q) :
    tLc (tDIN C.T C.xp C.W mi) (gTup C.T.K n (gNames is)) (tDT C.T C.xp (fun _ _ _ _ => False) t) (tD C.T C.xp (fun _ _ _ _ => False) de) vs σ H Q := by
    obtain ⟨ρ, st, ι, er, rl, p⟩ := h
    refine ⟨ρ, st, ι, er, rl, post_bind p fun ds s1 J ι1 H1 st1 rl1 ⟨Gd, wk, hG⟩ p1 => ?_⟩
    have er1 := er.step st1
    intro D hD
    split at p1
    · rename_i hl
      refine lc_it wk (LeftC C.T C.xp (fun c d H => C.W c d σ H) Q (gT is) t de (wipeD ρ vs) ds ι1 s1 H1 D) (leftC_start rl1 hD p1) (fun i H' _ hL => hG _ (leftC_sq hD hL)) (fun i x H' H'' hi hL ⟨q, v, w, dv, dw, ex, hq, eH, hd', rv, rw'⟩ => ?_) (fun H' hL => leftC_end rl1 hD (Nat.le_refl _) hL)
      subst ex eH
      refine leftC_turnA (d := .tup [dv, dw]) (fun ι2 st2 ρ2 ρ3 σ2 Q2 hle pad er2 hg k => ?_) hv (by omega) er1 hD hd' (leftC_new hq hL)
      exact tg_tupT hn er2 (.inl (.inl upd_same)) (.cons (rv.monoA hle pad) (.cons (rw'.monoA hle pad) .nil)) hg k
    · exact p1.elim
theorem pd_lcP (hc : C.X.calm = true) (hN : C.X.N.Nodup) (hi : PDIN C tg iter mi) (ok : BlkOk C.X.N C.X.env.scope scope own) (hg : ∀ s H c cl fp, PG (C.blk s H scope c cl fp).X tg (gTup C.T.K n (gNames is))) (hd : TgD C.T C.T.K (gTup C.T.K n (gNames is)) (gT is) is) (hv : ∀ j ∈ is, j ∈ own.map (·.2))
    (ht : ∀ s H c cl fp, PDTs (C.blk s H scope c cl fp) ifs t) (he : ∀ s H c cl fp, PD (C.blk s H scope c cl fp) elt de) (hs : ∀ x, foldedSetIterable iter C.X.env x = pure x := by intro _; rfl) (hnl : n = is.length := by rfl) :
    PD C (.ListComp elt [⟨tg, iter, ifs, 0⟩] scope pos) (dLc mi (gT is) t de (own.map (·.2))) :=
  PE.imp (pe_lc hc hN hi ok hg ht he hs) fun σ H Q h => lcP_imp hnl hv h
end
end Den
set_option maxRecDepth 100000
set_option maxHeartbeats 4000000
namespace Den
open PySem PySem.Spec PyProof.Rows L2
theorem tupN_ok {K : PySem.W.Frag} {x : Str} {vs : List He.Dv} (h : tupN K x vs = true) (H : Hp) : SqN K H (He.ga K x) (vs.map (He.Dv.v K)) := by
  unfold tupN at h
  cases q : K.lookup (He.ga K x) with
  | none => rw [q] at h; cases h
  | some o =>
    obtain ⟨oc, od, dt, osl⟩ := o
    rw [q] at h
    cases oc with
    | type c =>
      cases dt with
      | seq us n =>
        simp only [Bool.and_eq_true] at h
        obtain ⟨⟨h1, h2⟩, h3, h4⟩ := h
        exact .inr ⟨_, us, n, q, ⟨by rw [of_decide_eq_true h1], Option.isNone_iff_eq_none.mp h2⟩, rfl, of_decide_eq_true h3, He.relAll_ok h4⟩
      | _ => cases h
    | _ => cases h
end Den
set_option maxRecDepth 100000
set_option maxHeartbeats 4000000
namespace K11
open PySem PySem.Spec PyProof.Rows L2 Den Cel
def txt (w : World) (K : PySem.W.Frag) (cs fs : List Addr) : Txt := ⟨K, fun i => cs.getD i 0, fun i => fs.getD i 0, fun i => if i = 0 then ([("maker" : Str), "year", "size"]) else if i = 1 then ([("_rooms" : Str), "_hold", "_bottles", "_shelves", "_fates", "_sets", "_past"]) else if i = 17 then ([("many" : Str), "most"]) else if i = 21 then ([("room" : Str), "shelf"]) else if i = 22 then ([("number" : Str), "fate"]) else if i = 23 then ([("number" : Str), "others"]) else [], mset P w, mdict P w⟩
theorem and2 {a b : Bool} (h : (a && b) = true) : a = true ∧ b = true := (Bool.and_eq_true a b).mp h
theorem tag_eq (w : World) (K : PySem.W.Frag) (cs fs : List Addr) (t : Tag) : tagV (txt w K cs fs) t = tagC cs t := by cases t <;> rfl
theorem v_ok {K : PySem.W.Frag} {a : Addr} (h : vB K a = true) : ExcC K a := by
  unfold vB at h
  obtain ⟨h1, h⟩ := and2 h
  obtain ⟨h2, h⟩ := and2 h
  obtain ⟨h3, h⟩ := and2 h
  obtain ⟨h4, h⟩ := and2 h
  obtain ⟨h5, h⟩ := and2 h
  obtain ⟨h6, h⟩ := and2 h
  obtain ⟨h7, h8⟩ := and2 h
  exact ⟨eq_of_beq h2, eq_of_beq h3, eq_of_beq h1, h4, eq_of_beq h5, eq_of_beq h6, eq_of_beq h7, eq_of_beq h8⟩
theorem n_ok {w : World} {K : PySem.W.Frag} {cs fs : List Addr} {c : Nat} (h : nB K (cs.getD c 0) = true) : ExcK (txt w K cs fs) c := by
  unfold nB at h
  obtain ⟨h1, h⟩ := and2 h
  obtain ⟨h2, h⟩ := and2 h
  obtain ⟨h3, h4⟩ := and2 h
  exact ⟨h1, h2, eq_of_beq h3, eq_of_beq h4⟩
theorem i_ok {K : PySem.W.Frag} {a : Addr} {fs : List Str} {bm : List Value} {nid : String} (h : iB K a fs bm nid = true) : ErrK K a bm nid ∧ (∀ f ∈ fs, PySem.W.findIn K (.ref a) f = some none) ∧ PySem.W.typeIn K (.ref a) = some (.type "type") := by
  unfold iB at h
  obtain ⟨h1, h⟩ := and2 h
  obtain ⟨h2, h⟩ := and2 h
  obtain ⟨h3, h⟩ := and2 h
  obtain ⟨h4, h⟩ := and2 h
  obtain ⟨h5, h⟩ := and2 h
  obtain ⟨h6, h7⟩ := and2 h
  exact ⟨⟨h1, h2, h3, eq_of_beq h4, h5⟩, fun f hf => eq_of_beq (List.all_eq_true.mp h7 f hf), eq_of_beq h6⟩
theorem own_k {w : World} {K : PySem.W.Frag} {cs fs : List Addr} {c : Nat} (h : ownB K (cs.getD c 0) = true) (hc : ClsD (txt w K cs fs) c) : ClsI (txt w K cs fs) c := by
  unfold ownB at h
  obtain ⟨h1, h⟩ := and2 h
  obtain ⟨h2, h⟩ := and2 h
  obtain ⟨h3, h4⟩ := and2 h
  exact ⟨hc, eq_of_beq h1, eq_of_beq h2, eq_of_beq h3, eq_of_beq h4⟩
theorem chk_ok {w : World} {K : PySem.W.Frag} {cs fs : List Addr} (h : chk K cs = true) : IsT (txt w K cs fs) isT ∧ (∀ c ∈ heldC, ExcC K (cs.getD c 0)) ∧ (∀ c ∈ errN, ExcK (txt w K cs fs) c) ∧ (∀ z ∈ errW, ErrK K (cs.getD z.1 0) (bmOf z.2.2) (nidOf z.2.2) ∧ (∀ f ∈ z.2.1, PySem.W.findIn K (.ref (cs.getD z.1 0)) f = some none) ∧ PySem.W.typeIn K (.ref (cs.getD z.1 0)) = some (.type "type")) ∧
    ((∀ c ∈ heldC, PySem.W.exmAny K (.ref (cs.getD c 0)) [.ref (cs.getD 19 0), .ref (cs.getD 20 0)] = cth_CellarError_HereError c)) ∧ ∀ c ∈ ownL, ownB K (cs.getD c 0) = true := by
  unfold chk at h
  obtain ⟨h1, h⟩ := and2 h
  obtain ⟨h2, h⟩ := and2 h
  obtain ⟨h3, h⟩ := and2 h
  obtain ⟨h4, h⟩ := and2 h
  obtain ⟨h5, h6⟩ := and2 h
  refine ⟨isTab_ok fun q hq => ?_, fun c hc => v_ok (List.all_eq_true.mp h3 c hc), fun c hc => n_ok (List.all_eq_true.mp h4 c hc), fun z hz => i_ok (List.all_eq_true.mp h5 z hz), fun c hc => eq_of_beq (List.all_eq_true.mp h2 c hc), fun c hc => List.all_eq_true.mp h6 c hc⟩
  rw [tag_eq, tag_eq]
  exact eq_of_beq (List.all_eq_true.mp h1 q (show q ∈ tyZ from hq))
theorem errF_of {T : Txt} {c : Nat} {bm : List Value} {nid : String} (v : ExcC T.K (T.ca c)) (k : ErrK T.K (T.ca c) bm nid) (n : ∀ f ∈ T.fl c, PySem.W.findIn T.K (.ref (T.ca c)) f = some none) : ErrF T c := ⟨⟨v.hg, v.hk, v.hs, k.hd⟩, n⟩
end K11
set_option maxRecDepth 100000
set_option maxHeartbeats 1000000
namespace K11
open PySem PySem.Spec PyProof.Rows L2 Den Cel Ste
section
variable {K h : Nat} {rm : List Nat} {c : Cl} {S : List (List Nat)} {ks : List K3} {st s1 : Store} {ρ : Rho} {v3 v4 v5 v6 v7 v8 v9 v10 v11 : Option D}
theorem kok_ks {b : K3} (o : KOk b) : KS b := by
  have m := o.mem
  have z := o.sz
  obtain ⟨x, y, s⟩ := b
  dsimp only at m z
  refine ⟨⟨?_, o.y0, o.y1, size_ok z⟩, ?_, ?_, ?_⟩
  · simp only [makers, List.mem_cons, List.not_mem_nil, or_false] at m
    rcases m with rfl | rfl | rfl | rfl | rfl <;> exact fun st => by kernel_rfl
  · simp only [makers, List.mem_cons, List.not_mem_nil, or_false] at m
    rcases m with rfl | rfl | rfl | rfl | rfl <;> kernel_rfl
  · show -1000 ≤ s
    omega
  · show s ≤ 1000
    omega
theorem zero_draw {far : Int} (hp : Pot K st) (hv : ρ[0]? = some (some (.box K))) (hf : 0 < far) (hl : far ≤ 100000) : ∃ (b : Nat) (s1 : Store), b ≤ 1 ∧ dCB (one gInt) (dCons (dOp2 fEq (dCallA 2 f__law_take (dCons (dVar 0) (dCons (dC (.int far)) dNil))) (dC (.int 0))) dNil) ρ st = .ok (I b) s1 ∧ Chg K st s1 := by
  obtain ⟨i, s1, i1, e1, c1⟩ := draw (v := 0) (ρ := ρ) (e := dC (.int far)) (far := far) hp hv rfl hf hl
  refine ⟨if i = 0 then 1 else 0, s1, by split <;> omega, ?_, c1⟩
  refine ev_cb1 (x := .bl (decide (i = 0))) (s1 := s1) (ev_cons (ev_op e1 (y := I 0) (s2 := s1) rfl (eq_I i 0)) rfl) ?_
  by_cases h : i = 0 <;> simp [h, gInt]
theorem div_I {a b : DE} {i n : Nat} (ha : a ρ st = .ok (I i) s1) (hb : b ρ s1 = .ok (I n) s1) (h0 : 0 < n) (hn : n ≤ 1000) : dDiv a b ρ st = .ok (I (i / n)) s1 := by
  refine ev_op ha hb ?_
  have : ((n : Nat) : Int).natAbs.log2 < 9000 := log_small (by omega) (by omega)
  unfold fDiv onI
  dsimp only
  rw [if_pos (by rw [decide_eq_true_eq]; exact ⟨by omega, this⟩)]
  rfl
abbrev dR (K : Nat) (rm : List Nat) (h : Nat) (c : Cl) (S : List (List Nat)) (ks : List K3) (v3 v4 v5 v6 v7 v8 v9 v10 v11 : Option D) : Rho := [some (.box K), some (stC rm h c S), some (.lst (ks.map kD)), v3, v4, v5, v6, v7, v8, v9, v10, v11]
theorem sort_nat (l : List Nat) : ∃ ns : List Nat, ns.length = l.length ∧ (∀ n ∈ ns, n ∈ l) ∧ sortI (l.map fun n : Nat => (n : Int)) = ns.map fun n : Nat => (n : Int) := by
  refine ⟨(sortI (l.map fun n : Nat => (n : Int))).map Int.toNat, by rw [List.length_map, sortI_len, List.length_map], fun n hn => ?_, ?_⟩
  · obtain ⟨x, hx, rfl⟩ := List.mem_map.mp hn
    obtain ⟨m, hm, rfl⟩ := List.mem_map.mp (sortI_mem.mp hx)
    simpa using hm
  · rw [List.map_map]
    have e : (sortI (l.map fun n : Nat => (n : Int))).map ((fun n : Nat => (n : Int)) ∘ Int.toNat) = (sortI (l.map fun n : Nat => (n : Int))).map id := by
      refine List.map_congr_left fun x hx => ?_
      obtain ⟨n, _, rfl⟩ := List.mem_map.mp (sortI_mem.mp hx)
      simp
    rw [e, List.map_id]
def moonE : DE := dIx (dLst (dCons (dCallA 2 f__law_take (dCons (dVar 0) (dCons (dC (.int 12)) dNil))) (dCons (dC (.int 999)) (dCons (dC (.int 1000)) (dCons (dNeg (dC (.int 1))) (dCons (dC (.bl true)) dNil)))))) (dMulA (dDiv (dCallA 2 f__law_take (dCons (dVar 0) (dCons (dC (.int 40)) dNil))) (dC (.int 8))) (dCB (one gInt) (dCons (dOp2 fEq (dCallA 2 f__law_take (dCons (dVar 0) (dCons (dC (.int 5)) dNil))) (dC (.int 0))) dNil)))
theorem moon_d (pt : Pot K st) (hv : ρ[0]? = some (some (.box K))) : ∃ (md : D) (s1 : Store), moonE ρ st = .ok md s1 ∧ Md md ∧ Chg K st s1 := by
  obtain ⟨i, s1, i1, e1, c1⟩ := draw (v := 0) (ρ := ρ) (e := dC (.int 12)) (far := 12) pt hv rfl (by decide) (by decide)
  obtain ⟨t, s2, t1, e2, c2⟩ := draw (v := 0) (ρ := ρ) (e := dC (.int 40)) (far := 40) c1.pot hv rfl (by decide) (by decide)
  obtain ⟨b, s3, b1, e3, c3⟩ := zero_draw (ρ := ρ) (far := 5) c2.pot hv (by decide) (by decide)
  have ed := div_I (b := dC (.int 8)) (n := 8) e2 rfl (by decide) (by decide)
  have i5 : t / 8 * b < 5 := by
    have : t / 8 < 5 := by omega
    rcases (show b = 0 ∨ b = 1 by omega) with rfl | rfl <;> omega
  have em : dMulA (dDiv (dCallA 2 f__law_take (dCons (dVar 0) (dCons (dC (.int 40)) dNil))) (dC (.int 8))) (dCB (one gInt) (dCons (dOp2 fEq (dCallA 2 f__law_take (dCons (dVar 0) (dCons (dC (.int 5)) dNil))) (dC (.int 0))) dNil)) ρ s1 = .ok (I (t / 8 * b)) s3 := by
    refine ev_op ed e3 ?_
    rw [Com.fMulA_ints (a := 20) (b := 20) (by omega) (by omega) (by decide) (by decide) (by decide)]
    congr 2
  obtain ⟨x, hx, ex⟩ := ix_mem (xs := [I i, .int 999, .int 1000, .int (-1), .bl true]) (i := ((t / 8 * b : Nat) : Int)) (st := s3) (by omega) (by show _ < ((5 : Nat) : Int); omega)
  refine ⟨x, s3, ev_ix (x := .lst [I i, .int 999, .int 1000, .int (-1), .bl true]) (ev_lst (ev_cons e1 rfl) (show 5 ≤ 100000 by decide)) em ex, ?_, (c1.trans c2).trans c3⟩
  simp only [List.mem_cons, List.not_mem_nil, or_false] at hx
  rcases hx with rfl | rfl | rfl | rfl | rfl
  · exact .inl ⟨_, by omega, by omega, rfl⟩
  · exact .inl ⟨999, by decide, by decide, rfl⟩
  · exact .inl ⟨1000, by decide, by decide, rfl⟩
  · exact .inl ⟨-1, by decide, by decide, rfl⟩
  · exact .inr rfl
def namesE : DE := dIx (dLst (dCons (dC (.str "")) (dCons (dC (.str "ann")) (dCons (dC (.str "bobbobbo")) (dCons (dC (.str "zoe")) (dCons (dC (.str "lmpqrstu")) (dCons (dC (.str "vwxyz")) dNil))))))) (dCallA 2 f__law_take (dCons (dVar 0) (dCons (dC (.int 6)) dNil)))
def oddsE : DE := dIx (dLst (dCons (dC (.str "A")) (dCons (dC (.str "bobbobbob")) (dCons (dC .non) (dCons (dC (.str "a b")) dNil))))) (dCallA 2 f__law_take (dCons (dVar 0) (dCons (dC (.int 4)) dNil)))
theorem names_d (pt : Pot K st) (hv : ρ[0]? = some (some (.box K))) : ∃ (wd : D) (s1 : Store), namesE ρ st = .ok wd s1 ∧ wd ∈ whos ∧ Chg K st s1 := by
  obtain ⟨i, s1, i1, e1, c1⟩ := draw (v := 0) (ρ := ρ) (e := dC (.int 6)) (far := 6) pt hv rfl (by decide) (by decide)
  obtain ⟨x, hx, ex⟩ := ix_mem (xs := [D.str "", .str "ann", .str "bobbobbo", .str "zoe", .str "lmpqrstu", .str "vwxyz"]) (i := (i : Int)) (st := s1) (by omega) (show (i : Int) < ((6 : Nat) : Int) from i1)
  refine ⟨x, s1, ev_ix (x := .lst [D.str "", .str "ann", .str "bobbobbo", .str "zoe", .str "lmpqrstu", .str "vwxyz"]) (s1 := st) rfl e1 ex, ?_, c1⟩
  simp only [List.mem_cons, List.not_mem_nil, or_false] at hx
  rcases hx with rfl | rfl | rfl | rfl | rfl | rfl <;> simp [whos]
theorem odds_d (pt : Pot K st) (hv : ρ[0]? = some (some (.box K))) : ∃ (wd : D) (s1 : Store), oddsE ρ st = .ok wd s1 ∧ wd ∈ whos ∧ Chg K st s1 := by
  obtain ⟨i, s1, i1, e1, c1⟩ := draw (v := 0) (ρ := ρ) (e := dC (.int 4)) (far := 4) pt hv rfl (by decide) (by decide)
  obtain ⟨x, hx, ex⟩ := ix_mem (xs := [D.str "A", .str "bobbobbob", .non, .str "a b"]) (i := (i : Int)) (st := s1) (by omega) (show (i : Int) < ((4 : Nat) : Int) from i1)
  refine ⟨x, s1, ev_ix (x := .lst [D.str "A", .str "bobbobbob", .non, .str "a b"]) (s1 := st) rfl e1 ex, ?_, c1⟩
  simp only [List.mem_cons, List.not_mem_nil, or_false] at hx
  rcases hx with rfl | rfl | rfl | rfl <;> simp [whos]
def d1 : DS := sPar 3 4 (dCons (dCB (orB (one gLen) (one gLenK)) (dCons (dIxK (dVar 1) (dC (.str "stock"))) dNil)) (dCons (dCallA 2 f__law_take (dCons (dVar 0) (dCons (dC (.int 16)) dNil))) dNil))
def d2 : DS := sSet 5 (dIxK (dVar 1) (dC (.str "rooms")))
def d3 : DS := sSet 6 (dCallA 2 f__law_take (dCons (dVar 0) (dCons (dAdd (dCB (orB (one gLen) (one gLenK)) (dCons (dVar 5) dNil)) (dCB (one gInt) (dCons (dOp2 fEq (dCallA 2 f__law_take (dCons (dVar 0) (dCons (dC (.int 12)) dNil))) (dC (.int 0))) dNil))) dNil)))
def d4 : DS := sSet 7 (dCallA 2 f__law_take (dCons (dVar 0) (dCons (dAdd (dIx (dAdd (dVar 5) (dTup (dCons (dC (.int 4)) dNil))) (dVar 6)) (dCB (one gInt) (dCons (dOp2 fEq (dCallA 2 f__law_take (dCons (dVar 0) (dCons (dC (.int 12)) dNil))) (dC (.int 0))) dNil))) dNil)))
def d5 : DS := sSet 8 (dCallA 2 f__law_take (dCons (dVar 0) (dCons (dAdd (dVar 3) (dCB (one gInt) (dCons (dOr (dOp2 fEq (dVar 3) (dC (.int 0))) (dOp2 fEq (dCallA 2 f__law_take (dCons (dVar 0) (dCons (dC (.int 9)) dNil))) (dC (.int 0)))) dNil))) dNil)))
def d6 : DS := sSet 9 moonE
def d7 : DS := sSet 10 namesE
def d8 : DS := sIf (asB (dOp2 fEq (dCallA 2 f__law_take (dCons (dVar 0) (dCons (dC (.int 20)) dNil))) (dC (.int 0)))) (sSet 10 oddsE) sNext
def w1 : DS := sIf (asB (dOp2 fLt (dVar 4) (dC (.int 6)))) (sRet (dTup (dCons (dC (.str "lay")) (dCons (dIx (dVar 2) (dCallA 2 f__law_take (dCons (dVar 0) (dCons (dCB (orB (one gLen) (one gLenK)) (dCons (dVar 2) dNil)) dNil)))) (dCons (dVar 6) (dCons (dVar 7) dNil)))))) sNext
def w2 : DS := sIf (asB (dOp2 fLt (dVar 4) (dC (.int 9)))) (sRet (dTup (dCons (dC (.str "move")) (dCons (dVar 8) (dCons (dVar 6) (dCons (dVar 7) dNil)))))) sNext
def w3 : DS := sIf (asB (dOp2 fLt (dVar 4) (dC (.int 11)))) (sRet (dTup (dCons (dIx (dLst (dCons (dC (.str "drink")) (dCons (dC (.str "give")) dNil))) (dSub (dVar 4) (dC (.int 9)))) (dCons (dVar 8) (dCons (dVar 9) (dCons (dVar 10) dNil)))))) sNext
def w4 : DS := sIf (asB (dOp2 fEq (dVar 4) (dC (.int 11)))) (sRet (dTup (dCons (dC (.str "smash")) (dCons (dVar 8) (dCons (dVar 9) dNil))))) sNext
def bindE : DE := dCB (one gSort) (dCons (dSl (dCallA 2 f__law_mixed (dCons (dVar 0) (dCons (dLstRg (dAdd (dVar 3) (dCB (one gInt) (dCons (dOp2 fEq (dCallA 2 f__law_take (dCons (dVar 0) (dCons (dC (.int 6)) dNil))) (dC (.int 0))) dNil)))) dNil))) oNone (oSome (dAdd (dC (.int 2)) (dCallA 2 f__law_take (dCons (dVar 0) (dCons (dC (.int 5)) dNil)))))) dNil)
def w5 : DS := sIf (tAndD (asB (dOp2 fEq (dVar 4) (dC (.int 12)))) (asB (dOp2 fGt (dVar 3) (dC (.int 1))))) (sSeq (sSet 11 bindE)
    (sRet (dTup (dCons (dC (.str "bind")) (dCons (dCB (one gTuple) (dCons (dVar 11) dNil)) dNil))))) sNext
def w6 : DS := sIf (asB (dOp2 fEq (dVar 4) (dC (.int 13)))) (sRet (dTup (dCons (dC (.str "drink_set")) (dCons (dVar 8) (dCons (dVar 9) (dCons (dVar 10) dNil)))))) sNext
def w7 : DS := sRet (dIte (asB (dOp2 fEq (dVar 4) (dC (.int 14)))) (dTup (dCons (dC (.str "loosen")) (dCons (dVar 8) dNil))) (dTup (dCons (dC (.str "undo")) dNil)))
def ways : DS := sSeq w1 (sSeq w2 (sSeq w3 (sSeq w4 (sSeq w5 (sSeq w6 w7)))))
theorem bind_d {many : Nat} (pt : Pot K st) (m40 : many ≤ 40) (m1 : 1 < many) (hv : ρ[0]? = some (some (.box K))) (h3 : ρ[3]? = some (some (I many))) : ∃ (ns : List Nat) (s1 : Store), bindE ρ st = .ok (nL ns) s1 ∧ ns.length ≤ 40 ∧ (∀ n ∈ ns, n ≤ 1000) ∧ Dr K st s1 := by
  obtain ⟨b, s1, b1, e1, c1⟩ := zero_draw (ρ := ρ) (far := 6) pt hv (by decide) (by decide)
  have rg : dLstRg (dAdd (dVar 3) (dCB (one gInt) (dCons (dOp2 fEq (dCallA 2 f__law_take (dCons (dVar 0) (dCons (dC (.int 6)) dNil))) (dC (.int 0))) dNil))) ρ st = .ok (.lst ((List.range (many + b)).map I)) s1 := by
    unfold dLstRg
    rw [add_I (i := many) (ev_var h3) e1, bind_ok]
    dsimp only
    rw [if_pos (by omega), range_I]
  obtain ⟨ys, s2, e2, py, g2⟩ := mixedG_d (G := I) (fun l => noL_map l fun _ => rfl) (xs := List.range (many + b)) (by rw [List.length_range]; omega) c1.pot
  obtain ⟨j, s3, j1, e3, c3⟩ := draw (v := 0) (ρ := ρ) (e := dC (.int 5)) (far := 5) g2.pot hv rfl (by decide) (by decide)
  have e8 : dSl (dCallA 2 f__law_mixed (dCons (dVar 0) (dCons (dLstRg (dAdd (dVar 3) (dCB (one gInt) (dCons (dOp2 fEq (dCallA 2 f__law_take (dCons (dVar 0) (dCons (dC (.int 6)) dNil))) (dC (.int 0))) dNil)))) dNil))) oNone (oSome (dAdd (dC (.int 2)) (dCallA 2 f__law_take (dCons (dVar 0) (dCons (dC (.int 5)) dNil))))) ρ st = .ok (.lst ((ys.take (2 + j)).map I)) s3 := by
    refine ev_sl (x := .lst (ys.map I)) (lo := none) (hi := some ((2 + j : Nat) : Int)) (s1 := s2) (s2 := s2) ?_ rfl (oSome_I (add_I (i := 2) rfl e3)) ?_
    · exact ev_call (xs := [.box K, .lst ((List.range (many + b)).map I)]) (s1 := s1) (ev_cons (ev_var hv) (ev_cons rg rfl)) rfl e2
    · rw [take_to, List.map_take]
  obtain ⟨ns, hn1, hn3, hn2⟩ := sort_nat (ys.take (2 + j))
  have gs : gSort (.lst ((ys.take (2 + j)).map I)) s3 = some (.lst (ns.map I)) := by
    have q := gSort_ints (x := .lst ((ys.take (2 + j)).map I)) (ns := (ys.take (2 + j)).map fun n : Nat => (n : Int)) (st := s3) (by unfold litemsOf; rw [List.map_map]; rfl)
    rw [q, hn2, List.map_map]
    rfl
  refine ⟨ns, s3, ev_cb1 (ev_cons e8 rfl) gs, ?_, fun n hn => ?_, ((Dr.chg c1).trans g2).trans (Dr.chg c3)⟩
  · rw [hn1, List.length_take]
    omega
  · have := List.mem_range.mp (py.subset (List.mem_of_mem_take (hn3 n hn)))
    omega
theorem ways_d {many way r s t : Nat} {md wd : D} {s0 : Store} (pt : Pot K st) (g0 : Dr K s0 st) (k0 : 0 < ks.length) (k1 : ks.length ≤ 10) (kk : ∀ b ∈ ks, KOk b) (m40 : many ≤ 40) (hw : way < 16) (hr : r ≤ 1000) (hs : s ≤ 1000) (ht : t ≤ 1000) (hm : Md md) (hwd : wd ∈ whos) :
    ∃ (d : Dd) (st' : Store), ways (dR K rm h c S ks (some (I many)) (some (I way)) (some (nT rm)) (some (I r)) (some (I s)) (some (I t)) (some md) (some wd) none) st = .ret d.d st' ∧ d.ok ∧ Dr K s0 st' := by
  have lt : ∀ n : Nat, asB (dOp2 fLt (dVar 4) (dC (I n))) (dR K rm h c S ks (some (I many)) (some (I way)) (some (nT rm)) (some (I r)) (some (I s)) (some (I t)) (some md) (some wd) none) st = .ok (decide (way < n)) st := fun n => ev_asB (ev_op (x := I way) (y := I n) (s1 := st) rfl rfl (lt_I _ _))
  have eq : ∀ n : Nat, asB (dOp2 fEq (dVar 4) (dC (I n))) (dR K rm h c S ks (some (I many)) (some (I way)) (some (nT rm)) (some (I r)) (some (I s)) (some (I t)) (some md) (some wd) none) st = .ok (decide (way = n)) st := fun n => ev_asB (ev_op (x := I way) (y := I n) (s1 := st) rfl rfl (eq_I _ _))
  have t1 := lt 6
  by_cases h1 : way < 6
  · rw [decide_eq_true h1] at t1
    have lk : dCB (orB (one gLen) (one gLenK)) (dCons (dVar 2) dNil) (dR K rm h c S ks (some (I many)) (some (I way)) (some (nT rm)) (some (I r)) (some (I s)) (some (I t)) (some md) (some wd) none) st = .ok (I ks.length) st := ev_lenL (G := kD) (zs := ks) rfl
    obtain ⟨j, s1, j1, e1, c1⟩ := draw (v := 0) (ρ := dR K rm h c S ks (some (I many)) (some (I way)) (some (nT rm)) (some (I r)) (some (I s)) (some (I t)) (some md) (some wd) none) pt rfl lk (by omega) (by omega)
    have hj : j < ks.length := by omega
    have ixk : ixD (.lst (ks.map kD)) (I j) s1 = some (kD ks[j]) := ix_lst (by rw [List.getElem?_map, List.getElem?_eq_getElem hj]; rfl)
    exact ⟨.lay ks[j] r s, s1, ex_seqR (if_yes t1 (ex_ret (ev_tup (xs := [.str "lay", kD ks[j], I r, I s]) (ev_cons (s1 := st) rfl (ev_cons (ev_ix (x := .lst (ks.map kD)) (s1 := st) rfl e1 ixk) rfl)) (show 4 ≤ 100000 by decide)))), ⟨kok_ks (kk _ (List.getElem_mem hj)), hr, hs⟩, g0.trans (Dr.chg c1)⟩
  · rw [decide_eq_false h1] at t1
    have t2 := lt 9
    by_cases h2 : way < 9
    · rw [decide_eq_true h2] at t2
      exact ⟨.move t r s, st, ex_seq (if_no t1) (ex_seqR (if_yes t2 (ex_ret rfl))), ⟨ht, hr, hs⟩, g0⟩
    · rw [decide_eq_false h2] at t2
      have t3 := lt 11
      by_cases h3 : way < 11
      · rw [decide_eq_true h3] at t3
        have fin : ∀ x : Str, dIx (dLst (dCons (dC (.str "drink")) (dCons (dC (.str "give")) dNil))) (dSub (dVar 4) (dC (.int 9))) (dR K rm h c S ks (some (I many)) (some (I way)) (some (nT rm)) (some (I r)) (some (I s)) (some (I t)) (some md) (some wd) none) st = .ok (.str x) st →
            dTup (dCons (dIx (dLst (dCons (dC (.str "drink")) (dCons (dC (.str "give")) dNil))) (dSub (dVar 4) (dC (.int 9)))) (dCons (dVar 8) (dCons (dVar 9) (dCons (dVar 10) dNil)))) (dR K rm h c S ks (some (I many)) (some (I way)) (some (nT rm)) (some (I r)) (some (I s)) (some (I t)) (some md) (some wd) none) st = .ok (.tup [.str x, I t, md, wd]) st :=
          fun x e => ev_tup (ev_cons e rfl) (show 4 ≤ 100000 by decide)
        rcases (show way = 9 ∨ way = 10 by omega) with rfl | rfl
        · exact ⟨.drink t md wd, st, ex_seq (if_no t1) (ex_seq (if_no t2) (ex_seqR (if_yes t3 (ex_ret (fin "drink" rfl))))), ⟨ht, hm, hwd⟩, g0⟩
        · exact ⟨.give t md wd, st, ex_seq (if_no t1) (ex_seq (if_no t2) (ex_seqR (if_yes t3 (ex_ret (fin "give" rfl))))), ⟨ht, hm, hwd⟩, g0⟩
      · rw [decide_eq_false h3] at t3
        have t4 := eq 11
        by_cases h4 : way = 11
        · rw [decide_eq_true h4] at t4
          exact ⟨.smash t md, st, ex_seq (if_no t1) (ex_seq (if_no t2) (ex_seq (if_no t3) (ex_seqR (if_yes t4 (ex_ret rfl))))), ⟨ht, hm⟩, g0⟩
        · rw [decide_eq_false h4] at t4
          have t5 : tAndD (asB (dOp2 fEq (dVar 4) (dC (.int 12)))) (asB (dOp2 fGt (dVar 3) (dC (.int 1)))) (dR K rm h c S ks (some (I many)) (some (I way)) (some (nT rm)) (some (I r)) (some (I s)) (some (I t)) (some md) (some wd) none) st = .ok (decide (way = 12) && decide (1 < many)) st :=
            ev_and (eq 12) fun _ => ev_asB (ev_op (x := I many) (y := I 1) (s1 := st) rfl rfl (gt_I _ _))
          cases h5 : (decide (way = 12) && decide (1 < many)) with
          | true =>
            rw [h5] at t5
            have m1 := of_decide_eq_true ((Bool.and_eq_true _ _).mp h5).2
            obtain ⟨ns, s1, e1, n1, n2, g1⟩ := bind_d (ρ := dR K rm h c S ks (some (I many)) (some (I way)) (some (nT rm)) (some (I r)) (some (I s)) (some (I t)) (some md) (some wd) none) pt m40 m1 rfl rfl
            have q := ex_set (i := 11) e1
            exact ⟨.bind ns, s1, ex_seq (if_no t1) (ex_seq (if_no t2) (ex_seq (if_no t3) (ex_seq (if_no t4) (ex_seqR (if_yes t5 (ex_seq q (ex_ret rfl))))))), ⟨n1, n2⟩, g0.trans g1⟩
          | false =>
            rw [h5] at t5
            have t6 := eq 13
            by_cases h6 : way = 13
            · rw [decide_eq_true h6] at t6
              exact ⟨.dset t md wd, st, ex_seq (if_no t1) (ex_seq (if_no t2) (ex_seq (if_no t3) (ex_seq (if_no t4) (ex_seq (if_no t5) (ex_seqR (if_yes t6 (ex_ret rfl))))))), ⟨ht, hm, hwd⟩, g0⟩
            · rw [decide_eq_false h6] at t6
              have t7 := eq 14
              by_cases h7 : way = 14
              · rw [decide_eq_true h7] at t7
                exact ⟨.loosen t, st, ex_seq (if_no t1) (ex_seq (if_no t2) (ex_seq (if_no t3) (ex_seq (if_no t4) (ex_seq (if_no t5) (ex_seq (if_no t6) (ex_ret (ev_ite t7 rfl))))))), ht, g0⟩
              · rw [decide_eq_false h7] at t7
                exact ⟨.undo, st, ex_seq (if_no t1) (ex_seq (if_no t2) (ex_seq (if_no t3) (ex_seq (if_no t4) (ex_seq (if_no t5) (ex_seq (if_no t6) (ex_ret (ev_ite t7 rfl))))))), trivial, g0⟩
theorem deed_d (pt : Pot K st) (R : Rm rm) (f3 : c.bs.length ≤ 40) (k0 : 0 < ks.length) (k1 : ks.length ≤ 10) (kk : ∀ b ∈ ks, KOk b) :
    ∃ (d : Dd) (st' : Store), f__law_deed [.box K, stC rm h c S, .lst (ks.map kD)] st = .ok d.d st' ∧ d.ok ∧ Dr K st st' := by
  have r4 := R.r4
  have r0 := R.r0
  obtain ⟨way, s1, a1, e1, c1⟩ := draw (v := 0) (ρ := dR K rm h c S ks none none none none none none none none none) (e := dC (.int 16)) (far := 16) pt rfl rfl (by decide) (by decide)
  have q1 : d1 (dR K rm h c S ks none none none none none none none none none) st = .nx (dR K rm h c S ks (some (I c.bs.length)) (some (I way)) none none none none none none none) s1 :=
    ex_par (i := 3) (j := 4) (ev_cons (ev_lenT (G := kD) (at_stock (e := dVar 1) (st := st) rfl)) (ev_cons e1 rfl))
  have q2 : d2 (dR K rm h c S ks (some (I c.bs.length)) (some (I way)) none none none none none none none) s1 = .nx (dR K rm h c S ks (some (I c.bs.length)) (some (I way)) (some (nT rm)) none none none none none none) s1 := ex_set (i := 5) (at_rooms (e := dVar 1) (st := s1) rfl)
  obtain ⟨b2, s2, b2', e2, c2⟩ := zero_draw (ρ := dR K rm h c S ks (some (I c.bs.length)) (some (I way)) (some (nT rm)) none none none none none none) (far := 12) c1.pot rfl (by decide) (by decide)
  have ad3 := add_I (ρ := dR K rm h c S ks (some (I c.bs.length)) (some (I way)) (some (nT rm)) none none none none none none) (ev_lenT (G := I) (zs := rm) (a := dVar 5) (st := s1) (s1 := s1) rfl) e2
  obtain ⟨r, s3, r3, e3, c3⟩ : ∃ (r : Nat) (s3 : Store), r < rm.length + b2 ∧ f__law_take [.box K, I (rm.length + b2)] s2 = .ok (I r) s3 ∧ Chg K s2 s3 := by
    obtain ⟨i, s', i0, i1, e, c⟩ := Com.take_d (far := ((rm.length + b2 : Nat) : Int)) c2.pot (by omega) (log_small (by omega) (by omega))
    exact ⟨i.toNat, s', by omega, by rw [show I i.toNat = D.int i by show D.int ((i.toNat : Nat) : Int) = _; congr 1; omega]; exact e, c⟩
  have q3 : d3 (dR K rm h c S ks (some (I c.bs.length)) (some (I way)) (some (nT rm)) none none none none none none) s1 = .nx (dR K rm h c S ks (some (I c.bs.length)) (some (I way)) (some (nT rm)) (some (I r)) none none none none none) s3 :=
    ex_set (i := 6) (ev_call (xs := [.box K, I (rm.length + b2)]) (s1 := s2) (ev_cons (s1 := s1) rfl (ev_cons ad3 rfl)) rfl e3)
  obtain ⟨m, hm, hm1, hm4⟩ : ∃ m, (rm ++ [4])[r]? = some m ∧ 1 ≤ m ∧ m ≤ 4 := by
    have hr : r < (rm ++ [4]).length := by rw [List.length_append, List.length_singleton]; omega
    refine ⟨_, List.getElem?_eq_getElem hr, ?_⟩
    have := List.getElem_mem hr
    rcases List.mem_append.mp this with h | h
    · exact R.rb _ h
    · rw [List.mem_singleton.mp h]; decide
  obtain ⟨b4, s4, b4', e4, c4⟩ := zero_draw (ρ := dR K rm h c S ks (some (I c.bs.length)) (some (I way)) (some (nT rm)) (some (I r)) none none none none none) (far := 12) c3.pot rfl (by decide) (by decide)
  have ix4 : dIx (dAdd (dVar 5) (dTup (dCons (dC (.int 4)) dNil))) (dVar 6) (dR K rm h c S ks (some (I c.bs.length)) (some (I way)) (some (nT rm)) (some (I r)) none none none none none) s3 = .ok (I m) s3 := by
    refine ev_ix (x := nT (rm ++ [4])) (y := I r) (s1 := s3) (ev_op (x := nT rm) (y := .tup [I 4]) (s1 := s3) rfl rfl ?_) rfl (ix_tup (by rw [List.getElem?_map, hm]; rfl))
    rw [cat_T (by rw [List.length_map]; show _ + 1 ≤ 100000; omega)]
    simp [nT]
  obtain ⟨s, s5, r5, e5, c5⟩ : ∃ (r : Nat) (s3 : Store), r < m + b4 ∧ f__law_take [.box K, I (m + b4)] s4 = .ok (I r) s3 ∧ Chg K s4 s3 := by
    obtain ⟨i, s', i0, i1, e, c⟩ := Com.take_d (far := ((m + b4 : Nat) : Int)) c4.pot (by omega) (log_small (by omega) (by omega))
    exact ⟨i.toNat, s', by omega, by rw [show I i.toNat = D.int i by show D.int ((i.toNat : Nat) : Int) = _; congr 1; omega]; exact e, c⟩
  have q4 : d4 (dR K rm h c S ks (some (I c.bs.length)) (some (I way)) (some (nT rm)) (some (I r)) none none none none none) s3 = .nx (dR K rm h c S ks (some (I c.bs.length)) (some (I way)) (some (nT rm)) (some (I r)) (some (I s)) none none none none) s5 :=
    ex_set (i := 7) (ev_call (xs := [.box K, I (m + b4)]) (s1 := s4) (ev_cons (s1 := s3) rfl (ev_cons (add_I ix4 e4) rfl)) rfl e5)
  obtain ⟨b6, s6, b6', p6, e6, c6⟩ : ∃ (b : Nat) (s6 : Store), b ≤ 1 ∧ 1 ≤ c.bs.length + b ∧ dCB (one gInt) (dCons (dOr (dOp2 fEq (dVar 3) (dC (.int 0))) (dOp2 fEq (dCallA 2 f__law_take (dCons (dVar 0) (dCons (dC (.int 9)) dNil))) (dC (.int 0)))) dNil) (dR K rm h c S ks (some (I c.bs.length)) (some (I way)) (some (nT rm)) (some (I r)) (some (I s)) none none none none) s5 = .ok (I b) s6 ∧ Chg K s5 s6 := by
    have t : dOp2 fEq (dVar 3) (dC (.int 0)) (dR K rm h c S ks (some (I c.bs.length)) (some (I way)) (some (nT rm)) (some (I r)) (some (I s)) none none none none) s5 = .ok (.bl (decide (c.bs.length = 0))) s5 := ev_op (x := I c.bs.length) (y := I 0) (s1 := s5) rfl rfl (eq_I _ _)
    by_cases z : c.bs.length = 0
    · rw [decide_eq_true z] at t
      exact ⟨1, s5, by decide, by omega, ev_cb1 (x := .bl true) (s1 := s5) (ev_cons (ev_orDt t rfl) rfl) rfl, c5.pot.chg⟩
    · rw [decide_eq_false z] at t
      obtain ⟨i, s6, i1, e6, c6⟩ := draw (v := 0) (ρ := dR K rm h c S ks (some (I c.bs.length)) (some (I way)) (some (nT rm)) (some (I r)) (some (I s)) none none none none) (e := dC (.int 9)) (far := 9) c5.pot rfl rfl (by decide) (by decide)
      refine ⟨if i = 0 then 1 else 0, s6, by split <;> omega, by omega, ?_, c6⟩
      refine ev_cb1 (x := .bl (decide (i = 0))) (s1 := s6) (ev_cons (ev_orD t rfl (ev_op e6 (y := I 0) (s2 := s6) rfl (eq_I i 0))) rfl) ?_
      by_cases h : i = 0 <;> simp [h, gInt]
  obtain ⟨t, s7, r7, e7, c7⟩ : ∃ (r : Nat) (s3 : Store), r < c.bs.length + b6 ∧ f__law_take [.box K, I (c.bs.length + b6)] s6 = .ok (I r) s3 ∧ Chg K s6 s3 := by
    obtain ⟨i, s', i0, i1, e, c⟩ := Com.take_d (far := ((c.bs.length + b6 : Nat) : Int)) c6.pot (by omega) (log_small (by omega) (by omega))
    exact ⟨i.toNat, s', by omega, by rw [show I i.toNat = D.int i by show D.int ((i.toNat : Nat) : Int) = _; congr 1; omega]; exact e, c⟩
  have q5 : d5 (dR K rm h c S ks (some (I c.bs.length)) (some (I way)) (some (nT rm)) (some (I r)) (some (I s)) none none none none) s5 = .nx (dR K rm h c S ks (some (I c.bs.length)) (some (I way)) (some (nT rm)) (some (I r)) (some (I s)) (some (I t)) none none none) s7 :=
    ex_set (i := 8) (ev_call (xs := [.box K, I (c.bs.length + b6)]) (s1 := s6) (ev_cons (s1 := s5) rfl (ev_cons (add_I (i := c.bs.length) (s1 := s5) rfl e6) rfl)) rfl e7)
  obtain ⟨md, s8, e8, hmd, c8⟩ := moon_d (ρ := dR K rm h c S ks (some (I c.bs.length)) (some (I way)) (some (nT rm)) (some (I r)) (some (I s)) (some (I t)) none none none) c7.pot rfl
  have q6 : d6 (dR K rm h c S ks (some (I c.bs.length)) (some (I way)) (some (nT rm)) (some (I r)) (some (I s)) (some (I t)) none none none) s7 = .nx (dR K rm h c S ks (some (I c.bs.length)) (some (I way)) (some (nT rm)) (some (I r)) (some (I s)) (some (I t)) (some md) none none) s8 := ex_set (i := 9) e8
  obtain ⟨wd, s9, e9, hwd, c9⟩ := names_d (ρ := dR K rm h c S ks (some (I c.bs.length)) (some (I way)) (some (nT rm)) (some (I r)) (some (I s)) (some (I t)) (some md) none none) c8.pot rfl
  have q7 : d7 (dR K rm h c S ks (some (I c.bs.length)) (some (I way)) (some (nT rm)) (some (I r)) (some (I s)) (some (I t)) (some md) none none) s8 = .nx (dR K rm h c S ks (some (I c.bs.length)) (some (I way)) (some (nT rm)) (some (I r)) (some (I s)) (some (I t)) (some md) (some wd) none) s9 := ex_set (i := 10) e9
  have cc := (((((((c1.trans c2).trans c3).trans c4).trans c5).trans c6).trans c7).trans c8).trans c9
  obtain ⟨wd', s10, q8, hwd', c10⟩ : ∃ (wd' : D) (s10 : Store), d8 (dR K rm h c S ks (some (I c.bs.length)) (some (I way)) (some (nT rm)) (some (I r)) (some (I s)) (some (I t)) (some md) (some wd) none) s9 = .nx (dR K rm h c S ks (some (I c.bs.length)) (some (I way)) (some (nT rm)) (some (I r)) (some (I s)) (some (I t)) (some md) (some wd') none) s10 ∧ wd' ∈ whos ∧ Chg K s9 s10 := by
    obtain ⟨i, s', i1, e, c'⟩ := draw (v := 0) (ρ := dR K rm h c S ks (some (I c.bs.length)) (some (I way)) (some (nT rm)) (some (I r)) (some (I s)) (some (I t)) (some md) (some wd) none) (e := dC (.int 20)) (far := 20) c9.pot rfl rfl (by decide) (by decide)
    have tt := ev_asB (ev_op (b := dC (.int 0)) e (y := I 0) (s2 := s') rfl (eq_I i 0))
    by_cases z : i = 0
    · rw [decide_eq_true z] at tt
      obtain ⟨x, s'', e'', hx, c''⟩ := odds_d (ρ := dR K rm h c S ks (some (I c.bs.length)) (some (I way)) (some (nT rm)) (some (I r)) (some (I s)) (some (I t)) (some md) (some wd) none) c'.pot rfl
      exact ⟨x, s'', if_yes tt (ex_set (i := 10) e''), hx, c'.trans c''⟩
    · rw [decide_eq_false z] at tt
      exact ⟨wd, s', if_no tt, hwd, c'⟩
  obtain ⟨d, st', q9, ok, g⟩ := ways_d (rm := rm) (h := h) (c := c) (S := S) (many := c.bs.length) (way := way) c10.pot (Dr.chg (cc.trans c10)) k0 k1 kk f3 (show way < 16 by omega) (show r ≤ 1000 by omega) (show s ≤ 1000 by omega) (show t ≤ 1000 by omega) hmd hwd'
  exact ⟨d, st', Den.run (N := 12) (n := 3) (m := m__law_deed) rfl (ex_seq q1 (ex_seq q2 (ex_seq q3 (ex_seq q4 (ex_seq q5 (ex_seq q6 (ex_seq q7 (ex_seq q8 q9)))))))) rfl, ok, g⟩
end
end K11
set_option maxRecDepth 100000
set_option maxHeartbeats 2000000
namespace K11
open PySem PySem.Spec PyProof.Rows L2 Den Cel Ste
def cellsE : DA := (dCons (dCB (orB (two fun i j => if j > i then j else i) (one (gBest PySem.W.maxD))) (dCons (dC (.int 1)) (dCons (dCB (orB (two fun i j => if j < i then j else i) (one (gBest PySem.W.minD))) (dCons (dCB (orB (one gLen) (one gLenK)) (dCons (dVar 0) dNil)) (dCons (dC (.int 2)) dNil))) dNil))) dNil)
def c1 : DS := sSet 2 (dCallA 1 f__law_pot (dCons (dCallA 2 f__law_cell_at (dCons (dVar 0) (dCons (dVar 1) dNil))) dNil))
def c2 : DS := sPar 3 4 (dCons (dCallA 1 f__law_kinds (dCons (dVar 2) dNil)) (dCons (dCallA 1 f__law_rooms (dCons (dVar 2) dNil)) dNil))
def c3 : DS := sSet 5 (dAdd (dC (.int 1)) (dCallA 2 f__law_take (dCons (dVar 2) (dCons (dIx (dLst (dCons (dC (.int 2)) (dCons (dC (.int 9)) dNil))) (dCallA 2 f__law_take (dCons (dVar 2) (dCons (dC (.int 2)) dNil)))) dNil))))
def c4 : DS := sSet 6 (dIte (asB (dOp2 fEq (dVar 5) (dC (.int 6)))) (dMakeM 1 1 0 gd_Cellar_1 f_Cellar (dCons (dVar 4) dNil) dNil) (dMakeM 1 1 1 gd_Cellar_1_hold f_Cellar (dCons (dVar 4) dNil) (dCons (dVar 5) dNil)))
def c5 : DS := sPar 7 8 (dCons (dNew (dCons (dCallA 2 f__law_begun (dCons (dVar 4) (dCons (dVar 5) dNil))) dNil)) (dCons (dAdd (dC (.int 10)) (dCallA 2 f__law_take (dCons (dVar 2) (dCons (dC (.int 21)) dNil)))) dNil))
def c6 : DS := sSet 9 (dLst (dCons (dTup (dCons (dC (.str "lay")) (dCons (dIx (dVar 3) (dC (.int 0))) (dCons (dC (.int 0)) (dCons (dC (.int 0)) dNil))))) (dCons (dTup (dCons (dC (.str "lay")) (dCons (dTup (dCons (dC (.str "q")) (dCons (dC (.int 1990)) (dCons (dC (.int 37)) dNil)))) (dCons (dC (.int 0)) (dCons (dC (.int 0)) dNil))))) (dCons (dTup (dCons (dC (.str "bind")) (dCons (dTup (dCons (dC (.int 0)) (dCons (dC (.int 1)) dNil))) dNil))) (dCons (dTup (dCons (dC (.str "drink_set")) (dCons (dC (.int 1)) (dCons (dC (.int 5)) (dCons (dC (.str "")) dNil))))) dNil)))))
def aheadB : DS := sIf (tNotD (dTruth (dCallA 3 f__law_step (dCons (dVar 6) (dCons (dVar 7) (dCons (dVar 10) dNil)))))) (sRet (dC (.bl false))) sNext
def c7 : DS := sForL (dIte (asB (dOp2 fEq (dCallA 2 f__law_take (dCons (dVar 2) (dCons (dC (.int 2)) dNil))) (dC (.int 0)))) (dVar 9) (dLst dNil)) (g1 10) aheadB
def turn1 : DS := sIf (tNotD (dTruth (dCallA 3 f__law_step (dCons (dVar 6) (dCons (dVar 7) (dCons (dCallA 3 f__law_deed (dCons (dVar 2) (dCons (dIx (dVar 7) (dNeg (dC (.int 1)))) (dCons (dVar 3) dNil)))) dNil)))))) (sRet (dC (.bl false))) sNext
def saysT : DT := asB (dOp2 fNe (dCallA 2 f__law_says (dCons (dVar 6) (dCons (dIx (dVar 7) (dNeg (dC (.int 1)))) dNil))) (dVar 12))
def turn2 : DS := sIf (tOrD (asB (dOp2 fEq (dMod (dVar 11) (dC (.int 3))) (dC (.int 0)))) (asB (dOp2 fEq (dVar 11) (dSub (dVar 8) (dC (.int 1)))))) (sSeq (sSet 12 (dCallA 1 f__law_shown (dCons (dIx (dVar 7) (dNeg (dC (.int 1)))) dNil)))
    (sIf (tOrD saysT saysT) (sRet (dC (.bl false))) sNext)) sNext
def turnB : DS := sSeq turn1 turn2
def c8 : DS := sForR1 (dCons (dVar 8) dNil) (g1 11) turnB
def cellB : DS := sSeq c1 (sSeq c2 (sSeq c3 (sSeq c4 (sSeq c5 (sSeq c6 (sSeq c7 c8))))))
structure La (K k p L : Nat) (rm : List Nat) (h : Nat) (qs : List QS) (c : Cl) (S : List (List Nat)) (s : Store) : Prop where
  sn : Sn k p L rm h qs c S s
  pot : Pot K s
  Kk : K ≠ k
  Kp : K ≠ p
  KL : K ≠ L
section
variable {K k p L h : Nat} {rm : List Nat} {qs : List QS} {c : Cl} {S : List (List Nat)} {ks : List K3} {st s1 s : Store} {ρ : Rho} {d : Dd} {x0 x1 x9 x10 x11 x12 : Option D} {ns : List Int} {many : Nat}
theorem La.dr (l : La K k p L rm h qs c S st) (g : Dr K st s1) : La K k p L rm h qs c S s1 := by
  have hk := l.sn.A.m.hk
  have hp := l.sn.A.m.hp
  exact ⟨⟨at_same l.sn.A (by rw [hk, g.old _ _ (Ne.symm l.Kk) hk]) (by rw [hp, g.old _ _ (Ne.symm l.Kp) hp]), g.old _ _ (Ne.symm l.KL) l.sn.hL, l.sn.nk, l.sn.np, l.sn.tw, g.ne l.sn.ne⟩, g.pot, l.Kk, l.Kp, l.KL⟩
theorem La.keep (l : La K k p L rm h qs c S st) (g : Keep st s1) : La K k p L rm h qs c S s1 := ⟨l.sn.keep g, g.pot l.pot, l.Kk, l.Kp, l.KL⟩
theorem pot_gr (P : Pot K st) (g : Gr k p L st s1) (a : K ≠ k) (b : K ≠ p) (e : K ≠ L) : Pot K s1 := by
  obtain ⟨q, z⟩ := P
  exact ⟨q, g.old K _ a b e z⟩
theorem step_st {r : DA} (l : La K k p L rm h qs c S s1) (few : qs.length < 900) (ok : d.ok) (hr : r ρ st = .ok [.box k, .box L, d.d] s1) : ∃ qs' c' S' st', sIf (tNotD (dTruth (dCallA 3 f__law_step r))) (sRet (dC (.bl false))) sNext ρ st = .nx ρ st' ∧ La K k p L rm h qs' c' S' st' ∧ qs'.length ≤ qs.length + 1 := by
  obtain ⟨qs', c', S', st', e, sn, g, hl⟩ := step_any l.sn few ok
  exact ⟨qs', c', S', st', if_no (ev_not (bb := true) (ev_truth (ev_call hr rfl e) rfl)), ⟨sn, pot_gr l.pot g l.Kk l.Kp l.KL, l.Kk, l.Kp, l.KL⟩, hl⟩
abbrev lR (x0 x1 : Option D) (K : Nat) (ks : List K3) (rm : List Nat) (h k L many : Nat) (x9 x10 x11 x12 : Option D) : Rho := [x0, x1, some (.box K), some (.lst (ks.map kD)), some (nT rm), some (I h), some (.box k), some (.box L), some (I many), x9, x10, x11, x12]
theorem ahead_loop : ∀ (ds : List Dd) (qs : List QS) (c : Cl) (S : List (List Nat)) (x10 : Option D) (s : Store), (∀ d ∈ ds, d.ok) → La K k p L rm h qs c S s → qs.length + ds.length < 800 →
    ∃ qs' c' S' y10 s', forL (g1 10) aheadB (ds.map Dd.d) (lR x0 x1 K ks rm h k L many x9 x10 x11 x12) s = .nx (lR x0 x1 K ks rm h k L many x9 y10 x11 x12) s' ∧ La K k p L rm h qs' c' S' s' ∧ qs'.length ≤ qs.length + ds.length
  | [], qs, c, S, x10, s, _, l, _ => ⟨qs, c, S, x10, s, rfl, l, by simp⟩
  | d :: ds, qs, c, S, x10, s, ok, l, few => by
    rw [List.length_cons] at few
    obtain ⟨qs1, c1, S1, s1, e1, l1, h1⟩ := step_st (d := d) (ρ := lR x0 x1 K ks rm h k L many x9 (some d.d) x11 x12) (st := s) (r := dCons (dVar 6) (dCons (dVar 7) (dCons (dVar 10) dNil))) l (by omega) (ok d List.mem_cons_self) rfl
    obtain ⟨qs2, c2, S2, y10, s2, e2, l2, h2⟩ := ahead_loop ds qs1 c1 S1 (some d.d) s1 (fun x hx => ok x (List.mem_cons_of_mem _ hx)) l1 (by omega)
    exact ⟨qs2, c2, S2, y10, s2, forL_nx rfl e1 e2, l2, by rw [List.length_cons]; omega⟩
theorem turn_d {n : Nat} (l : La K k p L rm h qs c S st) (R : Rm rm) (few : qs.length < 800) (k0 : 0 < ks.length) (k1 : ks.length ≤ 10) (kk : ∀ b ∈ ks, KOk b) :
    ∃ qs' c' S' y12 s', turnB (lR x0 x1 K ks rm h k L many x9 x10 (some (I n)) x12) st = .nx (lR x0 x1 K ks rm h k L many x9 x10 (some (I n)) y12) s' ∧ La K k p L rm h qs' c' S' s' ∧ qs'.length ≤ qs.length + 1 := by
  obtain ⟨d, s1, e1, ok, g1⟩ := deed_d (h := h) (c := c) (S := S) l.pot R l.sn.A.w.f3 k0 k1 kk
  have l1 := l.dr g1
  obtain ⟨qs2, c2, S2, s2, e2, l2, h2⟩ := step_st (d := d) (ρ := lR x0 x1 K ks rm h k L many x9 x10 (some (I n)) x12) (st := st) (r := dCons (dVar 6) (dCons (dVar 7) (dCons (dCallA 3 f__law_deed (dCons (dVar 2) (dCons (dIx (dVar 7) (dNeg (dC (.int 1)))) (dCons (dVar 3) dNil)))) dNil))) l1 (by omega) ok
    (ev_cons (s1 := st) rfl (ev_cons (s1 := st) rfl (ev_cons (ev_call (xs := [.box K, stC rm h c S, .lst (ks.map kD)]) (s1 := st) (ev_cons (s1 := st) rfl (ev_cons (past_last (i := 7) l.sn.hL rfl) rfl)) rfl e1) rfl)))
  have q1 : turn1 (lR x0 x1 K ks rm h k L many x9 x10 (some (I n)) x12) st = .nx (lR x0 x1 K ks rm h k L many x9 x10 (some (I n)) x12) s2 := e2
  have t1 : asB (dOp2 fEq (dMod (dVar 11) (dC (.int 3))) (dC (.int 0))) (lR x0 x1 K ks rm h k L many x9 x10 (some (I n)) x12) s2 = .ok (decide (((n : Int) % 3) = 0)) s2 :=
    ev_asB (ev_op (x := .int ((n : Int) % 3)) (y := .int 0) (s1 := s2) (ev_op (x := I n) (y := .int 3) (s1 := s2) rfl rfl (Com.fMod_int (by decide))) rfl (eq_int _ _))
  have t2 : asB (dOp2 fEq (dVar 11) (dSub (dVar 8) (dC (.int 1)))) (lR x0 x1 K ks rm h k L many x9 x10 (some (I n)) x12) s2 = .ok (decide ((n : Int) = (many : Int) - 1)) s2 :=
    ev_asB (ev_op (x := I n) (y := .int ((many : Int) - 1)) (s1 := s2) rfl (ev_op (x := I many) (y := .int 1) (s1 := s2) rfl rfl rfl) (eq_int _ _))
  have t := ev_or t1 fun _ => t2
  cases hb : (decide (((n : Int) % 3) = 0) || decide ((n : Int) = (many : Int) - 1)) with
  | false =>
    rw [hb] at t
    exact ⟨qs2, c2, S2, x12, s2, ex_seq q1 (if_no t), l2, h2⟩
  | true =>
    rw [hb] at t
    obtain ⟨s3, e3, k3⟩ := shown_of (st := s2) l2.sn.t
    have l3 := l2.keep k3
    obtain ⟨s4, e4, k4⟩ := says_d l3.sn.A l3.sn.t
    have l4 := l3.keep k4
    obtain ⟨s5, e5, k5⟩ := says_d l4.sn.A l4.sn.t
    have q3 : sSet 12 (dCallA 1 f__law_shown (dCons (dIx (dVar 7) (dNeg (dC (.int 1)))) dNil)) (lR x0 x1 K ks rm h k L many x9 x10 (some (I n)) x12) s2 = .nx (lR x0 x1 K ks rm h k L many x9 x10 (some (I n)) (some (.str (shownD (.lst (allD rm c2)))))) s3 :=
      ex_set (i := 12) (ev_call (xs := [stC rm h c2 S2]) (s1 := s2) (ev_cons (past_last (i := 7) l2.sn.hL rfl) rfl) rfl e3)
    have ts : ∀ {u v : Store}, La K k p L rm h qs2 c2 S2 u → f__law_says [.box k, stC rm h c2 S2] u = .ok (.str (shownD (.lst (allD rm c2)))) v → saysT (lR x0 x1 K ks rm h k L many x9 x10 (some (I n)) (some (.str (shownD (.lst (allD rm c2)))))) u = .ok false v := fun {u v} lu e =>
      ev_asB (ev_op (ev_call (xs := [.box k, stC rm h c2 S2]) (s1 := u) (ev_cons (s1 := u) rfl (ev_cons (past_last (i := 7) lu.sn.hL rfl) rfl)) rfl e) (s2 := v) rfl (fNe_str _))
    have t5 := ev_orF (ts l3 e4) (ts l4 e5)
    exact ⟨qs2, c2, S2, _, s5, ex_seq q1 (if_yes t (ex_seq q3 (if_no t5))), l4.keep k5, h2⟩
theorem begun_tw (R : Rm rm) : Tw rm h (c00 rm) [] := ⟨ok00 R, Sets.begin, (fun b hb => nomatch hb), (fun f hf => nomatch hf)⟩
theorem rows00 (R : Rm rm) {q : Pt} (hq : q ∈ pairsL rm) : rowAt (c00 rm).sh q.1 q.2 = [] := by
  have w := (ok00 (h := 9) R).w
  have pm := (ok00 (h := 9) R).pm
  have e : lyingL (c00 rm) = [] := rfl
  rw [e, ← flat_pairs w] at pm
  have z := List.Perm.eq_nil pm
  exact List.flatMap_eq_nil_iff.mp z q hq
theorem cell_turn {j : Nat} {x2 x3 x4 x5 x6 x7 x8 x9 x10 x11 x12 : Option D} (n0 : noES s = true) : ∃ y2 y3 y4 y5 y6 y7 y8 y9 y10 y11 y12 s', cellB [some (.ro (ns.map D.int)), some (.int j), x2, x3, x4, x5, x6, x7, x8, x9, x10, x11, x12] s = .nx [some (.ro (ns.map D.int)), some (.int j), y2, y3, y4, y5, y6, y7, y8, y9, y10, y11, y12] s' ∧ noES s' = true := by
  obtain ⟨cc, e0⟩ := cell_d (ns := ns) (k := j) (st := s)
  obtain ⟨pp, e1⟩ := pot_d (c := cc) (st := s)
  have q1 : c1 [some (.ro (ns.map D.int)), some (.int j), x2, x3, x4, x5, x6, x7, x8, x9, x10, x11, x12] s = .nx [some (.ro (ns.map D.int)), some (.int j), some (.box s.length), x3, x4, x5, x6, x7, x8, x9, x10, x11, x12] (s ++ [.lst [.int pp]]) := ex_set (i := 2) (ev_call (xs := [.int cc]) (s1 := s) (ev_cons (ev_call (xs := [.ro (ns.map D.int), .int j]) (s1 := s) rfl rfl e0) rfl) rfl e1)
  have P0 : Pot s.length (s ++ [.lst [.int pp]]) := ⟨pp, last_at _ _⟩
  have n1 : noES (s ++ [Cell.lst [.int pp]]) = true := noES_app n0 rfl
  revert q1 P0 n1
  generalize s ++ [Cell.lst [.int pp]] = s1
  generalize s.length = K
  intro q1 P0 n1
  obtain ⟨ks, s2, e2, k0, k1, hk, g2⟩ := kinds_d P0
  obtain ⟨rm, s3, e3, R, g3⟩ := rooms_d g2.pot
  have q2 : c2 [some (.ro (ns.map D.int)), some (.int j), some (.box K), x3, x4, x5, x6, x7, x8, x9, x10, x11, x12] s1 = .nx [some (.ro (ns.map D.int)), some (.int j), some (.box K), some (.lst (ks.map kD)), some (nT rm), x5, x6, x7, x8, x9, x10, x11, x12] s3 :=
    ex_par (i := 3) (j := 4) (ev_cons (ev_call (xs := [.box K]) (s1 := s1) rfl rfl e2) (ev_cons (ev_call (xs := [.box K]) (s1 := s2) rfl rfl e3) rfl))
  obtain ⟨i, s4, i1, e4, c4'⟩ := draw (v := 2) (ρ := [some (.ro (ns.map D.int)), some (.int j), some (.box K), some (.lst (ks.map kD)), some (nT rm), x5, x6, x7, x8, x9, x10, x11, x12]) (e := dC (.int 2)) (far := 2) g3.pot rfl rfl (by decide) (by decide)
  obtain ⟨f, hf, f0, f9⟩ : ∃ f : Nat, ixD (.lst [.int 2, .int 9]) (I i) s4 = some (I f) ∧ 0 < f ∧ f ≤ 9 := by
    rcases (show i = 0 ∨ i = 1 by omega) with rfl | rfl
    · exact ⟨2, rfl, by decide, by decide⟩
    · exact ⟨9, rfl, by decide, by decide⟩
  obtain ⟨t, s5, t1, e5, c5'⟩ : ∃ (t : Nat) (s5 : Store), t < f ∧ f__law_take [.box K, I f] s4 = .ok (I t) s5 ∧ Chg K s4 s5 := by
    obtain ⟨i, s', i0, i1, e, c⟩ := Com.take_d (far := ((f : Nat) : Int)) c4'.pot (by omega) (log_small (by omega) (by omega))
    exact ⟨i.toNat, s', by omega, by rw [show I i.toNat = D.int i by show D.int ((i.toNat : Nat) : Int) = _; congr 1; omega]; exact e, c⟩
  have q3 : c3 [some (.ro (ns.map D.int)), some (.int j), some (.box K), some (.lst (ks.map kD)), some (nT rm), x5, x6, x7, x8, x9, x10, x11, x12] s3 = .nx [some (.ro (ns.map D.int)), some (.int j), some (.box K), some (.lst (ks.map kD)), some (nT rm), some (I (1 + t)), x6, x7, x8, x9, x10, x11, x12] s5 :=
    ex_set (i := 5) (add_I (i := 1) (s1 := s3) rfl (ev_call (xs := [.box K, I f]) (s1 := s4) (ev_cons (s1 := s3) rfl (ev_cons (ev_ix (x := .lst [.int 2, .int 9]) (s1 := s3) rfl e4 hf) rfl)) rfl e5))
  have P5 := c5'.pot
  have n5 := c5'.noE (c4'.noE (g3.ne (g2.ne n1)))
  generalize hh : 1 + t = h at q3
  have h1 : 1 ≤ h := by omega
  have h9 : h ≤ 9 := by omega
  obtain ⟨s6, e6, A6, k6⟩ : ∃ s6, dIte (asB (dOp2 fEq (dVar 5) (dC (.int 6)))) (dMakeM 1 1 0 gd_Cellar_1 f_Cellar (dCons (dVar 4) dNil) dNil) (dMakeM 1 1 1 gd_Cellar_1_hold f_Cellar (dCons (dVar 4) dNil) (dCons (dVar 5) dNil)) [some (.ro (ns.map D.int)), some (.int j), some (.box K), some (.lst (ks.map kD)), some (nT rm), some (I h), x6, x7, x8, x9, x10, x11, x12] s5 = .ok (.box s5.length) s6 ∧ At s5.length (s5.length + 1) rm h (c00 rm) [] s6 ∧ Keep s5 s6 := by
    have tt : asB (dOp2 fEq (dVar 5) (dC (.int 6))) [some (.ro (ns.map D.int)), some (.int j), some (.box K), some (.lst (ks.map kD)), some (nT rm), some (I h), x6, x7, x8, x9, x10, x11, x12] s5 = .ok (decide (h = 6)) s5 := ev_asB (ev_op (x := I h) (y := I 6) (s1 := s5) rfl rfl (eq_I _ _))
    by_cases z : h = 6
    · rw [decide_eq_true z] at tt
      subst z
      obtain ⟨s6, e, A, kk⟩ := make_cel (n := 1) (m := 0) (g := gd_Cellar_1) (r := dCons (dVar 4) dNil) (l := dNil) (ρ := [some (.ro (ns.map D.int)), some (.int j), some (.box K), some (.lst (ks.map kD)), some (nT rm), some (I 6), x6, x7, x8, x9, x10, x11, x12]) (st := s5) (ds := [nT rm]) (es := []) R h1 h9 rfl rfl ⟨rfl, rfl⟩ rfl
      exact ⟨s6, ev_ite tt e, A, kk⟩
    · rw [decide_eq_false z] at tt
      obtain ⟨s6, e, A, kk⟩ := make_cel (n := 1) (m := 1) (g := gd_Cellar_1_hold) (r := dCons (dVar 4) dNil) (l := dCons (dVar 5) dNil) (ρ := [some (.ro (ns.map D.int)), some (.int j), some (.box K), some (.lst (ks.map kD)), some (nT rm), some (I h), x6, x7, x8, x9, x10, x11, x12]) (st := s5) (ds := [nT rm]) (es := [I h]) R h1 h9 rfl rfl ⟨rfl, rfl⟩ rfl
      exact ⟨s6, ev_ite tt e, A, kk⟩
  have q4 : c4 [some (.ro (ns.map D.int)), some (.int j), some (.box K), some (.lst (ks.map kD)), some (nT rm), some (I h), x6, x7, x8, x9, x10, x11, x12] s5 = .nx [some (.ro (ns.map D.int)), some (.int j), some (.box K), some (.lst (ks.map kD)), some (nT rm), some (I h), some (.box s5.length), x7, x8, x9, x10, x11, x12] s6 := ex_set (i := 6) e6
  have w0 := (ok00 (h := h) R).w
  have pf := pairs_few (shp_of w0)
  obtain ⟨s7, e7, k7⟩ := begun_d (rm := rm) (h := h) (st := s6) (sh := (c00 rm).sh) (fun r => by have := rm_len w0 r; omega) (by have := R.r4; omega) (by omega) fun q hq => rows00 R hq
  have K5 := P5.lt
  have lk := Cel.lt_of A6.m.hk
  have lp := Cel.lt_of A6.m.hp
  have len7 := k7.len
  have nw : dNew (dCons (dCallA 2 f__law_begun (dCons (dVar 4) (dCons (dVar 5) dNil))) dNil) [some (.ro (ns.map D.int)), some (.int j), some (.box K), some (.lst (ks.map kD)), some (nT rm), some (I h), some (.box s5.length), x7, x8, x9, x10, x11, x12] s6 = .ok (.box s7.length) (s7 ++ [.lst [stC rm h (c00 rm) []]]) :=
    ev_new (ev_cons (ev_call (xs := [nT rm, I h]) (s1 := s6) rfl rfl e7) rfl) (show 1 ≤ 100000 by decide)
  have k8 := k7.trans (Keep.app s7 (.lst [stC rm h (c00 rm) []]) (by show (noE (stC rm h (c00 rm) []) && true) = true; rw [noE_stX]; rfl))
  have l8 := last_at s7 (.lst [stC rm h (c00 rm) []])
  have P8 : Pot K (s7 ++ [.lst [stC rm h (c00 rm) []]]) := k8.pot (k6.pot P5)
  obtain ⟨m, s9, m1, e9, c9⟩ := draw (v := 2) (ρ := [some (.ro (ns.map D.int)), some (.int j), some (.box K), some (.lst (ks.map kD)), some (nT rm), some (I h), some (.box s5.length), x7, x8, x9, x10, x11, x12]) (e := dC (.int 21)) (far := 21) P8 rfl rfl (by decide) (by decide)
  have q5 : c5 [some (.ro (ns.map D.int)), some (.int j), some (.box K), some (.lst (ks.map kD)), some (nT rm), some (I h), some (.box s5.length), x7, x8, x9, x10, x11, x12] s6 = .nx (lR (some (.ro (ns.map D.int))) (some (.int j)) K ks rm h s5.length s7.length (10 + m) x9 x10 x11 x12) s9 :=
    ex_par (i := 7) (j := 8) (ev_cons nw (ev_cons (add_I (i := 10) rfl e9) rfl))
  have la8 : La K s5.length (s5.length + 1) s7.length rm h [] (c00 rm) [] (s7 ++ [.lst [stC rm h (c00 rm) []]]) :=
    ⟨⟨at_keep A6 k8, l8, by omega, by omega, fun q hq => by rw [List.mem_singleton.mp hq]; exact begun_tw R, k8.2 (k6.2 n5)⟩, P8, by omega, by omega, by omega⟩
  have la9 := la8.dr (Dr.chg c9)
  obtain ⟨b, ks', rfl⟩ : ∃ b ks', ks = b :: ks' := by
    cases ks with
    | nil => exact absurd k0 (Nat.lt_irrefl 0)
    | cons b ks => exact ⟨b, ks, rfl⟩
  have q6 : c6 (lR (some (.ro (ns.map D.int))) (some (.int j)) K (b :: ks') rm h s5.length s7.length (10 + m) x9 x10 x11 x12) s9 = .nx (lR (some (.ro (ns.map D.int))) (some (.int j)) K (b :: ks') rm h s5.length s7.length (10 + m) (some (.lst ([Dd.lay b 0 0, .lay ("q", 1990, 37) 0 0, .bind [0, 1], .dset 1 (.int 5) (.str "")].map Dd.d))) x10 x11 x12) s9 := by
    have e : dTup (dCons (dC (.str "lay")) (dCons (dIx (dVar 3) (dC (.int 0))) (dCons (dC (.int 0)) (dCons (dC (.int 0)) dNil)))) (lR (some (.ro (ns.map D.int))) (some (.int j)) K (b :: ks') rm h s5.length s7.length (10 + m) x9 x10 x11 x12) s9 = .ok (Dd.lay b 0 0).d s9 :=
      ev_tup (xs := [.str "lay", kD b, I 0, I 0]) (ev_cons (s1 := s9) rfl (ev_cons (s1 := s9) (ev_ix (x := .lst ((b :: ks').map kD)) (y := .int 0) (s1 := s9) rfl rfl (ix_lst (i := 0) rfl)) rfl)) (show 4 ≤ 100000 by decide)
    exact ex_set (i := 9) (ev_lst (ev_cons e rfl) (show 4 ≤ 100000 by decide))
  have oks : ∀ d ∈ [Dd.lay b 0 0, .lay ("q", 1990, 37) 0 0, .bind [0, 1], .dset 1 (.int 5) (.str "")], d.ok := by
    intro d hd
    simp only [List.mem_cons, List.not_mem_nil, or_false] at hd
    rcases hd with rfl | rfl | rfl | rfl
    · exact ⟨kok_ks (hk b List.mem_cons_self), by decide, by decide⟩
    · exact ⟨⟨⟨fun st => by kernel_rfl, by decide, by decide, fun st => by kernel_rfl⟩, by kernel_rfl, by decide, by decide⟩, by decide, by decide⟩
    · exact ⟨by decide, by decide⟩
    · exact ⟨by decide, .inl ⟨5, by decide, by decide, rfl⟩, by simp [whos]⟩
  obtain ⟨z, s10, z1, e10, c10⟩ := draw (v := 2) (ρ := lR (some (.ro (ns.map D.int))) (some (.int j)) K (b :: ks') rm h s5.length s7.length (10 + m) (some (.lst ([Dd.lay b 0 0, .lay ("q", 1990, 37) 0 0, .bind [0, 1], .dset 1 (.int 5) (.str "")].map Dd.d))) x10 x11 x12) (e := dC (.int 2)) (far := 2) la9.pot rfl rfl (by decide) (by decide)
  have la10 := la9.dr (Dr.chg c10)
  have tt := ev_asB (ev_op (b := dC (.int 0)) e10 (y := I 0) (s2 := s10) rfl (eq_I z 0))
  obtain ⟨qs, c, S, y10, s11, q7, la11, l11⟩ : ∃ qs c S y10 s11, c7 (lR (some (.ro (ns.map D.int))) (some (.int j)) K (b :: ks') rm h s5.length s7.length (10 + m) (some (.lst ([Dd.lay b 0 0, .lay ("q", 1990, 37) 0 0, .bind [0, 1], .dset 1 (.int 5) (.str "")].map Dd.d))) x10 x11 x12) s9 = .nx (lR (some (.ro (ns.map D.int))) (some (.int j)) K (b :: ks') rm h s5.length s7.length (10 + m) (some (.lst ([Dd.lay b 0 0, .lay ("q", 1990, 37) 0 0, .bind [0, 1], .dset 1 (.int 5) (.str "")].map Dd.d))) y10 x11 x12) s11 ∧ La K s5.length (s5.length + 1) s7.length rm h qs c S s11 ∧ qs.length ≤ 4 := by
    by_cases hz : z = 0
    · rw [decide_eq_true hz] at tt
      obtain ⟨qs, c, S, y10, s11, e, la, hl⟩ := ahead_loop (ks := b :: ks') (x0 := some (.ro (ns.map D.int))) (x1 := some (.int j)) (many := 10 + m) (x9 := some (.lst ([Dd.lay b 0 0, .lay ("q", 1990, 37) 0 0, .bind [0, 1], .dset 1 (.int 5) (.str "")].map Dd.d))) (x11 := x11) (x12 := x12) _ _ _ _ x10 s10 oks la10 (by simp)
      exact ⟨qs, c, S, y10, s11, ex_forL (ev_ite tt rfl) e, la, hl⟩
    · rw [decide_eq_false hz] at tt
      exact ⟨[], c00 rm, [], x10, s10, ex_forL (s1 := s10) (xs := []) (ev_ite tt rfl) rfl, la10, by decide⟩
  obtain ⟨ρ', s12, e12, ⟨qs', c', S', y11, y12, rfl, la12, _⟩⟩ := forL_upto (g := g1 11) (b := turnB) (pre := []) (ds := (List.range (10 + m)).map I) (ρ := lR (some (.ro (ns.map D.int))) (some (.int j)) K (b :: ks') rm h s5.length s7.length (10 + m) (some (.lst ([Dd.lay b 0 0, .lay ("q", 1990, 37) 0 0, .bind [0, 1], .dset 1 (.int 5) (.str "")].map Dd.d))) y10 x11 x12) (st := s11)
    (I := fun pre r ρ s => ∃ qs c S y11 y12, ρ = lR (some (.ro (ns.map D.int))) (some (.int j)) K (b :: ks') rm h s5.length s7.length (10 + m) (some (.lst ([Dd.lay b 0 0, .lay ("q", 1990, 37) 0 0, .bind [0, 1], .dset 1 (.int 5) (.str "")].map Dd.d))) y10 y11 y12 ∧ La K s5.length (s5.length + 1) s7.length rm h qs c S s ∧ qs.length ≤ 4 + pre.length ∧ pre.length + r.length ≤ 40 ∧ ∀ d ∈ r, ∃ n : Nat, d = I n)
    (fun pre d r ρ s hI => by
      obtain ⟨qs, c, S, y11, y12, rfl, la, hl, hp, hr⟩ := hI
      rw [List.length_cons] at hp
      obtain ⟨n, rfl⟩ := hr d List.mem_cons_self
      obtain ⟨qs', c', S', z12, s', e, la', hl'⟩ := turn_d (x0 := some (.ro (ns.map D.int))) (x1 := some (.int j)) (many := 10 + m) (x9 := some (.lst ([Dd.lay b 0 0, .lay ("q", 1990, 37) 0 0, .bind [0, 1], .dset 1 (.int 5) (.str "")].map Dd.d))) (x10 := y10) (x12 := y12) (n := n) la R (by omega) k0 k1 hk
      exact ⟨_, rfl, _, s', e, qs', c', S', _, z12, rfl, la', by rw [List.length_append, List.length_singleton]; omega, by rw [List.length_append, List.length_singleton]; omega, fun x hx => hr x (List.mem_cons_of_mem _ hx)⟩)
    ⟨qs, c, S, x11, x12, rfl, la11, l11, by rw [List.length_map, List.length_range]; simp only [List.length_nil]; omega, fun d hd => by obtain ⟨n, _, rfl⟩ := List.mem_map.mp hd; exact ⟨n, rfl⟩⟩
  rw [← range_I] at e12
  have q8 : c8 (lR (some (.ro (ns.map D.int))) (some (.int j)) K (b :: ks') rm h s5.length s7.length (10 + m) (some (.lst ([Dd.lay b 0 0, .lay ("q", 1990, 37) 0 0, .bind [0, 1], .dset 1 (.int 5) (.str "")].map Dd.d))) y10 x11 x12) s11 = _ := ex_forR1 (j := ((10 + m : Nat) : Int)) rfl (big_I (by omega)).1 e12
  exact ⟨_, _, _, _, _, _, _, _, _, _, _, s12, ex_seq q1 (ex_seq q2 (ex_seq q3 (ex_seq q4 (ex_seq q5 (ex_seq q6 (ex_seq q7 q8)))))), la12.sn.ne⟩
theorem cells_ev (hn : ns.length ≤ 63) {tl : Rho} {s : Store} : ∃ j : Nat, cellsE (some (.ro (ns.map D.int)) :: tl) s = .ok [.int (j : Nat)] s ∧ j ≤ 100 := by
  have ln : dCB (orB (one gLen) (one gLenK)) (dCons (dVar 0) dNil) (some (.ro (ns.map D.int)) :: tl) s = .ok (.int ns.length) s := ev_lenO (x := .ro (ns.map D.int)) rfl (by unfold gLen itemsOf; simp)
  have a := ev_two2 (f := fun i j => if j < i then j else i) (h := one (gBest PySem.W.minD)) (i := ns.length) (j := 2) (r := dCons (dCB (orB (one gLen) (one gLenK)) (dCons (dVar 0) dNil)) (dCons (dC (.int 2)) dNil)) (ev_cons ln rfl)
  have b := ev_two2 (f := fun i j => if j > i then j else i) (h := one (gBest PySem.W.maxD)) (i := 1) (j := if 2 < (ns.length : Int) then 2 else ns.length) (r := dCons (dC (.int 1)) (dCons (dCB (orB (two fun i j => if j < i then j else i) (one (gBest PySem.W.minD))) (dCons (dCB (orB (one gLen) (one gLenK)) (dCons (dVar 0) dNil)) (dCons (dC (.int 2)) dNil))) dNil)) (ev_cons rfl (ev_cons a rfl))
  generalize hz : (if (if 2 < (ns.length : Int) then 2 else (ns.length : Int)) > 1 then (if 2 < (ns.length : Int) then 2 else (ns.length : Int)) else 1) = z at b
  have z0 : 1 ≤ z ∧ z ≤ 2 := by
    rw [← hz]
    split <;> split at * <;> omega
  obtain ⟨j, rfl⟩ : ∃ j : Nat, z = (j : Int) := ⟨z.toNat, by omega⟩
  exact ⟨j, ev_cons b rfl, by omega⟩
theorem mirror (ns : List Int) (hn : ns.length ≤ 63) : ∃ st, f_law [.ro (ns.map D.int)] [] = .ok (.bl true) st := by
  obtain ⟨n, e1, hb⟩ := cells_ev hn (tl := [none, none, none, none, none, none, none, none, none, none, none, none]) (s := [])
  obtain ⟨ρ', s', e2, x1, x2, x3, x4, x5, x6, x7, x8, x9, x10, x11, x12, rfl, _⟩ := forL_inv (g := g1 1) (b := cellB) (I := fun ρ s => ∃ x1 x2 x3 x4 x5 x6 x7 x8 x9 x10 x11 x12, ρ = [some (.ro (ns.map D.int)), x1, x2, x3, x4, x5, x6, x7, x8, x9, x10, x11, x12] ∧ noES s = true) (ds := rangeD 0 ((n : Nat) : Int).toNat) (ρ := [some (.ro (ns.map D.int)), none, none, none, none, none, none, none, none, none, none, none, none]) (st := [])
    (fun d hd ρ s ⟨x1, x2, x3, x4, x5, x6, x7, x8, x9, x10, x11, x12, e, n0⟩ => by
      subst e
      obtain ⟨i, _, rfl⟩ := mem_range hd
      rw [Int.zero_add]
      obtain ⟨y2, y3, y4, y5, y6, y7, y8, y9, y10, y11, y12, s', q, n1⟩ := cell_turn (ns := ns) (j := i) (x2 := x2) (x3 := x3) (x4 := x4) (x5 := x5) (x6 := x6) (x7 := x7) (x8 := x8) (x9 := x9) (x10 := x10) (x11 := x11) (x12 := x12) n0
      exact ⟨_, rfl, _, s', q, _, y2, y3, y4, y5, y6, y7, y8, y9, y10, y11, y12, rfl, n1⟩)
    ⟨none, none, none, none, none, none, none, none, none, none, none, none, rfl, rfl⟩
  have q : sForR1 cellsE (g1 1) cellB [some (.ro (ns.map D.int)), none, none, none, none, none, none, none, none, none, none, none, none] [] = .nx [some (.ro (ns.map D.int)), x1, x2, x3, x4, x5, x6, x7, x8, x9, x10, x11, x12] s' := ex_forR1 e1 (big_I (by omega)).1 e2
  exact ⟨s', Den.run (N := 13) (n := 1) (m := m_law) (r := .ret (.bl true) s') rfl (ex_seq q rfl) rfl⟩
end
end K11
set_option maxRecDepth 100000
set_option maxHeartbeats 1000000
namespace K11
open PySem PySem.Spec PyProof.Rows L2 Den Cel Ste
theorem ok__law_word {w : World} {T : Txt} {mg : Str → Option Value} {base : Heap} (Z : Facts T mg) (l : Lk T 70 "_law_word" "_law_word" st__law_word) (hg : mg "_law_word" = some (.ref (T.fa 70))) : DefH P w T mg base 1 70 "_law_word" ["_law_e"] f__law_word := by
  refine defH_of (m := m__law_word) (k := 0) (N := ["_law_e", "_law_some", "_law_good", "_law_words"]) (ps := ["_law_e"]) (st := st__law_word) l hg sc__law_word (fun _ _ _ _ _ _ us hl => match us, hl with | [_], _ => rfl) fun cdv A outer s H E p c d hh hu => ?_
  exact (pds_cons (pds_set (i := 1) sc__law_word.nd rfl (by first | exact Or.inl rfl | exact Or.inr rfl) (pd_lst (pda_cons (pd_blt (blt_isHA hh Z.held Z.isTE) (by rfl) Z.b_isinstance rfl (pda_cons (pd_var (i := 0) rfl (by first | exact Or.inl rfl | exact Or.inr (Or.inl rfl) | exact Or.inr (Or.inr rfl))) (pda_cons (pd_cl (c := 2) Z.c_NoMaker (by rfl)) pda_nil))) (pda_cons (pd_blt (blt_isHA hh Z.held Z.isTE) (by rfl) Z.b_isinstance rfl (pda_cons (pd_var (i := 0) rfl (by first | exact Or.inl rfl | exact Or.inr (Or.inl rfl) | exact Or.inr (Or.inr rfl))) (pda_cons (pd_cl (c := 3) Z.c_NoYear (by rfl)) pda_nil))) (pda_cons (pd_blt (blt_isHA hh Z.held Z.isTE) (by rfl) Z.b_isinstance rfl (pda_cons (pd_var (i := 0) rfl (by first | exact Or.inl rfl | exact Or.inr (Or.inl rfl) | exact Or.inr (Or.inr rfl))) (pda_cons (pd_cl (c := 4) Z.c_NoSize (by rfl)) pda_nil))) (pda_cons (pd_blt (blt_isHA hh Z.held Z.isTE) (by rfl) Z.b_isinstance rfl (pda_cons (pd_var (i := 0) rfl (by first | exact Or.inl rfl | exact Or.inr (Or.inl rfl) | exact Or.inr (Or.inr rfl))) (pda_cons (pd_cl (c := 5) Z.c_NoBottle (by rfl)) pda_nil))) pda_nil))))))
    (pds_cons (pds_set (i := 1) sc__law_word.nd rfl (by first | exact Or.inl rfl | exact Or.inr rfl) (pd_add (pd_var (i := 1) rfl (by first | exact Or.inl rfl | exact Or.inr (Or.inl rfl) | exact Or.inr (Or.inr rfl))) (pd_lst (pda_cons (pd_blt (blt_isHA hh Z.held Z.isTE) (by rfl) Z.b_isinstance rfl (pda_cons (pd_var (i := 0) rfl (by first | exact Or.inl rfl | exact Or.inr (Or.inl rfl) | exact Or.inr (Or.inr rfl))) (pda_cons (pd_cl (c := 6) Z.c_NoBottles (by rfl)) pda_nil))) (pda_cons (pd_blt (blt_isHA hh Z.held Z.isTE) (by rfl) Z.b_isinstance rfl (pda_cons (pd_var (i := 0) rfl (by first | exact Or.inl rfl | exact Or.inr (Or.inl rfl) | exact Or.inr (Or.inr rfl))) (pda_cons (pd_cl (c := 7) Z.c_NoRooms (by rfl)) pda_nil))) (pda_cons (pd_blt (blt_isHA hh Z.held Z.isTE) (by rfl) Z.b_isinstance rfl (pda_cons (pd_var (i := 0) rfl (by first | exact Or.inl rfl | exact Or.inr (Or.inl rfl) | exact Or.inr (Or.inr rfl))) (pda_cons (pd_cl (c := 8) Z.c_NoHold (by rfl)) pda_nil))) (pda_cons (pd_blt (blt_isHA hh Z.held Z.isTE) (by rfl) Z.b_isinstance rfl (pda_cons (pd_var (i := 0) rfl (by first | exact Or.inl rfl | exact Or.inr (Or.inl rfl) | exact Or.inr (Or.inr rfl))) (pda_cons (pd_cl (c := 9) Z.c_NoMonth (by rfl)) pda_nil))) pda_nil)))))))
    (pds_cons (pds_set (i := 1) sc__law_word.nd rfl (by first | exact Or.inl rfl | exact Or.inr rfl) (pd_add (pd_var (i := 1) rfl (by first | exact Or.inl rfl | exact Or.inr (Or.inl rfl) | exact Or.inr (Or.inr rfl))) (pd_lst (pda_cons (pd_blt (blt_isHA hh Z.held Z.isTE) (by rfl) Z.b_isinstance rfl (pda_cons (pd_var (i := 0) rfl (by first | exact Or.inl rfl | exact Or.inr (Or.inl rfl) | exact Or.inr (Or.inr rfl))) (pda_cons (pd_cl (c := 10) Z.c_NoWho (by rfl)) pda_nil))) (pda_cons (pd_blt (blt_isHA hh Z.held Z.isTE) (by rfl) Z.b_isinstance rfl (pda_cons (pd_var (i := 0) rfl (by first | exact Or.inl rfl | exact Or.inr (Or.inl rfl) | exact Or.inr (Or.inr rfl))) (pda_cons (pd_cl (c := 11) Z.c_NoSet (by rfl)) pda_nil))) (pda_cons (pd_blt (blt_isHA hh Z.held Z.isTE) (by rfl) Z.b_isinstance rfl (pda_cons (pd_var (i := 0) rfl (by first | exact Or.inl rfl | exact Or.inr (Or.inl rfl) | exact Or.inr (Or.inr rfl))) (pda_cons (pd_cl (c := 12) Z.c_NoDeed (by rfl)) pda_nil))) (pda_cons (pd_blt (blt_isHA hh Z.held Z.isTE) (by rfl) Z.b_isinstance rfl (pda_cons (pd_var (i := 0) rfl (by first | exact Or.inl rfl | exact Or.inr (Or.inl rfl) | exact Or.inr (Or.inr rfl))) (pda_cons (pd_cl (c := 13) Z.c_NoWishes (by rfl)) pda_nil))) pda_nil)))))))
    (pds_cons (pds_set (i := 1) sc__law_word.nd rfl (by first | exact Or.inl rfl | exact Or.inr rfl) (pd_add (pd_var (i := 1) rfl (by first | exact Or.inl rfl | exact Or.inr (Or.inl rfl) | exact Or.inr (Or.inr rfl))) (pd_lst (pda_cons (pd_blt (blt_isHA hh Z.held Z.isTE) (by rfl) Z.b_isinstance rfl (pda_cons (pd_var (i := 0) rfl (by first | exact Or.inl rfl | exact Or.inr (Or.inl rfl) | exact Or.inr (Or.inr rfl))) (pda_cons (pd_cl (c := 14) Z.c_NoLine (by rfl)) pda_nil))) (pda_cons (pd_blt (blt_isHA hh Z.held Z.isTE) (by rfl) Z.b_isinstance rfl (pda_cons (pd_var (i := 0) rfl (by first | exact Or.inl rfl | exact Or.inr (Or.inl rfl) | exact Or.inr (Or.inr rfl))) (pda_cons (pd_cl (c := 15) Z.c_NoNumber (by rfl)) pda_nil))) (pda_cons (pd_blt (blt_isHA hh Z.held Z.isTE) (by rfl) Z.b_isinstance rfl (pda_cons (pd_var (i := 0) rfl (by first | exact Or.inl rfl | exact Or.inr (Or.inl rfl) | exact Or.inr (Or.inr rfl))) (pda_cons (pd_cl (c := 16) Z.c_NoPlace (by rfl)) pda_nil))) (pda_cons (pd_blt (blt_isHA hh Z.held Z.isTE) (by rfl) Z.b_isinstance rfl (pda_cons (pd_var (i := 0) rfl (by first | exact Or.inl rfl | exact Or.inr (Or.inl rfl) | exact Or.inr (Or.inr rfl))) (pda_cons (pd_cl (c := 17) Z.c_TooMany (by rfl)) pda_nil))) pda_nil)))))))
    (pds_cons (pds_set (i := 1) sc__law_word.nd rfl (by first | exact Or.inl rfl | exact Or.inr rfl) (pd_add (pd_var (i := 1) rfl (by first | exact Or.inl rfl | exact Or.inr (Or.inl rfl) | exact Or.inr (Or.inr rfl))) (pd_lst (pda_cons (pd_blt (blt_isHA hh Z.held Z.isTE) (by rfl) Z.b_isinstance rfl (pda_cons (pd_var (i := 0) rfl (by first | exact Or.inl rfl | exact Or.inr (Or.inl rfl) | exact Or.inr (Or.inr rfl))) (pda_cons (pd_cl (c := 18) Z.c_NoText (by rfl)) pda_nil))) (pda_cons (pd_blt (blt_isHA hh Z.held Z.isTE) (by rfl) Z.b_isinstance rfl (pda_cons (pd_var (i := 0) rfl (by first | exact Or.inl rfl | exact Or.inr (Or.inl rfl) | exact Or.inr (Or.inr rfl))) (pda_cons (pd_cl (c := 21) Z.c_Full (by rfl)) pda_nil))) (pda_cons (pd_blt (blt_isHA hh Z.held Z.isTE) (by rfl) Z.b_isinstance rfl (pda_cons (pd_var (i := 0) rfl (by first | exact Or.inl rfl | exact Or.inr (Or.inl rfl) | exact Or.inr (Or.inr rfl))) (pda_cons (pd_cl (c := 22) Z.c_Gone (by rfl)) pda_nil))) (pda_cons (pd_blt (blt_isHA hh Z.held Z.isTE) (by rfl) Z.b_isinstance rfl (pda_cons (pd_var (i := 0) rfl (by first | exact Or.inl rfl | exact Or.inr (Or.inl rfl) | exact Or.inr (Or.inr rfl))) (pda_cons (pd_cl (c := 23) Z.c_Kept (by rfl)) pda_nil))) pda_nil)))))))
    (pds_cons (pds_set (i := 2) sc__law_word.nd rfl (by first | exact Or.inl rfl | exact Or.inr rfl) (pd_ite (pdt_truth (pd_blt (blt_isHA hh Z.held Z.isTE) (by rfl) Z.b_isinstance rfl (pda_cons (pd_var (i := 0) rfl (by first | exact Or.inl rfl | exact Or.inr (Or.inl rfl) | exact Or.inr (Or.inr rfl))) (pda_cons (pd_cl (c := 19) Z.c_CellarError (by rfl)) pda_nil)))) (pd_blt (blt_isHA hh Z.held Z.isTE) (by rfl) Z.b_isinstance rfl (pda_cons (pd_var (i := 0) rfl (by first | exact Or.inl rfl | exact Or.inr (Or.inl rfl) | exact Or.inr (Or.inr rfl))) (pda_cons (pd_bt (n := "ValueError") rfl Z.b_ValueError (by rfl)) pda_nil))) (pd_blt (blt_isHA hh Z.held Z.isTE) (by rfl) Z.b_isinstance rfl (pda_cons (pd_var (i := 0) rfl (by first | exact Or.inl rfl | exact Or.inr (Or.inl rfl) | exact Or.inr (Or.inr rfl))) (pda_cons (pd_bt (n := "LookupError") rfl Z.b_LookupError (by rfl)) pda_nil)))))
    (pds_cons (pds_if (pdt_w (pdw_or (pdt_cmp (cmp_ne hu) (pd_bm mt_countD (pd_var (i := 1) rfl (by first | exact Or.inl rfl | exact Or.inr (Or.inl rfl) | exact Or.inr (Or.inr rfl))) (pda_cons pd_bl pda_nil)) pd_int (by rfl)) (pdw_or (pdt_cmp (cmp_eq hu) (pd_blt (blt_isHA hh Z.held Z.isTE) (by rfl) Z.b_isinstance rfl (pda_cons (pd_var (i := 0) rfl (by first | exact Or.inl rfl | exact Or.inr (Or.inl rfl) | exact Or.inr (Or.inr rfl))) (pda_cons (pd_cl (c := 19) Z.c_CellarError (by rfl)) pda_nil))) (pd_blt (blt_isHA hh Z.held Z.isTE) (by rfl) Z.b_isinstance rfl (pda_cons (pd_var (i := 0) rfl (by first | exact Or.inl rfl | exact Or.inr (Or.inl rfl) | exact Or.inr (Or.inr rfl))) (pda_cons (pd_cl (c := 20) Z.c_HereError (by rfl)) pda_nil))) (by rfl)) (pdw_or1 (pdt_not (pdt_truth (pd_var (i := 2) rfl (by first | exact Or.inl rfl | exact Or.inr (Or.inl rfl) | exact Or.inr (Or.inr rfl))))))))) (pds_one (pds_ret (pd_tup (pda_cons pd_str pda_nil)))) pds_nil)
    (pds_cons (pds_if (pdt_truth (pd_blt (blt_isHA hh Z.held Z.isTE) (by rfl) Z.b_isinstance rfl (pda_cons (pd_var (i := 0) rfl (by first | exact Or.inl rfl | exact Or.inr (Or.inl rfl) | exact Or.inr (Or.inr rfl))) (pda_cons (pd_cl (c := 17) Z.c_TooMany (by rfl)) pda_nil)))) (pds_one (pds_ret (pd_tup (pda_cons pd_str (pda_cons (pd_fldX (i := 0) hh Z.r_TooMany (by rw [Z.f_TooMany]; decide +kernel) (by rw [Z.f_TooMany]; rfl) (pd_var (i := 0) rfl (by first | exact Or.inl rfl | exact Or.inr (Or.inl rfl) | exact Or.inr (Or.inr rfl)))) (pda_cons (pd_fldX (i := 1) hh Z.r_TooMany (by rw [Z.f_TooMany]; decide +kernel) (by rw [Z.f_TooMany]; rfl) (pd_var (i := 0) rfl (by first | exact Or.inl rfl | exact Or.inr (Or.inl rfl) | exact Or.inr (Or.inr rfl)))) pda_nil)))))) pds_nil)
    (pds_cons (pds_if (pdt_truth (pd_blt (blt_isHA hh Z.held Z.isTE) (by rfl) Z.b_isinstance rfl (pda_cons (pd_var (i := 0) rfl (by first | exact Or.inl rfl | exact Or.inr (Or.inl rfl) | exact Or.inr (Or.inr rfl))) (pda_cons (pd_cl (c := 18) Z.c_NoText (by rfl)) pda_nil)))) (pds_one (pds_ret (pd_tup (pda_cons pd_str (pda_cons pd_bad pda_nil))))) pds_nil)
    (pds_cons (pds_if (pdt_truth (pd_blt (blt_isHA hh Z.held Z.isTE) (by rfl) Z.b_isinstance rfl (pda_cons (pd_var (i := 0) rfl (by first | exact Or.inl rfl | exact Or.inr (Or.inl rfl) | exact Or.inr (Or.inr rfl))) (pda_cons (pd_cl (c := 21) Z.c_Full (by rfl)) pda_nil)))) (pds_one (pds_ret (pd_tup (pda_cons pd_str (pda_cons (pd_fldX (i := 0) hh Z.r_Full (by rw [Z.f_Full]; decide +kernel) (by rw [Z.f_Full]; rfl) (pd_var (i := 0) rfl (by first | exact Or.inl rfl | exact Or.inr (Or.inl rfl) | exact Or.inr (Or.inr rfl)))) (pda_cons (pd_fldX (i := 1) hh Z.r_Full (by rw [Z.f_Full]; decide +kernel) (by rw [Z.f_Full]; rfl) (pd_var (i := 0) rfl (by first | exact Or.inl rfl | exact Or.inr (Or.inl rfl) | exact Or.inr (Or.inr rfl)))) pda_nil)))))) pds_nil)
    (pds_cons (pds_if (pdt_truth (pd_blt (blt_isHA hh Z.held Z.isTE) (by rfl) Z.b_isinstance rfl (pda_cons (pd_var (i := 0) rfl (by first | exact Or.inl rfl | exact Or.inr (Or.inl rfl) | exact Or.inr (Or.inr rfl))) (pda_cons (pd_cl (c := 22) Z.c_Gone (by rfl)) pda_nil)))) (pds_one (pds_ret (pd_tup (pda_cons pd_str (pda_cons (pd_fldX (i := 0) hh Z.r_Gone (by rw [Z.f_Gone]; decide +kernel) (by rw [Z.f_Gone]; rfl) (pd_var (i := 0) rfl (by first | exact Or.inl rfl | exact Or.inr (Or.inl rfl) | exact Or.inr (Or.inr rfl)))) (pda_cons (pd_fldX (i := 1) hh Z.r_Gone (by rw [Z.f_Gone]; decide +kernel) (by rw [Z.f_Gone]; rfl) (pd_var (i := 0) rfl (by first | exact Or.inl rfl | exact Or.inr (Or.inl rfl) | exact Or.inr (Or.inr rfl)))) pda_nil)))))) pds_nil)
    (pds_cons (pds_if (pdt_truth (pd_blt (blt_isHA hh Z.held Z.isTE) (by rfl) Z.b_isinstance rfl (pda_cons (pd_var (i := 0) rfl (by first | exact Or.inl rfl | exact Or.inr (Or.inl rfl) | exact Or.inr (Or.inr rfl))) (pda_cons (pd_cl (c := 23) Z.c_Kept (by rfl)) pda_nil)))) (pds_one (pds_ret (pd_tup (pda_cons pd_str (pda_cons (pd_fldX (i := 0) hh Z.r_Kept (by rw [Z.f_Kept]; decide +kernel) (by rw [Z.f_Kept]; rfl) (pd_var (i := 0) rfl (by first | exact Or.inl rfl | exact Or.inr (Or.inl rfl) | exact Or.inr (Or.inr rfl)))) (pda_cons (pd_fldX (i := 1) hh Z.r_Kept (by rw [Z.f_Kept]; decide +kernel) (by rw [Z.f_Kept]; rfl) (pd_var (i := 0) rfl (by first | exact Or.inl rfl | exact Or.inr (Or.inl rfl) | exact Or.inr (Or.inr rfl)))) pda_nil)))))) pds_nil)
    (pds_cons (pds_set (i := 3) sc__law_word.nd rfl (by first | exact Or.inl rfl | exact Or.inr rfl) (pd_lst (pda_cons pd_str (pda_cons pd_str (pda_cons pd_str (pda_cons pd_str (pda_cons pd_str (pda_cons pd_str (pda_cons pd_str (pda_cons pd_str (pda_cons pd_str (pda_cons pd_str (pda_cons pd_str (pda_cons pd_str pda_nil))))))))))))))
    (pds_one (pds_ret (pd_tup (pda_cons (pd_ix (pd_add (pd_var (i := 3) rfl (by first | exact Or.inl rfl | exact Or.inr (Or.inl rfl) | exact Or.inr (Or.inr rfl))) (pd_lst (pda_cons pd_str (pda_cons pd_str (pda_cons pd_str pda_nil))))) (pd_bm mt_indexD' (pd_var (i := 1) rfl (by first | exact Or.inl rfl | exact Or.inr (Or.inl rfl) | exact Or.inr (Or.inr rfl))) (pda_cons pd_bl pda_nil))) pda_nil)))))))))))))))))
theorem ok_Cellar_smash {w : World} {T : Txt} {mg : Str → Option Value} {base : Heap} (Z : Facts T mg) (D__put : Def P w T mg base 1 12 "_put" ["told", "numbers", "worth"] f__put) (D_is_month : Def P w T mg base 3 2 "is_month" ["thing"] f_is_month) (N_Cellar__check_lies : DefM P w T mg base 5 1 25 "_check_lies" f_Cellar__check_lies ways_Cellar__check_lies) (N_Cellar__keep : DefM P w T mg base 2 1 21 "_keep" f_Cellar__keep ways_Cellar__keep) (N_Cellar__leave : DefM P w T mg base 2 1 29 "_leave" f_Cellar__leave ways_Cellar__leave) (N_Cellar__others_of : DefM P w T mg base 1 1 26 "_others_of" f_Cellar__others_of ways_Cellar__others_of) (l : LkD T 35 "smash" "Cellar.smash" st_Cellar_smash []) (me : Meth T.K (T.ca 1) "smash" (T.fa 35)) : DefM P w T mg base 6 1 35 "smash" f_Cellar_smash ways_Cellar_smash := by
  refine defM_of (c := 1) (nm := "smash") (m := m_Cellar_smash) (k := 5) (N := ["self", "number", "month", "others"]) (ps := ["self", "number", "month"]) (st := st_Cellar_smash) l me sc_Cellar_smash (fun fd F z hz => ?_) fun cdv A outer s H E xp ft po => ?_
  · skip
    rcases List.mem_cons.mp hz with hz | hz
    · subst hz
      refine bd_nod (g := fun {α} us ws => gg_Cellar_smash_1_month us [] ws) F (fun r q => r.append ((q.drop 0).take 1)) (fun _ _ _ _ _ _ _ r q => r.append ((q.drop 0).take 1)) (fun vs zs h1 h2 => by unfold gg_Cellar_smash_1_month; simp [h1, h2]) ?_
      intro kV doc pm an cdv ct us ws h1 h3
      match us, ws, h1, h3 with
      | [_, _], [_], _, _ => rfl
    exact absurd hz List.not_mem_nil
  · exact (pds_cons (pds_drop (pd_methM Z.i_Cellar (by rw [Z.f_Cellar]; decide) N_Cellar__check_lies List.mem_cons_self (ft.mono (by decide)) (pd_var (i := 0) rfl (by first | exact Or.inl rfl | exact Or.inr (Or.inl rfl) | exact Or.inr (Or.inr rfl))) (pda_cons (pd_var (i := 1) rfl (by first | exact Or.inl rfl | exact Or.inr (Or.inl rfl) | exact Or.inr (Or.inr rfl))) pda_nil) pdk_nil))
    (pds_cons (pds_if (pdt_not (pdt_truth (pd_callA D_is_month (ft.mono (by decide)) (by rfl) (pda_cons (pd_var (i := 2) rfl (by first | exact Or.inl rfl | exact Or.inr (Or.inl rfl) | exact Or.inr (Or.inr rfl))) pda_nil)))) (pds_one (pds_raise rfl ft.tk Z.e_NoMonth Z.c_NoMonth (by rfl))) pds_nil)
    (pds_cons (pds_set (i := 3) sc_Cellar_smash.nd rfl (by first | exact Or.inl rfl | exact Or.inr rfl) (pd_methM Z.i_Cellar (by rw [Z.f_Cellar]; decide) N_Cellar__others_of List.mem_cons_self (ft.mono (by decide)) (pd_var (i := 0) rfl (by first | exact Or.inl rfl | exact Or.inr (Or.inl rfl) | exact Or.inr (Or.inr rfl))) (pda_cons (pd_var (i := 1) rfl (by first | exact Or.inl rfl | exact Or.inr (Or.inl rfl) | exact Or.inr (Or.inr rfl))) pda_nil) pdk_nil))
    (pds_cons (pds_drop (pd_methM0 Z.i_Cellar (by rw [Z.f_Cellar]; decide) N_Cellar__keep List.mem_cons_self (ft.mono (by decide)) (pd_var (i := 0) rfl (by first | exact Or.inl rfl | exact Or.inr (Or.inl rfl) | exact Or.inr (Or.inr rfl)))  pdk_nil))
    (pds_cons (pds_drop (pd_methM Z.i_Cellar (by rw [Z.f_Cellar]; decide) N_Cellar__leave List.mem_cons_self (ft.mono (by decide)) (pd_var (i := 0) rfl (by first | exact Or.inl rfl | exact Or.inr (Or.inl rfl) | exact Or.inr (Or.inr rfl))) (pda_cons (pd_tup (pda_cons (pd_var (i := 1) rfl (by first | exact Or.inl rfl | exact Or.inr (Or.inl rfl) | exact Or.inr (Or.inr rfl))) pda_nil)) (pda_cons (pd_tup (pda_cons pd_str (pda_cons (pd_var (i := 2) rfl (by first | exact Or.inl rfl | exact Or.inr (Or.inl rfl) | exact Or.inr (Or.inr rfl))) pda_nil))) pda_nil)) pdk_nil))
    (pds_one (pds_setF (i := 5) Z.i_Cellar (by rw [Z.f_Cellar]; rfl) (pd_var (i := 0) rfl (by first | exact Or.inl rfl | exact Or.inr (Or.inl rfl) | exact Or.inr (Or.inr rfl))) (pd_callA D__put (ft.mono (by decide)) (by rfl) (pda_cons (pd_fld (i := 5) Z.i_Cellar (by rw [Z.f_Cellar]; rfl) (pd_var (i := 0) rfl (by first | exact Or.inl rfl | exact Or.inr (Or.inl rfl) | exact Or.inr (Or.inr rfl)))) (pda_cons (pd_var (i := 3) rfl (by first | exact Or.inl rfl | exact Or.inr (Or.inl rfl) | exact Or.inr (Or.inr rfl))) (pda_cons (pd_var (i := 3) rfl (by first | exact Or.inl rfl | exact Or.inr (Or.inl rfl) | exact Or.inr (Or.inr rfl))) pda_nil)))))))))))
theorem ok_is_rising {w : World} {T : Txt} {mg : Str → Option Value} {base : Heap} (Z : Facts T mg) (D_is_whole : Def P w T mg base 1 0 "is_whole" ["thing"] f_is_whole) (l : Lk T 6 "is_rising" "is_rising" st_is_rising) (hg : mg "is_rising" = some (.ref (T.fa 6))) : Def P w T mg base 2 6 "is_rising" ["thing", "least", "most"] f_is_rising := by
  refine defD_of (m := m_is_rising) (k := 1) (N := ["thing", "least", "most", "number", "at"]) (ps := ["thing", "least", "most"]) (st := st_is_rising) l hg sc_is_rising (fun _ _ _ _ _ _ us hl => match us, hl with | [_, _, _], _ => rfl) fun cdv A outer s H E xp ft po => ?_
  exact (pds_cons (pds_if (pdt_w (pdw_or (pdt_not (pdt_truth (pd_blt (blt_isi Z.own Z.isT) (by rfl) Z.b_isinstance rfl (pda_cons (pd_var (i := 0) rfl (by first | exact Or.inl rfl | exact Or.inr (Or.inl rfl) | exact Or.inr (Or.inr rfl))) (pda_cons (pd_bt (n := "tuple") rfl Z.b_tuple (by rfl)) pda_nil))))) (pdw_or1 (pdt_not (pdt_chain cmp_le cmp_le (pd_var (i := 1) rfl (by first | exact Or.inl rfl | exact Or.inr (Or.inl rfl) | exact Or.inr (Or.inr rfl))) (pd_blt blt_len (by rfl) Z.b_len rfl (pda_cons (pd_var (i := 0) rfl (by first | exact Or.inl rfl | exact Or.inr (Or.inl rfl) | exact Or.inr (Or.inr rfl))) pda_nil)) (pd_var (i := 2) rfl (by first | exact Or.inl rfl | exact Or.inr (Or.inl rfl) | exact Or.inr (Or.inr rfl)))))))) (pds_one (pds_ret pd_bl)) pds_nil)
    (pds_cons (pds_if (pdt_not (pdt_truth (pd_blt (blt_all rfl) (by rfl) Z.b_all rfl (pda_cons (pd_lc (own := [("number", 3)]) rfl sc_is_rising.nd (pdi_tup (pd_var (i := 0) rfl (by first | exact Or.inl rfl | exact Or.inr (Or.inl rfl) | exact Or.inr (Or.inr rfl)))) (blkOk_by rfl) (fun _ _ _ _ _ => pg_name (i := 3) sc_is_rising.nd rfl (by first | exact Or.inl rfl | exact Or.inr rfl)) (tg_one 3) (by decide) (fun _ _ _ _ _ => pdts_nil) (fun _ _ _ _ _ => (pd_callA D_is_whole ((ft.blk _ _ _ _ _ _).mono (by decide)) (by rfl) (pda_cons (pd_var (i := 3) rfl (by first | exact Or.inl rfl | exact Or.inr (Or.inl rfl) | exact Or.inr (Or.inr rfl))) pda_nil)))) pda_nil)))) (pds_one (pds_ret pd_bl)) pds_nil)
    (pds_one (pds_ret (pd_blt (blt_all rfl) (by rfl) Z.b_all rfl (pda_cons (pd_lcR2 (own := [("at", 4)]) rfl sc_is_rising.nd (by rfl) Z.b_range (pda_cons pd_int (pda_cons (pd_blt blt_len (by rfl) Z.b_len rfl (pda_cons (pd_var (i := 0) rfl (by first | exact Or.inl rfl | exact Or.inr (Or.inl rfl) | exact Or.inr (Or.inr rfl))) pda_nil)) pda_nil)) (blkOk_by rfl) (fun _ _ _ _ _ => pg_name (i := 4) sc_is_rising.nd rfl (by first | exact Or.inl rfl | exact Or.inr rfl)) (tg_one 4) (by decide) (fun _ _ _ _ _ => pdts_nil) (fun _ _ _ _ _ => (pd_cmpD cmp_lt (pd_ix (pd_var (i := 0) rfl (by first | exact Or.inl rfl | exact Or.inr (Or.inl rfl) | exact Or.inr (Or.inr rfl))) (pd_sub (pd_var (i := 4) rfl (by first | exact Or.inl rfl | exact Or.inr (Or.inl rfl) | exact Or.inr (Or.inr rfl))) pd_int)) (pd_ix (pd_var (i := 0) rfl (by first | exact Or.inl rfl | exact Or.inr (Or.inl rfl) | exact Or.inr (Or.inr rfl))) (pd_var (i := 4) rfl (by first | exact Or.inl rfl | exact Or.inr (Or.inl rfl) | exact Or.inr (Or.inr rfl)))) (by rfl)))) pda_nil))))))
theorem ok_Cellar__check_free {w : World} {T : Txt} {mg : Str → Option Value} {base : Heap} (Z : Facts T mg) (N_Cellar__others_of : DefM P w T mg base 1 1 26 "_others_of" f_Cellar__others_of ways_Cellar__others_of) (M_Kept : MkE P w T mg base 23 "Kept" ["self", "number", "others"] ways_Kept) (l : LkD T 27 "_check_free" "Cellar._check_free" st_Cellar__check_free []) (me : Meth T.K (T.ca 1) "_check_free" (T.fa 27)) : DefM P w T mg base 4 1 27 "_check_free" f_Cellar__check_free ways_Cellar__check_free := by
  refine defM_of (c := 1) (nm := "_check_free") (m := m_Cellar__check_free) (k := 3) (N := ["self", "number"]) (ps := ["self", "number"]) (st := st_Cellar__check_free) l me sc_Cellar__check_free (fun fd F z hz => ?_) fun cdv A outer s H E xp ft po => ?_
  · skip
    rcases List.mem_cons.mp hz with hz | hz
    · subst hz
      refine bd_nod (g := fun {α} us ws => gg_Cellar__check_free_1 us [] ws) F (fun r q => r) (fun _ _ _ _ _ _ _ r q => r) (fun vs zs h1 h2 => by unfold gg_Cellar__check_free_1; simp [h1, h2]) ?_
      intro kV doc pm an cdv ct us ws h1 h3
      match us, ws, h1, h3 with
      | [_, _], [], _, _ => rfl
    exact absurd hz List.not_mem_nil
  · exact (pds_one (pds_if (pdt_cmp (cmp_ne ft.u) (pd_ix (pd_fld (i := 5) Z.i_Cellar (by rw [Z.f_Cellar]; rfl) (pd_var (i := 0) rfl (by first | exact Or.inl rfl | exact Or.inr (Or.inl rfl) | exact Or.inr (Or.inr rfl)))) (pd_var (i := 1) rfl (by first | exact Or.inl rfl | exact Or.inr (Or.inl rfl) | exact Or.inr (Or.inr rfl)))) (pd_tup pda_nil) (by rfl)) (pds_one (pds_raiseE M_Kept List.mem_cons_self (ft.mono (by decide)) rfl (by rw [Z.f_Kept]; decide) Z.b1_Kept Z.b2_Kept (by rfl) (pda_cons (pd_var (i := 1) rfl (by first | exact Or.inl rfl | exact Or.inr (Or.inl rfl) | exact Or.inr (Or.inr rfl))) (pda_cons (pd_methM Z.i_Cellar (by rw [Z.f_Cellar]; decide) N_Cellar__others_of List.mem_cons_self (ft.mono (by decide)) (pd_var (i := 0) rfl (by first | exact Or.inl rfl | exact Or.inr (Or.inl rfl) | exact Or.inr (Or.inr rfl))) (pda_cons (pd_var (i := 1) rfl (by first | exact Or.inl rfl | exact Or.inr (Or.inl rfl) | exact Or.inr (Or.inr rfl))) pda_nil) pdk_nil) pda_nil)) pdk_nil (by decide))) pds_nil))
theorem ok_Cellar_undo {w : World} {T : Txt} {mg : Str → Option Value} {base : Heap} (Z : Facts T mg) (l : LkD T 39 "undo" "Cellar.undo" st_Cellar_undo []) (me : Meth T.K (T.ca 1) "undo" (T.fa 39)) : DefM P w T mg base 4 1 39 "undo" f_Cellar_undo ways_Cellar_undo := by
  refine defM_of (c := 1) (nm := "undo") (m := m_Cellar_undo) (k := 3) (N := ["self"]) (ps := ["self"]) (st := st_Cellar_undo) l me sc_Cellar_undo (fun fd F z hz => ?_) fun cdv A outer s H E xp ft po => ?_
  · skip
    rcases List.mem_cons.mp hz with hz | hz
    · subst hz
      refine bd_nod (g := fun {α} us ws => gg_Cellar_undo_0 us [] ws) F (fun r q => r) (fun _ _ _ _ _ _ _ r q => r) (fun vs zs h1 h2 => by unfold gg_Cellar_undo_0; simp [h1, h2]) ?_
      intro kV doc pm an cdv ct us ws h1 h3
      match us, ws, h1, h3 with
      | [_], [], _, _ => rfl
    exact absurd hz List.not_mem_nil
  · exact (pds_cons (pds_if (pdt_cmp (cmp_eq ft.u) (pd_blt blt_len (by rfl) Z.b_len rfl (pda_cons (pd_fld (i := 6) Z.i_Cellar (by rw [Z.f_Cellar]; rfl) (pd_var (i := 0) rfl (by first | exact Or.inl rfl | exact Or.inr (Or.inl rfl) | exact Or.inr (Or.inr rfl)))) pda_nil)) pd_int (by rfl)) (pds_one (pds_raise rfl ft.tk Z.e_NoDeed Z.c_NoDeed (by rfl))) pds_nil)
    (pds_one (pds_setFs (is := [2, 3, 4, 5]) (fs := ["_bottles", "_shelves", "_fates", "_sets"]) Z.i_Cellar ⟨by rw [Z.f_Cellar]; rfl, by rw [Z.f_Cellar]; rfl, by rw [Z.f_Cellar]; rfl, by rw [Z.f_Cellar]; rfl, trivial⟩ (pgs_cons (pg_attr (j := 0) rfl (by first | exact Or.inl rfl | exact Or.inr (Or.inl rfl) | exact Or.inr (Or.inr rfl))) (pgs_cons (pg_attr (j := 0) rfl (by first | exact Or.inl rfl | exact Or.inr (Or.inl rfl) | exact Or.inr (Or.inr rfl))) (pgs_cons (pg_attr (j := 0) rfl (by first | exact Or.inl rfl | exact Or.inr (Or.inl rfl) | exact Or.inr (Or.inr rfl))) (pgs_cons (pg_attr (j := 0) rfl (by first | exact Or.inl rfl | exact Or.inr (Or.inl rfl) | exact Or.inr (Or.inr rfl))) pgs_nil)))) rfl (pd_bm0 mt_popD (pd_fld (i := 6) Z.i_Cellar (by rw [Z.f_Cellar]; rfl) (pd_var (i := 0) rfl (by first | exact Or.inl rfl | exact Or.inr (Or.inl rfl) | exact Or.inr (Or.inr rfl))))))))
theorem ok__law_kept {w : World} {T : Txt} {mg : Str → Option Value} {base : Heap} (Z : Facts T mg) (D__law_set : Def P w T mg base 1 61 "_law_set" ["_law_state", "_law_token"] f__law_set) (l : Lk T 62 "_law_kept" "_law_kept" st__law_kept) (hg : mg "_law_kept" = some (.ref (T.fa 62))) : Def P w T mg base 2 62 "_law_kept" ["_law_state", "_law_token"] f__law_kept := by
  refine defD_of (m := m__law_kept) (k := 1) (N := ["_law_state", "_law_token", "_law_some", "_law_one"]) (ps := ["_law_state", "_law_token"]) (st := st__law_kept) l hg sc__law_kept (fun _ _ _ _ _ _ us hl => match us, hl with | [_, _], _ => rfl) fun cdv A outer s H E xp ft po => ?_
  exact (pds_cons (pds_set (i := 2) sc__law_kept.nd rfl (by first | exact Or.inl rfl | exact Or.inr rfl) (pd_callA D__law_set (ft.mono (by decide)) (by rfl) (pda_cons (pd_var (i := 0) rfl (by first | exact Or.inl rfl | exact Or.inr (Or.inl rfl) | exact Or.inr (Or.inr rfl))) (pda_cons (pd_var (i := 1) rfl (by first | exact Or.inl rfl | exact Or.inr (Or.inl rfl) | exact Or.inr (Or.inr rfl))) pda_nil))))
    (pds_cons (pds_if (pdt_cmp (cmp_eq ft.u) (pd_var (i := 2) rfl (by first | exact Or.inl rfl | exact Or.inr (Or.inl rfl) | exact Or.inr (Or.inr rfl))) (pd_tup pda_nil) (by rfl)) (pds_one (pds_ret pd_non)) pds_nil)
    (pds_one (pds_ret (pd_tup (pda_cons pd_str (pda_cons (pd_var (i := 1) rfl (by first | exact Or.inl rfl | exact Or.inr (Or.inl rfl) | exact Or.inr (Or.inr rfl))) (pda_cons (pd_ty ty_tuple (by rfl) Z.b_tuple rfl (pda_cons (pd_lc (own := [("_law_one", 3)]) rfl sc__law_kept.nd (pdi_tup (pd_var (i := 2) rfl (by first | exact Or.inl rfl | exact Or.inr (Or.inl rfl) | exact Or.inr (Or.inr rfl)))) (blkOk_by rfl) (fun _ _ _ _ _ => pg_name (i := 3) sc__law_kept.nd rfl (by first | exact Or.inl rfl | exact Or.inr rfl)) (tg_one 3) (by decide) (fun _ _ _ _ _ => (pdts_one (pdt_cmp (cmp_ne (ft.blk _ _ _ _ _ _).u) (pd_var (i := 3) rfl (by first | exact Or.inl rfl | exact Or.inr (Or.inl rfl) | exact Or.inr (Or.inr rfl))) (pd_var (i := 1) rfl (by first | exact Or.inl rfl | exact Or.inr (Or.inl rfl) | exact Or.inr (Or.inr rfl))) (by rfl)))) (fun _ _ _ _ _ => (pd_var (i := 3) rfl (by first | exact Or.inl rfl | exact Or.inr (Or.inl rfl) | exact Or.inr (Or.inr rfl))))) pda_nil)) pda_nil))))))))
theorem ok_Cellar_became {w : World} {T : Txt} {mg : Str → Option Value} {base : Heap} (Z : Facts T mg) (N_Cellar__check_number : DefM P w T mg base 4 1 24 "_check_number" f_Cellar__check_number ways_Cellar__check_number) (l : LkD T 42 "became" "Cellar.became" st_Cellar_became []) (me : Meth T.K (T.ca 1) "became" (T.fa 42)) : DefM P w T mg base 5 1 42 "became" f_Cellar_became ways_Cellar_became := by
  refine defM_of (c := 1) (nm := "became") (m := m_Cellar_became) (k := 4) (N := ["self", "number"]) (ps := ["self", "number"]) (st := st_Cellar_became) l me sc_Cellar_became (fun fd F z hz => ?_) fun cdv A outer s H E xp ft po => ?_
  · skip
    rcases List.mem_cons.mp hz with hz | hz
    · subst hz
      refine bd_nod (g := fun {α} us ws => gg_Cellar_became_1 us [] ws) F (fun r q => r) (fun _ _ _ _ _ _ _ r q => r) (fun vs zs h1 h2 => by unfold gg_Cellar_became_1; simp [h1, h2]) ?_
      intro kV doc pm an cdv ct us ws h1 h3
      match us, ws, h1, h3 with
      | [_, _], [], _, _ => rfl
    exact absurd hz List.not_mem_nil
  · exact (pds_cons (pds_drop (pd_methM Z.i_Cellar (by rw [Z.f_Cellar]; decide) N_Cellar__check_number List.mem_cons_self (ft.mono (by decide)) (pd_var (i := 0) rfl (by first | exact Or.inl rfl | exact Or.inr (Or.inl rfl) | exact Or.inr (Or.inr rfl))) (pda_cons (pd_var (i := 1) rfl (by first | exact Or.inl rfl | exact Or.inr (Or.inl rfl) | exact Or.inr (Or.inr rfl))) pda_nil) pdk_nil))
    (pds_one (pds_ret (pd_ix (pd_fld (i := 4) Z.i_Cellar (by rw [Z.f_Cellar]; rfl) (pd_var (i := 0) rfl (by first | exact Or.inl rfl | exact Or.inr (Or.inl rfl) | exact Or.inr (Or.inr rfl)))) (pd_var (i := 1) rfl (by first | exact Or.inl rfl | exact Or.inr (Or.inl rfl) | exact Or.inr (Or.inr rfl)))))))
theorem ok__law_is_who {w : World} {T : Txt} {mg : Str → Option Value} {base : Heap} (Z : Facts T mg) (l : Lk T 57 "_law_is_who" "_law_is_who" st__law_is_who) (hg : mg "_law_is_who" = some (.ref (T.fa 57))) : Def P w T mg base 1 57 "_law_is_who" ["_law_thing"] f__law_is_who := by
  refine defD_of (m := m__law_is_who) (k := 0) (N := ["_law_thing", "_law_sign"]) (ps := ["_law_thing"]) (st := st__law_is_who) l hg sc__law_is_who (fun _ _ _ _ _ _ us hl => match us, hl with | [_], _ => rfl) fun cdv A outer s H E xp ft po => ?_
  exact (pds_one (pds_ret (pd_and (pd_blt (blt_isi Z.own Z.isT) (by rfl) Z.b_isinstance rfl (pda_cons (pd_var (i := 0) rfl (by first | exact Or.inl rfl | exact Or.inr (Or.inl rfl) | exact Or.inr (Or.inr rfl))) (pda_cons (pd_bt (n := "str") rfl Z.b_str (by rfl)) pda_nil))) (pd_and (pd_cmpD cmp_lt (pd_blt (BltD.or blt_len blt_lenK) (by rfl) Z.b_len rfl (pda_cons (pd_var (i := 0) rfl (by first | exact Or.inl rfl | exact Or.inr (Or.inl rfl) | exact Or.inr (Or.inr rfl))) pda_nil)) pd_int (by rfl)) (pd_last (pd_cmpD (cmp_eq ft.u) (pd_lcS (own := [("_law_sign", 1)]) rfl sc__law_is_who.nd (pd_var (i := 0) rfl (by first | exact Or.inl rfl | exact Or.inr (Or.inl rfl) | exact Or.inr (Or.inr rfl))) (blkOk_by rfl) (fun _ _ _ _ _ => pg_name (i := 1) sc__law_is_who.nd rfl (by first | exact Or.inl rfl | exact Or.inr rfl)) (tg_one 1) (by decide) (fun _ _ _ _ _ => (pdts_one (pdt_not (pdt_chain cmp_le cmp_le pd_str (pd_var (i := 1) rfl (by first | exact Or.inl rfl | exact Or.inr (Or.inl rfl) | exact Or.inr (Or.inr rfl))) pd_str)))) (fun _ _ _ _ _ => (pd_var (i := 1) rfl (by first | exact Or.inl rfl | exact Or.inr (Or.inl rfl) | exact Or.inr (Or.inr rfl))))) (pd_lst pda_nil) (by rfl)))))))
theorem ok__law_here {w : World} {T : Txt} {mg : Str → Option Value} {base : Heap} (Z : Facts T mg) (l : Lk T 75 "_law_here" "_law_here" st__law_here) (hg : mg "_law_here" = some (.ref (T.fa 75))) : Def P w T mg base 1 75 "_law_here" ["_law_state"] f__law_here := by
  refine defD_of (m := m__law_here) (k := 0) (N := ["_law_state", "_law_k", "_law_end"]) (ps := ["_law_state"]) (st := st__law_here) l hg sc__law_here (fun _ _ _ _ _ _ us hl => match us, hl with | [_], _ => rfl) fun cdv A outer s H E xp ft po => ?_
  exact (pds_one (pds_ret (pd_lcP (own := [("_law_k", 1), ("_law_end", 2)]) rfl sc__law_here.nd (pdi_enumT (by rfl) Z.b_enumerate (pd_ixK ft.u (pd_var (i := 0) rfl (by first | exact Or.inl rfl | exact Or.inr (Or.inl rfl) | exact Or.inr (Or.inr rfl))) pd_str)) (blkOk_by rfl) (fun _ _ _ _ _ => pg_tup rfl (pgs_cons (pg_name (i := 1) sc__law_here.nd rfl (by first | exact Or.inl rfl | exact Or.inr rfl)) (pgs_cons (pg_name (i := 2) sc__law_here.nd rfl (by first | exact Or.inl rfl | exact Or.inr rfl)) pgs_nil))) (tg_tup rfl [1, 2] rfl) (by decide) (fun _ _ _ _ _ => (pdts_one (pdt_cmp cmp_is (pd_var (i := 2) rfl (by first | exact Or.inl rfl | exact Or.inr (Or.inl rfl) | exact Or.inr (Or.inr rfl))) pd_non (by rfl)))) (fun _ _ _ _ _ => (pd_var (i := 1) rfl (by first | exact Or.inl rfl | exact Or.inr (Or.inl rfl) | exact Or.inr (Or.inr rfl)))))))
theorem ok_is_whole {w : World} {T : Txt} {mg : Str → Option Value} {base : Heap} (Z : Facts T mg) (l : Lk T 0 "is_whole" "is_whole" st_is_whole) (hg : mg "is_whole" = some (.ref (T.fa 0))) : Def P w T mg base 1 0 "is_whole" ["thing"] f_is_whole := by
  refine defD_of (m := m_is_whole) (k := 0) (N := ["thing"]) (ps := ["thing"]) (st := st_is_whole) l hg sc_is_whole (fun _ _ _ _ _ _ us hl => match us, hl with | [_], _ => rfl) fun cdv A outer s H E xp ft po => ?_
  exact (pds_one (pds_ret (pd_and (pd_blt (blt_isi Z.own Z.isT) (by rfl) Z.b_isinstance rfl (pda_cons (pd_var (i := 0) rfl (by first | exact Or.inl rfl | exact Or.inr (Or.inl rfl) | exact Or.inr (Or.inr rfl))) (pda_cons (pd_bt (n := "int") rfl Z.b_int (by rfl)) pda_nil))) (pd_last (pd_not (pd_blt (blt_isi Z.own Z.isT) (by rfl) Z.b_isinstance rfl (pda_cons (pd_var (i := 0) rfl (by first | exact Or.inl rfl | exact Or.inr (Or.inl rfl) | exact Or.inr (Or.inr rfl))) (pda_cons (pd_bt (n := "bool") rfl Z.b_bool (by rfl)) pda_nil))))))))
end K11
set_option maxRecDepth 100000
set_option maxHeartbeats 1000000
namespace K11
open PySem PySem.Spec PyProof.Rows L2 Den Cel Ste
theorem ok_law_fd {w : World} {T : Txt} {mg : Str → Option Value} {base : Heap} (Z : Facts T mg) (D__law_begun : Def P w T mg base 1 55 "_law_begun" ["_law_rooms_here", "_law_top"] f__law_begun) (D__law_cell_at : Def P w T mg base 1 47 "_law_cell_at" ["_law_script", "_law_k"] f__law_cell_at) (D__law_deed : Def P w T mg base 3 73 "_law_deed" ["_law_pot_here", "_law_state", "_law_kinds_here"] f__law_deed) (D__law_kinds : Def P w T mg base 3 53 "_law_kinds" ["_law_pot_here"] f__law_kinds) (D__law_pot : Def P w T mg base 1 48 "_law_pot" ["_law_cell"] f__law_pot) (D__law_rooms : Def P w T mg base 2 54 "_law_rooms" ["_law_pot_here"] f__law_rooms) (D__law_says : Def P w T mg base 7 78 "_law_says" ["_law_cellar", "_law_state"] f__law_says) (D__law_shown : Def P w T mg base 2 77 "_law_shown" ["_law_state"] f__law_shown) (D__law_step : Def P w T mg base 10 74 "_law_step" ["_law_cellar", "_law_past", "_law_deed_here"] f__law_step) (D__law_take : Def P w T mg base 1 49 "_law_take" ["_law_pot_here", "_law_far"] f__law_take) (MB_Cellar : Mk_Cellar P w T mg base) {fd : FuncData} (F : Fun T.K "law" "law" st_law (T.fa 79) fd) : FnG P w T.K mg base 14 (T.fa 79) fd ["_law_script"] (spM T 1 f_law) := by
  obtain ⟨fd_Cellar, K_Cellar, F_Cellar, B_Cellar_1, B_Cellar_1_hold⟩ := MB_Cellar.ex
  refine fnD_of (m := m_law) (k := 13) (N := ["_law_script", "_law_k", "_law_pot_here", "_law_kinds_here", "_law_rooms_here", "_law_top", "_law_cellar", "_law_past", "_law_many", "_law_ahead", "_law_one", "_law_turn", "_law_due"]) (ps := ["_law_script"]) (st := st_law) F sc_law fun cdv A outer s H E xp hr => ?_
  have ft : Fit ⟨cxOf (L2N.CX P w) P w T.K mg base ["_law_script", "_law_k", "_law_pot_here", "_law_kinds_here", "_law_rooms_here", "_law_top", "_law_cellar", "_law_past", "_law_many", "_law_ahead", "_law_one", "_law_turn", "_law_due"] "law" (defScope st_law) (T.fa 79) cdv A outer s H E, T, xp, fun c d _ H' => E c d H', rfl⟩ 13 := ⟨rfl, hr, takes_def⟩
  have po := passes_def (P := P) (w := w) (K := T.K) (mg := mg) (base := base) (N := ["_law_script", "_law_k", "_law_pot_here", "_law_kinds_here", "_law_rooms_here", "_law_top", "_law_cellar", "_law_past", "_law_many", "_law_ahead", "_law_one", "_law_turn", "_law_due"]) (qual := "law") (sc := defScope st_law) (f := T.fa 79) (cdv := cdv) (A := A) (outer := outer) (s := s) (H := H) (E := E)
  exact (pds_cons (pds_forR1 po rfl (by rfl) Z.b_range (pda_cons (pd_blt (blt_maxA rfl ft.u) (by rfl) Z.b_max rfl (pda_cons pd_int (pda_cons (pd_blt (blt_minA rfl ft.u) (by rfl) Z.b_min rfl (pda_cons (pd_blt (BltD.or blt_len blt_lenK) (by rfl) Z.b_len rfl (pda_cons (pd_var (i := 0) rfl (by first | exact Or.inl rfl | exact Or.inr (Or.inl rfl) | exact Or.inr (Or.inr rfl))) pda_nil)) (pda_cons pd_int pda_nil))) pda_nil))) pda_nil) (pg_name (i := 1) sc_law.nd rfl (by first | exact Or.inl rfl | exact Or.inr rfl)) (tg_one 1)
    (pds_cons (pds_set (i := 2) sc_law.nd rfl (by first | exact Or.inl rfl | exact Or.inr rfl) (pd_callA D__law_pot (ft.mono (by decide)) (by rfl) (pda_cons (pd_callA D__law_cell_at (ft.mono (by decide)) (by rfl) (pda_cons (pd_var (i := 0) rfl (by first | exact Or.inl rfl | exact Or.inr (Or.inl rfl) | exact Or.inr (Or.inr rfl))) (pda_cons (pd_var (i := 1) rfl (by first | exact Or.inl rfl | exact Or.inr (Or.inl rfl) | exact Or.inr (Or.inr rfl))) pda_nil))) pda_nil)))
    (pds_cons (pds_par (pz := ⟨0, 0, 0, 0⟩) (i := 3) (j := 4) rfl sc_law.nd rfl rfl (by decide) rfl rfl (pda_cons (pd_callA D__law_kinds (ft.mono (by decide)) (by rfl) (pda_cons (pd_var (i := 2) rfl (by first | exact Or.inl rfl | exact Or.inr (Or.inl rfl) | exact Or.inr (Or.inr rfl))) pda_nil)) (pda_cons (pd_callA D__law_rooms (ft.mono (by decide)) (by rfl) (pda_cons (pd_var (i := 2) rfl (by first | exact Or.inl rfl | exact Or.inr (Or.inl rfl) | exact Or.inr (Or.inr rfl))) pda_nil)) pda_nil)) (by rfl))
    (pds_cons (pds_set (i := 5) sc_law.nd rfl (by first | exact Or.inl rfl | exact Or.inr rfl) (pd_add pd_int (pd_callA D__law_take (ft.mono (by decide)) (by rfl) (pda_cons (pd_var (i := 2) rfl (by first | exact Or.inl rfl | exact Or.inr (Or.inl rfl) | exact Or.inr (Or.inr rfl))) (pda_cons (pd_ix (pd_lst (pda_cons pd_int (pda_cons pd_int pda_nil))) (pd_callA D__law_take (ft.mono (by decide)) (by rfl) (pda_cons (pd_var (i := 2) rfl (by first | exact Or.inl rfl | exact Or.inr (Or.inl rfl) | exact Or.inr (Or.inr rfl))) (pda_cons pd_int pda_nil)))) pda_nil)))))
    (pds_cons (pds_set (i := 6) sc_law.nd rfl (by first | exact Or.inl rfl | exact Or.inr rfl) (pd_ite (pdt_cmp (cmp_eq ft.u) (pd_var (i := 5) rfl (by first | exact Or.inl rfl | exact Or.inr (Or.inl rfl) | exact Or.inr (Or.inr rfl))) pd_int (by rfl)) (pd_makeM K_Cellar F_Cellar (ft.mono (by decide)).room ft.tk B_Cellar_1 (by rfl) Z.c_Cellar (pda_cons (pd_var (i := 4) rfl (by first | exact Or.inl rfl | exact Or.inr (Or.inl rfl) | exact Or.inr (Or.inr rfl))) pda_nil) pdk_nil) (pd_makeM K_Cellar F_Cellar (ft.mono (by decide)).room ft.tk B_Cellar_1_hold (by rfl) Z.c_Cellar (pda_cons (pd_var (i := 4) rfl (by first | exact Or.inl rfl | exact Or.inr (Or.inl rfl) | exact Or.inr (Or.inr rfl))) pda_nil) (pdk_cons (pd_var (i := 5) rfl (by first | exact Or.inl rfl | exact Or.inr (Or.inl rfl) | exact Or.inr (Or.inr rfl))) pdk_nil))))
    (pds_cons (pds_par (pz := ⟨0, 0, 0, 0⟩) (i := 7) (j := 8) rfl sc_law.nd rfl rfl (by decide) rfl rfl (pda_cons (pd_new (pda_cons (pd_callA D__law_begun (ft.mono (by decide)) (by rfl) (pda_cons (pd_var (i := 4) rfl (by first | exact Or.inl rfl | exact Or.inr (Or.inl rfl) | exact Or.inr (Or.inr rfl))) (pda_cons (pd_var (i := 5) rfl (by first | exact Or.inl rfl | exact Or.inr (Or.inl rfl) | exact Or.inr (Or.inr rfl))) pda_nil))) pda_nil)) (pda_cons (pd_add pd_int (pd_callA D__law_take (ft.mono (by decide)) (by rfl) (pda_cons (pd_var (i := 2) rfl (by first | exact Or.inl rfl | exact Or.inr (Or.inl rfl) | exact Or.inr (Or.inr rfl))) (pda_cons pd_int pda_nil)))) pda_nil)) (by rfl))
    (pds_cons (pds_set (i := 9) sc_law.nd rfl (by first | exact Or.inl rfl | exact Or.inr rfl) (pd_lst (pda_cons (pd_tup (pda_cons pd_str (pda_cons (pd_ix (pd_var (i := 3) rfl (by first | exact Or.inl rfl | exact Or.inr (Or.inl rfl) | exact Or.inr (Or.inr rfl))) pd_int) (pda_cons pd_int (pda_cons pd_int pda_nil))))) (pda_cons (pd_tup (pda_cons pd_str (pda_cons (pd_tup (pda_cons pd_str (pda_cons pd_int (pda_cons pd_int pda_nil)))) (pda_cons pd_int (pda_cons pd_int pda_nil))))) (pda_cons (pd_tup (pda_cons pd_str (pda_cons (pd_tup (pda_cons pd_int (pda_cons pd_int pda_nil))) pda_nil))) (pda_cons (pd_tup (pda_cons pd_str (pda_cons pd_int (pda_cons pd_int (pda_cons pd_str pda_nil))))) pda_nil))))))
    (pds_cons (pds_forL po rfl (pd_ite (pdt_cmp (cmp_eq ft.u) (pd_callA D__law_take (ft.mono (by decide)) (by rfl) (pda_cons (pd_var (i := 2) rfl (by first | exact Or.inl rfl | exact Or.inr (Or.inl rfl) | exact Or.inr (Or.inr rfl))) (pda_cons pd_int pda_nil))) pd_int (by rfl)) (pd_var (i := 9) rfl (by first | exact Or.inl rfl | exact Or.inr (Or.inl rfl) | exact Or.inr (Or.inr rfl))) (pd_lst pda_nil)) (pg_name (i := 10) sc_law.nd rfl (by first | exact Or.inl rfl | exact Or.inr rfl)) (tg_one 10)
    (pds_one (pds_if (pdt_not (pdt_truth (pd_callA D__law_step (ft.mono (by decide)) (by rfl) (pda_cons (pd_var (i := 6) rfl (by first | exact Or.inl rfl | exact Or.inr (Or.inl rfl) | exact Or.inr (Or.inr rfl))) (pda_cons (pd_var (i := 7) rfl (by first | exact Or.inl rfl | exact Or.inr (Or.inl rfl) | exact Or.inr (Or.inr rfl))) (pda_cons (pd_var (i := 10) rfl (by first | exact Or.inl rfl | exact Or.inr (Or.inl rfl) | exact Or.inr (Or.inr rfl))) pda_nil)))))) (pds_one (pds_ret pd_bl)) pds_nil)))
    (pds_one (pds_forR1 po rfl (by rfl) Z.b_range (pda_cons (pd_var (i := 8) rfl (by first | exact Or.inl rfl | exact Or.inr (Or.inl rfl) | exact Or.inr (Or.inr rfl))) pda_nil) (pg_name (i := 11) sc_law.nd rfl (by first | exact Or.inl rfl | exact Or.inr rfl)) (tg_one 11)
    (pds_cons (pds_if (pdt_not (pdt_truth (pd_callA D__law_step (ft.mono (by decide)) (by rfl) (pda_cons (pd_var (i := 6) rfl (by first | exact Or.inl rfl | exact Or.inr (Or.inl rfl) | exact Or.inr (Or.inr rfl))) (pda_cons (pd_var (i := 7) rfl (by first | exact Or.inl rfl | exact Or.inr (Or.inl rfl) | exact Or.inr (Or.inr rfl))) (pda_cons (pd_callA D__law_deed (ft.mono (by decide)) (by rfl) (pda_cons (pd_var (i := 2) rfl (by first | exact Or.inl rfl | exact Or.inr (Or.inl rfl) | exact Or.inr (Or.inr rfl))) (pda_cons (pd_ix (pd_var (i := 7) rfl (by first | exact Or.inl rfl | exact Or.inr (Or.inl rfl) | exact Or.inr (Or.inr rfl))) (pd_neg pd_int)) (pda_cons (pd_var (i := 3) rfl (by first | exact Or.inl rfl | exact Or.inr (Or.inl rfl) | exact Or.inr (Or.inr rfl))) pda_nil)))) pda_nil)))))) (pds_one (pds_ret pd_bl)) pds_nil)
    (pds_one (pds_if (pdt_w (pdw_or (pdt_cmp (cmp_eq ft.u) (pd_mod (pd_var (i := 11) rfl (by first | exact Or.inl rfl | exact Or.inr (Or.inl rfl) | exact Or.inr (Or.inr rfl))) pd_int) pd_int (by rfl)) (pdw_or1 (pdt_cmp (cmp_eq ft.u) (pd_var (i := 11) rfl (by first | exact Or.inl rfl | exact Or.inr (Or.inl rfl) | exact Or.inr (Or.inr rfl))) (pd_sub (pd_var (i := 8) rfl (by first | exact Or.inl rfl | exact Or.inr (Or.inl rfl) | exact Or.inr (Or.inr rfl))) pd_int) (by rfl))))) (pds_cons (pds_set (i := 12) sc_law.nd rfl (by first | exact Or.inl rfl | exact Or.inr rfl) (pd_callA D__law_shown (ft.mono (by decide)) (by rfl) (pda_cons (pd_ix (pd_var (i := 7) rfl (by first | exact Or.inl rfl | exact Or.inr (Or.inl rfl) | exact Or.inr (Or.inr rfl))) (pd_neg pd_int)) pda_nil)))
    (pds_one (pds_if (pdt_w (pdw_or (pdt_cmp (cmp_ne ft.u) (pd_callA D__law_says (ft.mono (by decide)) (by rfl) (pda_cons (pd_var (i := 6) rfl (by first | exact Or.inl rfl | exact Or.inr (Or.inl rfl) | exact Or.inr (Or.inr rfl))) (pda_cons (pd_ix (pd_var (i := 7) rfl (by first | exact Or.inl rfl | exact Or.inr (Or.inl rfl) | exact Or.inr (Or.inr rfl))) (pd_neg pd_int)) pda_nil))) (pd_var (i := 12) rfl (by first | exact Or.inl rfl | exact Or.inr (Or.inl rfl) | exact Or.inr (Or.inr rfl))) (by rfl)) (pdw_or1 (pdt_cmp (cmp_ne ft.u) (pd_callA D__law_says (ft.mono (by decide)) (by rfl) (pda_cons (pd_var (i := 6) rfl (by first | exact Or.inl rfl | exact Or.inr (Or.inl rfl) | exact Or.inr (Or.inr rfl))) (pda_cons (pd_ix (pd_var (i := 7) rfl (by first | exact Or.inl rfl | exact Or.inr (Or.inl rfl) | exact Or.inr (Or.inr rfl))) (pd_neg pd_int)) pda_nil))) (pd_var (i := 12) rfl (by first | exact Or.inl rfl | exact Or.inr (Or.inl rfl) | exact Or.inr (Or.inr rfl))) (by rfl))))) (pds_one (pds_ret pd_bl)) pds_nil))) pds_nil)))))))))))))
    (pds_one (pds_ret pd_bl)))
theorem ok_Cellar {w : World} {T : Txt} {mg : Str → Option Value} {base : Heap} (Z : Facts T mg) (D__are_rooms : Def P w T mg base 3 10 "_are_rooms" ["thing"] f__are_rooms) (D_is_within : Def P w T mg base 2 1 "is_within" ["thing", "least", "most"] f_is_within)
    (hm : Mk T.K (T.ca 1) (T.fa 16)) (l : ∃ fd, FunD T.K "__init__" "Cellar.__init__" (defArgs st_Cellar) (defBody st_Cellar) (defScope st_Cellar) [.int 6] [] (T.fa 16) fd) : Mk_Cellar P w T mg base := by
  obtain ⟨fd, F⟩ := l
  refine ⟨fd, hm, fnD_ofF (m := m_Cellar) (k := 3) (N := ["self", "rooms", "hold", "many"]) (ps := ["self", "rooms", "hold"]) F sc_Cellar fun cdv A outer s H E xp ft => ?_, ?_, ?_⟩
  · exact (pds_cons (pds_if (pdt_not (pdt_truth (pd_callA D__are_rooms (ft.mono (by decide)) (by rfl) (pda_cons (pd_var (i := 1) rfl (by first | exact Or.inl rfl | exact Or.inr (Or.inl rfl) | exact Or.inr (Or.inr rfl))) pda_nil)))) (pds_one (pds_raise rfl ft.tk Z.e_NoRooms Z.c_NoRooms (by rfl))) pds_nil)
    (pds_cons (pds_if (pdt_not (pdt_truth (pd_callA D_is_within (ft.mono (by decide)) (by rfl) (pda_cons (pd_var (i := 2) rfl (by first | exact Or.inl rfl | exact Or.inr (Or.inl rfl) | exact Or.inr (Or.inr rfl))) (pda_cons pd_int (pda_cons pd_int pda_nil)))))) (pds_one (pds_raise rfl ft.tk Z.e_NoHold Z.c_NoHold (by rfl))) pds_nil)
    (pds_cons (pds_setF (i := 0) Z.i_Cellar (by rw [Z.f_Cellar]; rfl) (pd_var (i := 0) rfl (by first | exact Or.inl rfl | exact Or.inr (Or.inl rfl) | exact Or.inr (Or.inr rfl))) (pd_var (i := 1) rfl (by first | exact Or.inl rfl | exact Or.inr (Or.inl rfl) | exact Or.inr (Or.inr rfl))))
    (pds_cons (pds_setF (i := 1) Z.i_Cellar (by rw [Z.f_Cellar]; rfl) (pd_var (i := 0) rfl (by first | exact Or.inl rfl | exact Or.inr (Or.inl rfl) | exact Or.inr (Or.inr rfl))) (pd_var (i := 2) rfl (by first | exact Or.inl rfl | exact Or.inr (Or.inl rfl) | exact Or.inr (Or.inr rfl))))
    (pds_cons (pds_setF (i := 2) Z.i_Cellar (by rw [Z.f_Cellar]; rfl) (pd_var (i := 0) rfl (by first | exact Or.inl rfl | exact Or.inr (Or.inl rfl) | exact Or.inr (Or.inr rfl))) (pd_tup pda_nil))
    (pds_cons (pds_setF (i := 3) Z.i_Cellar (by rw [Z.f_Cellar]; rfl) (pd_var (i := 0) rfl (by first | exact Or.inl rfl | exact Or.inr (Or.inl rfl) | exact Or.inr (Or.inr rfl))) (pd_ty ty_tuple (by rfl) Z.b_tuple rfl (pda_cons (pd_lc (own := [("many", 3)]) rfl sc_Cellar.nd (pdi_tup (pd_var (i := 1) rfl (by first | exact Or.inl rfl | exact Or.inr (Or.inl rfl) | exact Or.inr (Or.inr rfl)))) (blkOk_by rfl) (fun _ _ _ _ _ => pg_name (i := 3) sc_Cellar.nd rfl (by first | exact Or.inl rfl | exact Or.inr rfl)) (tg_one 3) (by decide) (fun _ _ _ _ _ => pdts_nil) (fun _ _ _ _ _ => (pd_mulT (pd_tup (pda_cons (pd_tup pda_nil) pda_nil)) (pd_var (i := 3) rfl (by first | exact Or.inl rfl | exact Or.inr (Or.inl rfl) | exact Or.inr (Or.inr rfl)))))) pda_nil)))
    (pds_cons (pds_setF (i := 4) Z.i_Cellar (by rw [Z.f_Cellar]; rfl) (pd_var (i := 0) rfl (by first | exact Or.inl rfl | exact Or.inr (Or.inl rfl) | exact Or.inr (Or.inr rfl))) (pd_tup pda_nil))
    (pds_cons (pds_setF (i := 5) Z.i_Cellar (by rw [Z.f_Cellar]; rfl) (pd_var (i := 0) rfl (by first | exact Or.inl rfl | exact Or.inr (Or.inl rfl) | exact Or.inr (Or.inr rfl))) (pd_tup pda_nil))
    (pds_one (pds_setF (i := 6) Z.i_Cellar (by rw [Z.f_Cellar]; rfl) (pd_var (i := 0) rfl (by first | exact Or.inl rfl | exact Or.inr (Or.inl rfl) | exact Or.inr (Or.inr rfl))) (pd_new pda_nil)))))))))))
  · refine bd_dfl (dds := [.int 6]) gB_Cellar_1 F (by simp) (fun _ _ _ => .cons (.int 6) .nil) (fun r d q => r.append d) (fun _ _ _ _ _ _ _ _ _ r d q => r.append d) (fun vs zs h1 h2 => by unfold gB_Cellar_1; simp [h1, h2]) ?_
    intro D kV doc pm an cdv ct us its ws h1 h2 h3
    match us, its, ws, h1, h2, h3 with
    | [_, _], [_], [], _, _, _ => exact ⟨_, rfl, rfl⟩
  · refine bd_dfl (dds := [.int 6]) gB_Cellar_1_hold F (by simp) (fun _ _ _ => .cons (.int 6) .nil) (fun r d q => r.append ((q.drop 0).take 1)) (fun _ _ _ _ _ _ _ _ _ r d q => r.append ((q.drop 0).take 1)) (fun vs zs h1 h2 => by unfold gB_Cellar_1_hold; simp [h1, h2]) ?_
    intro D kV doc pm an cdv ct us its ws h1 h2 h3
    match us, its, ws, h1, h2, h3 with
    | [_, _], [_], [_], _, _, _ => exact ⟨_, rfl, rfl⟩
theorem ok_Cellar_place {w : World} {T : Txt} {mg : Str → Option Value} {base : Heap} (Z : Facts T mg) (N_Cellar__check_number : DefM P w T mg base 4 1 24 "_check_number" f_Cellar__check_number ways_Cellar__check_number) (l : LkD T 41 "place" "Cellar.place" st_Cellar_place []) (me : Meth T.K (T.ca 1) "place" (T.fa 41)) : DefM P w T mg base 5 1 41 "place" f_Cellar_place ways_Cellar_place := by
  refine defM_of (c := 1) (nm := "place") (m := m_Cellar_place) (k := 4) (N := ["self", "number", "room", "shelf"]) (ps := ["self", "number"]) (st := st_Cellar_place) l me sc_Cellar_place (fun fd F z hz => ?_) fun cdv A outer s H E xp ft po => ?_
  · skip
    rcases List.mem_cons.mp hz with hz | hz
    · subst hz
      refine bd_nod (g := fun {α} us ws => gg_Cellar_place_1 us [] ws) F (fun r q => r) (fun _ _ _ _ _ _ _ r q => r) (fun vs zs h1 h2 => by unfold gg_Cellar_place_1; simp [h1, h2]) ?_
      intro kV doc pm an cdv ct us ws h1 h3
      match us, ws, h1, h3 with
      | [_, _], [], _, _ => rfl
    exact absurd hz List.not_mem_nil
  · exact (pds_cons (pds_drop (pd_methM Z.i_Cellar (by rw [Z.f_Cellar]; decide) N_Cellar__check_number List.mem_cons_self (ft.mono (by decide)) (pd_var (i := 0) rfl (by first | exact Or.inl rfl | exact Or.inr (Or.inl rfl) | exact Or.inr (Or.inr rfl))) (pda_cons (pd_var (i := 1) rfl (by first | exact Or.inl rfl | exact Or.inr (Or.inl rfl) | exact Or.inr (Or.inr rfl))) pda_nil) pdk_nil))
    (pds_cons (pds_forR1 po rfl (by rfl) Z.b_range (pda_cons (pd_blt blt_len (by rfl) Z.b_len rfl (pda_cons (pd_fld (i := 0) Z.i_Cellar (by rw [Z.f_Cellar]; rfl) (pd_var (i := 0) rfl (by first | exact Or.inl rfl | exact Or.inr (Or.inl rfl) | exact Or.inr (Or.inr rfl)))) pda_nil)) pda_nil) (pg_name (i := 2) sc_Cellar_place.nd rfl (by first | exact Or.inl rfl | exact Or.inr rfl)) (tg_one 2)
    (pds_one (pds_forR1 po rfl (by rfl) Z.b_range (pda_cons (pd_ix (pd_fld (i := 0) Z.i_Cellar (by rw [Z.f_Cellar]; rfl) (pd_var (i := 0) rfl (by first | exact Or.inl rfl | exact Or.inr (Or.inl rfl) | exact Or.inr (Or.inr rfl)))) (pd_var (i := 2) rfl (by first | exact Or.inl rfl | exact Or.inr (Or.inl rfl) | exact Or.inr (Or.inr rfl)))) pda_nil) (pg_name (i := 3) sc_Cellar_place.nd rfl (by first | exact Or.inl rfl | exact Or.inr rfl)) (tg_one 3)
    (pds_one (pds_if (pdt_cmp cmp_in (pd_var (i := 1) rfl (by first | exact Or.inl rfl | exact Or.inr (Or.inl rfl) | exact Or.inr (Or.inr rfl))) (pd_ix (pd_ix (pd_fld (i := 3) Z.i_Cellar (by rw [Z.f_Cellar]; rfl) (pd_var (i := 0) rfl (by first | exact Or.inl rfl | exact Or.inr (Or.inl rfl) | exact Or.inr (Or.inr rfl)))) (pd_var (i := 2) rfl (by first | exact Or.inl rfl | exact Or.inr (Or.inl rfl) | exact Or.inr (Or.inr rfl)))) (pd_var (i := 3) rfl (by first | exact Or.inl rfl | exact Or.inr (Or.inl rfl) | exact Or.inr (Or.inr rfl)))) (by rfl)) (pds_one (pds_ret (pd_tup (pda_cons (pd_var (i := 2) rfl (by first | exact Or.inl rfl | exact Or.inr (Or.inl rfl) | exact Or.inr (Or.inr rfl))) (pda_cons (pd_var (i := 3) rfl (by first | exact Or.inl rfl | exact Or.inr (Or.inl rfl) | exact Or.inr (Or.inr rfl))) pda_nil))))) pds_nil)))))
    (pds_one (pds_ret pd_non))))
theorem ok_Cellar__check_place {w : World} {T : Txt} {mg : Str → Option Value} {base : Heap} (Z : Facts T mg) (D_is_within : Def P w T mg base 2 1 "is_within" ["thing", "least", "most"] f_is_within) (l : LkD T 23 "_check_place" "Cellar._check_place" st_Cellar__check_place []) (me : Meth T.K (T.ca 1) "_check_place" (T.fa 23)) : DefM P w T mg base 4 1 23 "_check_place" f_Cellar__check_place ways_Cellar__check_place := by
  refine defM_of (c := 1) (nm := "_check_place") (m := m_Cellar__check_place) (k := 3) (N := ["self", "room", "shelf"]) (ps := ["self", "room", "shelf"]) (st := st_Cellar__check_place) l me sc_Cellar__check_place (fun fd F z hz => ?_) fun cdv A outer s H E xp ft po => ?_
  · skip
    rcases List.mem_cons.mp hz with hz | hz
    · subst hz
      refine bd_nod (g := fun {α} us ws => gg_Cellar__check_place_2 us [] ws) F (fun r q => r) (fun _ _ _ _ _ _ _ r q => r) (fun vs zs h1 h2 => by unfold gg_Cellar__check_place_2; simp [h1, h2]) ?_
      intro kV doc pm an cdv ct us ws h1 h3
      match us, ws, h1, h3 with
      | [_, _, _], [], _, _ => rfl
    exact absurd hz List.not_mem_nil
  · exact (pds_cons (pds_if (pdt_not (pdt_truth (pd_callA D_is_within (ft.mono (by decide)) (by rfl) (pda_cons (pd_var (i := 1) rfl (by first | exact Or.inl rfl | exact Or.inr (Or.inl rfl) | exact Or.inr (Or.inr rfl))) (pda_cons pd_int (pda_cons (pd_sub (pd_blt blt_len (by rfl) Z.b_len rfl (pda_cons (pd_fld (i := 0) Z.i_Cellar (by rw [Z.f_Cellar]; rfl) (pd_var (i := 0) rfl (by first | exact Or.inl rfl | exact Or.inr (Or.inl rfl) | exact Or.inr (Or.inr rfl)))) pda_nil)) pd_int) pda_nil)))))) (pds_one (pds_raise rfl ft.tk Z.e_NoPlace Z.c_NoPlace (by rfl))) pds_nil)
    (pds_one (pds_if (pdt_not (pdt_truth (pd_callA D_is_within (ft.mono (by decide)) (by rfl) (pda_cons (pd_var (i := 2) rfl (by first | exact Or.inl rfl | exact Or.inr (Or.inl rfl) | exact Or.inr (Or.inr rfl))) (pda_cons pd_int (pda_cons (pd_sub (pd_ix (pd_fld (i := 0) Z.i_Cellar (by rw [Z.f_Cellar]; rfl) (pd_var (i := 0) rfl (by first | exact Or.inl rfl | exact Or.inr (Or.inl rfl) | exact Or.inr (Or.inr rfl)))) (pd_var (i := 1) rfl (by first | exact Or.inl rfl | exact Or.inr (Or.inl rfl) | exact Or.inr (Or.inr rfl)))) pd_int) pda_nil)))))) (pds_one (pds_raise rfl ft.tk Z.e_NoPlace Z.c_NoPlace (by rfl))) pds_nil)))
theorem ok__law_text {w : World} {T : Txt} {mg : Str → Option Value} {base : Heap} (Z : Facts T mg) (hdo : T.dto = mdict P w) (l : Lk T 76 "_law_text" "_law_text" st__law_text) (hg : mg "_law_text" = some (.ref (T.fa 76))) : Def P w T mg base 1 76 "_law_text" ["_law_state"] f__law_text := by
  refine defD_of (m := m__law_text) (k := 0) (N := ["_law_state", "_law_rows", "_law_place_here", "_law_row", "_law_one"]) (ps := ["_law_state"]) (st := st__law_text) l hg sc__law_text (fun _ _ _ _ _ _ us hl => match us, hl with | [_], _ => rfl) fun cdv A outer s H E xp ft po => ?_
  exact (pds_cons (pds_set (i := 1) sc__law_text.nd rfl (by first | exact Or.inl rfl | exact Or.inr rfl) (pd_new pda_nil))
    (pds_cons (pds_forL po rfl (pd_sortIX rfl hdo ft.u (by rfl) Z.b_sorted (pd_ixK ft.u (pd_var (i := 0) rfl (by first | exact Or.inl rfl | exact Or.inr (Or.inl rfl) | exact Or.inr (Or.inr rfl))) pd_str)) (pg_tup rfl (pgs_cons (pg_name (i := 2) sc__law_text.nd rfl (by first | exact Or.inl rfl | exact Or.inr rfl)) (pgs_cons (pg_name (i := 3) sc__law_text.nd rfl (by first | exact Or.inl rfl | exact Or.inr rfl)) pgs_nil))) (tg_tup rfl [2, 3] rfl)
    (pds_one (pds_drop (pd_bm mt_app (pd_var (i := 1) rfl (by first | exact Or.inl rfl | exact Or.inr (Or.inl rfl) | exact Or.inr (Or.inr rfl))) (pda_cons (pd_bm mt_joinD pd_str (pda_cons (pd_add (pd_lst (pda_cons (pd_joined (.cons (pd_fmt (pd_ix (pd_var (i := 2) rfl (by first | exact Or.inl rfl | exact Or.inr (Or.inl rfl) | exact Or.inr (Or.inr rfl))) pd_int)) (.cons pd_str (.cons (pd_fmt (pd_ix (pd_var (i := 2) rfl (by first | exact Or.inl rfl | exact Or.inr (Or.inl rfl) | exact Or.inr (Or.inr rfl))) pd_int)) (.cons pd_str .nil))))) pda_nil)) (pd_lc (own := [("_law_one", 4)]) rfl sc__law_text.nd (pdi_tup (pd_var (i := 3) rfl (by first | exact Or.inl rfl | exact Or.inr (Or.inl rfl) | exact Or.inr (Or.inr rfl)))) (blkOk_by rfl) (fun _ _ _ _ _ => pg_name (i := 4) sc__law_text.nd rfl (by first | exact Or.inl rfl | exact Or.inr rfl)) (tg_one 4) (by decide) (fun _ _ _ _ _ => pdts_nil) (fun _ _ _ _ _ => (pd_ty ty_str (by rfl) Z.b_str rfl (pda_cons (pd_var (i := 4) rfl (by first | exact Or.inl rfl | exact Or.inr (Or.inl rfl) | exact Or.inr (Or.inr rfl))) pda_nil))))) pda_nil)) pda_nil)))))
    (pds_one (pds_ret (pd_bm mt_joinD pd_str (pda_cons (pd_var (i := 1) rfl (by first | exact Or.inl rfl | exact Or.inr (Or.inl rfl) | exact Or.inr (Or.inr rfl))) pda_nil))))))
theorem ok_Gone {w : World} {T : Txt} {mg : Str → Option Value} {base : Heap} (Z : Facts T mg) (lk : ∃ fd, FunD T.K "__init__" "Gone.__init__" (defArgs st_Gone) (defBody st_Gone) (defScope st_Gone) [] [] (T.fa 82) fd)
    (hi : PySem.W.findIn T.K (.ref (T.ca 22)) "__init__" = some (some (.ref (T.fa 82)))) (hf : PySem.W.typeIn T.K (.ref (T.fa 82)) = some (.type "function")) : MkE P w T mg base 22 "Gone" ["self", "number", "fate"] ways_Gone := by
  obtain ⟨fd, F⟩ := lk
  refine ⟨⟨T.fa 82, fd, _, _, _, _, PySem.F.excBase_LookupError, Z.i_Gone, hi, hf, ?_, ?_⟩, by rw [Z.f_Gone]; decide, by rw [Z.f_Gone]; decide +kernel, by rw [Z.f_Gone]; rfl, Z.c_Gone⟩
  · refine init_fill (c := 22) (N := ["self", "number", "fate"]) F sc_Gone (by rw [Z.f_Gone]; rfl) (by rw [Z.f_Gone]; simp) (by rw [Z.f_Gone]; decide) fun cdv A outer s H E a ws hl => ?_
    rw [Z.f_Gone] at hl ⊢
    match ws, hl with
    | [y0, y1], _ => exact (pss_fill (i := 1) ⟨_, _, _, PySem.F.store_LookupError, Z.i_Gone, Z.n_Gone _ (by simp)⟩ rfl (by first | exact Or.inl rfl | exact Or.inr (Or.inl rfl) | exact Or.inr (Or.inr rfl)) rfl (by first | exact Or.inl rfl | exact Or.inr (Or.inl rfl) | exact Or.inr (Or.inr rfl)) rfl rfl (pss_fill (i := 2) ⟨_, _, _, PySem.F.store_LookupError, Z.i_Gone, Z.n_Gone _ (by simp)⟩ rfl (by first | exact Or.inl rfl | exact Or.inr (Or.inl rfl) | exact Or.inr (Or.inr rfl)) rfl (by first | exact Or.inl rfl | exact Or.inr (Or.inl rfl) | exact Or.inr (Or.inr rfl)) rfl rfl pss_fill0))
  · intro z hz
    rcases List.mem_cons.mp hz with hz | hz
    · subst hz
      refine bdE_no ge_Gone_2 F (fun r d q => r) (fun _ _ _ {_ _ _ _ _ _} r d q => r) (fun vs zs h1 h2 => by unfold ge_Gone_2; simp [h1, h2]) ?_
      intro kV doc pm an cdv ct self us ws h1 h2
      match us, ws, h1, h2 with
      | [_, _], [], _, _ => rfl
    exact absurd hz List.not_mem_nil
theorem ok_Cellar_bottle {w : World} {T : Txt} {mg : Str → Option Value} {base : Heap} (Z : Facts T mg) (N_Cellar__check_number : DefM P w T mg base 4 1 24 "_check_number" f_Cellar__check_number ways_Cellar__check_number) (l : LkD T 40 "bottle" "Cellar.bottle" st_Cellar_bottle []) (me : Meth T.K (T.ca 1) "bottle" (T.fa 40)) : DefM P w T mg base 5 1 40 "bottle" f_Cellar_bottle ways_Cellar_bottle := by
  refine defM_of (c := 1) (nm := "bottle") (m := m_Cellar_bottle) (k := 4) (N := ["self", "number"]) (ps := ["self", "number"]) (st := st_Cellar_bottle) l me sc_Cellar_bottle (fun fd F z hz => ?_) fun cdv A outer s H E xp ft po => ?_
  · skip
    rcases List.mem_cons.mp hz with hz | hz
    · subst hz
      refine bd_nod (g := fun {α} us ws => gg_Cellar_bottle_1 us [] ws) F (fun r q => r) (fun _ _ _ _ _ _ _ r q => r) (fun vs zs h1 h2 => by unfold gg_Cellar_bottle_1; simp [h1, h2]) ?_
      intro kV doc pm an cdv ct us ws h1 h3
      match us, ws, h1, h3 with
      | [_, _], [], _, _ => rfl
    exact absurd hz List.not_mem_nil
  · exact (pds_cons (pds_drop (pd_methM Z.i_Cellar (by rw [Z.f_Cellar]; decide) N_Cellar__check_number List.mem_cons_self (ft.mono (by decide)) (pd_var (i := 0) rfl (by first | exact Or.inl rfl | exact Or.inr (Or.inl rfl) | exact Or.inr (Or.inr rfl))) (pda_cons (pd_var (i := 1) rfl (by first | exact Or.inl rfl | exact Or.inr (Or.inl rfl) | exact Or.inr (Or.inr rfl))) pda_nil) pdk_nil))
    (pds_one (pds_ret (pd_ix (pd_fld (i := 2) Z.i_Cellar (by rw [Z.f_Cellar]; rfl) (pd_var (i := 0) rfl (by first | exact Or.inl rfl | exact Or.inr (Or.inl rfl) | exact Or.inr (Or.inr rfl)))) (pd_var (i := 1) rfl (by first | exact Or.inl rfl | exact Or.inr (Or.inl rfl) | exact Or.inr (Or.inr rfl)))))))
theorem ok__law_place {w : World} {T : Txt} {mg : Str → Option Value} {base : Heap} (Z : Facts T mg) (D__law_whole : Def P w T mg base 1 50 "_law_whole" ["_law_thing"] f__law_whole) (hdo : T.dto = mdict P w) (l : Lk T 59 "_law_place" "_law_place" st__law_place) (hg : mg "_law_place" = some (.ref (T.fa 59))) : Def P w T mg base 2 59 "_law_place" ["_law_state", "_law_chamber", "_law_board"] f__law_place := by
  refine defD_of (m := m__law_place) (k := 1) (N := ["_law_state", "_law_chamber", "_law_board", "_law_good"]) (ps := ["_law_state", "_law_chamber", "_law_board"]) (st := st__law_place) l hg sc__law_place (fun _ _ _ _ _ _ us hl => match us, hl with | [_, _, _], _ => rfl) fun cdv A outer s H E xp ft po => ?_
  exact (pds_cons (pds_set (i := 3) sc__law_place.nd rfl (by first | exact Or.inl rfl | exact Or.inr rfl) (pd_and (pd_callA D__law_whole (ft.mono (by decide)) (by rfl) (pda_cons (pd_var (i := 1) rfl (by first | exact Or.inl rfl | exact Or.inr (Or.inl rfl) | exact Or.inr (Or.inr rfl))) pda_nil)) (pd_and (pd_callA D__law_whole (ft.mono (by decide)) (by rfl) (pda_cons (pd_var (i := 2) rfl (by first | exact Or.inl rfl | exact Or.inr (Or.inl rfl) | exact Or.inr (Or.inr rfl))) pda_nil)) (pd_last (pd_cmpS (op_dInT ft.u) (osd_inX hdo) (pd_tup (pda_cons (pd_var (i := 1) rfl (by first | exact Or.inl rfl | exact Or.inr (Or.inl rfl) | exact Or.inr (Or.inr rfl))) (pda_cons (pd_var (i := 2) rfl (by first | exact Or.inl rfl | exact Or.inr (Or.inl rfl) | exact Or.inr (Or.inr rfl))) pda_nil))) (pd_ixK ft.u (pd_var (i := 0) rfl (by first | exact Or.inl rfl | exact Or.inr (Or.inl rfl) | exact Or.inr (Or.inr rfl))) pd_str) (by rfl))))))
    (pds_one (pds_ret (pd_ite (pdt_truth (pd_var (i := 3) rfl (by first | exact Or.inl rfl | exact Or.inr (Or.inl rfl) | exact Or.inr (Or.inr rfl)))) pd_non (pd_tup (pda_cons pd_str pda_nil))))))
theorem ok__check_when_and_who {w : World} {T : Txt} {mg : Str → Option Value} {base : Heap} (Z : Facts T mg) (D_is_month : Def P w T mg base 3 2 "is_month" ["thing"] f_is_month) (D_is_word : Def P w T mg base 1 4 "is_word" ["thing", "least", "most"] f_is_word) (l : Lk T 11 "_check_when_and_who" "_check_when_and_who" st__check_when_and_who) (hg : mg "_check_when_and_who" = some (.ref (T.fa 11))) : Def P w T mg base 4 11 "_check_when_and_who" ["month", "who"] f__check_when_and_who := by
  refine defD_of (m := m__check_when_and_who) (k := 3) (N := ["month", "who"]) (ps := ["month", "who"]) (st := st__check_when_and_who) l hg sc__check_when_and_who (fun _ _ _ _ _ _ us hl => match us, hl with | [_, _], _ => rfl) fun cdv A outer s H E xp ft po => ?_
  exact (pds_cons (pds_if (pdt_not (pdt_truth (pd_callA D_is_month (ft.mono (by decide)) (by rfl) (pda_cons (pd_var (i := 0) rfl (by first | exact Or.inl rfl | exact Or.inr (Or.inl rfl) | exact Or.inr (Or.inr rfl))) pda_nil)))) (pds_one (pds_raise rfl ft.tk Z.e_NoMonth Z.c_NoMonth (by rfl))) pds_nil)
    (pds_one (pds_if (pdt_not (pdt_truth (pd_callA D_is_word (ft.mono (by decide)) (by rfl) (pda_cons (pd_var (i := 1) rfl (by first | exact Or.inl rfl | exact Or.inr (Or.inl rfl) | exact Or.inr (Or.inr rfl))) (pda_cons pd_int (pda_cons pd_int pda_nil)))))) (pds_one (pds_raise rfl ft.tk Z.e_NoWho Z.c_NoWho (by rfl))) pds_nil)))
theorem ok__law_cell_at {w : World} {T : Txt} {mg : Str → Option Value} {base : Heap} (Z : Facts T mg) (l : Lk T 47 "_law_cell_at" "_law_cell_at" st__law_cell_at) (hg : mg "_law_cell_at" = some (.ref (T.fa 47))) : Def P w T mg base 1 47 "_law_cell_at" ["_law_script", "_law_k"] f__law_cell_at := by
  refine defD_of (m := m__law_cell_at) (k := 0) (N := ["_law_script", "_law_k"]) (ps := ["_law_script", "_law_k"]) (st := st__law_cell_at) l hg sc__law_cell_at (fun _ _ _ _ _ _ us hl => match us, hl with | [_, _], _ => rfl) fun cdv A outer s H E xp ft po => ?_
  exact (pds_cons (pds_if (pdt_cmp cmp_lt (pd_var (i := 1) rfl (by first | exact Or.inl rfl | exact Or.inr (Or.inl rfl) | exact Or.inr (Or.inr rfl))) (pd_blt (BltD.or blt_len blt_lenK) (by rfl) Z.b_len rfl (pda_cons (pd_var (i := 0) rfl (by first | exact Or.inl rfl | exact Or.inr (Or.inl rfl) | exact Or.inr (Or.inr rfl))) pda_nil)) (by rfl)) (pds_one (pds_ret (pd_ix (pd_var (i := 0) rfl (by first | exact Or.inl rfl | exact Or.inr (Or.inl rfl) | exact Or.inr (Or.inr rfl))) (pd_var (i := 1) rfl (by first | exact Or.inl rfl | exact Or.inr (Or.inl rfl) | exact Or.inr (Or.inr rfl)))))) pds_nil)
    (pds_one (pds_ret pd_int)))
end K11
set_option maxRecDepth 100000
set_option maxHeartbeats 1000000
namespace K11
open PySem PySem.Spec PyProof.Rows L2 Den Cel Ste
theorem ok__law_deed {w : World} {T : Txt} {mg : Str → Option Value} {base : Heap} (Z : Facts T mg) (D__law_mixed : Def P w T mg base 2 52 "_law_mixed" ["_law_pot_here", "_law_some"] f__law_mixed) (D__law_take : Def P w T mg base 1 49 "_law_take" ["_law_pot_here", "_law_far"] f__law_take) (l : Lk T 73 "_law_deed" "_law_deed" st__law_deed) (hg : mg "_law_deed" = some (.ref (T.fa 73))) : Def P w T mg base 3 73 "_law_deed" ["_law_pot_here", "_law_state", "_law_kinds_here"] f__law_deed := by
  refine defD_of (m := m__law_deed) (k := 2) (N := ["_law_pot_here", "_law_state", "_law_kinds_here", "_law_many", "_law_way", "_law_rooms_here", "_law_chamber", "_law_board", "_law_token", "_law_moon", "_law_guest", "_law_some"]) (ps := ["_law_pot_here", "_law_state", "_law_kinds_here"]) (st := st__law_deed) l hg sc__law_deed (fun _ _ _ _ _ _ us hl => match us, hl with | [_, _, _], _ => rfl) fun cdv A outer s H E xp ft po => ?_
  exact (pds_cons (pds_par (pz := ⟨0, 0, 0, 0⟩) (i := 3) (j := 4) rfl sc__law_deed.nd rfl rfl (by decide) rfl rfl (pda_cons (pd_blt (BltD.or blt_len blt_lenK) (by rfl) Z.b_len rfl (pda_cons (pd_ixK ft.u (pd_var (i := 1) rfl (by first | exact Or.inl rfl | exact Or.inr (Or.inl rfl) | exact Or.inr (Or.inr rfl))) pd_str) pda_nil)) (pda_cons (pd_callA D__law_take (ft.mono (by decide)) (by rfl) (pda_cons (pd_var (i := 0) rfl (by first | exact Or.inl rfl | exact Or.inr (Or.inl rfl) | exact Or.inr (Or.inr rfl))) (pda_cons pd_int pda_nil))) pda_nil)) (by rfl))
    (pds_cons (pds_set (i := 5) sc__law_deed.nd rfl (by first | exact Or.inl rfl | exact Or.inr rfl) (pd_ixK ft.u (pd_var (i := 1) rfl (by first | exact Or.inl rfl | exact Or.inr (Or.inl rfl) | exact Or.inr (Or.inr rfl))) pd_str))
    (pds_cons (pds_set (i := 6) sc__law_deed.nd rfl (by first | exact Or.inl rfl | exact Or.inr rfl) (pd_callA D__law_take (ft.mono (by decide)) (by rfl) (pda_cons (pd_var (i := 0) rfl (by first | exact Or.inl rfl | exact Or.inr (Or.inl rfl) | exact Or.inr (Or.inr rfl))) (pda_cons (pd_add (pd_blt (BltD.or blt_len blt_lenK) (by rfl) Z.b_len rfl (pda_cons (pd_var (i := 5) rfl (by first | exact Or.inl rfl | exact Or.inr (Or.inl rfl) | exact Or.inr (Or.inr rfl))) pda_nil)) (pd_ty ty_int (by rfl) Z.b_int rfl (pda_cons (pd_cmpD (cmp_eq ft.u) (pd_callA D__law_take (ft.mono (by decide)) (by rfl) (pda_cons (pd_var (i := 0) rfl (by first | exact Or.inl rfl | exact Or.inr (Or.inl rfl) | exact Or.inr (Or.inr rfl))) (pda_cons pd_int pda_nil))) pd_int (by rfl)) pda_nil))) pda_nil))))
    (pds_cons (pds_set (i := 7) sc__law_deed.nd rfl (by first | exact Or.inl rfl | exact Or.inr rfl) (pd_callA D__law_take (ft.mono (by decide)) (by rfl) (pda_cons (pd_var (i := 0) rfl (by first | exact Or.inl rfl | exact Or.inr (Or.inl rfl) | exact Or.inr (Or.inr rfl))) (pda_cons (pd_add (pd_ix (pd_add (pd_var (i := 5) rfl (by first | exact Or.inl rfl | exact Or.inr (Or.inl rfl) | exact Or.inr (Or.inr rfl))) (pd_tup (pda_cons pd_int pda_nil))) (pd_var (i := 6) rfl (by first | exact Or.inl rfl | exact Or.inr (Or.inl rfl) | exact Or.inr (Or.inr rfl)))) (pd_ty ty_int (by rfl) Z.b_int rfl (pda_cons (pd_cmpD (cmp_eq ft.u) (pd_callA D__law_take (ft.mono (by decide)) (by rfl) (pda_cons (pd_var (i := 0) rfl (by first | exact Or.inl rfl | exact Or.inr (Or.inl rfl) | exact Or.inr (Or.inr rfl))) (pda_cons pd_int pda_nil))) pd_int (by rfl)) pda_nil))) pda_nil))))
    (pds_cons (pds_set (i := 8) sc__law_deed.nd rfl (by first | exact Or.inl rfl | exact Or.inr rfl) (pd_callA D__law_take (ft.mono (by decide)) (by rfl) (pda_cons (pd_var (i := 0) rfl (by first | exact Or.inl rfl | exact Or.inr (Or.inl rfl) | exact Or.inr (Or.inr rfl))) (pda_cons (pd_add (pd_var (i := 3) rfl (by first | exact Or.inl rfl | exact Or.inr (Or.inl rfl) | exact Or.inr (Or.inr rfl))) (pd_ty ty_int (by rfl) Z.b_int rfl (pda_cons (pd_or (pd_cmpD (cmp_eq ft.u) (pd_var (i := 3) rfl (by first | exact Or.inl rfl | exact Or.inr (Or.inl rfl) | exact Or.inr (Or.inr rfl))) pd_int (by rfl)) (pd_last (pd_cmpD (cmp_eq ft.u) (pd_callA D__law_take (ft.mono (by decide)) (by rfl) (pda_cons (pd_var (i := 0) rfl (by first | exact Or.inl rfl | exact Or.inr (Or.inl rfl) | exact Or.inr (Or.inr rfl))) (pda_cons pd_int pda_nil))) pd_int (by rfl)))) pda_nil))) pda_nil))))
    (pds_cons (pds_set (i := 9) sc__law_deed.nd rfl (by first | exact Or.inl rfl | exact Or.inr rfl) (pd_ix (pd_lst (pda_cons (pd_callA D__law_take (ft.mono (by decide)) (by rfl) (pda_cons (pd_var (i := 0) rfl (by first | exact Or.inl rfl | exact Or.inr (Or.inl rfl) | exact Or.inr (Or.inr rfl))) (pda_cons pd_int pda_nil))) (pda_cons pd_int (pda_cons pd_int (pda_cons (pd_neg pd_int) (pda_cons pd_bl pda_nil)))))) (pd_mulA (pd_div (pd_callA D__law_take (ft.mono (by decide)) (by rfl) (pda_cons (pd_var (i := 0) rfl (by first | exact Or.inl rfl | exact Or.inr (Or.inl rfl) | exact Or.inr (Or.inr rfl))) (pda_cons pd_int pda_nil))) pd_int) (pd_ty ty_int (by rfl) Z.b_int rfl (pda_cons (pd_cmpD (cmp_eq ft.u) (pd_callA D__law_take (ft.mono (by decide)) (by rfl) (pda_cons (pd_var (i := 0) rfl (by first | exact Or.inl rfl | exact Or.inr (Or.inl rfl) | exact Or.inr (Or.inr rfl))) (pda_cons pd_int pda_nil))) pd_int (by rfl)) pda_nil)))))
    (pds_cons (pds_set (i := 10) sc__law_deed.nd rfl (by first | exact Or.inl rfl | exact Or.inr rfl) (pd_ix (pd_lst (pda_cons pd_str (pda_cons pd_str (pda_cons pd_str (pda_cons pd_str (pda_cons pd_str (pda_cons pd_str pda_nil))))))) (pd_callA D__law_take (ft.mono (by decide)) (by rfl) (pda_cons (pd_var (i := 0) rfl (by first | exact Or.inl rfl | exact Or.inr (Or.inl rfl) | exact Or.inr (Or.inr rfl))) (pda_cons pd_int pda_nil)))))
    (pds_cons (pds_if (pdt_cmp (cmp_eq ft.u) (pd_callA D__law_take (ft.mono (by decide)) (by rfl) (pda_cons (pd_var (i := 0) rfl (by first | exact Or.inl rfl | exact Or.inr (Or.inl rfl) | exact Or.inr (Or.inr rfl))) (pda_cons pd_int pda_nil))) pd_int (by rfl)) (pds_one (pds_set (i := 10) sc__law_deed.nd rfl (by first | exact Or.inl rfl | exact Or.inr rfl) (pd_ix (pd_lst (pda_cons pd_str (pda_cons pd_str (pda_cons pd_non (pda_cons pd_str pda_nil))))) (pd_callA D__law_take (ft.mono (by decide)) (by rfl) (pda_cons (pd_var (i := 0) rfl (by first | exact Or.inl rfl | exact Or.inr (Or.inl rfl) | exact Or.inr (Or.inr rfl))) (pda_cons pd_int pda_nil)))))) pds_nil)
    (pds_cons (pds_if (pdt_cmp cmp_lt (pd_var (i := 4) rfl (by first | exact Or.inl rfl | exact Or.inr (Or.inl rfl) | exact Or.inr (Or.inr rfl))) pd_int (by rfl)) (pds_one (pds_ret (pd_tup (pda_cons pd_str (pda_cons (pd_ix (pd_var (i := 2) rfl (by first | exact Or.inl rfl | exact Or.inr (Or.inl rfl) | exact Or.inr (Or.inr rfl))) (pd_callA D__law_take (ft.mono (by decide)) (by rfl) (pda_cons (pd_var (i := 0) rfl (by first | exact Or.inl rfl | exact Or.inr (Or.inl rfl) | exact Or.inr (Or.inr rfl))) (pda_cons (pd_blt (BltD.or blt_len blt_lenK) (by rfl) Z.b_len rfl (pda_cons (pd_var (i := 2) rfl (by first | exact Or.inl rfl | exact Or.inr (Or.inl rfl) | exact Or.inr (Or.inr rfl))) pda_nil)) pda_nil)))) (pda_cons (pd_var (i := 6) rfl (by first | exact Or.inl rfl | exact Or.inr (Or.inl rfl) | exact Or.inr (Or.inr rfl))) (pda_cons (pd_var (i := 7) rfl (by first | exact Or.inl rfl | exact Or.inr (Or.inl rfl) | exact Or.inr (Or.inr rfl))) pda_nil))))))) pds_nil)
    (pds_cons (pds_if (pdt_cmp cmp_lt (pd_var (i := 4) rfl (by first | exact Or.inl rfl | exact Or.inr (Or.inl rfl) | exact Or.inr (Or.inr rfl))) pd_int (by rfl)) (pds_one (pds_ret (pd_tup (pda_cons pd_str (pda_cons (pd_var (i := 8) rfl (by first | exact Or.inl rfl | exact Or.inr (Or.inl rfl) | exact Or.inr (Or.inr rfl))) (pda_cons (pd_var (i := 6) rfl (by first | exact Or.inl rfl | exact Or.inr (Or.inl rfl) | exact Or.inr (Or.inr rfl))) (pda_cons (pd_var (i := 7) rfl (by first | exact Or.inl rfl | exact Or.inr (Or.inl rfl) | exact Or.inr (Or.inr rfl))) pda_nil))))))) pds_nil)
    (pds_cons (pds_if (pdt_cmp cmp_lt (pd_var (i := 4) rfl (by first | exact Or.inl rfl | exact Or.inr (Or.inl rfl) | exact Or.inr (Or.inr rfl))) pd_int (by rfl)) (pds_one (pds_ret (pd_tup (pda_cons (pd_ix (pd_lst (pda_cons pd_str (pda_cons pd_str pda_nil))) (pd_sub (pd_var (i := 4) rfl (by first | exact Or.inl rfl | exact Or.inr (Or.inl rfl) | exact Or.inr (Or.inr rfl))) pd_int)) (pda_cons (pd_var (i := 8) rfl (by first | exact Or.inl rfl | exact Or.inr (Or.inl rfl) | exact Or.inr (Or.inr rfl))) (pda_cons (pd_var (i := 9) rfl (by first | exact Or.inl rfl | exact Or.inr (Or.inl rfl) | exact Or.inr (Or.inr rfl))) (pda_cons (pd_var (i := 10) rfl (by first | exact Or.inl rfl | exact Or.inr (Or.inl rfl) | exact Or.inr (Or.inr rfl))) pda_nil))))))) pds_nil)
    (pds_cons (pds_if (pdt_cmp (cmp_eq ft.u) (pd_var (i := 4) rfl (by first | exact Or.inl rfl | exact Or.inr (Or.inl rfl) | exact Or.inr (Or.inr rfl))) pd_int (by rfl)) (pds_one (pds_ret (pd_tup (pda_cons pd_str (pda_cons (pd_var (i := 8) rfl (by first | exact Or.inl rfl | exact Or.inr (Or.inl rfl) | exact Or.inr (Or.inr rfl))) (pda_cons (pd_var (i := 9) rfl (by first | exact Or.inl rfl | exact Or.inr (Or.inl rfl) | exact Or.inr (Or.inr rfl))) pda_nil)))))) pds_nil)
    (pds_cons (pds_if (pdt_w (pdw_and (pdt_cmp (cmp_eq ft.u) (pd_var (i := 4) rfl (by first | exact Or.inl rfl | exact Or.inr (Or.inl rfl) | exact Or.inr (Or.inr rfl))) pd_int (by rfl)) (pdw_and1 (pdt_cmp cmp_gt (pd_var (i := 3) rfl (by first | exact Or.inl rfl | exact Or.inr (Or.inl rfl) | exact Or.inr (Or.inr rfl))) pd_int (by rfl))))) (pds_cons (pds_set (i := 11) sc__law_deed.nd rfl (by first | exact Or.inl rfl | exact Or.inr rfl) (pd_blt (blt_sortD ft.u) (by rfl) Z.b_sorted rfl (pda_cons (pd_slice (pd_callA D__law_mixed (ft.mono (by decide)) (by rfl) (pda_cons (pd_var (i := 0) rfl (by first | exact Or.inl rfl | exact Or.inr (Or.inl rfl) | exact Or.inr (Or.inr rfl))) (pda_cons (pd_lstRg rfl (by rfl) Z.b_list (by rfl) Z.b_range (pd_add (pd_var (i := 3) rfl (by first | exact Or.inl rfl | exact Or.inr (Or.inl rfl) | exact Or.inr (Or.inr rfl))) (pd_ty ty_int (by rfl) Z.b_int rfl (pda_cons (pd_cmpD (cmp_eq ft.u) (pd_callA D__law_take (ft.mono (by decide)) (by rfl) (pda_cons (pd_var (i := 0) rfl (by first | exact Or.inl rfl | exact Or.inr (Or.inl rfl) | exact Or.inr (Or.inr rfl))) (pda_cons pd_int pda_nil))) pd_int (by rfl)) pda_nil)))) pda_nil))) pdo_none (pdo_some (pd_add pd_int (pd_callA D__law_take (ft.mono (by decide)) (by rfl) (pda_cons (pd_var (i := 0) rfl (by first | exact Or.inl rfl | exact Or.inr (Or.inl rfl) | exact Or.inr (Or.inr rfl))) (pda_cons pd_int pda_nil)))))) pda_nil)))
    (pds_one (pds_ret (pd_tup (pda_cons pd_str (pda_cons (pd_ty ty_tuple (by rfl) Z.b_tuple rfl (pda_cons (pd_var (i := 11) rfl (by first | exact Or.inl rfl | exact Or.inr (Or.inl rfl) | exact Or.inr (Or.inr rfl))) pda_nil)) pda_nil)))))) pds_nil)
    (pds_cons (pds_if (pdt_cmp (cmp_eq ft.u) (pd_var (i := 4) rfl (by first | exact Or.inl rfl | exact Or.inr (Or.inl rfl) | exact Or.inr (Or.inr rfl))) pd_int (by rfl)) (pds_one (pds_ret (pd_tup (pda_cons pd_str (pda_cons (pd_var (i := 8) rfl (by first | exact Or.inl rfl | exact Or.inr (Or.inl rfl) | exact Or.inr (Or.inr rfl))) (pda_cons (pd_var (i := 9) rfl (by first | exact Or.inl rfl | exact Or.inr (Or.inl rfl) | exact Or.inr (Or.inr rfl))) (pda_cons (pd_var (i := 10) rfl (by first | exact Or.inl rfl | exact Or.inr (Or.inl rfl) | exact Or.inr (Or.inr rfl))) pda_nil))))))) pds_nil)
    (pds_one (pds_ret (pd_ite (pdt_cmp (cmp_eq ft.u) (pd_var (i := 4) rfl (by first | exact Or.inl rfl | exact Or.inr (Or.inl rfl) | exact Or.inr (Or.inr rfl))) pd_int (by rfl)) (pd_tup (pda_cons pd_str (pda_cons (pd_var (i := 8) rfl (by first | exact Or.inl rfl | exact Or.inr (Or.inl rfl) | exact Or.inr (Or.inr rfl))) pda_nil))) (pd_tup (pda_cons pd_str pda_nil)))))))))))))))))))
theorem ok__law_step {w : World} {T : Txt} {mg : Str → Option Value} {base : Heap} (Z : Facts T mg) (D__law_behind : Def P w T mg base 5 69 "_law_behind" ["_law_past", "_law_deed_here"] f__law_behind) (D__law_met : Def P w T mg base 9 72 "_law_met" ["_law_cellar", "_law_deed_here"] f__law_met) (l : Lk T 74 "_law_step" "_law_step" st__law_step) (hg : mg "_law_step" = some (.ref (T.fa 74))) : Def P w T mg base 10 74 "_law_step" ["_law_cellar", "_law_past", "_law_deed_here"] f__law_step := by
  refine defD_of (m := m__law_step) (k := 9) (N := ["_law_cellar", "_law_past", "_law_deed_here", "_law_due", "_law_kept_here", "_law_found", "_law_told"]) (ps := ["_law_cellar", "_law_past", "_law_deed_here"]) (st := st__law_step) l hg sc__law_step (fun _ _ _ _ _ _ us hl => match us, hl with | [_, _, _], _ => rfl) fun cdv A outer s H E xp ft po => ?_
  exact (pds_cons (pds_par (pz := ⟨0, 0, 0, 0⟩) (i := 3) (j := 4) rfl sc__law_step.nd rfl rfl (by decide) rfl rfl (pda_cons (pd_callA D__law_behind (ft.mono (by decide)) (by rfl) (pda_cons (pd_var (i := 1) rfl (by first | exact Or.inl rfl | exact Or.inr (Or.inl rfl) | exact Or.inr (Or.inr rfl))) (pda_cons (pd_var (i := 2) rfl (by first | exact Or.inl rfl | exact Or.inr (Or.inl rfl) | exact Or.inr (Or.inr rfl))) pda_nil))) (pda_cons (pd_blt (blt_reprA ft.room.gd ft.u) (by rfl) Z.b_repr rfl (pda_cons (pd_var (i := 2) rfl (by first | exact Or.inl rfl | exact Or.inr (Or.inl rfl) | exact Or.inr (Or.inr rfl))) pda_nil)) pda_nil)) (by rfl))
    (pds_cons (pds_set (i := 5) sc__law_step.nd rfl (by first | exact Or.inl rfl | exact Or.inr rfl) (pd_callA D__law_met (ft.mono (by decide)) (by rfl) (pda_cons (pd_var (i := 0) rfl (by first | exact Or.inl rfl | exact Or.inr (Or.inl rfl) | exact Or.inr (Or.inr rfl))) (pda_cons (pd_var (i := 2) rfl (by first | exact Or.inl rfl | exact Or.inr (Or.inl rfl) | exact Or.inr (Or.inr rfl))) pda_nil))))
    (pds_cons (pds_if (pdt_truth (pd_blt (blt_isi Z.own Z.isT) (by rfl) Z.b_isinstance rfl (pda_cons (pd_var (i := 3) rfl (by first | exact Or.inl rfl | exact Or.inr (Or.inl rfl) | exact Or.inr (Or.inr rfl))) (pda_cons (pd_bt (n := "tuple") rfl Z.b_tuple (by rfl)) pda_nil)))) (pds_one (pds_ret (pd_and (pd_cmpD (cmp_eq ft.u) (pd_blt (blt_reprA ft.room.gd ft.u) (by rfl) Z.b_repr rfl (pda_cons (pd_var (i := 5) rfl (by first | exact Or.inl rfl | exact Or.inr (Or.inl rfl) | exact Or.inr (Or.inr rfl))) pda_nil)) (pd_blt (blt_reprA ft.room.gd ft.u) (by rfl) Z.b_repr rfl (pda_cons (pd_var (i := 3) rfl (by first | exact Or.inl rfl | exact Or.inr (Or.inl rfl) | exact Or.inr (Or.inr rfl))) pda_nil)) (by rfl)) (pd_last (pd_cmpD (cmp_eq ft.u) (pd_blt (blt_reprA ft.room.gd ft.u) (by rfl) Z.b_repr rfl (pda_cons (pd_var (i := 2) rfl (by first | exact Or.inl rfl | exact Or.inr (Or.inl rfl) | exact Or.inr (Or.inr rfl))) pda_nil)) (pd_var (i := 4) rfl (by first | exact Or.inl rfl | exact Or.inr (Or.inl rfl) | exact Or.inr (Or.inr rfl))) (by rfl)))))) pds_nil)
    (pds_cons (pds_set (i := 6) sc__law_step.nd rfl (by first | exact Or.inl rfl | exact Or.inr rfl) (pd_ite (pdt_cmp (cmp_eq ft.u) (pd_ix (pd_var (i := 2) rfl (by first | exact Or.inl rfl | exact Or.inr (Or.inl rfl) | exact Or.inr (Or.inr rfl))) pd_int) pd_str (by rfl)) (pd_blt (BltD.or blt_len blt_lenK) (by rfl) Z.b_len rfl (pda_cons (pd_ixK ft.u (pd_ix (pd_var (i := 1) rfl (by first | exact Or.inl rfl | exact Or.inr (Or.inl rfl) | exact Or.inr (Or.inr rfl))) (pd_neg pd_int)) pd_str) pda_nil)) pd_non))
    (pds_cons (pds_if (pdt_cmp (cmp_eq ft.u) (pd_ix (pd_var (i := 2) rfl (by first | exact Or.inl rfl | exact Or.inr (Or.inl rfl) | exact Or.inr (Or.inr rfl))) pd_int) pd_str (by rfl)) (pds_one (pds_drop (pd_bm0 mt_popD (pd_var (i := 1) rfl (by first | exact Or.inl rfl | exact Or.inr (Or.inl rfl) | exact Or.inr (Or.inr rfl)))))) (pds_one (pds_drop (pd_bm mt_app (pd_var (i := 1) rfl (by first | exact Or.inl rfl | exact Or.inr (Or.inl rfl) | exact Or.inr (Or.inr rfl))) (pda_cons (pd_var (i := 3) rfl (by first | exact Or.inl rfl | exact Or.inr (Or.inl rfl) | exact Or.inr (Or.inr rfl))) pda_nil)))))
    (pds_one (pds_ret (pd_and (pd_cmpD (cmp_eq ft.u) (pd_blt (blt_reprA ft.room.gd ft.u) (by rfl) Z.b_repr rfl (pda_cons (pd_var (i := 5) rfl (by first | exact Or.inl rfl | exact Or.inr (Or.inl rfl) | exact Or.inr (Or.inr rfl))) pda_nil)) (pd_blt (blt_reprA ft.room.gd ft.u) (by rfl) Z.b_repr rfl (pda_cons (pd_var (i := 6) rfl (by first | exact Or.inl rfl | exact Or.inr (Or.inl rfl) | exact Or.inr (Or.inr rfl))) pda_nil)) (by rfl)) (pd_last (pd_cmpD (cmp_eq ft.u) (pd_blt (blt_reprA ft.room.gd ft.u) (by rfl) Z.b_repr rfl (pda_cons (pd_var (i := 2) rfl (by first | exact Or.inl rfl | exact Or.inr (Or.inl rfl) | exact Or.inr (Or.inr rfl))) pda_nil)) (pd_var (i := 4) rfl (by first | exact Or.inl rfl | exact Or.inr (Or.inl rfl) | exact Or.inr (Or.inr rfl))) (by rfl)))))))))))
theorem ok_Bottle {w : World} {T : Txt} {mg : Str → Option Value} {base : Heap} (Z : Facts T mg) (D_is_maker : Def P w T mg base 2 5 "is_maker" ["thing"] f_is_maker) (D_is_size : Def P w T mg base 2 7 "is_size" ["thing"] f_is_size) (D_is_year : Def P w T mg base 3 3 "is_year" ["thing"] f_is_year)
    (hm : Mk T.K (T.ca 0) (T.fa 8)) (l : ∃ fd, FunD T.K "__init__" "Bottle.__init__" (defArgs st_Bottle) (defBody st_Bottle) (defScope st_Bottle) [.int 75] [] (T.fa 8) fd) : Mk_Bottle P w T mg base := by
  obtain ⟨fd, F⟩ := l
  refine ⟨fd, hm, fnD_ofF (m := m_Bottle) (k := 3) (N := ["self", "maker", "year", "size"]) (ps := ["self", "maker", "year", "size"]) F sc_Bottle fun cdv A outer s H E xp ft => ?_, ?_⟩
  · exact (pds_cons (pds_if (pdt_not (pdt_truth (pd_callA D_is_maker (ft.mono (by decide)) (by rfl) (pda_cons (pd_var (i := 1) rfl (by first | exact Or.inl rfl | exact Or.inr (Or.inl rfl) | exact Or.inr (Or.inr rfl))) pda_nil)))) (pds_one (pds_raise rfl ft.tk Z.e_NoMaker Z.c_NoMaker (by rfl))) pds_nil)
    (pds_cons (pds_if (pdt_not (pdt_truth (pd_callA D_is_year (ft.mono (by decide)) (by rfl) (pda_cons (pd_var (i := 2) rfl (by first | exact Or.inl rfl | exact Or.inr (Or.inl rfl) | exact Or.inr (Or.inr rfl))) pda_nil)))) (pds_one (pds_raise rfl ft.tk Z.e_NoYear Z.c_NoYear (by rfl))) pds_nil)
    (pds_cons (pds_if (pdt_not (pdt_truth (pd_callA D_is_size (ft.mono (by decide)) (by rfl) (pda_cons (pd_var (i := 3) rfl (by first | exact Or.inl rfl | exact Or.inr (Or.inl rfl) | exact Or.inr (Or.inr rfl))) pda_nil)))) (pds_one (pds_raise rfl ft.tk Z.e_NoSize Z.c_NoSize (by rfl))) pds_nil)
    (pds_cons (pds_setF (i := 0) Z.i_Bottle (by rw [Z.f_Bottle]; rfl) (pd_var (i := 0) rfl (by first | exact Or.inl rfl | exact Or.inr (Or.inl rfl) | exact Or.inr (Or.inr rfl))) (pd_var (i := 1) rfl (by first | exact Or.inl rfl | exact Or.inr (Or.inl rfl) | exact Or.inr (Or.inr rfl))))
    (pds_cons (pds_setF (i := 1) Z.i_Bottle (by rw [Z.f_Bottle]; rfl) (pd_var (i := 0) rfl (by first | exact Or.inl rfl | exact Or.inr (Or.inl rfl) | exact Or.inr (Or.inr rfl))) (pd_var (i := 2) rfl (by first | exact Or.inl rfl | exact Or.inr (Or.inl rfl) | exact Or.inr (Or.inr rfl))))
    (pds_one (pds_setF (i := 2) Z.i_Bottle (by rw [Z.f_Bottle]; rfl) (pd_var (i := 0) rfl (by first | exact Or.inl rfl | exact Or.inr (Or.inl rfl) | exact Or.inr (Or.inr rfl))) (pd_var (i := 3) rfl (by first | exact Or.inl rfl | exact Or.inr (Or.inl rfl) | exact Or.inr (Or.inr rfl))))))))))
  · refine bd_dfl (dds := [.int 75]) gB_Bottle_2_size F (by simp) (fun _ _ _ => .cons (.int 75) .nil) (fun r d q => r.append ((q.drop 0).take 1)) (fun _ _ _ _ _ _ _ _ _ r d q => r.append ((q.drop 0).take 1)) (fun vs zs h1 h2 => by unfold gB_Bottle_2_size; simp [h1, h2]) ?_
    intro D kV doc pm an cdv ct us its ws h1 h2 h3
    match us, its, ws, h1, h2, h3 with
    | [_, _, _], [_], [_], _, _, _ => exact ⟨_, rfl, rfl⟩
theorem ok_Cellar__check_lies {w : World} {T : Txt} {mg : Str → Option Value} {base : Heap} (Z : Facts T mg) (N_Cellar__check_number : DefM P w T mg base 4 1 24 "_check_number" f_Cellar__check_number ways_Cellar__check_number) (M_Gone : MkE P w T mg base 22 "Gone" ["self", "number", "fate"] ways_Gone) (l : LkD T 25 "_check_lies" "Cellar._check_lies" st_Cellar__check_lies []) (me : Meth T.K (T.ca 1) "_check_lies" (T.fa 25)) : DefM P w T mg base 5 1 25 "_check_lies" f_Cellar__check_lies ways_Cellar__check_lies := by
  refine defM_of (c := 1) (nm := "_check_lies") (m := m_Cellar__check_lies) (k := 4) (N := ["self", "number"]) (ps := ["self", "number"]) (st := st_Cellar__check_lies) l me sc_Cellar__check_lies (fun fd F z hz => ?_) fun cdv A outer s H E xp ft po => ?_
  · skip
    rcases List.mem_cons.mp hz with hz | hz
    · subst hz
      refine bd_nod (g := fun {α} us ws => gg_Cellar__check_lies_1 us [] ws) F (fun r q => r) (fun _ _ _ _ _ _ _ r q => r) (fun vs zs h1 h2 => by unfold gg_Cellar__check_lies_1; simp [h1, h2]) ?_
      intro kV doc pm an cdv ct us ws h1 h3
      match us, ws, h1, h3 with
      | [_, _], [], _, _ => rfl
    exact absurd hz List.not_mem_nil
  · exact (pds_cons (pds_drop (pd_methM Z.i_Cellar (by rw [Z.f_Cellar]; decide) N_Cellar__check_number List.mem_cons_self (ft.mono (by decide)) (pd_var (i := 0) rfl (by first | exact Or.inl rfl | exact Or.inr (Or.inl rfl) | exact Or.inr (Or.inr rfl))) (pda_cons (pd_var (i := 1) rfl (by first | exact Or.inl rfl | exact Or.inr (Or.inl rfl) | exact Or.inr (Or.inr rfl))) pda_nil) pdk_nil))
    (pds_one (pds_if (pdt_cmp cmp_isnot (pd_ix (pd_fld (i := 4) Z.i_Cellar (by rw [Z.f_Cellar]; rfl) (pd_var (i := 0) rfl (by first | exact Or.inl rfl | exact Or.inr (Or.inl rfl) | exact Or.inr (Or.inr rfl)))) (pd_var (i := 1) rfl (by first | exact Or.inl rfl | exact Or.inr (Or.inl rfl) | exact Or.inr (Or.inr rfl)))) pd_non (by rfl)) (pds_one (pds_raiseE M_Gone List.mem_cons_self (ft.mono (by decide)) rfl (by rw [Z.f_Gone]; decide) Z.b1_Gone Z.b2_Gone (by rfl) (pda_cons (pd_var (i := 1) rfl (by first | exact Or.inl rfl | exact Or.inr (Or.inl rfl) | exact Or.inr (Or.inr rfl))) (pda_cons (pd_ix (pd_fld (i := 4) Z.i_Cellar (by rw [Z.f_Cellar]; rfl) (pd_var (i := 0) rfl (by first | exact Or.inl rfl | exact Or.inr (Or.inl rfl) | exact Or.inr (Or.inr rfl)))) (pd_var (i := 1) rfl (by first | exact Or.inl rfl | exact Or.inr (Or.inl rfl) | exact Or.inr (Or.inr rfl)))) pda_nil)) pdk_nil (by decide))) pds_nil)))
theorem ok_Cellar_counts {w : World} {T : Txt} {mg : Str → Option Value} {base : Heap} (Z : Facts T mg) (l : LkD T 44 "counts" "Cellar.counts" st_Cellar_counts []) (me : Meth T.K (T.ca 1) "counts" (T.fa 44)) : DefM P w T mg base 1 1 44 "counts" f_Cellar_counts ways_Cellar_counts := by
  refine defM_of (c := 1) (nm := "counts") (m := m_Cellar_counts) (k := 0) (N := ["self", "shelves", "row"]) (ps := ["self"]) (st := st_Cellar_counts) l me sc_Cellar_counts (fun fd F z hz => ?_) fun cdv A outer s H E xp ft po => ?_
  · skip
    rcases List.mem_cons.mp hz with hz | hz
    · subst hz
      refine bd_nod (g := fun {α} us ws => gg_Cellar_counts_0 us [] ws) F (fun r q => r) (fun _ _ _ _ _ _ _ r q => r) (fun vs zs h1 h2 => by unfold gg_Cellar_counts_0; simp [h1, h2]) ?_
      intro kV doc pm an cdv ct us ws h1 h3
      match us, ws, h1, h3 with
      | [_], [], _, _ => rfl
    exact absurd hz List.not_mem_nil
  · exact (pds_one (pds_ret (pd_ty ty_tuple (by rfl) Z.b_tuple rfl (pda_cons (pd_lc (own := [("shelves", 1)]) rfl sc_Cellar_counts.nd (pdi_tup (pd_fld (i := 3) Z.i_Cellar (by rw [Z.f_Cellar]; rfl) (pd_var (i := 0) rfl (by first | exact Or.inl rfl | exact Or.inr (Or.inl rfl) | exact Or.inr (Or.inr rfl))))) (blkOk_by rfl) (fun _ _ _ _ _ => pg_name (i := 1) sc_Cellar_counts.nd rfl (by first | exact Or.inl rfl | exact Or.inr rfl)) (tg_one 1) (by decide) (fun _ _ _ _ _ => pdts_nil) (fun _ _ _ _ _ => (pd_ty ty_tuple (by rfl) Z.b_tuple rfl (pda_cons (pd_lc (own := [("row", 2)]) rfl sc_Cellar_counts.nd (pdi_tup (pd_var (i := 1) rfl (by first | exact Or.inl rfl | exact Or.inr (Or.inl rfl) | exact Or.inr (Or.inr rfl)))) (blkOk_by rfl) (fun _ _ _ _ _ => pg_name (i := 2) sc_Cellar_counts.nd rfl (by first | exact Or.inl rfl | exact Or.inr rfl)) (tg_one 2) (by decide) (fun _ _ _ _ _ => pdts_nil) (fun _ _ _ _ _ => (pd_blt blt_len (by rfl) Z.b_len rfl (pda_cons (pd_var (i := 2) rfl (by first | exact Or.inl rfl | exact Or.inr (Or.inl rfl) | exact Or.inr (Or.inr rfl))) pda_nil)))) pda_nil)))) pda_nil))))
theorem ok_Kept {w : World} {T : Txt} {mg : Str → Option Value} {base : Heap} (Z : Facts T mg) (lk : ∃ fd, FunD T.K "__init__" "Kept.__init__" (defArgs st_Kept) (defBody st_Kept) (defScope st_Kept) [] [] (T.fa 83) fd)
    (hi : PySem.W.findIn T.K (.ref (T.ca 23)) "__init__" = some (some (.ref (T.fa 83)))) (hf : PySem.W.typeIn T.K (.ref (T.fa 83)) = some (.type "function")) : MkE P w T mg base 23 "Kept" ["self", "number", "others"] ways_Kept := by
  obtain ⟨fd, F⟩ := lk
  refine ⟨⟨T.fa 83, fd, _, _, _, _, PySem.F.excBase_LookupError, Z.i_Kept, hi, hf, ?_, ?_⟩, by rw [Z.f_Kept]; decide, by rw [Z.f_Kept]; decide +kernel, by rw [Z.f_Kept]; rfl, Z.c_Kept⟩
  · refine init_fill (c := 23) (N := ["self", "number", "others"]) F sc_Kept (by rw [Z.f_Kept]; rfl) (by rw [Z.f_Kept]; simp) (by rw [Z.f_Kept]; decide) fun cdv A outer s H E a ws hl => ?_
    rw [Z.f_Kept] at hl ⊢
    match ws, hl with
    | [y0, y1], _ => exact (pss_fill (i := 1) ⟨_, _, _, PySem.F.store_LookupError, Z.i_Kept, Z.n_Kept _ (by simp)⟩ rfl (by first | exact Or.inl rfl | exact Or.inr (Or.inl rfl) | exact Or.inr (Or.inr rfl)) rfl (by first | exact Or.inl rfl | exact Or.inr (Or.inl rfl) | exact Or.inr (Or.inr rfl)) rfl rfl (pss_fill (i := 2) ⟨_, _, _, PySem.F.store_LookupError, Z.i_Kept, Z.n_Kept _ (by simp)⟩ rfl (by first | exact Or.inl rfl | exact Or.inr (Or.inl rfl) | exact Or.inr (Or.inr rfl)) rfl (by first | exact Or.inl rfl | exact Or.inr (Or.inl rfl) | exact Or.inr (Or.inr rfl)) rfl rfl pss_fill0))
  · intro z hz
    rcases List.mem_cons.mp hz with hz | hz
    · subst hz
      refine bdE_no ge_Kept_2 F (fun r d q => r) (fun _ _ _ {_ _ _ _ _ _} r d q => r) (fun vs zs h1 h2 => by unfold ge_Kept_2; simp [h1, h2]) ?_
      intro kV doc pm an cdv ct self us ws h1 h2
      match us, ws, h1, h2 with
      | [_, _], [], _, _ => rfl
    exact absurd hz List.not_mem_nil
theorem ok__are_rooms {w : World} {T : Txt} {mg : Str → Option Value} {base : Heap} (Z : Facts T mg) (D_is_within : Def P w T mg base 2 1 "is_within" ["thing", "least", "most"] f_is_within) (l : Lk T 10 "_are_rooms" "_are_rooms" st__are_rooms) (hg : mg "_are_rooms" = some (.ref (T.fa 10))) : Def P w T mg base 3 10 "_are_rooms" ["thing"] f__are_rooms := by
  refine defD_of (m := m__are_rooms) (k := 2) (N := ["thing", "shelves"]) (ps := ["thing"]) (st := st__are_rooms) l hg sc__are_rooms (fun _ _ _ _ _ _ us hl => match us, hl with | [_], _ => rfl) fun cdv A outer s H E xp ft po => ?_
  exact (pds_cons (pds_if (pdt_w (pdw_or (pdt_not (pdt_truth (pd_blt (blt_isi Z.own Z.isT) (by rfl) Z.b_isinstance rfl (pda_cons (pd_var (i := 0) rfl (by first | exact Or.inl rfl | exact Or.inr (Or.inl rfl) | exact Or.inr (Or.inr rfl))) (pda_cons (pd_bt (n := "tuple") rfl Z.b_tuple (by rfl)) pda_nil))))) (pdw_or1 (pdt_not (pdt_chain cmp_le cmp_le pd_int (pd_blt blt_len (by rfl) Z.b_len rfl (pda_cons (pd_var (i := 0) rfl (by first | exact Or.inl rfl | exact Or.inr (Or.inl rfl) | exact Or.inr (Or.inr rfl))) pda_nil)) pd_int))))) (pds_one (pds_ret pd_bl)) pds_nil)
    (pds_one (pds_ret (pd_blt (blt_all rfl) (by rfl) Z.b_all rfl (pda_cons (pd_lc (own := [("shelves", 1)]) rfl sc__are_rooms.nd (pdi_tup (pd_var (i := 0) rfl (by first | exact Or.inl rfl | exact Or.inr (Or.inl rfl) | exact Or.inr (Or.inr rfl)))) (blkOk_by rfl) (fun _ _ _ _ _ => pg_name (i := 1) sc__are_rooms.nd rfl (by first | exact Or.inl rfl | exact Or.inr rfl)) (tg_one 1) (by decide) (fun _ _ _ _ _ => pdts_nil) (fun _ _ _ _ _ => (pd_callA D_is_within ((ft.blk _ _ _ _ _ _).mono (by decide)) (by rfl) (pda_cons (pd_var (i := 1) rfl (by first | exact Or.inl rfl | exact Or.inr (Or.inl rfl) | exact Or.inr (Or.inr rfl))) (pda_cons pd_int (pda_cons pd_int pda_nil)))))) pda_nil)))))
theorem ok_is_word {w : World} {T : Txt} {mg : Str → Option Value} {base : Heap} (Z : Facts T mg) (l : Lk T 4 "is_word" "is_word" st_is_word) (hg : mg "is_word" = some (.ref (T.fa 4))) : Def P w T mg base 1 4 "is_word" ["thing", "least", "most"] f_is_word := by
  refine defD_of (m := m_is_word) (k := 0) (N := ["thing", "least", "most", "sign"]) (ps := ["thing", "least", "most"]) (st := st_is_word) l hg sc_is_word (fun _ _ _ _ _ _ us hl => match us, hl with | [_, _, _], _ => rfl) fun cdv A outer s H E xp ft po => ?_
  exact (pds_cons (pds_if (pdt_w (pdw_or (pdt_not (pdt_truth (pd_blt (blt_isi Z.own Z.isT) (by rfl) Z.b_isinstance rfl (pda_cons (pd_var (i := 0) rfl (by first | exact Or.inl rfl | exact Or.inr (Or.inl rfl) | exact Or.inr (Or.inr rfl))) (pda_cons (pd_bt (n := "str") rfl Z.b_str (by rfl)) pda_nil))))) (pdw_or1 (pdt_not (pdt_chain cmp_le cmp_le (pd_var (i := 1) rfl (by first | exact Or.inl rfl | exact Or.inr (Or.inl rfl) | exact Or.inr (Or.inr rfl))) (pd_blt blt_len (by rfl) Z.b_len rfl (pda_cons (pd_var (i := 0) rfl (by first | exact Or.inl rfl | exact Or.inr (Or.inl rfl) | exact Or.inr (Or.inr rfl))) pda_nil)) (pd_var (i := 2) rfl (by first | exact Or.inl rfl | exact Or.inr (Or.inl rfl) | exact Or.inr (Or.inr rfl)))))))) (pds_one (pds_ret pd_bl)) pds_nil)
    (pds_one (pds_ret (pd_blt (blt_all rfl) (by rfl) Z.b_all rfl (pda_cons (pd_lcS (own := [("sign", 3)]) rfl sc_is_word.nd (pd_var (i := 0) rfl (by first | exact Or.inl rfl | exact Or.inr (Or.inl rfl) | exact Or.inr (Or.inr rfl))) (blkOk_by rfl) (fun _ _ _ _ _ => pg_name (i := 3) sc_is_word.nd rfl (by first | exact Or.inl rfl | exact Or.inr rfl)) (tg_one 3) (by decide) (fun _ _ _ _ _ => pdts_nil) (fun _ _ _ _ _ => (pd_chain cmp_le cmp_le pd_str (pd_var (i := 3) rfl (by first | exact Or.inl rfl | exact Or.inr (Or.inl rfl) | exact Or.inr (Or.inr rfl))) pd_str))) pda_nil)))))
theorem ok__law_when {w : World} {T : Txt} {mg : Str → Option Value} {base : Heap} (Z : Facts T mg) (D__law_is_who : Def P w T mg base 1 57 "_law_is_who" ["_law_thing"] f__law_is_who) (D__law_within : Def P w T mg base 2 51 "_law_within" ["_law_thing", "_law_low", "_law_high"] f__law_within) (l : Lk T 60 "_law_when" "_law_when" st__law_when) (hg : mg "_law_when" = some (.ref (T.fa 60))) : Def P w T mg base 3 60 "_law_when" ["_law_moon", "_law_guest"] f__law_when := by
  refine defD_of (m := m__law_when) (k := 2) (N := ["_law_moon", "_law_guest"]) (ps := ["_law_moon", "_law_guest"]) (st := st__law_when) l hg sc__law_when (fun _ _ _ _ _ _ us hl => match us, hl with | [_, _], _ => rfl) fun cdv A outer s H E xp ft po => ?_
  exact (pds_cons (pds_if (pdt_not (pdt_truth (pd_callA D__law_within (ft.mono (by decide)) (by rfl) (pda_cons (pd_var (i := 0) rfl (by first | exact Or.inl rfl | exact Or.inr (Or.inl rfl) | exact Or.inr (Or.inr rfl))) (pda_cons pd_int (pda_cons pd_int pda_nil)))))) (pds_one (pds_ret (pd_tup (pda_cons pd_str pda_nil)))) pds_nil)
    (pds_one (pds_ret (pd_ite (pdt_truth (pd_callA D__law_is_who (ft.mono (by decide)) (by rfl) (pda_cons (pd_var (i := 1) rfl (by first | exact Or.inl rfl | exact Or.inr (Or.inl rfl) | exact Or.inr (Or.inr rfl))) pda_nil))) pd_non (pd_tup (pda_cons pd_str pda_nil))))))
theorem ok__law_whole {w : World} {T : Txt} {mg : Str → Option Value} {base : Heap} (Z : Facts T mg) (l : Lk T 50 "_law_whole" "_law_whole" st__law_whole) (hg : mg "_law_whole" = some (.ref (T.fa 50))) : Def P w T mg base 1 50 "_law_whole" ["_law_thing"] f__law_whole := by
  refine defD_of (m := m__law_whole) (k := 0) (N := ["_law_thing"]) (ps := ["_law_thing"]) (st := st__law_whole) l hg sc__law_whole (fun _ _ _ _ _ _ us hl => match us, hl with | [_], _ => rfl) fun cdv A outer s H E xp ft po => ?_
  exact (pds_one (pds_ret (pd_and (pd_blt (blt_isi Z.own Z.isT) (by rfl) Z.b_isinstance rfl (pda_cons (pd_var (i := 0) rfl (by first | exact Or.inl rfl | exact Or.inr (Or.inl rfl) | exact Or.inr (Or.inr rfl))) (pda_cons (pd_bt (n := "int") rfl Z.b_int (by rfl)) pda_nil))) (pd_last (pd_not (pd_blt (blt_isi Z.own Z.isT) (by rfl) Z.b_isinstance rfl (pda_cons (pd_var (i := 0) rfl (by first | exact Or.inl rfl | exact Or.inr (Or.inl rfl) | exact Or.inr (Or.inr rfl))) (pda_cons (pd_bt (n := "bool") rfl Z.b_bool (by rfl)) pda_nil))))))))
theorem ok_is_maker {w : World} {T : Txt} {mg : Str → Option Value} {base : Heap} (Z : Facts T mg) (D_is_word : Def P w T mg base 1 4 "is_word" ["thing", "least", "most"] f_is_word) (l : Lk T 5 "is_maker" "is_maker" st_is_maker) (hg : mg "is_maker" = some (.ref (T.fa 5))) : Def P w T mg base 2 5 "is_maker" ["thing"] f_is_maker := by
  refine defD_of (m := m_is_maker) (k := 1) (N := ["thing"]) (ps := ["thing"]) (st := st_is_maker) l hg sc_is_maker (fun _ _ _ _ _ _ us hl => match us, hl with | [_], _ => rfl) fun cdv A outer s H E xp ft po => ?_
  exact (pds_one (pds_ret (pd_callA D_is_word (ft.mono (by decide)) (by rfl) (pda_cons (pd_var (i := 0) rfl (by first | exact Or.inl rfl | exact Or.inr (Or.inl rfl) | exact Or.inr (Or.inr rfl))) (pda_cons pd_int (pda_cons pd_int pda_nil))))))
end K11
set_option maxRecDepth 100000
set_option maxHeartbeats 1000000
namespace K11
open PySem PySem.Spec PyProof.Rows L2 Den Cel Ste
theorem ok__law_says {w : World} {T : Txt} {mg : Str → Option Value} {base : Heap} (Z : Facts T mg) (D__law_here : Def P w T mg base 1 75 "_law_here" ["_law_state"] f__law_here) (O_Cellar___len__ : DefO P w T mg base 2 1 19 "__len__" 1 f_Cellar___len__) (O_Cellar___str__ : DefO P w T mg base 2 1 17 "__str__" 1 f_Cellar___str__) (N_Cellar_became : DefM P w T mg base 5 1 42 "became" f_Cellar_became ways_Cellar_became) (N_Cellar_bottle : DefM P w T mg base 5 1 40 "bottle" f_Cellar_bottle ways_Cellar_bottle) (N_Cellar_counts : DefM P w T mg base 1 1 44 "counts" f_Cellar_counts ways_Cellar_counts) (N_Cellar_place : DefM P w T mg base 5 1 41 "place" f_Cellar_place ways_Cellar_place) (N_Cellar_row : DefM P w T mg base 5 1 43 "row" f_Cellar_row ways_Cellar_row) (N_Cellar_set_of : DefM P w T mg base 6 1 46 "set_of" f_Cellar_set_of ways_Cellar_set_of) (N_Cellar_twins : DefM P w T mg base 6 1 45 "twins" f_Cellar_twins ways_Cellar_twins) (hdo : T.dto = mdict P w) (l : Lk T 78 "_law_says" "_law_says" st__law_says) (hg : mg "_law_says" = some (.ref (T.fa 78))) : Def P w T mg base 7 78 "_law_says" ["_law_cellar", "_law_state"] f__law_says := by
  refine defD_of (m := m__law_says) (k := 6) (N := ["_law_cellar", "_law_state", "_law_many", "_law_lists", "_law_found", "_law_bottles", "_law_chamber", "_law_board", "_law_token", "_law_row", "_law_one"]) (ps := ["_law_cellar", "_law_state"]) (st := st__law_says) l hg sc__law_says (fun _ _ _ _ _ _ us hl => match us, hl with | [_, _], _ => rfl) fun cdv A outer s H E xp ft po => ?_
  exact (pds_cons (pds_par (pz := ⟨0, 0, 0, 0⟩) (i := 2) (j := 3) rfl sc__law_says.nd rfl rfl (by decide) rfl rfl (pda_cons (pd_blt (BltD.or blt_len blt_lenK) (by rfl) Z.b_len rfl (pda_cons (pd_ixK ft.u (pd_var (i := 1) rfl (by first | exact Or.inl rfl | exact Or.inr (Or.inl rfl) | exact Or.inr (Or.inr rfl))) pd_str) pda_nil)) (pda_cons (pd_new pda_nil) pda_nil)) (by rfl))
    (pds_cons (pds_set (i := 4) sc__law_says.nd rfl (by first | exact Or.inl rfl | exact Or.inr rfl) (pd_lst (pda_cons (pd_blt (bltL_own O_Cellar___len__ (ft.mono (by decide))) (by rfl) Z.b_len rfl (pda_cons (pd_var (i := 0) rfl (by first | exact Or.inl rfl | exact Or.inr (Or.inl rfl) | exact Or.inr (Or.inr rfl))) pda_nil)) (pda_cons (pd_ty (tyS_own O_Cellar___str__ (ft.mono (by decide))) (by rfl) Z.b_str rfl (pda_cons (pd_var (i := 0) rfl (by first | exact Or.inl rfl | exact Or.inr (Or.inl rfl) | exact Or.inr (Or.inr rfl))) pda_nil)) (pda_cons (pd_ty ty_tuple (by rfl) Z.b_tuple rfl (pda_cons (pd_lcR1 (own := [("_law_token", 8)]) rfl sc__law_says.nd (by rfl) Z.b_range (pda_cons (pd_var (i := 2) rfl (by first | exact Or.inl rfl | exact Or.inr (Or.inl rfl) | exact Or.inr (Or.inr rfl))) pda_nil) (blkOk_by rfl) (fun _ _ _ _ _ => pg_name (i := 8) sc__law_says.nd rfl (by first | exact Or.inl rfl | exact Or.inr rfl)) (tg_one 8) (by decide) (fun _ _ _ _ _ => pdts_nil) (fun _ _ _ _ _ => (pd_methM Z.i_Cellar (by rw [Z.f_Cellar]; decide) N_Cellar_became List.mem_cons_self ((ft.blk _ _ _ _ _ _).mono (by decide)) (pd_var (i := 0) rfl (by first | exact Or.inl rfl | exact Or.inr (Or.inl rfl) | exact Or.inr (Or.inr rfl))) (pda_cons (pd_var (i := 8) rfl (by first | exact Or.inl rfl | exact Or.inr (Or.inl rfl) | exact Or.inr (Or.inr rfl))) pda_nil) pdk_nil))) pda_nil)) pda_nil)))))
    (pds_cons (pds_setLc (i := 5) (own := [("_law_token", 8)]) rfl sc__law_says.nd rfl rfl (pdi_R1 (by rfl) Z.b_range (pda_cons (pd_var (i := 2) rfl (by first | exact Or.inl rfl | exact Or.inr (Or.inl rfl) | exact Or.inr (Or.inr rfl))) pda_nil)) (blkOk_by rfl) (fun _ _ _ _ _ => pg_name (i := 8) sc__law_says.nd rfl (by first | exact Or.inl rfl | exact Or.inr rfl)) (tg_one 8) (by decide) (fun _ _ _ _ _ => pdts_nil) (fun _ _ _ _ _ => (pd_methM Z.i_Cellar (by rw [Z.f_Cellar]; decide) N_Cellar_bottle List.mem_cons_self ((ft.blk _ _ _ _ _ _).mono (by decide)) (pd_var (i := 0) rfl (by first | exact Or.inl rfl | exact Or.inr (Or.inl rfl) | exact Or.inr (Or.inr rfl))) (pda_cons (pd_var (i := 8) rfl (by first | exact Or.inl rfl | exact Or.inr (Or.inl rfl) | exact Or.inr (Or.inr rfl))) pda_nil) pdk_nil)))
    (pds_cons (pds_set (i := 4) sc__law_says.nd rfl (by first | exact Or.inl rfl | exact Or.inr rfl) (pd_catN (pd_var (i := 4) rfl (by first | exact Or.inl rfl | exact Or.inr (Or.inl rfl) | exact Or.inr (Or.inr rfl))) (pd_lst (pda_cons (pd_ty ty_tuple (by rfl) Z.b_tuple rfl (pda_cons (pd_lcL (own := [("_law_one", 10)]) rfl sc__law_says.nd (pd_var (i := 5) rfl (by first | exact Or.inl rfl | exact Or.inr (Or.inl rfl) | exact Or.inr (Or.inr rfl))) (blkOk_by rfl) (fun _ _ _ _ _ => pg_name (i := 10) sc__law_says.nd rfl (by first | exact Or.inl rfl | exact Or.inr rfl)) (tg_one 10) (by decide) (fun _ _ _ _ _ => pdts_nil) (fun _ _ _ _ _ => (pd_tup (pda_cons (pd_fld (i := 0) Z.i_Bottle (by rw [Z.f_Bottle]; rfl) (pd_var (i := 10) rfl (by first | exact Or.inl rfl | exact Or.inr (Or.inl rfl) | exact Or.inr (Or.inr rfl)))) (pda_cons (pd_fld (i := 1) Z.i_Bottle (by rw [Z.f_Bottle]; rfl) (pd_var (i := 10) rfl (by first | exact Or.inl rfl | exact Or.inr (Or.inl rfl) | exact Or.inr (Or.inr rfl)))) (pda_cons (pd_fld (i := 2) Z.i_Bottle (by rw [Z.f_Bottle]; rfl) (pd_var (i := 10) rfl (by first | exact Or.inl rfl | exact Or.inr (Or.inl rfl) | exact Or.inr (Or.inr rfl)))) pda_nil)))))) pda_nil)) (pda_cons (pd_methM0 Z.i_Cellar (by rw [Z.f_Cellar]; decide) N_Cellar_counts List.mem_cons_self (ft.mono (by decide)) (pd_var (i := 0) rfl (by first | exact Or.inl rfl | exact Or.inr (Or.inl rfl) | exact Or.inr (Or.inr rfl)))  pdk_nil) pda_nil)))))
    (pds_cons (pds_forL po rfl (pd_blt (blt_sortT rfl hdo ft.u) (by rfl) Z.b_sorted rfl (pda_cons (pd_ixK ft.u (pd_var (i := 1) rfl (by first | exact Or.inl rfl | exact Or.inr (Or.inl rfl) | exact Or.inr (Or.inr rfl))) pd_str) pda_nil)) (pg_tup rfl (pgs_cons (pg_name (i := 6) sc__law_says.nd rfl (by first | exact Or.inl rfl | exact Or.inr rfl)) (pgs_cons (pg_name (i := 7) sc__law_says.nd rfl (by first | exact Or.inl rfl | exact Or.inr rfl)) pgs_nil))) (tg_tup rfl [6, 7] rfl)
    (pds_cons (pds_drop (pd_bm mt_app (pd_var (i := 3) rfl (by first | exact Or.inl rfl | exact Or.inr (Or.inl rfl) | exact Or.inr (Or.inr rfl))) (pda_cons (pd_methM Z.i_Cellar (by rw [Z.f_Cellar]; decide) N_Cellar_row List.mem_cons_self (ft.mono (by decide)) (pd_var (i := 0) rfl (by first | exact Or.inl rfl | exact Or.inr (Or.inl rfl) | exact Or.inr (Or.inr rfl))) (pda_cons (pd_var (i := 6) rfl (by first | exact Or.inl rfl | exact Or.inr (Or.inl rfl) | exact Or.inr (Or.inr rfl))) pda_nil) (pdk_cons (pd_var (i := 7) rfl (by first | exact Or.inl rfl | exact Or.inr (Or.inl rfl) | exact Or.inr (Or.inr rfl))) pdk_nil)) pda_nil)))
    (pds_one (pds_drop (pd_bm mt_app (pd_var (i := 4) rfl (by first | exact Or.inl rfl | exact Or.inr (Or.inl rfl) | exact Or.inr (Or.inr rfl))) (pda_cons (pd_ty ty_list (by rfl) Z.b_list rfl (pda_cons (pd_ix (pd_var (i := 3) rfl (by first | exact Or.inl rfl | exact Or.inr (Or.inl rfl) | exact Or.inr (Or.inr rfl))) (pd_neg pd_int)) pda_nil)) pda_nil))))))
    (pds_cons (pds_set (i := 4) sc__law_says.nd rfl (by first | exact Or.inl rfl | exact Or.inr rfl) (pd_catX (pd_var (i := 4) rfl (by first | exact Or.inl rfl | exact Or.inr (Or.inl rfl) | exact Or.inr (Or.inr rfl))) (pd_lcR1 (own := [("_law_token", 8)]) rfl sc__law_says.nd (by rfl) Z.b_range (pda_cons (pd_var (i := 2) rfl (by first | exact Or.inl rfl | exact Or.inr (Or.inl rfl) | exact Or.inr (Or.inr rfl))) pda_nil) (blkOk_by rfl) (fun _ _ _ _ _ => pg_name (i := 8) sc__law_says.nd rfl (by first | exact Or.inl rfl | exact Or.inr rfl)) (tg_one 8) (by decide) (fun _ _ _ _ _ => pdts_nil) (fun _ _ _ _ _ => (pd_methM Z.i_Cellar (by rw [Z.f_Cellar]; decide) N_Cellar_place List.mem_cons_self ((ft.blk _ _ _ _ _ _).mono (by decide)) (pd_var (i := 0) rfl (by first | exact Or.inl rfl | exact Or.inr (Or.inl rfl) | exact Or.inr (Or.inr rfl))) (pda_cons (pd_var (i := 8) rfl (by first | exact Or.inl rfl | exact Or.inr (Or.inl rfl) | exact Or.inr (Or.inr rfl))) pda_nil) pdk_nil)))))
    (pds_cons (pds_forL po rfl (pd_callA D__law_here (ft.mono (by decide)) (by rfl) (pda_cons (pd_var (i := 1) rfl (by first | exact Or.inl rfl | exact Or.inr (Or.inl rfl) | exact Or.inr (Or.inr rfl))) pda_nil)) (pg_name (i := 8) sc__law_says.nd rfl (by first | exact Or.inl rfl | exact Or.inr rfl)) (tg_one 8)
    (pds_cons (pds_drop (pd_bm mt_app (pd_var (i := 3) rfl (by first | exact Or.inl rfl | exact Or.inr (Or.inl rfl) | exact Or.inr (Or.inr rfl))) (pda_cons (pd_methM Z.i_Cellar (by rw [Z.f_Cellar]; decide) N_Cellar_twins List.mem_cons_self (ft.mono (by decide)) (pd_var (i := 0) rfl (by first | exact Or.inl rfl | exact Or.inr (Or.inl rfl) | exact Or.inr (Or.inr rfl))) (pda_cons (pd_var (i := 8) rfl (by first | exact Or.inl rfl | exact Or.inr (Or.inl rfl) | exact Or.inr (Or.inr rfl))) pda_nil) pdk_nil) pda_nil)))
    (pds_one (pds_set (i := 4) sc__law_says.nd rfl (by first | exact Or.inl rfl | exact Or.inr rfl) (pd_catX (pd_var (i := 4) rfl (by first | exact Or.inl rfl | exact Or.inr (Or.inl rfl) | exact Or.inr (Or.inr rfl))) (pd_lst (pda_cons (pd_ty ty_list (by rfl) Z.b_list rfl (pda_cons (pd_ix (pd_var (i := 3) rfl (by first | exact Or.inl rfl | exact Or.inr (Or.inl rfl) | exact Or.inr (Or.inr rfl))) (pd_neg pd_int)) pda_nil)) (pda_cons (pd_methM Z.i_Cellar (by rw [Z.f_Cellar]; decide) N_Cellar_set_of List.mem_cons_self (ft.mono (by decide)) (pd_var (i := 0) rfl (by first | exact Or.inl rfl | exact Or.inr (Or.inl rfl) | exact Or.inr (Or.inr rfl))) (pda_cons (pd_var (i := 8) rfl (by first | exact Or.inl rfl | exact Or.inr (Or.inl rfl) | exact Or.inr (Or.inr rfl))) pda_nil) pdk_nil) pda_nil))))))))
    (pds_frzV 3 (pds_cons (pds_forS po rfl (pdi_seq (pd_var (i := 3) rfl (by first | exact Or.inl rfl | exact Or.inr (Or.inl rfl) | exact Or.inr (Or.inr rfl)))) (pg_name (i := 9) sc__law_says.nd rfl (by first | exact Or.inl rfl | exact Or.inr rfl)) (tg_one 9)
    (pds_one (pds_drop (pd_bm mt_app (pd_var (i := 9) rfl (by first | exact Or.inl rfl | exact Or.inr (Or.inl rfl) | exact Or.inr (Or.inr rfl))) (pda_cons pd_int pda_nil)))))
    (pds_one (pds_ret (pd_blt (blt_reprA ft.room.gd ft.u) (by rfl) Z.b_repr rfl (pda_cons (pd_var (i := 4) rfl (by first | exact Or.inl rfl | exact Or.inr (Or.inl rfl) | exact Or.inr (Or.inr rfl))) pda_nil)))))))))))))
theorem ok_Cellar_drink_set {w : World} {T : Txt} {mg : Str → Option Value} {base : Heap} (Z : Facts T mg) (D__check_when_and_who : Def P w T mg base 4 11 "_check_when_and_who" ["month", "who"] f__check_when_and_who) (N_Cellar__bound_with : DefM P w T mg base 6 1 28 "_bound_with" f_Cellar__bound_with ways_Cellar__bound_with) (N_Cellar__keep : DefM P w T mg base 2 1 21 "_keep" f_Cellar__keep ways_Cellar__keep) (N_Cellar__leave : DefM P w T mg base 2 1 29 "_leave" f_Cellar__leave ways_Cellar__leave) (l : LkD T 37 "drink_set" "Cellar.drink_set" st_Cellar_drink_set [.str ""]) (me : Meth T.K (T.ca 1) "drink_set" (T.fa 37)) : DefM P w T mg base 7 1 37 "drink_set" f_Cellar_drink_set ways_Cellar_drink_set := by
  refine defM_of (c := 1) (nm := "drink_set") (m := m_Cellar_drink_set) (k := 6) (N := ["self", "number", "month", "who", "bound"]) (ps := ["self", "number", "month", "who"]) (st := st_Cellar_drink_set) l me sc_Cellar_drink_set (fun fd F z hz => ?_) fun cdv A outer s H E xp ft po => ?_
  · skip
    rcases List.mem_cons.mp hz with hz | hz
    · subst hz
      refine bd_dfl (dds := [.str ""]) gg_Cellar_drink_set_0_number_month_who F (by simp) (fun _ _ _ => .cons (.str "") .nil) (fun r d q => r.append (((q.drop 0).take 1).append (((q.drop 1).take 1).append ((q.drop 2).take 1)))) (fun _ _ _ _ _ _ _ _ _ r d q => r.append (((q.drop 0).take 1).append (((q.drop 1).take 1).append ((q.drop 2).take 1)))) (fun vs zs h1 h2 => by unfold gg_Cellar_drink_set_0_number_month_who; simp [h1, h2]) ?_
      intro Dv kV doc pm an cdv ct us its ws h1 h2 h3
      match us, its, ws, h1, h2, h3 with
      | [_], [_], [_, _, _], _, _, _ => exact ⟨_, rfl, rfl⟩
    rcases List.mem_cons.mp hz with hz | hz
    · subst hz
      refine bd_dfl (dds := [.str ""]) gg_Cellar_drink_set_2 F (by simp) (fun _ _ _ => .cons (.str "") .nil) (fun r d q => r.append ((d.drop 0).take 1)) (fun _ _ _ _ _ _ _ _ _ r d q => r.append ((d.drop 0).take 1)) (fun vs zs h1 h2 => by unfold gg_Cellar_drink_set_2; simp [h1, h2]) ?_
      intro Dv kV doc pm an cdv ct us its ws h1 h2 h3
      match us, its, ws, h1, h2, h3 with
      | [_, _, _], [_], [], _, _, _ => exact ⟨_, rfl, rfl⟩
    exact absurd hz List.not_mem_nil
  · exact (pds_cons (pds_set (i := 4) sc_Cellar_drink_set.nd rfl (by first | exact Or.inl rfl | exact Or.inr rfl) (pd_methM Z.i_Cellar (by rw [Z.f_Cellar]; decide) N_Cellar__bound_with List.mem_cons_self (ft.mono (by decide)) (pd_var (i := 0) rfl (by first | exact Or.inl rfl | exact Or.inr (Or.inl rfl) | exact Or.inr (Or.inr rfl))) (pda_cons (pd_var (i := 1) rfl (by first | exact Or.inl rfl | exact Or.inr (Or.inl rfl) | exact Or.inr (Or.inr rfl))) pda_nil) pdk_nil))
    (pds_cons (pds_drop (pd_callA D__check_when_and_who (ft.mono (by decide)) (by rfl) (pda_cons (pd_var (i := 2) rfl (by first | exact Or.inl rfl | exact Or.inr (Or.inl rfl) | exact Or.inr (Or.inr rfl))) (pda_cons (pd_var (i := 3) rfl (by first | exact Or.inl rfl | exact Or.inr (Or.inl rfl) | exact Or.inr (Or.inr rfl))) pda_nil))))
    (pds_cons (pds_drop (pd_methM0 Z.i_Cellar (by rw [Z.f_Cellar]; decide) N_Cellar__keep List.mem_cons_self (ft.mono (by decide)) (pd_var (i := 0) rfl (by first | exact Or.inl rfl | exact Or.inr (Or.inl rfl) | exact Or.inr (Or.inr rfl)))  pdk_nil))
    (pds_one (pds_drop (pd_methM Z.i_Cellar (by rw [Z.f_Cellar]; decide) N_Cellar__leave List.mem_cons_self (ft.mono (by decide)) (pd_var (i := 0) rfl (by first | exact Or.inl rfl | exact Or.inr (Or.inl rfl) | exact Or.inr (Or.inr rfl))) (pda_cons (pd_var (i := 4) rfl (by first | exact Or.inl rfl | exact Or.inr (Or.inl rfl) | exact Or.inr (Or.inr rfl))) (pda_cons (pd_tup (pda_cons pd_str (pda_cons (pd_var (i := 2) rfl (by first | exact Or.inl rfl | exact Or.inr (Or.inl rfl) | exact Or.inr (Or.inr rfl))) (pda_cons (pd_var (i := 3) rfl (by first | exact Or.inl rfl | exact Or.inr (Or.inl rfl) | exact Or.inr (Or.inr rfl))) pda_nil)))) pda_nil)) pdk_nil))))))
theorem ok__law_behind {w : World} {T : Txt} {mg : Str → Option Value} {base : Heap} (Z : Facts T mg) (D__law_bound : Def P w T mg base 4 67 "_law_bound" ["_law_state", "_law_numbers"] f__law_bound) (D__law_done : Def P w T mg base 4 68 "_law_done" ["_law_state", "_law_deed_here"] f__law_done) (D__law_laid : Def P w T mg base 3 65 "_law_laid" ["_law_state", "_law_deed_here"] f__law_laid) (D__law_moved : Def P w T mg base 4 66 "_law_moved" ["_law_state", "_law_deed_here"] f__law_moved) (l : Lk T 69 "_law_behind" "_law_behind" st__law_behind) (hg : mg "_law_behind" = some (.ref (T.fa 69))) : Def P w T mg base 5 69 "_law_behind" ["_law_past", "_law_deed_here"] f__law_behind := by
  refine defD_of (m := m__law_behind) (k := 4) (N := ["_law_past", "_law_deed_here"]) (ps := ["_law_past", "_law_deed_here"]) (st := st__law_behind) l hg sc__law_behind (fun _ _ _ _ _ _ us hl => match us, hl with | [_, _], _ => rfl) fun cdv A outer s H E xp ft po => ?_
  exact (pds_cons (pds_if (pdt_cmp (cmp_eq ft.u) (pd_ix (pd_var (i := 1) rfl (by first | exact Or.inl rfl | exact Or.inr (Or.inl rfl) | exact Or.inr (Or.inr rfl))) pd_int) pd_str (by rfl)) (pds_one (pds_ret (pd_ite (pdt_cmp cmp_gt (pd_blt (BltD.or blt_len blt_lenK) (by rfl) Z.b_len rfl (pda_cons (pd_var (i := 0) rfl (by first | exact Or.inl rfl | exact Or.inr (Or.inl rfl) | exact Or.inr (Or.inr rfl))) pda_nil)) pd_int (by rfl)) (pd_ix (pd_var (i := 0) rfl (by first | exact Or.inl rfl | exact Or.inr (Or.inl rfl) | exact Or.inr (Or.inr rfl))) (pd_neg pd_int)) (pd_tup (pda_cons pd_str pda_nil))))) pds_nil)
    (pds_cons (pds_if (pdt_cmp (cmp_eq ft.u) (pd_ix (pd_var (i := 1) rfl (by first | exact Or.inl rfl | exact Or.inr (Or.inl rfl) | exact Or.inr (Or.inr rfl))) pd_int) pd_str (by rfl)) (pds_one (pds_ret (pd_callA D__law_laid (ft.mono (by decide)) (by rfl) (pda_cons (pd_ix (pd_var (i := 0) rfl (by first | exact Or.inl rfl | exact Or.inr (Or.inl rfl) | exact Or.inr (Or.inr rfl))) (pd_neg pd_int)) (pda_cons (pd_var (i := 1) rfl (by first | exact Or.inl rfl | exact Or.inr (Or.inl rfl) | exact Or.inr (Or.inr rfl))) pda_nil))))) pds_nil)
    (pds_cons (pds_if (pdt_cmp (cmp_eq ft.u) (pd_ix (pd_var (i := 1) rfl (by first | exact Or.inl rfl | exact Or.inr (Or.inl rfl) | exact Or.inr (Or.inr rfl))) pd_int) pd_str (by rfl)) (pds_one (pds_ret (pd_callA D__law_moved (ft.mono (by decide)) (by rfl) (pda_cons (pd_ix (pd_var (i := 0) rfl (by first | exact Or.inl rfl | exact Or.inr (Or.inl rfl) | exact Or.inr (Or.inr rfl))) (pd_neg pd_int)) (pda_cons (pd_var (i := 1) rfl (by first | exact Or.inl rfl | exact Or.inr (Or.inl rfl) | exact Or.inr (Or.inr rfl))) pda_nil))))) pds_nil)
    (pds_one (pds_ret (pd_ite (pdt_cmp (cmp_eq ft.u) (pd_ix (pd_var (i := 1) rfl (by first | exact Or.inl rfl | exact Or.inr (Or.inl rfl) | exact Or.inr (Or.inr rfl))) pd_int) pd_str (by rfl)) (pd_callA D__law_bound (ft.mono (by decide)) (by rfl) (pda_cons (pd_ix (pd_var (i := 0) rfl (by first | exact Or.inl rfl | exact Or.inr (Or.inl rfl) | exact Or.inr (Or.inr rfl))) (pd_neg pd_int)) (pda_cons (pd_ix (pd_var (i := 1) rfl (by first | exact Or.inl rfl | exact Or.inr (Or.inl rfl) | exact Or.inr (Or.inr rfl))) pd_int) pda_nil))) (pd_callA D__law_done (ft.mono (by decide)) (by rfl) (pda_cons (pd_ix (pd_var (i := 0) rfl (by first | exact Or.inl rfl | exact Or.inr (Or.inl rfl) | exact Or.inr (Or.inr rfl))) (pd_neg pd_int)) (pda_cons (pd_var (i := 1) rfl (by first | exact Or.inl rfl | exact Or.inr (Or.inl rfl) | exact Or.inr (Or.inr rfl))) pda_nil)))))))))
theorem ok_Cellar_drink {w : World} {T : Txt} {mg : Str → Option Value} {base : Heap} (Z : Facts T mg) (N_Cellar__leave_alone : DefM P w T mg base 6 1 30 "_leave_alone" f_Cellar__leave_alone ways_Cellar__leave_alone) (l : LkD T 33 "drink" "Cellar.drink" st_Cellar_drink [.str ""]) (me : Meth T.K (T.ca 1) "drink" (T.fa 33)) : DefM P w T mg base 7 1 33 "drink" f_Cellar_drink ways_Cellar_drink := by
  refine defM_of (c := 1) (nm := "drink") (m := m_Cellar_drink) (k := 6) (N := ["self", "number", "month", "who"]) (ps := ["self", "number", "month", "who"]) (st := st_Cellar_drink) l me sc_Cellar_drink (fun fd F z hz => ?_) fun cdv A outer s H E xp ft po => ?_
  · skip
    rcases List.mem_cons.mp hz with hz | hz
    · subst hz
      refine bd_dfl (dds := [.str ""]) gg_Cellar_drink_2_who F (by simp) (fun _ _ _ => .cons (.str "") .nil) (fun r d q => r.append ((q.drop 0).take 1)) (fun _ _ _ _ _ _ _ _ _ r d q => r.append ((q.drop 0).take 1)) (fun vs zs h1 h2 => by unfold gg_Cellar_drink_2_who; simp [h1, h2]) ?_
      intro Dv kV doc pm an cdv ct us its ws h1 h2 h3
      match us, its, ws, h1, h2, h3 with
      | [_, _, _], [_], [_], _, _, _ => exact ⟨_, rfl, rfl⟩
    rcases List.mem_cons.mp hz with hz | hz
    · subst hz
      refine bd_dfl (dds := [.str ""]) gg_Cellar_drink_2 F (by simp) (fun _ _ _ => .cons (.str "") .nil) (fun r d q => r.append ((d.drop 0).take 1)) (fun _ _ _ _ _ _ _ _ _ r d q => r.append ((d.drop 0).take 1)) (fun vs zs h1 h2 => by unfold gg_Cellar_drink_2; simp [h1, h2]) ?_
      intro Dv kV doc pm an cdv ct us its ws h1 h2 h3
      match us, its, ws, h1, h2, h3 with
      | [_, _, _], [_], [], _, _, _ => exact ⟨_, rfl, rfl⟩
    exact absurd hz List.not_mem_nil
  · exact (pds_one (pds_drop (pd_methM Z.i_Cellar (by rw [Z.f_Cellar]; decide) N_Cellar__leave_alone List.mem_cons_self (ft.mono (by decide)) (pd_var (i := 0) rfl (by first | exact Or.inl rfl | exact Or.inr (Or.inl rfl) | exact Or.inr (Or.inr rfl))) (pda_cons (pd_var (i := 1) rfl (by first | exact Or.inl rfl | exact Or.inr (Or.inl rfl) | exact Or.inr (Or.inr rfl))) (pda_cons pd_str (pda_cons (pd_var (i := 2) rfl (by first | exact Or.inl rfl | exact Or.inr (Or.inl rfl) | exact Or.inr (Or.inr rfl))) (pda_cons (pd_var (i := 3) rfl (by first | exact Or.inl rfl | exact Or.inr (Or.inl rfl) | exact Or.inr (Or.inr rfl))) pda_nil)))) pdk_nil)))
theorem ok_Cellar__like {w : World} {T : Txt} {mg : Str → Option Value} {base : Heap} (Z : Facts T mg) (O_Bottle___eq__ : DefO P w T mg base 1 0 9 "__eq__" 2 f_Bottle___eq__) (N_Cellar_lying : DefM P w T mg base 1 1 18 "lying" f_Cellar_lying ways_Cellar_lying) (l : LkD T 22 "_like" "Cellar._like" st_Cellar__like []) (me : Meth T.K (T.ca 1) "_like" (T.fa 22)) : DefM P w T mg base 4 1 22 "_like" f_Cellar__like ways_Cellar__like := by
  refine defM_of (c := 1) (nm := "_like") (m := m_Cellar__like) (k := 3) (N := ["self", "bottle", "number"]) (ps := ["self", "bottle"]) (st := st_Cellar__like) l me sc_Cellar__like (fun fd F z hz => ?_) fun cdv A outer s H E xp ft po => ?_
  · skip
    rcases List.mem_cons.mp hz with hz | hz
    · subst hz
      refine bd_nod (g := fun {α} us ws => gg_Cellar__like_1 us [] ws) F (fun r q => r) (fun _ _ _ _ _ _ _ r q => r) (fun vs zs h1 h2 => by unfold gg_Cellar__like_1; simp [h1, h2]) ?_
      intro kV doc pm an cdv ct us ws h1 h3
      match us, ws, h1, h3 with
      | [_, _], [], _, _ => rfl
    exact absurd hz List.not_mem_nil
  · exact (pds_one (pds_ret (pd_lc (own := [("number", 2)]) rfl sc_Cellar__like.nd (pdi_seq (pd_methM0 Z.i_Cellar (by rw [Z.f_Cellar]; decide) N_Cellar_lying List.mem_cons_self (ft.mono (by decide)) (pd_var (i := 0) rfl (by first | exact Or.inl rfl | exact Or.inr (Or.inl rfl) | exact Or.inr (Or.inr rfl)))  pdk_nil)) (blkOk_by rfl) (fun _ _ _ _ _ => pg_name (i := 2) sc_Cellar__like.nd rfl (by first | exact Or.inl rfl | exact Or.inr rfl)) (tg_one 2) (by decide) (fun _ _ _ _ _ => (pdts_one (pdt_cmpS (opE_own Z.own Z.nf_Bottle O_Bottle___eq__ ((ft.blk _ _ _ _ _ _).mono (by decide))) osd_ownE (pd_ix (pd_fld (i := 2) Z.i_Cellar (by rw [Z.f_Cellar]; rfl) (pd_var (i := 0) rfl (by first | exact Or.inl rfl | exact Or.inr (Or.inl rfl) | exact Or.inr (Or.inr rfl)))) (pd_var (i := 2) rfl (by first | exact Or.inl rfl | exact Or.inr (Or.inl rfl) | exact Or.inr (Or.inr rfl)))) (pd_var (i := 1) rfl (by first | exact Or.inl rfl | exact Or.inr (Or.inl rfl) | exact Or.inr (Or.inr rfl))) (by rfl)))) (fun _ _ _ _ _ => (pd_var (i := 2) rfl (by first | exact Or.inl rfl | exact Or.inr (Or.inl rfl) | exact Or.inr (Or.inr rfl)))))))
theorem ok_TooMany {w : World} {T : Txt} {mg : Str → Option Value} {base : Heap} (Z : Facts T mg) (lk : ∃ fd, FunD T.K "__init__" "TooMany.__init__" (defArgs st_TooMany) (defBody st_TooMany) (defScope st_TooMany) [] [] (T.fa 80) fd)
    (hi : PySem.W.findIn T.K (.ref (T.ca 17)) "__init__" = some (some (.ref (T.fa 80)))) (hf : PySem.W.typeIn T.K (.ref (T.fa 80)) = some (.type "function")) : MkE P w T mg base 17 "TooMany" ["self", "many", "most"] ways_TooMany := by
  obtain ⟨fd, F⟩ := lk
  refine ⟨⟨T.fa 80, fd, _, _, _, _, PySem.F.excBase_ValueError, Z.i_TooMany, hi, hf, ?_, ?_⟩, by rw [Z.f_TooMany]; decide, by rw [Z.f_TooMany]; decide +kernel, by rw [Z.f_TooMany]; rfl, Z.c_TooMany⟩
  · refine init_fill (c := 17) (N := ["self", "many", "most"]) F sc_TooMany (by rw [Z.f_TooMany]; rfl) (by rw [Z.f_TooMany]; simp) (by rw [Z.f_TooMany]; decide) fun cdv A outer s H E a ws hl => ?_
    rw [Z.f_TooMany] at hl ⊢
    match ws, hl with
    | [y0, y1], _ => exact (pss_fill (i := 1) ⟨_, _, _, PySem.F.store_ValueError, Z.i_TooMany, Z.n_TooMany _ (by simp)⟩ rfl (by first | exact Or.inl rfl | exact Or.inr (Or.inl rfl) | exact Or.inr (Or.inr rfl)) rfl (by first | exact Or.inl rfl | exact Or.inr (Or.inl rfl) | exact Or.inr (Or.inr rfl)) rfl rfl (pss_fill (i := 2) ⟨_, _, _, PySem.F.store_ValueError, Z.i_TooMany, Z.n_TooMany _ (by simp)⟩ rfl (by first | exact Or.inl rfl | exact Or.inr (Or.inl rfl) | exact Or.inr (Or.inr rfl)) rfl (by first | exact Or.inl rfl | exact Or.inr (Or.inl rfl) | exact Or.inr (Or.inr rfl)) rfl rfl pss_fill0))
  · intro z hz
    rcases List.mem_cons.mp hz with hz | hz
    · subst hz
      refine bdE_no ge_TooMany_2 F (fun r d q => r) (fun _ _ _ {_ _ _ _ _ _} r d q => r) (fun vs zs h1 h2 => by unfold ge_TooMany_2; simp [h1, h2]) ?_
      intro kV doc pm an cdv ct self us ws h1 h2
      match us, ws, h1, h2 with
      | [_, _], [], _, _ => rfl
    exact absurd hz List.not_mem_nil
theorem ok_Cellar_give {w : World} {T : Txt} {mg : Str → Option Value} {base : Heap} (Z : Facts T mg) (N_Cellar__leave_alone : DefM P w T mg base 6 1 30 "_leave_alone" f_Cellar__leave_alone ways_Cellar__leave_alone) (l : LkD T 34 "give" "Cellar.give" st_Cellar_give [.str ""]) (me : Meth T.K (T.ca 1) "give" (T.fa 34)) : DefM P w T mg base 7 1 34 "give" f_Cellar_give ways_Cellar_give := by
  refine defM_of (c := 1) (nm := "give") (m := m_Cellar_give) (k := 6) (N := ["self", "number", "month", "who"]) (ps := ["self", "number", "month", "who"]) (st := st_Cellar_give) l me sc_Cellar_give (fun fd F z hz => ?_) fun cdv A outer s H E xp ft po => ?_
  · skip
    rcases List.mem_cons.mp hz with hz | hz
    · subst hz
      refine bd_dfl (dds := [.str ""]) gg_Cellar_give_3 F (by simp) (fun _ _ _ => .cons (.str "") .nil) (fun r d q => r) (fun _ _ _ _ _ _ _ _ _ r d q => r) (fun vs zs h1 h2 => by unfold gg_Cellar_give_3; simp [h1, h2]) ?_
      intro Dv kV doc pm an cdv ct us its ws h1 h2 h3
      match us, its, ws, h1, h2, h3 with
      | [_, _, _, _], [_], [], _, _, _ => exact ⟨_, rfl, rfl⟩
    exact absurd hz List.not_mem_nil
  · exact (pds_one (pds_drop (pd_methM Z.i_Cellar (by rw [Z.f_Cellar]; decide) N_Cellar__leave_alone List.mem_cons_self (ft.mono (by decide)) (pd_var (i := 0) rfl (by first | exact Or.inl rfl | exact Or.inr (Or.inl rfl) | exact Or.inr (Or.inr rfl))) (pda_cons (pd_var (i := 1) rfl (by first | exact Or.inl rfl | exact Or.inr (Or.inl rfl) | exact Or.inr (Or.inr rfl))) (pda_cons pd_str (pda_cons (pd_var (i := 2) rfl (by first | exact Or.inl rfl | exact Or.inr (Or.inl rfl) | exact Or.inr (Or.inr rfl))) (pda_cons (pd_var (i := 3) rfl (by first | exact Or.inl rfl | exact Or.inr (Or.inl rfl) | exact Or.inr (Or.inr rfl))) pda_nil)))) pdk_nil)))
theorem ok__law_mixed {w : World} {T : Txt} {mg : Str → Option Value} {base : Heap} (Z : Facts T mg) (D__law_take : Def P w T mg base 1 49 "_law_take" ["_law_pot_here", "_law_far"] f__law_take) (l : Lk T 52 "_law_mixed" "_law_mixed" st__law_mixed) (hg : mg "_law_mixed" = some (.ref (T.fa 52))) : Def P w T mg base 2 52 "_law_mixed" ["_law_pot_here", "_law_some"] f__law_mixed := by
  refine defD_of (m := m__law_mixed) (k := 1) (N := ["_law_pot_here", "_law_some", "_law_left", "_law_one"]) (ps := ["_law_pot_here", "_law_some"]) (st := st__law_mixed) l hg sc__law_mixed (fun _ _ _ _ _ _ us hl => match us, hl with | [_, _], _ => rfl) fun cdv A outer s H E xp ft po => ?_
  exact (pds_cons (pds_set (i := 2) sc__law_mixed.nd rfl (by first | exact Or.inl rfl | exact Or.inr rfl) (pd_ty ty_listN (by rfl) Z.b_list rfl (pda_cons (pd_var (i := 1) rfl (by first | exact Or.inl rfl | exact Or.inr (Or.inl rfl) | exact Or.inr (Or.inr rfl))) pda_nil)))
    (pds_one (pds_ret (pd_lcL (own := [("_law_one", 3)]) rfl sc__law_mixed.nd (pd_var (i := 1) rfl (by first | exact Or.inl rfl | exact Or.inr (Or.inl rfl) | exact Or.inr (Or.inr rfl))) (blkOk_by rfl) (fun _ _ _ _ _ => pg_name (i := 3) sc__law_mixed.nd rfl (by first | exact Or.inl rfl | exact Or.inr rfl)) (tg_one 3) (by decide) (fun _ _ _ _ _ => pdts_nil) (fun _ _ _ _ _ => (pd_bm mt_popAtD (pd_var (i := 2) rfl (by first | exact Or.inl rfl | exact Or.inr (Or.inl rfl) | exact Or.inr (Or.inr rfl))) (pda_cons (pd_callA D__law_take ((ft.blk _ _ _ _ _ _).mono (by decide)) (by rfl) (pda_cons (pd_var (i := 0) rfl (by first | exact Or.inl rfl | exact Or.inr (Or.inl rfl) | exact Or.inr (Or.inr rfl))) (pda_cons (pd_blt (BltD.or blt_len blt_lenK) (by rfl) Z.b_len rfl (pda_cons (pd_var (i := 2) rfl (by first | exact Or.inl rfl | exact Or.inr (Or.inl rfl) | exact Or.inr (Or.inr rfl))) pda_nil)) pda_nil))) pda_nil)))))))
theorem ok__put {w : World} {T : Txt} {mg : Str → Option Value} {base : Heap} (Z : Facts T mg) (l : Lk T 12 "_put" "_put" st__put) (hg : mg "_put" = some (.ref (T.fa 12))) : Def P w T mg base 1 12 "_put" ["told", "numbers", "worth"] f__put := by
  refine defD_of (m := m__put) (k := 0) (N := ["told", "numbers", "worth", "number"]) (ps := ["told", "numbers", "worth"]) (st := st__put) l hg sc__put (fun _ _ _ _ _ _ us hl => match us, hl with | [_, _, _], _ => rfl) fun cdv A outer s H E xp ft po => ?_
  exact (pds_one (pds_ret (pd_ty ty_tuple (by rfl) Z.b_tuple rfl (pda_cons (pd_lcR1 (own := [("number", 3)]) rfl sc__put.nd (by rfl) Z.b_range (pda_cons (pd_blt blt_len (by rfl) Z.b_len rfl (pda_cons (pd_var (i := 0) rfl (by first | exact Or.inl rfl | exact Or.inr (Or.inl rfl) | exact Or.inr (Or.inr rfl))) pda_nil)) pda_nil) (blkOk_by rfl) (fun _ _ _ _ _ => pg_name (i := 3) sc__put.nd rfl (by first | exact Or.inl rfl | exact Or.inr rfl)) (tg_one 3) (by decide) (fun _ _ _ _ _ => pdts_nil) (fun _ _ _ _ _ => (pd_ite (pdt_cmp cmp_in (pd_var (i := 3) rfl (by first | exact Or.inl rfl | exact Or.inr (Or.inl rfl) | exact Or.inr (Or.inr rfl))) (pd_var (i := 1) rfl (by first | exact Or.inl rfl | exact Or.inr (Or.inl rfl) | exact Or.inr (Or.inr rfl))) (by rfl)) (pd_var (i := 2) rfl (by first | exact Or.inl rfl | exact Or.inr (Or.inl rfl) | exact Or.inr (Or.inr rfl))) (pd_ix (pd_var (i := 0) rfl (by first | exact Or.inl rfl | exact Or.inr (Or.inl rfl) | exact Or.inr (Or.inr rfl))) (pd_var (i := 3) rfl (by first | exact Or.inl rfl | exact Or.inr (Or.inl rfl) | exact Or.inr (Or.inr rfl))))))) pda_nil))))
theorem ok__law_more {w : World} {T : Txt} {mg : Str → Option Value} {base : Heap} (Z : Facts T mg) (l : Lk T 56 "_law_more" "_law_more" st__law_more) (hg : mg "_law_more" = some (.ref (T.fa 56))) : Def P w T mg base 1 56 "_law_more" ["_law_state", "_law_changes"] f__law_more := by
  refine defD_of (m := m__law_more) (k := 0) (N := ["_law_state", "_law_changes", "_law_later"]) (ps := ["_law_state", "_law_changes"]) (st := st__law_more) l hg sc__law_more (fun _ _ _ _ _ _ us hl => match us, hl with | [_, _], _ => rfl) fun cdv A outer s H E xp ft po => ?_
  exact (pds_cons (pds_set (i := 2) sc__law_more.nd rfl (by first | exact Or.inl rfl | exact Or.inr rfl) (pd_ty ty_dictN (by rfl) Z.b_dict rfl (pda_cons (pd_var (i := 0) rfl (by first | exact Or.inl rfl | exact Or.inr (Or.inl rfl) | exact Or.inr (Or.inr rfl))) pda_nil)))
    (pds_cons (pds_drop (pd_upd (pd_var (i := 2) rfl (by first | exact Or.inl rfl | exact Or.inr (Or.inl rfl) | exact Or.inr (Or.inr rfl))) (pda_cons (pd_ty (ty_dictP rfl) (by rfl) Z.b_dict rfl (pda_cons (pd_var (i := 1) rfl (by first | exact Or.inl rfl | exact Or.inr (Or.inl rfl) | exact Or.inr (Or.inr rfl))) pda_nil)) pda_nil)))
    (pds_one (pds_ret (pd_frzD (pd_var (i := 2) rfl (by first | exact Or.inl rfl | exact Or.inr (Or.inl rfl) | exact Or.inr (Or.inr rfl))))))))
theorem ok_is_month {w : World} {T : Txt} {mg : Str → Option Value} {base : Heap} (Z : Facts T mg) (D_is_within : Def P w T mg base 2 1 "is_within" ["thing", "least", "most"] f_is_within) (l : Lk T 2 "is_month" "is_month" st_is_month) (hg : mg "is_month" = some (.ref (T.fa 2))) : Def P w T mg base 3 2 "is_month" ["thing"] f_is_month := by
  refine defD_of (m := m_is_month) (k := 2) (N := ["thing"]) (ps := ["thing"]) (st := st_is_month) l hg sc_is_month (fun _ _ _ _ _ _ us hl => match us, hl with | [_], _ => rfl) fun cdv A outer s H E xp ft po => ?_
  exact (pds_one (pds_ret (pd_callA D_is_within (ft.mono (by decide)) (by rfl) (pda_cons (pd_var (i := 0) rfl (by first | exact Or.inl rfl | exact Or.inr (Or.inl rfl) | exact Or.inr (Or.inr rfl))) (pda_cons pd_int (pda_cons (pd_sub (pd_glE Z.g_MONTHS (by rfl)) pd_int) pda_nil))))))
end K11
set_option maxRecDepth 100000
set_option maxHeartbeats 1000000
namespace K11
open PySem PySem.Spec PyProof.Rows L2 Den Cel Ste
theorem ok__law_done {w : World} {T : Txt} {mg : Str → Option Value} {base : Heap} (Z : Facts T mg) (D__law_gone : Def P w T mg base 2 64 "_law_gone" ["_law_state", "_law_numbers", "_law_end", "_law_sets"] f__law_gone) (D__law_kept : Def P w T mg base 2 62 "_law_kept" ["_law_state", "_law_token"] f__law_kept) (D__law_more : Def P w T mg base 1 56 "_law_more" ["_law_state", "_law_changes"] f__law_more) (D__law_set : Def P w T mg base 1 61 "_law_set" ["_law_state", "_law_token"] f__law_set) (D__law_there : Def P w T mg base 3 58 "_law_there" ["_law_state", "_law_token"] f__law_there) (D__law_when : Def P w T mg base 3 60 "_law_when" ["_law_moon", "_law_guest"] f__law_when) (l : Lk T 68 "_law_done" "_law_done" st__law_done) (hg : mg "_law_done" = some (.ref (T.fa 68))) : Def P w T mg base 4 68 "_law_done" ["_law_state", "_law_deed_here"] f__law_done := by
  refine defD_of (m := m__law_done) (k := 3) (N := ["_law_state", "_law_deed_here", "_law_word_here", "_law_token", "_law_some", "_law_bad", "_law_less", "_law_rest", "_law_one"]) (ps := ["_law_state", "_law_deed_here"]) (st := st__law_done) l hg sc__law_done (fun _ _ _ _ _ _ us hl => match us, hl with | [_, _], _ => rfl) fun cdv A outer s H E xp ft po => ?_
  exact (pds_cons (pds_asg (pg_tup rfl (pgs_cons (pg_name (i := 2) sc__law_done.nd rfl (by first | exact Or.inl rfl | exact Or.inr rfl)) (pgs_cons (pg_name (i := 3) sc__law_done.nd rfl (by first | exact Or.inl rfl | exact Or.inr rfl)) pgs_nil))) (tg_tup rfl [2, 3] rfl) (pd_tup (pda_cons (pd_ix (pd_var (i := 1) rfl (by first | exact Or.inl rfl | exact Or.inr (Or.inl rfl) | exact Or.inr (Or.inr rfl))) pd_int) (pda_cons (pd_ix (pd_var (i := 1) rfl (by first | exact Or.inl rfl | exact Or.inr (Or.inl rfl) | exact Or.inr (Or.inr rfl))) pd_int) pda_nil))))
    (pds_cons (pds_asg (pg_tup rfl (pgs_cons (pg_name (i := 4) sc__law_done.nd rfl (by first | exact Or.inl rfl | exact Or.inr rfl)) (pgs_cons (pg_name (i := 5) sc__law_done.nd rfl (by first | exact Or.inl rfl | exact Or.inr rfl)) pgs_nil))) (tg_tup rfl [4, 5] rfl) (pd_tup (pda_cons (pd_callA D__law_set (ft.mono (by decide)) (by rfl) (pda_cons (pd_var (i := 0) rfl (by first | exact Or.inl rfl | exact Or.inr (Or.inl rfl) | exact Or.inr (Or.inr rfl))) (pda_cons (pd_var (i := 3) rfl (by first | exact Or.inl rfl | exact Or.inr (Or.inl rfl) | exact Or.inr (Or.inr rfl))) pda_nil))) (pda_cons (pd_callA D__law_there (ft.mono (by decide)) (by rfl) (pda_cons (pd_var (i := 0) rfl (by first | exact Or.inl rfl | exact Or.inr (Or.inl rfl) | exact Or.inr (Or.inr rfl))) (pda_cons (pd_var (i := 3) rfl (by first | exact Or.inl rfl | exact Or.inr (Or.inl rfl) | exact Or.inr (Or.inr rfl))) pda_nil))) pda_nil))))
    (pds_cons (pds_if (pdt_w (pdw_and (pdt_cmp cmp_is (pd_var (i := 5) rfl (by first | exact Or.inl rfl | exact Or.inr (Or.inl rfl) | exact Or.inr (Or.inr rfl))) pd_non (by rfl)) (pdw_and (pdt_cmp cmp_in (pd_var (i := 2) rfl (by first | exact Or.inl rfl | exact Or.inr (Or.inl rfl) | exact Or.inr (Or.inr rfl))) (pd_tup (pda_cons pd_str (pda_cons pd_str pda_nil))) (by rfl)) (pdw_and1 (pdt_cmp (cmp_eq ft.u) (pd_var (i := 4) rfl (by first | exact Or.inl rfl | exact Or.inr (Or.inl rfl) | exact Or.inr (Or.inr rfl))) (pd_tup pda_nil) (by rfl)))))) (pds_one (pds_set (i := 5) sc__law_done.nd rfl (by first | exact Or.inl rfl | exact Or.inr rfl) (pd_tup (pda_cons pd_str pda_nil)))) pds_nil)
    (pds_cons (pds_if (pdt_w (pdw_and (pdt_cmp cmp_is (pd_var (i := 5) rfl (by first | exact Or.inl rfl | exact Or.inr (Or.inl rfl) | exact Or.inr (Or.inr rfl))) pd_non (by rfl)) (pdw_and1 (pdt_cmp (cmp_ne ft.u) (pd_var (i := 2) rfl (by first | exact Or.inl rfl | exact Or.inr (Or.inl rfl) | exact Or.inr (Or.inr rfl))) pd_str (by rfl))))) (pds_one (pds_set (i := 5) sc__law_done.nd rfl (by first | exact Or.inl rfl | exact Or.inr rfl) (pd_callA D__law_when (ft.mono (by decide)) (by rfl) (pda_cons (pd_ix (pd_var (i := 1) rfl (by first | exact Or.inl rfl | exact Or.inr (Or.inl rfl) | exact Or.inr (Or.inr rfl))) pd_int) (pda_cons (pd_ite (pdt_cmp cmp_gt (pd_blt (BltD.or blt_len blt_lenK) (by rfl) Z.b_len rfl (pda_cons (pd_var (i := 1) rfl (by first | exact Or.inl rfl | exact Or.inr (Or.inl rfl) | exact Or.inr (Or.inr rfl))) pda_nil)) pd_int (by rfl)) (pd_ix (pd_var (i := 1) rfl (by first | exact Or.inl rfl | exact Or.inr (Or.inl rfl) | exact Or.inr (Or.inr rfl))) pd_int) pd_str) pda_nil))))) pds_nil)
    (pds_cons (pds_if (pdt_w (pdw_and (pdt_cmp cmp_is (pd_var (i := 5) rfl (by first | exact Or.inl rfl | exact Or.inr (Or.inl rfl) | exact Or.inr (Or.inr rfl))) pd_non (by rfl)) (pdw_and1 (pdt_cmp cmp_in (pd_var (i := 2) rfl (by first | exact Or.inl rfl | exact Or.inr (Or.inl rfl) | exact Or.inr (Or.inr rfl))) (pd_tup (pda_cons pd_str (pda_cons pd_str pda_nil))) (by rfl))))) (pds_one (pds_set (i := 5) sc__law_done.nd rfl (by first | exact Or.inl rfl | exact Or.inr rfl) (pd_callA D__law_kept (ft.mono (by decide)) (by rfl) (pda_cons (pd_var (i := 0) rfl (by first | exact Or.inl rfl | exact Or.inr (Or.inl rfl) | exact Or.inr (Or.inr rfl))) (pda_cons (pd_var (i := 3) rfl (by first | exact Or.inl rfl | exact Or.inr (Or.inl rfl) | exact Or.inr (Or.inr rfl))) pda_nil))))) pds_nil)
    (pds_cons (pds_if (pdt_cmp cmp_isnot (pd_var (i := 5) rfl (by first | exact Or.inl rfl | exact Or.inr (Or.inl rfl) | exact Or.inr (Or.inr rfl))) pd_non (by rfl)) (pds_one (pds_ret (pd_var (i := 5) rfl (by first | exact Or.inl rfl | exact Or.inr (Or.inl rfl) | exact Or.inr (Or.inr rfl))))) pds_nil)
    (pds_cons (pds_set (i := 6) sc__law_done.nd rfl (by first | exact Or.inl rfl | exact Or.inr rfl) (pd_ty ty_tuple (by rfl) Z.b_tuple rfl (pda_cons (pd_lc (own := [("_law_one", 8)]) rfl sc__law_done.nd (pdi_tup (pd_ixK ft.u (pd_var (i := 0) rfl (by first | exact Or.inl rfl | exact Or.inr (Or.inl rfl) | exact Or.inr (Or.inr rfl))) pd_str)) (blkOk_by rfl) (fun _ _ _ _ _ => pg_name (i := 8) sc__law_done.nd rfl (by first | exact Or.inl rfl | exact Or.inr rfl)) (tg_one 8) (by decide) (fun _ _ _ _ _ => (pdts_one (pdt_cmp (cmp_ne (ft.blk _ _ _ _ _ _).u) (pd_var (i := 8) rfl (by first | exact Or.inl rfl | exact Or.inr (Or.inl rfl) | exact Or.inr (Or.inr rfl))) (pd_var (i := 4) rfl (by first | exact Or.inl rfl | exact Or.inr (Or.inl rfl) | exact Or.inr (Or.inr rfl))) (by rfl)))) (fun _ _ _ _ _ => (pd_var (i := 8) rfl (by first | exact Or.inl rfl | exact Or.inr (Or.inl rfl) | exact Or.inr (Or.inr rfl))))) pda_nil)))
    (pds_cons (pds_if (pdt_cmp (cmp_eq ft.u) (pd_var (i := 2) rfl (by first | exact Or.inl rfl | exact Or.inr (Or.inl rfl) | exact Or.inr (Or.inr rfl))) pd_str (by rfl)) (pds_one (pds_ret (pd_callA D__law_more (ft.mono (by decide)) (by rfl) (pda_cons (pd_var (i := 0) rfl (by first | exact Or.inl rfl | exact Or.inr (Or.inl rfl) | exact Or.inr (Or.inr rfl))) (pda_cons (pd_lst (pda_cons (pd_tup (pda_cons pd_str (pda_cons (pd_var (i := 6) rfl (by first | exact Or.inl rfl | exact Or.inr (Or.inl rfl) | exact Or.inr (Or.inr rfl))) pda_nil))) pda_nil)) pda_nil))))) pds_nil)
    (pds_cons (pds_if (pdt_cmp (cmp_eq ft.u) (pd_var (i := 2) rfl (by first | exact Or.inl rfl | exact Or.inr (Or.inl rfl) | exact Or.inr (Or.inr rfl))) pd_str (by rfl)) (pds_one (pds_ret (pd_callA D__law_gone (ft.mono (by decide)) (by rfl) (pda_cons (pd_var (i := 0) rfl (by first | exact Or.inl rfl | exact Or.inr (Or.inl rfl) | exact Or.inr (Or.inr rfl))) (pda_cons (pd_var (i := 4) rfl (by first | exact Or.inl rfl | exact Or.inr (Or.inl rfl) | exact Or.inr (Or.inr rfl))) (pda_cons (pd_tup (pda_cons pd_str (pda_cons (pd_ix (pd_var (i := 1) rfl (by first | exact Or.inl rfl | exact Or.inr (Or.inl rfl) | exact Or.inr (Or.inr rfl))) pd_int) (pda_cons (pd_ix (pd_var (i := 1) rfl (by first | exact Or.inl rfl | exact Or.inr (Or.inl rfl) | exact Or.inr (Or.inr rfl))) pd_int) pda_nil)))) (pda_cons (pd_var (i := 6) rfl (by first | exact Or.inl rfl | exact Or.inr (Or.inl rfl) | exact Or.inr (Or.inr rfl))) pda_nil))))))) pds_nil)
    (pds_cons (pds_if (pdt_cmp (cmp_eq ft.u) (pd_var (i := 2) rfl (by first | exact Or.inl rfl | exact Or.inr (Or.inl rfl) | exact Or.inr (Or.inr rfl))) pd_str (by rfl)) (pds_cons (pds_set (i := 7) sc__law_done.nd rfl (by first | exact Or.inl rfl | exact Or.inr rfl) (pd_ty ty_tuple (by rfl) Z.b_tuple rfl (pda_cons (pd_lc (own := [("_law_one", 8)]) rfl sc__law_done.nd (pdi_tup (pd_var (i := 4) rfl (by first | exact Or.inl rfl | exact Or.inr (Or.inl rfl) | exact Or.inr (Or.inr rfl)))) (blkOk_by rfl) (fun _ _ _ _ _ => pg_name (i := 8) sc__law_done.nd rfl (by first | exact Or.inl rfl | exact Or.inr rfl)) (tg_one 8) (by decide) (fun _ _ _ _ _ => (pdts_one (pdt_cmp (cmp_ne (ft.blk _ _ _ _ _ _).u) (pd_var (i := 8) rfl (by first | exact Or.inl rfl | exact Or.inr (Or.inl rfl) | exact Or.inr (Or.inr rfl))) (pd_var (i := 3) rfl (by first | exact Or.inl rfl | exact Or.inr (Or.inl rfl) | exact Or.inr (Or.inr rfl))) (by rfl)))) (fun _ _ _ _ _ => (pd_var (i := 8) rfl (by first | exact Or.inl rfl | exact Or.inr (Or.inl rfl) | exact Or.inr (Or.inr rfl))))) pda_nil)))
    (pds_one (pds_ret (pd_callA D__law_gone (ft.mono (by decide)) (by rfl) (pda_cons (pd_var (i := 0) rfl (by first | exact Or.inl rfl | exact Or.inr (Or.inl rfl) | exact Or.inr (Or.inr rfl))) (pda_cons (pd_tup (pda_cons (pd_var (i := 3) rfl (by first | exact Or.inl rfl | exact Or.inr (Or.inl rfl) | exact Or.inr (Or.inr rfl))) pda_nil)) (pda_cons (pd_tup (pda_cons pd_str (pda_cons (pd_ix (pd_var (i := 1) rfl (by first | exact Or.inl rfl | exact Or.inr (Or.inl rfl) | exact Or.inr (Or.inr rfl))) pd_int) pda_nil))) (pda_cons (pd_ty ty_tuple (by rfl) Z.b_tuple rfl (pda_cons (pd_blt (blt_sortTu ft.u) (by rfl) Z.b_sorted rfl (pda_cons (pd_add (pd_var (i := 6) rfl (by first | exact Or.inl rfl | exact Or.inr (Or.inl rfl) | exact Or.inr (Or.inr rfl))) (pd_ite (pdt_cmp (cmp_ne ft.u) (pd_var (i := 7) rfl (by first | exact Or.inl rfl | exact Or.inr (Or.inl rfl) | exact Or.inr (Or.inr rfl))) (pd_tup pda_nil) (by rfl)) (pd_tup (pda_cons (pd_var (i := 7) rfl (by first | exact Or.inl rfl | exact Or.inr (Or.inl rfl) | exact Or.inr (Or.inr rfl))) pda_nil)) (pd_tup pda_nil))) pda_nil)) pda_nil)) pda_nil)))))))) pds_nil)
    (pds_one (pds_ret (pd_callA D__law_gone (ft.mono (by decide)) (by rfl) (pda_cons (pd_var (i := 0) rfl (by first | exact Or.inl rfl | exact Or.inr (Or.inl rfl) | exact Or.inr (Or.inr rfl))) (pda_cons (pd_tup (pda_cons (pd_var (i := 3) rfl (by first | exact Or.inl rfl | exact Or.inr (Or.inl rfl) | exact Or.inr (Or.inr rfl))) pda_nil)) (pda_cons (pd_tup (pda_cons (pd_ix (pd_lst (pda_cons pd_str (pda_cons pd_str pda_nil))) (pd_ty ty_int (by rfl) Z.b_int rfl (pda_cons (pd_cmpD (cmp_eq ft.u) (pd_var (i := 2) rfl (by first | exact Or.inl rfl | exact Or.inr (Or.inl rfl) | exact Or.inr (Or.inr rfl))) pd_str (by rfl)) pda_nil))) (pda_cons (pd_ix (pd_var (i := 1) rfl (by first | exact Or.inl rfl | exact Or.inr (Or.inl rfl) | exact Or.inr (Or.inr rfl))) pd_int) (pda_cons (pd_ix (pd_var (i := 1) rfl (by first | exact Or.inl rfl | exact Or.inr (Or.inl rfl) | exact Or.inr (Or.inr rfl))) pd_int) pda_nil)))) (pda_cons (pd_ixK ft.u (pd_var (i := 0) rfl (by first | exact Or.inl rfl | exact Or.inr (Or.inl rfl) | exact Or.inr (Or.inr rfl))) pd_str) pda_nil)))))))))))))))))
theorem ok__law_moved {w : World} {T : Txt} {mg : Str → Option Value} {base : Heap} (Z : Facts T mg) (D__law_more : Def P w T mg base 1 56 "_law_more" ["_law_state", "_law_changes"] f__law_more) (D__law_place : Def P w T mg base 2 59 "_law_place" ["_law_state", "_law_chamber", "_law_board"] f__law_place) (D__law_rows_less : Def P w T mg base 1 63 "_law_rows_less" ["_law_state", "_law_numbers"] f__law_rows_less) (D__law_there : Def P w T mg base 3 58 "_law_there" ["_law_state", "_law_token"] f__law_there) (hdo : T.dto = mdict P w) (l : Lk T 66 "_law_moved" "_law_moved" st__law_moved) (hg : mg "_law_moved" = some (.ref (T.fa 66))) : Def P w T mg base 4 66 "_law_moved" ["_law_state", "_law_deed_here"] f__law_moved := by
  refine defD_of (m := m__law_moved) (k := 3) (N := ["_law_state", "_law_deed_here", "_law_word_here", "_law_token", "_law_chamber", "_law_board", "_law_bad", "_law_rows"]) (ps := ["_law_state", "_law_deed_here"]) (st := st__law_moved) l hg sc__law_moved (fun _ _ _ _ _ _ us hl => match us, hl with | [_, _], _ => rfl) fun cdv A outer s H E xp ft po => ?_
  exact (pds_cons (pds_asg (pg_tup rfl (pgs_cons (pg_name (i := 2) sc__law_moved.nd rfl (by first | exact Or.inl rfl | exact Or.inr rfl)) (pgs_cons (pg_name (i := 3) sc__law_moved.nd rfl (by first | exact Or.inl rfl | exact Or.inr rfl)) (pgs_cons (pg_name (i := 4) sc__law_moved.nd rfl (by first | exact Or.inl rfl | exact Or.inr rfl)) (pgs_cons (pg_name (i := 5) sc__law_moved.nd rfl (by first | exact Or.inl rfl | exact Or.inr rfl)) pgs_nil))))) (tg_tup rfl [2, 3, 4, 5] rfl) (pd_var (i := 1) rfl (by first | exact Or.inl rfl | exact Or.inr (Or.inl rfl) | exact Or.inr (Or.inr rfl))))
    (pds_cons (pds_set (i := 6) sc__law_moved.nd rfl (by first | exact Or.inl rfl | exact Or.inr rfl) (pd_or (pd_callA D__law_there (ft.mono (by decide)) (by rfl) (pda_cons (pd_var (i := 0) rfl (by first | exact Or.inl rfl | exact Or.inr (Or.inl rfl) | exact Or.inr (Or.inr rfl))) (pda_cons (pd_var (i := 3) rfl (by first | exact Or.inl rfl | exact Or.inr (Or.inl rfl) | exact Or.inr (Or.inr rfl))) pda_nil))) (pd_last (pd_callA D__law_place (ft.mono (by decide)) (by rfl) (pda_cons (pd_var (i := 0) rfl (by first | exact Or.inl rfl | exact Or.inr (Or.inl rfl) | exact Or.inr (Or.inr rfl))) (pda_cons (pd_var (i := 4) rfl (by first | exact Or.inl rfl | exact Or.inr (Or.inl rfl) | exact Or.inr (Or.inr rfl))) (pda_cons (pd_var (i := 5) rfl (by first | exact Or.inl rfl | exact Or.inr (Or.inl rfl) | exact Or.inr (Or.inr rfl))) pda_nil)))))))
    (pds_cons (pds_if (pdt_cmp cmp_isnot (pd_var (i := 6) rfl (by first | exact Or.inl rfl | exact Or.inr (Or.inl rfl) | exact Or.inr (Or.inr rfl))) pd_non (by rfl)) (pds_one (pds_ret (pd_var (i := 6) rfl (by first | exact Or.inl rfl | exact Or.inr (Or.inl rfl) | exact Or.inr (Or.inr rfl))))) pds_nil)
    (pds_cons (pds_set (i := 7) sc__law_moved.nd rfl (by first | exact Or.inl rfl | exact Or.inr rfl) (pd_callA D__law_rows_less (ft.mono (by decide)) (by rfl) (pda_cons (pd_var (i := 0) rfl (by first | exact Or.inl rfl | exact Or.inr (Or.inl rfl) | exact Or.inr (Or.inr rfl))) (pda_cons (pd_tup (pda_cons (pd_var (i := 3) rfl (by first | exact Or.inl rfl | exact Or.inr (Or.inl rfl) | exact Or.inr (Or.inr rfl))) pda_nil)) pda_nil))))
    (pds_cons (pds_if (pdt_cmp cmp_ge (pd_blt (BltD.or blt_len blt_lenK) (by rfl) Z.b_len rfl (pda_cons (pd_ixB hdo ft.u (pd_var (i := 7) rfl (by first | exact Or.inl rfl | exact Or.inr (Or.inl rfl) | exact Or.inr (Or.inr rfl))) (pd_tup (pda_cons (pd_var (i := 4) rfl (by first | exact Or.inl rfl | exact Or.inr (Or.inl rfl) | exact Or.inr (Or.inr rfl))) (pda_cons (pd_var (i := 5) rfl (by first | exact Or.inl rfl | exact Or.inr (Or.inl rfl) | exact Or.inr (Or.inr rfl))) pda_nil)))) pda_nil)) (pd_ixK ft.u (pd_var (i := 0) rfl (by first | exact Or.inl rfl | exact Or.inr (Or.inl rfl) | exact Or.inr (Or.inr rfl))) pd_str) (by rfl)) (pds_one (pds_ret (pd_tup (pda_cons pd_str (pda_cons (pd_var (i := 4) rfl (by first | exact Or.inl rfl | exact Or.inr (Or.inl rfl) | exact Or.inr (Or.inr rfl))) (pda_cons (pd_var (i := 5) rfl (by first | exact Or.inl rfl | exact Or.inr (Or.inl rfl) | exact Or.inr (Or.inr rfl))) pda_nil)))))) pds_nil)
    (pds_cons (pds_setT hdo (pd_add (pd_ixB hdo ft.u (pd_var (i := 7) rfl (by first | exact Or.inl rfl | exact Or.inr (Or.inl rfl) | exact Or.inr (Or.inr rfl))) (pd_tup (pda_cons (pd_var (i := 4) rfl (by first | exact Or.inl rfl | exact Or.inr (Or.inl rfl) | exact Or.inr (Or.inr rfl))) (pda_cons (pd_var (i := 5) rfl (by first | exact Or.inl rfl | exact Or.inr (Or.inl rfl) | exact Or.inr (Or.inr rfl))) pda_nil)))) (pd_tup (pda_cons (pd_var (i := 3) rfl (by first | exact Or.inl rfl | exact Or.inr (Or.inl rfl) | exact Or.inr (Or.inr rfl))) pda_nil))) (pd_var (i := 7) rfl (by first | exact Or.inl rfl | exact Or.inr (Or.inl rfl) | exact Or.inr (Or.inr rfl))) (pd_tup (pda_cons (pd_var (i := 4) rfl (by first | exact Or.inl rfl | exact Or.inr (Or.inl rfl) | exact Or.inr (Or.inr rfl))) (pda_cons (pd_var (i := 5) rfl (by first | exact Or.inl rfl | exact Or.inr (Or.inl rfl) | exact Or.inr (Or.inr rfl))) pda_nil))) (fun _ _ a b => pg_sub a b (set_dictT ft.u1)))
    (pds_one (pds_ret (pd_callA D__law_more (ft.mono (by decide)) (by rfl) (pda_cons (pd_var (i := 0) rfl (by first | exact Or.inl rfl | exact Or.inr (Or.inl rfl) | exact Or.inr (Or.inr rfl))) (pda_cons (pd_lst (pda_cons (pd_tup (pda_cons pd_str (pda_cons (pd_frzT hdo (pd_var (i := 7) rfl (by first | exact Or.inl rfl | exact Or.inr (Or.inl rfl) | exact Or.inr (Or.inr rfl)))) pda_nil))) pda_nil)) pda_nil)))))))))))
theorem ok__law_met {w : World} {T : Txt} {mg : Str → Option Value} {base : Heap} (Z : Facts T mg) (D__law_call : Def P w T mg base 8 71 "_law_call" ["_law_cellar", "_law_deed_here"] f__law_call) (H__law_word : DefH P w T mg base 1 70 "_law_word" ["_law_e"] f__law_word) (N_Cellar_lay : DefM P w T mg base 5 1 31 "lay" f_Cellar_lay ways_Cellar_lay) (MB_Bottle : Mk_Bottle P w T mg base) (l : Lk T 72 "_law_met" "_law_met" st__law_met) (hg : mg "_law_met" = some (.ref (T.fa 72))) : Def P w T mg base 9 72 "_law_met" ["_law_cellar", "_law_deed_here"] f__law_met := by
  obtain ⟨fd_Bottle, K_Bottle, F_Bottle, B_Bottle_2_size⟩ := MB_Bottle.ex
  refine defD_of0 (m := m__law_met) (k := 8) (N := ["_law_cellar", "_law_deed_here", "_law_thing", "_law_e"]) (ps := ["_law_cellar", "_law_deed_here"]) (st := st__law_met) l hg sc__law_met (fun _ _ _ _ _ _ us hl => match us, hl with | [_, _], _ => rfl) fun cdv A outer s H E ft po => ?_
  exact (pds_one (pds_tryTwo (i := 3) rfl rfl sc__law_met.nd rfl rfl ⟨by rfl, by decide, .inl Z.c_CellarError⟩ ⟨by rfl, by decide, .inl Z.c_HereError⟩ ft.tk Z.k_CellarError_HereError
    (fun W pn xe tk po => have ftt := ft.try tk; (pds_cons (pds_if (pdt_cmp (cmp_eq ftt.u) (pd_ix (pd_var (i := 1) rfl (by first | exact Or.inl rfl | exact Or.inr (Or.inl rfl) | exact Or.inr (Or.inr rfl))) pd_int) pd_str (by rfl)) (pds_cons (pds_set (i := 2) sc__law_met.nd rfl (by first | exact Or.inl rfl | exact Or.inr rfl) (pd_ite (pdt_truth (pd_blt (blt_isi Z.own Z.isT) (by rfl) Z.b_isinstance rfl (pda_cons (pd_ix (pd_var (i := 1) rfl (by first | exact Or.inl rfl | exact Or.inr (Or.inl rfl) | exact Or.inr (Or.inr rfl))) pd_int) (pda_cons (pd_bt (n := "tuple") rfl Z.b_tuple (by rfl)) pda_nil)))) (pd_frz (pd_makeM K_Bottle F_Bottle (ftt.mono (by decide)).room ftt.tk B_Bottle_2_size (by rfl) Z.c_Bottle (pda_cons (pd_ix (pd_ix (pd_var (i := 1) rfl (by first | exact Or.inl rfl | exact Or.inr (Or.inl rfl) | exact Or.inr (Or.inr rfl))) pd_int) pd_int) (pda_cons (pd_ix (pd_ix (pd_var (i := 1) rfl (by first | exact Or.inl rfl | exact Or.inr (Or.inl rfl) | exact Or.inr (Or.inr rfl))) pd_int) pd_int) pda_nil)) (pdk_cons (pd_ix (pd_ix (pd_var (i := 1) rfl (by first | exact Or.inl rfl | exact Or.inr (Or.inl rfl) | exact Or.inr (Or.inr rfl))) pd_int) pd_int) pdk_nil))) (pd_ix (pd_var (i := 1) rfl (by first | exact Or.inl rfl | exact Or.inr (Or.inl rfl) | exact Or.inr (Or.inr rfl))) pd_int)))
    (pds_one (pds_ret (pd_methM Z.i_Cellar (by rw [Z.f_Cellar]; decide) N_Cellar_lay List.mem_cons_self (ftt.mono (by decide)) (pd_var (i := 0) rfl (by first | exact Or.inl rfl | exact Or.inr (Or.inl rfl) | exact Or.inr (Or.inr rfl))) (pda_cons (pd_var (i := 2) rfl (by first | exact Or.inl rfl | exact Or.inr (Or.inl rfl) | exact Or.inr (Or.inr rfl))) pda_nil) (pdk_cons (pd_ix (pd_var (i := 1) rfl (by first | exact Or.inl rfl | exact Or.inr (Or.inl rfl) | exact Or.inr (Or.inr rfl))) pd_int) (pdk_cons (pd_ix (pd_var (i := 1) rfl (by first | exact Or.inl rfl | exact Or.inr (Or.inl rfl) | exact Or.inr (Or.inr rfl))) pd_int) pdk_nil)))))) pds_nil)
    (pds_one (pds_ret (pd_callA D__law_call (ftt.mono (by decide)) (by rfl) (pda_cons (pd_var (i := 0) rfl (by first | exact Or.inl rfl | exact Or.inr (Or.inl rfl) | exact Or.inr (Or.inr rfl))) (pda_cons (pd_var (i := 1) rfl (by first | exact Or.inl rfl | exact Or.inr (Or.inl rfl) | exact Or.inr (Or.inr rfl))) pda_nil)))))))
    (fun a oe c d pn hz hf => (pds_one (pds_ret (pd_callHA H__law_word rfl hz hf (ft.room.mono (by decide)) (by rfl) (pda_cons (pd_var (i := 3) rfl (by first | exact Or.inl rfl | exact Or.inr (Or.inl rfl) | exact Or.inr (Or.inr rfl))) pda_nil)))))))
theorem ok_Cellar_loosen {w : World} {T : Txt} {mg : Str → Option Value} {base : Heap} (Z : Facts T mg) (D__put : Def P w T mg base 1 12 "_put" ["told", "numbers", "worth"] f__put) (N_Cellar__bound_with : DefM P w T mg base 6 1 28 "_bound_with" f_Cellar__bound_with ways_Cellar__bound_with) (N_Cellar__keep : DefM P w T mg base 2 1 21 "_keep" f_Cellar__keep ways_Cellar__keep) (l : LkD T 38 "loosen" "Cellar.loosen" st_Cellar_loosen []) (me : Meth T.K (T.ca 1) "loosen" (T.fa 38)) : DefM P w T mg base 7 1 38 "loosen" f_Cellar_loosen ways_Cellar_loosen := by
  refine defM_of (c := 1) (nm := "loosen") (m := m_Cellar_loosen) (k := 6) (N := ["self", "number", "bound"]) (ps := ["self", "number"]) (st := st_Cellar_loosen) l me sc_Cellar_loosen (fun fd F z hz => ?_) fun cdv A outer s H E xp ft po => ?_
  · skip
    rcases List.mem_cons.mp hz with hz | hz
    · subst hz
      refine bd_nod (g := fun {α} us ws => gg_Cellar_loosen_1 us [] ws) F (fun r q => r) (fun _ _ _ _ _ _ _ r q => r) (fun vs zs h1 h2 => by unfold gg_Cellar_loosen_1; simp [h1, h2]) ?_
      intro kV doc pm an cdv ct us ws h1 h3
      match us, ws, h1, h3 with
      | [_, _], [], _, _ => rfl
    exact absurd hz List.not_mem_nil
  · exact (pds_cons (pds_set (i := 2) sc_Cellar_loosen.nd rfl (by first | exact Or.inl rfl | exact Or.inr rfl) (pd_methM Z.i_Cellar (by rw [Z.f_Cellar]; decide) N_Cellar__bound_with List.mem_cons_self (ft.mono (by decide)) (pd_var (i := 0) rfl (by first | exact Or.inl rfl | exact Or.inr (Or.inl rfl) | exact Or.inr (Or.inr rfl))) (pda_cons (pd_var (i := 1) rfl (by first | exact Or.inl rfl | exact Or.inr (Or.inl rfl) | exact Or.inr (Or.inr rfl))) pda_nil) pdk_nil))
    (pds_cons (pds_drop (pd_methM0 Z.i_Cellar (by rw [Z.f_Cellar]; decide) N_Cellar__keep List.mem_cons_self (ft.mono (by decide)) (pd_var (i := 0) rfl (by first | exact Or.inl rfl | exact Or.inr (Or.inl rfl) | exact Or.inr (Or.inr rfl)))  pdk_nil))
    (pds_one (pds_setF (i := 5) Z.i_Cellar (by rw [Z.f_Cellar]; rfl) (pd_var (i := 0) rfl (by first | exact Or.inl rfl | exact Or.inr (Or.inl rfl) | exact Or.inr (Or.inr rfl))) (pd_callA D__put (ft.mono (by decide)) (by rfl) (pda_cons (pd_fld (i := 5) Z.i_Cellar (by rw [Z.f_Cellar]; rfl) (pd_var (i := 0) rfl (by first | exact Or.inl rfl | exact Or.inr (Or.inl rfl) | exact Or.inr (Or.inr rfl)))) (pda_cons (pd_var (i := 2) rfl (by first | exact Or.inl rfl | exact Or.inr (Or.inl rfl) | exact Or.inr (Or.inr rfl))) (pda_cons (pd_tup pda_nil) pda_nil))))))))
theorem ok_Cellar_row {w : World} {T : Txt} {mg : Str → Option Value} {base : Heap} (Z : Facts T mg) (N_Cellar__check_place : DefM P w T mg base 4 1 23 "_check_place" f_Cellar__check_place ways_Cellar__check_place) (l : LkD T 43 "row" "Cellar.row" st_Cellar_row [.int 0, .int 0]) (me : Meth T.K (T.ca 1) "row" (T.fa 43)) : DefM P w T mg base 5 1 43 "row" f_Cellar_row ways_Cellar_row := by
  refine defM_of (c := 1) (nm := "row") (m := m_Cellar_row) (k := 4) (N := ["self", "room", "shelf"]) (ps := ["self", "room", "shelf"]) (st := st_Cellar_row) l me sc_Cellar_row (fun fd F z hz => ?_) fun cdv A outer s H E xp ft po => ?_
  · skip
    rcases List.mem_cons.mp hz with hz | hz
    · subst hz
      refine bd_dfl (dds := [.int 0, .int 0]) gg_Cellar_row_1_shelf F (by simp) (fun _ _ _ => .cons (.int 0) (.cons (.int 0) .nil)) (fun r d q => r.append ((q.drop 0).take 1)) (fun _ _ _ _ _ _ _ _ _ r d q => r.append ((q.drop 0).take 1)) (fun vs zs h1 h2 => by unfold gg_Cellar_row_1_shelf; simp [h1, h2]) ?_
      intro Dv kV doc pm an cdv ct us its ws h1 h2 h3
      match us, its, ws, h1, h2, h3 with
      | [_, _], [_, _], [_], _, _, _ => exact ⟨_, rfl, rfl⟩
    exact absurd hz List.not_mem_nil
  · exact (pds_cons (pds_drop (pd_methM Z.i_Cellar (by rw [Z.f_Cellar]; decide) N_Cellar__check_place List.mem_cons_self (ft.mono (by decide)) (pd_var (i := 0) rfl (by first | exact Or.inl rfl | exact Or.inr (Or.inl rfl) | exact Or.inr (Or.inr rfl))) (pda_cons (pd_var (i := 1) rfl (by first | exact Or.inl rfl | exact Or.inr (Or.inl rfl) | exact Or.inr (Or.inr rfl))) (pda_cons (pd_var (i := 2) rfl (by first | exact Or.inl rfl | exact Or.inr (Or.inl rfl) | exact Or.inr (Or.inr rfl))) pda_nil)) pdk_nil))
    (pds_one (pds_ret (pd_ty ty_listN (by rfl) Z.b_list rfl (pda_cons (pd_ix (pd_ix (pd_fld (i := 3) Z.i_Cellar (by rw [Z.f_Cellar]; rfl) (pd_var (i := 0) rfl (by first | exact Or.inl rfl | exact Or.inr (Or.inl rfl) | exact Or.inr (Or.inr rfl)))) (pd_var (i := 1) rfl (by first | exact Or.inl rfl | exact Or.inr (Or.inl rfl) | exact Or.inr (Or.inr rfl)))) (pd_var (i := 2) rfl (by first | exact Or.inl rfl | exact Or.inr (Or.inl rfl) | exact Or.inr (Or.inr rfl)))) pda_nil)))))
theorem ok__law_rows_less {w : World} {T : Txt} {mg : Str → Option Value} {base : Heap} (Z : Facts T mg) (hdo : T.dto = mdict P w) (l : Lk T 63 "_law_rows_less" "_law_rows_less" st__law_rows_less) (hg : mg "_law_rows_less" = some (.ref (T.fa 63))) : Def P w T mg base 1 63 "_law_rows_less" ["_law_state", "_law_numbers"] f__law_rows_less := by
  refine defD_of (m := m__law_rows_less) (k := 0) (N := ["_law_state", "_law_numbers", "_law_found", "_law_place_here", "_law_row", "_law_one"]) (ps := ["_law_state", "_law_numbers"]) (st := st__law_rows_less) l hg sc__law_rows_less (fun _ _ _ _ _ _ us hl => match us, hl with | [_, _], _ => rfl) fun cdv A outer s H E xp ft po => ?_
  exact (pds_cons (pds_set (i := 2) sc__law_rows_less.nd rfl (by first | exact Or.inl rfl | exact Or.inr rfl) (pd_newT hdo))
    (pds_cons (pds_forN po rfl (pdi_itemsX hdo (pd_ixK ft.u (pd_var (i := 0) rfl (by first | exact Or.inl rfl | exact Or.inr (Or.inl rfl) | exact Or.inr (Or.inr rfl))) pd_str)) (pg_tup rfl (pgs_cons (pg_name (i := 3) sc__law_rows_less.nd rfl (by first | exact Or.inl rfl | exact Or.inr rfl)) (pgs_cons (pg_name (i := 4) sc__law_rows_less.nd rfl (by first | exact Or.inl rfl | exact Or.inr rfl)) pgs_nil))) (tg_tup rfl [3, 4] rfl)
    (pds_one (pds_setT hdo (pd_ty ty_tuple (by rfl) Z.b_tuple rfl (pda_cons (pd_lc (own := [("_law_one", 5)]) rfl sc__law_rows_less.nd (pdi_tup (pd_var (i := 4) rfl (by first | exact Or.inl rfl | exact Or.inr (Or.inl rfl) | exact Or.inr (Or.inr rfl)))) (blkOk_by rfl) (fun _ _ _ _ _ => pg_name (i := 5) sc__law_rows_less.nd rfl (by first | exact Or.inl rfl | exact Or.inr rfl)) (tg_one 5) (by decide) (fun _ _ _ _ _ => (pdts_one (pdt_cmp cmp_notin (pd_var (i := 5) rfl (by first | exact Or.inl rfl | exact Or.inr (Or.inl rfl) | exact Or.inr (Or.inr rfl))) (pd_var (i := 1) rfl (by first | exact Or.inl rfl | exact Or.inr (Or.inl rfl) | exact Or.inr (Or.inr rfl))) (by rfl)))) (fun _ _ _ _ _ => (pd_var (i := 5) rfl (by first | exact Or.inl rfl | exact Or.inr (Or.inl rfl) | exact Or.inr (Or.inr rfl))))) pda_nil)) (pd_var (i := 2) rfl (by first | exact Or.inl rfl | exact Or.inr (Or.inl rfl) | exact Or.inr (Or.inr rfl))) (pd_var (i := 3) rfl (by first | exact Or.inl rfl | exact Or.inr (Or.inl rfl) | exact Or.inr (Or.inr rfl))) (fun _ _ a b => pg_sub a b (set_dictT ft.u1)))))
    (pds_one (pds_ret (pd_var (i := 2) rfl (by first | exact Or.inl rfl | exact Or.inr (Or.inl rfl) | exact Or.inr (Or.inr rfl)))))))
theorem ok__law_there {w : World} {T : Txt} {mg : Str → Option Value} {base : Heap} (Z : Facts T mg) (D__law_within : Def P w T mg base 2 51 "_law_within" ["_law_thing", "_law_low", "_law_high"] f__law_within) (l : Lk T 58 "_law_there" "_law_there" st__law_there) (hg : mg "_law_there" = some (.ref (T.fa 58))) : Def P w T mg base 3 58 "_law_there" ["_law_state", "_law_token"] f__law_there := by
  refine defD_of (m := m__law_there) (k := 2) (N := ["_law_state", "_law_token", "_law_end"]) (ps := ["_law_state", "_law_token"]) (st := st__law_there) l hg sc__law_there (fun _ _ _ _ _ _ us hl => match us, hl with | [_, _], _ => rfl) fun cdv A outer s H E xp ft po => ?_
  exact (pds_cons (pds_if (pdt_not (pdt_truth (pd_callA D__law_within (ft.mono (by decide)) (by rfl) (pda_cons (pd_var (i := 1) rfl (by first | exact Or.inl rfl | exact Or.inr (Or.inl rfl) | exact Or.inr (Or.inr rfl))) (pda_cons pd_int (pda_cons (pd_sub (pd_blt (BltD.or blt_len blt_lenK) (by rfl) Z.b_len rfl (pda_cons (pd_ixK ft.u (pd_var (i := 0) rfl (by first | exact Or.inl rfl | exact Or.inr (Or.inl rfl) | exact Or.inr (Or.inr rfl))) pd_str) pda_nil)) pd_int) pda_nil)))))) (pds_one (pds_ret (pd_tup (pda_cons pd_str pda_nil)))) pds_nil)
    (pds_cons (pds_set (i := 2) sc__law_there.nd rfl (by first | exact Or.inl rfl | exact Or.inr rfl) (pd_ix (pd_ixK ft.u (pd_var (i := 0) rfl (by first | exact Or.inl rfl | exact Or.inr (Or.inl rfl) | exact Or.inr (Or.inr rfl))) pd_str) (pd_var (i := 1) rfl (by first | exact Or.inl rfl | exact Or.inr (Or.inl rfl) | exact Or.inr (Or.inr rfl)))))
    (pds_one (pds_ret (pd_ite (pdt_cmp cmp_is (pd_var (i := 2) rfl (by first | exact Or.inl rfl | exact Or.inr (Or.inl rfl) | exact Or.inr (Or.inr rfl))) pd_non (by rfl)) pd_non (pd_tup (pda_cons pd_str (pda_cons (pd_var (i := 1) rfl (by first | exact Or.inl rfl | exact Or.inr (Or.inl rfl) | exact Or.inr (Or.inr rfl))) (pda_cons (pd_var (i := 2) rfl (by first | exact Or.inl rfl | exact Or.inr (Or.inl rfl) | exact Or.inr (Or.inr rfl))) pda_nil)))))))))
theorem ok_Cellar_set_of {w : World} {T : Txt} {mg : Str → Option Value} {base : Heap} (Z : Facts T mg) (N_Cellar__check_lies : DefM P w T mg base 5 1 25 "_check_lies" f_Cellar__check_lies ways_Cellar__check_lies) (l : LkD T 46 "set_of" "Cellar.set_of" st_Cellar_set_of []) (me : Meth T.K (T.ca 1) "set_of" (T.fa 46)) : DefM P w T mg base 6 1 46 "set_of" f_Cellar_set_of ways_Cellar_set_of := by
  refine defM_of (c := 1) (nm := "set_of") (m := m_Cellar_set_of) (k := 5) (N := ["self", "number"]) (ps := ["self", "number"]) (st := st_Cellar_set_of) l me sc_Cellar_set_of (fun fd F z hz => ?_) fun cdv A outer s H E xp ft po => ?_
  · skip
    rcases List.mem_cons.mp hz with hz | hz
    · subst hz
      refine bd_nod (g := fun {α} us ws => gg_Cellar_set_of_1 us [] ws) F (fun r q => r) (fun _ _ _ _ _ _ _ r q => r) (fun vs zs h1 h2 => by unfold gg_Cellar_set_of_1; simp [h1, h2]) ?_
      intro kV doc pm an cdv ct us ws h1 h3
      match us, ws, h1, h3 with
      | [_, _], [], _, _ => rfl
    exact absurd hz List.not_mem_nil
  · exact (pds_cons (pds_drop (pd_methM Z.i_Cellar (by rw [Z.f_Cellar]; decide) N_Cellar__check_lies List.mem_cons_self (ft.mono (by decide)) (pd_var (i := 0) rfl (by first | exact Or.inl rfl | exact Or.inr (Or.inl rfl) | exact Or.inr (Or.inr rfl))) (pda_cons (pd_var (i := 1) rfl (by first | exact Or.inl rfl | exact Or.inr (Or.inl rfl) | exact Or.inr (Or.inr rfl))) pda_nil) pdk_nil))
    (pds_one (pds_ret (pd_ix (pd_fld (i := 5) Z.i_Cellar (by rw [Z.f_Cellar]; rfl) (pd_var (i := 0) rfl (by first | exact Or.inl rfl | exact Or.inr (Or.inl rfl) | exact Or.inr (Or.inr rfl)))) (pd_var (i := 1) rfl (by first | exact Or.inl rfl | exact Or.inr (Or.inl rfl) | exact Or.inr (Or.inr rfl)))))))
theorem ok__row_text {w : World} {T : Txt} {mg : Str → Option Value} {base : Heap} (Z : Facts T mg) (l : Lk T 15 "_row_text" "_row_text" st__row_text) (hg : mg "_row_text" = some (.ref (T.fa 15))) : Def P w T mg base 1 15 "_row_text" ["room", "shelf", "row"] f__row_text := by
  refine defD_of (m := m__row_text) (k := 0) (N := ["room", "shelf", "row", "number"]) (ps := ["room", "shelf", "row"]) (st := st__row_text) l hg sc__row_text (fun _ _ _ _ _ _ us hl => match us, hl with | [_, _, _], _ => rfl) fun cdv A outer s H E xp ft po => ?_
  exact (pds_one (pds_ret (pd_bm mt_joinD pd_str (pda_cons (pd_lst (pda_cons (pd_joined (.cons (pd_fmt (pd_var (i := 0) rfl (by first | exact Or.inl rfl | exact Or.inr (Or.inl rfl) | exact Or.inr (Or.inr rfl)))) (.cons pd_str (.cons (pd_fmt (pd_var (i := 1) rfl (by first | exact Or.inl rfl | exact Or.inr (Or.inl rfl) | exact Or.inr (Or.inr rfl)))) (.cons pd_str .nil))))) (pda_star (pd_lc (own := [("number", 3)]) rfl sc__row_text.nd (pdi_tup (pd_var (i := 2) rfl (by first | exact Or.inl rfl | exact Or.inr (Or.inl rfl) | exact Or.inr (Or.inr rfl)))) (blkOk_by rfl) (fun _ _ _ _ _ => pg_name (i := 3) sc__row_text.nd rfl (by first | exact Or.inl rfl | exact Or.inr rfl)) (tg_one 3) (by decide) (fun _ _ _ _ _ => pdts_nil) (fun _ _ _ _ _ => (pd_ty ty_str (by rfl) Z.b_str rfl (pda_cons (pd_var (i := 3) rfl (by first | exact Or.inl rfl | exact Or.inr (Or.inl rfl) | exact Or.inr (Or.inr rfl))) pda_nil)))) pda_nil))) pda_nil))))
theorem ok__law_within {w : World} {T : Txt} {mg : Str → Option Value} {base : Heap} (Z : Facts T mg) (D__law_whole : Def P w T mg base 1 50 "_law_whole" ["_law_thing"] f__law_whole) (l : Lk T 51 "_law_within" "_law_within" st__law_within) (hg : mg "_law_within" = some (.ref (T.fa 51))) : Def P w T mg base 2 51 "_law_within" ["_law_thing", "_law_low", "_law_high"] f__law_within := by
  refine defD_of (m := m__law_within) (k := 1) (N := ["_law_thing", "_law_low", "_law_high"]) (ps := ["_law_thing", "_law_low", "_law_high"]) (st := st__law_within) l hg sc__law_within (fun _ _ _ _ _ _ us hl => match us, hl with | [_, _, _], _ => rfl) fun cdv A outer s H E xp ft po => ?_
  exact (pds_one (pds_ret (pd_and (pd_callA D__law_whole (ft.mono (by decide)) (by rfl) (pda_cons (pd_var (i := 0) rfl (by first | exact Or.inl rfl | exact Or.inr (Or.inl rfl) | exact Or.inr (Or.inr rfl))) pda_nil)) (pd_last (pd_chain cmp_le cmp_le (pd_var (i := 1) rfl (by first | exact Or.inl rfl | exact Or.inr (Or.inl rfl) | exact Or.inr (Or.inr rfl))) (pd_var (i := 0) rfl (by first | exact Or.inl rfl | exact Or.inr (Or.inl rfl) | exact Or.inr (Or.inr rfl))) (pd_var (i := 2) rfl (by first | exact Or.inl rfl | exact Or.inr (Or.inl rfl) | exact Or.inr (Or.inr rfl))))))))
theorem ok_is_year {w : World} {T : Txt} {mg : Str → Option Value} {base : Heap} (Z : Facts T mg) (D_is_within : Def P w T mg base 2 1 "is_within" ["thing", "least", "most"] f_is_within) (l : Lk T 3 "is_year" "is_year" st_is_year) (hg : mg "is_year" = some (.ref (T.fa 3))) : Def P w T mg base 3 3 "is_year" ["thing"] f_is_year := by
  refine defD_of (m := m_is_year) (k := 2) (N := ["thing"]) (ps := ["thing"]) (st := st_is_year) l hg sc_is_year (fun _ _ _ _ _ _ us hl => match us, hl with | [_], _ => rfl) fun cdv A outer s H E xp ft po => ?_
  exact (pds_one (pds_ret (pd_callA D_is_within (ft.mono (by decide)) (by rfl) (pda_cons (pd_var (i := 0) rfl (by first | exact Or.inl rfl | exact Or.inr (Or.inl rfl) | exact Or.inr (Or.inr rfl))) (pda_cons pd_int (pda_cons pd_int pda_nil))))))
end K11
set_option maxRecDepth 100000
set_option maxHeartbeats 1000000
namespace K11
open PySem PySem.Spec PyProof.Rows L2 Den Cel Ste
theorem ok__law_shown {w : World} {T : Txt} {mg : Str → Option Value} {base : Heap} (Z : Facts T mg) (D__law_here : Def P w T mg base 1 75 "_law_here" ["_law_state"] f__law_here) (D__law_set : Def P w T mg base 1 61 "_law_set" ["_law_state", "_law_token"] f__law_set) (D__law_text : Def P w T mg base 1 76 "_law_text" ["_law_state"] f__law_text) (hdo : T.dto = mdict P w) (l : Lk T 77 "_law_shown" "_law_shown" st__law_shown) (hg : mg "_law_shown" = some (.ref (T.fa 77))) : Def P w T mg base 2 77 "_law_shown" ["_law_state"] f__law_shown := by
  refine defD_of (m := m__law_shown) (k := 1) (N := ["_law_state", "_law_rows", "_law_found", "_law_token", "_law_spots", "_law_kind", "_law_at", "_law_many", "_law_k", "_law_place_here", "_law_one"]) (ps := ["_law_state"]) (st := st__law_shown) l hg sc__law_shown (fun _ _ _ _ _ _ us hl => match us, hl with | [_], _ => rfl) fun cdv A outer s H E xp ft po => ?_
  exact (pds_cons (pds_asg (pg_tup rfl (pgs_cons (pg_name (i := 1) sc__law_shown.nd rfl (by first | exact Or.inl rfl | exact Or.inr rfl)) (pgs_cons (pg_name (i := 2) sc__law_shown.nd rfl (by first | exact Or.inl rfl | exact Or.inr rfl)) pgs_nil))) (tg_tup rfl [1, 2] rfl) (pd_tup (pda_cons (pd_ixK ft.u (pd_var (i := 0) rfl (by first | exact Or.inl rfl | exact Or.inr (Or.inl rfl) | exact Or.inr (Or.inr rfl))) pd_str) (pda_cons (pd_new (pda_cons (pd_blt (BltD.or blt_len blt_lenK) (by rfl) Z.b_len rfl (pda_cons (pd_callA D__law_here (ft.mono (by decide)) (by rfl) (pda_cons (pd_var (i := 0) rfl (by first | exact Or.inl rfl | exact Or.inr (Or.inl rfl) | exact Or.inr (Or.inr rfl))) pda_nil)) pda_nil)) (pda_cons (pd_callA D__law_text (ft.mono (by decide)) (by rfl) (pda_cons (pd_var (i := 0) rfl (by first | exact Or.inl rfl | exact Or.inr (Or.inl rfl) | exact Or.inr (Or.inr rfl))) pda_nil)) (pda_cons (pd_ixK ft.u (pd_var (i := 0) rfl (by first | exact Or.inl rfl | exact Or.inr (Or.inl rfl) | exact Or.inr (Or.inr rfl))) pd_str) (pda_cons (pd_ixK ft.u (pd_var (i := 0) rfl (by first | exact Or.inl rfl | exact Or.inr (Or.inl rfl) | exact Or.inr (Or.inr rfl))) pd_str) pda_nil))))) pda_nil))))
    (pds_cons (pds_drop (pd_bm mt_app (pd_var (i := 2) rfl (by first | exact Or.inl rfl | exact Or.inr (Or.inl rfl) | exact Or.inr (Or.inr rfl))) (pda_cons (pd_ty ty_tuple (by rfl) Z.b_tuple rfl (pda_cons (pd_lcP (own := [("_law_at", 6), ("_law_many", 7)]) rfl sc__law_shown.nd (pdi_enumT (by rfl) Z.b_enumerate (pd_ixK ft.u (pd_var (i := 0) rfl (by first | exact Or.inl rfl | exact Or.inr (Or.inl rfl) | exact Or.inr (Or.inr rfl))) pd_str)) (blkOk_by rfl) (fun _ _ _ _ _ => pg_tup rfl (pgs_cons (pg_name (i := 6) sc__law_shown.nd rfl (by first | exact Or.inl rfl | exact Or.inr rfl)) (pgs_cons (pg_name (i := 7) sc__law_shown.nd rfl (by first | exact Or.inl rfl | exact Or.inr rfl)) pgs_nil))) (tg_tup rfl [6, 7] rfl) (by decide) (fun _ _ _ _ _ => pdts_nil) (fun _ _ _ _ _ => (pd_ty ty_tuple (by rfl) Z.b_tuple rfl (pda_cons (pd_lcR1 (own := [("_law_k", 8)]) rfl sc__law_shown.nd (by rfl) Z.b_range (pda_cons (pd_var (i := 7) rfl (by first | exact Or.inl rfl | exact Or.inr (Or.inl rfl) | exact Or.inr (Or.inr rfl))) pda_nil) (blkOk_by rfl) (fun _ _ _ _ _ => pg_name (i := 8) sc__law_shown.nd rfl (by first | exact Or.inl rfl | exact Or.inr rfl)) (tg_one 8) (by decide) (fun _ _ _ _ _ => pdts_nil) (fun _ _ _ _ _ => (pd_blt (BltD.or blt_len blt_lenK) (by rfl) Z.b_len rfl (pda_cons (pd_ixT hdo ((ft.blk _ _ _ _ _ _).blk _ _ _ _ _ _).u (pd_var (i := 1) rfl (by first | exact Or.inl rfl | exact Or.inr (Or.inl rfl) | exact Or.inr (Or.inr rfl))) (pd_tup (pda_cons (pd_var (i := 6) rfl (by first | exact Or.inl rfl | exact Or.inr (Or.inl rfl) | exact Or.inr (Or.inr rfl))) (pda_cons (pd_var (i := 8) rfl (by first | exact Or.inl rfl | exact Or.inr (Or.inl rfl) | exact Or.inr (Or.inr rfl))) pda_nil)))) pda_nil)))) pda_nil)))) pda_nil)) pda_nil)))
    (pds_cons (pds_set (i := 2) sc__law_shown.nd rfl (by first | exact Or.inl rfl | exact Or.inr rfl) (pd_catN (pd_var (i := 2) rfl (by first | exact Or.inl rfl | exact Or.inr (Or.inl rfl) | exact Or.inr (Or.inr rfl))) (pd_lcL (own := [("_law_place_here", 9)]) rfl sc__law_shown.nd (pd_blt (blt_sortT rfl hdo ft.u) (by rfl) Z.b_sorted rfl (pda_cons (pd_var (i := 1) rfl (by first | exact Or.inl rfl | exact Or.inr (Or.inl rfl) | exact Or.inr (Or.inr rfl))) pda_nil)) (blkOk_by rfl) (fun _ _ _ _ _ => pg_name (i := 9) sc__law_shown.nd rfl (by first | exact Or.inl rfl | exact Or.inr rfl)) (tg_one 9) (by decide) (fun _ _ _ _ _ => pdts_nil) (fun _ _ _ _ _ => (pd_ty ty_list (by rfl) Z.b_list rfl (pda_cons (pd_ixT hdo (ft.blk _ _ _ _ _ _).u (pd_var (i := 1) rfl (by first | exact Or.inl rfl | exact Or.inr (Or.inl rfl) | exact Or.inr (Or.inr rfl))) (pd_var (i := 9) rfl (by first | exact Or.inl rfl | exact Or.inr (Or.inl rfl) | exact Or.inr (Or.inr rfl)))) pda_nil))))))
    (pds_cons (pds_forR1 po rfl (by rfl) Z.b_range (pda_cons (pd_blt (BltD.or blt_len blt_lenK) (by rfl) Z.b_len rfl (pda_cons (pd_ixK ft.u (pd_var (i := 0) rfl (by first | exact Or.inl rfl | exact Or.inr (Or.inl rfl) | exact Or.inr (Or.inr rfl))) pd_str) pda_nil)) pda_nil) (pg_name (i := 3) sc__law_shown.nd rfl (by first | exact Or.inl rfl | exact Or.inr rfl)) (tg_one 3)
    (pds_cons (pds_setLcL (i := 4) (own := [("_law_place_here", 9)]) rfl sc__law_shown.nd rfl rfl (pd_blt (blt_sortT rfl hdo ft.u) (by rfl) Z.b_sorted rfl (pda_cons (pd_ixK ft.u (pd_var (i := 0) rfl (by first | exact Or.inl rfl | exact Or.inr (Or.inl rfl) | exact Or.inr (Or.inr rfl))) pd_str) pda_nil)) (blkOk_by rfl) (fun _ _ _ _ _ => pg_name (i := 9) sc__law_shown.nd rfl (by first | exact Or.inl rfl | exact Or.inr rfl)) (tg_one 9) (by decide) (fun _ _ _ _ _ => (pdts_one (pdt_cmp cmp_in (pd_var (i := 3) rfl (by first | exact Or.inl rfl | exact Or.inr (Or.inl rfl) | exact Or.inr (Or.inr rfl))) (pd_ixT hdo (ft.blk _ _ _ _ _ _).u (pd_ixK (ft.blk _ _ _ _ _ _).u (pd_var (i := 0) rfl (by first | exact Or.inl rfl | exact Or.inr (Or.inl rfl) | exact Or.inr (Or.inr rfl))) pd_str) (pd_var (i := 9) rfl (by first | exact Or.inl rfl | exact Or.inr (Or.inl rfl) | exact Or.inr (Or.inr rfl)))) (by rfl)))) (fun _ _ _ _ _ => (pd_var (i := 9) rfl (by first | exact Or.inl rfl | exact Or.inr (Or.inl rfl) | exact Or.inr (Or.inr rfl)))))
    (pds_one (pds_drop (pd_bm mt_app (pd_var (i := 2) rfl (by first | exact Or.inl rfl | exact Or.inr (Or.inl rfl) | exact Or.inr (Or.inr rfl))) (pda_cons (pd_ix (pd_add (pd_var (i := 4) rfl (by first | exact Or.inl rfl | exact Or.inr (Or.inl rfl) | exact Or.inr (Or.inr rfl))) (pd_lst (pda_cons pd_non pda_nil))) pd_int) pda_nil))))))
    (pds_cons (pds_forL po rfl (pd_callA D__law_here (ft.mono (by decide)) (by rfl) (pda_cons (pd_var (i := 0) rfl (by first | exact Or.inl rfl | exact Or.inr (Or.inl rfl) | exact Or.inr (Or.inr rfl))) pda_nil)) (pg_name (i := 3) sc__law_shown.nd rfl (by first | exact Or.inl rfl | exact Or.inr rfl)) (tg_one 3)
    (pds_cons (pds_set (i := 5) sc__law_shown.nd rfl (by first | exact Or.inl rfl | exact Or.inr rfl) (pd_ix (pd_ixK ft.u (pd_var (i := 0) rfl (by first | exact Or.inl rfl | exact Or.inr (Or.inl rfl) | exact Or.inr (Or.inr rfl))) pd_str) (pd_var (i := 3) rfl (by first | exact Or.inl rfl | exact Or.inr (Or.inl rfl) | exact Or.inr (Or.inr rfl)))))
    (pds_cons (pds_drop (pd_bm mt_app (pd_var (i := 2) rfl (by first | exact Or.inl rfl | exact Or.inr (Or.inl rfl) | exact Or.inr (Or.inr rfl))) (pda_cons (pd_lcL (own := [("_law_one", 10)]) rfl sc__law_shown.nd (pd_callA D__law_here (ft.mono (by decide)) (by rfl) (pda_cons (pd_var (i := 0) rfl (by first | exact Or.inl rfl | exact Or.inr (Or.inl rfl) | exact Or.inr (Or.inr rfl))) pda_nil)) (blkOk_by rfl) (fun _ _ _ _ _ => pg_name (i := 10) sc__law_shown.nd rfl (by first | exact Or.inl rfl | exact Or.inr rfl)) (tg_one 10) (by decide) (fun _ _ _ _ _ => (pdts_one (pdt_w (pdw_and (pdt_cmp (cmp_ne (ft.blk _ _ _ _ _ _).u) (pd_var (i := 10) rfl (by first | exact Or.inl rfl | exact Or.inr (Or.inl rfl) | exact Or.inr (Or.inr rfl))) (pd_var (i := 3) rfl (by first | exact Or.inl rfl | exact Or.inr (Or.inl rfl) | exact Or.inr (Or.inr rfl))) (by rfl)) (pdw_and1 (pdt_cmp (cmp_eq (ft.blk _ _ _ _ _ _).u) (pd_ix (pd_ixK (ft.blk _ _ _ _ _ _).u (pd_var (i := 0) rfl (by first | exact Or.inl rfl | exact Or.inr (Or.inl rfl) | exact Or.inr (Or.inr rfl))) pd_str) (pd_var (i := 10) rfl (by first | exact Or.inl rfl | exact Or.inr (Or.inl rfl) | exact Or.inr (Or.inr rfl)))) (pd_var (i := 5) rfl (by first | exact Or.inl rfl | exact Or.inr (Or.inl rfl) | exact Or.inr (Or.inr rfl))) (by rfl))))))) (fun _ _ _ _ _ => (pd_var (i := 10) rfl (by first | exact Or.inl rfl | exact Or.inr (Or.inl rfl) | exact Or.inr (Or.inr rfl))))) pda_nil)))
    (pds_one (pds_drop (pd_bm mt_app (pd_var (i := 2) rfl (by first | exact Or.inl rfl | exact Or.inr (Or.inl rfl) | exact Or.inr (Or.inr rfl))) (pda_cons (pd_callA D__law_set (ft.mono (by decide)) (by rfl) (pda_cons (pd_var (i := 0) rfl (by first | exact Or.inl rfl | exact Or.inr (Or.inl rfl) | exact Or.inr (Or.inr rfl))) (pda_cons (pd_var (i := 3) rfl (by first | exact Or.inl rfl | exact Or.inr (Or.inl rfl) | exact Or.inr (Or.inr rfl))) pda_nil))) pda_nil)))))))
    (pds_one (pds_ret (pd_blt (blt_reprX ft.room.gd ft.u) (by rfl) Z.b_repr rfl (pda_cons (pd_var (i := 2) rfl (by first | exact Or.inl rfl | exact Or.inr (Or.inl rfl) | exact Or.inr (Or.inr rfl))) pda_nil)))))))))
theorem ok__law_laid {w : World} {T : Txt} {mg : Str → Option Value} {base : Heap} (Z : Facts T mg) (D__law_more : Def P w T mg base 1 56 "_law_more" ["_law_state", "_law_changes"] f__law_more) (D__law_place : Def P w T mg base 2 59 "_law_place" ["_law_state", "_law_chamber", "_law_board"] f__law_place) (hdo : T.dto = mdict P w) (l : Lk T 65 "_law_laid" "_law_laid" st__law_laid) (hg : mg "_law_laid" = some (.ref (T.fa 65))) : Def P w T mg base 3 65 "_law_laid" ["_law_state", "_law_deed_here"] f__law_laid := by
  refine defD_of (m := m__law_laid) (k := 2) (N := ["_law_state", "_law_deed_here", "_law_word_here", "_law_kind", "_law_chamber", "_law_board", "_law_bad", "_law_row", "_law_token", "_law_rows"]) (ps := ["_law_state", "_law_deed_here"]) (st := st__law_laid) l hg sc__law_laid (fun _ _ _ _ _ _ us hl => match us, hl with | [_, _], _ => rfl) fun cdv A outer s H E xp ft po => ?_
  exact (pds_cons (pds_asg (pg_tup rfl (pgs_cons (pg_name (i := 2) sc__law_laid.nd rfl (by first | exact Or.inl rfl | exact Or.inr rfl)) (pgs_cons (pg_name (i := 3) sc__law_laid.nd rfl (by first | exact Or.inl rfl | exact Or.inr rfl)) (pgs_cons (pg_name (i := 4) sc__law_laid.nd rfl (by first | exact Or.inl rfl | exact Or.inr rfl)) (pgs_cons (pg_name (i := 5) sc__law_laid.nd rfl (by first | exact Or.inl rfl | exact Or.inr rfl)) pgs_nil))))) (tg_tup rfl [2, 3, 4, 5] rfl) (pd_var (i := 1) rfl (by first | exact Or.inl rfl | exact Or.inr (Or.inl rfl) | exact Or.inr (Or.inr rfl))))
    (pds_cons (pds_if (pdt_not (pdt_truth (pd_blt (blt_isi Z.own Z.isT) (by rfl) Z.b_isinstance rfl (pda_cons (pd_var (i := 3) rfl (by first | exact Or.inl rfl | exact Or.inr (Or.inl rfl) | exact Or.inr (Or.inr rfl))) (pda_cons (pd_bt (n := "tuple") rfl Z.b_tuple (by rfl)) pda_nil))))) (pds_one (pds_ret (pd_tup (pda_cons pd_str pda_nil)))) pds_nil)
    (pds_cons (pds_set (i := 6) sc__law_laid.nd rfl (by first | exact Or.inl rfl | exact Or.inr rfl) (pd_callA D__law_place (ft.mono (by decide)) (by rfl) (pda_cons (pd_var (i := 0) rfl (by first | exact Or.inl rfl | exact Or.inr (Or.inl rfl) | exact Or.inr (Or.inr rfl))) (pda_cons (pd_var (i := 4) rfl (by first | exact Or.inl rfl | exact Or.inr (Or.inl rfl) | exact Or.inr (Or.inr rfl))) (pda_cons (pd_var (i := 5) rfl (by first | exact Or.inl rfl | exact Or.inr (Or.inl rfl) | exact Or.inr (Or.inr rfl))) pda_nil)))))
    (pds_cons (pds_if (pdt_cmp cmp_isnot (pd_var (i := 6) rfl (by first | exact Or.inl rfl | exact Or.inr (Or.inl rfl) | exact Or.inr (Or.inr rfl))) pd_non (by rfl)) (pds_one (pds_ret (pd_var (i := 6) rfl (by first | exact Or.inl rfl | exact Or.inr (Or.inl rfl) | exact Or.inr (Or.inr rfl))))) pds_nil)
    (pds_cons (pds_par (pz := ⟨0, 0, 0, 0⟩) (i := 7) (j := 8) rfl sc__law_laid.nd rfl rfl (by decide) rfl rfl (pda_cons (pd_ixT hdo ft.u (pd_ixK ft.u (pd_var (i := 0) rfl (by first | exact Or.inl rfl | exact Or.inr (Or.inl rfl) | exact Or.inr (Or.inr rfl))) pd_str) (pd_tup (pda_cons (pd_var (i := 4) rfl (by first | exact Or.inl rfl | exact Or.inr (Or.inl rfl) | exact Or.inr (Or.inr rfl))) (pda_cons (pd_var (i := 5) rfl (by first | exact Or.inl rfl | exact Or.inr (Or.inl rfl) | exact Or.inr (Or.inr rfl))) pda_nil)))) (pda_cons (pd_blt (BltD.or blt_len blt_lenK) (by rfl) Z.b_len rfl (pda_cons (pd_ixK ft.u (pd_var (i := 0) rfl (by first | exact Or.inl rfl | exact Or.inr (Or.inl rfl) | exact Or.inr (Or.inr rfl))) pd_str) pda_nil)) pda_nil)) (by rfl))
    (pds_cons (pds_if (pdt_cmp cmp_ge (pd_blt (BltD.or blt_len blt_lenK) (by rfl) Z.b_len rfl (pda_cons (pd_var (i := 7) rfl (by first | exact Or.inl rfl | exact Or.inr (Or.inl rfl) | exact Or.inr (Or.inr rfl))) pda_nil)) (pd_ixK ft.u (pd_var (i := 0) rfl (by first | exact Or.inl rfl | exact Or.inr (Or.inl rfl) | exact Or.inr (Or.inr rfl))) pd_str) (by rfl)) (pds_one (pds_ret (pd_tup (pda_cons pd_str (pda_cons (pd_var (i := 4) rfl (by first | exact Or.inl rfl | exact Or.inr (Or.inl rfl) | exact Or.inr (Or.inr rfl))) (pda_cons (pd_var (i := 5) rfl (by first | exact Or.inl rfl | exact Or.inr (Or.inl rfl) | exact Or.inr (Or.inr rfl))) pda_nil)))))) pds_nil)
    (pds_cons (pds_if (pdt_cmp (cmp_eq ft.u) (pd_var (i := 8) rfl (by first | exact Or.inl rfl | exact Or.inr (Or.inl rfl) | exact Or.inr (Or.inr rfl))) pd_int (by rfl)) (pds_one (pds_ret (pd_tup (pda_cons pd_str (pda_cons pd_int (pda_cons pd_int pda_nil)))))) pds_nil)
    (pds_cons (pds_set (i := 9) sc__law_laid.nd rfl (by first | exact Or.inl rfl | exact Or.inr rfl) (pd_ty (ty_dictT hdo ft.u) (by rfl) Z.b_dict rfl (pda_cons (pd_ixK ft.u (pd_var (i := 0) rfl (by first | exact Or.inl rfl | exact Or.inr (Or.inl rfl) | exact Or.inr (Or.inr rfl))) pd_str) pda_nil)))
    (pds_cons (pds_setT hdo (pd_add (pd_var (i := 7) rfl (by first | exact Or.inl rfl | exact Or.inr (Or.inl rfl) | exact Or.inr (Or.inr rfl))) (pd_tup (pda_cons (pd_var (i := 8) rfl (by first | exact Or.inl rfl | exact Or.inr (Or.inl rfl) | exact Or.inr (Or.inr rfl))) pda_nil))) (pd_var (i := 9) rfl (by first | exact Or.inl rfl | exact Or.inr (Or.inl rfl) | exact Or.inr (Or.inr rfl))) (pd_tup (pda_cons (pd_var (i := 4) rfl (by first | exact Or.inl rfl | exact Or.inr (Or.inl rfl) | exact Or.inr (Or.inr rfl))) (pda_cons (pd_var (i := 5) rfl (by first | exact Or.inl rfl | exact Or.inr (Or.inl rfl) | exact Or.inr (Or.inr rfl))) pda_nil))) (fun _ _ a b => pg_sub a b (set_dictT ft.u1)))
    (pds_one (pds_ret (pd_callA D__law_more (ft.mono (by decide)) (by rfl) (pda_cons (pd_var (i := 0) rfl (by first | exact Or.inl rfl | exact Or.inr (Or.inl rfl) | exact Or.inr (Or.inr rfl))) (pda_cons (pd_lst (pda_cons (pd_tup (pda_cons pd_str (pda_cons (pd_add (pd_ixK ft.u (pd_var (i := 0) rfl (by first | exact Or.inl rfl | exact Or.inr (Or.inl rfl) | exact Or.inr (Or.inr rfl))) pd_str) (pd_tup (pda_cons (pd_var (i := 3) rfl (by first | exact Or.inl rfl | exact Or.inr (Or.inl rfl) | exact Or.inr (Or.inr rfl))) pda_nil))) pda_nil))) (pda_cons (pd_tup (pda_cons pd_str (pda_cons (pd_frzT hdo (pd_var (i := 9) rfl (by first | exact Or.inl rfl | exact Or.inr (Or.inl rfl) | exact Or.inr (Or.inr rfl)))) pda_nil))) (pda_cons (pd_tup (pda_cons pd_str (pda_cons (pd_add (pd_ixK ft.u (pd_var (i := 0) rfl (by first | exact Or.inl rfl | exact Or.inr (Or.inl rfl) | exact Or.inr (Or.inr rfl))) pd_str) (pd_tup (pda_cons pd_non pda_nil))) pda_nil))) pda_nil)))) pda_nil))))))))))))))
theorem ok_Cellar__leave_alone {w : World} {T : Txt} {mg : Str → Option Value} {base : Heap} (Z : Facts T mg) (D__check_when_and_who : Def P w T mg base 4 11 "_check_when_and_who" ["month", "who"] f__check_when_and_who) (N_Cellar__check_free : DefM P w T mg base 4 1 27 "_check_free" f_Cellar__check_free ways_Cellar__check_free) (N_Cellar__check_lies : DefM P w T mg base 5 1 25 "_check_lies" f_Cellar__check_lies ways_Cellar__check_lies) (N_Cellar__keep : DefM P w T mg base 2 1 21 "_keep" f_Cellar__keep ways_Cellar__keep) (N_Cellar__leave : DefM P w T mg base 2 1 29 "_leave" f_Cellar__leave ways_Cellar__leave) (l : LkD T 30 "_leave_alone" "Cellar._leave_alone" st_Cellar__leave_alone []) (me : Meth T.K (T.ca 1) "_leave_alone" (T.fa 30)) : DefM P w T mg base 6 1 30 "_leave_alone" f_Cellar__leave_alone ways_Cellar__leave_alone := by
  refine defM_of (c := 1) (nm := "_leave_alone") (m := m_Cellar__leave_alone) (k := 5) (N := ["self", "number", "how", "month", "who"]) (ps := ["self", "number", "how", "month", "who"]) (st := st_Cellar__leave_alone) l me sc_Cellar__leave_alone (fun fd F z hz => ?_) fun cdv A outer s H E xp ft po => ?_
  · skip
    rcases List.mem_cons.mp hz with hz | hz
    · subst hz
      refine bd_nod (g := fun {α} us ws => gg_Cellar__leave_alone_4 us [] ws) F (fun r q => r) (fun _ _ _ _ _ _ _ r q => r) (fun vs zs h1 h2 => by unfold gg_Cellar__leave_alone_4; simp [h1, h2]) ?_
      intro kV doc pm an cdv ct us ws h1 h3
      match us, ws, h1, h3 with
      | [_, _, _, _, _], [], _, _ => rfl
    exact absurd hz List.not_mem_nil
  · exact (pds_cons (pds_drop (pd_methM Z.i_Cellar (by rw [Z.f_Cellar]; decide) N_Cellar__check_lies List.mem_cons_self (ft.mono (by decide)) (pd_var (i := 0) rfl (by first | exact Or.inl rfl | exact Or.inr (Or.inl rfl) | exact Or.inr (Or.inr rfl))) (pda_cons (pd_var (i := 1) rfl (by first | exact Or.inl rfl | exact Or.inr (Or.inl rfl) | exact Or.inr (Or.inr rfl))) pda_nil) pdk_nil))
    (pds_cons (pds_drop (pd_callA D__check_when_and_who (ft.mono (by decide)) (by rfl) (pda_cons (pd_var (i := 3) rfl (by first | exact Or.inl rfl | exact Or.inr (Or.inl rfl) | exact Or.inr (Or.inr rfl))) (pda_cons (pd_var (i := 4) rfl (by first | exact Or.inl rfl | exact Or.inr (Or.inl rfl) | exact Or.inr (Or.inr rfl))) pda_nil))))
    (pds_cons (pds_drop (pd_methM Z.i_Cellar (by rw [Z.f_Cellar]; decide) N_Cellar__check_free List.mem_cons_self (ft.mono (by decide)) (pd_var (i := 0) rfl (by first | exact Or.inl rfl | exact Or.inr (Or.inl rfl) | exact Or.inr (Or.inr rfl))) (pda_cons (pd_var (i := 1) rfl (by first | exact Or.inl rfl | exact Or.inr (Or.inl rfl) | exact Or.inr (Or.inr rfl))) pda_nil) pdk_nil))
    (pds_cons (pds_drop (pd_methM0 Z.i_Cellar (by rw [Z.f_Cellar]; decide) N_Cellar__keep List.mem_cons_self (ft.mono (by decide)) (pd_var (i := 0) rfl (by first | exact Or.inl rfl | exact Or.inr (Or.inl rfl) | exact Or.inr (Or.inr rfl)))  pdk_nil))
    (pds_one (pds_drop (pd_methM Z.i_Cellar (by rw [Z.f_Cellar]; decide) N_Cellar__leave List.mem_cons_self (ft.mono (by decide)) (pd_var (i := 0) rfl (by first | exact Or.inl rfl | exact Or.inr (Or.inl rfl) | exact Or.inr (Or.inr rfl))) (pda_cons (pd_tup (pda_cons (pd_var (i := 1) rfl (by first | exact Or.inl rfl | exact Or.inr (Or.inl rfl) | exact Or.inr (Or.inr rfl))) pda_nil)) (pda_cons (pd_tup (pda_cons (pd_var (i := 2) rfl (by first | exact Or.inl rfl | exact Or.inr (Or.inl rfl) | exact Or.inr (Or.inr rfl))) (pda_cons (pd_var (i := 3) rfl (by first | exact Or.inl rfl | exact Or.inr (Or.inl rfl) | exact Or.inr (Or.inr rfl))) (pda_cons (pd_var (i := 4) rfl (by first | exact Or.inl rfl | exact Or.inr (Or.inl rfl) | exact Or.inr (Or.inr rfl))) pda_nil)))) pda_nil)) pdk_nil)))))))
theorem ok_Cellar_twins {w : World} {T : Txt} {mg : Str → Option Value} {base : Heap} (Z : Facts T mg) (N_Cellar__check_lies : DefM P w T mg base 5 1 25 "_check_lies" f_Cellar__check_lies ways_Cellar__check_lies) (N_Cellar__like : DefM P w T mg base 4 1 22 "_like" f_Cellar__like ways_Cellar__like) (l : LkD T 45 "twins" "Cellar.twins" st_Cellar_twins []) (me : Meth T.K (T.ca 1) "twins" (T.fa 45)) : DefM P w T mg base 6 1 45 "twins" f_Cellar_twins ways_Cellar_twins := by
  refine defM_of (c := 1) (nm := "twins") (m := m_Cellar_twins) (k := 5) (N := ["self", "number", "other"]) (ps := ["self", "number"]) (st := st_Cellar_twins) l me sc_Cellar_twins (fun fd F z hz => ?_) fun cdv A outer s H E xp ft po => ?_
  · skip
    rcases List.mem_cons.mp hz with hz | hz
    · subst hz
      refine bd_nod (g := fun {α} us ws => gg_Cellar_twins_1 us [] ws) F (fun r q => r) (fun _ _ _ _ _ _ _ r q => r) (fun vs zs h1 h2 => by unfold gg_Cellar_twins_1; simp [h1, h2]) ?_
      intro kV doc pm an cdv ct us ws h1 h3
      match us, ws, h1, h3 with
      | [_, _], [], _, _ => rfl
    exact absurd hz List.not_mem_nil
  · exact (pds_cons (pds_drop (pd_methM Z.i_Cellar (by rw [Z.f_Cellar]; decide) N_Cellar__check_lies List.mem_cons_self (ft.mono (by decide)) (pd_var (i := 0) rfl (by first | exact Or.inl rfl | exact Or.inr (Or.inl rfl) | exact Or.inr (Or.inr rfl))) (pda_cons (pd_var (i := 1) rfl (by first | exact Or.inl rfl | exact Or.inr (Or.inl rfl) | exact Or.inr (Or.inr rfl))) pda_nil) pdk_nil))
    (pds_one (pds_ret (pd_lcLive (own := [("other", 2)]) rfl sc_Cellar_twins.nd (pdi_seq (pd_methM Z.i_Cellar (by rw [Z.f_Cellar]; decide) N_Cellar__like List.mem_cons_self (ft.mono (by decide)) (pd_var (i := 0) rfl (by first | exact Or.inl rfl | exact Or.inr (Or.inl rfl) | exact Or.inr (Or.inr rfl))) (pda_cons (pd_ix (pd_fld (i := 2) Z.i_Cellar (by rw [Z.f_Cellar]; rfl) (pd_var (i := 0) rfl (by first | exact Or.inl rfl | exact Or.inr (Or.inl rfl) | exact Or.inr (Or.inr rfl)))) (pd_var (i := 1) rfl (by first | exact Or.inl rfl | exact Or.inr (Or.inl rfl) | exact Or.inr (Or.inr rfl)))) pda_nil) pdk_nil)) (blkOk_by rfl) (fun _ _ _ _ _ => pg_name (i := 2) sc_Cellar_twins.nd rfl (by first | exact Or.inl rfl | exact Or.inr rfl)) (tg_one 2) (by decide) (fun _ _ _ _ _ => (pdts_one (pdt_cmp (cmp_ne (ft.blk _ _ _ _ _ _).u) (pd_var (i := 2) rfl (by first | exact Or.inl rfl | exact Or.inr (Or.inl rfl) | exact Or.inr (Or.inr rfl))) (pd_var (i := 1) rfl (by first | exact Or.inl rfl | exact Or.inr (Or.inl rfl) | exact Or.inr (Or.inr rfl))) (by rfl)))) (fun _ _ _ _ _ => (pd_var (i := 2) rfl (by first | exact Or.inl rfl | exact Or.inr (Or.inl rfl) | exact Or.inr (Or.inr rfl))))))))
theorem ok__law_begun {w : World} {T : Txt} {mg : Str → Option Value} {base : Heap} (Z : Facts T mg) (hdo : T.dto = mdict P w) (l : Lk T 55 "_law_begun" "_law_begun" st__law_begun) (hg : mg "_law_begun" = some (.ref (T.fa 55))) : Def P w T mg base 1 55 "_law_begun" ["_law_rooms_here", "_law_top"] f__law_begun := by
  refine defD_of (m := m__law_begun) (k := 0) (N := ["_law_rooms_here", "_law_top", "_law_rows", "_law_chamber", "_law_many", "_law_board"]) (ps := ["_law_rooms_here", "_law_top"]) (st := st__law_begun) l hg sc__law_begun (fun _ _ _ _ _ _ us hl => match us, hl with | [_, _], _ => rfl) fun cdv A outer s H E xp ft po => ?_
  exact (pds_cons (pds_set (i := 2) sc__law_begun.nd rfl (by first | exact Or.inl rfl | exact Or.inr rfl) (pd_newT hdo))
    (pds_cons (pds_forN po rfl (pdi_enumT (by rfl) Z.b_enumerate (pd_var (i := 0) rfl (by first | exact Or.inl rfl | exact Or.inr (Or.inl rfl) | exact Or.inr (Or.inr rfl)))) (pg_tup rfl (pgs_cons (pg_name (i := 3) sc__law_begun.nd rfl (by first | exact Or.inl rfl | exact Or.inr rfl)) (pgs_cons (pg_name (i := 4) sc__law_begun.nd rfl (by first | exact Or.inl rfl | exact Or.inr rfl)) pgs_nil))) (tg_tup rfl [3, 4] rfl)
    (pds_one (pds_forR1 po rfl (by rfl) Z.b_range (pda_cons (pd_var (i := 4) rfl (by first | exact Or.inl rfl | exact Or.inr (Or.inl rfl) | exact Or.inr (Or.inr rfl))) pda_nil) (pg_name (i := 5) sc__law_begun.nd rfl (by first | exact Or.inl rfl | exact Or.inr rfl)) (tg_one 5)
    (pds_one (pds_setT hdo (pd_tup pda_nil) (pd_var (i := 2) rfl (by first | exact Or.inl rfl | exact Or.inr (Or.inl rfl) | exact Or.inr (Or.inr rfl))) (pd_tup (pda_cons (pd_var (i := 3) rfl (by first | exact Or.inl rfl | exact Or.inr (Or.inl rfl) | exact Or.inr (Or.inr rfl))) (pda_cons (pd_var (i := 5) rfl (by first | exact Or.inl rfl | exact Or.inr (Or.inl rfl) | exact Or.inr (Or.inr rfl))) pda_nil))) (fun _ _ a b => pg_sub a b (set_dictT ft.u1)))))))
    (pds_one (pds_ret (pd_dicN (pdp_cons (k := .inr "rooms") pe_str (pd_var (i := 0) rfl (by first | exact Or.inl rfl | exact Or.inr (Or.inl rfl) | exact Or.inr (Or.inr rfl))) (pdp_cons (k := .inr "hold") pe_str (pd_var (i := 1) rfl (by first | exact Or.inl rfl | exact Or.inr (Or.inl rfl) | exact Or.inr (Or.inr rfl))) (pdp_cons (k := .inr "stock") pe_str (pd_tup pda_nil) (pdp_cons (k := .inr "rows") pe_str (pd_frzT hdo (pd_var (i := 2) rfl (by first | exact Or.inl rfl | exact Or.inr (Or.inl rfl) | exact Or.inr (Or.inr rfl)))) (pdp_cons (k := .inr "ends") pe_str (pd_tup pda_nil) (pdp_cons (k := .inr "sets") pe_str (pd_tup pda_nil) pdp_nil)))))) (nd := by decide +kernel))))))
theorem ok__cleared {w : World} {T : Txt} {mg : Str → Option Value} {base : Heap} (Z : Facts T mg) (l : Lk T 13 "_cleared" "_cleared" st__cleared) (hg : mg "_cleared" = some (.ref (T.fa 13))) : Def P w T mg base 1 13 "_cleared" ["shelves", "numbers"] f__cleared := by
  refine defD_of (m := m__cleared) (k := 0) (N := ["shelves", "numbers", "rows", "row", "number"]) (ps := ["shelves", "numbers"]) (st := st__cleared) l hg sc__cleared (fun _ _ _ _ _ _ us hl => match us, hl with | [_, _], _ => rfl) fun cdv A outer s H E xp ft po => ?_
  exact (pds_one (pds_ret (pd_ty ty_tuple (by rfl) Z.b_tuple rfl (pda_cons (pd_lc (own := [("rows", 2)]) rfl sc__cleared.nd (pdi_tup (pd_var (i := 0) rfl (by first | exact Or.inl rfl | exact Or.inr (Or.inl rfl) | exact Or.inr (Or.inr rfl)))) (blkOk_by rfl) (fun _ _ _ _ _ => pg_name (i := 2) sc__cleared.nd rfl (by first | exact Or.inl rfl | exact Or.inr rfl)) (tg_one 2) (by decide) (fun _ _ _ _ _ => pdts_nil) (fun _ _ _ _ _ => (pd_ty ty_tuple (by rfl) Z.b_tuple rfl (pda_cons (pd_lc (own := [("row", 3)]) rfl sc__cleared.nd (pdi_tup (pd_var (i := 2) rfl (by first | exact Or.inl rfl | exact Or.inr (Or.inl rfl) | exact Or.inr (Or.inr rfl)))) (blkOk_by rfl) (fun _ _ _ _ _ => pg_name (i := 3) sc__cleared.nd rfl (by first | exact Or.inl rfl | exact Or.inr rfl)) (tg_one 3) (by decide) (fun _ _ _ _ _ => pdts_nil) (fun _ _ _ _ _ => (pd_ty ty_tuple (by rfl) Z.b_tuple rfl (pda_cons (pd_lc (own := [("number", 4)]) rfl sc__cleared.nd (pdi_tup (pd_var (i := 3) rfl (by first | exact Or.inl rfl | exact Or.inr (Or.inl rfl) | exact Or.inr (Or.inr rfl)))) (blkOk_by rfl) (fun _ _ _ _ _ => pg_name (i := 4) sc__cleared.nd rfl (by first | exact Or.inl rfl | exact Or.inr rfl)) (tg_one 4) (by decide) (fun _ _ _ _ _ => (pdts_one (pdt_cmp cmp_notin (pd_var (i := 4) rfl (by first | exact Or.inl rfl | exact Or.inr (Or.inl rfl) | exact Or.inr (Or.inr rfl))) (pd_var (i := 1) rfl (by first | exact Or.inl rfl | exact Or.inr (Or.inl rfl) | exact Or.inr (Or.inr rfl))) (by rfl)))) (fun _ _ _ _ _ => (pd_var (i := 4) rfl (by first | exact Or.inl rfl | exact Or.inr (Or.inl rfl) | exact Or.inr (Or.inr rfl))))) pda_nil)))) pda_nil)))) pda_nil))))
theorem ok_Cellar__check_number {w : World} {T : Txt} {mg : Str → Option Value} {base : Heap} (Z : Facts T mg) (D_is_within : Def P w T mg base 2 1 "is_within" ["thing", "least", "most"] f_is_within) (l : LkD T 24 "_check_number" "Cellar._check_number" st_Cellar__check_number []) (me : Meth T.K (T.ca 1) "_check_number" (T.fa 24)) : DefM P w T mg base 4 1 24 "_check_number" f_Cellar__check_number ways_Cellar__check_number := by
  refine defM_of (c := 1) (nm := "_check_number") (m := m_Cellar__check_number) (k := 3) (N := ["self", "number"]) (ps := ["self", "number"]) (st := st_Cellar__check_number) l me sc_Cellar__check_number (fun fd F z hz => ?_) fun cdv A outer s H E xp ft po => ?_
  · skip
    rcases List.mem_cons.mp hz with hz | hz
    · subst hz
      refine bd_nod (g := fun {α} us ws => gg_Cellar__check_number_1 us [] ws) F (fun r q => r) (fun _ _ _ _ _ _ _ r q => r) (fun vs zs h1 h2 => by unfold gg_Cellar__check_number_1; simp [h1, h2]) ?_
      intro kV doc pm an cdv ct us ws h1 h3
      match us, ws, h1, h3 with
      | [_, _], [], _, _ => rfl
    exact absurd hz List.not_mem_nil
  · exact (pds_one (pds_if (pdt_not (pdt_truth (pd_callA D_is_within (ft.mono (by decide)) (by rfl) (pda_cons (pd_var (i := 1) rfl (by first | exact Or.inl rfl | exact Or.inr (Or.inl rfl) | exact Or.inr (Or.inr rfl))) (pda_cons pd_int (pda_cons (pd_sub (pd_blt blt_len (by rfl) Z.b_len rfl (pda_cons (pd_fld (i := 2) Z.i_Cellar (by rw [Z.f_Cellar]; rfl) (pd_var (i := 0) rfl (by first | exact Or.inl rfl | exact Or.inr (Or.inl rfl) | exact Or.inr (Or.inr rfl)))) pda_nil)) pd_int) pda_nil)))))) (pds_one (pds_raise rfl ft.tk Z.e_NoNumber Z.c_NoNumber (by rfl))) pds_nil))
theorem ok__laid {w : World} {T : Txt} {mg : Str → Option Value} {base : Heap} (Z : Facts T mg) (l : Lk T 14 "_laid" "_laid" st__laid) (hg : mg "_laid" = some (.ref (T.fa 14))) : Def P w T mg base 1 14 "_laid" ["shelves", "number", "room", "shelf"] f__laid := by
  refine defD_of (m := m__laid) (k := 0) (N := ["shelves", "number", "room", "shelf", "rows"]) (ps := ["shelves", "number", "room", "shelf"]) (st := st__laid) l hg sc__laid (fun _ _ _ _ _ _ us hl => match us, hl with | [_, _, _, _], _ => rfl) fun cdv A outer s H E xp ft po => ?_
  exact (pds_cons (pds_set (i := 4) sc__laid.nd rfl (by first | exact Or.inl rfl | exact Or.inr rfl) (pd_ty ty_listN (by rfl) Z.b_list rfl (pda_cons (pd_ix (pd_var (i := 0) rfl (by first | exact Or.inl rfl | exact Or.inr (Or.inl rfl) | exact Or.inr (Or.inr rfl))) (pd_var (i := 2) rfl (by first | exact Or.inl rfl | exact Or.inr (Or.inl rfl) | exact Or.inr (Or.inr rfl)))) pda_nil)))
    (pds_cons (pds_setIx (pd_tup (pda_star (pd_ix (pd_var (i := 4) rfl (by first | exact Or.inl rfl | exact Or.inr (Or.inl rfl) | exact Or.inr (Or.inr rfl))) (pd_var (i := 3) rfl (by first | exact Or.inl rfl | exact Or.inr (Or.inl rfl) | exact Or.inr (Or.inr rfl)))) (pda_cons (pd_var (i := 1) rfl (by first | exact Or.inl rfl | exact Or.inr (Or.inl rfl) | exact Or.inr (Or.inr rfl))) pda_nil))) (pd_var (i := 4) rfl (by first | exact Or.inl rfl | exact Or.inr (Or.inl rfl) | exact Or.inr (Or.inr rfl))) (pd_var (i := 3) rfl (by first | exact Or.inl rfl | exact Or.inr (Or.inl rfl) | exact Or.inr (Or.inr rfl))) (fun _ _ a b => pg_sub a b set_list))
    (pds_one (pds_ret (pd_tup (pda_star (pd_slice (pd_var (i := 0) rfl (by first | exact Or.inl rfl | exact Or.inr (Or.inl rfl) | exact Or.inr (Or.inr rfl))) pdo_none (pdo_some (pd_var (i := 2) rfl (by first | exact Or.inl rfl | exact Or.inr (Or.inl rfl) | exact Or.inr (Or.inr rfl))))) (pda_cons (pd_ty ty_tuple (by rfl) Z.b_tuple rfl (pda_cons (pd_var (i := 4) rfl (by first | exact Or.inl rfl | exact Or.inr (Or.inl rfl) | exact Or.inr (Or.inr rfl))) pda_nil)) (pda_star (pd_slice (pd_var (i := 0) rfl (by first | exact Or.inl rfl | exact Or.inr (Or.inl rfl) | exact Or.inr (Or.inr rfl))) (pdo_some (pd_add (pd_var (i := 2) rfl (by first | exact Or.inl rfl | exact Or.inr (Or.inl rfl) | exact Or.inr (Or.inr rfl))) pd_int)) pdo_none) pda_nil))))))))
theorem ok__law_rooms {w : World} {T : Txt} {mg : Str → Option Value} {base : Heap} (Z : Facts T mg) (D__law_take : Def P w T mg base 1 49 "_law_take" ["_law_pot_here", "_law_far"] f__law_take) (l : Lk T 54 "_law_rooms" "_law_rooms" st__law_rooms) (hg : mg "_law_rooms" = some (.ref (T.fa 54))) : Def P w T mg base 2 54 "_law_rooms" ["_law_pot_here"] f__law_rooms := by
  refine defD_of (m := m__law_rooms) (k := 1) (N := ["_law_pot_here", "_law_chamber"]) (ps := ["_law_pot_here"]) (st := st__law_rooms) l hg sc__law_rooms (fun _ _ _ _ _ _ us hl => match us, hl with | [_], _ => rfl) fun cdv A outer s H E xp ft po => ?_
  exact (pds_one (pds_ret (pd_ty ty_tuple (by rfl) Z.b_tuple rfl (pda_cons (pd_lcR1 (own := [("_law_chamber", 1)]) rfl sc__law_rooms.nd (by rfl) Z.b_range (pda_cons (pd_add pd_int (pd_callA D__law_take (ft.mono (by decide)) (by rfl) (pda_cons (pd_var (i := 0) rfl (by first | exact Or.inl rfl | exact Or.inr (Or.inl rfl) | exact Or.inr (Or.inr rfl))) (pda_cons pd_int pda_nil)))) pda_nil) (blkOk_by rfl) (fun _ _ _ _ _ => pg_name (i := 1) sc__law_rooms.nd rfl (by first | exact Or.inl rfl | exact Or.inr rfl)) (tg_one 1) (by decide) (fun _ _ _ _ _ => pdts_nil) (fun _ _ _ _ _ => (pd_add pd_int (pd_callA D__law_take ((ft.blk _ _ _ _ _ _).mono (by decide)) (by rfl) (pda_cons (pd_var (i := 0) rfl (by first | exact Or.inl rfl | exact Or.inr (Or.inl rfl) | exact Or.inr (Or.inr rfl))) (pda_cons pd_int pda_nil)))))) pda_nil))))
theorem ok_Cellar___len__ {w : World} {T : Txt} {mg : Str → Option Value} {base : Heap} (Z : Facts T mg) (N_Cellar_lying : DefM P w T mg base 1 1 18 "lying" f_Cellar_lying ways_Cellar_lying) (l : Lk T 19 "__len__" "Cellar.__len__" st_Cellar___len__) (me : Meth T.K (T.ca 1) "__len__" (T.fa 19)) : DefO P w T mg base 2 1 19 "__len__" 1 f_Cellar___len__ := by
  refine defO_of (c := 1) (nm := "__len__") (m := m_Cellar___len__) (k := 1) (N := ["self"]) (ps := ["self"]) (st := st_Cellar___len__) l me sc_Cellar___len__ (fun _ _ _ _ _ _ us hl => match us, hl with | [_], _ => rfl) fun cdv A outer s H E xp ft po => ?_
  exact (pds_one (pds_ret (pd_blt blt_len (by rfl) Z.b_len rfl (pda_cons (pd_methM0 Z.i_Cellar (by rw [Z.f_Cellar]; decide) N_Cellar_lying List.mem_cons_self (ft.mono (by decide)) (pd_var (i := 0) rfl (by first | exact Or.inl rfl | exact Or.inr (Or.inl rfl) | exact Or.inr (Or.inr rfl)))  pdk_nil) pda_nil))))
end K11
set_option maxRecDepth 100000
set_option maxHeartbeats 1000000
namespace K11
open PySem PySem.Spec PyProof.Rows L2 Den Cel Ste
theorem ok__law_call {w : World} {T : Txt} {mg : Str → Option Value} {base : Heap} (Z : Facts T mg) (N_Cellar_bind : DefM P w T mg base 6 1 36 "bind" f_Cellar_bind ways_Cellar_bind) (N_Cellar_drink : DefM P w T mg base 7 1 33 "drink" f_Cellar_drink ways_Cellar_drink) (N_Cellar_drink_set : DefM P w T mg base 7 1 37 "drink_set" f_Cellar_drink_set ways_Cellar_drink_set) (N_Cellar_give : DefM P w T mg base 7 1 34 "give" f_Cellar_give ways_Cellar_give) (N_Cellar_loosen : DefM P w T mg base 7 1 38 "loosen" f_Cellar_loosen ways_Cellar_loosen) (N_Cellar_move : DefM P w T mg base 6 1 32 "move" f_Cellar_move ways_Cellar_move) (N_Cellar_smash : DefM P w T mg base 6 1 35 "smash" f_Cellar_smash ways_Cellar_smash) (N_Cellar_undo : DefM P w T mg base 4 1 39 "undo" f_Cellar_undo ways_Cellar_undo) (l : Lk T 71 "_law_call" "_law_call" st__law_call) (hg : mg "_law_call" = some (.ref (T.fa 71))) : Def P w T mg base 8 71 "_law_call" ["_law_cellar", "_law_deed_here"] f__law_call := by
  refine defD_of (m := m__law_call) (k := 7) (N := ["_law_cellar", "_law_deed_here", "_law_word_here"]) (ps := ["_law_cellar", "_law_deed_here"]) (st := st__law_call) l hg sc__law_call (fun _ _ _ _ _ _ us hl => match us, hl with | [_, _], _ => rfl) fun cdv A outer s H E xp ft po => ?_
  exact (pds_cons (pds_set (i := 2) sc__law_call.nd rfl (by first | exact Or.inl rfl | exact Or.inr rfl) (pd_ix (pd_var (i := 1) rfl (by first | exact Or.inl rfl | exact Or.inr (Or.inl rfl) | exact Or.inr (Or.inr rfl))) pd_int))
    (pds_cons (pds_if (pdt_cmp (cmp_eq ft.u) (pd_var (i := 2) rfl (by first | exact Or.inl rfl | exact Or.inr (Or.inl rfl) | exact Or.inr (Or.inr rfl))) pd_str (by rfl)) (pds_one (pds_ret (pd_methM0 Z.i_Cellar (by rw [Z.f_Cellar]; decide) N_Cellar_undo List.mem_cons_self (ft.mono (by decide)) (pd_var (i := 0) rfl (by first | exact Or.inl rfl | exact Or.inr (Or.inl rfl) | exact Or.inr (Or.inr rfl)))  pdk_nil))) pds_nil)
    (pds_cons (pds_if (pdt_cmp cmp_in (pd_var (i := 2) rfl (by first | exact Or.inl rfl | exact Or.inr (Or.inl rfl) | exact Or.inr (Or.inr rfl))) (pd_tup (pda_cons pd_str (pda_cons pd_str pda_nil))) (by rfl)) (pds_one (pds_ret (pd_ite (pdt_cmp (cmp_eq ft.u) (pd_var (i := 2) rfl (by first | exact Or.inl rfl | exact Or.inr (Or.inl rfl) | exact Or.inr (Or.inr rfl))) pd_str (by rfl)) (pd_methM Z.i_Cellar (by rw [Z.f_Cellar]; decide) N_Cellar_bind List.mem_cons_self (ft.mono (by decide)) (pd_var (i := 0) rfl (by first | exact Or.inl rfl | exact Or.inr (Or.inl rfl) | exact Or.inr (Or.inr rfl))) (pda_cons (pd_ix (pd_var (i := 1) rfl (by first | exact Or.inl rfl | exact Or.inr (Or.inl rfl) | exact Or.inr (Or.inr rfl))) pd_int) pda_nil) pdk_nil) (pd_methM Z.i_Cellar (by rw [Z.f_Cellar]; decide) N_Cellar_loosen List.mem_cons_self (ft.mono (by decide)) (pd_var (i := 0) rfl (by first | exact Or.inl rfl | exact Or.inr (Or.inl rfl) | exact Or.inr (Or.inr rfl))) (pda_cons (pd_ix (pd_var (i := 1) rfl (by first | exact Or.inl rfl | exact Or.inr (Or.inl rfl) | exact Or.inr (Or.inr rfl))) pd_int) pda_nil) pdk_nil)))) pds_nil)
    (pds_cons (pds_if (pdt_cmp (cmp_eq ft.u) (pd_var (i := 2) rfl (by first | exact Or.inl rfl | exact Or.inr (Or.inl rfl) | exact Or.inr (Or.inr rfl))) pd_str (by rfl)) (pds_one (pds_ret (pd_methM Z.i_Cellar (by rw [Z.f_Cellar]; decide) N_Cellar_smash List.mem_cons_self (ft.mono (by decide)) (pd_var (i := 0) rfl (by first | exact Or.inl rfl | exact Or.inr (Or.inl rfl) | exact Or.inr (Or.inr rfl))) (pda_cons (pd_ix (pd_var (i := 1) rfl (by first | exact Or.inl rfl | exact Or.inr (Or.inl rfl) | exact Or.inr (Or.inr rfl))) pd_int) pda_nil) (pdk_cons (pd_ix (pd_var (i := 1) rfl (by first | exact Or.inl rfl | exact Or.inr (Or.inl rfl) | exact Or.inr (Or.inr rfl))) pd_int) pdk_nil)))) pds_nil)
    (pds_cons (pds_if (pdt_cmp (cmp_eq ft.u) (pd_var (i := 2) rfl (by first | exact Or.inl rfl | exact Or.inr (Or.inl rfl) | exact Or.inr (Or.inr rfl))) pd_str (by rfl)) (pds_cons (pds_if (pdt_cmp cmp_gt (pd_ix (pd_var (i := 1) rfl (by first | exact Or.inl rfl | exact Or.inr (Or.inl rfl) | exact Or.inr (Or.inr rfl))) pd_int) pd_int (by rfl)) (pds_one (pds_ret (pd_methM Z.i_Cellar (by rw [Z.f_Cellar]; decide) N_Cellar_move (List.mem_cons_of_mem _ List.mem_cons_self) (ft.mono (by decide)) (pd_var (i := 0) rfl (by first | exact Or.inl rfl | exact Or.inr (Or.inl rfl) | exact Or.inr (Or.inr rfl))) (pda_cons (pd_ix (pd_var (i := 1) rfl (by first | exact Or.inl rfl | exact Or.inr (Or.inl rfl) | exact Or.inr (Or.inr rfl))) pd_int) (pda_cons (pd_ix (pd_var (i := 1) rfl (by first | exact Or.inl rfl | exact Or.inr (Or.inl rfl) | exact Or.inr (Or.inr rfl))) pd_int) (pda_cons (pd_ix (pd_var (i := 1) rfl (by first | exact Or.inl rfl | exact Or.inr (Or.inl rfl) | exact Or.inr (Or.inr rfl))) pd_int) pda_nil))) pdk_nil))) pds_nil)
    (pds_one (pds_ret (pd_methM Z.i_Cellar (by rw [Z.f_Cellar]; decide) N_Cellar_move List.mem_cons_self (ft.mono (by decide)) (pd_var (i := 0) rfl (by first | exact Or.inl rfl | exact Or.inr (Or.inl rfl) | exact Or.inr (Or.inr rfl))) (pda_cons (pd_ix (pd_var (i := 1) rfl (by first | exact Or.inl rfl | exact Or.inr (Or.inl rfl) | exact Or.inr (Or.inr rfl))) pd_int) pda_nil) (pdk_cons (pd_ix (pd_var (i := 1) rfl (by first | exact Or.inl rfl | exact Or.inr (Or.inl rfl) | exact Or.inr (Or.inr rfl))) pd_int) (pdk_cons (pd_ix (pd_var (i := 1) rfl (by first | exact Or.inl rfl | exact Or.inr (Or.inl rfl) | exact Or.inr (Or.inr rfl))) pd_int) pdk_nil)))))) pds_nil)
    (pds_cons (pds_if (pdt_cmp (cmp_eq ft.u) (pd_var (i := 2) rfl (by first | exact Or.inl rfl | exact Or.inr (Or.inl rfl) | exact Or.inr (Or.inr rfl))) pd_str (by rfl)) (pds_one (pds_ret (pd_ite (pdt_cmp (cmp_ne ft.u) (pd_ix (pd_var (i := 1) rfl (by first | exact Or.inl rfl | exact Or.inr (Or.inl rfl) | exact Or.inr (Or.inr rfl))) pd_int) pd_str (by rfl)) (pd_methM Z.i_Cellar (by rw [Z.f_Cellar]; decide) N_Cellar_drink List.mem_cons_self (ft.mono (by decide)) (pd_var (i := 0) rfl (by first | exact Or.inl rfl | exact Or.inr (Or.inl rfl) | exact Or.inr (Or.inr rfl))) (pda_cons (pd_ix (pd_var (i := 1) rfl (by first | exact Or.inl rfl | exact Or.inr (Or.inl rfl) | exact Or.inr (Or.inr rfl))) pd_int) (pda_cons (pd_ix (pd_var (i := 1) rfl (by first | exact Or.inl rfl | exact Or.inr (Or.inl rfl) | exact Or.inr (Or.inr rfl))) pd_int) pda_nil)) (pdk_cons (pd_ix (pd_var (i := 1) rfl (by first | exact Or.inl rfl | exact Or.inr (Or.inl rfl) | exact Or.inr (Or.inr rfl))) pd_int) pdk_nil)) (pd_methM Z.i_Cellar (by rw [Z.f_Cellar]; decide) N_Cellar_drink (List.mem_cons_of_mem _ List.mem_cons_self) (ft.mono (by decide)) (pd_var (i := 0) rfl (by first | exact Or.inl rfl | exact Or.inr (Or.inl rfl) | exact Or.inr (Or.inr rfl))) (pda_cons (pd_ix (pd_var (i := 1) rfl (by first | exact Or.inl rfl | exact Or.inr (Or.inl rfl) | exact Or.inr (Or.inr rfl))) pd_int) (pda_cons (pd_ix (pd_var (i := 1) rfl (by first | exact Or.inl rfl | exact Or.inr (Or.inl rfl) | exact Or.inr (Or.inr rfl))) pd_int) pda_nil)) pdk_nil)))) pds_nil)
    (pds_cons (pds_if (pdt_cmp (cmp_eq ft.u) (pd_var (i := 2) rfl (by first | exact Or.inl rfl | exact Or.inr (Or.inl rfl) | exact Or.inr (Or.inr rfl))) pd_str (by rfl)) (pds_one (pds_ret (pd_methM Z.i_Cellar (by rw [Z.f_Cellar]; decide) N_Cellar_give List.mem_cons_self (ft.mono (by decide)) (pd_var (i := 0) rfl (by first | exact Or.inl rfl | exact Or.inr (Or.inl rfl) | exact Or.inr (Or.inr rfl))) (pda_cons (pd_ix (pd_var (i := 1) rfl (by first | exact Or.inl rfl | exact Or.inr (Or.inl rfl) | exact Or.inr (Or.inr rfl))) pd_int) (pda_cons (pd_ix (pd_var (i := 1) rfl (by first | exact Or.inl rfl | exact Or.inr (Or.inl rfl) | exact Or.inr (Or.inr rfl))) pd_int) (pda_cons (pd_ix (pd_var (i := 1) rfl (by first | exact Or.inl rfl | exact Or.inr (Or.inl rfl) | exact Or.inr (Or.inr rfl))) pd_int) pda_nil))) pdk_nil))) pds_nil)
    (pds_cons (pds_if (pdt_cmp (cmp_eq ft.u) (pd_ix (pd_var (i := 1) rfl (by first | exact Or.inl rfl | exact Or.inr (Or.inl rfl) | exact Or.inr (Or.inr rfl))) pd_int) pd_str (by rfl)) (pds_one (pds_ret (pd_methM Z.i_Cellar (by rw [Z.f_Cellar]; decide) N_Cellar_drink_set (List.mem_cons_of_mem _ List.mem_cons_self) (ft.mono (by decide)) (pd_var (i := 0) rfl (by first | exact Or.inl rfl | exact Or.inr (Or.inl rfl) | exact Or.inr (Or.inr rfl))) (pda_cons (pd_ix (pd_var (i := 1) rfl (by first | exact Or.inl rfl | exact Or.inr (Or.inl rfl) | exact Or.inr (Or.inr rfl))) pd_int) (pda_cons (pd_ix (pd_var (i := 1) rfl (by first | exact Or.inl rfl | exact Or.inr (Or.inl rfl) | exact Or.inr (Or.inr rfl))) pd_int) pda_nil)) pdk_nil))) pds_nil)
    (pds_one (pds_ret (pd_methM0 Z.i_Cellar (by rw [Z.f_Cellar]; decide) N_Cellar_drink_set List.mem_cons_self (ft.mono (by decide)) (pd_var (i := 0) rfl (by first | exact Or.inl rfl | exact Or.inr (Or.inl rfl) | exact Or.inr (Or.inr rfl)))  (pdk_cons (pd_ix (pd_var (i := 1) rfl (by first | exact Or.inl rfl | exact Or.inr (Or.inl rfl) | exact Or.inr (Or.inr rfl))) pd_int) (pdk_cons (pd_ix (pd_var (i := 1) rfl (by first | exact Or.inl rfl | exact Or.inr (Or.inl rfl) | exact Or.inr (Or.inr rfl))) pd_int) (pdk_cons (pd_ix (pd_var (i := 1) rfl (by first | exact Or.inl rfl | exact Or.inr (Or.inl rfl) | exact Or.inr (Or.inr rfl))) pd_int) pdk_nil))))))))))))))
theorem ok_Cellar_move {w : World} {T : Txt} {mg : Str → Option Value} {base : Heap} (Z : Facts T mg) (D__cleared : Def P w T mg base 1 13 "_cleared" ["shelves", "numbers"] f__cleared) (D__laid : Def P w T mg base 1 14 "_laid" ["shelves", "number", "room", "shelf"] f__laid) (N_Cellar__check_lies : DefM P w T mg base 5 1 25 "_check_lies" f_Cellar__check_lies ways_Cellar__check_lies) (N_Cellar__check_place : DefM P w T mg base 4 1 23 "_check_place" f_Cellar__check_place ways_Cellar__check_place) (N_Cellar__keep : DefM P w T mg base 2 1 21 "_keep" f_Cellar__keep ways_Cellar__keep) (M_Full : MkE P w T mg base 21 "Full" ["self", "room", "shelf"] ways_Full) (l : LkD T 32 "move" "Cellar.move" st_Cellar_move [.int 0, .int 0]) (me : Meth T.K (T.ca 1) "move" (T.fa 32)) : DefM P w T mg base 6 1 32 "move" f_Cellar_move ways_Cellar_move := by
  refine defM_of (c := 1) (nm := "move") (m := m_Cellar_move) (k := 5) (N := ["self", "number", "room", "shelf", "cleared"]) (ps := ["self", "number", "room", "shelf"]) (st := st_Cellar_move) l me sc_Cellar_move (fun fd F z hz => ?_) fun cdv A outer s H E xp ft po => ?_
  · skip
    rcases List.mem_cons.mp hz with hz | hz
    · subst hz
      refine bd_dfl (dds := [.int 0, .int 0]) gg_Cellar_move_1_room_shelf F (by simp) (fun _ _ _ => .cons (.int 0) (.cons (.int 0) .nil)) (fun r d q => r.append (((q.drop 0).take 1).append ((q.drop 1).take 1))) (fun _ _ _ _ _ _ _ _ _ r d q => r.append (((q.drop 0).take 1).append ((q.drop 1).take 1))) (fun vs zs h1 h2 => by unfold gg_Cellar_move_1_room_shelf; simp [h1, h2]) ?_
      intro Dv kV doc pm an cdv ct us its ws h1 h2 h3
      match us, its, ws, h1, h2, h3 with
      | [_, _], [_, _], [_, _], _, _, _ => exact ⟨_, rfl, rfl⟩
    rcases List.mem_cons.mp hz with hz | hz
    · subst hz
      refine bd_dfl (dds := [.int 0, .int 0]) gg_Cellar_move_3 F (by simp) (fun _ _ _ => .cons (.int 0) (.cons (.int 0) .nil)) (fun r d q => r) (fun _ _ _ _ _ _ _ _ _ r d q => r) (fun vs zs h1 h2 => by unfold gg_Cellar_move_3; simp [h1, h2]) ?_
      intro Dv kV doc pm an cdv ct us its ws h1 h2 h3
      match us, its, ws, h1, h2, h3 with
      | [_, _, _, _], [_, _], [], _, _, _ => exact ⟨_, rfl, rfl⟩
    exact absurd hz List.not_mem_nil
  · exact (pds_cons (pds_drop (pd_methM Z.i_Cellar (by rw [Z.f_Cellar]; decide) N_Cellar__check_lies List.mem_cons_self (ft.mono (by decide)) (pd_var (i := 0) rfl (by first | exact Or.inl rfl | exact Or.inr (Or.inl rfl) | exact Or.inr (Or.inr rfl))) (pda_cons (pd_var (i := 1) rfl (by first | exact Or.inl rfl | exact Or.inr (Or.inl rfl) | exact Or.inr (Or.inr rfl))) pda_nil) pdk_nil))
    (pds_cons (pds_drop (pd_methM Z.i_Cellar (by rw [Z.f_Cellar]; decide) N_Cellar__check_place List.mem_cons_self (ft.mono (by decide)) (pd_var (i := 0) rfl (by first | exact Or.inl rfl | exact Or.inr (Or.inl rfl) | exact Or.inr (Or.inr rfl))) (pda_cons (pd_var (i := 2) rfl (by first | exact Or.inl rfl | exact Or.inr (Or.inl rfl) | exact Or.inr (Or.inr rfl))) (pda_cons (pd_var (i := 3) rfl (by first | exact Or.inl rfl | exact Or.inr (Or.inl rfl) | exact Or.inr (Or.inr rfl))) pda_nil)) pdk_nil))
    (pds_cons (pds_set (i := 4) sc_Cellar_move.nd rfl (by first | exact Or.inl rfl | exact Or.inr rfl) (pd_callA D__cleared (ft.mono (by decide)) (by rfl) (pda_cons (pd_fld (i := 3) Z.i_Cellar (by rw [Z.f_Cellar]; rfl) (pd_var (i := 0) rfl (by first | exact Or.inl rfl | exact Or.inr (Or.inl rfl) | exact Or.inr (Or.inr rfl)))) (pda_cons (pd_tup (pda_cons (pd_var (i := 1) rfl (by first | exact Or.inl rfl | exact Or.inr (Or.inl rfl) | exact Or.inr (Or.inr rfl))) pda_nil)) pda_nil))))
    (pds_cons (pds_if (pdt_cmp cmp_ge (pd_blt blt_len (by rfl) Z.b_len rfl (pda_cons (pd_ix (pd_ix (pd_var (i := 4) rfl (by first | exact Or.inl rfl | exact Or.inr (Or.inl rfl) | exact Or.inr (Or.inr rfl))) (pd_var (i := 2) rfl (by first | exact Or.inl rfl | exact Or.inr (Or.inl rfl) | exact Or.inr (Or.inr rfl)))) (pd_var (i := 3) rfl (by first | exact Or.inl rfl | exact Or.inr (Or.inl rfl) | exact Or.inr (Or.inr rfl)))) pda_nil)) (pd_fld (i := 1) Z.i_Cellar (by rw [Z.f_Cellar]; rfl) (pd_var (i := 0) rfl (by first | exact Or.inl rfl | exact Or.inr (Or.inl rfl) | exact Or.inr (Or.inr rfl)))) (by rfl)) (pds_one (pds_raiseE M_Full List.mem_cons_self (ft.mono (by decide)) rfl (by rw [Z.f_Full]; decide) Z.b1_Full Z.b2_Full (by rfl) (pda_cons (pd_var (i := 2) rfl (by first | exact Or.inl rfl | exact Or.inr (Or.inl rfl) | exact Or.inr (Or.inr rfl))) (pda_cons (pd_var (i := 3) rfl (by first | exact Or.inl rfl | exact Or.inr (Or.inl rfl) | exact Or.inr (Or.inr rfl))) pda_nil)) pdk_nil (by decide))) pds_nil)
    (pds_cons (pds_drop (pd_methM0 Z.i_Cellar (by rw [Z.f_Cellar]; decide) N_Cellar__keep List.mem_cons_self (ft.mono (by decide)) (pd_var (i := 0) rfl (by first | exact Or.inl rfl | exact Or.inr (Or.inl rfl) | exact Or.inr (Or.inr rfl)))  pdk_nil))
    (pds_one (pds_setF (i := 3) Z.i_Cellar (by rw [Z.f_Cellar]; rfl) (pd_var (i := 0) rfl (by first | exact Or.inl rfl | exact Or.inr (Or.inl rfl) | exact Or.inr (Or.inr rfl))) (pd_callA D__laid (ft.mono (by decide)) (by rfl) (pda_cons (pd_var (i := 4) rfl (by first | exact Or.inl rfl | exact Or.inr (Or.inl rfl) | exact Or.inr (Or.inr rfl))) (pda_cons (pd_var (i := 1) rfl (by first | exact Or.inl rfl | exact Or.inr (Or.inl rfl) | exact Or.inr (Or.inr rfl))) (pda_cons (pd_var (i := 2) rfl (by first | exact Or.inl rfl | exact Or.inr (Or.inl rfl) | exact Or.inr (Or.inr rfl))) (pda_cons (pd_var (i := 3) rfl (by first | exact Or.inl rfl | exact Or.inr (Or.inl rfl) | exact Or.inr (Or.inr rfl))) pda_nil))))))))))))
theorem ok__law_kinds {w : World} {T : Txt} {mg : Str → Option Value} {base : Heap} (Z : Facts T mg) (D__law_mixed : Def P w T mg base 2 52 "_law_mixed" ["_law_pot_here", "_law_some"] f__law_mixed) (D__law_take : Def P w T mg base 1 49 "_law_take" ["_law_pot_here", "_law_far"] f__law_take) (l : Lk T 53 "_law_kinds" "_law_kinds" st__law_kinds) (hg : mg "_law_kinds" = some (.ref (T.fa 53))) : Def P w T mg base 3 53 "_law_kinds" ["_law_pot_here"] f__law_kinds := by
  refine defD_of (m := m__law_kinds) (k := 2) (N := ["_law_pot_here", "_law_makers", "_law_found", "_law_turn", "_law_year"]) (ps := ["_law_pot_here"]) (st := st__law_kinds) l hg sc__law_kinds (fun _ _ _ _ _ _ us hl => match us, hl with | [_], _ => rfl) fun cdv A outer s H E xp ft po => ?_
  exact (pds_cons (pds_set (i := 1) sc__law_kinds.nd rfl (by first | exact Or.inl rfl | exact Or.inr rfl) (pd_slice (pd_callA D__law_mixed (ft.mono (by decide)) (by rfl) (pda_cons (pd_var (i := 0) rfl (by first | exact Or.inl rfl | exact Or.inr (Or.inl rfl) | exact Or.inr (Or.inr rfl))) (pda_cons (pd_lst (pda_cons pd_str (pda_cons pd_str (pda_cons pd_str (pda_cons pd_str (pda_cons pd_str pda_nil)))))) pda_nil))) pdo_none (pdo_some (pd_add pd_int (pd_callA D__law_take (ft.mono (by decide)) (by rfl) (pda_cons (pd_var (i := 0) rfl (by first | exact Or.inl rfl | exact Or.inr (Or.inl rfl) | exact Or.inr (Or.inr rfl))) (pda_cons pd_int pda_nil)))))))
    (pds_cons (pds_set (i := 2) sc__law_kinds.nd rfl (by first | exact Or.inl rfl | exact Or.inr rfl) (pd_new pda_nil))
    (pds_cons (pds_forR1 po rfl (by rfl) Z.b_range (pda_cons (pd_add pd_int (pd_callA D__law_take (ft.mono (by decide)) (by rfl) (pda_cons (pd_var (i := 0) rfl (by first | exact Or.inl rfl | exact Or.inr (Or.inl rfl) | exact Or.inr (Or.inr rfl))) (pda_cons pd_int pda_nil)))) pda_nil) (pg_name (i := 3) sc__law_kinds.nd rfl (by first | exact Or.inl rfl | exact Or.inr rfl)) (tg_one 3)
    (pds_cons (pds_set (i := 4) sc__law_kinds.nd rfl (by first | exact Or.inl rfl | exact Or.inr rfl) (pd_ix (pd_lst (pda_cons pd_int (pda_cons pd_int (pda_cons (pd_add pd_int (pd_callA D__law_take (ft.mono (by decide)) (by rfl) (pda_cons (pd_var (i := 0) rfl (by first | exact Or.inl rfl | exact Or.inr (Or.inl rfl) | exact Or.inr (Or.inr rfl))) (pda_cons pd_int pda_nil)))) (pda_cons (pd_add pd_int (pd_callA D__law_take (ft.mono (by decide)) (by rfl) (pda_cons (pd_var (i := 0) rfl (by first | exact Or.inl rfl | exact Or.inr (Or.inl rfl) | exact Or.inr (Or.inr rfl))) (pda_cons pd_int pda_nil)))) pda_nil))))) (pd_callA D__law_take (ft.mono (by decide)) (by rfl) (pda_cons (pd_var (i := 0) rfl (by first | exact Or.inl rfl | exact Or.inr (Or.inl rfl) | exact Or.inr (Or.inr rfl))) (pda_cons pd_int pda_nil)))))
    (pds_one (pds_drop (pd_bm mt_app (pd_var (i := 2) rfl (by first | exact Or.inl rfl | exact Or.inr (Or.inl rfl) | exact Or.inr (Or.inr rfl))) (pda_cons (pd_tup (pda_cons (pd_ix (pd_var (i := 1) rfl (by first | exact Or.inl rfl | exact Or.inr (Or.inl rfl) | exact Or.inr (Or.inr rfl))) (pd_callA D__law_take (ft.mono (by decide)) (by rfl) (pda_cons (pd_var (i := 0) rfl (by first | exact Or.inl rfl | exact Or.inr (Or.inl rfl) | exact Or.inr (Or.inr rfl))) (pda_cons (pd_blt (BltD.or blt_len blt_lenK) (by rfl) Z.b_len rfl (pda_cons (pd_var (i := 1) rfl (by first | exact Or.inl rfl | exact Or.inr (Or.inl rfl) | exact Or.inr (Or.inr rfl))) pda_nil)) pda_nil)))) (pda_cons (pd_var (i := 4) rfl (by first | exact Or.inl rfl | exact Or.inr (Or.inl rfl) | exact Or.inr (Or.inr rfl))) (pda_cons (pd_ix (pd_lst (pda_cons pd_int (pda_cons pd_int (pda_cons pd_int (pda_cons pd_int pda_nil))))) (pd_callA D__law_take (ft.mono (by decide)) (by rfl) (pda_cons (pd_var (i := 0) rfl (by first | exact Or.inl rfl | exact Or.inr (Or.inl rfl) | exact Or.inr (Or.inr rfl))) (pda_cons pd_int pda_nil)))) pda_nil)))) pda_nil))))))
    (pds_frzV 2 (pds_one (pds_ret (pd_var (i := 2) rfl (by first | exact Or.inl rfl | exact Or.inr (Or.inl rfl) | exact Or.inr (Or.inr rfl)))))))))
theorem ok__law_gone {w : World} {T : Txt} {mg : Str → Option Value} {base : Heap} (Z : Facts T mg) (D__law_more : Def P w T mg base 1 56 "_law_more" ["_law_state", "_law_changes"] f__law_more) (D__law_rows_less : Def P w T mg base 1 63 "_law_rows_less" ["_law_state", "_law_numbers"] f__law_rows_less) (hdo : T.dto = mdict P w) (l : Lk T 64 "_law_gone" "_law_gone" st__law_gone) (hg : mg "_law_gone" = some (.ref (T.fa 64))) : Def P w T mg base 2 64 "_law_gone" ["_law_state", "_law_numbers", "_law_end", "_law_sets"] f__law_gone := by
  refine defD_of (m := m__law_gone) (k := 1) (N := ["_law_state", "_law_numbers", "_law_end", "_law_sets", "_law_ends", "_law_k", "_law_one"]) (ps := ["_law_state", "_law_numbers", "_law_end", "_law_sets"]) (st := st__law_gone) l hg sc__law_gone (fun _ _ _ _ _ _ us hl => match us, hl with | [_, _, _, _], _ => rfl) fun cdv A outer s H E xp ft po => ?_
  exact (pds_cons (pds_set (i := 4) sc__law_gone.nd rfl (by first | exact Or.inl rfl | exact Or.inr rfl) (pd_ty ty_tuple (by rfl) Z.b_tuple rfl (pda_cons (pd_lcP (own := [("_law_k", 5), ("_law_one", 6)]) rfl sc__law_gone.nd (pdi_enumT (by rfl) Z.b_enumerate (pd_ixK ft.u (pd_var (i := 0) rfl (by first | exact Or.inl rfl | exact Or.inr (Or.inl rfl) | exact Or.inr (Or.inr rfl))) pd_str)) (blkOk_by rfl) (fun _ _ _ _ _ => pg_tup rfl (pgs_cons (pg_name (i := 5) sc__law_gone.nd rfl (by first | exact Or.inl rfl | exact Or.inr rfl)) (pgs_cons (pg_name (i := 6) sc__law_gone.nd rfl (by first | exact Or.inl rfl | exact Or.inr rfl)) pgs_nil))) (tg_tup rfl [5, 6] rfl) (by decide) (fun _ _ _ _ _ => pdts_nil) (fun _ _ _ _ _ => (pd_ite (pdt_cmp cmp_in (pd_var (i := 5) rfl (by first | exact Or.inl rfl | exact Or.inr (Or.inl rfl) | exact Or.inr (Or.inr rfl))) (pd_var (i := 1) rfl (by first | exact Or.inl rfl | exact Or.inr (Or.inl rfl) | exact Or.inr (Or.inr rfl))) (by rfl)) (pd_var (i := 2) rfl (by first | exact Or.inl rfl | exact Or.inr (Or.inl rfl) | exact Or.inr (Or.inr rfl))) (pd_var (i := 6) rfl (by first | exact Or.inl rfl | exact Or.inr (Or.inl rfl) | exact Or.inr (Or.inr rfl)))))) pda_nil)))
    (pds_one (pds_ret (pd_callA D__law_more (ft.mono (by decide)) (by rfl) (pda_cons (pd_var (i := 0) rfl (by first | exact Or.inl rfl | exact Or.inr (Or.inl rfl) | exact Or.inr (Or.inr rfl))) (pda_cons (pd_lst (pda_cons (pd_tup (pda_cons pd_str (pda_cons (pd_frzT hdo (pd_callA D__law_rows_less (ft.mono (by decide)) (by rfl) (pda_cons (pd_var (i := 0) rfl (by first | exact Or.inl rfl | exact Or.inr (Or.inl rfl) | exact Or.inr (Or.inr rfl))) (pda_cons (pd_var (i := 1) rfl (by first | exact Or.inl rfl | exact Or.inr (Or.inl rfl) | exact Or.inr (Or.inr rfl))) pda_nil)))) pda_nil))) (pda_cons (pd_tup (pda_cons pd_str (pda_cons (pd_var (i := 4) rfl (by first | exact Or.inl rfl | exact Or.inr (Or.inl rfl) | exact Or.inr (Or.inr rfl))) pda_nil))) (pda_cons (pd_tup (pda_cons pd_str (pda_cons (pd_var (i := 3) rfl (by first | exact Or.inl rfl | exact Or.inr (Or.inl rfl) | exact Or.inr (Or.inr rfl))) pda_nil))) pda_nil)))) pda_nil))))))
theorem ok_Cellar__bound_with {w : World} {T : Txt} {mg : Str → Option Value} {base : Heap} (Z : Facts T mg) (N_Cellar__check_lies : DefM P w T mg base 5 1 25 "_check_lies" f_Cellar__check_lies ways_Cellar__check_lies) (l : LkD T 28 "_bound_with" "Cellar._bound_with" st_Cellar__bound_with []) (me : Meth T.K (T.ca 1) "_bound_with" (T.fa 28)) : DefM P w T mg base 6 1 28 "_bound_with" f_Cellar__bound_with ways_Cellar__bound_with := by
  refine defM_of (c := 1) (nm := "_bound_with") (m := m_Cellar__bound_with) (k := 5) (N := ["self", "number"]) (ps := ["self", "number"]) (st := st_Cellar__bound_with) l me sc_Cellar__bound_with (fun fd F z hz => ?_) fun cdv A outer s H E xp ft po => ?_
  · skip
    rcases List.mem_cons.mp hz with hz | hz
    · subst hz
      refine bd_nod (g := fun {α} us ws => gg_Cellar__bound_with_1 us [] ws) F (fun r q => r) (fun _ _ _ _ _ _ _ r q => r) (fun vs zs h1 h2 => by unfold gg_Cellar__bound_with_1; simp [h1, h2]) ?_
      intro kV doc pm an cdv ct us ws h1 h3
      match us, ws, h1, h3 with
      | [_, _], [], _, _ => rfl
    exact absurd hz List.not_mem_nil
  · exact (pds_cons (pds_drop (pd_methM Z.i_Cellar (by rw [Z.f_Cellar]; decide) N_Cellar__check_lies List.mem_cons_self (ft.mono (by decide)) (pd_var (i := 0) rfl (by first | exact Or.inl rfl | exact Or.inr (Or.inl rfl) | exact Or.inr (Or.inr rfl))) (pda_cons (pd_var (i := 1) rfl (by first | exact Or.inl rfl | exact Or.inr (Or.inl rfl) | exact Or.inr (Or.inr rfl))) pda_nil) pdk_nil))
    (pds_cons (pds_if (pdt_cmp (cmp_eq ft.u) (pd_ix (pd_fld (i := 5) Z.i_Cellar (by rw [Z.f_Cellar]; rfl) (pd_var (i := 0) rfl (by first | exact Or.inl rfl | exact Or.inr (Or.inl rfl) | exact Or.inr (Or.inr rfl)))) (pd_var (i := 1) rfl (by first | exact Or.inl rfl | exact Or.inr (Or.inl rfl) | exact Or.inr (Or.inr rfl)))) (pd_tup pda_nil) (by rfl)) (pds_one (pds_raise rfl ft.tk Z.e_NoSet Z.c_NoSet (by rfl))) pds_nil)
    (pds_one (pds_ret (pd_ix (pd_fld (i := 5) Z.i_Cellar (by rw [Z.f_Cellar]; rfl) (pd_var (i := 0) rfl (by first | exact Or.inl rfl | exact Or.inr (Or.inl rfl) | exact Or.inr (Or.inr rfl)))) (pd_var (i := 1) rfl (by first | exact Or.inl rfl | exact Or.inr (Or.inl rfl) | exact Or.inr (Or.inr rfl))))))))
theorem ok_Cellar__others_of {w : World} {T : Txt} {mg : Str → Option Value} {base : Heap} (Z : Facts T mg) (l : LkD T 26 "_others_of" "Cellar._others_of" st_Cellar__others_of []) (me : Meth T.K (T.ca 1) "_others_of" (T.fa 26)) : DefM P w T mg base 1 1 26 "_others_of" f_Cellar__others_of ways_Cellar__others_of := by
  refine defM_of (c := 1) (nm := "_others_of") (m := m_Cellar__others_of) (k := 0) (N := ["self", "number", "other"]) (ps := ["self", "number"]) (st := st_Cellar__others_of) l me sc_Cellar__others_of (fun fd F z hz => ?_) fun cdv A outer s H E xp ft po => ?_
  · skip
    rcases List.mem_cons.mp hz with hz | hz
    · subst hz
      refine bd_nod (g := fun {α} us ws => gg_Cellar__others_of_1 us [] ws) F (fun r q => r) (fun _ _ _ _ _ _ _ r q => r) (fun vs zs h1 h2 => by unfold gg_Cellar__others_of_1; simp [h1, h2]) ?_
      intro kV doc pm an cdv ct us ws h1 h3
      match us, ws, h1, h3 with
      | [_, _], [], _, _ => rfl
    exact absurd hz List.not_mem_nil
  · exact (pds_one (pds_ret (pd_ty ty_tuple (by rfl) Z.b_tuple rfl (pda_cons (pd_lc (own := [("other", 2)]) rfl sc_Cellar__others_of.nd (pdi_tup (pd_ix (pd_fld (i := 5) Z.i_Cellar (by rw [Z.f_Cellar]; rfl) (pd_var (i := 0) rfl (by first | exact Or.inl rfl | exact Or.inr (Or.inl rfl) | exact Or.inr (Or.inr rfl)))) (pd_var (i := 1) rfl (by first | exact Or.inl rfl | exact Or.inr (Or.inl rfl) | exact Or.inr (Or.inr rfl))))) (blkOk_by rfl) (fun _ _ _ _ _ => pg_name (i := 2) sc_Cellar__others_of.nd rfl (by first | exact Or.inl rfl | exact Or.inr rfl)) (tg_one 2) (by decide) (fun _ _ _ _ _ => (pdts_one (pdt_cmp (cmp_ne (ft.blk _ _ _ _ _ _).u) (pd_var (i := 2) rfl (by first | exact Or.inl rfl | exact Or.inr (Or.inl rfl) | exact Or.inr (Or.inr rfl))) (pd_var (i := 1) rfl (by first | exact Or.inl rfl | exact Or.inr (Or.inl rfl) | exact Or.inr (Or.inr rfl))) (by rfl)))) (fun _ _ _ _ _ => (pd_var (i := 2) rfl (by first | exact Or.inl rfl | exact Or.inr (Or.inl rfl) | exact Or.inr (Or.inr rfl))))) pda_nil))))
theorem ok_Cellar_lying {w : World} {T : Txt} {mg : Str → Option Value} {base : Heap} (Z : Facts T mg) (l : LkD T 18 "lying" "Cellar.lying" st_Cellar_lying []) (me : Meth T.K (T.ca 1) "lying" (T.fa 18)) : DefM P w T mg base 1 1 18 "lying" f_Cellar_lying ways_Cellar_lying := by
  refine defM_of (c := 1) (nm := "lying") (m := m_Cellar_lying) (k := 0) (N := ["self", "number"]) (ps := ["self"]) (st := st_Cellar_lying) l me sc_Cellar_lying (fun fd F z hz => ?_) fun cdv A outer s H E xp ft po => ?_
  · skip
    rcases List.mem_cons.mp hz with hz | hz
    · subst hz
      refine bd_nod (g := fun {α} us ws => gg_Cellar_lying_0 us [] ws) F (fun r q => r) (fun _ _ _ _ _ _ _ r q => r) (fun vs zs h1 h2 => by unfold gg_Cellar_lying_0; simp [h1, h2]) ?_
      intro kV doc pm an cdv ct us ws h1 h3
      match us, ws, h1, h3 with
      | [_], [], _, _ => rfl
    exact absurd hz List.not_mem_nil
  · exact (pds_one (pds_ret (pd_lcR1 (own := [("number", 1)]) rfl sc_Cellar_lying.nd (by rfl) Z.b_range (pda_cons (pd_blt blt_len (by rfl) Z.b_len rfl (pda_cons (pd_fld (i := 4) Z.i_Cellar (by rw [Z.f_Cellar]; rfl) (pd_var (i := 0) rfl (by first | exact Or.inl rfl | exact Or.inr (Or.inl rfl) | exact Or.inr (Or.inr rfl)))) pda_nil)) pda_nil) (blkOk_by rfl) (fun _ _ _ _ _ => pg_name (i := 1) sc_Cellar_lying.nd rfl (by first | exact Or.inl rfl | exact Or.inr rfl)) (tg_one 1) (by decide) (fun _ _ _ _ _ => (pdts_one (pdt_cmp cmp_is (pd_ix (pd_fld (i := 4) Z.i_Cellar (by rw [Z.f_Cellar]; rfl) (pd_var (i := 0) rfl (by first | exact Or.inl rfl | exact Or.inr (Or.inl rfl) | exact Or.inr (Or.inr rfl)))) (pd_var (i := 1) rfl (by first | exact Or.inl rfl | exact Or.inr (Or.inl rfl) | exact Or.inr (Or.inr rfl)))) pd_non (by rfl)))) (fun _ _ _ _ _ => (pd_var (i := 1) rfl (by first | exact Or.inl rfl | exact Or.inr (Or.inl rfl) | exact Or.inr (Or.inr rfl)))))))
theorem ok_Bottle___eq__ {w : World} {T : Txt} {mg : Str → Option Value} {base : Heap} (Z : Facts T mg) (l : Lk T 9 "__eq__" "Bottle.__eq__" st_Bottle___eq__) (me : Meth T.K (T.ca 0) "__eq__" (T.fa 9)) : DefO P w T mg base 1 0 9 "__eq__" 2 f_Bottle___eq__ := by
  refine defO_of (c := 0) (nm := "__eq__") (m := m_Bottle___eq__) (k := 0) (N := ["self", "other"]) (ps := ["self", "other"]) (st := st_Bottle___eq__) l me sc_Bottle___eq__ (fun _ _ _ _ _ _ us hl => match us, hl with | [_, _], _ => rfl) fun cdv A outer s H E xp ft po => ?_
  exact (pds_one (pds_ret (pd_and (pd_blt (blt_isi Z.own Z.isT) (by rfl) Z.b_isinstance rfl (pda_cons (pd_var (i := 1) rfl (by first | exact Or.inl rfl | exact Or.inr (Or.inl rfl) | exact Or.inr (Or.inr rfl))) (pda_cons (pd_cl (c := 0) Z.c_Bottle (by rfl)) pda_nil))) (pd_and (pd_cmpD (cmp_eq ft.u) (pd_fld (i := 0) Z.i_Bottle (by rw [Z.f_Bottle]; rfl) (pd_var (i := 0) rfl (by first | exact Or.inl rfl | exact Or.inr (Or.inl rfl) | exact Or.inr (Or.inr rfl)))) (pd_fld (i := 0) Z.i_Bottle (by rw [Z.f_Bottle]; rfl) (pd_var (i := 1) rfl (by first | exact Or.inl rfl | exact Or.inr (Or.inl rfl) | exact Or.inr (Or.inr rfl)))) (by rfl)) (pd_and (pd_cmpD (cmp_eq ft.u) (pd_fld (i := 1) Z.i_Bottle (by rw [Z.f_Bottle]; rfl) (pd_var (i := 0) rfl (by first | exact Or.inl rfl | exact Or.inr (Or.inl rfl) | exact Or.inr (Or.inr rfl)))) (pd_fld (i := 1) Z.i_Bottle (by rw [Z.f_Bottle]; rfl) (pd_var (i := 1) rfl (by first | exact Or.inl rfl | exact Or.inr (Or.inl rfl) | exact Or.inr (Or.inr rfl)))) (by rfl)) (pd_last (pd_cmpD (cmp_eq ft.u) (pd_fld (i := 2) Z.i_Bottle (by rw [Z.f_Bottle]; rfl) (pd_var (i := 0) rfl (by first | exact Or.inl rfl | exact Or.inr (Or.inl rfl) | exact Or.inr (Or.inr rfl)))) (pd_fld (i := 2) Z.i_Bottle (by rw [Z.f_Bottle]; rfl) (pd_var (i := 1) rfl (by first | exact Or.inl rfl | exact Or.inr (Or.inl rfl) | exact Or.inr (Or.inr rfl)))) (by rfl))))))))
theorem ok__law_set {w : World} {T : Txt} {mg : Str → Option Value} {base : Heap} (Z : Facts T mg) (l : Lk T 61 "_law_set" "_law_set" st__law_set) (hg : mg "_law_set" = some (.ref (T.fa 61))) : Def P w T mg base 1 61 "_law_set" ["_law_state", "_law_token"] f__law_set := by
  refine defD_of (m := m__law_set) (k := 0) (N := ["_law_state", "_law_token", "_law_some", "_law_one"]) (ps := ["_law_state", "_law_token"]) (st := st__law_set) l hg sc__law_set (fun _ _ _ _ _ _ us hl => match us, hl with | [_, _], _ => rfl) fun cdv A outer s H E xp ft po => ?_
  exact (pds_cons (pds_setLc (i := 2) (own := [("_law_one", 3)]) rfl sc__law_set.nd rfl rfl (pdi_tup (pd_ixK ft.u (pd_var (i := 0) rfl (by first | exact Or.inl rfl | exact Or.inr (Or.inl rfl) | exact Or.inr (Or.inr rfl))) pd_str)) (blkOk_by rfl) (fun _ _ _ _ _ => pg_name (i := 3) sc__law_set.nd rfl (by first | exact Or.inl rfl | exact Or.inr rfl)) (tg_one 3) (by decide) (fun _ _ _ _ _ => (pdts_one (pdt_cmp cmp_in (pd_var (i := 1) rfl (by first | exact Or.inl rfl | exact Or.inr (Or.inl rfl) | exact Or.inr (Or.inr rfl))) (pd_var (i := 3) rfl (by first | exact Or.inl rfl | exact Or.inr (Or.inl rfl) | exact Or.inr (Or.inr rfl))) (by rfl)))) (fun _ _ _ _ _ => (pd_var (i := 3) rfl (by first | exact Or.inl rfl | exact Or.inr (Or.inl rfl) | exact Or.inr (Or.inr rfl)))))
    (pds_one (pds_ret (pd_ite (pdt_cmp (cmp_ne ft.u) (pd_var (i := 2) rfl (by first | exact Or.inl rfl | exact Or.inr (Or.inl rfl) | exact Or.inr (Or.inr rfl))) (pd_lst pda_nil) (by rfl)) (pd_ix (pd_var (i := 2) rfl (by first | exact Or.inl rfl | exact Or.inr (Or.inl rfl) | exact Or.inr (Or.inr rfl))) pd_int) (pd_tup pda_nil)))))
theorem ok__law_take {w : World} {T : Txt} {mg : Str → Option Value} {base : Heap} (Z : Facts T mg) (l : Lk T 49 "_law_take" "_law_take" st__law_take) (hg : mg "_law_take" = some (.ref (T.fa 49))) : Def P w T mg base 1 49 "_law_take" ["_law_pot_here", "_law_far"] f__law_take := by
  refine defD_of (m := m__law_take) (k := 0) (N := ["_law_pot_here", "_law_far", "_law_found"]) (ps := ["_law_pot_here", "_law_far"]) (st := st__law_take) l hg sc__law_take (fun _ _ _ _ _ _ us hl => match us, hl with | [_, _], _ => rfl) fun cdv A outer s H E xp ft po => ?_
  exact (pds_cons (pds_set (i := 2) sc__law_take.nd rfl (by first | exact Or.inl rfl | exact Or.inr rfl) (pd_mod (pd_ix (pd_var (i := 0) rfl (by first | exact Or.inl rfl | exact Or.inr (Or.inl rfl) | exact Or.inr (Or.inr rfl))) pd_int) (pd_var (i := 1) rfl (by first | exact Or.inl rfl | exact Or.inr (Or.inl rfl) | exact Or.inr (Or.inr rfl)))))
    (pds_cons (pds_setIx (pd_div (pd_ix (pd_var (i := 0) rfl (by first | exact Or.inl rfl | exact Or.inr (Or.inl rfl) | exact Or.inr (Or.inr rfl))) pd_int) (pd_var (i := 1) rfl (by first | exact Or.inl rfl | exact Or.inr (Or.inl rfl) | exact Or.inr (Or.inr rfl)))) (pd_var (i := 0) rfl (by first | exact Or.inl rfl | exact Or.inr (Or.inl rfl) | exact Or.inr (Or.inr rfl))) pd_int (fun _ _ a b => pg_sub a b set_list))
    (pds_one (pds_ret (pd_var (i := 2) rfl (by first | exact Or.inl rfl | exact Or.inr (Or.inl rfl) | exact Or.inr (Or.inr rfl)))))))
theorem ok_is_size {w : World} {T : Txt} {mg : Str → Option Value} {base : Heap} (Z : Facts T mg) (D_is_whole : Def P w T mg base 1 0 "is_whole" ["thing"] f_is_whole) (l : Lk T 7 "is_size" "is_size" st_is_size) (hg : mg "is_size" = some (.ref (T.fa 7))) : Def P w T mg base 2 7 "is_size" ["thing"] f_is_size := by
  refine defD_of (m := m_is_size) (k := 1) (N := ["thing"]) (ps := ["thing"]) (st := st_is_size) l hg sc_is_size (fun _ _ _ _ _ _ us hl => match us, hl with | [_], _ => rfl) fun cdv A outer s H E xp ft po => ?_
  exact (pds_one (pds_ret (pd_and (pd_callA D_is_whole (ft.mono (by decide)) (by rfl) (pda_cons (pd_var (i := 0) rfl (by first | exact Or.inl rfl | exact Or.inr (Or.inl rfl) | exact Or.inr (Or.inr rfl))) pda_nil)) (pd_last (pd_cmpD cmp_in (pd_var (i := 0) rfl (by first | exact Or.inl rfl | exact Or.inr (Or.inl rfl) | exact Or.inr (Or.inr rfl))) (pd_glE Z.g_SIZES (by rfl)) (by rfl))))))
end K11
set_option maxRecDepth 100000
set_option maxHeartbeats 1000000
namespace K11
open PySem PySem.Spec PyProof.Rows L2 Den Cel Ste
theorem ok__law_bound {w : World} {T : Txt} {mg : Str → Option Value} {base : Heap} (Z : Facts T mg) (D__law_kept : Def P w T mg base 2 62 "_law_kept" ["_law_state", "_law_token"] f__law_kept) (D__law_more : Def P w T mg base 1 56 "_law_more" ["_law_state", "_law_changes"] f__law_more) (D__law_there : Def P w T mg base 3 58 "_law_there" ["_law_state", "_law_token"] f__law_there) (D__law_whole : Def P w T mg base 1 50 "_law_whole" ["_law_thing"] f__law_whole) (l : Lk T 67 "_law_bound" "_law_bound" st__law_bound) (hg : mg "_law_bound" = some (.ref (T.fa 67))) : Def P w T mg base 4 67 "_law_bound" ["_law_state", "_law_numbers"] f__law_bound := by
  refine defD_of (m := m__law_bound) (k := 3) (N := ["_law_state", "_law_numbers", "_law_bads", "_law_one", "_law_k", "_law_bad"]) (ps := ["_law_state", "_law_numbers"]) (st := st__law_bound) l hg sc__law_bound (fun _ _ _ _ _ _ us hl => match us, hl with | [_, _], _ => rfl) fun cdv A outer s H E xp ft po => ?_
  exact (pds_cons (pds_if (pdt_w (pdw_or (pdt_not (pdt_truth (pd_blt (blt_isi Z.own Z.isT) (by rfl) Z.b_isinstance rfl (pda_cons (pd_var (i := 1) rfl (by first | exact Or.inl rfl | exact Or.inr (Or.inl rfl) | exact Or.inr (Or.inr rfl))) (pda_cons (pd_bt (n := "tuple") rfl Z.b_tuple (by rfl)) pda_nil))))) (pdw_or (pdt_not (pdt_chain cmp_le cmp_le pd_int (pd_blt (BltD.or blt_len blt_lenK) (by rfl) Z.b_len rfl (pda_cons (pd_var (i := 1) rfl (by first | exact Or.inl rfl | exact Or.inr (Or.inl rfl) | exact Or.inr (Or.inr rfl))) pda_nil)) pd_int)) (pdw_or1 (pdt_not (pdt_truth (pd_blt (blt_all rfl) (by rfl) Z.b_all rfl (pda_cons (pd_lc (own := [("_law_one", 3)]) rfl sc__law_bound.nd (pdi_tup (pd_var (i := 1) rfl (by first | exact Or.inl rfl | exact Or.inr (Or.inl rfl) | exact Or.inr (Or.inr rfl)))) (blkOk_by rfl) (fun _ _ _ _ _ => pg_name (i := 3) sc__law_bound.nd rfl (by first | exact Or.inl rfl | exact Or.inr rfl)) (tg_one 3) (by decide) (fun _ _ _ _ _ => pdts_nil) (fun _ _ _ _ _ => (pd_callA D__law_whole ((ft.blk _ _ _ _ _ _).mono (by decide)) (by rfl) (pda_cons (pd_var (i := 3) rfl (by first | exact Or.inl rfl | exact Or.inr (Or.inl rfl) | exact Or.inr (Or.inr rfl))) pda_nil)))) pda_nil)))))))) (pds_one (pds_ret (pd_tup (pda_cons pd_str pda_nil)))) pds_nil)
    (pds_cons (pds_if (pdt_cmp (cmp_ne ft.u) (pd_lcR2 (own := [("_law_k", 4)]) rfl sc__law_bound.nd (by rfl) Z.b_range (pda_cons pd_int (pda_cons (pd_blt (BltD.or blt_len blt_lenK) (by rfl) Z.b_len rfl (pda_cons (pd_var (i := 1) rfl (by first | exact Or.inl rfl | exact Or.inr (Or.inl rfl) | exact Or.inr (Or.inr rfl))) pda_nil)) pda_nil)) (blkOk_by rfl) (fun _ _ _ _ _ => pg_name (i := 4) sc__law_bound.nd rfl (by first | exact Or.inl rfl | exact Or.inr rfl)) (tg_one 4) (by decide) (fun _ _ _ _ _ => (pdts_one (pdt_cmp cmp_le (pd_ix (pd_var (i := 1) rfl (by first | exact Or.inl rfl | exact Or.inr (Or.inl rfl) | exact Or.inr (Or.inr rfl))) (pd_var (i := 4) rfl (by first | exact Or.inl rfl | exact Or.inr (Or.inl rfl) | exact Or.inr (Or.inr rfl)))) (pd_ix (pd_var (i := 1) rfl (by first | exact Or.inl rfl | exact Or.inr (Or.inl rfl) | exact Or.inr (Or.inr rfl))) (pd_sub (pd_var (i := 4) rfl (by first | exact Or.inl rfl | exact Or.inr (Or.inl rfl) | exact Or.inr (Or.inr rfl))) pd_int)) (by rfl)))) (fun _ _ _ _ _ => (pd_var (i := 4) rfl (by first | exact Or.inl rfl | exact Or.inr (Or.inl rfl) | exact Or.inr (Or.inr rfl))))) (pd_lst pda_nil) (by rfl)) (pds_one (pds_ret (pd_tup (pda_cons pd_str pda_nil)))) pds_nil)
    (pds_cons (pds_setLc (i := 2) (own := [("_law_one", 3)]) rfl sc__law_bound.nd rfl rfl (pdi_tup (pd_var (i := 1) rfl (by first | exact Or.inl rfl | exact Or.inr (Or.inl rfl) | exact Or.inr (Or.inr rfl)))) (blkOk_by rfl) (fun _ _ _ _ _ => pg_name (i := 3) sc__law_bound.nd rfl (by first | exact Or.inl rfl | exact Or.inr rfl)) (tg_one 3) (by decide) (fun _ _ _ _ _ => pdts_nil) (fun _ _ _ _ _ => (pd_callA D__law_there ((ft.blk _ _ _ _ _ _).mono (by decide)) (by rfl) (pda_cons (pd_var (i := 0) rfl (by first | exact Or.inl rfl | exact Or.inr (Or.inl rfl) | exact Or.inr (Or.inr rfl))) (pda_cons (pd_var (i := 3) rfl (by first | exact Or.inl rfl | exact Or.inr (Or.inl rfl) | exact Or.inr (Or.inr rfl))) pda_nil)))))
    (pds_cons (pds_setLcL (i := 2) (own := [("_law_bad", 5)]) rfl sc__law_bound.nd rfl rfl (pd_var (i := 2) rfl (by first | exact Or.inl rfl | exact Or.inr (Or.inl rfl) | exact Or.inr (Or.inr rfl))) (blkOk_by rfl) (fun _ _ _ _ _ => pg_name (i := 5) sc__law_bound.nd rfl (by first | exact Or.inl rfl | exact Or.inr rfl)) (tg_one 5) (by decide) (fun _ _ _ _ _ => (pdts_one (pdt_cmp cmp_isnot (pd_var (i := 5) rfl (by first | exact Or.inl rfl | exact Or.inr (Or.inl rfl) | exact Or.inr (Or.inr rfl))) pd_non (by rfl)))) (fun _ _ _ _ _ => (pd_var (i := 5) rfl (by first | exact Or.inl rfl | exact Or.inr (Or.inl rfl) | exact Or.inr (Or.inr rfl)))))
    (pds_cons (pds_if (pdt_cmp (cmp_eq ft.u) (pd_var (i := 2) rfl (by first | exact Or.inl rfl | exact Or.inr (Or.inl rfl) | exact Or.inr (Or.inr rfl))) (pd_lst pda_nil) (by rfl)) (pds_one (pds_setLcL (i := 2) (own := [("_law_bad", 5)]) rfl sc__law_bound.nd rfl rfl (pd_lc (own := [("_law_one", 3)]) rfl sc__law_bound.nd (pdi_tup (pd_var (i := 1) rfl (by first | exact Or.inl rfl | exact Or.inr (Or.inl rfl) | exact Or.inr (Or.inr rfl)))) (blkOk_by rfl) (fun _ _ _ _ _ => pg_name (i := 3) sc__law_bound.nd rfl (by first | exact Or.inl rfl | exact Or.inr rfl)) (tg_one 3) (by decide) (fun _ _ _ _ _ => pdts_nil) (fun _ _ _ _ _ => (pd_callA D__law_kept ((ft.blk _ _ _ _ _ _).mono (by decide)) (by rfl) (pda_cons (pd_var (i := 0) rfl (by first | exact Or.inl rfl | exact Or.inr (Or.inl rfl) | exact Or.inr (Or.inr rfl))) (pda_cons (pd_var (i := 3) rfl (by first | exact Or.inl rfl | exact Or.inr (Or.inl rfl) | exact Or.inr (Or.inr rfl))) pda_nil))))) (blkOk_by rfl) (fun _ _ _ _ _ => pg_name (i := 5) sc__law_bound.nd rfl (by first | exact Or.inl rfl | exact Or.inr rfl)) (tg_one 5) (by decide) (fun _ _ _ _ _ => (pdts_one (pdt_cmp cmp_isnot (pd_var (i := 5) rfl (by first | exact Or.inl rfl | exact Or.inr (Or.inl rfl) | exact Or.inr (Or.inr rfl))) pd_non (by rfl)))) (fun _ _ _ _ _ => (pd_var (i := 5) rfl (by first | exact Or.inl rfl | exact Or.inr (Or.inl rfl) | exact Or.inr (Or.inr rfl)))))) pds_nil)
    (pds_cons (pds_if (pdt_cmp (cmp_ne ft.u) (pd_var (i := 2) rfl (by first | exact Or.inl rfl | exact Or.inr (Or.inl rfl) | exact Or.inr (Or.inr rfl))) (pd_lst pda_nil) (by rfl)) (pds_one (pds_ret (pd_ix (pd_var (i := 2) rfl (by first | exact Or.inl rfl | exact Or.inr (Or.inl rfl) | exact Or.inr (Or.inr rfl))) pd_int))) pds_nil)
    (pds_one (pds_ret (pd_callA D__law_more (ft.mono (by decide)) (by rfl) (pda_cons (pd_var (i := 0) rfl (by first | exact Or.inl rfl | exact Or.inr (Or.inl rfl) | exact Or.inr (Or.inr rfl))) (pda_cons (pd_lst (pda_cons (pd_tup (pda_cons pd_str (pda_cons (pd_ty ty_tuple (by rfl) Z.b_tuple rfl (pda_cons (pd_blt (blt_sortTu ft.u) (by rfl) Z.b_sorted rfl (pda_cons (pd_add (pd_ixK ft.u (pd_var (i := 0) rfl (by first | exact Or.inl rfl | exact Or.inr (Or.inl rfl) | exact Or.inr (Or.inr rfl))) pd_str) (pd_tup (pda_cons (pd_var (i := 1) rfl (by first | exact Or.inl rfl | exact Or.inr (Or.inl rfl) | exact Or.inr (Or.inr rfl))) pda_nil))) pda_nil)) pda_nil)) pda_nil))) pda_nil)) pda_nil)))))))))))
theorem ok_Cellar_lay {w : World} {T : Txt} {mg : Str → Option Value} {base : Heap} (Z : Facts T mg) (D__laid : Def P w T mg base 1 14 "_laid" ["shelves", "number", "room", "shelf"] f__laid) (N_Cellar__check_place : DefM P w T mg base 4 1 23 "_check_place" f_Cellar__check_place ways_Cellar__check_place) (N_Cellar__keep : DefM P w T mg base 2 1 21 "_keep" f_Cellar__keep ways_Cellar__keep) (M_Full : MkE P w T mg base 21 "Full" ["self", "room", "shelf"] ways_Full) (M_TooMany : MkE P w T mg base 17 "TooMany" ["self", "many", "most"] ways_TooMany) (l : LkD T 31 "lay" "Cellar.lay" st_Cellar_lay [.int 0, .int 0]) (me : Meth T.K (T.ca 1) "lay" (T.fa 31)) : DefM P w T mg base 5 1 31 "lay" f_Cellar_lay ways_Cellar_lay := by
  refine defM_of (c := 1) (nm := "lay") (m := m_Cellar_lay) (k := 4) (N := ["self", "bottle", "room", "shelf", "number"]) (ps := ["self", "bottle", "room", "shelf"]) (st := st_Cellar_lay) l me sc_Cellar_lay (fun fd F z hz => ?_) fun cdv A outer s H E xp ft po => ?_
  · skip
    rcases List.mem_cons.mp hz with hz | hz
    · subst hz
      refine bd_dfl (dds := [.int 0, .int 0]) gg_Cellar_lay_1_shelf_room F (by simp) (fun _ _ _ => .cons (.int 0) (.cons (.int 0) .nil)) (fun r d q => r.append (((q.drop 1).take 1).append ((q.drop 0).take 1))) (fun _ _ _ _ _ _ _ _ _ r d q => r.append (((q.drop 1).take 1).append ((q.drop 0).take 1))) (fun vs zs h1 h2 => by unfold gg_Cellar_lay_1_shelf_room; simp [h1, h2]) ?_
      intro Dv kV doc pm an cdv ct us its ws h1 h2 h3
      match us, its, ws, h1, h2, h3 with
      | [_, _], [_, _], [_, _], _, _, _ => exact ⟨_, rfl, rfl⟩
    exact absurd hz List.not_mem_nil
  · exact (pds_cons (pds_if (pdt_not (pdt_truth (pd_blt (blt_isi Z.own Z.isT) (by rfl) Z.b_isinstance rfl (pda_cons (pd_var (i := 1) rfl (by first | exact Or.inl rfl | exact Or.inr (Or.inl rfl) | exact Or.inr (Or.inr rfl))) (pda_cons (pd_cl (c := 0) Z.c_Bottle (by rfl)) pda_nil))))) (pds_one (pds_raise rfl ft.tk Z.e_NoBottle Z.c_NoBottle (by rfl))) pds_nil)
    (pds_cons (pds_drop (pd_methM Z.i_Cellar (by rw [Z.f_Cellar]; decide) N_Cellar__check_place List.mem_cons_self (ft.mono (by decide)) (pd_var (i := 0) rfl (by first | exact Or.inl rfl | exact Or.inr (Or.inl rfl) | exact Or.inr (Or.inr rfl))) (pda_cons (pd_var (i := 2) rfl (by first | exact Or.inl rfl | exact Or.inr (Or.inl rfl) | exact Or.inr (Or.inr rfl))) (pda_cons (pd_var (i := 3) rfl (by first | exact Or.inl rfl | exact Or.inr (Or.inl rfl) | exact Or.inr (Or.inr rfl))) pda_nil)) pdk_nil))
    (pds_cons (pds_if (pdt_cmp cmp_ge (pd_blt blt_len (by rfl) Z.b_len rfl (pda_cons (pd_ix (pd_ix (pd_fld (i := 3) Z.i_Cellar (by rw [Z.f_Cellar]; rfl) (pd_var (i := 0) rfl (by first | exact Or.inl rfl | exact Or.inr (Or.inl rfl) | exact Or.inr (Or.inr rfl)))) (pd_var (i := 2) rfl (by first | exact Or.inl rfl | exact Or.inr (Or.inl rfl) | exact Or.inr (Or.inr rfl)))) (pd_var (i := 3) rfl (by first | exact Or.inl rfl | exact Or.inr (Or.inl rfl) | exact Or.inr (Or.inr rfl)))) pda_nil)) (pd_fld (i := 1) Z.i_Cellar (by rw [Z.f_Cellar]; rfl) (pd_var (i := 0) rfl (by first | exact Or.inl rfl | exact Or.inr (Or.inl rfl) | exact Or.inr (Or.inr rfl)))) (by rfl)) (pds_one (pds_raiseE M_Full List.mem_cons_self (ft.mono (by decide)) rfl (by rw [Z.f_Full]; decide) Z.b1_Full Z.b2_Full (by rfl) (pda_cons (pd_var (i := 2) rfl (by first | exact Or.inl rfl | exact Or.inr (Or.inl rfl) | exact Or.inr (Or.inr rfl))) (pda_cons (pd_var (i := 3) rfl (by first | exact Or.inl rfl | exact Or.inr (Or.inl rfl) | exact Or.inr (Or.inr rfl))) pda_nil)) pdk_nil (by decide))) pds_nil)
    (pds_cons (pds_set (i := 4) sc_Cellar_lay.nd rfl (by first | exact Or.inl rfl | exact Or.inr rfl) (pd_blt blt_len (by rfl) Z.b_len rfl (pda_cons (pd_fld (i := 2) Z.i_Cellar (by rw [Z.f_Cellar]; rfl) (pd_var (i := 0) rfl (by first | exact Or.inl rfl | exact Or.inr (Or.inl rfl) | exact Or.inr (Or.inr rfl)))) pda_nil)))
    (pds_cons (pds_if (pdt_cmp cmp_ge (pd_var (i := 4) rfl (by first | exact Or.inl rfl | exact Or.inr (Or.inl rfl) | exact Or.inr (Or.inr rfl))) (pd_glE Z.g_MOST_BOTTLES (by rfl)) (by rfl)) (pds_one (pds_raiseE M_TooMany List.mem_cons_self (ft.mono (by decide)) rfl (by rw [Z.f_TooMany]; decide) Z.b1_TooMany Z.b2_TooMany (by rfl) (pda_cons (pd_add (pd_var (i := 4) rfl (by first | exact Or.inl rfl | exact Or.inr (Or.inl rfl) | exact Or.inr (Or.inr rfl))) pd_int) (pda_cons (pd_glE Z.g_MOST_BOTTLES (by rfl)) pda_nil)) pdk_nil (by decide))) pds_nil)
    (pds_cons (pds_drop (pd_methM0 Z.i_Cellar (by rw [Z.f_Cellar]; decide) N_Cellar__keep List.mem_cons_self (ft.mono (by decide)) (pd_var (i := 0) rfl (by first | exact Or.inl rfl | exact Or.inr (Or.inl rfl) | exact Or.inr (Or.inr rfl)))  pdk_nil))
    (pds_cons (pds_setF (i := 2) Z.i_Cellar (by rw [Z.f_Cellar]; rfl) (pd_var (i := 0) rfl (by first | exact Or.inl rfl | exact Or.inr (Or.inl rfl) | exact Or.inr (Or.inr rfl))) (pd_tup (pda_star (pd_fld (i := 2) Z.i_Cellar (by rw [Z.f_Cellar]; rfl) (pd_var (i := 0) rfl (by first | exact Or.inl rfl | exact Or.inr (Or.inl rfl) | exact Or.inr (Or.inr rfl)))) (pda_cons (pd_var (i := 1) rfl (by first | exact Or.inl rfl | exact Or.inr (Or.inl rfl) | exact Or.inr (Or.inr rfl))) pda_nil))))
    (pds_cons (pds_setF (i := 4) Z.i_Cellar (by rw [Z.f_Cellar]; rfl) (pd_var (i := 0) rfl (by first | exact Or.inl rfl | exact Or.inr (Or.inl rfl) | exact Or.inr (Or.inr rfl))) (pd_tup (pda_star (pd_fld (i := 4) Z.i_Cellar (by rw [Z.f_Cellar]; rfl) (pd_var (i := 0) rfl (by first | exact Or.inl rfl | exact Or.inr (Or.inl rfl) | exact Or.inr (Or.inr rfl)))) (pda_cons pd_non pda_nil))))
    (pds_cons (pds_setF (i := 5) Z.i_Cellar (by rw [Z.f_Cellar]; rfl) (pd_var (i := 0) rfl (by first | exact Or.inl rfl | exact Or.inr (Or.inl rfl) | exact Or.inr (Or.inr rfl))) (pd_tup (pda_star (pd_fld (i := 5) Z.i_Cellar (by rw [Z.f_Cellar]; rfl) (pd_var (i := 0) rfl (by first | exact Or.inl rfl | exact Or.inr (Or.inl rfl) | exact Or.inr (Or.inr rfl)))) (pda_cons (pd_tup pda_nil) pda_nil))))
    (pds_cons (pds_setF (i := 3) Z.i_Cellar (by rw [Z.f_Cellar]; rfl) (pd_var (i := 0) rfl (by first | exact Or.inl rfl | exact Or.inr (Or.inl rfl) | exact Or.inr (Or.inr rfl))) (pd_callA D__laid (ft.mono (by decide)) (by rfl) (pda_cons (pd_fld (i := 3) Z.i_Cellar (by rw [Z.f_Cellar]; rfl) (pd_var (i := 0) rfl (by first | exact Or.inl rfl | exact Or.inr (Or.inl rfl) | exact Or.inr (Or.inr rfl)))) (pda_cons (pd_var (i := 4) rfl (by first | exact Or.inl rfl | exact Or.inr (Or.inl rfl) | exact Or.inr (Or.inr rfl))) (pda_cons (pd_var (i := 2) rfl (by first | exact Or.inl rfl | exact Or.inr (Or.inl rfl) | exact Or.inr (Or.inr rfl))) (pda_cons (pd_var (i := 3) rfl (by first | exact Or.inl rfl | exact Or.inr (Or.inl rfl) | exact Or.inr (Or.inr rfl))) pda_nil))))))
    (pds_one (pds_ret (pd_var (i := 4) rfl (by first | exact Or.inl rfl | exact Or.inr (Or.inl rfl) | exact Or.inr (Or.inr rfl)))))))))))))))
theorem ok_Cellar_bind {w : World} {T : Txt} {mg : Str → Option Value} {base : Heap} (Z : Facts T mg) (D__put : Def P w T mg base 1 12 "_put" ["told", "numbers", "worth"] f__put) (D_is_rising : Def P w T mg base 2 6 "is_rising" ["thing", "least", "most"] f_is_rising) (N_Cellar__check_free : DefM P w T mg base 4 1 27 "_check_free" f_Cellar__check_free ways_Cellar__check_free) (N_Cellar__check_lies : DefM P w T mg base 5 1 25 "_check_lies" f_Cellar__check_lies ways_Cellar__check_lies) (N_Cellar__keep : DefM P w T mg base 2 1 21 "_keep" f_Cellar__keep ways_Cellar__keep) (l : LkD T 36 "bind" "Cellar.bind" st_Cellar_bind []) (me : Meth T.K (T.ca 1) "bind" (T.fa 36)) : DefM P w T mg base 6 1 36 "bind" f_Cellar_bind ways_Cellar_bind := by
  refine defM_of (c := 1) (nm := "bind") (m := m_Cellar_bind) (k := 5) (N := ["self", "numbers", "number"]) (ps := ["self", "numbers"]) (st := st_Cellar_bind) l me sc_Cellar_bind (fun fd F z hz => ?_) fun cdv A outer s H E xp ft po => ?_
  · skip
    rcases List.mem_cons.mp hz with hz | hz
    · subst hz
      refine bd_nod (g := fun {α} us ws => gg_Cellar_bind_1 us [] ws) F (fun r q => r) (fun _ _ _ _ _ _ _ r q => r) (fun vs zs h1 h2 => by unfold gg_Cellar_bind_1; simp [h1, h2]) ?_
      intro kV doc pm an cdv ct us ws h1 h3
      match us, ws, h1, h3 with
      | [_, _], [], _, _ => rfl
    exact absurd hz List.not_mem_nil
  · exact (pds_cons (pds_if (pdt_not (pdt_truth (pd_callA D_is_rising (ft.mono (by decide)) (by rfl) (pda_cons (pd_var (i := 1) rfl (by first | exact Or.inl rfl | exact Or.inr (Or.inl rfl) | exact Or.inr (Or.inr rfl))) (pda_cons pd_int (pda_cons pd_int pda_nil)))))) (pds_one (pds_raise rfl ft.tk Z.e_NoSet Z.c_NoSet (by rfl))) pds_nil)
    (pds_cons (pds_forS po rfl (pdi_tup (pd_var (i := 1) rfl (by first | exact Or.inl rfl | exact Or.inr (Or.inl rfl) | exact Or.inr (Or.inr rfl)))) (pg_name (i := 2) sc_Cellar_bind.nd rfl (by first | exact Or.inl rfl | exact Or.inr rfl)) (tg_one 2)
    (pds_one (pds_drop (pd_methM Z.i_Cellar (by rw [Z.f_Cellar]; decide) N_Cellar__check_lies List.mem_cons_self (ft.mono (by decide)) (pd_var (i := 0) rfl (by first | exact Or.inl rfl | exact Or.inr (Or.inl rfl) | exact Or.inr (Or.inr rfl))) (pda_cons (pd_var (i := 2) rfl (by first | exact Or.inl rfl | exact Or.inr (Or.inl rfl) | exact Or.inr (Or.inr rfl))) pda_nil) pdk_nil))))
    (pds_cons (pds_forS po rfl (pdi_tup (pd_var (i := 1) rfl (by first | exact Or.inl rfl | exact Or.inr (Or.inl rfl) | exact Or.inr (Or.inr rfl)))) (pg_name (i := 2) sc_Cellar_bind.nd rfl (by first | exact Or.inl rfl | exact Or.inr rfl)) (tg_one 2)
    (pds_one (pds_drop (pd_methM Z.i_Cellar (by rw [Z.f_Cellar]; decide) N_Cellar__check_free List.mem_cons_self (ft.mono (by decide)) (pd_var (i := 0) rfl (by first | exact Or.inl rfl | exact Or.inr (Or.inl rfl) | exact Or.inr (Or.inr rfl))) (pda_cons (pd_var (i := 2) rfl (by first | exact Or.inl rfl | exact Or.inr (Or.inl rfl) | exact Or.inr (Or.inr rfl))) pda_nil) pdk_nil))))
    (pds_cons (pds_drop (pd_methM0 Z.i_Cellar (by rw [Z.f_Cellar]; decide) N_Cellar__keep List.mem_cons_self (ft.mono (by decide)) (pd_var (i := 0) rfl (by first | exact Or.inl rfl | exact Or.inr (Or.inl rfl) | exact Or.inr (Or.inr rfl)))  pdk_nil))
    (pds_one (pds_setF (i := 5) Z.i_Cellar (by rw [Z.f_Cellar]; rfl) (pd_var (i := 0) rfl (by first | exact Or.inl rfl | exact Or.inr (Or.inl rfl) | exact Or.inr (Or.inr rfl))) (pd_callA D__put (ft.mono (by decide)) (by rfl) (pda_cons (pd_fld (i := 5) Z.i_Cellar (by rw [Z.f_Cellar]; rfl) (pd_var (i := 0) rfl (by first | exact Or.inl rfl | exact Or.inr (Or.inl rfl) | exact Or.inr (Or.inr rfl)))) (pda_cons (pd_var (i := 1) rfl (by first | exact Or.inl rfl | exact Or.inr (Or.inl rfl) | exact Or.inr (Or.inr rfl))) (pda_cons (pd_var (i := 1) rfl (by first | exact Or.inl rfl | exact Or.inr (Or.inl rfl) | exact Or.inr (Or.inr rfl))) pda_nil))))))))))
theorem ok_Cellar__leave {w : World} {T : Txt} {mg : Str → Option Value} {base : Heap} (Z : Facts T mg) (D__cleared : Def P w T mg base 1 13 "_cleared" ["shelves", "numbers"] f__cleared) (D__put : Def P w T mg base 1 12 "_put" ["told", "numbers", "worth"] f__put) (l : LkD T 29 "_leave" "Cellar._leave" st_Cellar__leave []) (me : Meth T.K (T.ca 1) "_leave" (T.fa 29)) : DefM P w T mg base 2 1 29 "_leave" f_Cellar__leave ways_Cellar__leave := by
  refine defM_of (c := 1) (nm := "_leave") (m := m_Cellar__leave) (k := 1) (N := ["self", "numbers", "fate"]) (ps := ["self", "numbers", "fate"]) (st := st_Cellar__leave) l me sc_Cellar__leave (fun fd F z hz => ?_) fun cdv A outer s H E xp ft po => ?_
  · skip
    rcases List.mem_cons.mp hz with hz | hz
    · subst hz
      refine bd_nod (g := fun {α} us ws => gg_Cellar__leave_2 us [] ws) F (fun r q => r) (fun _ _ _ _ _ _ _ r q => r) (fun vs zs h1 h2 => by unfold gg_Cellar__leave_2; simp [h1, h2]) ?_
      intro kV doc pm an cdv ct us ws h1 h3
      match us, ws, h1, h3 with
      | [_, _, _], [], _, _ => rfl
    exact absurd hz List.not_mem_nil
  · exact (pds_cons (pds_setF (i := 3) Z.i_Cellar (by rw [Z.f_Cellar]; rfl) (pd_var (i := 0) rfl (by first | exact Or.inl rfl | exact Or.inr (Or.inl rfl) | exact Or.inr (Or.inr rfl))) (pd_callA D__cleared (ft.mono (by decide)) (by rfl) (pda_cons (pd_fld (i := 3) Z.i_Cellar (by rw [Z.f_Cellar]; rfl) (pd_var (i := 0) rfl (by first | exact Or.inl rfl | exact Or.inr (Or.inl rfl) | exact Or.inr (Or.inr rfl)))) (pda_cons (pd_var (i := 1) rfl (by first | exact Or.inl rfl | exact Or.inr (Or.inl rfl) | exact Or.inr (Or.inr rfl))) pda_nil))))
    (pds_cons (pds_setF (i := 4) Z.i_Cellar (by rw [Z.f_Cellar]; rfl) (pd_var (i := 0) rfl (by first | exact Or.inl rfl | exact Or.inr (Or.inl rfl) | exact Or.inr (Or.inr rfl))) (pd_callA D__put (ft.mono (by decide)) (by rfl) (pda_cons (pd_fld (i := 4) Z.i_Cellar (by rw [Z.f_Cellar]; rfl) (pd_var (i := 0) rfl (by first | exact Or.inl rfl | exact Or.inr (Or.inl rfl) | exact Or.inr (Or.inr rfl)))) (pda_cons (pd_var (i := 1) rfl (by first | exact Or.inl rfl | exact Or.inr (Or.inl rfl) | exact Or.inr (Or.inr rfl))) (pda_cons (pd_var (i := 2) rfl (by first | exact Or.inl rfl | exact Or.inr (Or.inl rfl) | exact Or.inr (Or.inr rfl))) pda_nil)))))
    (pds_one (pds_setF (i := 5) Z.i_Cellar (by rw [Z.f_Cellar]; rfl) (pd_var (i := 0) rfl (by first | exact Or.inl rfl | exact Or.inr (Or.inl rfl) | exact Or.inr (Or.inr rfl))) (pd_callA D__put (ft.mono (by decide)) (by rfl) (pda_cons (pd_fld (i := 5) Z.i_Cellar (by rw [Z.f_Cellar]; rfl) (pd_var (i := 0) rfl (by first | exact Or.inl rfl | exact Or.inr (Or.inl rfl) | exact Or.inr (Or.inr rfl)))) (pda_cons (pd_var (i := 1) rfl (by first | exact Or.inl rfl | exact Or.inr (Or.inl rfl) | exact Or.inr (Or.inr rfl))) (pda_cons (pd_tup pda_nil) pda_nil))))))))
theorem ok_Cellar___str__ {w : World} {T : Txt} {mg : Str → Option Value} {base : Heap} (Z : Facts T mg) (D__row_text : Def P w T mg base 1 15 "_row_text" ["room", "shelf", "row"] f__row_text) (l : Lk T 17 "__str__" "Cellar.__str__" st_Cellar___str__) (me : Meth T.K (T.ca 1) "__str__" (T.fa 17)) : DefO P w T mg base 2 1 17 "__str__" 1 f_Cellar___str__ := by
  refine defO_of (c := 1) (nm := "__str__") (m := m_Cellar___str__) (k := 1) (N := ["self", "room", "shelf"]) (ps := ["self"]) (st := st_Cellar___str__) l me sc_Cellar___str__ (fun _ _ _ _ _ _ us hl => match us, hl with | [_], _ => rfl) fun cdv A outer s H E xp ft po => ?_
  exact (pds_one (pds_ret (pd_bm mt_joinD pd_str (pda_cons (pd_lc2 (own := [("room", 1), ("shelf", 2)]) (vs1 := [2]) rfl sc_Cellar___str__.nd (pdi_R1 (by rfl) Z.b_range (pda_cons (pd_blt blt_len (by rfl) Z.b_len rfl (pda_cons (pd_fld (i := 0) Z.i_Cellar (by rw [Z.f_Cellar]; rfl) (pd_var (i := 0) rfl (by first | exact Or.inl rfl | exact Or.inr (Or.inl rfl) | exact Or.inr (Or.inr rfl)))) pda_nil)) pda_nil)) (blkOk_by rfl) (by decide) (fun _ _ _ _ _ => pg_name (i := 1) sc_Cellar___str__.nd rfl (by first | exact Or.inl rfl | exact Or.inr rfl)) (tg_one 1) (by decide) (fun _ _ _ _ _ => pdts_nil) (fun _ _ _ _ _ => (pdi_R1 (by rfl) Z.b_range (pda_cons (pd_ix (pd_fld (i := 0) Z.i_Cellar (by rw [Z.f_Cellar]; rfl) (pd_var (i := 0) rfl (by first | exact Or.inl rfl | exact Or.inr (Or.inl rfl) | exact Or.inr (Or.inr rfl)))) (pd_var (i := 1) rfl (by first | exact Or.inl rfl | exact Or.inr (Or.inl rfl) | exact Or.inr (Or.inr rfl)))) pda_nil))) (fun _ _ _ _ _ => pg_name (i := 2) sc_Cellar___str__.nd rfl (by first | exact Or.inl rfl | exact Or.inr rfl)) (tg_one 2) (by decide) (fun _ _ _ _ _ => pdts_nil) (fun _ _ _ _ _ => (pd_callA D__row_text ((ft.blk _ _ _ _ _ _).mono (by decide)) (by rfl) (pda_cons (pd_var (i := 1) rfl (by first | exact Or.inl rfl | exact Or.inr (Or.inl rfl) | exact Or.inr (Or.inr rfl))) (pda_cons (pd_var (i := 2) rfl (by first | exact Or.inl rfl | exact Or.inr (Or.inl rfl) | exact Or.inr (Or.inr rfl))) (pda_cons (pd_ix (pd_ix (pd_fld (i := 3) Z.i_Cellar (by rw [Z.f_Cellar]; rfl) (pd_var (i := 0) rfl (by first | exact Or.inl rfl | exact Or.inr (Or.inl rfl) | exact Or.inr (Or.inr rfl)))) (pd_var (i := 1) rfl (by first | exact Or.inl rfl | exact Or.inr (Or.inl rfl) | exact Or.inr (Or.inr rfl)))) (pd_var (i := 2) rfl (by first | exact Or.inl rfl | exact Or.inr (Or.inl rfl) | exact Or.inr (Or.inr rfl)))) pda_nil)))))) pda_nil))))
theorem ok__law_pot {w : World} {T : Txt} {mg : Str → Option Value} {base : Heap} (Z : Facts T mg) (l : Lk T 48 "_law_pot" "_law_pot" st__law_pot) (hg : mg "_law_pot" = some (.ref (T.fa 48))) : Def P w T mg base 1 48 "_law_pot" ["_law_cell"] f__law_pot := by
  refine defD_of (m := m__law_pot) (k := 0) (N := ["_law_cell", "_law_token", "_law_j", "_law_more_here"]) (ps := ["_law_cell"]) (st := st__law_pot) l hg sc__law_pot (fun _ _ _ _ _ _ us hl => match us, hl with | [_], _ => rfl) fun cdv A outer s H E xp ft po => ?_
  exact (pds_cons (pds_if (pdt_cmp cmp_ge (pd_var (i := 0) rfl (by first | exact Or.inl rfl | exact Or.inr (Or.inl rfl) | exact Or.inr (Or.inr rfl))) (pd_pow pd_int pd_int) (by rfl)) (pds_one (pds_ret (pd_new (pda_cons (pd_sub (pd_var (i := 0) rfl (by first | exact Or.inl rfl | exact Or.inr (Or.inl rfl) | exact Or.inr (Or.inr rfl))) (pd_pow pd_int pd_int)) pda_nil)))) pds_nil)
    (pds_cons (pds_set (i := 1) sc__law_pot.nd rfl (by first | exact Or.inl rfl | exact Or.inr rfl) pd_int)
    (pds_cons (pds_forR1 po rfl (by rfl) Z.b_range (pda_cons pd_int pda_nil) (pg_name (i := 2) sc__law_pot.nd rfl (by first | exact Or.inl rfl | exact Or.inr rfl)) (tg_one 2)
    (pds_cons (pds_set (i := 3) sc__law_pot.nd rfl (by first | exact Or.inl rfl | exact Or.inr rfl) (pd_mod (pd_mulA (pd_add (pd_add (pd_mod (pd_var (i := 0) rfl (by first | exact Or.inl rfl | exact Or.inr (Or.inl rfl) | exact Or.inr (Or.inr rfl))) pd_int) (pd_mulA pd_int (pd_var (i := 2) rfl (by first | exact Or.inl rfl | exact Or.inr (Or.inl rfl) | exact Or.inr (Or.inr rfl))))) pd_int) pd_int) pd_int))
    (pds_cons (pds_set (i := 3) sc__law_pot.nd rfl (by first | exact Or.inl rfl | exact Or.inr rfl) (pd_mod (pd_add (pd_add (pd_mulA (pd_var (i := 3) rfl (by first | exact Or.inl rfl | exact Or.inr (Or.inl rfl) | exact Or.inr (Or.inr rfl))) (pd_var (i := 3) rfl (by first | exact Or.inl rfl | exact Or.inr (Or.inl rfl) | exact Or.inr (Or.inr rfl)))) (pd_mulA pd_int (pd_var (i := 2) rfl (by first | exact Or.inl rfl | exact Or.inr (Or.inl rfl) | exact Or.inr (Or.inr rfl))))) pd_int) pd_int))
    (pds_one (pds_set (i := 1) sc__law_pot.nd rfl (by first | exact Or.inl rfl | exact Or.inr rfl) (pd_add (pd_mulA (pd_var (i := 1) rfl (by first | exact Or.inl rfl | exact Or.inr (Or.inl rfl) | exact Or.inr (Or.inr rfl))) pd_int) (pd_var (i := 3) rfl (by first | exact Or.inl rfl | exact Or.inr (Or.inl rfl) | exact Or.inr (Or.inr rfl)))))))))
    (pds_one (pds_ret (pd_new (pda_cons (pd_var (i := 1) rfl (by first | exact Or.inl rfl | exact Or.inr (Or.inl rfl) | exact Or.inr (Or.inr rfl))) pda_nil)))))))
theorem ok_Full {w : World} {T : Txt} {mg : Str → Option Value} {base : Heap} (Z : Facts T mg) (lk : ∃ fd, FunD T.K "__init__" "Full.__init__" (defArgs st_Full) (defBody st_Full) (defScope st_Full) [] [] (T.fa 81) fd)
    (hi : PySem.W.findIn T.K (.ref (T.ca 21)) "__init__" = some (some (.ref (T.fa 81)))) (hf : PySem.W.typeIn T.K (.ref (T.fa 81)) = some (.type "function")) : MkE P w T mg base 21 "Full" ["self", "room", "shelf"] ways_Full := by
  obtain ⟨fd, F⟩ := lk
  refine ⟨⟨T.fa 81, fd, _, _, _, _, PySem.F.excBase_LookupError, Z.i_Full, hi, hf, ?_, ?_⟩, by rw [Z.f_Full]; decide, by rw [Z.f_Full]; decide +kernel, by rw [Z.f_Full]; rfl, Z.c_Full⟩
  · refine init_fill (c := 21) (N := ["self", "room", "shelf"]) F sc_Full (by rw [Z.f_Full]; rfl) (by rw [Z.f_Full]; simp) (by rw [Z.f_Full]; decide) fun cdv A outer s H E a ws hl => ?_
    rw [Z.f_Full] at hl ⊢
    match ws, hl with
    | [y0, y1], _ => exact (pss_fill (i := 1) ⟨_, _, _, PySem.F.store_LookupError, Z.i_Full, Z.n_Full _ (by simp)⟩ rfl (by first | exact Or.inl rfl | exact Or.inr (Or.inl rfl) | exact Or.inr (Or.inr rfl)) rfl (by first | exact Or.inl rfl | exact Or.inr (Or.inl rfl) | exact Or.inr (Or.inr rfl)) rfl rfl (pss_fill (i := 2) ⟨_, _, _, PySem.F.store_LookupError, Z.i_Full, Z.n_Full _ (by simp)⟩ rfl (by first | exact Or.inl rfl | exact Or.inr (Or.inl rfl) | exact Or.inr (Or.inr rfl)) rfl (by first | exact Or.inl rfl | exact Or.inr (Or.inl rfl) | exact Or.inr (Or.inr rfl)) rfl rfl pss_fill0))
  · intro z hz
    rcases List.mem_cons.mp hz with hz | hz
    · subst hz
      refine bdE_no ge_Full_2 F (fun r d q => r) (fun _ _ _ {_ _ _ _ _ _} r d q => r) (fun vs zs h1 h2 => by unfold ge_Full_2; simp [h1, h2]) ?_
      intro kV doc pm an cdv ct self us ws h1 h2
      match us, ws, h1, h2 with
      | [_, _], [], _, _ => rfl
    exact absurd hz List.not_mem_nil
theorem ok_Cellar__now {w : World} {T : Txt} {mg : Str → Option Value} {base : Heap} (Z : Facts T mg) (l : LkD T 20 "_now" "Cellar._now" st_Cellar__now []) (me : Meth T.K (T.ca 1) "_now" (T.fa 20)) : DefM P w T mg base 1 1 20 "_now" f_Cellar__now ways_Cellar__now := by
  refine defM_of (c := 1) (nm := "_now") (m := m_Cellar__now) (k := 0) (N := ["self"]) (ps := ["self"]) (st := st_Cellar__now) l me sc_Cellar__now (fun fd F z hz => ?_) fun cdv A outer s H E xp ft po => ?_
  · skip
    rcases List.mem_cons.mp hz with hz | hz
    · subst hz
      refine bd_nod (g := fun {α} us ws => gg_Cellar__now_0 us [] ws) F (fun r q => r) (fun _ _ _ _ _ _ _ r q => r) (fun vs zs h1 h2 => by unfold gg_Cellar__now_0; simp [h1, h2]) ?_
      intro kV doc pm an cdv ct us ws h1 h3
      match us, ws, h1, h3 with
      | [_], [], _, _ => rfl
    exact absurd hz List.not_mem_nil
  · exact (pds_one (pds_ret (pd_tup (pda_cons (pd_fld (i := 2) Z.i_Cellar (by rw [Z.f_Cellar]; rfl) (pd_var (i := 0) rfl (by first | exact Or.inl rfl | exact Or.inr (Or.inl rfl) | exact Or.inr (Or.inr rfl)))) (pda_cons (pd_fld (i := 3) Z.i_Cellar (by rw [Z.f_Cellar]; rfl) (pd_var (i := 0) rfl (by first | exact Or.inl rfl | exact Or.inr (Or.inl rfl) | exact Or.inr (Or.inr rfl)))) (pda_cons (pd_fld (i := 4) Z.i_Cellar (by rw [Z.f_Cellar]; rfl) (pd_var (i := 0) rfl (by first | exact Or.inl rfl | exact Or.inr (Or.inl rfl) | exact Or.inr (Or.inr rfl)))) (pda_cons (pd_fld (i := 5) Z.i_Cellar (by rw [Z.f_Cellar]; rfl) (pd_var (i := 0) rfl (by first | exact Or.inl rfl | exact Or.inr (Or.inl rfl) | exact Or.inr (Or.inr rfl)))) pda_nil)))))))
theorem ok_Cellar__keep {w : World} {T : Txt} {mg : Str → Option Value} {base : Heap} (Z : Facts T mg) (N_Cellar__now : DefM P w T mg base 1 1 20 "_now" f_Cellar__now ways_Cellar__now) (l : LkD T 21 "_keep" "Cellar._keep" st_Cellar__keep []) (me : Meth T.K (T.ca 1) "_keep" (T.fa 21)) : DefM P w T mg base 2 1 21 "_keep" f_Cellar__keep ways_Cellar__keep := by
  refine defM_of (c := 1) (nm := "_keep") (m := m_Cellar__keep) (k := 1) (N := ["self"]) (ps := ["self"]) (st := st_Cellar__keep) l me sc_Cellar__keep (fun fd F z hz => ?_) fun cdv A outer s H E xp ft po => ?_
  · skip
    rcases List.mem_cons.mp hz with hz | hz
    · subst hz
      refine bd_nod (g := fun {α} us ws => gg_Cellar__keep_0 us [] ws) F (fun r q => r) (fun _ _ _ _ _ _ _ r q => r) (fun vs zs h1 h2 => by unfold gg_Cellar__keep_0; simp [h1, h2]) ?_
      intro kV doc pm an cdv ct us ws h1 h3
      match us, ws, h1, h3 with
      | [_], [], _, _ => rfl
    exact absurd hz List.not_mem_nil
  · exact (pds_one (pds_drop (pd_bm mt_app (pd_fld (i := 6) Z.i_Cellar (by rw [Z.f_Cellar]; rfl) (pd_var (i := 0) rfl (by first | exact Or.inl rfl | exact Or.inr (Or.inl rfl) | exact Or.inr (Or.inr rfl)))) (pda_cons (pd_methM0 Z.i_Cellar (by rw [Z.f_Cellar]; decide) N_Cellar__now List.mem_cons_self (ft.mono (by decide)) (pd_var (i := 0) rfl (by first | exact Or.inl rfl | exact Or.inr (Or.inl rfl) | exact Or.inr (Or.inr rfl)))  pdk_nil) pda_nil))))
theorem ok_is_within {w : World} {T : Txt} {mg : Str → Option Value} {base : Heap} (Z : Facts T mg) (D_is_whole : Def P w T mg base 1 0 "is_whole" ["thing"] f_is_whole) (l : Lk T 1 "is_within" "is_within" st_is_within) (hg : mg "is_within" = some (.ref (T.fa 1))) : Def P w T mg base 2 1 "is_within" ["thing", "least", "most"] f_is_within := by
  refine defD_of (m := m_is_within) (k := 1) (N := ["thing", "least", "most"]) (ps := ["thing", "least", "most"]) (st := st_is_within) l hg sc_is_within (fun _ _ _ _ _ _ us hl => match us, hl with | [_, _, _], _ => rfl) fun cdv A outer s H E xp ft po => ?_
  exact (pds_one (pds_ret (pd_and (pd_callA D_is_whole (ft.mono (by decide)) (by rfl) (pda_cons (pd_var (i := 0) rfl (by first | exact Or.inl rfl | exact Or.inr (Or.inl rfl) | exact Or.inr (Or.inr rfl))) pda_nil)) (pd_last (pd_chain cmp_le cmp_le (pd_var (i := 1) rfl (by first | exact Or.inl rfl | exact Or.inr (Or.inl rfl) | exact Or.inr (Or.inr rfl))) (pd_var (i := 0) rfl (by first | exact Or.inl rfl | exact Or.inr (Or.inl rfl) | exact Or.inr (Or.inr rfl))) (pd_var (i := 2) rfl (by first | exact Or.inl rfl | exact Or.inr (Or.inl rfl) | exact Or.inr (Or.inr rfl))))))))
end K11
set_option maxRecDepth 100000
set_option maxHeartbeats 4000000
namespace K11
open PySem PySem.Spec PyProof.Rows L2 Den Cel
theorem all {w : World} {K : PySem.W.Frag} {h : Heap} {mg : Str → Option Value} {fa : Addr} (X : K.In h) (G : h.Ns mainGlobals mg) (hfa : mg "law" = some (.ref fa)) (ck : SaysZ zMore zFa zFn K) :
    ∃ (T : Txt) (fd : FuncData) (m : DF), T.K.In h ∧ (∀ (s : Shared) (u : Value), BindsTo s fd ⟨[u], []⟩ [("_law_script", u)]) ∧ (∀ ns : List Int, ns.length ≤ 63 → ∃ st, m [.ro (ns.map D.int)] [] = .ok (.bl true) st) ∧
        ∀ base : Heap, T.K.In base → base.Ns mainGlobals mg → FnG P w T.K mg base 14 fa fd ["_law_script"] (spM T 1 m) := by
  have A := ck.d
  have gl : mg "law" = some (.ref (He.ga K "law")) := He.glo_ok X G (A.fact 103 (f := .glo "law") rfl)
  have e' : He.ga K "law" = fa := by
    have e := hfa.symm.trans gl
    cases e; rfl
  subst e'
  have m0 : zMore K = true := ck.more
  unfold zMore at m0
  obtain ⟨m0, teE⟩ := and2 m0
  obtain ⟨m0, t_SIZES⟩ := and2 m0
  obtain ⟨m0, nv_Bottle⟩ := and2 m0
  obtain ⟨nf_Bottle, nw_Bottle⟩ := and2 nv_Bottle
  obtain ⟨ne_Bottle, ob_Bottle⟩ := and2 nw_Bottle
  obtain ⟨g1, g2, g3, g4, g5, g6⟩ := chk_ok (w := w) (fs := zF K) m0
  have cD_Bottle : ClsD (txt w K (zC K) (zF K)) 0 := ⟨He.cls_ok (A.fact 130 (f := .cls "Bottle") rfl), (fun f hf => by
      rcases List.mem_cons.mp hf with h1 | hf
      · rw [h1]; exact He.noat_ok (A.fact 132 (f := .noat "Bottle" "maker") rfl)
      rcases List.mem_cons.mp hf with h1 | hf
      · rw [h1]; exact He.noat_ok (A.fact 133 (f := .noat "Bottle" "year") rfl)
      rcases List.mem_cons.mp hf with h1 | hf
      · rw [h1]; exact He.noat_ok (A.fact 134 (f := .noat "Bottle" "size") rfl)
      exact absurd hf List.not_mem_nil), (show ([("maker" : Str), "year", "size"]).Nodup by decide +kernel), (show 3 < 900 by decide)⟩
  have mk_Bottle : Mk K (He.ga K "Bottle") (He.ma K (He.ga K "Bottle") "__init__") := He.mkr_ok (A.fact 131 (f := .mkr "Bottle") rfl)
  have cD_Cellar : ClsD (txt w K (zC K) (zF K)) 1 := ⟨He.cls_ok (A.fact 135 (f := .cls "Cellar") rfl), (fun f hf => by
      rcases List.mem_cons.mp hf with h1 | hf
      · rw [h1]; exact He.noat_ok (A.fact 137 (f := .noat "Cellar" "_rooms") rfl)
      rcases List.mem_cons.mp hf with h1 | hf
      · rw [h1]; exact He.noat_ok (A.fact 138 (f := .noat "Cellar" "_hold") rfl)
      rcases List.mem_cons.mp hf with h1 | hf
      · rw [h1]; exact He.noat_ok (A.fact 139 (f := .noat "Cellar" "_bottles") rfl)
      rcases List.mem_cons.mp hf with h1 | hf
      · rw [h1]; exact He.noat_ok (A.fact 140 (f := .noat "Cellar" "_shelves") rfl)
      rcases List.mem_cons.mp hf with h1 | hf
      · rw [h1]; exact He.noat_ok (A.fact 141 (f := .noat "Cellar" "_fates") rfl)
      rcases List.mem_cons.mp hf with h1 | hf
      · rw [h1]; exact He.noat_ok (A.fact 142 (f := .noat "Cellar" "_sets") rfl)
      rcases List.mem_cons.mp hf with h1 | hf
      · rw [h1]; exact He.noat_ok (A.fact 143 (f := .noat "Cellar" "_past") rfl)
      exact absurd hf List.not_mem_nil), (show ([("_rooms" : Str), "_hold", "_bottles", "_shelves", "_fates", "_sets", "_past"]).Nodup by decide +kernel), (show 7 < 900 by decide)⟩
  have mk_Cellar : Mk K (He.ga K "Cellar") (He.ma K (He.ga K "Cellar") "__init__") := He.mkr_ok (A.fact 136 (f := .mkr "Cellar") rfl)
  have w_TooMany := g4 (17, (["many", "most"] : List Str), true) (by simp [errW])
  have w_Full := g4 (21, (["room", "shelf"] : List Str), false) (by simp [errW])
  have w_Gone := g4 (22, (["number", "fate"] : List Str), false) (by simp [errW])
  have w_Kept := g4 (23, (["number", "others"] : List Str), false) (by simp [errW])
  have Z : Facts (txt w K (zC K) (zF K)) mg := {
    isT := g1
    isTE := isTab_ok fun q hq => by
      rw [tag_eq, tag_eq]
      exact eq_of_beq (List.all_eq_true.mp teE q hq)
    own := fun c hc => by
      rcases List.mem_cons.mp hc with h1 | hc
      · rw [h1]; exact own_k (g6 0 (by simp [ownL])) cD_Bottle
      rcases List.mem_cons.mp hc with h1 | hc
      · rw [h1]; exact own_k (g6 1 (by simp [ownL])) cD_Cellar
      exact absurd hc List.not_mem_nil
    held := g2
    k_CellarError_HereError := fun c b e => (g5 c (by unfold cth_CellarError_HereError at e; split at e <;> first | assumption | cases e)).trans e
    i_Bottle := cD_Bottle
    f_Bottle := rfl
    i_Cellar := cD_Cellar
    f_Cellar := rfl
    nf_Bottle := fun t ht => by
      have z := List.all_eq_true.mp nf_Bottle t (of_decide_eq_true ht)
      rw [tag_eq]
      exact z
    ne_Bottle := eq_of_beq ne_Bottle
    ob_Bottle := eq_of_beq ob_Bottle
    g_USUAL_SIZE := (He.int_ok X G (A.fact 127 (f := .int "USUAL_SIZE" 75) rfl)).elim fun t e => ⟨.int 75, .int 75 t, ⟨fun xp G ι => .int _⟩, ⟨_, rfl⟩, e⟩
    g_MONTHS := (He.int_ok X G (A.fact 128 (f := .int "MONTHS" 1000) rfl)).elim fun t e => ⟨.int 1000, .int 1000 t, ⟨fun xp G ι => .int _⟩, ⟨_, rfl⟩, e⟩
    g_MOST_BOTTLES := (He.int_ok X G (A.fact 129 (f := .int "MOST_BOTTLES" 40) rfl)).elim fun t e => ⟨.int 40, .int 40 t, ⟨fun xp G ι => .int _⟩, ⟨_, rfl⟩, e⟩
    g_SIZES := ⟨.ref (He.ga K "SIZES"), .ref (He.ga K "SIZES"), ⟨fun xp G' ι => .tup (tupN_ok t_SIZES G') (.cons (.int _) (.cons (.int _) (.cons (.int _) .nil)))⟩, rfl, He.glo_ok X G (A.fact 126 (f := .glo "SIZES") rfl)⟩
    e_NoMaker := g3 2 (by decide)
    e_NoYear := g3 3 (by decide)
    e_NoSize := g3 4 (by decide)
    e_NoBottle := g3 5 (by decide)
    e_NoRooms := g3 7 (by decide)
    e_NoHold := g3 8 (by decide)
    e_NoPlace := g3 16 (by decide)
    e_NoNumber := g3 15 (by decide)
    e_NoMonth := g3 9 (by decide)
    e_NoWho := g3 10 (by decide)
    e_NoSet := g3 11 (by decide)
    e_NoDeed := g3 12 (by decide)
    f_TooMany := rfl
    r_TooMany := errF_of (g2 17 (by decide)) w_TooMany.1 w_TooMany.2.1
    i_TooMany := w_TooMany.1
    n_TooMany := w_TooMany.2.1
    b1_TooMany := (g2 17 (by decide)).hs
    b2_TooMany := w_TooMany.2.2
    f_Full := rfl
    r_Full := errF_of (g2 21 (by decide)) w_Full.1 w_Full.2.1
    i_Full := w_Full.1
    n_Full := w_Full.2.1
    b1_Full := (g2 21 (by decide)).hs
    b2_Full := w_Full.2.2
    f_Gone := rfl
    r_Gone := errF_of (g2 22 (by decide)) w_Gone.1 w_Gone.2.1
    i_Gone := w_Gone.1
    n_Gone := w_Gone.2.1
    b1_Gone := (g2 22 (by decide)).hs
    b2_Gone := w_Gone.2.2
    f_Kept := rfl
    r_Kept := errF_of (g2 23 (by decide)) w_Kept.1 w_Kept.2.1
    i_Kept := w_Kept.1
    n_Kept := w_Kept.2.1
    b1_Kept := (g2 23 (by decide)).hs
    b2_Kept := w_Kept.2.2
    b_int := He.free_ok X G (A.fact 108 (f := .free "int") rfl)
    b_bool := He.free_ok X G (A.fact 109 (f := .free "bool") rfl)
    b_str := He.free_ok X G (A.fact 110 (f := .free "str") rfl)
    b_list := He.free_ok X G (A.fact 111 (f := .free "list") rfl)
    b_tuple := He.free_ok X G (A.fact 112 (f := .free "tuple") rfl)
    b_isinstance := He.free_ok X G (A.fact 113 (f := .free "isinstance") rfl)
    b_len := He.free_ok X G (A.fact 114 (f := .free "len") rfl)
    b_all := He.free_ok X G (A.fact 115 (f := .free "all") rfl)
    b_any := He.free_ok X G (A.fact 116 (f := .free "any") rfl)
    b_max := He.free_ok X G (A.fact 117 (f := .free "max") rfl)
    b_min := He.free_ok X G (A.fact 118 (f := .free "min") rfl)
    b_range := He.free_ok X G (A.fact 119 (f := .free "range") rfl)
    b_repr := He.free_ok X G (A.fact 120 (f := .free "repr") rfl)
    b_sorted := He.free_ok X G (A.fact 121 (f := .free "sorted") rfl)
    b_enumerate := He.free_ok X G (A.fact 122 (f := .free "enumerate") rfl)
    b_dict := He.free_ok X G (A.fact 123 (f := .free "dict") rfl)
    b_ValueError := He.free_ok X G (A.fact 124 (f := .free "ValueError") rfl)
    b_LookupError := He.free_ok X G (A.fact 125 (f := .free "LookupError") rfl)
    c_Bottle := He.glo_ok X G (A.fact 0 (f := .glo "Bottle") rfl)
    c_Cellar := He.glo_ok X G (A.fact 1 (f := .glo "Cellar") rfl)
    c_NoMaker := He.glo_ok X G (A.fact 2 (f := .glo "NoMaker") rfl)
    c_NoYear := He.glo_ok X G (A.fact 3 (f := .glo "NoYear") rfl)
    c_NoSize := He.glo_ok X G (A.fact 4 (f := .glo "NoSize") rfl)
    c_NoBottle := He.glo_ok X G (A.fact 5 (f := .glo "NoBottle") rfl)
    c_NoBottles := He.glo_ok X G (A.fact 6 (f := .glo "NoBottles") rfl)
    c_NoRooms := He.glo_ok X G (A.fact 7 (f := .glo "NoRooms") rfl)
    c_NoHold := He.glo_ok X G (A.fact 8 (f := .glo "NoHold") rfl)
    c_NoMonth := He.glo_ok X G (A.fact 9 (f := .glo "NoMonth") rfl)
    c_NoWho := He.glo_ok X G (A.fact 10 (f := .glo "NoWho") rfl)
    c_NoSet := He.glo_ok X G (A.fact 11 (f := .glo "NoSet") rfl)
    c_NoDeed := He.glo_ok X G (A.fact 12 (f := .glo "NoDeed") rfl)
    c_NoWishes := He.glo_ok X G (A.fact 13 (f := .glo "NoWishes") rfl)
    c_NoLine := He.glo_ok X G (A.fact 14 (f := .glo "NoLine") rfl)
    c_NoNumber := He.glo_ok X G (A.fact 15 (f := .glo "NoNumber") rfl)
    c_NoPlace := He.glo_ok X G (A.fact 16 (f := .glo "NoPlace") rfl)
    c_TooMany := He.glo_ok X G (A.fact 17 (f := .glo "TooMany") rfl)
    c_NoText := He.glo_ok X G (A.fact 18 (f := .glo "NoText") rfl)
    c_CellarError := He.glo_ok X G (A.fact 19 (f := .glo "CellarError") rfl)
    c_HereError := He.glo_ok X G (A.fact 20 (f := .glo "HereError") rfl)
    c_Full := He.glo_ok X G (A.fact 21 (f := .glo "Full") rfl)
    c_Gone := He.glo_ok X G (A.fact 22 (f := .glo "Gone") rfl)
    c_Kept := He.glo_ok X G (A.fact 23 (f := .glo "Kept") rfl) }
  obtain ⟨fdL, F79⟩ := A.def_ 79 (d := ⟨("law", none), "law", "law", defArgs st_law, defBody st_law, defScope st_law, [], []⟩) rfl
  have FL := fun_ofD (st := st_law) F79
  have bl := binds_ofD (st := st_law) (ps := ["_law_script"]) F79 fun _ _ _ _ _ _ us hl => match us, hl with | [_], _ => rfl
  refine ⟨txt w K (zC K) (zF K), fdL, f_law, X, fun s u => bl s [u] rfl, mirror, fun base _ _ => ?_⟩
  obtain ⟨fd80, F80⟩ := A.def_ 80 (d := ⟨("TooMany", some "__init__"), "__init__", "TooMany.__init__", defArgs st_TooMany, defBody st_TooMany, defScope st_TooMany, [], []⟩) rfl
  have t80 := He.meth_ok (A.fact 104 (f := .meth "TooMany" "__init__") rfl)
  have M_TooMany := ok_TooMany (w := w) (mg := mg) (base := base) Z ⟨_, F80⟩ t80.at_ (eq_of_beq t80.fn)
  obtain ⟨fd81, F81⟩ := A.def_ 81 (d := ⟨("Full", some "__init__"), "__init__", "Full.__init__", defArgs st_Full, defBody st_Full, defScope st_Full, [], []⟩) rfl
  have t81 := He.meth_ok (A.fact 105 (f := .meth "Full" "__init__") rfl)
  have M_Full := ok_Full (w := w) (mg := mg) (base := base) Z ⟨_, F81⟩ t81.at_ (eq_of_beq t81.fn)
  obtain ⟨fd82, F82⟩ := A.def_ 82 (d := ⟨("Gone", some "__init__"), "__init__", "Gone.__init__", defArgs st_Gone, defBody st_Gone, defScope st_Gone, [], []⟩) rfl
  have t82 := He.meth_ok (A.fact 106 (f := .meth "Gone" "__init__") rfl)
  have M_Gone := ok_Gone (w := w) (mg := mg) (base := base) Z ⟨_, F82⟩ t82.at_ (eq_of_beq t82.fn)
  obtain ⟨fd83, F83⟩ := A.def_ 83 (d := ⟨("Kept", some "__init__"), "__init__", "Kept.__init__", defArgs st_Kept, defBody st_Kept, defScope st_Kept, [], []⟩) rfl
  have t83 := He.meth_ok (A.fact 107 (f := .meth "Kept" "__init__") rfl)
  have M_Kept := ok_Kept (w := w) (mg := mg) (base := base) Z ⟨_, F83⟩ t83.at_ (eq_of_beq t83.fn)
  obtain ⟨fd0, F0⟩ := A.def_ 0 (d := ⟨("is_whole", none), "is_whole", "is_whole", defArgs st_is_whole, defBody st_is_whole, defScope st_is_whole, [], []⟩) rfl
  have t0 := He.glo_ok X G (A.fact 24 (f := .glo "is_whole") rfl)
  have D_is_whole := ok_is_whole (w := w) (base := base) Z  ⟨⟨_, fun_ofD (st := st_is_whole) F0⟩⟩ t0
  obtain ⟨fd1, F1⟩ := A.def_ 1 (d := ⟨("is_within", none), "is_within", "is_within", defArgs st_is_within, defBody st_is_within, defScope st_is_within, [], []⟩) rfl
  have t1 := He.glo_ok X G (A.fact 25 (f := .glo "is_within") rfl)
  have D_is_within := ok_is_within (w := w) (base := base) Z D_is_whole ⟨⟨_, fun_ofD (st := st_is_within) F1⟩⟩ t1
  obtain ⟨fd2, F2⟩ := A.def_ 2 (d := ⟨("is_month", none), "is_month", "is_month", defArgs st_is_month, defBody st_is_month, defScope st_is_month, [], []⟩) rfl
  have t2 := He.glo_ok X G (A.fact 26 (f := .glo "is_month") rfl)
  have D_is_month := ok_is_month (w := w) (base := base) Z D_is_within ⟨⟨_, fun_ofD (st := st_is_month) F2⟩⟩ t2
  obtain ⟨fd3, F3⟩ := A.def_ 3 (d := ⟨("is_year", none), "is_year", "is_year", defArgs st_is_year, defBody st_is_year, defScope st_is_year, [], []⟩) rfl
  have t3 := He.glo_ok X G (A.fact 27 (f := .glo "is_year") rfl)
  have D_is_year := ok_is_year (w := w) (base := base) Z D_is_within ⟨⟨_, fun_ofD (st := st_is_year) F3⟩⟩ t3
  obtain ⟨fd4, F4⟩ := A.def_ 4 (d := ⟨("is_word", none), "is_word", "is_word", defArgs st_is_word, defBody st_is_word, defScope st_is_word, [], []⟩) rfl
  have t4 := He.glo_ok X G (A.fact 28 (f := .glo "is_word") rfl)
  have D_is_word := ok_is_word (w := w) (base := base) Z  ⟨⟨_, fun_ofD (st := st_is_word) F4⟩⟩ t4
  obtain ⟨fd5, F5⟩ := A.def_ 5 (d := ⟨("is_maker", none), "is_maker", "is_maker", defArgs st_is_maker, defBody st_is_maker, defScope st_is_maker, [], []⟩) rfl
  have t5 := He.glo_ok X G (A.fact 29 (f := .glo "is_maker") rfl)
  have D_is_maker := ok_is_maker (w := w) (base := base) Z D_is_word ⟨⟨_, fun_ofD (st := st_is_maker) F5⟩⟩ t5
  obtain ⟨fd6, F6⟩ := A.def_ 6 (d := ⟨("is_rising", none), "is_rising", "is_rising", defArgs st_is_rising, defBody st_is_rising, defScope st_is_rising, [], []⟩) rfl
  have t6 := He.glo_ok X G (A.fact 30 (f := .glo "is_rising") rfl)
  have D_is_rising := ok_is_rising (w := w) (base := base) Z D_is_whole ⟨⟨_, fun_ofD (st := st_is_rising) F6⟩⟩ t6
  obtain ⟨fd7, F7⟩ := A.def_ 7 (d := ⟨("is_size", none), "is_size", "is_size", defArgs st_is_size, defBody st_is_size, defScope st_is_size, [], []⟩) rfl
  have t7 := He.glo_ok X G (A.fact 31 (f := .glo "is_size") rfl)
  have D_is_size := ok_is_size (w := w) (base := base) Z D_is_whole ⟨⟨_, fun_ofD (st := st_is_size) F7⟩⟩ t7
  obtain ⟨fd8, F8⟩ := A.def_ 8 (d := ⟨("Bottle", some "__init__"), "__init__", "Bottle.__init__", defArgs st_Bottle, defBody st_Bottle, defScope st_Bottle, [.int 75], []⟩) rfl
  have t8 := He.meth_ok (A.fact 32 (f := .meth "Bottle" "__init__") rfl)
  have MB_Bottle := ok_Bottle (w := w) (base := base) Z D_is_maker D_is_size D_is_year mk_Bottle ⟨_, F8⟩
  obtain ⟨fd9, F9⟩ := A.def_ 9 (d := ⟨("Bottle", some "__eq__"), "__eq__", "Bottle.__eq__", defArgs st_Bottle___eq__, defBody st_Bottle___eq__, defScope st_Bottle___eq__, [], []⟩) rfl
  have t9 := He.meth_ok (A.fact 33 (f := .meth "Bottle" "__eq__") rfl)
  have O_Bottle___eq__ := ok_Bottle___eq__ (w := w) (mg := mg) (base := base) Z  ⟨⟨_, fun_ofD (st := st_Bottle___eq__) F9⟩⟩ t9
  obtain ⟨fd10, F10⟩ := A.def_ 10 (d := ⟨("_are_rooms", none), "_are_rooms", "_are_rooms", defArgs st__are_rooms, defBody st__are_rooms, defScope st__are_rooms, [], []⟩) rfl
  have t10 := He.glo_ok X G (A.fact 34 (f := .glo "_are_rooms") rfl)
  have D__are_rooms := ok__are_rooms (w := w) (base := base) Z D_is_within ⟨⟨_, fun_ofD (st := st__are_rooms) F10⟩⟩ t10
  obtain ⟨fd11, F11⟩ := A.def_ 11 (d := ⟨("_check_when_and_who", none), "_check_when_and_who", "_check_when_and_who", defArgs st__check_when_and_who, defBody st__check_when_and_who, defScope st__check_when_and_who, [], []⟩) rfl
  have t11 := He.glo_ok X G (A.fact 35 (f := .glo "_check_when_and_who") rfl)
  have D__check_when_and_who := ok__check_when_and_who (w := w) (base := base) Z D_is_month D_is_word ⟨⟨_, fun_ofD (st := st__check_when_and_who) F11⟩⟩ t11
  obtain ⟨fd12, F12⟩ := A.def_ 12 (d := ⟨("_put", none), "_put", "_put", defArgs st__put, defBody st__put, defScope st__put, [], []⟩) rfl
  have t12 := He.glo_ok X G (A.fact 36 (f := .glo "_put") rfl)
  have D__put := ok__put (w := w) (base := base) Z  ⟨⟨_, fun_ofD (st := st__put) F12⟩⟩ t12
  obtain ⟨fd13, F13⟩ := A.def_ 13 (d := ⟨("_cleared", none), "_cleared", "_cleared", defArgs st__cleared, defBody st__cleared, defScope st__cleared, [], []⟩) rfl
  have t13 := He.glo_ok X G (A.fact 37 (f := .glo "_cleared") rfl)
  have D__cleared := ok__cleared (w := w) (base := base) Z  ⟨⟨_, fun_ofD (st := st__cleared) F13⟩⟩ t13
  obtain ⟨fd14, F14⟩ := A.def_ 14 (d := ⟨("_laid", none), "_laid", "_laid", defArgs st__laid, defBody st__laid, defScope st__laid, [], []⟩) rfl
  have t14 := He.glo_ok X G (A.fact 38 (f := .glo "_laid") rfl)
  have D__laid := ok__laid (w := w) (base := base) Z  ⟨⟨_, fun_ofD (st := st__laid) F14⟩⟩ t14
  obtain ⟨fd15, F15⟩ := A.def_ 15 (d := ⟨("_row_text", none), "_row_text", "_row_text", defArgs st__row_text, defBody st__row_text, defScope st__row_text, [], []⟩) rfl
  have t15 := He.glo_ok X G (A.fact 39 (f := .glo "_row_text") rfl)
  have D__row_text := ok__row_text (w := w) (base := base) Z  ⟨⟨_, fun_ofD (st := st__row_text) F15⟩⟩ t15
  obtain ⟨fd16, F16⟩ := A.def_ 16 (d := ⟨("Cellar", some "__init__"), "__init__", "Cellar.__init__", defArgs st_Cellar, defBody st_Cellar, defScope st_Cellar, [.int 6], []⟩) rfl
  have t16 := He.meth_ok (A.fact 40 (f := .meth "Cellar" "__init__") rfl)
  have MB_Cellar := ok_Cellar (w := w) (base := base) Z D__are_rooms D_is_within mk_Cellar ⟨_, F16⟩
  obtain ⟨fd17, F17⟩ := A.def_ 17 (d := ⟨("Cellar", some "__str__"), "__str__", "Cellar.__str__", defArgs st_Cellar___str__, defBody st_Cellar___str__, defScope st_Cellar___str__, [], []⟩) rfl
  have t17 := He.meth_ok (A.fact 41 (f := .meth "Cellar" "__str__") rfl)
  have O_Cellar___str__ := ok_Cellar___str__ (w := w) (mg := mg) (base := base) Z D__row_text ⟨⟨_, fun_ofD (st := st_Cellar___str__) F17⟩⟩ t17
  obtain ⟨fd18, F18⟩ := A.def_ 18 (d := ⟨("Cellar", some "lying"), "lying", "Cellar.lying", defArgs st_Cellar_lying, defBody st_Cellar_lying, defScope st_Cellar_lying, [], []⟩) rfl
  have t18 := He.meth_ok (A.fact 42 (f := .meth "Cellar" "lying") rfl)
  have N_Cellar_lying := ok_Cellar_lying (w := w) (mg := mg) (base := base) Z  ⟨⟨_, F18⟩⟩ t18
  obtain ⟨fd19, F19⟩ := A.def_ 19 (d := ⟨("Cellar", some "__len__"), "__len__", "Cellar.__len__", defArgs st_Cellar___len__, defBody st_Cellar___len__, defScope st_Cellar___len__, [], []⟩) rfl
  have t19 := He.meth_ok (A.fact 43 (f := .meth "Cellar" "__len__") rfl)
  have O_Cellar___len__ := ok_Cellar___len__ (w := w) (mg := mg) (base := base) Z N_Cellar_lying ⟨⟨_, fun_ofD (st := st_Cellar___len__) F19⟩⟩ t19
  obtain ⟨fd20, F20⟩ := A.def_ 20 (d := ⟨("Cellar", some "_now"), "_now", "Cellar._now", defArgs st_Cellar__now, defBody st_Cellar__now, defScope st_Cellar__now, [], []⟩) rfl
  have t20 := He.meth_ok (A.fact 44 (f := .meth "Cellar" "_now") rfl)
  have N_Cellar__now := ok_Cellar__now (w := w) (mg := mg) (base := base) Z  ⟨⟨_, F20⟩⟩ t20
  obtain ⟨fd21, F21⟩ := A.def_ 21 (d := ⟨("Cellar", some "_keep"), "_keep", "Cellar._keep", defArgs st_Cellar__keep, defBody st_Cellar__keep, defScope st_Cellar__keep, [], []⟩) rfl
  have t21 := He.meth_ok (A.fact 45 (f := .meth "Cellar" "_keep") rfl)
  have N_Cellar__keep := ok_Cellar__keep (w := w) (mg := mg) (base := base) Z N_Cellar__now ⟨⟨_, F21⟩⟩ t21
  obtain ⟨fd22, F22⟩ := A.def_ 22 (d := ⟨("Cellar", some "_like"), "_like", "Cellar._like", defArgs st_Cellar__like, defBody st_Cellar__like, defScope st_Cellar__like, [], []⟩) rfl
  have t22 := He.meth_ok (A.fact 46 (f := .meth "Cellar" "_like") rfl)
  have N_Cellar__like := ok_Cellar__like (w := w) (mg := mg) (base := base) Z O_Bottle___eq__ N_Cellar_lying ⟨⟨_, F22⟩⟩ t22
  obtain ⟨fd23, F23⟩ := A.def_ 23 (d := ⟨("Cellar", some "_check_place"), "_check_place", "Cellar._check_place", defArgs st_Cellar__check_place, defBody st_Cellar__check_place, defScope st_Cellar__check_place, [], []⟩) rfl
  have t23 := He.meth_ok (A.fact 47 (f := .meth "Cellar" "_check_place") rfl)
  have N_Cellar__check_place := ok_Cellar__check_place (w := w) (mg := mg) (base := base) Z D_is_within ⟨⟨_, F23⟩⟩ t23
  obtain ⟨fd24, F24⟩ := A.def_ 24 (d := ⟨("Cellar", some "_check_number"), "_check_number", "Cellar._check_number", defArgs st_Cellar__check_number, defBody st_Cellar__check_number, defScope st_Cellar__check_number, [], []⟩) rfl
  have t24 := He.meth_ok (A.fact 48 (f := .meth "Cellar" "_check_number") rfl)
  have N_Cellar__check_number := ok_Cellar__check_number (w := w) (mg := mg) (base := base) Z D_is_within ⟨⟨_, F24⟩⟩ t24
  obtain ⟨fd25, F25⟩ := A.def_ 25 (d := ⟨("Cellar", some "_check_lies"), "_check_lies", "Cellar._check_lies", defArgs st_Cellar__check_lies, defBody st_Cellar__check_lies, defScope st_Cellar__check_lies, [], []⟩) rfl
  have t25 := He.meth_ok (A.fact 49 (f := .meth "Cellar" "_check_lies") rfl)
  have N_Cellar__check_lies := ok_Cellar__check_lies (w := w) (mg := mg) (base := base) Z N_Cellar__check_number M_Gone ⟨⟨_, F25⟩⟩ t25
  obtain ⟨fd26, F26⟩ := A.def_ 26 (d := ⟨("Cellar", some "_others_of"), "_others_of", "Cellar._others_of", defArgs st_Cellar__others_of, defBody st_Cellar__others_of, defScope st_Cellar__others_of, [], []⟩) rfl
  have t26 := He.meth_ok (A.fact 50 (f := .meth "Cellar" "_others_of") rfl)
  have N_Cellar__others_of := ok_Cellar__others_of (w := w) (mg := mg) (base := base) Z  ⟨⟨_, F26⟩⟩ t26
  obtain ⟨fd27, F27⟩ := A.def_ 27 (d := ⟨("Cellar", some "_check_free"), "_check_free", "Cellar._check_free", defArgs st_Cellar__check_free, defBody st_Cellar__check_free, defScope st_Cellar__check_free, [], []⟩) rfl
  have t27 := He.meth_ok (A.fact 51 (f := .meth "Cellar" "_check_free") rfl)
  have N_Cellar__check_free := ok_Cellar__check_free (w := w) (mg := mg) (base := base) Z N_Cellar__others_of M_Kept ⟨⟨_, F27⟩⟩ t27
  obtain ⟨fd28, F28⟩ := A.def_ 28 (d := ⟨("Cellar", some "_bound_with"), "_bound_with", "Cellar._bound_with", defArgs st_Cellar__bound_with, defBody st_Cellar__bound_with, defScope st_Cellar__bound_with, [], []⟩) rfl
  have t28 := He.meth_ok (A.fact 52 (f := .meth "Cellar" "_bound_with") rfl)
  have N_Cellar__bound_with := ok_Cellar__bound_with (w := w) (mg := mg) (base := base) Z N_Cellar__check_lies ⟨⟨_, F28⟩⟩ t28
  obtain ⟨fd29, F29⟩ := A.def_ 29 (d := ⟨("Cellar", some "_leave"), "_leave", "Cellar._leave", defArgs st_Cellar__leave, defBody st_Cellar__leave, defScope st_Cellar__leave, [], []⟩) rfl
  have t29 := He.meth_ok (A.fact 53 (f := .meth "Cellar" "_leave") rfl)
  have N_Cellar__leave := ok_Cellar__leave (w := w) (mg := mg) (base := base) Z D__cleared D__put ⟨⟨_, F29⟩⟩ t29
  obtain ⟨fd30, F30⟩ := A.def_ 30 (d := ⟨("Cellar", some "_leave_alone"), "_leave_alone", "Cellar._leave_alone", defArgs st_Cellar__leave_alone, defBody st_Cellar__leave_alone, defScope st_Cellar__leave_alone, [], []⟩) rfl
  have t30 := He.meth_ok (A.fact 54 (f := .meth "Cellar" "_leave_alone") rfl)
  have N_Cellar__leave_alone := ok_Cellar__leave_alone (w := w) (mg := mg) (base := base) Z D__check_when_and_who N_Cellar__check_free N_Cellar__check_lies N_Cellar__keep N_Cellar__leave ⟨⟨_, F30⟩⟩ t30
  obtain ⟨fd31, F31⟩ := A.def_ 31 (d := ⟨("Cellar", some "lay"), "lay", "Cellar.lay", defArgs st_Cellar_lay, defBody st_Cellar_lay, defScope st_Cellar_lay, [.int 0, .int 0], []⟩) rfl
  have t31 := He.meth_ok (A.fact 55 (f := .meth "Cellar" "lay") rfl)
  have N_Cellar_lay := ok_Cellar_lay (w := w) (mg := mg) (base := base) Z D__laid N_Cellar__check_place N_Cellar__keep M_Full M_TooMany ⟨⟨_, F31⟩⟩ t31
  obtain ⟨fd32, F32⟩ := A.def_ 32 (d := ⟨("Cellar", some "move"), "move", "Cellar.move", defArgs st_Cellar_move, defBody st_Cellar_move, defScope st_Cellar_move, [.int 0, .int 0], []⟩) rfl
  have t32 := He.meth_ok (A.fact 56 (f := .meth "Cellar" "move") rfl)
  have N_Cellar_move := ok_Cellar_move (w := w) (mg := mg) (base := base) Z D__cleared D__laid N_Cellar__check_lies N_Cellar__check_place N_Cellar__keep M_Full ⟨⟨_, F32⟩⟩ t32
  obtain ⟨fd33, F33⟩ := A.def_ 33 (d := ⟨("Cellar", some "drink"), "drink", "Cellar.drink", defArgs st_Cellar_drink, defBody st_Cellar_drink, defScope st_Cellar_drink, [.str ""], []⟩) rfl
  have t33 := He.meth_ok (A.fact 57 (f := .meth "Cellar" "drink") rfl)
  have N_Cellar_drink := ok_Cellar_drink (w := w) (mg := mg) (base := base) Z N_Cellar__leave_alone ⟨⟨_, F33⟩⟩ t33
  obtain ⟨fd34, F34⟩ := A.def_ 34 (d := ⟨("Cellar", some "give"), "give", "Cellar.give", defArgs st_Cellar_give, defBody st_Cellar_give, defScope st_Cellar_give, [.str ""], []⟩) rfl
  have t34 := He.meth_ok (A.fact 58 (f := .meth "Cellar" "give") rfl)
  have N_Cellar_give := ok_Cellar_give (w := w) (mg := mg) (base := base) Z N_Cellar__leave_alone ⟨⟨_, F34⟩⟩ t34
  obtain ⟨fd35, F35⟩ := A.def_ 35 (d := ⟨("Cellar", some "smash"), "smash", "Cellar.smash", defArgs st_Cellar_smash, defBody st_Cellar_smash, defScope st_Cellar_smash, [], []⟩) rfl
  have t35 := He.meth_ok (A.fact 59 (f := .meth "Cellar" "smash") rfl)
  have N_Cellar_smash := ok_Cellar_smash (w := w) (mg := mg) (base := base) Z D__put D_is_month N_Cellar__check_lies N_Cellar__keep N_Cellar__leave N_Cellar__others_of ⟨⟨_, F35⟩⟩ t35
  obtain ⟨fd36, F36⟩ := A.def_ 36 (d := ⟨("Cellar", some "bind"), "bind", "Cellar.bind", defArgs st_Cellar_bind, defBody st_Cellar_bind, defScope st_Cellar_bind, [], []⟩) rfl
  have t36 := He.meth_ok (A.fact 60 (f := .meth "Cellar" "bind") rfl)
  have N_Cellar_bind := ok_Cellar_bind (w := w) (mg := mg) (base := base) Z D__put D_is_rising N_Cellar__check_free N_Cellar__check_lies N_Cellar__keep ⟨⟨_, F36⟩⟩ t36
  obtain ⟨fd37, F37⟩ := A.def_ 37 (d := ⟨("Cellar", some "drink_set"), "drink_set", "Cellar.drink_set", defArgs st_Cellar_drink_set, defBody st_Cellar_drink_set, defScope st_Cellar_drink_set, [.str ""], []⟩) rfl
  have t37 := He.meth_ok (A.fact 61 (f := .meth "Cellar" "drink_set") rfl)
  have N_Cellar_drink_set := ok_Cellar_drink_set (w := w) (mg := mg) (base := base) Z D__check_when_and_who N_Cellar__bound_with N_Cellar__keep N_Cellar__leave ⟨⟨_, F37⟩⟩ t37
  obtain ⟨fd38, F38⟩ := A.def_ 38 (d := ⟨("Cellar", some "loosen"), "loosen", "Cellar.loosen", defArgs st_Cellar_loosen, defBody st_Cellar_loosen, defScope st_Cellar_loosen, [], []⟩) rfl
  have t38 := He.meth_ok (A.fact 62 (f := .meth "Cellar" "loosen") rfl)
  have N_Cellar_loosen := ok_Cellar_loosen (w := w) (mg := mg) (base := base) Z D__put N_Cellar__bound_with N_Cellar__keep ⟨⟨_, F38⟩⟩ t38
  obtain ⟨fd39, F39⟩ := A.def_ 39 (d := ⟨("Cellar", some "undo"), "undo", "Cellar.undo", defArgs st_Cellar_undo, defBody st_Cellar_undo, defScope st_Cellar_undo, [], []⟩) rfl
  have t39 := He.meth_ok (A.fact 63 (f := .meth "Cellar" "undo") rfl)
  have N_Cellar_undo := ok_Cellar_undo (w := w) (mg := mg) (base := base) Z  ⟨⟨_, F39⟩⟩ t39
  obtain ⟨fd40, F40⟩ := A.def_ 40 (d := ⟨("Cellar", some "bottle"), "bottle", "Cellar.bottle", defArgs st_Cellar_bottle, defBody st_Cellar_bottle, defScope st_Cellar_bottle, [], []⟩) rfl
  have t40 := He.meth_ok (A.fact 64 (f := .meth "Cellar" "bottle") rfl)
  have N_Cellar_bottle := ok_Cellar_bottle (w := w) (mg := mg) (base := base) Z N_Cellar__check_number ⟨⟨_, F40⟩⟩ t40
  obtain ⟨fd41, F41⟩ := A.def_ 41 (d := ⟨("Cellar", some "place"), "place", "Cellar.place", defArgs st_Cellar_place, defBody st_Cellar_place, defScope st_Cellar_place, [], []⟩) rfl
  have t41 := He.meth_ok (A.fact 65 (f := .meth "Cellar" "place") rfl)
  have N_Cellar_place := ok_Cellar_place (w := w) (mg := mg) (base := base) Z N_Cellar__check_number ⟨⟨_, F41⟩⟩ t41
  obtain ⟨fd42, F42⟩ := A.def_ 42 (d := ⟨("Cellar", some "became"), "became", "Cellar.became", defArgs st_Cellar_became, defBody st_Cellar_became, defScope st_Cellar_became, [], []⟩) rfl
  have t42 := He.meth_ok (A.fact 66 (f := .meth "Cellar" "became") rfl)
  have N_Cellar_became := ok_Cellar_became (w := w) (mg := mg) (base := base) Z N_Cellar__check_number ⟨⟨_, F42⟩⟩ t42
  obtain ⟨fd43, F43⟩ := A.def_ 43 (d := ⟨("Cellar", some "row"), "row", "Cellar.row", defArgs st_Cellar_row, defBody st_Cellar_row, defScope st_Cellar_row, [.int 0, .int 0], []⟩) rfl
  have t43 := He.meth_ok (A.fact 67 (f := .meth "Cellar" "row") rfl)
  have N_Cellar_row := ok_Cellar_row (w := w) (mg := mg) (base := base) Z N_Cellar__check_place ⟨⟨_, F43⟩⟩ t43
  obtain ⟨fd44, F44⟩ := A.def_ 44 (d := ⟨("Cellar", some "counts"), "counts", "Cellar.counts", defArgs st_Cellar_counts, defBody st_Cellar_counts, defScope st_Cellar_counts, [], []⟩) rfl
  have t44 := He.meth_ok (A.fact 68 (f := .meth "Cellar" "counts") rfl)
  have N_Cellar_counts := ok_Cellar_counts (w := w) (mg := mg) (base := base) Z  ⟨⟨_, F44⟩⟩ t44
  obtain ⟨fd45, F45⟩ := A.def_ 45 (d := ⟨("Cellar", some "twins"), "twins", "Cellar.twins", defArgs st_Cellar_twins, defBody st_Cellar_twins, defScope st_Cellar_twins, [], []⟩) rfl
  have t45 := He.meth_ok (A.fact 69 (f := .meth "Cellar" "twins") rfl)
  have N_Cellar_twins := ok_Cellar_twins (w := w) (mg := mg) (base := base) Z N_Cellar__check_lies N_Cellar__like ⟨⟨_, F45⟩⟩ t45
  obtain ⟨fd46, F46⟩ := A.def_ 46 (d := ⟨("Cellar", some "set_of"), "set_of", "Cellar.set_of", defArgs st_Cellar_set_of, defBody st_Cellar_set_of, defScope st_Cellar_set_of, [], []⟩) rfl
  have t46 := He.meth_ok (A.fact 70 (f := .meth "Cellar" "set_of") rfl)
  have N_Cellar_set_of := ok_Cellar_set_of (w := w) (mg := mg) (base := base) Z N_Cellar__check_lies ⟨⟨_, F46⟩⟩ t46
  obtain ⟨fd47, F47⟩ := A.def_ 47 (d := ⟨("_law_cell_at", none), "_law_cell_at", "_law_cell_at", defArgs st__law_cell_at, defBody st__law_cell_at, defScope st__law_cell_at, [], []⟩) rfl
  have t47 := He.glo_ok X G (A.fact 71 (f := .glo "_law_cell_at") rfl)
  have D__law_cell_at := ok__law_cell_at (w := w) (base := base) Z  ⟨⟨_, fun_ofD (st := st__law_cell_at) F47⟩⟩ t47
  obtain ⟨fd48, F48⟩ := A.def_ 48 (d := ⟨("_law_pot", none), "_law_pot", "_law_pot", defArgs st__law_pot, defBody st__law_pot, defScope st__law_pot, [], []⟩) rfl
  have t48 := He.glo_ok X G (A.fact 72 (f := .glo "_law_pot") rfl)
  have D__law_pot := ok__law_pot (w := w) (base := base) Z  ⟨⟨_, fun_ofD (st := st__law_pot) F48⟩⟩ t48
  obtain ⟨fd49, F49⟩ := A.def_ 49 (d := ⟨("_law_take", none), "_law_take", "_law_take", defArgs st__law_take, defBody st__law_take, defScope st__law_take, [], []⟩) rfl
  have t49 := He.glo_ok X G (A.fact 73 (f := .glo "_law_take") rfl)
  have D__law_take := ok__law_take (w := w) (base := base) Z  ⟨⟨_, fun_ofD (st := st__law_take) F49⟩⟩ t49
  obtain ⟨fd50, F50⟩ := A.def_ 50 (d := ⟨("_law_whole", none), "_law_whole", "_law_whole", defArgs st__law_whole, defBody st__law_whole, defScope st__law_whole, [], []⟩) rfl
  have t50 := He.glo_ok X G (A.fact 74 (f := .glo "_law_whole") rfl)
  have D__law_whole := ok__law_whole (w := w) (base := base) Z  ⟨⟨_, fun_ofD (st := st__law_whole) F50⟩⟩ t50
  obtain ⟨fd51, F51⟩ := A.def_ 51 (d := ⟨("_law_within", none), "_law_within", "_law_within", defArgs st__law_within, defBody st__law_within, defScope st__law_within, [], []⟩) rfl
  have t51 := He.glo_ok X G (A.fact 75 (f := .glo "_law_within") rfl)
  have D__law_within := ok__law_within (w := w) (base := base) Z D__law_whole ⟨⟨_, fun_ofD (st := st__law_within) F51⟩⟩ t51
  obtain ⟨fd52, F52⟩ := A.def_ 52 (d := ⟨("_law_mixed", none), "_law_mixed", "_law_mixed", defArgs st__law_mixed, defBody st__law_mixed, defScope st__law_mixed, [], []⟩) rfl
  have t52 := He.glo_ok X G (A.fact 76 (f := .glo "_law_mixed") rfl)
  have D__law_mixed := ok__law_mixed (w := w) (base := base) Z D__law_take ⟨⟨_, fun_ofD (st := st__law_mixed) F52⟩⟩ t52
  obtain ⟨fd53, F53⟩ := A.def_ 53 (d := ⟨("_law_kinds", none), "_law_kinds", "_law_kinds", defArgs st__law_kinds, defBody st__law_kinds, defScope st__law_kinds, [], []⟩) rfl
  have t53 := He.glo_ok X G (A.fact 77 (f := .glo "_law_kinds") rfl)
  have D__law_kinds := ok__law_kinds (w := w) (base := base) Z D__law_mixed D__law_take ⟨⟨_, fun_ofD (st := st__law_kinds) F53⟩⟩ t53
  obtain ⟨fd54, F54⟩ := A.def_ 54 (d := ⟨("_law_rooms", none), "_law_rooms", "_law_rooms", defArgs st__law_rooms, defBody st__law_rooms, defScope st__law_rooms, [], []⟩) rfl
  have t54 := He.glo_ok X G (A.fact 78 (f := .glo "_law_rooms") rfl)
  have D__law_rooms := ok__law_rooms (w := w) (base := base) Z D__law_take ⟨⟨_, fun_ofD (st := st__law_rooms) F54⟩⟩ t54
  obtain ⟨fd55, F55⟩ := A.def_ 55 (d := ⟨("_law_begun", none), "_law_begun", "_law_begun", defArgs st__law_begun, defBody st__law_begun, defScope st__law_begun, [], []⟩) rfl
  have t55 := He.glo_ok X G (A.fact 79 (f := .glo "_law_begun") rfl)
  have D__law_begun := ok__law_begun (w := w) (base := base) Z rfl ⟨⟨_, fun_ofD (st := st__law_begun) F55⟩⟩ t55
  obtain ⟨fd56, F56⟩ := A.def_ 56 (d := ⟨("_law_more", none), "_law_more", "_law_more", defArgs st__law_more, defBody st__law_more, defScope st__law_more, [], []⟩) rfl
  have t56 := He.glo_ok X G (A.fact 80 (f := .glo "_law_more") rfl)
  have D__law_more := ok__law_more (w := w) (base := base) Z  ⟨⟨_, fun_ofD (st := st__law_more) F56⟩⟩ t56
  obtain ⟨fd57, F57⟩ := A.def_ 57 (d := ⟨("_law_is_who", none), "_law_is_who", "_law_is_who", defArgs st__law_is_who, defBody st__law_is_who, defScope st__law_is_who, [], []⟩) rfl
  have t57 := He.glo_ok X G (A.fact 81 (f := .glo "_law_is_who") rfl)
  have D__law_is_who := ok__law_is_who (w := w) (base := base) Z  ⟨⟨_, fun_ofD (st := st__law_is_who) F57⟩⟩ t57
  obtain ⟨fd58, F58⟩ := A.def_ 58 (d := ⟨("_law_there", none), "_law_there", "_law_there", defArgs st__law_there, defBody st__law_there, defScope st__law_there, [], []⟩) rfl
  have t58 := He.glo_ok X G (A.fact 82 (f := .glo "_law_there") rfl)
  have D__law_there := ok__law_there (w := w) (base := base) Z D__law_within ⟨⟨_, fun_ofD (st := st__law_there) F58⟩⟩ t58
  obtain ⟨fd59, F59⟩ := A.def_ 59 (d := ⟨("_law_place", none), "_law_place", "_law_place", defArgs st__law_place, defBody st__law_place, defScope st__law_place, [], []⟩) rfl
  have t59 := He.glo_ok X G (A.fact 83 (f := .glo "_law_place") rfl)
  have D__law_place := ok__law_place (w := w) (base := base) Z D__law_whole rfl ⟨⟨_, fun_ofD (st := st__law_place) F59⟩⟩ t59
  obtain ⟨fd60, F60⟩ := A.def_ 60 (d := ⟨("_law_when", none), "_law_when", "_law_when", defArgs st__law_when, defBody st__law_when, defScope st__law_when, [], []⟩) rfl
  have t60 := He.glo_ok X G (A.fact 84 (f := .glo "_law_when") rfl)
  have D__law_when := ok__law_when (w := w) (base := base) Z D__law_is_who D__law_within ⟨⟨_, fun_ofD (st := st__law_when) F60⟩⟩ t60
  obtain ⟨fd61, F61⟩ := A.def_ 61 (d := ⟨("_law_set", none), "_law_set", "_law_set", defArgs st__law_set, defBody st__law_set, defScope st__law_set, [], []⟩) rfl
  have t61 := He.glo_ok X G (A.fact 85 (f := .glo "_law_set") rfl)
  have D__law_set := ok__law_set (w := w) (base := base) Z  ⟨⟨_, fun_ofD (st := st__law_set) F61⟩⟩ t61
  obtain ⟨fd62, F62⟩ := A.def_ 62 (d := ⟨("_law_kept", none), "_law_kept", "_law_kept", defArgs st__law_kept, defBody st__law_kept, defScope st__law_kept, [], []⟩) rfl
  have t62 := He.glo_ok X G (A.fact 86 (f := .glo "_law_kept") rfl)
  have D__law_kept := ok__law_kept (w := w) (base := base) Z D__law_set ⟨⟨_, fun_ofD (st := st__law_kept) F62⟩⟩ t62
  obtain ⟨fd63, F63⟩ := A.def_ 63 (d := ⟨("_law_rows_less", none), "_law_rows_less", "_law_rows_less", defArgs st__law_rows_less, defBody st__law_rows_less, defScope st__law_rows_less, [], []⟩) rfl
  have t63 := He.glo_ok X G (A.fact 87 (f := .glo "_law_rows_less") rfl)
  have D__law_rows_less := ok__law_rows_less (w := w) (base := base) Z rfl ⟨⟨_, fun_ofD (st := st__law_rows_less) F63⟩⟩ t63
  obtain ⟨fd64, F64⟩ := A.def_ 64 (d := ⟨("_law_gone", none), "_law_gone", "_law_gone", defArgs st__law_gone, defBody st__law_gone, defScope st__law_gone, [], []⟩) rfl
  have t64 := He.glo_ok X G (A.fact 88 (f := .glo "_law_gone") rfl)
  have D__law_gone := ok__law_gone (w := w) (base := base) Z D__law_more D__law_rows_less rfl ⟨⟨_, fun_ofD (st := st__law_gone) F64⟩⟩ t64
  obtain ⟨fd65, F65⟩ := A.def_ 65 (d := ⟨("_law_laid", none), "_law_laid", "_law_laid", defArgs st__law_laid, defBody st__law_laid, defScope st__law_laid, [], []⟩) rfl
  have t65 := He.glo_ok X G (A.fact 89 (f := .glo "_law_laid") rfl)
  have D__law_laid := ok__law_laid (w := w) (base := base) Z D__law_more D__law_place rfl ⟨⟨_, fun_ofD (st := st__law_laid) F65⟩⟩ t65
  obtain ⟨fd66, F66⟩ := A.def_ 66 (d := ⟨("_law_moved", none), "_law_moved", "_law_moved", defArgs st__law_moved, defBody st__law_moved, defScope st__law_moved, [], []⟩) rfl
  have t66 := He.glo_ok X G (A.fact 90 (f := .glo "_law_moved") rfl)
  have D__law_moved := ok__law_moved (w := w) (base := base) Z D__law_more D__law_place D__law_rows_less D__law_there rfl ⟨⟨_, fun_ofD (st := st__law_moved) F66⟩⟩ t66
  obtain ⟨fd67, F67⟩ := A.def_ 67 (d := ⟨("_law_bound", none), "_law_bound", "_law_bound", defArgs st__law_bound, defBody st__law_bound, defScope st__law_bound, [], []⟩) rfl
  have t67 := He.glo_ok X G (A.fact 91 (f := .glo "_law_bound") rfl)
  have D__law_bound := ok__law_bound (w := w) (base := base) Z D__law_kept D__law_more D__law_there D__law_whole ⟨⟨_, fun_ofD (st := st__law_bound) F67⟩⟩ t67
  obtain ⟨fd68, F68⟩ := A.def_ 68 (d := ⟨("_law_done", none), "_law_done", "_law_done", defArgs st__law_done, defBody st__law_done, defScope st__law_done, [], []⟩) rfl
  have t68 := He.glo_ok X G (A.fact 92 (f := .glo "_law_done") rfl)
  have D__law_done := ok__law_done (w := w) (base := base) Z D__law_gone D__law_kept D__law_more D__law_set D__law_there D__law_when ⟨⟨_, fun_ofD (st := st__law_done) F68⟩⟩ t68
  obtain ⟨fd69, F69⟩ := A.def_ 69 (d := ⟨("_law_behind", none), "_law_behind", "_law_behind", defArgs st__law_behind, defBody st__law_behind, defScope st__law_behind, [], []⟩) rfl
  have t69 := He.glo_ok X G (A.fact 93 (f := .glo "_law_behind") rfl)
  have D__law_behind := ok__law_behind (w := w) (base := base) Z D__law_bound D__law_done D__law_laid D__law_moved ⟨⟨_, fun_ofD (st := st__law_behind) F69⟩⟩ t69
  obtain ⟨fd70, F70⟩ := A.def_ 70 (d := ⟨("_law_word", none), "_law_word", "_law_word", defArgs st__law_word, defBody st__law_word, defScope st__law_word, [], []⟩) rfl
  have t70 := He.glo_ok X G (A.fact 94 (f := .glo "_law_word") rfl)
  have H__law_word := ok__law_word (w := w) (base := base) Z  ⟨⟨_, fun_ofD (st := st__law_word) F70⟩⟩ t70
  obtain ⟨fd71, F71⟩ := A.def_ 71 (d := ⟨("_law_call", none), "_law_call", "_law_call", defArgs st__law_call, defBody st__law_call, defScope st__law_call, [], []⟩) rfl
  have t71 := He.glo_ok X G (A.fact 95 (f := .glo "_law_call") rfl)
  have D__law_call := ok__law_call (w := w) (base := base) Z N_Cellar_bind N_Cellar_drink N_Cellar_drink_set N_Cellar_give N_Cellar_loosen N_Cellar_move N_Cellar_smash N_Cellar_undo ⟨⟨_, fun_ofD (st := st__law_call) F71⟩⟩ t71
  obtain ⟨fd72, F72⟩ := A.def_ 72 (d := ⟨("_law_met", none), "_law_met", "_law_met", defArgs st__law_met, defBody st__law_met, defScope st__law_met, [], []⟩) rfl
  have t72 := He.glo_ok X G (A.fact 96 (f := .glo "_law_met") rfl)
  have D__law_met := ok__law_met (w := w) (base := base) Z D__law_call H__law_word N_Cellar_lay MB_Bottle ⟨⟨_, fun_ofD (st := st__law_met) F72⟩⟩ t72
  obtain ⟨fd73, F73⟩ := A.def_ 73 (d := ⟨("_law_deed", none), "_law_deed", "_law_deed", defArgs st__law_deed, defBody st__law_deed, defScope st__law_deed, [], []⟩) rfl
  have t73 := He.glo_ok X G (A.fact 97 (f := .glo "_law_deed") rfl)
  have D__law_deed := ok__law_deed (w := w) (base := base) Z D__law_mixed D__law_take ⟨⟨_, fun_ofD (st := st__law_deed) F73⟩⟩ t73
  obtain ⟨fd74, F74⟩ := A.def_ 74 (d := ⟨("_law_step", none), "_law_step", "_law_step", defArgs st__law_step, defBody st__law_step, defScope st__law_step, [], []⟩) rfl
  have t74 := He.glo_ok X G (A.fact 98 (f := .glo "_law_step") rfl)
  have D__law_step := ok__law_step (w := w) (base := base) Z D__law_behind D__law_met ⟨⟨_, fun_ofD (st := st__law_step) F74⟩⟩ t74
  obtain ⟨fd75, F75⟩ := A.def_ 75 (d := ⟨("_law_here", none), "_law_here", "_law_here", defArgs st__law_here, defBody st__law_here, defScope st__law_here, [], []⟩) rfl
  have t75 := He.glo_ok X G (A.fact 99 (f := .glo "_law_here") rfl)
  have D__law_here := ok__law_here (w := w) (base := base) Z  ⟨⟨_, fun_ofD (st := st__law_here) F75⟩⟩ t75
  obtain ⟨fd76, F76⟩ := A.def_ 76 (d := ⟨("_law_text", none), "_law_text", "_law_text", defArgs st__law_text, defBody st__law_text, defScope st__law_text, [], []⟩) rfl
  have t76 := He.glo_ok X G (A.fact 100 (f := .glo "_law_text") rfl)
  have D__law_text := ok__law_text (w := w) (base := base) Z rfl ⟨⟨_, fun_ofD (st := st__law_text) F76⟩⟩ t76
  obtain ⟨fd77, F77⟩ := A.def_ 77 (d := ⟨("_law_shown", none), "_law_shown", "_law_shown", defArgs st__law_shown, defBody st__law_shown, defScope st__law_shown, [], []⟩) rfl
  have t77 := He.glo_ok X G (A.fact 101 (f := .glo "_law_shown") rfl)
  have D__law_shown := ok__law_shown (w := w) (base := base) Z D__law_here D__law_set D__law_text rfl ⟨⟨_, fun_ofD (st := st__law_shown) F77⟩⟩ t77
  obtain ⟨fd78, F78⟩ := A.def_ 78 (d := ⟨("_law_says", none), "_law_says", "_law_says", defArgs st__law_says, defBody st__law_says, defScope st__law_says, [], []⟩) rfl
  have t78 := He.glo_ok X G (A.fact 102 (f := .glo "_law_says") rfl)
  have D__law_says := ok__law_says (w := w) (base := base) Z D__law_here O_Cellar___len__ O_Cellar___str__ N_Cellar_became N_Cellar_bottle N_Cellar_counts N_Cellar_place N_Cellar_row N_Cellar_set_of N_Cellar_twins rfl ⟨⟨_, fun_ofD (st := st__law_says) F78⟩⟩ t78
  exact ok_law_fd (w := w) (base := base) Z D__law_begun D__law_cell_at D__law_deed D__law_kinds D__law_pot D__law_rooms D__law_says D__law_shown D__law_step D__law_take MB_Cellar FL
end K11
open PySem PySem.W PySem.Calls PyProof.Rows
set_option maxRecDepth 100000 in
set_option maxHeartbeats 0 in
theorem PySem.Challenge.cw_dimcellar_k11_cellars_deed_by_deed_holds : PySem.Challenge.rw_dimcellar_k11_cellars_deed_by_deed.Holds := by
  w_on; o_law
  refine HandSHeadRun.head_any (r := OpenLaw.row PySem.Challenge.rw_dimcellar_k11_cellars_deed_by_deed) (q := view (OpenLaw.row PySem.Challenge.rw_dimcellar_k11_cellars_deed_by_deed).prog [80]) (H := K11.zHook) (ob := K11.zOb) (M := 20000) (loose := K11.zLoose) (d := HandSHeadRun.topDef (OpenLaw.row PySem.Challenge.rw_dimcellar_k11_cellars_deed_by_deed).prog 80) (kwd := []) K11.zOb_eq
    (by kernel_rfl) (fun s => by kernel_rfl) K11.zRun (by kernel_rfl) (by kernel_rfl) (by kernel_rfl) (by rfl) (by first | assumption | decide +kernel) (by decide +kernel) ⟨rfl, rfl, rfl, rfl, rfl, by decide +kernel⟩ ?hw ?hc
  case hw => w_witness2
  case hc =>
    refine Den.walk_denE (l := PySem.Challenge.rw_dimcellar_k11_cellars_deed_by_deed) (n := 63) (k := 14) (x := "_law_script") rfl (by decide) (by kernel_rfl) ⟨⟨rfl, by decide, by decide⟩, rfl⟩ ?F
    intro w mg fa h Y G hmg0
    have its : (HandSHeadRun.topDef (OpenLaw.row PySem.Challenge.rw_dimcellar_k11_cellars_deed_by_deed).prog 80).name = ("law" : PySem.Str) := by kernel_rfl
    rw [its] at hmg0
    exact Y.elim fun part z => K11.all z.1 G hmg0 z.2
